import Derived.Deep.LoopGhost
import Derived.Test.YtbjcfkdnjaiclaaGreatB0
import Derived.Test.YtbjcfkdnjaiclaaGreatB33
import Derived.Test.YtbjcfkdnjaiclaaGreatB34
/- Early: a stream tells a token as soon as so many bytes behind it were pushed as it looks ahead, and not sooner; for every specification and text (up to 65536 bytes, as the statement itself says). -/
set_option linter.unusedVariables false
set_option linter.unusedSimpArgs false
set_option maxHeartbeats 4000000
set_option maxRecDepth 100000
namespace Go.Proofs.YtbjcfkdnjaiclaaGreat
open Go.RowKit Go.Proofs.Tryz Go.World
def After (h:Nat)(es:List Ev):Prop:=∀e∈es,e.kind=1->(h:Int)<e.to
theorem After.app {h k:Nat}{es fs:List Ev}(h1:After h es)(h2:After k fs)(hk:h<=k):After h (es++fs):=by
 intro e he hk1;rcases kU.1 he with he|he
 ·exact h1 e he hk1
 ·have:=h2 e he hk1
  omega
theorem Rs.last_ends (r:Rs)(k:Int)(a:Nat)(hb:r.bAt<=a)(hk:k≠1):∀e∈[r.lastEv k],e.to<=(a:Int)∧(e.kind=1->e.to=(a:Int)):=by
 intro e he;rw[kY.1 he];exact⟨Int.ofNat_le.2 hb,fun h=>absurd h hk⟩
theorem Rs.tok_ends (r:Rs)(t:Tb)(rule a l c:Nat)(hb:r.bAt<=a):∀e∈(r.tok t rule a l c).2,e.to<=(a:Int)∧(e.kind=1->e.to=(a:Int)):=by
 unfold Rs.tok;split
 ·exact r.last_ends 4 a hb (by decide)
 ·split
  ·exact r.last_ends 5 a hb (by decide)
  ·intro e he
   have he':e∈(if t.act rule=1 then[] else[⟨1,rule,r.bAt,a,r.bLine,r.bCol⟩]:List Ev):=he;split at he'
   ·cases he'
   ·rw[kY.1 he']
    exact⟨Int.le_refl _,fun _=>rfl⟩
theorem Rs.step_ends (r:Rs)(t:Tb)(hb:r.bAt<=r.hAt+1):∀e∈(r.step t).2,e.to<=(r.hAt:Int)+1∧(e.kind=1->e.to=(r.hAt:Int)+1):=by
 unfold Rs.step Rs.fin;split
 ·exact(r.took t).tok_ends t _ (r.hAt+1) _ _ hb
 ·split
  ·exact(r.took t).last_ends 3 (r.hAt+1) hb (by decide)
  ·intro e he;cases he
theorem Rs.step_here (r:Rs)(t:Tb):(r.step t).1.hAt=r.hAt+1:=((r.took t).fin_same t).hAt
theorem Rs.take_after {xs:List Nat}{P:Nat}{r:Rs}(h:r.SI xs P)(t:Tb)(hn:r.count<=t.ahead)(c:Nat):(∀e∈(r.take t c).2,e.to+(t.ahead:Int)<=(P:Int)+1)∧After r.hAt (r.take t c).2∧r.hAt<=(r.take t c).1.hAt:=by
 have hp:=h.hp;have hb:=h.bh;unfold Rs.take Rs.due;split
 ·rename_i hd
  have hd':t.ahead<r.count+1:=hd;have hs:=((r.added c).looked t (t.kind c)).step_ends t (gZ hb);have hh:=((r.added c).looked t (t.kind c)).step_here t;refine⟨fun e he=>?_,fun e he hk=>?_,by rw[hh];exact Nat.le_succ _⟩
  ·have:e.to<=(r.hAt:Int)+1:=(hs e he).1
   omega
  ·have:e.to=(r.hAt:Int)+1:=(hs e he).2 hk
   omega
 ·exact⟨fun e he=>by(cases he),fun e he=>by(cases he),lQ⟩
theorem Rs.feed_after {xs:List Nat}(t:Tb)(hs:t.stream=true)(ok:t.Ok)(cs:List Nat):∀{r:Rs} {P:Nat},r.SI xs P->r.Good t P->(∀j,j<cs.length->cs.getD j 0=xs.getD (P+j) 0)->P+cs.length<=xs.length->(∀c∈cs,c<256)->After r.hAt (Rs.feed t cs r).2∧r.hAt<=(Rs.feed t cs r).1.hAt:=by
 induction cs with
 |nil=>intro r P _ _ _ _ _;exact⟨fun e he=>by(cases he),lQ⟩
 |cons c cs ih=>
  intro r P h hG hj hP hb;rw[gY] at hP;rw[Rs.feed];split
  ·rename_i ho
   have hS:r.Sure xs t P:=by unfold Rs.Sure;rw[if_pos hs];exact h
   obtain⟨g1,g2⟩:=Rs.eat_goes t ok hS hG c (hj 0 (Nat.succ_pos _)) (by omega) (hb c gV) ho;have hG2:=(r.eat_inv t P c ok hG (hb c gV) ho).1;have hT:r.Str t P:=by unfold Rs.Good at hG;rw[if_pos hs] at hG;exact hG
   obtain⟨_,a2,a3⟩:=Rs.take_after h t hT.cnt c;have e:r.eat t c=r.take t c:=by unfold Rs.eat;rw[if_pos hs]
   rw[e] at g2 hG2 ⊢;cases h1:(r.take t c).1.opn with
   |true=>
    have hI:=g2 h1;unfold Rs.Sure at hI;rw[if_pos hs] at hI;obtain⟨k1,k2⟩:=ih hI hG2 (fun j hl=>by have:=hj (j+1) (Nat.succ_lt_succ hl);rw[show P+(j+1)=P+1+j by omega] at this;exact this) (by omega) fun x hx=>hb x (List.mem_cons_of_mem _ hx);exact⟨a2.app k1 a3,lY a3 k2⟩
   |false=>
    rw[Rs.feed_shut t cs _ h1,List.append_nil];exact⟨a2,a3⟩
  ·exact⟨fun e he=>by(cases he),lQ⟩
theorem Rs.drain_after (t:Tb)(n:Nat):∀(r:Rs),r.bAt<=r.hAt->After r.hAt (Rs.drain t n r).2:=by
 induction n with
 |zero=>intro r _ e he;cases he
 |succ n ih=>
  intro r hb;rw[Rs.drain];split
  ·intro e he;cases he
  ·have hs:=(r.look t).step_ends t (gZ hb)
   have hh:((r.look t).step t).1.hAt=r.hAt+1:=(r.look t).step_here t;have hb2:((r.look t).step t).1.bAt<=((r.look t).step t).1.hAt:=by
    rw[hh];show(((r.look t).took t).fin t).1.bAt<=_;unfold Rs.fin;split
    ·rcases(((r.look t).took t).tok_opn t (t.ends ((r.look t).took t).state).toNat ((r.look t).took t).hAt ((r.look t).took t).hLine ((r.look t).took t).hCol).2.2.2 with⟨e,_⟩|⟨e,_⟩
     ·rw[e];exact gZ hb
     ·rw[e];exact lQ
    ·split <;> exact gZ hb
   refine After.app (k:=r.hAt+1) (fun e he hk=>?_) (by rw[<-hh];exact ih _ hb2) (Nat.le_succ _);have:e.to=(r.hAt:Int)+1:=(hs e he).2 hk;omega
theorem Rs.shut_after {xs:List Nat}{P:Nat}{r:Rs}(t:Tb)(hs:t.stream=true)(h:r.SI xs P):After r.hAt (r.shut t).2:=by
 unfold Rs.shut;rw[if_pos hs];split
 ·unfold Rs.closed
  refine After.app (k:=r.hAt) (Rs.drain_after t r.count (r.pad t (t.ahead-r.count)) h.bh) ?_ lQ;unfold Rs.ended;split
  ·intro e he;cases he
  ·intro e he hk
   rw[kY.1 he] at hk;have hk':(if _ then(2:Int) else 3)=1:=hk;split at hk' <;> cases hk'
 ·intro e he;cases he
theorem zFv (t:Tb)(ft:t.Fine)(hs:t.stream=true)(p:Nat)(s:ByteArray)(n:Nat)(hn:n<=s.size):
  (n<s.size->∀e∈(Rs.feed t (nats (s.extract n (n+1))) (Rs.feed t (nats (s.extract 0 n)) (Rs.born t p)).1).2,e.to+(t.ahead:Int)<=(n:Int)+1)∧
  ∃rest,t.events p s=(Rs.feed t (nats (s.extract 0 n)) (Rs.born t p)).2++rest∧∀e∈rest,e.kind=1->(n:Int)<e.to+(t.ahead:Int):=by
 have z:∀a b,a<=b->b<=s.size->(nats (s.extract a b)).length=b-a:=fun a b h1 h2=>by rw[yR,ByteArray.size_extract];omega
 have hl:=yR s;have hS:(Rs.born t p).Sure (nats s) t 0:=by
  unfold Rs.Sure;rw[if_pos hs];exact⟨⟨rfl,rfl,lX⟩,rfl,rfl,lQ,rfl,lX,fun j hj=>absurd hj (Nat.not_lt_zero _)⟩
 obtain⟨_,g2⟩:=Rs.feed_goes t ft.ok (nats (s.extract 0 n)) hS (Rs.born_good t p ft) rfl ⟨rfl,rfl,lX⟩ (fun j hj=>by rw[z 0 n lX hn] at hj;exact zCf s 0 n j hn (by omega)) (by rw[z 0 n lX hn];omega) (vT _);have hG:=(Rs.feed_inv t ft.ok (nats (s.extract 0 n)) (Rs.born t p) 0 (Rs.born_good t p ft) (vT _)).1;rw[z 0 n lX hn,show 0+(n-0)=n by omega] at g2 hG;have hE:t.events p s=(Rs.feed t (nats (s.extract 0 n)) (Rs.born t p)).2++((Rs.feed t (nats (s.extract n s.size)) (Rs.feed t (nats (s.extract 0 n)) (Rs.born t p)).1).2++((Rs.feed t (nats (s.extract n s.size)) (Rs.feed t (nats (s.extract 0 n)) (Rs.born t p)).1).1.shut t).2):=by
  unfold Tb.events;rw[zE9 s n hn,Rs.feed_append,gU]
 rw[hE];clear hE;generalize (Rs.feed t (nats (s.extract 0 n)) (Rs.born t p))=F at *;cases ho:F.1.opn with
 |false=>
  rw[Rs.feed_shut t _ _ ho,Rs.feed_shut t _ _ ho];refine⟨fun _ e he=>(by cases he),_,rfl,fun e he=>?_⟩;have e2:F.1.shut t=(F.1,[]):=by unfold Rs.shut;rw[ho];rfl
  rw[e2] at he;cases he
 |true=>
  have hI:=g2 ho;unfold Rs.Sure at hI;rw[if_pos hs] at hI;have hT:F.1.Str t n:=by have h:=hG;unfold Rs.Good at h;rw[if_pos hs] at h;exact h
  have hp:=hI.hp;have hc:=hT.cnt
  constructor
  ·intro hlt
   have hz:=z n (n+1) (Nat.le_succ _) hlt;have:∃c,nats (s.extract n (n+1))=[c]:=by
    generalize nats (s.extract n (n+1))=l at hz
    match l,hz with
    |[c],_=>exact⟨c,rfl⟩
    |[],h=>rw[List.length_nil] at h;omega
    |_::_::_,h=>rw[gY,gY] at h;omega
   obtain⟨c,ec⟩:=this;rw[ec,Rs.feed,if_pos ho,Rs.feed,List.append_nil];have e:F.1.eat t c=F.1.take t c:=by unfold Rs.eat;rw[if_pos hs]
   rw[e];exact(Rs.take_after hI t hc c).1
  ·refine⟨_,rfl,?_⟩
   obtain⟨k1,k2⟩:=Rs.feed_after t hs ft.ok (nats (s.extract n s.size)) hI hG (fun j hj=>by rw[z n s.size hn lQ] at hj;exact zCf s n s.size j lQ (by omega)) (by rw[z n s.size hn lQ];omega) (vT _);obtain⟨_,m2⟩:=Rs.feed_goes (xs:=nats s) t ft.ok (nats (s.extract n s.size)) (g2 ho) hG ho hI.lc (fun j hj=>by rw[z n s.size hn lQ] at hj;exact zCf s n s.size j lQ (by omega)) (by rw[z n s.size hn lQ];omega) (vT _);have key:After F.1.hAt ((Rs.feed t (nats (s.extract n s.size)) F.1).2++((Rs.feed t (nats (s.extract n s.size)) F.1).1.shut t).2):=by
    refine k1.app (k:=(Rs.feed t (nats (s.extract n s.size)) F.1).1.hAt) ?_ k2;cases h1:(Rs.feed t (nats (s.extract n s.size)) F.1).1.opn with
    |true=>
     have hJ:=m2 h1;unfold Rs.Sure at hJ;rw[if_pos hs] at hJ;exact Rs.shut_after t hs hJ
    |false=>
     have e2:(Rs.feed t (nats (s.extract n s.size)) F.1).1.shut t=((Rs.feed t (nats (s.extract n s.size)) F.1).1,[]):=by unfold Rs.shut;rw[h1];rfl
     rw[e2];intro e he;cases he
   intro e he hk;have:=key e he hk;omega
theorem zIk (t:Tb)(ft:t.Fine)(hs:t.stream=true)(p:Nat)(s:ByteArray)(n:Nat)(hn:n<s.size)(F G:List Ev)(hF:F=(Rs.feed t (nats (s.extract 0 n)) (Rs.born t p)).2)(hG:G=(Rs.feed t (nats (s.extract n (n+1))) (Rs.feed t (nats (s.extract 0 n)) (Rs.born t p)).1).2):
  (∀i,i<G.length->F.length+i<(t.events p s).length∧(t.events p s).getD (F.length+i) ⟨0,0,0,0,0,0⟩=G.getD i ⟨0,0,0,0,0,0⟩∧(G.getD i ⟨0,0,0,0,0,0⟩).to+(t.ahead:Int)<=(n:Int)+1)∧
  (F.length+G.length<(t.events p s).length->((t.events p s).getD (F.length+G.length) ⟨0,0,0,0,0,0⟩).kind=1->(n:Int)+1<((t.events p s).getD (F.length+G.length) ⟨0,0,0,0,0,0⟩).to+(t.ahead:Int)):=by
 obtain⟨h1,-⟩:=zFv t ft hs p s n (Nat.le_of_lt hn);obtain⟨-,rest,h2,h3⟩:=zFv t ft hs p s (n+1) hn;have hc:Rs.feed t (nats (s.extract 0 (n+1))) (Rs.born t p)=_:=zDl t p s n 1 hn;rw[hc,<-hF,<-hG] at h2;replace h1:=h1 hn;rw[<-hG] at h1;rw[h2]
 constructor
 ·intro i hi
  have e:(F++G++rest).getD (F.length+i) ⟨0,0,0,0,0,0⟩=G.getD i ⟨0,0,0,0,0,0⟩:=by
   rw[gU,lW,gX (Nat.le_add_right _ _),Nat.add_sub_cancel_left,kW hi,<-lW]
  refine⟨by simp only[kX];omega,e,h1 _ ?_⟩;rw[lW,lV hi,Option.getD_some];exact List.getElem_mem hi
 ·intro hl hk
  have hr:0<rest.length:=by simp only[kX] at hl;omega
  have e:(F++G++rest).getD (F.length+G.length) ⟨0,0,0,0,0,0⟩=rest[0]:=by
   rw[<-kX,lW,gX lQ,Nat.sub_self,lV hr,Option.getD_some]
  rw[e] at hk ⊢;have:=h3 _ (List.getElem_mem hr) hk;omega
theorem Told.to {xs:List Nat}{es:List Ev}:∀{a b:Nat},Told xs a b es->∀e∈es,0<=e.to∧e.to<=(b:Int):=by
 induction es with
 |nil=>intro a b _ e he;cases he
 |cons x es ih=>
  rintro a b ⟨f,g,-,-,h3,-,-,-,-,h⟩ e he;have:=h.le;rcases List.mem_cons.1 he with rfl|he
  ·omega
  ·exact ih h e he
theorem zKQ (t:Tb)(ft:t.Fine)(p:Nat)(s:ByteArray)(i:Nat)(hi:i<(t.events p s).length):0<=((t.events p s).getD i ⟨0,0,0,0,0,0⟩).to∧((t.events p s).getD i ⟨0,0,0,0,0,0⟩).to<=(s.size:Int):=by
 obtain⟨es,k,f,hE,hT,hf,-⟩:=zFu t ft p s;have hm:(t.events p s).getD i ⟨0,0,0,0,0,0⟩∈t.events p s:=by
  rw[lW,lV hi,Option.getD_some];exact List.getElem_mem hi
 generalize (t.events p s).getD i ⟨0,0,0,0,0,0⟩=e at *;rw[hE] at hm;rcases kU.1 hm with hm|hm
 ·have:=hT.to e hm
  omega
 ·rw[kY.1 hm]
  exact⟨Int.natCast_nonneg _,Int.ofNat_le.2 hf⟩
theorem EvsAt.at {w:World}{v:Value}{es:List Ev}(h:EvsAt w v es)(i:Nat)(hi:i<es.length):∃g cap,v=.slice (some ⟨g,0,none⟩) es.length cap∧w.cell? ⟨g,i*6,none⟩=some (.int .i64 (es.getD i ⟨0,0,0,0,0,0⟩).kind)∧w.cell? ⟨g,i*6+1,none⟩=some (.int .i64 (es.getD i ⟨0,0,0,0,0,0⟩).rule)∧w.cell? ⟨g,i*6+2,none⟩=some (.int .i64 (es.getD i ⟨0,0,0,0,0,0⟩).from_)∧w.cell? ⟨g,i*6+3,none⟩=some (.int .i64 (es.getD i ⟨0,0,0,0,0,0⟩).to)∧w.cell? ⟨g,i*6+4,none⟩=some (.int .i64 (es.getD i ⟨0,0,0,0,0,0⟩).line)∧w.cell? ⟨g,i*6+5,none⟩=some (.int .i64 (es.getD i ⟨0,0,0,0,0,0⟩).col):=by
 obtain⟨ao,cap,rfl,-,-,h3⟩:=h;obtain⟨g,rfl,-,h4⟩:=h3 i hi;exact⟨g,cap,rfl,h4 0 _ rfl,h4 1 _ rfl,h4 2 _ rfl,h4 3 _ rfl,h4 4 _ rfl,h4 5 _ rfl⟩
theorem zIl (w:World)(S:Nat->Prop)(L p:Nat)(t:Tb)(hL:LexAt w S L p t)(ft:t.Fine)(hst:t.stream=true)(s:ByteArray)(hs:s.size<=65536):Calls prog 20 #[.pointer (some ⟨L,0,none⟩),.string s,.int .i64 (t.ahead:Nat)] w fun e w'=>e=.returned (.bool true)∧Grew w w':=by
 have HSC:=vl <| zBQ hL ft s (by omega);have HBG:Hid (∀w2,Grew w w2->Calls prog 34 #[.pointer (some ⟨L,0,none⟩)] w2 fun e w'=>∃b,e=.returned (.pointer (some ⟨b,0,none⟩))∧w2.heap.size<=b∧ScAt w' S p b t (Rs.born t p) 0∧Grew w2 w'):=fun w2 hk=>zDr (hL.grown hk) ft;have hah:t.ahead<=64:=by have:=ft.ok.ahead;omega
 have HFL:Hid (∀d,d<=s.size->(Rs.feed t (nats (s.extract 0 d)) (Rs.born t p)).2.length<=100000):=fun d hd=>by
  have h:=(zFt t ft p (s.extract 0 d)).1;rw[ByteArray.size_extract] at h;omega
 have HST:=vl (zIk t ft hst p s);have HTO:=vl (zKQ t ft p s);have FT:=vl ft;generalize t.events p s=E at *;clear hL ft hst;go_in;apply wp_cut;intro K0 J;go_wp2;apply J.out;clear J;apply wp_cut;intro K0 J;go_wp2_with (first|(go_at_call 27;refine HSC.out.mono ?_;rintro e w1 ⟨v,rfl,he1,hk1⟩))
 apply J.out;clear J HSC;have ⟨aw,cw,hv,hw1,hw2,_⟩:=he1;subst hv;apply wp_cut;intro K0 J;go_wp2_with (first|(go_at_call 34;refine(HBG.out w1 hk1).mono ?_;rintro e w2 ⟨b,rfl,hb,hsc,hk2⟩))
 apply J.out;clear J HBG;have W2:Hid (ScAt w2 S p b t (Rs.born t p) 0∧Grew w1 w2∧w1.heap.size<=b∧Grew w w1∧EvsAt w1 (.slice aw E.length cw) E):=⟨hsc,hk2,hb,hk1,he1⟩
 have hm:E.length<=9223372036854775807:=by unfold maxLen at hw2;omega
 clear hsc hk2 hb hk1 he1 hw1 hw2;obtain⟨R,hR⟩:∃R:Nat->Value->Value->World->Prop,R=fun q to n wr=>∃d,q=s.size-d∧d<=s.size∧to=.int .i64 ((Rs.feed t (nats (s.extract 0 d)) (Rs.born t p)).2.length:Nat)∧n=.int .i64 ((d:Int)+1)∧ScAt wr S p b t (Rs.feed t (nats (s.extract 0 d)) (Rs.born t p)).1 d∧Grew w1 wr:=⟨_,rfl⟩
 have HR:=vl hR;clear hR;go_wp2;go_loopg [9,10] s.size (fun q to n wr=>R q to n wr)
 case atStart=>
  rw[HR.out];have e0:s.extract 0 0=ByteArray.empty:=by apply ByteArray.ext;rw[ByteArray.data_extract];simp
  exact⟨0,rfl,lX,by rw[e0];rfl,rfl,by rw[e0];exact W2.out.1,W2.out.2.1⟩
 case round=>
  rw[HR.out] at hrel;obtain⟨d,hgk,hd,rfl,rfl,hsc,hk⟩:=hrel;have A:=vl (And.intro hgk (And.intro hsc hk));clear hgk hsc hk;by_cases hlt:d<s.size
  ·have i1:(d:Int)+1<=(s.size:Int):=by omega
   obtain⟨F,hF⟩:∃F,F=(Rs.feed t (nats (s.extract 0 d)) (Rs.born t p)).2:=⟨_,rfl⟩
   obtain⟨G,hG⟩:∃G,G=(Rs.feed t (nats (s.extract d (d+1))) (Rs.feed t (nats (s.extract 0 d)) (Rs.born t p)).1).2:=⟨_,rfl⟩
   obtain⟨s1,s2⟩:=HST.out d hlt F G hF hG;have HS1:=vl s1;have HS2:=vl s2;have hc:Rs.feed t (nats (s.extract 0 (d+1))) (Rs.born t p)=_:=zDl t p s d 1 hlt;have HPU:Hid (Calls prog 35 #[.pointer (some ⟨b,0,none⟩),.string (s.extract d (d+1))] wr fun e w'=>∃ao cap,e=.returned (.slice ao G.length cap)∧EvsAt w' (.slice ao G.length cap) G∧ScAt w' S p b t (Rs.feed t (nats (s.extract 0 (d+1))) (Rs.born t p)).1 (d+1)∧Keep wr.heap.size b wr w'):=by
    have e2:(s.extract d (d+1)).size=1:=by rw[ByteArray.size_extract];omega
    have:=zHU A.out.2.1 FT.out (s.extract d (d+1)) (by omega);rw[e2] at this;refine this.mono ?_;rintro e w' ⟨v,rfl,h1,h2,h3⟩;rw[<-hG] at h1;obtain⟨ao,cap,rfl,-⟩:=id h1;exact⟨ao,cap,rfl,h1,by rw[hc];exact h2,h3⟩
   have HFG:Hid ((Rs.feed t (nats (s.extract 0 (d+1))) (Rs.born t p)).2.length=F.length+G.length):=by show _=_;rw[hc,<-hF,<-hG,kX]
   have hfg:F.length+G.length<=100000:=by rw[<-HFG.out];exact HFL.out (d+1) hlt
   rw[<-hF];clear hF hG s1 s2 hc;go_wp2_with (first|(go_at_call 35;refine HPU.out.mono ?_;rintro e w3 ⟨ag,cg,rfl,hg3,hsc3,hk3⟩))
   have W3:Hid (EvsAt w3 (.slice ag G.length cg) G∧ScAt w3 S p b t (Rs.feed t (nats (s.extract 0 (d+1))) (Rs.born t p)).1 (d+1)∧Grew w1 w3∧EvsAt w3 (.slice aw E.length cw) E):=by
    have h13:Grew w1 w3:=A.out.2.2.trans (hk3.lower A.out.2.2.size W2.out.2.2.1);exact⟨hg3,hsc3,h13,W2.out.2.2.2.2.grown h13⟩
   clear hg3 hsc3 hk3 HPU;go_loopg [9,12] G.length (fun q to ix w5=>∃i:Nat,q=G.length-i∧i<=G.length∧to=.int .i64 ((F.length+i:Nat):Int)∧ix=.int .i64 (i:Int)∧Grew w3 w5)
   case atStart=>exact⟨0,rfl,lX,rfl,rfl,Keep.refl _ _ _⟩
   case round=>
    obtain⟨i,hgk,hi,rfl,rfl,hk5⟩:=hrel;have B:=vl (And.intro hgk hk5);clear hgk hk5;obtain⟨u,hu⟩:∃u,u=F.length+i:=⟨_,rfl⟩
    have HU:=vl hu;have hu5:u<=100000:=by omega
    rw[<-hu];clear hu;by_cases hi2:i<G.length
    ·have j0:(i:Int)<(G.length:Int):=by omega
     obtain⟨u1,u2,u3⟩:=HS1.out i hi2;rw[<-HU.out] at u1 u2;have u4:=HTO.out u u1;obtain⟨bg,cg',hv,y0,y1,y2,y3,y4,y5⟩:=(W3.out.1.grown B.out.2).at i hi2;injection hv with e1 e2 e3;subst e1 e3;obtain⟨bw,cw',hv,z0,z1,z2,z3,z4,z5⟩:=(W3.out.2.2.2.grown B.out.2).at u u1;injection hv with e1 e2 e3;subst e1 e3;rw[u2] at z0 z1 z2 z3 z4 z5 u4;generalize G.getD i ⟨0,0,0,0,0,0⟩=ev at *;obtain⟨k0,k1,k2,k3,k4,k5⟩:=ev;have j1:¬(E.length<=u):=by omega
     have j5:decide (E.length<=u)=false:=decide_eq_false j1;have j2:(u:Int)<(E.length:Int):=by omega
     have j3:¬((d:Int)+1<k3+(t.ahead:Int)):=by have:k3+(t.ahead:Int)<=(d:Int)+1:=u3;omega
     have j4:0<=k3∧k3<=(s.size:Int):=u4;clear u2 u3 u4 HS1 HS2 HST HTO;go_wp2;go_quiet (fail);go_wp2;go_roundg (G.length-(i+1))
     case measure=>rw[B.out.1];omega
     case rel=>exact⟨i+1,rfl,by omega,by rw[HU.out];go_num,by go_num,B.out.2.trans (Keep.alike (w':=wr.drewN nq) ⟨rfl,rfl,rfl⟩)⟩
    ·have j0:¬((i:Int)<(G.length:Int)):=by omega
     have hiG:i=G.length:=by omega
     have HU2:Hid (u=F.length+G.length):=by show _=_;rw[HU.out,hiG]
     have hE:E.length<=9223372036854775807:=hm;by_cases hu:u<E.length
     ·have j2:(u:Int)<(E.length:Int):=by omega
      have u4:=HTO.out u hu;have u3:=HS2.out (by rw[<-HU2.out];exact hu);rw[<-HU2.out] at u3;obtain⟨bw,cw',hv,z0,z1,z2,z3,z4,z5⟩:=(W3.out.2.2.2.grown B.out.2).at u hu;injection hv with e1 e2 e3;subst e1 e3;generalize E.getD u ⟨0,0,0,0,0,0⟩=ev at *;obtain⟨k0,k1,k2,k3,k4,k5⟩:=ev;have j4:0<=k3∧k3<=(s.size:Int):=u4;have u5:k0=1->(d:Int)+1<k3+(t.ahead:Int):=u3;clear u3 u4 HS1 HS2 HST HTO;by_cases h1:k0=1
      ·have j3:¬(k3+(t.ahead:Int)<=(d:Int)+1):=by have:=u5 h1;omega
       subst h1;clear u5;go_wp2;go_roundg (s.size-(d+1))
       case measure=>rw[A.out.1];omega
       case rel=>
        rw[HR.out];exact⟨d+1,rfl,hlt,by rw[HFG.out,<-HU2.out],by go_num,W3.out.2.1.grown B.out.2,W3.out.2.2.1.trans (B.out.2.lower W3.out.2.2.1.size W3.out.2.2.1.size)⟩
      ·have j3:(k0==1)=false:=by rw[gQ];exact h1
       clear u5 h1;go_wp2;go_roundg (s.size-(d+1))
       case measure=>rw[A.out.1];omega
       case rel=>
        rw[HR.out];exact⟨d+1,rfl,hlt,by rw[HFG.out,<-HU2.out],by go_num,W3.out.2.1.grown B.out.2,W3.out.2.2.1.trans (B.out.2.lower W3.out.2.2.1.size W3.out.2.2.1.size)⟩
     ·have j2:¬((u:Int)<(E.length:Int)):=by omega
      clear HS1 HS2 HST HTO;go_wp2;go_roundg (s.size-(d+1))
      case measure=>rw[A.out.1];omega
      case rel=>
       rw[HR.out];exact⟨d+1,rfl,hlt,by rw[HFG.out,<-HU2.out],by go_num,W3.out.2.1.grown B.out.2,W3.out.2.2.1.trans (B.out.2.lower W3.out.2.2.1.size W3.out.2.2.1.size)⟩
  ·have i1:¬(d:Int)+1<=(s.size:Int):=by omega
   go_wp2;refine bodyPost_ret (results_tmp rfl _ _ _) rfl ?_;exact⟨rfl,W2.out.2.2.2.1.trans (A.out.2.2.lower W2.out.2.2.2.1.size W2.out.2.2.2.1.size)⟩
theorem zIa {w:World}{B L:Nat}{x:List Sm×Sh}{hold:Nat}{fo:Bool}{t:Tb}(h:LexIn w B L x hold fo t)(hs:zEx x fo=true):t.stream=true∧((t.ahead:Nat):Int)=aheadTo x.1 x.1.length:=by
 obtain⟨n,e,-⟩:=h.made;unfold zEx at hs;unfold zBs at e;rw[if_pos hs] at e;rw[e];refine⟨rfl,?_⟩;unfold xO at hs;simp only[Bool.and_eq_true,decide_eq_true_eq] at hs;exact Int.toNat_of_nonneg hs.2.1
theorem zKW (w:World)(s d:ByteArray):Calls prog 7 #[.string s,.string d] w fun e w'=>e=.returned (.bool true)∧Grew w w':=by
 rcases zDZ w s d with HB|⟨y,hl,hs,hd,HB⟩
 ·have HBG:=vl HB
  clear HB;go_in;go_wp2_with (first|(go_at_call 14;refine HBG.out.mono ?_;rintro e w1 ⟨rfl,hk1⟩))
  refine bodyPost_ret (results_tmp rfl _ _ _) rfl ?_;exact⟨rfl,hk1⟩
 have HBG:=vl HB;have HOF:Hid (∀w2,Calls prog 16 #[.string s,.int .i64 64,.bool false] w2 fun e w'=>Grew w2 w'∧∃L m0 m1 m2 s0 s1 s2 v0 v1 v2 AH ST LN,e=.returned (.tuple #[.pointer (some ⟨L,0,none⟩),.agg #[.slice m0 m1 m2,.slice s0 s1 s2,.slice v0 v1 v2,.int .i64 AH,.bool ST,.int .i64 LN]])∧Hid (ST=true->∀w3,Grew w' w3->Calls prog 20 #[.pointer (some ⟨L,0,none⟩),.string d,.int .i64 AH] w3 fun e w4=>e=.returned (.bool true)∧Grew w3 w4)):=fun w2=>by
  refine(zDb w2 s (by omega) 64 (by omega) (by omega) false).mono ?_;rintro e w' ⟨hk,x,m0,m1,m2,s0,s1,s2,v0,v1,v2,AH,ST,LN,rfl,hq⟩;unfold OfQ at hq;rw[hl] at hq;obtain⟨L,t,rfl,hAH,hST,hL⟩:=hq;refine⟨hk,L,m0,m1,m2,s0,s1,s2,v0,v1,v2,AH,ST,LN,rfl,fun hst w3 hk3=>?_⟩;obtain⟨S,p,hA,-⟩:=hL.at_;obtain⟨e1,e2⟩:=zIa hL (by rw[<-hST];exact hst);rw[hAH,<-e2];exact zIl w3 S L p t (hA.grown hk3) hL.fine e1 d hd
 clear HB hl;go_in;apply wp_cut;intro K0 J;go_wp2;apply J.out;clear J;apply wp_cut;intro K0 J;go_wp2_with (first|(go_at_call 14;refine HBG.out.mono ?_;rintro e w1 ⟨rfl,hk1⟩))
 apply J.out;clear J;apply wp_cut;intro K0 J;go_wp2;apply J.out;clear J;apply wp_cut;intro K0 J;go_wp2_with (first|(go_at_call 16;refine(HOF.out _).mono ?_;rintro e w2 ⟨hk2,L,m0,m1,m2,s0,s1,s2,v0,v1,v2,AH,ST,LN,rfl,HS1⟩))
 apply J.out;clear J;obtain⟨w3,hw3,HW3,y3,y4⟩:∃w3,w3=w2.alloc (.cells #[.slice m0 m1 m2,.slice s0 s1 s2,.slice v0 v1 v2,.int .i64 AH,.bool ST,.int .i64 LN] 30)∧Hid (Grew w w3∧Grew w2 w3)∧w3.cell? ⟨w2.heap.size,3,none⟩=some (.int .i64 AH)∧w3.cell? ⟨w2.heap.size,4,none⟩=some (.bool ST):=⟨_,rfl,⟨(hk1.trans (hk2.lower hk1.size hk1.size)).trans (kZ _ _ (lY hk1.size hk2.size)),kZ _ _ lQ⟩,by unfold cell?;rw[gG];rfl,by unfold cell?;rw[gG];rfl⟩
 rw[<-hw3];generalize w2.heap.size=B at *;cases ST with
 |false=>
  clear hw3 hk2 HBG HS1 HOF;go_wp2;refine bodyPost_ret (results_tmp rfl _ _ _) rfl ?_;exact⟨rfl,HW3.out.1⟩
 |true=>
  have HC1:=vl (HS1.out rfl w3 HW3.out.2);clear hw3 hk2 HBG HS1 HOF;go_wp2_with (first|(go_at_call 20;refine HC1.out.mono ?_;rintro e w4 ⟨rfl,hk4⟩))
  refine bodyPost_ret (results_tmp rfl _ _ _) rfl ?_;exact⟨rfl,HW3.out.1.trans (hk4.lower HW3.out.1.size HW3.out.1.size)⟩
section
open Go.ChangeShapes Go.WideShapes Go.ChangeAt Go.RowKit
open Go.ChangeMaps (open_string shut_string)
theorem zG9 (os:Os)(started:os.Started)(H:Type)(enc:TypeId×Value->H):
  ReturnsInHanded {} checked os 7 .any (Rows.earlySpec.pre6 enc prog f7 Rows.earlyRow.domain false) (Rows.earlySpec.post enc prog f7 false true false false):=by
 refine returnsInHanded_of_change (C:=checked) own started (by kernel_rfl) func7
  (ChangeSpec.witness6 (enc:=enc) (C:=checked) false ⟨#[],#[.string ⟨#[]⟩,.string ⟨#[]⟩],[]⟩ 8 (by kernel_rfl) (by kernel_rfl) (by kernel_rfl) (by kernel_rfl)) ?_
 intro W base args ds gs before hval0 hW _ _;have hval:=hval0;have hW':=hW;obtain⟨p,q,hA0,hV,rfl,hfz,hnd⟩:=hW;have hA:=hA0;rw[params7] at hA hval;obtain⟨v0,vs0,d0,ds0,p0,q0,hargs,rfl,rfl,h0,r0⟩:=trodAll_cons hA;obtain⟨v1,vs1,d1,ds1,p1,q1,rfl,rfl,rfl,h1,r1⟩:=trodAll_cons r0;obtain⟨rfl,rfl,rfl⟩:=trodAll_nil r1;have hargs2:args=#[v0,v1]:=by cases args;simp_all
 subst hargs2;obtain⟨rfl,rfl⟩:=trodVars_none hV;obtain⟨a0,rfl,rfl,rfl,w0⟩:=open_string underlying9 (hval 0 9 v0 rfl rfl) h0;obtain⟨a1,rfl,rfl,rfl,w1⟩:=open_string underlying9 (hval 1 9 v1 rfl rfl) h1;simp only[List.append_nil] at hW';refine(zKW W a0 a1).mono fun e W' ⟨he,hk⟩=>?_;subst he;exact⟨_,rfl,zCJ hW' (fun _ _ _=>trodAll_mk1 (shut_bool underlying4 _)) (fun sp=>zAR (shut_string underlying9 w0) (zAR (shut_string underlying9 w1) (trodAll_mk0))) (fun _=>rfl)
  (hk.frame _) (ok_one (by kernel_rfl) rfl (okWide_bool_mk underlying4 _))⟩
theorem early_holds:Rows.EarlySaid:=
 OpenClaim.holds_of_wide 7 f7 rfl rfl rfl rfl rfl rfl rfl ⟨rfl,rfl,rfl,rfl,rfl⟩ rfl rfl rfl rfl rfl (by kernel_rfl) func7 (by kernel_rfl)
  (of_decide_eq_true (by kernel_rfl)) (by unfold Func.isWrapper;first|(rw [if_pos (by decide +kernel)];kernel_rfl)|(rw [if_neg (by decide +kernel)];exact⟨rfl,rfl⟩))
  (fun os started H enc _=>zG9 os started H enc)
end
end Go.Proofs.YtbjcfkdnjaiclaaGreat
