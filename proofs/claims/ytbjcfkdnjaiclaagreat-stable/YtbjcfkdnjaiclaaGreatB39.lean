import Derived.Laws.AppendOwnNone
import Derived.Test.YtbjcfkdnjaiclaaGreatB0
import Derived.Test.YtbjcfkdnjaiclaaGreatB3
import Derived.Test.YtbjcfkdnjaiclaaGreatB35
import Derived.Test.YtbjcfkdnjaiclaaGreatB38
/- Stable: what a scanner tells behind a beginning of a text is what is told first of the whole text, of that beginning alone, and of another text that begins so; for every specification, text, hold, force and places (texts of up to 65536 bytes, as the statement itself says). -/
set_option linter.unusedVariables false
set_option linter.unusedSimpArgs false
set_option maxHeartbeats 4000000
set_option maxRecDepth 100000
namespace Go.Proofs.YtbjcfkdnjaiclaaGreat
open Go.RowKit Go.Proofs.Tryz Go.World
def Rs.born (t:Tb)(p:Nat):Rs:={Rs.zero p with stack:=fun _=>0,depth:=1,state:=t.start 0}
theorem Rs.born_good (t:Tb)(p:Nat)(h:t.Fine):(Rs.born t p).Good t 0:=by
 have ok:(Rs.born t p).Ok t:=⟨Nat.le_refl _,by show(1:Nat)<=4;decide,fun _ _=>h.ok.nmode,h.ok.start 0 h.ok.nmode,by show(0:Nat)<64;decide,Nat.zero_le _,fun _ _=>by show(0:Nat)<256;decide⟩
 unfold Rs.Good;split
 ·exact⟨ok,h.ok.rows0,Nat.zero_le _,Nat.le_refl _,Nat.le_refl _,Nat.le_refl _⟩
 ·exact⟨ok,Nat.le_refl _,Nat.le_refl _,.inl rfl,Nat.le_refl _,Nat.le_refl _,Nat.le_refl _,Nat.le_refl _⟩
theorem zBI (b H:Nat)(S:Nat->Prop)(t:Tb)(w:World)(r0:Rs)(s:ByteArray)(P:Nat)(hC:Cv H b S t w r0 (.slice none 0 0) [])(ft:t.Fine)(hG:r0.Good t P)(hP:P+s.size<4194000):
  Calls prog 35 #[.pointer (some ⟨b,0,none⟩),.string s] w fun e w'=>
   ∃v,e=.returned v∧zK w' b (Rs.feed t (nats s) r0).1 (.slice none 0 0)∧w'.ownsRow H 51 6 v (Rs.feed t (nats s) r0).2.length (zX (Rs.feed t (nats s) r0).2)∧Keep H b w w':=by
 have HR:Hid (Calls prog 50 #[.pointer (some ⟨b,0,none⟩),.string s] w fun e w'=>∃v,e=.returned v∧zK w' b (Rs.feed t (nats s) r0).1 (.slice none 0 0)∧w'.ownsRow H 51 6 v (Rs.feed t (nats s) r0).2.length (zX (Rs.feed t (nats s) r0).2)∧Keep H b w w'):=by
  have hcn:=hG.cnt;have o1:xB r0.opn<=1:=by unfold xB;split <;> omega
  exact zFC b H S t w r0 [] s P (P+1) hC ft.ok ft.act hG (by omega) (by show 0+r0.count+xB r0.opn<=P+1;omega) (by omega)
 go_in;go_wp2_with fail;refine HR.out.mono ?_;rintro e w2 ⟨v2,rfl,h2⟩;have H2:Hid _:=h2;go_wp2;go_ret;exact⟨v2,rfl,H2.out⟩
theorem zEd (b H:Nat)(S:Nat->Prop)(t:Tb)(w:World)(r:Rs)(P:Nat)(hC:Cv H b S t w r (.slice none 0 0) [])(ft:t.Fine)(hG:r.Good t P)(hP:P<4194000):
  Calls prog 42 #[.pointer (some ⟨b,0,none⟩)] w fun e w'=>
   ∃v,e=.returned v∧zK w' b (r.shut t).1 (.slice none 0 0)∧w'.ownsRow H 51 6 v (r.shut t).2.length (zX (r.shut t).2)∧Keep H b w w':=by
 have HR:=vl <| zEL b H S t w r P hC ft.ok ft.act hG (by omega);go_in;go_wp2_with fail;refine HR.out.mono ?_;rintro e w2 ⟨v2,rfl,h2⟩;have H2:Hid _:=h2;go_wp2;go_ret;exact⟨v2,rfl,H2.out⟩
theorem zKu (l:List Value)(k:Nat)(z:Array Value)(i:Nat)(h:k+l.length<=z.size):((l.zipIdx k).foldl (fun cs x=>cs.setIfInBounds x.2 x.1) z)[i]? =if k<=i∧i<k+l.length then l[i-k]? else z[i]? :=by
 induction l generalizing k z with
 |nil=>simp;intro h1 h2;omega
 |cons a l ih=>
  rw[List.zipIdx_cons,List.foldl_cons,ih (k+1) (z.setIfInBounds k a) (by simp at h ⊢;omega)];simp only[List.length_cons] at h ⊢;by_cases h1:k+1<=i∧i<k+1+l.length
  ·rw[if_pos h1,if_pos (by omega),show i-k=(i-(k+1))+1 by omega,List.getElem?_cons_succ]
  ·rw[if_neg h1]
   by_cases h2:i=k
   ·subst h2
    rw[if_pos (by omega)];simp[show i<z.size by omega]
   ·rw[if_neg (by omega),Array.getElem?_setIfInBounds_ne (by omega)]
theorem zLs (z c:Array Value)(n:Nat)(h:z.size=n)(hc:c.size=n):Array.foldl (fun cs x=>cs.setIfInBounds x.snd x.fst) z c.zipIdx 0 n=c:=by
 have e:Array.foldl (fun cs x=>cs.setIfInBounds x.snd x.fst) z c.zipIdx 0 n=(c.toList.zipIdx 0).foldl (fun cs x=>cs.setIfInBounds x.2 x.1) z:=by
  have hz:c.zipIdx.size=n:=by simp[hc]
  rw[<-hz,<-Array.foldl_toList];simp
 rw[e];apply Array.ext_getElem?;intro i;rw[zKu _ _ _ _ (by simp;omega)];by_cases hi:i<n
 ·rw[if_pos (by simp;omega)]
  simp
 ·rw[if_neg (by simp;omega),Array.getElem?_eq_none (by omega),Array.getElem?_eq_none (by omega)]
theorem zFw:zeroCells104.size=85:=by kernel_rfl
theorem zBP (x p:Nat)(S:Nat->Prop)(t:Tb)(w:World)(hx:w.cell? ⟨x,0,none⟩=some (.pointer (some ⟨p,0,none⟩)))(hT:TabAt w S p t)(hS:∀k,S k->k<w.heap.size)(ft:t.Fine):
  Calls prog 34 #[.pointer (some ⟨x,0,none⟩)] w fun e w'=>∃b,e=.returned (.pointer (some ⟨b,0,none⟩))∧w.heap.size<=b∧b<w'.heap.size∧zK w' b (Rs.born t p) (.slice none 0 0)∧Grew w w':=by
 have HR:Hid _:=zIb p S t w hT hS ft.ok;go_in;go_wp2_with fail;refine Calls.mono HR.out ?_;rintro e w2 ⟨c,rfl,hc85,hcat,hk⟩;have HA:Hid ((∀i,i<85->c[i]? =some ((Rs.born t p).cells (.slice none 0 0) i))∧Grew w w2):=⟨hcat,hk⟩
 go_wp2;rw[zLs _ c 85 zFw hc85];go_ret;refine⟨w2.heap.size,rfl,HA.out.2.size,by simp,⟨_,c,heap_alloc_new w2 _,hc85,HA.out.1⟩,HA.out.2.trans (Keep.alloc _ _ HA.out.2.size)⟩
def Tb.events (t:Tb)(p:Nat)(s:ByteArray):List Ev:=(Rs.feed t (nats s) (Rs.born t p)).2++((Rs.feed t (nats s) (Rs.born t p)).1.shut t).2
theorem zEj (es:List Ev):(zX es).length=es.length*6:=by
 induction es with
 |nil=>rfl
 |cons e es ih=>simp only[zX,List.flatMap_cons,List.length_append,List.length_cons] at *;rw[ih];simp[Ev.cells,vF];omega
theorem zGU (es:List Ev):∀u∈zX es,u.oneCell'=true:=by
 intro u hu;obtain⟨e,_,hu⟩:=List.mem_flatMap.1 hu;simp[Ev.cells,vF] at hu;rcases hu with rfl|rfl|rfl|rfl|rfl|rfl <;> rfl
theorem zEk (a b:List Ev):zX (a++b)=zX a++zX b:=by simp[zX]
theorem Rs.shut_len (r:Rs)(t:Tb)(P:Nat)(ok:t.Ok)(h:r.Good t P):(r.shut t).2.length<=r.count+1:=by
 unfold Rs.shut;split
 ·rename_i ho
  split
  ·exact(r.closed_end t ho).2.2
  ·rename_i hs
   have hO:=h.oth (by simpa using hs);have h2:=(r.endN_inv t P ok hO (r.count+2)).2.1;have o1:xB r.opn<=1:=by unfold xB;split <;> omega
   have o2:xB r.opn=1:=by rw[ho];rfl
   unfold Rs.closeO;split
   ·rename_i he
    have e:xB (r.endAll t).1.opn=1:=by rw[he];rfl
    show((r.endAll t).2++[_]).length<=_;rw[List.length_append];have h3:(r.endAll t).2.length+(r.endAll t).1.count+xB (r.endAll t).1.opn<=r.count+xB r.opn:=h2;simp only[List.length_cons,List.length_nil];omega
   ·have h3:(r.endAll t).2.length+(r.endAll t).1.count+xB (r.endAll t).1.opn<=r.count+xB r.opn:=h2
    omega
 ·exact Nat.zero_le _
theorem Rs.long_tp (r:Rs)(t:Tb):(r.long t).1.tp=r.tp:=by
 unfold Rs.long;split
 ·rfl
 ·exact(r.cut.tok_same t _ _ _ _).tp
theorem Rs.heldStep_tp (r:Rs)(t:Tb):(r.heldStep t).1.tp=r.tp:=by
 have h:((r.ate t).marked t).tp=r.tp:=by unfold Rs.marked;split <;> rfl
 unfold Rs.heldStep Rs.judged;split
 ·exact h
 ·rw[Rs.long_tp];exact h
theorem Rs.heldN_tp (r:Rs)(t:Tb)(n:Nat):(r.heldN t n).1.tp=r.tp:=by
 induction n with
 |zero=>rfl
 |succ n ih=>
  rw[Rs.heldN];split
  ·show((r.heldN t n).1.heldStep t).1.tp=r.tp
   rw[Rs.heldStep_tp,ih]
  ·exact ih
theorem Rs.eat_tp (r:Rs)(t:Tb)(c:Nat):(r.eat t c).1.tp=r.tp:=by
 unfold Rs.eat
 split
 ·unfold Rs.take Rs.due
  split
  ·exact((((r.added c).looked t (t.kind c)).took t).fin_same t).tp
  ·rfl
 ·unfold Rs.takeO
  split
  ·rfl
  ·exact(r.added c).heldN_tp t _
theorem Rs.feed_tp (t:Tb)(cs:List Nat)(r:Rs):(Rs.feed t cs r).1.tp=r.tp:=by
 induction cs generalizing r with
 |nil=>rfl
 |cons c cs ih=>
  rw[Rs.feed];split
  ·show(Rs.feed t cs (r.eat t c).1).1.tp=r.tp
   rw[ih,Rs.eat_tp]
  ·rfl
theorem Keep.less {H b G c:Nat}{w w':World}(h:Keep H b w w')(hG:G<=H)(hb:G<=b):Keep G c w w':=⟨h.os,h.output,h.size,fun k hk _=>h.block k (by omega) (by omega)⟩
theorem Keep.grownEnd {G c:Nat}{w w':World}{row:Option Nat}(hg:w.grownBy w' row)(hG:G<=w.heap.size)(hr:∀k,row=some k->G<=k):Keep G c w w':=Keep.grown hg hG hr
theorem zEK (x p:Nat)(S:Nat->Prop)(t:Tb)(w:World)(s:ByteArray)(hx:w.cell? ⟨x,0,none⟩=some (.pointer (some ⟨p,0,none⟩)))(hT:TabAt w S p t)(hS:∀k,S k->k<w.heap.size)(ft:t.Fine)(hs:s.size<=1048576):
  Calls prog 27 #[.pointer (some ⟨x,0,none⟩),.string s] w fun e w'=>∃v,e=.returned v∧w'.ownsRow w.heap.size 51 6 v (t.events p s).length (zX (t.events p s))∧Grew w w':=by
 have HB:=vl <| zBP x p S t w hx hT hS ft;have HT:Hid (TabAt w S p t∧∀k,S k->k<w.heap.size):=⟨hT,hS⟩
 have HI:Hid ((Rs.feed t (nats s) (Rs.born t p)).1.Good t (0+(nats s).length)∧(Rs.feed t (nats s) (Rs.born t p)).2.length+(Rs.feed t (nats s) (Rs.born t p)).1.count<=1+s.size):=by
  obtain⟨h1,h2,_⟩:=Rs.feed_inv t ft.ok (nats s) (Rs.born t p) 0 (Rs.born_good t p ft) (zGI s);rw[jZ] at h2;have e1:(Rs.born t p).count=0:=rfl;have e2:xB (Rs.born t p).opn=1:=rfl;exact⟨h1,by omega⟩
 go_in;go_wp2_with fail;refine HB.out.mono ?_;rintro e w1 ⟨b,rfl,hb1,hb2,hR,hk1⟩;have C1:Hid (Cv w1.heap.size b S t w1 (Rs.born t p) (.slice none 0 0) []):=by
  refine⟨hR,ownsRow_nil _ _ _ _,HT.out.1.keep fun k hk=>?_,hb2,Nat.le_refl _,fun k hk=>?_⟩
  ·have:=HT.out.2 k hk
   exact hk1.block k this (by omega)
  ·have:=HT.out.2 k hk
   omega
 have K1:=vl hk1;have hb1':=hb1;go_wp2_with fail;refine(zBI b w1.heap.size S t w1 (Rs.born t p) s 0 C1.out ft (Rs.born_good t p ft) (by omega)).mono ?_;rintro e w2 ⟨v1,rfl,hR2,hO2,hk2⟩;have C2:Hid (Cv w2.heap.size b S t w2 (Rs.feed t (nats s) (Rs.born t p)).1 (.slice none 0 0) []):=by
  have hsz:=hk2.size;refine⟨hR2,ownsRow_nil _ _ _ _,?_,by omega,Nat.le_refl _,fun k hk=>?_⟩
  ·have htp:=Rs.feed_tp t (nats s) (Rs.born t p)
   rw[htp];refine C1.out.tab.keep fun k hk=>?_;have:=HT.out.2 k hk;exact hk2.block k (by omega) (by omega)
  ·have:=HT.out.2 k hk
   omega
 have K2:=vl <| K1.out.trans (hk2.less (by omega) (by omega));have O2:=vl hO2;go_wp2_with fail;refine(zEd b w2.heap.size S t w2 _ _ C2.out ft HI.out.1 (by rw[jZ];omega)).mono ?_;rintro e w3 ⟨v2,rfl,hR3,hO3,hk3⟩;have K3:Hid (Grew w w3):=K2.out.trans (hk3.less K2.out.size (by omega));have O3:Hid (w3.ownsRow w.heap.size 51 6 v1 (Rs.feed t (nats s) (Rs.born t p)).2.length (zX (Rs.feed t (nats s) (Rs.born t p)).2)):=by
  have h:=O2.out;refine⟨h.1,h.2.imp id ?_⟩;rintro⟨g,cap,cur,hv,hg,hh,rest⟩;have hlt:=(Array.getElem?_eq_some_iff.1 hh).1;exact⟨g,cap,cur,hv,by omega,(hk3.block g hlt (by omega)).trans hh,rest⟩
 have hLen:(Rs.feed t (nats s) (Rs.born t p)).2.length+((Rs.feed t (nats s) (Rs.born t p)).1.shut t).2.length<=2+s.size:=by
  have h1:=Rs.shut_len _ t _ ft.ok HI.out.1;have h2:=HI.out.2;omega
 have HL:Hid (w3.ownsRow w2.heap.size 51 6 v2 ((Rs.feed t (nats s) (Rs.born t p)).1.shut t).2.length (zX ((Rs.feed t (nats s) (Rs.born t p)).1.shut t).2)):=hO3;have HE:Hid (t.events p s=(Rs.feed t (nats s) (Rs.born t p)).2++((Rs.feed t (nats s) (Rs.born t p)).1.shut t).2):=rfl;have hsz3:w.heap.size<=w3.heap.size:=K3.out.size;clear hR3 hO3 hk3 C2 O2;generalize (Rs.feed t (nats s) (Rs.born t p)).2=l1 at *;generalize ((Rs.feed t (nats s) (Rs.born t p)).1.shut t).2=l2 at *;obtain⟨i0,hi0,hz0,hz1,hz2⟩:=info_parts zLn;rcases HL.out.2 with⟨hv2,hn2⟩|⟨g,cap,cur,hv2,_,hg2,_,_,_,htk⟩
 ·have HN:Hid (l2=[]):=List.length_eq_zero_iff.1 hn2
  subst hv2;clear hn2 HL;go_wp2_with (first|(at_builtin;refine wpList_append_own_none rfl _ _ 48 rfl w.heap.size 51 i0 6 underlying48 hi0 _ _ _ rfl O3.out rfl ?_))
  go_ret;refine⟨v1,rfl,?_,K3.out⟩;rw[HE.out,HN.out,List.append_nil];exact O3.out
 ·have hl2:(zX l2).length=l2.length*6:=zEj l2
  have hcells:∀j u,(zX l2)[j]? =some u->w3.cell? ((⟨g,0,none⟩:Addr).add j)=some u:=by
   rw[hv2] at HL;exact HL.out.cells rfl
  have HC:Hid (∀j u,(zX l2)[j]? =some u->w3.cell? ((⟨g,0,none⟩:Addr).add j)=some u):=hcells;subst hv2;clear hcells HL hg2 htk;go_wp2_with (first|(at_builtin;refine wpList_append_own _ rfl _ _ 48 rfl w.heap.size 51 i0 _ 6 48 underlying48 hi0 hz0 hz1 hz2 rfl (by decide) _ _ _ rfl O3.out ⟨g,0,none⟩ l2.length cap (zX l2) rfl hl2 HC.out (zGU l2) (by unfold maxLen;omega) (by omega) hsz3 ?_;intro v4 w4 hown hgrow hnil))
  have HO:Hid _:=hown;have HG:Hid _:=hgrow;clear hown hgrow hnil;go_wp2_with fail;go_ret;refine⟨v4,rfl,?_,K3.out.trans (Keep.grownEnd HG.out hsz3 fun k hk=>(O3.out.lt k hk).1)⟩;rw[HE.out,List.length_append,zEk];exact HO.out
def zFs:ByteArray:=⟨#[109,111,100,101,32,109,10,97,32,46,32,97,10,98,32,45,32,98,10]⟩
def vC:List Sm×Sh:=(zAC zFs).getD ([],Sh.none)
theorem zMh:(zAC zFs).isSome=true:=by kernel_rfl
theorem zKz:zJk vC false=true:=by kernel_rfl
theorem zLw:(((xL vC.1 (ints vC.2.acts) (vC.2.pushesTo vC.2.pushed.length) 64).first.itr 2).spreadTo (zO vC.1 vC.1.length)).2=false:=by kernel_rfl
theorem zKA (p:Nat):(zBB vC.1 (ints vC.2.acts) (vC.2.pushesTo vC.2.pushed.length) 64 2 false).events p ⟨#[97,98,97]⟩=[⟨1,0,0,1,1,1⟩,⟨1,0,2,3,1,3⟩,⟨2,0,3,3,1,4⟩]:=by kernel_rfl
theorem zKQ:zAC zFs=some vC:=by
 have:=zMh;unfold vC;cases h:zAC zFs with
 |none=>rw[h] at this;cases this
 |some y=>rfl
theorem zLx:zX [⟨1,0,0,1,1,1⟩,⟨1,0,2,3,1,3⟩,⟨2,0,3,3,1,4⟩]=[.int .i64 1,.int .i64 0,.int .i64 0,.int .i64 1,.int .i64 1,.int .i64 1,.int .i64 1,.int .i64 0,.int .i64 2,.int .i64 3,.int .i64 1,.int .i64 3,.int .i64 2,.int .i64 0,.int .i64 3,.int .i64 3,.int .i64 1,.int .i64 4]:=rfl
theorem zIg (w:World):Calls prog 28 #[] w fun e w'=>e=.returned (.bool true)∧Grew w w':=by
 have HO:Hid (Calls prog 16 #[.string ⟨#[109,111,100,101,32,109,10,97,32,46,32,97,10,98,32,45,32,98,10]⟩,.int .i64 64,.bool false] w fun e w1=>Grew w w1∧∃L m0 m1 m2 s0 s1 s2 v0 v1 v2 AH LN,e=.returned (.tuple #[.pointer (some ⟨L,0,none⟩),.agg #[.slice m0 m1 m2,.slice s0 s1 s2,.slice v0 v1 v2,.int .i64 AH,.bool true,.int .i64 LN]])∧∀w2,Grew w1 w2->Calls prog 27 #[.pointer (some ⟨L,0,none⟩),.string ⟨#[97,98,97]⟩] w2 fun e w3=>∃g cap,e=.returned (.slice (some ⟨g,0,none⟩) 3 cap)∧Grew w2 w3∧3<=cap∧w3.cell? ⟨g,0,none⟩=some (.int .i64 1)∧w3.cell? ⟨g,1,none⟩=some (.int .i64 0)∧w3.cell? ⟨g,2,none⟩=some (.int .i64 0)∧w3.cell? ⟨g,3,none⟩=some (.int .i64 1)∧w3.cell? ⟨g,4,none⟩=some (.int .i64 1)∧w3.cell? ⟨g,5,none⟩=some (.int .i64 1)∧w3.cell? ⟨g,6,none⟩=some (.int .i64 1)∧w3.cell? ⟨g,7,none⟩=some (.int .i64 0)∧w3.cell? ⟨g,8,none⟩=some (.int .i64 2)∧w3.cell? ⟨g,9,none⟩=some (.int .i64 3)∧w3.cell? ⟨g,10,none⟩=some (.int .i64 1)∧w3.cell? ⟨g,11,none⟩=some (.int .i64 3)∧w3.cell? ⟨g,12,none⟩=some (.int .i64 2)∧w3.cell? ⟨g,13,none⟩=some (.int .i64 0)∧w3.cell? ⟨g,14,none⟩=some (.int .i64 3)∧w3.cell? ⟨g,15,none⟩=some (.int .i64 3)∧w3.cell? ⟨g,16,none⟩=some (.int .i64 1)∧w3.cell? ⟨g,17,none⟩=some (.int .i64 4)):=by
  refine(zHP w zFs (by decide) 64 (by decide) (by decide) false).mono ?_;rintro e w1 ⟨hk,x,m0,m1,m2,s0,s1,s2,v0,v1,v2,AH,ST,LN,rfl,hq⟩;unfold OfQ at hq;rw[zKQ] at hq;obtain⟨L,t,rfl,rfl,rfl,hL⟩:=hq;rw[zKz];refine⟨hk,L,m0,m1,m2,s0,s1,s2,v0,v1,v2,_,LN,rfl,fun w2 hk2=>?_⟩;have hL2:=hL.grown hk2;obtain⟨n,hn1,hn2⟩:=hL2.made;obtain⟨S,p,hA,hS⟩:=hL2.at_;have ht:t=zBB vC.1 (ints vC.2.acts) (vC.2.pushesTo vC.2.pushed.length) 64 2 false:=hn1.trans (zLr _ _ _ _ _ _ _ hn2 zLw);have he:t.events p ⟨#[97,98,97]⟩=[⟨1,0,0,1,1,1⟩,⟨1,0,2,3,1,3⟩,⟨2,0,3,3,1,4⟩]:=by rw[ht];exact zKA p
  refine(zEK L p S t w2 ⟨#[97,98,97]⟩ hA.cell hA.tab hA.safe hL2.fine (by decide)).mono ?_;rintro e w3 ⟨v,rfl,ho,hk3⟩;rw[he,zLx] at ho;obtain⟨g,cap,rfl,h1,h2,h3,h4,h5,h6⟩:=qG ho (by decide);exact⟨g,cap,rfl,hk3,h3,h5 0 _ rfl,h5 1 _ rfl,h5 2 _ rfl,h5 3 _ rfl,h5 4 _ rfl,h5 5 _ rfl,h5 6 _ rfl,h5 7 _ rfl,h5 8 _ rfl,h5 9 _ rfl,h5 10 _ rfl,h5 11 _ rfl,h5 12 _ rfl,h5 13 _ rfl,h5 14 _ rfl,h5 15 _ rfl,h5 16 _ rfl,h5 17 _ rfl⟩
 go_in;refine wp_cut ?_;intro K0 HK0;go_wp2;refine HK0.out _ _ ?_;clear HK0;refine wp_cut ?_;intro K0 HK0;go_wp2_with (first|(go_at_call 16;refine HO.out.mono ?_;rintro e w1 ⟨hk1,L,m0,m1,m2,s0,s1,s2,v0,v1,v2,AH,LN,rfl,HSC⟩))
 obtain⟨w2,hw2,x4,HW2⟩:∃w2,w2=w1.alloc (.cells #[.slice m0 m1 m2,.slice s0 s1 s2,.slice v0 v1 v2,.int .i64 AH,.bool true,.int .i64 LN] 30)∧w2.cell? ⟨w1.heap.size,4,none⟩=some (.bool true)∧Hid (Grew w w2∧Grew w1 w2):=by
  have hn:=heap_alloc_new w1 (.cells #[.slice m0 m1 m2,.slice s0 s1 s2,.slice v0 v1 v2,.int .i64 AH,.bool true,.int .i64 LN] 30);have ha:Grew w1 (w1.alloc (.cells #[.slice m0 m1 m2,.slice s0 s1 s2,.slice v0 v1 v2,.int .i64 AH,.bool true,.int .i64 LN] 30)):=Keep.alloc _ _ (Nat.le_refl _);refine⟨_,rfl,?_,hk1.trans (ha.lower hk1.size hk1.size),ha⟩;unfold cell?;rw[hn];rfl
 rw[<-hw2];refine HK0.out _ _ ?_;clear HK0 hw2 HO;have HSC2:=vl <| HSC w2 HW2.out.2;clear HSC;go_wp2_with (first|(go_at_call 27;refine HSC2.out.mono ?_;rintro e w3 ⟨g,cap,rfl,hk3,hcap,c0,c1,c2,c3,c4,c5,c6,c7,c8,c9,c10,c11,c12,c13,c14,c15,c16,c17⟩))
 refine bodyPost_ret (results_tmp rfl _ _ _) rfl ?_;exact⟨rfl,HW2.out.1.trans (hk3.lower HW2.out.1.size HW2.out.1.size)⟩
theorem zIa (w:World)(s t:ByteArray)(h:65536<s.size∨65536<t.size):Calls prog 14 #[.string s,.string t] w fun e w'=>e=.returned (.tuple #[.bool false,.bool true])∧Grew w w':=by
 by_cases h1:65536<s.size
 ·go_in
  go_wp2;refine bodyPost_ret (results_tmp2 rfl _ _ _) rfl ?_;exact⟨rfl,Keep.refl _ _ _⟩
 ·have h2:65536<t.size:=by omega
  have h3:s.size<=65536:=by omega
  go_in;go_wp2;refine bodyPost_ret (results_tmp2 rfl _ _ _) rfl ?_;exact⟨rfl,Keep.refl _ _ _⟩
theorem zEa (w:World)(s t:ByteArray)(h1:s.size<=65536)(h2:t.size<=65536):Calls prog 14 #[.string s,.string t] w fun e w'=>e=.returned (.tuple #[.bool (zAC s).isSome,.bool true])∧Grew w w':=by
 have HA:=vl <| zIg w;have HN:Hid (∀w2,Calls prog 29 #[.string s] w2 fun e w'=>e=.returned (.tuple #[.bool (zAC s).isNone,.bool true])∧Grew w2 w'):=fun w2=>zIK w2 s (by omega);have he:(!(zAC s).isNone)=(zAC s).isSome:=by cases zAC s <;> rfl
 generalize (zAC s).isNone=A at *;generalize (zAC s).isSome=B at *;subst he;go_in;cases A
 all_goals
  go_wp2_with (first|(go_at_call 28;refine HA.out.mono ?_;rintro e w1 ⟨rfl,hk1⟩)|(go_at_call 29;refine(HN.out _).mono ?_;rintro e w2 ⟨rfl,hk2⟩))
  refine bodyPost_ret (results_tmp2 rfl _ _ _) rfl ?_;exact⟨rfl,hk1.trans (hk2.lower hk1.size hk1.size)⟩
def EvsAt (w:World)(v:Value)(es:List Ev):Prop:=∃ao cap,v=.slice ao es.length cap∧es.length<=cap∧cap<=maxLen∧∀i,i<es.length->∃g,ao=some ⟨g,0,none⟩∧g<w.heap.size∧∀j u,(es.getD i ⟨0,0,0,0,0,0⟩).cells[j]? =some u->w.cell? ⟨g,i*6+j,none⟩=some u
theorem zLu (es:List Ev):∀(i j:Nat) (u:Value),i<es.length->(es.getD i ⟨0,0,0,0,0,0⟩).cells[j]? =some u->(zX es)[i*6+j]? =some u:=by
 induction es with
 |nil=>intro i j u hi;exact absurd hi (Nat.not_lt_zero _)
 |cons e es ih=>
  intro i j u hi hu;have hc:(zX (e::es))=e.cells++zX es:=by simp[zX]
  have h6:e.cells.length=6:=rfl;rw[hc];cases i with
  |zero=>
   have hu2:=hu;have hj:j<6:=by rw[<-h6];exact(List.getElem?_eq_some_iff.1 hu2).1
   rw[Nat.zero_mul,Nat.zero_add,List.getElem?_append_left (by omega)];exact hu2
  |succ i=>
   rw[List.getElem?_append_right (by omega),h6,show(i+1)*6+j-6=i*6+j by omega];exact ih i j u (by simpa using hi) hu
theorem zJr {w:World}{H:Nat}{v:Value}{es:List Ev}(h:w.ownsRow H 51 6 v es.length (zX es)):EvsAt w v es:=by
 obtain⟨ao,cap,rfl,h1,h2⟩:=zC4 h;refine⟨ao,cap,rfl,h1,h2,fun i hi=>?_⟩;obtain⟨g,cap2,hv,h3,h4,h5,h6,h7,h8⟩:=qG h (by omega);injection hv with e1 e2 e3;exact⟨g,e1,h4,fun j u hu=>h7 _ u (zLu es i j u hi hu)⟩
theorem EvsAt.grown {w w':World}{v:Value}{es:List Ev}(h:EvsAt w v es)(hk:Grew w w'):EvsAt w' v es:=by
 obtain⟨ao,cap,rfl,h1,h2,h3⟩:=h;refine⟨ao,cap,rfl,h1,h2,fun i hi=>?_⟩;obtain⟨g,e1,e2,e3⟩:=h3 i hi;exact⟨g,e1,Nat.lt_of_lt_of_le e2 hk.size,fun j u hu=>zA (e3 j u hu) e2 hk⟩
theorem zCC (w:World)(va vb:Value)(es:List Ev)(hA:EvsAt w va es)(hB:EvsAt w vb es):
  Calls prog 32 #[va,vb] w fun e w'=>e=.returned (.bool true)∧Grew w w':=by
 obtain⟨aa,ca,rfl,ha1,ha2,hac⟩:=hA;obtain⟨ab,cb,rfl,-,-,hbc⟩:=hB;have hl:es.length<=9223372036854775807:=by unfold maxLen at ha2;omega
 have HAC:=vl hac;have HBC:=vl hbc;generalize hn:es.length=n at *;go_in;go_wp2;go_loopg [5] n (fun q i wr=>∃j:Nat,q=n-j∧j<=n∧i=.int .i64 (j:Int)∧Grew w wr)
 case atStart=>exact⟨0,rfl,Nat.zero_le _,rfl,⟨rfl,rfl,Nat.le_refl _,fun _ _ _=>rfl⟩⟩
 case round=>
  obtain⟨j,hgk,hj,rfl,hkp⟩:=hrel;have HA:Hid (gk=n-j∧Grew w wr):=⟨hgk,hkp⟩
  by_cases hj2:j<n
  ·have i1:(j:Int)<(n:Int):=by omega
   obtain⟨b1,rfl,hb1,c1⟩:=HAC.out j hj2;obtain⟨b2,rfl,hb2,c2⟩:=HBC.out j hj2;generalize es.getD j ⟨0,0,0,0,0,0⟩=ev at *;obtain⟨k0,k1,k2,k3,k4,k5⟩:=ev;have y0:wr.cell? ⟨b1,j*6,none⟩=some (.int .i64 k0):=zA (c1 0 _ rfl) hb1 hkp;have y1:wr.cell? ⟨b1,j*6+1,none⟩=some (.int .i64 k1):=zA (c1 1 _ rfl) hb1 hkp;have y2:wr.cell? ⟨b1,j*6+2,none⟩=some (.int .i64 k2):=zA (c1 2 _ rfl) hb1 hkp;have y3:wr.cell? ⟨b1,j*6+3,none⟩=some (.int .i64 k3):=zA (c1 3 _ rfl) hb1 hkp;have y4:wr.cell? ⟨b1,j*6+4,none⟩=some (.int .i64 k4):=zA (c1 4 _ rfl) hb1 hkp;have y5:wr.cell? ⟨b1,j*6+5,none⟩=some (.int .i64 k5):=zA (c1 5 _ rfl) hb1 hkp;have z0:wr.cell? ⟨b2,j*6,none⟩=some (.int .i64 k0):=zA (c2 0 _ rfl) hb2 hkp;have z1:wr.cell? ⟨b2,j*6+1,none⟩=some (.int .i64 k1):=zA (c2 1 _ rfl) hb2 hkp;have z2:wr.cell? ⟨b2,j*6+2,none⟩=some (.int .i64 k2):=zA (c2 2 _ rfl) hb2 hkp;have z3:wr.cell? ⟨b2,j*6+3,none⟩=some (.int .i64 k3):=zA (c2 3 _ rfl) hb2 hkp;have z4:wr.cell? ⟨b2,j*6+4,none⟩=some (.int .i64 k4):=zA (c2 4 _ rfl) hb2 hkp;have z5:wr.cell? ⟨b2,j*6+5,none⟩=some (.int .i64 k5):=zA (c2 5 _ rfl) hb2 hkp;go_wp2;go_quiet (fail);go_wp2;go_roundg (n-(j+1))
   case measure=>rw[HA.out.1];omega
   case rel=>exact⟨j+1,rfl,by omega,by go_num,HA.out.2.trans (Keep.alike (w':=wr.drewN nq) ⟨rfl,rfl,rfl⟩)⟩
  ·have i1:¬((j:Int)<(n:Int)):=by omega
   go_wp2;refine bodyPost_ret (results_tmp rfl _ _ _) rfl ?_;exact⟨rfl,HA.out.2⟩
structure ScAt (w:World)(S:Nat->Prop)(p b:Nat)(t:Tb)(r:Rs)(P:Nat):Prop where
 run:zK w b r (.slice none 0 0)
 tab:TabAt w S p t
 tp:r.tp=p
 lt:b<w.heap.size
 safe:∀k,S k->k<w.heap.size∧k≠b
 good:r.Good t P
theorem ScAt.cv {w:World}{S:Nat->Prop}{p b:Nat}{t:Tb}{r:Rs}{P:Nat}(h:ScAt w S p b t r P):Cv w.heap.size b S t w r (.slice none 0 0) []:=⟨h.run,ownsRow_nil _ _ _ _,by rw[h.tp];exact h.tab,h.lt,Nat.le_refl _,h.safe⟩
theorem zG1 {w:World}{S:Nat->Prop}{L p:Nat}{t:Tb}(h:LexAt w S L p t)(ft:t.Fine):Calls prog 34 #[.pointer (some ⟨L,0,none⟩)] w fun e w'=>∃b,e=.returned (.pointer (some ⟨b,0,none⟩))∧w.heap.size<=b∧ScAt w' S p b t (Rs.born t p) 0∧Grew w w':=by
 refine(zBP L p S t w h.cell h.tab h.safe ft).mono ?_;rintro e w' ⟨b,rfl,h1,h2,h3,hk⟩;refine⟨b,rfl,h1,⟨h3,h.tab.keep fun k e=>hk.block k (h.safe k e) (Nat.ne_of_lt (h.safe k e)),rfl,h2,fun k e=>⟨Nat.lt_of_lt_of_le (h.safe k e) hk.size,?_⟩,Rs.born_good t p ft⟩,hk⟩;have:=h.safe k e;omega
theorem zHG {w:World}{S:Nat->Prop}{p b:Nat}{t:Tb}{r:Rs}{P:Nat}(h:ScAt w S p b t r P)(ft:t.Fine)(s:ByteArray)(hP:P+s.size<4194000):Calls prog 35 #[.pointer (some ⟨b,0,none⟩),.string s] w fun e w'=>∃v,e=.returned v∧EvsAt w' v (Rs.feed t (nats s) r).2∧ScAt w' S p b t (Rs.feed t (nats s) r).1 (P+s.size)∧Keep w.heap.size b w w':=by
 refine(zBI b w.heap.size S t w r s P h.cv ft h.good hP).mono ?_;rintro e w' ⟨v,rfl,h1,h2,hk⟩;obtain⟨g,-,-⟩:=Rs.feed_inv t ft.ok (nats s) r P h.good (zGI s);rw[jZ] at g;exact⟨v,rfl,zJr h2,⟨h1,h.tab.keep fun k e=>hk.block k (h.safe k e).1 (h.safe k e).2,(Rs.feed_tp t (nats s) r).trans h.tp,Nat.lt_of_lt_of_le h.lt hk.size,fun k e=>⟨Nat.lt_of_lt_of_le (h.safe k e).1 hk.size,(h.safe k e).2⟩,g⟩,hk⟩
theorem zHt {w:World}{S:Nat->Prop}{L p:Nat}{t:Tb}(h:LexAt w S L p t)(ft:t.Fine)(s:ByteArray)(hs:s.size<=1048576):Calls prog 27 #[.pointer (some ⟨L,0,none⟩),.string s] w fun e w'=>∃v,e=.returned v∧EvsAt w' v (t.events p s)∧Grew w w':=by
 refine(zEK L p S t w s h.cell h.tab h.safe ft hs).mono ?_;rintro e w' ⟨v,rfl,h2,hk⟩;exact⟨v,rfl,zJr h2,hk⟩
theorem zD0 (a b:ByteArray):nats (a++b)=nats a++nats b:=by
 unfold nats;rw[<-List.map_append]
 congr 1
theorem zIM (s:ByteArray)(n:Nat)(h:n<=s.size):nats s=nats (s.extract 0 n)++nats (s.extract n s.size):=by
 rw[<-zD0]
 congr 1
 apply ByteArray.ext;rw[ByteArray.data_append,ByteArray.data_extract,ByteArray.data_extract];simp;rw[Nat.max_eq_right h];exact Array.extract_size.symm
theorem zI6 (t:Tb)(p:Nat)(x y:ByteArray):∃rest,t.events p (x++y)=(Rs.feed t (nats x) (Rs.born t p)).2++rest:=by
 unfold Tb.events;rw[zD0,Rs.feed_append,List.append_assoc];exact⟨_,rfl⟩
theorem zHZ (t:Tb)(p:Nat)(s:ByteArray)(n:Nat)(h:n<=s.size):∃rest,t.events p s=(Rs.feed t (nats (s.extract 0 n)) (Rs.born t p)).2++rest:=by
 unfold Tb.events;rw[zIM s n h,Rs.feed_append,List.append_assoc];exact⟨_,rfl⟩
theorem EvsAt.pre {w:World}{ao:Option Addr}{n cap:Nat}{es rest:List Ev}(h:EvsAt w (.slice ao n cap) (es++rest)):n=(es++rest).length∧es.length<=n∧n<=cap∧EvsAt w (.slice ao es.length cap) es:=by
 obtain⟨ao',cap',hv,h1,h2,h3⟩:=h;injection hv with e1 e2 e3;subst e1 e3;rw[List.length_append] at h1 e2 h3;refine⟨by rw[List.length_append];exact e2,by omega,by omega,ao,cap,rfl,by omega,h2,fun i hi=>?_⟩;obtain⟨g,a1,a2,a3⟩:=h3 i (by omega);refine⟨g,a1,a2,fun j u hu=>a3 j u ?_⟩;rw[List.getD_eq_getElem?_getD,List.getElem?_append_left hi,<-List.getD_eq_getElem?_getD];exact hu
theorem zGp (w:World)(S:Nat->Prop)(L p:Nat)(t:Tb)(hL:LexAt w S L p t)(ft:t.Fine)(s:ByteArray)(hs:s.size<=65536)(a b:Int)(ha1:-9223372036854775808<=a)(ha2:a<=9223372036854775807)(hb1:-9223372036854775808<=b)(hb2:b<=9223372036854775807):
  Calls prog 21 #[.pointer (some ⟨L,0,none⟩),.string s,.int .i64 a,.int .i64 b] w fun e w'=>e=.returned (.bool true)∧Grew w w':=by
 have HSC:Hid (∀w2 s,Grew w w2->s.size<=1048576->Calls prog 27 #[.pointer (some ⟨L,0,none⟩),.string s] w2 fun e w'=>∃ao n cap,e=.returned (.slice ao n cap)∧EvsAt w' (.slice ao n cap) (t.events p s)∧Grew w2 w'):=fun w2 s hk h=>(zHt (hL.grown hk) ft s h).mono (by rintro e w' ⟨v,rfl,h1,h2⟩;obtain⟨ao,cap,rfl,-⟩:=id h1;exact⟨ao,_,cap,rfl,h1,h2⟩);have HBG:Hid (∀w2,Grew w w2->Calls prog 34 #[.pointer (some ⟨L,0,none⟩)] w2 fun e w'=>∃b,e=.returned (.pointer (some ⟨b,0,none⟩))∧w2.heap.size<=b∧ScAt w' S p b t (Rs.born t p) 0∧Grew w2 w'):=fun w2 hk=>zG1 (hL.grown hk) ft;obtain⟨n,hn⟩:∃n,n=zC2 a (s.size+1):=⟨_,rfl⟩
 obtain⟨m,hm⟩:∃m,m=zC2 b (s.size+1):=⟨_,rfl⟩
 have hn2:n<=s.size:=by have:=zEW a (s.size+1) (by omega);omega
 have hm2:m<=s.size:=by have:=zEW b (s.size+1) (by omega);omega
 have HPA:Hid (∀w2,Calls prog 15 #[.int .i64 a,.int .i64 ((s.size:Int)+1)] w2 fun e w'=>e=.returned (.int .i64 (n:Nat))∧w'=w2):=fun w2=>by have:=zCE w2 a ha1 ha2 (s.size+1) (by omega) (by omega);rw[<-hn] at this;exact this
 have HPB:Hid (∀w2,Calls prog 15 #[.int .i64 b,.int .i64 ((s.size:Int)+1)] w2 fun e w'=>e=.returned (.int .i64 (m:Nat))∧w'=w2):=fun w2=>by have:=zCE w2 b hb1 hb2 (s.size+1) (by omega) (by omega);rw[<-hm] at this;exact this
 clear hn hm hL ha1 ha2 hb1 hb2;have z1:(s.extract 0 n).size=n:=by rw[ByteArray.size_extract];omega
 have z2:(s.extract m s.size).size=s.size-m:=by rw[ByteArray.size_extract];omega
 have i1:(n:Int)<=(s.size:Int):=by omega
 have i2:(m:Int)<=(s.size:Int):=by omega
 obtain⟨F,hF⟩:∃F,F=(Rs.feed t (nats (s.extract 0 n)) (Rs.born t p)).2:=⟨_,rfl⟩
 have HP1:Hid (∃rest,t.events p s=F++rest):=by rw[hF];exact zHZ t p s n hn2
 have HP2:Hid (∃rest,t.events p (s.extract 0 n++s.extract m s.size)=F++rest):=by rw[hF];exact zI6 t p _ _
 have HP3:Hid (∃rest,t.events p (s.extract 0 n)=F++rest):=by rw[hF];exact⟨_,rfl⟩
 have HPU:Hid (∀w2 b,ScAt w2 S p b t (Rs.born t p) 0->Calls prog 35 #[.pointer (some ⟨b,0,none⟩),.string (s.extract 0 n)] w2 fun e w'=>∃ao cap,e=.returned (.slice ao F.length cap)∧EvsAt w' (.slice ao F.length cap) F∧Keep w2.heap.size b w2 w'):=fun w2 b h=>(zHG h ft (s.extract 0 n) (by omega)).mono (by rw[hF];rintro e w' ⟨v,rfl,h1,-,h2⟩;obtain⟨ao,cap,rfl,-⟩:=id h1;exact⟨ao,cap,rfl,h1,h2⟩);clear hF ft;go_in;refine wp_cut ?_;intro K0 HK0;go_wp2;refine HK0.out _ _ ?_;clear HK0;refine wp_cut ?_;intro K0 HK0;go_wp2_with (first|(go_at_call 15;refine(HPA.out _).mono ?_;rintro e w0 ⟨rfl,hw0⟩;have hw8:=hw0.symm;subst hw8))
 refine HK0.out _ _ ?_;clear HK0;refine wp_cut ?_;intro K0 HK0;go_wp2_with (first|(go_at_call 34;refine(HBG.out w (Keep.refl _ _ _)).mono ?_;rintro e w1 ⟨bb,rfl,hbl,hsc1,hk1⟩))
 refine HK0.out _ _ ?_;clear HK0;have HU2:=vl <| HPU.out w1 bb hsc1;have K1:Hid (Grew w w1∧w.heap.size<=bb):=⟨hk1,hbl⟩
 clear hsc1 hk1 hbl HPU HBG HPA;refine wp_cut ?_;intro K0 HK0;go_wp2_with (first|(go_at_call 35;refine HU2.out.mono ?_;rintro e w2 ⟨al,cl,rfl,hel,hk2⟩))
 refine HK0.out _ _ ?_;clear HK0;have K2:Hid (Grew w w2∧EvsAt w2 (.slice al F.length cl) F):=⟨K1.out.1.trans (hk2.lower K1.out.1.size K1.out.2),hel⟩
 clear hel hk2 HU2 K1;refine wp_cut ?_;intro K0 HK0;go_wp2_with (first|(go_at_call 27;refine(HSC.out w2 s K2.out.1 (by omega)).mono ?_;rintro e w3 ⟨au,nu,cu,rfl,heu,hk3⟩))
 refine HK0.out _ _ ?_;clear HK0;have K3:Hid (Grew w w3∧EvsAt w3 (.slice al F.length cl) F∧EvsAt w3 (.slice au nu cu) (t.events p s)):=⟨K2.out.1.trans (hk3.lower K2.out.1.size K2.out.1.size),K2.out.2.grown hk3,heu⟩
 clear heu hk3 K2;refine wp_cut ?_;intro K0 HK0;go_wp2_with (first|(go_at_call 15;refine(HPB.out _).mono ?_;rintro e w0 ⟨rfl,hw0⟩;have hw8:=hw0.symm;subst hw8))
 refine HK0.out _ _ ?_;clear HK0;clear HPB;refine wp_cut ?_;intro K0 HK0;have hcc:(s.extract 0 n++s.extract m s.size).size<=1048576:=by rw[ByteArray.size_append,z1,z2];omega
 have HS4:Hid (Calls prog 27 #[.pointer (some ⟨L,0,none⟩),.string (s.extract 0 n++s.extract m s.size)] w3.drew fun e w'=>∃ao n2 cap,e=.returned (.slice ao n2 cap)∧EvsAt w' (.slice ao n2 cap) (t.events p (s.extract 0 n++s.extract m s.size))∧Grew w3 w'):=(HSC.out w3.drew _ (K3.out.1.trans (Keep.drew _)) hcc).mono (by rintro e w' ⟨a1,a2,a3,rfl,h1,h2⟩;exact⟨a1,a2,a3,rfl,h1,h2.undrew⟩);clear hcc;go_region_with ((go_at_call 27;go_must ((refine HS4.out.mono ?_;rintro e w4 ⟨av,nv,cv,rfl,hev,hk4⟩))))
 have K4:Hid (Grew w w4∧EvsAt w4 (.slice al F.length cl) F∧EvsAt w4 (.slice au nu cu) (t.events p s)∧EvsAt w4 (.slice av nv cv) (t.events p (s.extract 0 n++s.extract m s.size))):=⟨K3.out.1.trans (hk4.lower K3.out.1.size K3.out.1.size),K3.out.2.1.grown hk4,K3.out.2.2.grown hk4,hev⟩
 clear hev hk4 K3 HS4;show K0 _ _;refine HK0.out _ _ ?_;clear HK0;refine wp_cut ?_;intro K0 HK0;go_wp2_with (first|(go_at_call 27;refine(HSC.out w4 (s.extract 0 n) K4.out.1 (by rw[z1];omega)).mono ?_;rintro e w5 ⟨aw,nw,cw,rfl,hew,hk5⟩))
 refine HK0.out _ _ ?_;clear HK0;have K5:Hid (Grew w w5∧EvsAt w5 (.slice al F.length cl) F∧EvsAt w5 (.slice au nu cu) (t.events p s)∧EvsAt w5 (.slice av nv cv) (t.events p (s.extract 0 n++s.extract m s.size))∧EvsAt w5 (.slice aw nw cw) (t.events p (s.extract 0 n))):=⟨K4.out.1.trans (hk5.lower K4.out.1.size K4.out.1.size),K4.out.2.1.grown hk5,K4.out.2.2.1.grown hk5,K4.out.2.2.2.grown hk5,hew⟩
 clear hew hk5 K4 HSC z1 z2 i1 i2 hn2 hm2;obtain⟨r1,hr1⟩:=HP1.out;obtain⟨r2,hr2⟩:=HP2.out;obtain⟨r3,hr3⟩:=HP3.out;obtain⟨f1,f2,f3,f4⟩:nu=(F++r1).length∧F.length<=nu∧nu<=cu∧EvsAt w5 (.slice au F.length cu) F:=EvsAt.pre (by rw[<-hr1];exact K5.out.2.2.1);obtain⟨g1,g2,g3,g4⟩:nv=(F++r2).length∧F.length<=nv∧nv<=cv∧EvsAt w5 (.slice av F.length cv) F:=EvsAt.pre (by rw[<-hr2];exact K5.out.2.2.2.1);obtain⟨e1,e2,e3,e4⟩:nw=(F++r3).length∧F.length<=nw∧nw<=cw∧EvsAt w5 (.slice aw F.length cw) F:=EvsAt.pre (by rw[<-hr3];exact K5.out.2.2.2.2);have KS:Hid (∀w6,Grew w5 w6->(Calls prog 32 #[.slice al F.length cl,.slice au F.length cu] w6 fun e w'=>e=.returned (.bool true)∧Grew w6 w')∧(Calls prog 32 #[.slice al F.length cl,.slice av F.length cv] w6 fun e w'=>e=.returned (.bool true)∧Grew w6 w')∧(Calls prog 32 #[.slice al F.length cl,.slice aw F.length cw] w6 fun e w'=>e=.returned (.bool true)∧Grew w6 w')):=fun w6 hk=>⟨zCC w6 _ _ F (K5.out.2.1.grown hk) (f4.grown hk),zCC w6 _ _ F (K5.out.2.1.grown hk) (g4.grown hk),zCC w6 _ _ F (K5.out.2.1.grown hk) (e4.grown hk)⟩
 have j1:(F.length:Int)<=(nu:Int):=by omega
 have j2:(F.length:Int)<=(nv:Int):=by omega
 have j3:(F.length:Int)<=(nw:Int):=by omega
 have j4:(nu:Int)<=(cu:Int):=by omega
 have j5:(nv:Int)<=(cv:Int):=by omega
 have j6:(nw:Int)<=(cw:Int):=by omega
 clear f1 f4 g1 g4 e1 e4 hr1 hr2 hr3 HP1 HP2 HP3;generalize F.length=N at *;refine wp_cut ?_;intro K0 HK0;go_wp2;refine HK0.out _ _ ?_;clear HK0;refine wp_cut ?_;intro K0 HK0;go_wp2;refine HK0.out _ _ ?_;clear HK0;refine wp_cut ?_;intro K0 HK0;go_wp2_with (first|(go_at_call 32;refine(KS.out w5 (Keep.refl _ _ _)).1.mono ?_;rintro e w6 ⟨rfl,hk6⟩))
 refine HK0.out _ _ ?_;clear HK0;refine wp_cut ?_;intro K0 HK0;go_wp2_with (first|(go_at_call 32;refine(KS.out w6 hk6).2.1.mono ?_;rintro e w7 ⟨rfl,hk7⟩))
 refine HK0.out _ _ ?_;clear HK0;have hk67:=hk6.trans (hk7.lower hk6.size hk6.size);refine wp_cut ?_;intro K0 HK0;go_wp2_with (first|(go_at_call 32;refine(KS.out w7 hk67).2.2.mono ?_;rintro e w8 ⟨rfl,hk8⟩))
 refine HK0.out _ _ ?_;clear HK0;go_wp2;refine bodyPost_ret (results_tmp rfl _ _ _) rfl ?_;have hk68:=hk67.trans (hk8.lower hk67.size hk67.size);exact⟨rfl,K5.out.1.trans (hk68.lower K5.out.1.size K5.out.1.size)⟩
theorem zEF (w:World)(s d:ByteArray)(hold a b:Int)(fo:Bool)(HB:Calls prog 14 #[.string s,.string d] w fun e w'=>e=.returned (.tuple #[.bool false,.bool true])∧Grew w w'):Calls prog 8 #[.string s,.string d,.int .i64 hold,.bool fo,.int .i64 a,.int .i64 b] w fun e w'=>e=.returned (.bool true)∧Grew w w':=by
 have HBG:Hid (Calls prog 14 #[.string s,.string d] w fun e w'=>e=.returned (.tuple #[.bool false,.bool true])∧Grew w w'):=HB;clear HB;go_enter func8,ntmps8
 go_wp2_with (first|(go_at_call 14;refine HBG.out.mono ?_;rintro e w1 ⟨rfl,hk1⟩))
 refine bodyPost_ret (results_tmp rfl _ _ _) rfl ?_;exact⟨rfl,hk1⟩
theorem zIx (w:World)(s d:ByteArray)(hold:Int)(fo:Bool)(a b:Int)(hh1:-9223372036854775808<=hold)(hh2:hold<=9223372036854775807)(ha1:-9223372036854775808<=a)(ha2:a<=9223372036854775807)(hb1:-9223372036854775808<=b)(hb2:b<=9223372036854775807):Calls prog 8 #[.string s,.string d,.int .i64 hold,.bool fo,.int .i64 a,.int .i64 b] w fun e w'=>e=.returned (.bool true)∧Grew w w':=by
 by_cases hz:65536<s.size∨65536<d.size
 ·exact zEF w s d hold a b fo (zIa w s d hz)
 have hs:s.size<=65536:=by omega
 have hd:d.size<=65536:=by omega
 cases hl:zAC s with
 |none=>exact zEF w s d hold a b fo (by have:=zEa w s d hs hd;rw[hl] at this;exact this)
 |some y=>
 have HBG:Hid (Calls prog 14 #[.string s,.string d] w fun e w'=>e=.returned (.tuple #[.bool true,.bool true])∧Grew w w'):=by have:=zEa w s d hs hd;rw[hl] at this;exact this
 obtain⟨h,hh⟩:∃h,h=zC2 hold 64:=⟨_,rfl⟩
 have h64:h<64:=by rw[hh];exact zEW _ _ (by decide)
 have HPK:Hid (∀w2,Calls prog 15 #[.int .i64 hold,.int .i64 64] w2 fun e w'=>e=.returned (.int .i64 (h:Nat))∧w'=w2):=fun w2=>by rw[hh];exact zCE w2 hold hh1 hh2 64 (by decide) (by decide)
 have HOF:Hid (∀w2,Calls prog 16 #[.string s,.int .i64 (1+(h:Int)),.bool fo] w2 fun e w'=>Grew w2 w'∧∃L m0 m1 m2 s0 s1 s2 v0 v1 v2 AH ST LN,e=.returned (.tuple #[.pointer (some ⟨L,0,none⟩),.agg #[.slice m0 m1 m2,.slice s0 s1 s2,.slice v0 v1 v2,.int .i64 AH,.bool ST,.int .i64 LN]])∧∀w3,Grew w' w3->Calls prog 21 #[.pointer (some ⟨L,0,none⟩),.string d,.int .i64 a,.int .i64 b] w3 fun e w4=>e=.returned (.bool true)∧Grew w3 w4):=fun w2=>by
  have hc:=zHP w2 s (by omega) (1+h) (by omega) (by omega) fo;rw[show ((1+h:Nat):Int)=1+(h:Int) by omega] at hc;refine hc.mono ?_;rintro e w' ⟨hk,x,m0,m1,m2,s0,s1,s2,v0,v1,v2,AH,ST,LN,rfl,hq⟩;unfold OfQ at hq;rw[hl] at hq;obtain⟨L,t,rfl,-,-,hL⟩:=hq;refine⟨hk,L,m0,m1,m2,s0,s1,s2,v0,v1,v2,AH,ST,LN,rfl,fun w3 hk3=>?_⟩;obtain⟨S,p,hA,-⟩:=hL.at_;exact zGp w3 S L p t (hA.grown hk3) hL.fine d hd a b ha1 ha2 hb1 hb2
 clear hh hh1 hh2 ha1 ha2 hb1 hb2 hl hz;go_enter func8,ntmps8
 refine wp_seq_k ?_;intro K0 hK0;have HK0:Hid (∀a w,_->K0 a w):=hK0;clear hK0;go_wp2_with fail;refine HK0.out _ _ ?_;clear HK0;refine wp_seq_k ?_;intro K0 hK0;have HK0:Hid (∀a w,_->K0 a w):=hK0;clear hK0;go_wp2_with (first|(go_at_call 14;refine HBG.out.mono ?_;rintro e w1 ⟨rfl,hk1⟩))
 refine HK0.out _ _ ?_;clear HK0;refine wp_seq_k ?_;intro K0 hK0;have HK0:Hid (∀a w,_->K0 a w):=hK0;clear hK0;go_wp2_with fail;refine HK0.out _ _ ?_;clear HK0;refine wp_seq_k ?_;intro K0 hK0;have HK0:Hid (∀a w,_->K0 a w):=hK0;clear hK0;go_wp2_with (first|(go_at_call 15;refine(HPK.out _).mono ?_;rintro e w0 ⟨rfl,hw0⟩;have hw8:=hw0.symm;subst hw8)|(go_at_call 16;refine(HOF.out _).mono ?_;rintro e w2 ⟨hk2,L,m0,m1,m2,s0,s1,s2,v0,v1,v2,AH,ST,LN,rfl,HST⟩))
 refine HK0.out _ _ ?_;clear HK0;obtain⟨w3,hw3,HW3⟩:∃w3,w3=w2.alloc (.cells #[.slice m0 m1 m2,.slice s0 s1 s2,.slice v0 v1 v2,.int .i64 AH,.bool ST,.int .i64 LN] 30)∧Hid (Grew w w3):=⟨_,rfl,(hk1.trans (hk2.lower hk1.size hk1.size)).trans (Keep.alloc _ _ (Nat.le_trans hk1.size hk2.size))⟩
 have HS3:Hid (Calls prog 21 #[.pointer (some ⟨L,0,none⟩),.string d,.int .i64 a,.int .i64 b] w3 fun e w4=>e=.returned (.bool true)∧Grew w3 w4):=by rw[hw3];exact HST _ (Keep.alloc _ _ (Nat.le_refl _))
 rw[<-hw3];clear hw3 HST hk2 hk1 HOF HBG HPK;go_wp2_with (first|(go_at_call 21;refine HS3.out.mono ?_;rintro e w4 ⟨rfl,hk4⟩))
 refine bodyPost_ret (results_tmp rfl _ _ _) rfl ?_;exact⟨rfl,HW3.out.trans (hk4.lower HW3.out.size HW3.out.size)⟩
section
open Go.ChangeShapes Go.WideShapes Go.ChangeAt Go.RowKit
open Go.ChangeMaps (open_string shut_string)
theorem zFz (os:Os)(started:os.Started)(H:Type)(enc:TypeId×Value->H):
  ReturnsInHanded {} checked os 8 .any (Rows.stableSpec.pre6 enc prog f8 Rows.stableRow.domain false) (Rows.stableSpec.post enc prog f8 false true false false):=by
 refine returnsInHanded_of_change (C:=checked) own started (by kernel_rfl) func8
  (ChangeSpec.witness6 (enc:=enc) (C:=checked) false ⟨#[],#[.string ⟨#[]⟩,.string ⟨#[]⟩,.int .i64 0,.bool false,.int .i64 0,.int .i64 0],[]⟩ 8 (by kernel_rfl) (by kernel_rfl) (by kernel_rfl) (by kernel_rfl)) ?_
 intro W base args ds gs before hval0 hW _ _;have hval:=hval0;have hW':=hW;obtain⟨p,q,hA0,hV,rfl,hfz,hnd⟩:=hW;have hA:=hA0;rw[params8] at hA hval;obtain⟨v0,vs0,d0,ds0,p0,q0,hargs,rfl,rfl,h0,r0⟩:=trodAll_cons hA;obtain⟨v1,vs1,d1,ds1,p1,q1,rfl,rfl,rfl,h1,r1⟩:=trodAll_cons r0;obtain⟨v2,vs2,d2,ds2,p2,q2,rfl,rfl,rfl,h2,r2⟩:=trodAll_cons r1;obtain⟨v3,vs3,d3,ds3,p3,q3,rfl,rfl,rfl,h3,r3⟩:=trodAll_cons r2;obtain⟨v4,vs4,d4,ds4,p4,q4,rfl,rfl,rfl,h4,r4⟩:=trodAll_cons r3;obtain⟨v5,vs5,d5,ds5,p5,q5,rfl,rfl,rfl,h5,r5⟩:=trodAll_cons r4;obtain⟨rfl,rfl,rfl⟩:=trodAll_nil r5;have hargs2:args=#[v0,v1,v2,v3,v4,v5]:=by cases args;simp_all
 subst hargs2;obtain⟨rfl,rfl⟩:=trodVars_none hV;obtain⟨a0,rfl,rfl,rfl,w0⟩:=open_string underlying9 (hval 0 9 v0 rfl rfl) h0;obtain⟨a1,rfl,rfl,rfl,w1⟩:=open_string underlying9 (hval 1 9 v1 rfl rfl) h1;obtain⟨a2,rfl,rfl,rfl,w2⟩:=open_int underlying3 (hval 2 3 v2 rfl rfl) h2;obtain⟨l2,u2⟩:=zIX w2;obtain⟨a3,rfl,rfl,rfl⟩:=open_bool underlying4 (hval 3 4 v3 rfl rfl) h3;obtain⟨a4,rfl,rfl,rfl,w4⟩:=open_int underlying3 (hval 4 3 v4 rfl rfl) h4;obtain⟨l4,u4⟩:=zIX w4;obtain⟨a5,rfl,rfl,rfl,w5⟩:=open_int underlying3 (hval 5 3 v5 rfl rfl) h5;obtain⟨l5,u5⟩:=zIX w5;simp only[List.append_nil] at hW';refine(zIx W a0 a1 a2 a3 a4 a5 l2 u2 l4 u4 l5 u5).mono fun e W' ⟨he,hk⟩=>?_;subst he;exact⟨_,rfl,zIE hW' (fun _ _ _=>trodAll_mk1 (shut_bool underlying4 _)) (fun sp=>zB6 (shut_string underlying9 w0) (zB6 (shut_string underlying9 w1) (zB6 (shut_int underlying3 w2) (zB6 (shut_bool underlying4 a3) (zB6 (shut_int underlying3 w4) (zB6 (shut_int underlying3 w5) (trodAll_mk0))))))) (fun _=>rfl)
  (hk.frame _) (ok_one (by kernel_rfl) rfl (okWide_bool_mk underlying4 _))⟩
theorem stable_holds:Rows.StableSaid:=
 OpenClaim.holds_of_wide 8 f8 rfl rfl rfl rfl rfl rfl rfl ⟨rfl,rfl,rfl,rfl,rfl⟩ rfl rfl rfl rfl rfl (by kernel_rfl) func8 (by kernel_rfl)
  (of_decide_eq_true (by kernel_rfl)) (by unfold Func.isWrapper;first|(rw [if_pos (by decide +kernel)];kernel_rfl)|(rw [if_neg (by decide +kernel)];exact⟨rfl,rfl⟩))
  (fun os started H enc _=>zFz os started H enc)
end
end Go.Proofs.YtbjcfkdnjaiclaaGreat
