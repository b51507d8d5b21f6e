import Derived.Laws.AppendOwnNone
import Derived.ProofKit
import Derived.Test.YtbjcfkdnjaiclaaGreatRows
import Derived.Test.YtbjcfkdnjaiclaaGreatB0
import Derived.Test.YtbjcfkdnjaiclaaGreatB2
import Derived.Test.YtbjcfkdnjaiclaaGreatB4
import Derived.Test.YtbjcfkdnjaiclaaGreatB24
import Derived.Test.YtbjcfkdnjaiclaaGreatB29
import Derived.Test.YtbjcfkdnjaiclaaGreatB32
/- Parts of the proof. -/
set_option linter.unusedVariables false
set_option linter.unusedSimpArgs false
set_option maxHeartbeats 4000000
set_option maxRecDepth 100000
namespace Go.Proofs.YtbjcfkdnjaiclaaGreat
open Go.RowKit Go.Proofs.Tryz Go.World
theorem zKy (s:ByteArray)(k:Nat)(hk:k<s.size):(nats s).take (k+1)=(nats s).take k++[s[k].toNat]:=by
 unfold nats;rw[<-List.map_take,zKe s k hk,List.map_append,List.map_take];rfl
theorem zKP (t:Tb)(s:ByteArray)(k:Nat)(r:Rs)(hk:k<=s.size)(h:¬(k<s.size∧(Rs.feed t ((nats s).take k) r).1.opn=true)):Rs.feed t ((nats s).take k) r=Rs.feed t (nats s) r:=by
 by_cases e:k<s.size
 ·have ho:(Rs.feed t ((nats s).take k) r).1.opn=false:=by
   cases h':(Rs.feed t ((nats s).take k) r).1.opn with
   |false=>rfl
   |true=>exact absurd ⟨e,h'⟩ h
  conv=>rhs;rw[<-List.take_append_drop k (nats s),Rs.feed_append,Rs.feed_shut t _ _ ho,List.append_nil]
 ·rw[List.take_of_length_le (by rw[yR];omega)]
theorem zH2 {w:World}{H e z n:Nat}{v:Value}{xs:List Value}(h:w.ownsRow H e z v n xs):∃ao cap,v=.slice ao n cap:=by
 rcases h.2 with⟨h1,h2⟩|⟨g,cap,_,h1,_⟩
 ·exact⟨none,0,by rw[h1,h2]⟩
 ·exact⟨_,cap,h1⟩
theorem zH1 {w w':World}{H b e z n:Nat}{v:Value}{xs:List Value}(h:w.ownsRow H e z v n xs)(hk:∀H,Keep H b w w')(hb:b<H):w'.ownsRow H e z v n xs:=by
 refine⟨h.1,h.2.imp id ?_⟩;rintro⟨g,cap,cur,hv,hg,hh,rest⟩;have hlt:=(kQ.1 hh).1;exact⟨g,cap,cur,hv,hg,((hk w.heap.size).block g hlt (by omega)).trans hh,rest⟩
theorem Rs.Good.str {r:Rs}{t:Tb}{P:Nat}(h:r.Good t P)(hs:t.stream=true):r.Str t P:=by unfold Rs.Good at h;rw[if_pos hs] at h;exact h
theorem Rs.Good.oth {r:Rs}{t:Tb}{P:Nat}(h:r.Good t P)(hs:t.stream=false):r.Oth t P:=by unfold Rs.Good at h;rw[if_neg (by rw[hs];decide)] at h;exact h
theorem zJq (b H:Nat)(S:Nat->Prop)(t:Tb)(w:World)(r:Rs){v0:Value}(es:List Ev)(P c:Nat)(hC:Cv H b S t w r v0 es)(ok:t.Ok)(hact:∀i,i<t.nrule->t.act i<4)(hG:r.Good t P)(hP:P<1073741824)(hn:es.length<=4194304)(hcb:c<256)(hs:t.stream=true):
  Calls prog 73 #[.pointer (some ⟨b,0,none⟩),.int .u8 c] w fun e w'=>
   e=.returned (.tuple #[])∧∃v,Cv H b S t w' (r.eat t c).1 v (es++(r.eat t c).2)∧Keep H b w w':=by
 have h:=hG.str hs;have h1:=h.pos;have h2:=h.line;have h3:=h.col;have h4:=h.cnt;have h5:=ok.ahead;have e:r.eat t c=r.take t c:=if_pos hs;rw[e];exact zIN b H S t w r es c hC hn ok hact h.ok h.ahead (by omega) hcb (by omega) (by omega) (by omega)
theorem zJr (b H:Nat)(S:Nat->Prop)(t:Tb)(w:World)(r:Rs){v0:Value}(es:List Ev)(P C c:Nat)(hC:Cv H b S t w r v0 es)(ok:t.Ok)(hact:∀i,i<t.nrule->t.act i<4)(hG:r.Good t P)(hP:P<1073741824)(hn:es.length+r.count+xA r.opn<=C)(hC4:C<4194304)(hcb:c<256)(hs:t.stream=false):
  Calls prog 74 #[.pointer (some ⟨b,0,none⟩),.int .u8 c] w fun e w'=>
   e=.returned (.tuple #[])∧∃v,Cv H b S t w' (r.eat t c).1 v (es++(r.eat t c).2)∧Keep H b w w':=by
 have e:r.eat t c=r.takeO t c:=if_neg (by rw[hs];decide);rw[e];exact zHx b H S t w r es P C c hC ok hact (hG.oth hs) hP hn hC4 hcb
theorem zFO (b H:Nat)(S:Nat->Prop)(t:Tb)(w:World)(r0:Rs){v0:Value}(es0:List Ev)(s:ByteArray)(P C:Nat)(hC:Cv H b S t w r0 v0 es0)(ok:t.Ok)(hact:∀i,i<t.nrule->t.act i<4)(hG:r0.Good t P)(hP:P+s.size<1073741824)(hn:es0.length+r0.count+xA r0.opn<=C)(hC4:C+s.size<4194304):
  Calls prog 50 #[.pointer (some ⟨b,0,none⟩),.string s] w fun e w'=>
   ∃v,e=.returned v∧zK w' b (Rs.feed t (nats s) r0).1 (.slice none 0 0)∧w'.ownsRow H 51 6 v (es0++(Rs.feed t (nats s) r0).2).length (zU (es0++(Rs.feed t (nats s) r0).2))∧Keep H b w w':=by
 have HC0:Hid (Cv H b S t w r0 v0 es0∧r0.Good t P∧es0.length+r0.count+xA r0.opn<=C):=⟨hC,hG,hn⟩
 go_in;apply wp_cut;intro K0 J;go_wp2;apply J.out;apply wp_cut;intro K HK;go_wp2;go_loopg [5] s.size (fun q i wr=>∃(k:Nat) (v:Value),q=s.size-k∧k<=s.size∧i=.int .i64 (k:Int)∧Cv H b S t wr (Rs.feed t ((nats s).take k) r0).1 v (es0++(Rs.feed t ((nats s).take k) r0).2)∧Keep H b w wr)
 case atStart=>exact⟨0,v0,rfl,lX,rfl,by rw[List.take_zero];show Cv H b S t w r0 v0 (es0++[]);rw[List.append_nil];exact HC0.out.1,Keep.refl _ _ _⟩
 case round=>
  obtain⟨k,v,hgk,hk,rfl,hC,hkp⟩:=hrel;have HD:=vl <| zKP t s k r0 hk;have HI:Hid ((Rs.feed t ((nats s).take k) r0).1.Good t (P+k)∧(es0++(Rs.feed t ((nats s).take k) r0).2).length+(Rs.feed t ((nats s).take k) r0).1.count+xA (Rs.feed t ((nats s).take k) r0).1.opn<=C+k):=by
   have h:=Rs.feed_inv t ok ((nats s).take k) r0 P HC0.out.2.1 (fun c hc=>vT s c (List.mem_of_mem_take hc));have hl:((nats s).take k).length=k:=by rw[List.length_take,yR];omega
   rw[hl] at h;have h3:=HC0.out.2.2;refine⟨h.1,?_⟩;rw[kX];omega
  have HS:Hid (∀hlt:k<s.size,(Rs.feed t ((nats s).take k) r0).1.opn=true->Rs.feed t ((nats s).take (k+1)) r0=(((Rs.feed t ((nats s).take k) r0).1.eat t s[k].toNat).1,(Rs.feed t ((nats s).take k) r0).2++((Rs.feed t ((nats s).take k) r0).1.eat t s[k].toNat).2)):=by
   intro hlt ho;rw[zKy s k hlt];exact Rs.feed_snoc t _ _ _ ho
  generalize hF:Rs.feed t ((nats s).take k) r0=F at *;obtain⟨r,es⟩:=F;have HF:=vl hF;have HA:Hid (Cv H b S t wr r v (es0++es)∧Keep H b w wr∧gk=s.size-k):=⟨hC,hkp,hgk⟩
  have y1:=hC.run.get_opn;have y0:=hC.run.get_tp;have x0:=hC.tab.c0;by_cases hcond:k<s.size∧r.opn=true
  ·obtain⟨hlt,hop⟩:=hcond
   rw[hop] at y1;have HS2:=vl <| HS.out hlt hop;have hb:=s[k].toNat_lt;cases hst:t.stream with
   |true=>
    have HT:=vl hst;rw[hst] at x0;go_wp2_with fail;refine(zJq b H S t wr r (es0++es) (P+k) s[k].toNat HA.out.1 ok hact HI.out.1 (by omega) (by have:=HI.out.2;omega) hb HT.out).mono ?_;rintro e w1 ⟨rfl,v1,c1,k1⟩;have C1:Hid (Cv H b S t w1 (r.eat t s[k].toNat).1 v1 ((es0++es)++(r.eat t s[k].toNat).2)∧Keep H b wr w1):=⟨c1,k1⟩
    go_wp2;go_roundg (s.size-(k+1))
    case measure=>rw[HA.out.2.2];omega
    case rel=>exact⟨k+1,v1,rfl,by omega,by go_num,by rw[HS2.out];rw[gU] at C1;exact C1.out.1,HA.out.2.1.trans C1.out.2⟩
   |false=>
    have HT:=vl hst;rw[hst] at x0;clear hst;go_wp2_with fail;refine(zJr b H S t wr r (es0++es) (P+k) (C+k) s[k].toNat HA.out.1 ok hact HI.out.1 (by omega) HI.out.2 (by omega) hb HT.out).mono ?_;rintro e w1 ⟨rfl,v1,c1,k1⟩;have C1:Hid (Cv H b S t w1 (r.eat t s[k].toNat).1 v1 ((es0++es)++(r.eat t s[k].toNat).2)∧Keep H b wr w1):=⟨c1,k1⟩
    clear c1 k1;go_wp2_with fail;go_roundg (s.size-(k+1))
    case measure=>rw[HA.out.2.2];omega
    case rel=>exact⟨k+1,v1,rfl,by omega,by go_num,by rw[HS2.out];rw[gU] at C1;exact C1.out.1,HA.out.2.1.trans C1.out.2⟩
  ·have HE:Hid (Rs.feed t (nats s) r0=(r,es)):=(HD.out hcond).symm
   obtain⟨ao,cap,hv⟩:=zH2 HA.out.1.own;have HV:Hid (v=.slice ao (es0++es).length cap):=hv;clear hv HS HD;have fin:∀wz,Cv H b S t wz r v (es0++es)->Keep H b w wz->Calls prog 75 #[.pointer (some ⟨b,0,none⟩)] wz fun e w'=>
     ∃v,e=.returned v∧zK w' b (Rs.feed t (nats s) r0).1 (.slice none 0 0)∧w'.ownsRow H 51 6 v (es0++(Rs.feed t (nats s) r0).2).length (zU (es0++(Rs.feed t (nats s) r0).2))∧Keep H b w w':=by
    intro wz hC hk;rw[HV.out] at hC;refine(zDt b wz r ao _ cap hC.run).mono ?_;rintro e w2 ⟨rfl,hR,hk2⟩;rw[HE.out];exact⟨_,rfl,hR,zH1 hC.own hk2 hC.bH,hk.trans (hk2 H)⟩
   by_cases hlt:k<s.size
   ·have hop:r.opn=false:=by
     cases h:r.opn with
     |false=>rfl
     |true=>exact absurd ⟨hlt,h⟩ hcond
    rw[hop] at y1;have HR:Hid (Calls prog 75 #[.pointer (some ⟨b,0,none⟩)] wr _):=fin wr HA.out.1 HA.out.2.1;clear hop hcond fin;go_wp2_with fail;apply HK.out;clear HK;go_wp2_with fail;refine HR.out.mono ?_;rintro e w2 ⟨v2,rfl,h2⟩;have H2:Hid _:=h2;clear h2;go_wp2_with fail;go_ret;exact⟨v2,rfl,H2.out⟩
   ·have HR:Hid (Calls prog 75 #[.pointer (some ⟨b,0,none⟩)] wr _):=fin wr HA.out.1 HA.out.2.1
    clear hcond fin;go_wp2_with fail;apply HK.out;clear HK;go_wp2_with fail;refine HR.out.mono ?_;rintro e w2 ⟨v2,rfl,h2⟩;have H2:Hid _:=h2;clear h2;go_wp2_with fail;go_ret;exact⟨v2,rfl,H2.out⟩
theorem zHG (b H:Nat)(S:Nat->Prop)(t:Tb)(w:World)(r:Rs){v0:Value}(es:List Ev)(P:Nat)(hC:Cv H b S t w r v0 es)(ok:t.Ok)(hact:∀i,i<t.nrule->t.act i<4)(hG:r.Good t P)(hP:P<1073741824)(hn:es.length+r.count<4194304)(hs:t.stream=true)(ho:r.opn=true):
  Calls prog 84 #[.pointer (some ⟨b,0,none⟩)] w fun e w'=>
   e=.returned (.tuple #[])∧∃v,Cv H b S t w' (r.shut t).1 v (es++(r.shut t).2)∧Keep H b w w':=by
 have h:=hG.str hs;have h1:=h.pos;have h2:=h.line;have h3:=h.col;have h4:=h.cnt;have h5:=ok.ahead;have e:r.shut t=r.closed t:=by unfold Rs.shut;rw[if_pos ho,if_pos hs]
 rw[e];exact zDp b H S t w r es hC hn ok hact ⟨h.ok,h.ahead,by omega,by omega,by omega⟩
theorem zHH (b H:Nat)(S:Nat->Prop)(t:Tb)(w:World)(r:Rs){v0:Value}(es:List Ev)(P:Nat)(hC:Cv H b S t w r v0 es)(ok:t.Ok)(hact:∀i,i<t.nrule->t.act i<4)(hG:r.Good t P)(hP:P<1073741824)(hn:es.length+r.count<4194304)(hs:t.stream=false)(ho:r.opn=true):
  Calls prog 85 #[.pointer (some ⟨b,0,none⟩)] w fun e w'=>
   e=.returned (.tuple #[])∧∃v,Cv H b S t w' (r.shut t).1 v (es++(r.shut t).2)∧Keep H b w w':=by
 have e:r.shut t=r.closeO t:=by unfold Rs.shut;rw[if_pos ho,if_neg (by rw[hs];decide)]
 rw[e];have o1:xA r.opn<=1:=by unfold xA;split <;> omega
 exact zHf b H S t w r es P 4194304 hC ok hact (hG.oth hs) (by omega) (by omega) (by omega)
theorem zEV (b H:Nat)(S:Nat->Prop)(t:Tb)(w:World)(r:Rs)(P:Nat)(hC:Cv H b S t w r (.slice none 0 0) [])(ok:t.Ok)(hact:∀i,i<t.nrule->t.act i<4)(hG:r.Good t P)(hP:P<1073741824):
  Calls prog 55 #[.pointer (some ⟨b,0,none⟩)] w fun e w'=>
   ∃v,e=.returned v∧zK w' b (r.shut t).1 (.slice none 0 0)∧w'.ownsRow H 51 6 v (r.shut t).2.length (zU (r.shut t).2)∧Keep H b w w':=by
 have HC:=vl hC;have y1:=hC.run.get_opn;have y0:=hC.run.get_tp;have x0:=hC.tab.c0;have hcn:=hG.ok.count;have fin:∀wz v,Cv H b S t wz (r.shut t).1 v ([]++(r.shut t).2)->Keep H b w wz->Calls prog 75 #[.pointer (some ⟨b,0,none⟩)] wz fun e w'=>
   ∃v,e=.returned v∧zK w' b (r.shut t).1 (.slice none 0 0)∧w'.ownsRow H 51 6 v (r.shut t).2.length (zU (r.shut t).2)∧Keep H b w w':=by
  intro wz v hC hk;obtain⟨ao,cap,hv⟩:=zH2 hC.own;rw[hv] at hC;refine(zDt b wz _ ao _ cap hC.run).mono ?_;rintro e w2 ⟨rfl,hR,hk2⟩;exact⟨_,rfl,hR,zH1 hC.own hk2 hC.bH,hk.trans (hk2 H)⟩
 cases ho:r.opn with
 |false=>
  have HO:Hid (r.shut t=(r,[])):=by show _=_;unfold Rs.shut;rw[if_neg (by rw[ho];decide)]
  rw[ho] at y1;go_in;go_wp2;go_ret;refine⟨_,rfl,?_⟩;rw[HO.out];exact⟨HC.out.run,ownsRow_nil _ _ _ _,Keep.refl _ _ _⟩
 |true=>
  have HO:=vl ho;rw[ho] at y1;cases hs:t.stream with
  |true=>
   have HR:=vl <| zHG b H S t w r [] P HC.out ok hact hG hP (by show 0+r.count<4194304;omega) hs HO.out;have HN:=vl fin;rw[hs] at x0;go_in;go_wp2_with fail;refine HR.out.mono ?_;rintro e w1 ⟨rfl,v1,c1,k1⟩;have HM:=HN.out w1 v1 c1 k1;have HM2:=vl HM;go_wp2_with fail;refine HM2.out.mono ?_;rintro e w2 ⟨v2,rfl,h2⟩;have H2:Hid _:=h2;clear h2;go_wp2_with fail;go_ret;exact⟨v2,rfl,H2.out⟩
  |false=>
   have HR:Hid (Calls prog 85 #[.pointer (some ⟨b,0,none⟩)] w _):=zHH b H S t w r [] P HC.out ok hact hG hP (by show 0+r.count<4194304;omega) hs HO.out;have HN:Hid (∀wz v,Cv H b S t wz (r.shut t).1 v ([]++(r.shut t).2)->Keep H b w wz->_):=fin;rw[hs] at x0;clear hs fin hG;go_enter func55,ntmps55
   go_wp2_with fail;refine HR.out.mono ?_;rintro e w1 ⟨rfl,v1,c1,k1⟩;have HM:=HN.out w1 v1 c1 k1;have HM2:Hid (Calls prog 75 #[.pointer (some ⟨b,0,none⟩)] w1 _):=HM;clear HM c1 k1 HN HR;go_wp2_with fail;refine HM2.out.mono ?_;rintro e w2 ⟨v2,rfl,h2⟩;have H2:Hid _:=h2;clear h2;go_wp2_with fail;go_ret;exact⟨v2,rfl,H2.out⟩
def Rs.born (t:Tb)(p:Nat):Rs:={Rs.zero p with stack:=fun _=>0,depth:=1,state:=t.start 0}
theorem Rs.born_good (t:Tb)(p:Nat)(h:t.Fine):(Rs.born t p).Good t 0:=by
 have ok:(Rs.born t p).Ok t:=⟨lQ,by show(1:Nat)<=4;decide,fun _ _=>h.ok.nmode,h.ok.start 0 h.ok.nmode,by show(0:Nat)<64;decide,lX,fun _ _=>by show(0:Nat)<256;decide⟩
 unfold Rs.Good;split
 ·exact⟨ok,h.ok.rows0,lX,lQ,lQ,lQ⟩
 ·exact⟨ok,lQ,lQ,.inl rfl,lQ,lQ,lQ,lQ⟩
theorem zAC (b H:Nat)(S:Nat->Prop)(t:Tb)(w:World)(r0:Rs)(s:ByteArray)(P:Nat)(hC:Cv H b S t w r0 (.slice none 0 0) [])(ft:t.Fine)(hG:r0.Good t P)(hP:P+s.size<4194000):
  Calls prog 35 #[.pointer (some ⟨b,0,none⟩),.string s] w fun e w'=>
   ∃v,e=.returned v∧zK w' b (Rs.feed t (nats s) r0).1 (.slice none 0 0)∧w'.ownsRow H 51 6 v (Rs.feed t (nats s) r0).2.length (zU (Rs.feed t (nats s) r0).2)∧Keep H b w w':=by
 have HR:Hid (Calls prog 50 #[.pointer (some ⟨b,0,none⟩),.string s] w fun e w'=>∃v,e=.returned v∧zK w' b (Rs.feed t (nats s) r0).1 (.slice none 0 0)∧w'.ownsRow H 51 6 v (Rs.feed t (nats s) r0).2.length (zU (Rs.feed t (nats s) r0).2)∧Keep H b w w'):=by
  have hcn:=hG.cnt;have o1:xA r0.opn<=1:=by unfold xA;split <;> omega
  exact zFO b H S t w r0 [] s P (P+1) hC ft.ok ft.act hG (by omega) (by show 0+r0.count+xA r0.opn<=P+1;omega) (by omega)
 go_in;go_wp2_with fail;refine HR.out.mono ?_;rintro e w2 ⟨v2,rfl,h2⟩;have H2:Hid _:=h2;go_wp2;go_ret;exact⟨v2,rfl,H2.out⟩
theorem zBA (b H:Nat)(S:Nat->Prop)(t:Tb)(w:World)(r:Rs)(P:Nat)(hC:Cv H b S t w r (.slice none 0 0) [])(ft:t.Fine)(hG:r.Good t P)(hP:P<4194000):
  Calls prog 42 #[.pointer (some ⟨b,0,none⟩)] w fun e w'=>
   ∃v,e=.returned v∧zK w' b (r.shut t).1 (.slice none 0 0)∧w'.ownsRow H 51 6 v (r.shut t).2.length (zU (r.shut t).2)∧Keep H b w w':=by
 have HR:=vl <| zEV b H S t w r P hC ft.ok ft.act hG (by omega);go_in;go_wp2_with fail;refine HR.out.mono ?_;rintro e w2 ⟨v2,rfl,h2⟩;have H2:Hid _:=h2;go_wp2;go_ret;exact⟨v2,rfl,H2.out⟩
theorem zKM (l:List Value)(k:Nat)(z:Array Value)(i:Nat)(h:k+l.length<=z.size):((l.zipIdx k).foldl (fun cs x=>cs.setIfInBounds x.2 x.1) z)[i]? =if k<=i∧i<k+l.length then l[i-k]? else z[i]? :=by
 induction l generalizing k z with
 |nil=>simp;intro h1 h2;omega
 |cons a l ih=>
  rw[List.zipIdx_cons,List.foldl_cons,ih (k+1) (z.setIfInBounds k a) (by simp at h ⊢;omega)];simp only[gY] at h ⊢;by_cases h1:k+1<=i∧i<k+1+l.length
  ·rw[if_pos h1,if_pos (by omega),show i-k=(i-(k+1))+1 by omega,List.getElem?_cons_succ]
  ·rw[if_neg h1]
   by_cases h2:i=k
   ·subst h2
    rw[if_pos (by omega)];simp[show i<z.size by omega]
   ·rw[if_neg (by omega),Array.getElem?_setIfInBounds_ne (by omega)]
theorem zLP (z c:Array Value)(n:Nat)(h:z.size=n)(hc:c.size=n):Array.foldl (fun cs x=>cs.setIfInBounds x.snd x.fst) z c.zipIdx 0 n=c:=by
 have e:Array.foldl (fun cs x=>cs.setIfInBounds x.snd x.fst) z c.zipIdx 0 n=(c.toList.zipIdx 0).foldl (fun cs x=>cs.setIfInBounds x.2 x.1) z:=by
  have hz:c.zipIdx.size=n:=by simp[hc]
  rw[<-hz,<-Array.foldl_toList];simp
 rw[e];apply Array.ext_getElem?;intro i;rw[zKM _ _ _ _ (by simp;omega)];by_cases hi:i<n
 ·rw[if_pos (by simp;omega)]
  simp
 ·rw[if_neg (by simp;omega),Array.getElem?_eq_none (by omega),Array.getElem?_eq_none (by omega)]
theorem zFJ:zeroCells104.size=85:=by kernel_rfl
theorem zBX (x p:Nat)(S:Nat->Prop)(t:Tb)(w:World)(hx:w.cell? ⟨x,0,none⟩=some (.pointer (some ⟨p,0,none⟩)))(hT:TabAt w S p t)(hS:∀k,S k->k<w.heap.size)(ft:t.Fine):
  Calls prog 34 #[.pointer (some ⟨x,0,none⟩)] w fun e w'=>∃b,e=.returned (.pointer (some ⟨b,0,none⟩))∧w.heap.size<=b∧b<w'.heap.size∧zK w' b (Rs.born t p) (.slice none 0 0)∧Grew w w':=by
 have HR:Hid _:=zIv p S t w hT hS ft.ok;go_in;go_wp2_with fail;refine Calls.mono HR.out ?_;rintro e w2 ⟨c,rfl,hc85,hcat,hk⟩;have HA:Hid ((∀i,i<85->c[i]? =some ((Rs.born t p).cells (.slice none 0 0) i))∧Grew w w2):=⟨hcat,hk⟩
 go_wp2;rw[zLP _ c 85 zFJ hc85];go_ret;refine⟨w2.heap.size,rfl,HA.out.2.size,by simp,⟨_,c,gG w2 _,hc85,HA.out.1⟩,HA.out.2.trans (kZ _ _ HA.out.2.size)⟩
def Tb.events (t:Tb)(p:Nat)(s:ByteArray):List Ev:=(Rs.feed t (nats s) (Rs.born t p)).2++((Rs.feed t (nats s) (Rs.born t p)).1.shut t).2
theorem Tb.events_some (t:Tb)(ft:t.Fine)(p:Nat)(s:ByteArray):t.events p s≠[]:=by
 obtain⟨h1,h2,h3⟩:=Rs.feed_inv t ft.ok (nats s) (Rs.born t p) 0 (Rs.born_good t p ft) (vT s);unfold Tb.events;by_cases ho:(Rs.feed t (nats s) (Rs.born t p)).1.opn=true
 ·have:=((Rs.feed t (nats s) (Rs.born t p)).1.shut_end t _ ft.ok h1 ho).2
  simp[this]
 ·rcases h3 with h3|h3
  ·exact absurd h3 ho
  ·simp[h3]
theorem zBG (es:List Ev):(zU es).length=es.length*6:=by
 induction es with
 |nil=>rfl
 |cons e es ih=>simp only[zU,List.flatMap_cons,kX,gY] at *;rw[ih];simp[Ev.cells,vG];omega
theorem zDm (es:List Ev):∀u∈zU es,u.oneCell'=true:=by
 intro u hu;obtain⟨e,_,hu⟩:=List.mem_flatMap.1 hu;simp[Ev.cells,vG] at hu;rcases hu with rfl|rfl|rfl|rfl|rfl|rfl <;> rfl
theorem zBH (a b:List Ev):zU (a++b)=zU a++zU b:=by simp[zU]
theorem Rs.shut_len (r:Rs)(t:Tb)(P:Nat)(ok:t.Ok)(h:r.Good t P):(r.shut t).2.length<=r.count+1:=by
 unfold Rs.shut;split
 ·rename_i ho
  split
  ·exact(r.closed_end t ho).2.2
  ·rename_i hs
   have hO:=h.oth (by simpa using hs);have h2:=(r.endN_inv t P ok hO (r.count+2)).2.1;have o1:xA r.opn<=1:=by unfold xA;split <;> omega
   have o2:xA r.opn=1:=by rw[ho];rfl
   unfold Rs.closeO;split
   ·rename_i he
    have e:xA (r.endAll t).1.opn=1:=by rw[he];rfl
    show((r.endAll t).2++[_]).length<=_;rw[kX];have h3:(r.endAll t).2.length+(r.endAll t).1.count+xA (r.endAll t).1.opn<=r.count+xA r.opn:=h2;simp only[gY,List.length_nil];omega
   ·have h3:(r.endAll t).2.length+(r.endAll t).1.count+xA (r.endAll t).1.opn<=r.count+xA r.opn:=h2
    omega
 ·exact lX
theorem Rs.long_tp (r:Rs)(t:Tb):(r.long t).1.tp=r.tp:=by
 unfold Rs.long;split
 ·rfl
 ·exact(r.cut.tok_same t _ _ _ _).tp
theorem Rs.heldStep_tp (r:Rs)(t:Tb):(r.heldStep t).1.tp=r.tp:=by
 have h:((r.ate t).marked t).tp=r.tp:=by unfold Rs.marked;split <;> rfl
 unfold Rs.heldStep Rs.judged;split
 ·exact h
 ·rw[Rs.long_tp];exact h
theorem Rs.heldN_tp (r:Rs)(t:Tb)(n:Nat):(r.heldN t n).1.tp=r.tp:=by
 induction n with
 |zero=>rfl
 |succ n ih=>
  rw[Rs.heldN];split
  ·show((r.heldN t n).1.heldStep t).1.tp=r.tp
   rw[Rs.heldStep_tp,ih]
  ·exact ih
theorem Rs.eat_tp (r:Rs)(t:Tb)(c:Nat):(r.eat t c).1.tp=r.tp:=by
 unfold Rs.eat
 split
 ·unfold Rs.take Rs.due
  split
  ·exact((((r.added c).looked t (t.kind c)).took t).fin_same t).tp
  ·rfl
 ·unfold Rs.takeO
  split
  ·rfl
  ·exact(r.added c).heldN_tp t _
theorem Rs.feed_tp (t:Tb)(cs:List Nat)(r:Rs):(Rs.feed t cs r).1.tp=r.tp:=by
 induction cs generalizing r with
 |nil=>rfl
 |cons c cs ih=>
  rw[Rs.feed];split
  ·show(Rs.feed t cs (r.eat t c).1).1.tp=r.tp
   rw[ih,Rs.eat_tp]
  ·rfl
theorem Keep.less {H b G c:Nat}{w w':World}(h:Keep H b w w')(hG:G<=H)(hb:G<=b):Keep G c w w':=⟨h.os,h.output,h.size,fun k hk _=>h.block k (by omega) (by omega)⟩
theorem Keep.grownEnd {G c:Nat}{w w':World}{row:Option Nat}(hg:w.grownBy w' row)(hG:G<=w.heap.size)(hr:∀k,row=some k->G<=k):Keep G c w w':=Keep.grown hg hG hr
theorem zET (x p:Nat)(S:Nat->Prop)(t:Tb)(w:World)(s:ByteArray)(hx:w.cell? ⟨x,0,none⟩=some (.pointer (some ⟨p,0,none⟩)))(hT:TabAt w S p t)(hS:∀k,S k->k<w.heap.size)(ft:t.Fine)(hs:s.size<=1048576):
  Calls prog 27 #[.pointer (some ⟨x,0,none⟩),.string s] w fun e w'=>∃v,e=.returned v∧w'.ownsRow w.heap.size 51 6 v (t.events p s).length (zU (t.events p s))∧Grew w w':=by
 have HB:=vl <| zBX x p S t w hx hT hS ft;have HT:Hid (TabAt w S p t∧∀k,S k->k<w.heap.size):=⟨hT,hS⟩
 have HI:Hid ((Rs.feed t (nats s) (Rs.born t p)).1.Good t (0+(nats s).length)∧(Rs.feed t (nats s) (Rs.born t p)).2.length+(Rs.feed t (nats s) (Rs.born t p)).1.count<=1+s.size):=by
  obtain⟨h1,h2,_⟩:=Rs.feed_inv t ft.ok (nats s) (Rs.born t p) 0 (Rs.born_good t p ft) (vT s);rw[yR] at h2;have e1:(Rs.born t p).count=0:=rfl;have e2:xA (Rs.born t p).opn=1:=rfl;exact⟨h1,by omega⟩
 go_in;go_wp2_with fail;refine HB.out.mono ?_;rintro e w1 ⟨b,rfl,hb1,hb2,hR,hk1⟩;have C1:Hid (Cv w1.heap.size b S t w1 (Rs.born t p) (.slice none 0 0) []):=by
  refine⟨hR,ownsRow_nil _ _ _ _,HT.out.1.keep fun k hk=>?_,hb2,lQ,fun k hk=>?_⟩
  ·have:=HT.out.2 k hk
   exact hk1.block k this (by omega)
  ·have:=HT.out.2 k hk
   omega
 have K1:=vl hk1;have hb1':=hb1;go_wp2_with fail;refine(zAC b w1.heap.size S t w1 (Rs.born t p) s 0 C1.out ft (Rs.born_good t p ft) (by omega)).mono ?_;rintro e w2 ⟨v1,rfl,hR2,hO2,hk2⟩;have C2:Hid (Cv w2.heap.size b S t w2 (Rs.feed t (nats s) (Rs.born t p)).1 (.slice none 0 0) []):=by
  have hsz:=hk2.size;refine⟨hR2,ownsRow_nil _ _ _ _,?_,by omega,lQ,fun k hk=>?_⟩
  ·have htp:=Rs.feed_tp t (nats s) (Rs.born t p)
   rw[htp];refine C1.out.tab.keep fun k hk=>?_;have:=HT.out.2 k hk;exact hk2.block k (by omega) (by omega)
  ·have:=HT.out.2 k hk
   omega
 have K2:=vl <| K1.out.trans (hk2.less (by omega) (by omega));have O2:=vl hO2;go_wp2_with fail;refine(zBA b w2.heap.size S t w2 _ _ C2.out ft HI.out.1 (by rw[yR];omega)).mono ?_;rintro e w3 ⟨v2,rfl,hR3,hO3,hk3⟩;have K3:Hid (Grew w w3):=K2.out.trans (hk3.less K2.out.size (by omega));have O3:Hid (w3.ownsRow w.heap.size 51 6 v1 (Rs.feed t (nats s) (Rs.born t p)).2.length (zU (Rs.feed t (nats s) (Rs.born t p)).2)):=by
  have h:=O2.out;refine⟨h.1,h.2.imp id ?_⟩;rintro⟨g,cap,cur,hv,hg,hh,rest⟩;have hlt:=(kQ.1 hh).1;exact⟨g,cap,cur,hv,by omega,(hk3.block g hlt (by omega)).trans hh,rest⟩
 have hLen:(Rs.feed t (nats s) (Rs.born t p)).2.length+((Rs.feed t (nats s) (Rs.born t p)).1.shut t).2.length<=2+s.size:=by
  have h1:=Rs.shut_len _ t _ ft.ok HI.out.1;have h2:=HI.out.2;omega
 have HL:Hid (w3.ownsRow w2.heap.size 51 6 v2 ((Rs.feed t (nats s) (Rs.born t p)).1.shut t).2.length (zU ((Rs.feed t (nats s) (Rs.born t p)).1.shut t).2)):=hO3;have HE:Hid (t.events p s=(Rs.feed t (nats s) (Rs.born t p)).2++((Rs.feed t (nats s) (Rs.born t p)).1.shut t).2):=rfl;have hsz3:w.heap.size<=w3.heap.size:=K3.out.size;clear hR3 hO3 hk3 C2 O2;generalize (Rs.feed t (nats s) (Rs.born t p)).2=l1 at *;generalize ((Rs.feed t (nats s) (Rs.born t p)).1.shut t).2=l2 at *;obtain⟨i0,hi0,hz0,hz1,hz2⟩:=info_parts zJi;rcases HL.out.2 with⟨hv2,hn2⟩|⟨g,cap,cur,hv2,_,hg2,_,_,_,htk⟩
 ·have HN:Hid (l2=[]):=List.length_eq_zero_iff.1 hn2
  subst hv2;clear hn2 HL;go_wp2_with (first|(at_builtin;refine wpList_append_own_none rfl _ _ 48 rfl w.heap.size 51 i0 6 underlying48 hi0 _ _ _ rfl O3.out rfl ?_))
  go_ret;refine⟨v1,rfl,?_,K3.out⟩;rw[HE.out,HN.out,List.append_nil];exact O3.out
 ·have hl2:(zU l2).length=l2.length*6:=zBG l2
  have hcells:∀j u,(zU l2)[j]? =some u->w3.cell? ((⟨g,0,none⟩:Addr).add j)=some u:=by
   rw[hv2] at HL;exact HL.out.cells rfl
  have HC:Hid (∀j u,(zU l2)[j]? =some u->w3.cell? ((⟨g,0,none⟩:Addr).add j)=some u):=hcells;subst hv2;clear hcells HL hg2 htk;go_wp2_with (first|(at_builtin;refine wpList_append_own _ rfl _ _ 48 rfl w.heap.size 51 i0 _ 6 48 underlying48 hi0 hz0 hz1 hz2 rfl (by decide) _ _ _ rfl O3.out ⟨g,0,none⟩ l2.length cap (zU l2) rfl hl2 HC.out (zDm l2) (by unfold maxLen;omega) (by omega) hsz3 ?_;intro v4 w4 hown hgrow hnil))
  have HO:Hid _:=hown;have HG:Hid _:=hgrow;clear hown hgrow hnil;go_wp2_with fail;go_ret;refine⟨v4,rfl,?_,K3.out.trans (Keep.grownEnd HG.out hsz3 fun k hk=>(O3.out.lt k hk).1)⟩;rw[HE.out,kX,zBH];exact HO.out
def zFF:ByteArray:=⟨#[109,111,100,101,32,109,10,97,32,46,32,97,10,98,32,45,32,98,10]⟩
def vD:List Sm×Sh:=(zAq zFF).getD ([],Sh.none)
theorem zMK:(zAq zFF).isSome=true:=by kernel_rfl
theorem zKS:zEx vD false=true:=by kernel_rfl
theorem zLT:(((xL vD.1 (ints vD.2.acts) (vD.2.pushesTo vD.2.pushed.length) 64).first.itr 2).spreadTo (zO vD.1 vD.1.length)).2=false:=by kernel_rfl
theorem zKT (p:Nat):(zBs vD.1 (ints vD.2.acts) (vD.2.pushesTo vD.2.pushed.length) 64 2 false).events p ⟨#[97,98,97]⟩=[⟨1,0,0,1,1,1⟩,⟨1,0,2,3,1,3⟩,⟨2,0,3,3,1,4⟩]:=by kernel_rfl
theorem zLb:zAq zFF=some vD:=by
 have:=zMK;unfold vD;cases h:zAq zFF with
 |none=>rw[h] at this;cases this
 |some y=>rfl
theorem zLU:zU [⟨1,0,0,1,1,1⟩,⟨1,0,2,3,1,3⟩,⟨2,0,3,3,1,4⟩]=[.int .i64 1,.int .i64 0,.int .i64 0,.int .i64 1,.int .i64 1,.int .i64 1,.int .i64 1,.int .i64 0,.int .i64 2,.int .i64 3,.int .i64 1,.int .i64 3,.int .i64 2,.int .i64 0,.int .i64 3,.int .i64 3,.int .i64 1,.int .i64 4]:=rfl
theorem zIA (w:World):Calls prog 28 #[] w fun e w'=>e=.returned (.bool true)∧Grew w w':=by
 have HO:Hid (Calls prog 16 #[.string ⟨#[109,111,100,101,32,109,10,97,32,46,32,97,10,98,32,45,32,98,10]⟩,.int .i64 64,.bool false] w fun e w1=>Grew w w1∧∃L m0 m1 m2 s0 s1 s2 v0 v1 v2 AH LN,e=.returned (.tuple #[.pointer (some ⟨L,0,none⟩),.agg #[.slice m0 m1 m2,.slice s0 s1 s2,.slice v0 v1 v2,.int .i64 AH,.bool true,.int .i64 LN]])∧∀w2,Grew w1 w2->Calls prog 27 #[.pointer (some ⟨L,0,none⟩),.string ⟨#[97,98,97]⟩] w2 fun e w3=>∃g cap,e=.returned (.slice (some ⟨g,0,none⟩) 3 cap)∧Grew w2 w3∧3<=cap∧w3.cell? ⟨g,0,none⟩=some (.int .i64 1)∧w3.cell? ⟨g,1,none⟩=some (.int .i64 0)∧w3.cell? ⟨g,2,none⟩=some (.int .i64 0)∧w3.cell? ⟨g,3,none⟩=some (.int .i64 1)∧w3.cell? ⟨g,4,none⟩=some (.int .i64 1)∧w3.cell? ⟨g,5,none⟩=some (.int .i64 1)∧w3.cell? ⟨g,6,none⟩=some (.int .i64 1)∧w3.cell? ⟨g,7,none⟩=some (.int .i64 0)∧w3.cell? ⟨g,8,none⟩=some (.int .i64 2)∧w3.cell? ⟨g,9,none⟩=some (.int .i64 3)∧w3.cell? ⟨g,10,none⟩=some (.int .i64 1)∧w3.cell? ⟨g,11,none⟩=some (.int .i64 3)∧w3.cell? ⟨g,12,none⟩=some (.int .i64 2)∧w3.cell? ⟨g,13,none⟩=some (.int .i64 0)∧w3.cell? ⟨g,14,none⟩=some (.int .i64 3)∧w3.cell? ⟨g,15,none⟩=some (.int .i64 3)∧w3.cell? ⟨g,16,none⟩=some (.int .i64 1)∧w3.cell? ⟨g,17,none⟩=some (.int .i64 4)):=by
  refine(zDb w zFF (by decide) 64 (by decide) (by decide) false).mono ?_;rintro e w1 ⟨hk,x,m0,m1,m2,s0,s1,s2,v0,v1,v2,AH,ST,LN,rfl,hq⟩;unfold OfQ at hq;rw[zLb] at hq;obtain⟨L,t,rfl,rfl,rfl,hL⟩:=hq;rw[zKS];refine⟨hk,L,m0,m1,m2,s0,s1,s2,v0,v1,v2,_,LN,rfl,fun w2 hk2=>?_⟩;have hL2:=hL.grown hk2;obtain⟨n,hn1,hn2⟩:=hL2.made;obtain⟨S,p,hA,hS⟩:=hL2.at_;have ht:t=zBs vD.1 (ints vD.2.acts) (vD.2.pushesTo vD.2.pushed.length) 64 2 false:=hn1.trans (zLO _ _ _ _ _ _ _ hn2 zLT);have he:t.events p ⟨#[97,98,97]⟩=[⟨1,0,0,1,1,1⟩,⟨1,0,2,3,1,3⟩,⟨2,0,3,3,1,4⟩]:=by rw[ht];exact zKT p
  refine(zET L p S t w2 ⟨#[97,98,97]⟩ hA.cell hA.tab hA.safe hL2.fine (by decide)).mono ?_;rintro e w3 ⟨v,rfl,ho,hk3⟩;rw[he,zLU] at ho;obtain⟨g,cap,rfl,h1,h2,h3,h4,h5,h6⟩:=qH ho (by decide);exact⟨g,cap,rfl,hk3,h3,h5 0 _ rfl,h5 1 _ rfl,h5 2 _ rfl,h5 3 _ rfl,h5 4 _ rfl,h5 5 _ rfl,h5 6 _ rfl,h5 7 _ rfl,h5 8 _ rfl,h5 9 _ rfl,h5 10 _ rfl,h5 11 _ rfl,h5 12 _ rfl,h5 13 _ rfl,h5 14 _ rfl,h5 15 _ rfl,h5 16 _ rfl,h5 17 _ rfl⟩
 go_in;apply wp_cut;intro K0 J;go_wp2;apply J.out;clear J;apply wp_cut;intro K0 J;go_wp2_with (first|(go_at_call 16;refine HO.out.mono ?_;rintro e w1 ⟨hk1,L,m0,m1,m2,s0,s1,s2,v0,v1,v2,AH,LN,rfl,HSC⟩))
 obtain⟨w2,hw2,x4,HW2⟩:∃w2,w2=w1.alloc (.cells #[.slice m0 m1 m2,.slice s0 s1 s2,.slice v0 v1 v2,.int .i64 AH,.bool true,.int .i64 LN] 30)∧w2.cell? ⟨w1.heap.size,4,none⟩=some (.bool true)∧Hid (Grew w w2∧Grew w1 w2):=by
  have hn:=gG w1 (.cells #[.slice m0 m1 m2,.slice s0 s1 s2,.slice v0 v1 v2,.int .i64 AH,.bool true,.int .i64 LN] 30);have ha:Grew w1 (w1.alloc (.cells #[.slice m0 m1 m2,.slice s0 s1 s2,.slice v0 v1 v2,.int .i64 AH,.bool true,.int .i64 LN] 30)):=kZ _ _ lQ;refine⟨_,rfl,?_,hk1.trans (ha.lower hk1.size hk1.size),ha⟩;unfold cell?;rw[hn];rfl
 rw[<-hw2];apply J.out;clear J hw2 HO;have HSC2:=vl <| HSC w2 HW2.out.2;clear HSC;go_wp2_with (first|(go_at_call 27;refine HSC2.out.mono ?_;rintro e w3 ⟨g,cap,rfl,hk3,hcap,c0,c1,c2,c3,c4,c5,c6,c7,c8,c9,c10,c11,c12,c13,c14,c15,c16,c17⟩))
 refine bodyPost_ret (results_tmp rfl _ _ _) rfl ?_;exact⟨rfl,HW2.out.1.trans (hk3.lower HW2.out.1.size HW2.out.1.size)⟩
theorem zIt (w:World)(s t:ByteArray)(h:65536<s.size∨65536<t.size):Calls prog 14 #[.string s,.string t] w fun e w'=>e=.returned (.tuple #[.bool false,.bool true])∧Grew w w':=by
 by_cases h1:65536<s.size
 ·go_in
  go_wp2;refine bodyPost_ret (results_tmp2 rfl _ _ _) rfl ?_;exact⟨rfl,Keep.refl _ _ _⟩
 ·have h2:65536<t.size:=by omega
  have h3:s.size<=65536:=by omega
  go_in;go_wp2;refine bodyPost_ret (results_tmp2 rfl _ _ _) rfl ?_;exact⟨rfl,Keep.refl _ _ _⟩
theorem zIu (w:World)(s t:ByteArray)(h1:s.size<=65536)(h2:t.size<=65536):Calls prog 14 #[.string s,.string t] w fun e w'=>e=.returned (.tuple #[.bool (zAq s).isSome,.bool true])∧Grew w w':=by
 have HA:=vl <| zIA w;have HN:Hid (∀w2,Calls prog 29 #[.string s] w2 fun e w'=>e=.returned (.tuple #[.bool (zAq s).isNone,.bool true])∧Grew w2 w'):=fun w2=>zI3 w2 s (by omega);have he:(!(zAq s).isNone)=(zAq s).isSome:=by cases zAq s <;> rfl
 generalize (zAq s).isNone=A at *;generalize (zAq s).isSome=B at *;subst he;go_in;cases A
 all_goals
  go_wp2_with (first|(go_at_call 28;refine HA.out.mono ?_;rintro e w1 ⟨rfl,hk1⟩)|(go_at_call 29;refine(HN.out _).mono ?_;rintro e w2 ⟨rfl,hk2⟩))
  refine bodyPost_ret (results_tmp2 rfl _ _ _) rfl ?_;exact⟨rfl,hk1.trans (hk2.lower hk1.size hk1.size)⟩
theorem zDZ (w:World)(s d:ByteArray):(Calls prog 14 #[.string s,.string d] w fun e w'=>e=.returned (.tuple #[.bool false,.bool true])∧Grew w w')∨∃y,zAq s=some y∧s.size<=65536∧d.size<=65536∧Calls prog 14 #[.string s,.string d] w fun e w'=>e=.returned (.tuple #[.bool true,.bool true])∧Grew w w':=by
 by_cases hz:65536<s.size∨65536<d.size
 ·exact .inl (zIt w s d hz)
 have HB:=zIu w s d (by omega) (by omega);cases hl:zAq s with
 |none=>rw[hl] at HB;exact .inl HB
 |some y=>rw[hl] at HB;exact .inr ⟨y,rfl,by omega,by omega,HB⟩
def EvsAt (w:World)(v:Value)(es:List Ev):Prop:=∃ao cap,v=.slice ao es.length cap∧es.length<=cap∧cap<=maxLen∧∀i,i<es.length->∃g,ao=some ⟨g,0,none⟩∧g<w.heap.size∧∀j u,(es.getD i ⟨0,0,0,0,0,0⟩).cells[j]? =some u->w.cell? ⟨g,i*6+j,none⟩=some u
theorem zLR (es:List Ev):∀(i j:Nat) (u:Value),i<es.length->(es.getD i ⟨0,0,0,0,0,0⟩).cells[j]? =some u->(zU es)[i*6+j]? =some u:=by
 induction es with
 |nil=>intro i j u hi;exact absurd hi (Nat.not_lt_zero _)
 |cons e es ih=>
  intro i j u hi hu;have hc:(zU (e::es))=e.cells++zU es:=by simp[zU]
  have h6:e.cells.length=6:=rfl;rw[hc];cases i with
  |zero=>
   have hu2:=hu;have hj:j<6:=by rw[<-h6];exact(List.getElem?_eq_some_iff.1 hu2).1
   rw[Nat.zero_mul,Nat.zero_add,kW (by omega)];exact hu2
  |succ i=>
   rw[gX (by omega),h6,show(i+1)*6+j-6=i*6+j by omega];exact ih i j u (by simpa using hi) hu
theorem zGS {w:World}{H:Nat}{v:Value}{es:List Ev}(h:w.ownsRow H 51 6 v es.length (zU es)):EvsAt w v es:=by
 obtain⟨ao,cap,rfl,h1,h2⟩:=zDa h;refine⟨ao,cap,rfl,h1,h2,fun i hi=>?_⟩;obtain⟨g,cap2,hv,h3,h4,h5,h6,h7,h8⟩:=qH h (by omega);injection hv with e1 e2 e3;exact⟨g,e1,h4,fun j u hu=>h7 _ u (zLR es i j u hi hu)⟩
theorem EvsAt.grown {w w':World}{v:Value}{es:List Ev}(h:EvsAt w v es)(hk:Grew w w'):EvsAt w' v es:=by
 obtain⟨ao,cap,rfl,h1,h2,h3⟩:=h;refine⟨ao,cap,rfl,h1,h2,fun i hi=>?_⟩;obtain⟨g,e1,e2,e3⟩:=h3 i hi;exact⟨g,e1,lZ e2 hk.size,fun j u hu=>zA (e3 j u hu) e2 hk⟩
theorem zEU (w:World)(va vb:Value)(es:List Ev)(hA:EvsAt w va es)(hB:EvsAt w vb es):
  Calls prog 32 #[va,vb] w fun e w'=>e=.returned (.bool true)∧Grew w w':=by
 obtain⟨aa,ca,rfl,ha1,ha2,hac⟩:=hA;obtain⟨ab,cb,rfl,-,-,hbc⟩:=hB;have hl:es.length<=9223372036854775807:=by unfold maxLen at ha2;omega
 have HAC:=vl hac;have HBC:=vl hbc;generalize hn:es.length=n at *;go_in;go_wp2;go_loopg [5] n (fun q i wr=>∃j:Nat,q=n-j∧j<=n∧i=.int .i64 (j:Int)∧Grew w wr)
 case atStart=>exact⟨0,rfl,lX,rfl,⟨rfl,rfl,lQ,fun _ _ _=>rfl⟩⟩
 case round=>
  obtain⟨j,hgk,hj,rfl,hkp⟩:=hrel;have HA:Hid (gk=n-j∧Grew w wr):=⟨hgk,hkp⟩
  by_cases hj2:j<n
  ·have i1:(j:Int)<(n:Int):=by omega
   obtain⟨b1,rfl,hb1,c1⟩:=HAC.out j hj2;obtain⟨b2,rfl,hb2,c2⟩:=HBC.out j hj2;generalize es.getD j ⟨0,0,0,0,0,0⟩=ev at *;obtain⟨k0,k1,k2,k3,k4,k5⟩:=ev;have y0:wr.cell? ⟨b1,j*6,none⟩=some (.int .i64 k0):=zA (c1 0 _ rfl) hb1 hkp;have y1:wr.cell? ⟨b1,j*6+1,none⟩=some (.int .i64 k1):=zA (c1 1 _ rfl) hb1 hkp;have y2:wr.cell? ⟨b1,j*6+2,none⟩=some (.int .i64 k2):=zA (c1 2 _ rfl) hb1 hkp;have y3:wr.cell? ⟨b1,j*6+3,none⟩=some (.int .i64 k3):=zA (c1 3 _ rfl) hb1 hkp;have y4:wr.cell? ⟨b1,j*6+4,none⟩=some (.int .i64 k4):=zA (c1 4 _ rfl) hb1 hkp;have y5:wr.cell? ⟨b1,j*6+5,none⟩=some (.int .i64 k5):=zA (c1 5 _ rfl) hb1 hkp;have z0:wr.cell? ⟨b2,j*6,none⟩=some (.int .i64 k0):=zA (c2 0 _ rfl) hb2 hkp;have z1:wr.cell? ⟨b2,j*6+1,none⟩=some (.int .i64 k1):=zA (c2 1 _ rfl) hb2 hkp;have z2:wr.cell? ⟨b2,j*6+2,none⟩=some (.int .i64 k2):=zA (c2 2 _ rfl) hb2 hkp;have z3:wr.cell? ⟨b2,j*6+3,none⟩=some (.int .i64 k3):=zA (c2 3 _ rfl) hb2 hkp;have z4:wr.cell? ⟨b2,j*6+4,none⟩=some (.int .i64 k4):=zA (c2 4 _ rfl) hb2 hkp;have z5:wr.cell? ⟨b2,j*6+5,none⟩=some (.int .i64 k5):=zA (c2 5 _ rfl) hb2 hkp;go_wp2;go_quiet (fail);go_wp2;go_roundg (n-(j+1))
   case measure=>rw[HA.out.1];omega
   case rel=>exact⟨j+1,rfl,by omega,by go_num,HA.out.2.trans (Keep.alike (w':=wr.drewN nq) ⟨rfl,rfl,rfl⟩)⟩
  ·have i1:¬((j:Int)<(n:Int)):=by omega
   go_wp2;refine bodyPost_ret (results_tmp rfl _ _ _) rfl ?_;exact⟨rfl,HA.out.2⟩
theorem zH4 (a b:ByteArray):nats (a++b)=nats a++nats b:=by
 unfold nats;rw[<-List.map_append]
 congr 1
theorem zE9 (s:ByteArray)(n:Nat)(h:n<=s.size):nats s=nats (s.extract 0 n)++nats (s.extract n s.size):=by
 rw[<-zH4]
 congr 1
 apply ByteArray.ext;rw[ByteArray.data_append,ByteArray.data_extract,ByteArray.data_extract];simp;rw[Nat.max_eq_right h];exact Array.extract_size.symm
theorem zCf (s:ByteArray)(a b j:Nat)(hb:b<=s.size)(hj:a+j<b):(nats (s.extract a b)).getD j 0=(nats s).getD (a+j) 0:=by
 unfold nats;have h1:(s.extract a b).data=s.data.extract a b:=ByteArray.data_extract ..;rw[h1];have hz:s.data.size=s.size:=rfl;simp only[lW,gJ,Array.getElem?_toList];rw[Array.getElem?_extract,if_pos (by omega)]
theorem zFt (t:Tb)(ft:t.Fine)(p:Nat)(s:ByteArray):(Rs.feed t (nats s) (Rs.born t p)).2.length+(Rs.feed t (nats s) (Rs.born t p)).1.count<=1+s.size∧((Rs.feed t (nats s) (Rs.born t p)).1.shut t).2.length<=(Rs.feed t (nats s) (Rs.born t p)).1.count+1:=by
 obtain⟨h1,h2,_⟩:=Rs.feed_inv t ft.ok (nats s) (Rs.born t p) 0 (Rs.born_good t p ft) (vT s);rw[yR] at h2;have e1:(Rs.born t p).count=0:=rfl;have e2:xA (Rs.born t p).opn=1:=rfl;exact⟨by omega,Rs.shut_len _ t _ ft.ok h1⟩
theorem zDl (t:Tb)(p:Nat)(s:ByteArray)(d n:Nat)(h:d+n<=s.size):Rs.feed t (nats (s.extract 0 (d+n))) (Rs.born t p)=((Rs.feed t (nats (s.extract d (d+n))) (Rs.feed t (nats (s.extract 0 d)) (Rs.born t p)).1).1,(Rs.feed t (nats (s.extract 0 d)) (Rs.born t p)).2++(Rs.feed t (nats (s.extract d (d+n))) (Rs.feed t (nats (s.extract 0 d)) (Rs.born t p)).1).2):=by
 have hz:(s.extract 0 (d+n)).size=d+n:=by rw[ByteArray.size_extract];omega
 have e:=zE9 (s.extract 0 (d+n)) d (by omega);rw[hz,show(s.extract 0 (d+n)).extract 0 d=s.extract 0 d by rw[ByteArray.extract_extract];congr 1;omega,show(s.extract 0 (d+n)).extract d (d+n)=s.extract d (d+n) by rw[ByteArray.extract_extract];congr 1 <;> omega] at e;rw[e,Rs.feed_append]
structure ScAt (w:World)(S:Nat->Prop)(p b:Nat)(t:Tb)(r:Rs)(P:Nat):Prop where
 run:zK w b r (.slice none 0 0)
 tab:TabAt w S p t
 tp:r.tp=p
 lt:b<w.heap.size
 safe:∀k,S k->k<w.heap.size∧k≠b
 good:r.Good t P
theorem ScAt.cv {w:World}{S:Nat->Prop}{p b:Nat}{t:Tb}{r:Rs}{P:Nat}(h:ScAt w S p b t r P):Cv w.heap.size b S t w r (.slice none 0 0) []:=⟨h.run,ownsRow_nil _ _ _ _,by rw[h.tp];exact h.tab,h.lt,lQ,h.safe⟩
theorem ScAt.grown {w w':World}{S:Nat->Prop}{p b:Nat}{t:Tb}{r:Rs}{P:Nat}(h:ScAt w S p b t r P)(hk:Grew w w'):ScAt w' S p b t r P:=⟨h.run.of_block (hk.block b h.lt (kJ h.lt)),h.tab.keep fun k e=>hk.block k (h.safe k e).1 (kJ (h.safe k e).1),h.tp,lZ h.lt hk.size,fun k e=>⟨lZ (h.safe k e).1 hk.size,(h.safe k e).2⟩,h.good⟩
theorem zDr {w:World}{S:Nat->Prop}{L p:Nat}{t:Tb}(h:LexAt w S L p t)(ft:t.Fine):Calls prog 34 #[.pointer (some ⟨L,0,none⟩)] w fun e w'=>∃b,e=.returned (.pointer (some ⟨b,0,none⟩))∧w.heap.size<=b∧ScAt w' S p b t (Rs.born t p) 0∧Grew w w':=by
 refine(zBX L p S t w h.cell h.tab h.safe ft).mono ?_;rintro e w' ⟨b,rfl,h1,h2,h3,hk⟩;refine⟨b,rfl,h1,⟨h3,h.tab.keep fun k e=>hk.block k (h.safe k e) (kJ (h.safe k e)),rfl,h2,fun k e=>⟨lZ (h.safe k e) hk.size,?_⟩,Rs.born_good t p ft⟩,hk⟩;have:=h.safe k e;omega
theorem zHU {w:World}{S:Nat->Prop}{p b:Nat}{t:Tb}{r:Rs}{P:Nat}(h:ScAt w S p b t r P)(ft:t.Fine)(s:ByteArray)(hP:P+s.size<4194000):Calls prog 35 #[.pointer (some ⟨b,0,none⟩),.string s] w fun e w'=>∃v,e=.returned v∧EvsAt w' v (Rs.feed t (nats s) r).2∧ScAt w' S p b t (Rs.feed t (nats s) r).1 (P+s.size)∧Keep w.heap.size b w w':=by
 refine(zAC b w.heap.size S t w r s P h.cv ft h.good hP).mono ?_;rintro e w' ⟨v,rfl,h1,h2,hk⟩;obtain⟨g,-,-⟩:=Rs.feed_inv t ft.ok (nats s) r P h.good (vT s);rw[yR] at g;exact⟨v,rfl,zGS h2,⟨h1,h.tab.keep fun k e=>hk.block k (h.safe k e).1 (h.safe k e).2,(Rs.feed_tp t (nats s) r).trans h.tp,lZ h.lt hk.size,fun k e=>⟨lZ (h.safe k e).1 hk.size,(h.safe k e).2⟩,g⟩,hk⟩
theorem zBQ {w:World}{S:Nat->Prop}{L p:Nat}{t:Tb}(h:LexAt w S L p t)(ft:t.Fine)(s:ByteArray)(hs:s.size<=1048576):Calls prog 27 #[.pointer (some ⟨L,0,none⟩),.string s] w fun e w'=>∃v,e=.returned v∧EvsAt w' v (t.events p s)∧Grew w w':=by
 refine(zET L p S t w s h.cell h.tab h.safe ft hs).mono ?_;rintro e w' ⟨v,rfl,h2,hk⟩;exact⟨v,rfl,zGS h2,hk⟩
section
open Go.ChangeShapes Go.WideShapes Go.ChangeAt Go.RowKit
open Go.ChangeMaps (open_string shut_string)
theorem own:ownKnob prog.godebug=none:=by kernel_rfl
theorem Keep.frame {W w':World}(h:Grew W w')(may:MemPlace->Prop):W.keptBut w' may:=by
 refine⟨h.os,h.output,fun i hi=>?_⟩;rw[h.block i hi (by omega)];split <;> simp_all
theorem zCJ {H:Type}{enc:TypeId×Value->H}{P:Program}{f:Func}{s:ChangeSpec}{apart fresh handsOn again:Bool}{W W':World}{args:Array Value}{v:Value}{ds gs:List (DataW H)}
  (hW:DataW.Whole enc P f.params.toList s.vars apart W args.toList ds gs [])
  (hres:∀(b:Nat) (sp:Nat->Bool) (hd:Bool),DataW.TrodAll enc P W' b sp hd f.resultTypes.toList (v.resultList f.resultTypes.size) (s.fn H (ds++gs)).results [])
  (hargs:∀sp:Nat->Bool,DataW.TrodAll enc P W' 0 sp true f.params.toList args.toList (s.fn H (ds++gs)).args [])
  (hvars:∀sp:Nat->Bool,DataW.TrodVars enc P W' sp s.vars (s.fn H (ds++gs)).vars [])
  (hk:W.keptBut W' fun _=>False)
  (hok:∀(j:Nat) (t:TypeId) (r:Value),f.resultTypes[j]? =some t->(v.resultList f.resultTypes.size)[j]? =some r->Value.okWide P W' .any 0 t r):
  s.post enc P f apart fresh handsOn again W args v W':=by
 refine⟨ds,gs,[],[],[],[],hW,hres _ _ _,hargs _,hvars _,World.keptBut_mono (fun p hp=>hp.elim) hk,fun _=>⟨hok,_,_,[],⟨[],[],trodAll_append (hargs _) (hres _ _ _),hvars _,rfl,?_,?_⟩,?_⟩⟩
 ·intro b off hp
  simp at hp
 ·intro _
  simp
 ·intro p hp
  simp at hp
theorem zAR {H:Type}{enc:TypeId×Value->H}{P:Program}{w:World}{base:Nat}{sp:Nat->Bool}{hd:Bool}{t:TypeId}{ts:List TypeId}{v:Value}{vs:List Value}{d:DataW H}{ds:List (DataW H)}{p q:List MemPlace}(h:DataW.Trod enc P w base sp hd t v d p)(hs:DataW.TrodAll enc P w base sp hd ts vs ds q):DataW.TrodAll enc P w base sp hd (t::ts) (v::vs) (d::ds) (p++q):=⟨p,q,h,hs,rfl⟩
theorem zLJ {n:Int}(h:(Lit.int .i64 n).wf=true):-9223372036854775808<=n∧n<=9223372036854775807:=by
 simp[Lit.wf,IntKind.min,IntKind.max,IntKind.signed,IntKind.bits] at h;omega
end
end Go.Proofs.YtbjcfkdnjaiclaaGreat
