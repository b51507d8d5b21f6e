import Derived.Test.YtbjcfkdnjaiclaaGreatB0
import Derived.Test.YtbjcfkdnjaiclaaGreatB12
/- Parts of the proof. -/
set_option linter.unusedVariables false
set_option linter.unusedSimpArgs false
set_option maxHeartbeats 4000000
set_option maxRecDepth 100000
namespace Go.Proofs.YtbjcfkdnjaiclaaGreat
open Go.RowKit Go.Proofs.Tryz Go.World
section
def Mk.fillTo (m:Mk)(s:Nat)(f:Nat->Int):Nat->Mk
 |0=>m
 |j+1=>(m.fillTo s f j).put s (128+j) (f j)
theorem zC7 (m:Mk)(s b:Nat)(x:Int):(m.put s b x).next.length=m.next.length:=List.length_set ..
theorem zBt (m:Mk)(s:Nat)(f:Nat->Int)(j:Nat):(m.fillTo s f j).next.length=m.next.length:=by
 induction j with
 |zero=>rfl
 |succ j ih=>rw[Mk.fillTo,zC7,ih]
def Mk.seek (m:Mk)(f:Nat->Int):Nat:=m.next.findIdx fun row=>qE row f
def Mk.withN (m:Mk)(most:Nat)(f:Nat->Int):Nat:=if nz f=true then 0 else if m.seek f<m.next.length then m.seek f else m.addN most
def Mk.withM (m:Mk)(most:Nat)(f:Nat->Int):Mk:=if nz f=true then m else if m.seek f<m.next.length then m else if m.addN most=0 then m.add most (-1) else(m.add most (-1)).fillTo (m.addN most) f 64
theorem zMl (l:List (List Int))(f:Nat->Int)(j:Nat)(hj:j<l.length)(h:qE (l.getD j []) f=true)(hn:∀i,i<j->qE (l.getD i []) f=false):l.findIdx (fun row=>qE row f)=j:=by
 rw[List.findIdx_eq hj];rw[lW,lV hj] at h;refine⟨h,fun i hi=>?_⟩;have:=hn i hi;rw[lW,lV (by omega)] at this;exact this
theorem zKo (l:List (List Int))(f:Nat->Int)(hn:∀i,i<l.length->qE (l.getD i []) f=false):l.findIdx (fun row=>qE row f)=l.length:=by
 rw[List.findIdx_eq_length];intro y hy;obtain⟨i,hi,rfl⟩:=List.getElem_of_mem hy;have:=hn i hi;rw[lW,lV hi] at this;exact this
section
variable {w0 w w2:World} {mb kb most:Nat} {m:Mk} {nv rv ov:Value} {gs:Nat->Nat}
theorem Mw.rowInts (h:Mw w0 w mb kb most m nv rv ov gs)(i:Nat)(hi:i<m.next.length):Ints w (In w) (.slice (some ⟨gs i,0,none⟩) 256 256) (m.next.getD i []):=by
 have hl:=(h.each i hi).2.2;exact⟨_,256,by rw[hl],by rw[hl];exact lQ,by unfold maxLen;omega,fun b hb=>⟨gs i,0,rfl,h.gl i hi,by rw[Nat.zero_add];exact(h.row i b hi (by omega)).1⟩⟩
theorem Mw.rows (h:Mw w0 w mb kb most m nv rv ov gs):∃an cn,nv=.slice an m.next.length cn∧w.cell? ⟨mb,3,none⟩=some (.slice an m.next.length cn)∧∀i,i<m.next.length->∃g,an=some ⟨g,0,none⟩∧g<w.heap.size∧w.cell? ⟨g,i,none⟩=some (.slice (some ⟨gs i,0,none⟩) 256 256):=by
 obtain⟨an,cn,hnv⟩:=zE h.nOwn;refine⟨an,cn,hnv,by rw[<-hnv];exact h.cells.2.2.2.1,fun i hi=>?_⟩;obtain⟨g,cp,hv,_,hl,_,_,hc,_⟩:=h.nOwn.get (by omega);rw[hnv] at hv;injection hv with e1 _ _;exact⟨g,e1,hl,hc i hi⟩
end
theorem jQ (w0 w:World)(mb kb most:Nat)(m:Mk)(h:MwIs w0 w mb kb most m)(hmost:most<=1000000)(hr:m.rules.length<=1000000)(hnl:m.next.length<=1000000)(f:Nat->Int):
  Calls prog 179 #[.pointer (some ⟨mb,0,none⟩),.agg (a64 f)] w fun e w'=>e=.returned (.int .i64 ((m.withN most f:Nat):Int))∧MwIs w0 w' mb kb most (m.withM most f)∧StayT w w':=by
 have HLN:=vl <| zEg f;have HRG:Hid (∀wr:World,wr.heap[w.heap.size]? =some (.cells (a64 f) 246)->wr.rangeAt w.heap.size 0 (a64 f).toList):=fun wr hb=>zAV wr w.heap.size f hb;have HB0:Hid ((w.alloc (.cells (a64 f) 246)).heap[w.heap.size]? =some (.cells (a64 f) 246)):=gG _ _;have heq:=zML (w.alloc (.cells (a64 f) 246)) f;have HKA:Hid (Grew w (w.alloc (.cells (a64 f) 246))):=kZ _ _ lQ;have HM0:Hid (MwIs w0 (w.alloc (.cells (a64 f) 246)) mb kb most m):=h.grown HKA.out;have HLE:Hid (∀(wr:World) v row,Ints wr (In wr) v row->row.length=256->Calls prog 186 #[v,.agg (a64 f)] wr fun e w'=>e=.returned (.bool (qE row f))∧Grew wr w'):=fun wr v row hR hr=>zFV wr v row hR hr f;have HIX:Hid (∀w i,i<64->Sem.run prog (Instr.index 246 (.agg (a64 f)) (.int .i64 ((i:Nat):Int))) w=.ok (.int .i64 (f i)) w):=fun w i=>zJR w f i;have HAG:Hid (∀i,i<64->(a64 f)[i]? =some (.int .i64 (f i))):=jN f;have HS1:Hid (∀j,j<m.next.length->qE (m.next.getD j []) f=true->(∀i,i<j->qE (m.next.getD i []) f=false)->m.seek f=j):=fun j hj h hn=>zMl m.next f j hj h hn
 have HS2:Hid ((∀i,i<m.next.length->qE (m.next.getD i []) f=false)->m.seek f=m.next.length):=fun h=>zKo m.next f h
 have HN:Hid (m.withN most f=if nz f=true then 0 else if m.seek f<m.next.length then m.seek f else m.addN most):=rfl;have HW:Hid (m.withM most f=if nz f=true then m else if m.seek f<m.next.length then m else if m.addN most=0 then m.add most (-1) else(m.add most (-1)).fillTo (m.addN most) f 64):=rfl;clear h;generalize a64 f=A at *;obtain⟨w1,hw1⟩:∃w1,w1=w.alloc (.cells A 246):=⟨_,rfl⟩
 rw[<-hw1] at HB0 heq HKA HM0;cases hz:nz f with
 |true=>
  rw[hz] at heq;have HZ:Hid (m.withN most f=0∧m.withM most f=m):=⟨by rw[HN.out,if_pos hz],by rw[HW.out,if_pos hz]⟩
  clear hz;have HR1:Hid (w1.rangeAt w.heap.size 0 A.toList):=HRG.out w1 HB0.out;go_in;apply wp_cut;intro K0 J;go_wp2;apply J.out;clear J;rw[<-hw1];clear hw1;go_wp2_with (first|(refine wpList_load_mid rfl 246 (.tmp 3) rfl w.heap.size 0 rfl A.toList (.array 64 3) HR1.out underlying246 rfl HLN.out ?_))
  go_ret;exact⟨by rw[HZ.out.1];rfl,by rw[HZ.out.2];exact HM0.out,HKA.out.stayT⟩
 |false=>
  rw[hz] at heq;have HN2:Hid (m.withN most f=if m.seek f<m.next.length then m.seek f else m.addN most):=by show _=_;rw[HN.out,if_neg (by rw[hz];decide)]
  have HW2:Hid (m.withM most f=if m.seek f<m.next.length then m else if m.addN most=0 then m.add most (-1) else(m.add most (-1)).fillTo (m.addN most) f 64):=by show _=_;rw[HW.out,if_neg (by rw[hz];decide)]
  clear hz HN HW;have HR1:Hid (w1.rangeAt w.heap.size 0 A.toList):=HRG.out w1 HB0.out;obtain⟨nv,rv,ov,gs,h1⟩:=HM0.out;obtain⟨an,cn,hnv,x3,hrow⟩:=h1.rows;have HM1:Hid (Mw w0 w1 mb kb most m nv rv ov gs):=h1;have HRW:Hid (∀i,i<m.next.length->∃g,an=some ⟨g,0,none⟩∧g<w1.heap.size∧w1.cell? ⟨g,i,none⟩=some (.slice (some ⟨gs i,0,none⟩) 256 256)):=hrow;clear h1 hrow;go_in;apply wp_cut;intro K0 J;go_wp2;apply J.out;clear J;rw[<-hw1];clear hw1;go_wp2_with (first|(refine wpList_load_mid rfl 246 (.tmp 3) rfl w.heap.size 0 rfl A.toList (.array 64 3) HR1.out underlying246 rfl HLN.out ?_))
  clear heq;go_loopg [19] m.next.length (fun k i wr=>∃j:Nat,k=m.next.length-j∧j<=m.next.length∧i=.int .i64 (j:Int)∧(∀i,i<j->qE (m.next.getD i []) f=false)∧Grew w1 wr)
  case atStart=>exact⟨0,rfl,lX,rfl,fun i hi=>by omega,⟨rfl,rfl,lQ,fun _ _ _=>rfl⟩⟩
  case round=>
   obtain⟨j,hgk,hj,rfl,hno,hkp⟩:=hrel;have HB:Hid (gk=m.next.length-j∧(∀i,i<j->qE (m.next.getD i []) f=false)∧Grew w1 wr):=⟨hgk,hno,hkp⟩
   have hbl:w.heap.size<w1.heap.size:=(kQ.1 HB0.out).1;have HB2:Hid (wr.heap[w.heap.size]? =some (.cells A 246)):=(hkp.block _ hbl (kJ hbl)).trans HB0.out;have HR2:Hid (wr.rangeAt w.heap.size 0 A.toList):=HRG.out wr HB2.out;by_cases hj2:j<m.next.length
   ·have i1:(j:Int)<(m.next.length:Int):=by omega
    obtain⟨g,rfl,hgl,hc⟩:=HRW.out j hj2;have y1:=zA hc hgl hkp;have HC:Hid (Calls prog 186 #[.slice (some ⟨gs j,0,none⟩) 256 256,.agg A] wr fun e w'=>e=.returned (.bool (qE (m.next.getD j []) f))∧Grew wr w'):=HLE.out wr _ _ ((HM1.out.grown hkp).rowInts j hj2) (HM1.out.each j hj2).2.2;have HS3:Hid (qE (m.next.getD j []) f=true->m.seek f=j):=fun h=>HS1.out j hj2 h HB.out.2.1;have HN3:Hid (qE (m.next.getD j []) f=false->∀i,i<j+1->qE (m.next.getD i []) f=false):=fun h i hi=>by
     by_cases e:i=j
     ·rw[e];exact h
     ·exact HB.out.2.1 i (by omega)
    clear hgk hno hkp hc;cases hlb:qE (m.next.getD j []) f with
    |true=>
     rw[hlb] at HC;have HSK:=HS3.out hlb;have HZ:Hid (m.withN most f=j∧m.withM most f=m):=⟨by rw[HN2.out,HSK,if_pos hj2],by rw[HW2.out,HSK,if_pos hj2]⟩
     clear hlb HSK;go_wp2_with (first|(refine wpList_load_mid rfl 246 (.tmp 3) rfl w.heap.size 0 rfl A.toList (.array 64 3) HR2.out underlying246 rfl HLN.out ?_)|(go_at_call 186;refine HC.out.mono ?_;rintro e w5 ⟨rfl,hk5⟩))
     go_ret;have hk6:=HB.out.2.2.trans (hk5.lower HB.out.2.2.size HB.out.2.2.size);exact⟨by rw[HZ.out.1];rfl,by rw[HZ.out.2];exact⟨_,_,_,_,HM1.out.grown hk6⟩,StayT.trans HKA.out.stayT hk6.stayT⟩
    |false=>
     rw[hlb] at HC;have HR:Hid (∀i,i<j+1->qE (m.next.getD i []) f=false):=HN3.out hlb;clear hlb;go_wp2_with (first|(refine wpList_load_mid rfl 246 (.tmp 3) rfl w.heap.size 0 rfl A.toList (.array 64 3) HR2.out underlying246 rfl HLN.out ?_)|(go_at_call 186;refine HC.out.mono ?_;rintro e w5 ⟨rfl,hk5⟩))
     go_roundg (m.next.length-(j+1))
     case measure=>rw[HB.out.1];omega
     case rel=>exact⟨j+1,rfl,by omega,by go_num,HR.out,HB.out.2.2.trans (hk5.lower HB.out.2.2.size HB.out.2.2.size)⟩
   ·have i1:(m.next.length:Int)<=(j:Int):=by omega
    have hsk:m.seek f=m.next.length:=HS2.out fun i hi=>hno i (by omega)
    have HN3:Hid (m.withN most f=m.addN most):=by show _=_;rw[HN2.out,hsk,if_neg (Nat.lt_irrefl _)]
    have HW3:Hid (m.withM most f=if m.addN most=0 then m.add most (-1) else(m.add most (-1)).fillTo (m.addN most) f 64):=by show _=_;rw[HW2.out,hsk,if_neg (Nat.lt_irrefl _)]
    have HAdd:Hid (Calls prog 133 #[.pointer (some ⟨mb,0,none⟩),.int .i64 (-1)] wr fun e w'=>e=.returned (.int .i64 ((m.addN most:Nat):Int))∧MwIs w0 w' mb kb most (m.add most (-1))∧StayT wr w'):=zEn w0 wr mb kb most m ⟨_,_,_,_,HM1.out.grown hkp⟩ hmost hr (-1);have HST:Hid (StayT w wr):=StayT.trans HKA.out.stayT hkp.stayT;have HADL:Hid (m.addN most≠0->m.addN most<(m.add most (-1)).next.length):=fun h=>by
     unfold Mk.addN at h ⊢;unfold Mk.add;by_cases e:most<=m.next.length
     ·rw[if_pos e] at h;exact absurd rfl h
     ·rw[if_neg e,if_neg e];show _<(m.next++[zeros]).length;simp
    clear hgk hno hkp hsk HN2 HW2 HM1 HRW x3;by_cases hs0:m.addN most=0
    ·rw[hs0] at HAdd HN3
     have HW4:Hid (m.withM most f=m.add most (-1)):=by show _=_;rw[HW3.out,if_pos hs0]
     clear HW3 HADL hs0;go_wp2_with (first|(go_at_call 133;refine HAdd.out.mono ?_;rintro e w5 ⟨rfl,hM5,hS5⟩))
     go_ret;exact⟨by rw[HN3.out];rfl,by rw[HW4.out];exact hM5,HST.out.trans hS5⟩
    ·have hsl:=HADL.out hs0
     have HW4:Hid (m.withM most f=(m.add most (-1)).fillTo (m.addN most) f 64):=by show _=_;rw[HW3.out,if_neg hs0]
     have hc0:(((m.addN most:Nat):Int)==0)=false:=by rw[gQ];omega
     clear HW3 HADL hs0;generalize m.add most (-1)=m2 at *;generalize m.addN most=s at *;go_wp2_with (first|(go_at_call 133;refine HAdd.out.mono ?_;rintro e w5 ⟨rfl,hM5,hS5⟩;have HB5:w5.heap[w.heap.size]? =some (.cells A 246):=hS5 _ _ _ HB2.out (by decide) (by decide) (by decide);have HR5:=HRG.out w5 HB5)|(refine wpList_load_mid rfl 246 (.tmp 3) rfl w.heap.size 0 rfl A.toList (.array 64 3) HR5 underlying246 rfl HLN.out ?_))
     have HI5:Hid (MwIs w0 w5 mb kb most m2∧StayT w w5):=⟨hM5,HST.out.trans hS5⟩
     clear hM5 hS5 HB5 HR5;go_loopg [34] 64 (fun k i wr=>∃j:Nat,k=64-j∧j<=64∧i=.int .i64 (j:Int)∧MwIs w0 wr mb kb most (m2.fillTo s f j)∧StayT w wr)
     case atStart=>exact⟨0,rfl,lX,rfl,HI5.out.1,HI5.out.2⟩
     case round=>
      obtain⟨t,hgk,ht,rfl,hMt,hSt⟩:=hrel;have HE:Hid (gk=64-t∧MwIs w0 wr mb kb most (m2.fillTo s f t)∧StayT w wr):=⟨hgk,hMt,hSt⟩
      by_cases ht2:t<64
      ·have i2:(t:Int)<64:=by omega
       have i4:(128:Int)+(t:Int)<256:=by omega
       obtain⟨nv2,rv2,ov2,gs2,hM⟩:=hMt;have hfl:=zBt m2 s f t;obtain⟨an2,cn2,hnv2,v3,hrow2⟩:=hM.rows;obtain⟨g2,rfl,_,hc2⟩:=hrow2 s (by omega);obtain⟨c3,c4⟩:=hM.row s (128+t) (by omega) (by omega);have hput:=hM.put s (128+t) (by omega) (f t);have HPT:Hid (MwIs w0 (wr.setCell ⟨gs2 s,128+t,none⟩ (.int .i64 (f t))) mb kb most (m2.fillTo s f (t+1))∧StayT w (wr.setCell ⟨gs2 s,128+t,none⟩ (.int .i64 (f t)))):=⟨⟨_,_,_,_,hput.1⟩,hSt.trans hput.2⟩
       have hix:=HIX.out wr t ht2;have hag:=HAG.out t ht2;have i3:(s:Int)<((m2.fillTo s f t).next.length:Int):=by omega
       clear hgk hSt hM hput hnv2 hrow2 hfl;generalize (m2.fillTo s f t).next.length=L at *
       generalize ((m2.fillTo s f t).next.getD s []).getD (128+t) 0=old at *;generalize f t=y at *;go_wp2;go_roundg (64-(t+1))
       case measure=>rw[HE.out.1];omega
       case rel=>exact⟨t+1,rfl,by omega,by go_num,HPT.out.1,HPT.out.2⟩
      ·have i2:(64:Int)<=(t:Int):=by omega
       have e:t=64:=by omega
       subst e;clear hgk hMt hSt;go_wp2;go_ret;exact⟨by rw[HN3.out];rfl,by rw[HW4.out];exact HE.out.2.1,HE.out.2.2⟩
end
section
structure Mk.Fit (m:Mk)(most:Nat):Prop where
 same:m.rules.length=m.next.length
 few:m.next.length<=most
theorem zED {m:Mk}{most:Nat}(h:m.Fit most)(r:Int):(m.add most r).Fit most:=by
 unfold Mk.add;by_cases e:most<=m.next.length
 ·rw[if_pos e];exact⟨h.same,h.few⟩
 ·rw[if_neg e]
  have:=h.same;exact⟨by simp[this],by simp;omega⟩
theorem zJI {m:Mk}{most:Nat}(h:m.Fit most)(s b:Nat)(x:Int):(m.put s b x).Fit most:=⟨by rw[zC7];exact h.same,by rw[zC7];exact h.few⟩
theorem zJn {m:Mk}{most:Nat}(h:m.Fit most)(s:Nat)(f:Nat->Int)(j:Nat):(m.fillTo s f j).Fit most:=by
 induction j with
 |zero=>exact h
 |succ j ih=>exact zJI ih _ _ _
theorem zEG {m:Mk}{most:Nat}(h:m.Fit most)(f:Nat->Int):(m.withM most f).Fit most:=by
 unfold Mk.withM;split
 ·exact h
 ·split
  ·exact h
  ·split
   ·exact zED h _
   ·exact zJn (zED h _) _ _ _
theorem zKN (m:Mk)(s:Nat)(f:Nat->Int)(j:Nat):(m.fillTo s f j).of=m.of:=by
 induction j with
 |zero=>rfl
 |succ j ih=>exact ih
theorem zCU (m:Mk)(most:Nat)(r:Int):(m.add most r).of=m.of:=by unfold Mk.add;split <;> rfl
theorem zJB (m:Mk)(most:Nat)(f:Nat->Int):(m.withM most f).of=m.of:=by
 unfold Mk.withM;split
 ·rfl
 ·split
  ·rfl
  ·split
   ·exact zCU _ _ _
   ·rw[zKN,zCU]
structure Bx (w0 w wr:World)(mb kb most:Nat)(m:Mk)(b:Nat)(g:Nat->Int):Prop where
 ma:MwIs w0 wr mb kb most m
 arr:wr.heap[b]? =some (.cells (a64 g) 246)
 stay:StayT w wr
 new:w.heap.size<=b
 old:w0.heap.size<=w.heap.size
theorem zMT (g:Nat->Int)(i:Nat)(x:Int)(hi:i<64):(a64 g).setIfInBounds i (.int .i64 x)=a64 (fun j=>if j=i then x else g j):=by
 apply Array.ext_getElem?;intro j;rw[Array.getElem?_setIfInBounds];by_cases hj:j<64
 ·by_cases e:i=j
  ·subst e
   rw[if_pos rfl,zBi,if_pos hi,jN _ i hi,if_pos rfl]
  ·rw[if_neg e,jN _ j hj,jN _ j hj,if_neg (Ne.symm e)]
 ·rw[if_neg (by omega),Array.getElem?_eq_none (by rw[zBi];omega),Array.getElem?_eq_none (by rw[zBi];omega)]
theorem zLd {g g':Nat->Int}(h:∀i,i<64->g i=g' i):a64 g=a64 g':=by
 apply Array.ext_getElem?;intro j;by_cases hj:j<64
 ·rw[jN _ j hj,jN _ j hj,h j hj]
 ·rw[Array.getElem?_eq_none (by rw[zBi];omega),Array.getElem?_eq_none (by rw[zBi];omega)]
section
variable {w0 w wr w2:World} {mb kb most:Nat} {m:Mk} {b:Nat} {g:Nat->Int}
theorem Mw.setBox {nv rv ov:Value}{gs:Nat->Nat}{i:Nat}{x:Value}{c:Array Value}(h:Mw w0 wr mb kb most m nv rv ov gs)(hb:wr.heap[b]? =some (.cells c 246))(hH:w0.heap.size<=b):Mw w0 (wr.setCell ⟨b,i,none⟩ x) mb kb most m nv rv ov gs:=by
 have e:∀k,k≠b->(wr.setCell ⟨b,i,none⟩ x).heap[k]? =wr.heap[k]? :=fun k hk=>lJ _ _ _ _ hk;have n1:mb≠b:=fun e2=>by
  have:=h.blk;rw[e2,hb] at this;simp at this
 have n2:∀i,i<m.next.length->gs i≠b:=fun i hi e2=>by
  have:=(h.each i hi).1;rw[e2,hb] at this;simp at this
 have n3:=zL h.nOwn hb (by decide);have n4:=zL h.rOwn hb (by decide);have n5:=zL h.oOwn hb (by decide);exact⟨(e mb n1).trans h.blk,zD h.nOwn fun k _ _ hk=>e k fun e2=>n3 (by rw[hk,e2]),fun i hi=>⟨(e _ (n2 i hi)).trans (h.each i hi).1,(h.each i hi).2⟩,zD h.rOwn fun k _ _ hk=>e k fun e2=>n4 (by rw[hk,e2]),zD h.oOwn fun k _ _ hk=>e k fun e2=>n5 (by rw[hk,e2]),h.inj,h.nr,h.no,h.ro,h.mH,h.keep.trans (zN _ _ _ _ hH)⟩
theorem Bx.set (h:Bx w0 w wr mb kb most m b g)(i:Nat)(hi:i<64)(x:Int):Bx w0 w (wr.setCell ⟨b,i,none⟩ (.int .i64 x)) mb kb most m b (fun j=>if j=i then x else g j):=by
 obtain⟨nv,rv,ov,gs,hM⟩:=h.ma;have hH:=lY h.old h.new;refine⟨⟨nv,rv,ov,gs,hM.setBox h.arr hH⟩,?_,fun k c t hk t1 t2 t3=>?_,h.new,h.old⟩
 ·rw[<-zMT g i x hi]
  simp[setCell,lU,h.arr]
 ·have hl:=(kQ.1 hk).1
  have hn:=h.new;exact(lJ _ _ _ _ (by show k≠b;omega)).trans (h.stay k c t hk t1 t2 t3)
theorem Bx.call {m':Mk}(h:Bx w0 w wr mb kb most m b g)(hM:MwIs w0 w2 mb kb most m')(hs:StayT wr w2):Bx w0 w w2 mb kb most m' b g:=⟨hM,hs b _ _ h.arr (by decide) (by decide) (by decide),h.stay.trans hs,h.new,h.old⟩
theorem Bx.congr {g':Nat->Int}(h:Bx w0 w wr mb kb most m b g)(e:∀i,i<64->g i=g' i):Bx w0 w wr mb kb most m b g':=⟨h.ma,by rw[<-zLd e];exact h.arr,h.stay,h.new,h.old⟩
theorem Bx.cell (h:Bx w0 w wr mb kb most m b g)(i:Nat)(hi:i<64):wr.cell? ⟨b,i,none⟩=some (.int .i64 (g i))∧wr.frozen? ⟨b,i,none⟩=false:=by
 constructor
 ·unfold cell?;rw[h.arr];exact jN g i hi
 ·unfold frozen?;rw[h.arr];simp
theorem Bx.start {m0:Mk}(h:MwIs w0 w mb kb most m0)(wr:World)(hs:StayT w wr)(hM:MwIs w0 wr mb kb most m)(hl:w.heap.size<=wr.heap.size):Bx w0 w (wr.alloc (.cells (a64 fun _=>0) 246)) mb kb most m wr.heap.size (fun _=>0):=by
 have hk:=kZ (b:=wr.heap.size) wr (.cells (a64 fun _=>0) 246) lQ;obtain⟨_,_,_,_,h⟩:=h;exact⟨hM.grown hk,gG _ _,hs.trans hk.stayT,hl,h.keep.size⟩
end
end
def vK:Nat->Nat
 |0=>0
 |1=>1
 |2=>64
 |_=>4096
def Mk.even (most:Nat):Nat->Mk->Int->Int×Mk
 |0,m,to=>(to,m)
 |c+1,m,to=>Mk.even most c (m.withM most fun _=>to) (m.withN most fun _=>to)
theorem zCQ (w0 w:World)(mb kb most:Nat)(m:Mk)(h:MwIs w0 w mb kb most m)(hmost:most<=1000000)(fit:m.Fit most)(to:Int)(c:Nat)(hc:c<=3):
  Calls prog 178 #[.pointer (some ⟨mb,0,none⟩),.int .i64 to,.int .i64 (vK c:Int)] w fun e w'=>e=.returned (.int .i64 (Mk.even most c m to).1)∧MwIs w0 w' mb kb most (Mk.even most c m to).2∧StayT w w':=by
 have HH:=vl h;have HF:=vl fit;go_in;go_wp2;go_loopg [1,2] c (fun k t s wr=>∃(n:Nat) (m2:Mk) (to2:Int),k=n∧n<=3∧t=.int .i64 to2∧s=.int .i64 (vK n:Int)∧MwIs w0 wr mb kb most m2∧m2.Fit most∧StayT w wr∧w.heap.size<=wr.heap.size∧Mk.even most c m to=Mk.even most n m2 to2)
 case atStart=>exact⟨c,m,to,rfl,hc,rfl,rfl,h,fit,StayT.refl _,lQ,rfl⟩
 case round=>
  obtain⟨n,m2,to2,hgk,hn,rfl,rfl,hM,hF,hS,hsz,hev⟩:=hrel;cases n with
  |zero=>
   have HA:Hid (MwIs w0 wr mb kb most m2∧StayT w wr∧Mk.even most c m to=(to2,m2)):=⟨hM,hS,hev⟩
   clear hM hF hS hev hgk;have hst:vK 0=0:=rfl;rw[hst];go_wp2;go_ret;exact⟨by rw[HA.out.2.2];rfl,by rw[HA.out.2.2];exact HA.out.1,HA.out.2.1⟩
  |succ n=>
   have hst:0<vK (n+1):=by
    rcases n with _|_|_|n
    all_goals (simp [vK])
   have hdv:vK (n+1)/64=vK n:=by
    rcases n with _|_|_|n
    all_goals first|rfl|omega
   have i1:(vK (n+1):Int)>0:=by omega
   have hs4:vK (n+1)<=4096:=by
    rcases n with _|_|_|n
    all_goals (simp [vK])
   have HSW:Hid (wrap64 ((vK (n+1):Int)/64)=(vK n:Int)):=by
    show _=_;rw[w64 _ (by omega) (by omega)];omega
   have HA:Hid (gk=n+1∧MwIs w0 wr mb kb most m2∧m2.Fit most∧StayT w wr∧w.heap.size<=wr.heap.size∧Mk.even most c m to=Mk.even most (n+1) m2 to2):=⟨hgk,hM,hF,hS,hsz,hev⟩
   clear hM hF hS hev hgk;go_wp2;rw[<-zCC];have HX:=vl <| Bx.start HH.out wr HA.out.2.2.2.1 HA.out.2.1 HA.out.2.2.2.2.1;generalize wr.alloc (.cells (a64 fun _=>0) 246)=w3 at *;generalize wr.heap.size=b at *;go_loopg [13] 64 (fun k i wr=>∃j:Nat,k=64-j∧j<=64∧i=.int .i64 (j:Int)∧Bx w0 w wr mb kb most m2 b (fun t=>if t<j then to2 else 0))
   case atStart=>exact⟨0,rfl,lX,rfl,HX.out.congr fun i _=>by simp⟩
   case round=>
    obtain⟨j,hgk,hj,rfl,hX⟩:=hrel;have HB:Hid (gk=64-j∧Bx w0 w wr mb kb most m2 b (fun t=>if t<j then to2 else 0)):=⟨hgk,hX⟩
    by_cases hj2:j<64
    ·have i2:(j:Int)<64:=by omega
     obtain⟨y1,z1⟩:=hX.cell j hj2;have HX2:Hid (Bx w0 w (wr.setCell ⟨b,j,none⟩ (.int .i64 to2)) mb kb most m2 b (fun t=>if t<j+1 then to2 else 0)):=(hX.set j hj2 to2).congr fun i _=>by
      by_cases e:i=j
      ·subst e;rw[if_pos rfl,if_pos (by omega)]
      ·rw[if_neg e]
       by_cases e2:i<j
       ·rw[if_pos e2,if_pos (by omega)]
       ·rw[if_neg e2,if_neg (by omega)]
     clear hgk hX;generalize (if j<j then to2 else 0)=old at *;go_wp2;go_roundg (64-(j+1))
     case measure=>rw[HB.out.1];omega
     case rel=>exact⟨j+1,rfl,by omega,by go_num,HX2.out⟩
    ·have i2:(64:Int)<=(j:Int):=by omega
     have HX2:Hid (Bx w0 w wr mb kb most m2 b (fun _=>to2)):=hX.congr fun i hi=>by rw[if_pos (by omega)]
     have HR2:Hid (wr.rangeAt b 0 (a64 fun _=>to2).toList):=zAV wr b _ HX2.out.arr;have HLN:Hid ((prog.info? 246).map (·.size)=some (a64 fun _=>to2).toList.length):=zEg _;have HF:=HA.out.2.2.1;have HW:Hid (Calls prog 179 #[.pointer (some ⟨mb,0,none⟩),.agg (a64 fun _=>to2)] wr fun e w'=>e=.returned (.int .i64 ((m2.withN most (fun _=>to2):Nat):Int))∧MwIs w0 w' mb kb most (m2.withM most fun _=>to2)∧StayT wr w'):=jQ w0 wr mb kb most m2 HX2.out.ma hmost (by have:=HF.same;have:=HF.few;omega) (by have:=HF.few;omega) _;have HEV:Hid (Mk.even most c m to=Mk.even most n (m2.withM most fun _=>to2) ((m2.withN most fun _=>to2:Nat):Int)):=HA.out.2.2.2.2.2;have HF2:Hid ((m2.withM most fun _=>to2).Fit most):=zEG HF _;have hnew:=HX2.out.new;clear hgk hX HF;generalize (a64 fun _=>to2)=A at *;generalize (m2.withM most fun _=>to2)=m3 at *;generalize (m2.withN most fun _=>to2)=n3 at *;go_wp2_with (first|(refine wpList_load_mid rfl 246 (.tmp 7) rfl b 0 rfl A.toList (.array 64 3) HR2.out underlying246 rfl HLN.out ?_)|(go_at_call 179;refine HW.out.mono ?_;rintro e w5 ⟨rfl,hM5,hS5⟩))
     go_roundg n
     case measure=>rw[HA.out.1];omega
     case rel=>
      have hX5:=HX2.out.call hM5 hS5;have hb5:=(kQ.1 hX5.arr).1;exact⟨n,m3,(n3:Int),rfl,by omega,rfl,by congr 1;omega,hM5,HF2.out,hX5.stay,by omega,HEV.out⟩
def zJO (step:Nat):Nat:=if step=64 then 2048 else if step=4096 then 65536 else 0
def xD (sub:Mk->Nat->Int×Mk)(step low:Nat)(m:Mk):Nat->(Nat->Int)×Mk
 |0=>(fun _=>0,m)
 |j+1=>if low+j*step<zJO step then(fun i=>if i=j then 0 else(xD sub step low m j).1 i,(xD sub step low m j).2) else(fun i=>if i=j then(sub (xD sub step low m j).2 (low+j*step)).1 else(xD sub step low m j).1 i,(sub (xD sub step low m j).2 (low+j*step)).2)
def yO (most:Nat)(p:(Nat->Int)×Mk):Int×Mk:=(((p.2.withN most p.1:Nat):Int),p.2.withM most p.1)
def jK (k:Kd)(a:Ar)(most kind cnt step:Nat)(sub:Mk->Nat->Int×Mk)(m:Mk)(low:Nat):Int×Mk:=
 if zJO step<=low∧a.alike (low:Int) ((low+64*step-1:Nat):Int)=true then Mk.even most cnt m (m.behind k a kind (low:Int)) else yO most (xD sub step low m 64)
def zV (k:Kd)(a:Ar)(most kind:Nat):Nat->Mk->Nat->Int×Mk
 |0,m,low=>jK k a most kind 1 1 (fun m c=>(m.behind k a kind (c:Int),m)) m low
 |l+1,m,low=>jK k a most kind (l+2) (vK (l+2)) (zV k a most kind l) m low
def Tame (most:Nat)(sub:Mk->Nat->Int×Mk):Prop:=∀m c,m.Fit most->(sub m c).2.Fit most∧(sub m c).2.of=m.of
theorem zKR (most:Nat)(c:Nat):∀(m:Mk) (to:Int),m.Fit most->(Mk.even most c m to).2.Fit most∧(Mk.even most c m to).2.of=m.of:=by
 induction c with
 |zero=>exact fun m to h=>⟨h,rfl⟩
 |succ c ih=>
  intro m to h;have:=ih (m.withM most fun _=>to) ((m.withN most fun _=>to:Nat):Int) (zEG h _);exact⟨this.1,this.2.trans (zJB _ _ _)⟩
theorem zC2 {most:Nat}{sub:Mk->Nat->Int×Mk}(h:Tame most sub)(step low:Nat){m:Mk}(hm:m.Fit most)(j:Nat):(xD sub step low m j).2.Fit most∧(xD sub step low m j).2.of=m.of:=by
 induction j with
 |zero=>exact⟨hm,rfl⟩
 |succ j ih=>
  unfold xD;split
  ·exact ih
  ·have:=h (xD sub step low m j).2 (low+j*step) ih.1
   exact⟨this.1,this.2.trans ih.2⟩
theorem zDi (k:Kd)(a:Ar){most:Nat}(kind cnt step:Nat){sub:Mk->Nat->Int×Mk}(h:Tame most sub):Tame most (jK k a most kind cnt step sub):=by
 intro m low hm;unfold jK;split
 ·exact zKR most cnt m _ hm
 ·have:=zC2 h step low hm 64
  exact⟨zEG this.1 _,(zJB _ _ _).trans this.2⟩
theorem zAe (k:Kd)(a:Ar)(most kind l:Nat):Tame most (zV k a most kind l):=by
 induction l with
 |zero=>exact zDi k a kind 1 1 fun m c hm=>⟨hm,rfl⟩
 |succ l ih=>exact zDi k a kind (l+2) (vK (l+2)) ih
theorem zCz (w0 w:World)(mb kb most:Nat)(m:Mk)(h:MwIs w0 w mb kb most m)(hmost:most<=1000000)(fit:m.Fit most)(k:Kd)(a:Ar)(hK:KdAt w0 kb a k)(ok:k.Ok a)(kind:Nat)(hk:kind<k.rows.length)(hof:m.of.length=k.rows.length)(low:Nat)(hlow:low<=1410000):
  Calls prog 136 #[.pointer (some ⟨mb,0,none⟩),.int .i64 (kind:Int),.int .i64 (low:Int),.int .i64 1] w fun e w'=>e=.returned (.int .i64 (zV k a most kind 0 m low).1)∧MwIs w0 w' mb kb most (zV k a most kind 0 m low).2∧StayT w w':=by
 have HDEF:Hid (zV k a most kind 0 m low=jK k a most kind 1 1 (fun (m:Mk) (c:Nat)=>((m.behind k a kind (c:Int),m):Int×Mk)) m low):=rfl;have HTM:Hid (Tame most (fun (m:Mk) (c:Nat)=>((m.behind k a kind (c:Int),m):Int×Mk))):=fun m c hm=>⟨hm,rfl⟩
 have HH:Hid (MwIs w0 w mb kb most m):=h;obtain⟨nv,rv,ov,gs,hM0⟩:=h;have hK2:=hK.grown hM0.keep;obtain⟨hkl,lv,tv,sv,kn,kr,hkb,hka,-,-⟩:=hK2;obtain⟨al,cl,hal,-⟩:=id hka.lows;obtain⟨at_,ct,hat,-⟩:=id hka.letters;obtain⟨as_,cs,has,-⟩:=id hka.sets;have HAL:Hid (∀y:Int,y=((low+64*1-1:Nat):Int)->Calls prog 177 #[.agg #[lv,tv,sv],.int .i64 (low:Int),.int .i64 y] w fun e w'=>e=.returned (.bool (a.alike (low:Int) ((low+64*1-1:Nat):Int)))∧Grew w w'):=by
  rintro y rfl;exact zB8 w lv tv sv a hka ok.few _ _
 have x0:=hM0.cells.1;have k0:w.cell? ⟨kb,0,none⟩=some lv:=by unfold cell?;rw[hkb];rfl
 have k1:w.cell? ⟨kb,1,none⟩=some tv:=by unfold cell?;rw[hkb];rfl
 have k2:w.cell? ⟨kb,2,none⟩=some sv:=by unfold cell?;rw[hkb];rfl
 subst hal hat has;obtain⟨T,hT⟩:∃T:Int,T=0:=⟨_,rfl⟩
 have HT:Hid (T=0):=hT;have HLE:Hid (∀w,Calls prog 176 #[.int .i64 1] w fun e w'=>e=.returned (.int .i64 T)∧w'=w):=fun w=>by rw[hT];exact zBY w 1 (by omega)
 clear hT;have HBH:Hid (∀w2,Grew w w2->Calls prog 134 #[.pointer (some ⟨mb,0,none⟩),.int .i64 (kind:Int),.int .i64 (low:Int)] w2 fun e w'=>e=.returned (.int .i64 (m.behind k a kind (low:Int)))∧Grew w2 w'):=fun w2 hk2=>zAf w0 w2 mb kb most m (HH.out.grown hk2) k a hK ok kind hk hof (low:Int);have HEV:Hid (∀w2 to,Grew w w2->Calls prog 178 #[.pointer (some ⟨mb,0,none⟩),.int .i64 to,.int .i64 1] w2 fun e w'=>e=.returned (.int .i64 (Mk.even most 1 m to).1)∧MwIs w0 w' mb kb most (Mk.even most 1 m to).2∧StayT w2 w'):=fun w2 to hk2=>zCQ w0 w2 mb kb most m (HH.out.grown hk2) hmost fit to 1 (by omega);have HSUB:Hid (∀wr m2,MwIs w0 wr mb kb most m2->m2.Fit most->m2.of.length=k.rows.length->∀c:Nat,c<=low+64*1->∀y:Int,y=(c:Int)->Calls prog 134 #[.pointer (some ⟨mb,0,none⟩),.int .i64 (kind:Int),.int .i64 y] wr fun e w'=>e=.returned (.int .i64 ((fun (m:Mk) (c:Nat)=>((m.behind k a kind (c:Int),m):Int×Mk)) m2 c).1)∧MwIs w0 w' mb kb most ((fun (m:Mk) (c:Nat)=>((m.behind k a kind (c:Int),m):Int×Mk)) m2 c).2∧StayT wr w'):=by
  rintro wr m2 hM hF hof2 c hc y rfl;refine(zAf w0 wr mb kb most m2 hM k a hK ok kind hk hof2 (c:Int)).mono ?_;rintro e w2 ⟨rfl,hk2⟩;exact⟨rfl,hM.grown hk2,hk2.stayT⟩
 have HFIT:Hid (m.Fit most∧m.of.length=k.rows.length):=⟨fit,hof⟩
 clear hM0 hkb hka hK ok hk hof fit;generalize a.lows.length=q0 at *;generalize a.letters.length=q1 at *;generalize a.sets.length=q2 at *;generalize hsub:(fun (m:Mk) (c:Nat)=>((m.behind k a kind (c:Int),m):Int×Mk))=sub at *;clear hsub;have HNO:Hid (¬(0<=low∧a.alike (low:Int) ((low+64*1-1:Nat):Int)=true)->zV k a most kind 0 m low=yO most (xD sub 1 low m 64)):=fun hn=>by
  rw[HDEF.out];exact if_neg hn
 have HYES:Hid (0<=low->a.alike (low:Int) ((low+64*1-1:Nat):Int)=true->zV k a most kind 0 m low=Mk.even most 1 m (m.behind k a kind (low:Int))):=fun h1 h2=>by
  rw[HDEF.out];exact if_pos ⟨h1,h2⟩
 have HX0:Hid (xD sub 1 low m 0=(fun _=>0,m)):=rfl;have HXS:Hid (∀j,xD sub 1 low m (j+1)=if low+j*1<0 then(fun i=>if i=j then 0 else(xD sub 1 low m j).1 i,(xD sub 1 low m j).2) else(fun i=>if i=j then(sub (xD sub 1 low m j).2 (low+j*1)).1 else(xD sub 1 low m j).1 i,(sub (xD sub 1 low m j).2 (low+j*1)).2)):=fun j=>rfl;have HXT:Hid (∀j,(xD sub 1 low m j).2.Fit most∧(xD sub 1 low m j).2.of=m.of):=fun j=>zC2 HTM.out 1 low HFIT.out.1 j;clear HDEF;generalize xD sub 1 low m=SX at *;generalize hal2:a.alike (low:Int) ((low+64*1-1:Nat):Int)=AL at *;have hcase:(¬(0<=low))∨(0<=low∧AL=false)∨(0<=low∧AL=true):=by
  by_cases h1:0<=low
  ·cases AL
   ·exact .inr (.inl ⟨h1,rfl⟩)
   ·exact .inr (.inr ⟨h1,rfl⟩)
  ·exact .inl h1
 rcases hcase with hc|⟨hc,hAL⟩|⟨hc,hAL⟩;rotate_left 2
 ·subst hAL
  have HZ:Hid (zV k a most kind 0 m low=Mk.even most 1 m (m.behind k a kind (low:Int))):=HYES.out hc rfl;have i1:(low:Int)>=T:=by rw[HT.out];omega
  clear HNO HYES HSUB HTM hal2 hc;generalize m.behind k a kind (low:Int)=bh at *;go_enter func136,ntmps136
  go_wp2_with (first|(go_at_call 176;refine(HLE.out _).mono ?_;rintro e w9 ⟨rfl,hw9⟩;have hw8:=hw9.symm;subst hw8)|(go_at_call 177;refine(HAL.out _ (by omega)).mono ?_;rintro e w2 ⟨rfl,hk2⟩)|(go_at_call 134;refine(HBH.out w2 hk2).mono ?_;rintro e w3 ⟨rfl,hk3⟩;have hk4:=hk2.trans (hk3.lower hk2.size hk2.size))|(go_at_call 178;refine(HEV.out w3 bh hk4).mono ?_;rintro e w5 ⟨rfl,hM5,hS5⟩))
  go_ret;exact⟨by rw[HZ.out];rfl,by rw[HZ.out];exact hM5,StayT.trans hk4.stayT hS5⟩
 ·exact absurd (Nat.zero_le low) hc
 ·subst hAL
  have HZ:Hid (zV k a most kind 0 m low=yO most (SX 64)):=HNO.out fun h1=>absurd h1.2 (by decide);have i1:(low:Int)>=T:=by rw[HT.out];omega
  clear HNO HYES hal2 HEV HBH hc;go_enter func136,ntmps136
  go_wp2_with (first|(go_at_call 176;refine(HLE.out _).mono ?_;rintro e w9 ⟨rfl,hw9⟩;have hw8:=hw9.symm;subst hw8)|(go_at_call 177;refine(HAL.out _ (by omega)).mono ?_;rintro e w2 ⟨rfl,K2⟩))
  rw[<-zCC];have HX:Hid (Bx w0 w (w2.alloc (.cells (a64 fun _=>0) 246)) mb kb most m w2.heap.size (fun _=>0)):=Bx.start HH.out w2 K2.stayT (HH.out.grown K2) K2.size;clear K2 HAL k0 k1 k2 x0 i1;generalize w2.alloc (.cells (a64 fun _=>0) 246)=w3 at *;generalize w2.heap.size=b at *;go_loopg [39] 64 (fun q i wr=>∃j:Nat,q=64-j∧j<=64∧i=.int .i64 (j:Int)∧Bx w0 w wr mb kb most (SX j).2 b (SX j).1)
  case atStart=>exact⟨0,rfl,lX,rfl,by rw[HX0.out];exact HX.out⟩
  case round=>
   obtain⟨j,hgk,hj,rfl,hX⟩:=hrel;have HB:Hid (gk=64-j∧Bx w0 w wr mb kb most (SX j).2 b (SX j).1):=⟨hgk,hX⟩
   have HTJ:=HXT.out j;by_cases hj2:j<64
   ·have i2:(j:Int)<64:=by omega
    obtain⟨y1,z1⟩:=hX.cell j hj2;have HC:Hid (∀y:Int,y=((low+j*1:Nat):Int)->Calls prog 134 #[.pointer (some ⟨mb,0,none⟩),.int .i64 (kind:Int),.int .i64 y] wr fun e w'=>e=.returned (.int .i64 (sub (SX j).2 (low+j*1)).1)∧MwIs w0 w' mb kb most (sub (SX j).2 (low+j*1)).2∧StayT wr w'):=HSUB.out wr _ hX.ma HTJ.1 (by rw[HTJ.2];exact HFIT.out.2) (low+j*1) (by omega);have HS:Hid (SX (j+1)=if low+j*1<0 then(fun i=>if i=j then 0 else(SX j).1 i,(SX j).2) else(fun i=>if i=j then(sub (SX j).2 (low+j*1)).1 else(SX j).1 i,(sub (SX j).2 (low+j*1)).2)):=HXS.out j;by_cases hcl:low+j*1<0
    ·exact absurd hcl (by omega)
    ·have HS2:Hid (SX (j+1)=(fun i=>if i=j then(sub (SX j).2 (low+j*1)).1 else(SX j).1 i,(sub (SX j).2 (low+j*1)).2)):=by show _=_;rw[HS.out,if_neg hcl]
     have i3:T<=(low:Int)+(j:Int)*1:=by rw[HT.out];omega
     have i4:(0:Int)<=(low:Int)+(j:Int):=by omega
     clear hgk hX hcl HS HTJ HSUB;generalize (sub (SX j).2 (low+j*1)).1=r1 at *;generalize (sub (SX j).2 (low+j*1)).2=m5 at *;generalize (SX j).1 j=old at *;go_wp2_with (first|(go_at_call 176;refine(HLE.out _).mono ?_;rintro e w9 ⟨rfl,hw9⟩;have hw8:=hw9.symm;subst hw8)|(go_at_call 134;refine(HC.out _ (by omega)).mono ?_;rintro e w5 ⟨rfl,hM5,hS5⟩;have hX5:=HB.out.2.call hM5 hS5;obtain⟨y5,z5⟩:=hX5.cell j hj2;have HX5:Hid (Bx w0 w w5 mb kb most m5 b (SX j).1):=hX5;clear hX5 hM5 hS5))
     go_roundg (64-(j+1))
     case measure=>rw[HB.out.1];omega
     case rel=>
      refine⟨j+1,rfl,by omega,by go_num,?_⟩;rw[HS2.out];exact HX5.out.set j hj2 r1
   ·have i2:(64:Int)<=(j:Int):=by omega
    have e:j=64:=by omega
    subst e;have HR2:Hid (wr.rangeAt b 0 (a64 (SX 64).1).toList):=zAV wr b _ hX.arr;have HLN:Hid ((prog.info? 246).map (·.size)=some (a64 (SX 64).1).toList.length):=zEg _;have HW:Hid (Calls prog 179 #[.pointer (some ⟨mb,0,none⟩),.agg (a64 (SX 64).1)] wr fun e w'=>e=.returned (.int .i64 (yO most (SX 64)).1)∧MwIs w0 w' mb kb most (yO most (SX 64)).2∧StayT wr w'):=jQ w0 wr mb kb most _ hX.ma hmost (by have:=HTJ.1.same;have:=HTJ.1.few;omega) (by have:=HTJ.1.few;omega) _;clear hgk hX HTJ HSUB;generalize (a64 (SX 64).1)=A at *;generalize yO most (SX 64)=wu at *;go_wp2_with (first|(refine wpList_load_mid rfl 246 (.tmp 9) rfl b 0 rfl A.toList (.array 64 3) HR2.out underlying246 rfl HLN.out ?_)|(go_at_call 179;refine HW.out.mono ?_;rintro e w5 ⟨rfl,hM5,hS5⟩))
    go_ret;exact⟨by rw[HZ.out];rfl,by rw[HZ.out];exact hM5,HB.out.2.stay.trans hS5⟩
theorem zCy (w0 w:World)(mb kb most:Nat)(m:Mk)(h:MwIs w0 w mb kb most m)(hmost:most<=1000000)(fit:m.Fit most)(k:Kd)(a:Ar)(hK:KdAt w0 kb a k)(ok:k.Ok a)(kind:Nat)(hk:kind<k.rows.length)(hof:m.of.length=k.rows.length)(low:Nat)(hlow:low<=1400000):
  Calls prog 136 #[.pointer (some ⟨mb,0,none⟩),.int .i64 (kind:Int),.int .i64 (low:Int),.int .i64 64] w fun e w'=>e=.returned (.int .i64 (zV k a most kind 1 m low).1)∧MwIs w0 w' mb kb most (zV k a most kind 1 m low).2∧StayT w w':=by
 have HDEF:Hid (zV k a most kind 1 m low=jK k a most kind 2 64 (zV k a most kind 0) m low):=rfl;have HTM:Hid (Tame most (zV k a most kind 0)):=zAe k a most kind 0;have HH:Hid (MwIs w0 w mb kb most m):=h;obtain⟨nv,rv,ov,gs,hM0⟩:=h;have hK2:=hK.grown hM0.keep;obtain⟨hkl,lv,tv,sv,kn,kr,hkb,hka,-,-⟩:=hK2;obtain⟨al,cl,hal,-⟩:=id hka.lows;obtain⟨at_,ct,hat,-⟩:=id hka.letters;obtain⟨as_,cs,has,-⟩:=id hka.sets;have HAL:Hid (∀y:Int,y=((low+64*64-1:Nat):Int)->Calls prog 177 #[.agg #[lv,tv,sv],.int .i64 (low:Int),.int .i64 y] w fun e w'=>e=.returned (.bool (a.alike (low:Int) ((low+64*64-1:Nat):Int)))∧Grew w w'):=by
  rintro y rfl;exact zB8 w lv tv sv a hka ok.few _ _
 have x0:=hM0.cells.1;have k0:w.cell? ⟨kb,0,none⟩=some lv:=by unfold cell?;rw[hkb];rfl
 have k1:w.cell? ⟨kb,1,none⟩=some tv:=by unfold cell?;rw[hkb];rfl
 have k2:w.cell? ⟨kb,2,none⟩=some sv:=by unfold cell?;rw[hkb];rfl
 subst hal hat has;obtain⟨T,hT⟩:∃T:Int,T=2048:=⟨_,rfl⟩
 have HT:Hid (T=2048):=hT;have HLE:Hid (∀w,Calls prog 176 #[.int .i64 64] w fun e w'=>e=.returned (.int .i64 T)∧w'=w):=fun w=>by rw[hT];exact zBY w 64 (by omega)
 clear hT;have HBH:Hid (∀w2,Grew w w2->Calls prog 134 #[.pointer (some ⟨mb,0,none⟩),.int .i64 (kind:Int),.int .i64 (low:Int)] w2 fun e w'=>e=.returned (.int .i64 (m.behind k a kind (low:Int)))∧Grew w2 w'):=fun w2 hk2=>zAf w0 w2 mb kb most m (HH.out.grown hk2) k a hK ok kind hk hof (low:Int);have HEV:Hid (∀w2 to,Grew w w2->Calls prog 178 #[.pointer (some ⟨mb,0,none⟩),.int .i64 to,.int .i64 64] w2 fun e w'=>e=.returned (.int .i64 (Mk.even most 2 m to).1)∧MwIs w0 w' mb kb most (Mk.even most 2 m to).2∧StayT w2 w'):=fun w2 to hk2=>zCQ w0 w2 mb kb most m (HH.out.grown hk2) hmost fit to 2 (by omega);have HSUB:Hid (∀wr m2,MwIs w0 wr mb kb most m2->m2.Fit most->m2.of.length=k.rows.length->∀c:Nat,c<=low+64*64->∀y:Int,y=(c:Int)->Calls prog 136 #[.pointer (some ⟨mb,0,none⟩),.int .i64 (kind:Int),.int .i64 y,.int .i64 1] wr fun e w'=>e=.returned (.int .i64 ((zV k a most kind 0) m2 c).1)∧MwIs w0 w' mb kb most ((zV k a most kind 0) m2 c).2∧StayT wr w'):=by
  rintro wr m2 hM hF hof2 c hc y rfl;exact zCz w0 wr mb kb most m2 hM hmost hF k a hK ok kind hk hof2 c (by omega)
 have HFIT:Hid (m.Fit most∧m.of.length=k.rows.length):=⟨fit,hof⟩
 clear hM0 hkb hka hK ok hk hof fit;generalize a.lows.length=q0 at *;generalize a.letters.length=q1 at *;generalize a.sets.length=q2 at *;generalize hsub:(zV k a most kind 0)=sub at *;clear hsub;have HNO:Hid (¬(2048<=low∧a.alike (low:Int) ((low+64*64-1:Nat):Int)=true)->zV k a most kind 1 m low=yO most (xD sub 64 low m 64)):=fun hn=>by
  rw[HDEF.out];exact if_neg hn
 have HYES:Hid (2048<=low->a.alike (low:Int) ((low+64*64-1:Nat):Int)=true->zV k a most kind 1 m low=Mk.even most 2 m (m.behind k a kind (low:Int))):=fun h1 h2=>by
  rw[HDEF.out];exact if_pos ⟨h1,h2⟩
 have HX0:Hid (xD sub 64 low m 0=(fun _=>0,m)):=rfl;have HXS:Hid (∀j,xD sub 64 low m (j+1)=if low+j*64<2048 then(fun i=>if i=j then 0 else(xD sub 64 low m j).1 i,(xD sub 64 low m j).2) else(fun i=>if i=j then(sub (xD sub 64 low m j).2 (low+j*64)).1 else(xD sub 64 low m j).1 i,(sub (xD sub 64 low m j).2 (low+j*64)).2)):=fun j=>rfl;have HXT:Hid (∀j,(xD sub 64 low m j).2.Fit most∧(xD sub 64 low m j).2.of=m.of):=fun j=>zC2 HTM.out 64 low HFIT.out.1 j;clear HDEF;generalize xD sub 64 low m=SX at *;generalize hal2:a.alike (low:Int) ((low+64*64-1:Nat):Int)=AL at *;have hcase:(¬(2048<=low))∨(2048<=low∧AL=false)∨(2048<=low∧AL=true):=by
  by_cases h1:2048<=low
  ·cases AL
   ·exact .inr (.inl ⟨h1,rfl⟩)
   ·exact .inr (.inr ⟨h1,rfl⟩)
  ·exact .inl h1
 rcases hcase with hc|⟨hc,hAL⟩|⟨hc,hAL⟩;rotate_left 2
 ·subst hAL
  have HZ:Hid (zV k a most kind 1 m low=Mk.even most 2 m (m.behind k a kind (low:Int))):=HYES.out hc rfl;have i1:(low:Int)>=T:=by rw[HT.out];omega
  clear HNO HYES HSUB HTM hal2 hc;generalize m.behind k a kind (low:Int)=bh at *;go_enter func136,ntmps136
  go_wp2_with (first|(go_at_call 176;refine(HLE.out _).mono ?_;rintro e w9 ⟨rfl,hw9⟩;have hw8:=hw9.symm;subst hw8)|(go_at_call 177;refine(HAL.out _ (by omega)).mono ?_;rintro e w2 ⟨rfl,hk2⟩)|(go_at_call 134;refine(HBH.out w2 hk2).mono ?_;rintro e w3 ⟨rfl,hk3⟩;have hk4:=hk2.trans (hk3.lower hk2.size hk2.size))|(go_at_call 178;refine(HEV.out w3 bh hk4).mono ?_;rintro e w5 ⟨rfl,hM5,hS5⟩))
  go_ret;exact⟨by rw[HZ.out];rfl,by rw[HZ.out];exact hM5,StayT.trans hk4.stayT hS5⟩
 ·have HZ:Hid (zV k a most kind 1 m low=yO most (SX 64)):=HNO.out fun h1=>hc h1.1
  have i1:(low:Int)<T:=by rw[HT.out];omega
  clear HNO HYES hal2 HEV HBH hc;go_enter func136,ntmps136
  go_wp2_with (first|(go_at_call 176;refine(HLE.out _).mono ?_;rintro e w9 ⟨rfl,hw9⟩;have hw8:=hw9.symm;subst hw8))
  have K2:Grew w w:=Keep.refl _ _ _;rw[<-zCC];have HX:Hid (Bx w0 w (w.alloc (.cells (a64 fun _=>0) 246)) mb kb most m w.heap.size (fun _=>0)):=Bx.start HH.out w K2.stayT (HH.out.grown K2) K2.size;clear K2 HAL k0 k1 k2 x0 i1;generalize w.alloc (.cells (a64 fun _=>0) 246)=w3 at *;generalize w.heap.size=b at *;go_loopg [39] 64 (fun q i wr=>∃j:Nat,q=64-j∧j<=64∧i=.int .i64 (j:Int)∧Bx w0 w wr mb kb most (SX j).2 b (SX j).1)
  case atStart=>exact⟨0,rfl,lX,rfl,by rw[HX0.out];exact HX.out⟩
  case round=>
   obtain⟨j,hgk,hj,rfl,hX⟩:=hrel;have HB:Hid (gk=64-j∧Bx w0 w wr mb kb most (SX j).2 b (SX j).1):=⟨hgk,hX⟩
   have HTJ:=HXT.out j;by_cases hj2:j<64
   ·have i2:(j:Int)<64:=by omega
    obtain⟨y1,z1⟩:=hX.cell j hj2;have HC:Hid (∀y:Int,y=((low+j*64:Nat):Int)->Calls prog 136 #[.pointer (some ⟨mb,0,none⟩),.int .i64 (kind:Int),.int .i64 y,.int .i64 1] wr fun e w'=>e=.returned (.int .i64 (sub (SX j).2 (low+j*64)).1)∧MwIs w0 w' mb kb most (sub (SX j).2 (low+j*64)).2∧StayT wr w'):=HSUB.out wr _ hX.ma HTJ.1 (by rw[HTJ.2];exact HFIT.out.2) (low+j*64) (by omega);have HS:Hid (SX (j+1)=if low+j*64<2048 then(fun i=>if i=j then 0 else(SX j).1 i,(SX j).2) else(fun i=>if i=j then(sub (SX j).2 (low+j*64)).1 else(SX j).1 i,(sub (SX j).2 (low+j*64)).2)):=HXS.out j;by_cases hcl:low+j*64<2048
    ·have HX2:Hid (Bx w0 w (wr.setCell ⟨b,j,none⟩ (.int .i64 0)) mb kb most (SX (j+1)).2 b (SX (j+1)).1):=by
      have h:=hX.set j hj2 0;show Bx _ _ _ _ _ _ (SX (j+1)).2 _ (SX (j+1)).1;rw[HS.out,if_pos hcl];exact h
     have i3:(low:Int)+(j:Int)*64<T:=by rw[HT.out];omega
     clear hgk hX hcl HC HS;generalize (SX j).1 j=old at *;go_wp2_with (first|(go_at_call 176;refine(HLE.out _).mono ?_;rintro e w9 ⟨rfl,hw9⟩;have hw8:=hw9.symm;subst hw8))
     go_roundg (64-(j+1))
     case measure=>rw[HB.out.1];omega
     case rel=>exact⟨j+1,rfl,by omega,by go_num,HX2.out⟩
    ·have HS2:Hid (SX (j+1)=(fun i=>if i=j then(sub (SX j).2 (low+j*64)).1 else(SX j).1 i,(sub (SX j).2 (low+j*64)).2)):=by show _=_;rw[HS.out,if_neg hcl]
     have i3:T<=(low:Int)+(j:Int)*64:=by rw[HT.out];omega
     have i4:(0:Int)<=(low:Int)+(j:Int):=by omega
     clear hgk hX hcl HS HTJ HSUB;generalize (sub (SX j).2 (low+j*64)).1=r1 at *;generalize (sub (SX j).2 (low+j*64)).2=m5 at *;generalize (SX j).1 j=old at *;go_wp2_with (first|(go_at_call 176;refine(HLE.out _).mono ?_;rintro e w9 ⟨rfl,hw9⟩;have hw8:=hw9.symm;subst hw8)|(go_at_call 136;refine(HC.out _ (by omega)).mono ?_;rintro e w5 ⟨rfl,hM5,hS5⟩;have hX5:=HB.out.2.call hM5 hS5;obtain⟨y5,z5⟩:=hX5.cell j hj2;have HX5:Hid (Bx w0 w w5 mb kb most m5 b (SX j).1):=hX5;clear hX5 hM5 hS5))
     go_roundg (64-(j+1))
     case measure=>rw[HB.out.1];omega
     case rel=>
      refine⟨j+1,rfl,by omega,by go_num,?_⟩;rw[HS2.out];exact HX5.out.set j hj2 r1
   ·have i2:(64:Int)<=(j:Int):=by omega
    have e:j=64:=by omega
    subst e;have HR2:Hid (wr.rangeAt b 0 (a64 (SX 64).1).toList):=zAV wr b _ hX.arr;have HLN:Hid ((prog.info? 246).map (·.size)=some (a64 (SX 64).1).toList.length):=zEg _;have HW:Hid (Calls prog 179 #[.pointer (some ⟨mb,0,none⟩),.agg (a64 (SX 64).1)] wr fun e w'=>e=.returned (.int .i64 (yO most (SX 64)).1)∧MwIs w0 w' mb kb most (yO most (SX 64)).2∧StayT wr w'):=jQ w0 wr mb kb most _ hX.ma hmost (by have:=HTJ.1.same;have:=HTJ.1.few;omega) (by have:=HTJ.1.few;omega) _;clear hgk hX HTJ HSUB;generalize (a64 (SX 64).1)=A at *;generalize yO most (SX 64)=wu at *;go_wp2_with (first|(refine wpList_load_mid rfl 246 (.tmp 9) rfl b 0 rfl A.toList (.array 64 3) HR2.out underlying246 rfl HLN.out ?_)|(go_at_call 179;refine HW.out.mono ?_;rintro e w5 ⟨rfl,hM5,hS5⟩))
    go_ret;exact⟨by rw[HZ.out];rfl,by rw[HZ.out];exact hM5,HB.out.2.stay.trans hS5⟩
 ·subst hAL
  have HZ:Hid (zV k a most kind 1 m low=yO most (SX 64)):=HNO.out fun h1=>absurd h1.2 (by decide);have i1:(low:Int)>=T:=by rw[HT.out];omega
  clear HNO HYES hal2 HEV HBH hc;go_enter func136,ntmps136
  go_wp2_with (first|(go_at_call 176;refine(HLE.out _).mono ?_;rintro e w9 ⟨rfl,hw9⟩;have hw8:=hw9.symm;subst hw8)|(go_at_call 177;refine(HAL.out _ (by omega)).mono ?_;rintro e w2 ⟨rfl,K2⟩))
  rw[<-zCC];have HX:Hid (Bx w0 w (w2.alloc (.cells (a64 fun _=>0) 246)) mb kb most m w2.heap.size (fun _=>0)):=Bx.start HH.out w2 K2.stayT (HH.out.grown K2) K2.size;clear K2 HAL k0 k1 k2 x0 i1;generalize w2.alloc (.cells (a64 fun _=>0) 246)=w3 at *;generalize w2.heap.size=b at *;go_loopg [39] 64 (fun q i wr=>∃j:Nat,q=64-j∧j<=64∧i=.int .i64 (j:Int)∧Bx w0 w wr mb kb most (SX j).2 b (SX j).1)
  case atStart=>exact⟨0,rfl,lX,rfl,by rw[HX0.out];exact HX.out⟩
  case round=>
   obtain⟨j,hgk,hj,rfl,hX⟩:=hrel;have HB:Hid (gk=64-j∧Bx w0 w wr mb kb most (SX j).2 b (SX j).1):=⟨hgk,hX⟩
   have HTJ:=HXT.out j;by_cases hj2:j<64
   ·have i2:(j:Int)<64:=by omega
    obtain⟨y1,z1⟩:=hX.cell j hj2;have HC:Hid (∀y:Int,y=((low+j*64:Nat):Int)->Calls prog 136 #[.pointer (some ⟨mb,0,none⟩),.int .i64 (kind:Int),.int .i64 y,.int .i64 1] wr fun e w'=>e=.returned (.int .i64 (sub (SX j).2 (low+j*64)).1)∧MwIs w0 w' mb kb most (sub (SX j).2 (low+j*64)).2∧StayT wr w'):=HSUB.out wr _ hX.ma HTJ.1 (by rw[HTJ.2];exact HFIT.out.2) (low+j*64) (by omega);have HS:Hid (SX (j+1)=if low+j*64<2048 then(fun i=>if i=j then 0 else(SX j).1 i,(SX j).2) else(fun i=>if i=j then(sub (SX j).2 (low+j*64)).1 else(SX j).1 i,(sub (SX j).2 (low+j*64)).2)):=HXS.out j;by_cases hcl:low+j*64<2048
    ·have HX2:Hid (Bx w0 w (wr.setCell ⟨b,j,none⟩ (.int .i64 0)) mb kb most (SX (j+1)).2 b (SX (j+1)).1):=by
      have h:=hX.set j hj2 0;show Bx _ _ _ _ _ _ (SX (j+1)).2 _ (SX (j+1)).1;rw[HS.out,if_pos hcl];exact h
     have i3:(low:Int)+(j:Int)*64<T:=by rw[HT.out];omega
     clear hgk hX hcl HC HS;generalize (SX j).1 j=old at *;go_wp2_with (first|(go_at_call 176;refine(HLE.out _).mono ?_;rintro e w9 ⟨rfl,hw9⟩;have hw8:=hw9.symm;subst hw8))
     go_roundg (64-(j+1))
     case measure=>rw[HB.out.1];omega
     case rel=>exact⟨j+1,rfl,by omega,by go_num,HX2.out⟩
    ·have HS2:Hid (SX (j+1)=(fun i=>if i=j then(sub (SX j).2 (low+j*64)).1 else(SX j).1 i,(sub (SX j).2 (low+j*64)).2)):=by show _=_;rw[HS.out,if_neg hcl]
     have i3:T<=(low:Int)+(j:Int)*64:=by rw[HT.out];omega
     have i4:(0:Int)<=(low:Int)+(j:Int):=by omega
     clear hgk hX hcl HS HTJ HSUB;generalize (sub (SX j).2 (low+j*64)).1=r1 at *;generalize (sub (SX j).2 (low+j*64)).2=m5 at *;generalize (SX j).1 j=old at *;go_wp2_with (first|(go_at_call 176;refine(HLE.out _).mono ?_;rintro e w9 ⟨rfl,hw9⟩;have hw8:=hw9.symm;subst hw8)|(go_at_call 136;refine(HC.out _ (by omega)).mono ?_;rintro e w5 ⟨rfl,hM5,hS5⟩;have hX5:=HB.out.2.call hM5 hS5;obtain⟨y5,z5⟩:=hX5.cell j hj2;have HX5:Hid (Bx w0 w w5 mb kb most m5 b (SX j).1):=hX5;clear hX5 hM5 hS5))
     go_roundg (64-(j+1))
     case measure=>rw[HB.out.1];omega
     case rel=>
      refine⟨j+1,rfl,by omega,by go_num,?_⟩;rw[HS2.out];exact HX5.out.set j hj2 r1
   ·have i2:(64:Int)<=(j:Int):=by omega
    have e:j=64:=by omega
    subst e;have HR2:Hid (wr.rangeAt b 0 (a64 (SX 64).1).toList):=zAV wr b _ hX.arr;have HLN:Hid ((prog.info? 246).map (·.size)=some (a64 (SX 64).1).toList.length):=zEg _;have HW:Hid (Calls prog 179 #[.pointer (some ⟨mb,0,none⟩),.agg (a64 (SX 64).1)] wr fun e w'=>e=.returned (.int .i64 (yO most (SX 64)).1)∧MwIs w0 w' mb kb most (yO most (SX 64)).2∧StayT wr w'):=jQ w0 wr mb kb most _ hX.ma hmost (by have:=HTJ.1.same;have:=HTJ.1.few;omega) (by have:=HTJ.1.few;omega) _;clear hgk hX HTJ HSUB;generalize (a64 (SX 64).1)=A at *;generalize yO most (SX 64)=wu at *;go_wp2_with (first|(refine wpList_load_mid rfl 246 (.tmp 9) rfl b 0 rfl A.toList (.array 64 3) HR2.out underlying246 rfl HLN.out ?_)|(go_at_call 179;refine HW.out.mono ?_;rintro e w5 ⟨rfl,hM5,hS5⟩))
    go_ret;exact⟨by rw[HZ.out];rfl,by rw[HZ.out];exact hM5,HB.out.2.stay.trans hS5⟩
end Go.Proofs.YtbjcfkdnjaiclaaGreat
