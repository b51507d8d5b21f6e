import Derived.Test.YtbjcfkdnjaiclaaGreatB0
import Derived.Test.YtbjcfkdnjaiclaaGreatB3
/- Parts of the proof. -/
set_option linter.unusedVariables false
set_option linter.unusedSimpArgs false
set_option maxHeartbeats 4000000
set_option maxRecDepth 100000
namespace Go.Proofs.YtbjcfkdnjaiclaaGreat
open Go.RowKit Go.Proofs.Tryz Go.World
def In (w:World)(k:Nat):Prop:=k<w.heap.size
theorem Ints.grown {w w':World}{v:Value}{l:List Int}(h:Ints w (In w) v l)(hk:Grew w w'):Ints w' (In w') v l:=
 (h.keep fun b hb=>hk.block b hb (kJ hb)).mono fun _ hb=>lZ hb hk.size
theorem Bools.grown {w w':World}{v:Value}{l:List Bool}(h:Bools w (In w) v l)(hk:Grew w w'):Bools w' (In w') v l:=
 (h.keep fun b hb=>hk.block b hb (kJ hb)).mono fun _ hb=>lZ hb hk.size
theorem IntRows.grown {w w':World}{v:Value}{l:List (List Int)}(h:IntRows w (In w) v l)(hk:Grew w w'):IntRows w' (In w') v l:=
 (h.keep fun b hb=>hk.block b hb (kJ hb)).mono fun _ hb=>lZ hb hk.size
theorem BoolsAt.grown {w w':World}{v:Value}{n:Nat}{f:Nat->Bool}(h:BoolsAt w (In w) v n f)(hk:Grew w w'):BoolsAt w' (In w') v n f:=by
 obtain⟨b,o,cap,hb,r⟩:=h.keep fun b hb=>hk.block b hb (kJ hb);exact⟨b,o,cap,lZ hb hk.size,r⟩
theorem OwnF.at {w:World}{H n:Nat}{v:Value}{f:Nat->Bool}(h:OwnF w H v n f)(hn:0<n):BoolsAt w (In w) v n f:=by
 obtain⟨g,cap,hv,h1,h2,h3,h4,h5,_⟩:=Row.get h hn;exact⟨g,0,cap,h2,hv,h3,h4,fun i hi=>by rw[Nat.zero_add];exact h5 i hi⟩
theorem zA {w w':World}{b i:Nat}{x:Value}(h:w.cell? ⟨b,i,none⟩=some x)(hb:b<w.heap.size)(hk:Grew w w'):w'.cell? ⟨b,i,none⟩=some x:=(cell?_of_block (hk.block b hb (by omega))).trans h
structure TblAt (w:World)(nv rv:Value)(m:Sm):Prop where
 next:IntRows w (In w) nv m.next
 rules:Ints w (In w) rv m.rules
theorem TblAt.grown {w w':World}{nv rv:Value}{m:Sm}(h:TblAt w nv rv m)(hk:Grew w w'):TblAt w' nv rv m:=⟨h.next.grown hk,h.rules.grown hk⟩
structure Sm.Tbl (m:Sm):Prop where
 one:1<=m.next.length
 most:m.next.length<=200
 rules:m.rules.length=m.next.length
 rows:∀i,i<m.next.length->(m.next.getD i []).length=256
 to:∀i b,i<m.next.length->b<256->0<=(m.next.getD i []).getD b 0∧(m.next.getD i []).getD b 0<m.next.length
def zCm (m:Sm)(s:Nat):Bool:=m.rules.getD s 0 != -1
def zBV (s:Nat):Bool:=(s:Int) != 0
def zBU (one:Nat)(s:Nat):Bool:=(s:Int)==(one:Int)
def qU (a b:Nat->Bool)(s:Nat):Bool:=a s&& !b s
theorem zC0 (w:World)(nv rv:Value)(m:Sm)(hT:TblAt w nv rv m)(hm:m.Tbl):
  Calls prog 140 #[.agg #[nv,rv,.int .i64 m.start]] w fun e w'=>∃u,e=.returned u∧OwnF w' w.heap.size u (m.rules.length) (zCm m)∧Grew w w':=by
 obtain⟨i0,hi0,hz0,hz1,hz2⟩:=info_parts qP;have HM:=vl hT;obtain⟨an,cn,rfl,hcn,hmn,hnc⟩:=hT.next
 obtain⟨ar,cr,rfl,hcr,hmr,hrc⟩:=hT.rules;have HR:=vl hrc;have HL:=vl hm.rules;have h200:m.rules.length<=200:=by rw[HL.out];exact hm.most
 go_in;go_wp2;go_loopg [3,9] (m.rules.length) (fun q lst i wr=>∃j:Nat,q=m.rules.length-j∧j<=m.rules.length∧i=.int .i64 (j:Int)∧OwnF wr w.heap.size lst j (zCm m)∧Grew w wr)
 case atStart=>exact⟨0,rfl,lX,rfl,OwnF.nil _ _ _,kZ _ _ lQ⟩
 case round=>
  obtain⟨j,hgk,hj,rfl,ho,hkp⟩:=hrel;have HA:Hid (gk=m.rules.length-j∧Grew w wr):=⟨hgk,hkp⟩
  obtain⟨ao,cap,hv⟩:=ho.form;subst hv;have hszr:=hkp.size;have OR:=vl ho;by_cases hj2:j<m.rules.length
  ·have i1:(j:Int)<((m.rules.length:Nat):Int):=by omega
   obtain⟨b,o,rfl,hb,hc⟩:=HR.out j hj2;have yr:=zA hc hb hkp;have HV:Hid (zCm m j=(m.rules.getD j 0 != -1)):=rfl;generalize m.rules.getD j 0=x at *;go_wp2_with (first|(at_builtin;refine wpList_append_lies _ rfl _ _ 28 rfl (w.heap.size) 4 i0 (.bool false) 1 1 underlying28 hi0 hz0 hz1 hz2 rfl (by decide) _ _ _ rfl (OR.out.alloc _) ⟨wr.heap.size,0,none⟩ 1 1 [.bool (x != -1)] rfl rfl (cell_one_new _ _ _) (by intro u hu;simp at hu;subst hu;rfl) (by decide) (by unfold maxLen;omega) (by omega) (by simp;omega) _ rfl ?_;intro gg cap2 w2 hown hgrow hat hlt2;have hB:=xP OR.out hgrow hszr))
   have O2:Hid (OwnF w2 w.heap.size (.slice (some ⟨gg,0,none⟩) (j+1) cap2) (j+1) (zCm m)∧Grew w w2):=⟨OwnF.snoc hown HV.out,HA.out.2.trans (xN hB)⟩
   go_wp2;go_roundg (m.rules.length-(j+1))
   case measure=>rw[HA.out.1];omega
   case rel=>exact⟨j+1,rfl,by omega,by go_num,O2.out.1,O2.out.2⟩
  ·have hje:j=m.rules.length:=by omega
   have i1:((m.rules.length:Nat):Int)<=(j:Int):=by omega
   have HZ:Hid (OwnF wr w.heap.size (.slice ao j cap) (m.rules.length) (zCm m)):=by rw[hje] at ho ⊢;exact ho
   go_wp2;go_ret;exact⟨_,rfl,HZ.out,HA.out.2⟩
theorem zGY (w:World)(nv rv:Value)(m:Sm)(hT:TblAt w nv rv m)(hm:m.Tbl):
  Calls prog 144 #[.agg #[nv,rv,.int .i64 m.start]] w fun e w'=>∃u,e=.returned u∧OwnF w' w.heap.size u (m.next.length) (zBV)∧Grew w w':=by
 obtain⟨i0,hi0,hz0,hz1,hz2⟩:=info_parts qP;have HM:=vl hT;obtain⟨an,cn,rfl,hcn,hmn,hnc⟩:=hT.next
 obtain⟨ar,cr,rfl,hcr,hmr,hrc⟩:=hT.rules;have h200:=hm.most;go_in;go_wp2;go_loopg [3,8] (m.next.length) (fun q lst i wr=>∃j:Nat,q=m.next.length-j∧j<=m.next.length∧i=.int .i64 (j:Int)∧OwnF wr w.heap.size lst j (zBV)∧Grew w wr)
 case atStart=>exact⟨0,rfl,lX,rfl,OwnF.nil _ _ _,kZ _ _ lQ⟩
 case round=>
  obtain⟨j,hgk,hj,rfl,ho,hkp⟩:=hrel;have HA:Hid (gk=m.next.length-j∧Grew w wr):=⟨hgk,hkp⟩
  obtain⟨ao,cap,hv⟩:=ho.form;subst hv;have hszr:=hkp.size;have OR:=vl ho;by_cases hj2:j<m.next.length
  ·have i1:(j:Int)<((m.next.length:Nat):Int):=by omega
   have HV:Hid (zBV j=((j:Int) != 0)):=rfl;go_wp2_with (first|(at_builtin;refine wpList_append_lies _ rfl _ _ 28 rfl (w.heap.size) 4 i0 (.bool false) 1 1 underlying28 hi0 hz0 hz1 hz2 rfl (by decide) _ _ _ rfl (OR.out.alloc _) ⟨wr.heap.size,0,none⟩ 1 1 [.bool ((j:Int) != 0)] rfl rfl (cell_one_new _ _ _) (by intro u hu;simp at hu;subst hu;rfl) (by decide) (by unfold maxLen;omega) (by omega) (by simp;omega) _ rfl ?_;intro gg cap2 w2 hown hgrow hat hlt2;have hB:=xP OR.out hgrow hszr))
   have O2:Hid (OwnF w2 w.heap.size (.slice (some ⟨gg,0,none⟩) (j+1) cap2) (j+1) (zBV)∧Grew w w2):=⟨OwnF.snoc hown HV.out,HA.out.2.trans (xN hB)⟩
   go_wp2;go_roundg (m.next.length-(j+1))
   case measure=>rw[HA.out.1];omega
   case rel=>exact⟨j+1,rfl,by omega,by go_num,O2.out.1,O2.out.2⟩
  ·have hje:j=m.next.length:=by omega
   have i1:((m.next.length:Nat):Int)<=(j:Int):=by omega
   have HZ:Hid (OwnF wr w.heap.size (.slice ao j cap) (m.next.length) (zBV)):=by rw[hje] at ho ⊢;exact ho
   go_wp2;go_ret;exact⟨_,rfl,HZ.out,HA.out.2⟩
theorem zI1 (w:World)(nv rv:Value)(m:Sm)(hT:TblAt w nv rv m)(hm:m.Tbl)(one:Nat):
  Calls prog 148 #[.agg #[nv,rv,.int .i64 m.start],.int .i64 one] w fun e w'=>∃u,e=.returned u∧OwnF w' w.heap.size u (m.next.length) (zBU one)∧Grew w w':=by
 obtain⟨i0,hi0,hz0,hz1,hz2⟩:=info_parts qP;have HM:=vl hT;obtain⟨an,cn,rfl,hcn,hmn,hnc⟩:=hT.next
 obtain⟨ar,cr,rfl,hcr,hmr,hrc⟩:=hT.rules;have h200:=hm.most;go_in;go_wp2;go_loopg [5,10] (m.next.length) (fun q lst i wr=>∃j:Nat,q=m.next.length-j∧j<=m.next.length∧i=.int .i64 (j:Int)∧OwnF wr w.heap.size lst j (zBU one)∧Grew w wr)
 case atStart=>exact⟨0,rfl,lX,rfl,OwnF.nil _ _ _,kZ _ _ lQ⟩
 case round=>
  obtain⟨j,hgk,hj,rfl,ho,hkp⟩:=hrel;have HA:Hid (gk=m.next.length-j∧Grew w wr):=⟨hgk,hkp⟩
  obtain⟨ao,cap,hv⟩:=ho.form;subst hv;have hszr:=hkp.size;have OR:=vl ho;by_cases hj2:j<m.next.length
  ·have i1:(j:Int)<((m.next.length:Nat):Int):=by omega
   have HV:Hid (zBU one j=((j:Int)==(one:Int))):=rfl;go_wp2_with (first|(at_builtin;refine wpList_append_lies _ rfl _ _ 28 rfl (w.heap.size) 4 i0 (.bool false) 1 1 underlying28 hi0 hz0 hz1 hz2 rfl (by decide) _ _ _ rfl (OR.out.alloc _) ⟨wr.heap.size,0,none⟩ 1 1 [.bool ((j:Int)==(one:Int))] rfl rfl (cell_one_new _ _ _) (by intro u hu;simp at hu;subst hu;rfl) (by decide) (by unfold maxLen;omega) (by omega) (by simp;omega) _ rfl ?_;intro gg cap2 w2 hown hgrow hat hlt2;have hB:=xP OR.out hgrow hszr))
   have O2:Hid (OwnF w2 w.heap.size (.slice (some ⟨gg,0,none⟩) (j+1) cap2) (j+1) (zBU one)∧Grew w w2):=⟨OwnF.snoc hown HV.out,HA.out.2.trans (xN hB)⟩
   go_wp2;go_roundg (m.next.length-(j+1))
   case measure=>rw[HA.out.1];omega
   case rel=>exact⟨j+1,rfl,by omega,by go_num,O2.out.1,O2.out.2⟩
  ·have hje:j=m.next.length:=by omega
   have i1:((m.next.length:Nat):Int)<=(j:Int):=by omega
   have HZ:Hid (OwnF wr w.heap.size (.slice ao j cap) (m.next.length) (zBU one)):=by rw[hje] at ho ⊢;exact ho
   go_wp2;go_ret;exact⟨_,rfl,HZ.out,HA.out.2⟩
theorem zCn (w:World)(va vb:Value)(n:Nat)(fa fb:Nat->Bool)(hA:BoolsAt w (In w) va n fa)(hB:BoolsAt w (In w) vb n fb)(hn:n<=200):
  Calls prog 143 #[va,vb] w fun e w'=>∃u,e=.returned u∧OwnF w' w.heap.size u (n) (qU fa fb)∧Grew w w':=by
 obtain⟨i0,hi0,hz0,hz1,hz2⟩:=info_parts qP;obtain⟨ba,oa,ca,hba,rfl,_,_,hca⟩:=hA;obtain⟨bb,ob,cb,hbb,rfl,_,_,hcb⟩:=hB;have HCA:=vl hca;have HCB:=vl hcb;go_in;go_wp2;go_loopg [5,10] (n) (fun q lst i wr=>∃j:Nat,q=n-j∧j<=n∧i=.int .i64 (j:Int)∧OwnF wr w.heap.size lst j (qU fa fb)∧Grew w wr)
 case atStart=>exact⟨0,rfl,lX,rfl,OwnF.nil _ _ _,Keep.refl _ _ _⟩
 case round=>
  obtain⟨j,hgk,hj,rfl,ho,hkp⟩:=hrel;have HA:Hid (gk=n-j∧Grew w wr):=⟨hgk,hkp⟩
  obtain⟨ao,cap,hv⟩:=ho.form;subst hv;have hszr:=hkp.size;have OR:=vl ho;by_cases hj2:j<n
  ·have i1:(j:Int)<((n:Nat):Int):=by omega
   have ya:=zA (HCA.out j hj2) hba hkp;have yb:=zA (HCB.out j hj2) hbb hkp;have HV:Hid (qU fa fb j=(fa j&& !fb j)):=rfl;generalize fa j=xa at *;generalize fb j=xb at *;cases xa with
   |true=>
    go_wp2_with (first|(at_builtin;refine wpList_append_lies _ rfl _ _ 28 rfl (w.heap.size) 4 i0 (.bool false) 1 1 underlying28 hi0 hz0 hz1 hz2 rfl (by decide) _ _ _ rfl (OR.out.alloc _) ⟨wr.heap.size,0,none⟩ 1 1 [.bool (!xb)] rfl rfl (cell_one_new _ _ _) (by intro u hu;simp at hu;subst hu;rfl) (by decide) (by unfold maxLen;omega) (by omega) (by simp;omega) _ rfl ?_;intro gg cap2 w2 hown hgrow hat hlt2;have hB:=xP OR.out hgrow hszr))
    have O2:Hid (OwnF w2 w.heap.size (.slice (some ⟨gg,0,none⟩) (j+1) cap2) (j+1) (qU fa fb)∧Grew w w2):=⟨OwnF.snoc hown HV.out,HA.out.2.trans (xN hB)⟩
    go_wp2;go_roundg (n-(j+1))
    case measure=>rw[HA.out.1];omega
    case rel=>exact⟨j+1,rfl,by omega,by go_num,O2.out.1,O2.out.2⟩
   |false=>
    go_wp2_with (first|(at_builtin;refine wpList_append_lies _ rfl _ _ 28 rfl (w.heap.size) 4 i0 (.bool false) 1 1 underlying28 hi0 hz0 hz1 hz2 rfl (by decide) _ _ _ rfl (OR.out.alloc _) ⟨wr.heap.size,0,none⟩ 1 1 [.bool (false)] rfl rfl (cell_one_new _ _ _) (by intro u hu;simp at hu;subst hu;rfl) (by decide) (by unfold maxLen;omega) (by omega) (by simp;omega) _ rfl ?_;intro gg cap2 w2 hown hgrow hat hlt2;have hB:=xP OR.out hgrow hszr))
    have O2:Hid (OwnF w2 w.heap.size (.slice (some ⟨gg,0,none⟩) (j+1) cap2) (j+1) (qU fa fb)∧Grew w w2):=⟨OwnF.snoc hown HV.out,HA.out.2.trans (xN hB)⟩
    go_wp2;go_roundg (n-(j+1))
    case measure=>rw[HA.out.1];omega
    case rel=>exact⟨j+1,rfl,by omega,by go_num,O2.out.1,O2.out.2⟩
  ·have hje:j=n:=by omega
   have i1:((n:Nat):Int)<=(j:Int):=by omega
   have HZ:Hid (OwnF wr w.heap.size (.slice ao j cap) (n) (qU fa fb)):=by rw[hje] at ho ⊢;exact ho
   go_wp2;go_ret;exact⟨_,rfl,HZ.out,HA.out.2⟩
def zAL (n:Nat)(f:Nat->Bool):Int:=if(List.range n).findIdx f<n then((List.range n).findIdx f:Int) else -1
theorem zEj (w:World)(v:Value)(n:Nat)(f:Nat->Bool)(hA:BoolsAt w (In w) v n f)(hn:n<=200):
  Calls prog 142 #[v] w fun e w'=>e=.returned (.int .i64 (zAL n f))∧w'=w:=by
 obtain⟨ba,oa,ca,hba,rfl,_,_,hca⟩:=hA;have HCA:=vl hca;go_in;go_wp2;go_loop [7] (fun i=>∃j:Nat,j<=n∧i=.int .i64 j∧∀a,a<j->f a=false) (fun i=>n-(intOf i).toNat)
 case atStart=>exact⟨0,lX,rfl,fun a ha=>by omega⟩
 case round=>
  obtain⟨j,hj,rfl,hall⟩:=hrel;have HA:=vl hall;by_cases hj2:j<n
  ·have i1:(j:Int)<(n:Int):=by omega
   have y:=HCA.out j hj2;cases hf:f j with
   |true=>
    rw[hf] at y;have HF:Hid (zAL n f=(j:Int)):=by
     have e:(List.range n).findIdx f=j:=by
      rw[List.findIdx_eq (by simpa using hj2)];exact⟨by simpa using hf,fun a ha=>by simpa using HA.out a (by simpa using ha)⟩
     show _=_;unfold zAL;rw[e,if_pos hj2]
    go_wp2;go_ret;exact⟨zAT HF.out.symm,rfl⟩
   |false=>
    rw[hf] at y;have HF:=vl hf;go_wp2;exact⟨⟨j+1,by omega,by go_num,fun a ha=>by(by_cases e:a=j;exact e ▸ HF.out;exact HA.out a (by omega))⟩,by simp[intOf];omega⟩
  ·have i1:(n:Int)<=(j:Int):=by omega
   have HF:Hid (zAL n f=-1):=by
    have h:=List.findIdx_eq_length (xs:=List.range n) (p:=f);rw[List.length_range] at h;have e:=h.2 fun a ha=>HA.out a (by have:=List.mem_range.1 ha;omega);show _=_;unfold zAL;rw[e,if_neg (Nat.lt_irrefl _)]
   go_wp2;go_ret;exact⟨zAT HF.out.symm,rfl⟩
def hasRuleB (m:Sm)(rule:Int):Bool:=m.rules.any (·==rule)
theorem zF0 (w:World)(nv rv:Value)(m:Sm)(hT:TblAt w nv rv m)(hm:m.Tbl)(rule:Nat):
  Calls prog 69 #[.agg #[nv,rv,.int .i64 m.start],.int .i64 rule] w fun e w'=>e=.returned (.bool (hasRuleB m rule))∧Grew w w':=by
 obtain⟨an,cn,rfl,hcn,hmn,hnc⟩:=hT.next
 obtain⟨ar,cr,rfl,hcr,hmr,hrc⟩:=hT.rules;have HR:=vl hrc;have HL:=vl hm.rules;have h200:m.rules.length<=200:=by rw[HL.out];exact hm.most
 go_in;go_wp2;go_loopg [10] m.rules.length (fun q i wr=>∃j:Nat,q=m.rules.length-j∧j<=m.rules.length∧i=.int .i64 (j:Int)∧(m.rules.take j).any (·==(rule:Int))=false∧Grew w wr)
 case atStart=>exact⟨0,rfl,lX,rfl,rfl,kZ _ _ lQ⟩
 case round=>
  obtain⟨j,hgk,hj,rfl,hall,hkp⟩:=hrel;have HA:Hid (gk=m.rules.length-j∧(m.rules.take j).any (·==(rule:Int))=false∧Grew w wr):=⟨hgk,hall,hkp⟩
  by_cases hj2:j<m.rules.length
  ·have i1:(j:Int)<(m.rules.length:Int):=by omega
   obtain⟨b,o,rfl,hb,hc⟩:=HR.out j hj2;have yr:=zA hc hb hkp;have HS:Hid ((m.rules.take (j+1)).any (·==(rule:Int))=((m.rules.take j).any (·==(rule:Int))||(m.rules.getD j 0==(rule:Int)))):=by
    show _=_;rw[List.take_succ_eq_append_getElem hj2,List.any_append,lW,lV hj2];simp
   have HY:Hid ((m.rules.getD j 0==(rule:Int))=true->hasRuleB m rule=true):=by
    intro h;unfold hasRuleB;rw[List.any_eq_true];rw[lW,lV hj2] at h;exact⟨m.rules[j],List.getElem_mem hj2,h⟩
   clear hgk hall hkp hc;generalize m.rules.getD j 0=x at *;cases hx:(x==(rule:Int)) with
   |true=>
    have HX:=vl <| HY.out hx;go_wp2;go_ret;exact⟨qO HX.out.symm,HA.out.2.2⟩
   |false=>
    have HX:Hid ((m.rules.take (j+1)).any (·==(rule:Int))=false):=by show _=_;rw[HS.out,HA.out.2.1,hx];rfl
    go_wp2;go_roundg (m.rules.length-(j+1))
    case measure=>rw[HA.out.1];omega
    case rel=>exact⟨j+1,rfl,by omega,by go_num,HX.out,HA.out.2.2⟩
  ·have i1:(m.rules.length:Int)<=(j:Int):=by omega
   have HX:Hid (hasRuleB m rule=false):=by
    show _=_;unfold hasRuleB;rw[<-List.take_of_length_le (l:=m.rules) (i:=j) (by omega)];exact HA.out.2.1
   go_wp2;go_ret;exact⟨qO HX.out.symm,HA.out.2.2⟩
def qA (a b:Int):Int:=if a<0∨b<0 then -1 else if a>b then a else b
theorem zG6 (w:World)(a b:Int):
  Calls prog 68 #[.int .i64 a,.int .i64 b] w fun e w'=>e=.returned (.int .i64 (qA a b))∧w'=w:=by
 by_cases h1:a<0
 ·have HV:Hid (qA a b=-1):=if_pos (.inl h1)
  go_in;go_wp2;go_ret;exact⟨zAT HV.out.symm,rfl⟩
 ·have h1':0<=a:=by omega
  by_cases h2:b<0
  ·have HV:Hid (qA a b=-1):=if_pos (.inr h2)
   go_in;go_wp2;go_ret;exact⟨zAT HV.out.symm,rfl⟩
  ·have h2':0<=b:=by omega
   by_cases h3:a>b
   ·have HV:Hid (qA a b=a):=by show _=_;unfold qA;rw[if_neg (by omega),if_pos h3]
    go_in;go_wp2;go_ret;exact⟨zAT HV.out.symm,rfl⟩
   ·have h3':a<=b:=by omega
    have HV:Hid (qA a b=b):=by show _=_;unfold qA;rw[if_neg (by omega),if_neg h3]
    go_in;go_wp2;go_ret;exact⟨zAT HV.out.symm,rfl⟩
def xO (ahead:Int)(kinds:Nat):Bool:=decide (0<=ahead)&&decide (zG kinds ahead.toNat<=3000)
theorem zFh (w:World)(ahead:Int)(kinds:Nat)(hk:kinds<=256)(ha:ahead<=255):
  Calls prog 70 #[.int .i64 ahead,.int .i64 kinds] w fun e w'=>e=.returned (.bool (xO ahead kinds))∧w'=w:=by
 by_cases h1:0<=ahead
 ·obtain⟨n,rfl⟩:∃n:Nat,ahead=(n:Int):=⟨ahead.toNat,by omega⟩
  have HV:Hid (xO n kinds=decide (zG kinds n<=3000)):=by
   show _=_;unfold xO;rw[decide_eq_true h1,Int.toNat_natCast];rfl
  go_in;go_wp2_with fail;refine(zEW kinds n w hk (by omega)).mono ?_;rintro e w1 ⟨rfl,rfl⟩;go_wp2;go_ret;refine⟨qO ?_,rfl⟩;rw[HV.out];by_cases h:zG kinds n<=3000
  ·simp[h];omega
  ·simp[h];omega
 ·have HV:Hid (xO ahead kinds=false):=by
   show _=_;unfold xO;rw[decide_eq_false h1];rfl
  have h1':ahead<0:=by omega
  go_in;go_wp2;go_ret;exact⟨qO HV.out.symm,rfl⟩
def yB (m:Sm)(from_:Nat->Bool)(s t:Nat):Bool:=((t:Int) != 0)&&(List.range s).any fun i=>from_ i&&(m.next.getD i []).any (·==(t:Int))
def vL (m:Sm)(from_:Nat->Bool)(t:Nat):Bool:=yB m from_ m.next.length t
def qG (m:Sm)(from_:Nat->Bool)(s k t:Nat):Bool:=((t:Int) != 0)&&(((List.range s).any fun i=>from_ i&&(m.next.getD i []).any (·==(t:Int)))||((m.next.getD s []).take k).any (·==(t:Int)))
theorem zGN (m:Sm)(f:Nat->Bool)(s t:Nat):qG m f s 0 t=yB m f s t:=by simp[qG,yB]
theorem zHP (m:Sm)(f:Nat->Bool)(s k t:Nat)(hf:f s=true)(hk:(m.next.getD s []).length<=k):qG m f s k t=yB m f (s+1) t:=by
 unfold qG yB;rw[List.take_of_length_le hk,List.range_succ,List.any_append];simp[hf]
theorem zIW (m:Sm)(f:Nat->Bool)(s t:Nat)(hf:f s=false):yB m f (s+1) t=yB m f s t:=by
 unfold yB;rw[List.range_succ,List.any_append];simp[hf]
theorem zGO (m:Sm)(f:Nat->Bool)(s k t x:Nat)(hk:k<(m.next.getD s []).length)(hx:(m.next.getD s []).getD k 0=(x:Int)):qG m f s (k+1) t=if t=x then((x:Int) != 0) else qG m f s k t:=by
 unfold qG;rw[List.take_succ_eq_append_getElem hk,List.any_append];have e:(m.next.getD s [])[k]=(x:Int):=by rw[<-hx,lW (l:=m.next.getD s []),lV hk];rfl
 rw[e];by_cases h:t=x
 ·subst h
  simp
 ·have h':((x:Int)==(t:Int))=false:=by rw[gQ];omega
  rw[if_neg h];simp[h']
theorem zCq (w:World)(nv rv fv:Value)(m:Sm)(hT:TblAt w nv rv m)(hm:m.Tbl)(f:Nat->Bool)(hF:BoolsAt w (In w) fv m.next.length f):
  Calls prog 141 #[.agg #[nv,rv,.int .i64 m.start],fv] w fun e w'=>∃u,e=.returned u∧OwnF w' w.heap.size u m.next.length (vL m f)∧Grew w w':=by
 obtain⟨i0,hi0,hz0,hz1,hz2⟩:=info_parts qP;obtain⟨an,cn,rfl,hcn,hmn,hnc⟩:=hT.next
 obtain⟨ar,cr,rfl,hcr,hmr,hrc⟩:=hT.rules;obtain⟨bf,of_,cf,hbf,rfl,_,_,hcf⟩:=hF;have HN:=vl hnc;have HCF:=vl hcf;have HM:Hid m.Tbl:=hm;have h200:=hm.most;have h1:=hm.one;have HRF:Hid (∀t,vL m f t=yB m f m.next.length t):=fun t=>rfl;have HZ0:Hid (∀t,yB m f 0 t=false):=fun t=>by simp[yB]
 generalize hn:m.next.length=n at *
 have HNL:=vl hn;have kal:Grew w (w.alloc (.cells #[.slice an n cn,.slice ar m.rules.length cr,.int .i64 m.start] 127)):=kZ _ _ lQ;obtain⟨w1,hw1,K1,hs1⟩:∃w1,w1=w.alloc (.cells #[.slice an n cn,.slice ar m.rules.length cr,.int .i64 m.start] 127)∧Hid (Grew w w1∧w1.cell? ⟨w.heap.size,0,none⟩=some (.slice an n cn))∧w.heap.size<w1.heap.size:=by
  refine⟨_,rfl,⟨kal,?_⟩,by simp⟩;unfold cell?;rw[gG w _];rfl
 obtain⟨w2,hmk,ho2,hg2⟩:=run_makeSlice_full (P:=prog) w1 w.heap.size 28 4 i0 _ 1 underlying28 hi0 hz0 hz1 .i64 .i64 n (by omega) (by rw[hz2];omega) (by unfold maxLen;omega) (by omega);have A2:Hid (Row w2 w.heap.size 4 (.slice (some ⟨w1.heap.size,0,none⟩) n n) n (fun t=>.bool (yB m f 0 t))∧Grew w w2):=by
  have hk2:Grew w1 w2:=⟨hg2.os,hg2.output,hg2.size,fun k hk _=>hg2.block k hk (by simp)⟩
  refine⟨?_,K1.out.1.trans (hk2.lower (by omega) (by omega))⟩;have h:=ho2;rw[Nat.mul_one,zAd _ rfl] at h;exact Row.congr h fun i _=>by rw[HZ0.out i]
 have yb:=K1.out.2;have yb2:=(cell?_of_block (hg2.block w.heap.size hs1 (by simp))).trans yb;go_in;apply wp_cut;intro K0 J;go_wp2_with fail;apply J.out;clear J;rw[<-hw1];clear hw1;go_wp2_with fail;clear hmk yb yb2;go_loopg [17] n (fun q i wr=>∃s:Nat,q=n-s∧s<=n∧i=.int .i64 (s:Int)∧Row wr w.heap.size 4 (.slice (some ⟨w1.heap.size,0,none⟩) n n) n (fun t=>.bool (yB m f s t))∧Grew w wr)
 case atStart=>exact⟨0,rfl,lX,rfl,A2.out.1,A2.out.2⟩
 case round=>
  obtain⟨s,hgk,hs,rfl,ho,hkp⟩:=hrel;have HA:Hid (gk=n-s∧Row wr w.heap.size 4 (.slice (some ⟨w1.heap.size,0,none⟩) n n) n (fun t=>.bool (yB m f s t))∧Grew w wr):=⟨hgk,ho,hkp⟩
  by_cases hs2:s<n
  ·have i1:(s:Int)<(n:Int):=by omega
   obtain⟨b,o,u,rfl,hb,hc,hrow⟩:=HN.out s hs2;have hrl:=HM.out.rows s (by rw[HNL.out];exact hs2);obtain⟨br,orr,pr,rfl,hSr,_,_,hcc⟩:=hrow.block (by omega);have yr:wr.cell? ⟨b,o+s,none⟩=some (.slice (some ⟨br,orr,none⟩) 256 pr):=by rw[<-hrl];exact zA hc hb hkp
   have yf:wr.cell? ⟨bf,of_+s,none⟩=some (.bool (f s)):=zA (HCF.out s hs2) hbf hkp;have HCC:Hid (∀i,i<256->w.cell? ⟨br,orr+i,none⟩=some (.int .i64 ((m.next.getD s []).getD i 0))):=by
    intro i hi;exact hcc i (by rw[hrl];exact hi)
   have HTO:Hid (∀b,b<256->0<=(m.next.getD s []).getD b 0∧(m.next.getD s []).getD b 0<n):=fun b hb=>by
    have h:=HM.out.to s b (by rw[HNL.out];exact hs2) hb;rw[HNL.out] at h;exact h
   have HST:Hid (∀k t x,k<256->(m.next.getD s []).getD k 0=((x:Nat):Int)->qG m f s (k+1) t=if t=x then((x:Int) != 0) else qG m f s k t):=fun k t x hk hx=>zGO m f s k t x (by rw[hrl];exact hk) hx;have HALL:Hid (f s=true->∀t,qG m f s 256 t=yB m f (s+1) t):=fun hf t=>zHP m f s 256 t hf (by rw[hrl];exact lQ);have HNO:Hid (f s=false->∀t,yB m f (s+1) t=yB m f s t):=fun hf t=>zIW m f s t hf;clear hgk ho hkp hc hrow hcc hrl;cases hf:f s with
   |false=>
    rw[hf] at yf;have HX:=HNO.out hf;have HX2:Hid (∀t,yB m f (s+1) t=yB m f s t):=HX;clear hf HX;go_wp2_with fail;go_roundg (n-(s+1))
    case measure=>rw[HA.out.1];omega
    case rel=>exact⟨s+1,rfl,by omega,by go_num,HA.out.2.1.congr fun t _=>by rw[HX2.out t],HA.out.2.2⟩
   |true=>
    rw[hf] at yf;have HX:=HALL.out hf;have HX2:Hid (∀t,qG m f s 256 t=yB m f (s+1) t):=HX;clear hf HX;go_wp2_with fail;clear yr yf;go_loopg [29] 256 (fun q i wr=>∃k:Nat,q=256-k∧k<=256∧i=.int .i64 (k:Int)∧Row wr w.heap.size 4 (.slice (some ⟨w1.heap.size,0,none⟩) n n) n (fun t=>.bool (qG m f s k t))∧Grew w wr)
    case atStart=>exact⟨0,rfl,lX,rfl,HA.out.2.1.congr fun t _=>by rw[zGN],HA.out.2.2⟩
    case round=>
     obtain⟨k,hgk,hk,rfl,ho,hkp⟩:=hrel;have HB:Hid (gk=256-k∧Row wr w.heap.size 4 (.slice (some ⟨w1.heap.size,0,none⟩) n n) n (fun t=>.bool (qG m f s k t))∧Grew w wr):=⟨hgk,ho,hkp⟩
     by_cases hk2:k<256
     ·have i2:(k:Int)<256:=by omega
      have yx:wr.cell? ⟨br,orr+k,none⟩=some (.int .i64 ((m.next.getD s []).getD k 0)):=zA (HCC.out k hk2) hSr hkp;obtain⟨t1,t2⟩:=HTO.out k hk2;obtain⟨x,hx⟩:∃x:Nat,(m.next.getD s []).getD k 0=(x:Int):=⟨((m.next.getD s []).getD k 0).toNat,by omega⟩
      have HS2:Hid (∀t,qG m f s (k+1) t=if t=x then((x:Int) != 0) else qG m f s k t):=fun t=>HST.out k t x hk2 hx;rw[hx] at yx t1 t2;have hxn:x<n:=by omega
      obtain⟨g,cp,hv,g1,g2,g3,g4,g5,g6⟩:=ho.get (by omega);have eg:g=w1.heap.size:=by injection hv with e1 _ _;injection e1 with e1;injection e1 with e1;exact e1.symm
      subst eg;have yl:wr.cell? ⟨w1.heap.size,x,none⟩=some (.bool (qG m f s k x)):=g5 x hxn;have zl:=g6 x;clear hgk ho hkp hv g1 g2 g3 g4 g5 g6 hx;go_wp2_with fail;go_roundg (256-(k+1))
      case measure=>rw[HB.out.1];omega
      case rel=>
       refine⟨k+1,rfl,by omega,by go_num,?_,HB.out.2.2.trans (zN _ _ _ _ (by omega))⟩;have h:=HB.out.2.1.set x (.bool ((x:Int) != 0));refine Row.congr h fun t _=>?_;rw[HS2.out t];by_cases e:t=x
       ·subst e;simp
       ·simp[e]
     ·have hke:k=256:=by omega
      have i2:(256:Int)<=(k:Int):=by omega
      have HZ:Hid (Row wr w.heap.size 4 (.slice (some ⟨w1.heap.size,0,none⟩) n n) n (fun t=>.bool (yB m f (s+1) t))):=by
       refine Row.congr ho fun t _=>?_;rw[hke,HX2.out t]
      clear hgk ho hkp hke;go_wp2_with fail;go_roundg (n-(s+1))
      case measure=>rw[HA.out.1];omega
      case rel=>exact⟨s+1,rfl,by omega,by go_num,HZ.out,HB.out.2.2⟩
  ·have hse:s=n:=by omega
   have i1:(n:Int)<=(s:Int):=by omega
   have HZ:Hid (OwnF wr w.heap.size (.slice (some ⟨w1.heap.size,0,none⟩) n n) n (vL m f)):=by
    refine Row.congr ho fun t _=>?_;rw[HRF.out t,hse]
   clear hgk ho hkp hse;go_wp2_with fail;go_ret;exact⟨_,rfl,HZ.out,HA.out.2.2⟩
def yL (m:Sm):Nat->Nat->Bool
 |0=>zCm m
 |i+1=>qU (vL m (yL m i)) (zCm m)
def zBM (m:Sm)(i:Nat):Bool:=decide (zAL m.next.length (vL m (yL m i))<0)
def qI (m:Sm):Int:=if(List.range (m.next.length+1)).findIdx (zBM m)<m.next.length+1 then((List.range (m.next.length+1)).findIdx (zBM m):Int) else -1
theorem zMN (m:Sm)(j:Nat)(hj:j<=m.next.length)(h:zBM m j=true)(ha:∀a,a<j->zBM m a=false):qI m=(j:Int):=by
 have e:(List.range (m.next.length+1)).findIdx (zBM m)=j:=by
  rw[List.findIdx_eq (by simp;omega)];exact⟨by simpa using h,fun a hq=>by simpa using ha a (by simpa using hq)⟩
 unfold qI;rw[e,if_pos (by omega)]
theorem zKY (m:Sm)(ha:∀a,a<=m.next.length->zBM m a=false):qI m=-1:=by
 have h:=List.findIdx_eq_length (xs:=List.range (m.next.length+1)) (p:=zBM m);rw[List.length_range] at h;have e:=h.2 fun a hq=>ha a (by have:=List.mem_range.1 hq;omega);unfold qI;rw[e,if_neg (Nat.lt_irrefl _)]
theorem zMM (m:Sm):-1<=qI m∧qI m<=m.next.length:=by
 unfold qI;split <;> omega
theorem zKF:(prog.info? 28).map (fun i=>(i.zero,i.size,i.bytes))=some (some (.slice none 0 0),1,24):=by kernel_rfl
def FrontsAt (w:World)(H:Nat)(v:Value)(d:Nat)(m:Sm):Prop:=∃rv:Nat->Value,w.ownsRow H 28 1 v d ((List.range d).map rv)∧∀i,i<d->OwnF w H (rv i) m.next.length (yL m i)
theorem FrontsAt.grown {w w':World}{H d:Nat}{v:Value}{m:Sm}(h:FrontsAt w H v d m)(hk:Grew w w'):FrontsAt w' H v d m:=by
 obtain⟨rv,h1,h2⟩:=h;exact⟨rv,zJ h1 hk,fun i hi=>zJ (h2 i hi) hk⟩
theorem FrontsAt.nil (w:World)(H:Nat)(m:Sm):FrontsAt w H (.slice none 0 0) 0 m:=⟨fun _=>.slice none 0 0,ownsRow_nil _ _ _ _,fun i hi=>by omega⟩
theorem FrontsAt.snoc {w w1 w2:World}{H g cap d:Nat}{v u:Value}{m:Sm}{o:Obj}(h:FrontsAt w1 H v d m)(hu:OwnF w1 H u m.next.length (yL m d))(hw:w=w1)(rv:Nat->Value)(hrv:∀i,i<d->OwnF w1 H (rv i) m.next.length (yL m i))(hv1:w1.ownsRow H 28 1 v d ((List.range d).map rv))
  (hown:w2.ownsRow H 28 1 (.slice (some ⟨g,0,none⟩) (d+1) cap) (d+1) ((List.range d).map rv++[u])) (hg:(w1.alloc o).grownBy w2 v.ownBlock):FrontsAt w2 H (.slice (some ⟨g,0,none⟩) (d+1) cap) (d+1) m:=by
 have other:∀{x f},OwnF w1 H x m.next.length f->OwnF w2 H x m.next.length f:=fun{x f} ho=>zD ho fun k h1 h2 hk=>(hg.block k (by simp;omega) (xM ho hv1 (by decide) hk)).trans (lG _ _ _ h2)
 refine⟨fun i=>if i=d then u else rv i,?_,fun i hi=>?_⟩
 ·rw[jS,if_pos rfl]
  have e:(List.range d).map (fun i=>if i=d then u else rv i)=(List.range d).map rv:=List.map_congr_left fun i hi=>if_neg (by have:=List.mem_range.1 hi;omega);rw[e];exact hown
 ·by_cases e:i=d
  ·subst e
   simp only[if_true];exact other hu
  ·show OwnF w2 H (if i=d then u else rv i) _ _
   rw[if_neg e];exact other (hrv i (by omega))
theorem zFo (w:World)(nv rv:Value)(m:Sm)(hT:TblAt w nv rv m)(hm:m.Tbl):
  Calls prog 104 #[.agg #[nv,rv,.int .i64 m.start]] w fun e w'=>Grew w w'∧
   ((qI m=-1∧e=.returned (.tuple #[.slice none 0 0,.bool false]))∨(∃d v,qI m=((d:Nat):Int)∧d<=m.next.length∧e=.returned (.tuple #[v,.bool true])∧FrontsAt w' w.heap.size v d m)):=by
 obtain⟨i0,hi0,hz0,hz1,hz2⟩:=info_parts zKF;have HM:Hid (TblAt w nv rv m∧m.Tbl):=⟨hT,hm⟩
 obtain⟨an,cn,rfl,hcn,hmn,hnc⟩:=hT.next
 obtain⟨ar,cr,rfl,hcr,hmr,hrc⟩:=hT.rules;have h200:=hm.most;have h1:=hm.one;have HRL:=vl hm.rules;obtain⟨w1,hw1,K1,hs1⟩:∃w1,w1=w.alloc (.cells #[.slice an m.next.length cn,.slice ar m.rules.length cr,.int .i64 m.start] 127)∧Hid (Grew w w1∧w1.heap[w.heap.size]? =some (.cells #[.slice an m.next.length cn,.slice ar m.rules.length cr,.int .i64 m.start] 127))∧w.heap.size<w1.heap.size:=
  ⟨_,rfl,⟨kZ _ _ lQ,gG w _⟩,by simp⟩
 go_in;apply wp_cut;intro K0 J;go_wp2;apply J.out;rw[<-hw1];clear hw1;have yb:w1.cell? ⟨w.heap.size,0,none⟩=some (.slice an m.next.length cn)∧w1.cell? ⟨w.heap.size,1,none⟩=some (.slice ar m.rules.length cr)∧w1.cell? ⟨w.heap.size,2,none⟩=some (.int .i64 m.start):=by
  refine⟨?_,?_,?_⟩ <;> (unfold cell?;rw[K1.out.2];rfl)
 obtain⟨yb0,yb1,yb2⟩:=yb;go_wp2_with fail;have HTK:Hid (∀wz,Grew w wz->Calls prog 140 #[.agg #[.slice an m.next.length cn,.slice ar m.rules.length cr,.int .i64 m.start]] wz fun e w'=>∃u,e=.returned u∧OwnF w' wz.heap.size u m.next.length (zCm m)∧Grew wz w'):=fun wz hz=>by
  have h:=zC0 wz _ _ m (HM.out.1.grown hz) HM.out.2;rw[HRL.out] at h ⊢;exact h
 refine(HTK.out w1 K1.out.1).mono ?_;rintro e w2 ⟨u,rfl,ho2,hk2⟩;obtain⟨au,cu,hu⟩:=ho2.form;subst hu;have A2:Hid (OwnF w2 w.heap.size (.slice au m.next.length cu) m.next.length (yL m 0)∧Grew w w2∧w2.heap[w.heap.size]? =some (.cells #[.slice an m.next.length cn,.slice ar m.rules.length cr,.int .i64 m.start] 127)):=⟨qX ho2 (by omega),K1.out.1.trans (hk2.lower (by omega) (by omega)),(hk2.block _ hs1 (by omega)).trans K1.out.2⟩
 go_wp2;go_loopg [4,5,6] (m.next.length+1) (fun q fr fo i wr=>∃j:Nat,q=m.next.length+1-j∧j<=m.next.length+1∧i=.int .i64 (j:Int)∧FrontsAt wr w.heap.size fr j m∧OwnF wr w.heap.size fo m.next.length (yL m j)∧(∀a,a<j->zBM m a=false)∧Grew w wr∧wr.heap[w.heap.size]? =some (.cells #[.slice an m.next.length cn,.slice ar m.rules.length cr,.int .i64 m.start] 127))
 case atStart=>exact⟨0,rfl,lX,rfl,FrontsAt.nil _ _ _,A2.out.1,fun a ha=>by omega,A2.out.2.1,A2.out.2.2⟩
 case round=>
  obtain⟨j,hgk,hj,rfl,hF,ho,hall,hkp,hbx⟩:=hrel;have HA:Hid (gk=m.next.length+1-j∧FrontsAt wr w.heap.size u4 j m∧OwnF wr w.heap.size u5 m.next.length (yL m j)∧(∀a,a<j->zBM m a=false)∧Grew w wr∧wr.heap[w.heap.size]? =some (.cells #[.slice an m.next.length cn,.slice ar m.rules.length cr,.int .i64 m.start] 127)):=⟨hgk,hF,ho,hall,hkp,hbx⟩
  have yb:wr.cell? ⟨w.heap.size,0,none⟩=some (.slice an m.next.length cn)∧wr.cell? ⟨w.heap.size,1,none⟩=some (.slice ar m.rules.length cr)∧wr.cell? ⟨w.heap.size,2,none⟩=some (.int .i64 m.start):=by
   refine⟨?_,?_,?_⟩ <;> (unfold cell?;rw[hbx];rfl)
  obtain⟨yb0,yb1,yb2⟩:=yb;have hbl:=(kQ.1 hbx).1;obtain⟨a5,c5,hv5⟩:=ho.form;subst hv5;obtain⟨rw4,ho4,hrv4⟩:=hF;obtain⟨a4,c4,hv4⟩:=zE ho4;subst hv4;by_cases hj2:j<=m.next.length
  ·have i1:(j:Int)<=(m.next.length:Int):=by omega
   have HRE:=vl <| zCq wr _ _ _ m (HM.out.1.grown hkp) HM.out.2 (yL m j) (ho.at h1);have HSB:Hid (zBM m j=decide (zAL m.next.length (vL m (yL m j))<0)):=rfl;have HFR:Hid (∀s,yL m (j+1) s=qU (vL m (yL m j)) (zCm m) s):=fun _=>rfl;go_wp2_with fail;refine HRE.out.mono ?_;rintro e w3 ⟨u3,rfl,ho3,hk3⟩;obtain⟨a3,c3,hv3⟩:=ho3.form;subst hv3;have A3:Hid (OwnF w3 wr.heap.size (.slice a3 m.next.length c3) m.next.length (vL m (yL m j))∧Grew wr w3∧Grew w w3):=⟨ho3,hk3,HA.out.2.2.2.2.1.trans (hk3.lower (by omega) (by omega))⟩
   have yb0':w3.cell? ⟨w.heap.size,0,none⟩=some (.slice an m.next.length cn):=zA yb0 hbl hk3;have yb1':w3.cell? ⟨w.heap.size,1,none⟩=some (.slice ar m.rules.length cr):=zA yb1 hbl hk3;have yb2':w3.cell? ⟨w.heap.size,2,none⟩=some (.int .i64 m.start):=zA yb2 hbl hk3;clear ho3 hk3 HRE yb0 yb1 yb2;go_wp2_with fail;refine(zEj w3 _ m.next.length _ (A3.out.1.at h1) h200).mono ?_;rintro e w3' ⟨rfl,rfl⟩;by_cases hneg:zAL m.next.length (vL m (yL m j))<0
   ·have HST:Hid (qI m=(j:Int)):=zMN m j hj2 (by rw[HSB.out];exact decide_eq_true hneg) HA.out.2.2.2.1
    have FR:Hid (FrontsAt w3' w.heap.size (.slice a4 j c4) j m):=HA.out.2.1.grown A3.out.2.1;generalize zAL m.next.length (vL m (yL m j))=fi at *
    go_wp2_with fail;go_ret2
    exact⟨A3.out.2.2,.inr ⟨j,_,HST.out,hj2,rfl,FR.out⟩⟩
   ·have hneg':0<=zAL m.next.length (vL m (yL m j)):=by omega
    have HSF:Hid (zBM m j=false):=by show _=_;rw[HSB.out];exact decide_eq_false hneg
    generalize zAL m.next.length (vL m (yL m j))=fi at *
    obtain⟨rq,hoq,hrq⟩:=HA.out.2.1.grown A3.out.2.1;have OR:Hid (w3'.ownsRow w.heap.size 28 1 (.slice a4 j c4) j ((List.range j).map rq)):=hoq;have HRQ:Hid (∀i,i<j->OwnF w3' w.heap.size (rq i) m.next.length (yL m i)):=hrq;have OU:Hid (OwnF w3' w.heap.size (.slice a5 m.next.length c5) m.next.length (yL m j)):=zJ HA.out.2.2.1 A3.out.2.1;have hsz3:w.heap.size<=w3'.heap.size:=A3.out.2.2.size;have hb3:w.heap.size<w3'.heap.size:=lZ hbl A3.out.2.1.size;have HNB:Hid (some w.heap.size≠Value.ownBlock (.slice a4 j c4)):=by
     intro e;rcases hoq.2 with⟨hv,_⟩|⟨g1,_,cur,hv,_,hh,_⟩
     ·rw[hv] at e;cases e
     ·rw[hv] at e
      have e1:w.heap.size=g1:=by simpa[Value.ownBlock] using e
      have hb:=(A3.out.2.1.block w.heap.size hbl (by omega)).trans HA.out.2.2.2.2.2;rw[e1,hh] at hb;injection hb with hb;injection hb with _ hb _;exact absurd hb (by decide)
    clear hoq hrq hneg;go_wp2_with (first|(at_builtin;refine wpList_append_lies _ rfl _ _ 188 rfl (w.heap.size) 28 i0 (.slice none 0 0) 1 24 underlying188 hi0 hz0 hz1 hz2 rfl (by decide) _ _ _ rfl (OR.out.alloc _) ⟨w3'.heap.size,0,none⟩ 1 1 [.slice a5 m.next.length c5] rfl rfl (cell_one_new _ _ _) (by intro u hu;simp at hu;subst hu;rfl) (by decide) (by unfold maxLen;omega) (by omega) (by simp;omega) _ rfl ?_;intro gg cap w4 hown hgrow0 hat hlt4;have hgrow:(w3'.alloc (.cells #[.slice a5 m.next.length c5] 28)).grownBy w4 (Value.ownBlock (.slice a4 j c4)):=hgrow0;have hbx4:w4.heap[w.heap.size]? =w3'.heap[w.heap.size]? :=(hgrow.block w.heap.size (by simp;omega) HNB.out).trans (lG _ _ _ hb3);have yc0:w4.cell? ⟨w.heap.size,0,none⟩=some (.slice an m.next.length cn):=(cell?_of_block hbx4).trans yb0';have yc1:w4.cell? ⟨w.heap.size,1,none⟩=some (.slice ar m.rules.length cr):=(cell?_of_block hbx4).trans yb1';have yc2:w4.cell? ⟨w.heap.size,2,none⟩=some (.int .i64 m.start):=(cell?_of_block hbx4).trans yb2'))
    have hB:Below w.heap.size w3' w4:=xP OR.out hgrow hsz3;have other:∀{x f},OwnF w3' w.heap.size x m.next.length f->OwnF w4 w.heap.size x m.next.length f:=fun{x f} ho=>zD ho fun k h1 h2 hk=>(hgrow.block k (by simp;omega) (xM ho OR.out (by decide) hk)).trans (lG _ _ _ h2)
    have A4:Hid (FrontsAt w4 w.heap.size (.slice (some ⟨gg,0,none⟩) (j+1) cap) (j+1) m∧OwnF w4 w.heap.size (.slice a3 m.next.length c3) m.next.length (vL m (yL m j))∧Grew w w4):=⟨FrontsAt.snoc ⟨rq,OR.out,HRQ.out⟩ OU.out rfl rq HRQ.out OR.out hown hgrow,other (qX A3.out.1 (Nat.le_of_lt hbl)),A3.out.2.2.trans (xN hB)⟩
    have HBX:Hid (w4.heap[w.heap.size]? =some (.cells #[.slice an m.next.length cn,.slice ar m.rules.length cr,.int .i64 m.start] 127)):=hbx4.trans ((A3.out.2.1.block w.heap.size hbl (by omega)).trans HA.out.2.2.2.2.2);clear hown hgrow hgrow0 hat hB hbx4 other yb0' yb1' yb2';refine(HTK.out w4 A4.out.2.2).mono ?_;rintro e w5 ⟨u5',rfl,ho5,hk5⟩;obtain⟨aq,cq,hq⟩:=ho5.form;subst hq;have A5:Hid (OwnF w5 w4.heap.size (.slice aq m.next.length cq) m.next.length (zCm m)∧Grew w4 w5):=⟨ho5,hk5⟩
    clear ho5 hk5 yc0 yc1 yc2;go_wp2_with fail;refine(zCn w5 _ _ m.next.length (vL m (yL m j)) (zCm m) (OwnF.at (zJ A4.out.2.1 A5.out.2) h1) (A5.out.1.at h1) h200).mono ?_;rintro e w6 ⟨u6,rfl,ho6,hk6⟩;have hk56:Grew w4 w6:=A5.out.2.trans (hk6.lower A5.out.2.size A5.out.2.size);have hs4:w.heap.size<w4.heap.size:=(kQ.1 HBX.out).1;have A6:Hid (FrontsAt w6 w.heap.size (.slice (some ⟨gg,0,none⟩) (j+1) cap) (j+1) m∧OwnF w6 w.heap.size u6 m.next.length (yL m (j+1))∧Grew w w6∧w6.heap[w.heap.size]? =some (.cells #[.slice an m.next.length cn,.slice ar m.rules.length cr,.int .i64 m.start] 127)):=
     ⟨A4.out.1.grown hk56,qX ho6 (Nat.le_of_lt (lZ hs4 A5.out.2.size)),A4.out.2.2.trans (hk56.lower (by omega) (by omega)),(hk56.block w.heap.size hs4 (by omega)).trans HBX.out⟩
    clear ho6 hk6 hk56;go_wp2_with fail;go_roundg (m.next.length+1-(j+1))
    case measure=>rw[HA.out.1];omega
    case rel=>exact⟨j+1,rfl,by omega,by go_num,A6.out.1,A6.out.2.1,fun a ha=>by(by_cases e:a=j;exact e ▸ HSF.out;exact HA.out.2.2.2.1 a (by omega)),A6.out.2.2.1,A6.out.2.2.2⟩
  ·have i1:(m.next.length:Int)<(j:Int):=by omega
   have HST:Hid (qI m=-1):=zKY m fun a ha=>HA.out.2.2.2.1 a (by omega);clear hgk ho hall hkp hbx ho4 hrv4;go_wp2_with fail;go_ret2
   exact⟨HA.out.2.2.2.2.1,.inl ⟨HST.out,rfl⟩⟩
theorem zKm (w:World)(b:Nat)(hb:b<256):
  (convert 68 9 (.slice (some ⟨w.heap.size,0,none⟩) 1 1)).run prog (w.alloc (.cells #[.int .u8 (b:Int)] 5))=
   .ok (.string ⟨#[UInt8.ofNat b]⟩) (w.alloc (.cells #[.int .u8 (b:Int)] 5)):=by
 refine run_convert_bytes_back _ 68 9 5 ⟨w.heap.size,0,none⟩ 1 [UInt8.ofNat b] underlying68 underlying5 underlying9 ?_;intro j hj;have hn:=gG w (.cells #[.int .u8 (b:Int)] 5);generalize w.alloc (.cells #[.int .u8 (b:Int)] 5)=w1 at hn ⊢;have:j=0:=by simp at hj;omega
 subst this;have e:([UInt8.ofNat b]:List UInt8)[0].toNat=b:=by simp;omega
 rw[e];simp[Addr.add,cell?,hn]
theorem zCI (w:World)(b:Nat)(hb:b<256):
  Calls prog 150 #[.int .i64 b] w fun e w'=>e=.returned (.string ⟨#[UInt8.ofNat b]⟩)∧Grew w w':=by
 have hc:=zKm w b hb;go_in;go_wp2;go_ret;exact⟨rfl,kZ _ _ lQ⟩
theorem zFU (w:World)(nv rv fv:Value)(m:Sm)(hT:TblAt w nv rv m)(hm:m.Tbl)(f:Nat->Bool)(hF:BoolsAt w (In w) fv m.next.length f)(to:Int):
  Calls prog 149 #[.agg #[nv,rv,.int .i64 m.start],fv,.int .i64 to] w fun e w'=>∃s b:Nat,s<m.next.length∧b<256∧e=.returned (.tuple #[.int .i64 s,.int .i64 b])∧Grew w w':=by
 obtain⟨an,cn,rfl,hcn,hmn,hnc⟩:=hT.next
 obtain⟨ar,cr,rfl,hcr,hmr,hrc⟩:=hT.rules;obtain⟨bf,of_,cf,hbf,rfl,_,_,hcf⟩:=hF;have HN:=vl hnc;have HCF:=vl hcf;have HM:Hid m.Tbl:=hm;have h200:=hm.most;have h1:=hm.one;generalize hn:m.next.length=n at *
 have HNL:=vl hn;go_in;go_wp2;go_loopg [15] n (fun q i wr=>∃s:Nat,q=n-s∧s<=n∧i=.int .i64 (s:Int)∧Grew w wr)
 case atStart=>exact⟨0,rfl,lX,rfl,kZ _ _ lQ⟩
 case round=>
  obtain⟨s,hgk,hs,rfl,hkp⟩:=hrel;have HA:Hid (gk=n-s∧Grew w wr):=⟨hgk,hkp⟩
  by_cases hs2:s<n
  ·have i1:(s:Int)<(n:Int):=by omega
   obtain⟨b,o,u,rfl,hb,hc,hrow⟩:=HN.out s hs2;have hrl:=HM.out.rows s (by rw[HNL.out];exact hs2);obtain⟨br,orr,pr,rfl,hSr,_,_,hcc⟩:=hrow.block (by omega);have yr:wr.cell? ⟨b,o+s,none⟩=some (.slice (some ⟨br,orr,none⟩) 256 pr):=by rw[<-hrl];exact zA hc hb hkp
   have HCC:Hid (∀i,i<256->w.cell? ⟨br,orr+i,none⟩=some (.int .i64 ((m.next.getD s []).getD i 0))):=by
    intro i hi;exact hcc i (by rw[hrl];exact hi)
   go_wp2;go_loopg [22] 256 (fun q i wr=>∃k:Nat,q=256-k∧k<=256∧i=.int .i64 (k:Int)∧Grew w wr)
   case atStart=>exact⟨0,rfl,lX,rfl,HA.out.2⟩
   case round=>
    obtain⟨k,hgk,hk,rfl,hkp⟩:=hrel;have HB:Hid (gk=256-k∧Grew w wr):=⟨hgk,hkp⟩
    by_cases hk2:k<256
    ·have i2:(k:Int)<256:=by omega
     have yx:=zA (HCC.out k hk2) hSr hkp;have yf:=zA (HCF.out s hs2) hbf hkp;generalize (m.next.getD s []).getD k 0=x at *;cases hf:f s with
     |false=>
      rw[hf] at yf;go_wp2;go_roundg (256-(k+1))
      case measure=>rw[HB.out.1];omega
      case rel=>exact⟨k+1,rfl,by omega,by go_num,HB.out.2⟩
     |true=>
      rw[hf] at yf;cases hx:(x==to) with
      |true=>
       go_wp2;go_ret2
       exact⟨s,k,hs2,hk2,rfl,HB.out.2⟩
      |false=>
       go_wp2;go_roundg (256-(k+1))
       case measure=>rw[HB.out.1];omega
       case rel=>exact⟨k+1,rfl,by omega,by go_num,HB.out.2⟩
    ·have i2:(256:Int)<=(k:Int):=by omega
     go_wp2;go_roundg (n-(s+1))
     case measure=>rw[HA.out.1];omega
     case rel=>exact⟨s+1,rfl,by omega,by go_num,HB.out.2⟩
  ·have i1:(n:Int)<=(s:Int):=by omega
   go_wp2;go_ret2
   exact⟨0,0,by omega,by omega,rfl,HA.out.2⟩
theorem zJQ:(prog.info? 9).map (fun i=>(i.zero,i.size,i.bytes))=some (some (.string ⟨#[]⟩),1,16):=by kernel_rfl
theorem zK2 (f:Nat->Bool)(t n:Nat)(ht:t<n)(hf:f t=false):(List.range n).countP (fun i=>if i=t then true else f i)=(List.range n).countP f+1:=by
 induction n with
 |zero=>omega
 |succ n ih=>
  rw[List.range_succ,List.countP_append,List.countP_append];by_cases e:t=n
  ·subst e
   have e1:(List.range t).countP (fun i=>if i=t then true else f i)=(List.range t).countP f:=by
    apply List.countP_congr;intro i hi;rw[if_neg (by have:=List.mem_range.1 hi;omega)]
   rw[e1];simp[hf]
  ·rw[ih (by omega)]
   have e2:[n].countP (fun i=>if i=t then true else f i)=[n].countP f:=by simp[Ne.symm e]
   rw[e2];omega
theorem zLX (f:Nat->Bool)(n:Nat):(List.range n).countP f<=n:=by
 have h:=List.countP_le_length (p:=f) (l:=List.range n);rw[List.length_range] at h;exact h
structure Wy (w:World)(H gs gw n:Nat)(sf:Nat->Bool)(wf:Nat->ByteArray)(lv:Value)(l:List Int):Prop where
 seen:Row w H 4 (.slice (some ⟨gs,0,none⟩) n n) n fun i=>.bool (sf i)
 words:Row w H 9 (.slice (some ⟨gw,0,none⟩) n n) n fun i=>.string (wf i)
 list:OwnI w H lv l
 all:∀x∈l,0<=x∧x<(n:Int)
 len:l.length=1+(List.range n).countP sf
 size:∀i,(wf i).size<=l.length
theorem Wy.most {w:World}{H gs gw n:Nat}{sf:Nat->Bool}{wf:Nat->ByteArray}{lv:Value}{l:List Int}(h:Wy w H gs gw n sf wf lv l):l.length<=n+1:=by
 have:=zLX sf n;have:=h.len;omega
theorem Row.at {w:World}{H g n c:Nat}{e:TypeId}{f:Nat->Value}(h:Row w H e (.slice (some ⟨g,0,none⟩) n c) n f)(hn:0<n):H<=g∧g<w.heap.size∧(∀i,i<n->w.cell? ⟨g,i,none⟩=some (f i))∧∀i,w.frozen? ⟨g,i,none⟩=false:=by
 obtain⟨g',cp,hv,g1,g2,g3,g4,g5,g6⟩:=h.get hn;have eg:g'=g:=by injection hv with e1 _ _;injection e1 with e1;injection e1 with e1;exact e1.symm
 subst eg;exact⟨g1,g2,g5,g6⟩
theorem Keep.undrew {a b:Nat}{w w':World}(h:Keep a b w.drew w'):Keep a b w w':=⟨h.os,h.output,h.size,h.block⟩
theorem zG7 {w w':World}{b i:Nat}(h:w.frozen? ⟨b,i,none⟩=false)(hb:b<w.heap.size)(hk:Grew w w'):w'.frozen? ⟨b,i,none⟩=false:=(frozen?_of_block (hk.block b hb (by omega))).trans h
theorem zL {w:World}{H b:Nat}{e e':TypeId}{z:Nat}{v:Value}{n:Nat}{xs:List Value}{c:Array Value}(h:w.ownsRow H e z v n xs)(hb:w.heap[b]? =some (.cells c e'))(he:e≠e'):some b≠v.ownBlock:=by
 intro hg;rcases h.2 with⟨hv,_⟩|⟨g1,_,cur,hv,_,hh,_⟩
 ·rw[hv] at hg;cases hg
 ·rw[hv] at hg
  have e1:g1=b:=by simpa[Value.ownBlock] using hg.symm
  subst e1;rw[hb] at hh;injection hh with hh;injection hh with _ hh;exact he hh.symm
theorem Wy.mark {w w7:World}{H gs gw n:Nat}{sf:Nat->Bool}{wf:Nat->ByteArray}{lv:Value}{l:List Int}(h:Wy w H gs gw n sf wf lv l)(x:Nat)(z:ByteArray)(hk:Keep (w.setCell ⟨gs,x,none⟩ (.bool true)).heap.size (w.setCell ⟨gs,x,none⟩ (.bool true)).heap.size (w.setCell ⟨gs,x,none⟩ (.bool true)) w7):
  Row (w7.setCell ⟨gw,x,none⟩ (.string z)) H 4 (.slice (some ⟨gs,0,none⟩) n n) n (fun i=>.bool (if i=x then true else sf i))∧
  Row (w7.setCell ⟨gw,x,none⟩ (.string z)) H 9 (.slice (some ⟨gw,0,none⟩) n n) n (fun i=>.string (if i=x then z else wf i))∧
  OwnI (w7.setCell ⟨gw,x,none⟩ (.string z)) H lv l:=by
 have a1:=h.seen.set x (.bool true);have a2:Row (w.setCell ⟨gs,x,none⟩ (.bool true)) H 9 (.slice (some ⟨gw,0,none⟩) n n) n fun i=>.string (wf i):=h.words.setOther h.seen (by decide);have a3:OwnI (w.setCell ⟨gs,x,none⟩ (.bool true)) H lv l:=zD h.list fun g _ _ hg=>lJ _ _ _ _ fun e=>xM (g:=g) h.list h.seen (by decide) hg (by rw[e];rfl);have b1:=zJ a1 hk;have b2:Row w7 H 9 (.slice (some ⟨gw,0,none⟩) n n) n fun i=>.string (wf i):=zJ a2 hk;have b3:=zJ a3 hk;refine⟨?_,?_,?_⟩
 ·refine Row.congr (Row.setOther (H:=H) b1 b2 (by decide)) fun i _=>?_
  by_cases e:i=x <;> simp[e]
 ·refine Row.congr (b2.set x (.string z)) fun i _=>?_
  by_cases e:i=x <;> simp[e]
 ·exact zD b3 fun g _ _ hg=>lJ _ _ _ _ fun e=>xM (g:=g) b3 b2 (by decide) hg (by rw[e];rfl)
theorem Wy.more {w8 w9:World}{o:Obj}{H gs gw n gg cap:Nat}{sf:Nat->Bool}{wf:Nat->ByteArray}{al:Option Addr}{cl:Nat}{l:List Int}(x:Nat)(z:ByteArray)
  (all:∀x∈l,0<=x∧x<(n:Int)) (len:l.length=1+(List.range n).countP sf) (size:∀i,(wf i).size<=l.length) (hx:x<n) (hsf:sf x=false) (hz:z.size<=l.length+1)
  (h1:Row w8 H 4 (.slice (some ⟨gs,0,none⟩) n n) n (fun i=>.bool (if i=x then true else sf i)))
  (h2:Row w8 H 9 (.slice (some ⟨gw,0,none⟩) n n) n (fun i=>.string (if i=x then z else wf i)))
  (h3:OwnI w8 H (.slice al l.length cl) l)
  (hown:w9.ownsRow H 3 1 (.slice (some ⟨gg,0,none⟩) (l.length+1) cap) (l.length+1) ((l.map fun x=>.int .i64 x)++[.int .i64 (x:Int)]))
  (hgrow:(w8.alloc o).grownBy w9 (Value.ownBlock (.slice al l.length cl))):
  Wy w9 H gs gw n (fun i=>if i=x then true else sf i) (fun i=>if i=x then z else wf i) (.slice (some ⟨gg,0,none⟩) (l.length+1) cap) (l++[(x:Int)]):=by
 refine⟨?_,?_,OwnI.snoc hown,?_,?_,?_⟩
 ·exact h1.blk fun g _ hg he=>(hgrow.block g (by simp;omega) (xM h1 h3.raw (by decide) he)).trans (lG _ _ _ hg)
 ·exact h2.blk fun g _ hg he=>(hgrow.block g (by simp;omega) (xM h2 h3.raw (by decide) he)).trans (lG _ _ _ hg)
 ·intro y hy
  rcases kU.1 hy with hy|hy
  ·exact all y hy
  ·rw[kY.1 hy];omega
 ·rw[kX,zK2 sf x n hx hsf,len]
  simp;omega
 ·intro i
  rw[kX];show(if i=x then z else wf i).size<=l.length+1;by_cases e:i=x
  ·rw[if_pos e];exact hz
  ·rw[if_neg e];have:=size i;omega
end Go.Proofs.YtbjcfkdnjaiclaaGreat
