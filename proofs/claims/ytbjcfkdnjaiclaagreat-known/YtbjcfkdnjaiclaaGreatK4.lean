import Derived.Test.YtbjcfkdnjaiclaaGreatK0
import Derived.Test.YtbjcfkdnjaiclaaGreatK3
/- Parts of the proof. -/
set_option linter.unusedVariables false
set_option linter.unusedSimpArgs false
set_option maxHeartbeats 4000000
set_option maxRecDepth 100000
namespace Go.Proofs.YtbjcfkdnjaiclaaGreat
open Go.RowKit Go.Proofs.Tryz Go.World
open Go.Value (int slice bool pointer string agg tuple)
open Go.IntKind (i64)
open Go.Ending (returned)
def In (w:World)(k:Nat):Prop:=k<w.heap.size
theorem Ints.grown {w w':World}{v:Value}{l:List Int}(d:Ints w (In w) v l)(c:Grew w w'):Ints w' (In w') v l:=
 (d.keep λb a=>c.block b a (kJ a)).mono λ_ a=>lZ a c.size
theorem Bools.grown {w w':World}{v:Value}{l:List Bool}(d:Bools w (In w) v l)(c:Grew w w'):Bools w' (In w') v l:=
 (d.keep λb a=>c.block b a (kJ a)).mono λ_ a=>lZ a c.size
theorem IntRows.grown {w w':World}{v:Value}{l:List (List Int)}(d:IntRows w (In w) v l)(c:Grew w w'):IntRows w' (In w') v l:=
 (d.keep λb a=>c.block b a (kJ a)).mono λ_ a=>lZ a c.size
theorem BoolsAt.grown {w w':World}{v:Value}{n:Nat}{f:Nat->Bool}(d:BoolsAt w (In w) v n f)(c:Grew w w'):BoolsAt w' (In w') v n f:=by
 obtain⟨b,o,cap,a,r⟩:=d.keep λb a=>c.block b a (kJ a);exact⟨b,o,cap,lZ a c.size,r⟩
theorem OwnF.at {w:World}{H n:Nat}{v:Value}{f:Nat->Bool}(a:OwnF w H v n f)(b:0<n):BoolsAt w (In w) v n f:=by
 obtain⟨g,cap,c,m,d,e,j,k,_⟩:=Row.get a b;exact⟨g,0,cap,d,c,e,j,λi l=>by rw[Nat.zero_add];exact k i l⟩
theorem zA {w w':World}{b i:Nat}{x:Value}(a:w.cell? ⟨b,i,none⟩=some x)(c:b<w.heap.size)(d:Grew w w'):w'.cell? ⟨b,i,none⟩=some x:=(gW (d.block b c (by omega))).trans a
structure TblAt (w:World)(nv rv:Value)(m:Sm):Prop where
 next:IntRows w (In w) nv m.next
 rules:Ints w (In w) rv m.rules
theorem TblAt.grown {w w':World}{a rv:Value}{m:Sm}(b:TblAt w a rv m)(c:Grew w w'):TblAt w' a rv m:=⟨b.next.grown c,b.rules.grown c⟩
structure Sm.Tbl (m:Sm):Prop where
 one:1<=m.next.length
 most:m.next.length<=200
 rules:m.rules.length=m.next.length
 rows:∀i,i<m.next.length->(m.next.getD i []).length=256
 to:∀i b,i<m.next.length->b<256->0<=(m.next.getD i []).getD b 0/\(m.next.getD i []).getD b 0<m.next.length
def tokF (m:Sm)(s:Nat):Bool:=m.rules.getD s 0 != -1
def zBS (s:Nat):Bool:=(s:Int) != 0
def zBQ (one:Nat)(s:Nat):Bool:=(s:Int)==(one:Int)
def qN (a b:Nat->Bool)(s:Nat):Bool:=a s&& !b s
theorem zCU (w:World)(g rv:Value)(m:Sm)(c:TblAt w g rv m)(h:m.Tbl):
  Calls prog 140 #[agg #[g,rv,iX m.start]] w λe w'=>∃u,e=returned u/\OwnF w' w.heap.size u (m.rules.length) (tokF m)/\Grew w w':=by
 obtain⟨r,s,t,v,y⟩:=info_parts qU;have S:=vl c;obtain⟨T,U,rfl,V,W,X⟩:=c.next
 obtain⟨Y,aa,rfl,ab,ac,z⟩:=c.rules;have A:=vl z;have B:=vl h.rules;have ad:m.rules.length<=200:=by rw[B.out];exact h.most
 go_in;go_wp2;go_loopg [3,9] (m.rules.length) (λq C i wr=>∃j:Nat,q=m.rules.length-j/\j<=m.rules.length/\i=iX (j:Int)/\OwnF wr w.heap.size C j (tokF m)/\Grew w wr)
 case atStart=>exact⟨0,rfl,lX,rfl,OwnF.nil _ _ _,kZ _ _ lQ⟩
 case round=>
  obtain⟨j,D,ae,rfl,a,d⟩:=hrel;have f:Hid (gk=m.rules.length-j/\Grew w wr):=⟨D,d⟩
  obtain⟨ao,cap,E⟩:=a.form;subst E;have F:=d.size;have k:=vl a;by_cases G:j<m.rules.length
  ·have H:(j:Int)<((m.rules.length:Nat):Int):=by omega
   obtain⟨b,o,rfl,I,J⟩:=A j G;have af:=zA J I d;have K:Hid (tokF m j=(m.rules.getD j 0 != -1)):=rfl;generalize m.rules.getD j 0=x at *;go_wp2_with (first|(at_builtin;refine wpList_append_lies _ rfl _ _ 28 rfl (w.heap.size) 4 r (bool false) 1 1 underlying28 s t v y rfl (by decide) _ _ _ rfl (k.alloc _) ⟨wr.heap.size,0,none⟩ 1 1 [bool (x != -1)] rfl rfl (cell_one_new _ _ _) (by intro u l;simp at l;subst l;rfl) (by decide) (by unfold maxLen;omega) (by omega) (by simp;omega) _ rfl ?_;intro L M w2 N O ag ah;have P:=xQ k O F))
   have p:Hid (OwnF w2 w.heap.size (slice (qX L) (j+1) M) (j+1) (tokF m)/\Grew w w2):=⟨OwnF.snoc N K,f.2.trans (xP P)⟩
   go_wp2;go_roundg (m.rules.length-(j+1))
   case measure=>rw[f.out.1];omega
   case rel=>exact⟨j+1,rfl,by omega,by go_num,p.1,p.2⟩
  ·have Q:j=m.rules.length:=by omega
   have H:((m.rules.length:Nat):Int)<=(j:Int):=by omega
   have R:Hid (OwnF wr w.heap.size (slice ao j cap) (m.rules.length) (tokF m)):=by rw[Q] at a ⊢;exact a
   go_wp2;go_ret;exact⟨_,rfl,R,f.2⟩
theorem zG3 (w:World)(d rv:Value)(m:Sm)(b:TblAt w d rv m)(l:m.Tbl):
  Calls prog 144 #[agg #[d,rv,iX m.start]] w λe w'=>∃u,e=returned u/\OwnF w' w.heap.size u (m.next.length) (zBS)/\Grew w w':=by
 obtain⟨o,p,r,s,t⟩:=info_parts qU;have J:=vl b;obtain⟨K,L,rfl,M,N,O⟩:=b.next
 obtain⟨P,Q,rfl,R,S,T⟩:=b.rules;have U:=l.most;go_in;go_wp2;go_loopg [3,8] (m.next.length) (λq v i wr=>∃j:Nat,q=m.next.length-j/\j<=m.next.length/\i=iX (j:Int)/\OwnF wr w.heap.size v j (zBS)/\Grew w wr)
 case atStart=>exact⟨0,rfl,lX,rfl,OwnF.nil _ _ _,kZ _ _ lQ⟩
 case round=>
  obtain⟨j,x,V,rfl,a,f⟩:=hrel;have c:Hid (gk=m.next.length-j/\Grew w wr):=⟨x,f⟩
  obtain⟨ao,cap,y⟩:=a.form;subst y;have z:=f.size;have g:=vl a;by_cases W:j<m.next.length
  ·have A:(j:Int)<((m.next.length:Nat):Int):=by omega
   have B:Hid (zBS j=((j:Int) != 0)):=rfl;go_wp2_with (first|(at_builtin;refine wpList_append_lies _ rfl _ _ 28 rfl (w.heap.size) 4 o (bool false) 1 1 underlying28 p r s t rfl (by decide) _ _ _ rfl (g.alloc _) ⟨wr.heap.size,0,none⟩ 1 1 [bool ((j:Int) != 0)] rfl rfl (cell_one_new _ _ _) (by intro u h;simp at h;subst h;rfl) (by decide) (by unfold maxLen;omega) (by omega) (by simp;omega) _ rfl ?_;intro C D w2 E F X Y;have G:=xQ g F z))
   have k:Hid (OwnF w2 w.heap.size (slice (qX C) (j+1) D) (j+1) (zBS)/\Grew w w2):=⟨OwnF.snoc E B,c.2.trans (xP G)⟩
   go_wp2;go_roundg (m.next.length-(j+1))
   case measure=>rw[c.out.1];omega
   case rel=>exact⟨j+1,rfl,by omega,by go_num,k.1,k.2⟩
  ·have H:j=m.next.length:=by omega
   have A:((m.next.length:Nat):Int)<=(j:Int):=by omega
   have I:Hid (OwnF wr w.heap.size (slice ao j cap) (m.next.length) (zBS)):=by rw[H] at a ⊢;exact a
   go_wp2;go_ret;exact⟨_,rfl,I,c.2⟩
theorem zJg (w:World)(d rv:Value)(m:Sm)(b:TblAt w d rv m)(l:m.Tbl)(one:Nat):
  Calls prog 148 #[agg #[d,rv,iX m.start],iX one] w λe w'=>∃u,e=returned u/\OwnF w' w.heap.size u (m.next.length) (zBQ one)/\Grew w w':=by
 obtain⟨o,p,r,s,t⟩:=info_parts qU;have J:=vl b;obtain⟨K,L,rfl,M,N,O⟩:=b.next
 obtain⟨P,Q,rfl,R,S,T⟩:=b.rules;have U:=l.most;go_in;go_wp2;go_loopg [5,10] (m.next.length) (λq v i wr=>∃j:Nat,q=m.next.length-j/\j<=m.next.length/\i=iX (j:Int)/\OwnF wr w.heap.size v j (zBQ one)/\Grew w wr)
 case atStart=>exact⟨0,rfl,lX,rfl,OwnF.nil _ _ _,kZ _ _ lQ⟩
 case round=>
  obtain⟨j,x,V,rfl,a,f⟩:=hrel;have c:Hid (gk=m.next.length-j/\Grew w wr):=⟨x,f⟩
  obtain⟨ao,cap,y⟩:=a.form;subst y;have z:=f.size;have g:=vl a;by_cases W:j<m.next.length
  ·have A:(j:Int)<((m.next.length:Nat):Int):=by omega
   have B:Hid (zBQ one j=((j:Int)==(one:Int))):=rfl;go_wp2_with (first|(at_builtin;refine wpList_append_lies _ rfl _ _ 28 rfl (w.heap.size) 4 o (bool false) 1 1 underlying28 p r s t rfl (by decide) _ _ _ rfl (g.alloc _) ⟨wr.heap.size,0,none⟩ 1 1 [bool ((j:Int)==(one:Int))] rfl rfl (cell_one_new _ _ _) (by intro u h;simp at h;subst h;rfl) (by decide) (by unfold maxLen;omega) (by omega) (by simp;omega) _ rfl ?_;intro C D w2 E F X Y;have G:=xQ g F z))
   have k:Hid (OwnF w2 w.heap.size (slice (qX C) (j+1) D) (j+1) (zBQ one)/\Grew w w2):=⟨OwnF.snoc E B,c.2.trans (xP G)⟩
   go_wp2;go_roundg (m.next.length-(j+1))
   case measure=>rw[c.out.1];omega
   case rel=>exact⟨j+1,rfl,by omega,by go_num,k.1,k.2⟩
  ·have H:j=m.next.length:=by omega
   have A:((m.next.length:Nat):Int)<=(j:Int):=by omega
   have I:Hid (OwnF wr w.heap.size (slice ao j cap) (m.next.length) (zBQ one)):=by rw[H] at a ⊢;exact a
   go_wp2;go_ret;exact⟨_,rfl,I,c.2⟩
theorem zCm (w:World)(va vb:Value)(n:Nat)(fa fb:Nat->Bool)(hA:BoolsAt w (In w) va n fa)(hB:BoolsAt w (In w) vb n fb)(hn:n<=200):
  Calls prog 143 #[va,vb] w λe w'=>∃u,e=returned u/\OwnF w' w.heap.size u (n) (qN fa fb)/\Grew w w':=by
 obtain⟨i0,hi0,hz0,hz1,hz2⟩:=info_parts qU;obtain⟨ba,oa,ca,hba,rfl,_,_,hca⟩:=hA;obtain⟨bb,ob,cb,hbb,rfl,_,_,hcb⟩:=hB;have HCA:=vl hca;have HCB:=vl hcb;go_in;go_wp2;go_loopg [5,10] (n) (λq lst i wr=>∃j:Nat,q=n-j/\j<=n/\i=iX (j:Int)/\OwnF wr w.heap.size lst j (qN fa fb)/\Grew w wr)
 case atStart=>exact⟨0,rfl,lX,rfl,OwnF.nil _ _ _,Keep.refl _ _ _⟩
 case round=>
  obtain⟨j,hgk,hj,rfl,ho,hkp⟩:=hrel;have HA:Hid (gk=n-j/\Grew w wr):=⟨hgk,hkp⟩
  obtain⟨ao,cap,hv⟩:=ho.form;subst hv;have hszr:=hkp.size;have OR:=vl ho;by_cases hj2:j<n
  ·have i1:(j:Int)<((n:Nat):Int):=by omega
   have ya:=zA (HCA j hj2) hba hkp;have yb:=zA (HCB j hj2) hbb hkp;have HV:Hid (qN fa fb j=(fa j&& !fb j)):=rfl;generalize fa j=xa at *;generalize fb j=xb at *;cases xa with
   |true=>
    go_wp2_with (first|(at_builtin;refine wpList_append_lies _ rfl _ _ 28 rfl (w.heap.size) 4 i0 (bool false) 1 1 underlying28 hi0 hz0 hz1 hz2 rfl (by decide) _ _ _ rfl (OR.alloc _) ⟨wr.heap.size,0,none⟩ 1 1 [bool (!xb)] rfl rfl (cell_one_new _ _ _) (by intro u hu;simp at hu;subst hu;rfl) (by decide) (by unfold maxLen;omega) (by omega) (by simp;omega) _ rfl ?_;intro gg cap2 w2 hown hgrow hat hlt2;have hB:=xQ OR hgrow hszr))
    have O2:Hid (OwnF w2 w.heap.size (slice (qX gg) (j+1) cap2) (j+1) (qN fa fb)/\Grew w w2):=⟨OwnF.snoc hown HV,HA.2.trans (xP hB)⟩
    go_wp2;go_roundg (n-(j+1))
    case measure=>rw[HA.out.1];omega
    case rel=>exact⟨j+1,rfl,by omega,by go_num,O2.1,O2.2⟩
   |false=>
    go_wp2_with (first|(at_builtin;refine wpList_append_lies _ rfl _ _ 28 rfl (w.heap.size) 4 i0 (bool false) 1 1 underlying28 hi0 hz0 hz1 hz2 rfl (by decide) _ _ _ rfl (OR.alloc _) ⟨wr.heap.size,0,none⟩ 1 1 [bool (false)] rfl rfl (cell_one_new _ _ _) (by intro u hu;simp at hu;subst hu;rfl) (by decide) (by unfold maxLen;omega) (by omega) (by simp;omega) _ rfl ?_;intro gg cap2 w2 hown hgrow hat hlt2;have hB:=xQ OR hgrow hszr))
    have O2:Hid (OwnF w2 w.heap.size (slice (qX gg) (j+1) cap2) (j+1) (qN fa fb)/\Grew w w2):=⟨OwnF.snoc hown HV,HA.2.trans (xP hB)⟩
    go_wp2;go_roundg (n-(j+1))
    case measure=>rw[HA.out.1];omega
    case rel=>exact⟨j+1,rfl,by omega,by go_num,O2.1,O2.2⟩
  ·have hje:j=n:=by omega
   have i1:((n:Nat):Int)<=(j:Int):=by omega
   have HZ:Hid (OwnF wr w.heap.size (slice ao j cap) (n) (qN fa fb)):=by rw[hje] at ho ⊢;exact ho
   go_wp2;go_ret;exact⟨_,rfl,HZ,HA.2⟩
def jZ (n:Nat)(f:Nat->Bool):Int:=if(List.range n).findIdx f<n then((List.range n).findIdx f:Int) else -1
theorem zD9 (w:World)(v:Value)(n:Nat)(f:Nat->Bool)(m:BoolsAt w (In w) v n f)(t:n<=200):
  Calls prog 142 #[v] w λe w'=>e=returned (iX (jZ n f))/\w'=w:=by
 obtain⟨u,x,z,A,rfl,_,_,o⟩:=m;have q:=vl o;go_in;go_wp2;go_loop [7] (λi=>∃j:Nat,j<=n/\i=iX j/\∀a,a<j->f a=false) (λi=>n-(intOf i).toNat)
 case atStart=>exact⟨0,lX,rfl,λa b=>by omega⟩
 case round=>
  obtain⟨j,B,rfl,r⟩:=hrel;have g:=vl r;by_cases k:j<n
  ·have s:(j:Int)<(n:Int):=by omega
   have y:=q j k;cases d:f j with
   |true=>
    rw[d] at y;have c:Hid (jZ n f=(j:Int)):=by
     have e:(List.range n).findIdx f=j:=by
      rw[List.findIdx_eq (by simpa using k)];exact⟨by simpa using d,λa b=>by simpa using g a (by simpa using b)⟩
     show _=_;unfold jZ;rw[e,if_pos k]
    go_wp2;go_ret;exact⟨zAR c.symm,rfl⟩
   |false=>
    rw[d] at y;have c:=vl d;go_wp2;exact⟨⟨j+1,by omega,by go_num,λa b=>by(by_cases e:a=j;exact e ▸ c;exact g a (by omega))⟩,by simp[intOf];omega⟩
  ·have s:(n:Int)<=(j:Int):=by omega
   have c:Hid (jZ n f=-1):=by
    have l:=List.findIdx_eq_length (xs:=List.range n) (p:=f);rw[List.length_range] at l;have e:=l.2 λa b=>g a (by have:=List.mem_range.1 b;omega);show _=_;unfold jZ;rw[e,if_neg (Nat.lt_irrefl _)]
   go_wp2;go_ret;exact⟨zAR c.symm,rfl⟩
def hasRuleB (m:Sm)(rule:Int):Bool:=m.rules.any (·==rule)
theorem zFZ (w:World)(g rv:Value)(m:Sm)(k:TblAt w g rv m)(p:m.Tbl)(rule:Nat):
  Calls prog 69 #[agg #[g,rv,iX m.start],iX rule] w λe w'=>e=returned (bool (hasRuleB m rule))/\Grew w w':=by
 obtain⟨F,G,rfl,H,I,J⟩:=k.next
 obtain⟨K,L,rfl,M,N,y⟩:=k.rules;have z:=vl y;have A:=vl p.rules;have O:m.rules.length<=200:=by rw[A.out];exact p.most
 go_in;go_wp2;go_loopg [10] m.rules.length (λq i wr=>∃j:Nat,q=m.rules.length-j/\j<=m.rules.length/\i=iX (j:Int)/\(m.rules.take j).any (·==(rule:Int))=false/\Grew w wr)
 case atStart=>exact⟨0,rfl,lX,rfl,rfl,kZ _ _ lQ⟩
 case round=>
  obtain⟨j,r,P,rfl,s,f⟩:=hrel;have a:Hid (gk=m.rules.length-j/\(m.rules.take j).any (·==(rule:Int))=false/\Grew w wr):=⟨r,s,f⟩
  by_cases c:j<m.rules.length
  ·have B:(j:Int)<(m.rules.length:Int):=by omega
   obtain⟨b,o,rfl,C,t⟩:=z j c;have Q:=zA t C f;have D:Hid ((m.rules.take (j+1)).any (·==(rule:Int))=((m.rules.take j).any (·==(rule:Int))||(m.rules.getD j 0==(rule:Int)))):=by
    show _=_;rw[List.take_succ_eq_append_getElem c,List.any_append,lW,lV c];simp
   have E:Hid ((m.rules.getD j 0==(rule:Int))=true->hasRuleB m rule=true):=by
    intro u;unfold hasRuleB;rw[List.any_eq_true];rw[lW,lV c] at u;exact⟨m.rules[j],List.getElem_mem c,u⟩
   clear r s f t;generalize m.rules.getD j 0=x at *;cases v:(x==(rule:Int)) with
   |true=>
    have d:=vl <| E v;go_wp2;go_ret;exact⟨qT d.symm,a.2.2⟩
   |false=>
    have d:Hid ((m.rules.take (j+1)).any (·==(rule:Int))=false):=by show _=_;rw[D.out,a.out.2.1,v];rfl
    go_wp2;go_roundg (m.rules.length-(j+1))
    case measure=>rw[a.out.1];omega
    case rel=>exact⟨j+1,rfl,by omega,by go_num,d,a.2.2⟩
  ·have B:(m.rules.length:Int)<=(j:Int):=by omega
   have d:Hid (hasRuleB m rule=false):=by
    show _=_;unfold hasRuleB;rw[<-List.take_of_length_le (l:=m.rules) (i:=j) (by omega)];exact a.2.1
   go_wp2;go_ret;exact⟨qT d.symm,a.2.2⟩
def yI (a b:Int):Int:=if a<0\/b<0 then -1 else if a>b then a else b
theorem zHe (w:World)(a b:Int):
  Calls prog 68 #[iX a,iX b] w λe w'=>e=returned (iX (yI a b))/\w'=w:=by
 by_cases f:a<0
 ·have c:Hid (yI a b=-1):=if_pos (.inl f)
  go_in;go_wp2;go_ret;exact⟨zAR c.symm,rfl⟩
 ·have h:0<=a:=by omega
  by_cases g:b<0
  ·have c:Hid (yI a b=-1):=if_pos (.inr g)
   go_in;go_wp2;go_ret;exact⟨zAR c.symm,rfl⟩
  ·have i:0<=b:=by omega
   by_cases d:a>b
   ·have c:Hid (yI a b=a):=by show _=_;unfold yI;rw[if_neg (by omega),if_pos d]
    go_in;go_wp2;go_ret;exact⟨zAR c.symm,rfl⟩
   ·have j:a<=b:=by omega
    have c:Hid (yI a b=b):=by show _=_;unfold yI;rw[if_neg (by omega),if_neg d]
    go_in;go_wp2;go_ret;exact⟨zAR c.symm,rfl⟩
def xE (ahead:Int)(kinds:Nat):Bool:=decide (0<=ahead)&&decide (zG kinds ahead.toNat<=3000)
theorem zFd (w:World)(ahead:Int)(kinds:Nat)(d:kinds<=256)(f:ahead<=255):
  Calls prog 70 #[iX ahead,iX kinds] w λe w'=>e=returned (bool (xE ahead kinds))/\w'=w:=by
 by_cases b:0<=ahead
 ·obtain⟨n,rfl⟩:∃n:Nat,ahead=(n:Int):=⟨ahead.toNat,by omega⟩
  have a:Hid (xE n kinds=decide (zG kinds n<=3000)):=by
   show _=_;unfold xE;rw[dQ b,Int.toNat_natCast];rfl
  go_in;go_wp2_with fail;refine(zET kinds n w d (by omega)).mono ?_;rintro e w1 ⟨rfl,rfl⟩;go_wp2;go_ret;refine⟨qT ?_,rfl⟩;rw[a.out];by_cases c:zG kinds n<=3000
  ·simp[c];omega
  ·simp[c];omega
 ·have a:Hid (xE ahead kinds=false):=by
   show _=_;unfold xE;rw[gG b];rfl
  have g:ahead<0:=by omega
  go_in;go_wp2;go_ret;exact⟨qT a.symm,rfl⟩
def yD (m:Sm)(from_:Nat->Bool)(s t:Nat):Bool:=((t:Int) != 0)&&(List.range s).any λi=>from_ i&&(m.next.getD i []).any (·==(t:Int))
def yR (m:Sm)(from_:Nat->Bool)(t:Nat):Bool:=yD m from_ m.next.length t
def qL (m:Sm)(from_:Nat->Bool)(s k t:Nat):Bool:=((t:Int) != 0)&&(((List.range s).any λi=>from_ i&&(m.next.getD i []).any (·==(t:Int)))||((m.next.getD s []).take k).any (·==(t:Int)))
theorem zGV (m:Sm)(f:Nat->Bool)(s t:Nat):qL m f s 0 t=yD m f s t:=by simp[qL,yD]
theorem zH0 (m:Sm)(f:Nat->Bool)(s k t:Nat)(a:f s=true)(b:(m.next.getD s []).length<=k):qL m f s k t=yD m f (s+1) t:=by
 unfold qL yD;rw[List.take_of_length_le b,List.range_succ,List.any_append];simp[a]
theorem zJa (m:Sm)(f:Nat->Bool)(s t:Nat)(a:f s=false):yD m f (s+1) t=yD m f s t:=by
 unfold yD;rw[List.range_succ,List.any_append];simp[a]
theorem zGW (m:Sm)(f:Nat->Bool)(s k t x:Nat)(a:k<(m.next.getD s []).length)(c:(m.next.getD s []).getD k 0=(x:Int)):qL m f s (k+1) t=if t=x then((x:Int) != 0) else qL m f s k t:=by
 unfold qL;rw[List.take_succ_eq_append_getElem a,List.any_append];have e:(m.next.getD s [])[k]=(x:Int):=by rw[<-c,lW (l:=m.next.getD s []),lV a];rfl
 rw[e];by_cases b:t=x
 ·subst b
  simp
 ·have d:((x:Int)==(t:Int))=false:=by rw[hZ];omega
  rw[if_neg b];simp[d]
theorem zCp (w:World)(Q rv R:Value)(m:Sm)(S:TblAt w Q rv m)(F:m.Tbl)(f:Nat->Bool)(ak:BoolsAt w (In w) R m.next.length f):
  Calls prog 141 #[agg #[Q,rv,iX m.start],R] w λe w'=>∃u,e=returned u/\OwnF w' w.heap.size u m.next.length (yR m f)/\Grew w w':=by
 obtain⟨al,am,ao,ap,aq⟩:=info_parts qU;obtain⟨G,H,rfl,a3,a4,au⟩:=S.next
 obtain⟨T,U,rfl,a5,a6,a7⟩:=S.rules;obtain⟨av,of_,a8,aw,rfl,_,_,ax⟩:=ak;have ay:=vl au;have az:=vl ax;have V:Hid m.Tbl:=F;have a9:=F.most;have ba:=F.one;have aA:Hid (∀t,yR m f t=yD m f m.next.length t):=λt=>rfl;have aB:Hid (∀t,yD m f 0 t=false):=λt=>by simp[yD]
 generalize aC:m.next.length=n at *
 have I:=vl aC;have aD:Grew w (w.alloc (.cells #[slice G n H,slice T m.rules.length U,iX m.start] 127)):=kZ _ _ lQ;obtain⟨w1,W,X,aE⟩:∃w1,w1=w.alloc (.cells #[slice G n H,slice T m.rules.length U,iX m.start] 127)/\Hid (Grew w w1/\w1.cell? ⟨w.heap.size,0,none⟩=some (slice G n H))/\w.heap.size<w1.heap.size:=by
  refine⟨_,rfl,⟨aD,?_⟩,by simp⟩;unfold cell?;rw[gY w _];rfl
 obtain⟨w2,aF,aG,r⟩:=run_makeSlice_full (P:=prog) w1 w.heap.size 28 4 al _ 1 underlying28 am ao ap i64 i64 n (by omega) (by rw[aq];omega) (by unfold maxLen;omega) (by omega);have Y:Hid (Row w2 w.heap.size 4 (slice (qX w1.heap.size) n n) n (λt=>bool (yD m f 0 t))/\Grew w w2):=by
  have v:Grew w1 w2:=⟨r.os,r.output,r.size,λk C _=>r.block k C (by simp)⟩
  refine⟨?_,X.1.trans (v.lower (by omega) (by omega))⟩;have j:=aG;rw[Nat.mul_one,zAk _ rfl] at j;exact Row.congr j λi _=>by rw[aB.out i]
 have aa:=X.2;have aH:=(gW (r.block w.heap.size aE (by simp))).trans aa;go_in;apply wp_cut;intro bb ab;go_wp2_with fail;apply ab.out;clear ab;rw[<-W];clear W;go_wp2_with fail;clear aF aa aH;go_loopg [17] n (λq i wr=>∃s:Nat,q=n-s/\s<=n/\i=iX (s:Int)/\Row wr w.heap.size 4 (slice (qX w1.heap.size) n n) n (λt=>bool (yD m f s t))/\Grew w wr)
 case atStart=>exact⟨0,rfl,lX,rfl,Y.1,Y.2⟩
 case round=>
  obtain⟨s,l,bc,rfl,a,c⟩:=hrel;have p:Hid (gk=n-s/\Row wr w.heap.size 4 (slice (qX w1.heap.size) n n) n (λt=>bool (yD m f s t))/\Grew w wr):=⟨l,a,c⟩
  by_cases D:s<n
  ·have aI:(s:Int)<(n:Int):=by omega
   obtain⟨b,o,u,rfl,J,ac,ad⟩:=ay s D;have y:=V.rows s (by rw[I.out];exact D);obtain⟨K,L,aJ,rfl,aK,_,_,ae⟩:=ad.block (by omega);have aL:wr.cell? ⟨b,o+s,none⟩=some (slice (some ⟨K,L,none⟩) 256 aJ):=by rw[<-y];exact zA ac J c
   have M:wr.cell? ⟨av,of_+s,none⟩=some (bool (f s)):=zA (az s D) aw c;have aM:Hid (∀i,i<256->w.cell? ⟨K,L+i,none⟩=some (iX ((m.next.getD s []).getD i 0))):=by
    intro i aN;exact ae i (by rw[y];exact aN)
   have aO:Hid (∀b,b<256->0<=(m.next.getD s []).getD b 0/\(m.next.getD s []).getD b 0<n):=λb J=>by
    have j:=V.to s b (by rw[I.out];exact D) J;rw[I.out] at j;exact j
   have aP:Hid (∀k t x,k<256->(m.next.getD s []).getD k 0=((x:Nat):Int)->qL m f s (k+1) t=if t=x then((x:Int) != 0) else qL m f s k t):=λk t x C z=>zGW m f s k t x (by rw[y];exact C) z;have aQ:Hid (f s=true->∀t,qL m f s 256 t=yD m f (s+1) t):=λd t=>zH0 m f s 256 t d (by rw[y];exact lQ);have aR:Hid (f s=false->∀t,yD m f (s+1) t=yD m f s t):=λd t=>zJa m f s t d;clear l a c ac ad ae y;cases d:f s with
   |false=>
    rw[d] at M;have A:=aR d;have N:Hid (∀t,yD m f (s+1) t=yD m f s t):=A;clear d A;go_wp2_with fail;go_roundg (n-(s+1))
    case measure=>rw[p.out.1];omega
    case rel=>exact⟨s+1,rfl,by omega,by go_num,p.2.1.congr λt _=>by rw[N.out t],p.2.2⟩
   |true=>
    rw[d] at M;have A:=aQ d;have N:Hid (∀t,qL m f s 256 t=yD m f (s+1) t):=A;clear d A;go_wp2_with fail;clear aL M;go_loopg [29] 256 (λq i wr=>∃k:Nat,q=256-k/\k<=256/\i=iX (k:Int)/\Row wr w.heap.size 4 (slice (qX w1.heap.size) n n) n (λt=>bool (qL m f s k t))/\Grew w wr)
    case atStart=>exact⟨0,rfl,lX,rfl,p.2.1.congr λt _=>by rw[zGV],p.2.2⟩
    case round=>
     obtain⟨k,l,C,rfl,a,c⟩:=hrel;have E:Hid (gk=256-k/\Row wr w.heap.size 4 (slice (qX w1.heap.size) n n) n (λt=>bool (qL m f s k t))/\Grew w wr):=⟨l,a,c⟩
     by_cases v:k<256
     ·have aS:(k:Int)<256:=by omega
      have aT:wr.cell? ⟨K,L+k,none⟩=some (iX ((m.next.getD s []).getD k 0)):=zA (aM k v) aK c;obtain⟨aU,aV⟩:=aO k v;obtain⟨x,z⟩:∃x:Nat,(m.next.getD s []).getD k 0=(x:Int):=⟨((m.next.getD s []).getD k 0).toNat,by omega⟩
      have aW:Hid (∀t,qL m f s (k+1) t=if t=x then((x:Int) != 0) else qL m f s k t):=λt=>aP k t x v z;rw[z] at aT aU aV;have aX:x<n:=by omega
      obtain⟨g,bd,af,aY,aZ,a0,a1,ag,ah⟩:=a.get (by omega);have a2:g=w1.heap.size:=by injection af with B _ _;injection B with B;injection B with B;exact B.symm
      subst a2;have be:wr.cell? ⟨w1.heap.size,x,none⟩=some (bool (qL m f s k x)):=ag x aX;have zl:=ah x;clear l a c af aY aZ a0 a1 ag ah z;go_wp2_with fail;go_roundg (256-(k+1))
      case measure=>rw[E.out.1];omega
      case rel=>
       refine⟨k+1,rfl,by omega,by go_num,?_,E.2.2.trans (zP _ _ _ _ (by omega))⟩;have j:=E.2.1.set x (bool ((x:Int) != 0));refine Row.congr j λt _=>?_;rw[aW.out t];by_cases e:t=x
       ·subst e;simp
       ·simp[e]
     ·have ai:k=256:=by omega
      have aS:(256:Int)<=(k:Int):=by omega
      have O:Hid (Row wr w.heap.size 4 (slice (qX w1.heap.size) n n) n (λt=>bool (yD m f (s+1) t))):=by
       refine Row.congr a λt _=>?_;rw[ai,N.out t]
      clear l a c ai;go_wp2_with fail;go_roundg (n-(s+1))
      case measure=>rw[p.out.1];omega
      case rel=>exact⟨s+1,rfl,by omega,by go_num,O,E.2.2⟩
  ·have aj:s=n:=by omega
   have aI:(n:Int)<=(s:Int):=by omega
   have O:Hid (OwnF wr w.heap.size (slice (qX w1.heap.size) n n) n (yR m f)):=by
    refine Row.congr a λt _=>?_;rw[aA.out t,aj]
   clear l a c aj;go_wp2_with fail;go_ret;exact⟨_,rfl,O,p.2.2⟩
def xD (m:Sm):Nat->Nat->Bool
 |0=>tokF m
 |i+1=>qN (yR m (xD m i)) (tokF m)
def zAu (m:Sm)(i:Nat):Bool:=decide (jZ m.next.length (yR m (xD m i))<0)
def xV (m:Sm):Int:=if(List.range (m.next.length+1)).findIdx (zAu m)<m.next.length+1 then((List.range (m.next.length+1)).findIdx (zAu m):Int) else -1
theorem zNt (m:Sm)(j:Nat)(f:j<=m.next.length)(b:zAu m j=true)(c:∀a,a<j->zAu m a=false):xV m=(j:Int):=by
 have e:(List.range (m.next.length+1)).findIdx (zAu m)=j:=by
  rw[List.findIdx_eq (by simp;omega)];exact⟨by simpa using b,λa d=>by simpa using c a (by simpa using d)⟩
 unfold xV;rw[e,if_pos (by omega)]
theorem zGv (m:Sm)(c:∀a,a<=m.next.length->zAu m a=false):xV m=-1:=by
 have b:=List.findIdx_eq_length (xs:=List.range (m.next.length+1)) (p:=zAu m);rw[List.length_range] at b;have e:=b.2 λa d=>c a (by have:=List.mem_range.1 d;omega);unfold xV;rw[e,if_neg (Nat.lt_irrefl _)]
theorem zNs (m:Sm):-1<=xV m/\xV m<=m.next.length:=by
 unfold xV;split <;> omega
theorem zK7:(prog.info? 28).map (λi=>(i.zero,i.size,i.bytes))=some (some (slice none 0 0),1,24):=by kernel_rfl
def FrontsAt (w:World)(H:Nat)(v:Value)(d:Nat)(m:Sm):Prop:=∃rv:Nat->Value,w.ownsRow H 28 1 v d ((List.range d).map rv)/\∀i,i<d->OwnF w H (rv i) m.next.length (xD m i)
theorem FrontsAt.grown {w w':World}{H a:Nat}{v:Value}{m:Sm}(c:FrontsAt w H v a m)(b:Grew w w'):FrontsAt w' H v a m:=by
 obtain⟨rv,e,f⟩:=c;exact⟨rv,zL e b,λi g=>zL (f i g) b⟩
theorem FrontsAt.nil (w:World)(H:Nat)(m:Sm):FrontsAt w H (slice none 0 0) 0 m:=⟨λ_=>slice none 0 0,ownsRow_nil _ _ _ _,λi a=>by omega⟩
theorem FrontsAt.snoc {w w1 w2:World}{H g cap a:Nat}{v u:Value}{m:Sm}{o:Obj}(z:FrontsAt w1 H v a m)(l:OwnF w1 H u m.next.length (xD m a))(A:w=w1)(rv:Nat->Value)(p:∀i,i<a->OwnF w1 H (rv i) m.next.length (xD m i))(q:w1.ownsRow H 28 1 v a ((List.range a).map rv))
  (r:w2.ownsRow H 28 1 (slice (qX g) (a+1) cap) (a+1) ((List.range a).map rv++[u])) (s:(w1.alloc o).grownBy w2 v.ownBlock):FrontsAt w2 H (slice (qX g) (a+1) cap) (a+1) m:=by
 have b:∀{x f},OwnF w1 H x m.next.length f->OwnF w2 H x m.next.length f:=λ{x f} c=>zF c λk B t y=>(s.block k (by simp;omega) (xO c q (by decide) y)).trans (lG _ _ _ t)
 refine⟨λi=>if i=a then u else rv i,?_,λi j=>?_⟩
 ·rw[jV,if_pos rfl]
  have e:(List.range a).map (λi=>if i=a then u else rv i)=(List.range a).map rv:=List.map_congr_left λi j=>if_neg (by have:=List.mem_range.1 j;omega);rw[e];exact r
 ·by_cases e:i=a
  ·subst e
   simp only[if_true];exact b l
  ·show OwnF w2 H (if i=a then u else rv i) _ _
   rw[if_neg e];exact b (p i (by omega))
theorem zFn (w:World)(V rv:Value)(m:Sm)(W:TblAt w V rv m)(K:m.Tbl):
  Calls prog 104 #[agg #[V,rv,iX m.start]] w λe w'=>Grew w w'/\
   ((xV m=-1/\e=returned (tuple #[slice none 0 0,bool false]))\/(∃X v,xV m=((X:Nat):Int)/\X<=m.next.length/\e=returned (tuple #[v,bool true])/\FrontsAt w' w.heap.size v X m)):=by
 obtain⟨aZ,a0,a1,a2,a6⟩:=info_parts zK7;have L:Hid (TblAt w V rv m/\m.Tbl):=⟨W,K⟩
 obtain⟨c,g,rfl,bD,bE,bF⟩:=W.next
 obtain⟨l,o,rfl,bG,bH,bI⟩:=W.rules;have ap:=K.most;have F:=K.one;have a7:=vl K.rules;obtain⟨w1,av,M,a8⟩:∃w1,w1=w.alloc (.cells #[slice c m.next.length g,slice l m.rules.length o,iX m.start] 127)/\Hid (Grew w w1/\w1.heap[w.heap.size]? =some (.cells #[slice c m.next.length g,slice l m.rules.length o,iX m.start] 127))/\w.heap.size<w1.heap.size:=
  ⟨_,rfl,⟨kZ _ _ lQ,gY w _⟩,by simp⟩
 go_in;apply wp_cut;intro bJ a9;go_wp2;apply a9.out;rw[<-av];clear av;have Y:w1.cell? ⟨w.heap.size,0,none⟩=some (slice c m.next.length g)/\w1.cell? ⟨w.heap.size,1,none⟩=some (slice l m.rules.length o)/\w1.cell? ⟨w.heap.size,2,none⟩=some (iX m.start):=by
  refine⟨?_,?_,?_⟩ <;> (unfold cell?;rw[M.out.2];rfl)
 obtain⟨aa,ab,ac⟩:=Y;go_wp2_with fail;have aw:Hid (∀y,Grew w y->Ca 140 #[agg #[slice c m.next.length g,slice l m.rules.length o,iX m.start]] y λe w'=>∃u,e=returned u/\OwnF w' y.heap.size u m.next.length (tokF m)/\Grew y w'):=λy ba=>by
  have ax:=zCU y _ _ m (L.1.grown ba) L.2;rw[a7.out] at ax ⊢;exact ax
 refine(aw w1 M.1).mono ?_;rintro e w2 ⟨u,rfl,ay,az⟩;obtain⟨bb,bc,N⟩:=ay.form;subst N;have ad:Hid (OwnF w2 w.heap.size (slice bb m.next.length bc) m.next.length (xD m 0)/\Grew w w2/\w2.heap[w.heap.size]? =some (.cells #[slice c m.next.length g,slice l m.rules.length o,iX m.start] 127)):=⟨vF ay (by omega),M.1.trans (az.lower (by omega) (by omega)),(az.block _ a8 (by omega)).trans M.2⟩
 go_wp2;go_loopg [4,5,6] (m.next.length+1) (λq fr bd i wr=>∃j:Nat,q=m.next.length+1-j/\j<=m.next.length+1/\i=iX (j:Int)/\FrontsAt wr w.heap.size fr j m/\OwnF wr w.heap.size bd m.next.length (xD m j)/\(∀a,a<j->zAu m a=false)/\Grew w wr/\wr.heap[w.heap.size]? =some (.cells #[slice c m.next.length g,slice l m.rules.length o,iX m.start] 127))
 case atStart=>exact⟨0,rfl,lX,rfl,FrontsAt.nil _ _ _,ad.1,λa aA=>by omega,ad.2.1,ad.2.2⟩
 case round=>
  obtain⟨j,aB,bK,rfl,aC,z,aD,ae,O⟩:=hrel;have p:Hid (gk=m.next.length+1-j/\FrontsAt wr w.heap.size u4 j m/\OwnF wr w.heap.size u5 m.next.length (xD m j)/\(∀a,a<j->zAu m a=false)/\Grew w wr/\wr.heap[w.heap.size]? =some (.cells #[slice c m.next.length g,slice l m.rules.length o,iX m.start] 127)):=⟨aB,aC,z,aD,ae,O⟩
  have Y:wr.cell? ⟨w.heap.size,0,none⟩=some (slice c m.next.length g)/\wr.cell? ⟨w.heap.size,1,none⟩=some (slice l m.rules.length o)/\wr.cell? ⟨w.heap.size,2,none⟩=some (iX m.start):=by
   refine⟨?_,?_,?_⟩ <;> (unfold cell?;rw[O];rfl)
  obtain⟨aa,ab,ac⟩:=Y;have A:=(kQ.1 O).1;obtain⟨af,ag,be⟩:=z.form;subst be;obtain⟨bL,aE,bf⟩:=aC;obtain⟨P,Q,bg⟩:=zI aE;subst bg;by_cases aF:j<=m.next.length
  ·have bh:(j:Int)<=(m.next.length:Int):=by omega
   have aG:=vl <| zCp wr _ _ _ m (L.1.grown ae) L.2 (xD m j) (z.at F);have aH:Hid (zAu m j=decide (jZ m.next.length (yR m (xD m j))<0)):=rfl;have bM:Hid (∀s,xD m (j+1) s=qN (yR m (xD m j)) (tokF m) s):=λ_=>rfl;go_wp2_with fail;refine aG.mono ?_;rintro e B ⟨u3,rfl,ah,C⟩;obtain⟨aI,aJ,bi⟩:=ah.form;subst bi;have r:Hid (OwnF B wr.heap.size (slice aI m.next.length aJ) m.next.length (yR m (xD m j))/\Grew wr B/\Grew w B):=⟨ah,C,p.2.2.2.2.1.trans (C.lower (by omega) (by omega))⟩
   have aK:B.cell? ⟨w.heap.size,0,none⟩=some (slice c m.next.length g):=zA aa A C;have aL:B.cell? ⟨w.heap.size,1,none⟩=some (slice l m.rules.length o):=zA ab A C;have aM:B.cell? ⟨w.heap.size,2,none⟩=some (iX m.start):=zA ac A C;clear ah C aG aa ab ac;go_wp2_with fail;refine(zD9 B _ m.next.length _ (r.1.at F) ap).mono ?_;rintro e t ⟨rfl,rfl⟩;by_cases ai:jZ m.next.length (yR m (xD m j))<0
   ·have aj:Hid (xV m=(j:Int)):=zNt m j aF (by rw[aH.out];exact dQ ai) p.2.2.2.1
    have bj:Hid (FrontsAt t w.heap.size (slice P j Q) j m):=p.2.1.grown r.2.1;generalize jZ m.next.length (yR m (xD m j))=bk at *
    go_wp2_with fail;go_ret2
    exact⟨r.2.2,.inr ⟨j,_,aj,aF,rfl,bj⟩⟩
   ·have bN:0<=jZ m.next.length (yR m (xD m j)):=by omega
    have bl:Hid (zAu m j=false):=by show _=_;rw[aH.out];exact gG ai
    generalize jZ m.next.length (yR m (xD m j))=bk at *
    obtain⟨R,ak,aN⟩:=p.2.1.grown r.2.1;have G:Hid (t.ownsRow w.heap.size 28 1 (slice P j Q) j ((List.range j).map R)):=ak;have aO:Hid (∀i,i<j->OwnF t w.heap.size (R i) m.next.length (xD m i)):=aN;have bm:Hid (OwnF t w.heap.size (slice af m.next.length ag) m.next.length (xD m j)):=zL p.2.2.1 r.2.1;have bn:w.heap.size<=t.heap.size:=r.2.2.size;have bo:w.heap.size<t.heap.size:=lZ A r.2.1.size;have bp:Hid (some w.heap.size≠Value.ownBlock (slice P j Q)):=by
     intro e;rcases ak.2 with⟨al,_⟩|⟨bq,_,bO,al,_,br,_⟩
     ·rw[al] at e;cases e
     ·rw[al] at e
      have bs:w.heap.size=bq:=by simpa[Value.ownBlock] using e
      have D:=(r.2.1.block w.heap.size A (by omega)).trans p.2.2.2.2.2;rw[bs,br] at D;injection D with D;injection D with _ D _;exact absurd D (by decide)
    clear ak aN ai;go_wp2_with (first|(at_builtin;refine wpList_append_lies _ rfl _ _ 188 rfl (w.heap.size) 28 aZ (slice none 0 0) 1 24 underlying188 a0 a1 a2 a6 rfl (by decide) _ _ _ rfl (G.alloc _) ⟨t.heap.size,0,none⟩ 1 1 [slice af m.next.length ag] rfl rfl (cell_one_new _ _ _) (by intro u N;simp at N;subst N;rfl) (by decide) (by unfold maxLen;omega) (by omega) (by simp;omega) _ rfl ?_;intro aP cap b aQ aR bt bP;have H:(t.alloc (.cells #[slice af m.next.length ag] 28)).grownBy b (Value.ownBlock (slice P j Q)):=aR;have I:b.heap[w.heap.size]? =t.heap[w.heap.size]? :=(H.block w.heap.size (by simp;omega) bp).trans (lG _ _ _ bo);have bu:b.cell? ⟨w.heap.size,0,none⟩=some (slice c m.next.length g):=(gW I).trans aK;have bv:b.cell? ⟨w.heap.size,1,none⟩=some (slice l m.rules.length o):=(gW I).trans aL;have bw:b.cell? ⟨w.heap.size,2,none⟩=some (iX m.start):=(gW I).trans aM))
    have aS:Below w.heap.size t b:=xQ G H bn;have aT:∀{x f},OwnF t w.heap.size x m.next.length f->OwnF b w.heap.size x m.next.length f:=λ{x f} z=>zF z λk F bx bz=>(H.block k (by simp;omega) (xO z G (by decide) bz)).trans (lG _ _ _ bx)
    have S:Hid (FrontsAt b w.heap.size (slice (qX aP) (j+1) cap) (j+1) m/\OwnF b w.heap.size (slice aI m.next.length aJ) m.next.length (yR m (xD m j))/\Grew w b):=⟨FrontsAt.snoc ⟨R,G,aO⟩ bm rfl R aO G aQ H,aT (vF r.1 (Nat.le_of_lt A)),r.2.2.trans (xP aS)⟩
    have aU:Hid (b.heap[w.heap.size]? =some (.cells #[slice c m.next.length g,slice l m.rules.length o,iX m.start] 127)):=I.trans ((r.2.1.block w.heap.size A (by omega)).trans p.2.2.2.2.2);clear aQ H aR bt aS I aT aK aL aM;refine(aw b S.2.2).mono ?_;rintro e am ⟨bQ,rfl,ao,aV⟩;obtain⟨bA,bB,bC⟩:=ao.form;subst bC;have E:Hid (OwnF am b.heap.size (slice bA m.next.length bB) m.next.length (tokF m)/\Grew b am):=⟨ao,aV⟩
    clear ao aV bu bv bw;go_wp2_with fail;refine(zCm am _ _ m.next.length (yR m (xD m j)) (tokF m) (OwnF.at (zL S.2.1 E.2) F) (E.1.at F) ap).mono ?_;rintro e J ⟨u6,rfl,aW,aX⟩;have T:Grew b J:=E.2.trans (aX.lower E.2.size E.2.size);have aY:w.heap.size<b.heap.size:=(kQ.1 aU).1;have U:Hid (FrontsAt J w.heap.size (slice (qX aP) (j+1) cap) (j+1) m/\OwnF J w.heap.size u6 m.next.length (xD m (j+1))/\Grew w J/\J.heap[w.heap.size]? =some (.cells #[slice c m.next.length g,slice l m.rules.length o,iX m.start] 127)):=
     ⟨S.1.grown T,vF aW (Nat.le_of_lt (lZ aY E.2.size)),S.2.2.trans (T.lower (by omega) (by omega)),(T.block w.heap.size aY (by omega)).trans aU⟩
    clear aW aX T;go_wp2_with fail;go_roundg (m.next.length+1-(j+1))
    case measure=>rw[p.out.1];omega
    case rel=>exact⟨j+1,rfl,by omega,by go_num,U.1,U.2.1,λa aA=>by(by_cases e:a=j;exact e ▸ bl;exact p.2.2.2.1 a (by omega)),U.2.2.1,U.2.2.2⟩
  ·have bh:(m.next.length:Int)<(j:Int):=by omega
   have aj:Hid (xV m=-1):=zGv m λa aA=>p.2.2.2.1 a (by omega);clear aB z aD ae O aE bf;go_wp2_with fail;go_ret2
   exact⟨p.2.2.2.2.1,.inl ⟨aj,rfl⟩⟩
theorem zKL (w:World)(b:Nat)(d:b<256):
  (convert 68 9 (slice (qX w.heap.size) 1 1)).run prog (w.alloc (.cells #[int .u8 (b:Int)] 5))=
   .ok (string ⟨#[UInt8.ofNat b]⟩) (w.alloc (.cells #[int .u8 (b:Int)] 5)):=by
 refine run_convert_bytes_back _ 68 9 5 ⟨w.heap.size,0,none⟩ 1 [UInt8.ofNat b] underlying68 underlying5 underlying9 ?_;intro j c;have a:=gY w (.cells #[int .u8 (b:Int)] 5);generalize w.alloc (.cells #[int .u8 (b:Int)] 5)=w1 at a ⊢;have:j=0:=by simp at c;omega
 subst this;have e:([UInt8.ofNat b]:List UInt8)[0].toNat=b:=by simp;omega
 rw[e];simp[Addr.add,cell?,a]
theorem zCE (w:World)(b:Nat)(a:b<256):
  Calls prog 150 #[iX b] w λe w'=>e=returned (string ⟨#[UInt8.ofNat b]⟩)/\Grew w w':=by
 have c:=zKL w b a;go_in;go_wp2;go_ret;exact⟨rfl,kZ _ _ lQ⟩
theorem zFT (w:World)(l rv p:Value)(m:Sm)(r:TblAt w l rv m)(g:m.Tbl)(f:Nat->Bool)(C:BoolsAt w (In w) p m.next.length f)(to:Int):
  Calls prog 149 #[agg #[l,rv,iX m.start],p,iX to] w λe w'=>∃s b:Nat,s<m.next.length/\b<256/\e=returned (tuple #[iX s,iX b])/\Grew w w':=by
 obtain⟨V,W,rfl,X,Y,D⟩:=r.next
 obtain⟨aa,ab,rfl,ac,ad,ae⟩:=r.rules;obtain⟨af,of_,ag,E,rfl,_,_,F⟩:=C;have G:=vl D;have H:=vl F;have I:Hid m.Tbl:=g;have ah:=g.most;have ai:=g.one;generalize J:m.next.length=n at *
 have K:=vl J;go_in;go_wp2;go_loopg [15] n (λq i wr=>∃s:Nat,q=n-s/\s<=n/\i=iX (s:Int)/\Grew w wr)
 case atStart=>exact⟨0,rfl,lX,rfl,kZ _ _ lQ⟩
 case round=>
  obtain⟨s,h,aj,rfl,a⟩:=hrel;have j:Hid (gk=n-s/\Grew w wr):=⟨h,a⟩
  by_cases d:s<n
  ·have L:(s:Int)<(n:Int):=by omega
   obtain⟨b,o,u,rfl,M,N,O⟩:=G s d;have t:=I.rows s (by rw[K.out];exact d);obtain⟨v,y,P,rfl,Q,_,_,R⟩:=O.block (by omega);have ak:cX wr b (o+s)=some (slice (some ⟨v,y,none⟩) 256 P):=by rw[<-t];exact zA N M a
   have S:Hid (∀i,i<256->cX w v (y+i)=some (iX ((m.next.getD s []).getD i 0))):=by
    intro i T;exact R i (by rw[t];exact T)
   go_wp2;go_loopg [22] 256 (λq i wr=>∃k:Nat,q=256-k/\k<=256/\i=iX (k:Int)/\Grew w wr)
   case atStart=>exact⟨0,rfl,lX,rfl,j.2⟩
   case round=>
    obtain⟨k,h,al,rfl,a⟩:=hrel;have c:Hid (gk=256-k/\Grew w wr):=⟨h,a⟩
    by_cases z:k<256
    ·have U:(k:Int)<256:=by omega
     have am:=zA (S k z) Q a;have A:=zA (H s d) E a;generalize (m.next.getD s []).getD k 0=x at *;cases B:f s with
     |false=>
      rw[B] at A;go_wp2;go_roundg (256-(k+1))
      case measure=>rw[c.out.1];omega
      case rel=>exact⟨k+1,rfl,by omega,by go_num,c.2⟩
     |true=>
      rw[B] at A;cases ao:(x==to) with
      |true=>
       go_wp2;go_ret2
       exact⟨s,k,d,z,rfl,c.2⟩
      |false=>
       go_wp2;go_roundg (256-(k+1))
       case measure=>rw[c.out.1];omega
       case rel=>exact⟨k+1,rfl,by omega,by go_num,c.2⟩
    ·have U:(256:Int)<=(k:Int):=by omega
     go_wp2;go_roundg (n-(s+1))
     case measure=>rw[j.out.1];omega
     case rel=>exact⟨s+1,rfl,by omega,by go_num,c.2⟩
  ·have L:(n:Int)<=(s:Int):=by omega
   go_wp2;go_ret2
   exact⟨0,0,by omega,by omega,rfl,j.2⟩
theorem zKe:(prog.info? 9).map (λi=>(i.zero,i.size,i.bytes))=some (some (string ⟨#[]⟩),1,16):=by kernel_rfl
theorem zLq (f:Nat->Bool)(t n:Nat)(h:t<n)(a:f t=false):(List.range n).countP (λi=>if i=t then true else f i)=(List.range n).countP f+1:=by
 induction n with
 |zero=>omega
 |succ n b=>
  rw[List.range_succ,List.countP_append,List.countP_append];by_cases e:t=n
  ·subst e
   have c:(List.range t).countP (λi=>if i=t then true else f i)=(List.range t).countP f:=by
    apply List.countP_congr;intro i d;rw[if_neg (by have:=List.mem_range.1 d;omega)]
   rw[c];simp[a]
  ·rw[b (by omega)]
   have g:[n].countP (λi=>if i=t then true else f i)=[n].countP f:=by simp[Ne.symm e]
   rw[g];omega
theorem zMA (f:Nat->Bool)(n:Nat):(List.range n).countP f<=n:=by
 have a:=List.countP_le_length (p:=f) (l:=List.range n);rw[List.length_range] at a;exact a
structure Wy (w:World)(H gs gw n:Nat)(sf:Nat->Bool)(wf:Nat->ByteArray)(lv:Value)(l:List Int):Prop where
 seen:Row w H 4 (slice (some ⟨gs,0,none⟩) n n) n λi=>bool (sf i)
 words:Row w H 9 (slice (some ⟨gw,0,none⟩) n n) n λi=>string (wf i)
 list:OwnI w H lv l
 all:∀x∈l,0<=x/\x<(n:Int)
 len:l.length=1+(List.range n).countP sf
 size:∀i,(wf i).size<=l.length
theorem Wy.most {w:World}{H b c n:Nat}{a:Nat->Bool}{d:Nat->ByteArray}{lv:Value}{l:List Int}(e:Wy w H b c n a d lv l):l.length<=n+1:=by
 have:=zMA a n;have:=e.len;omega
theorem Row.at {w:World}{H g n c:Nat}{e:TypeId}{f:Nat->Value}(b:Row w H e (slice (qX g) n c) n f)(d:0<n):H<=g/\g<w.heap.size/\(∀i,i<n->w.cell? ⟨g,i,none⟩=some (f i))/\∀i,w.frozen? ⟨g,i,none⟩=false:=by
 obtain⟨j,r,k,l,m,s,t,o,p⟩:=b.get d;have q:j=g:=by injection k with a _ _;injection a with a;injection a with a;exact a.symm
 subst q;exact⟨l,m,o,p⟩
theorem Keep.undrew {a b:Nat}{w w':World}(c:Keep a b w.drew w'):Keep a b w w':=⟨c.os,c.output,c.size,c.block⟩
theorem zHf {w w':World}{b i:Nat}(a:w.frozen? ⟨b,i,none⟩=false)(c:b<w.heap.size)(d:Grew w w'):w'.frozen? ⟨b,i,none⟩=false:=(gV (d.block b c (by omega))).trans a
theorem zN {w:World}{H b:Nat}{e g:TypeId}{i:Nat}{v:Value}{n:Nat}{xs:List Value}{c:Array Value}(j:w.ownsRow H e i v n xs)(k:w.heap[b]? =some (.cells c g))(l:e≠g):some b≠v.ownBlock:=by
 intro d;rcases j.2 with⟨f,_⟩|⟨m,_,p,f,_,a,_⟩
 ·rw[f] at d;cases d
 ·rw[f] at d
  have o:m=b:=by simpa[Value.ownBlock] using d.symm
  subst o;rw[k] at a;injection a with a;injection a with _ a;exact l a.symm
theorem Wy.mark {w d:World}{H a b n:Nat}{o:Nat->Bool}{j:Nat->ByteArray}{lv:Value}{l:List Int}(c:Wy w H a b n o j lv l)(x:Nat)(f:ByteArray)(k:Keep (w.setCell ⟨a,x,none⟩ (bool true)).heap.size (w.setCell ⟨a,x,none⟩ (bool true)).heap.size (w.setCell ⟨a,x,none⟩ (bool true)) d):
  Row (d.setCell ⟨b,x,none⟩ (string f)) H 4 (slice (qX a) n n) n (λi=>bool (if i=x then true else o i))/\
  Row (d.setCell ⟨b,x,none⟩ (string f)) H 9 (slice (qX b) n n) n (λi=>string (if i=x then f else j i))/\
  OwnI (d.setCell ⟨b,x,none⟩ (string f)) H lv l:=by
 have q:=c.seen.set x (bool true);have r:Row (w.setCell ⟨a,x,none⟩ (bool true)) H 9 (slice (qX b) n n) n λi=>string (j i):=c.words.setOther c.seen (by decide);have s:OwnI (w.setCell ⟨a,x,none⟩ (bool true)) H lv l:=zF c.list λg _ _ m=>lJ _ _ _ _ λe=>xO (g:=g) c.list c.seen (by decide) m (by rw[e];rfl);have t:=zL q k;have b2:Row d H 9 (slice (qX b) n n) n λi=>string (j i):=zL r k;have p:=zL s k;refine⟨?_,?_,?_⟩
 ·refine Row.congr (Row.setOther (H:=H) t b2 (by decide)) λi _=>?_
  by_cases e:i=x <;> simp[e]
 ·refine Row.congr (b2.set x (string f)) λi _=>?_
  by_cases e:i=x <;> simp[e]
 ·exact zF p λg _ _ m=>lJ _ _ _ _ λe=>xO (g:=g) p b2 (by decide) m (by rw[e];rfl)
theorem Wy.more {c h:World}{o:Obj}{H m p n q cap:Nat}{a:Nat->Bool}{d:Nat->ByteArray}{r:Option Addr}{s:Nat}{l:List Int}(x:Nat)(f:ByteArray)
  (A:∀x∈l,0<=x/\x<(n:Int)) (B:l.length=1+(List.range n).countP a) (C:∀i,(d i).size<=l.length) (D:x<n) (E:a x=false) (F:f.size<=l.length+1)
  (t:Row c H 4 (slice (qX m) n n) n (λi=>bool (if i=x then true else a i)))
  (u:Row c H 9 (slice (qX p) n n) n (λi=>string (if i=x then f else d i)))
  (v:OwnI c H (slice r l.length s) l)
  (G:h.ownsRow H 3 1 (slice (qX q) (l.length+1) cap) (l.length+1) ((l.map λx=>iX x)++[iX (x:Int)]))
  (w:(c.alloc o).grownBy h (Value.ownBlock (slice r l.length s))):
  Wy h H m p n (λi=>if i=x then true else a i) (λi=>if i=x then f else d i) (slice (qX q) (l.length+1) cap) (l++[(x:Int)]):=by
 refine⟨?_,?_,OwnI.snoc G,?_,?_,?_⟩
 ·exact t.blk λg _ j k=>(w.block g (by simp;omega) (xO t v.raw (by decide) k)).trans (lG _ _ _ j)
 ·exact u.blk λg _ j k=>(w.block g (by simp;omega) (xO u v.raw (by decide) k)).trans (lG _ _ _ j)
 ·intro y b
  rcases kU.1 b with b|b
  ·exact A y b
  ·rw[kY.1 b];omega
 ·rw[kX,zLq a x n D E,B]
  simp;omega
 ·intro i
  rw[kX];show(if i=x then f else d i).size<=l.length+1;by_cases e:i=x
  ·rw[if_pos e];exact F
  ·rw[if_neg e];have:=C i;omega
end Go.Proofs.YtbjcfkdnjaiclaaGreat
