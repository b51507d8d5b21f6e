import Derived.ChangeKeysEq
import Derived.Test.YtbjcfkdnjaiclaaGreatS0
import Derived.Test.YtbjcfkdnjaiclaaGreatS13
/- Parts of the proof. -/
set_option linter.unusedVariables false
set_option linter.unusedSimpArgs false
set_option maxHeartbeats 4000000
set_option maxRecDepth 100000
namespace Go.Proofs.YtbjcfkdnjaiclaaGreat
open Go.RowKit Go.Proofs.Tryz Go.World
open Go.Value (int slice bool pointer string agg tuple)
open Go.IntKind (i64)
open Go.Ending (returned)
def nz (f:Nat->Int):Bool:=(List.range 64).all λi=>f i==0
theorem zHG:a64 (λ_=>0)=(#[iX 0,iX 0,iX 0,iX 0,iX 0,iX 0,iX 0,iX 0,iX 0,iX 0,iX 0,iX 0,iX 0,iX 0,iX 0,iX 0,iX 0,iX 0,iX 0,iX 0,iX 0,iX 0,iX 0,iX 0,iX 0,iX 0,iX 0,iX 0,iX 0,iX 0,iX 0,iX 0,iX 0,iX 0,iX 0,iX 0,iX 0,iX 0,iX 0,iX 0,iX 0,iX 0,iX 0,iX 0,iX 0,iX 0,iX 0,iX 0,iX 0,iX 0,iX 0,iX 0,iX 0,iX 0,iX 0,iX 0,iX 0,iX 0,iX 0,iX 0,iX 0,iX 0,iX 0,iX 0]:Array Value):=rfl
theorem zL3 (w:World)(a:Nat)(f g:Nat->Int):∀is:List Nat,(∀i∈is,i<64)->(Op.eqItems (a+1) 3 (prog.cellsOf 3) (a64 f) (a64 g) is).run prog w=.ok (is.all λi=>f i==g i) w
 |[],_=>rfl
 |i::is,b=>by
  have c:=b i (hU);have m:prog.cellsOf 3=1:=by kernel_rfl
  have k:prog.plainKey 3=true:=by kernel_rfl
  have o:=run_part_plain (P:=prog) w (e:=3) k (xs:=a64 f) (off:=i*1) (v:=iX (f i)) (by rw[Nat.mul_one];exact zAv f i c);have p:=run_part_plain (P:=prog) w (e:=3) k (xs:=a64 g) (off:=i*1) (v:=iX (g i)) (by rw[Nat.mul_one];exact zAv g i c);have l:=zL3 w a f g is λj q=>b j (List.mem_cons_of_mem _ q);have r:=run_equalIn_int (P:=prog) w a 3 i64 i64 (f i) (g i) underlying3;rw[m] at l ⊢;simp only[Op.eqItems,Sem.run_bind,o,p,r,Result.andThen_ok,List.all_cons];cases f i==g i
  ·rfl
  ·simpa using l
theorem zPq (w:World)(f:Nat->Int):(Op.equalIn 10000 246 (agg (a64 f)) (agg (#[iX 0,iX 0,iX 0,iX 0,iX 0,iX 0,iX 0,iX 0,iX 0,iX 0,iX 0,iX 0,iX 0,iX 0,iX 0,iX 0,iX 0,iX 0,iX 0,iX 0,iX 0,iX 0,iX 0,iX 0,iX 0,iX 0,iX 0,iX 0,iX 0,iX 0,iX 0,iX 0,iX 0,iX 0,iX 0,iX 0,iX 0,iX 0,iX 0,iX 0,iX 0,iX 0,iX 0,iX 0,iX 0,iX 0,iX 0,iX 0,iX 0,iX 0,iX 0,iX 0,iX 0,iX 0,iX 0,iX 0,iX 0,iX 0,iX 0,iX 0,iX 0,iX 0,iX 0,iX 0]:Array Value))).run prog w=.ok (nz f) w:=by
 obtain⟨c,a,-⟩:=info_parts yF;rw[<-zHG,run_equalIn_array (P:=prog) w 9999 (a64 f) (a64 λ_=>0) underlying246 a];exact zL3 w 9998 f (λ_=>0) (List.range 64) λi b=>List.mem_range.1 b
section
def Mk.fillTo (m:Mk)(s:Nat)(f:Nat->Int):Nat->Mk
 |0=>m
 |j+1=>(m.fillTo s f j).put s (128+j) (f j)
theorem zD0 (m:Mk)(s b:Nat)(x:Int):(m.put s b x).next.length=m.next.length:=List.length_set ..
theorem zCb (m:Mk)(s:Nat)(f:Nat->Int)(j:Nat):(m.fillTo s f j).next.length=m.next.length:=by
 induction j with
 |zero=>rfl
 |succ j a=>rw[Mk.fillTo,zD0,a]
def Mk.seek (m:Mk)(f:Nat->Int):Nat:=m.next.findIdx λrow=>qZ row f
def Mk.withN (m:Mk)(most:Nat)(f:Nat->Int):Nat:=if nz f=true then 0 else if m.seek f<m.next.length then m.seek f else m.addN most
def Mk.withM (m:Mk)(most:Nat)(f:Nat->Int):Mk:=if nz f=true then m else if m.seek f<m.next.length then m else if m.addN most=0 then m.add most (-1) else(m.add most (-1)).fillTo (m.addN most) f 64
theorem zOZ (l:List (List Int))(f:Nat->Int)(j:Nat)(a:j<l.length)(b:qZ (l.getD j []) f=true)(c:∀i,i<j->qZ (l.getD i []) f=false):l.findIdx (λrow=>qZ row f)=j:=by
 rw[List.findIdx_eq a];rw[lW,lV a] at b;refine⟨b,λi d=>?_⟩;have:=c i d;rw[lW,lV (by omega)] at this;exact this
theorem zMF (l:List (List Int))(f:Nat->Int)(b:∀i,i<l.length->qZ (l.getD i []) f=false):l.findIdx (λrow=>qZ row f)=l.length:=by
 rw[List.findIdx_eq_length];intro y c;obtain⟨i,a,rfl⟩:=List.getElem_of_mem c;have:=b i a;rw[lW,lV a] at this;exact this
section
variable {w0 w w2:World} {mb kb most:Nat} {m:Mk} {nv rv ov:Value} {gs:Nat->Nat}
theorem Mw.rowInts (a:Mw w0 w mb kb most m nv rv ov gs)(i:Nat)(c:i<m.next.length):Ints w (In w) (slice (some ⟨gs i,0,none⟩) 256 256) (m.next.getD i []):=by
 have d:=(a.each i c).2.2;exact⟨_,256,by rw[d],by rw[d];exact lQ,by unfold maxLen;omega,λb e=>⟨gs i,0,rfl,a.gl i c,by rw[Nat.zero_add];exact(a.row i b c (by omega)).1⟩⟩
theorem Mw.rows (c:Mw w0 w mb kb most m nv rv ov gs):∃a b,nv=slice a m.next.length b/\w.cell? ⟨mb,3,none⟩=some (slice a m.next.length b)/\∀i,i<m.next.length->∃g,a=some ⟨g,0,none⟩/\g<w.heap.size/\w.cell? ⟨g,i,none⟩=some (slice (some ⟨gs i,0,none⟩) 256 256):=by
 obtain⟨a,b,d⟩:=zE c.nOwn;refine⟨a,b,d,by rw[<-d];exact c.cells.2.2.2.1,λi f=>?_⟩;obtain⟨g,o,e,_,j,_,_,k,_⟩:=c.nOwn.get (by omega);rw[d] at e;injection e with l _ _;exact⟨g,l,j,k i f⟩
end
theorem zFI (w0 w:World)(mb kb most:Nat)(m:Mk)(a:MwIs w0 w mb kb most m)(aD:most<=1000000)(R:m.rules.length<=1000000)(aW:m.next.length<=1000000)(f:Nat->Int):
  Calls prog 179 #[pX mb,agg (a64 f)] w λe w'=>e=returned (iX ((m.withN most f:Nat):Int))/\MwIs w0 w' mb kb most (m.withM most f)/\StayT w w':=by
 have x:=vl <| zL2 f;have I:Hid (∀wr:World,wr.heap[w.heap.size]? =some (.cells (a64 f) 246)->wr.rangeAt w.heap.size 0 (a64 f).toList):=λwr aE=>zFz wr w.heap.size f aE;have z:Hid ((w.alloc (.cells (a64 f) 246)).heap[w.heap.size]? =some (.cells (a64 f) 246)):=gX _ _;have J:=zPq (w.alloc (.cells (a64 f) 246)) f;have B:Hid (Grew w (w.alloc (.cells (a64 f) 246))):=kZ _ _ lQ;have S:Hid (MwIs w0 (w.alloc (.cells (a64 f) 246)) mb kb most m):=a.grown B;have aF:Hid (∀(wr:World) v row,Ints wr (In wr) v row->row.length=256->Ca 186 #[v,agg (a64 f)] wr λe w'=>e=returned (bool (qZ row f))/\Grew wr w'):=λwr v row aG R=>zGZ wr v row aG R f;have aH:Hid (∀w i,i<64->Sem.run prog (Instr.index 246 (agg (a64 f)) (iX ((i:Nat):Int))) w=.ok (iX (f i)) w):=λw i=>zL5 w f i;have aI:Hid (∀i,i<64->(a64 f)[i]? =some (iX (f i))):=zAv f;have aJ:Hid (∀j,j<m.next.length->qZ (m.next.getD j []) f=true->(∀i,i<j->qZ (m.next.getD i []) f=false)->m.seek f=j):=λj aj a aK=>zOZ m.next f j aj a aK
 have aL:Hid ((∀i,i<m.next.length->qZ (m.next.getD i []) f=false)->m.seek f=m.next.length):=λa=>zMF m.next f a
 have T:Hid (m.withN most f=if nz f=true then 0 else if m.seek f<m.next.length then m.seek f else m.addN most):=rfl;have U:Hid (m.withM most f=if nz f=true then m else if m.seek f<m.next.length then m else if m.addN most=0 then m.add most (-1) else(m.add most (-1)).fillTo (m.addN most) f 64):=rfl;clear a;generalize a64 f=b at *;obtain⟨w1,C⟩:∃w1,w1=w.alloc (.cells b 246):=⟨_,rfl⟩
 rw[<-C] at z J B S;cases d:nz f with
 |true=>
  rw[d] at J;have D:Hid (m.withN most f=0/\m.withM most f=m):=⟨by rw[T.out,if_pos d],by rw[U.out,if_pos d]⟩
  clear d;have V:Hid (w1.rangeAt w.heap.size 0 b.toList):=I w1 z;go_in;apply wp_cut;intro aM E;go_wp2;apply E.out;clear E;rw[<-C];clear C;go_wp2_with (first|(refine wpList_load_mid rfl 246 (.tmp 3) rfl w.heap.size 0 rfl b.toList (.array 64 3) V underlying246 rfl x ?_))
  go_ret;exact⟨by rw[D.out.1];rfl,by rw[D.out.2];exact S,B.stayT⟩
 |false=>
  rw[d] at J;have W:Hid (m.withN most f=if m.seek f<m.next.length then m.seek f else m.addN most):=by show _=_;rw[T.out,if_neg (by rw[d];decide)]
  have X:Hid (m.withM most f=if m.seek f<m.next.length then m else if m.addN most=0 then m.add most (-1) else(m.add most (-1)).fillTo (m.addN most) f 64):=by show _=_;rw[U.out,if_neg (by rw[d];decide)]
  clear d T U;have V:Hid (w1.rangeAt w.heap.size 0 b.toList):=I w1 z;obtain⟨nv,rv,ov,gs,Y⟩:=S;obtain⟨aN,aX,aY,aO,ak⟩:=Y.rows;have F:Hid (Mw w0 w1 mb kb most m nv rv ov gs):=Y;have al:Hid (∀i,i<m.next.length->∃g,aN=some ⟨g,0,none⟩/\g<w1.heap.size/\cX w1 g i=some (slice (some ⟨gs i,0,none⟩) 256 256)):=ak;clear Y ak;go_in;apply wp_cut;intro aM E;go_wp2;apply E.out;clear E;rw[<-C];clear C;go_wp2_with (first|(refine wpList_load_mid rfl 246 (.tmp 3) rfl w.heap.size 0 rfl b.toList (.array 64 3) V underlying246 rfl x ?_))
  clear J;go_loopg [19] m.next.length (λk i wr=>∃j:Nat,k=m.next.length-j/\j<=m.next.length/\i=iX (j:Int)/\(∀i,i<j->qZ (m.next.getD i []) f=false)/\Grew w1 wr)
  case atStart=>exact⟨0,rfl,lX,rfl,λi am=>by omega,⟨rfl,rfl,lQ,λ_ _ _=>rfl⟩⟩
  case round=>
   obtain⟨j,o,aj,rfl,K,l⟩:=hrel;have c:Hid (gk=m.next.length-j/\(∀i,i<j->qZ (m.next.getD i []) f=false)/\Grew w1 wr):=⟨o,K,l⟩
   have ao:w.heap.size<w1.heap.size:=(kQ.1 z).1;have ap:Hid (wr.heap[w.heap.size]? =some (.cells b 246)):=(l.block _ ao (kJ ao)).trans z;have aq:Hid (wr.rangeAt w.heap.size 0 b.toList):=I wr ap;by_cases q:j<m.next.length
   ·have aP:(j:Int)<(m.next.length:Int):=by omega
    obtain⟨g,rfl,aQ,ar⟩:=al j q;have aZ:=zA ar aQ l;have M:Hid (Ca 186 #[slice (some ⟨gs j,0,none⟩) 256 256,agg b] wr λe w'=>e=returned (bool (qZ (m.next.getD j []) f))/\Grew wr w'):=aF wr _ _ ((F.grown l).rowInts j q) (F.each j q).2.2;have aR:Hid (qZ (m.next.getD j []) f=true->m.seek f=j):=λa=>aJ j q a c.2.1;have G:Hid (qZ (m.next.getD j []) f=false->∀i,i<j+1->qZ (m.next.getD i []) f=false):=λa i am=>by
     by_cases e:i=j
     ·rw[e];exact a
     ·exact c.2.1 i (by omega)
    clear o K l ar;cases r:qZ (m.next.getD j []) f with
    |true=>
     rw[r] at M;have aa:=aR r;have D:Hid (m.withN most f=j/\m.withM most f=m):=⟨by rw[W.out,aa,if_pos q],by rw[X.out,aa,if_pos q]⟩
     clear r aa;go_wp2_with (first|(refine wpList_load_mid rfl 246 (.tmp 3) rfl w.heap.size 0 rfl b.toList (.array 64 3) aq underlying246 rfl x ?_)|(go_at_call 186;refine M.mono ?_;rintro e p ⟨rfl,ab⟩))
     go_ret;have au:=c.2.2.trans (ab.lower c.2.2.size c.2.2.size);exact⟨by rw[D.out.1];rfl,by rw[D.out.2];exact⟨_,_,_,_,F.grown au⟩,StayT.trans B.stayT au.stayT⟩
    |false=>
     rw[r] at M;have aS:Hid (∀i,i<j+1->qZ (m.next.getD i []) f=false):=G r;clear r;go_wp2_with (first|(refine wpList_load_mid rfl 246 (.tmp 3) rfl w.heap.size 0 rfl b.toList (.array 64 3) aq underlying246 rfl x ?_)|(go_at_call 186;refine M.mono ?_;rintro e p ⟨rfl,ab⟩))
     go_roundg (m.next.length-(j+1))
     case measure=>rw[c.out.1];omega
     case rel=>exact⟨j+1,rfl,by omega,by go_num,aS,c.2.2.trans (ab.lower c.2.2.size c.2.2.size)⟩
   ·have aP:(m.next.length:Int)<=(j:Int):=by omega
    have ac:m.seek f=m.next.length:=aL λi am=>K i (by omega)
    have G:Hid (m.withN most f=m.addN most):=by show _=_;rw[W.out,ac,if_neg (Nat.lt_irrefl _)]
    have N:Hid (m.withM most f=if m.addN most=0 then m.add most (-1) else(m.add most (-1)).fillTo (m.addN most) f 64):=by show _=_;rw[X.out,ac,if_neg (Nat.lt_irrefl _)]
    have ad:Hid (Ca 133 #[pX mb,iX (-1)] wr λe w'=>e=returned (iX ((m.addN most:Nat):Int))/\MwIs w0 w' mb kb most (m.add most (-1))/\StayT wr w'):=zFh w0 wr mb kb most m ⟨_,_,_,_,F.grown l⟩ aD R (-1);have av:Hid (StayT w wr):=StayT.trans B.stayT l.stayT;have ae:Hid (m.addN most≠0->m.addN most<(m.add most (-1)).next.length):=λa=>by
     unfold Mk.addN at a ⊢;unfold Mk.add;by_cases e:most<=m.next.length
     ·rw[if_pos e] at a;exact absurd rfl a
     ·rw[if_neg e,if_neg e];show _<(m.next++[zeros]).length;simp
    clear o K l ac W X F al aO;by_cases u:m.addN most=0
    ·rw[u] at ad G
     have af:Hid (m.withM most f=m.add most (-1)):=by show _=_;rw[N.out,if_pos u]
     clear N ae u;go_wp2_with (first|(go_at_call 133;refine ad.mono ?_;rintro e p ⟨rfl,O,H⟩))
     go_ret;exact⟨by rw[G.out];rfl,by rw[af.out];exact O,av.trans H⟩
    ·have a0:=ae u
     have af:Hid (m.withM most f=(m.add most (-1)).fillTo (m.addN most) f 64):=by show _=_;rw[N.out,if_neg u]
     have a1:(((m.addN most:Nat):Int)==0)=false:=by rw[hX];omega
     clear N ae u;generalize m.add most (-1)=m2 at *;generalize m.addN most=s at *;go_wp2_with (first|(go_at_call 133;refine ad.mono ?_;rintro e p ⟨rfl,O,H⟩;have aw:p.heap[w.heap.size]? =some (.cells b 246):=H _ _ _ ap (by decide) (by decide) (by decide);have ax:=I p aw)|(refine wpList_load_mid rfl 246 (.tmp 3) rfl w.heap.size 0 rfl b.toList (.array 64 3) ax underlying246 rfl x ?_))
     have ay:Hid (MwIs w0 p mb kb most m2/\StayT w p):=⟨O,av.trans H⟩
     clear O H aw ax;go_loopg [34] 64 (λk i wr=>∃j:Nat,k=64-j/\j<=64/\i=iX (j:Int)/\MwIs w0 wr mb kb most (m2.fillTo s f j)/\StayT w wr)
     case atStart=>exact⟨0,rfl,lX,rfl,ay.1,ay.2⟩
     case round=>
      obtain⟨t,o,a2,rfl,ag,P⟩:=hrel;have ah:Hid (gk=64-t/\MwIs w0 wr mb kb most (m2.fillTo s f t)/\StayT w wr):=⟨o,ag,P⟩
      by_cases az:t<64
      ·have aT:(t:Int)<64:=by omega
       have a3:(128:Int)+(t:Int)<256:=by omega
       obtain⟨a4,a5,a6,aA,Q⟩:=ag;have aU:=zCb m2 s f t;obtain⟨a7,a8,aV,a9,aB⟩:=Q.rows;obtain⟨ba,rfl,_,bb⟩:=aB s (by omega);obtain⟨bc,bd⟩:=Q.row s (128+t) (by omega) (by omega);have ai:=Q.put s (128+t) (by omega) (f t);have aC:Hid (MwIs w0 (wr.setCell ⟨aA s,128+t,none⟩ (iX (f t))) mb kb most (m2.fillTo s f (t+1))/\StayT w (wr.setCell ⟨aA s,128+t,none⟩ (iX (f t)))):=⟨⟨_,_,_,_,ai.1⟩,P.trans ai.2⟩
       have be:=aH wr t az;have bf:=aI t az;have bg:(s:Int)<((m2.fillTo s f t).next.length:Int):=by omega
       clear o P Q ai aV aB aU;generalize (m2.fillTo s f t).next.length=bh at *
       generalize ((m2.fillTo s f t).next.getD s []).getD (128+t) 0=old at *;generalize f t=y at *;go_wp2;go_roundg (64-(t+1))
       case measure=>rw[ah.out.1];omega
       case rel=>exact⟨t+1,rfl,by omega,by go_num,aC.1,aC.2⟩
      ·have aT:(64:Int)<=(t:Int):=by omega
       have e:t=64:=by omega
       subst e;clear o ag P;go_wp2;go_ret;exact⟨by rw[G.out];rfl,by rw[af.out];exact ah.2.1,ah.2.2⟩
end
section
structure Mk.Fit (m:Mk)(most:Nat):Prop where
 same:m.rules.length=m.next.length
 few:m.next.length<=most
theorem zFD {m:Mk}{most:Nat}(a:m.Fit most)(r:Int):(m.add most r).Fit most:=by
 unfold Mk.add;by_cases e:most<=m.next.length
 ·rw[if_pos e];exact⟨a.same,a.few⟩
 ·rw[if_neg e]
  have:=a.same;exact⟨by simp[this],by simp;omega⟩
theorem zLV {m:Mk}{most:Nat}(a:m.Fit most)(s b:Nat)(x:Int):(m.put s b x).Fit most:=⟨by rw[zD0];exact a.same,by rw[zD0];exact a.few⟩
theorem zLq {m:Mk}{most:Nat}(a:m.Fit most)(s:Nat)(f:Nat->Int)(j:Nat):(m.fillTo s f j).Fit most:=by
 induction j with
 |zero=>exact a
 |succ j c=>exact zLV c _ _ _
theorem zFH {m:Mk}{most:Nat}(a:m.Fit most)(f:Nat->Int):(m.withM most f).Fit most:=by
 unfold Mk.withM;split
 ·exact a
 ·split
  ·exact a
  ·split
   ·exact zFD a _
   ·exact zLq (zFD a _) _ _ _
theorem zNb (m:Mk)(s:Nat)(f:Nat->Int)(j:Nat):(m.fillTo s f j).of=m.of:=by
 induction j with
 |zero=>rfl
 |succ j a=>exact a
theorem zDJ (m:Mk)(most:Nat)(r:Int):(m.add most r).of=m.of:=by unfold Mk.add;split <;> rfl
theorem zLL (m:Mk)(most:Nat)(f:Nat->Int):(m.withM most f).of=m.of:=by
 unfold Mk.withM;split
 ·rfl
 ·split
  ·rfl
  ·split
   ·exact zDJ _ _ _
   ·rw[zNb,zDJ]
structure Bx (w0 w wr:World)(mb kb most:Nat)(m:Mk)(b:Nat)(g:Nat->Int):Prop where
 ma:MwIs w0 wr mb kb most m
 arr:wr.heap[b]? =some (.cells (a64 g) 246)
 stay:StayT w wr
 new:w.heap.size<=b
 old:w0.heap.size<=w.heap.size
theorem zPy (g:Nat->Int)(i:Nat)(x:Int)(a:i<64):(a64 g).setIfInBounds i (iX x)=a64 (λj=>if j=i then x else g j):=by
 apply Array.ext_getElem?;intro j;rw[Array.getElem?_setIfInBounds];by_cases c:j<64
 ·by_cases e:i=j
  ·subst e
   rw[if_pos rfl,zBU,if_pos a,zAv _ i a,if_pos rfl]
  ·rw[if_neg e,zAv _ j c,zAv _ j c,if_neg (Ne.symm e)]
 ·rw[if_neg (by omega),Array.getElem?_eq_none (by rw[zBU];omega),Array.getElem?_eq_none (by rw[zBU];omega)]
theorem zNC {g c:Nat->Int}(d:∀i,i<64->g i=c i):a64 g=a64 c:=by
 apply Array.ext_getElem?;intro j;by_cases a:j<64
 ·rw[zAv _ j a,zAv _ j a,d j a]
 ·rw[Array.getElem?_eq_none (by rw[zBU];omega),Array.getElem?_eq_none (by rw[zBU];omega)]
section
variable {w0 w wr w2:World} {mb kb most:Nat} {m:Mk} {b:Nat} {g:Nat->Int}
theorem Mw.setBox {p rv q:Value}{o:Nat->Nat}{i:Nat}{x:Value}{c:Array Value}(a:Mw w0 wr mb kb most m p rv q o)(j:wr.heap[b]? =some (.cells c 246))(r:w0.heap.size<=b):Mw w0 (wr.setCell ⟨b,i,none⟩ x) mb kb most m p rv q o:=by
 have e:∀k,k≠b->(wr.setCell ⟨b,i,none⟩ x).heap[k]? =wr.heap[k]? :=λk f=>lJ _ _ _ _ f;have s:mb≠b:=λd=>by
  have:=a.blk;rw[d,j] at this;simp at this
 have t:∀i,i<m.next.length->o i≠b:=λi l d=>by
  have:=(a.each i l).1;rw[d,j] at this;simp at this
 have u:=zM a.nOwn j (by decide);have v:=zM a.rOwn j (by decide);have y:=zM a.oOwn j (by decide);exact⟨(e mb s).trans a.blk,zD a.nOwn λk _ _ f=>e k λd=>u (by rw[f,d]),λi l=>⟨(e _ (t i l)).trans (a.each i l).1,(a.each i l).2⟩,zD a.rOwn λk _ _ f=>e k λd=>v (by rw[f,d]),zD a.oOwn λk _ _ f=>e k λd=>y (by rw[f,d]),a.inj,a.nr,a.no,a.ro,a.mH,a.keep.trans (zP _ _ _ _ r)⟩
theorem Bx.set (a:Bx w0 w wr mb kb most m b g)(i:Nat)(e:i<64)(x:Int):Bx w0 w (wr.setCell ⟨b,i,none⟩ (iX x)) mb kb most m b (λj=>if j=i then x else g j):=by
 obtain⟨f,rv,l,o,p⟩:=a.ma;have q:=lY a.old a.new;refine⟨⟨f,rv,l,o,p.setBox a.arr q⟩,?_,λk c t d r s u=>?_,a.new,a.old⟩
 ·rw[<-zPy g i x e]
  simp[setCell,lU,a.arr]
 ·have v:=(kQ.1 d).1
  have y:=a.new;exact(lJ _ _ _ _ (by show k≠b;omega)).trans (a.stay k c t d r s u)
theorem Bx.call {c:Mk}(a:Bx w0 w wr mb kb most m b g)(e:MwIs w0 w2 mb kb most c)(d:StayT wr w2):Bx w0 w w2 mb kb most c b g:=⟨e,d b _ _ a.arr (by decide) (by decide) (by decide),a.stay.trans d,a.new,a.old⟩
theorem Bx.congr {c:Nat->Int}(a:Bx w0 w wr mb kb most m b g)(e:∀i,i<64->g i=c i):Bx w0 w wr mb kb most m b c:=⟨a.ma,by rw[<-zNC e];exact a.arr,a.stay,a.new,a.old⟩
theorem Bx.cell (a:Bx w0 w wr mb kb most m b g)(i:Nat)(c:i<64):wr.cell? ⟨b,i,none⟩=some (iX (g i))/\wr.frozen? ⟨b,i,none⟩=false:=by
 constructor
 ·unfold cell?;rw[a.arr];exact zAv g i c
 ·unfold frozen?;rw[a.arr];simp
theorem Bx.start {m0:Mk}(a:MwIs w0 w mb kb most m0)(wr:World)(d:StayT w wr)(e:MwIs w0 wr mb kb most m)(f:w.heap.size<=wr.heap.size):Bx w0 w (wr.alloc (.cells (a64 λ_=>0) 246)) mb kb most m wr.heap.size (λ_=>0):=by
 have c:=kZ (b:=wr.heap.size) wr (.cells (a64 λ_=>0) 246) lQ;obtain⟨_,_,_,_,a⟩:=a;exact⟨e.grown c,gX _ _,d.trans c.stayT,f,a.keep.size⟩
end
end
def jA:Nat->Nat
 |0=>0
 |1=>1
 |2=>64
 |_=>4096
def Mk.even (most:Nat):Nat->Mk->Int->Int×Mk
 |0,m,to=>(to,m)
 |c+1,m,to=>Mk.even most c (m.withM most λ_=>to) (m.withN most λ_=>to)
theorem zLt (f w:World)(d kb most:Nat)(m:Mk)(y:MwIs f w d kb most m)(F:most<=1000000)(fit:m.Fit most)(to:Int)(c:Nat)(G:c<=3):
  Calls prog 178 #[pX d,iX to,iX (jA c:Int)] w λe w'=>e=returned (iX (Mk.even most c m to).1)/\MwIs f w' d kb most (Mk.even most c m to).2/\StayT w w':=by
 have H:=vl y;have o:=vl fit;go_in;go_wp2;go_loopg [1,2] c (λk t s wr=>∃(n:Nat) (m2:Mk) (a:Int),k=n/\n<=3/\t=iX a/\s=iX (jA n:Int)/\MwIs f wr d kb most m2/\m2.Fit most/\StayT w wr/\w.heap.size<=wr.heap.size/\Mk.even most c m to=Mk.even most n m2 a)
 case atStart=>exact⟨c,m,to,rfl,G,rfl,rfl,y,fit,StayT.refl _,lQ,rfl⟩
 case round=>
  obtain⟨n,m2,a,l,V,rfl,rfl,r,x,u,I,v⟩:=hrel;cases n with
  |zero=>
   have g:Hid (MwIs f wr d kb most m2/\StayT w wr/\Mk.even most c m to=(a,m2)):=⟨r,u,v⟩
   clear r x u v l;have z:jA 0=0:=rfl;rw[z];go_wp2;go_ret;exact⟨by rw[g.out.2.2];rfl,by rw[g.out.2.2];exact g.1,g.2.1⟩
  |succ n=>
   have z:0<jA (n+1):=by
    rcases n with _|_|_|n
    all_goals (simp [jA])
   have W:jA (n+1)/64=jA n:=by
    rcases n with _|_|_|n
    all_goals first|rfl|omega
   have X:(jA (n+1):Int)>0:=by omega
   have Y:jA (n+1)<=4096:=by
    rcases n with _|_|_|n
    all_goals (simp [jA])
   have aa:Hid (wrap64 ((jA (n+1):Int)/64)=(jA n:Int)):=by
    show _=_;rw[w64 _ (by omega) (by omega)];omega
   have g:Hid (gk=n+1/\MwIs f wr d kb most m2/\m2.Fit most/\StayT w wr/\w.heap.size<=wr.heap.size/\Mk.even most c m to=Mk.even most (n+1) m2 a):=⟨l,r,x,u,I,v⟩
   clear r x u v l;go_wp2;rw[<-zHG];have J:=vl <| Bx.start H wr g.2.2.2.1 g.2.1 g.2.2.2.2.1;generalize wr.alloc (.cells (a64 λ_=>0) 246)=ab at *;generalize wr.heap.size=b at *;go_loopg [13] 64 (λk i wr=>∃j:Nat,k=64-j/\j<=64/\i=iX (j:Int)/\Bx f w wr d kb most m2 b (λt=>if t<j then a else 0))
   case atStart=>exact⟨0,rfl,lX,rfl,J.congr λi _=>by simp⟩
   case round=>
    obtain⟨j,l,ac,rfl,p⟩:=hrel;have K:Hid (gk=64-j/\Bx f w wr d kb most m2 b (λt=>if t<j then a else 0)):=⟨l,p⟩
    by_cases B:j<64
    ·have L:(j:Int)<64:=by omega
     obtain⟨ad,ae⟩:=p.cell j B;have q:Hid (Bx f w (wr.setCell ⟨b,j,none⟩ (iX a)) d kb most m2 b (λt=>if t<j+1 then a else 0)):=(p.set j B a).congr λi _=>by
      by_cases e:i=j
      ·subst e;rw[if_pos rfl,if_pos (by omega)]
      ·rw[if_neg e]
       by_cases C:i<j
       ·rw[if_pos C,if_pos (by omega)]
       ·rw[if_neg C,if_neg (by omega)]
     clear l p;generalize (if j<j then a else 0)=old at *;go_wp2;go_roundg (64-(j+1))
     case measure=>rw[K.out.1];omega
     case rel=>exact⟨j+1,rfl,by omega,by go_num,q⟩
    ·have L:(64:Int)<=(j:Int):=by omega
     have q:Hid (Bx f w wr d kb most m2 b (λ_=>a)):=p.congr λi af=>by rw[if_pos (by omega)]
     have M:Hid (wr.rangeAt b 0 (a64 λ_=>a).toList):=zFz wr b _ q.arr;have N:Hid ((prog.info? 246).map (·.size)=some (a64 λ_=>a).toList.length):=zL2 _;have o:=g.2.2.1;have O:Hid (Ca 179 #[pX d,agg (a64 λ_=>a)] wr λe w'=>e=returned (iX ((m2.withN most (λ_=>a):Nat):Int))/\MwIs f w' d kb most (m2.withM most λ_=>a)/\StayT wr w'):=zFI f wr d kb most m2 q.ma F (by have:=o.same;have:=o.few;omega) (by have:=o.few;omega) _;have P:Hid (Mk.even most c m to=Mk.even most n (m2.withM most λ_=>a) ((m2.withN most λ_=>a:Nat):Int)):=g.2.2.2.2.2;have Q:Hid ((m2.withM most λ_=>a).Fit most):=zFH o _;have ag:=q.new;clear l p o;generalize (a64 λ_=>a)=R at *;generalize (m2.withM most λ_=>a)=S at *;generalize (m2.withN most λ_=>a)=T at *;go_wp2_with (first|(refine wpList_load_mid rfl 246 (.tmp 7) rfl b 0 rfl R.toList (.array 64 3) M underlying246 rfl N ?_)|(go_at_call 179;refine O.mono ?_;rintro e ah ⟨rfl,D,U⟩))
     go_roundg n
     case measure=>rw[g.out.1];omega
     case rel=>
      have E:=q.call D U;have ai:=(kQ.1 E.arr).1;exact⟨n,S,(T:Int),rfl,by omega,rfl,by congr 1;omega,D,Q,E.stay,by omega,P⟩
def zIl (step:Nat):Nat:=if step=64 then 2048 else if step=4096 then 65536 else 0
def qQ (sub:Mk->Nat->Int×Mk)(step low:Nat)(m:Mk):Nat->(Nat->Int)×Mk
 |0=>(λ_=>0,m)
 |j+1=>if low+j*step<zIl step then(λi=>if i=j then 0 else(qQ sub step low m j).1 i,(qQ sub step low m j).2) else(λi=>if i=j then(sub (qQ sub step low m j).2 (low+j*step)).1 else(qQ sub step low m j).1 i,(sub (qQ sub step low m j).2 (low+j*step)).2)
def zFF (most:Nat)(p:(Nat->Int)×Mk):Int×Mk:=(((p.2.withN most p.1:Nat):Int),p.2.withM most p.1)
def zA1 (k:Kd)(a:Ar)(most kind cnt step:Nat)(sub:Mk->Nat->Int×Mk)(m:Mk)(low:Nat):Int×Mk:=
 if zIl step<=low/\a.alike (low:Int) ((low+64*step-1:Nat):Int)=true then Mk.even most cnt m (m.behind k a kind (low:Int)) else zFF most (qQ sub step low m 64)
def yX (k:Kd)(a:Ar)(most kind:Nat):Nat->Mk->Nat->Int×Mk
 |0,m,low=>zA1 k a most kind 1 1 (λm c=>(m.behind k a kind (c:Int),m)) m low
 |l+1,m,low=>zA1 k a most kind (l+2) (jA (l+2)) (yX k a most kind l) m low
def Tame (most:Nat)(sub:Mk->Nat->Int×Mk):Prop:=∀m c,m.Fit most->(sub m c).2.Fit most/\(sub m c).2.of=m.of
theorem zNe (most:Nat)(c:Nat):∀(m:Mk) (to:Int),m.Fit most->(Mk.even most c m to).2.Fit most/\(Mk.even most c m to).2.of=m.of:=by
 induction c with
 |zero=>exact λm to a=>⟨a,rfl⟩
 |succ c b=>
  intro m to a;have:=b (m.withM most λ_=>to) ((m.withN most λ_=>to:Nat):Int) (zFH a _);exact⟨this.1,this.2.trans (zLL _ _ _)⟩
theorem zJg {most:Nat}{a:Mk->Nat->Int×Mk}(c:Tame most a)(step low:Nat){m:Mk}(d:m.Fit most)(j:Nat):(qQ a step low m j).2.Fit most/\(qQ a step low m j).2.of=m.of:=by
 induction j with
 |zero=>exact⟨d,rfl⟩
 |succ j b=>
  unfold qQ;split
  ·exact b
  ·have:=c (qQ a step low m j).2 (low+j*step) b.1
   exact⟨this.1,this.2.trans b.2⟩
theorem zEa (k:Kd)(a:Ar){most:Nat}(kind cnt step:Nat){b:Mk->Nat->Int×Mk}(d:Tame most b):Tame most (zA1 k a most kind cnt step b):=by
 intro m low c;unfold zA1;split
 ·exact zNe most cnt m _ c
 ·have:=zJg d step low c 64
  exact⟨zFH this.1 _,(zLL _ _ _).trans this.2⟩
theorem zAM (k:Kd)(a:Ar)(most kind l:Nat):Tame most (yX k a most kind l):=by
 induction l with
 |zero=>exact zEa k a kind 1 1 λm c b=>⟨b,rfl⟩
 |succ l d=>exact zEa k a kind (l+2) (jA (l+2)) d
theorem zBD (r w:World)(o kb most:Nat)(m:Mk)(s:MwIs r w o kb most m)(ak:most<=1000000)(fit:m.Fit most)(k:Kd)(a:Ar)(aa:KdAt r kb a k)(ok:k.Ok a)(kind:Nat)(am:kind<k.rows.length)(ab:m.of.length=k.rows.length)(low:Nat)(a2:low<=1410000)(l d cnt s2:Nat)(Q:d=1\/d=64\/d=4096)(aA:cnt<=3)(an:jA cnt=d)(aB:d/64=s2)(f:Mk->Nat->Int×Mk)(ao:yX k a most kind l m low=zA1 k a most kind cnt d f m low)(ap:Tame most f)
  (aq:(d=1/\∀wr m2,MwIs r wr o kb most m2->m2.Fit most->m2.of.length=k.rows.length->∀c:Nat,c<=low+64*d->Calls prog 134 #[pX o,iX (kind:Int),iX (c:Int)] wr λe w'=>e=returned (iX (f m2 c).1)/\MwIs r w' o kb most (f m2 c).2/\StayT wr w')\/(d≠1/\∀wr m2,MwIs r wr o kb most m2->m2.Fit most->m2.of.length=k.rows.length->∀c:Nat,c<=low+64*d->Calls prog 136 #[pX o,iX (kind:Int),iX (c:Int),iX (s2:Int)] wr λe w'=>e=returned (iX (f m2 c).1)/\MwIs r w' o kb most (f m2 c).2/\StayT wr w')):
  Calls prog 136 #[pX o,iX (kind:Int),iX (low:Int),iX (d:Int)] w λe w'=>e=returned (iX (yX k a most kind l m low).1)/\MwIs r w' o kb most (yX k a most kind l m low).2/\StayT w w':=by
 have H:=vl s;obtain⟨a3,rv,a4,a5,ac⟩:=s;obtain⟨a6,lv,tv,sv,a7,a8,R,I,-,-⟩:=aa.grown ac.keep;obtain⟨a9,ba,aC,-⟩:=id I.lows;obtain⟨at_,bb,aD,-⟩:=id I.letters;obtain⟨as_,cs,has,-⟩:=id I.sets;obtain⟨t,ad⟩:∃t,t=a.alike (low:Int) ((low+64*d-1:Nat):Int):=⟨_,rfl⟩
 have ae:Hid (∀y:Int,y=((low+64*d-1:Nat):Int)->Ca 177 #[agg #[lv,tv,sv],iX (low:Int),iX y] w λe w'=>e=returned (bool t)/\Grew w w'):=by
  rintro y rfl;rw[ad];exact zKp w lv tv sv a I ok.few _ _
 have aE:=ac.cells.1;have aF:w.cell? ⟨kb,0,none⟩=some lv:=by unfold cell?;rw[R];rfl
 have aG:w.cell? ⟨kb,1,none⟩=some tv:=by unfold cell?;rw[R];rfl
 have aH:w.cell? ⟨kb,2,none⟩=some sv:=by unfold cell?;rw[R];rfl
 subst aC aD has;obtain⟨p,J⟩:∃p,p=zIl d:=⟨_,rfl⟩
 have K:Hid (∀w,Ca 176 #[iX (d:Int)] w λe w'=>e=returned (iX (p:Int))/\w'=w):=λw=>by
  have:=zJS w d Q;rw[show (if d=64 then 2048 else if d=4096 then 65536 else 0:Int)=(p:Int) by rw[J];rcases Q with rfl|rfl|rfl <;> rfl] at this;exact this
 have ar:Hid (∀w2,Grew w w2->Ca 134 #[pX o,iX (kind:Int),iX (low:Int)] w2 λe w'=>e=returned (iX (m.behind k a kind (low:Int)))/\Grew w2 w'):=λw2 D=>zCR r w2 o kb most m (H.grown D) k a aa ok kind am ab (low:Int);have au:Hid (∀w2 to,Grew w w2->Ca 178 #[pX o,iX to,iX (d:Int)] w2 λe w'=>e=returned (iX (Mk.even most cnt m to).1)/\MwIs r w' o kb most (Mk.even most cnt m to).2/\StayT w2 w'):=λw2 to D=>by rw[<-an];exact zLt r w2 o kb most m (H.grown D) ak fit to cnt aA
 have L:=vl aq;have aI:=vl (And.intro fit ab);have aJ:Hid (qQ f d low m 0=(λ_=>0,m)):=rfl;have aK:Hid (∀j,qQ f d low m (j+1)=if low+j*d<p then(λi=>if i=j then 0 else(qQ f d low m j).1 i,(qQ f d low m j).2) else(λi=>if i=j then(f (qQ f d low m j).2 (low+j*d)).1 else(qQ f d low m j).1 i,(f (qQ f d low m j).2 (low+j*d)).2)):=λj=>by rw[J];rfl
 have aL:Hid (∀j,(qQ f d low m j).2.Fit most/\(qQ f d low m j).2.of=m.of):=λj=>zJg ap d low fit j;have E:(p<=low/\t=true)\/¬(p<=low/\t=true):=Decidable.em _;have S:Hid (((p<=low/\t=true)->yX k a most kind l m low=Mk.even most cnt m (m.behind k a kind (low:Int)))/\(¬(p<=low/\t=true)->yX k a most kind l m low=zFF most (qQ f d low m 64))):=by
  rw[ao,J,ad];exact⟨λs=>if_pos s,λs=>if_neg s⟩
 have bc:p<=65536:=by rw[J];rcases Q with rfl|rfl|rfl <;> decide
 have bd:1<=d/\d<=4096:=by omega
 have be:(d:Int)/64=(s2:Int):=by omega
 clear ac R I aa ok am ab fit ao ap aq J ad an aB Q;generalize a.lows.length=bf at *;generalize a.letters.length=bg at *;generalize a.sets.length=q2 at *;generalize qQ f d low m=g at *;rcases E with E|E
 ·have M:=vl (S.1 E)
  obtain⟨aM,rfl⟩:=E;have af:(low:Int)>=(p:Int):=by omega
  clear S L aM;generalize m.behind k a kind (low:Int)=aN at *;generalize yX k a most kind l m low=aO at *;go_in;go_wp2_with (first|(go_at_call 176;refine(K _).mono ?_;rintro e U ⟨rfl,u⟩;have v:=u.symm;subst v)|(go_at_call 177;refine(ae _ (by omega)).mono ?_;rintro e w2 ⟨rfl,D⟩)|(go_at_call 134;refine(ar w2 D).mono ?_;rintro e ag ⟨rfl,aP⟩;have av:=D.trans (aP.lower D.size D.size))|(go_at_call 178;refine(au ag aN av).mono ?_;rintro e ah ⟨rfl,z,B⟩))
  go_ret;exact⟨by rw[M.out];rfl,by rw[M.out];exact z,StayT.trans av.stayT B⟩
 have M:=vl (S.2 E);clear S au ar;generalize yX k a most kind l m low=aO at *;have aQ:(low:Int)<(p:Int)\/(low:Int)>=(p:Int)/\t=false:=by
  rcases Nat.lt_or_ge low p with s|s
  ·exact .inl (by omega)
  ·refine .inr ⟨by omega,?_⟩
   cases t with
   |false=>rfl
   |true=>exact absurd ⟨s,rfl⟩ E
 clear E;go_in;rcases aQ with af|⟨af,rfl⟩;go_wp2_with (first|(go_at_call 176;refine(K _).mono ?_;rintro e U ⟨rfl,u⟩;have v:=u.symm;subst v))
 rw[<-zHG];have aw:=vl (Bx.start H w (Keep.refl w.heap.size w.heap.size w).stayT H lQ);generalize w.alloc (.cells (a64 λ_=>0) 246)=ag at *;generalize w.heap.size=b at *;rotate_left;go_wp2_with (first|(go_at_call 176;refine(K _).mono ?_;rintro e U ⟨rfl,u⟩;have v:=u.symm;subst v)|(go_at_call 177;refine(ae _ (by omega)).mono ?_;rintro e w2 ⟨rfl,V⟩))
 rw[<-zHG];have aw:=vl (Bx.start H w2 V.stayT (H.grown V) V.size);clear V;generalize w2.alloc (.cells (a64 λ_=>0) 246)=ag at *;generalize w2.heap.size=b at *
 all_goals
  clear ae aF aG aH aE af;go_loopg [39] 64 (λq i wr=>∃j:Nat,q=64-j/\j<=64/\i=iX (j:Int)/\Bx r w wr o kb most (g j).2 b (g j).1)
  case atStart=>exact⟨0,rfl,lX,rfl,by rw[aJ.out];exact aw⟩
  case round=>
   obtain⟨j,W,bi,rfl,C⟩:=hrel;have N:=vl (And.intro W C);have F:=aL j;by_cases O:j<64
   ·have aR:(j:Int)<64:=by omega
    obtain⟨bj,bk⟩:=C.cell j O;obtain⟨x,X⟩:∃x,x=j*d:=⟨_,rfl⟩
    have bl:(j:Int)*(d:Int)=(x:Int):=by rw[X];exact(Int.natCast_mul j d).symm
    have bm:x<=64*d:=by rw[X];exact Nat.mul_le_mul_right d (by omega)
    have P:=vl (aK j);rw[<-X] at P;clear X;by_cases Y:low+x<p
    ·have aS:Hid (Bx r w (wr.setCell ⟨b,j,none⟩ (iX 0)) o kb most (g (j+1)).2 b (g (j+1)).1):=by
      have s:=C.set j O 0;show Bx _ _ _ _ _ _ (g (j+1)).2 _ (g (j+1)).1;rw[P.out,if_pos Y];exact s
     have aT:(low:Int)+(x:Int)<(p:Int):=by omega
     clear W C Y P F L;generalize (g j).1 j=old at *;go_wp2_with (first|(go_at_call 176;refine(K _).mono ?_;rintro e U ⟨rfl,u⟩;have v:=u.symm;subst v))
     go_roundg (64-(j+1))
     case measure=>rw[N.out.1];omega
     case rel=>exact⟨j+1,rfl,by omega,by go_num,aS⟩
    ·have aU:Hid (g (j+1)=(λi=>if i=j then(f (g j).2 (low+x)).1 else(g j).1 i,(f (g j).2 (low+x)).2)):=by show _=_;rw[P.out,if_neg Y]
     have aT:(p:Int)<=(low:Int)+(x:Int):=by omega
     have bn:(0:Int)<=(low:Int)+(x:Int):=by omega
     rcases L.out with⟨ax,ai⟩|⟨ax,ai⟩;have aV:((d:Int)==1)=true:=by rw[beq_iff_eq];omega
     rotate_left;have aV:((d:Int)==1)=false:=by rw[hX];omega
     all_goals
      have aj:=ai wr _ C.ma F.1 (by rw[F.2];exact aI.2) (low+x) (by omega);rw[Int.natCast_add] at aj;have ay:=vl aj;clear W C Y P F L ai aj ax;generalize (f (g j).2 (low+x)).1=aW at *;generalize (f (g j).2 (low+x)).2=bo at *;generalize (g j).1 j=old at *;go_wp2_with (first|(go_at_call 176;refine(K _).mono ?_;rintro e U ⟨rfl,u⟩;have v:=u.symm;subst v)|(go_at_call 134;refine ay.mono ?_;rintro e ah ⟨rfl,z,B⟩;have G:=N.2.call z B;obtain⟨y5,aX⟩:=G.cell j O;have az:=vl G;clear G z B)|(go_at_call 136;refine ay.mono ?_;rintro e ah ⟨rfl,z,B⟩;have G:=N.2.call z B;obtain⟨y5,aX⟩:=G.cell j O;have az:=vl G;clear G z B))
      go_roundg (64-(j+1))
      case measure=>rw[N.out.1];omega
      case rel=>
       refine⟨j+1,rfl,by omega,by go_num,?_⟩;rw[aU.out];exact az.set j O aW
   ·have aR:(64:Int)<=(j:Int):=by omega
    have e:j=64:=by omega
    subst e;have aY:=vl (zFz wr b _ C.arr);have aZ:=vl (zL2 (g 64).1);have a0:Hid (Ca 179 #[pX o,agg (a64 (g 64).1)] wr λe w'=>e=returned (iX (zFF most (g 64)).1)/\MwIs r w' o kb most (zFF most (g 64)).2/\StayT wr w'):=zFI r wr o kb most _ C.ma ak (by have:=F.1.same;have:=F.1.few;omega) (by have:=F.1.few;omega) _;clear W C F L;generalize (a64 (g 64).1)=a1 at *;generalize zFF most (g 64)=bp at *;go_wp2_with (first|(refine wpList_load_mid rfl 246 (.tmp 9) rfl b 0 rfl a1.toList (.array 64 3) aY underlying246 rfl aZ ?_)|(go_at_call 179;refine a0.mono ?_;rintro e ah ⟨rfl,z,B⟩))
    go_ret;exact⟨by rw[M.out];rfl,by rw[M.out];exact z,N.2.stay.trans B⟩
theorem zDt (b w:World)(d kb most:Nat)(m:Mk)(l:MwIs b w d kb most m)(o:most<=1000000)(fit:m.Fit most)(k:Kd)(a:Ar)(f:KdAt b kb a k)(ok:k.Ok a)(kind:Nat)(g:kind<k.rows.length)(p:m.of.length=k.rows.length)(low:Nat)(q:low<=1410000):Calls prog 136 #[pX d,iX (kind:Int),iX (low:Int),iX 1] w λe w'=>e=returned (iX (yX k a most kind 0 m low).1)/\MwIs b w' d kb most (yX k a most kind 0 m low).2/\StayT w w':=
 zBD b w d kb most m l o fit k a f ok kind g p low q 0 1 1 0 (.inl rfl) (by decide) rfl rfl _ rfl (λm c r=>⟨r,rfl⟩) (.inl ⟨rfl,λwr m2 i _ s c _=>(zCR b wr d kb most m2 i k a f ok kind g s (c:Int)).mono (by rintro e w2 ⟨rfl,j⟩;exact⟨rfl,i.grown j,j.stayT⟩)⟩)
theorem zDs (b w:World)(d kb most:Nat)(m:Mk)(j:MwIs b w d kb most m)(f:most<=1000000)(fit:m.Fit most)(k:Kd)(a:Ar)(g:KdAt b kb a k)(ok:k.Ok a)(kind:Nat)(i:kind<k.rows.length)(l:m.of.length=k.rows.length)(low:Nat)(r:low<=1400000):Calls prog 136 #[pX d,iX (kind:Int),iX (low:Int),iX 64] w λe w'=>e=returned (iX (yX k a most kind 1 m low).1)/\MwIs b w' d kb most (yX k a most kind 1 m low).2/\StayT w w':=
 zBD b w d kb most m j f fit k a g ok kind i l low (by omega) 1 64 2 1 (.inr (.inl rfl)) (by decide) rfl rfl _ rfl (zAM k a most kind 0) (.inr ⟨by decide,λwr m2 o p q c s=>zDt b wr d kb most m2 o f p k a g ok kind i q c (by omega)⟩)
theorem zG1 (b w:World)(d kb most:Nat)(m:Mk)(j:MwIs b w d kb most m)(f:most<=1000000)(fit:m.Fit most)(k:Kd)(a:Ar)(g:KdAt b kb a k)(ok:k.Ok a)(kind:Nat)(i:kind<k.rows.length)(l:m.of.length=k.rows.length)(low:Nat)(r:low<=1100000):Calls prog 136 #[pX d,iX (kind:Int),iX (low:Int),iX 4096] w λe w'=>e=returned (iX (yX k a most kind 2 m low).1)/\MwIs b w' d kb most (yX k a most kind 2 m low).2/\StayT w w':=
 zBD b w d kb most m j f fit k a g ok kind i l low (by omega) 2 4096 3 64 (.inr (.inr rfl)) (by decide) rfl rfl _ rfl (zAM k a most kind 1) (.inr ⟨by decide,λwr m2 o p q c s=>zDs b wr d kb most m2 o f p k a g ok kind i q c (by omega)⟩)
def Grows (sub:Mk->Nat->Int×Mk):Prop:=∀m c,m.next.length<=(sub m c).2.next.length
theorem zEV (m:Mk)(most:Nat)(r:Int):m.next.length<=(m.add most r).next.length:=by
 unfold Mk.add;split
 ·exact lQ
 ·show _<=(m.next++[zeros]).length;simp
theorem zFG (m:Mk)(most:Nat)(f:Nat->Int):m.next.length<=(m.withM most f).next.length:=by
 unfold Mk.withM;split
 ·exact lQ
 ·split
  ·exact lQ
  ·split
   ·exact zEV _ _ _
   ·rw[zCb];exact zEV _ _ _
theorem zLs (most c:Nat):∀(m:Mk) (to:Int),m.next.length<=(Mk.even most c m to).2.next.length:=by
 induction c with
 |zero=>exact λm to=>lQ
 |succ c a=>exact λm to=>lY (zFG m most λ_=>to) (a _ _)
theorem zMC {a:Mk->Nat->Int×Mk}(c:Grows a)(step low:Nat)(m:Mk)(j:Nat):m.next.length<=(qQ a step low m j).2.next.length:=by
 induction j with
 |zero=>exact lQ
 |succ j b=>
  unfold qQ;split
  ·exact b
  ·exact lY b (c _ _)
theorem zDr (k:Kd)(a:Ar)(most kind cnt step:Nat){b:Mk->Nat->Int×Mk}(c:Grows b):Grows (zA1 k a most kind cnt step b):=by
 intro m low;unfold zA1;split
 ·exact zLs _ _ _ _
 ·exact lY (zMC c step low m 64) (zFG _ _ _)
theorem zA0 (k:Kd)(a:Ar)(most kind l:Nat):Grows (yX k a most kind l):=by
 induction l with
 |zero=>exact zDr k a most kind 1 1 λm c=>lQ
 |succ l b=>exact zDr k a most kind (l+2) (jA (l+2)) b
def vW (sub:Mk->Nat->Int×Mk)(s lo:Nat)(m:Mk):Nat->Mk
 |0=>m
 |j+1=>(sub (vW sub s lo m j) (lo+j)).2.put s (lo+j) (sub (vW sub s lo m j) (lo+j)).1
theorem zBj {most:Nat}{a:Mk->Nat->Int×Mk}(e:Tame most a)(g:Grows a)(s b:Nat){m:Mk}(f:m.Fit most)(j:Nat):(vW a s b m j).Fit most/\(vW a s b m j).of=m.of/\m.next.length<=(vW a s b m j).next.length:=by
 induction j with
 |zero=>exact⟨f,rfl,lQ⟩
 |succ j c=>
  have d:=e (vW a s b m j) (b+j) c.1;refine⟨zLV d.1 _ _ _,d.2.trans c.2.1,?_⟩;show _<=((a (vW a s b m j) (b+j)).2.put s (b+j) _).next.length
  rw[zD0];exact lY c.2.2 (g _ _)
theorem zBw {most s a:Nat}{b:Mk->Nat->Int×Mk}(f:Tame most b)(g:Grows b){c m:Mk}(e:c.Fit most/\c.of=m.of/\m.next.length<=c.next.length)(i:s<m.next.length)(j:Nat):(vW b s a c j).Fit most/\(vW b s a c j).of=m.of/\s<(vW b s a c j).next.length/\s<(b (vW b s a c j) (a+j)).2.next.length/\(b (vW b s a c j) (a+j)).2.of=m.of:=by
 have d:=zBj f g s a e.1 j;have h:=f _ (a+j) d.1;have k:=g (vW b s a c j) (a+j);exact⟨d.1,d.2.1.trans e.2.1,by omega,by omega,h.2.trans (d.2.1.trans e.2.1)⟩
def zFj (k:Kd)(a:Ar)(kind:Nat)(m:Mk)(b:Nat):Int×Mk:=(m.behind k a kind (b:Int),m)
def zDU (k:Kd)(a:Ar)(most kind:Nat)(m:Mk)(b:Nat):Int×Mk:=yX k a most kind 0 m ((b-192)*64)
def zDT (k:Kd)(a:Ar)(most kind:Nat)(m:Mk)(b:Nat):Int×Mk:=yX k a most kind 1 m ((b-224)*4096)
def zDS (k:Kd)(a:Ar)(most kind:Nat)(m:Mk)(b:Nat):Int×Mk:=yX k a most kind 2 m ((b-240)*262144)
theorem zCZ (k:Kd)(a:Ar)(most kind:Nat):Tame most (zFj k a kind)/\Grows (zFj k a kind):=⟨λm c b=>⟨b,rfl⟩,λm c=>lQ⟩
theorem zCY (k:Kd)(a:Ar)(most kind:Nat):Tame most (zDU k a most kind)/\Grows (zDU k a most kind):=⟨λm c b=>by unfold zDU;exact zAM k a most kind 0 m _ b,λm c=>by unfold zDU;exact zA0 k a most kind 0 m _⟩
theorem zCX (k:Kd)(a:Ar)(most kind:Nat):Tame most (zDT k a most kind)/\Grows (zDT k a most kind):=⟨λm c b=>by unfold zDT;exact zAM k a most kind 1 m _ b,λm c=>by unfold zDT;exact zA0 k a most kind 1 m _⟩
theorem zCW (k:Kd)(a:Ar)(most kind:Nat):Tame most (zDS k a most kind)/\Grows (zDS k a most kind):=⟨λm c b=>by unfold zDS;exact zAM k a most kind 2 m _ b,λm c=>by unfold zDS;exact zA0 k a most kind 2 m _⟩
def zEg (k:Kd)(a:Ar)(kind s:Nat)(m:Mk):Mk:=vW (zFj k a kind) s 0 m 128
def zEf (k:Kd)(a:Ar)(most kind s:Nat)(m:Mk):Mk:=vW (zDU k a most kind) s 194 (zEg k a kind s m) 30
def zEe (k:Kd)(a:Ar)(most kind s:Nat)(m:Mk):Mk:=vW (zDT k a most kind) s 224 (zEf k a most kind s m) 16
def zCm (k:Kd)(a:Ar)(most kind s:Nat)(m:Mk):Mk:=vW (zDS k a most kind) s 240 (zEe k a most kind s m) 5
theorem zGz (k:Kd)(a:Ar){most:Nat}(kind s:Nat){m:Mk}(b:m.Fit most):(zEg k a kind s m).Fit most/\(zEg k a kind s m).of=m.of/\m.next.length<=(zEg k a kind s m).next.length:=zBj (zCZ k a most kind).1 (zCZ k a most kind).2 s 0 b 128
theorem zGy (k:Kd)(a:Ar){most:Nat}(kind s:Nat){m:Mk}(d:m.Fit most):(zEf k a most kind s m).Fit most/\(zEf k a most kind s m).of=m.of/\m.next.length<=(zEf k a most kind s m).next.length:=by
 have b:=zGz k a kind s d;have c:=zBj (zCY k a most kind).1 (zCY k a most kind).2 s 194 b.1 30;exact⟨c.1,c.2.1.trans b.2.1,lY b.2.2 c.2.2⟩
theorem zGx (k:Kd)(a:Ar){most:Nat}(kind s:Nat){m:Mk}(d:m.Fit most):(zEe k a most kind s m).Fit most/\(zEe k a most kind s m).of=m.of/\m.next.length<=(zEe k a most kind s m).next.length:=by
 have b:=zGy k a kind s d;have c:=zBj (zCX k a most kind).1 (zCX k a most kind).2 s 224 b.1 16;exact⟨c.1,c.2.1.trans b.2.1,lY b.2.2 c.2.2⟩
theorem zLr (k:Kd)(a:Ar){most:Nat}(kind s:Nat){m:Mk}(d:m.Fit most):(zCm k a most kind s m).Fit most/\(zCm k a most kind s m).of=m.of/\m.next.length<=(zCm k a most kind s m).next.length:=by
 have b:=zGx k a kind s d;have c:=zBj (zCW k a most kind).1 (zCW k a most kind).2 s 240 b.1 5;exact⟨c.1,c.2.1.trans b.2.1,lY b.2.2 c.2.2⟩
theorem zLo (d w:World)(c kb most:Nat)(m:Mk)(E:MwIs d w c kb most m)(af:most<=1000000)(fit:m.Fit most)(k:Kd)(a:Ar)(ad:KdAt d kb a k)(ok:k.Ok a)(kind s:Nat)(ab:kind<k.rows.length)(ac:m.of.length=k.rows.length)(aq:m.of.getD kind 0=(s:Int))(ae:s<m.next.length):
  Calls prog 97 #[pX c,iX (kind:Int)] w λe w'=>e=returned (tuple #[])/\MwIs d w' c kb most (zCm k a most kind s m)/\StayT w w':=by
 have aC:Hid (MwIs d w c kb most m):=E;have ag:Hid (∀wr m2,MwIs d wr c kb most m2->m2.of=m.of->s<m2.next.length->∀b:Nat,b<256->∀x:Int,Ca 135 #[pX c,iX (kind:Int),iX (b:Int),iX x] wr λe w'=>e=returned (tuple #[])/\MwIs d w' c kb most (m2.put s b x)/\StayT wr w'):=λwr m2 f l aD b i x=>zLd d wr c kb most m2 f kind b s (by rw[l,ac];exact ab) (by rw[l];exact aq) aD i x;have aE:Hid (∀wr m2,MwIs d wr c kb most m2->m2.Fit most->m2.of=m.of->∀b:Nat,0<=b->b<=127->∀y:Int,y=(b:Int)->Ca 134 #[pX c,iX (kind:Int),iX y] wr λe w'=>e=returned (iX (zFj k a kind m2 b).1)/\MwIs d w' c kb most (zFj k a kind m2 b).2/\StayT wr w'):=by
  intro wr m2 f z l b al am y K;subst K;refine(zCR d wr c kb most m2 f k a ad ok kind ab (by rw[l];exact ac) (b:Int)).mono ?_;rintro e w2 ⟨rfl,ar⟩;exact⟨rfl,f.grown ar,ar.stayT⟩
 have aF:Hid (∀wr m2,MwIs d wr c kb most m2->m2.Fit most->m2.of=m.of->∀b:Nat,194<=b->b<=223->∀y:Int,y=((b:Int)-192)*64->Ca 136 #[pX c,iX (kind:Int),iX y,iX 1] wr λe w'=>e=returned (iX (zDU k a most kind m2 b).1)/\MwIs d w' c kb most (zDU k a most kind m2 b).2/\StayT wr w'):=by
  intro wr m2 f z l b al am y K;rw[K,show((b:Int)-192)*64=(((b-192)*64:Nat):Int) by omega];exact zDt d wr c kb most m2 f af z k a ad ok kind ab (by rw[l];exact ac) _ (by omega)
 have aG:Hid (∀wr m2,MwIs d wr c kb most m2->m2.Fit most->m2.of=m.of->∀b:Nat,224<=b->b<=239->∀y:Int,y=((b:Int)-224)*4096->Ca 136 #[pX c,iX (kind:Int),iX y,iX 64] wr λe w'=>e=returned (iX (zDT k a most kind m2 b).1)/\MwIs d w' c kb most (zDT k a most kind m2 b).2/\StayT wr w'):=by
  intro wr m2 f z l b al am y K;rw[K,show((b:Int)-224)*4096=(((b-224)*4096:Nat):Int) by omega];exact zDs d wr c kb most m2 f af z k a ad ok kind ab (by rw[l];exact ac) _ (by omega)
 have aH:Hid (∀wr m2,MwIs d wr c kb most m2->m2.Fit most->m2.of=m.of->∀b:Nat,240<=b->b<=244->∀y:Int,y=((b:Int)-240)*262144->Ca 136 #[pX c,iX (kind:Int),iX y,iX 4096] wr λe w'=>e=returned (iX (zDS k a most kind m2 b).1)/\MwIs d w' c kb most (zDS k a most kind m2 b).2/\StayT wr w'):=by
  intro wr m2 f z l b al am y K;rw[K,show((b:Int)-240)*262144=(((b-240)*262144:Nat):Int) by omega];exact zG1 d wr c kb most m2 f af z k a ad ok kind ab (by rw[l];exact ac) _ (by omega)
 obtain⟨o,au⟩:∃L,L=vW (zFj k a kind) s 0 (m):=⟨_,rfl⟩
 have ah:Hid (o 0=m/\o 128=zEg k a kind s m/\(∀j,o (j+1)=((zFj k a kind) (o j) (0+j)).2.put s (0+j) ((zFj k a kind) (o j) (0+j)).1)/\∀j,(o j).Fit most/\(o j).of=m.of/\s<(o j).next.length/\s<((zFj k a kind) (o j) (0+j)).2.next.length/\((zFj k a kind) (o j) (0+j)).2.of=m.of):=by
  rw[au];exact⟨rfl,rfl,λj=>rfl,zBw (zCZ k a most kind).1 (zCZ k a most kind).2 ⟨fit,rfl,lQ⟩ ae⟩
 clear au;obtain⟨p,av⟩:∃L,L=vW (zDU k a most kind) s 194 (zEg k a kind s m):=⟨_,rfl⟩
 have ai:Hid (p 0=zEg k a kind s m/\p 30=zEf k a most kind s m/\(∀j,p (j+1)=((zDU k a most kind) (p j) (194+j)).2.put s (194+j) ((zDU k a most kind) (p j) (194+j)).1)/\∀j,(p j).Fit most/\(p j).of=m.of/\s<(p j).next.length/\s<((zDU k a most kind) (p j) (194+j)).2.next.length/\((zDU k a most kind) (p j) (194+j)).2.of=m.of):=by
  rw[av];exact⟨rfl,rfl,λj=>rfl,zBw (zCY k a most kind).1 (zCY k a most kind).2 (zGz k a kind s fit) ae⟩
 clear av;obtain⟨r,aw⟩:∃L,L=vW (zDT k a most kind) s 224 (zEf k a most kind s m):=⟨_,rfl⟩
 have aj:Hid (r 0=zEf k a most kind s m/\r 16=zEe k a most kind s m/\(∀j,r (j+1)=((zDT k a most kind) (r j) (224+j)).2.put s (224+j) ((zDT k a most kind) (r j) (224+j)).1)/\∀j,(r j).Fit most/\(r j).of=m.of/\s<(r j).next.length/\s<((zDT k a most kind) (r j) (224+j)).2.next.length/\((zDT k a most kind) (r j) (224+j)).2.of=m.of):=by
  rw[aw];exact⟨rfl,rfl,λj=>rfl,zBw (zCX k a most kind).1 (zCX k a most kind).2 (zGy k a kind s fit) ae⟩
 clear aw;obtain⟨t,ax⟩:∃L,L=vW (zDS k a most kind) s 240 (zEe k a most kind s m):=⟨_,rfl⟩
 have ak:Hid (t 0=zEe k a most kind s m/\t 5=zCm k a most kind s m/\(∀j,t (j+1)=((zDS k a most kind) (t j) (240+j)).2.put s (240+j) ((zDS k a most kind) (t j) (240+j)).1)/\∀j,(t j).Fit most/\(t j).of=m.of/\s<(t j).next.length/\s<((zDS k a most kind) (t j) (240+j)).2.next.length/\((zDS k a most kind) (t j) (240+j)).2.of=m.of):=by
  rw[ax];exact⟨rfl,rfl,λj=>rfl,zBw (zCW k a most kind).1 (zCW k a most kind).2 (zGx k a kind s fit) ae⟩
 clear ax;clear E fit ad ok ab ac aq ae af;generalize aI:zFj k a kind=G at *;clear aI;generalize aJ:zDU k a most kind=H at *;clear aJ;generalize aK:zDT k a most kind=I at *;clear aK;generalize aL:zDS k a most kind=J at *;clear aL;generalize aM:zEg k a kind s m=aN at *;clear aM;generalize aO:zEf k a most kind s m=aP at *;clear aO;generalize aQ:zEe k a most kind s m=aR at *;clear aQ;generalize aS:zCm k a most kind s m=aT at *;clear aS;go_enter func97,ntmps97
 go_wp2_with fail;go_loopg [4] 128 (λq v wr=>∃j b:Nat,q=128-j/\j<=128/\b=0+j/\v=iX (b:Int)/\MwIs d wr c kb most (o j)/\StayT w wr)
 case atStart=>exact⟨0,0,rfl,lX,rfl,rfl,by rw[ah.out.1];exact aC,StayT.refl _⟩
 case round=>
  obtain⟨j,b,A,M,i,rfl,f,u⟩:=hrel;have B:Hid (gk=128-j/\MwIs d wr c kb most (o j)/\StayT w wr):=⟨A,f,u⟩
  by_cases N:j<128
  ·have O:(b:Int)<128:=by omega
   have an:(b:Int)<256:=by omega
   obtain⟨z,l,P,C,D⟩:=ah.2.2.2 j;have Q:Hid (∀y:Int,y=(b:Int)->Ca 134 #[pX c,iX (kind:Int),iX y] wr λe w'=>e=returned (iX (G (o j) b).1)/\MwIs d w' c kb most (G (o j) b).2/\StayT wr w'):=aE wr _ f z l b (by omega) (by omega);have R:Hid (o (j+1)=(G (o j) b).2.put s b (G (o j) b).1):=by have E:=ah.2.2.1 j;rw[<-i] at E;exact E
   rw[<-i] at C D;have S:Hid (∀g,MwIs d g c kb most (G (o j) b).2->∀x:Int,Ca 135 #[pX c,iX (kind:Int),iX (b:Int),iX x] g λe w'=>e=returned (tuple #[])/\MwIs d w' c kb most ((G (o j) b).2.put s b x)/\StayT g w'):=λg T x=>ag g _ T D C b (by omega) x;have U:Hid (b=0+j):=i;clear A f u z l P C D i;generalize (G (o j) b).1=V at *;generalize (G (o j) b).2=ao at *;go_wp2_with (first|(go_at_call 134;refine(Q _ (by omega)).mono ?_;rintro e g ⟨rfl,W,X⟩)|(go_at_call 135;refine(S g W V).mono ?_;rintro e ap ⟨rfl,Y,aa⟩))
   go_roundg (128-(j+1))
   case measure=>rw[B.out.1];omega
   case rel=>exact⟨j+1,b+1,rfl,by omega,by have:=U.out;omega,by go_num,by rw[R.out];exact Y,(B.2.2.trans X).trans aa⟩
  ·have O:128<=(b:Int):=by omega
   have F:j=128:=by omega
   have ay:Hid (MwIs d wr c kb most aN/\StayT w wr):=by
    rw[F,ah.out.2.1] at f;exact⟨f,u⟩
   clear A f u B F N M i;go_wp2_with fail;go_loopg [6] 30 (λq v wr=>∃j b:Nat,q=30-j/\j<=30/\b=194+j/\v=iX (b:Int)/\MwIs d wr c kb most (p j)/\StayT w wr)
   case atStart=>exact⟨0,194,rfl,lX,rfl,rfl,by rw[ai.out.1];exact ay.1,ay.2⟩
   case round=>
    obtain⟨j,b,A,M,i,rfl,f,u⟩:=hrel;have B:Hid (gk=30-j/\MwIs d wr c kb most (p j)/\StayT w wr):=⟨A,f,u⟩
    by_cases N:j<30
    ·have O:(b:Int)<=223:=by omega
     have an:(b:Int)<256:=by omega
     obtain⟨z,l,P,C,D⟩:=ai.2.2.2 j;have Q:Hid (∀y:Int,y=((b:Int)-192)*64->Ca 136 #[pX c,iX (kind:Int),iX y,iX 1] wr λe w'=>e=returned (iX (H (p j) b).1)/\MwIs d w' c kb most (H (p j) b).2/\StayT wr w'):=aF wr _ f z l b (by omega) (by omega);have R:Hid (p (j+1)=(H (p j) b).2.put s b (H (p j) b).1):=by have E:=ai.2.2.1 j;rw[<-i] at E;exact E
     rw[<-i] at C D;have S:Hid (∀g,MwIs d g c kb most (H (p j) b).2->∀x:Int,Ca 135 #[pX c,iX (kind:Int),iX (b:Int),iX x] g λe w'=>e=returned (tuple #[])/\MwIs d w' c kb most ((H (p j) b).2.put s b x)/\StayT g w'):=λg T x=>ag g _ T D C b (by omega) x;have U:Hid (b=194+j):=i;clear A f u z l P C D i;generalize (H (p j) b).1=V at *;generalize (H (p j) b).2=ao at *;go_wp2_with (first|(go_at_call 136;refine(Q _ (by omega)).mono ?_;rintro e g ⟨rfl,W,X⟩)|(go_at_call 135;refine(S g W V).mono ?_;rintro e ap ⟨rfl,Y,aa⟩))
     go_roundg (30-(j+1))
     case measure=>rw[B.out.1];omega
     case rel=>exact⟨j+1,b+1,rfl,by omega,by have:=U.out;omega,by go_num,by rw[R.out];exact Y,(B.2.2.trans X).trans aa⟩
    ·have O:223<(b:Int):=by omega
     have F:j=30:=by omega
     have az:Hid (MwIs d wr c kb most aP/\StayT w wr):=by
      rw[F,ai.out.2.1] at f;exact⟨f,u⟩
     clear A f u B F N M i;go_wp2_with fail;go_loopg [8] 16 (λq v wr=>∃j b:Nat,q=16-j/\j<=16/\b=224+j/\v=iX (b:Int)/\MwIs d wr c kb most (r j)/\StayT w wr)
     case atStart=>exact⟨0,224,rfl,lX,rfl,rfl,by rw[aj.out.1];exact az.1,az.2⟩
     case round=>
      obtain⟨j,b,A,M,i,rfl,f,u⟩:=hrel;have B:Hid (gk=16-j/\MwIs d wr c kb most (r j)/\StayT w wr):=⟨A,f,u⟩
      by_cases N:j<16
      ·have O:(b:Int)<=239:=by omega
       have an:(b:Int)<256:=by omega
       obtain⟨z,l,P,C,D⟩:=aj.2.2.2 j;have Q:Hid (∀y:Int,y=((b:Int)-224)*4096->Ca 136 #[pX c,iX (kind:Int),iX y,iX 64] wr λe w'=>e=returned (iX (I (r j) b).1)/\MwIs d w' c kb most (I (r j) b).2/\StayT wr w'):=aG wr _ f z l b (by omega) (by omega);have R:Hid (r (j+1)=(I (r j) b).2.put s b (I (r j) b).1):=by have E:=aj.2.2.1 j;rw[<-i] at E;exact E
       rw[<-i] at C D;have S:Hid (∀g,MwIs d g c kb most (I (r j) b).2->∀x:Int,Ca 135 #[pX c,iX (kind:Int),iX (b:Int),iX x] g λe w'=>e=returned (tuple #[])/\MwIs d w' c kb most ((I (r j) b).2.put s b x)/\StayT g w'):=λg T x=>ag g _ T D C b (by omega) x;have U:Hid (b=224+j):=i;clear A f u z l P C D i;generalize (I (r j) b).1=V at *;generalize (I (r j) b).2=ao at *;go_wp2_with (first|(go_at_call 136;refine(Q _ (by omega)).mono ?_;rintro e g ⟨rfl,W,X⟩)|(go_at_call 135;refine(S g W V).mono ?_;rintro e ap ⟨rfl,Y,aa⟩))
       go_roundg (16-(j+1))
       case measure=>rw[B.out.1];omega
       case rel=>exact⟨j+1,b+1,rfl,by omega,by have:=U.out;omega,by go_num,by rw[R.out];exact Y,(B.2.2.trans X).trans aa⟩
      ·have O:239<(b:Int):=by omega
       have F:j=16:=by omega
       have aA:Hid (MwIs d wr c kb most aR/\StayT w wr):=by
        rw[F,aj.out.2.1] at f;exact⟨f,u⟩
       clear A f u B F N M i;go_wp2_with fail;go_loopg [10] 5 (λq v wr=>∃j b:Nat,q=5-j/\j<=5/\b=240+j/\v=iX (b:Int)/\MwIs d wr c kb most (t j)/\StayT w wr)
       case atStart=>exact⟨0,240,rfl,lX,rfl,rfl,by rw[ak.out.1];exact aA.1,aA.2⟩
       case round=>
        obtain⟨j,b,A,M,i,rfl,f,u⟩:=hrel;have B:Hid (gk=5-j/\MwIs d wr c kb most (t j)/\StayT w wr):=⟨A,f,u⟩
        by_cases N:j<5
        ·have O:(b:Int)<=244:=by omega
         have an:(b:Int)<256:=by omega
         obtain⟨z,l,P,C,D⟩:=ak.2.2.2 j;have Q:Hid (∀y:Int,y=((b:Int)-240)*262144->Ca 136 #[pX c,iX (kind:Int),iX y,iX 4096] wr λe w'=>e=returned (iX (J (t j) b).1)/\MwIs d w' c kb most (J (t j) b).2/\StayT wr w'):=aH wr _ f z l b (by omega) (by omega);have R:Hid (t (j+1)=(J (t j) b).2.put s b (J (t j) b).1):=by have E:=ak.2.2.1 j;rw[<-i] at E;exact E
         rw[<-i] at C D;have S:Hid (∀g,MwIs d g c kb most (J (t j) b).2->∀x:Int,Ca 135 #[pX c,iX (kind:Int),iX (b:Int),iX x] g λe w'=>e=returned (tuple #[])/\MwIs d w' c kb most ((J (t j) b).2.put s b x)/\StayT g w'):=λg T x=>ag g _ T D C b (by omega) x;have U:Hid (b=240+j):=i;clear A f u z l P C D i;generalize (J (t j) b).1=V at *;generalize (J (t j) b).2=ao at *;go_wp2_with (first|(go_at_call 136;refine(Q _ (by omega)).mono ?_;rintro e g ⟨rfl,W,X⟩)|(go_at_call 135;refine(S g W V).mono ?_;rintro e ap ⟨rfl,Y,aa⟩))
         go_roundg (5-(j+1))
         case measure=>rw[B.out.1];omega
         case rel=>exact⟨j+1,b+1,rfl,by omega,by have:=U.out;omega,by go_num,by rw[R.out];exact Y,(B.2.2.trans X).trans aa⟩
        ·have O:244<(b:Int):=by omega
         have F:j=5:=by omega
         have aB:Hid (MwIs d wr c kb most aT/\StayT w wr):=by
          rw[F,ak.out.2.1] at f;exact⟨f,u⟩
         clear A f u B F N M i;go_wp2_with fail;go_end0;exact⟨rfl,aB.1,aB.2⟩
end Go.Proofs.YtbjcfkdnjaiclaaGreat
