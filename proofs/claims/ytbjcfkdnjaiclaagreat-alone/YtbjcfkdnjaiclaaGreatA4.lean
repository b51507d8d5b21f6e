import Derived.Deep.DrawnRows
import Derived.Deep.MidRow
import Derived.Deep.RegionLaw
import Derived.Test.YtbjcfkdnjaiclaaGreatA0
import Derived.Test.YtbjcfkdnjaiclaaGreatA3
/- Parts of the proof. -/
set_option linter.unusedVariables false
set_option linter.unusedSimpArgs false
set_option maxHeartbeats 4000000
set_option maxRecDepth 100000
namespace Go.Proofs.YtbjcfkdnjaiclaaGreat
open Go.RowKit Go.Proofs.Tryz Go.World
open Go.Value (int slice bool pointer string agg tuple)
open Go.IntKind (i64)
open Go.Ending (returned)
section
def zNe (f:Nat->Nat):Nat->Nat
 |0=>0
 |n+1=>zNe f n|||f n
theorem zNd (f:Nat->Nat)(k:Nat)(h:∀i,f i<16777216)(n:Nat):zNe f n<16777216:=by
 induction n with
 |zero=>show 0<16777216;omega
 |succ n ih=>exact Nat.or_lt_two_pow (n:=24) ih (h n)
def spG (by_:List Nat)(i p:Nat):Nat:=if p/8=i/256 then(if (i%256).testBit (p%8) then by_.getD p 0 else 0) else 0
def spF (by_:List Nat)(n i:Nat):Nat:=zNe (spG by_ i) n
theorem zNY (by_:List Nat)(hs:∀x∈by_,x<16777216)(i p:Nat):spG by_ i p<16777216:=by
 unfold spG;split
 ·split
  ·by_cases h:p<by_.length
   ·exact hs _ (zS _ _ 0 h)
   ·rw[lW,List.getElem?_eq_none (by omega)];show 0<16777216;omega
  ·omega
 ·omega
theorem zLW (by_:List Nat)(hs:∀x∈by_,x<16777216)(n i:Nat):spF by_ n i<16777216:=zNd _ 0 (zNY by_ hs i) n
theorem zHL (by_:List Nat)(n i:Nat):spF by_ (n+1) i=spF by_ n i|||spG by_ i n:=rfl
theorem zIO:zeroCells208=((List.range 768).map fun _=>Value.int i64 0).toArray:=by kernel_rfl
def SpAt (w:World)(f:Nat)(c:Nat->Nat):Prop:=∃cs:Array Value,w.heap[f]? =some (.cells cs 208)∧∀i,i<768->cs[i]? =some (int i64 ((c i:Nat):Int))
section
variable {w w2:World} {f:Nat} {c:Nat->Nat}
theorem SpAt.cell (h:SpAt w f c)(i:Nat)(hi:i<768):w.cell? ⟨f,i,none⟩=some (int i64 ((c i:Nat):Int))∧w.frozen? ⟨f,i,none⟩=false:=by
 obtain⟨cs,hb,hc⟩:=h
 constructor
 ·unfold cell?;rw[hb];exact hc i hi
 ·unfold frozen?;rw[hb];simp
theorem SpAt.lt (h:SpAt w f c):f<w.heap.size:=by
 obtain⟨cs,hb,_⟩:=h;exact(kQ.1 hb).1
theorem SpAt.set (h:SpAt w f c)(i x:Nat):SpAt (w.setCell ⟨f,i,none⟩ (int i64 (x:Int))) f (fun j=>if j=i then x else c j):=by
 obtain⟨cs,hb,hc⟩:=h;refine⟨cs.setIfInBounds i (int i64 (x:Int)),by simp[setCell,lU,hb],fun j hj=>?_⟩;have h1:=hc j hj;rw[Array.getElem?_setIfInBounds];by_cases e:i=j
 ·subst e
  have:=(kQ.1 h1).1;simp[this]
 ·rw[if_neg e,h1]
  simp[Ne.symm e]
theorem SpAt.congr {c':Nat->Nat}(h:SpAt w f c)(e:∀i,i<768->c i=c' i):SpAt w f c':=by
 obtain⟨cs,hb,hc⟩:=h;exact⟨cs,hb,fun i hi=>by rw[<-e i hi];exact hc i hi⟩
theorem SpAt.keep (h:SpAt w f c)(e:w2.heap[f]? =w.heap[f]?):SpAt w2 f c:=by
 obtain⟨cs,hb,hc⟩:=h;exact⟨cs,e.trans hb,hc⟩
end
theorem zHr (w:World):SpAt (w.alloc (Obj.cells zeroCells208 208)) w.heap.size (fun _=>0):=by
 refine⟨_,gJ _ _,fun i hi=>?_⟩;rw[zIO];simp[hi]
theorem zBz (w:World)(v:Value)(by_:List Nat)(hB:Ints w (In w) v (ints by_))(hn:by_.length<=24)(hs:∀x∈by_,x<16777216):
  Calls prog 128 #[v] w fun e w'=>e=returned (pointer (some ⟨w.heap.size,0,none⟩))∧SpAt w' w.heap.size (spF by_ by_.length)∧Grew w w':=by
 obtain⟨ab,cb,rfl,_,_,hbc⟩:=hB;rw[zN] at hbc ⊢;have HBC:Hid (∀i,i<by_.length->∃b o,ab=some ⟨b,o,none⟩∧In w b∧w.cell? ⟨b,o+i,none⟩=some (int i64 ((by_.getD i 0:Nat):Int))∧by_.getD i 0<16777216):=by
  intro i hi;obtain⟨b,o,h1,h2,h3⟩:=hbc i hi;rw[vI] at h3;exact⟨b,o,h1,h2,h3,hs _ (zS _ _ 0 hi)⟩
 have HSF:=vl <| zLW by_ hs;have HZ:=vl <| zHr w;clear hbc hs;go_in;go_wp2;go_loopg [4] by_.length (fun q i wr=>∃j:Nat,q=by_.length-j∧j<=by_.length∧i=int i64 (j:Int)∧SpAt wr w.heap.size (spF by_ j)∧Grew w wr)
 case atStart=>exact⟨0,rfl,lX,rfl,HZ.out,kZ _ _ lQ⟩
 case round=>
  obtain⟨j,hgk,hj,rfl,hsp,hkp⟩:=hrel;have HA:Hid (gk=by_.length-j∧SpAt wr w.heap.size (spF by_ j)∧Grew w wr):=⟨hgk,hsp,hkp⟩
  by_cases hj2:j<by_.length
  ·have i1:(j:Int)<(by_.length:Int):=by omega
   have i2:(j:Int)<24:=by omega
   obtain⟨b,o,rfl,hb,hc,hlt⟩:=HBC.out j hj2;have HC:=vl hc;clear hgk hsp hkp hc;go_wp2;go_loopg [5] 256 (fun q i wr=>∃s:Nat,q=256-s∧s<=256∧i=int i64 (s:Int)∧SpAt wr w.heap.size (fun i=>if i%256<s then spF by_ (j+1) i else spF by_ j i)∧Grew w wr)
   case atStart=>exact⟨0,rfl,lX,rfl,HA.out.2.1.congr fun i _=>by simp,HA.out.2.2⟩
   case round=>
    obtain⟨s,hgk2,hs,rfl,hsp,hkp⟩:=hrel;have HB:Hid (gk=256-s∧SpAt wr w.heap.size (fun i=>if i%256<s then spF by_ (j+1) i else spF by_ j i)∧Grew w wr):=⟨hgk2,hsp,hkp⟩
    by_cases hs2:s<256
    ·have i3:(s:Int)<256:=by omega
     have y1:wr.cell? ⟨b,o+j,none⟩=some (int i64 ((by_.getD j 0:Nat):Int)):=zA HC.out hb hkp;have hbit:bits .and i64 ((s:Int)/2^(j%8)) 1=((s/2^(j%8)%2:Nat):Int):=by
      rw[zBs];exact zD7 _ (Nat.lt_of_le_of_lt (Nat.div_le_self _ _) (by omega))
     have HT:Hid (s.testBit (j%8)=decide (s/2^(j%8)%2=1)):=Nat.testBit_eq_decide_div_mod_eq;have hI:j/8*256+s<768:=by omega
     obtain⟨y2,z2⟩:=hsp.cell (j/8*256+s) hI;have y3:wr.cell? ⟨w.heap.size,j/8*256+s,none⟩=some (int i64 ((spF by_ j (j/8*256+s):Nat):Int)):=by
      rw[y2,if_neg (by omega)]
     have HGen:Hid (∀i,i<768->(if i%256<s+1 then spF by_ (j+1) i else spF by_ j i)=if i=j/8*256+s then spF by_ j i|||(if s.testBit (j%8) then by_.getD j 0 else 0) else if i%256<s then spF by_ (j+1) i else spF by_ j i):=fun i hi=>by
      by_cases e:i=j/8*256+s
      ·rw[if_pos e,if_pos (by omega),zHL]
       congr 1
       unfold spG;rw[if_pos (by omega),show i%256=s by omega]
      ·rw[if_neg e]
       by_cases e2:i%256<s
       ·rw[if_pos e2,if_pos (by omega)]
       ·rw[if_neg e2]
        by_cases e3:i%256<s+1
        ·rw[if_pos e3,zHL]
         unfold spG;rw[if_neg (by omega),Nat.or_zero]
        ·rw[if_neg e3]
     have hcl:=HSF.out j (j/8*256+s);clear hgk2 hsp hkp y2;cases htb:s.testBit (j%8) with
     |true=>
      have hc1:(bits .and i64 ((s:Int)/2^(j%8)) 1==1)=true:=by
       have h1:=HT.out;rw[htb] at h1;rw[hbit,of_decide_eq_true h1.symm];rfl
      rw[htb] at HGen;have HOR:Hid (bits .or i64 ((spF by_ j (j/8*256+s):Nat):Int) ((by_.getD j 0:Nat):Int)=((spF by_ j (j/8*256+s)|||by_.getD j 0:Nat):Int)):=yO _ _ (by omega) (by omega);clear hbit HT htb;generalize hr:by_.getD j 0=r at *;generalize hc0:spF by_ j (j/8*256+s)=c0 at *;have HC0:Hid (spF by_ j (j/8*256+s)=c0):=hc0;clear hr hc0;have i5:(j:Int)/8<3:=by omega
      have i6:(0:Int)<=(j:Int)/8:=by omega
      go_wp2;go_region;go_wp2;go_roundg (256-(s+1))
      case measure=>rw[HB.out.1];omega
      case rel=>
       refine⟨s+1,rfl,by omega,by go_num,?_,HB.out.2.2.trans (Keep.trans (zO _ _ _ _ lQ) (Keep.drew _))⟩;have h:=HB.out.2.1.set (j/8*256+s) (c0|||r);rw[<-HOR.out] at h;refine SpAt.keep (SpAt.congr h fun i hi=>?_) rfl;show(if i=_ then _ else if _ then _ else _)=if _ then _ else _
       rw[HGen.out i hi];by_cases e:i=j/8*256+s
       ·rw[if_pos e,if_pos e,e,HC0.out];simp
       ·rw[if_neg e,if_neg e]
     |false=>
      have hc1:(bits .and i64 ((s:Int)/2^(j%8)) 1==1)=false:=by
       have h1:=HT.out;rw[htb] at h1;have h2:=of_decide_eq_false h1.symm;rw[hbit,hJ];omega
      rw[htb] at HGen;clear hbit HT htb;go_wp2;go_roundg (256-(s+1))
      case measure=>rw[HB.out.1];omega
      case rel=>
       refine⟨s+1,rfl,by omega,by go_num,?_,HB.out.2.2⟩;refine HB.out.2.1.congr fun i hi=>?_;show(if _ then _ else _)=if _ then _ else _
       rw[HGen.out i hi];by_cases e:i=j/8*256+s
       ·rw[if_pos e,if_neg (by omega),if_neg (by decide),Nat.or_zero]
       ·rw[if_neg e]
    ·have i3:(256:Int)<=(s:Int):=by omega
     have e:s=256:=by omega
     subst e;have HD:Hid (SpAt wr w.heap.size (spF by_ (j+1))):=hsp.congr fun i _=>by rw[if_pos (gY _ (by omega))]
     clear hgk2 hsp hkp;go_wp2;go_roundg (by_.length-(j+1))
     case measure=>rw[HA.out.1];omega
     case rel=>exact⟨j+1,rfl,by omega,by go_num,HD.out,HB.out.2.2⟩
  ·have i1:(by_.length:Int)<=(j:Int):=by omega
   have e:j=by_.length:=by omega
   subst e;clear hgk hsp hkp;go_wp2;go_ret;exact⟨rfl,HA.out.2.1,HA.out.2.2⟩
end
def zAt (c:Nat->Nat)(x:Nat):Nat:=c (x%256)|||c (256+x/256%256)|||c (512+x/65536%256)
theorem zM2 (c:Nat->Nat)(h:∀i,c i<16777216)(x:Nat):zAt c x<16777216:=Nat.or_lt_two_pow (n:=24) (Nat.or_lt_two_pow (n:=24) (h _) (h _)) (h _)
theorem zBH (w:World)(f:Nat)(c:Nat->Nat)(h:SpAt w f c)(hc:∀i,c i<16777216)(x:Nat)(hx:x<16777216):
  Calls prog 92 #[pointer (some ⟨f,0,none⟩),int i64 x] w fun e w'=>e=returned (int i64 ((zAt c x:Nat):Int))∧Grew w w':=by
 have m:∀y:Nat,y<16777216->bits .and i64 (y:Int) 255=((y%256:Nat):Int):=fun y hy=>by
  have:=qB y 255 (by omega) (by omega);rw[show (255:Nat)=2^8-1 from rfl,Nat.and_two_pow_sub_one_eq_mod] at this;exact this
 have m0:=m x hx;have m1:bits .and i64 ((x:Int)/256) 255=((x/256%256:Nat):Int):=by
  have:=m (x/256) (by omega);rw[<-this]
  congr 1
 have m2:bits .and i64 ((x:Int)/65536) 255=((x/65536%256:Nat):Int):=by
  have:=m (x/65536) (by omega);rw[<-this]
  congr 1
 have y0:=(h.cell (x%256) (by omega)).1;have y1:=(h.cell (256+x/256%256) (by omega)).1;have y2:=(h.cell (512+x/65536%256) (by omega)).1;have HV:Hid (zAt c x=c (x%256)|||c (256+x/256%256)|||c (512+x/65536%256)):=rfl;have l0:=hc (x%256);have l1:=hc (256+x/256%256);have l2:=hc (512+x/65536%256);have i0:((x%256:Nat):Int)<256:=by omega
 have i1:((x/256%256:Nat):Int)<256:=by omega
 have i2:((x/65536%256:Nat):Int)<256:=by omega
 clear m hc h;generalize x%256=p0 at *;generalize x/256%256=p1 at *;generalize x/65536%256=p2 at *;generalize c p0=c0 at *;generalize c (256+p1)=c1 at *;generalize c (512+p2)=c2 at *;have o1:=yO c0 c1 (by omega) (by omega);have o2:=yO (c0|||c1) c2 (Nat.lt_trans (Nat.or_lt_two_pow (n:=24) l0 l1) (by omega)) (by omega);rw[<-o1] at o2;have HO:=vl o2;clear o1 o2;go_in;go_wp2;go_quiet (fail);go_wp2;go_ret;refine⟨?_,Keep.alike (w':=w.drewN nq) ⟨rfl,rfl,rfl⟩⟩;rw[HV.out,<-HO.out];rfl
def yT (follow:List Nat)(n q:Nat):Nat:=qQ (fun p=>(follow.getD p 0).testBit q) n
def zCk (follow:List Nat):List Nat:=(List.range follow.length).map (yT follow follow.length)
theorem zDp (follow:List Nat):(zCk follow).length=follow.length:=by simp[zCk]
theorem zKz (follow:List Nat)(q:Nat)(hq:q<follow.length):(zCk follow).getD q 0=yT follow follow.length q:=by
 unfold zCk;rw[lW,gU,List.getElem?_range hq];rfl
theorem zHx (follow:List Nat)(n q:Nat)(hn:n<=24):yT follow n q<16777216:=lZ (zBd _ n) (kG (by omega) hn:2^n<=2^24)
theorem zIR (follow:List Nat)(n q:Nat):yT follow (n+1) q=if(follow.getD n 0).testBit q then yT follow n q|||2^n else yT follow n q:=rfl
theorem zNc (a j:Nat)(hj:j<62)(ha:a<9223372036854775808):bits .or i64 (a:Int) (IntKind.i64.wrap (2^j))=((a|||2^j:Nat):Int):=by
 have h1:2^j<2^62:=Nat.pow_lt_pow_right (by omega) hj;have e:((2:Int)^j)=((2^j:Nat):Int):=by simp
 rw[e];generalize 2^j=z at *;rw[zBS _ (by omega) (by omega)];exact yO _ _ ha (by omega)
theorem zKr (x q:Nat)(hx:x<9223372036854775808):(bits .and i64 ((x:Int)/2^q) 1==1)=x.testBit q:=by
 have hbit:bits .and i64 ((x:Int)/2^q) 1=((x/2^q%2:Nat):Int):=by
  rw[zBs];exact zD7 _ (Nat.lt_of_le_of_lt (Nat.div_le_self _ _) hx)
 have HT:x.testBit q=decide (x/2^q%2=1):=Nat.testBit_eq_decide_div_mod_eq;rw[hbit,HT];by_cases e:x/2^q%2=1
 ·rw[e];rfl
 ·rw[dY e,hJ];omega
theorem zGD (w:World)(v:Value)(fo:List Nat)(hB:Ints w (In w) v (ints fo))(hn:fo.length<=24)(hs:∀x∈fo,x<16777216):
  Calls prog 170 #[v] w fun e w'=>∃u,e=returned u∧Ints w' (In w') u (ints (zCk fo))∧Grew w w':=by
 obtain⟨i0,hi0,hz0,hz1,hz2⟩:=info_parts yL;obtain⟨ab,cb,rfl,_,_,hbc⟩:=hB;rw[zN] at hbc ⊢;have HBC:Hid (∀i,i<fo.length->∃b o,ab=some ⟨b,o,none⟩∧In w b∧w.cell? ⟨b,o+i,none⟩=some (int i64 ((fo.getD i 0:Nat):Int))∧fo.getD i 0<16777216):=by
  intro i hi;obtain⟨b,o,h1,h2,h3⟩:=hbc i hi;rw[vI] at h3;exact⟨b,o,h1,h2,h3,hs _ (zS _ _ 0 hi)⟩
 obtain⟨w1,hmk,ho1,hg1⟩:=run_makeSlice_full (P:=prog) w w.heap.size 45 3 i0 _ 1 underlying45 hi0 hz0 hz1 i64 i64 fo.length (by omega) (by rw[hz2];omega) (by unfold maxLen;omega) lQ;have HO1:Hid (Row w1 w.heap.size 3 (slice (some ⟨w.heap.size,0,none⟩) fo.length fo.length) fo.length (fun q=>int i64 ((yT fo 0 q:Nat):Int))∧Grew w w1):=by
  refine⟨?_,⟨hg1.os,hg1.output,hg1.size,fun k hk _=>hg1.block k hk (by simp)⟩⟩;have h:=ho1;rw[Nat.mul_one,zAh _ rfl] at h;exact h
 have HFin:Hid (∀wr,Row wr w.heap.size 3 (slice (some ⟨w.heap.size,0,none⟩) fo.length fo.length) fo.length (fun q=>int i64 ((yT fo fo.length q:Nat):Int))->Ints wr (In wr) (slice (some ⟨w.heap.size,0,none⟩) fo.length fo.length) (ints (zCk fo))):=fun wr h=>by
  refine zAE (H:=w.heap.size) (Row.ownI ?_);rw[zN,zDp];refine h.congr fun q hq=>?_;rw[vI,zKz _ _ hq]
 have HTL:Hid (∀j q,j<=24->yT fo j q<16777216):=fun j q h=>zHx fo j q h;clear hbc hs ho1 hg1;go_in;go_wp2;clear hmk;go_loopg [12] fo.length (fun k i wr=>∃j:Nat,k=fo.length-j∧j<=fo.length∧i=int i64 (j:Int)∧Row wr w.heap.size 3 (slice (some ⟨w.heap.size,0,none⟩) fo.length fo.length) fo.length (fun q=>int i64 ((yT fo j q:Nat):Int))∧Grew w wr)
 case atStart=>exact⟨0,rfl,lX,rfl,HO1.out.1,HO1.out.2⟩
 case round=>
  obtain⟨j,hgk,hj,rfl,hsp,hkp⟩:=hrel;have HA:Hid (gk=fo.length-j∧Row wr w.heap.size 3 (slice (some ⟨w.heap.size,0,none⟩) fo.length fo.length) fo.length (fun q=>int i64 ((yT fo j q:Nat):Int))∧Grew w wr):=⟨hgk,hsp,hkp⟩
  by_cases hj2:j<fo.length
  ·have i1:(j:Int)<(fo.length:Int):=by omega
   obtain⟨b,o,rfl,hb,hc,hlt⟩:=HBC.out j hj2;have y1:wr.cell? ⟨b,o+j,none⟩=some (int i64 ((fo.getD j 0:Nat):Int)):=zA hc hb hkp;have HSU:Hid (∀q,yT fo (j+1) q=if(fo.getD j 0).testBit q then yT fo j q|||2^j else yT fo j q):=fun q=>zIR fo j q;clear hgk hsp hkp hc;generalize fo.getD j 0=r at *;go_wp2;clear y1;go_loopg [19] fo.length (fun k i wr=>∃s:Nat,k=fo.length-s∧s<=fo.length∧i=int i64 (s:Int)∧Row wr w.heap.size 3 (slice (some ⟨w.heap.size,0,none⟩) fo.length fo.length) fo.length (fun q=>int i64 (((if q<s then yT fo (j+1) q else yT fo j q:Nat)):Int))∧Grew w wr)
   case atStart=>exact⟨0,rfl,lX,rfl,HA.out.2.1.congr fun i _=>by simp,HA.out.2.2⟩
   case round=>
    obtain⟨s,hgk2,hs,rfl,hsp,hkp⟩:=hrel;have HB:Hid (gk=fo.length-s∧Row wr w.heap.size 3 (slice (some ⟨w.heap.size,0,none⟩) fo.length fo.length) fo.length (fun q=>int i64 (((if q<s then yT fo (j+1) q else yT fo j q:Nat)):Int))∧Grew w wr):=⟨hgk2,hsp,hkp⟩
    by_cases hs2:s<fo.length
    ·have i3:(s:Int)<(fo.length:Int):=by omega
     obtain⟨g,cp,hv,g1,g2,g3,g4,g5,g6⟩:=hsp.get (by omega);have eg:g=w.heap.size:=by injection hv with e1 _ _;injection e1 with e1;injection e1 with e1;exact e1.symm
     subst eg;have y2:wr.cell? ⟨w.heap.size,s,none⟩=some (int i64 ((yT fo j s:Nat):Int)):=by
      rw[g5 s hs2,if_neg (by omega)]
     have z2:=g6 s;have hbit:=zKr r s (by omega);have htl:=HTL.out j s (by omega);have HGen:Hid (∀i,i<fo.length->(if i<s+1 then yT fo (j+1) i else yT fo j i)=if i=s then(if r.testBit s then yT fo j s|||2^j else yT fo j s) else if i<s then yT fo (j+1) i else yT fo j i):=fun i hi=>by
      by_cases e:i=s
      ·rw[if_pos e,if_pos (by omega),e,HSU.out s]
      ·rw[if_neg e]
       by_cases e2:i<s
       ·rw[if_pos e2,if_pos (by omega)]
       ·rw[if_neg e2,if_neg (by omega)]
     clear hgk2 hsp hkp hv g1 g2 g3 g4 g5 g6;cases htb:r.testBit s with
     |true=>
      rw[htb] at hbit HGen;have HOR:Hid (bits .or i64 ((yT fo j s:Nat):Int) (IntKind.i64.wrap (2^j))=((yT fo j s|||2^j:Nat):Int)):=zNc _ j (by omega) (by omega);have HOR2:Hid (bits .or i64 ((yT fo j s:Nat):Int) (wrap64 (2^j))=((yT fo j s|||2^j:Nat):Int)):=zL9 _ j (by omega) (by omega);clear htb;generalize yT fo j s=c0 at *;go_wp2;go_region;go_wp2;go_roundg (fo.length-(s+1))
      case measure=>rw[HB.out.1];omega
      case rel=>
       refine⟨s+1,rfl,by omega,by go_num,?_,HB.out.2.2.trans (Keep.trans (zO _ _ _ _ lQ) (Keep.drew _))⟩;have h:=HB.out.2.1.set s (int i64 ((c0|||2^j:Nat):Int));rw[<-HOR2.out] at h;refine Row.congr (w:=(wr.setCell ⟨w.heap.size,s,none⟩ _).drew) h fun i hi=>?_;rw[HGen.out i hi];by_cases e:i=s
       ·rw[if_pos e,if_pos e];rw[HOR2.out];simp
       ·rw[if_neg e,if_neg e]
     |false=>
      rw[htb] at hbit HGen;clear htb;go_wp2;go_roundg (fo.length-(s+1))
      case measure=>rw[HB.out.1];omega
      case rel=>
       refine⟨s+1,rfl,by omega,by go_num,?_,HB.out.2.2⟩;refine HB.out.2.1.congr fun i hi=>?_;rw[HGen.out i hi];by_cases e:i=s
       ·rw[if_pos e,if_neg (by omega),e];simp
       ·rw[if_neg e]
    ·have i3:(fo.length:Int)<=(s:Int):=by omega
     have HD:=vl <| hsp.congr fun i hi=>by rw[if_pos (by omega)]
     clear hgk2 hsp hkp;go_wp2;go_roundg (fo.length-(j+1))
     case measure=>rw[HA.out.1];omega
     case rel=>exact⟨j+1,rfl,by omega,by go_num,HD.out,HB.out.2.2⟩
  ·have i1:(fo.length:Int)<=(j:Int):=by omega
   have e:j=fo.length:=by omega
   subst e;clear hgk hsp hkp;go_wp2;go_ret;exact⟨_,rfl,HFin.out _ HA.out.2.1,HA.out.2.2⟩
section
def zHm (l:List Nat)(x:Nat):List Nat:=if l.contains x then l else l++[x]
def zA7 (c:Nat->Nat)(ls:List Nat)(t:Nat)(l:List Nat):Nat->List Nat
 |0=>l
 |k+1=>zHm (zA7 c ls t l k) (zAt c (t&&&ls.getD k 0))
def jI (c:Nat->Nat)(ls:List Nat):Nat->Nat->List Nat->List Nat
 |0,_,l=>l
 |f+1,i,l=>if i<l.length then jI c ls f (i+1) (zA7 c ls (l.getD i 0) l ls.length) else l
def zNW (c:Nat->Nat)(ls:List Nat)(ends:Nat):List Nat:=jI c ls 16777216 0 [ends]
structure Once (B:Nat)(l:List Nat):Prop where
 nd:l.Nodup
 lt:∀x∈l,x<B
theorem zMd (B:Nat)(l:List Nat)(h:Once B l):l.length<=B:=by
 induction B generalizing l with
 |zero=>
  cases l with
  |nil=>exact lQ
  |cons x l=>exact absurd (h.lt x (gW)) (by omega)
 |succ B ih=>
  have h2:Once B (l.erase B):=⟨h.nd.erase B,fun x hx=>by
   have h3:=(h.nd.mem_erase_iff.1 hx)
   have:=h.lt x h3.2;have:=h3.1;omega⟩
  have:=ih _ h2;have h4:=List.length_erase (a:=B) (l:=l);rw[h4] at this;split at this <;> omega
theorem zLL {B:Nat}{l:List Nat}{x:Nat}(h:Once B l)(hx:x<B):Once B (zHm l x):=by
 unfold zHm;split
 ·exact h
 ·rename_i hc
  refine⟨?_,fun y hy=>?_⟩
  ·rw[List.nodup_append]
   refine⟨h.nd,by simp,fun a ha b hb e=>?_⟩;rw[kY.1 hb] at e;subst e;exact hc (by simpa using ha)
  ·rcases kU.1 hy with h1|h1
   ·exact h.lt y h1
   ·rw[kY.1 h1];exact hx
theorem zMP (l:List Nat)(x:Nat):l.length<=(zHm l x).length∧∀i,i<l.length->(zHm l x).getD i 0=l.getD i 0:=by
 unfold zHm;split
 ·exact⟨lQ,fun _ _=>rfl⟩
 ·refine⟨by simp,fun i hi=>?_⟩
  rw[lW,kW hi,lW]
theorem zIi (c:Nat->Nat)(ls:List Nat)(t:Nat)(l:List Nat)(k:Nat):l.length<=(zA7 c ls t l k).length∧∀i,i<l.length->(zA7 c ls t l k).getD i 0=l.getD i 0:=by
 induction k with
 |zero=>exact⟨lQ,fun _ _=>rfl⟩
 |succ k ih=>
  have h:=zMP (zA7 c ls t l k) (zAt c (t&&&ls.getD k 0));exact⟨lY ih.1 h.1,fun i hi=>(h.2 i (by omega)).trans (ih.2 i hi)⟩
theorem zGn {B:Nat}{c:Nat->Nat}(hc:∀x,zAt c x<B)(ls:List Nat)(t:Nat){l:List Nat}(h:Once B l)(k:Nat):Once B (zA7 c ls t l k):=by
 induction k with
 |zero=>exact h
 |succ k ih=>exact zLL ih (hc _)
theorem zGG {B:Nat}{c:Nat->Nat}(hc:∀x,zAt c x<B)(ls:List Nat)(f:Nat):∀i l,Once B l->Once B (jI c ls f i l):=by
 induction f with
 |zero=>exact fun i l h=>h
 |succ f ih=>
  intro i l h;unfold jI;split
  ·exact ih _ _ (zGn hc ls _ h _)
  ·exact h
theorem zMa (f:Nat->Nat)(k:Nat)(h:∀i,f i<2^k)(n:Nat):zNe f n<2^k:=by
 induction n with
 |zero=>exact Nat.pow_pos (by omega)
 |succ n ih=>exact Nat.or_lt_two_pow ih (h n)
theorem zM3 (by_:List Nat)(k:Nat)(hs:∀x∈by_,x<2^k)(n i:Nat):spF by_ n i<2^k:=by
 refine zMa _ k (fun p=>?_) n;have h0:0<2^k:=Nat.pow_pos (by omega);unfold spG;split
 ·split
  ·by_cases h:p<by_.length
   ·exact hs _ (zS _ _ 0 h)
   ·rw[lW,List.getElem?_eq_none (by omega)];exact h0
  ·exact h0
 ·exact h0
theorem zHK (c:Nat->Nat)(k:Nat)(h:∀i,c i<2^k)(x:Nat):zAt c x<2^k:=Nat.or_lt_two_pow (Nat.or_lt_two_pow (h _) (h _)) (h _)
structure Tt (w0 w:World)(fb ps N:Nat)(c:Nat->Nat)(u:Value)(l:List Nat)(m:Nat->Bool):Prop where
 sp:SpAt w fb c
 se:SeIs w w0.heap.size ps N m
 own:w.ownsRow w0.heap.size 21 1 u l.length (l.map fun(x:Nat)=>int .i32 (x:Int))
 keep:Grew w0 w
section
variable {w0 w w2:World} {fb ps N:Nat} {c:Nat->Nat} {u:Value} {l:List Nat} {m:Nat->Bool}
theorem SeIs.grown {H:Nat}(h:SeIs w H ps N m)(hk:Grew w w2):SeIs w2 H ps N m:=by
 obtain⟨g,cap,h⟩:=h;have hl:=(kQ.1 h.blk).1;exact⟨g,cap,(hk.block ps hl (kJ hl)).trans h.blk,zK h.row hk⟩
theorem Tt.grown (h:Tt w0 w fb ps N c u l m)(hk:Grew w w2):Tt w0 w2 fb ps N c u l m:=
 ⟨h.sp.keep (hk.block fb h.sp.lt (kJ h.sp.lt)),h.se.grown hk,zK h.own hk,h.keep.trans (hk.lower h.keep.size h.keep.size)⟩
theorem Tt.add {m':Nat->Bool}(h:Tt w0 w fb ps N c u l m)(hs:StayU w0.heap.size w w2)(he:SeIs w2 w0.heap.size ps N m'):Tt w0 w2 fb ps N c u l m':=by
 refine⟨?_,he,zD h.own fun g _ _ hg=>?_,h.keep.trans ⟨hs.os,hs.output,Nat.le_of_eq hs.size.symm,fun k hk _=>hs.low k hk⟩⟩
 ·obtain⟨cs,hb,hc⟩:=h.sp
  exact⟨cs,hs.other fb cs _ hb (by decide),hc⟩
 ·rcases h.own.2 with⟨hv,_⟩|⟨g1,cap,cur,hv,_,hh,_⟩
  ·rw[hv] at hg;cases hg
  ·rw[hv] at hg
   have e:g1=g:=by simpa[Value.ownBlock] using hg
   subst e;rw[hh];exact hs.other g1 cur _ hh (by decide)
theorem Tt.app {o:Obj}{g cap x:Nat}(h:Tt w0 w fb ps N c u l m)(hown:w2.ownsRow w0.heap.size 21 1 (slice (some ⟨g,0,none⟩) (l.length+1) cap) (l.length+1) ((l.map fun(x:Nat)=>int .i32 (x:Int))++[int .i32 (x:Int)]))(hg:(w.alloc o).grownBy w2 u.ownBlock):
  Tt w0 w2 fb ps N c (slice (some ⟨g,0,none⟩) (l.length+1) cap) (l++[x]) m:=by
 have hbl:∀j,j<w.heap.size->some j≠u.ownBlock->w2.heap[j]? =w.heap[j]? :=fun j hj hf=>(hg.block j (by simp;omega) hf).trans (lG _ _ _ (by omega));refine⟨?_,?_,?_,h.keep.trans ⟨hg.os,hg.output,lY (by simp) hg.size,fun k hk _=>hbl k (lZ hk h.keep.size) fun e=>by have:=(h.own.lt k e.symm).1;omega⟩⟩
 ·obtain⟨cs,hb,hc⟩:=h.sp
  exact⟨cs,(hbl fb h.sp.lt (zM h.own hb (by decide))).trans hb,hc⟩
 ·obtain⟨gs,cp,hse⟩:=h.se
  have hl:=(kQ.1 hse.blk).1;exact⟨gs,cp,(hbl ps hl (zM h.own hse.blk (by decide))).trans hse.blk,zR hg hse.row fun k hk=>xN hse.row h.own (by decide) hk⟩
 ·have e:(l++[x]).length=l.length+1:=by simp
  rw[e,List.map_append];exact hown
end
end
structure Nt where
 sets:List Cs
 follow:List Nat
 first:Nat
 ends:Nat
 rules:List Nat
 empty:List Bool
structure Nt.Ok (n:Nt):Prop where
 len:n.sets.length<=24
 fl:n.follow.length=n.sets.length
 fs:∀x∈n.follow,x<2^n.sets.length
 first:n.first<2^n.sets.length
 ends:n.ends<2^n.sets.length
 eight:n.rules.length<=8
 rs:∀x∈n.rules,x<2^n.sets.length
theorem Nt.Ok.top {n:Nt}(h:n.Ok):2^n.sets.length<=16777216:=(kG (by omega) h.len:2^n.sets.length<=2^24)
structure NetAt (w:World)(q:Nat)(n:Nt)(sv fv rv ev:Value):Prop where
 lq:q<w.heap.size
 c0:w.cell? ⟨q,0,none⟩=some sv
 c1:w.cell? ⟨q,1,none⟩=some fv
 c2:w.cell? ⟨q,2,none⟩=some (int i64 (n.first:Int))
 c3:w.cell? ⟨q,3,none⟩=some (int i64 (n.ends:Int))
 c4:w.cell? ⟨q,4,none⟩=some rv
 c5:w.cell? ⟨q,5,none⟩=some ev
 sets:SetsAt w sv n.sets
 follow:Ints w (In w) fv (ints n.follow)
 rules:Ints w (In w) rv (ints n.rules)
 empty:Bools w (In w) ev n.empty
theorem NetAt.grown {w w2:World}{q:Nat}{n:Nt}{sv fv rv ev:Value}(h:NetAt w q n sv fv rv ev)(hk:Grew w w2):NetAt w2 q n sv fv rv ev:=
 ⟨lZ h.lq hk.size,zA h.c0 h.lq hk,zA h.c1 h.lq hk,zA h.c2 h.lq hk,zA h.c3 h.lq hk,zA h.c4 h.lq hk,zA h.c5 h.lq hk,h.sets.grown hk,h.follow.grown hk,h.rules.grown hk,h.empty.grown hk⟩
def Nt.back (n:Nt):Nat->Nat:=spF (zCk n.follow) n.follow.length
def Nt.tails (n:Nt)(ls:List Nat):List Nat:=zNW n.back ls n.ends
theorem Nt.back_lt {n:Nt}(h:n.Ok)(i:Nat):n.back i<2^n.sets.length:=by
 refine zM3 _ _ (fun x hx=>?_) _ _;obtain⟨q,hq,rfl⟩:=List.mem_map.1 hx;have:=zBd (fun p=>(n.follow.getD p 0).testBit q) n.follow.length;rw[h.fl] at this;show yT n.follow n.follow.length q<_;rw[h.fl];exact this
theorem Nt.tails_once {n:Nt}(h:n.Ok)(ls:List Nat):Once (2^n.sets.length) (n.tails ls):=
 zGG (zHK _ _ (Nt.back_lt h)) ls _ _ _ ⟨by simp,fun x hx=>by rw[kY.1 hx];exact h.ends⟩
theorem Once.top {n:Nt}(h:n.Ok){l:List Nat}(hl:Once (2^n.sets.length) l):l.length<=16777216∧∀x∈l,x<16777216:=
 ⟨lY (zMd _ _ hl) h.top,fun x hx=>lZ (hl.lt x hx) h.top⟩
theorem zH5 {w:World}{H:Nat}{v:Value}{l:List Nat}(h:w.ownsRow H 21 1 v l.length (l.map fun(x:Nat)=>int .i32 (x:Int))):I32s w (In w) v l:=by
 rcases h.2 with⟨hv,h0⟩|⟨g,cap,cur,hv,hg,hh,h1,h2,h3,h4⟩
 ·exact⟨none,0,by rw[hv,h0],by omega,by unfold maxLen;omega,fun i hi=>by omega⟩
 ·refine⟨some ⟨g,0,none⟩,cap,hv,h1,h2,fun i hi=>⟨g,0,rfl,(h.lt g (by rw[hv];rfl)).2,?_⟩⟩
  have hc:=h.cells (g:=g) (by rw[hv];rfl) i (int .i32 ((l.getD i 0:Nat):Int)) (by
   rw[gU,lV hi,lW,lV hi];rfl)
  rw[Addr.add_lit] at hc;exact hc
theorem zNo:(prog.info? 21).map (fun i=>(i.zero,i.size,i.bytes))=some (some (int .i32 0),1,4):=by kernel_rfl
theorem zMb (w:World)(H x:Nat)(hH:H<=w.heap.size):(w.alloc (.cells #[int .i32 (x:Int)] 21)).ownsRow H 21 1 (slice (some ⟨w.heap.size,0,none⟩) 1 1) ([x]:List Nat).length (([x]:List Nat).map fun(x:Nat)=>int .i32 (x:Int)):=
 ⟨rfl,.inr ⟨w.heap.size,1,_,rfl,hH,gJ w _,lQ,by unfold maxLen;omega,rfl,rfl⟩⟩
theorem zFI (w:World)(q:Nat)(n:Nt)(sv fv rv ev:Value)(hN:NetAt w q n sv fv rv ev)(ok:n.Ok)(lv:Value)(ls:List Nat)(hL:Ints w (In w) lv (ints ls))(hll:ls.length<=1000000000000)(hls:∀x∈ls,x<16777216):
  Calls prog 129 #[pointer (some ⟨q,0,none⟩),lv] w fun e w'=>∃u,e=returned u∧I32s w' (In w') u (n.tails ls)∧Grew w w':=by
 obtain⟨i0,hi0,hz0,hz1,hz2⟩:=info_parts zNo;obtain⟨asv,csv,rfl,-⟩:=id hN.sets;obtain⟨al,cl,rfl,-⟩:=id hL;have hlen:=ok.len;have htop:=ok.top;have hends:=ok.ends;have x0:=hN.c0;have x1:=hN.c1;have x3:=hN.c3;have HN:=vl hN;have HOK:Hid n.Ok:=ok;have HT:Hid (∀w2,w2=w->Ca 170 #[fv] w2 fun e w'=>∃u,e=returned u∧Ints w' (In w') u (ints (zCk n.follow))∧Grew w w'):=by
  rintro w2 rfl;exact zGD w2 fv n.follow HN.out.follow (by rw[ok.fl];exact hlen) fun x hx=>lZ (ok.fs x hx) htop
 have HSp:Hid (∀w1 u,Ints w1 (In w1) u (ints (zCk n.follow))->Grew w w1->Ca 128 #[u] w1 fun e w'=>e=returned (pointer (some ⟨w1.heap.size,0,none⟩))∧SpAt w' w1.heap.size n.back∧Grew w w'):=fun w1 u hu hk=>by
  refine(zBz w1 u (zCk n.follow) hu (by rw[zDp,ok.fl];exact hlen) fun x hx=>?_).mono ?_
  ·obtain⟨q,hq,rfl⟩:=List.mem_map.1 hx
   exact zHx _ _ _ (by rw[ok.fl];exact hlen)
  ·rintro e w2 ⟨rfl,h1,h2⟩
   rw[zDp] at h1;exact⟨rfl,h1,hk.trans (h2.lower hk.size hk.size)⟩
 have HSe:Hid (∀w2 f,SpAt w2 f n.back->Grew w w2->Ca 171 #[int i64 (n.sets.length:Int)] w2 fun e w'=>∃p,e=returned (pointer (some ⟨p,0,none⟩))∧SeIs w' w.heap.size p (vS n.sets.length) (fun _=>false)∧SpAt w' f n.back∧Grew w w'):=fun w2 f hf hk=>by
  refine(zFQ w2 n.sets.length hlen).mono ?_;rintro e w3 ⟨p,rfl,hp,⟨g,cap,hs⟩,hk3⟩;exact⟨p,rfl,⟨g,cap,hs.blk,hs.row.mono hk.size⟩,hf.keep (hk3.block f hf.lt (kJ hf.lt)),hk.trans (hk3.lower hk.size hk.size)⟩
 have hsn:∀x:Nat,x<2^n.sets.length->x<64*vS n.sets.length:=fun x hx=>by unfold vS;omega
 have hsn2:vS n.sets.length<=1000000:=by unfold vS;omega
 have HAd:Hid (∀w3 p f m u l,Tt w w3 f p (vS n.sets.length) n.back u l m->∀x:Nat,x<2^n.sets.length->Ca 172 #[pointer (some ⟨p,0,none⟩),int i64 (x:Int)] w3 fun e w'=>e=returned (bool (!m x))∧Tt w w' f p (vS n.sets.length) n.back u l (fun y=>y==x||m y)):=fun w3 p f m u l ht x hx=>by
  refine(zFK w3 w.heap.size p (vS n.sets.length) m ht.se hsn2 x (hsn x hx)).mono ?_;rintro e w4 ⟨rfl,h1,h2⟩;exact⟨rfl,ht.add h2 h1⟩
 have HOf:Hid (∀w3 p f m u l,Tt w w3 f p (vS n.sets.length) n.back u l m->∀x:Nat,x<16777216->Ca 92 #[pointer (some ⟨f,0,none⟩),int i64 (x:Int)] w3 fun e w'=>e=returned (int i64 ((zAt n.back x:Nat):Int))∧Tt w w' f p (vS n.sets.length) n.back u l m):=fun w3 p f m u l ht x hx=>by
  refine(zBH w3 f n.back ht.sp (fun i=>lZ (Nt.back_lt HOK.out i) htop) x hx).mono ?_;rintro e w4 ⟨rfl,h1⟩;exact⟨rfl,ht.grown h1⟩
 have HLC:Hid (∀i,i<ls.length->∃b o,al=some ⟨b,o,none⟩∧In w b∧w.cell? ⟨b,o+i,none⟩=some (int i64 ((ls.getD i 0:Nat):Int))∧ls.getD i 0<16777216):=by
  obtain⟨al',cl',hv,_,_,h3⟩:=hL;injection hv with e1 _ _;subst e1;intro i hi;obtain⟨b,o,h1,h0,h2⟩:=h3 i (by rw[zN];exact hi);rw[vI] at h2;exact⟨b,o,h1,h0,h2,hls _ (zS _ i 0 hi)⟩
 have HON:Hid (∀l,Once (2^n.sets.length) l->l.length<=16777216∧∀x∈l,x<16777216):=fun l hl=>Once.top HOK.out hl;have HBL:=vl <| zHK _ _ (Nt.back_lt HOK.out);have HE1:Hid (Once (2^n.sets.length) [n.ends]):=⟨by simp,fun x hx=>by rw[kY.1 hx];exact hends⟩
 have HTT:Hid (n.tails ls=jI n.back ls 16777216 0 [n.ends]):=rfl;rw[zN];have hew:n.ends<16777216:=by omega
 clear hN ok hL hls;go_in;go_wp2_with (first|(go_at_call 170;refine(HT.out _ rfl).mono ?_;rintro e w1 ⟨u,rfl,hu,hk1⟩;have HU:=vl hu;clear hu)|(go_at_call 128;refine(HSp.out w1 u HU.out hk1).mono ?_;rintro e w2 ⟨rfl,hs2,hk2⟩;have y0:=(HN.out.grown hk2).c0;clear hk1)|(go_at_call 171;refine(HSe.out w2 w1.heap.size hs2 hk2).mono ?_;rintro e w3 ⟨p,rfl,he3,hs3,hk3⟩;have y3:=(HN.out.grown hk3).c3;have T3:Tt w w3 w1.heap.size p (vS n.sets.length) n.back (slice none 0 0) [] (fun _=>false):=⟨hs3,he3,ownsRow_nil _ _ _ _,hk3⟩;clear y0 hk2 hs2)|(go_at_call 172;refine(HAd.out w3 p w1.heap.size _ _ _ T3 n.ends hends).mono ?_;rintro e w4 ⟨rfl,T4⟩;have y4:=(HN.out.grown T4.keep).c3;clear y3))
 have T5:Hid (Tt w (w4.alloc (Obj.cells #[Value.int IntKind.i32 (n.ends:Int)] 21)) w1.heap.size p (vS n.sets.length) n.back (slice (some ⟨w4.heap.size,0,none⟩) 1 1) [n.ends] (fun y=>[n.ends].contains y)):=by
  have h:=T4.grown (kZ w4 (Obj.cells #[Value.int IntKind.i32 (n.ends:Int)] 21) lQ);refine⟨h.sp,?_,zMb w4 w.heap.size n.ends T4.keep.size,h.keep⟩;have e:(fun y=>[n.ends].contains y)=fun y=>y==n.ends||false:=by funext y;by_cases e:y=n.ends <;> simp[e]
  rw[e];exact h.se
 clear T4 T3 hs3 he3 hk3 y4;generalize w1.heap.size=f at *;generalize vS n.sets.length=N at *;go_loopg [7,8] 16777216 (fun k u i wr=>∃(j:Nat) (l:List Nat),k=16777216-j∧j<=l.length∧i=int i64 (j:Int)∧Tt w wr f p N n.back u l (fun y=>l.contains y)∧Once (2^n.sets.length) l∧jI n.back ls 16777216 0 [n.ends]=jI n.back ls (16777216-j) j l)
 case atStart=>exact⟨0,[n.ends],rfl,lX,rfl,T5.out,HE1.out,rfl⟩
 case round=>
  obtain⟨j,l,hgk,hj,rfl,ht,hon,hgo⟩:=hrel;have HA:Hid (gk=16777216-j∧Tt w wr f p N n.back u7 l (fun y=>l.contains y)∧Once (2^n.sets.length) l∧jI n.back ls 16777216 0 [n.ends]=jI n.back ls (16777216-j) j l):=⟨hgk,ht,hon,hgo⟩
  obtain⟨ao,cap,hu7⟩:=zG ht.own;have hl24:=(HON.out l hon).1;by_cases hj2:j<l.length
  ·have i1:(j:Int)<(l.length:Int):=by omega
   have HG2:Hid (jI n.back ls 16777216 0 [n.ends]=jI n.back ls (16777216-(j+1)) (j+1) (zA7 n.back ls (l.getD j 0) l ls.length)):=by
    show _=_;rw[hgo,show 16777216-j=(16777216-(j+1))+1 by omega];show(if j<l.length then _ else _)=_;rw[if_pos hj2]
   have HP:Hid (∀k,l.length<=(zA7 n.back ls (l.getD j 0) l k).length∧(zA7 n.back ls (l.getD j 0) l k).getD j 0=l.getD j 0∧Once (2^n.sets.length) (zA7 n.back ls (l.getD j 0) l k)):=fun k=>⟨(zIi _ _ _ _ k).1,(zIi _ _ _ _ k).2 j hj2,zGn HBL.out ls _ hon k⟩
   have hxl:=(HON.out l hon).2 _ (zS l j 0 hj2);subst hu7;clear hgk ht hon hgo T5;generalize hxx:l.getD j 0=x at *;clear hxx;go_wp2;go_loopg [7,44] ls.length (fun k u i wr=>∃t:Nat,k=ls.length-t∧t<=ls.length∧i=int i64 (t:Int)∧Tt w wr f p N n.back u (zA7 n.back ls x l t) (fun y=>(zA7 n.back ls x l t).contains y))
   case atStart=>exact⟨0,rfl,lX,rfl,HA.out.2.1⟩
   case round=>
    obtain⟨t,hgk,ht,rfl,hT⟩:=hrel;have HB:Hid (gk=ls.length-t∧Tt w wr f p N n.back u7 (zA7 n.back ls x l t) (fun y=>(zA7 n.back ls x l t).contains y)):=⟨hgk,hT⟩
    by_cases ht2:t<ls.length
    ·have i2:(t:Int)<(ls.length:Int):=by omega
     obtain⟨b1,o1,rfl,hb1,hc1,hlt1⟩:=HLC.out t ht2;have y1:wr.cell? ⟨b1,o1+t,none⟩=some (int i64 ((ls.getD t 0:Nat):Int)):=zA hc1 hb1 hT.keep;obtain⟨hp1,hp2,hp3⟩:=HP.out t;obtain⟨ao2,cap2,hu2,hcap2,hml2,hcs⟩:=zH5 hT.own;obtain⟨b2,o2,rfl,hb2,hc2⟩:=hcs j (by omega);rw[hp2] at hc2;have i3:(j:Int)<((zA7 n.back ls x l t).length:Int):=by omega
     have HNx:Hid (zA7 n.back ls x l (t+1)=zHm (zA7 n.back ls x l t) (zAt n.back (x&&&ls.getD t 0))):=rfl;have hl3:=(HON.out _ hp3).1;clear hgk hT hc1 hcs HP hp2 hp3;generalize zA7 n.back ls x l t=L at *;generalize ls.getD t 0=r at *;have hand:bits .and i64 (x:Int) (r:Int)=((x&&&r:Nat):Int):=qB _ _ (by omega) (by omega);have hal:x&&&r<16777216:=Nat.lt_of_le_of_lt Nat.and_le_left hxl;generalize x&&&r=y at *;have hyl:=HBL.out y;have HOf2:=vl <| HOf.out wr p f _ _ _ HB.out.2 y hal;generalize zAt n.back y=z at *;have hz24:z<16777216:=by omega
     subst hu2;cases hcz:L.contains z with
     |true=>
      have HAd2:Hid (∀w5,Tt w w5 f p N n.back (slice (some ⟨b2,o2,none⟩) L.length cap2) L (fun y=>L.contains y)->Ca 172 #[pointer (some ⟨p,0,none⟩),int i64 (z:Int)] w5 fun e w'=>e=returned (bool false)∧Tt w w' f p N n.back (slice (some ⟨b2,o2,none⟩) L.length cap2) L (fun y=>y==z||L.contains y)):=fun w5 h5=>by
       have:=HAd.out w5 p f _ _ _ h5 z hyl;rw[hcz] at this;exact this
      have HX:Hid (zA7 n.back ls x l (t+1)=L∧(fun y=>y==z||L.contains y)=fun y=>L.contains y):=⟨by rw[HNx.out];unfold zHm;rw[if_pos hcz],by
       funext y
       by_cases e:y=z
       ·rw[e,hcz];simp
       ·rw[show (y==z)=false by simp[e]];rfl⟩
      clear hcz;go_wp2_with (first|(go_at_call 92;refine HOf2.out.mono ?_;rintro e w5 ⟨rfl,T6⟩)|(go_at_call 172;refine(HAd2.out w5 T6).mono ?_;rintro e w6 ⟨rfl,T7⟩))
      go_roundg (ls.length-(t+1))
      case measure=>rw[HB.out.1];omega
      case rel=>
       rw[HX.out.2] at T7;exact⟨t+1,rfl,by omega,by go_num,by rw[HX.out.1];exact T7⟩
     |false=>
      have HAd2:Hid (∀w5,Tt w w5 f p N n.back (slice (some ⟨b2,o2,none⟩) L.length cap2) L (fun y=>L.contains y)->Ca 172 #[pointer (some ⟨p,0,none⟩),int i64 (z:Int)] w5 fun e w'=>e=returned (bool true)∧Tt w w' f p N n.back (slice (some ⟨b2,o2,none⟩) L.length cap2) L (fun y=>y==z||L.contains y)):=fun w5 h5=>by
       have:=HAd.out w5 p f _ _ _ h5 z hyl;rw[hcz] at this;exact this
      have HX:Hid (zA7 n.back ls x l (t+1)=L++[z]∧(fun y=>y==z||L.contains y)=fun y=>(L++[z]).contains y):=⟨by rw[HNx.out];unfold zHm;rw[if_neg (by rw[hcz];decide)],by
       funext y
       rw[List.contains_append];by_cases e:y=z
       ·simp[e]
       ·simp[e]⟩
      clear hcz;go_wp2_with (first|(go_at_call 92;refine HOf2.out.mono ?_;rintro e w5 ⟨rfl,T6⟩)|(go_at_call 172;refine(HAd2.out w5 T6).mono ?_;rintro e w6 ⟨rfl,T7⟩;have OR:=T7.own;have hsz6:=T7.keep.size)|(at_builtin;refine wpList_append_lies _ rfl _ _ 174 rfl (w.heap.size) 21 i0 (int .i32 0) 1 4 underlying174 hi0 hz0 hz1 hz2 rfl (by decide) _ _ _ rfl (OR.alloc _) ⟨w6.heap.size,0,none⟩ 1 1 [int .i32 (z:Int)] rfl rfl (cell_one_new _ _ _) (by intro u hu;simp at hu;subst hu;rfl) (by decide) (by unfold maxLen;omega) (by omega) (by simp;omega) _ rfl ?_;intro gg cap3 w7 hown hgrow hat hlt3;have T8:=T7.app hown hgrow))
      go_roundg (ls.length-(t+1))
      case measure=>rw[HB.out.1];omega
      case rel=>
       rw[HX.out.2] at T8;exact⟨t+1,rfl,by omega,by go_num,by rw[HX.out.1];exact T8⟩
    ·have i2:(ls.length:Int)<=(t:Int):=by omega
     have e:t=ls.length:=by omega
     subst e;have HZ:=HP.out ls.length;clear hgk hT;go_wp2;go_roundg (16777216-(j+1))
     case measure=>rw[HA.out.1];omega
     case rel=>exact⟨j+1,_,rfl,by omega,by go_num,HB.out.2,HZ.2.2,HG2.out⟩
  ·have i1:(l.length:Int)<=(j:Int):=by omega
   have HZ:Hid (n.tails ls=l):=by
    show _=_;rw[HTT.out,hgo];cases 16777216-j with
    |zero=>rfl
    |succ k=>
     show(if j<l.length then _ else _)=_;rw[if_neg hj2]
   subst hu7;clear hgk ht hon hgo T5;go_wp2;go_ret;exact⟨_,rfl,by rw[HZ.out];exact zH5 HA.out.2.1.own,HA.out.2.1.keep⟩
section
structure Ar.Good (a:Ar)(k:Nat):Prop where
 sets:∀x∈a.sets,0<=x∧x<((2^k:Nat):Int)
 letters:∀x∈a.letters,0<=x∧x<(a.sets.length:Int)
 lens:a.lows.length=a.letters.length
theorem Ar.look_lt (a:Ar)(x:Int):a.look x<(a.seen x).sets.length:=by
 unfold Ar.seen;split
 ·assumption
 ·have:a.look x<=a.sets.length:=List.findIdx_le_length
  simp;omega
theorem Ar.seen_good {a:Ar}{k:Nat}(h:a.Good k)(x:Int)(hx:0<=x∧x<((2^k:Nat):Int)):(a.seen x).Good k:=by
 unfold Ar.seen;split
 ·exact h
 ·refine⟨fun y hy=>?_,fun y hy=>?_,h.lens⟩
  ·rcases kU.1 hy with h1|h1
   ·exact h.sets y h1
   ·rw[kY.1 h1];exact hx
  ·have:=h.letters y hy
   simp;omega
theorem Ar.step_good (sets:List Cs){a:Ar}(h:a.Good sets.length)(low:Int):(a.step sets low).Good sets.length∧0<(a.step sets low).lows.length:=by
 have hb:=zBd (zAH sets low) sets.length;have hs:(0:Int)<=(qO sets low:Nat)∧((qO sets low:Nat):Int)<((2^sets.length:Nat):Int):=by
  unfold qO;omega
 have h2:=Ar.seen_good h _ hs;have h3:=a.look_lt (qO sets low:Nat);unfold Ar.step;split
 ·refine⟨⟨h2.sets,fun y hy=>?_,?_⟩,by simp⟩
  ·rcases kU.1 hy with h1|h1
   ·exact h2.letters y h1
   ·rw[kY.1 h1]
    exact⟨by omega,by show _<(((a.seen _).sets.length:Nat):Int);omega⟩
  ·have:=h2.lens
   simp;omega
 ·rename_i hn
  refine⟨h2,?_⟩;have h4:=h2.lens;apply Nat.pos_of_ne_zero;intro e;apply hn;unfold Ar.turns;rw[show (a.seen (qO sets low)).letters.length=0 by omega];rfl
theorem zH3 (sets:List Cs)(j:Nat)(hj:j<=(xH sets).length):(qY sets j).Good sets.length∧(0<j->0<(qY sets j).lows.length):=by
 induction j with
 |zero=>exact⟨⟨fun x hx=>absurd hx (List.not_mem_nil),fun x hx=>absurd hx (List.not_mem_nil),rfl⟩,fun h=>absurd h (Nat.lt_irrefl _)⟩
 |succ j ih=>
  have h:=Ar.step_good sets (ih (by omega)).1 ((xH sets).getD j 0);rw[zBL sets j (by omega)];exact⟨h.1,fun _=>h.2⟩
theorem zLB (sets:List Cs):(xH sets).length=4+2*yE sets:=zFx sets _
theorem zBm (sets:List Cs):(xZ sets).Good sets.length∧0<(xZ sets).lows.length∧(xZ sets).lows.length<=4+2*yE sets∧(xZ sets).sets.length<=4+2*yE sets:=by
 have h:=zH3 sets (xH sets).length lQ;have h2:=zC3 sets (xH sets).length lQ;rw[zE4 sets _ lQ] at h h2;have:=zLB sets;exact⟨h.1,h.2 (by omega),by omega,by omega⟩
def Ar.setsN (a:Ar):List Nat:=a.sets.map Int.toNat
theorem Ar.setsN_ints {a:Ar}{k:Nat}(h:a.Good k):a.sets=ints a.setsN:=by
 unfold ints Ar.setsN;rw[List.map_map]
 conv=>lhs;rw[<-List.map_id a.sets]
 apply List.map_congr_left;intro x hx;have:=h.sets x hx;show x=((x.toNat:Nat):Int);omega
theorem Ar.setsN_lt {a:Ar}{k:Nat}(h:a.Good k):∀x∈a.setsN,x<2^k:=by
 intro x hx;obtain⟨y,hy,rfl⟩:=List.mem_map.1 hx;have:=h.sets y hy;omega
theorem Ar.setsN_len (a:Ar):a.setsN.length=a.sets.length:=kV ..
def Nt.areas (n:Nt):Ar:=xZ n.sets
def Nt.letters (n:Nt):List Nat:=n.areas.setsN
def Nt.ahead (n:Nt):Nat->Nat:=spF n.follow n.follow.length
structure Nm (w w':World)(q b:Nat)(n:Nt)(sv fv rv ev lv tv av:Value):Prop where
 net:NetAt w' q n sv fv rv ev
 blk:w'.heap[b]? =some (.cells #[lv,tv,av] 172)
 ar:ArAt w' lv tv av n.areas
 keep:Grew w w'
section
variable {w w1 w2:World} {q b:Nat} {n:Nt} {sv fv rv ev lv tv av:Value}
theorem Nm.grown (h:Nm w w1 q b n sv fv rv ev lv tv av)(hk:Grew w1 w2):Nm w w2 q b n sv fv rv ev lv tv av:=by
 have hl:=(kQ.1 h.blk).1;exact⟨h.net.grown hk,(hk.block b hl (kJ hl)).trans h.blk,h.ar.grown hk,h.keep.trans (hk.lower h.keep.size h.keep.size)⟩
theorem Nm.drew (h:Nm w w1 q b n sv fv rv ev lv tv av):Nm w w1.drew q b n sv fv rv ev lv tv av:=h.grown (Keep.drew _)
theorem Nm.cells (h:Nm w w1 q b n sv fv rv ev lv tv av):w1.cell? ⟨b,0,none⟩=some lv∧w1.cell? ⟨b,1,none⟩=some tv∧w1.cell? ⟨b,2,none⟩=some av:=by
 refine⟨?_,?_,?_⟩
 all_goals (unfold cell?;rw[h.blk];rfl)
end
end
structure Nt.Fits (n:Nt):Prop where
 few:yE n.sets<=10000000000
 small:∀s∈n.sets,s.Small
theorem zEi (w:World)(q:Nat)(n:Nt)(sv fv rv ev:Value)(hN:NetAt w q n sv fv rv ev)(ok:n.Ok)(fit:n.Fits):
  Calls prog 90 #[pointer (some ⟨q,0,none⟩)] w fun e w'=>∃p s,e=returned (pointer (some ⟨p,0,none⟩))∧(s.rules=n.rules∧s.tails=n.tails n.letters∧s.sets=n.letters∧s.q=q)∧SoAt w' (fun g=>g<w'.heap.size∧g≠p) p s ⟨[],[]⟩ (slice none 0 0) (slice none 0 0)∧ArAt w' s.lv s.tv s.sv n.areas∧SpAt w' s.f n.ahead∧s.f≠p∧w.heap.size<=p∧Grew w w':=by
 have hlen:=ok.len;have htop:=ok.top;have x0:=hN.c0;have HN:=vl hN;have HOK:Hid n.Ok:=ok;have hfew:=fit.few;have HP:Hid (Ca 127 #[sv] w fun e w'=>∃lv tv sv,e=returned (agg #[lv,tv,sv])∧ArAt w' lv tv sv (xZ n.sets)∧Grew w w'):=zJa w sv n.sets hN.sets hlen (by omega) fit.small;have HG:Hid (n.areas.Good n.sets.length):=(zBm n.sets).1;have hal:n.areas.sets.length<=1000000000000:=by have:=(zBm n.sets).2.2.2;show(xZ n.sets).sets.length<=_;omega
 have HSp:Hid (∀b lv tv av w1,Nm w w1 q b n sv fv rv ev lv tv av->Ca 128 #[fv] w1 fun e w'=>∃f,e=returned (pointer (some ⟨f,0,none⟩))∧SpAt w' f n.ahead∧f≠b∧Nm w w' q b n sv fv rv ev lv tv av∧Grew w1 w'):=fun b lv tv av w1 hm=>by
  refine(zBz w1 fv n.follow hm.net.follow (by rw[HOK.out.fl];exact hlen) fun x hx=>lZ (HOK.out.fs x hx) htop).mono ?_;rintro e w2 ⟨rfl,h1,h2⟩;have hl:=(kQ.1 hm.blk).1;exact⟨_,rfl,h1,by omega,hm.grown h2,h2⟩
 have HTl:Hid (∀b lv tv av w1,Nm w w1 q b n sv fv rv ev lv tv av->Ca 129 #[pointer (some ⟨q,0,none⟩),av] w1 fun e w'=>∃u,e=returned u∧I32s w' (In w') u (n.tails n.letters)∧Nm w w' q b n sv fv rv ev lv tv av∧Grew w1 w'):=fun b lv tv av w1 hm=>by
  have hs:=hm.ar.sets;rw[Ar.setsN_ints HG.out] at hs;refine(zFI w1 q n sv fv rv ev hm.net HOK.out av n.letters hs (by show n.areas.setsN.length<=_;rw[Ar.setsN_len];exact hal) fun x hx=>lZ (Ar.setsN_lt HG.out x hx) htop).mono ?_;rintro e w2 ⟨u,rfl,h1,h2⟩;exact⟨u,rfl,h1,hm.grown h2,h2⟩
 clear hN ok fit;go_in;go_wp2_with (first|(go_at_call 127;refine HP.out.mono ?_;rintro e w1 ⟨lv,tv,av,rfl,ha1,hk1⟩;obtain⟨al,cl,rfl,-⟩:=id ha1.lows;obtain⟨at_,ct,rfl,-⟩:=id ha1.letters;obtain⟨as_,cs,rfl,-⟩:=id ha1.sets;have HA1:Hid (ArAt w1 (slice al (xZ n.sets).lows.length cl) (slice at_ (xZ n.sets).letters.length ct) (slice as_ (xZ n.sets).sets.length cs) (xZ n.sets)∧Grew w w1):=⟨ha1,hk1⟩;clear ha1))
 obtain⟨w2,hw2,HM⟩:∃w2,w2=w1.alloc (Obj.cells #[Value.slice al (xZ n.sets).lows.length cl,Value.slice at_ (xZ n.sets).letters.length ct,Value.slice as_ (xZ n.sets).sets.length cs] 172)∧Hid (Nm w w2 q w1.heap.size n sv fv rv ev (slice al (xZ n.sets).lows.length cl) (slice at_ (xZ n.sets).letters.length ct) (slice as_ (xZ n.sets).sets.length cs)):=by
  have hk2:=kZ (b:=w1.heap.size) w1 (Obj.cells #[Value.slice al (xZ n.sets).lows.length cl,Value.slice at_ (xZ n.sets).letters.length ct,Value.slice as_ (xZ n.sets).sets.length cs] 172) lQ;have hk3:=HA1.out.2.trans (hk2.lower (c:=w.heap.size) HA1.out.2.size HA1.out.2.size);exact⟨_,rfl,⟨HN.out.grown hk3,gJ _ _,HA1.out.1.grown hk2,hk3⟩⟩
 rw[<-hw2];have hwl:w.heap.size<=w1.heap.size:=HA1.out.2.size;clear hw2 HA1 hk1 x0 HP;obtain⟨y0,y1,y2⟩:=HM.out.cells;have y3:=HM.out.net.c1;generalize w1.heap.size=b at *;generalize (xZ n.sets).lows.length=l0 at *;generalize (xZ n.sets).letters.length=l1 at *;generalize (xZ n.sets).sets.length=l2 at *;go_region_held3 (fun w'=>w'.cell? ⟨b,0,none⟩=some (slice al l0 cl)∧w'.cell? ⟨b,1,none⟩=some (slice at_ l1 ct)∧w'.cell? ⟨b,2,none⟩=some (slice as_ l2 cs)∧w'.cell? ⟨q,1,none⟩=some fv) (first|exact⟨z0,z1,z2,z3⟩|go_keep) (first|(go_at_call 128;go_must ((refine (HSp.out _ _ _ _ _ (by first|exact hmT|exact HM.out.drew)).mono ?_;rintro e wS ⟨f,rfl,hsp,hfb,hmS,hkS⟩;obtain⟨z0,z1,z2⟩:=hmS.cells;have z3:=hmS.net.c1)))|(go_at_call 129;go_must ((refine (HTl.out _ _ _ _ _ (by first|exact hmS|exact HM.out.drew)).mono ?_;rintro e wT ⟨tl,rfl,htl,hmT,hkT⟩;obtain⟨atl,ctl,rfl,-⟩:=id htl;obtain⟨z0,z1,z2⟩:=hmT.cells;have z3:=hmT.net.c1))));have HF:Hid (SpAt wT f n.ahead∧Nm w wT q b n sv fv rv ev (slice al l0 cl) (slice at_ l1 ct) (slice as_ l2 cs)∧I32s wT (In wT) (slice atl (n.tails n.letters).length ctl) (n.tails n.letters)):=⟨hsp.keep (hkT.block f hsp.lt (kJ hsp.lt)),hmT,htl⟩
 clear hsp hmS hkS hmT hkT htl;go_wp2;go_ret;obtain⟨hsp,hm,htl⟩:=HF.out;have hka:=kZ (b:=wT.heap.size) wT (Obj.cells #[Value.pointer (some ⟨q,0,none⟩),Value.slice al l0 cl,Value.slice at_ l1 ct,Value.slice as_ l2 cs,Value.pointer (some ⟨f,0,none⟩),Value.slice atl (n.tails n.letters).length ctl,Value.slice none 0 0,Value.slice none 0 0] 176) lQ;have hin:∀g,In wT g->g<(wT.alloc (Obj.cells #[Value.pointer (some ⟨q,0,none⟩),Value.slice al l0 cl,Value.slice at_ l1 ct,Value.slice as_ l2 cs,Value.pointer (some ⟨f,0,none⟩),Value.slice atl (n.tails n.letters).length ctl,Value.slice none 0 0,Value.slice none 0 0] 176)).heap.size∧g≠wT.heap.size:=fun g hg=>by
  have:g<wT.heap.size:=hg;simp;omega
 have e:∀g,In wT g->(wT.alloc (Obj.cells #[Value.pointer (some ⟨q,0,none⟩),Value.slice al l0 cl,Value.slice at_ l1 ct,Value.slice as_ l2 cs,Value.pointer (some ⟨f,0,none⟩),Value.slice atl (n.tails n.letters).length ctl,Value.slice none 0 0,Value.slice none 0 0] 176)).heap[g]? =wT.heap[g]? :=fun g hg=>lG _ _ _ hg;have hon:=Once.top HOK.out (Nt.tails_once HOK.out n.letters);have hm2:=hm.grown hka;have hss:=hm.ar.sets;rw[Ar.setsN_ints HG.out] at hss;refine⟨wT.heap.size,⟨n.rules,n.tails n.letters,n.letters,q,f,slice al l0 cl,slice at_ l1 ct,slice as_ l2 cs,slice atl (n.tails n.letters).length ctl,rv⟩,rfl,⟨rfl,rfl,rfl,rfl⟩,?_,hm2.ar,hsp.keep (e f hsp.lt),kJ hsp.lt,hm.keep.size,hm2.keep⟩;exact⟨gJ _ _,OwnI.nil _ _,OwnI.nil _ _,fun g hg=>(by cases hg),fun g _ hg=>(by cases hg),fun g _ hg=>(by cases hg),fun h=>h.2 rfl,fun g hg=>hg.1,by simp,(gG (e q hm.net.lq)).trans hm.net.c4,hin q hm.net.lq,(hm.net.rules.keep e).mono hin,HOK.out.eight,fun r hr=>lZ (HOK.out.rs r hr) htop,(htl.keep e).mono hin,hon.2,hon.1,(hss.keep e).mono hin,fun x hx=>lZ (Ar.setsN_lt HG.out x hx) htop,fun x hx=>absurd hx List.not_mem_nil,fun x hx=>absurd hx List.not_mem_nil⟩
def zBA (rows:List (List Int))(rules:List Int)(next:List Int)(i:Nat):Bool:=rules.getD i 0== -1&&decide (rows.getD i []=next)
def zAr (rows:List (List Int))(rules:List Int)(next:List Int):Nat:=(List.range rows.length).findIdx (zBA rows rules next)
theorem qP (n j:Nat)(hj:j<n):(List.range n).getD j 0=j:=by
 rw[lW,List.getElem?_range hj];rfl
theorem zNi (rows:List (List Int))(rules next:List Int)(j:Nat)(hj:j<rows.length)(h:zBA rows rules next j=true)(hn:∀i,i<j->zBA rows rules next i=false):zAr rows rules next=j:=
 zDb _ _ j (by rw[List.length_range];exact hj) (by rw[qP _ _ hj];exact h) fun i hi=>by rw[qP _ _ (by omega)];exact hn i hi
theorem zK6 (rows:List (List Int))(rules next:List Int)(hn:∀i,i<rows.length->zBA rows rules next i=false):zAr rows rules next=rows.length:=by
 have h:=zA8 (List.range rows.length) (zBA rows rules next) fun i hi=>by
  rw[List.length_range] at hi;rw[qP _ _ hi];exact hn i hi
 rw[List.length_range] at h;exact h
theorem zKa (rows:List (List Int))(rules next:List Int):zAr rows rules next<=rows.length:=by
 have h:(List.range rows.length).findIdx (zBA rows rules next)<=(List.range rows.length).length:=List.findIdx_le_length;rw[List.length_range] at h;exact h
theorem zJp (w:World)(kb:Nat)(nv rv tv:Value)(rows:List (List Int))(rules next:List Int)(hl:kb<w.heap.size)(h3:w.cell? ⟨kb,3,none⟩=some nv)(h4:w.cell? ⟨kb,4,none⟩=some rv)(hN:IntRows w (In w) nv rows)(hR:Ints w (In w) rv rules)(hrl:rules.length=rows.length)(hrn:rows.length<=1000000000000)(hT:Ints w (In w) tv next)(hlen:∀r∈rows,r.length<=1000000000000):
  Calls prog 95 #[pointer (some ⟨kb,0,none⟩),tv] w fun e w'=>e=returned (int i64 ((zAr rows rules next:Nat):Int))∧Grew w w':=by
 obtain⟨an,cn,rfl,_,_,hnc⟩:=hN;obtain⟨ar,cr,rfl,_,_,hrc⟩:=hR;rw[hrl] at h4 hrc;have HN:=vl hnc;have HR:=vl hrc;have HE:Hid (∀wr u i,i<rows.length->Grew w wr->Ints w (In w) u (rows.getD i [])->Ca 132 #[u,tv] wr fun e w'=>e=returned (bool (decide (rows.getD i []=next)))∧Grew w w'):=fun wr u i hi hk hu=>by
  refine(zIm wr u tv _ next (hu.grown hk) (hT.grown hk) (hlen _ (zS _ _ _ hi))).mono ?_;rintro e w2 ⟨rfl,hk2⟩;exact⟨rfl,hk.trans (hk2.lower hk.size hk.size)⟩
 have H1:=vl <| zNi rows rules next
 have H2:=vl <| zK6 rows rules next
 go_in;go_wp2;go_loopg [12] rows.length (fun k i wr=>∃j:Nat,k=rows.length-j∧j<=rows.length∧i=int i64 (j:Int)∧(∀i,i<j->zBA rows rules next i=false)∧Grew w wr)
 case atStart=>exact⟨0,rfl,lX,rfl,fun i hi=>by omega,⟨rfl,rfl,lQ,fun _ _ _=>rfl⟩⟩
 case round=>
  obtain⟨j,hgk,hj,rfl,hno,hkp⟩:=hrel;have HB:Hid (gk=rows.length-j∧(∀i,i<j->zBA rows rules next i=false)∧Grew w wr):=⟨hgk,hno,hkp⟩
  have x3:=zA h3 hl hkp;have x4:=zA h4 hl hkp;by_cases hj2:j<rows.length
  ·have i1:(j:Int)<(rows.length:Int):=by omega
   obtain⟨b1,o1,u,rfl,hb1,hc1,hu⟩:=HN.out j hj2;obtain⟨b2,o2,rfl,hb2,hc2⟩:=HR.out j hj2;obtain⟨au,cu,hu2,-⟩:=id hu;have y1:=zA hc1 hb1 hkp;have y2:=zA hc2 hb2 hkp;have HC:=vl <| HE.out wr u j hj2 hkp hu;have HV:Hid (zBA rows rules next j=(rules.getD j 0== -1&&decide (rows.getD j []=next))):=rfl;have HL3:Hid (zBA rows rules next j=true->zAr rows rules next=j):=fun h=>H1.out j hj2 h HB.out.2.1;have HN3:Hid (zBA rows rules next j=false->∀i,i<j+1->zBA rows rules next i=false):=fun h i hi=>by
    by_cases e:i=j
    ·rw[e];exact h
    ·exact HB.out.2.1 i (by omega)
   generalize (rows.getD j []).length=ul at *;subst hu2;generalize decide (rows.getD j []=next)=d at *;generalize rules.getD j 0=r at *;by_cases hr:r=-1
   ·subst hr
    cases d with
    |true=>
     have HR2:=vl <| HL3.out (by rw[HV.out];rfl);go_wp2_with (first|(go_at_call 132;refine HC.out.mono ?_;rintro e w5 ⟨rfl,hk5⟩))
     go_ret;exact⟨by rw[HR2.out];rfl,hk5⟩
    |false=>
     have HR2:=vl <| HN3.out (by rw[HV.out];rfl);go_wp2_with (first|(go_at_call 132;refine HC.out.mono ?_;rintro e w5 ⟨rfl,hk5⟩))
     go_roundg (rows.length-(j+1))
     case measure=>rw[HB.out.1];omega
     case rel=>exact⟨j+1,rfl,by omega,by go_num,HR2.out,hk5⟩
   ·have hc:(r== -1)=false:=by simp[hr]
    have HR2:=vl <| HN3.out (by rw[HV.out,hc];rfl);go_wp2;go_roundg (rows.length-(j+1))
    case measure=>rw[HB.out.1];omega
    case rel=>exact⟨j+1,rfl,by omega,by go_num,HR2.out,HB.out.2.2⟩
  ·have i1:(rows.length:Int)<=(j:Int):=by omega
   have HR2:=vl <| H2.out fun i hi=>hno i (by omega);go_wp2;go_ret;exact⟨by rw[HR2.out];rfl,HB.out.2.2⟩
section
theorem SoY.set {w:World}{X Y:Nat->Prop}{p b i:Nat}{s:Sq}{d:Sf}{x:Value}(h:SoY w X Y p s d)(hb:Y b)(hx:¬X b):SoY (w.setCell ⟨b,i,none⟩ x) X Y p s d:=by
 obtain⟨fv,mv,h,hY⟩:=h;obtain⟨hbl,hbp,hbf,hbm⟩:=hY b hb;have e:∀k,k≠b->(w.setCell ⟨b,i,none⟩ x).heap[k]? =w.heap[k]? :=fun k hk=>lJ _ _ _ _ hk;have eX:∀k,X k->(w.setCell ⟨b,i,none⟩ x).heap[k]? =w.heap[k]? :=fun k hk=>e k fun e2=>hx (e2 ▸ hk);exact⟨fv,mv,⟨(e p (Ne.symm hbp)).trans h.blk,zD h.own1 fun k _ _ hk=>e k fun e2=>hbf (by rw[hk,e2]),zD h.own2 fun k _ _ hk=>e k fun e2=>hbm (by rw[hk,e2]),h.ne,h.xf,h.xm,h.xp,fun g hg=>by rw[zC];exact h.xl g hg,by rw[zC];exact h.lp,(gG (eX _ h.xq)).trans h.net,h.xq,h.rls.keep eX,h.eight,h.rsm,h.tls.keep eX,h.tsm,h.tlen,h.sts.keep eX,h.ssm,h.fsm,h.msm⟩,fun g hg=>by rw[zC];exact hY g hg⟩
structure Kw (w1 w:World)(H p kb:Nat)(Z:Nat->Prop)(s:Sq)(d:Sf)(lv tv sv nv rv u8:Value)(us:Nat->Value)(rows:List (List Nat))(rules:List Int)(start:List Nat)(st dd:Int):Prop where
 blk:w.heap[kb]? =some (.cells #[lv,tv,sv,nv,rv,int i64 st,int i64 dd] 178)
 nOwn:Row w H 45 nv rows.length us
 each:∀i,i<rows.length->Ints w Z (us i) (ints (rows.getD i []))
 rOwn:OwnI w H rv rules
 stA:Ints w Z u8 (ints start)
 zr:∀g,Z g->some g≠rv.ownBlock
 zn:∀g,Z g->some g≠nv.ownBlock
 zk:∀g,Z g->g≠kb
 zH:∀g,Z g->H<=g
 so:SoY w (fun g=>g<H∧g≠p) (fun g=>Z g∨g=kb∨some g=nv.ownBlock∨some g=rv.ownBlock) p s d
 kbH:H<=kb
 keep:KeepX (fun g=>g<H∧g≠p) w1 w
section
variable {w1 w w2:World} {H p kb:Nat} {Z:Nat->Prop} {s:Sq} {d d':Sf} {lv tv sv nv rv u8 u:Value} {us:Nat->Value} {rows:List (List Nat)} {rules:List Int} {start l:List Nat} {st dd:Int}
theorem Kw.zl (h:Kw w1 w H p kb Z s d lv tv sv nv rv u8 us rows rules start st dd):∀g,Z g->g<w.heap.size:=by
 obtain⟨fv,mv,_,hY⟩:=h.so;exact fun g hg=>(hY g (.inl hg)).1
theorem Kw.kl (h:Kw w1 w H p kb Z s d lv tv sv nv rv u8 us rows rules start st dd):kb<w.heap.size:=(kQ.1 h.blk).1
theorem Kw.cells (h:Kw w1 w H p kb Z s d lv tv sv nv rv u8 us rows rules start st dd):w.cell? ⟨kb,3,none⟩=some nv∧w.cell? ⟨kb,4,none⟩=some rv∧w.cell? ⟨kb,5,none⟩=some (int i64 st)∧w.cell? ⟨kb,6,none⟩=some (int i64 dd)∧∀i,w.frozen? ⟨kb,i,none⟩=false:=by
 refine⟨?_,?_,?_,?_,fun i=>?_⟩
 all_goals first|(unfold cell?;rw[h.blk];rfl)|(unfold frozen?;rw[h.blk];simp)
theorem Kw.nbox (h:Kw w1 w H p kb Z s d lv tv sv nv rv u8 us rows rules start st dd):some kb≠nv.ownBlock∧some kb≠rv.ownBlock:=⟨zM h.nOwn h.blk (by decide),zM h.rOwn h.blk (by decide)⟩
theorem Kw.call {Z':Nat->Prop}(h:Kw w1 w H p kb Z s d lv tv sv nv rv u8 us rows rules start st dd)(hk:KeepX (fun g=>(g<H∧g≠p)∨(Z g∨g=kb∨some g=nv.ownBlock∨some g=rv.ownBlock)) w w2)(hZ:∀g,Z g->Z' g)(hZ2:∀g,Z' g->Z g∨w.heap.size<=g)(hs:SoY w2 (fun g=>g<H∧g≠p) (fun g=>Z' g∨g=kb∨some g=nv.ownBlock∨some g=rv.ownBlock) p s d'):Kw w1 w2 H p kb Z' s d' lv tv sv nv rv u8 us rows rules start st dd:=by
 have eZ:∀b,Z b->w2.heap[b]? =w.heap[b]? :=fun b hb=>hk.block b (.inr (.inl hb));have hH:=lY h.kbH (Nat.le_of_lt h.kl);refine⟨(hk.block kb (.inr (.inr (.inl rfl)))).trans h.blk,zD h.nOwn fun g _ _ hg=>hk.block g (.inr (.inr (.inr (.inl hg.symm)))),fun i hi=>((h.each i hi).keep eZ).mono hZ,zD h.rOwn fun g _ _ hg=>hk.block g (.inr (.inr (.inr (.inr hg.symm)))),(h.stA.keep eZ).mono hZ,fun g hg=>?_,fun g hg=>?_,fun g hg=>?_,fun g hg=>?_,hs,h.kbH,h.keep.trans (hk.mono fun k hk=>.inl hk)⟩
 ·rcases hZ2 g hg with h1|h1
  ·exact h.zr g h1
  ·intro e;have:=(h.rOwn.lt g e.symm).2;omega
 ·rcases hZ2 g hg with h1|h1
  ·exact h.zn g h1
  ·intro e;have:=(h.nOwn.lt g e.symm).2;omega
 ·rcases hZ2 g hg with h1|h1
  ·exact h.zk g h1
  ·have:=h.kl;omega
 ·rcases hZ2 g hg with h1|h1
  ·exact h.zH g h1
  ·omega
theorem Kw.grown (h:Kw w1 w H p kb Z s d lv tv sv nv rv u8 us rows rules start st dd)(hk:Grew w w2):Kw w1 w2 H p kb Z s d lv tv sv nv rv u8 us rows rules start st dd:=by
 obtain⟨fv,mv,hs,hY⟩:=id h.so;refine h.call (hk.kx fun k hk2=>?_) (fun _ h=>h) (fun _ h=>.inl h) (h.so.grown hk fun g hg=>⟨lZ (hY g hg).1 hk.size,.inl hg⟩);have:=hk2.elim (hs.xl k) fun e=>(hY k e).1;omega
theorem Kw.setC {i:Nat}{x:Value}{st' dd':Int}(h:Kw w1 w H p kb Z s d lv tv sv nv rv u8 us rows rules start st dd)(hb:(w.setCell ⟨kb,i,none⟩ x).heap[kb]? =some (.cells #[lv,tv,sv,nv,rv,int i64 st',int i64 dd'] 178)):Kw w1 (w.setCell ⟨kb,i,none⟩ x) H p kb Z s d lv tv sv nv rv u8 us rows rules start st' dd':=by
 have e:∀k,k≠kb->(w.setCell ⟨kb,i,none⟩ x).heap[k]? =w.heap[k]? :=fun k hk=>lJ _ _ _ _ hk;have hnb:=h.nbox;have hkH:=h.kbH;exact⟨hb,zD h.nOwn fun g _ _ hg=>e g fun e2=>hnb.1 (by rw[hg,e2]),fun i hi=>(h.each i hi).keep fun b hb=>e b (h.zk b hb),zD h.rOwn fun g _ _ hg=>e g fun e2=>hnb.2 (by rw[hg,e2]),h.stA.keep fun b hb=>e b (h.zk b hb),h.zr,h.zn,h.zk,h.zH,h.so.set (.inr (.inl rfl)) (fun e2=>by omega),h.kbH,h.keep.trans ⟨rfl,rfl,by rw[zC];exact lQ,fun k hk=>e k (by omega)⟩⟩
theorem Kw.setStart (h:Kw w1 w H p kb Z s d lv tv sv nv rv u8 us rows rules start st dd)(x:Int):Kw w1 (w.setCell ⟨kb,5,none⟩ (int i64 x)) H p kb Z s d lv tv sv nv rv u8 us rows rules start x dd:=h.setC (by simp[setCell,lU,h.blk])
theorem Kw.setDead (h:Kw w1 w H p kb Z s d lv tv sv nv rv u8 us rows rules start st dd)(x:Int):Kw w1 (w.setCell ⟨kb,6,none⟩ (int i64 x)) H p kb Z s d lv tv sv nv rv u8 us rows rules start st x:=h.setC (by simp[setCell,lU,h.blk])
theorem Kw.start_of (h:Kw w1 w H p kb Z s d lv tv sv nv rv u8 us rows rules start st dd)(hu:Ints w Z u (ints l)):Kw w1 w H p kb Z s d lv tv sv nv rv u us rows rules l st dd:={h with stA:=hu}
theorem Kw.snocN {o:Obj}{g cap m:Nat}(h:Kw w1 w H p kb Z s d lv tv sv nv rv u8 us rows rules start st dd)(hm:m=rows.length)(hu:Ints w Z u (ints l))(hown:w2.ownsRow H 45 1 (slice (some ⟨g,0,none⟩) (m+1) cap) (m+1) ((List.range m).map us++[u]))(hg:(w.alloc o).grownBy w2 nv.ownBlock)(hat:nv.ownBlock=some g∨w.heap.size<=g):
  Kw w1 (w2.setCell ⟨kb,3,none⟩ (slice (some ⟨g,0,none⟩) (m+1) cap)) H p kb Z s d lv tv sv (slice (some ⟨g,0,none⟩) (m+1) cap) rv u8 (fun i=>if i=m then u else us i) (rows++[l]) rules start st dd:=by
 subst hm;have hkl:=h.kl;have hkH:=h.kbH;have hnb:=h.nbox;have hbl:∀j,j<w.heap.size->some j≠nv.ownBlock->w2.heap[j]? =w.heap[j]? :=fun j hj hf=>(hg.block j (by simp;omega) hf).trans (lG _ _ _ (by omega));have hb:=(hbl kb hkl hnb.1).trans h.blk;have hsz:w.heap.size<=w2.heap.size:=lY (by simp) hg.size;have e:∀k,k≠kb->(w2.setCell ⟨kb,3,none⟩ (slice (some ⟨g,0,none⟩) (rows.length+1) cap)).heap[k]? =w2.heap[k]? :=fun k hk=>lJ _ _ _ _ hk;have eZ:∀k,Z k->(w2.setCell ⟨kb,3,none⟩ (slice (some ⟨g,0,none⟩) (rows.length+1) cap)).heap[k]? =w.heap[k]? :=fun k hk=>(e k (h.zk k hk)).trans (hbl k (h.zl k hk) (h.zn k hk));have hkg:kb≠g:=fun e2=>by
  rcases hat with ha|ha
  ·exact hnb.1 (by rw[ha,e2])
  ·omega
 have hR2:=zR hg h.rOwn fun k hk=>xN h.rOwn h.nOwn (by decide) hk;have hgl:=(hown.lt g rfl).2;have hso:SoY w2 (fun g=>g<H∧g≠p) (fun k=>Z k∨k=kb∨some k=(Value.slice (some ⟨g,0,none⟩) (rows.length+1) cap).ownBlock∨some k=rv.ownBlock) p s d:=by
  refine h.so.app (v:=nv) (fun k hk=>⟨.inr (.inr (.inl hk)),fun e2=>by have:=(h.nOwn.lt k hk.symm).1;omega⟩) hg hat hgl fun k hk=>?_;rcases hk with h1|h1|h1|h1
  ·exact .inl (.inl h1)
  ·exact .inl (.inr (.inl h1))
  ·exact .inr (by simpa[Value.ownBlock] using h1)
  ·exact .inl (.inr (.inr (.inr h1)))
 refine⟨by simp[setCell,lU,hb],?_,fun i hi=>?_,zD hR2 fun k _ _ hk=>e k fun e2=>hnb.2 (by rw[hk,e2]),h.stA.keep eZ,h.zr,fun k hk e2=>?_,h.zk,h.zH,hso.set (.inr (.inl rfl)) (fun e2=>by omega),h.kbH,h.keep.trans ⟨hg.os,hg.output,by rw[zC];exact hsz,fun k hk=>(e k (by omega)).trans (hbl k (by omega) fun e2=>by have:=(h.nOwn.lt k e2.symm).1;omega)⟩⟩
 ·have h2:Row w2 H 45 (slice (some ⟨g,0,none⟩) (rows.length+1) cap) (rows.length+1) (fun i=>if i=rows.length then u else us i):=by
   unfold Row;rw[jU];rw[show (List.range rows.length).map (fun i=>if i=rows.length then u else us i)=(List.range rows.length).map us from List.map_congr_left fun i hi=>by rw[if_neg (by have:=List.mem_range.1 hi;omega)]];rw[if_pos rfl];exact hown
  have e3:(rows++[l]).length=rows.length+1:=by simp
  rw[e3];exact zD h2 fun k _ _ hk=>e k fun e2=>by
   have:g=k:=by simpa[Value.ownBlock] using hk
   omega
 ·by_cases e3:i=rows.length
  ·subst e3
   rw[if_pos rfl,lW,gQ lQ,Nat.sub_self];exact hu.keep eZ
  ·have hi2:i<rows.length:=by simp at hi;omega
   rw[if_neg e3,lW,kW hi2,<-lW];exact(h.each i hi2).keep eZ
 ·have e4:k=g:=by simpa[Value.ownBlock] using e2
  subst e4;rcases hat with ha|ha
  ·exact h.zn k hk ha.symm
  ·have:=h.zl k hk;omega
theorem Kw.snocR {o:Obj}{g cap m:Nat}{x:Int}(h:Kw w1 w H p kb Z s d lv tv sv nv rv u8 us rows rules start st dd)(hm:m=rules.length)(hown:w2.ownsRow H 3 1 (slice (some ⟨g,0,none⟩) (m+1) cap) (m+1) ((rules.map fun x=>int i64 x)++[int i64 x]))(hg:(w.alloc o).grownBy w2 rv.ownBlock)(hat:rv.ownBlock=some g∨w.heap.size<=g):
  Kw w1 (w2.setCell ⟨kb,4,none⟩ (slice (some ⟨g,0,none⟩) (m+1) cap)) H p kb Z s d lv tv sv nv (slice (some ⟨g,0,none⟩) (m+1) cap) u8 us rows (rules++[x]) start st dd:=by
 subst hm;have hkl:=h.kl;have hkH:=h.kbH;have hnb:=h.nbox;have hbl:∀j,j<w.heap.size->some j≠rv.ownBlock->w2.heap[j]? =w.heap[j]? :=fun j hj hf=>(hg.block j (by simp;omega) hf).trans (lG _ _ _ (by omega));have hb:=(hbl kb hkl hnb.2).trans h.blk;have hsz:w.heap.size<=w2.heap.size:=lY (by simp) hg.size;have e:∀k,k≠kb->(w2.setCell ⟨kb,4,none⟩ (slice (some ⟨g,0,none⟩) (rules.length+1) cap)).heap[k]? =w2.heap[k]? :=fun k hk=>lJ _ _ _ _ hk;have eZ:∀k,Z k->(w2.setCell ⟨kb,4,none⟩ (slice (some ⟨g,0,none⟩) (rules.length+1) cap)).heap[k]? =w.heap[k]? :=fun k hk=>(e k (h.zk k hk)).trans (hbl k (h.zl k hk) (h.zr k hk));have hkg:kb≠g:=fun e2=>by
  rcases hat with ha|ha
  ·exact hnb.2 (by rw[ha,e2])
  ·omega
 have hN2:=zR hg h.nOwn fun k hk=>xN h.nOwn h.rOwn (by decide) hk;have hgl:=(hown.lt g rfl).2;have hso:SoY w2 (fun g=>g<H∧g≠p) (fun k=>Z k∨k=kb∨some k=nv.ownBlock∨some k=(Value.slice (some ⟨g,0,none⟩) (rules.length+1) cap).ownBlock) p s d:=by
  refine h.so.app (v:=rv) (fun k hk=>⟨.inr (.inr (.inr hk)),fun e2=>by have:=(h.rOwn.lt k hk.symm).1;omega⟩) hg hat hgl fun k hk=>?_;rcases hk with h1|h1|h1|h1
  ·exact .inl (.inl h1)
  ·exact .inl (.inr (.inl h1))
  ·exact .inl (.inr (.inr (.inl h1)))
  ·exact .inr (by simpa[Value.ownBlock] using h1)
 refine⟨by simp[setCell,lU,hb],zD hN2 fun k _ _ hk=>e k fun e2=>hnb.1 (by rw[hk,e2]),fun i hi=>(h.each i hi).keep eZ,?_,h.stA.keep eZ,fun k hk e2=>?_,h.zn,h.zk,h.zH,hso.set (.inr (.inl rfl)) (fun e2=>by omega),h.kbH,h.keep.trans ⟨hg.os,hg.output,by rw[zC];exact hsz,fun k hk=>(e k (by omega)).trans (hbl k (by omega) fun e2=>by have:=(h.rOwn.lt k e2.symm).1;omega)⟩⟩
 ·exact zD (OwnI.snoc hown) fun k _ _ hk=>e k fun e2=>by
   have:g=k:=by simpa[Value.ownBlock] using hk
   omega
 ·have e4:k=g:=by simpa[Value.ownBlock] using e2
  subst e4;rcases hat with ha|ha
  ·exact h.zr k hk ha.symm
  ·have:=h.zl k hk;omega
end
end
section
theorem Sq.kindS_ml (s:Sq)(d:Sf)(x:Nat)(h:d.marks.length<=d.found.length):(s.kindS d x).marks.length<=(s.kindS d x).found.length:=by
 unfold Sq.kindS;split
 ·split
  ·exact h
  ·simp;omega
 ·simp;omega
theorem Sq.rowTo_ml (s:Sq)(next:Nat)(d:Sf)(j:Nat)(h:d.marks.length<=d.found.length):(s.rowTo next d j).2.marks.length<=(s.rowTo next d j).2.found.length:=by
 induction j with
 |zero=>exact h
 |succ j ih=>exact s.kindS_ml _ _ ih
theorem Sq.kind_lt (s:Sq)(d:Sf)(x:Nat):s.kind d x<(s.kindS d x).found.length:=by
 have:=s.look_le d x;unfold Sq.kind Sq.kindS;by_cases h:s.look d x<d.found.length
 ·rw[if_pos h,if_pos h]
  by_cases h2:s.tail d x<0
  ·rw[if_pos h2,if_pos h2];exact h
  ·rw[if_neg h2,if_neg h2];simp
 ·rw[if_neg h,if_neg h];simp
theorem Sq.rowTo_lt (s:Sq)(next:Nat)(d:Sf)(j:Nat):∀k∈(s.rowTo next d j).1,k<(s.rowTo next d j).2.found.length:=by
 induction j with
 |zero=>exact fun k hk=>absurd hk List.not_mem_nil
 |succ j ih=>
  intro k hk;have hm:=(s.kindS_len (s.rowTo next d j).2 (next&&&s.sets.getD j 0)).2.2;rcases kU.1 hk with h1|h1
  ·have:=ih k h1
   show k<(s.kindS (s.rowTo next d j).2 (next&&&s.sets.getD j 0)).found.length;omega
  ·rw[kY.1 h1]
   exact s.kind_lt _ _
def Sq.Like (s t:Sq):Prop:=s.rules=t.rules∧s.tails=t.tails∧s.sets=t.sets
theorem Sq.Like.kind {s t:Sq}(h:s.Like t)(d:Sf)(x:Nat):s.kind d x=t.kind d x∧s.kindS d x=t.kindS d x:=by
 obtain⟨h1,h2,h3⟩:=h;unfold Sq.kind Sq.kindS Sq.tail Sq.look;rw[h1,h2];exact⟨rfl,rfl⟩
theorem Sq.Like.row {s t:Sq}(h:s.Like t)(next:Nat)(d:Sf)(j:Nat):s.rowTo next d j=t.rowTo next d j:=by
 induction j with
 |zero=>rfl
 |succ j ih=>
  unfold Sq.rowTo;rw[ih,(h.kind _ _).1,(h.kind _ _).2,h.2.2]
def Sq.sortGo (s:Sq)(ahead:Nat->Nat)(ends most:Nat):Nat->Nat->Sf->List (List Nat)->List Int->Option (Sf×List (List Nat)×List Int)
 |0,_,d,rows,rules=>some (d,rows,rules)
 |f+1,i,d,rows,rules=>if i<d.found.length then(if d.found.length>most then none else s.sortGo ahead ends most f (i+1) (s.rowTo (zAt ahead (d.found.getD i 0)) d s.sets.length).2 (rows++[(s.rowTo (zAt ahead (d.found.getD i 0)) d s.sets.length).1]) (rules++[vA s.rules (d.found.getD i 0&&&ends)])) else some (d,rows,rules)
structure Kd where
 rows:List (List Nat)
 rules:List Int
 start:Nat
 dead:Nat
def Nt.sq (n:Nt):Sq:=⟨n.rules,n.tails n.letters,n.letters,0,0,undef,undef,undef,undef,undef⟩
def Nt.start (n:Nt):List Nat×Sf:=n.sq.rowTo n.first ⟨[],[]⟩ n.letters.length
def Nt.ended (n:Nt)(d:Sf)(rows:List (List Nat))(rules:List Int):Kd:=
 if zAr (rows.map ints) rules (ints n.start.1)=rows.length then⟨rows++[n.start.1],rules++[-1],zAr (rows.map ints) rules (ints n.start.1),n.sq.kind d 0⟩ else⟨rows,rules,zAr (rows.map ints) rules (ints n.start.1),n.sq.kind d 0⟩
def Nt.sort (n:Nt)(most:Nat):Option Kd:=
 match n.sq.sortGo n.ahead n.ends most (most+1) 0 n.start.2 [] [] with
 |none=>none
 |some (d,rows,rules)=>some (n.ended d rows rules)
section
variable {w1 w:World} {H p kb:Nat} {Z:Nat->Prop} {s:Sq} {d:Sf} {lv tv sv nv rv u8:Value} {us:Nat->Value} {rows:List (List Nat)} {rules:List Int} {start:List Nat} {st dd:Int}
theorem Kw.row (h:Kw w1 w H p kb Z s d lv tv sv nv rv u8 us rows rules start st dd)(hl:d.marks.length<=d.found.length)(hl2:d.found.length+s.sets.length<=100000000000)(next:Nat)(hx:next<16777216):
  Calls prog 91 #[pointer (some ⟨p,0,none⟩),int i64 next] w fun e w'=>∃u Z',e=returned u∧Kw w1 w' H p kb Z' s (s.rowTo next d s.sets.length).2 lv tv sv nv rv u8 us rows rules start st dd∧Ints w' Z' u (ints (s.rowTo next d s.sets.length).1):=by
 refine(zFJ w _ _ p s d h.so (by omega) hl2 next hx).mono ?_;rintro e w' ⟨u,rfl,ho,hs,hk⟩;refine⟨u,fun g=>Z g∨some g=u.ownBlock,rfl,h.call hk (fun g hg=>.inl hg) (fun g hg=>hg.imp id fun e=>(ho.lt g e.symm).1) (hs.mono fun g hg=>?_),zBM ho fun g hg=>.inr hg.symm⟩;rcases hg with(h1|h1)|h1
 ·exact .inl (.inl h1)
 ·exact .inr h1
 ·exact .inl (.inr h1)
theorem Kw.kindOf (h:Kw w1 w H p kb Z s d lv tv sv nv rv u8 us rows rules start st dd)(hl:d.marks.length<=d.found.length)(hl2:d.found.length<=100000000000)(x:Nat)(hx:x<16777216):
  Calls prog 94 #[pointer (some ⟨p,0,none⟩),int i64 x] w fun e w'=>e=returned (int i64 (s.kind d x))∧Kw w1 w' H p kb Z s (s.kindS d x) lv tv sv nv rv u8 us rows rules start st dd:=by
 refine(zIh h.so (by omega) hl2 x hx).mono ?_;rintro e w' ⟨rfl,hs,hk⟩;exact⟨rfl,h.call hk (fun g hg=>hg) (fun g hg=>.inl hg) hs⟩
theorem Kw.ruleOf (h:Kw w1 w H p kb Z s d lv tv sv nv rv u8 us rows rules start st dd)(x:Nat)(hx:x<16777216):
  Calls prog 93 #[pointer (some ⟨p,0,none⟩),int i64 x] w fun e w'=>e=returned (int i64 (vA s.rules x))∧w'=w:=by
 obtain⟨fv,mv,hs,_⟩:=h.so;have:=hs.so;exact zBl w p s.q s.rv s.rules this.net this.rcell this.at_ this.eight this.small x hx
theorem Kw.found (h:Kw w1 w H p kb Z s d lv tv sv nv rv u8 us rows rules start st dd):∃fa cap,w.cell? ⟨p,6,none⟩=some (slice fa d.found.length cap)∧w.cell? ⟨p,4,none⟩=some (pointer (some ⟨s.f,0,none⟩))∧∀i,i<d.found.length->∃g,fa=some ⟨g,0,none⟩∧w.cell? ⟨g,i,none⟩=some (int i64 ((d.found.getD i 0:Nat):Int))∧d.found.getD i 0<16777216:=by
 obtain⟨fv,mv,hs,_⟩:=h.so;obtain⟨fa,cap,hf⟩:=hs.own1.form;rw[zN] at hf;refine⟨fa,cap,by rw[<-hf];exact hs.cells.2.2.2.2.1,hs.cells.2.2.1,fun i hi=>?_⟩;have ho:=hs.own1;rw[hf] at ho;obtain⟨g,rfl⟩:=ho.some (by rw[zN];omega);have:=ho.cell i (by rw[zN];exact hi);rw[vI] at this;exact⟨g,rfl,this,hs.fsm _ (zS _ _ 0 hi)⟩
end
structure KdAt (w:World)(kb:Nat)(a:Ar)(k:Kd):Prop where
 lk:kb<w.heap.size
 all:∃lv tv sv nv rv,w.heap[kb]? =some (.cells #[lv,tv,sv,nv,rv,int i64 (k.start:Int),int i64 (k.dead:Int)] 178)∧ArAt w lv tv sv a∧IntRows w (In w) nv (k.rows.map ints)∧Ints w (In w) rv k.rules
theorem Kw.rowsAt {w1 w:World}{H p kb:Nat}{Z:Nat->Prop}{s:Sq}{d:Sf}{lv tv sv nv rv u8:Value}{us:Nat->Value}{rows:List (List Nat)}{rules:List Int}{start:List Nat}{st dd:Int}(h:Kw w1 w H p kb Z s d lv tv sv nv rv u8 us rows rules start st dd):IntRows w (In w) nv (rows.map ints):=by
 have hg:∀i,(rows.map ints).getD i []=ints (rows.getD i []):=fun i=>by
  rw[lW,lW,gU];cases rows[i]? <;> rfl
 by_cases h0:rows.length=0
 ·rcases h.nOwn.2 with⟨hv,_⟩|⟨g,cap,cur,hv,hH,hh,h1,h2,h3,h4⟩
  ·exact⟨none,0,by rw[hv,kV,h0],by rw[kV,h0];exact lQ,by unfold maxLen;omega,fun i hi=>by rw[kV] at hi;omega⟩
  ·exact⟨_,cap,by rw[hv,kV],by rw[kV];exact h1,h2,fun i hi=>by rw[kV] at hi;omega⟩
 ·obtain⟨g,cap,hv,hH,hl,h1,h2,h3,_⟩:=h.nOwn.get (by omega)
  refine⟨_,cap,by rw[hv,kV],by rw[kV];exact h1,h2,fun i hi=>?_⟩;rw[kV] at hi;refine⟨g,0,us i,rfl,hl,by rw[Nat.zero_add];exact h3 i hi,?_⟩;rw[hg];exact(h.each i hi).mono h.zl
end
section
attribute [local go_sem ↓] Go.wp_at_zero Go.wp_at_succ
def zOp (w1 w:World)(H p kb:Nat)(s:Sq)(d:Sf)(lv tv sv u8:Value)(rows:List (List Nat))(rules:List Int)(start:List Nat)(st dd:Int):Prop:=∃Z nv rv us,Kw w1 w H p kb Z s d lv tv sv nv rv u8 us rows rules start st dd
def zBx (w:World)(n:Nt)(most:Nat)(e:Ending)(w':World):Prop:=
 match n.sort most with
 |none=>e=returned (tuple #[pointer none,bool false])∧Grew w w'
 |some k=>∃kb,e=returned (tuple #[pointer (some ⟨kb,0,none⟩),bool true])∧KdAt w' kb n.areas k∧Grew w w'
theorem zKK {w w':World}{n:Nt}{most:Nat}(h:n.sort most=none)(hk:Grew w w'):zBx w n most (returned (tuple #[pointer none,bool false])) w':=by
 unfold zBx;rw[h];exact⟨rfl,hk⟩
theorem zF6 {w w':World}{n:Nt}{most kb:Nat}{k:Kd}(h:n.sort most=some k)(hk:KdAt w' kb n.areas k∧Grew w w'):zBx w n most (returned (tuple #[pointer (some ⟨kb,0,none⟩),bool true])) w':=by
 unfold zBx;rw[h];exact⟨kb,rfl,hk.1,hk.2⟩
theorem Kw.begin {w1:World}{p:Nat}{s:Sq}(h:SoAt w1 (fun g=>g<w1.heap.size∧g≠p) p s ⟨[],[]⟩ (slice none 0 0) (slice none 0 0))(lv tv sv:Value):
  Kw w1 (w1.alloc (.cells #[lv,tv,sv,slice none 0 0,slice none 0 0,int i64 0,int i64 0] 178)) w1.heap.size p w1.heap.size (fun _=>False) s ⟨[],[]⟩ lv tv sv (slice none 0 0) (slice none 0 0) (slice none 0 0) (fun _=>undef) [] [] [] 0 0:=by
 have hp:=h.lp;refine⟨gJ _ _,ownsRow_nil _ _ _ _,fun i hi=>absurd hi (Nat.not_lt_zero _),OwnI.nil _ _,⟨none,0,rfl,lQ,by unfold maxLen;omega,fun i hi=>absurd hi (Nat.not_lt_zero _)⟩,fun g hg=>hg.elim,fun g hg=>hg.elim,fun g hg=>hg.elim,fun g hg=>hg.elim,⟨_,_,h.grown (kZ _ _ lQ),fun g hg=>?_⟩,lQ,⟨rfl,rfl,by simp,fun k hk=>lG _ _ _ hk.1⟩⟩;rcases hg with h1|h1|h1|h1
 ·exact h1.elim
 ·subst h1
  exact⟨by simp,by omega,fun e=>(by cases e),fun e=>(by cases e)⟩
 ·cases h1
 ·cases h1
theorem zMo {w:World}{S:Nat->Prop}{v:Value}{l:List Int}{p:Nat}(h:Ints w S v l)(hp:∀i x,w.cell? ⟨p,i,none⟩≠some (int i64 x)):Ints w (fun g=>S g∧g≠p) v l:=by
 obtain⟨ao,cap,hv,h1,h2,h3⟩:=h;refine⟨ao,cap,hv,h1,h2,fun i hi=>?_⟩;obtain⟨b,o,ha,hb,hc⟩:=h3 i hi;exact⟨b,o,ha,⟨hb,fun e=>hp (o+i) _ (by rw[<-e];exact hc)⟩,hc⟩
theorem SoAt.no_int {w:World}{X:Nat->Prop}{p:Nat}{s:Sq}{d:Sf}{fv mv lv tv sv tl:Value}(h:SoAt w X p s d fv mv)(h1:∃a n c,s.lv=slice a n c)(h2:∃a n c,s.tv=slice a n c)(h3:∃a n c,s.sv=slice a n c)(h4:∃a n c,s.tl=slice a n c)(h5:∃a n c,fv=slice a n c)(h6:∃a n c,mv=slice a n c):∀i x,w.cell? ⟨p,i,none⟩≠some (int i64 x):=by
 intro i x e;obtain⟨_,_,_,h1⟩:=h1;obtain⟨_,_,_,h2⟩:=h2;obtain⟨_,_,_,h3⟩:=h3;obtain⟨_,_,_,h4⟩:=h4;obtain⟨_,_,_,h5⟩:=h5;obtain⟨_,_,_,h6⟩:=h6;unfold cell? at e;rw[h.blk,h1,h2,h3,h4,h5,h6] at e;rcases i with _|_|_|_|_|_|_|_|i
 all_goals simp at e
theorem zMy {w w1 w2:World}{H p kb:Nat}{Z:Nat->Prop}{s:Sq}{d:Sf}{lv tv sv nv rv u8:Value}{us:Nat->Value}{rows:List (List Nat)}{rules:List Int}{start:List Nat}{st dd:Nat}{a:Ar}(h:Kw w1 w2 H p kb Z s d lv tv sv nv rv u8 us rows rules start st dd)(hH:H=w1.heap.size)(hp:∀i x,w1.cell? ⟨p,i,none⟩≠some (int i64 x))(har:ArAt w1 lv tv sv a):KdAt w2 kb a ⟨rows,rules,st,dd⟩:=by
 have e:∀v l,Ints w1 (fun g=>g<H∧g≠p) v l->Ints w2 (In w2) v l:=fun v l hv=>(hv.keep fun b hb=>h.keep.block b hb).mono fun b hb=>by
  have h1:b<w1.heap.size:=by rw[<-hH];exact hb.1
  exact lZ h1 h.keep.size
 have a:∀v l,Ints w1 (In w1) v l->Ints w1 (fun g=>g<H∧g≠p) v l:=fun v l hv=>(zMo hv hp).mono fun g hg=>⟨by rw[hH];exact hg.1,hg.2⟩
 exact⟨h.kl,lv,tv,sv,nv,rv,h.blk,⟨e _ _ (a _ _ har.lows),e _ _ (a _ _ har.letters),e _ _ (a _ _ har.sets)⟩,h.rowsAt,zAE h.rOwn⟩
end
section
attribute [local go_sem ↓] Go.wp_at_zero Go.wp_at_succ
theorem zI3 (w:World)(q:Nat)(n:Nt)(sv fv rv ev:Value)(hN:NetAt w q n sv fv rv ev)(ok:n.Ok)(fit:n.Fits)(most:Nat)(hmost:most<=1000000000):
  Calls prog 61 #[pointer (some ⟨q,0,none⟩),int i64 (most:Int)] w (zBx w n most):=by
 obtain⟨i0,hi0,hz0,hz1,hz2⟩:=info_parts yL;obtain⟨ii1,hi1,hy0,hy1,hy2⟩:=info_parts zFj;have HS:Hid (Ca 90 #[pointer (some ⟨q,0,none⟩)] w fun e w'=>∃p s,e=returned (pointer (some ⟨p,0,none⟩))∧(s.rules=n.rules∧s.tails=n.tails n.letters∧s.sets=n.letters∧s.q=q)∧SoAt w' (fun g=>g<w'.heap.size∧g≠p) p s ⟨[],[]⟩ (slice none 0 0) (slice none 0 0)∧ArAt w' s.lv s.tv s.sv n.areas∧SpAt w' s.f n.ahead∧s.f≠p∧w.heap.size<=p∧Grew w w'):=zEi w q n sv fv rv ev hN ok fit;have HN:Hid (NetAt w q n sv fv rv ev):=hN;have hlq:=hN.lq;have htop:=ok.top;have hfirst:=ok.first
 have hends:=ok.ends;have hlet:n.letters.length<=20000000004:=by
  have:=(zBm n.sets).2.2.2;have:=fit.few;show(xZ n.sets).setsN.length<=_;rw[Ar.setsN_len];omega
 have HAL:Hid (∀i,n.ahead i<16777216):=fun i=>zLW _ (fun x hx=>lZ (ok.fs x hx) htop) _ i;have HSP:Hid (∀x,zAt n.ahead x<16777216):=zM2 _ HAL.out;clear hN ok fit;go_enter func61,ntmps61
 go_wp2_with (first|(go_at_call 90;refine HS.out.mono ?_;rintro e w1 ⟨p,s,rfl,hs1,hso,har,hsp,hfp,hpH,hk1⟩;obtain⟨a1,c1,hf1,-⟩:=id har.lows;obtain⟨a2,c2,hf2,-⟩:=id har.letters;obtain⟨a3,c3,hf3,-⟩:=id har.sets;have x1:w1.cell? ⟨p,1,none⟩=some (slice a1 n.areas.lows.length c1):=(by rw[<-hf1];unfold cell?;rw[hso.blk];rfl);have x2:w1.cell? ⟨p,2,none⟩=some (slice a2 n.areas.letters.length c2):=(by rw[<-hf2];unfold cell?;rw[hso.blk];rfl);have x3:w1.cell? ⟨p,3,none⟩=some (slice a3 n.areas.sets.length c3):=(by rw[<-hf3];unfold cell?;rw[hso.blk];rfl);have HQ:Hid ((s.rules=n.rules∧s.tails=n.tails n.letters∧s.sets=n.letters∧s.q=q)∧SoAt w1 (fun g=>g<w1.heap.size∧g≠p) p s ⟨[],[]⟩ (slice none 0 0) (slice none 0 0)∧ArAt w1 (slice a1 n.areas.lows.length c1) (slice a2 n.areas.letters.length c2) (slice a3 n.areas.sets.length c3) n.areas∧SpAt w1 s.f n.ahead∧s.f≠p∧(∃a n c,s.lv=slice a n c)∧(∃a n c,s.tv=slice a n c)∧(∃a n c,s.sv=slice a n c)):=⟨hs1,hso,(by rw[<-hf1,<-hf2,<-hf3];exact har),hsp,hfp,⟨_,_,_,hf1⟩,⟨_,_,_,hf2⟩,⟨_,_,_,hf3⟩⟩;have y2:=(HN.out.grown hk1).c2;have hlq1:q<w1.heap.size:=(HN.out.grown hk1).lq;have hnqp:q≠p:=(by omega);clear hs1 hso har hsp hfp hf1 hf2 hf3)|(go_at_call 91;refine((Kw.begin HQ.out.2.1 _ _ _).row lQ (by rw[HQ.out.1.2.2.1];simp;omega) n.first (by omega)).mono ?_;rintro e w2 ⟨u8,Z2,rfl,K2,hu8⟩;obtain⟨a8,c8,hf8,-⟩:=id hu8;have HK2:Hid (zOp w1 w2 w1.heap.size p w1.heap.size s (s.rowTo n.first ⟨[],[]⟩ s.sets.length).2 (slice a1 n.areas.lows.length c1) (slice a2 n.areas.letters.length c2) (slice a3 n.areas.sets.length c3) u8 [] [] (s.rowTo n.first ⟨[],[]⟩ s.sets.length).1 0 0):=⟨_,_,_,_,K2.start_of hu8⟩;subst hf8;clear K2 hu8))
 have HLK:Hid (s.Like n.sq):=⟨HQ.out.1.1,HQ.out.1.2.1,HQ.out.1.2.2.1⟩
 have hsl:s.sets.length=n.letters.length:=by rw[HQ.out.1.2.2.1]
 have hst:s.rowTo n.first ⟨[],[]⟩ s.sets.length=n.start:=by rw[hsl];exact HLK.out.row _ _ _
 rw[hst] at HK2 ⊢;have hst2:n.start.2.marks.length<=n.start.2.found.length:=by rw[<-hst];exact s.rowTo_ml _ _ _ lQ
 have HRL:Hid (s.rules=n.rules):=HQ.out.1.1;have HE3:Hid (∀wr,KeepX (fun g=>g<w1.heap.size∧g≠p) w1 wr->wr.cell? ⟨q,3,none⟩=some (int i64 (n.ends:Int))):=fun wr hk=>(gG (hk.block q ⟨hlq1,hnqp⟩)).trans (HN.out.grown hk1).c3;have HSF:Hid (∀wr,KeepX (fun g=>g<w1.heap.size∧g≠p) w1 wr->SpAt wr s.f n.ahead):=fun wr hk=>HQ.out.2.2.2.1.keep (hk.block s.f ⟨HQ.out.2.2.2.1.lt,HQ.out.2.2.2.2.1⟩);have HKP:Hid (∀wr,KeepX (fun g=>g<w1.heap.size∧g≠p) w1 wr->Grew w wr):=fun wr hk=>hk1.trans ⟨hk.os,hk.output,hk.size,fun k h1 _=>hk.block k ⟨lZ h1 hk1.size,by omega⟩⟩;have HK1:Hid (Grew w w1):=hk1;have HST:Hid (n.start=n.start):=rfl;clear hk1 hst x1 x2 x3 y2 HS;generalize hu8:Value.slice a8 (ints n.start.1).length c8=u8 at *;have HU8:Hid (Value.slice a8 (ints n.start.1).length c8=u8):=hu8;clear hu8;go_loopg [9] (most+1) (fun k i wr=>∃(j:Nat) (d:Sf) (rows:List (List Nat)) (rules:List Int),k=most+1-j∧(j<=most∧j<=d.found.length∧rows.length=j∧rules.length=j∧d.marks.length<=d.found.length∧∀r∈rows,r.length=n.letters.length)∧i=int i64 (j:Int)∧zOp w1 wr w1.heap.size p w1.heap.size s d (slice a1 n.areas.lows.length c1) (slice a2 n.areas.letters.length c2) (slice a3 n.areas.sets.length c3) u8 rows rules n.start.1 0 0∧n.sq.sortGo n.ahead n.ends most (most+1) 0 n.start.2 [] []=n.sq.sortGo n.ahead n.ends most (most+1-j) j d rows rules)
 case atStart=>exact⟨0,n.start.2,[],[],rfl,⟨lX,lX,rfl,rfl,hst2,fun r hr=>absurd hr List.not_mem_nil⟩,rfl,HK2.out,rfl⟩
 case round=>
  obtain⟨j,d,rows,rules,hgk,⟨hj1,hj2,hj3,hj4,hml,hrl⟩,rfl,⟨Z,nv,rv2,us,hK⟩,hgo⟩:=hrel;have HB:Hid (gk=most+1-j∧Kw w1 wr w1.heap.size p w1.heap.size Z s d (slice a1 n.areas.lows.length c1) (slice a2 n.areas.letters.length c2) (slice a3 n.areas.sets.length c3) nv rv2 u8 us rows rules n.start.1 0 0∧n.sq.sortGo n.ahead n.ends most (most+1) 0 n.start.2 [] []=n.sq.sortGo n.ahead n.ends most (most+1-j) j d rows rules):=⟨hgk,hK,hgo⟩
  obtain⟨fa,fc,z6,z4,hfc⟩:=hK.found;have HFC:Hid (∀i,i<d.found.length->∃g,fa=some ⟨g,0,none⟩∧wr.cell? ⟨g,i,none⟩=some (int i64 ((d.found.getD i 0:Nat):Int))∧d.found.getD i 0<16777216):=hfc;have HRW:Hid (∀r∈rows,r.length=n.letters.length):=hrl;clear hgk hgo hfc hrl HK2;by_cases hjf:j<d.found.length
  ·have i1:(j:Int)<(d.found.length:Int):=by omega
   by_cases hmo:d.found.length>most
   ·have i2:(d.found.length:Int)>(most:Int):=by omega
    have HZ:Hid (n.sort most=none):=by
     show _=_;unfold Nt.sort;rw[HB.out.2.2,show most+1-j=(most-j)+1 by omega];unfold Sq.sortGo;rw[if_pos hjf,if_pos hmo]
    clear hK;go_wp2_with fail;refine dZ (results_tmp2 rfl _ _ _) rfl ?_;exact zKK HZ.out (HKP.out _ HB.out.2.1.keep)
   ·have i2:¬((d.found.length:Int)>(most:Int)):=by omega
    obtain⟨g,rfl,hc6,hxl⟩:=HFC.out j hjf;have HGo2:Hid (n.sq.sortGo n.ahead n.ends most (most+1) 0 n.start.2 [] []=n.sq.sortGo n.ahead n.ends most (most+1-(j+1)) (j+1) (n.sq.rowTo (zAt n.ahead (d.found.getD j 0)) d n.letters.length).2 (rows++[(n.sq.rowTo (zAt n.ahead (d.found.getD j 0)) d n.letters.length).1]) (rules++[vA n.rules (d.found.getD j 0&&&n.ends)])):=by
     show _=_;rw[HB.out.2.2,show most+1-j=(most+1-(j+1))+1 by omega];show(if j<d.found.length then(if d.found.length>most then none else _) else _)=_;rw[if_pos hjf,if_neg hmo];rfl
    have hra:d.found.getD j 0&&&n.ends<16777216:=Nat.lt_of_le_of_lt Nat.and_le_left hxl;have hand:bits .and i64 ((d.found.getD j 0:Nat):Int) (n.ends:Int)=((d.found.getD j 0&&&n.ends:Nat):Int):=qB _ _ (by omega) (by omega);have HOF:Hid (∀x:Nat,x<16777216->Ca 92 #[pointer (some ⟨s.f,0,none⟩),int i64 (x:Int)] wr fun e w'=>e=returned (int i64 ((zAt n.ahead x:Nat):Int))∧Grew wr w'):=fun x hx=>zBH wr s.f n.ahead (HSF.out wr HB.out.2.1.keep) HAL.out x hx;have HRow:Hid (∀w5,Grew wr w5->∀y:Nat,y<16777216->Ca 91 #[pointer (some ⟨p,0,none⟩),int i64 (y:Int)] w5 fun e w'=>∃u Z',e=returned u∧Kw w1 w' w1.heap.size p w1.heap.size Z' s (n.sq.rowTo y d n.letters.length).2 (slice a1 n.areas.lows.length c1) (slice a2 n.areas.letters.length c2) (slice a3 n.areas.sets.length c3) nv rv2 u8 us rows rules n.start.1 0 0∧Ints w' Z' u (ints (n.sq.rowTo y d n.letters.length).1)):=fun w5 hk5 y hy=>by
     have h:=(HB.out.2.1.grown hk5).row hml (by omega) y hy;rw[hsl,HLK.out.row] at h;exact h
    have hyl:=HSP.out (d.found.getD j 0);have hr1:=n.sq.rowTo_len (zAt n.ahead (d.found.getD j 0)) d n.letters.length;have hr2:=n.sq.rowTo_ml (zAt n.ahead (d.found.getD j 0)) d n.letters.length hml;have HOF2:=HOF.out _ hxl;clear hK HOF;generalize d.found.getD j 0=x at *;generalize zAt n.ahead x=y at *;have HRow2:Hid (∀w5,Grew wr w5->Ca 91 #[pointer (some ⟨p,0,none⟩),int i64 (y:Int)] w5 fun e w'=>∃u Z',e=returned u∧Kw w1 w' w1.heap.size p w1.heap.size Z' s (n.sq.rowTo y d n.letters.length).2 (slice a1 n.areas.lows.length c1) (slice a2 n.areas.letters.length c2) (slice a3 n.areas.sets.length c3) nv rv2 u8 us rows rules n.start.1 0 0∧Ints w' Z' u (ints (n.sq.rowTo y d n.letters.length).1)):=fun w5 hk5=>HRow.out w5 hk5 y hyl;clear HRow;generalize (n.sq.rowTo y d n.letters.length).1=rw2 at *;generalize (n.sq.rowTo y d n.letters.length).2=d2 at *;obtain⟨hr1a,-,-,hr1d⟩:=hr1;obtain⟨an,cn,hnv⟩:=zG HB.out.2.1.nOwn;obtain⟨ar,cr,hrv⟩:=HB.out.2.1.rOwn.form;rw[hj3] at hnv;rw[hj4] at hrv;subst hnv hrv;go_wp2_with (first|(go_at_call 92;refine HOF2.mono ?_;rintro e w5 ⟨rfl,hk5⟩)|(go_at_call 91;refine(HRow2.out w5 hk5).mono ?_;rintro e w6 ⟨u,Z6,rfl,hK6,hu6⟩;obtain⟨au,cu,hfu,-⟩:=id hu6;have HK6:Hid (Kw w1 w6 w1.heap.size p w1.heap.size Z6 s d2 (slice a1 n.areas.lows.length c1) (slice a2 n.areas.letters.length c2) (slice a3 n.areas.sets.length c3) (slice an j cn) (slice ar j cr) u8 us rows rules n.start.1 0 0∧Ints w6 Z6 u (ints rw2)):=⟨hK6,hu6⟩;have v3:=hK6.cells.1;have hkl6:=hK6.kl;have OR:w6.ownsRow w1.heap.size 45 1 (slice an j cn) j ((List.range j).map us):=(by have:=hK6.nOwn;unfold Row at this;rw[hj3] at this;exact this);generalize (ints rw2).length=ul at *;subst hfu;clear hK6 hu6)|(at_builtin;refine wpList_append_lies _ rfl _ _ 88 rfl w1.heap.size 45 ii1 (slice none 0 0) 1 24 underlying88 hi1 hy0 hy1 hy2 rfl (by decide) _ _ _ rfl (OR.alloc _) ⟨w6.heap.size,0,none⟩ 1 1 [slice au ul cu] rfl rfl (cell_one_new _ _ _) (by intro u hu;simp at hu;subst hu;rfl) (by decide) (by unfold maxLen;omega) (by omega) (by simp;omega) _ rfl ?_;intro gg cap w7 hown hgrow hat hlt3;have hPB:w7.heap[w1.heap.size]? =w6.heap[w1.heap.size]? :=(hgrow.block _ (by simp;omega) HK6.out.1.nbox.1).trans (lG _ _ _ (by omega));have t3:w7.cell? ⟨w1.heap.size,3,none⟩=some (slice an j cn):=(gG hPB).trans v3;have g3:w7.frozen? ⟨w1.heap.size,3,none⟩=false:=(dQ hPB).trans (HK6.out.1.cells.2.2.2.2 3);have HK7:Hid (Kw w1 (w7.setCell ⟨w1.heap.size,3,none⟩ (slice (some ⟨gg,0,none⟩) (j+1) cap)) w1.heap.size p w1.heap.size Z6 s d2 (slice a1 n.areas.lows.length c1) (slice a2 n.areas.letters.length c2) (slice a3 n.areas.sets.length c3) (slice (some ⟨gg,0,none⟩) (j+1) cap) (slice ar j cr) u8 (fun i=>if i=j then slice au ul cu else us i) (rows++[rw2]) rules n.start.1 0 0):=HK6.out.1.snocN hj3.symm HK6.out.2 hown hgrow (by rcases hat with ha|ha;exact .inl ha;right;rw[ha];simp)))
    obtain⟨w8,hw8,HK8⟩:∃w8,w8=w7.setCell ⟨w1.heap.size,3,none⟩ (slice (some ⟨gg,0,none⟩) (j+1) cap)∧Hid (Kw w1 w8 w1.heap.size p w1.heap.size Z6 s d2 (slice a1 n.areas.lows.length c1) (slice a2 n.areas.letters.length c2) (slice a3 n.areas.sets.length c3) (slice (some ⟨gg,0,none⟩) (j+1) cap) (slice ar j cr) u8 (fun i=>if i=j then slice au ul cu else us i) (rows++[rw2]) rules n.start.1 0 0):=⟨_,rfl,HK7.out⟩
    rw[<-hw8];clear hw8 HK7 hown hgrow hat hlt3 hPB t3 g3 OR v3 hkl6 hk5 HK6 HOF2 HRow2 hc6 z4 z6;have v4:=HK8.out.cells.2.1;have f4:=HK8.out.cells.2.2.2.2 4;have vq:=HE3.out w8 HK8.out.keep;have hkl8:=HK8.out.kl;have HC:Hid (∀wz,wz.Alike w8->Ca 93 #[pointer (some ⟨p,0,none⟩),int i64 ((x&&&n.ends:Nat):Int)] wz fun e w'=>e=returned (int i64 (vA n.rules (x&&&n.ends)))∧Grew w8 w'):=fun wz hz=>by
     have hkz:Grew w8 wz:=⟨hz.2.1,hz.2.2,by rw[hz.1];exact lQ,fun k _ _=>by rw[hz.1]⟩
     refine((HK8.out.grown hkz).ruleOf (x&&&n.ends) hra).mono ?_;rintro e w' ⟨rfl,rfl⟩;rw[HRL.out];exact⟨rfl,hkz⟩
    generalize vA n.rules (x&&&n.ends)=r at *;generalize x&&&n.ends=xe at *;go_region_law ((first
     |(refine step_append_lies _ (by rfl) (.tmp 71) (.tmp 80) 45 (by rfl) w1.heap.size 3 i0 _ 1 8 underlying45 hi0 hz0 hz1 hz2 rfl (by decide) (slice ar j cr) j (rules.map fun x=>int i64 x) (by simp[Act.eval,Act.put]) (OW.alloc _) ⟨w9.heap.size,0,none⟩ 1 1 [int i64 r] (by simp[Act.eval,Act.put]) (by rfl) (news_of_block (cs:=#[int i64 r]) (t:=3) (fr:=(0,0)) (gJ w9 _)) (by simp[Value.oneCell']) (by decide) (by unfold maxLen;omega) (by omega) (by simp;omega) (w9.heap.size+1) (by simp) ?_;intro g2 cap2 w10 hown2 hgrow2 hat2 hlt4;have hPB2:=hgrow2.block w1.heap.size (by simp;omega) HNB.out;have v4b:w10.cell? ⟨w1.heap.size,4,none⟩=some (slice ar j cr):=(gG hPB2).trans ((dX _ _ _ hkl9).trans v4a);have f4b:w10.frozen? ⟨w1.heap.size,4,none⟩=false:=(dQ hPB2).trans ((frozen?_alloc_past _ _ _ hkl9).trans f4a))
     |(go_simp;go_at_call 93;refine(HC.out _ ?_).mono ?_;exact⟨rfl,rfl,rfl⟩;rintro e w9 ⟨rfl,hk9⟩;have HK9:Hid (Kw w1 w9 w1.heap.size p w1.heap.size Z6 s d2 (slice a1 n.areas.lows.length c1) (slice a2 n.areas.letters.length c2) (slice a3 n.areas.sets.length c3) (slice (some ⟨gg,0,none⟩) (j+1) cap) (slice ar j cr) u8 (fun i=>if i=j then slice au ul cu else us i) (rows++[rw2]) rules n.start.1 0 0):=HK8.out.grown hk9;have v4a:=HK9.out.cells.2.1;have f4a:=HK9.out.cells.2.2.2.2 4;have vqa:=HE3.out w9 HK9.out.keep;have hkl9:=HK9.out.kl;have HNB:Hid (some w1.heap.size≠(Value.slice ar j cr).ownBlock):=HK9.out.nbox.2;have OW:w9.ownsRow w1.heap.size 3 1 (slice ar j cr) j (rules.map fun x=>int i64 x):=(by have:=HK9.out.rOwn;unfold OwnI at this;rw[hj4] at this;exact this))))
    all_goals
     have HF:Hid (zOp w1 (w10.setCell ⟨w1.heap.size,4,none⟩ (slice (some ⟨g2,0,none⟩) (j+1) cap2)) w1.heap.size p w1.heap.size s d2 (slice a1 n.areas.lows.length c1) (slice a2 n.areas.letters.length c2) (slice a3 n.areas.sets.length c3) u8 (rows++[rw2]) (rules++[r]) n.start.1 0 0):=⟨_,_,_,_,HK9.out.snocR hj4.symm hown2 hgrow2 (by
      rcases hat2 with ha|ha
      ·exact .inl ha
      ·right;rw[ha];omega)⟩
     clear hown2 hgrow2 hat2 hPB2 v4a f4a v4b f4b OW;go_wp2_with fail;go_roundg (most+1-(j+1))
     case measure=>rw[HB.out.1];omega
     case rel=>exact⟨j+1,d2,_,_,rfl,⟨by omega,by omega,by simp[hj3],by simp[hj4],hr2,fun t ht=>by
      rcases kU.1 ht with h1|h1
      ·exact HRW.out t h1
      ·rw[kY.1 h1];exact hr1a⟩,by go_num,HF.out,HGo2.out⟩
  ·have i1:¬((j:Int)<(d.found.length:Int)):=by omega
   have HZ:Hid (n.sort most=some (n.ended d rows rules)):=by
    show _=_;have e:n.sq.sortGo n.ahead n.ends most (most+1-j) j d rows rules=some (d,rows,rules):=by
     cases most+1-j with
     |zero=>rfl
     |succ k=>
      show(if j<d.found.length then _ else _)=_;rw[if_neg hjf]
    unfold Nt.sort;rw[HB.out.2.2,e]
   have HEN:Hid (n.ended d rows rules=if zAr (rows.map ints) rules (ints n.start.1)=rows.length then⟨rows++[n.start.1],rules++[-1],zAr (rows.map ints) rules (ints n.start.1),n.sq.kind d 0⟩ else⟨rows,rules,zAr (rows.map ints) rules (ints n.start.1),n.sq.kind d 0⟩):=rfl;have hll:zAr (rows.map ints) rules (ints n.start.1)<=rows.length:=by
    have:=zKa (rows.map ints) rules (ints n.start.1);rw[kV] at this;exact this
   have HKO:Hid (Ca 94 #[pointer (some ⟨p,0,none⟩),int i64 0] wr fun e w'=>e=returned (int i64 ((n.sq.kind d 0:Nat):Int))∧Kw w1 w' w1.heap.size p w1.heap.size Z s (s.kindS d 0) (slice a1 n.areas.lows.length c1) (slice a2 n.areas.letters.length c2) (slice a3 n.areas.sets.length c3) nv rv2 u8 us rows rules n.start.1 0 0):=by
    have h:=hK.kindOf hml (by omega) 0 (by omega);rw[(HLK.out.kind d 0).1] at h;exact h
   have HLI:Hid (∀w4 Z d' st dd,Kw w1 w4 w1.heap.size p w1.heap.size Z s d' (slice a1 n.areas.lows.length c1) (slice a2 n.areas.letters.length c2) (slice a3 n.areas.sets.length c3) nv rv2 u8 us rows rules n.start.1 st dd->Ca 95 #[pointer (some ⟨w1.heap.size,0,none⟩),u8] w4 fun e w'=>e=returned (int i64 ((zAr (rows.map ints) rules (ints n.start.1):Nat):Int))∧Grew w4 w'):=fun w4 Z d' st dd h4=>by
    refine zJp w4 w1.heap.size nv rv2 u8 (rows.map ints) rules (ints n.start.1) h4.kl h4.cells.1 h4.cells.2.1 h4.rowsAt (zAE h4.rOwn) (by rw[kV];omega) (by rw[kV];omega) (h4.stA.mono h4.zl) fun r hr=>?_;obtain⟨r2,hr2,rfl⟩:=List.mem_map.1 hr;rw[zN,HRW.out r2 hr2];omega
   have HPN:Hid (∀i x,w1.cell? ⟨p,i,none⟩≠some (int i64 x)):=HQ.out.2.1.no_int HQ.out.2.2.2.2.2.1 HQ.out.2.2.2.2.2.2.1 HQ.out.2.2.2.2.2.2.2 (by obtain⟨a,c,h,-⟩:=HQ.out.2.1.tls;exact⟨_,_,_,h⟩) ⟨_,_,_,rfl⟩ ⟨_,_,_,rfl⟩ (lv:=undef) (tv:=undef) (sv:=undef) (tl:=undef);have HAR:Hid (ArAt w1 (slice a1 n.areas.lows.length c1) (slice a2 n.areas.letters.length c2) (slice a3 n.areas.sets.length c3) n.areas):=HQ.out.2.2.1;obtain⟨an,cn,hnv⟩:=zG HB.out.2.1.nOwn;obtain⟨ar,cr,hrv⟩:=HB.out.2.1.rOwn.form;rw[hj3] at hnv;rw[hj4] at hrv;generalize zAr (rows.map ints) rules (ints n.start.1)=lk at *;generalize n.sq.kind d 0=dd at *;generalize s.kindS d 0=d3 at *;have hu8:=HU8.out;generalize (ints n.start.1).length=ul8 at *;subst hnv hrv hu8;clear hK HFC z4;by_cases hlk:lk=rows.length
   ·have hlk2:lk=j:=by omega
    subst hlk2;have HEN2:Hid (n.ended d rows rules=⟨rows++[n.start.1],rules++[-1],lk,dd⟩):=by show _=_;rw[HEN.out,if_pos hlk]
    clear hlk HEN;go_wp2_with (first|(go_at_call 94;refine HKO.out.mono ?_;rintro e w3 ⟨rfl,K3⟩;have v6:=K3.cells.2.2.2.1;have f6:=K3.cells.2.2.2.2 6;have K4:=K3.setDead (dd:Int))|(go_at_call 95;refine(HLI.out _ _ _ _ _ K4).mono ?_;rintro e w5 ⟨rfl,hk5⟩;have K5:=K4.grown hk5;have v5:=K5.cells.2.2.1;have f5:=K5.cells.2.2.2.2 5;have K6:=K5.setStart (lk:Int)))
    have HK6:Hid (Kw w1 (w5.setCell ⟨w1.heap.size,5,none⟩ (int i64 (lk:Int))) w1.heap.size p w1.heap.size Z s d3 (slice a1 n.areas.lows.length c1) (slice a2 n.areas.letters.length c2) (slice a3 n.areas.sets.length c3) (slice an lk cn) (slice ar lk cr) (slice a8 ul8 c8) us rows rules n.start.1 (lk:Int) (dd:Int)):=K6;clear K3 K4 K5 K6 v6 f6 v5 f5 z6 hk5 HKO HLI;generalize w5.setCell ⟨w1.heap.size,5,none⟩ (int i64 (lk:Int))=w6 at *;have v5:=HK6.out.cells.2.2.1;have v3:=HK6.out.cells.1;have hkl6:=HK6.out.kl;go_quiet (fail);have HK7:Hid (Kw w1 (w6.drewN nq) w1.heap.size p w1.heap.size Z s d3 (slice a1 n.areas.lows.length c1) (slice a2 n.areas.letters.length c2) (slice a3 n.areas.sets.length c3) (slice an lk cn) (slice ar lk cr) (slice a8 ul8 c8) us rows rules n.start.1 (lk:Int) (dd:Int)):=HK6.out.grown (Keep.alike (w':=w6.drewN nq) ⟨rfl,rfl,rfl⟩);clear HK6 v5 v3;generalize w6.drewN nq=w7 at *;have v3:=HK7.out.cells.1;have hkl7:=HK7.out.kl;have OR:w7.ownsRow w1.heap.size 45 1 (slice an lk cn) lk ((List.range lk).map us):=(by have:=HK7.out.nOwn;unfold Row at this;rw[hj3] at this;exact this)
    go_wp2_with (first|(at_builtin;refine wpList_append_lies _ rfl _ _ 45 rfl w1.heap.size 3 i0 (int i64 0) 1 8 underlying45 hi0 hz0 hz1 hz2 rfl (by decide) _ _ _ rfl (OW.alloc _) ⟨w8.heap.size,0,none⟩ 1 1 [int i64 (-1)] rfl rfl (zBc _ [int i64 (-1)] _ _ (zC _ _ _)) (by intro u hu;simp at hu;subst hu;rfl) (by decide) (by unfold maxLen;omega) (by omega) (by simp[zC];omega) _ rfl ?_;intro g2 cap2 w9 hown2 hgrow2 hat2 hlt4;have hPB2:w9.heap[w1.heap.size]? =(w8.setCell ⟨w1.heap.size,3,none⟩ (slice (some ⟨gg,0,none⟩) (lk+1) cap)).heap[w1.heap.size]? :=(hgrow2.block _ (by simp[zC];omega) HK8.out.nbox.2).trans (lG _ _ _ HK8.out.kl);have t4:w9.cell? ⟨w1.heap.size,4,none⟩=some (slice ar lk cr):=(gG hPB2).trans v4;have g4:w9.frozen? ⟨w1.heap.size,4,none⟩=false:=(dQ hPB2).trans (HK8.out.cells.2.2.2.2 4);have HK9:Hid (Kw w1 (w9.setCell ⟨w1.heap.size,4,none⟩ (slice (some ⟨g2,0,none⟩) (lk+1) cap2)) w1.heap.size p w1.heap.size Z s d3 (slice a1 n.areas.lows.length c1) (slice a2 n.areas.letters.length c2) (slice a3 n.areas.sets.length c3) (slice (some ⟨gg,0,none⟩) (lk+1) cap) (slice (some ⟨g2,0,none⟩) (lk+1) cap2) (slice a8 ul8 c8) (fun i=>if i=lk then slice a8 ul8 c8 else us i) (rows++[n.start.1]) (rules++[-1]) n.start.1 (lk:Int) (dd:Int)):=HK8.out.snocR hj4.symm hown2 hgrow2 (by rcases hat2 with ha|ha;exact .inl ha;right;rw[ha];simp[zC]))|(at_builtin;refine wpList_append_lies _ rfl _ _ 88 rfl w1.heap.size 45 ii1 (slice none 0 0) 1 24 underlying88 hi1 hy0 hy1 hy2 rfl (by decide) _ _ _ rfl (OR.alloc _) ⟨w7.heap.size,0,none⟩ 1 1 [slice a8 ul8 c8] rfl rfl (cell_one_new _ _ _) (by intro u hu;simp at hu;subst hu;rfl) (by decide) (by unfold maxLen;omega) (by omega) (by simp;omega) _ rfl ?_;intro gg cap w8 hown hgrow hat hlt3;have hPB:w8.heap[w1.heap.size]? =w7.heap[w1.heap.size]? :=(hgrow.block _ (by simp;omega) HK7.out.nbox.1).trans (lG _ _ _ (by omega));have t3:w8.cell? ⟨w1.heap.size,3,none⟩=some (slice an lk cn):=(gG hPB).trans v3;have g3:w8.frozen? ⟨w1.heap.size,3,none⟩=false:=(dQ hPB).trans (HK7.out.cells.2.2.2.2 3);have HK8:Hid (Kw w1 (w8.setCell ⟨w1.heap.size,3,none⟩ (slice (some ⟨gg,0,none⟩) (lk+1) cap)) w1.heap.size p w1.heap.size Z s d3 (slice a1 n.areas.lows.length c1) (slice a2 n.areas.letters.length c2) (slice a3 n.areas.sets.length c3) (slice (some ⟨gg,0,none⟩) (lk+1) cap) (slice ar lk cr) (slice a8 ul8 c8) (fun i=>if i=lk then slice a8 ul8 c8 else us i) (rows++[n.start.1]) rules n.start.1 (lk:Int) (dd:Int)):=HK7.out.snocN hj3.symm HK7.out.stA hown hgrow (by rcases hat with ha|ha;exact .inl ha;right;rw[ha];simp);have v4:=HK8.out.cells.2.1;have hkl8:w1.heap.size<w8.heap.size:=(by have:=HK8.out.kl;rw[zC] at this;exact this);have OW:(w8.setCell ⟨w1.heap.size,3,none⟩ (slice (some ⟨gg,0,none⟩) (lk+1) cap)).ownsRow w1.heap.size 3 1 (slice ar lk cr) lk (rules.map fun x=>int i64 x):=(by have:=HK8.out.rOwn;unfold OwnI at this;rw[hj4] at this;exact this)))
    refine dZ (results_tmp2 rfl _ _ _) rfl ?_;refine zF6 HZ.out ⟨?_,HKP.out _ HK9.out.keep⟩;rw[HEN2.out];exact zMy (w:=w) HK9.out rfl HPN.out HAR.out
   ·have HEN2:Hid (n.ended d rows rules=⟨rows,rules,lk,dd⟩):=by show _=_;rw[HEN.out,if_neg hlk]
    have i3:¬((lk:Int)=(j:Int)):=by omega
    clear hlk HEN;go_wp2_with (first|(go_at_call 94;refine HKO.out.mono ?_;rintro e w3 ⟨rfl,K3⟩;have v6:=K3.cells.2.2.2.1;have f6:=K3.cells.2.2.2.2 6;have K4:=K3.setDead (dd:Int))|(go_at_call 95;refine(HLI.out _ _ _ _ _ K4).mono ?_;rintro e w5 ⟨rfl,hk5⟩;have K5:=K4.grown hk5;have v5:=K5.cells.2.2.1;have f5:=K5.cells.2.2.2.2 5;have K6:=K5.setStart (lk:Int)))
    have HK6:Hid (Kw w1 (w5.setCell ⟨w1.heap.size,5,none⟩ (int i64 (lk:Int))) w1.heap.size p w1.heap.size Z s d3 (slice a1 n.areas.lows.length c1) (slice a2 n.areas.letters.length c2) (slice a3 n.areas.sets.length c3) (slice an j cn) (slice ar j cr) (slice a8 ul8 c8) us rows rules n.start.1 (lk:Int) (dd:Int)):=K6;clear K3 K4 K5 K6 v6 f6 v5 f5 z6 hk5 HKO HLI;generalize w5.setCell ⟨w1.heap.size,5,none⟩ (int i64 (lk:Int))=w6 at *;have v5:=HK6.out.cells.2.2.1;have v3:=HK6.out.cells.1;have hc3:((lk:Int)==(j:Int))=false:=by simp;omega
    clear i3;go_quiet (fail);go_wp2_with fail;refine dZ (results_tmp2 rfl _ _ _) rfl ?_;have HK7:=HK6.out.grown (Keep.alike (w':=w6.drewN nq) ⟨rfl,rfl,rfl⟩);refine zF6 HZ.out ⟨?_,HKP.out _ HK7.keep⟩;rw[HEN2.out];exact zMy (w:=w) HK7 rfl HPN.out HAR.out
end
def a64 (f:Nat->Int):Array Value:=((List.range 64).map fun i=>Value.int i64 (f i)).toArray
theorem zBe (f:Nat->Int):(a64 f).size=64:=by simp[a64]
theorem jQ (f:Nat->Int)(i:Nat)(hi:i<64):(a64 f)[i]? =some (int i64 (f i)):=by
 simp[a64,hi]
theorem zOb:(prog.info? 246).map (·.size)=some 64:=by kernel_rfl
theorem zEu (w:World)(b:Nat)(f:Nat->Int)(h:w.heap[b]? =some (.cells (a64 f) 246)):w.rangeAt b 0 (a64 f).toList:=fun j v hv=>by
 unfold cell?;rw[h,Nat.zero_add];simpa using hv
theorem zKb (f:Nat->Int):(prog.info? 246).map (·.size)=some (a64 f).toList.length:=by
 rw[Array.length_toList,zBe];exact zOb
theorem zKe (w:World)(f:Nat->Int)(i:Nat)(hi:i<64):Sem.run prog (Instr.index 246 (agg (a64 f)) (int i64 (i:Int))) w=.ok (int i64 (f i)) w:=by
 have h1:(0:Int)<=(i:Int)∧(i:Int)<64:=by omega
 simp[Instr.index,run_underlying underlying246,asIntOf,h1,go_sem,jQ f i hi];omega
def qH (row:List Int)(f:Nat->Int):Bool:=(List.range 64).all fun i=>row.getD (128+i) 0==f i
theorem zNj (row:List Int)(f:Nat->Int)(i:Nat)(hi:i<64)(h:row.getD (128+i) 0≠f i):qH row f=false:=by
 unfold qH;rw[List.all_eq_false];exact⟨i,List.mem_range.2 hi,by simpa using h⟩
theorem zMk (row:List Int)(f:Nat->Int)(h:∀i,i<64->row.getD (128+i) 0=f i):qH row f=true:=by
 unfold qH;rw[List.all_eq_true];intro i hi;rw[h i (List.mem_range.1 hi)];simp
theorem zFS (w:World)(v:Value)(row:List Int)(hR:Ints w (In w) v row)(hr:row.length=256)(f:Nat->Int):
  Calls prog 186 #[v,agg (a64 f)] w fun e w'=>e=returned (bool (qH row f))∧Grew w w':=by
 obtain⟨ab,cb,rfl,_,_,hbc⟩:=hR;rw[hr] at hbc ⊢;have HBC:=vl hbc;have HLD:Hid ((w.alloc (.cells (a64 f) 246)).rangeAt w.heap.size 0 (a64 f).toList∧(prog.info? 246).map (·.size)=some (a64 f).toList.length):=⟨zEu (w.alloc (.cells (a64 f) 246)) w.heap.size f (gJ _ _),zKb f⟩
 have HIX:Hid (∀w i,i<64->Sem.run prog (Instr.index 246 (agg (a64 f)) (int i64 ((i:Nat):Int))) w=.ok (int i64 (f i)) w):=fun w i=>zKe w f i;have HAG:=vl <| jQ f;have HKA:Hid (Grew w (w.alloc (.cells (a64 f) 246))):=kZ _ _ lQ;have H1:Hid (∀i,i<64->row.getD (128+i) 0≠f i->qH row f=false):=zNj row f;have H2:Hid ((∀i,i<64->row.getD (128+i) 0=f i)->qH row f=true):=zMk row f;clear hbc;generalize a64 f=A at *;go_in;go_wp2_with (first|(refine wpList_load_mid rfl 246 (.tmp 3) rfl w.heap.size 0 rfl A.toList (.array 64 3) HLD.out.1 underlying246 rfl HLD.out.2 ?_))
 go_loopg [8] 64 (fun k i wr=>∃j:Nat,k=64-j∧j<=64∧i=int i64 (j:Int)∧(∀i,i<j->row.getD (128+i) 0=f i)∧Grew w wr)
 case atStart=>exact⟨0,rfl,lX,rfl,fun i hi=>by omega,HKA.out⟩
 case round=>
  obtain⟨j,hgk,hj,rfl,hno,hkp⟩:=hrel;have HB:Hid (gk=64-j∧(∀i,i<j->row.getD (128+i) 0=f i)∧Grew w wr):=⟨hgk,hno,hkp⟩
  by_cases hj2:j<64
  ·have i1:(j:Int)<64:=by omega
   obtain⟨b1,o1,rfl,hb1,hc1⟩:=HBC.out (128+j) (by omega);have y1:=zA hc1 hb1 hkp;have hix:=HIX.out wr j hj2;have hag:=HAG.out j hj2;have HN3:Hid (row.getD (128+j) 0≠f j->qH row f=false):=H1.out j hj2;have HS3:Hid (row.getD (128+j) 0=f j->∀i,i<j+1->row.getD (128+i) 0=f i):=fun h i hi=>by
    by_cases e:i=j
    ·rw[e];exact h
    ·exact HB.out.2.1 i (by omega)
   have i2:(128:Int)+(j:Int)<256:=by omega
   clear hgk hno hkp hc1;generalize row.getD (128+j) 0=x at *;generalize f j=y at *;by_cases hxy:x=y
   ·have HR:Hid (∀i,i<j+1->row.getD (128+i) 0=f i):=HS3.out hxy
    have hc:(x != y)=false:=by simp[hxy]
    clear hxy;go_wp2;go_roundg (64-(j+1))
    case measure=>rw[HB.out.1];omega
    case rel=>exact⟨j+1,rfl,by omega,by go_num,HR.out,HB.out.2.2⟩
   ·have HR:Hid (qH row f=false):=HN3.out hxy
    have hc:(x != y)=true:=by simp[hxy]
    clear hxy;go_wp2;go_ret;exact⟨by rw[HR.out];rfl,HB.out.2.2⟩
  ·have i1:(64:Int)<=(j:Int):=by omega
   have HR:Hid (qH row f=true):=H2.out fun i hi=>hno i (by omega);clear hgk hno hkp;go_wp2;go_ret;exact⟨by rw[HR.out];rfl,HB.out.2.2⟩
section
structure Mk where
 next:List (List Int)
 rules:List Int
 of:List Int
 full:Bool
def zCZ (l:List Int):Array Value:=(l.map fun x=>Value.int i64 x).toArray
structure Mw (w0 w:World)(mb kb:Nat)(most:Nat)(m:Mk)(nv rv ov:Value)(gs:Nat->Nat):Prop where
 blk:w.heap[mb]? =some (.cells #[pointer (some ⟨kb,0,none⟩),int i64 (most:Int),bool m.full,nv,rv,int i64 0,ov] 183)
 nOwn:Row w w0.heap.size 45 nv m.next.length fun i=>slice (some ⟨gs i,0,none⟩) 256 256
 each:∀i,i<m.next.length->w.heap[gs i]? =some (.cells (zCZ (m.next.getD i [])) 3)∧w0.heap.size<=gs i∧(m.next.getD i []).length=256
 rOwn:OwnI w w0.heap.size rv m.rules
 oOwn:OwnI w w0.heap.size ov m.of
 inj:∀i j,i<m.next.length->j<m.next.length->gs i=gs j->i=j
 nr:∀i,i<m.next.length->some (gs i)≠rv.ownBlock
 no:∀i,i<m.next.length->some (gs i)≠ov.ownBlock
 ro:∀g,rv.ownBlock=some g->some g≠ov.ownBlock
 mH:w0.heap.size<=mb
 keep:Grew w0 w
def MwIs (w0 w:World)(mb kb most:Nat)(m:Mk):Prop:=∃nv rv ov gs,Mw w0 w mb kb most m nv rv ov gs
def StayT (w w':World):Prop:=∀(k:Nat) (c:Array Value) (t:TypeId),w.heap[k]? =some (Obj.cells c t)->t≠3->t≠45->t≠183->w'.heap[k]? =some (Obj.cells c t)
theorem StayT.refl (w:World):StayT w w:=fun _ _ _ h _ _ _=>h
theorem StayT.trans {w w' w'':World}(h:StayT w w')(h':StayT w' w''):StayT w w'':=fun k c t hk h1 h2 h3=>h' k c t (h k c t hk h1 h2 h3) h1 h2 h3
theorem Keep.stayT {w w':World}(h:Grew w w'):StayT w w':=fun k c t hk _ _ _=>by
 have hl:=(kQ.1 hk).1;exact(h.block k hl (kJ hl)).trans hk
section
variable {w0 w w2:World} {mb kb most:Nat} {m:Mk} {nv rv ov:Value} {gs:Nat->Nat}
theorem zL3 (l:List Int)(i:Nat)(hi:i<l.length):(zCZ l)[i]? =some (int i64 (l.getD i 0)):=by
 simp[zCZ,hi]
theorem zL2 (l:List Int)(i:Nat)(x:Int):(zCZ l).setIfInBounds i (int i64 x)=zCZ (l.set i x):=by
 simp[zCZ,List.map_set]
theorem Mw.lt (h:Mw w0 w mb kb most m nv rv ov gs):mb<w.heap.size:=(kQ.1 h.blk).1
theorem Mw.gl (h:Mw w0 w mb kb most m nv rv ov gs)(i:Nat)(hi:i<m.next.length):gs i<w.heap.size:=(kQ.1 (h.each i hi).1).1
theorem Mw.cells (h:Mw w0 w mb kb most m nv rv ov gs):w.cell? ⟨mb,0,none⟩=some (pointer (some ⟨kb,0,none⟩))∧w.cell? ⟨mb,1,none⟩=some (int i64 (most:Int))∧w.cell? ⟨mb,2,none⟩=some (bool m.full)∧w.cell? ⟨mb,3,none⟩=some nv∧w.cell? ⟨mb,4,none⟩=some rv∧w.cell? ⟨mb,6,none⟩=some ov∧∀i,w.frozen? ⟨mb,i,none⟩=false:=by
 refine⟨?_,?_,?_,?_,?_,?_,fun i=>?_⟩
 all_goals first|(unfold cell?;rw[h.blk];rfl)|(unfold frozen?;rw[h.blk];simp)
theorem Mw.row (h:Mw w0 w mb kb most m nv rv ov gs)(i b:Nat)(hi:i<m.next.length)(hb:b<256):w.cell? ⟨gs i,b,none⟩=some (int i64 ((m.next.getD i []).getD b 0))∧w.frozen? ⟨gs i,b,none⟩=false:=by
 obtain⟨h1,_,h3⟩:=h.each i hi
 constructor
 ·unfold cell?;rw[h1];exact zL3 _ _ (by rw[h3];exact hb)
 ·unfold frozen?;rw[h1];simp
theorem Mw.box (h:Mw w0 w mb kb most m nv rv ov gs):some mb≠nv.ownBlock∧some mb≠rv.ownBlock∧some mb≠ov.ownBlock∧∀i,i<m.next.length->gs i≠mb:=by
 refine⟨zM h.nOwn h.blk (by decide),zM h.rOwn h.blk (by decide),zM h.oOwn h.blk (by decide),fun i hi e=>?_⟩;have:=(h.each i hi).1;rw[e,h.blk] at this;simp at this
theorem Mw.grown (h:Mw w0 w mb kb most m nv rv ov gs)(hk:Grew w w2):Mw w0 w2 mb kb most m nv rv ov gs:=by
 have e:∀k,k<w.heap.size->w2.heap[k]? =w.heap[k]? :=fun k hk2=>hk.block k hk2 (kJ hk2);exact⟨(e mb h.lt).trans h.blk,zK h.nOwn hk,fun i hi=>⟨(e _ (h.gl i hi)).trans (h.each i hi).1,(h.each i hi).2⟩,zK h.rOwn hk,zK h.oOwn hk,h.inj,h.nr,h.no,h.ro,h.mH,h.keep.trans (hk.lower h.keep.size h.keep.size)⟩
theorem Mw.put (h:Mw w0 w mb kb most m nv rv ov gs)(s b:Nat)(hs:s<m.next.length)(x:Int):Mw w0 (w.setCell ⟨gs s,b,none⟩ (int i64 x)) mb kb most {m with next:=m.next.set s ((m.next.getD s []).set b x)} nv rv ov gs∧StayT w (w.setCell ⟨gs s,b,none⟩ (int i64 x)):=by
 have e:∀k,k≠gs s->(w.setCell ⟨gs s,b,none⟩ (int i64 x)).heap[k]? =w.heap[k]? :=fun k hk=>lJ _ _ _ _ hk;obtain⟨h1,h2,h3⟩:=h.each s hs;have hbx:=h.box;have hn:=zM h.nOwn h1 (by decide);have hlen:(m.next.set s ((m.next.getD s []).set b x)).length=m.next.length:=List.length_set ..
 refine⟨⟨(e mb (Ne.symm (hbx.2.2.2 s hs))).trans h.blk,?_,fun i hi=>?_,zD h.rOwn fun k _ _ hk=>e k fun e2=>h.nr s hs (by rw[hk,e2]),zD h.oOwn fun k _ _ hk=>e k fun e2=>h.no s hs (by rw[hk,e2]),fun i j hi hj=>?_,fun i hi=>?_,fun i hi=>?_,h.ro,h.mH,h.keep.trans (zO _ _ _ _ h2)⟩,fun k c t hk ht _ _=>?_⟩
 ·show Row _ _ _ _ (m.next.set s _).length _
  rw[hlen];exact zD h.nOwn fun k _ _ hk=>e k fun e2=>hn (by rw[hk,e2])
 ·have hi2:i<m.next.length:=by rw[<-hlen];exact hi
  show _=some (Obj.cells (zCZ ((m.next.set s _).getD i [])) _)∧_∧((m.next.set s _).getD i []).length=256;rw[lW,List.getElem?_set];by_cases e2:s=i
  ·subst e2
   rw[if_pos rfl,if_pos hs];refine⟨?_,h2,by simp only[Option.getD_some,List.length_set];exact h3⟩;show _=some (Obj.cells (zCZ ((m.next.getD s []).set b x)) _);rw[<-zL2];simp[setCell,lU,h1]
  ·rw[if_neg e2,<-lW]
   have hg:gs i≠gs s:=fun e3=>e2 (h.inj s i hs hi2 e3.symm);exact⟨(e _ hg).trans (h.each i hi2).1,(h.each i hi2).2⟩
 ·exact h.inj i j (by rw[<-hlen];exact hi) (by rw[<-hlen];exact hj)
 ·exact h.nr i (by rw[<-hlen];exact hi)
 ·exact h.no i (by rw[<-hlen];exact hi)
 ·refine(e k fun e2=>?_).trans hk
  rw[e2,h1] at hk;injection hk with hk;injection hk with _ hk;exact ht hk.symm
end
end
end Go.Proofs.YtbjcfkdnjaiclaaGreat
