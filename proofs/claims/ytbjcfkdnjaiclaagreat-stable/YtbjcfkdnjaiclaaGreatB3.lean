import Derived.Deep.LoopGhost
import Derived.Deep.RegionLaw
import Derived.Deep.RegionWith
import Derived.Laws.IdiomStrings
import Derived.Laws.MakeOwn
import Derived.Laws.OwnMore
import Derived.StillTactics
import Derived.Test.YtbjcfkdnjaiclaaGreatB0
import Derived.Test.YtbjcfkdnjaiclaaGreatB1
import Derived.Test.YtbjcfkdnjaiclaaGreatB2
/- Parts of the proof, in order. -/
set_option linter.unusedVariables false
set_option linter.unusedSimpArgs false
set_option maxHeartbeats 4000000
set_option maxRecDepth 100000
namespace Go.Proofs.YtbjcfkdnjaiclaaGreat
open Go.RowKit Go.Proofs.Tryz Go.World
def OwnF (w:World)(H:Nat)(v:Value)(n:Nat)(f:Nat->Bool):Prop:=w.ownsRow H 4 1 v n ((List.range n).map fun i=>.bool (f i))
theorem OwnF.nil (w:World)(H:Nat)(f:Nat->Bool):OwnF w H (.slice none 0 0) 0 f:=ownsRow_nil _ _ _ _
theorem OwnF.snoc {w:World}{H g cap n:Nat}{f:Nat->Bool}{x:Bool}(h:w.ownsRow H 4 1 (.slice (some ⟨g,0,none⟩) (n+1) cap) (n+1) ((List.range n).map (fun i=>.bool (f i))++[.bool x]))(hx:f n=x):OwnF w H (.slice (some ⟨g,0,none⟩) (n+1) cap) (n+1) f:=by
 unfold OwnF;rw[jO,hx];exact h
theorem OwnF.form {w:World}{H n:Nat}{v:Value}{f:Nat->Bool}(h:OwnF w H v n f):∃ao cap,v=.slice ao n cap:=zE h
def Tb.more (t:Tb)(k:Nat)(l:Nat->Bool)(x:Nat):Bool:=t.willEnd (x%t.nst) (x/(k*t.nst)) fun to=>l (x%(k*t.nst)/t.nst*t.nst+to)
theorem zL3 (t:Tb)(k:Nat)(l:Nat->Bool)(d i s:Nat)(hi:i<k)(hs:s<t.nst):t.more k l (d*(k*t.nst)+i*t.nst+s)=t.willEnd s d fun to=>l (i*t.nst+to):=by
 have hn:0<t.nst:=by omega
 have h1:i*t.nst+s<k*t.nst:=by
  have:=Nat.mul_le_mul_right t.nst (show i+1<=k by omega);rw[Nat.add_mul] at this;omega
 have e1:(d*(k*t.nst)+i*t.nst+s)%t.nst=s:=by
  rw[Nat.add_assoc,Nat.mul_comm k,<-Nat.mul_assoc,Nat.mul_comm d,Nat.mul_assoc,Nat.mul_comm i,<-Nat.add_assoc,<-Nat.mul_add,Nat.mul_add_mod];exact Nat.mod_eq_of_lt hs
 have e2:(d*(k*t.nst)+i*t.nst+s)/(k*t.nst)=d:=by
  rw[Nat.add_assoc,Nat.mul_comm d,Nat.mul_add_div (by omega),Nat.div_eq_of_lt h1];omega
 have e3:(d*(k*t.nst)+i*t.nst+s)%(k*t.nst)=i*t.nst+s:=by
  rw[Nat.add_assoc,Nat.mul_comm d,Nat.mul_add_mod,Nat.mod_eq_of_lt h1]
 have e4:(i*t.nst+s)/t.nst=i:=by
  rw[Nat.mul_comm i,Nat.mul_add_div hn,Nat.div_eq_of_lt hs];omega
 unfold Tb.more;rw[e1,e2,e3,e4]
theorem zCS (p:Nat)(w:World)(S:Nat->Prop)(t:Tb)(hT:TabN w S p t)(hS:∀k,S k->k<w.heap.size)(ok:t.OkN)(hn1:1<=t.nst)(k:Nat)(hk1:1<=k)(l:Nat->Bool)(b o cap:Nat)(hSb:S b)(hl:∀i,i<k*t.nst->w.cell? ⟨b,o+i,none⟩=some (.bool (l i)))(hcap:k*t.nst<=cap)(hcm:cap<=maxLen)(hbig:(t.count+1)*(k*t.nst)<=800000):
  Calls prog 102 #[.pointer (some ⟨p,0,none⟩),.slice (some ⟨b,o,none⟩) (k*t.nst) cap] w fun e w'=>∃u,e=.returned u∧OwnF w' w.heap.size u ((t.count+1)*(k*t.nst)) (t.more k l)∧Grew w w':=by
 obtain⟨i0,hi0,hz0,hz1,hz2⟩:=info_parts qO;have HT:=vl hT;have HL:=vl hl;have hlp:=hS p hT.safe;have hlb:=hS b hSb;have x7:=hT.c7;obtain⟨_,x8,b8,o8,cap8,hb8,rfl,hcap8,hml8,_⟩:=hT.c8;have HAT:Hid (∀d i s,i<k->s<t.nst->t.more k l (d*(k*t.nst)+i*t.nst+s)=t.willEnd s d fun to=>l (i*t.nst+to)):=fun d i s=>zL3 t k l d i s;have HKN:Hid (k*t.nst=k*t.nst):=rfl;have hcb:=ok.count;have hnb:=ok.nst;have OKN:Hid t.OkN:=ok;have hKpos:=Nat.mul_pos hk1 hn1;generalize hKK:k*t.nst=K at *;generalize hff:t.more k l=f at *;generalize hnn:t.nst=n at *;generalize hcc:t.count=cnt at *;have HKK:=vl hKK;have HNN:=vl hnn;have HCC:=vl hcc;have hKb:K<=800000:=by
  have:=Nat.mul_le_mul_right K (show 1<=cnt+1 by omega);omega
 go_in;go_wp2;go_loopg [5,6] (cnt+1) (fun q mo i wr=>∃d D:Nat,q=cnt+1-d∧d<=cnt+1∧i=.int .i64 (d:Int)∧D=d*K∧OwnF wr w.heap.size mo D f∧Grew w wr)
 case atStart=>exact⟨0,0,rfl,Nat.zero_le _,rfl,(Nat.zero_mul _).symm,OwnF.nil _ _ _,Keep.refl _ _ _⟩
 case round=>
  obtain⟨d,D,hgk,hd,rfl,hD,ho,hkp⟩:=hrel;have HA:Hid (gk=cnt+1-d∧D=d*K∧OwnF wr w.heap.size u5 D f∧Grew w wr):=⟨hgk,hD,ho,hkp⟩
  have y7:=(cell?_of_block (hkp.block p hlp (by omega))).trans x7;obtain⟨ao,cp,hv⟩:=ho.form;subst hv;by_cases hd2:d<=cnt
  ·have i1:(d:Int)<=(cnt:Int):=by omega
   have hDb:D+K<=(cnt+1)*K:=by
    have:=Nat.mul_le_mul_right K (show d+1<=cnt+1 by omega);rw[Nat.add_mul] at this;omega
   clear hgk hD ho hkp;go_wp2;go_loopg [5,7] k (fun q mo i wr=>∃ii fr:Nat,q=k-ii∧ii<=k∧i=.int .i64 (fr:Int)∧fr=ii*n∧OwnF wr w.heap.size mo (D+fr) f∧Grew w wr)
   case atStart=>exact⟨0,0,rfl,Nat.zero_le _,rfl,(Nat.zero_mul _).symm,HA.out.2.2.1,HA.out.2.2.2⟩
   case round=>
    obtain⟨ii,fr,hgk,hii,rfl,hfr,ho,hkp⟩:=hrel;have HB:Hid (gk=k-ii∧fr=ii*n∧OwnF wr w.heap.size u5 (D+fr) f∧Grew w wr):=⟨hgk,hfr,ho,hkp⟩
    have y8:=(cell?_of_block (hkp.block p hlp (by omega))).trans x8;obtain⟨ao,cp,hv⟩:=ho.form;subst hv;by_cases hi2:ii<k
    ·have hfK:fr+n<=K:=by
      have:=Nat.mul_le_mul_right n (show ii+1<=k by omega);rw[Nat.add_mul,HKK.out] at this;omega
     have i2:(fr:Int)<(K:Int):=by omega
     have i3:(fr:Int)+(n:Int)<=(K:Int):=by omega
     have i4:(K:Int)<=(cap:Int):=by omega
     clear hgk hfr ho hkp;go_wp2_with fail;rw[Nat.add_sub_cancel_left];clear y8;go_loopg [5,44] n (fun q mo i wr=>∃s:Nat,q=n-s∧s<=n∧i=.int .i64 (s:Int)∧OwnF wr w.heap.size mo (D+fr+s) f∧Grew w wr)
     case atStart=>exact⟨0,rfl,Nat.zero_le _,rfl,HB.out.2.2.1,HB.out.2.2.2⟩
     case round=>
      obtain⟨s,hgk,hs,rfl,ho,hkp⟩:=hrel;have HE:Hid (gk=n-s∧Grew w wr):=⟨hgk,hkp⟩
      obtain⟨ao,cp,hv⟩:=ho.form;subst hv;have hszr:w.heap.size<=wr.heap.size:=hkp.size;have OR:Hid (wr.ownsRow w.heap.size 4 1 (.slice ao (D+fr+s) cp) (D+fr+s) ((List.range (D+fr+s)).map fun i=>.bool (f i))):=ho;by_cases hs2:s<n
      ·have i5:(s:Int)<(n:Int):=by omega
       have HC:Hid (Calls prog 139 #[.pointer (some ⟨p,0,none⟩),.int .i64 s,.int .i64 d,.slice (some ⟨b,o+fr,none⟩) n (cap-fr)] wr fun e w'=>e=.returned (.bool (t.willEnd s d fun to=>l (fr+to)))∧w'=wr):=by
        have hkb:∀x,x<w.heap.size->wr.heap[x]? =w.heap[x]? :=fun x hx=>hkp.block x hx (by omega);have h:=zFx p wr S t (HT.out.keep fun x hx=>hkb x (hS x hx)) OKN.out s d (by rw[HNN.out];exact hs2) (by rw[HCC.out];exact hd2) b (o+fr) (cap-fr) (fun to=>l (fr+to)) (by
         intro i hi;rw[HNN.out] at hi;rw[World.cell?_of_block (hkb b hlb),Nat.add_assoc];exact HL.out (fr+i) (by omega))
        rw[HNN.out] at h;exact h
       have HV:Hid (f (D+fr+s)=t.willEnd s d fun to=>l (fr+to)):=by
        have h:=HAT.out d ii s hi2 hs2;rw[<-HA.out.2.1,<-HB.out.2.1] at h;exact h
       clear hgk ho hkp;generalize (t.willEnd s d fun to=>l (fr+to))=x at *;go_wp2_with fail;refine HC.out.mono ?_;rintro e w1 ⟨rfl,rfl⟩;go_wp2_with (first|(at_builtin;refine wpList_append_lies _ rfl _ _ 28 rfl (w.heap.size) 4 i0 (.bool false) 1 1 underlying28 hi0 hz0 hz1 hz2 rfl (by decide) _ _ _ rfl (OR.out.alloc _) ⟨w1.heap.size,0,none⟩ 1 1 [.bool x] rfl rfl (cell_one_new _ _ _) (by intro u hu;simp at hu;subst hu;rfl) (by decide) (by unfold maxLen;omega) (by omega) (by simp;omega) _ rfl ?_;intro gg cap2 w2 hown hgrow hat hlt2;have hB:=xO OR.out hgrow hszr))
       have O2:Hid (OwnF w2 w.heap.size (.slice (some ⟨gg,0,none⟩) (D+fr+s+1) cap2) (D+fr+s+1) f∧Grew w w2):=⟨OwnF.snoc hown HV.out,HE.out.2.trans (xN hB)⟩
       clear hown hgrow hB;go_wp2_with fail;go_roundg (n-(s+1))
       case measure=>rw[HE.out.1];omega
       case rel=>exact⟨s+1,rfl,by omega,by go_num,O2.out.1,O2.out.2⟩
      ·have i5:(n:Int)<=(s:Int):=by omega
       have hsn:s=n:=by omega
       have HZ:Hid (OwnF wr w.heap.size (.slice ao (D+fr+s) cp) (D+(fr+n)) f):=by
        have h:=ho;rw[hsn] at h ⊢;rw[Nat.add_assoc] at h;rw[Nat.add_assoc];exact h
       have HFR:Hid (fr+n=(ii+1)*n):=by show _=_;rw[HB.out.2.1,Nat.add_mul];omega
       have y8:wr.cell? ⟨p,8,none⟩=some (.slice (some ⟨b8,o8,none⟩) n cap8):=(cell?_of_block (hkp.block p hlp (by omega))).trans x8;clear hgk ho hkp hsn;go_wp2_with fail;go_roundg (k-(ii+1))
       case measure=>rw[HB.out.1];omega
       case rel=>exact⟨ii+1,fr+n,rfl,by omega,by go_num,HFR.out,HZ.out,HE.out.2⟩
    ·have hik:ii=k:=by omega
     have hfK:fr=K:=by rw[hfr,hik];exact HKK.out
     have i2:(K:Int)<=(fr:Int):=by omega
     have HZ:Hid (OwnF wr w.heap.size (.slice ao (D+fr) cp) (D+K) f):=by
      have h:=ho;rw[hfK] at h ⊢;exact h
     have HD2:Hid (D+K=(d+1)*K):=by show _=_;rw[HA.out.2.1,Nat.add_mul];omega
     clear hgk hfr ho hkp hfK hik;go_wp2_with fail;go_roundg (cnt+1-(d+1))
     case measure=>rw[HA.out.1];omega
     case rel=>exact⟨d+1,D+K,rfl,by omega,by go_num,HD2.out,HZ.out,HB.out.2.2.2⟩
  ·have hdc:d=cnt+1:=by omega
   have i1:(cnt:Int)<(d:Int):=by omega
   have HZ:Hid (OwnF wr w.heap.size (.slice ao D cp) ((cnt+1)*K) f):=by
    have h:=ho;rw[hD,hdc] at h ⊢;exact h
   clear hgk hD ho hkp hdc;go_wp2_with fail;go_ret;exact⟨_,rfl,HZ.out,HA.out.2.2.2⟩
theorem zN {H:Nat}(w:World)(g i:Nat)(x:Value)(hg:H<=g):Keep H H w (w.setCell ⟨g,i,none⟩ x):=⟨rfl,rfl,by simp[World.setCell],fun k h1 _=>Below.heap_setCell _ _ _ _ (by show k≠g;omega)⟩
theorem zAa (z:Value)(hz:z.cells=#[z])(n:Nat):(madeCells z.cells n).toList=(List.range n).map fun _=>z:=by
 rw[hz,toList_madeCells_one];exact(List.eq_replicate_iff.2 ⟨by simp,by intro b hb;obtain⟨_,_,h⟩:=List.mem_map.1 hb;exact h.symm⟩).symm
def xP (f:Nat->Bool):Nat->Nat->Nat
 |0,_=>0
 |i+1,j=>if f i=true∧j=i/8 then xP f i j+2^(i%8) else xP f i j
theorem zHK (f:Nat->Bool)(i j:Nat)(h:i<=8*j):xP f i j=0:=by
 induction i with
 |zero=>rfl
 |succ i ih=>rw[xP,if_neg (by omega),ih (by omega)]
theorem zF2 (f:Nat->Bool)(i j:Nat)(h1:8*j<=i)(h2:i<=8*j+8):xP f i j<2^(i-8*j):=by
 induction i with
 |zero=>simp[xP]
 |succ i ih=>
  by_cases e:8*j=i+1
  ·rw[zHK f (i+1) j (by omega)]
   exact Nat.pow_pos (by decide)
  ·have h:=ih (by omega) (by omega)
   have e1:i%8=i-8*j:=by omega
   have e2:i+1-8*j=(i-8*j)+1:=by omega
   rw[xP,e2,Nat.pow_succ];split
   ·rw[e1];omega
   ·omega
theorem zDZ (f:Nat->Bool)(i j:Nat):xP f i j<256:=by
 induction i with
 |zero=>simp[xP]
 |succ i ih=>
  rw[xP];split
  ·rename_i h
   have h3:=zF2 f i j (by omega) (by omega);have e1:i%8=i-8*j:=by omega
   rw[<-e1] at h3;have h4:2^(i%8)<=2^7:=Nat.pow_le_pow_right (by decide) (by omega);omega
  ·exact ih
theorem zLZ (f:Nat->Bool)(i:Nat):bits BinOp.or IntKind.u8 (xP f i (i/8):Nat) ((2^(i%8):Nat):Int)=((xP f i (i/8)+2^(i%8):Nat):Int):=by
 have h1:=zDZ f i (i/8);have h2:2^(i%8)<=2^7:=Nat.pow_le_pow_right (by decide) (by omega);have h3:=zF2 f i (i/8) (by omega) (by omega);have e1:i%8=i-8*(i/8):=by omega
 rw[<-e1] at h3;rw[u8_or_nat _ _ h1 (by omega),Nat.or_comm]
 congr 1
 rw[Nat.add_comm];have h:=Nat.two_pow_add_eq_or_of_lt h3 1;simpa using h.symm
theorem zK6 (f:Nat->Bool)(i:Nat):bits BinOp.or IntKind.u8 (xP f i (i/8):Nat) ((2:Int)^(i%8)%256)=((xP f i (i/8)+2^(i%8):Nat):Int):=by
 rw[<-zLZ];have h2:2^(i%8)<=2^7:=Nat.pow_le_pow_right (by decide) (by omega);have e:((2:Int)^(i%8)%256)=((2^(i%8):Nat):Int):=by
  have e1:((2^(i%8):Nat):Int)=(2:Int)^(i%8):=by simp
  rw[<-e1];generalize 2^(i%8)=z at *;omega
 rw[e]
theorem zGE (w:World)(b o cap n:Nat)(f:Nat->Bool)(hl:∀i,i<n->w.cell? ⟨b,o+i,none⟩=some (.bool (f i)))(hb:b<w.heap.size)(hn1:1<=n)(hn:n<=800000):
  Calls prog 103 #[.slice (some ⟨b,o,none⟩) n cap] w fun e w'=>∃u,e=.returned u∧Row w' w.heap.size 5 u ((n+7)/8) (fun j=>.int .u8 (xP f n j:Nat))∧Grew w w':=by
 obtain⟨i0,hi0,hz0,hz1,hz2⟩:=info_parts zMR;have HL:=vl hl;obtain⟨w1,hmk,ho1,hg1⟩:=run_makeSlice_full (P:=prog) w w.heap.size 68 5 i0 _ 1 underlying68 hi0 hz0 hz1 .i64 .i64 ((n+7)/8) (by omega) (by rw[hz2];omega) (by unfold maxLen;omega) (Nat.le_refl _);have ecast:(((n+7)/8:Nat):Int)=((n:Int)+7)/8:=by omega
 rw[ecast] at hmk;have HO1:Hid (Row w1 w.heap.size 5 (.slice (some ⟨w.heap.size,0,none⟩) ((n+7)/8) ((n+7)/8)) ((n+7)/8) (fun j=>.int .u8 (xP f 0 j:Nat))∧Grew w w1):=by
  refine⟨?_,⟨hg1.os,hg1.output,hg1.size,fun k hk _=>hg1.block k hk (by simp)⟩⟩;have h:=ho1;rw[Nat.mul_one,zAa _ rfl] at h;exact h
 go_in;go_wp2;go_loopg [13] n (fun q i wr=>∃j:Nat,q=n-j∧j<=n∧i=.int .i64 (j:Int)∧Row wr w.heap.size 5 (.slice (some ⟨w.heap.size,0,none⟩) ((n+7)/8) ((n+7)/8)) ((n+7)/8) (fun k=>.int .u8 (xP f j k:Nat))∧Grew w wr)
 case atStart=>exact⟨0,rfl,Nat.zero_le _,rfl,HO1.out.1,HO1.out.2⟩
 case round=>
  obtain⟨j,hgk,hj,rfl,ho,hkp⟩:=hrel;have HA:Hid (gk=n-j∧Row wr w.heap.size 5 (.slice (some ⟨w.heap.size,0,none⟩) ((n+7)/8) ((n+7)/8)) ((n+7)/8) (fun k=>.int .u8 (xP f j k:Nat))∧Grew w wr):=⟨hgk,ho,hkp⟩
  by_cases hj2:j<n
  ·have i1:(j:Int)<(n:Int):=by omega
   have yl:=(cell?_of_block (hkp.block b hb (by omega))).trans (HL.out j hj2);obtain⟨g,cp,hv,g1,g2,g3,g4,g5,g6⟩:=ho.get (by omega);have eg:g=w.heap.size:=by injection hv with e1 _ _;injection e1 with e1;injection e1 with e1;exact e1.symm
   subst eg;have yb:=g5 (j/8) (by omega);have zb:=g6 (j/8);have HOB:=vl <| zK6 f j;have HN:Hid (∀k,xP f (j+1) k=if f j=true∧k=j/8 then xP f j k+2^(j%8) else xP f j k):=fun k=>rfl;cases hf:f j with
   |true=>
    rw[hf] at yl;have HX:Hid (∀k,xP f (j+1) k=if k=j/8 then xP f j k+2^(j%8) else xP f j k):=by
     intro k;rw[HN.out k,hf];simp
    have i2:(j:Int)/8<((n:Int)+7)/8:=by omega
    have i3:(0:Int)<=(j:Int)/8:=by omega
    go_wp2;go_region;go_wp2;go_roundg (n-(j+1))
    case measure=>rw[HA.out.1];omega
    case rel=>
     refine⟨j+1,rfl,by omega,by go_num,?_,HA.out.2.2.trans (Keep.trans (zN _ _ _ _ (Nat.le_refl _)) (Keep.drew _))⟩;have h:=HA.out.2.1.set (j/8) (.int .u8 (bits BinOp.or IntKind.u8 (xP f j (j/8):Nat) ((2:Int)^(j%8)%256)));refine Row.congr (w:=(wr.setCell ⟨w.heap.size,j/8,none⟩ (.int .u8 (bits BinOp.or IntKind.u8 (xP f j (j/8):Nat) ((2:Int)^(j%8)%256)))).drew) h fun k _=>?_;rw[HX.out k,HOB.out];by_cases e:k=j/8
     ·subst e;simp
     ·simp[e]
   |false=>
    rw[hf] at yl;have HX:Hid (∀k,xP f (j+1) k=xP f j k):=by
     intro k;rw[HN.out k,hf];simp
    go_wp2;go_roundg (n-(j+1))
    case measure=>rw[HA.out.1];omega
    case rel=>exact⟨j+1,rfl,by omega,by go_num,HA.out.2.1.congr fun k _=>by rw[HX.out k],HA.out.2.2⟩
  ·have hjn:j=n:=by omega
   have i1:(n:Int)<=(j:Int):=by omega
   have HZ:Hid (Row wr w.heap.size 5 (.slice (some ⟨w.heap.size,0,none⟩) ((n+7)/8) ((n+7)/8)) ((n+7)/8) (fun k=>.int .u8 (xP f n k:Nat))):=by rw[<-hjn];rw[hjn] at ho ⊢;exact ho
   go_wp2;go_ret;exact⟨_,rfl,HZ.out,HA.out.2.2⟩
theorem zKV (ki k:Nat):1<=zG ki k:=by
 induction k with
 |zero=>exact Nat.le_refl _
 |succ k ih=>
  rw[zG];split
  ·exact Nat.mul_le_mul ih (by omega:1<=ki+1)
  ·exact ih
def Mem.blocks (w:World)(H b:Nat)(k:Nat):Prop:=k=b∨(H<=k∧k<w.heap.size)
theorem Row.intsAt {w:World}{H b:Nat}{e:TypeId}{v:Value}{n:Nat}{f:Nat->Int}(h:Row w H e v n fun i=>.int .i64 (f i))(hn:0<n):IntsAt w (Mem.blocks w H b) v n f:=by
 obtain⟨g,cap,hv,h1,h2,h3,h4,h5,_⟩:=h.get hn;exact⟨g,0,cap,.inr ⟨h1,h2⟩,hv,h3,h4,fun i hi=>by rw[Nat.zero_add];exact h5 i hi⟩
theorem Row.boolsAt {w:World}{H b:Nat}{e:TypeId}{v:Value}{n:Nat}{f:Nat->Bool}(h:Row w H e v n fun i=>.bool (f i))(hn:0<n):BoolsAt w (Mem.blocks w H b) v n f:=by
 obtain⟨g,cap,hv,h1,h2,h3,h4,h5,_⟩:=h.get hn;exact⟨g,0,cap,.inr ⟨h1,h2⟩,hv,h3,h4,fun i hi=>by rw[Nat.zero_add];exact h5 i hi⟩
theorem Row.bytesAt {w:World}{H b:Nat}{e:TypeId}{v:Value}{n:Nat}{f:Nat->Nat}(h:Row w H e v n fun i=>.int .u8 (f i:Nat))(hn:0<n):BytesAt w (Mem.blocks w H b) v n f:=by
 obtain⟨g,cap,hv,h1,h2,h3,h4,h5,_⟩:=h.get hn;exact⟨g,0,cap,.inr ⟨h1,h2⟩,hv,h3,h4,fun i hi=>by rw[Nat.zero_add];exact h5 i hi⟩
theorem Mem.tabAt {w:World}{H b:Nat}{c:Tc}{t:Tb}(h:Mem w H b c t)(h1:1<=t.nmode)(h2:1<=t.nrule)(h3:1<=t.nst)(h4:1<=t.count)(h5:1<=t.nlong):TabAt w (Mem.blocks w H b) b t:=by
 have hb:=h.tp;obtain⟨rv,n1,n2⟩:=h.next
 have c8:RowsAt w (Mem.blocks w H b) c.next t.nst t.count fun i k=>t.next i k:=by
  obtain⟨g,cap,hv,g1,g2,g3,g4,g5,_⟩:=n1.get h3;exact⟨g,0,cap,.inr ⟨g1,g2⟩,hv,g3,g4,fun i hi=>⟨rv i,by rw[Nat.zero_add];exact g5 i hi,(n2 i hi).intsAt h4⟩⟩
 refine⟨.inl rfl,?_,?_,?_,⟨_,?_,h.starts.intsAt h1⟩,⟨_,?_,h.acts.intsAt h2⟩,⟨_,?_,h.pushed.intsAt h2⟩,⟨_,?_,h.kinds.intsAt (by decide)⟩,?_,⟨_,?_,c8⟩,⟨_,?_,h.ends.intsAt h3⟩,⟨_,?_,h.live.boolsAt h3⟩,?_,⟨_,?_,h.longer.bytesAt h5⟩⟩
 ·rw[hb.get_stream,h.stream]
 ·rw[hb.get_ahead,h.ahead]
 ·rw[hb.get_hold,h.hold]
 ·unfold xA at hb;simp[World.cell?,hb]
 ·unfold xA at hb;simp[World.cell?,hb]
 ·unfold xA at hb;simp[World.cell?,hb]
 ·unfold xA at hb;simp[World.cell?,hb]
 ·unfold xA at hb;simp[World.cell?,hb,h.count]
 ·unfold xA at hb;simp[World.cell?,hb]
 ·unfold xA at hb;simp[World.cell?,hb]
 ·unfold xA at hb;simp[World.cell?,hb]
 ·unfold xA at hb;simp[World.cell?,hb,h.rows]
 ·unfold xA at hb;simp[World.cell?,hb]
structure Tb.Fine (t:Tb):Prop where
 ok:t.Ok
 nst:1<=t.nst
 count:1<=t.count
 long1:1<=t.nlong
 long2:t.nlong<=75000
 rule1:1<=t.nrule
 rule2:t.nrule<=8
 mode2:t.nmode<=3
 act:∀i,i<t.nrule->t.act i<4
structure LexAt (w:World)(S:Nat->Prop)(x p:Nat)(t:Tb):Prop where
 cell:w.cell? ⟨x,0,none⟩=some (.pointer (some ⟨p,0,none⟩))
 lt:x<w.heap.size
 tab:TabAt w S p t
 safe:∀k,S k->k<w.heap.size
theorem LexAt.keep {w w':World}{S:Nat->Prop}{x p:Nat}{t:Tb}(h:LexAt w S x p t)(e:∀k,k<w.heap.size->w'.heap[k]? =w.heap[k]?)(hs:w.heap.size<=w'.heap.size):LexAt w' S x p t:=
 ⟨(cell?_of_block (e x h.lt)).trans h.cell,Nat.lt_of_lt_of_le h.lt hs,h.tab.keep fun k hk=>e k (h.safe k hk),fun k hk=>Nat.lt_of_lt_of_le (h.safe k hk) hs⟩
theorem LexAt.grown {w w':World}{S:Nat->Prop}{x p:Nat}{t:Tb}(h:LexAt w S x p t)(e:Grew w w'):LexAt w' S x p t:=h.keep (fun k hk=>e.block k hk (by omega)) e.size
theorem zBC (kinds:Nat):zG kinds 0=1:=rfl
theorem zEy (kinds k m:Nat)(hkm:k<=m)(h:zG kinds m<=3000):zG kinds k<=3000:=by
 by_cases e:3000<zG kinds k
 ·rw[zDP kinds k m e hkm] at h
  omega
 ·omega
theorem zJP (kinds k:Nat)(h:zG kinds k<=3000):zG kinds (k+1)=zG kinds k*(kinds+1):=by
 rw[zG];split
 ·rfl
 ·omega
def Tb.aheadF (t:Tb):Nat->Nat->Bool
 |0=>fun _=>false
 |i+1=>t.more (zG t.count i) (t.aheadF i)
theorem Mem.tabN {w:World}{H b:Nat}{c:Tc}{t:Tb}(h:Mem w H b c t)(h3:1<=t.nst)(h4:1<=t.count):TabN w (Mem.blocks w H b) b t:=by
 have hb:=h.tp;obtain⟨rv,n1,n2⟩:=h.next
 have c8:RowsAt w (Mem.blocks w H b) c.next t.nst t.count fun i k=>t.next i k:=by
  obtain⟨g,cap,hv,g1,g2,g3,g4,g5,_⟩:=n1.get h3;exact⟨g,0,cap,.inr ⟨g1,g2⟩,hv,g3,g4,fun i hi=>⟨rv i,by rw[Nat.zero_add];exact g5 i hi,(n2 i hi).intsAt h4⟩⟩
 refine⟨.inl rfl,?_,⟨_,?_,c8⟩,⟨_,?_,h.ends.intsAt h3⟩⟩
 ·unfold xA at hb;simp[World.cell?,hb,h.count]
 ·unfold xA at hb;simp[World.cell?,hb]
 ·unfold xA at hb;simp[World.cell?,hb]
theorem Row.put {w:World}{H p i:Nat}{c:Tc}{x:Value}{e:TypeId}{v:Value}{n:Nat}{f:Nat->Value}(h:Row w H e v n f)(hp:xA w p c)(he:e≠90:=by decide):Row (w.setCell ⟨p,i,none⟩ x) H e v n f:=h.blk fun g _ _ hg=>Below.heap_setCell _ _ _ _ (zGu hp h he hg)
theorem Mem.putAhead {w:World}{H p:Nat}{c:Tc}{t:Tb}(h:Mem w H p c t)(a:Nat):Mem (w.setCell ⟨p,1,none⟩ (.int .i64 a)) H p {c with ahead:=.int .i64 a} {t with ahead:=a}:=by
 obtain⟨rv,n1,n2⟩:=h.next
 have hp:=h.tp;exact⟨h.tp.set_ahead _,h.stream,rfl,h.hold,h.count,h.rows,h.starts.put hp,h.acts.put hp,h.pushed.put hp,h.kinds.put hp,⟨rv,n1.put hp,fun i hi=>(n2 i hi).put hp⟩,h.ends.put hp,h.live.put hp,h.longer.put hp,by simp[World.setCell];exact h.HH⟩
theorem Mem.putRows {w:World}{H p:Nat}{c:Tc}{t:Tb}(h:Mem w H p c t)(a:Nat):Mem (w.setCell ⟨p,11,none⟩ (.int .i64 a)) H p {c with rows:=.int .i64 a} {t with rows:=a}:=by
 obtain⟨rv,n1,n2⟩:=h.next
 have hp:=h.tp;exact⟨h.tp.set_rows _,h.stream,h.ahead,h.hold,h.count,rfl,h.starts.put hp,h.acts.put hp,h.pushed.put hp,h.kinds.put hp,⟨rv,n1.put hp,fun i hi=>(n2 i hi).put hp⟩,h.ends.put hp,h.live.put hp,h.longer.put hp,by simp[World.setCell];exact h.HH⟩
theorem Mem.putLonger {w:World}{H p:Nat}{c:Tc}{t:Tb}(h:Mem w H p c t)(v:Value)(n:Nat)(f:Nat->Nat)(hv:Row w H 5 v n fun i=>.int .u8 (f i:Nat)):Mem (w.setCell ⟨p,12,none⟩ v) H p {c with longer:=v} {t with nlong:=n,long:=f}:=by
 obtain⟨rv,n1,n2⟩:=h.next
 have hp:=h.tp;exact⟨h.tp.set_longer _,h.stream,h.ahead,h.hold,h.count,h.rows,h.starts.put hp,h.acts.put hp,h.pushed.put hp,h.kinds.put hp,⟨rv,n1.put hp,fun i hi=>(n2 i hi).put hp⟩,h.ends.put hp,h.live.put hp,hv.put hp,by simp[World.setCell];exact h.HH⟩
theorem Mem.putStream {w:World}{H p:Nat}{c:Tc}{t:Tb}(h:Mem w H p c t)(a:Bool):Mem (w.setCell ⟨p,0,none⟩ (.bool a)) H p {c with stream:=.bool a} {t with stream:=a}:=by
 obtain⟨rv,n1,n2⟩:=h.next
 have hp:=h.tp;exact⟨h.tp.set_stream _,rfl,h.ahead,h.hold,h.count,h.rows,h.starts.put hp,h.acts.put hp,h.pushed.put hp,h.kinds.put hp,⟨rv,n1.put hp,fun i hi=>(n2 i hi).put hp⟩,h.ends.put hp,h.live.put hp,h.longer.put hp,by simp[World.setCell];exact h.HH⟩
theorem Mem.grown {w w':World}{H b:Nat}{c:Tc}{t:Tb}(h:Mem w H b c t)(hk:Grew w w'):Mem w' H b c t:=by
 have h1:=h.HH;have h2:=h.tp.lt;exact h.keep (hk.block b (by omega) (by omega)) (fun k _ h4=>hk.block k h4 (by omega)) hk.size
theorem TabN.mono {w:World}{S S':Nat->Prop}{p:Nat}{t:Tb}(h:TabN w S p t)(e:∀b,S b->S' b):TabN w S' p t:=by
 have hi:∀{v n f},IntsAt w S v n f->IntsAt w S' v n f:=fun⟨b,o,cap,hb,r⟩=>⟨b,o,cap,e b hb,r⟩
 refine⟨e p h.safe,h.c7,?_,?_⟩
 ·obtain⟨v,a,b,o,cap,hb,e1,e2,e3,e4⟩:=h.c8
  exact⟨v,a,b,o,cap,e b hb,e1,e2,e3,fun i hi'=>(e4 i hi').imp fun u hu=>⟨hu.1,hi hu.2⟩⟩
 ·obtain⟨v,a,b⟩:=h.c9;exact⟨v,a,hi b⟩
def Tb.looking (t:Tb)(a:Nat):Tb:={t with ahead:=a,rows:=zG t.count a,nlong:=(zG t.count a*t.nst+7)/8,long:=xP (t.aheadF a) (zG t.count a*t.nst)}
theorem zBH (w:World)(H p:Nat)(c:Tc)(t:Tb)(hM:Mem w H p c t)(ok:t.OkN)(hn1:1<=t.nst)(hc1:1<=t.count)(a:Nat)(ha:a<=255)(hw:zG t.count a<=3000):
  Calls prog 66 #[.pointer (some ⟨p,0,none⟩),.int .i64 a] w fun e w'=>e=.returned (.tuple #[])∧∃c',Mem w' H p c' (t.looking a)∧Keep w.heap.size p w w':=by
 obtain⟨i0,hi0,hz0,hz1,hz2⟩:=info_parts qO;have HM:=vl hM;have hpH:=hM.tp.lt;have hHH:=hM.HH;have y1:=hM.tp.get_ahead;have z1:=hM.tp.fz 1;have y7:w.cell? ⟨p,7,none⟩=some (.int .i64 (t.count:Nat)):=by rw[<-hM.count];exact hM.tp.get_count
 have hcb:=ok.count;have hnb:=ok.nst;rw[HM.out.ahead] at y1;go_in;refine wp_cut ?_;intro K0 HK0;go_wp2;refine HK0.out _ _ ?_;obtain⟨w1,hw1,M1⟩:∃w1,w1=w.setCell ⟨p,1,none⟩ (.int .i64 (a:Nat))∧Hid (Mem w1 H p {c with ahead:=.int .i64 a} {t with ahead:=a}∧Keep w.heap.size p w w1):=⟨_,rfl,HM.out.putAhead a,Keep.set _ _ _⟩
 rw[<-hw1];clear hw1 y1 z1 y7;refine wp_cut ?_;intro K1 HK1;have y7:w1.cell? ⟨p,7,none⟩=some (.int .i64 (t.count:Nat)):=by have h:=M1.out.1.tp.get_count;rw[M1.out.1.count] at h;exact h
 have y11:w1.cell? ⟨p,11,none⟩=some (.int .i64 (t.rows:Nat)):=by have h:=M1.out.1.tp.get_rows;rw[M1.out.1.rows] at h;exact h
 have z11:=M1.out.1.tp.fz 11;go_wp2_with fail;refine(zEM t.count a _ hcb ha).mono ?_;rintro e w1' ⟨rfl,rfl⟩;go_wp2;refine HK1.out _ _ ?_;obtain⟨w2,hw2,M2⟩:∃w2,w2=w1'.setCell ⟨p,11,none⟩ (.int .i64 (zG t.count a:Nat))∧Hid (Mem w2 H p {c with ahead:=.int .i64 a,rows:=.int .i64 (zG t.count a:Nat)} {t with ahead:=a,rows:=zG t.count a}∧Keep w.heap.size p w w2):=⟨_,rfl,M1.out.1.putRows _,M1.out.2.trans (Keep.set _ _ _)⟩
 rw[<-hw2];clear hw2 y7 y11 z11 M1;refine wp_seq_k ?_;intro K2 hK2;have HK2:Hid (∀a w,_->K2 a w):=hK2;clear hK2;obtain⟨rv,hnx,_⟩:=M2.out.1.next
 obtain⟨g8,c8,hv8,_⟩:=hnx.get hn1;have y8:w2.cell? ⟨p,8,none⟩=some (.slice (some ⟨g8,0,none⟩) t.nst c8):=by rw[<-show c.next=_ from hv8];exact M2.out.1.tp.get_next
 have hsz2:H<=w2.heap.size:=M2.out.1.HH;obtain⟨w3,hmk,ho3,hg3⟩:=run_makeSlice_full (P:=prog) w2 w2.heap.size 28 4 i0 _ 1 underlying28 hi0 hz0 hz1 .i64 .i64 t.nst (by omega) (by rw[hz2];omega) (by unfold maxLen;omega) (Nat.le_refl _);have HO3:Hid (OwnF w3 w2.heap.size (.slice (some ⟨w2.heap.size,0,none⟩) t.nst t.nst) (zG t.count 0*t.nst) (t.aheadF 0)∧Grew w2 w3):=by
  refine⟨?_,⟨hg3.os,hg3.output,hg3.size,fun k hk _=>hg3.block k hk (by simp)⟩⟩;have h:=ho3;rw[Nat.mul_one,zAa _ rfl] at h;rw[zBC,Nat.one_mul];exact h
 clear hnx hv8 ho3 hg3;go_wp2_with fail;refine HK2.out _ _ ?_;clear HK2 hmk y8;refine wp_seq_k ?_;intro K3 hK3;have HK3:Hid (∀a w,_->K3 a w):=hK3;clear hK3;have OKN:Hid t.OkN:=ok;have HW:Hid (zG t.count a<=3000):=hw;clear ok hw;go_wp2_with fail;go_loopg [4,5] a (fun q lst i wr=>∃j:Nat,q=a-j∧j<=a∧i=.int .i64 (j:Int)∧OwnF wr w2.heap.size lst (zG t.count j*t.nst) (t.aheadF j)∧Grew w2 wr)
 case atStart=>exact⟨0,rfl,Nat.zero_le _,rfl,HO3.out.1,HO3.out.2⟩
 case round=>
  obtain⟨j,hgk,hj,rfl,ho,hkp⟩:=hrel;have HA:Hid (gk=a-j∧OwnF wr w2.heap.size u4 (zG t.count j*t.nst) (t.aheadF j)∧Grew w2 wr):=⟨hgk,ho,hkp⟩
  have hwj:=zEy t.count j a hj HW.out;have hwp:=zKV t.count j;have hNp:1<=zG t.count j*t.nst:=Nat.mul_pos hwp hn1;have hNb:zG t.count j*t.nst<=600000:=Nat.le_trans (Nat.mul_le_mul hwj hnb) (by decide);have hTN:TabN wr (fun k=>k<wr.heap.size) p t:=by
   have h:=(M2.out.1.grown hkp).tabN hn1 hc1;have hs:=hkp.size;refine TabN.mono (S:=Mem.blocks wr H p) ⟨h.safe,h.c7,h.c8,h.c9⟩ fun k hk=>?_;rcases hk with hk|hk
   ·rw[hk];exact(M2.out.1.grown hkp).tp.lt
   ·exact hk.2
  obtain⟨g,cp,hv,g1,g2,g3,g4,g5,g6⟩:=Row.get ho hNp;subst hv;by_cases hj2:j<a
  ·have i1:(j:Int)<(a:Int):=by omega
   have hsucc:=zJP t.count j hwj;have hwj1:=zEy t.count (j+1) a hj2 HW.out;have hmul:(t.count+1)*(zG t.count j*t.nst)=zG t.count (j+1)*t.nst:=by
    rw[hsucc,<-Nat.mul_assoc,Nat.mul_comm (t.count+1)]
   have hbig:(t.count+1)*(zG t.count j*t.nst)<=800000:=by
    rw[hmul];exact Nat.le_trans (Nat.mul_le_mul hwj1 hnb) (by decide)
   have HC:=zCS p wr (fun k=>k<wr.heap.size) t hTN (fun k h=>h) OKN.out hn1 (zG t.count j) hwp (t.aheadF j) g 0 cp g2 (fun i hi=>by rw[Nat.zero_add];exact g5 i hi) g3 g4 hbig;rw[hmul] at HC;have HC2:Hid (Calls prog 102 #[.pointer (some ⟨p,0,none⟩),.slice (some ⟨g,0,none⟩) (zG t.count j*t.nst) cp] wr fun e w'=>∃u,e=.returned u∧OwnF w' wr.heap.size u (zG t.count (j+1)*t.nst) (t.aheadF (j+1))∧Grew wr w'):=HC;clear HC hgk ho hkp g5 g6 hTN hsucc hmul hbig;generalize hNN:zG t.count j*t.nst=N at *;clear hNN;go_wp2_with fail;refine HC2.out.mono ?_;rintro e w4 ⟨u,rfl,ho4,hk4⟩;have O4:Hid (OwnF w4 w2.heap.size u (zG t.count (j+1)*t.nst) (t.aheadF (j+1))∧Grew w2 w4):=⟨qW ho4 HA.out.2.2.size,HA.out.2.2.trans (hk4.lower HA.out.2.2.size HA.out.2.2.size)⟩
   clear ho4 hk4;go_wp2_with fail;go_roundg (a-(j+1))
   case measure=>rw[HA.out.1];omega
   case rel=>exact⟨j+1,rfl,by omega,by go_num,O4.out.1,O4.out.2⟩
  ·have hja:j=a:=by omega
   have i1:(a:Int)<=(j:Int):=by omega
   have HP:Hid (Calls prog 103 #[.slice (some ⟨g,0,none⟩) (zG t.count j*t.nst) cp] wr fun e w'=>∃u,e=.returned u∧Row w' wr.heap.size 5 u ((zG t.count a*t.nst+7)/8) (fun k=>.int .u8 (xP (t.aheadF a) (zG t.count a*t.nst) k:Nat))∧Grew wr w'):=by
    have h:=zGE wr g 0 cp (zG t.count j*t.nst) (t.aheadF j) (fun i hi=>by rw[Nat.zero_add];exact g5 i hi) g2 hNp (by omega);rw[hja] at h ⊢;exact h
   have MR:Hid (Mem wr H p {c with ahead:=.int .i64 a,rows:=.int .i64 (zG t.count a:Nat)} {t with ahead:=a,rows:=zG t.count a}∧Keep w.heap.size p w wr):=⟨M2.out.1.grown hkp,M2.out.2.trans (hkp.lower M2.out.2.size M2.out.2.size)⟩
   clear hgk ho hkp g5 g6 hTN;generalize zG t.count j*t.nst=N at *;go_wp2_with fail;refine HK3.out _ _ ?_;clear HK3;have y12:=MR.out.1.tp.get_longer;have z12:=MR.out.1.tp.fz 12;go_wp2_with fail;refine HP.out.mono ?_;rintro e w5 ⟨u,rfl,hr5,hk5⟩;obtain⟨au,cu,hu⟩:=zE hr5;have M5:Hid (Mem w5 H p {c with ahead:=.int .i64 a,rows:=.int .i64 (zG t.count a:Nat)} {t with ahead:=a,rows:=zG t.count a}∧Keep w.heap.size p w w5∧Row w5 H 5 u ((zG t.count a*t.nst+7)/8) (fun k=>.int .u8 (xP (t.aheadF a) (zG t.count a*t.nst) k:Nat))):=⟨MR.out.1.grown hk5,MR.out.2.trans (hk5.lower MR.out.2.size MR.out.2.size),hr5.mono MR.out.1.HH⟩
   have y12':w5.cell? ⟨p,12,none⟩=some c.longer:=M5.out.1.tp.get_longer;have z12':=M5.out.1.tp.fz 12;subst hu;clear hr5 hk5 y12 z12;go_wp2_with fail;go_end0;exact⟨rfl,_,M5.out.1.putLonger _ _ _ M5.out.2.2,M5.out.2.1.trans (Keep.set _ _ _)⟩
structure Laid where
 starts:List Int
 ends:List Int
 next:List (List Int)
 rules:Nat
def zS (kinds:List Int)(ms:List Sm):Nat->Laid
 |0=>⟨[],[],[],0⟩
 |j+1=>⟨(zS kinds ms j).starts++[((zS kinds ms j).next.length:Int)+(ms.getD j ⟨[],[],0,[]⟩).start],(zS kinds ms j).ends++(ms.getD j ⟨[],[],0,[]⟩).rules.map (yP (zS kinds ms j).rules),(zS kinds ms j).next++(ms.getD j ⟨[],[],0,[]⟩).next.map (fun row=>zT kinds row (zS kinds ms j).next.length 256),(zS kinds ms j).rules+(ms.getD j ⟨[],[],0,[]⟩).empty.length⟩
def zO (ms:List Sm):Nat->Nat
 |0=>0
 |j+1=>zO ms j+(ms.getD j ⟨[],[],0,[]⟩).next.length
def zQ (ms:List Sm):Nat->Nat
 |0=>0
 |j+1=>zQ ms j+(ms.getD j ⟨[],[],0,[]⟩).empty.length
theorem qI (ms:List Sm)(i j:Nat)(h:i<=j):zO ms i<=zO ms j:=by
 induction j with
 |zero=>rw[show i=0 by omega];exact Nat.le_refl _
 |succ j ih=>
  by_cases e:i=j+1
  ·rw[e];exact Nat.le_refl _
  ·have:=ih (by omega)
   rw[zO];omega
theorem zBi (ms:List Sm)(i j:Nat)(h:i<=j):zQ ms i<=zQ ms j:=by
 induction j with
 |zero=>rw[show i=0 by omega];exact Nat.le_refl _
 |succ j ih=>
  by_cases e:i=j+1
  ·rw[e];exact Nat.le_refl _
  ·have:=ih (by omega)
   rw[zQ];omega
structure ModesOk (ms:List Sm):Prop where
 one:1<=ms.length
 three:ms.length<=3
 states1:∀i (hi:i<ms.length),1<=ms[i].next.length
 wide:∀i (hi:i<ms.length),∀row∈ms[i].next,row.length=256∧∀b,b<256->0<=row.getD b 0∧row.getD b 0<ms[i].next.length
 rules:∀i (hi:i<ms.length),ms[i].rules.length=ms[i].next.length∧∀r∈ms[i].rules,-1<=r∧r<ms[i].empty.length
 start:∀i (hi:i<ms.length),0<=ms[i].start∧ms[i].start<ms[i].next.length
 states:zO ms ms.length<=200
 rules1:1<=zQ ms ms.length
 rules8:zQ ms ms.length<=8
theorem zAF (kinds:List Int)(ms:List Sm)(h:ModesOk ms)(j:Nat)(hj:j<=ms.length):(zS kinds ms j).starts.length=j∧(zS kinds ms j).next.length=zO ms j∧(zS kinds ms j).ends.length=zO ms j∧(zS kinds ms j).rules=zQ ms j:=by
 induction j with
 |zero=>exact⟨rfl,rfl,rfl,rfl⟩
 |succ j ih=>
  obtain⟨a,b,c,d⟩:=ih (by omega);have hj2:j<ms.length:=by omega
  have e:ms.getD j ⟨[],[],0,[]⟩=ms[j]:=by rw[List.getD_eq_getElem?_getD,List.getElem?_eq_getElem hj2];rfl
  rw[zS,zO,zQ,e];refine⟨by simp[a],by simp[b],?_,by simp[d]⟩;simp[c,(h.rules j hj2).1]
theorem zFL (ms:List Sm)(b n i:Nat)(hb:b<=n)(hi:i<b):(zB ms n).1.getD i 0=(zB ms b).1.getD i 0:=by
 induction n with
 |zero=>omega
 |succ n ih=>
  by_cases e:b=n+1
  ·rw[e]
  ·rw[<-ih (by omega)]
   have hl:=(qZ ms n).1;rw[zB];split <;> (rw [List.getD_eq_getElem?_getD,List.getElem?_append_left (by omega),<-List.getD_eq_getElem?_getD])
theorem zDE (ms:List Sm)(b i:Nat)(hi:i<b):0<=(zB ms b).1.getD i 0∧(zB ms b).1.getD i 0<(zB ms b).2:=by
 induction b generalizing i with
 |zero=>omega
 |succ b ih=>
  have hl:=(qZ ms b).1;have hf:=zGd ms b;rw[zB];split
  ·rename_i hlt
   by_cases e:i=b
   ·subst e
    rw[List.getD_eq_getElem?_getD,List.getElem?_append_right (by omega),hl];simp only[Nat.sub_self,List.getElem?_cons_zero,Option.getD_some];exact ih _ hlt
   ·rw[List.getD_eq_getElem?_getD,List.getElem?_append_left (by omega),<-List.getD_eq_getElem?_getD]
    exact ih i (by omega)
  ·by_cases e:i=b
   ·subst e
    rw[List.getD_eq_getElem?_getD,List.getElem?_append_right (by omega),hl];simp only[Nat.sub_self,List.getElem?_cons_zero,Option.getD_some];omega
   ·rw[List.getD_eq_getElem?_getD,List.getElem?_append_left (by omega),<-List.getD_eq_getElem?_getD]
    have:=ih i (by omega);show _∧_<(((zB ms b).2+1:Nat):Int);omega
theorem zF9 (ms:List Sm)(b n:Nat)(hb:b<n):((zB ms n).1.getD b 0=((zB ms b).2:Int)↔¬vU ms b<b)∧(zB ms (b+1)).2=if vU ms b<b then(zB ms b).2 else(zB ms b).2+1:=by
 rw[zFL ms (b+1) n b hb (by omega)];have hl:=(qZ ms b).1;rw[zB];split
 ·rename_i hlt
  refine⟨?_,rfl⟩;rw[List.getD_eq_getElem?_getD,List.getElem?_append_right (by omega),hl];simp only[Nat.sub_self,List.getElem?_cons_zero,Option.getD_some];have:=zDE ms b (vU ms b) hlt
  constructor
  ·intro e;omega
  ·intro e;exact absurd hlt e
 ·rename_i hlt
  refine⟨?_,rfl⟩;rw[List.getD_eq_getElem?_getD,List.getElem?_append_right (by omega),hl];simp only[Nat.sub_self,List.getElem?_cons_zero,Option.getD_some];exact⟨fun _=>hlt,fun _=>trivial⟩
theorem zFQ (ms:List Sm)(row:List Int)(first:Int)(n b:Nat)(hb:b<=n):(zT (zB ms n).1 row first b).length=(zB ms b).2:=by
 induction b with
 |zero=>rfl
 |succ b ih=>
  obtain⟨h1,h2⟩:=zF9 ms b n (by omega);have ih:=ih (by omega);rw[zT,h2];by_cases hlt:vU ms b<b
  ·rw[if_neg (by rw[ih];intro e;exact(h1.1 e) hlt),if_pos hlt,ih]
  ·rw[if_pos (by rw[ih];exact h1.2 hlt),if_neg hlt,List.length_append,ih]
   rfl
theorem zH8 (kinds row:List Int)(first:Int)(P:Int->Prop)(b:Nat)(h:∀i,i<b->P (first+row.getD i 0)):∀x∈zT kinds row first b,P x:=by
 induction b with
 |zero=>intro x hx;simp[zT] at hx
 |succ b ih=>
  intro x hx;rw[zT] at hx;split at hx
  ·rcases List.mem_append.1 hx with hx|hx
   ·exact ih (fun i hi=>h i (by omega)) x hx
   ·rw[List.mem_singleton.1 hx];exact h b (by omega)
  ·exact ih (fun i hi=>h i (by omega)) x hx
theorem zCG (ms:List Sm)(b:Nat)(hb:1<=b):1<=(zB ms b).2:=by
 induction b with
 |zero=>omega
 |succ b ih=>
  rw[(zF9 ms b (b+1) (by omega)).2];by_cases e:b=0
  ·subst e;simp
  ·have:=ih (by omega)
   split <;> omega
theorem zBS (ms:List Sm)(h:ModesOk ms)(j:Nat)(hj:j<=ms.length):
  (∀x∈(zS (zB ms 256).1 ms j).starts,0<=x∧x<zO ms j)∧
  (∀x∈(zS (zB ms 256).1 ms j).ends,-1<=x∧x<zQ ms j)∧
  (∀r∈(zS (zB ms 256).1 ms j).next,r.length=(zB ms 256).2∧∀x∈r,0<=x∧x<zO ms j):=by
 induction j with
 |zero=>exact⟨fun x hx=>by simp[zS] at hx,fun x hx=>by simp[zS] at hx,fun x hx=>by simp[zS] at hx⟩
 |succ j ih=>
  obtain⟨a,b,c⟩:=ih (by omega);obtain⟨s1,s2,s3,s4⟩:=zAF (zB ms 256).1 ms h j (by omega);have hj2:j<ms.length:=by omega
  have e:ms.getD j ⟨[],[],0,[]⟩=ms[j]:=by rw[List.getD_eq_getElem?_getD,List.getElem?_eq_getElem hj2];rfl
  have hs:=h.start j hj2;rw[zS,zO,zQ,e];refine⟨fun x hx=>?_,fun x hx=>?_,fun r hr=>?_⟩
  ·rcases List.mem_append.1 hx with hx|hx
   ·have:=a x hx;omega
   ·rw[List.mem_singleton.1 hx,s2];omega
  ·rcases List.mem_append.1 hx with hx|hx
   ·have:=b x hx;omega
   ·obtain⟨y,hy,rfl⟩:=List.mem_map.1 hx
    have:=(h.rules j hj2).2 y hy;unfold yP;rw[s4];split <;> omega
  ·rcases List.mem_append.1 hr with hr|hr
   ·refine⟨(c r hr).1,fun x hx=>?_⟩
    have:=(c r hr).2 x hx;omega
   ·obtain⟨row,hrow,rfl⟩:=List.mem_map.1 hr
    obtain⟨w1,w2⟩:=h.wide j hj2 row hrow;refine⟨zFQ ms row _ 256 256 (Nat.le_refl _),zH8 _ _ _ _ 256 fun i hi=>?_⟩;have:=w2 i hi;rw[s2];omega
def xL (ms:List Sm)(acts pushed:List Int)(hold:Nat):Tb where
 stream:=false
 ahead:=0
 hold:=hold
 count:=(zB ms 256).2
 rows:=0
 nst:=zO ms ms.length
 nmode:=ms.length
 nrule:=acts.length
 nlong:=0
 start:=fun i=>((zS (zB ms 256).1 ms ms.length).starts.getD i 0).toNat
 act:=fun i=>(acts.getD i 0).toNat
 push:=fun i=>(pushed.getD i 0).toNat
 kind:=fun b=>((zB ms 256).1.getD b 0).toNat
 next:=fun s k=>(((zS (zB ms 256).1 ms ms.length).next.getD s []).getD k 0).toNat
 ends:=fun s=>(zS (zB ms 256).1 ms ms.length).ends.getD s 0
 live:=fun _=>false
 long:=fun _=>0
theorem zR {α:Type}(l:List α)(i:Nat)(d:α)(h:i<l.length):l.getD i d∈l:=by
 rw[List.getD_eq_getElem?_getD,List.getElem?_eq_getElem h];exact List.getElem_mem h
theorem zCx (ms:List Sm)(acts pushed:List Int)(hold:Nat)(h:ModesOk ms)(ha:acts.length=zQ ms ms.length):(xL ms acts pushed hold).OkN:=by
 obtain⟨s1,s2,s3,s4⟩:=zAF (zB ms 256).1 ms h ms.length (Nat.le_refl _);obtain⟨b1,b2,b3⟩:=zBS ms h ms.length (Nat.le_refl _);refine⟨(qZ ms 256).2,h.states,fun s k hs hk=>?_,fun s hs=>?_⟩
 ·have hs':s<zO ms ms.length:=hs
  have hk':k<(zB ms 256).2:=hk;have hr:=b3 _ (zR _ s [] (by omega));have hx:=hr.2 _ (zR _ k 0 (by omega));show(((zS (zB ms 256).1 ms ms.length).next.getD s []).getD k 0).toNat<zO ms ms.length;omega
 ·have hs':s<zO ms ms.length:=hs
  have hx:=b2 _ (zR _ s 0 (by omega));show -1<=(zS (zB ms 256).1 ms ms.length).ends.getD s 0∧(zS (zB ms 256).1 ms ms.length).ends.getD s 0<(acts.length:Int);rw[ha];exact hx
end Go.Proofs.YtbjcfkdnjaiclaaGreat
