import Derived.Test.YtbjcfkdnjaiclaaGreatA0
import Derived.Test.YtbjcfkdnjaiclaaGreatA2
/- Parts of the proof. -/
set_option linter.unusedVariables false
set_option linter.unusedSimpArgs false
set_option maxHeartbeats 4000000
set_option maxRecDepth 100000
namespace Go.Proofs.YtbjcfkdnjaiclaaGreat
open Go.RowKit Go.Proofs.Tryz Go.World
open Go.Value (int slice bool pointer string agg tuple)
open Go.IntKind (i64)
open Go.Ending (returned)
theorem Bz.drewed {w0 X:World}{a:Addr}{u:Value}{H p g cap:Nat}{l:List Int}{n:Int}{i:Nat}(h:Bz w0 (X.setCell a u) H p g cap l n i):Bz w0 (X.drew.setCell a u) H p g cap l n i:=⟨h.1,h.2,h.3,⟨h.keep.os,h.keep.output,h.keep.size,h.keep.block⟩,h.stay⟩
theorem zJR (w:World)(H p:Nat)(v:Value)(l:List Int)(hB:BdAt w H p v l)(hl:l.length<=1000000000000)(n:Int):
  Calls prog 183 #[pointer (some ⟨p,0,none⟩),int i64 n] w fun e w'=>e=returned (tuple #[])∧zOr w' H p (zFW l n)∧Keep H H w w'∧Stay w w':=by
 obtain⟨i0,hi0,hz0,hz1,hz2⟩:=info_parts yL;obtain⟨ao,cap,rfl⟩:=hB.own.form;obtain⟨y0,z0⟩:=hB.cell;have HB:=vl hB;have OR:=vl hB.own;have hpH:=hB.pH;have hlt:=hB.lt;have HNP:=vl <| zM hB.own hB.blk (by decide);have hHw:H<=w.heap.size:=by omega
 go_in;apply wp_cut;intro K0 J;go_wp2_with (first|(at_builtin;refine wpList_append_lies _ rfl _ _ 45 rfl (H) 3 i0 (int i64 0) 1 8 underlying45 hi0 hz0 hz1 hz2 rfl (by decide) _ _ _ rfl (OR.out.alloc _) ⟨w.heap.size,0,none⟩ 1 1 [int i64 n] rfl rfl (cell_one_new _ _ _) (by intro u hu;simp at hu;subst hu;rfl) (by decide) (by unfold maxLen;omega) (by omega) (by simp;omega) _ rfl ?_;intro gg cap2 w2 hown hgrow hat hlt2;have hPB:w2.heap[p]? =w.heap[p]? :=(hgrow.block p (by simp;omega) HNP.out).trans (lG _ _ _ hlt);have t0:w2.cell? ⟨p,0,none⟩=some (slice ao l.length cap):=(gG hPB).trans y0;have f0:w2.frozen? ⟨p,0,none⟩=false:=(dQ hPB).trans z0))
 apply J.out;obtain⟨w3,hw3,A3⟩:∃w3,w3=w2.setCell ⟨p,0,none⟩ (slice (some ⟨gg,0,none⟩) (l.length+1) cap2)∧Hid (Bz w w3 H p gg cap2 l n l.length):=by
  refine⟨_,rfl,?_,?_,?_,?_,?_⟩
  ·have hb:=hPB.trans HB.out.blk
   simp[setCell,lU,hb]
  ·have ho:=OwnI.snoc hown
   have hgp:gg≠p:=fun e=>zM hown (hPB.trans HB.out.blk) (by decide) (by rw[<-e];rfl);have hr:Row w2 H 3 (slice (some ⟨gg,0,none⟩) (l.length+1) cap2) (l.length+1) fun j=>int i64 ((zCo l n l.length).getD j 0):=by
    refine ho.row (l.length+1) (by simp) _ fun j hj=>?_;simp[zCo]
   exact hr.blk fun g _ _ hg=>lJ _ _ _ _ fun e=>hgp (by have e':gg=g:=(by simpa[Value.ownBlock] using hg);rw[e',e])
  ·rw[zC];exact lZ hlt (lY (by simp) hgrow.size)
  ·exact(xO (xQ OR.out hgrow hHw)).trans (zO _ _ _ _ hpH)
  ·intro k c t hk h1 h2
   have hkl:k<w.heap.size:=by
    rcases Nat.lt_or_ge k w.heap.size with h|h
    ·exact h
    ·rw[Array.getElem?_eq_none h] at hk;cases hk
   have hkp:k≠p:=fun e=>by
    rw[e,HB.out.blk] at hk;injection hk with hk;injection hk with _ hk;exact h2 hk.symm
   exact(lJ _ _ _ _ hkp).trans ((hgrow.block k (by simp;omega) (zM OR.out hk (Ne.symm h1))).trans ((lG _ _ _ hkl).trans hk))
 rw[<-hw3];clear hw3 hPB t0 f0 hown hgrow hat y0 z0;have y3:w3.cell? ⟨p,0,none⟩=some (slice (some ⟨gg,0,none⟩) (l.length+1) cap2):=by unfold cell?;rw[A3.out.blk];rfl
 go_wp2;clear y3;go_loopg [4] l.length (fun q x wr=>∃i:Nat,q=i∧i<=l.length∧x=int i64 (i:Int)∧Bz w wr H p gg cap2 l n i∧zCC l n l.length=zCC l n i)
 case atStart=>exact⟨l.length,rfl,lQ,(by first|rfl|(congr 1;omega)),A3.out,rfl⟩
 case round=>
  obtain⟨i,hgk,hi,rfl,hZ,hp⟩:=hrel;have HA:Hid (gk=i∧Bz w wr H p gg cap2 l n i∧zCC l n l.length=zCC l n i):=⟨hgk,hZ,hp⟩
  have y3:wr.cell? ⟨p,0,none⟩=some (slice (some ⟨gg,0,none⟩) (l.length+1) cap2):=by unfold cell?;rw[hZ.blk];rfl
  have fin:zCC l n i=i->zOr wr H p (zFW l n)∧Keep H H w wr∧Stay w wr:=fun e=>by
   refine⟨⟨_,hZ.blk,?_,hpH,hZ.lt⟩,hZ.keep,hZ.stay⟩;have hr:=hZ.row;rw[show i=zCC l n l.length by rw[hp,e]] at hr;have e2:l.length+1=(zFW l n).length:=(zF9 _ _ _).symm;rw[e2] at hr ⊢;exact Row.ownI hr
  have FN:=vl fin;clear fin;cases i with
  |zero=>
   clear hgk hZ hp;go_wp2;go_end0;exact⟨rfl,FN.out rfl⟩
  |succ i=>
   obtain⟨g1,g2,g3,g4⟩:=hZ.row.at (by omega)
   have e0:(zCo l n (i+1)).getD i 0=l.getD i 0:=by rw[zDw l n (i+1) i hi,if_pos (by omega)]
   have y4:wr.cell? ⟨gg,i,none⟩=some (int i64 (l.getD i 0)):=by rw[<-e0];exact g3 i (by omega)
   have y5:=g3 (i+1) (by omega);have z4:=g4 i;have z5:=g4 (i+1);have HP:Hid (zCC l n (i+1)=if l.getD i 0>n then zCC l n i else i+1):=rfl;have hgp:gg≠p:=fun e=>zM hZ.row hZ.blk (by decide) (by rw[<-e];rfl);have hle:=zM8 l n i;have i1:(0:Int)<((i+1:Nat):Int):=by omega
   have i2:(i:Int)<((l.length+1:Nat):Int):=by omega
   have i3:((i+1:Nat):Int)<((l.length+1:Nat):Int):=by omega
   have ew:IntKind.i64.wrap (((i+1:Nat):Int)-1)=(i:Int):=by rw[zAL _ (by omega) (by omega)];omega
   have HST:=vl <| hZ.step hi;clear hgk hZ hp e0 g1 g2 g3 g4;generalize l.getD i 0=x at *;generalize (zCo l n (i+1)).getD (i+1) 0=x2 at *;by_cases hx:x>n
   ·have HP2:Hid (zCC l n (i+1)=zCC l n i):=by show _=_;rw[HP.out,if_pos hx]
    go_wp2;go_region;obtain⟨w5,hw5,H5,q3,q4,q5⟩:∃w5,w5=(wr.setCell ⟨gg,i+1,none⟩ (int i64 x)).drew∧Hid (Bz w (w5.setCell ⟨gg,i,none⟩ (int i64 n)) H p gg cap2 l n i)∧w5.cell? ⟨p,0,none⟩=some (slice (some ⟨gg,0,none⟩) (l.length+1) cap2)∧w5.cell? ⟨gg,i,none⟩=some (int i64 x)∧w5.frozen? ⟨gg,i,none⟩=false:=by
     have hb:(wr.setCell ⟨gg,i+1,none⟩ (int i64 x)).heap[p]? =wr.heap[p]? :=lJ _ _ _ _ (Ne.symm hgp);refine⟨_,rfl,HST.out.drewed,(gG hb).trans y3,?_,?_⟩
     ·show(wr.setCell ⟨gg,i+1,none⟩ (int i64 x)).cell? ⟨gg,i,none⟩=_
      rw[World.cell?_setCell_other]
      ·exact y4
      ·intro e
       injection e with _ e _;omega
     ·show(wr.setCell ⟨gg,i+1,none⟩ (int i64 x)).frozen? ⟨gg,i,none⟩=_
      simpa using z4
    rw[<-hw5];clear hw5 y3 y4 y5 z4 z5;go_wp2;go_roundg i
    case measure=>rw[HA.out.1];omega
    case rel=>exact⟨i,rfl,by omega,by go_num,H5.out,by rw[HA.out.2.2,HP2.out]⟩
   ·have HP2:Hid (zCC l n (i+1)=i+1):=by show _=_;rw[HP.out,if_neg hx]
    go_wp2;go_end0;exact⟨rfl,FN.out HP2.out⟩
def zMQ (l:List Int)(r:Int×Int):List Int:=zFW (zFW l r.1) (r.2+1)
def inR (l:List Int)(rs:List (Int×Int)):List Int:=rs.foldl zMQ l
def xH (sets:List Cs):List Int:=sets.foldl (fun l s=>inR l s.ranges) [0,55296,57344,1114112]
theorem zCH {α β:Type}(f:β->α->β)(b:β)(l:List α)(d:α)(k:Nat)(hk:k<l.length):(l.take (k+1)).foldl f b=f ((l.take k).foldl f b) (l.getD k d):=by
 rw[List.take_add_one,List.foldl_append,lW,lV hk];rfl
theorem zFi (l:List Int)(n:Int):(zFW l n).length=l.length+1:=zF9 _ _ _
theorem zKf (l:List Int)(rs:List (Int×Int)):(inR l rs).length=l.length+2*rs.length:=by
 unfold inR;induction rs generalizing l with
 |nil=>simp
 |cons r rs ih=>
  rw[List.foldl_cons,ih];unfold zMQ;rw[zFi,zFi,gZ];omega
def yE:List Cs->Nat
 |[]=>0
 |s::l=>s.ranges.length+yE l
theorem zFx (sets:List Cs)(l:List Int):(sets.foldl (fun l s=>inR l s.ranges) l).length=l.length+2*yE sets:=by
 induction sets generalizing l with
 |nil=>simp[yE]
 |cons s sets ih=>
  rw[List.foldl_cons,ih,zKf];simp only[yE];omega
theorem zD1 (sets:List Cs)(j:Nat)(hj:j<sets.length):yE (sets.take j)+(sets.getD j ⟨[],false⟩).ranges.length<=yE sets:=by
 induction sets generalizing j with
 |nil=>simp at hj
 |cons s sets ih=>
  cases j with
  |zero=>simp[yE]
  |succ j=>
   have:=ih j (by simpa using hj);simp only[List.take_succ_cons,yE,List.getD_cons_succ];omega
structure Bo (w wr:World)(l:List Int):Prop where
 bd:zOr wr (w.heap.size+1) (w.heap.size+2) l
 res:wr.heap[w.heap.size]? =some (.cells #[slice none 0 0] 239)
 keep:Grew w wr
theorem Bo.grown {w wr w2:World}{l:List Int}(h:Bo w wr l)(hk:Grew wr w2):Bo w w2 l:=by
 obtain⟨v,hb⟩:=h.bd;have hl:=hb.lt;exact⟨⟨v,(hk.block _ hl (kJ hl)).trans hb.blk,zK hb.own hk,hb.pH,lZ hl hk.size⟩,(hk.block _ (by omega) (by omega)).trans h.res,h.keep.trans (hk.lower (by omega) (by omega))⟩
theorem Bo.add {w wr:World}{l:List Int}(h:Bo w wr l)(hl:l.length<=1000000000000)(n:Int):
  Calls prog 183 #[pointer (some ⟨w.heap.size+2,0,none⟩),int i64 n] wr fun e w'=>e=returned (tuple #[])∧Bo w w' (zFW l n)∧wr.heap.size<=w'.heap.size∧Stay wr w':=by
 obtain⟨v,hb⟩:=h.bd;refine(zJR wr _ _ v l hb hl n).mono ?_;rintro e w2 ⟨rfl,hb2,hk,hs⟩;exact⟨rfl,⟨hb2,(hk.block _ (by omega) (by omega)).trans h.res,h.keep.trans (hk.lower (by omega) (by omega))⟩,hk.size,hs⟩
theorem Bo.start (w:World):Bo w (((w.alloc (.cells #[slice none 0 0] 239)).alloc (.cells #[int i64 0,int i64 55296,int i64 57344,int i64 1114112] 3)).alloc (.cells #[slice (some ⟨w.heap.size+1,0,none⟩) 4 4] 239)) [0,55296,57344,1114112]:=by
 obtain⟨w1,hw1⟩:∃w1,w1=w.alloc (.cells #[slice none 0 0] 239):=⟨_,rfl⟩
 have h1:w1.heap[w.heap.size]? =some (.cells #[slice none 0 0] 239):=by rw[hw1];exact gJ w _
 have k1:Grew w w1:=by rw[hw1];exact kZ _ _ lQ
 have s1:w1.heap.size=w.heap.size+1:=by rw[hw1];simp
 rw[<-hw1];obtain⟨w2,hw2⟩:∃w2,w2=w1.alloc (.cells #[int i64 0,int i64 55296,int i64 57344,int i64 1114112] 3):=⟨_,rfl⟩
 have h2:w2.heap[w.heap.size+1]? =some (.cells #[int i64 0,int i64 55296,int i64 57344,int i64 1114112] 3):=by rw[hw2,<-s1];exact gJ w1 _
 have k2:Grew w1 w2:=by rw[hw2];exact kZ _ _ lQ
 have s2:w2.heap.size=w.heap.size+2:=by rw[hw2];simp[s1]
 rw[<-hw2];obtain⟨w3,hw3⟩:∃w3,w3=w2.alloc (.cells #[slice (some ⟨w.heap.size+1,0,none⟩) 4 4] 239):=⟨_,rfl⟩
 have h3:w3.heap[w.heap.size+2]? =some (.cells #[slice (some ⟨w.heap.size+1,0,none⟩) 4 4] 239):=by rw[hw3,<-s2];exact gJ w2 _
 have k3:Grew w2 w3:=by rw[hw3];exact kZ _ _ lQ
 have s3:w3.heap.size=w.heap.size+3:=by rw[hw3];simp[s2]
 rw[<-hw3];refine⟨⟨_,h3,zK ⟨rfl,.inr ⟨w.heap.size+1,4,#[int i64 0,int i64 55296,int i64 57344,int i64 1114112],rfl,by omega,h2,lQ,by unfold maxLen;omega,rfl,rfl⟩⟩ k3,by omega,by omega⟩,?_,(k1.trans (k2.lower (by omega) (by omega))).trans (k3.lower (by omega) (by omega))⟩;exact(k3.block _ (by omega) (by omega)).trans ((k2.block _ (by omega) (by omega)).trans h1)
def Cs.Small (s:Cs):Prop:=∀r∈s.ranges,-4294967296<=r.1∧r.1<=4294967296∧-4294967296<=r.2∧r.2<=4294967296
theorem zEq (w:World)(v:Value)(sets:List Cs)(hS:SetsAt w v sets)(hn:sets.length<=24)(hN:yE sets<=100000000000)(hsm:∀s∈sets,s.Small):
  Calls prog 167 #[v] w fun e w'=>∃u,e=returned (agg #[u])∧OwnI w' w.heap.size u (xH sets)∧Grew w w':=by
 obtain⟨ao,cap,rfl,_,_,h3⟩:=hS;have HR:=vl h3;have HSM:Hid (∀i,i<sets.length->(sets.getD i ⟨[],false⟩).Small):=fun i hi=>hsm _ (zS _ i _ hi);have h0:=Bo.start w;have HNN:=vl hN;clear h3 hsm hN;go_in;apply wp_cut;intro K0 J;go_wp2;apply J.out;clear J;apply wp_cut;intro K0 J;go_wp2;apply J.out;clear J;generalize ((w.alloc (.cells #[slice none 0 0] 239)).alloc (.cells #[int i64 0,int i64 55296,int i64 57344,int i64 1114112] 3)).alloc (.cells #[slice (some ⟨w.heap.size+1,0,none⟩) 4 4] 239)=w1 at *;have H0:=vl h0;clear h0;go_wp2;go_loopg [12] sets.length (fun q i wr=>∃j:Nat,q=sets.length-j∧j<=sets.length∧i=int i64 (j:Int)∧Bo w wr (xH (sets.take j)))
 case atStart=>exact⟨0,rfl,lX,rfl,by rw[List.take_zero];exact H0.out⟩
 case round=>
  obtain⟨j,hgk,hj,rfl,hB⟩:=hrel;have HA:Hid (gk=sets.length-j∧Bo w wr (xH (sets.take j))):=⟨hgk,hB⟩
  by_cases hj2:j<sets.length
  ·have i1:(j:Int)<(sets.length:Int):=by omega
   obtain⟨b,o,u,rfl,hb,c0,c1,hr⟩:=HR.out j hj2;have hsmj:=HSM.out j hj2;have y0:=zA c0 hb hB.keep;have y1:=zA c1 hb hB.keep;obtain⟨s,hs⟩:∃s,sets.getD j ⟨[],false⟩=s:=⟨_,rfl⟩
   have hrt:=zD1 sets j hj2;rw[hs] at hr y1 hsmj hrt;have HSJ:Hid (sets.getD j ⟨[],false⟩=s∧yE (sets.take j)+s.ranges.length<=yE sets):=⟨hs,hrt⟩
   obtain⟨au,cu,rfl,_,_,hrc⟩:=hr;have HRC:=vl hrc;have HSM2:Hid s.Small:=hsmj;have hlr:s.ranges.length<=100000000000:=by have:=HNN.out;omega
   clear hrc hsmj hs hrt c0 c1 hgk hB;go_wp2;have H1:Hid (Bo w (wr.alloc (.cells #[slice au s.ranges.length cu,bool s.others] 161)) (xH (sets.take j))):=HA.out.2.grown (kZ _ _ lQ);generalize wr.alloc (.cells #[slice au s.ranges.length cu,bool s.others] 161)=w2 at *;clear y0 y1;go_loopg [19] s.ranges.length (fun q i wt=>∃k:Nat,q=s.ranges.length-k∧k<=s.ranges.length∧i=int i64 (k:Int)∧Bo w wt (inR (xH (sets.take j)) (s.ranges.take k)))
   case atStart=>exact⟨0,rfl,lX,rfl,by rw[List.take_zero];exact H1.out⟩
   case round=>
    obtain⟨k,hgk,hk,rfl,hB⟩:=hrel;have HB:Hid (gk=s.ranges.length-k∧Bo w wr (inR (xH (sets.take j)) (s.ranges.take k))):=⟨hgk,hB⟩
    by_cases hk2:k<s.ranges.length
    ·have i2:(k:Int)<(s.ranges.length:Int):=by omega
     obtain⟨br,orr,rfl,hbr,d0,d1⟩:=HRC.out k hk2;have y0:=zA d0 hbr hB.keep;have y1:=zA d1 hbr hB.keep;obtain⟨m1,m2,m3,m4⟩:=HSM2.out _ (zS s.ranges k (0,0) hk2);have HST:Hid (inR (xH (sets.take j)) (s.ranges.take (k+1))=zMQ (inR (xH (sets.take j)) (s.ranges.take k)) (s.ranges.getD k (0,0))):=zCH _ _ _ (0,0) k hk2;have HLEN:Hid ((inR (xH (sets.take j)) (s.ranges.take k)).length+2<=1000000000000):=by
      have h1:=HSJ.out.2;have h2:=HNN.out;have h3:(xH (sets.take j)).length=4+2*yE (sets.take j):=zFx _ _;show _<=_;rw[zKf,h3,List.length_take];omega
     obtain⟨l,hl⟩:∃l,inR (xH (sets.take j)) (s.ranges.take k)=l:=⟨_,rfl⟩
     rw[hl] at HST HLEN HB;clear d0 d1 hgk hB hl;obtain⟨x,hx⟩:∃x,(s.ranges.getD k (0,0)).1=x:=⟨_,rfl⟩
     obtain⟨y,hy⟩:∃y,(s.ranges.getD k (0,0)).2=y:=⟨_,rfl⟩
     have HXY:Hid (zMQ l (s.ranges.getD k (0,0))=zFW (zFW l x) (y+1)):=by show _=_;unfold zMQ;rw[hx,hy]
     rw[hx] at y0 m1 m2;rw[hy] at y1 m3 m4;clear hx hy;have H2:Hid (Bo w (wr.alloc (.cells #[int i64 x,int i64 y] 255)) l∧(wr.alloc (.cells #[int i64 x,int i64 y] 255)).heap[wr.heap.size]? =some (.cells #[int i64 x,int i64 y] 255)):=⟨HB.out.2.grown (kZ _ _ lQ),gJ wr _⟩
     have HC1:Hid (∀wx,Bo w wx l->_):=fun wx h=>h.add (lY (Nat.le_add_right _ 2) HLEN.out) x;have HC2:Hid (∀wx,Bo w wx (zFW l x)->_):=fun wx h=>h.add (by rw[zFi];have:=HLEN.out;omega) (y+1);go_wp2_with (first|(go_at_call 183;first|(refine (HC2.out _ hb5).mono ?_;rintro e w6 ⟨rfl,hb6,-,-⟩)|(refine (HC1.out _ H2.out.1).mono ?_;rintro e w5 ⟨rfl,hb5,hs5,hst5⟩;have z1:w5.cell? ⟨wr.heap.size,1,none⟩=some (int i64 y):=(by have h:=hst5 _ _ _ H2.out.2 (by decide) (by decide);unfold cell?;rw[h];rfl))))
     go_roundg (s.ranges.length-(k+1))
     case measure=>rw[HB.out.1];omega
     case rel=>exact⟨k+1,rfl,by omega,by go_num,by rw[HST.out,HXY.out];exact hb6⟩
    ·have i2:(s.ranges.length:Int)<=(k:Int):=by omega
     have HZ:Hid (Bo w wr (xH (sets.take (j+1)))):=by
      have h:=hB;have et:s.ranges.take k=s.ranges:=List.take_of_length_le (by omega);rw[et] at h;have e:xH (sets.take (j+1))=inR (xH (sets.take j)) s.ranges:=by
       rw[<-HSJ.out.1];exact zCH _ _ _ ⟨[],false⟩ j hj2
      show Bo _ _ _;rw[e];exact h
     clear hgk hB;go_wp2;go_roundg (sets.length-(j+1))
     case measure=>rw[HA.out.1];omega
     case rel=>exact⟨j+1,rfl,by omega,by go_num,HZ.out⟩
  ·have i1:(sets.length:Int)<=(j:Int):=by omega
   have HZ:Hid (Bo w wr (xH sets)):=by
    have h:=hB;rw[List.take_of_length_le (by omega)] at h;exact h
   obtain⟨v,hb⟩:=HZ.out.bd;obtain⟨y0,-⟩:=hb.cell;obtain⟨av,cv,rfl⟩:=hb.own.form;have hres:=HZ.out.res;have x0:wr.cell? ⟨w.heap.size,0,none⟩=some (slice none 0 0):=by unfold cell?;rw[hres];rfl
   have xf:wr.frozen? ⟨w.heap.size,0,none⟩=false:=by unfold frozen?;rw[hres];rfl
   have HO:Hid (OwnI wr (w.heap.size+1) (slice av (xH sets).length cv) (xH sets)):=hb.own;clear hgk hB hb hres;go_wp2;refine dZ (v:=agg #[slice av (xH sets).length cv]) (by simp[results,results167,go_sem, *]) rfl ⟨_,rfl,vF (H:=w.heap.size+1) (zX HO.out (by omega)) (by omega),HZ.out.keep.trans (zO _ _ _ _ lQ)⟩
section
structure Aw (w:World)(H p:Nat)(lv tv sv:Value)(a:Ar):Prop where
 blk:w.heap[p]? =some (.cells #[lv,tv,sv] 172)
 lows:OwnI w H lv a.lows
 letters:OwnI w H tv a.letters
 sets:OwnI w H sv a.sets
 ne1:∀g,lv.ownBlock=some g->some g≠tv.ownBlock
 ne2:∀g,lv.ownBlock=some g->some g≠sv.ownBlock
 ne3:∀g,tv.ownBlock=some g->some g≠sv.ownBlock
 pH:p<H
 lt:H<=w.heap.size
section
variable {w w2:World} {H p:Nat} {lv tv sv:Value} {a:Ar}
theorem Aw.grown (h:Aw w H p lv tv sv a)(hk:Grew w w2):Aw w2 H p lv tv sv a:=by
 have h1:=h.pH;have h2:=h.lt;exact⟨(hk.block _ (by omega) (by omega)).trans h.blk,zK h.lows hk,zK h.letters hk,zK h.sets hk,h.ne1,h.ne2,h.ne3,h.pH,lY h2 hk.size⟩
theorem Aw.cells (h:Aw w H p lv tv sv a):w.cell? ⟨p,0,none⟩=some lv∧w.cell? ⟨p,1,none⟩=some tv∧w.cell? ⟨p,2,none⟩=some sv∧∀i,w.frozen? ⟨p,i,none⟩=false:=by
 refine⟨?_,?_,?_,fun i=>?_⟩
 all_goals first|(unfold cell?;rw[h.blk];rfl)|(unfold frozen?;rw[h.blk];simp)
theorem yX {w:World}{H g cap n m:Nat}{v u:Value}{ys:List Value}{e z:Nat}(hu:w.ownsRow H e z u m ys)(hne:∀g,v.ownBlock=some g->some g≠u.ownBlock)(hat:v.ownBlock=some g∨w.heap.size<=g):∀k,(Value.slice (some ⟨g,0,none⟩) n cap).ownBlock=some k->some k≠u.ownBlock:=by
 intro k hk e;have e1:g=k:=by simpa[Value.ownBlock] using hk
 subst e1;rcases hat with ha|ha
 ·exact hne g ha e
 ·have:=(hu.lt g e.symm).2
  omega
theorem zCg {u v:Value}(h:∀g,u.ownBlock=some g->some g≠v.ownBlock):∀g,v.ownBlock=some g->some g≠u.ownBlock:=fun g hg e=>h g e.symm hg.symm
theorem Aw.lows_app {o:Obj}{g cap:Nat}{x:Int}(h:Aw w H p lv tv sv a)(hown:w2.ownsRow H 3 1 (slice (some ⟨g,0,none⟩) (a.lows.length+1) cap) (a.lows.length+1) ((a.lows.map fun x=>int i64 x)++[int i64 x]))(hg:(w.alloc o).grownBy w2 lv.ownBlock)(hat:lv.ownBlock=some g∨w.heap.size<=g):
  Aw (w2.setCell ⟨p,0,none⟩ (slice (some ⟨g,0,none⟩) (a.lows.length+1) cap)) H p (slice (some ⟨g,0,none⟩) (a.lows.length+1) cap) tv sv {a with lows:=a.lows++[x]}∧Keep H p w (w2.setCell ⟨p,0,none⟩ (slice (some ⟨g,0,none⟩) (a.lows.length+1) cap)):=by
 have hpH:=h.pH;have hlt:=h.lt;have hbl:∀j,j<H->w2.heap[j]? =w.heap[j]? :=fun j hj=>(hg.block j (by simp;omega) fun e=>by have:=(h.lows.lt j e.symm).1;omega).trans (lG _ _ _ (by omega));have hb:=(hbl p hpH).trans h.blk;have hsz:w.heap.size<=w2.heap.size:=lY (by simp) hg.size;refine⟨⟨?_,zX (OwnI.snoc hown) h.pH,zX (zR hg h.letters (fun g hg e=>h.ne1 g e.symm hg.symm)) h.pH,zX (zR hg h.sets (fun g hg e=>h.ne2 g e.symm hg.symm)) h.pH,yX h.letters h.ne1 hat,yX h.sets h.ne2 hat,h.ne3,hpH,by rw[zC];omega⟩,⟨hg.os,hg.output,by rw[zC];exact hsz,fun k h1 h2=>(lJ _ _ _ _ h2).trans (hbl k h1)⟩⟩;simp[setCell,lU,hb]
theorem Aw.letters_app {o:Obj}{g cap:Nat}{x:Int}(h:Aw w H p lv tv sv a)(hown:w2.ownsRow H 3 1 (slice (some ⟨g,0,none⟩) (a.letters.length+1) cap) (a.letters.length+1) ((a.letters.map fun x=>int i64 x)++[int i64 x]))(hg:(w.alloc o).grownBy w2 tv.ownBlock)(hat:tv.ownBlock=some g∨w.heap.size<=g):
  Aw (w2.setCell ⟨p,1,none⟩ (slice (some ⟨g,0,none⟩) (a.letters.length+1) cap)) H p lv (slice (some ⟨g,0,none⟩) (a.letters.length+1) cap) sv {a with letters:=a.letters++[x]}∧Keep H p w (w2.setCell ⟨p,1,none⟩ (slice (some ⟨g,0,none⟩) (a.letters.length+1) cap)):=by
 have hpH:=h.pH;have hlt:=h.lt;have hbl:∀j,j<H->w2.heap[j]? =w.heap[j]? :=fun j hj=>(hg.block j (by simp;omega) fun e=>by have:=(h.letters.lt j e.symm).1;omega).trans (lG _ _ _ (by omega));have hb:=(hbl p hpH).trans h.blk;have hsz:w.heap.size<=w2.heap.size:=lY (by simp) hg.size;refine⟨⟨?_,zX (zR hg h.lows h.ne1) h.pH,zX (OwnI.snoc hown) h.pH,zX (zR hg h.sets (fun g hg e=>h.ne3 g e.symm hg.symm)) h.pH,zCg (yX h.lows (fun g hg e=>h.ne1 g e.symm hg.symm) hat),h.ne2,yX h.sets h.ne3 hat,hpH,by rw[zC];omega⟩,⟨hg.os,hg.output,by rw[zC];exact hsz,fun k h1 h2=>(lJ _ _ _ _ h2).trans (hbl k h1)⟩⟩;simp[setCell,lU,hb]
theorem Aw.sets_app {o:Obj}{g cap:Nat}{x:Int}(h:Aw w H p lv tv sv a)(hown:w2.ownsRow H 3 1 (slice (some ⟨g,0,none⟩) (a.sets.length+1) cap) (a.sets.length+1) ((a.sets.map fun x=>int i64 x)++[int i64 x]))(hg:(w.alloc o).grownBy w2 sv.ownBlock)(hat:sv.ownBlock=some g∨w.heap.size<=g):
  Aw (w2.setCell ⟨p,2,none⟩ (slice (some ⟨g,0,none⟩) (a.sets.length+1) cap)) H p lv tv (slice (some ⟨g,0,none⟩) (a.sets.length+1) cap) {a with sets:=a.sets++[x]}∧Keep H p w (w2.setCell ⟨p,2,none⟩ (slice (some ⟨g,0,none⟩) (a.sets.length+1) cap)):=by
 have hpH:=h.pH;have hlt:=h.lt;have hbl:∀j,j<H->w2.heap[j]? =w.heap[j]? :=fun j hj=>(hg.block j (by simp;omega) fun e=>by have:=(h.sets.lt j e.symm).1;omega).trans (lG _ _ _ (by omega));have hb:=(hbl p hpH).trans h.blk;have hsz:w.heap.size<=w2.heap.size:=lY (by simp) hg.size;refine⟨⟨?_,zX (zR hg h.lows h.ne2) h.pH,zX (zR hg h.letters h.ne3) h.pH,zX (OwnI.snoc hown) h.pH,h.ne1,zCg (yX h.lows (fun g hg e=>h.ne2 g e.symm hg.symm) hat),zCg (yX h.letters (fun g hg e=>h.ne3 g e.symm hg.symm) hat),hpH,by rw[zC];omega⟩,⟨hg.os,hg.output,by rw[zC];exact hsz,fun k h1 h2=>(lJ _ _ _ _ h2).trans (hbl k h1)⟩⟩;simp[setCell,lU,hb]
end
end
def Ar.look (a:Ar)(x:Int):Nat:=a.sets.findIdx (·==x)
def Ar.seen (a:Ar)(x:Int):Ar:=if a.look x<a.sets.length then a else{a with sets:=a.sets++[x]}
def AwIs (w:World)(H p:Nat)(a:Ar):Prop:=∃lv tv sv,Aw w H p lv tv sv a
theorem zNh (a:Ar)(x:Int)(j:Nat)(hj:j<a.sets.length)(h:a.sets.getD j 0=x)(hn:∀i,i<j->a.sets.getD i 0≠x):a.look x=j:=by
 unfold Ar.look;rw[List.findIdx_eq hj];rw[lW,lV hj] at h;refine⟨by simpa using h,fun i hi=>?_⟩;have:=hn i hi;rw[lW,lV (by omega)] at this;simpa using this
theorem zK1 (a:Ar)(x:Int)(hn:∀i,i<a.sets.length->a.sets.getD i 0≠x):a.look x=a.sets.length:=by
 unfold Ar.look;rw[List.findIdx_eq_length];intro y hy;obtain⟨i,hi,rfl⟩:=List.getElem_of_mem hy;have:=hn i hi;rw[lW,lV hi] at this;simpa using this
theorem zFb (w:World)(H p:Nat)(a:Ar)(hA:AwIs w H p a)(hl:a.sets.length<=1000000000000)(x:Int):
  Calls prog 168 #[pointer (some ⟨p,0,none⟩),int i64 x] w fun e w'=>e=returned (int i64 (a.look x))∧AwIs w' H p (a.seen x)∧Keep H p w w':=by
 obtain⟨i0,hi0,hz0,hz1,hz2⟩:=info_parts yL;obtain⟨lv,tv,sv,hA⟩:=hA;obtain⟨as_,cs,rfl⟩:=hA.sets.form;obtain⟨y0,y1,y2,f⟩:=hA.cells;have f2:=f 2;have HA:=vl hA;have OR:=vl hA.sets;have hpH:=hA.pH;have hlt:=hA.lt;have HCL:Hid (∀i,i<a.sets.length->∃g,as_=some ⟨g,0,none⟩∧w.cell? ⟨g,i,none⟩=some (int i64 (a.sets.getD i 0))):=by
  intro i hi;obtain⟨g,hg⟩:∃g,as_=some ⟨g,0,none⟩:=by
   rcases hA.sets.2 with⟨h,h0⟩|⟨g,_,_,h,_⟩
   ·omega
   ·injection h with h _ _
    exact⟨g,h⟩
  subst hg;exact⟨g,rfl,hA.sets.cell i hi⟩
 have HL1:Hid (∀j,j<a.sets.length->a.sets.getD j 0=x->(∀i,i<j->a.sets.getD i 0≠x)->a.look x=j∧a.seen x=a):=fun j hj h hn=>by
  have e:=zNh a x j hj h hn;exact⟨e,by unfold Ar.seen;rw[e,if_pos hj]⟩
 have HL2:Hid ((∀i,i<a.sets.length->a.sets.getD i 0≠x)->a.look x=a.sets.length∧a.seen x={a with sets:=a.sets++[x]}):=fun hn=>by
  have e:=zK1 a x hn;exact⟨e,by unfold Ar.seen;rw[e,if_neg (Nat.lt_irrefl _)]⟩
 go_in;go_wp2;go_loopg [12] a.sets.length (fun q i wr=>∃j:Nat,q=a.sets.length-j∧j<=a.sets.length∧i=int i64 (j:Int)∧(∀i,i<j->a.sets.getD i 0≠x)∧wr=w)
 case atStart=>exact⟨0,rfl,lX,rfl,fun i hi=>by omega,rfl⟩
 case round=>
  obtain⟨j,hgk,hj,rfl,hno,hw⟩:=hrel;subst hw;have HB:Hid (gk=a.sets.length-j∧∀i,i<j->a.sets.getD i 0≠x):=⟨hgk,hno⟩
  by_cases hj2:j<a.sets.length
  ·have i1:(j:Int)<(a.sets.length:Int):=by omega
   obtain⟨g,rfl,hc⟩:=HCL.out j hj2;have HL3:Hid (a.sets.getD j 0=x->a.look x=j∧a.seen x=a):=fun h=>HL1.out j hj2 h HB.out.2;have HN3:Hid (a.sets.getD j 0≠x->∀i,i<j+1->a.sets.getD i 0≠x):=fun h i hi=>by
    by_cases e:i=j
    ·rw[e];exact h
    ·exact HB.out.2 i (by omega)
   generalize a.sets.getD j 0=y at *;by_cases hy:y=x
   ·have HR:=HL3.out hy
    have HR2:=vl HR;have hy2:(y==x)=true:=by simp[hy]
    go_wp2;go_ret;exact⟨by rw[HR2.out.1];rfl,by rw[HR2.out.2];exact⟨_,_,_,HA.out⟩,⟨rfl,rfl,lQ,fun _ _ _=>rfl⟩⟩
   ·have HR:=vl <| HN3.out hy
    have hy2:(y==x)=false:=by simp[hy]
    go_wp2;go_roundg (a.sets.length-(j+1))
    case measure=>rw[HB.out.1];omega
    case rel=>exact⟨j+1,rfl,by omega,by go_num,HR.out,rfl⟩
  ·have i1:(a.sets.length:Int)<=(j:Int):=by omega
   have HR:=vl <| HL2.out fun i hi=>hno i (by omega);have hHs:=hlt;go_wp2_with (first|(at_builtin;refine wpList_append_lies _ rfl _ _ 45 rfl (H) 3 i0 (int i64 0) 1 8 underlying45 hi0 hz0 hz1 hz2 rfl (by decide) _ _ _ rfl (OR.out.alloc _) ⟨wr.heap.size,0,none⟩ 1 1 [int i64 x] rfl rfl (cell_one_new _ _ _) (by intro u hu;simp at hu;subst hu;rfl) (by decide) (by unfold maxLen;omega) (by omega) (by simp;omega) _ rfl ?_;intro gg cap2 w2 hown hgrow hat hlt2;have hPB:=(hgrow.block p (by simp;omega) (fun e=>by have:=(OR.out.lt _ e.symm).1;omega)).trans (lG _ _ _ (by omega));have t2:=(gG hPB).trans y2;have g2:=(dQ hPB).trans f2;have A2:=Aw.sets_app HA.out hown hgrow (by rcases hat with ha|ha;exact .inl ha;right;rw[ha];simp);have t3:=A2.1.cells.2.2.1))
   go_ret;refine⟨?_,by rw[HR.out.2];exact⟨_,_,_,A2.1⟩,A2.2⟩;rw[HR.out.1]
   first|rfl|(simp;done)|(show _=_;congr 2;omega)
section
variable (sets:List Cs) (a:Ar) (low:Int)
theorem AwIs.grown {w w2:World}{H p:Nat}{a:Ar}(h:AwIs w H p a)(hk:Grew w w2):AwIs w2 H p a:=by
 obtain⟨lv,tv,sv,h⟩:=h;exact⟨lv,tv,sv,h.grown hk⟩
def Ar.turns (a:Ar)(l:Nat):Bool:=a.letters.length==0||(a.letters.getD (a.letters.length-1) 0 != (l:Int))
def Ar.step (sets:List Cs)(a:Ar)(low:Int):Ar:=
 if(a.seen (qO sets low)).turns (a.look (qO sets low)) then{a.seen (qO sets low) with lows:=(a.seen (qO sets low)).lows++[low],letters:=(a.seen (qO sets low)).letters++[(a.look (qO sets low):Int)]} else a.seen (qO sets low)
def qY (sets:List Cs)(j:Nat):Ar:=((xH sets).take j).foldl (Ar.step sets) ⟨[],[],[]⟩
def xZ (sets:List Cs):Ar:=(xH sets).foldl (Ar.step sets) ⟨[],[],[]⟩
theorem zBL (j:Nat)(hj:j<(xH sets).length):qY sets (j+1)=(qY sets j).step sets ((xH sets).getD j 0):=zCH _ _ _ 0 j hj
theorem zE4 (j:Nat)(hj:(xH sets).length<=j):qY sets j=xZ sets:=by
 unfold qY;rw[List.take_of_length_le hj];rfl
theorem zEQ (x:Int):(a.seen x).lows=a.lows∧(a.seen x).letters=a.letters∧(a.seen x).sets.length<=a.sets.length+1:=by
 unfold Ar.seen;split
 ·exact⟨rfl,rfl,by omega⟩
 ·exact⟨rfl,rfl,by simp⟩
theorem zIZ (n:Nat)(h:a.lows.length=a.letters.length∧a.lows.length<=n∧a.sets.length<=n):(a.step sets low).lows.length=(a.step sets low).letters.length∧(a.step sets low).lows.length<=n+1∧(a.step sets low).sets.length<=n+1:=by
 obtain⟨e1,e2,e3⟩:=zEQ a (qO sets low);unfold Ar.step;split
 ·show((a.seen _).lows++[low]).length=((a.seen _).letters++[_]).length∧((a.seen _).lows++[low]).length<=n+1∧(a.seen _).sets.length<=n+1
  rw[e1,e2,kX,kX];simp only[List.length_singleton];omega
 ·rw[e1,e2]
  omega
theorem zC3 (j:Nat)(hj:j<=(xH sets).length):(qY sets j).lows.length=(qY sets j).letters.length∧(qY sets j).lows.length<=j∧(qY sets j).sets.length<=j:=by
 induction j with
 |zero=>exact⟨rfl,lQ,lQ⟩
 |succ j ih=>
  rw[zBL sets j (by omega)];exact zIZ sets _ _ j (ih (by omega))
theorem Ar.step_yes (h:(a.seen (qO sets low)).turns (a.look (qO sets low))=true):a.step sets low={a.seen (qO sets low) with lows:=(a.seen (qO sets low)).lows++[low],letters:=(a.seen (qO sets low)).letters++[(a.look (qO sets low):Int)]}:=by
 unfold Ar.step;rw[if_pos h]
theorem Ar.step_no (h:(a.seen (qO sets low)).turns (a.look (qO sets low))=false):a.step sets low=a.seen (qO sets low):=by
 unfold Ar.step;rw[h];rfl
end
theorem OwnI.some {w:World}{H n cap:Nat}{ao:Option Addr}{l:List Int}(h:OwnI w H (slice ao n cap) l)(hl:0<l.length):∃g,ao=some ⟨g,0,none⟩:=by
 rcases h.2 with⟨_,h0⟩|⟨g,_,_,h,_⟩
 ·omega
 ·injection h with h _ _
  exact⟨g,h⟩
theorem zAE {w:World}{H:Nat}{v:Value}{l:List Int}(h:OwnI w H v l):Ints w (In w) v l:=zBM h fun g hg=>(h.lt g hg).2
theorem zJa (w:World)(v:Value)(sets:List Cs)(hS:SetsAt w v sets)(hn:sets.length<=24)(hN:yE sets<=100000000000)(hsm:∀s∈sets,s.Small):
  Calls prog 127 #[v] w fun e w'=>∃lv tv sv,e=returned (agg #[lv,tv,sv])∧ArAt w' lv tv sv (xZ sets)∧Grew w w':=by
 obtain⟨i0,hi0,hz0,hz1,hz2⟩:=info_parts yL;have HBC:Hid (∀w',Grew w w'->_):=fun w' hk=>zEq w' v sets (hS.grown hk) hn hN hsm;have HSC:Hid (∀w' c,Grew w w'->_):=fun w' c hk=>zGK w' v sets (hS.grown hk) hn (fun s hs=>by
  obtain⟨i,hi,rfl⟩:=List.getElem_of_mem hs;have h:=zD1 sets i hi;rw[lW,lV hi] at h;have h2:sets[i].ranges.length<=yE sets:=by simpa using (lY (Nat.le_add_left _ _) h)
  omega) c
 have hbl:(xH sets).length<=500000000000:=by
  have:(xH sets).length=4+2*yE sets:=zFx _ _;omega
 have HSZ:Hid (∀j,j<=(xH sets).length->_):=fun j hj=>zC3 sets j hj;have hal1:w.heap.size<(w.alloc (.cells #[slice none 0 0,slice none 0 0,slice none 0 0] 172)).heap.size:=by simp
 obtain⟨w1,hw1,K1⟩:∃w1,w1=w.alloc (.cells #[slice none 0 0,slice none 0 0,slice none 0 0] 172)∧Hid (Grew w w1∧w1.heap[w.heap.size]? =some (.cells #[slice none 0 0,slice none 0 0,slice none 0 0] 172)∧w.heap.size<w1.heap.size):=⟨_,rfl,kZ _ _ lQ,gJ w _,by simp⟩
 go_in;apply wp_cut;intro K0 J;go_wp2;apply J.out;clear J;rw[<-hw1];clear hw1 hal1;apply wp_cut;intro K0 J;go_wp2_with (first|(go_at_call 167;refine(HBC.out _ K1.out.1).mono ?_;rintro e w2 ⟨u,rfl,hu,hk2⟩;obtain⟨au,cu,rfl⟩:=hu.form))
 apply J.out;clear J;apply wp_cut;intro K0 J;go_wp2;apply J.out;clear J;obtain⟨w4,hw4,A4,hs4⟩:∃w4,w4=(w2.alloc (.cells #[slice au (xH sets).length cu] 239)).alloc (.cells #[slice none 0 0,slice none 0 0,slice none 0 0] 172)∧Hid (AwIs w4 (w2.heap.size+2) (w2.heap.size+1) ⟨[],[],[]⟩∧Grew w w4∧w4.heap[w.heap.size]? =some (.cells #[slice none 0 0,slice none 0 0,slice none 0 0] 172)∧w4.cell? ⟨w2.heap.size,0,none⟩=some (slice au (xH sets).length cu)∧(∀i,i<(xH sets).length->∃g,au=some ⟨g,0,none⟩∧g<w2.heap.size∧w4.cell? ⟨g,i,none⟩=some (int i64 ((xH sets).getD i 0))))∧w.heap.size<w2.heap.size:=by
  obtain⟨w3,hw3⟩:∃w3,w3=w2.alloc (.cells #[slice au (xH sets).length cu] 239):=⟨_,rfl⟩
  have h3:w3.heap[w2.heap.size]? =some (.cells #[slice au (xH sets).length cu] 239):=by rw[hw3];exact gJ w2 _
  have k3:Grew w2 w3:=by rw[hw3];exact kZ _ _ lQ
  have s3:w3.heap.size=w2.heap.size+1:=by rw[hw3];simp
  rw[<-hw3];obtain⟨w4,hw4⟩:∃w4,w4=w3.alloc (.cells #[slice none 0 0,slice none 0 0,slice none 0 0] 172):=⟨_,rfl⟩
  have h4:w4.heap[w2.heap.size+1]? =some (.cells #[slice none 0 0,slice none 0 0,slice none 0 0] 172):=by rw[hw4,<-s3];exact gJ w3 _
  have k4:Grew w3 w4:=by rw[hw4];exact kZ _ _ lQ
  have s4:w4.heap.size=w2.heap.size+2:=by rw[hw4];simp[s3]
  have hz1:=K1.out.2.2;have hz2:=hk2.size;have kw:Grew w w4:=((K1.out.1.trans (hk2.lower (by omega) (by omega))).trans (k3.lower (by omega) (by omega))).trans (k4.lower (by omega) (by omega));refine⟨w4,hw4,⟨⟨_,_,_,⟨h4,ownsRow_nil _ _ _ _,ownsRow_nil _ _ _ _,ownsRow_nil _ _ _ _,fun g h=>by simp[Value.ownBlock] at h,fun g h=>by simp[Value.ownBlock] at h,fun g h=>by simp[Value.ownBlock] at h,by omega,by omega⟩⟩,kw,?_,?_,?_⟩,by omega⟩
  ·exact(k4.block _ (by omega) (by omega)).trans ((k3.block _ (by omega) (by omega)).trans ((hk2.block _ hz1 (by omega)).trans K1.out.2.1))
  ·have e:w4.heap[w2.heap.size]? =some (.cells #[slice au (xH sets).length cu] 239):=(k4.block _ (by omega) (by omega)).trans h3
   unfold cell?;rw[e];rfl
  ·intro i hi
   obtain⟨g,hg⟩:∃g,au=some ⟨g,0,none⟩:=by
    rcases hu.2 with⟨h,h0⟩|⟨g,_,_,h,_⟩
    ·omega
    ·injection h with h _ _
     exact⟨g,h⟩
   subst hg;have hl:=(hu.lt g rfl).2;exact⟨g,rfl,hl,zA (zA (hu.cell i hi) hl k3) (by omega) k4⟩
 rw[<-hw4];clear hw4 hu hk2;have y0:=A4.out.2.2.2.1;go_wp2;clear y0;go_loopg [15] (xH sets).length (fun q i wr=>∃j:Nat,q=(xH sets).length-j∧j<=(xH sets).length∧i=int i64 (j:Int)∧AwIs wr (w2.heap.size+2) (w2.heap.size+1) (qY sets j)∧Keep (w2.heap.size+2) (w2.heap.size+1) w4 wr)
 case atStart=>exact⟨0,rfl,lX,rfl,by unfold qY;rw[List.take_zero];exact A4.out.1,⟨rfl,rfl,lQ,fun _ _ _=>rfl⟩⟩
 case round=>
  obtain⟨j,hgk,hj,rfl,hA,hkp⟩:=hrel;have HA:Hid (gk=(xH sets).length-j∧AwIs wr (w2.heap.size+2) (w2.heap.size+1) (qY sets j)∧Keep (w2.heap.size+2) (w2.heap.size+1) w4 wr∧Grew w wr):=⟨hgk,hA,hkp,A4.out.2.1.trans (hkp.lower (by omega) (by omega))⟩
  by_cases hj2:j<(xH sets).length
  ·have i1:(j:Int)<((xH sets).length:Int):=by omega
   obtain⟨g,rfl,hg,hc⟩:=A4.out.2.2.2.2 j hj2;have yl:wr.cell? ⟨g,j,none⟩=some (int i64 ((xH sets).getD j 0)):=(gG (hkp.block g (by omega) (by omega))).trans hc;have HPS:=vl <| zBL sets j hj2;have hsz:=HSZ.out j hj;clear hgk hkp hc;generalize (xH sets).getD j 0=low at *;generalize hbn:(xH sets).length=bn at *;obtain⟨x,hx⟩:∃x,qO sets low=x:=⟨_,rfl⟩
   obtain⟨a,ha⟩:∃a,qY sets j=a:=⟨_,rfl⟩
   rw[ha] at HPS hsz hA HA;have hse:=zEQ a x;have HY:Hid ((a.seen x).turns (a.look x)=true->qY sets (j+1)={a.seen x with lows:=(a.seen x).lows++[low],letters:=(a.seen x).letters++[(a.look x:Int)]}):=fun h=>by
    rw[HPS.out];have:=Ar.step_yes sets a low (by rw[hx];exact h);rw[hx] at this;exact this
   have HNO:Hid ((a.seen x).turns (a.look x)=false->qY sets (j+1)=a.seen x):=fun h=>by
    rw[HPS.out];have:=Ar.step_no sets a low (by rw[hx];exact h);rw[hx] at this;exact this
   have HSC2:Hid (∀w',Grew w w'->Ca 169 #[v,int i64 low] w' fun e w2=>e=returned (int i64 (x:Nat))∧Grew w' w2):=fun w' h=>by rw[<-hx];exact HSC.out w' low h
   have HLC:Hid (∀w',AwIs w' (w2.heap.size+2) (w2.heap.size+1) a->_):=fun w' h=>zFb w' _ _ a h (by omega) x;have hb1:(a.seen x).lows.length<=500000000000:=by rw[hse.1];omega
   have hb2:(a.seen x).letters.length<=500000000000:=by rw[hse.2.1,<-hsz.1];omega
   clear hse hsz;have hlw:w2.heap.size+2<=wr.heap.size:=by
    obtain⟨_,_,_,h⟩:=hA;exact h.lt
   clear ha hx hA;by_cases hl0:(a.seen x).letters.length=0
   ·have HT:=vl <| HY.out (by unfold Ar.turns;rw[hl0];rfl)
    have HLN:=vl hl0;clear hl0;go_wp2_with (first|(go_at_call 169;refine(HSC2.out _ HA.out.2.2.2).mono ?_;rintro e w5 ⟨rfl,hk5⟩)|(go_at_call 168;refine(HLC.out _ (HA.out.2.1.grown hk5)).mono ?_;rintro e w6 ⟨rfl,⟨lv,tv,sv,hA6⟩,hk6⟩;obtain⟨q0,q1,q2,qf⟩:=hA6.cells;obtain⟨al,cl,rfl⟩:=hA6.lows.form;obtain⟨at_,ct,htv⟩:=hA6.letters.form;rw[HLN.out] at htv;subst htv;have HA6:Hid (Aw w6 (w2.heap.size+2) (w2.heap.size+1) (slice al (a.seen x).lows.length cl) (slice at_ 0 ct) sv (a.seen x)∧Keep (w2.heap.size+2) (w2.heap.size+1) w4 w6):=⟨hA6,(HA.out.2.2.1.trans (hk5.lower (by omega) (by omega))).trans hk6⟩;have hl6:=hA6.lt;have OL6:w6.ownsRow (w2.heap.size+2) 3 1 (slice al (a.seen x).lows.length cl) (a.seen x).lows.length ((a.seen x).lows.map fun x=>int i64 x):=hA6.lows;clear hA6 hk6 hk5 qf q2)|(at_builtin;refine wpList_append_lies _ rfl _ _ 45 rfl (w2.heap.size+2) 3 i0 (int i64 0) 1 8 underlying45 hi0 hz0 hz1 hz2 rfl (by decide) _ _ _ rfl (OT7.alloc _) ⟨w7.heap.size,0,none⟩ 1 1 [int i64 (a.look x:Int)] rfl rfl (zBc _ [int i64 (a.look x:Int)] _ _ (zC _ _ _)) (by intro u hu;simp at hu;subst hu;rfl) (by decide) (by unfold maxLen;omega) (by omega) (by simp[zC];omega) _ rfl ?_;intro g2 cap2 w8 hown2 hgrow2 hat2 hlt3;have hPB2:w8.heap[w2.heap.size+1]? =(w7.setCell ⟨w2.heap.size+1,0,none⟩ (slice (some ⟨gg,0,none⟩) ((a.seen x).lows.length+1) cap)).heap[w2.heap.size+1]? :=(hgrow2.block _ (by simp[zC];omega) (fun e=>by have:=(OT7.lt _ e.symm).1;omega)).trans (lG _ _ _ (by rw[zC];omega));have t2:w8.cell? ⟨w2.heap.size+1,1,none⟩=some (slice at_ 0 ct):=(gG hPB2).trans t1;have g1:w8.frozen? ⟨w2.heap.size+1,1,none⟩=false:=(dQ hPB2).trans f1)|(at_builtin;refine wpList_append_lies _ rfl _ _ 45 rfl (w2.heap.size+2) 3 i0 (int i64 0) 1 8 underlying45 hi0 hz0 hz1 hz2 rfl (by decide) _ _ _ rfl (OL6.alloc _) ⟨w6.heap.size,0,none⟩ 1 1 [int i64 low] rfl rfl (cell_one_new _ _ _) (by intro u hu;simp at hu;subst hu;rfl) (by decide) (by unfold maxLen;omega) (by omega) (by simp;omega) _ rfl ?_;intro gg cap w7 hown hgrow hat hlt2;have hPB:w7.heap[w2.heap.size+1]? =w6.heap[w2.heap.size+1]? :=(hgrow.block _ (by simp;omega) (fun e=>by have:=(OL6.lt _ e.symm).1;omega)).trans (lG _ _ _ (by omega));have t0:w7.cell? ⟨w2.heap.size+1,0,none⟩=some (slice al (a.seen x).lows.length cl):=(gG hPB).trans q0;have g0:w7.frozen? ⟨w2.heap.size+1,0,none⟩=false:=(dQ hPB).trans (HA6.out.1.cells.2.2.2 0);have A7:=Aw.lows_app HA6.out.1 hown hgrow (by rcases hat with ha|ha;exact .inl ha;right;rw[ha];simp);have t1:(w7.setCell ⟨w2.heap.size+1,0,none⟩ (slice (some ⟨gg,0,none⟩) ((a.seen x).lows.length+1) cap)).cell? ⟨w2.heap.size+1,1,none⟩=some (slice at_ 0 ct):=A7.1.cells.2.1;have OT7:(w7.setCell ⟨w2.heap.size+1,0,none⟩ (slice (some ⟨gg,0,none⟩) ((a.seen x).lows.length+1) cap)).ownsRow (w2.heap.size+2) 3 1 (slice at_ 0 ct) 0 ((a.seen x).letters.map fun x=>int i64 x):=(by have h:=A7.1.letters;unfold OwnI at h;rw[show ({a.seen x with lows:=(a.seen x).lows++[low]}:Ar).letters=(a.seen x).letters from rfl,HLN.out] at h;exact h);have hl7:w2.heap.size+2<=w7.heap.size:=lY hl6 (lY (by simp) hgrow.size);have f1:(w7.setCell ⟨w2.heap.size+1,0,none⟩ (slice (some ⟨gg,0,none⟩) ((a.seen x).lows.length+1) cap)).frozen? ⟨w2.heap.size+1,1,none⟩=false:=A7.1.cells.2.2.2 1))
    have A8:Hid (AwIs (w8.setCell ⟨w2.heap.size+1,1,none⟩ (slice (some ⟨g2,0,none⟩) (0+1) cap2)) (w2.heap.size+2) (w2.heap.size+1) (qY sets (j+1))∧Keep (w2.heap.size+2) (w2.heap.size+1) w4 (w8.setCell ⟨w2.heap.size+1,1,none⟩ (slice (some ⟨g2,0,none⟩) (0+1) cap2))):=by
     have hown3:w8.ownsRow (w2.heap.size+2) 3 1 (slice (some ⟨g2,0,none⟩) ((a.seen x).letters.length+1) cap2) ((a.seen x).letters.length+1) (((a.seen x).letters.map fun x=>int i64 x)++[int i64 (a.look x:Int)]):=by rw[HLN.out];exact hown2
     have h:=Aw.letters_app A7.1 (g:=g2) (cap:=cap2) (x:=(a.look x:Int)) hown3 hgrow2 (by
      rcases hat2 with ha|ha
      ·exact .inl ha
      ·right;rw[ha];simp[zC])
     rw[show ({a.seen x with lows:=(a.seen x).lows++[low]}:Ar).letters=(a.seen x).letters from rfl,HLN.out] at h;rw[HT.out];exact⟨⟨_,_,_,h.1⟩,(HA6.out.2.trans A7.2).trans h.2⟩
    go_roundg (bn-(j+1))
    case measure=>rw[HA.out.1];omega
    case rel=>exact⟨j+1,rfl,by omega,by go_num,A8.out.1,A8.out.2⟩
   ·obtain⟨k,hk⟩:∃k,(a.seen x).letters.length=k+1:=⟨(a.seen x).letters.length-1,by omega⟩
    have HLN:=vl hk;obtain⟨t,htt⟩:∃t,(a.seen x).letters.getD k 0=t:=⟨_,rfl⟩
    have HTV:=vl htt;have htn:(a.seen x).turns (a.look x)=(t != (a.look x:Int)):=by
     unfold Ar.turns;rw[hk,<-htt];rfl
    have hkb:k<=500000000000:=by omega
    clear hl0 hk htt hb2;cases hcc:(t != (a.look x:Int)) with
    |true=>
     have HT:=vl <| HY.out (by rw[htn,hcc]);clear htn;go_wp2_with (first|(go_at_call 169;refine(HSC2.out _ HA.out.2.2.2).mono ?_;rintro e w5 ⟨rfl,hk5⟩)|(go_at_call 168;refine(HLC.out _ (HA.out.2.1.grown hk5)).mono ?_;rintro e w6 ⟨rfl,⟨lv,tv,sv,hA6⟩,hk6⟩;obtain⟨q0,q1,q2,qf⟩:=hA6.cells;obtain⟨al,cl,rfl⟩:=hA6.lows.form;obtain⟨at_,ct,htv⟩:=hA6.letters.form;rw[HLN.out] at htv;subst htv;obtain⟨gt,rfl⟩:=hA6.letters.some (by rw[HLN.out];omega);have ql:w6.cell? ⟨gt,k,none⟩=some (int i64 t):=(by rw[<-HTV.out];exact hA6.letters.cell k (by rw[HLN.out];omega));have HA6:Hid (Aw w6 (w2.heap.size+2) (w2.heap.size+1) (slice al (a.seen x).lows.length cl) (slice (some ⟨gt,0,none⟩) (k+1) ct) sv (a.seen x)∧Keep (w2.heap.size+2) (w2.heap.size+1) w4 w6):=⟨hA6,(HA.out.2.2.1.trans (hk5.lower (by omega) (by omega))).trans hk6⟩;have hl6:=hA6.lt;have OL6:w6.ownsRow (w2.heap.size+2) 3 1 (slice al (a.seen x).lows.length cl) (a.seen x).lows.length ((a.seen x).lows.map fun x=>int i64 x):=hA6.lows;clear hA6 hk6 hk5 qf q2)|(at_builtin;refine wpList_append_lies _ rfl _ _ 45 rfl (w2.heap.size+2) 3 i0 (int i64 0) 1 8 underlying45 hi0 hz0 hz1 hz2 rfl (by decide) _ _ _ rfl (OT7.alloc _) ⟨w7.heap.size,0,none⟩ 1 1 [int i64 (a.look x:Int)] rfl rfl (zBc _ [int i64 (a.look x:Int)] _ _ (zC _ _ _)) (by intro u hu;simp at hu;subst hu;rfl) (by decide) (by unfold maxLen;omega) (by omega) (by simp[zC];omega) _ rfl ?_;intro g2 cap2 w8 hown2 hgrow2 hat2 hlt3;have hPB2:w8.heap[w2.heap.size+1]? =(w7.setCell ⟨w2.heap.size+1,0,none⟩ (slice (some ⟨gg,0,none⟩) ((a.seen x).lows.length+1) cap)).heap[w2.heap.size+1]? :=(hgrow2.block _ (by simp[zC];omega) (fun e=>by have:=(OT7.lt _ e.symm).1;omega)).trans (lG _ _ _ (by rw[zC];omega));have t2:w8.cell? ⟨w2.heap.size+1,1,none⟩=some (slice (some ⟨gt,0,none⟩) (k+1) ct):=(gG hPB2).trans t1;have g1:w8.frozen? ⟨w2.heap.size+1,1,none⟩=false:=(dQ hPB2).trans f1)|(at_builtin;refine wpList_append_lies _ rfl _ _ 45 rfl (w2.heap.size+2) 3 i0 (int i64 0) 1 8 underlying45 hi0 hz0 hz1 hz2 rfl (by decide) _ _ _ rfl (OL6.alloc _) ⟨w6.heap.size,0,none⟩ 1 1 [int i64 low] rfl rfl (cell_one_new _ _ _) (by intro u hu;simp at hu;subst hu;rfl) (by decide) (by unfold maxLen;omega) (by omega) (by simp;omega) _ rfl ?_;intro gg cap w7 hown hgrow hat hlt2;have hPB:w7.heap[w2.heap.size+1]? =w6.heap[w2.heap.size+1]? :=(hgrow.block _ (by simp;omega) (fun e=>by have:=(OL6.lt _ e.symm).1;omega)).trans (lG _ _ _ (by omega));have t0:w7.cell? ⟨w2.heap.size+1,0,none⟩=some (slice al (a.seen x).lows.length cl):=(gG hPB).trans q0;have g0:w7.frozen? ⟨w2.heap.size+1,0,none⟩=false:=(dQ hPB).trans (HA6.out.1.cells.2.2.2 0);have A7:=Aw.lows_app HA6.out.1 hown hgrow (by rcases hat with ha|ha;exact .inl ha;right;rw[ha];simp);have t1:(w7.setCell ⟨w2.heap.size+1,0,none⟩ (slice (some ⟨gg,0,none⟩) ((a.seen x).lows.length+1) cap)).cell? ⟨w2.heap.size+1,1,none⟩=some (slice (some ⟨gt,0,none⟩) (k+1) ct):=A7.1.cells.2.1;have OT7:(w7.setCell ⟨w2.heap.size+1,0,none⟩ (slice (some ⟨gg,0,none⟩) ((a.seen x).lows.length+1) cap)).ownsRow (w2.heap.size+2) 3 1 (slice (some ⟨gt,0,none⟩) (k+1) ct) (k+1) ((a.seen x).letters.map fun x=>int i64 x):=(by have h:=A7.1.letters;unfold OwnI at h;rw[show ({a.seen x with lows:=(a.seen x).lows++[low]}:Ar).letters=(a.seen x).letters from rfl,HLN.out] at h;exact h);have hl7:w2.heap.size+2<=w7.heap.size:=lY hl6 (lY (by simp) hgrow.size);have f1:(w7.setCell ⟨w2.heap.size+1,0,none⟩ (slice (some ⟨gg,0,none⟩) ((a.seen x).lows.length+1) cap)).frozen? ⟨w2.heap.size+1,1,none⟩=false:=A7.1.cells.2.2.2 1))
     have A8:Hid (AwIs (w8.setCell ⟨w2.heap.size+1,1,none⟩ (slice (some ⟨g2,0,none⟩) (k+1+1) cap2)) (w2.heap.size+2) (w2.heap.size+1) (qY sets (j+1))∧Keep (w2.heap.size+2) (w2.heap.size+1) w4 (w8.setCell ⟨w2.heap.size+1,1,none⟩ (slice (some ⟨g2,0,none⟩) (k+1+1) cap2))):=by
      have hown3:w8.ownsRow (w2.heap.size+2) 3 1 (slice (some ⟨g2,0,none⟩) ((a.seen x).letters.length+1) cap2) ((a.seen x).letters.length+1) (((a.seen x).letters.map fun x=>int i64 x)++[int i64 (a.look x:Int)]):=by rw[HLN.out];exact hown2
      have h:=Aw.letters_app A7.1 (g:=g2) (cap:=cap2) (x:=(a.look x:Int)) hown3 hgrow2 (by
       rcases hat2 with ha|ha
       ·exact .inl ha
       ·right;rw[ha];simp[zC])
      rw[show ({a.seen x with lows:=(a.seen x).lows++[low]}:Ar).letters=(a.seen x).letters from rfl,HLN.out] at h;rw[HT.out];exact⟨⟨_,_,_,h.1⟩,(HA6.out.2.trans A7.2).trans h.2⟩
     go_roundg (bn-(j+1))
     case measure=>rw[HA.out.1];omega
     case rel=>exact⟨j+1,rfl,by omega,by go_num,A8.out.1,A8.out.2⟩
    |false=>
     have HT:=vl <| HNO.out (by rw[htn,hcc]);clear htn;go_wp2_with (first|(go_at_call 169;refine(HSC2.out _ HA.out.2.2.2).mono ?_;rintro e w5 ⟨rfl,hk5⟩)|(go_at_call 168;refine(HLC.out _ (HA.out.2.1.grown hk5)).mono ?_;rintro e w6 ⟨rfl,⟨lv,tv,sv,hA6⟩,hk6⟩;obtain⟨q0,q1,q2,qf⟩:=hA6.cells;obtain⟨al,cl,rfl⟩:=hA6.lows.form;obtain⟨at_,ct,htv⟩:=hA6.letters.form;rw[HLN.out] at htv;subst htv;obtain⟨gt,rfl⟩:=hA6.letters.some (by rw[HLN.out];omega);have ql:w6.cell? ⟨gt,k,none⟩=some (int i64 t):=(by rw[<-HTV.out];exact hA6.letters.cell k (by rw[HLN.out];omega));have HA6:Hid (Aw w6 (w2.heap.size+2) (w2.heap.size+1) (slice al (a.seen x).lows.length cl) (slice (some ⟨gt,0,none⟩) (k+1) ct) sv (a.seen x)∧Keep (w2.heap.size+2) (w2.heap.size+1) w4 w6):=⟨hA6,(HA.out.2.2.1.trans (hk5.lower (by omega) (by omega))).trans hk6⟩;have hl6:=hA6.lt;have OL6:w6.ownsRow (w2.heap.size+2) 3 1 (slice al (a.seen x).lows.length cl) (a.seen x).lows.length ((a.seen x).lows.map fun x=>int i64 x):=hA6.lows;clear hA6 hk6 hk5 qf q2))
     go_roundg (bn-(j+1))
     case measure=>rw[HA.out.1];omega
     case rel=>exact⟨j+1,rfl,by omega,by go_num,by rw[HT.out];exact⟨_,_,_,HA6.out.1⟩,HA6.out.2⟩
  ·have i1:((xH sets).length:Int)<=(j:Int):=by omega
   have e:=zE4 sets j (by omega);rw[e] at hA;obtain⟨lv,tv,sv,h⟩:=hA;obtain⟨q0,q1,q2,-⟩:=h.cells;obtain⟨al,cl,rfl⟩:=h.lows.form;obtain⟨at_,ct,rfl⟩:=h.letters.form;obtain⟨as_,cs,rfl⟩:=h.sets.form;have hres:wr.heap[w.heap.size]? =some (.cells #[slice none 0 0,slice none 0 0,slice none 0 0] 172):=(hkp.block _ (by omega) (by omega)).trans A4.out.2.2.1;have x0:wr.cell? ⟨w.heap.size,0,none⟩=some (slice none 0 0):=by unfold cell?;rw[hres];rfl
   have x1:wr.cell? ⟨w.heap.size,1,none⟩=some (slice none 0 0):=by unfold cell?;rw[hres];rfl
   have x2:wr.cell? ⟨w.heap.size,2,none⟩=some (slice none 0 0):=by unfold cell?;rw[hres];rfl
   have xf:∀i,wr.frozen? ⟨w.heap.size,i,none⟩=false:=fun i=>by unfold frozen?;rw[hres];simp
   have xf0:=xf 0;have xf1:=xf 1;have xf2:=xf 2;have HZ:Hid (Aw wr (w2.heap.size+2) (w2.heap.size+1) (slice al (xZ sets).lows.length cl) (slice at_ (xZ sets).letters.length ct) (slice as_ (xZ sets).sets.length cs) (xZ sets)∧Grew w wr):=⟨h,HA.out.2.2.2⟩
   clear h hgk hkp hres xf e;go_wp2;refine dZ (v:=agg #[slice al (xZ sets).lows.length cl,slice at_ (xZ sets).letters.length ct,slice as_ (xZ sets).sets.length cs]) (by simp[results,results127,go_sem, *]) rfl ⟨_,_,_,rfl,⟨zAE (zX (zX (zX HZ.out.1.lows (by omega)) (by omega)) (by omega)),zAE (zX (zX (zX HZ.out.1.letters (by omega)) (by omega)) (by omega)),zAE (zX (zX (zX HZ.out.1.sets (by omega)) (by omega)) (by omega))⟩,?_⟩;exact((HZ.out.2.trans (zO _ _ _ _ lQ)).trans (zO _ _ _ _ lQ)).trans (zO _ _ _ _ lQ)
theorem zMi (a b:List Int)(hl:a.length=b.length)(h:∀i,i<a.length->a.getD i 0=b.getD i 0):a=b:=by
 apply List.ext_getElem hl;intro i h1 h2;have:=h i h1;rw[lW,lV h1,lW,lV h2] at this;exact this
theorem zIm (w:World)(va vb:Value)(a b:List Int)(hA:Ints w (In w) va a)(hB:Ints w (In w) vb b)(hl:a.length<=1000000000000):
  Calls prog 132 #[va,vb] w fun e w'=>e=returned (bool (decide (a=b)))∧Grew w w':=by
 obtain⟨aa,ca,rfl,_,_,hac⟩:=hA;obtain⟨ab,cb,rfl,_,_,hbc⟩:=hB;have HAC:=vl hac;have HBC:=vl hbc;by_cases hne:a.length=b.length
 ·have HEQ:Hid ((∀i,i<a.length->a.getD i 0=b.getD i 0)->a=b):=fun h=>zMi a b hne h
  have HNE:Hid (∀i,a.getD i 0≠b.getD i 0->a≠b):=fun i h e=>h (by rw[e]);rw[<-hne] at HBC ⊢;have hne2:((a.length:Int) != (b.length:Int))=false:=by simp[hne]
  go_in;go_wp2;go_loopg [13] a.length (fun q i wr=>∃j:Nat,q=a.length-j∧j<=a.length∧i=int i64 (j:Int)∧(∀i,i<j->a.getD i 0=b.getD i 0)∧Grew w wr)
  case atStart=>exact⟨0,rfl,lX,rfl,fun i hi=>by omega,⟨rfl,rfl,lQ,fun _ _ _=>rfl⟩⟩
  case round=>
   obtain⟨j,hgk,hj,rfl,hsame,hkp⟩:=hrel;have HA:Hid (gk=a.length-j∧(∀i,i<j->a.getD i 0=b.getD i 0)∧Grew w wr):=⟨hgk,hsame,hkp⟩
   by_cases hj2:j<a.length
   ·have i1:(j:Int)<(a.length:Int):=by omega
    obtain⟨b1,o1,rfl,hb1,c1⟩:=HAC.out j hj2;obtain⟨b2,o2,rfl,hb2,c2⟩:=HBC.out j hj2;have y1:=zA c1 hb1 hkp;have y2:=zA c2 hb2 hkp;have HN1:=vl <| HNE.out j;have HS1:Hid (a.getD j 0=b.getD j 0->∀i,i<j+1->a.getD i 0=b.getD i 0):=fun h i hi=>by
     by_cases e:i=j
     ·rw[e];exact h
     ·exact HA.out.2.1 i (by omega)
    generalize a.getD j 0=x at *;generalize b.getD j 0=y at *;by_cases hxy:x=y
    ·have HS2:=vl <| HS1.out hxy
     have hc:(x != y)=false:=by simp[hxy]
     go_wp2;go_quiet (fail);go_wp2;go_roundg (a.length-(j+1))
     case measure=>rw[HA.out.1];omega
     case rel=>exact⟨j+1,rfl,by omega,by go_num,HS2.out,HA.out.2.2.trans (Keep.alike (w':=wr.drewN nq) ⟨rfl,rfl,rfl⟩)⟩
    ·have HN2:=vl <| HN1.out hxy
     have hc:(x != y)=true:=by simp[hxy]
     go_wp2;go_quiet (fail);go_wp2;go_ret;exact⟨by rw[dY HN2.out];rfl,HA.out.2.2.trans (Keep.alike (w':=wr.drewN nq) ⟨rfl,rfl,rfl⟩)⟩
   ·have i1:(a.length:Int)<=(j:Int):=by omega
    have HZ:=vl <| HEQ.out fun i hi=>hsame i (by omega);go_wp2;go_ret;exact⟨by rw[dW HZ.out];rfl,HA.out.2.2⟩
 ·have HZ:Hid (a≠b):=fun e=>hne (by rw[e])
  have hc:((a.length:Int) != (b.length:Int))=true:=by simp;omega
  go_in;go_wp2;go_ret;exact⟨by rw[dY HZ.out];rfl,⟨rfl,rfl,lQ,fun _ _ _=>rfl⟩⟩
theorem zIf (w:World)(step:Nat)(h:step=1∨step=64∨step=4096):
  Calls prog 176 #[int i64 step] w fun e w'=>e=returned (int i64 (if step=64 then 2048 else if step=4096 then 65536 else 0))∧w'=w:=by
 rcases h with rfl|rfl|rfl
 all_goals
  go_in;go_wp2;go_ret;exact⟨rfl,rfl⟩
def vA (rules:List Nat)(set:Nat):Int:=if rules.findIdx (fun r=>set&&&r != 0)<rules.length then(rules.findIdx (fun r=>set&&&r != 0):Int) else -1
theorem zM7 (rules:List Nat)(set j:Nat)(hj:j<rules.length)(h:set&&&rules.getD j 0≠0)(hn:∀i,i<j->set&&&rules.getD i 0=0):vA rules set=j:=by
 have e:rules.findIdx (fun r=>set&&&r != 0)=j:=by
  rw[List.findIdx_eq hj];rw[lW,lV hj] at h;refine⟨by simpa using h,fun i hi=>?_⟩;have:=hn i hi;rw[lW,lV (by omega)] at this;simpa using this
 unfold vA;rw[e,if_pos hj]
theorem zKP (rules:List Nat)(set:Nat)(hn:∀i,i<rules.length->set&&&rules.getD i 0=0):vA rules set=-1:=by
 have e:rules.findIdx (fun r=>set&&&r != 0)=rules.length:=by
  rw[List.findIdx_eq_length];intro y hy;obtain⟨i,hi,rfl⟩:=List.getElem_of_mem hy;have:=hn i hi;rw[lW,lV hi] at this;simpa using this
 unfold vA;rw[e,if_neg (Nat.lt_irrefl _)]
theorem zI5 (rules:List Nat)(set:Nat):-1<=vA rules set∧vA rules set<rules.length:=by
 unfold vA;split <;> omega
theorem zBl (w:World)(p q:Nat)(rv:Value)(rules:List Nat)(hp:w.cell? ⟨p,0,none⟩=some (pointer (some ⟨q,0,none⟩)))(hq:w.cell? ⟨q,4,none⟩=some rv)(hR:Ints w (In w) rv (rules.map fun(x:Nat)=>(x:Int)))(hl:rules.length<=8)(hr:∀r∈rules,r<16777216)(set:Nat)(hs:set<16777216):
  Calls prog 93 #[pointer (some ⟨p,0,none⟩),int i64 set] w fun e w'=>e=returned (int i64 (vA rules set))∧w'=w:=by
 obtain⟨ar,cr,hrv,_,_,hrc⟩:=hR;rw[kV] at hrv;subst hrv;have HRC:Hid (∀i,i<rules.length->∃b o,ar=some ⟨b,o,none⟩∧w.cell? ⟨b,o+i,none⟩=some (int i64 ((rules.getD i 0:Nat):Int))∧rules.getD i 0<16777216):=by
  intro i hi;obtain⟨b,o,h1,_,h2⟩:=hrc i (by rw[kV];exact hi);refine⟨b,o,h1,?_,hr _ (zS _ i 0 hi)⟩;rw[lW,gU,lV hi] at h2;rw[lW,lV hi];exact h2
 have H1:Hid (∀j,j<rules.length->set&&&rules.getD j 0≠0->(∀i,i<j->set&&&rules.getD i 0=0)->vA rules set=j):=fun j=>zM7 rules set j;have H2:=vl <| zKP rules set;go_in;go_wp2;go_loopg [15] rules.length (fun k i wr=>∃j:Nat,k=rules.length-j∧j<=rules.length∧i=int i64 (j:Int)∧(∀i,i<j->set&&&rules.getD i 0=0)∧wr=w)
 case atStart=>exact⟨0,rfl,lX,rfl,fun i hi=>by omega,rfl⟩
 case round=>
  obtain⟨j,hgk,hj,rfl,hno,hw⟩:=hrel;subst hw;have HB:Hid (gk=rules.length-j∧∀i,i<j->set&&&rules.getD i 0=0):=⟨hgk,hno⟩
  by_cases hj2:j<rules.length
  ·have i1:(j:Int)<(rules.length:Int):=by omega
   obtain⟨b,o,rfl,hc,hlt⟩:=HRC.out j hj2;have HL3:Hid (set&&&rules.getD j 0≠0->vA rules set=j):=fun h=>H1.out j hj2 h HB.out.2;have HN3:Hid (set&&&rules.getD j 0=0->∀i,i<j+1->set&&&rules.getD i 0=0):=fun h i hi=>by
    by_cases e:i=j
    ·rw[e];exact h
    ·exact HB.out.2 i (by omega)
   generalize rules.getD j 0=r at *;have hand:bits .and i64 (set:Int) (r:Int)=((set&&&r:Nat):Int):=qB _ _ (by omega) (by omega);by_cases hy:set&&&r=0
   ·have HR:=vl <| HN3.out hy
    rw[hy] at hand;have hand2:=hand;go_wp2;go_roundg (rules.length-(j+1))
    case measure=>rw[HB.out.1];omega
    case rel=>exact⟨j+1,rfl,by omega,by go_num,HR.out,rfl⟩
   ·have HR:=vl <| HL3.out hy
    have hc2:((bits .and i64 (set:Int) (r:Int)) != 0)=true:=by rw[hand];simp;exact hy
    go_wp2;go_ret;exact⟨by rw[HR.out];rfl,rfl⟩
  ·have i1:(rules.length:Int)<=(j:Int):=by omega
   have HR:=vl <| H2.out fun i hi=>hno i (by omega);go_wp2;go_ret;exact⟨by rw[HR.out];rfl,rfl⟩
def xG (rules:List Nat)(a b tail:Nat):Bool:=a&&&tail != b&&&tail&&(vA rules (a&&&tail) != vA rules (b&&&tail))
theorem zHf (w:World)(p q:Nat)(rv:Value)(rules:List Nat)(hp:w.cell? ⟨p,0,none⟩=some (pointer (some ⟨q,0,none⟩)))(hq:w.cell? ⟨q,4,none⟩=some rv)(hR:Ints w (In w) rv (rules.map fun(x:Nat)=>(x:Int)))(hl:rules.length<=8)(hr:∀r∈rules,r<16777216)(a b tail:Nat)(ha:a<16777216)(hb:b<16777216)(ht:tail<16777216):
  Calls prog 174 #[pointer (some ⟨p,0,none⟩),int i64 a,int i64 b,int i64 tail] w fun e w'=>e=returned (bool (xG rules a b tail))∧Grew w w':=by
 have hx:bits .and i64 (a:Int) (tail:Int)=((a&&&tail:Nat):Int):=qB _ _ (by omega) (by omega);have hy:bits .and i64 (b:Int) (tail:Int)=((b&&&tail:Nat):Int):=qB _ _ (by omega) (by omega);have hxl:a&&&tail<16777216:=Nat.lt_of_le_of_lt Nat.and_le_left ha;have hyl:b&&&tail<16777216:=Nat.lt_of_le_of_lt Nat.and_le_left hb;have HV:Hid (xG rules a b tail=(a&&&tail != b&&&tail&&(vA rules (a&&&tail) != vA rules (b&&&tail)))):=rfl;have HC1:=vl <| zBl w p q rv rules hp hq hR hl hr _ hxl;have HC2:=vl <| zBl w p q rv rules hp hq hR hl hr _ hyl;generalize a&&&tail=x at *;generalize b&&&tail=y at *;by_cases hxy:x=y
 ·have HZ:Hid (xG rules a b tail=false):=by show _=_;rw[HV.out,hxy];simp
  have hc:((x:Int)==(y:Int))=true:=by simp[hxy]
  go_in;go_wp2;go_ret;exact⟨by rw[HZ.out];rfl,⟨rfl,rfl,lQ,fun _ _ _=>rfl⟩⟩
 ·have HZ:Hid (xG rules a b tail=(vA rules x != vA rules y)):=by
   show _=_;rw[HV.out,show(x != y)=true by simp[hxy]];rfl
  have hc:((x:Int)==(y:Int))=false:=by simp;omega
  generalize vA rules x=rx at *;generalize vA rules y=ry at *;go_in;go_wp2_with (first|(go_at_call 93;first|(have m2:=mark1;refine HC2.out.mono ?_;rintro e w3 ⟨rfl,rfl⟩)|(refine HC1.out.mono ?_;rintro e w2 ⟨rfl,rfl⟩;have mark1:True:=trivial)))
  go_ret;exact⟨by rw[HZ.out];rfl,⟨rfl,rfl,lQ,fun _ _ _=>rfl⟩⟩
structure So (w:World)(p q:Nat)(rv:Value)(rules:List Nat):Prop where
 net:w.cell? ⟨p,0,none⟩=some (pointer (some ⟨q,0,none⟩))
 rcell:w.cell? ⟨q,4,none⟩=some rv
 at_:Ints w (In w) rv (rules.map fun(x:Nat)=>(x:Int))
 eight:rules.length<=8
 small:∀r∈rules,r<16777216
 lp:p<w.heap.size
 lq:q<w.heap.size
theorem So.grown {w w':World}{p q:Nat}{rv:Value}{rules:List Nat}(h:So w p q rv rules)(hk:Grew w w'):So w' p q rv rules:=
 ⟨zA h.net h.lp hk,zA h.rcell h.lq hk,h.at_.grown hk,h.eight,h.small,lZ h.lp hk.size,lZ h.lq hk.size⟩
theorem So.differ {w:World}{p q:Nat}{rv:Value}{rules:List Nat}(h:So w p q rv rules)(a b tail:Nat)(ha:a<16777216)(hb:b<16777216)(ht:tail<16777216):
  Calls prog 174 #[pointer (some ⟨p,0,none⟩),int i64 a,int i64 b,int i64 tail] w fun e w'=>e=returned (bool (xG rules a b tail))∧Grew w w':=zHf w p q rv rules h.net h.rcell h.at_ h.eight h.small a b tail ha hb ht
def jP (rules marks:List Nat)(a b:Nat):Bool:=!(marks.any fun t=>xG rules a b t)
theorem zDA (w:World)(p q:Nat)(rv mv:Value)(rules marks:List Nat)(hS:So w p q rv rules)(hm:w.cell? ⟨p,7,none⟩=some mv)(hM:Ints w (In w) mv (marks.map fun(x:Nat)=>(x:Int)))(hl:marks.length<=1000000000000)(hr:∀r∈marks,r<16777216)(a b:Nat)(ha:a<16777216)(hb:b<16777216):
  Calls prog 173 #[pointer (some ⟨p,0,none⟩),int i64 a,int i64 b] w fun e w'=>e=returned (bool (jP rules marks a b))∧Grew w w':=by
 obtain⟨ar,cr,hrv,_,_,hrc⟩:=hM;rw[kV] at hrv;subst hrv;have HRC:Hid (∀i,i<marks.length->∃b o,ar=some ⟨b,o,none⟩∧In w b∧w.cell? ⟨b,o+i,none⟩=some (int i64 ((marks.getD i 0:Nat):Int))∧marks.getD i 0<16777216):=by
  intro i hi;obtain⟨b,o,h1,h0,h2⟩:=hrc i (by rw[kV];exact hi);refine⟨b,o,h1,h0,?_,hr _ (zS _ i 0 hi)⟩;rw[lW,gU,lV hi] at h2;rw[lW,lV hi];exact h2
 have HS:=vl hS;have H1:Hid (∀j,j<marks.length->xG rules a b (marks.getD j 0)=true->jP rules marks a b=false):=fun j hj h=>by
  show(!_)=false;rw[zMO marks _ 0 j hj h];rfl
 have H2:Hid ((∀i,i<marks.length->xG rules a b (marks.getD i 0)=false)->jP rules marks a b=true):=fun h=>by
  show(!_)=true;rw[zIF marks _ 0 h];rfl
 go_in;go_wp2;go_loopg [14] marks.length (fun k i wr=>∃j:Nat,k=marks.length-j∧j<=marks.length∧i=int i64 (j:Int)∧(∀i,i<j->xG rules a b (marks.getD i 0)=false)∧Grew w wr)
 case atStart=>exact⟨0,rfl,lX,rfl,fun i hi=>by omega,⟨rfl,rfl,lQ,fun _ _ _=>rfl⟩⟩
 case round=>
  obtain⟨j,hgk,hj,rfl,hno,hkp⟩:=hrel;have HB:Hid (gk=marks.length-j∧(∀i,i<j->xG rules a b (marks.getD i 0)=false)∧Grew w wr):=⟨hgk,hno,hkp⟩
  by_cases hj2:j<marks.length
  ·have i1:(j:Int)<(marks.length:Int):=by omega
   obtain⟨b1,o1,rfl,hb1,hc,hlt⟩:=HRC.out j hj2;have y1:=zA hc hb1 hkp;have HL3:=vl <| H1.out j hj2;have HN3:Hid (xG rules a b (marks.getD j 0)=false->∀i,i<j+1->xG rules a b (marks.getD i 0)=false):=fun h i hi=>by
    by_cases e:i=j
    ·rw[e];exact h
    ·exact HB.out.2.1 i (by omega)
   have HD:Hid (∀t:Nat,t<16777216->Ca 174 #[pointer (some ⟨p,0,none⟩),int i64 a,int i64 b,int i64 t] wr fun e w'=>e=returned (bool (xG rules a b t))∧Grew w w'):=fun t ht=>by
    refine((HS.out.grown HB.out.2.2).differ a b t ha hb ht).mono ?_;rintro e w2 ⟨rfl,hk2⟩;exact⟨rfl,HB.out.2.2.trans (hk2.lower HB.out.2.2.size HB.out.2.2.size)⟩
   generalize marks.getD j 0=r at *;have HD2:=HD.out r hlt;cases hd:xG rules a b r with
   |false=>
    rw[hd] at HD2;have HR:=vl <| HN3.out hd;have HD3:=vl HD2;go_wp2_with (first|(go_at_call 174;refine HD3.out.mono ?_;rintro e w5 ⟨rfl,hk5⟩))
    go_roundg (marks.length-(j+1))
    case measure=>rw[HB.out.1];omega
    case rel=>exact⟨j+1,rfl,by omega,by go_num,HR.out,hk5⟩
   |true=>
    rw[hd] at HD2;have HR:=vl <| HL3.out hd;have HD3:=vl HD2;go_wp2_with (first|(go_at_call 174;refine HD3.out.mono ?_;rintro e w5 ⟨rfl,hk5⟩))
    go_ret;exact⟨by rw[HR.out];rfl,hk5⟩
  ·have i1:(marks.length:Int)<=(j:Int):=by omega
   have HR:=vl <| H2.out fun i hi=>hno i (by omega);go_wp2;go_ret;exact⟨by rw[HR.out];rfl,HB.out.2.2⟩
section
variable (rules tails:List Nat) (a b:Nat)
def I32s (w:World)(S:Nat->Prop)(v:Value)(l:List Nat):Prop:=
 ∃ao cap,v=slice ao l.length cap∧l.length<=cap∧cap<=maxLen∧∀i,i<l.length->∃b o,ao=some ⟨b,o,none⟩∧S b∧w.cell? ⟨b,o+i,none⟩=some (int .i32 ((l.getD i 0:Nat):Int))
theorem I32s.keep {w w':World}{S:Nat->Prop}{v:Value}{l:List Nat}(h:I32s w S v l)(e:∀b,S b->w'.heap[b]? =w.heap[b]?):I32s w' S v l:=by
 obtain⟨ao,cap,hv,h1,h2,h3⟩:=h;refine⟨ao,cap,hv,h1,h2,fun i hi=>?_⟩;obtain⟨b,o,ha,hb,hc⟩:=h3 i hi;exact⟨b,o,ha,hb,(gG (e b hb)).trans hc⟩
theorem I32s.mono {w:World}{S S':Nat->Prop}{v:Value}{l:List Nat}(h:I32s w S v l)(e:∀b,S b->S' b):I32s w S' v l:=by
 obtain⟨ao,cap,hv,h1,h2,h3⟩:=h;refine⟨ao,cap,hv,h1,h2,fun i hi=>?_⟩;obtain⟨b,o,ha,hb,hc⟩:=h3 i hi;exact⟨b,o,ha,e b hb,hc⟩
def zAz (rules tails:List Nat)(a b:Nat):Int:=if a=b then -1 else if tails.findIdx (fun t=>xG rules a b t)<tails.length then(tails.getD (tails.findIdx fun t=>xG rules a b t) 0:Int) else -1
theorem zDb (l:List Nat)(p:Nat->Bool)(j:Nat)(hj:j<l.length)(h:p (l.getD j 0)=true)(hn:∀i,i<j->p (l.getD i 0)=false):l.findIdx p=j:=by
 rw[List.findIdx_eq hj];rw[lW,lV hj] at h;refine⟨by simpa using h,fun i hi=>?_⟩;have:=hn i hi;rw[lW,lV (by omega)] at this;simpa using this
theorem zA8 (l:List Nat)(p:Nat->Bool)(hn:∀i,i<l.length->p (l.getD i 0)=false):l.findIdx p=l.length:=by
 rw[List.findIdx_eq_length];intro y hy;obtain⟨i,hi,rfl⟩:=List.getElem_of_mem hy;have:=hn i hi;rw[lW,lV hi] at this;simpa using this
theorem zM1 (a b j:Nat)(hab:a≠b)(hj:j<tails.length)(h:xG rules a b (tails.getD j 0)=true)(hn:∀i,i<j->xG rules a b (tails.getD i 0)=false):zAz rules tails a b=(tails.getD j 0:Nat):=by
 unfold zAz;rw[if_neg hab,zDb tails _ j hj h hn,if_pos hj]
theorem zKG (hn:∀i,i<tails.length->xG rules a b (tails.getD i 0)=false):zAz rules tails a b=-1:=by
 unfold zAz;rw[zA8 tails _ hn,if_neg (Nat.lt_irrefl _)];split <;> rfl
theorem zIY (rules tails:List Nat)(a b:Nat)(ht:∀t∈tails,t<16777216):zAz rules tails a b=-1∨∃t:Nat,zAz rules tails a b=t∧t<16777216:=by
 unfold zAz;by_cases h:a=b
 ·rw[if_pos h];exact .inl rfl
 ·rw[if_neg h]
  by_cases h2:tails.findIdx (fun t=>xG rules a b t)<tails.length
  ·rw[if_pos h2]
   exact .inr ⟨_,rfl,ht _ (zS _ _ 0 h2)⟩
  ·rw[if_neg h2];exact .inl rfl
theorem zCT (w:World)(p q:Nat)(rv mv:Value)(rules marks:List Nat)(hS:So w p q rv rules)(hm:w.cell? ⟨p,5,none⟩=some mv)(hM:I32s w (In w) mv marks)(hl:marks.length<=1000000000000)(hr:∀r∈marks,r<16777216)(a b:Nat)(ha:a<16777216)(hb:b<16777216):
  Calls prog 131 #[pointer (some ⟨p,0,none⟩),int i64 a,int i64 b] w fun e w'=>e=returned (int i64 (zAz rules marks a b))∧Grew w w':=by
 by_cases hab:a=b
 ·have HZ:Hid (zAz rules marks a b=-1):=by unfold zAz;rw[if_pos hab];exact rfl
  have hc:((a:Int)==(b:Int))=true:=by simp[hab]
  go_in;go_wp2;go_ret;exact⟨by rw[HZ.out];rfl,⟨rfl,rfl,lQ,fun _ _ _=>rfl⟩⟩
 have hc0:((a:Int)==(b:Int))=false:=by simp;omega
 obtain⟨ar,cr,rfl,_,_,hrc⟩:=hM;have HRC:Hid (∀i,i<marks.length->∃b o,ar=some ⟨b,o,none⟩∧In w b∧w.cell? ⟨b,o+i,none⟩=some (int .i32 ((marks.getD i 0:Nat):Int))∧marks.getD i 0<16777216):=by
  intro i hi;obtain⟨b,o,h1,h0,h2⟩:=hrc i hi;exact⟨b,o,h1,h0,h2,hr _ (zS _ i 0 hi)⟩
 have HS:=vl hS;have H1:Hid (∀j,j<marks.length->xG rules a b (marks.getD j 0)=true->(∀i,i<j->xG rules a b (marks.getD i 0)=false)->zAz rules marks a b=(marks.getD j 0:Nat)):=fun j hj h hn=>zM1 rules marks a b j hab hj h hn;have H2:Hid ((∀i,i<marks.length->xG rules a b (marks.getD i 0)=false)->zAz rules marks a b=-1):=fun h=>zKG rules marks a b h;go_in;go_wp2;go_loopg [17] marks.length (fun k i wr=>∃j:Nat,k=marks.length-j∧j<=marks.length∧i=int i64 (j:Int)∧(∀i,i<j->xG rules a b (marks.getD i 0)=false)∧Grew w wr)
 case atStart=>exact⟨0,rfl,lX,rfl,fun i hi=>by omega,⟨rfl,rfl,lQ,fun _ _ _=>rfl⟩⟩
 case round=>
  obtain⟨j,hgk,hj,rfl,hno,hkp⟩:=hrel;have HB:Hid (gk=marks.length-j∧(∀i,i<j->xG rules a b (marks.getD i 0)=false)∧Grew w wr):=⟨hgk,hno,hkp⟩
  by_cases hj2:j<marks.length
  ·have i1:(j:Int)<(marks.length:Int):=by omega
   obtain⟨b1,o1,rfl,hb1,hc,hlt⟩:=HRC.out j hj2;have y1:=zA hc hb1 hkp;have HL3:Hid (xG rules a b (marks.getD j 0)=true->zAz rules marks a b=(marks.getD j 0:Nat)):=fun h=>H1.out j hj2 h HB.out.2.1;have HN3:Hid (xG rules a b (marks.getD j 0)=false->∀i,i<j+1->xG rules a b (marks.getD i 0)=false):=fun h i hi=>by
    by_cases e:i=j
    ·rw[e];exact h
    ·exact HB.out.2.1 i (by omega)
   have HD:Hid (∀t:Nat,t<16777216->Ca 174 #[pointer (some ⟨p,0,none⟩),int i64 a,int i64 b,int i64 t] wr fun e w'=>e=returned (bool (xG rules a b t))∧Grew w w'):=fun t ht=>by
    refine((HS.out.grown HB.out.2.2).differ a b t ha hb ht).mono ?_;rintro e w2 ⟨rfl,hk2⟩;exact⟨rfl,HB.out.2.2.trans (hk2.lower HB.out.2.2.size HB.out.2.2.size)⟩
   generalize marks.getD j 0=r at *;have HD2:=HD.out r hlt;cases hd:xG rules a b r with
   |false=>
    rw[hd] at HD2;have HR:=vl <| HN3.out hd;have HD3:=vl HD2;go_wp2_with (first|(go_at_call 174;refine HD3.out.mono ?_;rintro e w5 ⟨rfl,hk5⟩))
    go_roundg (marks.length-(j+1))
    case measure=>rw[HB.out.1];omega
    case rel=>exact⟨j+1,rfl,by omega,by go_num,HR.out,hk5⟩
   |true=>
    rw[hd] at HD2;have HR:=vl <| HL3.out hd;have HD3:=vl HD2;go_wp2_with (first|(go_at_call 174;refine HD3.out.mono ?_;rintro e w5 ⟨rfl,hk5⟩))
    go_ret;exact⟨by rw[HR.out];rfl,hk5⟩
  ·have i1:(marks.length:Int)<=(j:Int):=by omega
   have HR:=vl <| H2.out fun i hi=>hno i (by omega);go_wp2;go_ret;exact⟨by rw[HR.out];rfl,HB.out.2.2⟩
end
def zAx (rules marks found:List Nat)(set:Nat):Nat:=found.findIdx fun o=>jP rules marks set o
theorem zHv (rules marks found:List Nat)(set:Nat):zAx rules marks found set<=found.length:=List.findIdx_le_length
theorem zEH (w:World)(p q:Nat)(rv mv fv:Value)(rules marks found:List Nat)(hS:So w p q rv rules)(hm:w.cell? ⟨p,7,none⟩=some mv)(hM:Ints w (In w) mv (marks.map fun(x:Nat)=>(x:Int)))(hl:marks.length<=1000000000000)(hr:∀r∈marks,r<16777216)(hf:w.cell? ⟨p,6,none⟩=some fv)(hF:Ints w (In w) fv (found.map fun(x:Nat)=>(x:Int)))(hl2:found.length<=1000000000000)(hr2:∀r∈found,r<16777216)(a:Nat)(ha:a<16777216):
  Calls prog 130 #[pointer (some ⟨p,0,none⟩),int i64 a] w fun e w'=>e=returned (int i64 (zAx rules marks found a))∧Grew w w':=by
 have hF':=hF;obtain⟨ar,cr,hrv,_,_,hrc⟩:=hF;rw[kV] at hrv;subst hrv;have HRC:Hid (∀i,i<found.length->∃b o,ar=some ⟨b,o,none⟩∧In w b∧w.cell? ⟨b,o+i,none⟩=some (int i64 ((found.getD i 0:Nat):Int))∧found.getD i 0<16777216):=by
  intro i hi;obtain⟨b,o,h1,h0,h2⟩:=hrc i (by rw[kV];exact hi);refine⟨b,o,h1,h0,?_,hr2 _ (zS _ i 0 hi)⟩;rw[lW,gU,lV hi] at h2;rw[lW,lV hi];exact h2
 have hpl:=hS.lp;have HAC:Hid (∀wr,Grew w wr->∀b:Nat,b<16777216->Ca 173 #[pointer (some ⟨p,0,none⟩),int i64 a,int i64 b] wr fun e w'=>e=returned (bool (jP rules marks a b))∧Grew w w'):=fun wr hk b hb=>by
  refine(zDA wr p q rv mv rules marks (hS.grown hk) (zA hm hpl hk) (hM.grown hk) hl hr a b ha hb).mono ?_;rintro e w2 ⟨rfl,hk2⟩;exact⟨rfl,hk.trans (hk2.lower hk.size hk.size)⟩
 have H1:Hid (∀j,j<found.length->jP rules marks a (found.getD j 0)=true->(∀i,i<j->jP rules marks a (found.getD i 0)=false)->zAx rules marks found a=j):=fun j hj h hn=>zDb found _ j hj h hn;have H2:Hid ((∀i,i<found.length->jP rules marks a (found.getD i 0)=false)->zAx rules marks found a=found.length):=fun h=>zA8 found _ h;go_in;go_wp2;go_loopg [12] found.length (fun k i wr=>∃j:Nat,k=found.length-j∧j<=found.length∧i=int i64 (j:Int)∧(∀i,i<j->jP rules marks a (found.getD i 0)=false)∧Grew w wr)
 case atStart=>exact⟨0,rfl,lX,rfl,fun i hi=>by omega,⟨rfl,rfl,lQ,fun _ _ _=>rfl⟩⟩
 case round=>
  obtain⟨j,hgk,hj,rfl,hno,hkp⟩:=hrel;have HB:Hid (gk=found.length-j∧(∀i,i<j->jP rules marks a (found.getD i 0)=false)∧Grew w wr):=⟨hgk,hno,hkp⟩
  by_cases hj2:j<found.length
  ·have i1:(j:Int)<(found.length:Int):=by omega
   obtain⟨b1,o1,rfl,hb1,hc,hlt⟩:=HRC.out j hj2;have y1:=zA hc hb1 hkp;have HL3:Hid (jP rules marks a (found.getD j 0)=true->zAx rules marks found a=j):=fun h=>H1.out j hj2 h HB.out.2.1;have HN3:Hid (jP rules marks a (found.getD j 0)=false->∀i,i<j+1->jP rules marks a (found.getD i 0)=false):=fun h i hi=>by
    by_cases e:i=j
    ·rw[e];exact h
    ·exact HB.out.2.1 i (by omega)
   have HD:=vl <| HAC.out wr hkp;generalize found.getD j 0=r at *;have HD2:=HD.out r hlt;cases hd:jP rules marks a r with
   |false=>
    rw[hd] at HD2;have HR:=vl <| HN3.out hd;have HD3:=vl HD2;go_wp2_with (first|(go_at_call 173;refine HD3.out.mono ?_;rintro e w5 ⟨rfl,hk5⟩))
    go_roundg (found.length-(j+1))
    case measure=>rw[HB.out.1];omega
    case rel=>exact⟨j+1,rfl,by omega,by go_num,HR.out,hk5⟩
   |true=>
    rw[hd] at HD2;have HR:=vl <| HL3.out hd;have HD3:=vl HD2;go_wp2_with (first|(go_at_call 173;refine HD3.out.mono ?_;rintro e w5 ⟨rfl,hk5⟩))
    go_ret;exact⟨by rw[HR.out];rfl,hk5⟩
  ·have i1:(found.length:Int)<=(j:Int):=by omega
   have y9:=zA hf hpl hkp;have HR:=vl <| H2.out fun i hi=>hno i (by omega);go_wp2;go_ret;exact⟨by rw[HR.out];rfl,HB.out.2.2⟩
section
structure KeepX (X:Nat->Prop)(w w':World):Prop where
 os:w'.os=w.os
 output:w'.output=w.output
 size:w.heap.size<=w'.heap.size
 block:∀k,X k->w'.heap[k]? =w.heap[k]?
theorem KeepX.refl (X:Nat->Prop)(w:World):KeepX X w w:=⟨rfl,rfl,lQ,fun _ _=>rfl⟩
theorem KeepX.trans {X:Nat->Prop}{w w' w'':World}(h:KeepX X w w')(h':KeepX X w' w''):KeepX X w w'':=⟨h'.os.trans h.os,h'.output.trans h.output,lY h.size h'.size,fun k hk=>(h'.block k hk).trans (h.block k hk)⟩
theorem KeepX.mono {X Y:Nat->Prop}{w w':World}(h:KeepX X w w')(e:∀k,Y k->X k):KeepX Y w w':=⟨h.os,h.output,h.size,fun k hk=>h.block k (e k hk)⟩
theorem Keep.kx {X:Nat->Prop}{H b:Nat}{w w':World}(h:Keep H b w w')(e:∀k,X k->k<H∧k≠b):KeepX X w w':=⟨h.os,h.output,h.size,fun k hk=>h.block k (e k hk).1 (e k hk).2⟩
def ints (l:List Nat):List Int:=l.map fun(x:Nat)=>(x:Int)
theorem zN (l:List Nat):(ints l).length=l.length:=kV ..
theorem zA6 (l:List Nat)(x:Nat):ints (l++[x])=ints l++[(x:Int)]:=by simp[ints]
theorem vI (l:List Nat)(i:Nat):(ints l).getD i 0=(l.getD i 0:Nat):=by
 unfold ints;rw[lW,lW,gU];cases l[i]? <;> rfl
structure Sq where
 rules:List Nat
 tails:List Nat
 sets:List Nat
 q:Nat
 f:Nat
 lv:Value
 tv:Value
 sv:Value
 tl:Value
 rv:Value
structure Sf where
 found:List Nat
 marks:List Nat
structure SoAt (w:World)(X:Nat->Prop)(p:Nat)(s:Sq)(d:Sf)(fv mv:Value):Prop where
 blk:w.heap[p]? =some (.cells #[pointer (some ⟨s.q,0,none⟩),s.lv,s.tv,s.sv,pointer (some ⟨s.f,0,none⟩),s.tl,fv,mv] 176)
 own1:OwnI w 0 fv (ints d.found)
 own2:OwnI w 0 mv (ints d.marks)
 ne:∀g,fv.ownBlock=some g->some g≠mv.ownBlock
 xf:∀g,X g->some g≠fv.ownBlock
 xm:∀g,X g->some g≠mv.ownBlock
 xp:¬X p
 xl:∀g,X g->g<w.heap.size
 lp:p<w.heap.size
 net:w.cell? ⟨s.q,4,none⟩=some s.rv
 xq:X s.q
 rls:Ints w X s.rv (ints s.rules)
 eight:s.rules.length<=8
 rsm:∀r∈s.rules,r<16777216
 tls:I32s w X s.tl s.tails
 tsm:∀t∈s.tails,t<16777216
 tlen:s.tails.length<=16777216
 sts:Ints w X s.sv (ints s.sets)
 ssm:∀t∈s.sets,t<16777216
 fsm:∀t∈d.found,t<16777216
 msm:∀t∈d.marks,t<16777216
def zOn (w:World)(X:Nat->Prop)(p:Nat)(s:Sq)(d:Sf):Prop:=∃fv mv,SoAt w X p s d fv mv
section
variable {w w2:World} {X:Nat->Prop} {p:Nat} {s:Sq} {d:Sf} {fv mv:Value}
theorem SoAt.grown (h:SoAt w X p s d fv mv)(hk:Grew w w2):SoAt w2 X p s d fv mv:=by
 have e:∀b,X b->w2.heap[b]? =w.heap[b]? :=fun b hb=>hk.block b (h.xl b hb) (kJ (h.xl b hb));exact⟨(hk.block _ h.lp (kJ h.lp)).trans h.blk,zK h.own1 hk,zK h.own2 hk,h.ne,h.xf,h.xm,h.xp,fun g hg=>lZ (h.xl g hg) hk.size,lZ h.lp hk.size,(gG (e _ h.xq)).trans h.net,h.xq,h.rls.keep e,h.eight,h.rsm,h.tls.keep e,h.tsm,h.tlen,h.sts.keep e,h.ssm,h.fsm,h.msm⟩
theorem SoAt.cells (h:SoAt w X p s d fv mv):w.cell? ⟨p,0,none⟩=some (pointer (some ⟨s.q,0,none⟩))∧w.cell? ⟨p,3,none⟩=some s.sv∧w.cell? ⟨p,4,none⟩=some (pointer (some ⟨s.f,0,none⟩))∧w.cell? ⟨p,5,none⟩=some s.tl∧w.cell? ⟨p,6,none⟩=some fv∧w.cell? ⟨p,7,none⟩=some mv∧∀i,w.frozen? ⟨p,i,none⟩=false:=by
 refine⟨?_,?_,?_,?_,?_,?_,fun i=>?_⟩
 all_goals first|(unfold cell?;rw[h.blk];rfl)|(unfold frozen?;rw[h.blk];simp)
theorem SoAt.so (h:SoAt w X p s d fv mv):So w p s.q s.rv s.rules:=⟨h.cells.1,h.net,h.rls.mono h.xl,h.eight,h.rsm,h.lp,h.xl _ h.xq⟩
theorem SoAt.fewer {Y:Nat->Prop}(h:SoAt w X p s d fv mv)(hp:¬Y p)(hl:∀g,Y g->g<w.heap.size)(hf:∀g,Y g->some g≠fv.ownBlock)(hm:∀g,Y g->some g≠mv.ownBlock)(e:∀g,X g->Y g):SoAt w Y p s d fv mv:=
 ⟨h.blk,h.own1,h.own2,h.ne,hf,hm,hp,hl,h.lp,h.net,e _ h.xq,h.rls.mono e,h.eight,h.rsm,h.tls.mono e,h.tsm,h.tlen,h.sts.mono e,h.ssm,h.fsm,h.msm⟩
theorem zB9 {w:World}{b i e':Nat}{v x:Value}{l:List Int}{c:Array Value}(h:OwnI w 0 v l)(hb:w.heap[b]? =some (.cells c e'))(he:3≠e'):OwnI (w.setCell ⟨b,i,none⟩ x) 0 v l:=
 zD h fun k _ _ hk=>lJ _ _ _ _ fun e=>zM h hb he (by rw[hk];exact congrArg some (Eq.symm e))
theorem SoAt.found_app {o:Obj}{g cap n x:Nat}(h:SoAt w X p s d fv mv)(hx:x<16777216)(hn:n=d.found.length)(hown:w2.ownsRow 0 3 1 (slice (some ⟨g,0,none⟩) (n+1) cap) (n+1) (((ints d.found).map fun x=>int i64 x)++[int i64 (x:Int)]))(hg:(w.alloc o).grownBy w2 fv.ownBlock)(hat:fv.ownBlock=some g∨w.heap.size<=g):
  SoAt (w2.setCell ⟨p,6,none⟩ (slice (some ⟨g,0,none⟩) (n+1) cap)) X p s {d with found:=d.found++[x]} (slice (some ⟨g,0,none⟩) (n+1) cap) mv∧KeepX X w (w2.setCell ⟨p,6,none⟩ (slice (some ⟨g,0,none⟩) (n+1) cap)):=by
 subst hn;have hlp:=h.lp;have hpf:=zM h.own1 h.blk (by decide);have hbl:∀j,j<w.heap.size->some j≠fv.ownBlock->w2.heap[j]? =w.heap[j]? :=fun j hj hf=>(hg.block j (by simp;omega) hf).trans (lG _ _ _ (by omega));have hb:=(hbl p hlp hpf).trans h.blk;have hsz:w.heap.size<=w2.heap.size:=lY (by simp) hg.size;have hxp:∀k,X k->k≠p:=fun k hk e=>h.xp (e ▸ hk);have e:∀k,X k->(w2.setCell ⟨p,6,none⟩ (slice (some ⟨g,0,none⟩) (d.found.length+1) cap)).heap[k]? =w.heap[k]? :=fun k hk=>(lJ _ _ _ _ (hxp k hk)).trans (hbl k (h.xl k hk) (h.xf k hk));have hO1:OwnI w2 0 (slice (some ⟨g,0,none⟩) (d.found.length+1) cap) (ints (d.found++[x])):=by
  rw[zA6];have:=zN d.found;have h2:=OwnI.snoc (l:=ints d.found) (x:=(x:Int)) (by rw[this];exact hown);rw[this] at h2;exact h2
 have hO2:=zR hg h.own2 (fun g hg e=>h.ne g e.symm hg.symm);refine⟨⟨?_,zB9 hO1 hb (by decide),zB9 hO2 hb (by decide),yX h.own2 h.ne hat,?_,h.xm,h.xp,fun k hk=>by rw[zC];exact lZ (h.xl k hk) hsz,by rw[zC];omega,(gG (e _ h.xq)).trans h.net,h.xq,h.rls.keep e,h.eight,h.rsm,h.tls.keep e,h.tsm,h.tlen,h.sts.keep e,h.ssm,?_,h.msm⟩,⟨hg.os,hg.output,by rw[zC];exact hsz,e⟩⟩
 ·simp[setCell,lU,hb]
 ·intro k hk e
  have e1:k=g:=by simpa[Value.ownBlock] using e
  subst e1;rcases hat with ha|ha
  ·exact h.xf k hk ha.symm
  ·have:=h.xl k hk
   omega
 ·intro t ht
  rcases kU.1 ht with h1|h1
  ·exact h.fsm t h1
  ·rw[kY.1 h1];exact hx
theorem SoAt.marks_app {o:Obj}{g cap n x:Nat}(h:SoAt w X p s d fv mv)(hx:x<16777216)(hn:n=d.marks.length)(hown:w2.ownsRow 0 3 1 (slice (some ⟨g,0,none⟩) (n+1) cap) (n+1) (((ints d.marks).map fun x=>int i64 x)++[int i64 (x:Int)]))(hg:(w.alloc o).grownBy w2 mv.ownBlock)(hat:mv.ownBlock=some g∨w.heap.size<=g):
  SoAt (w2.setCell ⟨p,7,none⟩ (slice (some ⟨g,0,none⟩) (n+1) cap)) X p s {d with marks:=d.marks++[x]} fv (slice (some ⟨g,0,none⟩) (n+1) cap)∧KeepX X w (w2.setCell ⟨p,7,none⟩ (slice (some ⟨g,0,none⟩) (n+1) cap)):=by
 subst hn;have hlp:=h.lp;have hpf:=zM h.own2 h.blk (by decide);have hbl:∀j,j<w.heap.size->some j≠mv.ownBlock->w2.heap[j]? =w.heap[j]? :=fun j hj hf=>(hg.block j (by simp;omega) hf).trans (lG _ _ _ (by omega));have hb:=(hbl p hlp hpf).trans h.blk;have hsz:w.heap.size<=w2.heap.size:=lY (by simp) hg.size;have hxp:∀k,X k->k≠p:=fun k hk e=>h.xp (e ▸ hk);have e:∀k,X k->(w2.setCell ⟨p,7,none⟩ (slice (some ⟨g,0,none⟩) (d.marks.length+1) cap)).heap[k]? =w.heap[k]? :=fun k hk=>(lJ _ _ _ _ (hxp k hk)).trans (hbl k (h.xl k hk) (h.xm k hk));have hO1:OwnI w2 0 (slice (some ⟨g,0,none⟩) (d.marks.length+1) cap) (ints (d.marks++[x])):=by
  rw[zA6];have:=zN d.marks;have h2:=OwnI.snoc (l:=ints d.marks) (x:=(x:Int)) (by rw[this];exact hown);rw[this] at h2;exact h2
 have hO2:=zR hg h.own1 h.ne;refine⟨⟨?_,zB9 hO2 hb (by decide),zB9 hO1 hb (by decide),zCg (yX h.own1 (fun g hg e=>h.ne g e.symm hg.symm) hat),h.xf,?_,h.xp,fun k hk=>by rw[zC];exact lZ (h.xl k hk) hsz,by rw[zC];omega,(gG (e _ h.xq)).trans h.net,h.xq,h.rls.keep e,h.eight,h.rsm,h.tls.keep e,h.tsm,h.tlen,h.sts.keep e,h.ssm,h.fsm,?_⟩,⟨hg.os,hg.output,by rw[zC];exact hsz,e⟩⟩
 ·simp[setCell,lU,hb]
 ·intro k hk e
  have e1:k=g:=by simpa[Value.ownBlock] using e
  subst e1;rcases hat with ha|ha
  ·exact h.xm k hk ha.symm
  ·have:=h.xl k hk
   omega
 ·intro t ht
  rcases kU.1 ht with h1|h1
  ·exact h.msm t h1
  ·rw[kY.1 h1];exact hx
end
end
section
def Sq.look (s:Sq)(d:Sf)(x:Nat):Nat:=zAx s.rules d.marks d.found x
def Sq.tail (s:Sq)(d:Sf)(x:Nat):Int:=zAz s.rules s.tails x (d.found.getD (s.look d x) 0)
def Sq.kind (s:Sq)(d:Sf)(x:Nat):Nat:=if s.look d x<d.found.length then(if s.tail d x<0 then s.look d x else d.found.length) else d.found.length
def Sq.kindS (s:Sq)(d:Sf)(x:Nat):Sf:=if s.look d x<d.found.length then(if s.tail d x<0 then d else⟨d.found++[x],d.marks++[(s.tail d x).toNat]⟩) else⟨d.found++[x],d.marks⟩
theorem Sq.look_le (s:Sq)(d:Sf)(x:Nat):s.look d x<=d.found.length:=zHv _ _ _ _
section
variable {w:World} {X:Nat->Prop} {p:Nat} {s:Sq} {d:Sf} {fv mv:Value}
theorem SoAt.unmarked (h:SoAt w X p s d fv mv)(hl:d.marks.length<=1000000000000)(hl2:d.found.length<=1000000000000)(x:Nat)(hx:x<16777216):
  Calls prog 130 #[pointer (some ⟨p,0,none⟩),int i64 x] w fun e w'=>e=returned (int i64 (s.look d x))∧Grew w w':=
 zEH w p s.q s.rv mv fv s.rules d.marks d.found h.so h.cells.2.2.2.2.2.1 (zAE h.own2) hl h.msm h.cells.2.2.2.2.1 (zAE h.own1) hl2 h.fsm x hx
theorem SoAt.between (h:SoAt w X p s d fv mv)(a b:Nat)(ha:a<16777216)(hb:b<16777216):
  Calls prog 131 #[pointer (some ⟨p,0,none⟩),int i64 a,int i64 b] w fun e w'=>e=returned (int i64 (zAz s.rules s.tails a b))∧Grew w w':=
 zCT w p s.q s.rv s.tl s.rules s.tails h.so h.cells.2.2.2.1 (h.tls.mono h.xl) (lY h.tlen (by omega)) h.tsm a b ha hb
end
theorem zG5 (w:World)(X:Nat->Prop)(p:Nat)(s:Sq)(d:Sf)(h:zOn w X p s d)(hl:d.marks.length<=100000000000)(hl2:d.found.length<=100000000000)(x:Nat)(hx:x<16777216):
  Calls prog 94 #[pointer (some ⟨p,0,none⟩),int i64 x] w fun e w'=>e=returned (int i64 (s.kind d x))∧zOn w' X p s (s.kindS d x)∧KeepX X w w':=by
 obtain⟨i0,hi0,hz0,hz1,hz2⟩:=info_parts yL;obtain⟨fv,mv,h⟩:=h;have HU:=vl <| h.unmarked (by omega) (by omega) x hx;obtain⟨af,cf,hfv⟩:=h.own1.form;rw[zN] at hfv;obtain⟨am,cm,hmv⟩:=h.own2.form;rw[zN] at hmv;subst hfv hmv;have HG:Hid (∀w2,Grew w w2->SoAt w2 X p s d (slice af d.found.length cf) (slice am d.marks.length cm)):=fun w2 hk=>h.grown hk;have HX:Hid (∀w2,Grew w w2->KeepX X w w2):=fun w2 hk=>hk.kx fun k hk2=>⟨h.xl k hk2,kJ (h.xl k hk2)⟩
 have HOf:Hid (∀w2,SoAt w2 X p s d (slice af d.found.length cf) (slice am d.marks.length cm)->w2.ownsRow 0 3 1 (slice af d.found.length cf) d.found.length ((ints d.found).map fun x=>int i64 x)):=fun w2 h2=>by
  have:=h2.own1;unfold OwnI at this;rw[zN] at this;exact this
 have HOm:Hid (∀w2,SoAt w2 X p s d (slice af d.found.length cf) (slice am d.marks.length cm)->w2.ownsRow 0 3 1 (slice am d.marks.length cm) d.marks.length ((ints d.marks).map fun x=>int i64 x)):=fun w2 h2=>by
  have:=h2.own2;unfold OwnI at this;rw[zN] at this;exact this
 have hle:=s.look_le d x;by_cases hk:s.look d x<d.found.length
 ·have hk2:((s.look d x:Nat):Int)<(d.found.length:Int):=by omega
  have hfl:d.found.getD (s.look d x) 0<16777216:=h.fsm _ (zS _ _ 0 hk);obtain⟨gf,rfl⟩:=h.own1.some (by rw[zN];omega);have HC:Hid (∀w2,Grew w w2->w2.cell? ⟨gf,s.look d x,none⟩=some (int i64 ((d.found.getD (s.look d x) 0:Nat):Int))):=fun w2 hk2=>by
   have:=(HG.out w2 hk2).own1.cell (s.look d x) (by rw[zN];exact hk);rw[vI] at this;exact this
  have HT:Hid (∀w2,Grew w w2->Ca 131 #[pointer (some ⟨p,0,none⟩),int i64 (x:Int),int i64 ((d.found.getD (s.look d x) 0:Nat):Int)] w2 fun e w'=>e=returned (int i64 (s.tail d x))∧Grew w w'):=fun w2 hk2=>by
   refine((HG.out w2 hk2).between x _ hx hfl).mono ?_;rintro e w3 ⟨rfl,hk3⟩;exact⟨rfl,hk2.trans (hk3.lower hk2.size hk2.size)⟩
  have hrange:Hid (s.tail d x=-1∨∃t:Nat,s.tail d x=t∧t<16777216):=zIY s.rules s.tails x _ h.tsm;by_cases ht:s.tail d x<0
  ·have HZ:Hid (s.kind d x=s.look d x∧s.kindS d x=d):=⟨by unfold Sq.kind;rw[if_pos hk,if_pos ht],by unfold Sq.kindS;rw[if_pos hk,if_pos ht]⟩
   generalize s.look d x=k at *;generalize d.found.getD k 0=y at *;generalize s.tail d x=t at *;go_in;go_wp2_with (first|(go_at_call 130;refine HU.out.mono ?_;rintro e w2 ⟨rfl,hk2⟩;have y6:=(HG.out w2 hk2).cells.2.2.2.2.1;have y8:=HC.out w2 hk2)|(go_at_call 131;refine(HT.out w2 hk2).mono ?_;rintro e w3 ⟨rfl,hk3⟩))
   go_ret;exact⟨by rw[HZ.out.1];rfl,by rw[HZ.out.2];exact⟨_,_,HG.out _ hk3⟩,HX.out _ hk3⟩
  ·obtain⟨t,hte,htl⟩:=hrange.out.resolve_left (by omega)
   have HZ:Hid (s.kind d x=d.found.length∧s.kindS d x=⟨d.found++[x],d.marks++[t]⟩):=⟨by unfold Sq.kind;rw[if_pos hk,if_neg ht],by unfold Sq.kindS;rw[if_pos hk,if_neg ht,hte];rfl⟩
   rw[hte] at HT;have ht2:¬((t:Int)<0):=by omega
   generalize s.look d x=k at *;generalize d.found.getD k 0=y at *;go_in;go_wp2_with (first|(go_at_call 130;refine HU.out.mono ?_;rintro e w2 ⟨rfl,hk2⟩;have y6:=(HG.out w2 hk2).cells.2.2.2.2.1;have y8:=HC.out w2 hk2)|(go_at_call 131;refine(HT.out w2 hk2).mono ?_;rintro e w3 ⟨rfl,hk3⟩;have HS3:=vl <| HG.out w3 hk3;have y7:=(HG.out w3 hk3).cells.2.2.2.2.2.1;have OM3:=HOm.out w3 (HG.out w3 hk3);have hp3:=(HG.out w3 hk3).lp)|(have m2:=mark1;at_builtin;refine wpList_append_lies _ rfl _ _ 45 rfl 0 3 i0 (int i64 0) 1 8 underlying45 hi0 hz0 hz1 hz2 rfl (by decide) _ _ _ rfl (OF5.alloc _) ⟨w4.heap.size,0,none⟩ 1 1 [int i64 (x:Int)] rfl rfl (zBc _ [int i64 (x:Int)] _ _ (zC _ _ _)) (by intro u hu;simp at hu;subst hu;rfl) (by decide) (by unfold maxLen;omega) (by omega) (by simp[zC]) _ rfl ?_;intro g2 cap2 w6 hown2 hgrow2 hat2 hlt3;have A7:=A5.1.found_app hx rfl hown2 hgrow2 (by rcases hat2 with ha|ha;exact .inl ha;right;rw[ha];simp[zC]);have hPB2:w6.heap[p]? =(w4.setCell ⟨p,7,none⟩ (slice (some ⟨gg,0,none⟩) (d.marks.length+1) cap)).heap[p]? :=(hgrow2.block _ (by simp[zC];omega) (zM A5.1.own1 A5.1.blk (by decide))).trans (lG _ _ _ (by rw[zC];omega));have t6:w6.cell? ⟨p,6,none⟩=some (slice (some ⟨gf,0,none⟩) d.found.length cf):=(gG hPB2).trans y9;have g6:w6.frozen? ⟨p,6,none⟩=false:=(dQ hPB2).trans (A5.1.cells.2.2.2.2.2.2 6);have y10:(w6.setCell ⟨p,6,none⟩ (slice (some ⟨g2,0,none⟩) (d.found.length+1) cap2)).cell? ⟨p,6,none⟩=some (slice (some ⟨g2,0,none⟩) (d.found.length+1) cap2):=A7.1.cells.2.2.2.2.1)|(at_builtin;refine wpList_append_lies _ rfl _ _ 45 rfl 0 3 i0 (int i64 0) 1 8 underlying45 hi0 hz0 hz1 hz2 rfl (by decide) _ _ _ rfl (OM3.alloc _) ⟨w3.heap.size,0,none⟩ 1 1 [int i64 (t:Int)] rfl rfl (cell_one_new _ _ _) (by intro u hu;simp at hu;subst hu;rfl) (by decide) (by unfold maxLen;omega) (by omega) (by simp) _ rfl ?_;intro gg cap w4 hown hgrow hat hlt2;have mark1:True:=trivial;have A5:=HS3.out.marks_app htl rfl hown hgrow (by rcases hat with ha|ha;exact .inl ha;right;rw[ha];simp);have hPB:w4.heap[p]? =w3.heap[p]? :=(hgrow.block _ (by simp;omega) (zM HS3.out.own2 HS3.out.blk (by decide))).trans (lG _ _ _ (by omega));have t7:w4.cell? ⟨p,7,none⟩=some (slice am d.marks.length cm):=(gG hPB).trans y7;have g7:w4.frozen? ⟨p,7,none⟩=false:=(dQ hPB).trans (HS3.out.cells.2.2.2.2.2.2 7);have y9:(w4.setCell ⟨p,7,none⟩ (slice (some ⟨gg,0,none⟩) (d.marks.length+1) cap)).cell? ⟨p,6,none⟩=some (slice (some ⟨gf,0,none⟩) d.found.length cf):=A5.1.cells.2.2.2.2.1;have hp4:p<w4.heap.size:=lZ hp3 (lY (by simp) hgrow.size);have OF5:(w4.setCell ⟨p,7,none⟩ (slice (some ⟨gg,0,none⟩) (d.marks.length+1) cap)).ownsRow 0 3 1 (slice (some ⟨gf,0,none⟩) d.found.length cf) d.found.length ((ints d.found).map fun x=>int i64 x):=(by have:=A5.1.own1;unfold OwnI at this;rw[zN] at this;exact this)))
   go_ret;refine⟨?_,by rw[HZ.out.2];exact⟨_,_,A7.1⟩,((HX.out _ hk3).trans A5.2).trans A7.2⟩;rw[HZ.out.1]
   first|rfl|(simp;done)|(show _=_;congr 2;omega)
 ·have HZ:Hid (s.kind d x=d.found.length∧s.kindS d x=⟨d.found++[x],d.marks⟩):=⟨by unfold Sq.kind;rw[if_neg hk],by unfold Sq.kindS;rw[if_neg hk]⟩
  have hk2:¬(((s.look d x:Nat):Int)<(d.found.length:Int)):=by omega
  generalize s.look d x=k at *;go_in;go_wp2_with (first|(go_at_call 130;refine HU.out.mono ?_;rintro e w3 ⟨rfl,hk3⟩;have HS3:=vl <| HG.out w3 hk3;have y6:=(HG.out w3 hk3).cells.2.2.2.2.1;have OM3:=HOf.out w3 (HG.out w3 hk3);have hp3:=(HG.out w3 hk3).lp)|(at_builtin;refine wpList_append_lies _ rfl _ _ 45 rfl 0 3 i0 (int i64 0) 1 8 underlying45 hi0 hz0 hz1 hz2 rfl (by decide) _ _ _ rfl (OM3.alloc _) ⟨w3.heap.size,0,none⟩ 1 1 [int i64 (x:Int)] rfl rfl (cell_one_new _ _ _) (by intro u hu;simp at hu;subst hu;rfl) (by decide) (by unfold maxLen;omega) (by omega) (by simp) _ rfl ?_;intro gg cap w4 hown hgrow hat hlt2;have A5:=HS3.out.found_app hx rfl hown hgrow (by rcases hat with ha|ha;exact .inl ha;right;rw[ha];simp);have hPB:w4.heap[p]? =w3.heap[p]? :=(hgrow.block _ (by simp;omega) (zM HS3.out.own1 HS3.out.blk (by decide))).trans (lG _ _ _ (by omega));have t7:w4.cell? ⟨p,6,none⟩=some (slice af d.found.length cf):=(gG hPB).trans y6;have g7:w4.frozen? ⟨p,6,none⟩=false:=(dQ hPB).trans (HS3.out.cells.2.2.2.2.2.2 6);have y9:(w4.setCell ⟨p,6,none⟩ (slice (some ⟨gg,0,none⟩) (d.found.length+1) cap)).cell? ⟨p,6,none⟩=some (slice (some ⟨gg,0,none⟩) (d.found.length+1) cap):=A5.1.cells.2.2.2.2.1))
  go_ret;refine⟨?_,by rw[HZ.out.2];exact⟨_,_,A5.1⟩,(HX.out _ hk3).trans A5.2⟩;rw[HZ.out.1]
  first|rfl|(simp;done)|(show _=_;congr 2;omega)
end
section
def SoY (w:World)(X Y:Nat->Prop)(p:Nat)(s:Sq)(d:Sf):Prop:=∃fv mv,SoAt w X p s d fv mv∧∀g,Y g->g<w.heap.size∧g≠p∧some g≠fv.ownBlock∧some g≠mv.ownBlock
section
variable {w w2:World} {X Y:Nat->Prop} {p:Nat} {s:Sq} {d:Sf} {fv mv:Value}
theorem SoAt.both (h:SoAt w X p s d fv mv)(hY:∀g,Y g->g<w.heap.size∧g≠p∧some g≠fv.ownBlock∧some g≠mv.ownBlock):SoAt w (fun g=>X g∨Y g) p s d fv mv:=
 h.fewer (fun e=>e.elim h.xp fun e=>(hY p e).2.1 rfl) (fun g e=>e.elim (h.xl g) fun e=>(hY g e).1) (fun g e=>e.elim (h.xf g) fun e=>(hY g e).2.2.1) (fun g e=>e.elim (h.xm g) fun e=>(hY g e).2.2.2) (fun g e=>.inl e)
theorem SoY.call {d':Sf}(h:SoY w X Y p s d)(h':zOn w2 (fun g=>X g∨Y g) p s d')(hk:KeepX (fun g=>X g∨Y g) w w2):SoY w2 X Y p s d':=by
 obtain⟨fv,mv,h,hY⟩:=h;obtain⟨fv',mv',h'⟩:=h';have e:∀b,X b->w2.heap[b]? =w.heap[b]? :=fun b hb=>hk.block b (.inl hb);refine⟨fv',mv',⟨h'.blk,h'.own1,h'.own2,h'.ne,fun g hg=>h'.xf g (.inl hg),fun g hg=>h'.xm g (.inl hg),h.xp,fun g hg=>h'.xl g (.inl hg),h'.lp,(gG (e _ h.xq)).trans h.net,h.xq,h.rls.keep e,h.eight,h.rsm,h.tls.keep e,h.tsm,h.tlen,h.sts.keep e,h.ssm,h'.fsm,h'.msm⟩,fun g hg=>⟨h'.xl g (.inr hg),(hY g hg).2.1,h'.xf g (.inr hg),h'.xm g (.inr hg)⟩⟩
theorem SoY.mono {Z:Nat->Prop}(h:SoY w X Y p s d)(e:∀g,Z g->Y g):SoY w X Z p s d:=by
 obtain⟨fv,mv,h,hY⟩:=h;exact⟨fv,mv,h,fun g hg=>hY g (e g hg)⟩
theorem SoY.grown {Z:Nat->Prop}(h:SoY w X Y p s d)(hk:Grew w w2)(e:∀g,Z g->g<w2.heap.size∧(Y g∨w.heap.size<=g)):SoY w2 X Z p s d:=by
 obtain⟨fv,mv,h,hY⟩:=h;refine⟨fv,mv,h.grown hk,fun g hg=>?_⟩;obtain⟨hl,hy|hn⟩:=e g hg
 ·exact⟨hl,(hY g hy).2⟩
 ·refine⟨hl,fun e2=>by have:=h.lp;omega,fun e2=>?_,fun e2=>?_⟩
  ·have:=(h.own1.lt g e2.symm).2;omega
  ·have:=(h.own2.lt g e2.symm).2;omega
theorem SoY.app {Z:Nat->Prop}{o:Obj}{g:Nat}{v:Value}(h:SoY w X Y p s d)(hv:∀k,some k=v.ownBlock->Y k∧¬X k)(hg:(w.alloc o).grownBy w2 v.ownBlock)(hat:v.ownBlock=some g∨w.heap.size<=g)(hl:g<w2.heap.size)(hZ:∀k,Z k->Y k∨k=g):SoY w2 X Z p s d:=by
 obtain⟨fv,mv,h,hY⟩:=h;have hsz:w.heap.size<=w2.heap.size:=lY (by simp) hg.size;have hbl:∀j,j<w.heap.size->some j≠v.ownBlock->w2.heap[j]? =w.heap[j]? :=fun j hj hf=>(hg.block j (by simp;omega) hf).trans (lG _ _ _ (by omega));have e:∀b,X b->w2.heap[b]? =w.heap[b]? :=fun b hb=>hbl b (h.xl b hb) fun e2=>(hv b e2).2 hb;have hp:=hbl p h.lp fun e2=>(hY p (hv p e2).1).2.1 rfl;have hgY:g<w.heap.size->Y g:=fun hlt=>(hv g (hat.elim (fun e=>e.symm) fun e=>by omega)).1;refine⟨fv,mv,⟨hp.trans h.blk,zD h.own1 fun k _ h2 hk=>hbl k h2 fun e2=>(hY k (hv k e2).1).2.2.1 hk.symm,zD h.own2 fun k _ h2 hk=>hbl k h2 fun e2=>(hY k (hv k e2).1).2.2.2 hk.symm,h.ne,h.xf,h.xm,h.xp,fun g hg=>lZ (h.xl g hg) hsz,lZ h.lp hsz,(gG (e _ h.xq)).trans h.net,h.xq,h.rls.keep e,h.eight,h.rsm,h.tls.keep e,h.tsm,h.tlen,h.sts.keep e,h.ssm,h.fsm,h.msm⟩,fun k hk=>?_⟩;rcases hZ k hk with hy|rfl
 ·exact⟨lZ (hY k hy).1 hsz,(hY k hy).2⟩
 ·by_cases hlt:k<w.heap.size
  ·exact⟨hl,(hY k (hgY hlt)).2⟩
  ·refine⟨hl,fun e2=>by have:=h.lp;omega,fun e2=>?_,fun e2=>?_⟩
   ·have:=(h.own1.lt k e2.symm).2;omega
   ·have:=(h.own2.lt k e2.symm).2;omega
theorem zIh (h:SoY w X Y p s d)(hl:d.marks.length<=100000000000)(hl2:d.found.length<=100000000000)(x:Nat)(hx:x<16777216):
  Calls prog 94 #[pointer (some ⟨p,0,none⟩),int i64 x] w fun e w'=>e=returned (int i64 (s.kind d x))∧SoY w' X Y p s (s.kindS d x)∧KeepX (fun g=>X g∨Y g) w w':=by
 have h0:=h;obtain⟨fv,mv,h,hY⟩:=h;refine(zG5 w _ p s d ⟨fv,mv,h.both hY⟩ hl hl2 x hx).mono ?_;rintro e w' ⟨rfl,h1,h2⟩;exact⟨rfl,h0.call h1 h2,h2⟩
end
def Sq.rowTo (s:Sq)(next:Nat)(d:Sf):Nat->List Nat×Sf
 |0=>([],d)
 |j+1=>((s.rowTo next d j).1++[s.kind (s.rowTo next d j).2 (next&&&s.sets.getD j 0)],s.kindS (s.rowTo next d j).2 (next&&&s.sets.getD j 0))
theorem Sq.kindS_len (s:Sq)(d:Sf)(x:Nat):(s.kindS d x).found.length<=d.found.length+1∧(s.kindS d x).marks.length<=d.marks.length+1∧d.found.length<=(s.kindS d x).found.length:=by
 unfold Sq.kindS;split
 ·split <;> simp
 ·simp
theorem Sq.rowTo_len (s:Sq)(next:Nat)(d:Sf)(j:Nat):(s.rowTo next d j).1.length=j∧(s.rowTo next d j).2.found.length<=d.found.length+j∧(s.rowTo next d j).2.marks.length<=d.marks.length+j∧d.found.length<=(s.rowTo next d j).2.found.length:=by
 induction j with
 |zero=>exact⟨rfl,lQ,lQ,lQ⟩
 |succ j ih=>
  have h:=s.kindS_len (s.rowTo next d j).2 (next&&&s.sets.getD j 0);unfold Sq.rowTo;simp only[kX,List.length_singleton];omega
end
theorem zKW {w w':World}{X:Nat->Prop}{H:Nat}{v:Value}{l:List Int}(h:OwnI w H v l)(hk:KeepX X w w')(e:∀k,some k=v.ownBlock->X k):OwnI w' H v l:=zD h fun g _ _ hg=>hk.block g (e g hg.symm)
theorem zFJ (w:World)(X Y:Nat->Prop)(p:Nat)(s:Sq)(d:Sf)(h:SoY w X Y p s d)(hl:d.marks.length+s.sets.length<=100000000000)(hl2:d.found.length+s.sets.length<=100000000000)(next:Nat)(hx:next<16777216):
  Calls prog 91 #[pointer (some ⟨p,0,none⟩),int i64 next] w fun e w'=>∃u,e=returned u∧OwnI w' w.heap.size u (ints (s.rowTo next d s.sets.length).1)∧SoY w' X (fun g=>Y g∨some g=u.ownBlock) p s (s.rowTo next d s.sets.length).2∧KeepX (fun g=>X g∨Y g) w w':=by
 obtain⟨i0,hi0,hz0,hz1,hz2⟩:=info_parts yL;obtain⟨fv,mv,hA,hY⟩:=h;have y3:=hA.cells.2.1;have hin:Hid (∀k,X k∨Y k->k<w.heap.size):=fun k hk=>hk.elim (hA.xl k) fun e=>(hY k e).1;obtain⟨as_,cs,hsv,_,_,hsc⟩:=hA.sts;rw[zN] at hsv;have HSC:Hid (∀i,i<s.sets.length->∃b o,as_=some ⟨b,o,none⟩∧X b∧w.cell? ⟨b,o+i,none⟩=some (int i64 ((s.sets.getD i 0:Nat):Int))∧next&&&s.sets.getD i 0<16777216∧s.sets.getD i 0<16777216):=by
  intro i hi;obtain⟨b,o,h1,h0,h2⟩:=hsc i (by rw[zN];exact hi);rw[vI] at h2;exact⟨b,o,h1,h0,h2,Nat.lt_of_le_of_lt Nat.and_le_left hx,hA.ssm _ (zS _ i 0 hi)⟩
 rw[hsv] at y3;have HR:Hid (∀j,(s.rowTo next d j).1.length=j∧(s.rowTo next d j).2.found.length<=d.found.length+j∧(s.rowTo next d j).2.marks.length<=d.marks.length+j):=fun j=>by
  have:=s.rowTo_len next d j
  exact⟨this.1,this.2.1,this.2.2.1⟩
 have HI:Hid (SoY w X (fun g=>Y g∨some g=(Value.slice none 0 0).ownBlock) p s d):=⟨fv,mv,hA,fun g hg=>hg.elim (hY g) fun e=>by cases e⟩
 have hsl:s.sets.length<=100000000000:=by omega
 go_in;go_wp2;go_loopg [5,15] s.sets.length (fun q u i wr=>∃j:Nat,q=s.sets.length-j∧j<=s.sets.length∧i=int i64 (j:Int)∧OwnI wr w.heap.size u (ints (s.rowTo next d j).1)∧SoY wr X (fun g=>Y g∨some g=u.ownBlock) p s (s.rowTo next d j).2∧KeepX (fun g=>X g∨Y g) w wr)
 case atStart=>exact⟨0,rfl,lX,rfl,OwnI.nil _ _,HI.out,KeepX.refl _ _⟩
 case round=>
  obtain⟨j,hgk,hj,rfl,ho,hs,hkp⟩:=hrel;have HB:Hid (gk=s.sets.length-j∧OwnI wr w.heap.size u5 (ints (s.rowTo next d j).1)∧SoY wr X (fun g=>Y g∨some g=u5.ownBlock) p s (s.rowTo next d j).2∧KeepX (fun g=>X g∨Y g) w wr):=⟨hgk,ho,hs,hkp⟩
  by_cases hj2:j<s.sets.length
  ·have i1:(j:Int)<(s.sets.length:Int):=by omega
   obtain⟨b1,o1,rfl,hb1,hc,hlt,hlt2⟩:=HSC.out j hj2;have y1:=(gG (hkp.block b1 (.inl hb1))).trans hc;obtain⟨au,cu,hu5⟩:=ho.form;rw[zN,(HR.out j).1] at hu5;have HK:Hid (∀x:Nat,x<16777216->Ca 94 #[pointer (some ⟨p,0,none⟩),int i64 x] wr fun e w'=>e=returned (int i64 (s.kind (s.rowTo next d j).2 x))∧(OwnI w' w.heap.size u5 (ints (s.rowTo next d j).1)∧SoY w' X (fun g=>Y g∨some g=u5.ownBlock) p s (s.kindS (s.rowTo next d j).2 x))∧KeepX (fun g=>X g∨Y g) w w'):=fun x hx=>by
    have:=HR.out j;refine(zIh HB.out.2.2.1 (by omega) (by omega) x hx).mono ?_;rintro e w2 ⟨rfl,h1,h2⟩;exact⟨rfl,⟨zKW HB.out.2.1 h2 fun k hk=>.inr (.inr hk),h1⟩,HB.out.2.2.2.trans (h2.mono fun k hk=>hk.elim .inl fun e=>.inr (.inl e))⟩
   have HN:Hid ((s.rowTo next d (j+1)).1=(s.rowTo next d j).1++[s.kind (s.rowTo next d j).2 (next&&&s.sets.getD j 0)]∧(s.rowTo next d (j+1)).2=s.kindS (s.rowTo next d j).2 (next&&&s.sets.getD j 0)):=⟨rfl,rfl⟩
   have hll:=(HR.out j).1;generalize s.sets.getD j 0=r at *;have hand:bits .and i64 (next:Int) (r:Int)=((next&&&r:Nat):Int):=qB _ _ (by omega) (by omega);generalize next&&&r=x at *
   have HK2:=vl <| HK.out x hlt;generalize s.kind (s.rowTo next d j).2 x=kd at *;generalize s.kindS (s.rowTo next d j).2 x=d2 at *;generalize (s.rowTo next d j).1=l at *;subst hu5;go_wp2_with (first|(go_at_call 94;refine HK2.out.mono ?_;rintro e w2 ⟨rfl,hA2,hk2⟩;have HA2:=vl hA2;have OR:w2.ownsRow w.heap.size 3 1 (slice au j cu) j ((ints l).map fun x=>int i64 x):=(by have:=hA2.1;unfold OwnI at this;rw[zN,hll] at this;exact this);have hsz2:=hk2.size;clear hA2)|(at_builtin;refine wpList_append_lies _ rfl _ _ 45 rfl (w.heap.size) 3 i0 (int i64 0) 1 8 underlying45 hi0 hz0 hz1 hz2 rfl (by decide) _ _ _ rfl (OR.alloc _) ⟨w2.heap.size,0,none⟩ 1 1 [int i64 (kd:Int)] rfl rfl (cell_one_new _ _ _) (by intro u hu;simp at hu;subst hu;rfl) (by decide) (by unfold maxLen;omega) (by omega) (by simp;omega) _ rfl ?_;intro gg cap w3 hown hgrow hat hlt3))
   have hO3:OwnI w3 w.heap.size (slice (some ⟨gg,0,none⟩) (j+1) cap) (ints (l++[kd])):=by
    rw[zA6];have h2:=OwnI.snoc (l:=ints l) (x:=(kd:Int)) (by rw[zN,hll];exact hown);rw[zN,hll] at h2;exact h2
   have hat2:(Value.slice au j cu).ownBlock=some gg∨w2.heap.size<=gg:=by
    rcases hat with ha|ha
    ·exact .inl ha
    ·right;rw[ha];simp
   have hS3:SoY w3 X (fun g=>Y g∨some g=(Value.slice (some ⟨gg,0,none⟩) (j+1) cap).ownBlock) p s d2:=by
    refine HA2.out.2.app (v:=slice au j cu) (fun k hk=>⟨.inr hk,fun e=>?_⟩) hgrow hat2 (hO3.lt gg rfl).2 ?_
    ·have:=(HA2.out.1.lt k hk.symm).1
     have:=hin.out k (.inl e);omega
    ·intro k hk
     rcases hk with e|e
     ·exact .inl (.inl e)
     ·exact .inr (by simpa[Value.ownBlock] using e)
   have hK3:KeepX (fun g=>X g∨Y g) w w3:=by
    refine hk2.trans ⟨hgrow.os,hgrow.output,lY (by simp) hgrow.size,fun k hk=>?_⟩;have h1:=hin.out k hk;exact(hgrow.block k (by simp;omega) fun e=>by have:=(HA2.out.1.lt k e.symm).1;omega).trans (lG _ _ _ (by omega))
   go_roundg (s.sets.length-(j+1))
   case measure=>rw[HB.out.1];omega
   case rel=>exact⟨j+1,rfl,by omega,by go_num,by rw[HN.out.1];exact hO3,by rw[HN.out.2];exact hS3,hK3⟩
  ·have i1:(s.sets.length:Int)<=(j:Int):=by omega
   have e:j=s.sets.length:=by omega
   subst e;go_wp2;go_ret;exact⟨_,rfl,HB.out.2.1,HB.out.2.2.1,HB.out.2.2.2⟩
theorem zBG (n:Int)(h0:0<=n)(h1:n<18446744073709551616):IntKind.u64.wrap n=n:=by rw[IntKind.wrap_u64];omega
theorem zHw (a b:Nat)(ha:a<18446744073709551616)(hb:b<18446744073709551616):bits .and .u64 (a:Int) (b:Int)=((a&&&b:Nat):Int):=
 (bits_nat .u64 64 (by decide) (fun n h0 h1=>zBG n h0 (by simpa using h1)) a b (by simpa using ha) (by simpa using hb)).1
theorem zIQ (a b:Nat)(ha:a<18446744073709551616)(hb:b<18446744073709551616):bits .or .u64 (a:Int) (b:Int)=((a|||b:Nat):Int):=
 (bits_nat .u64 64 (by decide) (fun n h0 h1=>zBG n h0 (by simpa using h1)) a b (by simpa using ha) (by simpa using hb)).2
theorem zAU (f:Nat->Bool)(k j:Nat):(qQ f k).testBit j=(decide (j<k)&&f j):=by
 induction k with
 |zero=>simp[qQ]
 |succ k ih=>
  unfold qQ;by_cases e:j=k
  ·subst e
   cases hf:f j
   ·simp[ih]
   ·simp[ih,Nat.testBit_or]
  ·have h1:decide (j<k+1)=decide (j<k):=by simp;omega
   rw[h1,<-ih];split
   ·rw[Nat.testBit_or,Nat.testBit_two_pow,show decide (k=j)=false by simp;omega,Bool.or_false]
   ·rfl
def wd (m:Nat->Bool)(i:Nat):Nat:=qQ (fun j=>m (64*i+j)) 64
theorem zOs (m:Nat->Bool)(i:Nat):wd m i<18446744073709551616:=zBd _ 64
theorem zNQ (m:Nat->Bool)(i j:Nat)(hj:j<64):wd m i&&&2^j=if m (64*i+j) then 2^j else 0:=by
 apply Nat.eq_of_testBit_eq;intro k;rw[Nat.testBit_and,Nat.testBit_two_pow];have e2:(wd m i).testBit k=(decide (k<64)&&m (64*i+k)):=zAU _ 64 k;by_cases hk:j=k
 ·subst hk
  rw[e2,dW hj,dW rfl];cases m (64*i+j) <;> simp
 ·rw[dY hk,Bool.and_false]
  cases m (64*i+j) <;> simp[Nat.testBit_two_pow,hk]
theorem zNR (m:Nat->Bool)(x i:Nat):wd (fun y=>y==x||m y) i=if i=x/64 then wd m i|||2^(x%64) else wd m i:=by
 apply Nat.eq_of_testBit_eq;intro j;have e:(wd (fun y=>y==x||m y) i).testBit j=(decide (j<64)&&(64*i+j==x||m (64*i+j))):=zAU _ 64 j;have e2:(wd m i).testBit j=(decide (j<64)&&m (64*i+j)):=zAU _ 64 j;rw[e];split
 ·rename_i h
  rw[Nat.testBit_or,e2,Nat.testBit_two_pow];by_cases hj:j<64
  ·rw[dW hj,Bool.true_and,Bool.true_and,Bool.or_comm]
   congr 1
   by_cases hx:x%64=j
   ·rw[dW hx,beq_iff_eq];omega
   ·rw[dY hx,hJ];omega
  ·rw[dY hj,dY (by omega)];rfl
 ·rename_i h
  rw[e2];by_cases hj:j<64
  ·rw[show (64*i+j==x)=false by rw[hJ];omega,Bool.false_or]
  ·rw[dY hj];rfl
structure SeAt (w:World)(H p n:Nat)(m:Nat->Bool)(g cap:Nat):Prop where
 blk:w.heap[p]? =some (.cells #[slice (some ⟨g,0,none⟩) n cap] 259)
 row:Row w H 260 (slice (some ⟨g,0,none⟩) n cap) n fun i=>int .u64 ((wd m i:Nat):Int)
def SeIs (w:World)(H p n:Nat)(m:Nat->Bool):Prop:=∃g cap,SeAt w H p n m g cap
structure StayU (H:Nat)(w w':World):Prop where
 os:w'.os=w.os
 output:w'.output=w.output
 size:w'.heap.size=w.heap.size
 low:∀k,k<H->w'.heap[k]? =w.heap[k]?
 other:∀(k:Nat) (c:Array Value) (t:TypeId),w.heap[k]? =some (Obj.cells c t)->t≠260->w'.heap[k]? =some (Obj.cells c t)
theorem StayU.refl (H:Nat)(w:World):StayU H w w:=⟨rfl,rfl,rfl,fun _ _=>rfl,fun _ _ _ h _=>h⟩
theorem zFK (w:World)(H p n:Nat)(m:Nat->Bool)(h:SeIs w H p n m)(hn:n<=1000000)(x:Nat)(hx:x<64*n):
  Calls prog 172 #[pointer (some ⟨p,0,none⟩),int i64 x] w fun e w'=>e=returned (bool (!m x))∧SeIs w' H p n (fun y=>y==x||m y)∧StayU H w w':=by
 obtain⟨g,cap,h⟩:=h;have y0:w.cell? ⟨p,0,none⟩=some (slice (some ⟨g,0,none⟩) n cap):=by unfold cell?;rw[h.blk];rfl
 obtain⟨g',cp,hv,g1,g2,g3,g4,g5,g6⟩:=h.row.get (by omega);have eg:g'=g:=by injection hv with e1 _ _;injection e1 with e1;injection e1 with e1;exact e1.symm
 subst eg;have y1:w.cell? ⟨g',x/64,none⟩=some (int .u64 ((wd m (x/64):Nat):Int)):=g5 (x/64) (by omega);have z1:=g6 (x/64);have hsh:bits .and i64 (x:Int) 63=((x%64:Nat):Int):=by
  have:=qB x 63 (by omega) (by omega);rw[show (63:Nat)=2^6-1 from rfl,Nat.and_two_pow_sub_one_eq_mod] at this;exact this
 have hhas:=zNQ m (x/64) (x%64) (by omega);rw[show 64*(x/64)+x%64=x by omega] at hhas;have hpl:2^(x%64)<18446744073709551616:=(Nat.pow_lt_pow_right (by omega) (show x%64<64 by omega):2^(x%64)<2^64)
 have hpp:0<2^(x%64):=Nat.pow_pos (by omega);have hwl:=zOs m (x/64);have HW:=vl <| zNR m x;have HS:=vl h;have hw1:IntKind.u64.wrap ((2:Int)^(x%64))=((2^(x%64):Nat):Int):=by
  have e1:((2^(x%64):Nat):Int)=(2:Int)^(x%64):=by simp
  rw[<-e1];exact zBG _ (by omega) (by omega)
 have i1:(x:Int)/64<(n:Int):=by omega
 have i2:(0:Int)<=(x:Int)/64:=by omega
 have i3:¬((x:Int)/64<0):=by omega
 have i4:¬((n:Int)<=(x:Int)/64):=by omega
 have ha:=zHw (wd m (x/64)) (2^(x%64)) hwl hpl;rw[hhas,<-hw1] at ha;have HO:Hid (bits .or .u64 ((wd m (x/64):Nat):Int) (IntKind.u64.wrap ((2:Int)^(x%64)))=((wd m (x/64)|||2^(x%64):Nat):Int)):=by
  show _=_;rw[hw1];exact zIQ (wd m (x/64)) (2^(x%64)) hwl hpl
 clear h hv g1 g2 g3 g4 g5 g6 hhas;cases hm:m x with
 |true=>
  have hc:(bits .and .u64 ((wd m (x/64):Nat):Int) (IntKind.u64.wrap ((2:Int)^(x%64))) != 0)=true:=by
   rw[ha,hm,if_pos rfl];rw[bne_iff_ne];omega
  have HM:Hid (∀y,(y==x||m y)=m y):=fun y=>by
   by_cases e:y=x
   ·rw[e,hm];simp
   ·rw[show (y==x)=false by simp[e]];rfl
  clear ha hw1 hm hwl hpl hpp;go_in;go_wp2;go_ret;exact⟨rfl,⟨_,_,HS.out.blk,HS.out.row.congr fun i _=>by rw[show (fun y=>y==x||m y)=m from funext HM.out]⟩,StayU.refl _ _⟩
 |false=>
  have hc:(bits .and .u64 ((wd m (x/64):Nat):Int) (IntKind.u64.wrap ((2:Int)^(x%64))) != 0)=false:=by
   rw[ha,hm];simp
  clear ha hw1 hm hwl hpl hpp;go_in;go_wp2;go_ret;have hg:H<=g':=(HS.out.row.get (by omega)).elim fun g h=>h.elim fun c h=>by
   obtain⟨hv,h1,_⟩:=h;injection hv with e1 _ _;injection e1 with e1;injection e1 with e1;omega
  have hpg:p≠g':=fun e=>zM HS.out.row HS.out.blk (by decide) (by rw[e];rfl);have hot:∀(k:Nat) (c:Array Value) (t:TypeId),w.heap[k]? =some (Obj.cells c t)->t≠260->k≠g':=fun k c t hk ht e=>zM HS.out.row hk (Ne.symm ht) (congrArg some e);refine⟨rfl,⟨g',cap,(lJ _ _ _ _ hpg).trans HS.out.blk,?_⟩,⟨rfl,rfl,zC _ _ _,fun k hk=>lJ _ _ _ _ (by show k≠g';omega),fun k c t hk ht=>(lJ _ _ _ _ (hot k c t hk ht)).trans hk⟩⟩;refine Row.congr (HS.out.row.set (x/64) _) fun i _=>?_;rw[HW.out i,HO.out];by_cases e:i=x/64
  ·subst e;simp
  ·simp[e]
theorem zNm:(prog.info? 260).map (fun i=>(i.zero,i.size,i.bytes))=some (some (int .u64 0),1,8):=by kernel_rfl
theorem zMW (i:Nat):wd (fun _=>false) i=0:=by
 apply Nat.eq_of_testBit_eq;intro j;have e:(wd (fun _=>false) i).testBit j=(decide (j<64)&&false):=zAU _ 64 j;rw[e];simp
def vS (n:Nat):Nat:=2^n/64+1
theorem zFQ (w:World)(n:Nat)(hn:n<=24):
  Calls prog 171 #[int i64 n] w fun e w'=>∃p,e=returned (pointer (some ⟨p,0,none⟩))∧w.heap.size<=p∧SeIs w' w.heap.size p (vS n) (fun _=>false)∧Grew w w':=by
 obtain⟨i0,hi0,hz0,hz1,hz2⟩:=info_parts zNm;have hpw:2^n<=2^24:=kG (by omega) hn;have hpw2:=zE2 n (by omega);have HN:Hid (vS n=2^n/64+1):=rfl;obtain⟨w1,hmk,ho1,hg1⟩:=run_makeSlice_full (P:=prog) w w.heap.size 257 260 i0 _ 1 underlying257 hi0 hz0 hz1 i64 i64 (vS n) (by rw[HN.out];omega) (by rw[hz2,HN.out];omega) (by rw[HN.out];unfold maxLen;omega) lQ;have HO1:Hid (Row w1 w.heap.size 260 (slice (some ⟨w.heap.size,0,none⟩) (vS n) (vS n)) (vS n) (fun j=>int .u64 ((wd (fun _=>false) j:Nat):Int))∧Grew w w1):=by
  refine⟨?_,⟨hg1.os,hg1.output,hg1.size,fun k hk _=>hg1.block k hk (by simp)⟩⟩;have h:=ho1;rw[Nat.mul_one,zAh _ rfl] at h;refine Row.congr (f:=fun _=>int .u64 0) h fun i _=>?_;rw[zMW];rfl
 have hsz:w.heap.size<w1.heap.size:=(HO1.out.1.get (by rw[HN.out];exact Nat.succ_pos _)).elim fun g h=>h.elim fun c h=>by
  obtain⟨hv,_,h1,_⟩:=h;injection hv with e1 _ _;injection e1 with e1;injection e1 with e1;omega
 have ecast:((vS n:Nat):Int)=((2^n:Nat):Int)/64+1:=by rw[HN.out];omega
 rw[ecast] at hmk;generalize 2^n=z at *;go_in;go_wp2;go_ret;refine⟨_,rfl,by omega,⟨w.heap.size,vS n,gJ _ _,?_⟩,HO1.out.2.trans (kZ _ _ (by omega))⟩;exact zK HO1.out.1 (kZ _ _ lQ)
end Go.Proofs.YtbjcfkdnjaiclaaGreat
