import Derived.Test.YtbjcfkdnjaiclaaGreatB0
import Derived.Test.YtbjcfkdnjaiclaaGreatB2
/- Parts of the proof. -/
set_option linter.unusedVariables false
set_option linter.unusedSimpArgs false
set_option maxHeartbeats 4000000
set_option maxRecDepth 100000
namespace Go.Proofs.YtbjcfkdnjaiclaaGreat
open Go.RowKit Go.Proofs.Tryz Go.World
theorem zBK (kinds:Nat):zG kinds 0=1:=rfl
theorem zEI (kinds k m:Nat)(hkm:k<=m)(h:zG kinds m<=3000):zG kinds k<=3000:=by
 by_cases e:3000<zG kinds k
 ·rw[zD1 kinds k m e hkm] at h
  omega
 ·omega
theorem zJ6 (kinds k:Nat)(h:zG kinds k<=3000):zG kinds (k+1)=zG kinds k*(kinds+1):=by
 rw[zG];split
 ·rfl
 ·omega
def Tb.aheadF (t:Tb):Nat->Nat->Bool
 |0=>fun _=>false
 |i+1=>t.more (zG t.count i) (t.aheadF i)
theorem Mem.tabN {w:World}{H b:Nat}{c:Tc}{t:Tb}(h:Mem w H b c t)(h3:1<=t.nst)(h4:1<=t.count):TabN w (Mem.blocks w H b) b t:=by
 have hb:=h.tp;obtain⟨rv,n1,n2⟩:=h.next
 have c8:RowsAt w (Mem.blocks w H b) c.next t.nst t.count fun i k=>t.next i k:=by
  obtain⟨g,cap,hv,g1,g2,g3,g4,g5,_⟩:=n1.get h3;exact⟨g,0,cap,.inr ⟨g1,g2⟩,hv,g3,g4,fun i hi=>⟨rv i,by rw[Nat.zero_add];exact g5 i hi,(n2 i hi).intsAt h4⟩⟩
 refine⟨.inl rfl,?_,⟨_,?_,c8⟩,⟨_,?_,h.ends.intsAt h3⟩⟩
 ·unfold xB at hb;simp[World.cell?,hb,h.count]
 ·unfold xB at hb;simp[World.cell?,hb]
 ·unfold xB at hb;simp[World.cell?,hb]
theorem Row.put {w:World}{H p i:Nat}{c:Tc}{x:Value}{e:TypeId}{v:Value}{n:Nat}{f:Nat->Value}(h:Row w H e v n f)(hp:xB w p c)(he:e≠90:=by decide):Row (w.setCell ⟨p,i,none⟩ x) H e v n f:=h.blk fun g _ _ hg=>lJ _ _ _ _ (zGG hp h he hg)
theorem Mem.putAhead {w:World}{H p:Nat}{c:Tc}{t:Tb}(h:Mem w H p c t)(a:Nat):Mem (w.setCell ⟨p,1,none⟩ (.int .i64 a)) H p {c with ahead:=.int .i64 a} {t with ahead:=a}:=by
 obtain⟨rv,n1,n2⟩:=h.next
 have hp:=h.tp;exact⟨h.tp.set_ahead _,h.stream,rfl,h.hold,h.count,h.rows,h.starts.put hp,h.acts.put hp,h.pushed.put hp,h.kinds.put hp,⟨rv,n1.put hp,fun i hi=>(n2 i hi).put hp⟩,h.ends.put hp,h.live.put hp,h.longer.put hp,by simp[World.setCell];exact h.HH⟩
theorem Mem.putRows {w:World}{H p:Nat}{c:Tc}{t:Tb}(h:Mem w H p c t)(a:Nat):Mem (w.setCell ⟨p,11,none⟩ (.int .i64 a)) H p {c with rows:=.int .i64 a} {t with rows:=a}:=by
 obtain⟨rv,n1,n2⟩:=h.next
 have hp:=h.tp;exact⟨h.tp.set_rows _,h.stream,h.ahead,h.hold,h.count,rfl,h.starts.put hp,h.acts.put hp,h.pushed.put hp,h.kinds.put hp,⟨rv,n1.put hp,fun i hi=>(n2 i hi).put hp⟩,h.ends.put hp,h.live.put hp,h.longer.put hp,by simp[World.setCell];exact h.HH⟩
theorem Mem.putLonger {w:World}{H p:Nat}{c:Tc}{t:Tb}(h:Mem w H p c t)(v:Value)(n:Nat)(f:Nat->Nat)(hv:Row w H 5 v n fun i=>.int .u8 (f i:Nat)):Mem (w.setCell ⟨p,12,none⟩ v) H p {c with longer:=v} {t with nlong:=n,long:=f}:=by
 obtain⟨rv,n1,n2⟩:=h.next
 have hp:=h.tp;exact⟨h.tp.set_longer _,h.stream,h.ahead,h.hold,h.count,h.rows,h.starts.put hp,h.acts.put hp,h.pushed.put hp,h.kinds.put hp,⟨rv,n1.put hp,fun i hi=>(n2 i hi).put hp⟩,h.ends.put hp,h.live.put hp,hv.put hp,by simp[World.setCell];exact h.HH⟩
theorem Mem.putStream {w:World}{H p:Nat}{c:Tc}{t:Tb}(h:Mem w H p c t)(a:Bool):Mem (w.setCell ⟨p,0,none⟩ (.bool a)) H p {c with stream:=.bool a} {t with stream:=a}:=by
 obtain⟨rv,n1,n2⟩:=h.next
 have hp:=h.tp;exact⟨h.tp.set_stream _,rfl,h.ahead,h.hold,h.count,h.rows,h.starts.put hp,h.acts.put hp,h.pushed.put hp,h.kinds.put hp,⟨rv,n1.put hp,fun i hi=>(n2 i hi).put hp⟩,h.ends.put hp,h.live.put hp,h.longer.put hp,by simp[World.setCell];exact h.HH⟩
theorem Mem.grown {w w':World}{H b:Nat}{c:Tc}{t:Tb}(h:Mem w H b c t)(hk:Grew w w'):Mem w' H b c t:=by
 have h1:=h.HH;have h2:=h.tp.lt;exact h.keep (hk.block b (by omega) (by omega)) (fun k _ h4=>hk.block k h4 (by omega)) hk.size
theorem TabN.mono {w:World}{S S':Nat->Prop}{p:Nat}{t:Tb}(h:TabN w S p t)(e:∀b,S b->S' b):TabN w S' p t:=by
 have hi:∀{v n f},IntsAt w S v n f->IntsAt w S' v n f:=fun⟨b,o,cap,hb,r⟩=>⟨b,o,cap,e b hb,r⟩
 refine⟨e p h.safe,h.c7,?_,?_⟩
 ·obtain⟨v,a,b,o,cap,hb,e1,e2,e3,e4⟩:=h.c8
  exact⟨v,a,b,o,cap,e b hb,e1,e2,e3,fun i hi'=>(e4 i hi').imp fun u hu=>⟨hu.1,hi hu.2⟩⟩
 ·obtain⟨v,a,b⟩:=h.c9;exact⟨v,a,hi b⟩
def Tb.looking (t:Tb)(a:Nat):Tb:={t with ahead:=a,rows:=zG t.count a,nlong:=(zG t.count a*t.nst+7)/8,long:=xQ (t.aheadF a) (zG t.count a*t.nst)}
theorem zBP (w:World)(H p:Nat)(c:Tc)(t:Tb)(hM:Mem w H p c t)(ok:t.OkN)(hn1:1<=t.nst)(hc1:1<=t.count)(a:Nat)(ha:a<=255)(hw:zG t.count a<=3000):
  Calls prog 66 #[.pointer (some ⟨p,0,none⟩),.int .i64 a] w fun e w'=>e=.returned (.tuple #[])∧∃c',Mem w' H p c' (t.looking a)∧Keep w.heap.size p w w':=by
 obtain⟨i0,hi0,hz0,hz1,hz2⟩:=info_parts qP;have HM:=vl hM;have hpH:=hM.tp.lt;have hHH:=hM.HH;have y1:=hM.tp.get_ahead;have z1:=hM.tp.fz 1;have y7:w.cell? ⟨p,7,none⟩=some (.int .i64 (t.count:Nat)):=by rw[<-hM.count];exact hM.tp.get_count
 have hcb:=ok.count;have hnb:=ok.nst;rw[HM.out.ahead] at y1;go_in;apply wp_cut;intro K0 J;go_wp2;apply J.out;obtain⟨w1,hw1,M1⟩:∃w1,w1=w.setCell ⟨p,1,none⟩ (.int .i64 (a:Nat))∧Hid (Mem w1 H p {c with ahead:=.int .i64 a} {t with ahead:=a}∧Keep w.heap.size p w w1):=⟨_,rfl,HM.out.putAhead a,Keep.set _ _ _⟩
 rw[<-hw1];clear hw1 y1 z1 y7;apply wp_cut;intro K1 HK1;have y7:w1.cell? ⟨p,7,none⟩=some (.int .i64 (t.count:Nat)):=by have h:=M1.out.1.tp.get_count;rw[M1.out.1.count] at h;exact h
 have y11:w1.cell? ⟨p,11,none⟩=some (.int .i64 (t.rows:Nat)):=by have h:=M1.out.1.tp.get_rows;rw[M1.out.1.rows] at h;exact h
 have z11:=M1.out.1.tp.fz 11;go_wp2_with fail;refine(zEW t.count a _ hcb ha).mono ?_;rintro e w1' ⟨rfl,rfl⟩;go_wp2;apply HK1.out;obtain⟨w2,hw2,M2⟩:∃w2,w2=w1'.setCell ⟨p,11,none⟩ (.int .i64 (zG t.count a:Nat))∧Hid (Mem w2 H p {c with ahead:=.int .i64 a,rows:=.int .i64 (zG t.count a:Nat)} {t with ahead:=a,rows:=zG t.count a}∧Keep w.heap.size p w w2):=⟨_,rfl,M1.out.1.putRows _,M1.out.2.trans (Keep.set _ _ _)⟩
 rw[<-hw2];clear hw2 y7 y11 z11 M1;refine wp_seq_k ?_;intro K2 hK2;have HK2:Hid (∀a w,_->K2 a w):=hK2;clear hK2;obtain⟨rv,hnx,_⟩:=M2.out.1.next
 obtain⟨g8,c8,hv8,_⟩:=hnx.get hn1;have y8:w2.cell? ⟨p,8,none⟩=some (.slice (some ⟨g8,0,none⟩) t.nst c8):=by rw[<-show c.next=_ from hv8];exact M2.out.1.tp.get_next
 have hsz2:H<=w2.heap.size:=M2.out.1.HH;obtain⟨w3,hmk,ho3,hg3⟩:=run_makeSlice_full (P:=prog) w2 w2.heap.size 28 4 i0 _ 1 underlying28 hi0 hz0 hz1 .i64 .i64 t.nst (by omega) (by rw[hz2];omega) (by unfold maxLen;omega) lQ;have HO3:Hid (OwnF w3 w2.heap.size (.slice (some ⟨w2.heap.size,0,none⟩) t.nst t.nst) (zG t.count 0*t.nst) (t.aheadF 0)∧Grew w2 w3):=by
  refine⟨?_,⟨hg3.os,hg3.output,hg3.size,fun k hk _=>hg3.block k hk (by simp)⟩⟩;have h:=ho3;rw[Nat.mul_one,zAd _ rfl] at h;rw[zBK,Nat.one_mul];exact h
 clear hnx hv8 ho3 hg3;go_wp2_with fail;apply HK2.out;clear HK2 hmk y8;refine wp_seq_k ?_;intro K3 hK3;have HK3:Hid (∀a w,_->K3 a w):=hK3;clear hK3;have OKN:Hid t.OkN:=ok;have HW:Hid (zG t.count a<=3000):=hw;clear ok hw;go_wp2_with fail;go_loopg [4,5] a (fun q lst i wr=>∃j:Nat,q=a-j∧j<=a∧i=.int .i64 (j:Int)∧OwnF wr w2.heap.size lst (zG t.count j*t.nst) (t.aheadF j)∧Grew w2 wr)
 case atStart=>exact⟨0,rfl,lX,rfl,HO3.out.1,HO3.out.2⟩
 case round=>
  obtain⟨j,hgk,hj,rfl,ho,hkp⟩:=hrel;have HA:Hid (gk=a-j∧OwnF wr w2.heap.size u4 (zG t.count j*t.nst) (t.aheadF j)∧Grew w2 wr):=⟨hgk,ho,hkp⟩
  have hwj:=zEI t.count j a hj HW.out;have hwp:=zLg t.count j;have hNp:1<=zG t.count j*t.nst:=Nat.mul_pos hwp hn1;have hNb:zG t.count j*t.nst<=600000:=lY (Nat.mul_le_mul hwj hnb) (by decide);have hTN:TabN wr (fun k=>k<wr.heap.size) p t:=by
   have h:=(M2.out.1.grown hkp).tabN hn1 hc1;have hs:=hkp.size;refine TabN.mono (S:=Mem.blocks wr H p) ⟨h.safe,h.c7,h.c8,h.c9⟩ fun k hk=>?_;rcases hk with hk|hk
   ·rw[hk];exact(M2.out.1.grown hkp).tp.lt
   ·exact hk.2
  obtain⟨g,cp,hv,g1,g2,g3,g4,g5,g6⟩:=Row.get ho hNp;subst hv;by_cases hj2:j<a
  ·have i1:(j:Int)<(a:Int):=by omega
   have hsucc:=zJ6 t.count j hwj;have hwj1:=zEI t.count (j+1) a hj2 HW.out;have hmul:(t.count+1)*(zG t.count j*t.nst)=zG t.count (j+1)*t.nst:=by
    rw[hsucc,<-Nat.mul_assoc,Nat.mul_comm (t.count+1)]
   have hbig:(t.count+1)*(zG t.count j*t.nst)<=800000:=by
    rw[hmul];exact lY (Nat.mul_le_mul hwj1 hnb) (by decide)
   have HC:=zCZ p wr (fun k=>k<wr.heap.size) t hTN (fun k h=>h) OKN.out hn1 (zG t.count j) hwp (t.aheadF j) g 0 cp g2 (fun i hi=>by rw[Nat.zero_add];exact g5 i hi) g3 g4 hbig;rw[hmul] at HC;have HC2:Hid (Calls prog 102 #[.pointer (some ⟨p,0,none⟩),.slice (some ⟨g,0,none⟩) (zG t.count j*t.nst) cp] wr fun e w'=>∃u,e=.returned u∧OwnF w' wr.heap.size u (zG t.count (j+1)*t.nst) (t.aheadF (j+1))∧Grew wr w'):=HC;clear HC hgk ho hkp g5 g6 hTN hsucc hmul hbig;generalize hNN:zG t.count j*t.nst=N at *;clear hNN;go_wp2_with fail;refine HC2.out.mono ?_;rintro e w4 ⟨u,rfl,ho4,hk4⟩;have O4:Hid (OwnF w4 w2.heap.size u (zG t.count (j+1)*t.nst) (t.aheadF (j+1))∧Grew w2 w4):=⟨qX ho4 HA.out.2.2.size,HA.out.2.2.trans (hk4.lower HA.out.2.2.size HA.out.2.2.size)⟩
   clear ho4 hk4;go_wp2_with fail;go_roundg (a-(j+1))
   case measure=>rw[HA.out.1];omega
   case rel=>exact⟨j+1,rfl,by omega,by go_num,O4.out.1,O4.out.2⟩
  ·have hja:j=a:=by omega
   have i1:(a:Int)<=(j:Int):=by omega
   have HP:Hid (Calls prog 103 #[.slice (some ⟨g,0,none⟩) (zG t.count j*t.nst) cp] wr fun e w'=>∃u,e=.returned u∧Row w' wr.heap.size 5 u ((zG t.count a*t.nst+7)/8) (fun k=>.int .u8 (xQ (t.aheadF a) (zG t.count a*t.nst) k:Nat))∧Grew wr w'):=by
    have h:=zGR wr g 0 cp (zG t.count j*t.nst) (t.aheadF j) (fun i hi=>by rw[Nat.zero_add];exact g5 i hi) g2 hNp (by omega);rw[hja] at h ⊢;exact h
   have MR:Hid (Mem wr H p {c with ahead:=.int .i64 a,rows:=.int .i64 (zG t.count a:Nat)} {t with ahead:=a,rows:=zG t.count a}∧Keep w.heap.size p w wr):=⟨M2.out.1.grown hkp,M2.out.2.trans (hkp.lower M2.out.2.size M2.out.2.size)⟩
   clear hgk ho hkp g5 g6 hTN;generalize zG t.count j*t.nst=N at *;go_wp2_with fail;apply HK3.out;clear HK3;have y12:=MR.out.1.tp.get_longer;have z12:=MR.out.1.tp.fz 12;go_wp2_with fail;refine HP.out.mono ?_;rintro e w5 ⟨u,rfl,hr5,hk5⟩;obtain⟨au,cu,hu⟩:=zE hr5;have M5:Hid (Mem w5 H p {c with ahead:=.int .i64 a,rows:=.int .i64 (zG t.count a:Nat)} {t with ahead:=a,rows:=zG t.count a}∧Keep w.heap.size p w w5∧Row w5 H 5 u ((zG t.count a*t.nst+7)/8) (fun k=>.int .u8 (xQ (t.aheadF a) (zG t.count a*t.nst) k:Nat))):=⟨MR.out.1.grown hk5,MR.out.2.trans (hk5.lower MR.out.2.size MR.out.2.size),hr5.mono MR.out.1.HH⟩
   have y12':w5.cell? ⟨p,12,none⟩=some c.longer:=M5.out.1.tp.get_longer;have z12':=M5.out.1.tp.fz 12;subst hu;clear hr5 hk5 y12 z12;go_wp2_with fail;go_end0;exact⟨rfl,_,M5.out.1.putLonger _ _ _ M5.out.2.2,M5.out.2.1.trans (Keep.set _ _ _)⟩
structure Laid where
 starts:List Int
 ends:List Int
 next:List (List Int)
 rules:Nat
def zS (kinds:List Int)(ms:List Sm):Nat->Laid
 |0=>⟨[],[],[],0⟩
 |j+1=>⟨(zS kinds ms j).starts++[((zS kinds ms j).next.length:Int)+(ms.getD j ⟨[],[],0,[]⟩).start],(zS kinds ms j).ends++(ms.getD j ⟨[],[],0,[]⟩).rules.map (yP (zS kinds ms j).rules),(zS kinds ms j).next++(ms.getD j ⟨[],[],0,[]⟩).next.map (fun row=>zT kinds row (zS kinds ms j).next.length 256),(zS kinds ms j).rules+(ms.getD j ⟨[],[],0,[]⟩).empty.length⟩
def zO (ms:List Sm):Nat->Nat
 |0=>0
 |j+1=>zO ms j+(ms.getD j ⟨[],[],0,[]⟩).next.length
def zQ (ms:List Sm):Nat->Nat
 |0=>0
 |j+1=>zQ ms j+(ms.getD j ⟨[],[],0,[]⟩).empty.length
theorem qJ (ms:List Sm)(i j:Nat)(h:i<=j):zO ms i<=zO ms j:=by
 induction j with
 |zero=>rw[show i=0 by omega];exact lQ
 |succ j ih=>
  by_cases e:i=j+1
  ·rw[e];exact lQ
  ·have:=ih (by omega)
   rw[zO];omega
theorem zBn (ms:List Sm)(i j:Nat)(h:i<=j):zQ ms i<=zQ ms j:=by
 induction j with
 |zero=>rw[show i=0 by omega];exact lQ
 |succ j ih=>
  by_cases e:i=j+1
  ·rw[e];exact lQ
  ·have:=ih (by omega)
   rw[zQ];omega
structure ModesOk (ms:List Sm):Prop where
 one:1<=ms.length
 three:ms.length<=3
 states1:∀i (hi:i<ms.length),1<=ms[i].next.length
 wide:∀i (hi:i<ms.length),∀row∈ms[i].next,row.length=256∧∀b,b<256->0<=row.getD b 0∧row.getD b 0<ms[i].next.length
 rules:∀i (hi:i<ms.length),ms[i].rules.length=ms[i].next.length∧∀r∈ms[i].rules,-1<=r∧r<ms[i].empty.length
 start:∀i (hi:i<ms.length),0<=ms[i].start∧ms[i].start<ms[i].next.length
 states:zO ms ms.length<=200
 rules1:1<=zQ ms ms.length
 rules8:zQ ms ms.length<=8
theorem zAI (kinds:List Int)(ms:List Sm)(h:ModesOk ms)(j:Nat)(hj:j<=ms.length):(zS kinds ms j).starts.length=j∧(zS kinds ms j).next.length=zO ms j∧(zS kinds ms j).ends.length=zO ms j∧(zS kinds ms j).rules=zQ ms j:=by
 induction j with
 |zero=>exact⟨rfl,rfl,rfl,rfl⟩
 |succ j ih=>
  obtain⟨a,b,c,d⟩:=ih (by omega);have hj2:j<ms.length:=by omega
  have e:ms.getD j ⟨[],[],0,[]⟩=ms[j]:=by rw[lW,lV hj2];rfl
  rw[zS,zO,zQ,e];refine⟨by simp[a],by simp[b],?_,by simp[d]⟩;simp[c,(h.rules j hj2).1]
theorem zFX (ms:List Sm)(b n i:Nat)(hb:b<=n)(hi:i<b):(zB ms n).1.getD i 0=(zB ms b).1.getD i 0:=by
 induction n with
 |zero=>omega
 |succ n ih=>
  by_cases e:b=n+1
  ·rw[e]
  ·rw[<-ih (by omega)]
   have hl:=(vA ms n).1;rw[zB];split <;> (rw [lW,kW (by omega),<-lW])
theorem zDO (ms:List Sm)(b i:Nat)(hi:i<b):0<=(zB ms b).1.getD i 0∧(zB ms b).1.getD i 0<(zB ms b).2:=by
 induction b generalizing i with
 |zero=>omega
 |succ b ih=>
  have hl:=(vA ms b).1;have hf:=zGp ms b;rw[zB];split
  ·rename_i hlt
   by_cases e:i=b
   ·subst e
    rw[lW,gX (by omega),hl];simp only[Nat.sub_self,List.getElem?_cons_zero,Option.getD_some];exact ih _ hlt
   ·rw[lW,kW (by omega),<-lW]
    exact ih i (by omega)
  ·by_cases e:i=b
   ·subst e
    rw[lW,gX (by omega),hl];simp only[Nat.sub_self,List.getElem?_cons_zero,Option.getD_some];omega
   ·rw[lW,kW (by omega),<-lW]
    have:=ih i (by omega);show _∧_<(((zB ms b).2+1:Nat):Int);omega
theorem zGl (ms:List Sm)(b n:Nat)(hb:b<n):((zB ms n).1.getD b 0=((zB ms b).2:Int)↔¬vX ms b<b)∧(zB ms (b+1)).2=if vX ms b<b then(zB ms b).2 else(zB ms b).2+1:=by
 rw[zFX ms (b+1) n b hb (by omega)];have hl:=(vA ms b).1;rw[zB];split
 ·rename_i hlt
  refine⟨?_,rfl⟩;rw[lW,gX (by omega),hl];simp only[Nat.sub_self,List.getElem?_cons_zero,Option.getD_some];have:=zDO ms b (vX ms b) hlt
  constructor
  ·intro e;omega
  ·intro e;exact absurd hlt e
 ·rename_i hlt
  refine⟨?_,rfl⟩;rw[lW,gX (by omega),hl];simp only[Nat.sub_self,List.getElem?_cons_zero,Option.getD_some];exact⟨fun _=>hlt,fun _=>trivial⟩
theorem zF2 (ms:List Sm)(row:List Int)(first:Int)(n b:Nat)(hb:b<=n):(zT (zB ms n).1 row first b).length=(zB ms b).2:=by
 induction b with
 |zero=>rfl
 |succ b ih=>
  obtain⟨h1,h2⟩:=zGl ms b n (by omega);have ih:=ih (by omega);rw[zT,h2];by_cases hlt:vX ms b<b
  ·rw[if_neg (by rw[ih];intro e;exact(h1.1 e) hlt),if_pos hlt,ih]
  ·rw[if_pos (by rw[ih];exact h1.2 hlt),if_neg hlt,kX,ih]
   rfl
theorem zIr (kinds row:List Int)(first:Int)(P:Int->Prop)(b:Nat)(h:∀i,i<b->P (first+row.getD i 0)):∀x∈zT kinds row first b,P x:=by
 induction b with
 |zero=>intro x hx;simp[zT] at hx
 |succ b ih=>
  intro x hx;rw[zT] at hx;split at hx
  ·rcases kU.1 hx with hx|hx
   ·exact ih (fun i hi=>h i (by omega)) x hx
   ·rw[kY.1 hx];exact h b (by omega)
  ·exact ih (fun i hi=>h i (by omega)) x hx
theorem zCN (ms:List Sm)(b:Nat)(hb:1<=b):1<=(zB ms b).2:=by
 induction b with
 |zero=>omega
 |succ b ih=>
  rw[(zGl ms b (b+1) (by omega)).2];by_cases e:b=0
  ·subst e;simp
  ·have:=ih (by omega)
   split <;> omega
theorem zB0 (ms:List Sm)(h:ModesOk ms)(j:Nat)(hj:j<=ms.length):
  (∀x∈(zS (zB ms 256).1 ms j).starts,0<=x∧x<zO ms j)∧
  (∀x∈(zS (zB ms 256).1 ms j).ends,-1<=x∧x<zQ ms j)∧
  (∀r∈(zS (zB ms 256).1 ms j).next,r.length=(zB ms 256).2∧∀x∈r,0<=x∧x<zO ms j):=by
 induction j with
 |zero=>exact⟨fun x hx=>by simp[zS] at hx,fun x hx=>by simp[zS] at hx,fun x hx=>by simp[zS] at hx⟩
 |succ j ih=>
  obtain⟨a,b,c⟩:=ih (by omega);obtain⟨s1,s2,s3,s4⟩:=zAI (zB ms 256).1 ms h j (by omega);have hj2:j<ms.length:=by omega
  have e:ms.getD j ⟨[],[],0,[]⟩=ms[j]:=by rw[lW,lV hj2];rfl
  have hs:=h.start j hj2;rw[zS,zO,zQ,e];refine⟨fun x hx=>?_,fun x hx=>?_,fun r hr=>?_⟩
  ·rcases kU.1 hx with hx|hx
   ·have:=a x hx;omega
   ·rw[kY.1 hx,s2];omega
  ·rcases kU.1 hx with hx|hx
   ·have:=b x hx;omega
   ·obtain⟨y,hy,rfl⟩:=List.mem_map.1 hx
    have:=(h.rules j hj2).2 y hy;unfold yP;rw[s4];split <;> omega
  ·rcases kU.1 hr with hr|hr
   ·refine⟨(c r hr).1,fun x hx=>?_⟩
    have:=(c r hr).2 x hx;omega
   ·obtain⟨row,hrow,rfl⟩:=List.mem_map.1 hr
    obtain⟨w1,w2⟩:=h.wide j hj2 row hrow;refine⟨zF2 ms row _ 256 256 lQ,zIr _ _ _ _ 256 fun i hi=>?_⟩;have:=w2 i hi;rw[s2];omega
def xL (ms:List Sm)(acts pushed:List Int)(hold:Nat):Tb where
 stream:=false
 ahead:=0
 hold:=hold
 count:=(zB ms 256).2
 rows:=0
 nst:=zO ms ms.length
 nmode:=ms.length
 nrule:=acts.length
 nlong:=0
 start:=fun i=>((zS (zB ms 256).1 ms ms.length).starts.getD i 0).toNat
 act:=fun i=>(acts.getD i 0).toNat
 push:=fun i=>(pushed.getD i 0).toNat
 kind:=fun b=>((zB ms 256).1.getD b 0).toNat
 next:=fun s k=>(((zS (zB ms 256).1 ms ms.length).next.getD s []).getD k 0).toNat
 ends:=fun s=>(zS (zB ms 256).1 ms ms.length).ends.getD s 0
 live:=fun _=>false
 long:=fun _=>0
theorem zR {α:Type}(l:List α)(i:Nat)(d:α)(h:i<l.length):l.getD i d∈l:=by
 rw[lW,lV h];exact List.getElem_mem h
theorem zCE (ms:List Sm)(acts pushed:List Int)(hold:Nat)(h:ModesOk ms)(ha:acts.length=zQ ms ms.length):(xL ms acts pushed hold).OkN:=by
 obtain⟨s1,s2,s3,s4⟩:=zAI (zB ms 256).1 ms h ms.length lQ;obtain⟨b1,b2,b3⟩:=zB0 ms h ms.length lQ;refine⟨(vA ms 256).2,h.states,fun s k hs hk=>?_,fun s hs=>?_⟩
 ·have hs':s<zO ms ms.length:=hs
  have hk':k<(zB ms 256).2:=hk;have hr:=b3 _ (zR _ s [] (by omega));have hx:=hr.2 _ (zR _ k 0 (by omega));show(((zS (zB ms 256).1 ms ms.length).next.getD s []).getD k 0).toNat<zO ms ms.length;omega
 ·have hs':s<zO ms ms.length:=hs
  have hx:=b2 _ (zR _ s 0 (by omega));show -1<=(zS (zB ms 256).1 ms ms.length).ends.getD s 0∧(zS (zB ms 256).1 ms ms.length).ends.getD s 0<(acts.length:Int);rw[ha];exact hx
theorem OwnI.row {w:World}{H:Nat}{v:Value}{l:List Int}(h:OwnI w H v l)(n:Nat)(hn:l.length=n)(f:Nat->Int)(hf:∀i,i<n->l.getD i 0=f i):Row w H 3 v n fun i=>.int .i64 (f i):=by
 unfold Row;subst hn;have e:(List.range l.length).map (fun i=>Value.int .i64 (f i))=l.map fun x=>.int .i64 x:=by
  apply List.ext_getElem?;intro i;rw[gJ,gJ];by_cases hi:i<l.length
  ·rw[List.getElem?_range hi,lV hi]
   simp only[Option.map_some];rw[<-hf i hi,lW,lV hi];rfl
  ·rw[List.getElem?_eq_none (by simpa using hi),List.getElem?_eq_none (by omega)]
   rfl
 rw[e];exact h
theorem Gt.memB {w:World}{H p:Nat}{c:Tc}{ms:List Sm}{acts pushed:List Int}{hold:Nat}(h:Gt w H p c (zB ms 256).1 acts pushed (zS (zB ms 256).1 ms ms.length).starts (zS (zB ms 256).1 ms ms.length).ends (zS (zB ms 256).1 ms ms.length).next)(hok:ModesOk ms)
  (ha:∀i,i<acts.length->0<=acts.getD i 0) (hpl:pushed.length=acts.length) (hp:∀i,i<pushed.length->0<=pushed.getD i 0)
  (c0:c.stream=.bool false) (c1:c.ahead=.int .i64 (0:Nat)) (c2:c.hold=.int .i64 (hold:Nat)) (c7:c.count=.int .i64 ((zB ms 256).2:Nat)) (c11:c.rows=.int .i64 (0:Nat)) (c12:c.longer=.slice none 0 0):MemB w H p c (xL ms acts pushed hold):=by
 obtain⟨s1,s2,s3,s4⟩:=zAI (zB ms 256).1 ms hok ms.length lQ;obtain⟨b1,b2,b3⟩:=zB0 ms hok ms.length lQ;obtain⟨rv,n1,n2⟩:=h.next
 refine⟨h.tp,c0,c1,c2,c7,c11,h.starts.row _ s1 _ fun i hi=>?_,h.acts.1.row _ rfl _ fun i hi=>?_,h.pushed.1.row _ hpl _ fun i hi=>?_,h.kinds.1.row _ (vA ms 256).1 _ fun i hi=>?_,⟨rv,?_,fun i hi=>(n2 i (by rw[s2];exact hi)).1.row _ ?_ _ fun k hk=>?_⟩,h.ends.row _ s3 _ fun i hi=>rfl,?_,h.HH⟩
 ·have:=b1 _ (zR _ i 0 (by omega))
  show _=(((zS (zB ms 256).1 ms ms.length).starts.getD i 0).toNat:Int);omega
 ·have:=ha i hi
  show _=((acts.getD i 0).toNat:Int);omega
 ·have hi':i<acts.length:=hi
  have:=hp i (by omega);show _=((pushed.getD i 0).toNat:Int);omega
 ·have:=zDO ms 256 i hi
  show _=(((zB ms 256).1.getD i 0).toNat:Int);omega
 ·have h:=n1
  rw[s2] at h;exact h
 ·exact(b3 _ (zR _ i [] (by rw[s2];exact hi))).1
 ·have hi':i<zO ms ms.length:=hi
  have hr:=b3 _ (zR _ i [] (by omega));have hk':k<(zB ms 256).2:=hk;have hx:=hr.2 _ (zR _ k 0 (by omega));show _=((((zS (zB ms 256).1 ms ms.length).next.getD i []).getD k 0).toNat:Int);omega
 ·rw[c12]
  exact ownsRow_nil _ _ _ _
def zAy (ms:List Sm)(acts pushed:List Int)(hold n:Nat):Tb:=(((xL ms acts pushed hold).first.itr n)).looking 0
theorem ModesOk.fit {ms:List Sm}(h:ModesOk ms)(i:Nat)(hi:i<ms.length):ms[i].Fit∧ms[i].next.length<=200:=by
 have h1:=qJ ms (i+1) ms.length hi;have h2:=h.states;have e:ms.getD i ⟨[],[],0,[]⟩=ms[i]:=by rw[lW,lV hi];rfl
 rw[zO,e] at h1;have h3:=zBn ms (i+1) ms.length hi;have h4:=h.rules8;rw[zQ,e] at h3;have h5:=h.start i hi;refine⟨⟨fun j hj=>?_,fun j hj=>?_,h5.1,by omega⟩,by omega⟩
 ·obtain⟨w1,w2⟩:=h.wide i hi _ (zR ms[i].next j [] hj)
  exact⟨w1,fun b hb=>by have:=w2 b hb;omega⟩
 ·have:=(h.rules i hi).2 _ (zR ms[i].rules j 0 hj)
  omega
def Made (w w':World)(e:Ending)(ms:List Sm)(acts pushed:List Int)(hold:Nat):Prop:=
 ∃p H c n,e=.returned (.pointer (some ⟨p,0,none⟩))∧w.heap.size<=p∧w.heap.size<=H∧Mem w' H p c (zAy ms acts pushed hold n)∧(((xL ms acts pushed hold).first.itr n).spreadTo (zO ms ms.length)).2=false∧Grew w w'
theorem zNM (w0 w:World)(p:Nat)(c:Tc)(ms:List Sm)(acts pushed:List Int)(hold:Nat)(hG:Gt w w0.heap.size p c (zB ms 256).1 acts pushed (zS (zB ms 256).1 ms ms.length).starts (zS (zB ms 256).1 ms ms.length).ends (zS (zB ms 256).1 ms ms.length).next)(hok:ModesOk ms)(hp0:w0.heap.size<=p)
  (hal:acts.length=zQ ms ms.length) (ha:∀i,i<acts.length->0<=acts.getD i 0) (hpl:pushed.length=acts.length) (hp:∀i,i<pushed.length->0<=pushed.getD i 0)
  (c0:c.stream=.bool false) (c1:c.ahead=.int .i64 (0:Nat)) (c2:c.hold=.int .i64 (hold:Nat)) (c7:c.count=.int .i64 ((zB ms 256).2:Nat)) (c10:c.live=.slice none 0 0) (c11:c.rows=.int .i64 (0:Nat)) (c12:c.longer=.slice none 0 0) (hK:Keep w0.heap.size p w0 w)
  {u0 u1 u2 u3 u4 u5 u6 u7 u8 u9 u10 u12 u13 u14 u15 u16 u17 u18 u19 u20 u21 u22 u23 u24 u25 u26 u27 u28 u29 u30 u31 u32 u33 u34 u35 u36 u37 u38 u39 u40 u41 u42 u43 u44 u45 u46 u47 u48 u49 u50 u51 u52 u53 u54 u55 u56 u57 u58 u59 u60 u61 u62 u63 u64:Value}:
  Code.wp prog (yQ 7 ((f45.body).getD .skip)) (bodyPost prog f45 fun e w'=>Made w0 w' e ms acts pushed hold)
   ⟨(u0::u1::u2::u3::u4::u5::u6::u7::u8::u9::u10:: .pointer (some ⟨p,0,none⟩)::u12::u13::u14::u15::u16::u17::u18::u19::u20::u21::u22::u23::u24::u25::u26::u27::u28::u29::u30::u31::u32::u33::u34::u35::u36::u37::u38::u39::u40::u41::u42::u43::u44::u45::u46::u47::u48::u49::u50::u51::u52::u53::u54::u55::u56::u57::u58::u59::u60::u61::u62::u63::u64::[]).toArray,[]⟩ w:=by
 conv=>arg 2;whnf
 have hokN:=zCE ms acts pushed hold hok hal;have hn1:1<=(xL ms acts pushed hold).nst:=by
  have h1:=qJ ms 1 ms.length hok.one;have h2:=hok.states1 0 hok.one;have e:ms.getD 0 ⟨[],[],0,[]⟩=ms[0]'hok.one:=by rw[lW,lV hok.one];rfl
  have h3:zO ms 1=0+(ms.getD 0 ⟨[],[],0,[]⟩).next.length:=rfl
  rw[e] at h3;show 1<=zO ms ms.length;omega
 have hc1:1<=(xL ms acts pushed hold).count:=zCN ms 256 (by decide);have HF:Hid (Calls prog 65 #[.pointer (some ⟨p,0,none⟩)] w fun e w'=>e=.returned (.tuple #[])∧∃v n,Mem w' w0.heap.size p {c with live:=v} ((xL ms acts pushed hold).first.itr n)∧(((xL ms acts pushed hold).first.itr n).spreadTo (xL ms acts pushed hold).nst).2=false∧Keep w0.heap.size p w w'):=
  zFp w w0.heap.size p c (xL ms acts pushed hold) (hG.memB hok ha hpl hp c0 c1 c2 c7 c11 c12) c10 hokN hn1 hc1
 have HKP:Hid (Keep w0.heap.size p w0 w):=hK;have HOK:Hid ((xL ms acts pushed hold).OkN):=hokN;clear hG hok hal ha hpl hp c0 c1 c2 c7 c10 c11 c12 hK hokN;go_wp2_with fail;refine HF.out.mono ?_;rintro e w1 ⟨rfl,v,n,hM1,hsp,hk1⟩;have A1:Hid (Mem w1 w0.heap.size p {c with live:=v} ((xL ms acts pushed hold).first.itr n)∧(((xL ms acts pushed hold).first.itr n).spreadTo (xL ms acts pushed hold).nst).2=false∧Keep w0.heap.size p w0 w1):=⟨hM1,hsp,HKP.out.trans hk1⟩
 clear hM1 hsp hk1 HF;have HS:Hid (Calls prog 66 #[.pointer (some ⟨p,0,none⟩),.int .i64 (0:Nat)] w1 fun e w'=>e=.returned (.tuple #[])∧∃c',Mem w' w0.heap.size p c' (((xL ms acts pushed hold).first.itr n).looking 0)∧Keep w0.heap.size p w1 w'):=
  (zBP w1 w0.heap.size p _ _ A1.out.1 (zJf (t:=(xL ms acts pushed hold).first) (HOK.out.withLive _) n) (by rw[zG2];exact hn1) (by rw[zA8];exact hc1) 0 (by decide) (by rw[zBK];decide)).mono (by
   rintro e w' ⟨h1,c',h2,h3⟩;exact⟨h1,c',h2,⟨h3.os,h3.output,h3.size,fun k k1 k2=>h3.block k (lZ k1 A1.out.1.HH) k2⟩⟩)
 go_wp2_with fail;refine HS.out.mono ?_;rintro e w2 ⟨rfl,c',hM2,hk2⟩;have A2:Hid (Mem w2 w0.heap.size p c' (((xL ms acts pushed hold).first.itr n).looking 0)∧Keep w0.heap.size p w0 w2):=⟨hM2,A1.out.2.2.trans hk2⟩
 clear hM2 hk2 HS;go_wp2_with fail;go_ret;exact⟨p,w0.heap.size,c',n,rfl,hp0,lQ,A2.out.1,A1.out.2.1,A2.out.2.lower lQ hp0⟩
theorem zNN (w0 w:World)(S:Nat->Prop)(p:Nat)(c:Tc)(ms:List Sm)(acts pushed:List Int)(hold:Nat)(mv:Value)(hM:ModesAt w0 S mv ms)(hS:∀k,S k->k<w0.heap.size)(hG:Gt w w0.heap.size p c (zB ms 256).1 acts pushed [] [] [])(hok:ModesOk ms)(hp0:w0.heap.size<=p)
  (hal:acts.length=zQ ms ms.length) (ha:∀i,i<acts.length->0<=acts.getD i 0) (hpl:pushed.length=acts.length) (hp:∀i,i<pushed.length->0<=pushed.getD i 0)
  (c0:c.stream=.bool false) (c1:c.ahead=.int .i64 (0:Nat)) (c2:c.hold=.int .i64 (hold:Nat)) (c7:c.count=.int .i64 ((zB ms 256).2:Nat)) (c10:c.live=.slice none 0 0) (c11:c.rows=.int .i64 (0:Nat)) (c12:c.longer=.slice none 0 0) (hK:Keep w0.heap.size p w0 w)
  {u1 u2 u3 u4 u5 u6 u7 u8 u9 u10 u12 u13 u14 u15 u16 u17 u18 u19 u20 u21 u22 u23 u24 u25 u26 u27 u28 u29 u30 u31 u32 u33 u34 u35 u36 u37 u38 u39 u40 u41 u42 u43 u44 u45 u46 u47 u48 u49 u50 u51 u52 u53 u54 u55 u56 u57 u58 u59 u60 u61 u62 u63 u64:Value}:
  Code.wp prog (yQ 5 ((f45.body).getD .skip)) (bodyPost prog f45 fun e w'=>Made w0 w' e ms acts pushed hold)
   ⟨(mv::u1::u2::u3::u4::u5::u6::u7::u8::u9::u10:: .pointer (some ⟨p,0,none⟩)::u12::u13::u14::u15::u16::u17::u18::u19::u20::u21::u22::u23::u24::u25::u26::u27::u28::u29::u30::u31::u32::u33::u34::u35::u36::u37::u38::u39::u40::u41::u42::u43::u44::u45::u46::u47::u48::u49::u50::u51::u52::u53::u54::u55::u56::u57::u58::u59::u60::u61::u62::u63::u64::[]).toArray,[]⟩ w:=by
 conv=>arg 2;whnf
 obtain⟨ma,mc,rfl,hmc,hmm,hcell⟩:=hM;have HC:Hid (∀i (hi:i<ms.length),∃b o u0 u1 u3,ma=some ⟨b,o,none⟩∧S b∧w0.cell? ⟨b,o+i*4,none⟩=some u0∧w0.cell? ⟨b,o+i*4+1,none⟩=some u1∧w0.cell? ⟨b,o+i*4+2,none⟩=some (.int .i64 ms[i].start)∧w0.cell? ⟨b,o+i*4+3,none⟩=some u3∧IntRows w0 S u0 ms[i].next∧Ints w0 S u1 ms[i].rules∧Bools w0 S u3 ms[i].empty):=hcell;have HG:Hid (Gt w w0.heap.size p c (zB ms 256).1 acts pushed [] [] []∧Keep w0.heap.size p w0 w):=⟨hG,hK⟩
 have HL:Hid (∀(c':Tc) (w':World),Gt w' w0.heap.size p c' (zB ms 256).1 acts pushed (zS (zB ms 256).1 ms ms.length).starts (zS (zB ms 256).1 ms ms.length).ends (zS (zB ms 256).1 ms ms.length).next->Keep w0.heap.size p w0 w'->c'={c with starts:=c'.starts,next:=c'.next,ends:=c'.ends}->∀{u0 u1 u2 u3 u4 u5 u6 u7 u8 u9 u10 u12 u13 u14 u15 u16 u17 u18 u19 u20 u21 u22 u23 u24 u25 u26 u27 u28 u29 u30 u31 u32 u33 u34 u35 u36 u37 u38 u39 u40 u41 u42 u43 u44 u45 u46 u47 u48 u49 u50 u51 u52 u53 u54 u55 u56 u57 u58 u59 u60 u61 u62 u63 u64:Value},Code.wp prog (yQ 7 ((f45.body).getD .skip)) (bodyPost prog f45 fun e w'=>Made w0 w' e ms acts pushed hold) ⟨(u0::u1::u2::u3::u4::u5::u6::u7::u8::u9::u10:: .pointer (some ⟨p,0,none⟩)::u12::u13::u14::u15::u16::u17::u18::u19::u20::u21::u22::u23::u24::u25::u26::u27::u28::u29::u30::u31::u32::u33::u34::u35::u36::u37::u38::u39::u40::u41::u42::u43::u44::u45::u46::u47::u48::u49::u50::u51::u52::u53::u54::u55::u56::u57::u58::u59::u60::u61::u62::u63::u64::[]).toArray,[]⟩ w'):=by
  intro c' w' hg hk hc;intros
  exact zNM w0 w' p c' ms acts pushed hold hg hok hp0 hal ha hpl hp (by rw[hc];exact c0) (by rw[hc];exact c1) (by rw[hc];exact c2) (by rw[hc];exact c7) (by rw[hc];exact c10) (by rw[hc];exact c11) (by rw[hc];exact c12) hk
 have HOK:Hid (ModesOk ms):=hok;have h3:=hok.three;clear hcell hG hK hok hal ha hpl hp c0 c1 c2 c7 c10 c11 c12;refine wp_seq_k ?_;intro K0 hK0;have J:Hid (∀a w,_->K0 a w):=hK0;clear hK0;go_wp2_with fail;apply J.out;clear J;refine wp_seq_k ?_;intro K1 hK1;have HK1:Hid (∀a w,_->K1 a w):=hK1;clear hK1;go_wp2_with fail;go_loopg [12,45] ms.length (fun q ru i wr=>∃(j:Nat) (cj:Tc),q=ms.length-j∧j<=ms.length∧i=.int .i64 (j:Int)∧ru=.int .i64 ((zQ ms j:Nat):Int)∧Gt wr w0.heap.size p cj (zB ms 256).1 acts pushed (zS (zB ms 256).1 ms j).starts (zS (zB ms 256).1 ms j).ends (zS (zB ms 256).1 ms j).next∧Turn w0.heap.size p w c wr cj)
 case atStart=>exact⟨0,c,rfl,lX,rfl,rfl,HG.out.1,Turn.refl _ _ _ _⟩
 case round=>
  obtain⟨j,cj,hgk,hj,rfl,rfl,hGj,hTj⟩:=hrel;have HA:Hid (gk=ms.length-j∧Gt wr w0.heap.size p cj (zB ms 256).1 acts pushed (zS (zB ms 256).1 ms j).starts (zS (zB ms 256).1 ms j).ends (zS (zB ms 256).1 ms j).next∧Turn w0.heap.size p w c wr cj):=⟨hgk,hGj,hTj⟩
  have hru8:zQ ms j<=8:=lY (zBn ms j ms.length hj) HOK.out.rules8;by_cases hj2:j<ms.length
  ·have i1:(j:Int)<(ms.length:Int):=by omega
   obtain⟨bb,o,v0,v1,v3,rfl,hSb,d0,d1,d2,d3,e0,e1,e3⟩:=HC.out j hj2;have kb:∀x,S x->wr.heap[x]? =w0.heap[x]? :=fun x hx=>by
    have:=hS x hx;exact(hTj.keep.block x this (by omega)).trans (HG.out.2.block x this (by omega))
   have kk:∀i,wr.cell? ⟨bb,i,none⟩=w0.cell? ⟨bb,i,none⟩:=fun i=>cell?_of_block (kb bb hSb);have z0:wr.cell? ⟨bb,o+j*4,none⟩=some v0:=(kk _).trans d0;have z1:wr.cell? ⟨bb,o+j*4+1,none⟩=some v1:=(kk _).trans d1;have z2:wr.cell? ⟨bb,o+j*4+2,none⟩=some (.int .i64 ms[j].start):=(kk _).trans d2;have z3:wr.cell? ⟨bb,o+j*4+3,none⟩=some v3:=(kk _).trans d3;obtain⟨s1,s2,s3,s4⟩:=zAI (zB ms 256).1 ms HOK.out j hj;have hst:=qJ ms (j+1) ms.length hj2;have hs200:=HOK.out.states;have eg:ms.getD j ⟨[],[],0,[]⟩=ms[j]:=by rw[lW,lV hj2];rfl
   have hst2:zO ms j+ms[j].next.length<=200:=by
    rw[zO,eg] at hst;omega
   have hrl:=(HOK.out.rules j hj2).1;have hel8:zQ ms j+ms[j].empty.length<=8:=by
    have h1:=zBn ms (j+1) ms.length hj2;have h2:=HOK.out.rules8;rw[zQ,eg] at h1;omega
   have HADD:Hid (∀wz,Grew wr wz->Calls prog 64 #[.pointer (some ⟨p,0,none⟩),.agg #[v0,v1,.int .i64 ms[j].start],.int .i64 ((zQ ms j:Nat):Int)] wz fun e w'=>e=.returned (.tuple #[])∧∃c',Gt w' w0.heap.size p c' (zB ms 256).1 acts pushed (zS (zB ms 256).1 ms (j+1)).starts (zS (zB ms 256).1 ms (j+1)).ends (zS (zB ms 256).1 ms (j+1)).next∧Turn w0.heap.size p wr cj w' c'∧∀k,wr.heap.size<=k->k<wz.heap.size->w'.heap[k]? =wz.heap[k]?):=by
    intro wz hkz;have hkb:∀x,S x->wz.heap[x]? =w0.heap[x]? :=fun x hx=>(hkz.block x (lZ (hS x hx) hGj.HH) (by have:=hS x hx;have:=hGj.HH;omega)).trans (kb x hx);have h:=zF6 wz w0.heap.size p cj (zB ms 256).1 acts pushed _ _ _ (hGj.grown hkz) ms[j] v0 v1 S (e0.keep hkb) (e1.keep hkb) (fun k hk=>⟨hS k hk,by have:=hS k hk;omega⟩) (zQ ms j) (HOK.out.fit j hj2).1 hru8 (vA ms 256).1 (by rw[s2];exact hst2) (by rw[s3,hrl];exact hst2) (by rw[s1];omega);refine h.mono ?_;rintro e w' ⟨he,c',hg',ht'⟩;refine⟨he,c',?_,(Turn.grown hkz hGj.HH).trans ht',fun k h1 h2=>(ht'.rest k (lY hGj.HH h1) ⟨h2,fun e=>by have:=hGj.tp.lt;omega,fun e=>by have:=(hGj.starts.lt k e.symm).2;omega,fun e=>?_,fun e=>by have:=(hGj.ends.lt k e.symm).2;omega⟩).1⟩
    ·rw[zS,eg,s4]
     exact hg'
    ·obtain⟨_,hq,_⟩:=hGj.next
     have:=(hq.lt k e.symm).2;omega
   have HRT:Hid (zQ ms (j+1)=zQ ms j+ms[j].empty.length):=by show _=_;rw[zQ,eg]
   have hszr:w0.heap.size<=wr.heap.size:=hGj.HH;obtain⟨a0,q0,ee0,_⟩:=e0;obtain⟨a1,q1,ee1,_⟩:=e1;obtain⟨a3,q3,ee3,_⟩:=e3;subst ee0 ee1 ee3;clear hgk hGj hTj kb kk d0 d1 d2 d3 s1 s2 s3 s4 hst hs200 eg hrl;generalize ms[j].next.length=ln at *
   generalize ms[j].rules.length=lr at *;generalize ms[j].empty.length=le at *;generalize ms[j].start=st at *;generalize zQ ms j=rj at *;go_wp2_with fail;refine(HADD.out _ (kZ _ _ lQ)).mono ?_;rintro e w2 ⟨rfl,c',hg2,ht2,hfr⟩;have yb:w2.cell? ⟨wr.heap.size,3,none⟩=some (.slice a3 le q3):=by
    rw[World.cell?_of_block (hfr wr.heap.size lQ (by simp))];unfold cell?;rw[gG wr _];rfl
   have A2:Hid (Gt w2 w0.heap.size p c' (zB ms 256).1 acts pushed (zS (zB ms 256).1 ms (j+1)).starts (zS (zB ms 256).1 ms (j+1)).ends (zS (zB ms 256).1 ms (j+1)).next∧Turn w0.heap.size p w c w2 c'):=⟨hg2,HA.out.2.2.trans ht2⟩
   clear hg2 ht2 hfr HADD z0 z1 z2 z3;go_wp2_with fail;go_roundg (ms.length-(j+1))
   case measure=>rw[HA.out.1];omega
   case rel=>exact⟨j+1,c',rfl,by omega,by go_num,by rw[HRT.out];go_num,A2.out.1,A2.out.2⟩
  ·have hje:j=ms.length:=by omega
   have i1:(ms.length:Int)<=(j:Int):=by omega
   have HZ:Hid (Gt wr w0.heap.size p cj (zB ms 256).1 acts pushed (zS (zB ms 256).1 ms ms.length).starts (zS (zB ms 256).1 ms ms.length).ends (zS (zB ms 256).1 ms ms.length).next∧Keep w0.heap.size p w0 wr∧cj={c with starts:=cj.starts,next:=cj.next,ends:=cj.ends}):=by
    rw[<-hje];refine⟨?_,HG.out.2.trans hTj.keep,hTj.same⟩;rw[hje] at hGj ⊢;exact hGj
   clear hgk hGj hTj hje;go_wp2_with fail;apply HK1.out;exact HL.out cj wr HZ.out.1 HZ.out.2.1 HZ.out.2.2
theorem zI9 (w:World)(S:Nat->Prop)(mv av pv:Value)(ms:List Sm)(acts pushed:List Int)(hold:Nat)(hM:ModesAt w S mv ms)(hA:Ints w S av acts)(hP:Ints w S pv pushed)(hS:∀k,S k->k<w.heap.size)(hok:ModesOk ms)(hal:acts.length=zQ ms ms.length)(hpl:pushed.length=acts.length)(ha:∀i,i<acts.length->0<=acts.getD i 0)(hp:∀i,i<pushed.length->0<=pushed.getD i 0):
  Calls prog 45 #[mv,av,pv,.int .i64 hold] w fun e w'=>Made w w' e ms acts pushed hold:=by
 have HM:Hid (ModesAt w S mv ms∧Ints w S av acts∧Ints w S pv pushed):=⟨hM,hA,hP⟩
 have hwide:Wide ms:=fun m hm row hr=>by
  obtain⟨i,hi,rfl⟩:=List.getElem_of_mem hm;exact(hok.wide i hi row hr).1
 have h200:∀m∈ms,m.next.length<=200:=fun m hm=>by
  obtain⟨i,hi,rfl⟩:=List.getElem_of_mem hm;have h1:=qJ ms (i+1) ms.length hi;have h2:=hok.states;have e:ms.getD i ⟨[],[],0,[]⟩=ms[i]:=by rw[lW,lV hi];rfl
  rw[zO,e] at h1;omega
 have HK:=zFW w S mv ms hM hS hwide hok.three h200;have HK2:Hid (Calls prog 63 #[mv] w fun e w'=>∃u,e=.returned (.tuple #[u,.int .i64 ((zB ms 256).2:Nat)])∧OwnI w' w.heap.size u (zB ms 256).1∧Grew w w'):=HK;obtain⟨ma,mc,rfl,_⟩:=hM;obtain⟨ba,oa,ca,rfl,hSa,_,_,hca⟩:=hA.block (by rw[hal];exact hok.rules1);obtain⟨bp,op,cp,rfl,hSp,_,_,hcp⟩:=hP.block (by rw[hpl,hal];exact hok.rules1);have hal8:acts.length<=8:=by rw[hal];exact hok.rules8
 have hal1:1<=acts.length:=by rw[hal];exact hok.rules1
 have hpl8:pushed.length<=8:=by omega
 have hpl1:1<=pushed.length:=by omega
 obtain⟨i0,hi0,hz0,hz1,hz2⟩:=info_parts yH;have HCA:Hid (∀j u,(acts.map fun x=>Value.int .i64 x)[j]? =some u->w.cell? ((⟨ba,oa,none⟩:Addr).add j)=some u):=by
  intro j u hu;rw[gJ] at hu;obtain⟨x,hx,rfl⟩:=Option.map_eq_some_iff.1 hu;have hj:=(List.getElem?_eq_some_iff.1 hx).1;rw[Addr.add_lit,hca j hj,lW,hx];rfl
 have HCP:Hid (∀j u,(pushed.map fun x=>Value.int .i64 x)[j]? =some u->w.cell? ((⟨bp,op,none⟩:Addr).add j)=some u):=by
  intro j u hu;rw[gJ] at hu;obtain⟨x,hx,rfl⟩:=Option.map_eq_some_iff.1 hu;have hj:=(List.getElem?_eq_some_iff.1 hx).1;rw[Addr.add_lit,hcp j hj,lW,hx];rfl
 have hba:=hS ba hSa;have hbp:=hS bp hSp;clear hca hcp;have HAL:Hid (acts.length=zQ ms ms.length∧pushed.length=acts.length):=⟨hal,hpl⟩
 have HOK:Hid (ModesOk ms):=hok;clear HK hal hpl hA hP hok hwide h200;go_enter func45,ntmps45
 refine wp_seq_k ?_;intro K0 hK0;have J:Hid (∀a w,_->K0 a w):=hK0;clear hK0;go_wp2_with fail;apply J.out;clear J;refine wp_seq_k ?_;intro K1 hK1;have HK1:Hid (∀a w,_->K1 a w):=hK1;clear hK1;go_wp2_with fail;refine HK2.out.mono ?_;rintro e w1 ⟨u,rfl,ho1,hk1⟩;obtain⟨au,cu,hu⟩:=ho1.form;subst hu;have O1:Hid (OwnI w1 w.heap.size (.slice au (zB ms 256).1.length cu) (zB ms 256).1∧Grew w w1):=⟨ho1,hk1⟩
 clear ho1 hk1 HK2;go_wp2_with fail;apply HK1.out;clear HK1;refine wp_seq_k ?_;intro K2 hK2;have HK2:Hid (∀a w,_->K2 a w):=hK2;clear hK2;go_wp2_with fail;apply HK2.out;clear HK2;obtain⟨w2,hw2,A2⟩:∃w2,w2=w1.alloc (.cells #[.bool false,.int .i64 0,.int .i64 hold,.slice none 0 0,.slice none 0 0,.slice none 0 0,.slice au (zB ms 256).1.length cu,.int .i64 ((zB ms 256).2:Nat),.slice none 0 0,.slice none 0 0,.slice none 0 0,.int .i64 0,.slice none 0 0] 90)∧
   Hid (xB w2 w1.heap.size ⟨.bool false,.int .i64 0,.int .i64 hold,.slice none 0 0,.slice none 0 0,.slice none 0 0,.slice au (zB ms 256).1.length cu,.int .i64 ((zB ms 256).2:Nat),.slice none 0 0,.slice none 0 0,.slice none 0 0,.int .i64 0,.slice none 0 0⟩∧OwnI w2 w.heap.size (.slice au (zB ms 256).1.length cu) (zB ms 256).1∧Keep w.heap.size w1.heap.size w w2):=
  ⟨_,rfl,gG w1 _,zJ O1.out.1 (kZ _ _ lQ),O1.out.2.lower lQ lQ |>.trans (kZ _ _ O1.out.2.size)⟩
 rw[<-hw2];have hs2:w1.heap.size<w2.heap.size:=by rw[hw2];simp
 have hs1:=O1.out.2.size;clear hw2;refine wp_seq_k ?_;intro K3 hK3;have HK3:Hid (∀a w,_->K3 a w):=hK3;clear hK3;have y4:=A2.out.1.get_acts;have z4:=A2.out.1.fz 4;have hs2':w.heap.size<=w2.heap.size:=by omega
 have HX2:Hid (∀j u,(acts.map fun x=>Value.int .i64 x)[j]? =some u->w2.cell? ((⟨ba,oa,none⟩:Addr).add j)=some u):=fun j u hu=>by
  have h:=HCA.out j u hu;rw[Addr.add_lit] at h ⊢;exact(cell?_of_block (A2.out.2.2.block ba hba (by omega))).trans h
 go_wp2_with (first|(at_builtin;refine wpList_append_lies _ rfl _ _ 45 rfl w.heap.size 3 i0 (.int .i64 0) 1 8 underlying45 hi0 hz0 hz1 hz2 rfl (by decide) (.slice none 0 0) 0 [] rfl (ownsRow_nil _ _ _ _) ⟨ba,oa,none⟩ acts.length ca (acts.map fun x=>.int .i64 x) rfl (by simp) HX2.out (by intro u hu;obtain⟨x,_,rfl⟩:=List.mem_map.1 hu;rfl) (by omega) (by unfold maxLen;omega) (by omega) hs2' w2.heap.size rfl ?_;intro ga capa w3 hown hgrow hat hlt3;have hPB:=hgrow.block w1.heap.size hs2 (by simp[Value.ownBlock]);have y4':w3.cell? ⟨w1.heap.size,4,none⟩=some (.slice none 0 0):=(cell?_of_block hPB).trans y4;have z4':w3.frozen? ⟨w1.heap.size,4,none⟩=false:=(frozen?_of_block hPB).trans z4))
 obtain⟨w4,hw4,A4⟩:∃w4,w4=w3.setCell ⟨w1.heap.size,4,none⟩ (.slice (some ⟨ga,0,none⟩) acts.length capa)∧
   Hid (xB w4 w1.heap.size ⟨.bool false,.int .i64 0,.int .i64 hold,.slice none 0 0,.slice (some ⟨ga,0,none⟩) acts.length capa,.slice none 0 0,.slice au (zB ms 256).1.length cu,.int .i64 ((zB ms 256).2:Nat),.slice none 0 0,.slice none 0 0,.slice none 0 0,.int .i64 0,.slice none 0 0⟩∧OwnI w4 w.heap.size (.slice au (zB ms 256).1.length cu) (zB ms 256).1∧OwnI w4 w.heap.size (.slice (some ⟨ga,0,none⟩) acts.length capa) acts∧Keep w.heap.size w1.heap.size w w4):=by
  have hT3:=A2.out.1.of_block hPB;have hoA:OwnI w3 w.heap.size (.slice (some ⟨ga,0,none⟩) acts.length capa) acts:=by
   have h:=hown;rw[Nat.zero_add,List.nil_append] at h;exact h
  have hk3:Grew w2 w3:=⟨hgrow.os,hgrow.output,hgrow.size,fun k hk _=>hgrow.block k hk (by simp[Value.ownBlock])⟩
  have hoK:=zJ A2.out.2.1 hk3;refine⟨_,rfl,hT3.set_acts _,zD hoK fun k _ _ hk=>lJ _ _ _ _ (fun e=>vM hT3 hoK (by decide) (by rw[hk];exact congrArg some e.symm)),zD hoA fun k _ _ hk=>lJ _ _ _ _ (fun e=>vM hT3 hoA (by decide) (by rw[hk];exact congrArg some e.symm)),(A2.out.2.2.trans (hk3.lower (by omega) (by omega))).trans (Keep.set _ _ _)⟩
 rw[<-hw4];have hs4:w1.heap.size<w4.heap.size:=by rw[hw4,zC];exact lZ hs2 hgrow.size
 clear hw4 hown hgrow hat hPB y4' z4' y4 z4 A2 HX2;apply HK3.out;clear HK3;refine wp_seq_k ?_;intro K4 hK4;have HK4:Hid (∀a w,_->K4 a w):=hK4;clear hK4;have y5:=A4.out.1.get_pushed;have z5:=A4.out.1.fz 5;have hs4':w.heap.size<=w4.heap.size:=by omega
 have HX4:Hid (∀j u,(pushed.map fun x=>Value.int .i64 x)[j]? =some u->w4.cell? ((⟨bp,op,none⟩:Addr).add j)=some u):=fun j u hu=>by
  have h:=HCP.out j u hu;rw[Addr.add_lit] at h ⊢;exact(cell?_of_block (A4.out.2.2.2.block bp hbp (by omega))).trans h
 go_wp2_with (first|(at_builtin;refine wpList_append_lies _ rfl _ _ 45 rfl w.heap.size 3 i0 (.int .i64 0) 1 8 underlying45 hi0 hz0 hz1 hz2 rfl (by decide) (.slice none 0 0) 0 [] rfl (ownsRow_nil _ _ _ _) ⟨bp,op,none⟩ pushed.length cp (pushed.map fun x=>.int .i64 x) rfl (by simp) HX4.out (by intro u hu;obtain⟨x,_,rfl⟩:=List.mem_map.1 hu;rfl) (by omega) (by unfold maxLen;omega) (by omega) hs4' w4.heap.size rfl ?_;intro gp capp w5 hown hgrow hat hlt5;have hPB:=hgrow.block w1.heap.size hs4 (by simp[Value.ownBlock]);have y5':w5.cell? ⟨w1.heap.size,5,none⟩=some (.slice none 0 0):=(cell?_of_block hPB).trans y5;have z5':w5.frozen? ⟨w1.heap.size,5,none⟩=false:=(frozen?_of_block hPB).trans z5))
 obtain⟨w6,hw6,A6⟩:∃w6,w6=w5.setCell ⟨w1.heap.size,5,none⟩ (.slice (some ⟨gp,0,none⟩) pushed.length capp)∧
   Hid (Gt w6 w.heap.size w1.heap.size ⟨.bool false,.int .i64 0,.int .i64 hold,.slice none 0 0,.slice (some ⟨ga,0,none⟩) acts.length capa,.slice (some ⟨gp,0,none⟩) pushed.length capp,.slice au (zB ms 256).1.length cu,.int .i64 ((zB ms 256).2:Nat),.slice none 0 0,.slice none 0 0,.slice none 0 0,.int .i64 0,.slice none 0 0⟩ (zB ms 256).1 acts pushed [] [] []∧Keep w.heap.size w1.heap.size w w6):=by
  have hT5:=A4.out.1.of_block hPB;have hoP:OwnI w5 w.heap.size (.slice (some ⟨gp,0,none⟩) pushed.length capp) pushed:=by
   have h:=hown;rw[Nat.zero_add,List.nil_append] at h;exact h
  have hk5:Grew w4 w5:=⟨hgrow.os,hgrow.output,hgrow.size,fun k hk _=>hgrow.block k hk (by simp[Value.ownBlock])⟩
  have hoK:=zJ A4.out.2.1 hk5;have hoA:=zJ A4.out.2.2.1 hk5;have fin:∀{v l},OwnI w5 w.heap.size v l->Fin (w5.setCell ⟨w1.heap.size,5,none⟩ (.slice (some ⟨gp,0,none⟩) pushed.length capp)) (Rest (w5.setCell ⟨w1.heap.size,5,none⟩ (.slice (some ⟨gp,0,none⟩) pushed.length capp)) w1.heap.size ⟨.bool false,.int .i64 0,.int .i64 hold,.slice none 0 0,.slice (some ⟨ga,0,none⟩) acts.length capa,.slice (some ⟨gp,0,none⟩) pushed.length capp,.slice au (zB ms 256).1.length cu,.int .i64 ((zB ms 256).2:Nat),.slice none 0 0,.slice none 0 0,.slice none 0 0,.int .i64 0,.slice none 0 0⟩) w.heap.size v l:=fun ho=>
   ⟨zD ho fun k _ _ hk=>lJ _ _ _ _ (fun e=>vM hT5 ho (by decide) (by rw[hk];exact congrArg some e.symm)),fun g hg=>⟨by rw[zC];exact(World.ownsRow.lt ho g hg).2,fun e=>vM hT5 ho (by decide) (by rw[hg,e]),by simp[Value.ownBlock],by simp[Value.ownBlock],by simp[Value.ownBlock]⟩⟩
  refine⟨_,rfl,⟨hT5.set_pushed _,OwnI.nil _ _,OwnI.nil _ _,⟨fun _=>.slice none 0 0,ownsRow_nil _ _ _ _,fun i hi=>by simp at hi⟩,fin hoK,fin hoA,fin hoP,by rw[zC];exact lY hs4' hgrow.size,fun g hg=>by simp[Value.ownBlock] at hg⟩,(A4.out.2.2.2.trans (hk5.lower (by omega) (by omega))).trans (Keep.set _ _ _)⟩
 rw[<-hw6];clear hw6 hown hgrow hat hPB y5' z5' y5 z5 A4 HX4;apply HK4.out;clear HK4;exact zNN w w6 S w1.heap.size _ ms acts pushed hold _ HM.out.1 hS A6.out.1 HOK.out hs1 HAL.out.1 ha HAL.out.2 hp rfl rfl rfl rfl rfl rfl rfl A6.out.2
end Go.Proofs.YtbjcfkdnjaiclaaGreat
