import Derived.Deep.LoopGhost
import Derived.Laws.AppendOwnNone
import Derived.Test.YtbjcfkdnjaiclaaGreatB0
import Derived.Test.YtbjcfkdnjaiclaaGreatB29
import Derived.Test.YtbjcfkdnjaiclaaGreatB33
/- Split: in whatever pieces a text comes, its events are the same, with both engines; for every specification, text and numbers (texts of up to 65536 bytes, as the statement itself says). -/
set_option linter.unusedVariables false
set_option linter.unusedSimpArgs false
set_option maxHeartbeats 4000000
set_option maxRecDepth 100000
namespace Go.Proofs.YtbjcfkdnjaiclaaGreat
open Go.RowKit Go.Proofs.Tryz Go.World
def nxN (x:Nat):Nat:=(x*1103515+12345)%1073741824
def itK (f:Nat->Nat):Nat->Nat->Nat
 |0,x=>x
 |k+1,x=>itK f k (f x)
theorem zMA (f:Nat->Nat)(x:Nat):itK f 1 x=f x:=rfl
theorem zMB (f:Nat->Nat)(a b x:Nat):itK f (a+b) x=itK f b (itK f a x):=by
 induction a generalizing x with
 |zero=>rw[Nat.zero_add];rfl
 |succ a ih=>rw[Nat.succ_add];exact ih (f x)
theorem zNk (f:Nat->Nat)(M:Nat)(hf:∀x,f x<M)(k x:Nat)(h:x<M):itK f k x<M:=by
 induction k generalizing x with
 |zero=>exact h
 |succ k ih=>exact ih _ (hf x)
theorem zGV (x:Nat):nxN x<1073741824:=gW _ (by decide)
def Nx (M A C:Nat):Prop:=∃n,∀x,itK nxN n x%M=(A*x+C)%M
theorem Nx.twice {M A C A' C':Nat}(h:Nx M A C)(hA:A*A%M=A')(hC:(A*C+C)%M=C'):Nx M A' C':=by
 obtain⟨n,h⟩:=h;refine⟨n+n,fun x=>?_⟩;have e1:itK nxN (n+n) x%M=(A*itK nxN n x+C)%M:=by rw[zMB];exact h _
 have e2:(A*itK nxN n x+C)%M=(A*(A*x+C)+C)%M:=by rw[Nat.add_mod,Nat.mul_mod,h,<-Nat.mul_mod,<-Nat.add_mod]
 have e3:(A*A%M*x+(A*C+C)%M)%M=(A*A*x+(A*C+C))%M:=by rw[Nat.add_mod,Nat.mul_mod,Nat.mod_mod,<-Nat.mul_mod,Nat.mod_mod,<-Nat.add_mod]
 rw[e1,e2,<-hA,<-hC,e3,Nat.mul_add,Nat.mul_assoc,Nat.add_assoc]
theorem zLy (M:Nat)(hM:M ∣ 1073741824):Nx M 1103515 12345:=by
 refine⟨1,fun x=>?_⟩;rw[zMA];unfold nxN;rw[Nat.mod_mod_of_dvd _ hM,Nat.mul_comm]
theorem zNI:Nx 1073741824 1 536870912:=by
 have h:=zLy 1073741824 (Nat.dvd_refl _);replace h:Nx 1073741824 122126809 738003132:=h.twice rfl rfl;replace h:Nx 1073741824 641362417 117713944:=h.twice rfl rfl;replace h:Nx 1073741824 957060321 628590256:=h.twice rfl rfl;replace h:Nx 1073741824 334163393 653436768:=h.twice rfl rfl;replace h:Nx 1073741824 664988545 110540480:=h.twice rfl rfl;replace h:Nx 1073741824 904533761 399183232:=h.twice rfl rfl;replace h:Nx 1073741824 971320833 80517888:=h.twice rfl rfl;replace h:Nx 1073741824 135158785 879965696:=h.twice rfl rfl;replace h:Nx 1073741824 19707905 72248320:=h.twice rfl rfl;replace h:Nx 1073741824 110718977 909957120:=h.twice rfl rfl;replace h:Nx 1073741824 506650625 586788864:=h.twice rfl rfl;replace h:Nx 1073741824 6668289 536043520:=h.twice rfl rfl;replace h:Nx 1073741824 281772033 669433856:=h.twice rfl rfl;replace h:Nx 1073741824 563544065 801996800:=h.twice rfl rfl;replace h:Nx 1073741824 53346305 530251776:=h.twice rfl rfl;replace h:Nx 1073741824 106692609 1060503552:=h.twice rfl rfl;replace h:Nx 1073741824 213385217 1047265280:=h.twice rfl rfl;replace h:Nx 1073741824 426770433 1020788736:=h.twice rfl rfl;replace h:Nx 1073741824 853540865 967835648:=h.twice rfl rfl;replace h:Nx 1073741824 633339905 861929472:=h.twice rfl rfl;replace h:Nx 1073741824 192937985 650117120:=h.twice rfl rfl;replace h:Nx 1073741824 385875969 226492416:=h.twice rfl rfl;replace h:Nx 1073741824 771751937 452984832:=h.twice rfl rfl;replace h:Nx 1073741824 469762049 905969664:=h.twice rfl rfl;replace h:Nx 1073741824 939524097 738197504:=h.twice rfl rfl;replace h:Nx 1073741824 805306369 402653184:=h.twice rfl rfl;replace h:Nx 1073741824 536870913 805306368:=h.twice rfl rfl;replace h:Nx 1073741824 1 536870912:=h.twice rfl rfl;exact h
theorem zNL:Nx 1024 1 512:=by
 have h:=zLy 1024 ⟨1048576,rfl⟩;replace h:Nx 1024 473 188:=h.twice rfl rfl;replace h:Nx 1024 497 24:=h.twice rfl rfl;replace h:Nx 1024 225 688:=h.twice rfl rfl;replace h:Nx 1024 449 864:=h.twice rfl rfl;replace h:Nx 1024 897 704:=h.twice rfl rfl;replace h:Nx 1024 769 384:=h.twice rfl rfl;replace h:Nx 1024 513 768:=h.twice rfl rfl;replace h:Nx 1024 1 512:=h.twice rfl rfl;exact h
theorem zMs {m:Nat}(h:m%2=1)(hd:m ∣ 1048576):m=1:=by
 have h2:Nat.Coprime m 2:=by
  unfold Nat.Coprime;rw[Nat.gcd_comm,Nat.gcd_rec,h];decide
 exact Nat.Coprime.eq_one_of_dvd (Nat.Coprime.pow_right 20 h2) hd
theorem zMt:∃B,∀m x,2<=m->x<1073741824->∃k,k<B∧(itK nxN k x/512)%m≠0:=by
 obtain⟨N,hN⟩:=zNI;obtain⟨N',hN'⟩:=zNL;refine⟨N+N'+1,fun m x hm hx=>?_⟩;by_cases h0:(x/512)%m=0
 ·rcases Nat.mod_two_eq_zero_or_one m with h2|h2
  ·refine⟨N',by omega,fun hk=>?_⟩
   have h8:=hN' x;rw[Nat.one_mul] at h8;obtain⟨q,hq⟩:m ∣ x/512:=Nat.dvd_of_mod_eq_zero h0;obtain⟨q',hq'⟩:m ∣ itK nxN N' x/512:=Nat.dvd_of_mod_eq_zero hk;obtain⟨c,hc⟩:2 ∣ m:=Nat.dvd_of_mod_eq_zero h2;rw[hc,Nat.mul_assoc] at hq hq';generalize itK nxN N' x=y at *;generalize c*q=u at *;generalize c*q'=u' at *;clear h0 hk hN hN';omega
  ·refine⟨N,by omega,fun hk=>?_⟩
   have h8:=hN x;rw[Nat.one_mul] at h8;have hy:=zNk nxN _ zGV N x hx;have hd1:m ∣ x/512:=Nat.dvd_of_mod_eq_zero h0;have hd2:m ∣ itK nxN N x/512:=Nat.dvd_of_mod_eq_zero hk;generalize itK nxN N x=y at *;clear h0 hk hN hN';have hd:m ∣ 1048576:=by
    rcases Nat.lt_or_ge x 536870912 with hl|hl
    ·have e:y/512=x/512+1048576:=by omega
     rw[e] at hd2;exact(Nat.dvd_add_right hd1).1 hd2
    ·have e:x/512=y/512+1048576:=by omega
     rw[e] at hd1;exact(Nat.dvd_add_right hd2).1 hd1
   have:=zMs h2 hd;omega
 ·exact⟨0,by omega,h0⟩
theorem zI5 (w:World)(x:Nat)(hx:x<1073741824):Calls prog 48 #[.int .i64 (x:Int)] w fun e w'=>e=.returned (.int .i64 (nxN x:Nat))∧w'=w:=by
 have h1:(x:Int)*1103515<=1200000000000000:=by omega
 have h2:0<=(x:Int)*1103515:=by omega
 have HV:Hid (((nxN x:Nat):Int)=((x:Int)*1103515+12345)%1073741824):=by
  show _=_;unfold nxN;rw[Int.natCast_emod,Int.natCast_add,Int.natCast_mul];rfl
 go_in;go_wp2;refine bodyPost_ret (results_tmp rfl _ _ _) rfl ?_;refine⟨by rw[HV.out];rfl,rfl⟩
def EvRow (w:World)(H:Nat)(v:Value)(es:List Ev):Prop:=w.ownsRow H 51 6 v es.length (zU es)
theorem EvRow.nil (w:World)(H:Nat):EvRow w H (.slice none 0 0) []:=ownsRow_nil _ _ _ _
theorem EvRow.keep {w w':World}{H b:Nat}{v:Value}{es:List Ev}(h:EvRow w H v es)(hk:Keep w.heap.size b w w')(hb:b<H):EvRow w' H v es:=zD h fun g h1 h2 _=>hk.block g h2 (by omega)
theorem jE {w:World}{ops:Array Oper}{rest:List Oper}{o:Oper}{a:Act}{Q:Exit->Act->World->Prop}(hgd:o.guard=none)(s x:Operand)
  (ho:o.op=.call {callee:=.builtin .append,args:=#[s,x],argTypes:=#[48,48]})
  (H H2:Nat) (v v2:Value) (l1 l2:List Ev) (hs:a.eval s=v) (h1:Hid (EvRow w H v l1)) (hx:a.eval x=v2) (h2:Hid (EvRow w H2 v2 l2)) (hl:l1.length+l2.length<=1000000) (hH:H<=w.heap.size)
  (h:∀v4 w4,Hid (EvRow w4 H v4 (l1++l2)∧Keep H H w w4∧∀k,k<w.heap.size->v.ownBlock≠some k->w4.heap[k]? =w.heap[k]?)->wpList prog ops Q rest (a.put o.dst v4) w4):wpList prog ops Q (o::rest) a w:=by
 obtain⟨i0,hi0,hz0,hz1,hz2⟩:=info_parts zJi;rcases h2.out.2 with⟨hv2,hn2⟩|⟨g,cap,cur,hv2,_,hg2,_,_,_,htk⟩
 ·have hN:l2=[]:=List.length_eq_zero_iff.1 hn2
  refine wpList_append_own_none hgd s x 48 ho H 51 i0 6 underlying48 hi0 _ _ _ hs h1.out (by rw[hx,hv2]) (h v w ⟨?_,Keep.refl _ _ _,fun k _ _=>rfl⟩);rw[hN,List.append_nil];exact h1.out
 ·have hc:∀j u,(zU l2)[j]? =some u->w.cell? ((⟨g,0,none⟩:Addr).add j)=some u:=by
   have h3:=h2.out;unfold EvRow at h3;rw[hv2] at h3;exact h3.cells rfl
  refine wpList_append_own _ hgd s x 48 ho H 51 i0 _ 6 48 underlying48 hi0 hz0 hz1 hz2 rfl (by decide) _ _ _ hs h1.out ⟨g,0,none⟩ l2.length cap (zU l2) (by rw[hx,hv2]) (zBG l2) hc (zDm l2) (by unfold maxLen;omega) (by omega) hH ?_;intro v4 w4 hown hgrow _;refine h v4 w4 ⟨?_,Keep.grownEnd hgrow hH fun k hk=>(h1.out.lt k hk).1,fun k hk hn=>hgrow.block k hk (Ne.symm hn)⟩;unfold EvRow;rw[kX,zBH];exact hown
theorem zHV {w:World}{S:Nat->Prop}{p b:Nat}{t:Tb}{r:Rs}{P:Nat}(h:ScAt w S p b t r P)(ft:t.Fine)(s:ByteArray)(hP:P+s.size<4194000):Calls prog 35 #[.pointer (some ⟨b,0,none⟩),.string s] w fun e w'=>∃v,e=.returned v∧EvRow w' w.heap.size v (Rs.feed t (nats s) r).2∧ScAt w' S p b t (Rs.feed t (nats s) r).1 (P+s.size)∧Keep w.heap.size b w w':=by
 refine(zAC b w.heap.size S t w r s P h.cv ft h.good hP).mono ?_;rintro e w' ⟨v,rfl,h1,h2,hk⟩;obtain⟨g,-,-⟩:=Rs.feed_inv t ft.ok (nats s) r P h.good (vT s);rw[yR] at g;exact⟨v,rfl,h2,⟨h1,h.tab.keep fun k e=>hk.block k (h.safe k e).1 (h.safe k e).2,(Rs.feed_tp t (nats s) r).trans h.tp,lZ h.lt hk.size,fun k e=>⟨lZ (h.safe k e).1 hk.size,(h.safe k e).2⟩,g⟩,hk⟩
theorem zHe {w:World}{S:Nat->Prop}{p b:Nat}{t:Tb}{r:Rs}{P:Nat}(h:ScAt w S p b t r P)(ft:t.Fine)(hP:P<4194000):Calls prog 42 #[.pointer (some ⟨b,0,none⟩)] w fun e w'=>∃v,e=.returned v∧EvRow w' w.heap.size v (r.shut t).2∧Keep w.heap.size b w w':=by
 refine(zBA b w.heap.size S t w r P h.cv ft h.good hP).mono ?_;rintro e w' ⟨v,rfl,-,h2,hk⟩;exact⟨v,rfl,h2,hk⟩
theorem zIY {f:Nat->Nat}{B m M:Nat}(hf:∀x,f x<M)(hB:∀m x,2<=m->x<M->∃k,k<B∧(itK f k x/512)%m≠0)(hm:2<=m)(z d x k n:Nat)(hk:k<B∧(itK f k (f x)/512)%m≠0)(hd:d<z)(hn:n=min (f x/512%m) (z-d)):∃k',(k'<B∧(itK f k' (f (f x))/512)%m≠0)∧(z-(d+n))*B+k'<(z-d)*B+k:=by
 by_cases h0:f x/512%m=0
 ·cases k with
  |zero=>exact absurd h0 hk.2
  |succ k=>
   refine⟨k,⟨by omega,hk.2⟩,?_⟩;rw[hn,h0,Nat.zero_min,Nat.add_zero];omega
 ·obtain⟨k',h1,h2⟩:=hB m (f (f x)) hm (hf _)
  refine⟨k',⟨h1,h2⟩,?_⟩;obtain⟨q,hq⟩:∃q,z-d=(z-(d+n))+(q+1):=⟨n-1,by omega⟩
  rw[hq,Nat.add_mul,Nat.succ_mul];omega
theorem ScAt.keepH {w w':World}{S:Nat->Prop}{p b H:Nat}{t:Tb}{r:Rs}{P:Nat}(h:ScAt w S p b t r P)(hk:Keep H H w w')(hb:b<H)(hw:H<=w.heap.size)(hS:∀k,S k->k<H):ScAt w' S p b t r P:=⟨h.run.of_block (hk.block b hb (kJ hb)),h.tab.keep fun k e=>hk.block k (hS k e) (kJ (hS k e)),h.tp,lZ h.lt hk.size,fun k e=>⟨lZ (h.safe k e).1 hk.size,(h.safe k e).2⟩,h.good⟩
theorem zGP (w:World)(S:Nat->Prop)(L p:Nat)(t:Tb)(hL:LexAt w S L p t)(ft:t.Fine)(s:ByteArray)(hs:s.size<=65536)(a:Int)(ha1:-9223372036854775808<=a)(ha2:a<=9223372036854775807)(most:Nat)(hm1:1<=most)(hm2:most<=100000):
  Calls prog 31 #[.pointer (some ⟨L,0,none⟩),.string s,.int .i64 a,.int .i64 (most:Int)] w fun e w'=>∃v,e=.returned v∧EvsAt w' v (t.events p s)∧Grew w w':=by
 have HBG:=vl <| zDr hL ft;have HPK:Hid (∀w2,Calls prog 15 #[.int .i64 a,.int .i64 1073741824] w2 fun e w'=>∃x:Nat,e=.returned (.int .i64 (x:Int))∧x<1073741824∧w'=w2):=fun w2=>(zCL w2 a ha1 ha2 1073741824 (by decide) (by decide)).mono (by rintro e w' ⟨rfl,hw⟩;exact⟨_,rfl,zE6 _ _ (by decide),hw⟩);have HNX:=vl zI5;obtain⟨B,hB⟩:=zMt;have HNB:Hid (∀m x,2<=m->x<1073741824->∃k,k<B∧(itK nxN k x/512)%m≠0):=hB;have FT:=vl ft;have HSW:=vl hL.safe;clear hL ha1 ha2 hB ft;go_in;apply wp_cut;intro K0 J;go_wp2;apply J.out;clear J;apply wp_cut;intro K0 J;go_wp2_with (first|(go_at_call 34;refine HBG.out.mono ?_;rintro e w1 ⟨b,rfl,hb1,hsc1,hk1⟩))
 apply J.out;clear J;apply wp_cut;intro K0 J;go_wp2;apply J.out;clear J;apply wp_cut;intro K0 J;go_wp2_with (first|(go_at_call 15;refine(HPK.out _).mono ?_;rintro e w0 ⟨x0,rfl,hx0,hw0⟩;have hw8:=hw0.symm;subst hw8))
 apply J.out;clear J;apply wp_cut;intro K0 J;obtain⟨H,hH⟩:∃H,H=w1.heap.size:=⟨_,rfl⟩
 have W1:Hid (ScAt w1 S p b t (Rs.born t p) 0∧Grew w w1∧w.heap.size<=b∧b<H∧w.heap.size<=H):=⟨hsc1,hk1,hb1,by rw[hH];exact hsc1.lt,by rw[hH];exact hk1.size⟩
 have HH:=vl hH;clear hsc1 hk1 hb1 HBG HPK hH;obtain⟨k0,hk0⟩:=HNB.out (most+1) (nxN x0) (by omega) (zGV _);have HK1:=vl hk0;clear hk0;obtain⟨R,hR⟩:∃R:Nat->Value->Value->Value->World->Prop,R=fun q tx ou vv wr=>∃d x k,q=(s.size-d)*B+k∧d<=s.size∧tx=.string (s.extract d s.size)∧vv=.int .i64 ((x:Nat):Int)∧x<1073741824∧(k<B∧(itK nxN k (nxN x)/512)%(most+1)≠0)∧ScAt wr S p b t (Rs.feed t (nats (s.extract 0 d)) (Rs.born t p)).1 d∧EvRow wr H ou (Rs.feed t (nats (s.extract 0 d)) (Rs.born t p)).2∧Grew w wr∧H<=wr.heap.size:=⟨_,rfl⟩
 have HR:=vl hR;go_wp2;go_loopg [1,10,11] (s.size*B+k0) (fun q tx ou vv wr=>R q tx ou vv wr)
 case atStart=>
  rw[HR.out];have e0:s.extract 0 0=ByteArray.empty:=by apply ByteArray.ext;rw[ByteArray.data_extract];simp
  refine⟨0,x0,k0,rfl,lX,?_,rfl,hx0,HK1.out,?_,?_,W1.out.2.1,by rw[HH.out];exact lQ⟩
  ·rw[ByteArray.extract_zero_size]
  ·rw[e0];exact W1.out.1
  ·rw[e0];exact EvRow.nil _ _
 case round=>
  rw[HR.out] at hrel;obtain⟨d,x,k,hgk,hd,rfl,rfl,hx,hk,hsc,hev,hkp,hHw⟩:=hrel;have A:=vl (And.intro hgk (And.intro hk (And.intro hsc (And.intro hev (And.intro hkp hHw)))));clear hgk hk hsc hev hkp hHw;obtain⟨T,hT⟩:∃T,T=s.extract d s.size:=⟨_,rfl⟩
  have HTz:Hid (T.size=s.size-d):=by show _=_;rw[hT,ByteArray.size_extract];omega
  have hT2:T.size<=65536:=by rw[HTz.out];omega
  have HT:=vl hT;rw[<-hT];clear hT;by_cases hlt:d<s.size
  ·have i1:(0:Int)<(T.size:Int):=by have:=HTz.out;omega
   obtain⟨y,hy⟩:∃y,y=nxN x:=⟨_,rfl⟩
   have hy2:y<1073741824:=by rw[hy];exact zGV _
   have HX:Hid (∀w2,Calls prog 48 #[.int .i64 (x:Int)] w2 fun e w'=>e=.returned (.int .i64 (y:Int))∧w'=w2):=fun w2=>by rw[hy];exact HNX.out w2 x hx
   obtain⟨n0,hn0⟩:∃n0,n0=y/512%(most+1):=⟨_,rfl⟩
   obtain⟨n,hn⟩:∃n,n=min n0 (s.size-d):=⟨_,rfl⟩
   obtain⟨k',hk',hme⟩:=zIY zGV HNB.out (by omega) s.size d x k n A.out.2.1 hlt (by rw[hn,hn0,hy]);have HME:=vl (And.intro hk' hme);have HY:Hid (y=nxN x):=hy;have hN0:(y:Int)/512%((most:Int)+1)=(n0:Int):=by rw[hn0];simp
   have hd2:d+n<=s.size:=by omega
   have hnT:n<=T.size:=by rw[HTz.out];omega
   have hn1:n0<=T.size∧n=n0∨T.size<n0∧n=T.size:=by rw[HTz.out];omega
   have HPU:Hid (∀X,X=T.extract 0 n->Calls prog 35 #[.pointer (some ⟨b,0,none⟩),.string X] wr fun e w'=>∃v,e=.returned v∧EvRow w' wr.heap.size v (Rs.feed t (nats (s.extract d (d+n))) (Rs.feed t (nats (s.extract 0 d)) (Rs.born t p)).1).2∧ScAt w' S p b t (Rs.feed t (nats (s.extract d (d+n))) (Rs.feed t (nats (s.extract 0 d)) (Rs.born t p)).1).1 (d+n)∧Keep wr.heap.size b wr w'):=by
    rintro X rfl;have e1:T.extract 0 n=s.extract d (d+n):=by rw[HT.out,ByteArray.extract_extract];congr 1;omega
    have e2:(s.extract d (d+n)).size=n:=by rw[ByteArray.size_extract];omega
    have:=zHV A.out.2.2.1 FT.out (s.extract d (d+n)) (by omega);rw[e2] at this;rw[e1];exact this
   have HCU:=vl (zDl t p s d n hd2);have HLN:Hid ((Rs.feed t (nats (s.extract 0 d)) (Rs.born t p)).2.length+(Rs.feed t (nats (s.extract d (d+n))) (Rs.feed t (nats (s.extract 0 d)) (Rs.born t p)).1).2.length<=1000000):=by
    have h:=(zFt t FT.out p (s.extract 0 (d+n))).1;rw[zDl t p s d n hd2,ByteArray.size_extract] at h;simp only[kX] at h;show _<=_;omega
   have HT2:Hid (T.extract n T.size=s.extract (d+n) s.size):=by
    show _=_;rw[HT.out,ByteArray.extract_extract,ByteArray.size_extract]
    congr 1
    omega
   clear hk' hme hy hn0 hn;obtain⟨F,hF⟩:∃F,F=Rs.feed t (nats (s.extract 0 d)) (Rs.born t p):=⟨_,rfl⟩
   obtain⟨G,hG⟩:∃G,G=Rs.feed t (nats (s.extract d (d+n))) F.1:=⟨_,rfl⟩
   have HF:=vl hF;rw[<-hF] at HPU HCU HLN A;rw[<-hG] at HPU HCU HLN;clear hF hG;have i2:(0:Int)<=(n:Int):=by omega
   have i3:(n:Int)<=(T.size:Int):=by omega
   rcases hn1 with⟨hn1,rfl⟩|⟨hn1,hn2⟩
   ·have i4:¬((T.size:Int)<(n:Int)):=by omega
    go_wp2_with (first|(go_at_call 48;refine(HX.out _).mono ?_;rintro e w0 ⟨rfl,hw0⟩;have hw8:=hw0.symm;subst hw8)|(go_at_call 35;refine(HPU.out _ (by first|rfl|simp)).mono ?_;rintro e w2 ⟨v,rfl,hev2,hsc2,hk2⟩;have HE2:=vl hev2;have HE1:=vl (A.out.2.2.2.1.keep hk2 W1.out.2.2.2.1);have hH2:H<=w2.heap.size:=lY A.out.2.2.2.2.2 hk2.size)|(refine jE rfl _ _ rfl H wr.heap.size _ _ F.2 G.2 rfl HE1 rfl HE2 HLN.out hH2 ?_;intro v4 w4 HE4))
    go_roundg ((s.size-(d+n))*B+k')
    case measure=>rw[A.out.1];exact HME.out.2
    case rel=>
     rw[HR.out];refine⟨d+n,y,k',rfl,hd2,by rw[<-HT2.out],rfl,hy2,by rw[HY.out];exact HME.out.1,?_,?_,?_,lY hH2 HE4.out.2.1.size⟩
     ·rw[HCU.out]
      exact hsc2.keepH HE4.out.2.1 W1.out.2.2.2.1 hH2 fun k hk=>lZ (HSW.out k hk) W1.out.2.2.2.2
     ·rw[HCU.out]
      exact HE4.out.1
     ·exact(A.out.2.2.2.2.1.trans (hk2.lower A.out.2.2.2.2.1.size W1.out.2.2.1)).trans (HE4.out.2.1.lower W1.out.2.2.2.2 W1.out.2.2.2.2)
   ·have i4:(T.size:Int)<(n0:Int):=by omega
    subst hn2;go_wp2_with (first|(go_at_call 48;refine(HX.out _).mono ?_;rintro e w0 ⟨rfl,hw0⟩;have hw8:=hw0.symm;subst hw8)|(go_at_call 35;refine(HPU.out _ (by first|rfl|simp)).mono ?_;rintro e w2 ⟨v,rfl,hev2,hsc2,hk2⟩;have HE2:=vl hev2;have HE1:=vl (A.out.2.2.2.1.keep hk2 W1.out.2.2.2.1);have hH2:H<=w2.heap.size:=lY A.out.2.2.2.2.2 hk2.size)|(refine jE rfl _ _ rfl H wr.heap.size _ _ F.2 G.2 rfl HE1 rfl HE2 HLN.out hH2 ?_;intro v4 w4 HE4))
    go_roundg ((s.size-(d+T.size))*B+k')
    case measure=>rw[A.out.1];exact HME.out.2
    case rel=>
     rw[HR.out];refine⟨d+T.size,y,k',rfl,hd2,by rw[<-HT2.out];congr 1;apply ByteArray.ext;rw[ByteArray.data_extract];simp,rfl,hy2,by rw[HY.out];exact HME.out.1,?_,?_,?_,lY hH2 HE4.out.2.1.size⟩
     ·rw[HCU.out]
      exact hsc2.keepH HE4.out.2.1 W1.out.2.2.2.1 hH2 fun k hk=>lZ (HSW.out k hk) W1.out.2.2.2.2
     ·rw[HCU.out]
      exact HE4.out.1
     ·exact(A.out.2.2.2.2.1.trans (hk2.lower A.out.2.2.2.2.1.size W1.out.2.2.1)).trans (HE4.out.2.1.lower W1.out.2.2.2.2 W1.out.2.2.2.2)
  ·have i1:¬((0:Int)<(T.size:Int)):=by have:=HTz.out;omega
   have hdz:d=s.size:=by omega
   subst hdz;rw[ByteArray.extract_zero_size] at A;have HCL:=vl <| zHe A.out.2.2.1 FT.out (by omega);have HEV:Hid (t.events p s=(Rs.feed t (nats s) (Rs.born t p)).2++((Rs.feed t (nats s) (Rs.born t p)).1.shut t).2):=rfl;have HLN:Hid ((Rs.feed t (nats s) (Rs.born t p)).2.length+((Rs.feed t (nats s) (Rs.born t p)).1.shut t).2.length<=1000000):=by
    have h:=zFt t FT.out p s;show _<=_;omega
   generalize Rs.feed t (nats s) (Rs.born t p)=F at *;go_wp2;apply J.out;clear J;go_wp2_with (first|(go_at_call 42;refine HCL.out.mono ?_;rintro e w2 ⟨v,rfl,hev2,hk2⟩;have HE2:=vl hev2;have HE1:=vl (A.out.2.2.2.1.keep hk2 W1.out.2.2.2.1);have hH2:H<=w2.heap.size:=lY A.out.2.2.2.2.2 hk2.size)|(refine jE rfl _ _ rfl H wr.heap.size _ _ F.2 (F.1.shut t).2 rfl HE1 rfl HE2 HLN.out hH2 ?_;intro v4 w4 HE4))
   refine bodyPost_ret (results_tmp rfl _ _ _) rfl ?_;refine⟨_,rfl,by rw[HEV.out];exact zGS HE4.out.1,?_⟩;exact(A.out.2.2.2.2.1.trans (hk2.lower A.out.2.2.2.2.1.size W1.out.2.2.1)).trans (HE4.out.2.1.lower W1.out.2.2.2.2 W1.out.2.2.2.2)
theorem zD5 (w:World)(S:Nat->Prop)(L p:Nat)(t:Tb)(hL:LexAt w S L p t)(ft:t.Fine)(s:ByteArray)(hs:s.size<=65536)(a b:Int)(ha1:-9223372036854775808<=a)(ha2:a<=9223372036854775807)(hb1:-9223372036854775808<=b)(hb2:b<=9223372036854775807):
  Calls prog 17 #[.pointer (some ⟨L,0,none⟩),.string s,.int .i64 a,.int .i64 b] w fun e w'=>e=.returned (.bool true)∧Grew w w':=by
 obtain⟨m,hm⟩:∃m,m=zEc b 9:=⟨_,rfl⟩
 have hm2:m<9:=by rw[hm];exact zE6 _ _ (by decide)
 have HPB:Hid (∀w2,Calls prog 15 #[.int .i64 b,.int .i64 9] w2 fun e w'=>e=.returned (.int .i64 (m:Nat))∧w'=w2):=fun w2=>by rw[hm];exact zCL w2 b hb1 hb2 9 (by decide) (by decide)
 have HSC:Hid (∀w2,Grew w w2->Calls prog 27 #[.pointer (some ⟨L,0,none⟩),.string s] w2 fun e w'=>∃ao n cap,e=.returned (.slice ao n cap)∧EvsAt w' (.slice ao n cap) (t.events p s)∧Grew w2 w'):=fun w2 hk=>(zBQ (hL.grown hk) ft s (by omega)).mono (by rintro e w' ⟨v,rfl,h1,h2⟩;obtain⟨ao,cap,rfl,-⟩:=id h1;exact⟨ao,_,cap,rfl,h1,h2⟩);have HPI:∀w2 (q:Nat) (z:Int),z=q->Grew w w2->1<=q->q<=100000->Calls prog 31 #[.pointer (some ⟨L,0,none⟩),.string s,.int .i64 a,.int .i64 z] w2 fun e w'=>∃ao n cap,e=.returned (.slice ao n cap)∧EvsAt w' (.slice ao n cap) (t.events p s)∧Grew w2 w':=fun w2 q z hz hk h1 h2=>by
  rw[hz];exact(zGP w2 S L p t (hL.grown hk) ft s hs a ha1 ha2 q h1 h2).mono (by rintro e w' ⟨v,rfl,h1,h2⟩;obtain⟨ao,cap,rfl,-⟩:=id h1;exact⟨ao,_,cap,rfl,h1,h2⟩)
 have HP1:Hid (∀w2,Grew w w2->Calls prog 31 #[.pointer (some ⟨L,0,none⟩),.string s,.int .i64 a,.int .i64 (1+(m:Int))] w2 fun e w'=>∃ao n cap,e=.returned (.slice ao n cap)∧EvsAt w' (.slice ao n cap) (t.events p s)∧Grew w2 w'):=fun w2 hk=>HPI w2 (1+m) _ (by omega) hk (by omega) (by omega);have HP2:Hid (∀w2,Grew w w2->Calls prog 31 #[.pointer (some ⟨L,0,none⟩),.string s,.int .i64 a,.int .i64 ((s.size:Int)+1)] w2 fun e w'=>∃ao n cap,e=.returned (.slice ao n cap)∧EvsAt w' (.slice ao n cap) (t.events p s)∧Grew w2 w'):=fun w2 hk=>HPI w2 (s.size+1) _ (by omega) hk (by omega) (by omega);generalize t.events p s=E at *;clear HPI hL ft ha1 ha2 hb1 hb2 hm;go_in;apply wp_cut;intro K0 J;go_wp2;apply J.out;clear J;apply wp_cut;intro K0 J;go_wp2_with (first|(go_at_call 27;refine(HSC.out w (Keep.refl _ _ _)).mono ?_;rintro e w1 ⟨a1,n1,c1,rfl,he1,hk1⟩))
 apply J.out;clear J;apply wp_cut;intro K0 J;go_wp2_with (first|(go_at_call 15;refine(HPB.out _).mono ?_;rintro e w0 ⟨rfl,hw0⟩;have hw8:=hw0.symm;subst hw8))
 apply J.out;clear J;apply wp_cut;intro K0 J;go_wp2_with (first|(go_at_call 31;refine(HP1.out w1 hk1).mono ?_;rintro e w2 ⟨a2,n2,c2,rfl,he2,hk2⟩))
 apply J.out;clear J;have K2:Hid (Grew w w2∧EvsAt w2 (.slice a1 n1 c1) E∧EvsAt w2 (.slice a2 n2 c2) E):=⟨hk1.trans (hk2.lower hk1.size hk1.size),he1.grown hk2,he2⟩
 clear he1 he2 hk1 hk2 HP1 HSC HPB;apply wp_cut;intro K0 J;go_wp2_with (first|(go_at_call 31;refine(HP2.out w2 K2.out.1).mono ?_;rintro e w3 ⟨a3,n3,c3,rfl,he3,hk3⟩))
 apply J.out;clear J;have K3:Hid (Grew w w3∧EvsAt w3 (.slice a1 n1 c1) E∧EvsAt w3 (.slice a2 n2 c2) E∧EvsAt w3 (.slice a3 n3 c3) E):=⟨K2.out.1.trans (hk3.lower K2.out.1.size K2.out.1.size),K2.out.2.1.grown hk3,K2.out.2.2.grown hk3,he3⟩
 clear he3 hk3 K2 HP2;have HS1:=vl <| zEU w3 _ _ E K3.out.2.1 K3.out.2.2.1;have HS2:Hid (∀w4,Grew w3 w4->Calls prog 32 #[.slice a1 n1 c1,.slice a3 n3 c3] w4 fun e w'=>e=.returned (.bool true)∧Grew w4 w'):=fun w4 hk=>zEU w4 _ _ E (K3.out.2.1.grown hk) (K3.out.2.2.2.grown hk);apply wp_cut;intro K0 J;go_wp2_with (first|(go_at_call 32;refine HS1.out.mono ?_;rintro e w4 ⟨rfl,hk4⟩))
 apply J.out;clear J;apply wp_cut;intro K0 J;go_wp2_with (first|(go_at_call 32;refine(HS2.out w4 hk4).mono ?_;rintro e w5 ⟨rfl,hk5⟩))
 apply J.out;clear J;go_wp2;refine bodyPost_ret (results_tmp rfl _ _ _) rfl ?_;have hk6:=hk4.trans (hk5.lower hk4.size hk4.size);exact⟨rfl,K3.out.1.trans (hk6.lower K3.out.1.size K3.out.1.size)⟩
theorem zKj (w:World)(s d:ByteArray)(a b:Int)(ha1:-9223372036854775808<=a)(ha2:a<=9223372036854775807)(hb1:-9223372036854775808<=b)(hb2:b<=9223372036854775807):Calls prog 4 #[.string s,.string d,.int .i64 a,.int .i64 b] w fun e w'=>e=.returned (.bool true)∧Grew w w':=by
 rcases zDZ w s d with HB|⟨y,hl,hs,hd,HB⟩
 ·have HBG:=vl HB
  clear HB;go_in;go_wp2_with (first|(go_at_call 14;refine HBG.out.mono ?_;rintro e w1 ⟨rfl,hk1⟩))
  refine bodyPost_ret (results_tmp rfl _ _ _) rfl ?_;exact⟨rfl,hk1⟩
 have HBG:=vl HB;obtain⟨h,hh⟩:∃h,h=zEc a 64:=⟨_,rfl⟩
 have h64:h<64:=by rw[hh];exact zE6 _ _ (by decide)
 have HPK:Hid (∀w2,Calls prog 15 #[.int .i64 a,.int .i64 64] w2 fun e w'=>e=.returned (.int .i64 (h:Nat))∧w'=w2):=fun w2=>by rw[hh];exact zCL w2 a ha1 ha2 64 (by decide) (by decide)
 have HOF:Hid (∀w2 fo,Calls prog 16 #[.string s,.int .i64 (1+(h:Int)),.bool fo] w2 fun e w'=>Grew w2 w'∧∃L m0 m1 m2 s0 s1 s2 v0 v1 v2 AH ST LN,e=.returned (.tuple #[.pointer (some ⟨L,0,none⟩),.agg #[.slice m0 m1 m2,.slice s0 s1 s2,.slice v0 v1 v2,.int .i64 AH,.bool ST,.int .i64 LN]])∧Hid (∀w3,Grew w' w3->(Calls prog 17 #[.pointer (some ⟨L,0,none⟩),.string d,.int .i64 a,.int .i64 b] w3 fun e w4=>e=.returned (.bool true)∧Grew w3 w4)∧(Calls prog 17 #[.pointer (some ⟨L,0,none⟩),.string d,.int .i64 b,.int .i64 a] w3 fun e w4=>e=.returned (.bool true)∧Grew w3 w4))):=fun w2 fo=>by
  have hc:=zDb w2 s (by omega) (1+h) (by omega) (by omega) fo;rw[show ((1+h:Nat):Int)=1+(h:Int) by omega] at hc;refine hc.mono ?_;rintro e w' ⟨hk,x,m0,m1,m2,s0,s1,s2,v0,v1,v2,AH,ST,LN,rfl,hq⟩;unfold OfQ at hq;rw[hl] at hq;obtain⟨L,t,rfl,-,-,hL⟩:=hq;refine⟨hk,L,m0,m1,m2,s0,s1,s2,v0,v1,v2,AH,ST,LN,rfl,fun w3 hk3=>?_⟩;obtain⟨S,p,hA,-⟩:=hL.at_;exact⟨zD5 w3 S L p t (hA.grown hk3) hL.fine d hd a b ha1 ha2 hb1 hb2,zD5 w3 S L p t (hA.grown hk3) hL.fine d hd b a hb1 hb2 ha1 ha2⟩
 clear hh ha1 ha2 hb1 hb2 hl HB;go_in;apply wp_cut;intro K0 J;go_wp2;apply J.out;clear J;apply wp_cut;intro K0 J;go_wp2_with (first|(go_at_call 14;refine HBG.out.mono ?_;rintro e w1 ⟨rfl,hk1⟩))
 apply J.out;clear J;apply wp_cut;intro K0 J;go_wp2;apply J.out;clear J;apply wp_cut;intro K0 J;go_wp2_with (first|(go_at_call 15;refine(HPK.out _).mono ?_;rintro e w0 ⟨rfl,hw0⟩;have hw8:=hw0.symm;subst hw8))
 apply J.out;clear J;apply wp_cut;intro K0 J;go_wp2_with (first|(go_at_call 16;refine(HOF.out _ _).mono ?_;rintro e w2 ⟨hk2,L,m0,m1,m2,s0,s1,s2,v0,v1,v2,AH,ST,LN,rfl,HS1⟩))
 apply J.out;clear J;obtain⟨w3,hw3,HW3⟩:∃w3,w3=w2.alloc (.cells #[.slice m0 m1 m2,.slice s0 s1 s2,.slice v0 v1 v2,.int .i64 AH,.bool ST,.int .i64 LN] 30)∧Hid (Grew w w3∧Grew w2 w3):=⟨_,rfl,(hk1.trans (hk2.lower hk1.size hk1.size)).trans (kZ _ _ (lY hk1.size hk2.size)),kZ _ _ lQ⟩
 rw[<-hw3];clear hw3 hk2 hk1 HBG HPK;apply wp_cut;intro K0 J;go_wp2_with (first|(go_at_call 16;refine(HOF.out _ _).mono ?_;rintro e w4 ⟨hk4,L2,m0,m1,m2,s0,s1,s2,v0,v1,v2,AH,ST,LN,rfl,HS2⟩))
 apply J.out;clear J;obtain⟨w5,hw5,HW5⟩:∃w5,w5=w4.alloc (.cells #[.slice m0 m1 m2,.slice s0 s1 s2,.slice v0 v1 v2,.int .i64 AH,.bool ST,.int .i64 LN] 30)∧Hid (Grew w w5∧Grew w2 w5∧Grew w4 w5):=by
  have h45:Grew w4 (w4.alloc (.cells #[.slice m0 m1 m2,.slice s0 s1 s2,.slice v0 v1 v2,.int .i64 AH,.bool ST,.int .i64 LN] 30)):=kZ _ _ lQ;have h35:=hk4.trans (h45.lower hk4.size hk4.size);exact⟨_,rfl,HW3.out.1.trans (h35.lower HW3.out.1.size HW3.out.1.size),HW3.out.2.trans (h35.lower HW3.out.2.size HW3.out.2.size),h45⟩
 have HC1:=vl (HS1.out w5 HW5.out.2.1).1;have HC2:Hid (∀w6,Grew w5 w6->Calls prog 17 #[.pointer (some ⟨L2,0,none⟩),.string d,.int .i64 b,.int .i64 a] w6 fun e w4=>e=.returned (.bool true)∧Grew w6 w4):=fun w6 hk=>(HS2.out w6 (HW5.out.2.2.trans (hk.lower HW5.out.2.2.size HW5.out.2.2.size))).2;rw[<-hw5];clear hw5 hk4 HW3 HS1 HS2 HOF;apply wp_cut;intro K0 J;go_wp2;apply J.out;clear J;apply wp_cut;intro K0 J;go_wp2_with (first|(go_at_call 17;refine HC1.out.mono ?_;rintro e w6 ⟨rfl,hk6⟩))
 apply J.out;clear J;apply wp_cut;intro K0 J;go_wp2_with (first|(go_at_call 17;refine(HC2.out w6 hk6).mono ?_;rintro e w7 ⟨rfl,hk7⟩))
 apply J.out;clear J;go_wp2;refine bodyPost_ret (results_tmp rfl _ _ _) rfl ?_;have hk8:=hk6.trans (hk7.lower hk6.size hk6.size);exact⟨rfl,HW5.out.1.trans (hk8.lower HW5.out.1.size HW5.out.1.size)⟩
section
open Go.ChangeShapes Go.WideShapes Go.ChangeAt Go.RowKit
open Go.ChangeMaps (open_string shut_string)
theorem zGD (os:Os)(started:os.Started)(H:Type)(enc:TypeId×Value->H):
  ReturnsInHanded {} checked os 4 .any (Rows.splitSpec.pre6 enc prog f4 Rows.splitRow.domain false) (Rows.splitSpec.post enc prog f4 false true false false):=by
 refine returnsInHanded_of_change (C:=checked) own started (by kernel_rfl) func4
  (ChangeSpec.witness6 (enc:=enc) (C:=checked) false ⟨#[],#[.string ⟨#[]⟩,.string ⟨#[]⟩,.int .i64 0,.int .i64 0],[]⟩ 8 (by kernel_rfl) (by kernel_rfl) (by kernel_rfl) (by kernel_rfl)) ?_
 intro W base args ds gs before hval0 hW _ _;have hval:=hval0;have hW':=hW;obtain⟨p,q,hA0,hV,rfl,hfz,hnd⟩:=hW;have hA:=hA0;rw[params4] at hA hval;obtain⟨v0,vs0,d0,ds0,p0,q0,hargs,rfl,rfl,h0,r0⟩:=trodAll_cons hA;obtain⟨v1,vs1,d1,ds1,p1,q1,rfl,rfl,rfl,h1,r1⟩:=trodAll_cons r0;obtain⟨v2,vs2,d2,ds2,p2,q2,rfl,rfl,rfl,h2,r2⟩:=trodAll_cons r1;obtain⟨v3,vs3,d3,ds3,p3,q3,rfl,rfl,rfl,h3,r3⟩:=trodAll_cons r2;obtain⟨rfl,rfl,rfl⟩:=trodAll_nil r3;have hargs2:args=#[v0,v1,v2,v3]:=by cases args;simp_all
 subst hargs2;obtain⟨rfl,rfl⟩:=trodVars_none hV;obtain⟨a0,rfl,rfl,rfl,w0⟩:=open_string underlying9 (hval 0 9 v0 rfl rfl) h0;obtain⟨a1,rfl,rfl,rfl,w1⟩:=open_string underlying9 (hval 1 9 v1 rfl rfl) h1;obtain⟨a2,rfl,rfl,rfl,w2⟩:=open_int underlying3 (hval 2 3 v2 rfl rfl) h2;obtain⟨l2,u2⟩:=zLJ w2;obtain⟨a3,rfl,rfl,rfl,w3⟩:=open_int underlying3 (hval 3 3 v3 rfl rfl) h3;obtain⟨l3,u3⟩:=zLJ w3;simp only[List.append_nil] at hW';refine(zKj W a0 a1 a2 a3 l2 u2 l3 u3).mono fun e W' ⟨he,hk⟩=>?_;subst he;exact⟨_,rfl,zCJ hW' (fun _ _ _=>trodAll_mk1 (shut_bool underlying4 _)) (fun sp=>zAR (shut_string underlying9 w0) (zAR (shut_string underlying9 w1) (zAR (shut_int underlying3 w2) (zAR (shut_int underlying3 w3) (trodAll_mk0))))) (fun _=>rfl)
  (hk.frame _) (ok_one (by kernel_rfl) rfl (okWide_bool_mk underlying4 _))⟩
theorem split_holds:Rows.SplitSaid:=
 OpenClaim.holds_of_wide 4 f4 rfl rfl rfl rfl rfl rfl rfl ⟨rfl,rfl,rfl,rfl,rfl⟩ rfl rfl rfl rfl rfl (by kernel_rfl) func4 (by kernel_rfl)
  (of_decide_eq_true (by kernel_rfl)) (by unfold Func.isWrapper;first|(rw [if_pos (by decide +kernel)];kernel_rfl)|(rw [if_neg (by decide +kernel)];exact⟨rfl,rfl⟩))
  (fun os started H enc _=>zGD os started H enc)
end
end Go.Proofs.YtbjcfkdnjaiclaaGreat
