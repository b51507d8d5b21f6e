import Derived.Deep.RegionLaw
import Derived.Test.YtbjcfkdnjaiclaaGreatS0
import Derived.Test.YtbjcfkdnjaiclaaGreatS4
/- Parts of the proof. -/
set_option linter.unusedVariables false
set_option linter.unusedSimpArgs false
set_option maxHeartbeats 4000000
set_option maxRecDepth 100000
namespace Go.Proofs.YtbjcfkdnjaiclaaGreat
open Go.RowKit Go.Proofs.Tryz Go.World
open Go.Value (int slice bool pointer string agg tuple)
open Go.IntKind (i64)
open Go.Ending (returned)
structure Wx (H a:Nat)(S:Nat->Prop)(b:Nat)(t:Tb)(w:World)(l:List Nat):Prop where
 wt:Wt H a w l
 tab:TabAt w S b t
 safe:∀k,S k->k<H/\k≠a
theorem Wx.next {H a:Nat}{S:Nat->Prop}{b:Nat}{t:Tb}{w w':World}{l d:List Nat}(c:Wx H a S b t w l)(f:Wt H a w' d)(g:Keep H a w w'):Wx H a S b t w' d:=
 ⟨f,c.tab.keep λk e=>g.block k (c.safe k e).1 (c.safe k e).2,c.safe⟩
def qK (t:Tb):Nat:=if t.stream then 1 else 0
def Tb.headL (t:Tb):List Nat:=[76,88,qK t,t.ahead%256,t.hold%256]++two t.nmode++two t.nrule++two t.nst++two t.count
theorem zIQ (H a b:Nat)(S:Nat->Prop)(t:Tb)(w:World)(X:Wx H a S b t w [])(ok:t.Ok)(Y:t.nrule<=8)(aa:t.nmode<=3):
  Calls prog 76 #[pX a,pX b] w λe w'=>e=returned (tuple #[])/\Wx H a S b t w' t.headL/\Keep H a w w':=by
 have K:=vl X;have ab:=ok.ahead;have b2:=ok.hold;have ac:=ok.nst;have ad:=ok.count;cases q:t.stream with
 |true=>
  have L:Hid (qK t=1):=by show _=_;unfold qK;rw[q];rfl
  have M:=vl q;go_in;go_wp2_with fail;refine(jO H a w _ K.wt (76) (by simp[two]) (by omega)).mono ?_;rintro e w1 ⟨rfl,c,r⟩;have s:=vl <| K.next c r
  go_wp2_with fail;refine(jO H a w1 _ s.wt (88) (by simp[two]) (by omega)).mono ?_;rintro e w2 ⟨rfl,c,u⟩;have d:=vl <| s.next c u
  clear c;have N:cX w2 b 0=some (bool true):=by rw[<-M.out];exact d.tab.c0
  go_wp2_with fail;refine(jO H a w2 _ d.wt (1) (by simp[two]) (by omega)).mono ?_;rintro e f ⟨rfl,c,v⟩;have g:Hid (Wx H a S b t f _):=d.next c v
  clear c N;have O:cX f b 1=some (iX (t.ahead:Nat)):=g.tab.c1;go_wp2_with fail;refine(jO H a f _ g.wt (t.ahead) (by simp[two]) (by omega)).mono ?_;rintro e i ⟨rfl,c,x⟩;have j:Hid (Wx H a S b t i _):=g.next c x
  clear c O;have P:cX i b 2=some (iX (t.hold:Nat)):=j.tab.c2;go_wp2_with fail;refine(jO H a i _ j.wt (t.hold) (by simp[two]) (by omega)).mono ?_;rintro e y ⟨rfl,c,z⟩;have k:Hid (Wx H a S b t y _):=j.next c z
  clear c P;obtain⟨_,y3,A,B,C,_,rfl,_,_,_⟩:=k.tab.c3;go_wp2_with fail;refine(zBB H a y _ k.wt (t.nmode) (by simp[two]) (by omega)).mono ?_;rintro e D ⟨rfl,c,E⟩;have l:Hid (Wx H a S b t D _):=k.next c E
  clear c y3;obtain⟨_,Q,A,B,C,_,rfl,_,_,_⟩:=l.tab.c4;go_wp2_with fail;refine(zBB H a D _ l.wt (t.nrule) (by simp[two]) (by omega)).mono ?_;rintro e F ⟨rfl,c,G⟩;have m:Hid (Wx H a S b t F _):=l.next c G
  clear c Q;obtain⟨_,R,A,B,C,_,rfl,_,_,_⟩:=m.tab.c8;go_wp2_with fail;refine(zBB H a F _ m.wt (t.nst) (by simp[two]) (by omega)).mono ?_;rintro e o ⟨rfl,c,I⟩;have p:Hid (Wx H a S b t o _):=m.next c I
  clear c R;have T:cX o b 7=some (iX (t.count:Nat)):=p.tab.c7;go_wp2_with fail;refine(zBB H a o _ p.wt (t.count) (by simp[two]) (by omega)).mono ?_;rintro e U ⟨rfl,c,J⟩;have V:Hid (Wx H a S b t U _):=p.next c J
  clear c T;go_wp2_with fail;go_end0;refine⟨rfl,?_,((((((((r.trans u).trans v).trans x).trans z).trans E).trans G).trans I).trans J)⟩;have W:=V.out;unfold Tb.headL;rw[L.out];simpa[hJ,two] using W
 |false=>
  have L:Hid (qK t=0):=by show _=_;unfold qK;rw[q];rfl
  have M:Hid (t.stream=false):=q;clear q;go_enter func76,ntmps76
  go_wp2_with fail;refine(jO H a w _ K.wt (76) (by simp[two]) (by omega)).mono ?_;rintro e w1 ⟨rfl,c,r⟩;have s:Hid (Wx H a S b t w1 _):=K.next c r
  clear c;go_wp2_with fail;refine(jO H a w1 _ s.wt (88) (by simp[two]) (by omega)).mono ?_;rintro e w2 ⟨rfl,c,u⟩;have d:Hid (Wx H a S b t w2 _):=s.next c u
  clear c;have N:cX w2 b 0=some (bool false):=by rw[<-M.out];exact d.tab.c0
  go_wp2_with fail;refine(jO H a w2 _ d.wt (0) (by simp[two]) (by omega)).mono ?_;rintro e f ⟨rfl,c,v⟩;have g:Hid (Wx H a S b t f _):=d.next c v
  clear c N;have O:cX f b 1=some (iX (t.ahead:Nat)):=g.tab.c1;go_wp2_with fail;refine(jO H a f _ g.wt (t.ahead) (by simp[two]) (by omega)).mono ?_;rintro e i ⟨rfl,c,x⟩;have j:Hid (Wx H a S b t i _):=g.next c x
  clear c O;have P:cX i b 2=some (iX (t.hold:Nat)):=j.tab.c2;go_wp2_with fail;refine(jO H a i _ j.wt (t.hold) (by simp[two]) (by omega)).mono ?_;rintro e y ⟨rfl,c,z⟩;have k:Hid (Wx H a S b t y _):=j.next c z
  clear c P;obtain⟨_,y3,A,B,C,_,rfl,_,_,_⟩:=k.tab.c3;go_wp2_with fail;refine(zBB H a y _ k.wt (t.nmode) (by simp[two]) (by omega)).mono ?_;rintro e D ⟨rfl,c,E⟩;have l:Hid (Wx H a S b t D _):=k.next c E
  clear c y3;obtain⟨_,Q,A,B,C,_,rfl,_,_,_⟩:=l.tab.c4;go_wp2_with fail;refine(zBB H a D _ l.wt (t.nrule) (by simp[two]) (by omega)).mono ?_;rintro e F ⟨rfl,c,G⟩;have m:Hid (Wx H a S b t F _):=l.next c G
  clear c Q;obtain⟨_,R,A,B,C,_,rfl,_,_,_⟩:=m.tab.c8;go_wp2_with fail;refine(zBB H a F _ m.wt (t.nst) (by simp[two]) (by omega)).mono ?_;rintro e o ⟨rfl,c,I⟩;have p:Hid (Wx H a S b t o _):=m.next c I
  clear c R;have T:cX o b 7=some (iX (t.count:Nat)):=p.tab.c7;go_wp2_with fail;refine(zBB H a o _ p.wt (t.count) (by simp[two]) (by omega)).mono ?_;rintro e U ⟨rfl,c,J⟩;have V:Hid (Wx H a S b t U _):=p.next c J
  clear c T;go_wp2_with fail;go_end0;refine⟨rfl,?_,((((((((r.trans u).trans v).trans x).trans z).trans E).trans G).trans I).trans J)⟩;have W:=V.out;unfold Tb.headL;rw[L.out];simpa[hJ,two] using W
theorem zKs (b o j:Nat):(⟨b,o,none⟩:Addr).add j=⟨b,o+j,none⟩:=by unfold Addr.add;split <;> simp_all
def u8s (l:List Nat):List UInt8:=l.map UInt8.ofNat
theorem zNZ {w:World}{H g n cap:Nat}{l:List Nat}(c:w.ownsRow H 5 1 (slice (qX g) n cap) n (l.map λx=>int .u8 (x:Nat)))(f:∀x∈l,x<256):
  (convert 68 9 (slice (qX g) n cap)).run prog w=.ok (string ⟨(u8s l).toArray⟩) w:=by
 have i:(u8s l).length=n:=by have:=c.1;simp[u8s] at *;omega
 rw[<-i];refine run_convert_bytes_back _ 68 9 5 ⟨g,0,none⟩ cap (u8s l) underlying68 underlying5 underlying9 ?_;intro j k;rcases c.2 with⟨a,_⟩|⟨s,t,m,a,u,o,v,y,z,p⟩
 ·cases a
 ·injection a with b _ q
  injection b with b;injection b with r;subst r q;have d:j<l.length:=by simpa[u8s] using k
  have e:(m.toList.take (n*1))[j]? =some (int .u8 ((u8s l)[j].toNat:Nat)):=by
   rw[p,gQ,lV d];have A:=f l[j] (List.getElem_mem d);simp[u8s];omega
  rw[List.getElem?_take,if_pos (by omega)] at e;rw[zKs,Nat.zero_add];simp[World.cell?,o];simpa using e
def Tb.longL (t:Tb):List Nat:=(List.range t.nlong).map t.long
def sealed (l:List Nat):List UInt8:=u8s l++four (4294967295-zAh (u8s l))
theorem zQG (H a b:Nat)(S:Nat->Prop)(t:Tb)(w:World)(l:List Nat)(c:Wx H a S b t w l)(ok:t.Ok)(ar:l.length<=900000)(J:∀x∈l,x<256)(au:1<=t.nst)(A:1<=t.count)(av:1<=t.nlong)(aw:t.nlong<=75000)(ax:1<=t.nrule)(ay:t.nrule<=8)(az:t.nmode<=3)
  {u1 u2 u4 u5 u6 u7 u8 u9 u10 u11 u12 u13 u14 u15 u16 u17 u18 u19 u20 u21 u22 u23 u24 u25 u26 u27 u28 u29 u30 u31 u32 u33 u34 u35 u36 u37 u38 u39 u40 u41 u42 u43 u44 u45 u46 u47 u48 u49 u50 u51 u52 u53 u54 u55 u56 u57 u58 u59 u60 u61 u62 u63 u64 u65 u66 u67 u68 u69 u70 u71 u72 u73 u74 u75 u76 u77 u78 u79 u80 u81 u82 u83 u84 u85 u86 u87 u88 u89 u90 u91 u92 u93 u94 u95 u96 u97 u98 u99 u100 u101 u102 u103 u104 u105 u106 u107 u108 u109 u110 u111:Value}:
  Code.wp prog (xO 8 ((f51.body).getD .skip)) (bodyPost prog f51 λe w'=>
   (∃r:ByteArray,e=returned (string r)/\r.data.toList=sealed (l++t.longL))/\Keep H a w w')
   ⟨(pX b::u1::u2::pX a::u4::u5::u6::u7::u8::u9::u10::u11::u12::u13::u14::u15::u16::u17::u18::u19::u20::u21::u22::u23::u24::u25::u26::u27::u28::u29::u30::u31::u32::u33::u34::u35::u36::u37::u38::u39::u40::u41::u42::u43::u44::u45::u46::u47::u48::u49::u50::u51::u52::u53::u54::u55::u56::u57::u58::u59::u60::u61::u62::u63::u64::u65::u66::u67::u68::u69::u70::u71::u72::u73::u74::u75::u76::u77::u78::u79::u80::u81::u82::u83::u84::u85::u86::u87::u88::u89::u90::u91::u92::u93::u94::u95::u96::u97::u98::u99::u100::u101::u102::u103::u104::u105::u106::u107::u108::u109::u110::u111::[]).toArray,[]⟩ w:=by
 conv=>arg 2;whnf
 have aA:=vl c;have L:=c.wt.2.1;have m:=c.wt.2.2;obtain⟨⟨v,q,B⟩,_,_⟩:=c.wt;obtain⟨_,aB,C,D,M,aC,rfl,aD,aE,N⟩:=c.tab.c12;obtain⟨O,P,Q,R,T⟩:=info_parts zIp;have U:cX w a 0=some v:=by simp[World.cell?,q]
 have V:w.frozen? ⟨a,0,none⟩=false:=by simp[World.frozen?,q]
 have W:=vl q;have E:=vl B;have aa:Hid (∀j u,(t.longL.map λx=>(int .u8 (x:Nat):Value))[j]? =some u->w.cell? ((⟨C,D,none⟩:Addr).add j)=some u):=by
  intro j u o;have F:j<t.nlong:=by have:=(List.getElem?_eq_some_iff.1 o).1;simpa[Tb.longL] using this
  rw[zKs];have e:=N j F;rw[e,<-o];simp[Tb.longL,F]
 have ab:Hid (∀x∈l++t.longL,x<256):=by
  intro x ac;rcases kU.1 ac with s|s
  ·exact J x s
  ·obtain⟨i,ad,rfl⟩:=List.mem_map.1 s
   exact ok.longB i (List.mem_range.1 ad)
 have aF:=lZ (c.safe _ c.tab.safe).1 m;have aG:=(c.safe _ c.tab.safe).2;have p:a<w.heap.size:=by omega
 have y:v.ownBlock≠some a:=λe=>by have:=(B.lt a e).1;omega
 apply wp_cut;intro aH ae;go_wp2;go_region_law
  ((refine step_append_lies _ (by rfl) (.tmp 98) (.tmp 102) 68 (by rfl) H 5 O (int .u8 0) 1 1 underlying68 P Q R T rfl (by omega) v l.length _ (by simp[Act.eval,Act.put]) E.drew ⟨C,D,none⟩ t.nlong M (t.longL.map λx=>int .u8 (x:Nat)) (by simp[Act.eval,Act.put]) (by simp[Tb.longL]) aa (by intro u o;obtain⟨x,_,rfl⟩:=List.mem_map.1 o;rfl) (by omega) (by unfold maxLen;omega) (by omega) (by simpa using m) _ rfl ?_;intro z cap w1 G f af ah;have A:=(f.cell_far ⟨a,0,none⟩ p (Ne.symm y)).trans U;have ai:=(f.frozen_far ⟨a,0,none⟩ p (Ne.symm y)).trans V))
 all_goals
  apply ae.out;obtain⟨w2,I,g⟩:∃w2,w2=w1.setCell ⟨a,0,none⟩ (slice (qX z) (l.length+t.nlong) cap)/\Hid (w2.ownsRow H 5 1 (slice (qX z) (l.length+t.nlong) cap) (l.length+t.nlong) ((l++t.longL).map λx=>int .u8 (x:Nat))/\cX w2 a 0=some (slice (qX z) (l.length+t.nlong) cap)/\Keep H a w w2):=by
   have aj:=(f.block a p (Ne.symm y)).trans W;refine⟨_,rfl,xW ?_ (λ_=>Keep.set _ _ _) L,?_,((Keep.drew _).trans (Keep.grown f m λk ak=>(E.lt k ak).1)).trans (Keep.set _ _ _)⟩
   ·rw[List.map_append];exact G
   ·simp[World.cell?,setCell,lU,aj]
  rw[<-I];have aI:=g.2.1;have aJ:=zNZ g.1 ab;have aK:=lZ p g.2.2.size;have al:(l++t.longL).length<=1000000:=by simp[Tb.longL];omega
  clear I G f af ah A ai;generalize am:l++t.longL=d at *;have aL:=vl am;go_wp2_with fail;refine(zE2 ⟨(u8s d).toArray⟩ w2 (by simp[u8s,ByteArray.size];omega)).mono ?_;rintro e aM ⟨rfl,an⟩;have ao:=vl <| g.2.2.trans (Keep.below an (lY m g.2.2.size));have aN:(⟨(u8s d).toArray⟩:ByteArray).size<=1000000:=by simpa[u8s,ByteArray.size] using al
  have aO:(⟨(four (4294967295-zAh (⟨(u8s d).toArray⟩:ByteArray).data.toList)).toArray⟩:ByteArray).size=4:=rfl;have ap:Hid ((⟨(u8s d).toArray⟩:ByteArray).data.toList++(⟨(four (4294967295-zAh (⟨(u8s d).toArray⟩:ByteArray).data.toList)).toArray⟩:ByteArray).data.toList=sealed d):=rfl;generalize (⟨(four (4294967295-zAh (⟨(u8s d).toArray⟩:ByteArray).data.toList)).toArray⟩:ByteArray)=aq at *;generalize (⟨(u8s d).toArray⟩:ByteArray)=X at *;go_wp2;go_ret;refine⟨⟨X++aq,rfl,?_⟩,ao⟩;rw[<-ap.out];simp
theorem vR {a:Type}(f:Nat->List a)(j:Nat):(List.range (j+1)).flatMap f=(List.range j).flatMap f++f j:=by rw[List.range_succ,List.flatMap_append];simp
theorem zBW (n x:Nat)(a:x∈two n):x<256:=by
 simp[two] at a;rcases a with rfl|rfl <;> exact hY _ (by decide)
theorem zGw (f:Nat->Nat)(j x:Nat)(a:x∈(List.range j).flatMap λi=>two (f i)):x<256:=by
 obtain⟨i,_,b⟩:=List.mem_flatMap.1 a;exact zBW _ _ b
theorem zCa (f:Nat->Nat)(j:Nat):((List.range j).flatMap λi=>two (f i)).length=2*j:=by
 induction j with
 |zero=>rfl
 |succ j a=>rw[vR,kX,a];simp[two];omega
theorem zFA (f:Nat->Nat)(j x:Nat)(a:x∈(List.range j).map λi=>f i%256):x<256:=by
 obtain⟨i,_,rfl⟩:=List.mem_map.1 a;exact hY _ (by decide)
theorem qJ {l k:List Nat}(b:∀x∈l,x<256)(c:∀x,x∈k->x<256):∀x∈l++k,x<256:=by
 intro x d;rcases kU.1 d with a|a
 ·exact b x a
 ·exact c x a
def Tb.endN (t:Tb)(i:Nat):Nat:=(t.ends i+1).toNat
def Tb.endsL (t:Tb)(j:Nat):List Nat:=(List.range j).map λi=>t.endN i%256
def Tb.rowL (t:Tb)(i j:Nat):List Nat:=(List.range j).flatMap λm=>two (t.next i m)
def Tb.nextL (t:Tb)(j:Nat):List Nat:=(List.range j).flatMap λi=>t.rowL i t.count
theorem zBL (t:Tb)(j:Nat):(t.nextL j).length=2*t.count*j:=by
 induction j with
 |zero=>rfl
 |succ j a=>
  unfold Tb.nextL at a ⊢;rw[vR,kX,a,Nat.mul_succ];unfold Tb.rowL;rw[zCa]
theorem zJK (t:Tb)(j x:Nat)(a:x∈t.nextL j):x<256:=by
 obtain⟨i,_,b⟩:=List.mem_flatMap.1 a;exact zGw _ _ _ b
theorem zQH (H a b:Nat)(S:Nat->Prop)(t:Tb)(w:World)(l:List Nat)(d:Wx H a S b t w l)(ok:t.Ok)(Y:l.length<=800000)(z:∀x∈l,x<256)(A:1<=t.nst)(B:1<=t.count)(C:1<=t.nlong)(D:t.nlong<=75000)(E:1<=t.nrule)(F:t.nrule<=8)(G:t.nmode<=3)
  {u1 u2 u4 u5 u6 u7 u8 u9 u10 u11 u12 u13 u14 u15 u16 u17 u18 u19 u20 u21 u22 u23 u24 u25 u26 u27 u28 u29 u30 u31 u32 u33 u34 u35 u36 u37 u38 u39 u40 u41 u42 u43 u44 u45 u46 u47 u48 u49 u50 u51 u52 u53 u54 u55 u56 u57 u58 u59 u60 u61 u62 u63 u64 u65 u66 u67 u68 u69 u70 u71 u72 u73 u74 u75 u76 u77 u78 u79 u80 u81 u82 u83 u84 u85 u86 u87 u88 u89 u90 u91 u92 u93 u94 u95 u96 u97 u98 u99 u100 u101 u102 u103 u104 u105 u106 u107 u108 u109 u110 u111:Value}:
  Code.wp prog (xO 7 ((f51.body).getD .skip)) (bodyPost prog f51 λe w'=>
   (∃r:ByteArray,e=returned (string r)/\r.data.toList=sealed (l++t.endsL t.nst++t.longL))/\Keep H a w w')
   ⟨(pX b::u1::u2::pX a::u4::u5::u6::u7::u8::u9::u10::u11::u12::u13::u14::u15::u16::u17::u18::u19::u20::u21::u22::u23::u24::u25::u26::u27::u28::u29::u30::u31::u32::u33::u34::u35::u36::u37::u38::u39::u40::u41::u42::u43::u44::u45::u46::u47::u48::u49::u50::u51::u52::u53::u54::u55::u56::u57::u58::u59::u60::u61::u62::u63::u64::u65::u66::u67::u68::u69::u70::u71::u72::u73::u74::u75::u76::u77::u78::u79::u80::u81::u82::u83::u84::u85::u86::u87::u88::u89::u90::u91::u92::u93::u94::u95::u96::u97::u98::u99::u100::u101::u102::u103::u104::u105::u106::u107::u108::u109::u110::u111::[]).toArray,[]⟩ w:=by
 conv=>arg 2;whnf
 have I:=vl d;have aa:=d.wt.2.1;have ab:=d.wt.2.2;obtain⟨_,ac,k,ad,ae,J,rfl,af,ag,L⟩:=d.tab.c9;have M:=vl L;have m:=d.safe k J;have N:=vl ok.ends;have ah:=ok.nst;apply wp_cut;intro ai O;go_wp2;go_loopg [89] t.nst (λq i wr=>∃j:Nat,q=t.nst-j/\j<=t.nst/\i=iX (j:Int)/\Wx H a S b t wr (l++t.endsL j)/\Keep H a w wr)
 case atStart=>exact⟨0,rfl,lX,rfl,by simpa[Tb.endsL] using I.out,Keep.refl _ _ _⟩
 case round=>
  obtain⟨j,P,aj,rfl,Q,o⟩:=hrel;have c:Hid (gk=t.nst-j/\Wx H a S b t wr (l++t.endsL j)/\Keep H a w wr):=⟨P,Q,o⟩
  by_cases p:j<t.nst
  ·have R:(j:Int)<(t.nst:Int):=by omega
   have T:=(gZ (o.block k m.1 m.2)).trans (M.out j p);have g:=N.out j p;have s:Hid (t.ends j+1=(t.endN j:Nat)):=by show _=_;unfold Tb.endN;omega
   have ak:t.endN j<=8:=by unfold Tb.endN;omega
   have al:(l++t.endsL j).length<=900000:=by simp[Tb.endsL];omega
   obtain⟨x,f⟩:∃x,x=t.ends j:=⟨_,rfl⟩
   rw[<-f] at T g;have U:Hid (x+1=(t.endN j:Nat)):=by show _=_;rw[f];exact s.out
   clear f s;go_wp2_with fail;rw[U.out];refine(jO H a wr _ c.out.2.1.wt (t.endN j) (by omega) (by omega)).mono ?_;rintro e w1 ⟨rfl,V,u⟩;have v:Hid (Wx H a S b t w1 (l++t.endsL (j+1))/\Keep H a w w1):=by
    refine⟨?_,c.out.2.2.trans u⟩;have y:=c.out.2.1.next V u
    rw[hJ] at y;show Wx H a S b t w1 (l++(List.range (j+1)).map λi=>t.endN i%256);rw[xP];exact y
   go_wp2;go_roundg (t.nst-(j+1))
   case measure=>rw[c.out.1];omega
   case rel=>exact⟨j+1,rfl,by omega,congrArg (Value.int IntKind.i64) (by omega),v.out.1,v.out.2⟩
  ·have W:j=t.nst:=by omega
   have R:(t.nst:Int)<=(j:Int):=by omega
   rw[W] at c;go_wp2;refine O.out _ _ (qO (zQG H a b S t wr _ c.out.2.1 ok (by simp[Tb.endsL];omega) (qJ z λx f=>zFA _ _ x f) A B C D E F G) ?_);rintro e w' ⟨g,X⟩;exact⟨g,c.out.2.2.trans X⟩
theorem zQI (H a b:Nat)(S:Nat->Prop)(t:Tb)(w:World)(l:List Nat)(d:Wx H a S b t w l)(ok:t.Ok)(ax:l.length<=600000)(O:∀x∈l,x<256)(P:1<=t.nst)(Q:1<=t.count)(R:1<=t.nlong)(T:t.nlong<=75000)(U:1<=t.nrule)(V:t.nrule<=8)(W:t.nmode<=3)
  {u1 u2 u4 u5 u6 u7 u8 u9 u10 u11 u12 u13 u14 u15 u16 u17 u18 u19 u20 u21 u22 u23 u24 u25 u26 u27 u28 u29 u30 u31 u32 u33 u34 u35 u36 u37 u38 u39 u40 u41 u42 u43 u44 u45 u46 u47 u48 u49 u50 u51 u52 u53 u54 u55 u56 u57 u58 u59 u60 u61 u62 u63 u64 u65 u66 u67 u68 u69 u70 u71 u72 u73 u74 u75 u76 u77 u78 u79 u80 u81 u82 u83 u84 u85 u86 u87 u88 u89 u90 u91 u92 u93 u94 u95 u96 u97 u98 u99 u100 u101 u102 u103 u104 u105 u106 u107 u108 u109 u110 u111:Value}:
  Code.wp prog (xO 6 ((f51.body).getD .skip)) (bodyPost prog f51 λe w'=>
   (∃r:ByteArray,e=returned (string r)/\r.data.toList=sealed (l++t.nextL t.nst++t.endsL t.nst++t.longL))/\Keep H a w w')
   ⟨(pX b::u1::u2::pX a::u4::u5::u6::u7::u8::u9::u10::u11::u12::u13::u14::u15::u16::u17::u18::u19::u20::u21::u22::u23::u24::u25::u26::u27::u28::u29::u30::u31::u32::u33::u34::u35::u36::u37::u38::u39::u40::u41::u42::u43::u44::u45::u46::u47::u48::u49::u50::u51::u52::u53::u54::u55::u56::u57::u58::u59::u60::u61::u62::u63::u64::u65::u66::u67::u68::u69::u70::u71::u72::u73::u74::u75::u76::u77::u78::u79::u80::u81::u82::u83::u84::u85::u86::u87::u88::u89::u90::u91::u92::u93::u94::u95::u96::u97::u98::u99::u100::u101::u102::u103::u104::u105::u106::u107::u108::u109::u110::u111::[]).toArray,[]⟩ w:=by
 conv=>arg 2;whnf
 have X:=vl d;have ay:=d.wt.2.1;have az:=d.wt.2.2;obtain⟨_,aA,s,Y,aB,aa,rfl,aC,aD,ab⟩:=d.tab.c8;have ac:=vl ab;have A:=d.safe s aa;have ad:=vl d.safe;have ae:=vl ok.next
 have af:=ok.nst;have aE:=ok.count;apply wp_cut;intro aF ag;go_wp2;go_loopg [70] t.nst (λq i wr=>∃j:Nat,q=t.nst-j/\j<=t.nst/\i=iX (j:Int)/\Wx H a S b t wr (l++t.nextL j)/\Keep H a w wr)
 case atStart=>exact⟨0,rfl,lX,rfl,by simpa[Tb.nextL] using X.out,Keep.refl _ _ _⟩
 case round=>
  obtain⟨j,B,aG,rfl,C,g⟩:=hrel;have f:Hid (gk=t.nst-j/\Wx H a S b t wr (l++t.nextL j)/\Keep H a w wr):=⟨B,C,g⟩
  by_cases D:j<t.nst
  ·have ah:(j:Int)<(t.nst:Int):=by omega
   obtain⟨u,ai,v,or_,aj,ak,al,aH,aI,am⟩:=ac.out j D;have aJ:cX wr s (Y+j)=some (slice (some ⟨v,or_,none⟩) t.count aj):=by rw[<-al];exact(gZ (g.block s A.1 A.2)).trans ai
   have an:=vl am;have E:=ad.out v ak;have ao:Hid (∀k,k<t.count->t.next j k<t.nst):=λk g=>ae.out j k D g;have y:=vl <| zBL t j;have ap:2*t.count*j<=102400:=lY (Nat.mul_le_mul (show 2*t.count<=512 by omega) (show j<=200 by omega)) (by decide);go_wp2;go_loopg [76] t.count (λq i F=>∃m:Nat,q=t.count-m/\m<=t.count/\i=iX (m:Int)/\Wx H a S b t F (l++t.nextL j++t.rowL j m)/\Keep H a w F)
   case atStart=>exact⟨0,rfl,lX,rfl,by simpa[Tb.rowL] using f.out.2.1,f.out.2.2⟩
   case round=>
    obtain⟨m,G,aK,rfl,I,z⟩:=hrel;have c:Hid (gk=t.count-m/\Wx H a S b t wr (l++t.nextL j++t.rowL j m)/\Keep H a w wr):=⟨G,I,z⟩
    by_cases J:m<t.count
    ·have aq:(m:Int)<(t.count:Int):=by omega
     have aL:=(gZ (z.block v E.1 E.2)).trans (an.out m J);have aM:=ao.out m J;have aN:(l++t.nextL j++t.rowL j m).length<=800000:=by
      rw[kX,kX,y.out];unfold Tb.rowL;rw[zCa];omega
     go_wp2_with fail;refine(zBB H a wr _ c.out.2.1.wt (t.next j m) (by omega) (by omega)).mono ?_;rintro e w1 ⟨rfl,ar,L⟩;have o:Hid (Wx H a S b t w1 (l++t.nextL j++t.rowL j (m+1))/\Keep H a w w1):=by
      refine⟨?_,c.out.2.2.trans L⟩;have p:=c.out.2.1.next ar L
      rw[hJ] at p;show Wx H a S b t w1 (l++t.nextL j++(List.range (m+1)).flatMap λi=>two (t.next j i));rw[vR];exact p
     go_wp2;go_roundg (t.count-(m+1))
     case measure=>rw[c.out.1];omega
     case rel=>exact⟨m+1,rfl,by omega,congrArg (Value.int IntKind.i64) (by omega),o.out.1,o.out.2⟩
    ·have M:m=t.count:=by omega
     have aq:(t.count:Int)<=(m:Int):=by omega
     rw[M] at c;clear G I z M;have o:Hid (Wx H a S b t wr (l++t.nextL (j+1))/\Keep H a w wr):=by
      refine⟨?_,c.out.2.2⟩;have p:=c.out.2.1;rw[hJ] at p;show Wx H a S b t wr (l++(List.range (j+1)).flatMap λi=>t.rowL i t.count);rw[vR];exact p
     go_wp2_with fail;go_roundg (t.nst-(j+1))
     case measure=>rw[f.out.1];omega
     case rel=>exact⟨j+1,rfl,by omega,congrArg (Value.int IntKind.i64) (by omega),o.out.1,o.out.2⟩
  ·have N:j=t.nst:=by omega
   have ah:(t.nst:Int)<=(j:Int):=by omega
   rw[N] at f;clear B C g N;have y:Hid ((t.nextL t.nst).length=2*t.count*t.nst):=zBL t t.nst;have ap:2*t.count*t.nst<=102400:=lY (Nat.mul_le_mul (show 2*t.count<=512 by omega) af) (by decide);go_wp2_with fail;refine ag.out _ _ (qO (zQH H a b S t wr _ f.out.2.1 ok (by rw[kX,y.out];omega) (qJ O λx au=>zJK t _ x au) P Q R T U V W) ?_);rintro e w' ⟨av,aw⟩;exact⟨av,f.out.2.2.trans aw⟩
def Tb.kindsL (t:Tb)(j:Nat):List Nat:=(List.range j).map λi=>t.kind i%256
def Tb.rulesL (t:Tb)(j:Nat):List Nat:=(List.range j).flatMap λi=>[t.act i%256,t.push i%256]
def Tb.startsL (t:Tb)(j:Nat):List Nat:=(List.range j).flatMap λi=>two (t.start i)
theorem zB3 (t:Tb)(j:Nat):(t.rulesL j).length=2*j:=by
 induction j with
 |zero=>rfl
 |succ j a=>
  unfold Tb.rulesL at a ⊢;rw[vR,kX,a];simp;omega
theorem zHj (t:Tb)(j x:Nat)(b:x∈t.rulesL j):x<256:=by
 obtain⟨i,_,a⟩:=List.mem_flatMap.1 b;simp at a;rcases a with rfl|rfl <;> exact hY _ (by decide)
theorem zBq (t:Tb)(j:Nat):(t.startsL j).length=2*j:=zCa _ _
def Tb.bytesL (t:Tb):List Nat:=t.headL++t.startsL t.nmode++t.rulesL t.nrule++t.kindsL 256++t.nextL t.nst++t.endsL t.nst++t.longL
theorem zQJ (H a b:Nat)(S:Nat->Prop)(t:Tb)(w:World)(l:List Nat)(d:Wx H a S b t w l)(ok:t.Ok)(V:l.length<=500000)(u:∀x∈l,x<256)(v:1<=t.nst)(y:1<=t.count)(z:1<=t.nlong)(A:t.nlong<=75000)(B:1<=t.nrule)(C:t.nrule<=8)(D:t.nmode<=3)
  {u1 u2 u4 u5 u6 u7 u8 u9 u10 u11 u12 u13 u14 u15 u16 u17 u18 u19 u20 u21 u22 u23 u24 u25 u26 u27 u28 u29 u30 u31 u32 u33 u34 u35 u36 u37 u38 u39 u40 u41 u42 u43 u44 u45 u46 u47 u48 u49 u50 u51 u52 u53 u54 u55 u56 u57 u58 u59 u60 u61 u62 u63 u64 u65 u66 u67 u68 u69 u70 u71 u72 u73 u74 u75 u76 u77 u78 u79 u80 u81 u82 u83 u84 u85 u86 u87 u88 u89 u90 u91 u92 u93 u94 u95 u96 u97 u98 u99 u100 u101 u102 u103 u104 u105 u106 u107 u108 u109 u110 u111:Value}:
  Code.wp prog (xO 5 ((f51.body).getD .skip)) (bodyPost prog f51 λe w'=>
   (∃r:ByteArray,e=returned (string r)/\r.data.toList=sealed (l++t.kindsL 256++t.nextL t.nst++t.endsL t.nst++t.longL))/\Keep H a w w')
   ⟨(pX b::u1::u2::pX a::u4::u5::u6::u7::u8::u9::u10::u11::u12::u13::u14::u15::u16::u17::u18::u19::u20::u21::u22::u23::u24::u25::u26::u27::u28::u29::u30::u31::u32::u33::u34::u35::u36::u37::u38::u39::u40::u41::u42::u43::u44::u45::u46::u47::u48::u49::u50::u51::u52::u53::u54::u55::u56::u57::u58::u59::u60::u61::u62::u63::u64::u65::u66::u67::u68::u69::u70::u71::u72::u73::u74::u75::u76::u77::u78::u79::u80::u81::u82::u83::u84::u85::u86::u87::u88::u89::u90::u91::u92::u93::u94::u95::u96::u97::u98::u99::u100::u101::u102::u103::u104::u105::u106::u107::u108::u109::u110::u111::[]).toArray,[]⟩ w:=by
 conv=>arg 2;whnf
 have E:=vl d;have W:=d.wt.2.1;have X:=d.wt.2.2;obtain⟨_,Y,bs,aa,cs,F,rfl,ab,ac,G⟩:=d.tab.c6;have I:=vl G;have f:=d.safe bs F;have J:=vl ok.kind;have ad:=ok.count;apply wp_cut;intro ae L;go_wp2;go_loopg [58] 256 (λq i wr=>∃j:Nat,q=256-j/\j<=256/\i=iX (j:Int)/\Wx H a S b t wr (l++t.kindsL j)/\Keep H a w wr)
 case atStart=>exact⟨0,rfl,lX,rfl,by simpa[Tb.kindsL] using E.out,Keep.refl _ _ _⟩
 case round=>
  obtain⟨j,M,af,rfl,N,g⟩:=hrel;have c:Hid (gk=256-j/\Wx H a S b t wr (l++t.kindsL j)/\Keep H a w wr):=⟨M,N,g⟩
  by_cases k:j<256
  ·have O:(j:Int)<(256:Int):=by omega
   have ag:=(gZ (g.block bs f.1 f.2)).trans (I.out j k);have m:(l++t.kindsL j).length<=600000:=by simp[Tb.kindsL];omega
   have ah:=J.out j k;go_wp2_with fail;refine(jO H a wr _ c.out.2.1.wt (t.kind j) (by omega) (by omega)).mono ?_;rintro e w1 ⟨rfl,P,o⟩;have p:Hid (Wx H a S b t w1 (l++t.kindsL (j+1))/\Keep H a w w1):=by
    refine⟨?_,c.out.2.2.trans o⟩;have s:=c.out.2.1.next P o
    rw[hJ] at s;show Wx H a S b t w1 (l++(List.range (j+1)).map λi=>t.kind i%256);rw[xP];exact s
   go_wp2;go_roundg (256-(j+1))
   case measure=>rw[c.out.1];omega
   case rel=>exact⟨j+1,rfl,by omega,congrArg (Value.int IntKind.i64) (by omega),p.out.1,p.out.2⟩
  ·have Q:j=256:=by omega
   have O:(256:Int)<=(j:Int):=by omega
   rw[Q] at c;have m:(l++t.kindsL 256).length<=600000:=by simp[Tb.kindsL];omega
   go_wp2;refine L.out _ _ (qO (zQI H a b S t wr _ c.out.2.1 ok m (qJ u λx R=>zFA _ _ x R) v y z A B C D) ?_);rintro e w' ⟨T,U⟩;exact⟨T,c.out.2.2.trans U⟩
theorem zQK (H a b:Nat)(S:Nat->Prop)(t:Tb)(w:World)(l:List Nat)(c:Wx H a S b t w l)(ok:t.Ok)(ai:l.length<=400000)(C:∀x∈l,x<256)(D:1<=t.nst)(E:1<=t.count)(F:1<=t.nlong)(G:t.nlong<=75000)(I:1<=t.nrule)(J:t.nrule<=8)(L:t.nmode<=3)(M:∀i,i<t.nrule->t.act i<4)
  {u1 u2 u4 u5 u6 u7 u8 u9 u10 u11 u12 u13 u14 u15 u16 u17 u18 u19 u20 u21 u22 u23 u24 u25 u26 u27 u28 u29 u30 u31 u32 u33 u34 u35 u36 u37 u38 u39 u40 u41 u42 u43 u44 u45 u46 u47 u48 u49 u50 u51 u52 u53 u54 u55 u56 u57 u58 u59 u60 u61 u62 u63 u64 u65 u66 u67 u68 u69 u70 u71 u72 u73 u74 u75 u76 u77 u78 u79 u80 u81 u82 u83 u84 u85 u86 u87 u88 u89 u90 u91 u92 u93 u94 u95 u96 u97 u98 u99 u100 u101 u102 u103 u104 u105 u106 u107 u108 u109 u110 u111:Value}:
  Code.wp prog (xO 4 ((f51.body).getD .skip)) (bodyPost prog f51 λe w'=>
   (∃r:ByteArray,e=returned (string r)/\r.data.toList=sealed (l++t.rulesL t.nrule++t.kindsL 256++t.nextL t.nst++t.endsL t.nst++t.longL))/\Keep H a w w')
   ⟨(pX b::u1::u2::pX a::u4::u5::u6::u7::u8::u9::u10::u11::u12::u13::u14::u15::u16::u17::u18::u19::u20::u21::u22::u23::u24::u25::u26::u27::u28::u29::u30::u31::u32::u33::u34::u35::u36::u37::u38::u39::u40::u41::u42::u43::u44::u45::u46::u47::u48::u49::u50::u51::u52::u53::u54::u55::u56::u57::u58::u59::u60::u61::u62::u63::u64::u65::u66::u67::u68::u69::u70::u71::u72::u73::u74::u75::u76::u77::u78::u79::u80::u81::u82::u83::u84::u85::u86::u87::u88::u89::u90::u91::u92::u93::u94::u95::u96::u97::u98::u99::u100::u101::u102::u103::u104::u105::u106::u107::u108::u109::u110::u111::[]).toArray,[]⟩ w:=by
 conv=>arg 2;whnf
 have N:=vl c;have aj:=c.wt.2.1;have ak:=c.wt.2.2;obtain⟨_,al,bs,am,cs,O,rfl,an,ao,P⟩:=c.tab.c4;have Q:=vl P;have p:=c.safe bs O;obtain⟨_,y5,s,ap,aq,R,rfl,ar,au,T⟩:=c.tab.c5;have U:=vl T;have u:=c.safe s R;have v:=c.safe b c.tab.safe;have V:=vl M;have W:=vl ok.push;have X:=vl y5;apply wp_cut;intro av Y;go_wp2;go_loopg [37] t.nrule (λq i wr=>∃j:Nat,q=t.nrule-j/\j<=t.nrule/\i=iX (j:Int)/\Wx H a S b t wr (l++t.rulesL j)/\Keep H a w wr)
 case atStart=>exact⟨0,rfl,lX,rfl,by simpa[Tb.rulesL] using N.out,Keep.refl _ _ _⟩
 case round=>
  obtain⟨j,aa,aw,rfl,ab,y⟩:=hrel;have d:Hid (gk=t.nrule-j/\Wx H a S b t wr (l++t.rulesL j)/\Keep H a w wr):=⟨aa,ab,y⟩
  by_cases g:j<t.nrule
  ·have ac:(j:Int)<(t.nrule:Int):=by omega
   have ax:=(gZ (y.block bs p.1 p.2)).trans (Q.out j g);have z:(l++t.rulesL j).length<=500000:=by rw[kX,zB3];omega
   have ay:=V.out j g;have az:=W.out j g;go_wp2_with fail;refine(jO H a wr _ d.out.2.1.wt (t.act j) (by omega) (by omega)).mono ?_;rintro e w1 ⟨rfl,k,f⟩;have ad:=d.out.2.1.next k f
   have m:=d.out.2.2.trans f;have y5:=(gZ (m.block b v.1 v.2)).trans X.out;have aA:=(gZ (m.block s u.1 u.2)).trans (U.out j g);have aB:(l++t.rulesL j++[t.act j%256]).length<=500001:=by rw[kX];simp only[List.length_cons,List.length_nil];omega
   have o:Hid (Wx H a S b t w1 (l++t.rulesL j++[t.act j%256])/\Keep H a w w1):=⟨ad,m⟩
   go_wp2_with fail;refine(jO H a w1 _ o.out.1.wt (t.push j) (by omega) (by omega)).mono ?_;rintro e w2 ⟨rfl,k,f⟩;have A:Hid (Wx H a S b t w2 (l++t.rulesL (j+1))/\Keep H a w w2):=by
    refine⟨?_,o.out.2.trans f⟩;have B:=o.out.1.next k f
    rw[hJ,hJ] at B;show Wx H a S b t w2 (l++(List.range (j+1)).flatMap λi=>[t.act i%256,t.push i%256]);rw[vR];exact B
   go_wp2;go_roundg (t.nrule-(j+1))
   case measure=>rw[d.out.1];omega
   case rel=>exact⟨j+1,rfl,by omega,congrArg (Value.int IntKind.i64) (by omega),A.out.1,A.out.2⟩
  ·have ae:j=t.nrule:=by omega
   have ac:(t.nrule:Int)<=(j:Int):=by omega
   rw[ae] at d;have z:(l++t.rulesL t.nrule).length<=500000:=by rw[kX,zB3];omega
   go_wp2;refine Y.out _ _ (qO (zQJ H a b S t wr _ d.out.2.1 ok z (qJ C λx af=>zHj t _ x af) D E F G I J L) ?_);rintro e w' ⟨ag,ah⟩;exact⟨ag,d.out.2.2.trans ah⟩
theorem zQL (H a b:Nat)(S:Nat->Prop)(t:Tb)(w:World)(l:List Nat)(d:Wx H a S b t w l)(ok:t.Ok)(W:l.length<=300000)(u:∀x∈l,x<256)(v:1<=t.nst)(y:1<=t.count)(z:1<=t.nlong)(A:t.nlong<=75000)(B:1<=t.nrule)(C:t.nrule<=8)(D:t.nmode<=3)(E:∀i,i<t.nrule->t.act i<4)
  {u1 u2 u4 u5 u6 u7 u8 u9 u10 u11 u12 u13 u14 u15 u16 u17 u18 u19 u20 u21 u22 u23 u24 u25 u26 u27 u28 u29 u30 u31 u32 u33 u34 u35 u36 u37 u38 u39 u40 u41 u42 u43 u44 u45 u46 u47 u48 u49 u50 u51 u52 u53 u54 u55 u56 u57 u58 u59 u60 u61 u62 u63 u64 u65 u66 u67 u68 u69 u70 u71 u72 u73 u74 u75 u76 u77 u78 u79 u80 u81 u82 u83 u84 u85 u86 u87 u88 u89 u90 u91 u92 u93 u94 u95 u96 u97 u98 u99 u100 u101 u102 u103 u104 u105 u106 u107 u108 u109 u110 u111:Value}:
  Code.wp prog (xO 3 ((f51.body).getD .skip)) (bodyPost prog f51 λe w'=>
   (∃r:ByteArray,e=returned (string r)/\r.data.toList=sealed (l++t.startsL t.nmode++t.rulesL t.nrule++t.kindsL 256++t.nextL t.nst++t.endsL t.nst++t.longL))/\Keep H a w w')
   ⟨(pX b::u1::u2::pX a::u4::u5::u6::u7::u8::u9::u10::u11::u12::u13::u14::u15::u16::u17::u18::u19::u20::u21::u22::u23::u24::u25::u26::u27::u28::u29::u30::u31::u32::u33::u34::u35::u36::u37::u38::u39::u40::u41::u42::u43::u44::u45::u46::u47::u48::u49::u50::u51::u52::u53::u54::u55::u56::u57::u58::u59::u60::u61::u62::u63::u64::u65::u66::u67::u68::u69::u70::u71::u72::u73::u74::u75::u76::u77::u78::u79::u80::u81::u82::u83::u84::u85::u86::u87::u88::u89::u90::u91::u92::u93::u94::u95::u96::u97::u98::u99::u100::u101::u102::u103::u104::u105::u106::u107::u108::u109::u110::u111::[]).toArray,[]⟩ w:=by
 conv=>arg 2;whnf
 have F:=vl d;have X:=d.wt.2.1;have Y:=d.wt.2.2;obtain⟨_,y3,bs,aa,cs,G,rfl,ab,ac,I⟩:=d.tab.c3;have J:=vl I;have f:=d.safe bs G;have L:=vl ok.start;have ad:=ok.nst;apply wp_cut;intro ae M;go_wp2;go_loopg [25] t.nmode (λq i wr=>∃j:Nat,q=t.nmode-j/\j<=t.nmode/\i=iX (j:Int)/\Wx H a S b t wr (l++t.startsL j)/\Keep H a w wr)
 case atStart=>exact⟨0,rfl,lX,rfl,by simpa[Tb.startsL] using F.out,Keep.refl _ _ _⟩
 case round=>
  obtain⟨j,N,af,rfl,O,g⟩:=hrel;have c:Hid (gk=t.nmode-j/\Wx H a S b t wr (l++t.startsL j)/\Keep H a w wr):=⟨N,O,g⟩
  by_cases k:j<t.nmode
  ·have P:(j:Int)<(t.nmode:Int):=by omega
   have ag:=(gZ (g.block bs f.1 f.2)).trans (J.out j k);have m:(l++t.startsL j).length<=400000:=by rw[kX,zBq];omega
   have ah:=L.out j k;go_wp2_with fail;refine(zBB H a wr _ c.out.2.1.wt (t.start j) (by omega) (by omega)).mono ?_;rintro e w1 ⟨rfl,Q,o⟩;have p:Hid (Wx H a S b t w1 (l++t.startsL (j+1))/\Keep H a w w1):=by
    refine⟨?_,c.out.2.2.trans o⟩;have s:=c.out.2.1.next Q o
    rw[hJ] at s;show Wx H a S b t w1 (l++(List.range (j+1)).flatMap λi=>two (t.start i));rw[vR];exact s
   go_wp2;go_roundg (t.nmode-(j+1))
   case measure=>rw[c.out.1];omega
   case rel=>exact⟨j+1,rfl,by omega,congrArg (Value.int IntKind.i64) (by omega),p.out.1,p.out.2⟩
  ·have R:j=t.nmode:=by omega
   have P:(t.nmode:Int)<=(j:Int):=by omega
   rw[R] at c;have m:(l++t.startsL t.nmode).length<=400000:=by rw[kX,zBq];omega
   go_wp2;refine M.out _ _ (qO (zQK H a b S t wr _ c.out.2.1 ok m (qJ u λx T=>zGw _ _ x T) v y z A B C D E) ?_);rintro e w' ⟨U,V⟩;exact⟨U,c.out.2.2.trans V⟩
theorem zHM (b:Nat)(S:Nat->Prop)(t:Tb)(w:World)(q:TabAt w S b t)(s:∀k,S k->k<w.heap.size)(ok:t.Ok)(u:1<=t.nst)(v:1<=t.count)(y:1<=t.nlong)(z:t.nlong<=75000)(A:1<=t.nrule)(h:t.nrule<=8)(j:t.nmode<=3)(B:∀i,i<t.nrule->t.act i<4):
  Calls prog 51 #[pX b] w λe w'=>(∃r:ByteArray,e=returned (string r)/\r.data.toList=sealed t.bytesL)/\Grew w w':=by
 have C:=vl q;have l:=vl s;go_in;apply wp_cut;intro I D;go_wp2;apply D.out;apply wp_cut;intro J E;go_wp2;apply E.out;obtain⟨w1,m,o⟩:∃w1,w1=w.alloc (.cells #[slice none 0 0] 147)/\Hid (Wx (w.heap.size+1) w.heap.size S b t w1 []/\Grew w w1):=
  ⟨_,rfl,⟨⟨⟨slice none 0 0,gX w _,ownsRow_nil _ _ _ _⟩,Nat.lt_succ_self _,by simp⟩,C.keep λk c=>lG _ _ _ (l k c),λk c=>by have:=l k c;omega⟩,kZ _ _ lQ⟩
 rw[<-m];clear m;apply wp_cut;intro K F;go_wp2_with fail;refine(zIQ (w.heap.size+1) w.heap.size b S t w1 o.1 ok h j).mono ?_;rintro e w2 ⟨rfl,G,d⟩;have p:Hid (Wx (w.heap.size+1) w.heap.size S b t w2 t.headL/\Grew w w2):=⟨G,o.2.trans ⟨d.os,d.output,d.size,λk c g=>d.block k (by omega) g⟩⟩
 go_wp2;refine F _ _ (qO (zQL (w.heap.size+1) w.heap.size b S t w2 _ p.1 ok (by simp[Tb.headL,two]) (λx a=>?_) u v y z A h j B) ?_)
 ·have L:qK t<256:=by unfold qK;split <;> omega
  have M:t.ahead%256<256:=hY _ (by decide);have N:t.hold%256<256:=hY _ (by decide);unfold Tb.headL at a;simp only[kU] at a;rcases a with(((a|a)|a)|a)|a
  ·simp at a
   rcases a with rfl|rfl|rfl|rfl|rfl <;> omega
  ·exact zBW _ _ a
  ·exact zBW _ _ a
  ·exact zBW _ _ a
  ·exact zBW _ _ a
 ·rintro e w' ⟨H,f⟩
  exact⟨H,p.2.trans ⟨f.os,f.output,f.size,λk c g=>f.block k (by omega) g⟩⟩
def seg (s:ByteArray)(p n:Nat):List Nat:=(List.range n).map λi=>byt s (p+i)
theorem zBr (s:ByteArray)(p n m:Nat):seg s p (n+m)=seg s p n++seg s (p+n) m:=by
 induction m with
 |zero=>simp[seg]
 |succ m a=>
  unfold seg at *;rw[<-Nat.add_assoc,xP,a,xP,hJ,Nat.add_assoc]
def Mem.blocks (w:World)(H b:Nat)(k:Nat):Prop:=k=b\/(H<=k/\k<w.heap.size)
theorem Row.intsAt {w:World}{H b:Nat}{e:TypeId}{v:Value}{n:Nat}{f:Nat->Int}(a:Row w H e v n λi=>iX (f i))(c:0<n):IntsAt w (Mem.blocks w H b) v n f:=by
 obtain⟨g,cap,d,j,k,l,m,o,_⟩:=a.get c;exact⟨g,0,cap,.inr ⟨j,k⟩,d,l,m,λi p=>by rw[Nat.zero_add];exact o i p⟩
theorem Row.boolsAt {w:World}{H b:Nat}{e:TypeId}{v:Value}{n:Nat}{f:Nat->Bool}(a:Row w H e v n λi=>bool (f i))(c:0<n):BoolsAt w (Mem.blocks w H b) v n f:=by
 obtain⟨g,cap,d,j,k,l,m,o,_⟩:=a.get c;exact⟨g,0,cap,.inr ⟨j,k⟩,d,l,m,λi p=>by rw[Nat.zero_add];exact o i p⟩
theorem Row.bytesAt {w:World}{H b:Nat}{e:TypeId}{v:Value}{n:Nat}{f:Nat->Nat}(a:Row w H e v n λi=>int .u8 (f i:Nat))(c:0<n):BytesAt w (Mem.blocks w H b) v n f:=by
 obtain⟨g,cap,d,j,k,l,m,o,_⟩:=a.get c;exact⟨g,0,cap,.inr ⟨j,k⟩,d,l,m,λi p=>by rw[Nat.zero_add];exact o i p⟩
theorem Mem.tabAt {w:World}{H b:Nat}{c:Tc}{t:Tb}(d:Mem w H b c t)(l:1<=t.nmode)(f:1<=t.nrule)(e:1<=t.nst)(m:1<=t.count)(o:1<=t.nlong):TabAt w (Mem.blocks w H b) b t:=by
 have a:=d.tp;obtain⟨rv,p,q⟩:=d.next
 have r:RowsAt w (Mem.blocks w H b) c.next t.nst t.count λi k=>t.next i k:=by
  obtain⟨g,cap,s,u,v,x,y,z,_⟩:=p.get e;exact⟨g,0,cap,.inr ⟨u,v⟩,s,x,y,λi j=>⟨rv i,by rw[Nat.zero_add];exact z i j,(q i j).intsAt m⟩⟩
 refine⟨.inl rfl,?_,?_,?_,⟨_,?_,d.starts.intsAt l⟩,⟨_,?_,d.acts.intsAt f⟩,⟨_,?_,d.pushed.intsAt f⟩,⟨_,?_,d.kinds.intsAt (by decide)⟩,?_,⟨_,?_,r⟩,⟨_,?_,d.ends.intsAt e⟩,⟨_,?_,d.live.boolsAt e⟩,?_,⟨_,?_,d.longer.bytesAt o⟩⟩
 ·rw[a.get_stream,d.stream]
 ·rw[a.get_ahead,d.ahead]
 ·rw[a.get_hold,d.hold]
 ·unfold zV at a;simp[World.cell?,a]
 ·unfold zV at a;simp[World.cell?,a]
 ·unfold zV at a;simp[World.cell?,a]
 ·unfold zV at a;simp[World.cell?,a]
 ·unfold zV at a;simp[World.cell?,a,d.count]
 ·unfold zV at a;simp[World.cell?,a]
 ·unfold zV at a;simp[World.cell?,a]
 ·unfold zV at a;simp[World.cell?,a]
 ·unfold zV at a;simp[World.cell?,a,d.rows]
 ·unfold zV at a;simp[World.cell?,a]
def zE1 (s:ByteArray)(n:Nat):Tb:=(zAy s).first.itr n
theorem zFR (s:ByteArray)(n:Nat):zE1 s n={zAy s with live:=(zE1 s n).live}:=by
 unfold zE1;rw[vN];rfl
structure Tb.Fine (t:Tb):Prop where
 ok:t.Ok
 nst:1<=t.nst
 count:1<=t.count
 long1:1<=t.nlong
 long2:t.nlong<=75000
 rule1:1<=t.nrule
 rule2:t.nrule<=8
 mode2:t.nmode<=3
 act:∀i,i<t.nrule->t.act i<4
theorem zKI (s:ByteArray)(n:Nat)(a:zAl s=true):(zE1 s n).Fine:=by
 rw[zBV] at a;simp only[Bool.and_eq_true] at a;obtain⟨⟨⟨d,_⟩,_⟩,b⟩:=a;have e:yT s (q3 s) 256=zT s:=by
  unfold zF2 at b;simp only[Bool.and_eq_true,decide_eq_true_iff] at b;exact b.1.1.1.2.2
 have ok:=zLN s d e;have c:1<=zG s:=qG _ _ _;have f:1<=zT s:=qG _ _ _;have g:zG s<=200:=zX _ _ _ (by decide);have k:(zAy s).nlong=(nbit s+7)/8:=rfl;have h:=ok.rows0;have j:=ok.rows;have l:1<=nbit s:=Nat.mul_pos c h;have m:nbit s<=200*3000:=Nat.mul_le_mul g j;rw[zFR];exact⟨ok.withLive _,c,f,by show 1<=(zAy s).nlong;omega,by show(zAy s).nlong<=75000;omega,qG _ _ _,zX _ _ _ (by decide),zX _ _ _ (by decide),λi _=>zNK s i⟩
structure LexAt (w:World)(S:Nat->Prop)(x p:Nat)(t:Tb):Prop where
 cell:w.cell? ⟨x,0,none⟩=some (pointer (some ⟨p,0,none⟩))
 lt:x<w.heap.size
 tab:TabAt w S p t
 safe:∀k,S k->k<w.heap.size
theorem LexAt.keep {w w':World}{S:Nat->Prop}{x p:Nat}{t:Tb}(a:LexAt w S x p t)(e:∀k,k<w.heap.size->w'.heap[k]? =w.heap[k]?)(c:w.heap.size<=w'.heap.size):LexAt w' S x p t:=
 ⟨(gZ (e x a.lt)).trans a.cell,lZ a.lt c,a.tab.keep λk b=>e k (a.safe k b),λk b=>lZ (a.safe k b) c⟩
theorem LexAt.grown {w w':World}{S:Nat->Prop}{x p:Nat}{t:Tb}(a:LexAt w S x p t)(e:Grew w w'):LexAt w' S x p t:=a.keep (λk b=>e.block k b (by omega)) e.size
theorem zCp (kinds:Nat):zF kinds 0=1:=rfl
theorem zFK (kinds k m:Nat)(a:k<=m)(b:zF kinds m<=3000):zF kinds k<=3000:=by
 by_cases e:3000<zF kinds k
 ·rw[zEW kinds k m e a] at b
  omega
 ·omega
theorem zMk (kinds k:Nat)(a:zF kinds k<=3000):zF kinds (k+1)=zF kinds k*(kinds+1):=by
 rw[zF];split
 ·rfl
 ·omega
def Tb.aheadF (t:Tb):Nat->Nat->Bool
 |0=>λ_=>false
 |i+1=>t.more (zF t.count i) (t.aheadF i)
theorem Mem.tabN {w:World}{H b:Nat}{c:Tc}{t:Tb}(d:Mem w H b c t)(e:1<=t.nst)(j:1<=t.count):TabN w (Mem.blocks w H b) b t:=by
 have a:=d.tp;obtain⟨rv,l,m⟩:=d.next
 have o:RowsAt w (Mem.blocks w H b) c.next t.nst t.count λi k=>t.next i k:=by
  obtain⟨g,cap,p,q,r,s,u,v,_⟩:=l.get e;exact⟨g,0,cap,.inr ⟨q,r⟩,p,s,u,λi f=>⟨rv i,by rw[Nat.zero_add];exact v i f,(m i f).intsAt j⟩⟩
 refine⟨.inl rfl,?_,⟨_,?_,o⟩,⟨_,?_,d.ends.intsAt e⟩⟩
 ·unfold zV at a;simp[World.cell?,a,d.count]
 ·unfold zV at a;simp[World.cell?,a]
 ·unfold zV at a;simp[World.cell?,a]
theorem Row.put {w:World}{H p i:Nat}{c:Tc}{x:Value}{e:TypeId}{v:Value}{n:Nat}{f:Nat->Value}(a:Row w H e v n f)(b:zV w p c)(d:e≠90:=by decide):Row (w.setCell ⟨p,i,none⟩ x) H e v n f:=a.blk λg _ _ j=>lJ _ _ _ _ (zHU b a d j)
theorem Mem.putAhead {w:World}{H p:Nat}{c:Tc}{t:Tb}(b:Mem w H p c t)(a:Nat):Mem (w.setCell ⟨p,1,none⟩ (iX a)) H p {c with ahead:=iX a} {t with ahead:=a}:=by
 obtain⟨rv,e,f⟩:=b.next
 have d:=b.tp;exact⟨b.tp.set_ahead _,b.stream,rfl,b.hold,b.count,b.rows,b.starts.put d,b.acts.put d,b.pushed.put d,b.kinds.put d,⟨rv,e.put d,λi g=>(f i g).put d⟩,b.ends.put d,b.live.put d,b.longer.put d,by simp[World.setCell];exact b.HH⟩
theorem Mem.putRows {w:World}{H p:Nat}{c:Tc}{t:Tb}(b:Mem w H p c t)(a:Nat):Mem (w.setCell ⟨p,11,none⟩ (iX a)) H p {c with rows:=iX a} {t with rows:=a}:=by
 obtain⟨rv,e,f⟩:=b.next
 have d:=b.tp;exact⟨b.tp.set_rows _,b.stream,b.ahead,b.hold,b.count,rfl,b.starts.put d,b.acts.put d,b.pushed.put d,b.kinds.put d,⟨rv,e.put d,λi g=>(f i g).put d⟩,b.ends.put d,b.live.put d,b.longer.put d,by simp[World.setCell];exact b.HH⟩
theorem Mem.putLonger {w:World}{H p:Nat}{c:Tc}{t:Tb}(a:Mem w H p c t)(v:Value)(n:Nat)(f:Nat->Nat)(d:Row w H 5 v n λi=>int .u8 (f i:Nat)):Mem (w.setCell ⟨p,12,none⟩ v) H p {c with longer:=v} {t with nlong:=n,long:=f}:=by
 obtain⟨rv,e,g⟩:=a.next
 have b:=a.tp;exact⟨a.tp.set_longer _,a.stream,a.ahead,a.hold,a.count,a.rows,a.starts.put b,a.acts.put b,a.pushed.put b,a.kinds.put b,⟨rv,e.put b,λi j=>(g i j).put b⟩,a.ends.put b,a.live.put b,d.put b,by simp[World.setCell];exact a.HH⟩
theorem Mem.putStream {w:World}{H p:Nat}{c:Tc}{t:Tb}(b:Mem w H p c t)(a:Bool):Mem (w.setCell ⟨p,0,none⟩ (bool a)) H p {c with stream:=bool a} {t with stream:=a}:=by
 obtain⟨rv,e,f⟩:=b.next
 have d:=b.tp;exact⟨b.tp.set_stream _,rfl,b.ahead,b.hold,b.count,b.rows,b.starts.put d,b.acts.put d,b.pushed.put d,b.kinds.put d,⟨rv,e.put d,λi g=>(f i g).put d⟩,b.ends.put d,b.live.put d,b.longer.put d,by simp[World.setCell];exact b.HH⟩
theorem Mem.grown {w w':World}{H b:Nat}{c:Tc}{t:Tb}(a:Mem w H b c t)(d:Grew w w'):Mem w' H b c t:=by
 have f:=a.HH;have g:=a.tp.lt;exact a.keep (d.block b (by omega) (by omega)) (λk _ e=>d.block k e (by omega)) d.size
theorem TabN.mono {w:World}{S d:Nat->Prop}{p:Nat}{t:Tb}(c:TabN w S p t)(e:∀b,S b->d b):TabN w d p t:=by
 have j:∀{v n f},IntsAt w S v n f->IntsAt w d v n f:=λ⟨b,o,cap,g,r⟩=>⟨b,o,cap,e b g,r⟩
 refine⟨e p c.safe,c.c7,?_,?_⟩
 ·obtain⟨v,a,b,o,cap,g,l,m,q,s⟩:=c.c8
  exact⟨v,a,b,o,cap,e b g,l,m,q,λi x=>(s i x).imp λu k=>⟨k.1,j k.2⟩⟩
 ·obtain⟨v,a,b⟩:=c.c9;exact⟨v,a,j b⟩
def Tb.looking (t:Tb)(a:Nat):Tb:={t with ahead:=a,rows:=zF t.count a,nlong:=(zF t.count a*t.nst+7)/8,long:=yB (t.aheadF a) (zF t.count a*t.nst)}
theorem zCv (w:World)(H p:Nat)(c:Tc)(t:Tb)(m:Mem w H p c t)(ok:t.OkN)(y:1<=t.nst)(ap:1<=t.count)(a:Nat)(aq:a<=255)(M:zF t.count a<=3000):
  Calls prog 66 #[pointer (some ⟨p,0,none⟩),int i64 a] w λe w'=>e=returned (tuple #[])/\∃ar,Mem w' H p ar (t.looking a)/\Keep w.heap.size p w w':=by
 obtain⟨av,aw,ax,ay,az⟩:=info_parts vO;have O:=vl m;have a4:=m.tp.lt;have a5:=m.HH;have Q:=m.tp.get_ahead;have aA:=m.tp.fz 1;have D:cX w p 7=some (int i64 (t.count:Nat)):=by rw[<-m.count];exact m.tp.get_count
 have aB:=ok.count;have R:=ok.nst;rw[O.out.ahead] at Q;go_in;apply wp_cut;intro a6 aC;go_wp2;apply aC.out;obtain⟨w1,T,f⟩:∃w1,w1=w.setCell ⟨p,1,none⟩ (int i64 (a:Nat))/\Hid (Mem w1 H p {c with ahead:=int i64 a} {t with ahead:=a}/\Keep w.heap.size p w w1):=⟨_,rfl,O.putAhead a,Keep.set _ _ _⟩
 rw[<-T];clear T Q aA D;apply wp_cut;intro a7 aD;have D:cX w1 p 7=some (int i64 (t.count:Nat)):=by have b:=f.1.tp.get_count;rw[f.out.1.count] at b;exact b
 have aE:cX w1 p 11=some (int i64 (t.rows:Nat)):=by have b:=f.1.tp.get_rows;rw[f.out.1.rows] at b;exact b
 have aF:=f.1.tp.fz 11;go_wp2_with fail;refine(zDz t.count a _ aB aq).mono ?_;rintro e aG ⟨rfl,rfl⟩;go_wp2;apply aD.out;obtain⟨w2,U,d⟩:∃w2,w2=aG.setCell ⟨p,11,none⟩ (int i64 (zF t.count a:Nat))/\Hid (Mem w2 H p {c with ahead:=int i64 a,rows:=int i64 (zF t.count a:Nat)} {t with ahead:=a,rows:=zF t.count a}/\Keep w.heap.size p w w2):=⟨_,rfl,f.1.putRows _,f.2.trans (Keep.set _ _ _)⟩
 rw[<-U];clear U D aE aF f;refine wp_seq_k ?_;intro aH hK2;have V:Hid (∀a w,_->aH a w):=hK2;clear hK2;obtain⟨rv,W,_⟩:=d.1.next
 obtain⟨aI,aJ,X,_⟩:=W.get y;have aK:cX w2 p 8=some (slice (some ⟨aI,0,none⟩) t.nst aJ):=by rw[<-show c.next=_ from X];exact d.1.tp.get_next
 have a8:H<=w2.heap.size:=d.1.HH;obtain⟨Y,aL,aa,s⟩:=run_makeSlice_full (P:=prog) w2 w2.heap.size 28 4 av _ 1 underlying28 aw ax ay i64 i64 t.nst (by omega) (by rw[az];omega) (by unfold maxLen;omega) lQ;have ab:Hid (OwnF Y w2.heap.size (slice (some ⟨w2.heap.size,0,none⟩) t.nst t.nst) (zF t.count 0*t.nst) (t.aheadF 0)/\Grew w2 Y):=by
  refine⟨?_,⟨s.os,s.output,s.size,λk o _=>s.block k o (by simp)⟩⟩;have b:=aa;rw[Nat.mul_one,zAL _ rfl] at b;rw[zCp,Nat.one_mul];exact b
 clear W X aa s;go_wp2_with fail;apply V.out;clear V aL aK;refine wp_seq_k ?_;intro aM hK3;have ac:Hid (∀a w,_->aM a w):=hK3;clear hK3;have aN:Hid t.OkN:=ok;have ad:Hid (zF t.count a<=3000):=M;clear ok M;go_wp2_with fail;go_loopg [4,5] a (λq aO i wr=>∃j:Nat,q=a-j/\j<=a/\i=int i64 (j:Int)/\OwnF wr w2.heap.size aO (zF t.count j*t.nst) (t.aheadF j)/\Grew w2 wr)
 case atStart=>exact⟨0,rfl,lX,rfl,ab.1,ab.2⟩
 case round=>
  obtain⟨j,E,aP,rfl,z,l⟩:=hrel;have v:Hid (gk=a-j/\OwnF wr w2.heap.size u4 (zF t.count j*t.nst) (t.aheadF j)/\Grew w2 wr):=⟨E,z,l⟩
  have ae:=zFK t.count j a aP ad;have af:=zIS t.count j;have ag:1<=zF t.count j*t.nst:=Nat.mul_pos af y;have a9:zF t.count j*t.nst<=600000:=lY (Nat.mul_le_mul ae R) (by decide);have F:TabN wr (λk=>k<wr.heap.size) p t:=by
   have b:=(d.1.grown l).tabN y ap;have ba:=l.size;refine TabN.mono (S:=Mem.blocks wr H p) ⟨b.safe,b.c7,b.c8,b.c9⟩ λk o=>?_;rcases o with o|o
   ·rw[o];exact(d.1.grown l).tp.lt
   ·exact o.2
  obtain⟨g,A,aQ,bb,ah,aR,aS,B,ai⟩:=Row.get z ag;subst aQ;by_cases aT:j<a
  ·have aU:(j:Int)<(a:Int):=by omega
   have aj:=zMk t.count j ae;have aV:=zFK t.count (j+1) a aT ad;have G:(t.count+1)*(zF t.count j*t.nst)=zF t.count (j+1)*t.nst:=by
    rw[aj,<-Nat.mul_assoc,Nat.mul_comm (t.count+1)]
   have ak:(t.count+1)*(zF t.count j*t.nst)<=800000:=by
    rw[G];exact lY (Nat.mul_le_mul aV R) (by decide)
   have I:=zDO p wr (λk=>k<wr.heap.size) t F (λk b=>b) aN y (zF t.count j) af (t.aheadF j) g 0 A ah (λi J=>by rw[Nat.zero_add];exact B i J) aR aS ak;rw[G] at I;have aW:Hid (Ca 102 #[pointer (some ⟨p,0,none⟩),slice (some ⟨g,0,none⟩) (zF t.count j*t.nst) A] wr λe w'=>∃u,e=returned u/\OwnF w' wr.heap.size u (zF t.count (j+1)*t.nst) (t.aheadF (j+1))/\Grew wr w'):=I;clear I E z l B ai F aj G ak;generalize aX:zF t.count j*t.nst=aY at *;clear aX;go_wp2_with fail;refine aW.mono ?_;rintro e al ⟨u,rfl,am,an⟩;have ao:Hid (OwnF al w2.heap.size u (zF t.count (j+1)*t.nst) (t.aheadF (j+1))/\Grew w2 al):=⟨yD am v.2.2.size,v.2.2.trans (an.lower v.2.2.size v.2.2.size)⟩
   clear am an;go_wp2_with fail;go_roundg (a-(j+1))
   case measure=>rw[v.out.1];omega
   case rel=>exact⟨j+1,rfl,by omega,by go_num,ao.1,ao.2⟩
  ·have aZ:j=a:=by omega
   have aU:(a:Int)<=(j:Int):=by omega
   have a0:Hid (Ca 103 #[slice (some ⟨g,0,none⟩) (zF t.count j*t.nst) A] wr λe w'=>∃u,e=returned u/\Row w' wr.heap.size 5 u ((zF t.count a*t.nst+7)/8) (λk=>int .u8 (yB (t.aheadF a) (zF t.count a*t.nst) k:Nat))/\Grew wr w'):=by
    have b:=zH5 wr g 0 A (zF t.count j*t.nst) (t.aheadF j) (λi J=>by rw[Nat.zero_add];exact B i J) ah ag (by omega);rw[aZ] at b ⊢;exact b
   have r:Hid (Mem wr H p {c with ahead:=int i64 a,rows:=int i64 (zF t.count a:Nat)} {t with ahead:=a,rows:=zF t.count a}/\Keep w.heap.size p w wr):=⟨d.1.grown l,d.2.trans (l.lower d.2.size d.2.size)⟩
   clear E z l B ai F;generalize zF t.count j*t.nst=aY at *;go_wp2_with fail;apply ac.out;clear ac;have a1:=r.1.tp.get_longer;have a2:=r.1.tp.fz 12;go_wp2_with fail;refine a0.mono ?_;rintro e C ⟨u,rfl,K,L⟩;obtain⟨bc,bd,a3⟩:=zE K;have x:Hid (Mem C H p {c with ahead:=int i64 a,rows:=int i64 (zF t.count a:Nat)} {t with ahead:=a,rows:=zF t.count a}/\Keep w.heap.size p w C/\Row C H 5 u ((zF t.count a*t.nst+7)/8) (λk=>int .u8 (yB (t.aheadF a) (zF t.count a*t.nst) k:Nat))):=⟨r.1.grown L,r.2.trans (L.lower r.2.size r.2.size),K.mono r.1.HH⟩
   have be:cX C p 12=some c.longer:=x.1.tp.get_longer;have bf:=x.1.tp.fz 12;subst a3;clear K L a1 a2;go_wp2_with fail;go_end0;exact⟨rfl,_,x.1.putLonger _ _ _ x.2.2,x.2.1.trans (Keep.set _ _ _)⟩
end Go.Proofs.YtbjcfkdnjaiclaaGreat
