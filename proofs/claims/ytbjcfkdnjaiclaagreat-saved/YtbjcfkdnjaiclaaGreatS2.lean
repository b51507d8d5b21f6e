import Derived.BigQuiet
import Derived.Deep.QuietTactic
import Derived.Laws.BitsAllLaws
import Derived.Test.YtbjcfkdnjaiclaaGreatProg
import Derived.WalkKit
import Derived.WalkLawsBesides
import Derived.WalkSpells
import Derived.Test.YtbjcfkdnjaiclaaGreatS0
import Derived.Test.YtbjcfkdnjaiclaaGreatS1
/- Parts of the proof. -/
set_option linter.unusedVariables false
set_option linter.unusedSimpArgs false
set_option maxHeartbeats 4000000
set_option maxRecDepth 100000
namespace Go.Proofs.YtbjcfkdnjaiclaaGreat
open Go.RowKit Go.Proofs.Tryz Go.World
open Go.Value (int slice bool pointer string agg tuple)
open Go.IntKind (i64)
open Go.Ending (returned)
theorem zQh (a b H g:Nat)(w:World)(s:ByteArray)(p:Nat)(k:Bool)(c:Tc)(modes rules d kinds m:Nat)
  (h:Rt H a b w w s p k c [(g,.cells #[iX modes,iX rules,iX d,iX kinds,iX m] 152)]) (F:s.size<=1048576) (N:1<=modes/\modes<=3) (O:1<=rules/\rules<=8) (P:1<=d/\d<=200) (Q:1<=kinds/\kinds<=256) (R:m<=3000) (S:c.starts=slice none 0 0) (T:c.acts=slice none 0 0) (U:c.pushed=slice none 0 0) (V:c.next=slice none 0 0) (W:c.ends=slice none 0 0)
  {u2 u3 u4 u6 u7 u8 u9 u10 u11 u12 u13 u14 u15 u16 u17 u18 u19 u20 u21 u22 u23 u24 u25 u26 u27 u28 u29 u30 u31 u32 u33 u34 u35 u36 u37 u38 u39 u40 u41 u42 u43 u44 u45 u46 u47 u48 u49 u50 u51 u52 u53 u54 u55 u56 u57 u58 u59 u60 u61 u62 u63 u64 u65 u66 u67 u68 u69 u70 u71 u72 u73 u74 u75 u76 u77 u78 u79 u80 u81 u82 u83 u84 u85 u86 u87 u88 u89 u90 u91 u92 u93 u94 u95 u96 u97 u98 u99 u100 u101 u102 u103 u104 u105 u106 u107 u108 u109 u110 u111 u112 u113 u114 u115 u116 u117 u118 u119 u120 u121 u122 u123 u124 u125:Value}:
  Code.wp prog (xO 1 ((f83.body).getD .skip)) (bodyPost prog f83 λe w'=>
   e=returned (tuple #[])/\P1 H a b s modes rules d kinds m w' c p k/\Kept w.heap.size a b w w')
   ⟨(pX a::pX b::u2::u3::u4::pX g::u6::u7::u8::u9::u10::u11::u12::u13::u14::u15::u16::u17::u18::u19::u20::u21::u22::u23::u24::u25::u26::u27::u28::u29::u30::u31::u32::u33::u34::u35::u36::u37::u38::u39::u40::u41::u42::u43::u44::u45::u46::u47::u48::u49::u50::u51::u52::u53::u54::u55::u56::u57::u58::u59::u60::u61::u62::u63::u64::u65::u66::u67::u68::u69::u70::u71::u72::u73::u74::u75::u76::u77::u78::u79::u80::u81::u82::u83::u84::u85::u86::u87::u88::u89::u90::u91::u92::u93::u94::u95::u96::u97::u98::u99::u100::u101::u102::u103::u104::u105::u106::u107::u108::u109::u110::u111::u112::u113::u114::u115::u116::u117::u118::u119::u120::u121::u122::u123::u124::u125::[]).toArray,[]⟩ w:=by
 conv=>arg 2;whnf
 have B:=vl h;have l:=(h.own _ hU).1;have X:=(h.own _ hU).2;have Y:=h.aH;have aa:=h.bH;have ac:=h.HH;have C:=h.ab;have ad:=(kQ.1 l).1;obtain⟨ae,af,ag,ah,ai⟩:=info_parts yF;apply wp_cut;intro aF aj;go_wp2;go_loopg [6] modes (λq i wr=>∃(j:Nat) (v:Value),q=modes-j/\j<=modes/\i=iX (j:Int)/\wr.ownsRow w.heap.size 3 1 v j ((List.range j).map λi=>iX (toF s p d i:Nat))/\xM wr a s (p+2*j) (k&&toK s p d j)/\zV wr b {c with starts:=v}/\Kept w.heap.size a b w wr)
 case atStart=>exact⟨0,slice none 0 0,rfl,lX,rfl,ownsRow_nil _ _ _ _,B.rd.to rfl (by simp[toK]),(by rw[<-S];exact B.tb),Kept.refl _ _ _ _⟩
 case round=>
  obtain⟨j,v,G,aG,rfl,t,y,D,o⟩:=hrel;have l:=(o.block g ad (by omega) (by omega)).trans (B.own _ hU).1;have aI:cX wr g 0=some (iX modes):=by simp[World.cell?,l]
  have aJ:cX wr g 2=some (iX d):=by simp[World.cell?,l]
  have ak:=o.size;by_cases aK:j<modes
  ·have al:(j:Int)<(modes:Int):=by omega
   have f:Hid (gk=modes-j/\xM wr a s (p+2*j) (k&&toK s p d j)/\Kept w.heap.size a b w wr/\zV wr b {c with starts:=v}/\wr.ownsRow w.heap.size 3 1 v j ((List.range j).map λi=>iX (toF s p d i:Nat))):=⟨G,y,o,D,t⟩
   have am:Hid (toF s p d j=within (xZ s (p+2*j)) 0 (d-1)):=rfl;have an:Hid (toK s p d (j+1)=(toK s p d j&&decide (p+2*j+1<s.size)&&inB (xZ s (p+2*j)) 0 (d-1))):=rfl;have z:=zX (xZ s (p+2*j)) 0 (d-1) lX;have aL:(d:Int)-1=((d-1:Nat):Int):=by omega
   clear G y o t D l;go_wp2_with fail;refine(zEy a (p+2*j) s (k&&toK s p d j) wr f.2.1 F 0 (d-1)).mono ?_;rintro e w1 ⟨rfl,ao,E⟩;have ap:Hid (xM w1 a s (p+2*(j+1)) (k&&toK s p d (j+1))):=by show xM _ _ _ _ _;rw[an.out];exact ao.to rfl (by simp[Bool.and_assoc])
   have I:=vl <| xW f.2.2.2.2 E (by omega);have J:=vl <| f.2.2.1.trans (.one (E _));have A:=vl <| f.2.2.2.1.of_block ((E w.heap.size).block b (by omega) C.symm);have aM:=A.get_starts;have aq:=J.size;rw[<-am.out] at z ⊢;generalize ar:toF s p d j=x at *;have au:=vl ar;go_wp2_with (first|(at_builtin;refine wpList_append_lies _ rfl _ _ 45 rfl w.heap.size 3 ae (iX 0) 1 8 underlying45 af ag ah ai rfl (by decide) _ _ _ rfl (I.alloc _) ⟨w1.heap.size,0,none⟩ 1 1 [iX (x:Int)] rfl rfl (cell_one_new _ _ _) (by intro u L;simp at L;subst L;rfl) (by decide) (by unfold maxLen;omega) (by omega) (by simp;omega) _ rfl ?_;intro av cap w2 aw ax aN aO;have r:=xF I ax aq;have aP:=(A.of_block (r.block b (by omega))).get_starts;have q2:=(A.of_block (r.block b (by omega))).fz 3))
   have ay:=ap.of_block (r.block a (by omega));have az:=J.trans (.one (xD r));have aA:=A.of_block (r.block b (by omega));have aB:w2.ownsRow w.heap.size 3 1 (slice (qX av) (j+1) cap) (j+1) ((List.range (j+1)).map λi=>iX (toF s p d i:Nat)):=by
    rw[xP,au.out];exact aw
   go_roundg (modes-(j+1))
   case measure=>rw[f.out.1];omega
   case rel=>exact⟨j+1,_,rfl,by omega,congrArg (Value.int IntKind.i64) (by omega),xW aB (λ_=>Keep.set _ _ _) (by omega),ay.of_block (lJ _ _ _ _ C),aA.set_starts _,az.trans (.two (Keep.set _ _ _))⟩
  ·have aC:j=modes:=by omega
   have al:(modes:Int)<=(j:Int):=by omega
   have f:Hid (xM wr a s (p+2*modes) (k&&toK s p d modes)/\Kept w.heap.size a b w wr/\zV wr b {c with starts:=v}/\wr.ownsRow w.heap.size 3 1 v modes ((List.range modes).map λi=>iX (toF s p d i:Nat))/\wr.heap[g]? =some (.cells #[iX modes,iX rules,iX d,iX kinds,iX m] 152)):=by rw[aC] at y t;exact⟨y,o,D,t,l⟩
   go_wp2;refine aj _ _ (qO (zQg a b H g wr s (p+2*modes) (k&&toK s p d modes) {c with starts:=v} modes rules d kinds m ⟨f.1,f.2.2.1,λx z=>by rw[kY] at z;rw[z];exact⟨f.2.2.2.2,X⟩,Kept.refl _ _ _ _,C,Y,aa,by omega⟩ F N O P Q R T U V W) ?_);rintro e w' ⟨aD,aE,M⟩;exact⟨aD,⟨v,zBa (yD f.2.2.2.1 ac) M (by omega) (by omega),aE⟩,f.2.1.trans (M.mono ak)⟩
theorem zLE (a b H:Nat)(w:World)(s:ByteArray)(p:Nat)(k:Bool)(c:Tc)(modes rules f kinds g:Nat)
  (h:Rt H a b w w s p k c []) (i:s.size<=1048576) (j:1<=modes/\modes<=3) (l:1<=rules/\rules<=8) (m:1<=f/\f<=200) (o:1<=kinds/\kinds<=256) (q:g<=3000) (r:c.starts=slice none 0 0) (t:c.acts=slice none 0 0) (u:c.pushed=slice none 0 0) (v:c.next=slice none 0 0) (x:c.ends=slice none 0 0):
  Calls prog 83 #[pX a,pX b,agg #[iX modes,iX rules,iX f,iX kinds,iX g]] w λe w'=>
   e=returned (tuple #[])/\P1 H a b s modes rules f kinds g w' c p k/\Kept w.heap.size a b w w':=by
 have y:=vl h;go_in;apply wp_cut;intro D z;go_wp2;have d:=y.alloc (.cells #[iX modes,iX rules,iX f,iX kinds,iX g] 152);refine z _ _ (qO (zQh a b H w.heap.size _ s p k c modes rules f kinds g ⟨d.rd,d.tb,d.own,Kept.refl _ _ _ _,d.ab,d.aH,d.bH,d.HH⟩ i j l m o q r t u v x) ?_);rintro e w' ⟨A,B,C⟩;exact⟨A,B,(Kept.one (kZ _ _ lQ)).trans (C.mono (by simp))⟩
section
theorem zNW {k:IntKind}{a b:Int}(c:a=b):Ending.returned (int k a)=returned (int k b):=by rw[c]
theorem zMJ {a b:Bool}(c:a=b):Ending.returned (bool a)=returned (bool b):=by rw[c]
def IntsAt (w:World)(S:Nat->Prop)(v:Value)(n:Nat)(f:Nat->Int):Prop:=
 ∃b o cap,S b/\v=slice (some ⟨b,o,none⟩) n cap/\n<=cap/\cap<=maxLen/\∀i,i<n->w.cell? ⟨b,o+i,none⟩=some (int i64 (f i))
def BytesAt (w:World)(S:Nat->Prop)(v:Value)(n:Nat)(f:Nat->Nat):Prop:=
 ∃b o cap,S b/\v=slice (some ⟨b,o,none⟩) n cap/\n<=cap/\cap<=maxLen/\∀i,i<n->w.cell? ⟨b,o+i,none⟩=some (int .u8 (f i))
def BoolsAt (w:World)(S:Nat->Prop)(v:Value)(n:Nat)(f:Nat->Bool):Prop:=
 ∃b o cap,S b/\v=slice (some ⟨b,o,none⟩) n cap/\n<=cap/\cap<=maxLen/\∀i,i<n->w.cell? ⟨b,o+i,none⟩=some (bool (f i))
def RowsAt (w:World)(S:Nat->Prop)(v:Value)(n m:Nat)(f:Nat->Nat->Int):Prop:=
 ∃b o cap,S b/\v=slice (some ⟨b,o,none⟩) n cap/\n<=cap/\cap<=maxLen/\∀i,i<n->∃u,w.cell? ⟨b,o+i,none⟩=some u/\IntsAt w S u m (f i)
section
variable {w w':World} {S:Nat->Prop} {v:Value} {n m:Nat}
theorem IntsAt.keep {f:Nat->Int}(c:IntsAt w S v n f)(e:∀b,S b->w'.heap[b]? =w.heap[b]?):IntsAt w' S v n f:=by
 obtain⟨b,o,cap,a,rfl,d,g,j⟩:=c;exact⟨b,o,cap,a,rfl,d,g,λi k=>(gZ (e b a)).trans (j i k)⟩
theorem BytesAt.keep {f:Nat->Nat}(c:BytesAt w S v n f)(e:∀b,S b->w'.heap[b]? =w.heap[b]?):BytesAt w' S v n f:=by
 obtain⟨b,o,cap,a,rfl,d,g,j⟩:=c;exact⟨b,o,cap,a,rfl,d,g,λi k=>(gZ (e b a)).trans (j i k)⟩
theorem BoolsAt.keep {f:Nat->Bool}(c:BoolsAt w S v n f)(e:∀b,S b->w'.heap[b]? =w.heap[b]?):BoolsAt w' S v n f:=by
 obtain⟨b,o,cap,a,rfl,d,g,j⟩:=c;exact⟨b,o,cap,a,rfl,d,g,λi k=>(gZ (e b a)).trans (j i k)⟩
theorem RowsAt.keep {f:Nat->Nat->Int}(c:RowsAt w S v n m f)(e:∀b,S b->w'.heap[b]? =w.heap[b]?):RowsAt w' S v n m f:=by
 obtain⟨b,o,cap,a,rfl,d,g,j⟩:=c;refine⟨b,o,cap,a,rfl,d,g,λi k=>?_⟩;obtain⟨u,l,p⟩:=j i k;exact⟨u,(gZ (e b a)).trans l,p.keep e⟩
end
structure Tb where
 stream:Bool
 ahead:Nat
 hold:Nat
 count:Nat
 rows:Nat
 nst:Nat
 nmode:Nat
 nrule:Nat
 nlong:Nat
 start:Nat->Nat
 act:Nat->Nat
 push:Nat->Nat
 kind:Nat->Nat
 next:Nat->Nat->Nat
 ends:Nat->Int
 live:Nat->Bool
 long:Nat->Nat
structure Tb.Ok (t:Tb):Prop where
 ahead:t.ahead<64
 hold0:1<=t.hold
 hold:t.hold<=64
 count:t.count<=256
 rows0:1<=t.rows
 rows:t.rows<=3000
 nst:t.nst<=200
 nmode:1<=t.nmode
 long:t.rows*t.nst<=8*t.nlong
 start:∀i,i<t.nmode->t.start i<t.nst
 push:∀i,i<t.nrule->t.push i<t.nmode
 kind:∀c,c<256->t.kind c<t.count
 next:∀s k,s<t.nst->k<t.count->t.next s k<t.nst
 ends:∀s,s<t.nst->-1<=t.ends s/\t.ends s<t.nrule
 longB:∀i,i<t.nlong->t.long i<256
structure TabAt (w:World)(S:Nat->Prop)(p:Nat)(t:Tb):Prop where
 safe:S p
 c0:w.cell? ⟨p,0,none⟩=some (bool t.stream)
 c1:w.cell? ⟨p,1,none⟩=some (int i64 t.ahead)
 c2:w.cell? ⟨p,2,none⟩=some (int i64 t.hold)
 c3:∃v,w.cell? ⟨p,3,none⟩=some v/\IntsAt w S v t.nmode λi=>t.start i
 c4:∃v,w.cell? ⟨p,4,none⟩=some v/\IntsAt w S v t.nrule λi=>t.act i
 c5:∃v,w.cell? ⟨p,5,none⟩=some v/\IntsAt w S v t.nrule λi=>t.push i
 c6:∃v,w.cell? ⟨p,6,none⟩=some v/\IntsAt w S v 256 λi=>t.kind i
 c7:w.cell? ⟨p,7,none⟩=some (int i64 t.count)
 c8:∃v,w.cell? ⟨p,8,none⟩=some v/\RowsAt w S v t.nst t.count λi k=>t.next i k
 c9:∃v,w.cell? ⟨p,9,none⟩=some v/\IntsAt w S v t.nst λi=>t.ends i
 c10:∃v,w.cell? ⟨p,10,none⟩=some v/\BoolsAt w S v t.nst λi=>t.live i
 c11:w.cell? ⟨p,11,none⟩=some (int i64 t.rows)
 c12:∃v,w.cell? ⟨p,12,none⟩=some v/\BytesAt w S v t.nlong λi=>t.long i
theorem TabAt.keep {w w':World}{S:Nat->Prop}{p:Nat}{t:Tb}(d:TabAt w S p t)(e:∀b,S b->w'.heap[b]? =w.heap[b]?):TabAt w' S p t:=by
 have c:∀i,cX w' p i=cX w p i:=λi=>gZ (e p d.safe);refine⟨d.safe,(c _).trans d.c0,(c _).trans d.c1,(c _).trans d.c2,?_,?_,?_,?_,(c _).trans d.c7,?_,?_,?_,(c _).trans d.c11,?_⟩
 ·obtain⟨v,a,b⟩:=d.c3;exact⟨v,(c _).trans a,b.keep e⟩
 ·obtain⟨v,a,b⟩:=d.c4;exact⟨v,(c _).trans a,b.keep e⟩
 ·obtain⟨v,a,b⟩:=d.c5;exact⟨v,(c _).trans a,b.keep e⟩
 ·obtain⟨v,a,b⟩:=d.c6;exact⟨v,(c _).trans a,b.keep e⟩
 ·obtain⟨v,a,b⟩:=d.c8;exact⟨v,(c _).trans a,b.keep e⟩
 ·obtain⟨v,a,b⟩:=d.c9;exact⟨v,(c _).trans a,b.keep e⟩
 ·obtain⟨v,a,b⟩:=d.c10;exact⟨v,(c _).trans a,b.keep e⟩
 ·obtain⟨v,a,b⟩:=d.c12;exact⟨v,(c _).trans a,b.keep e⟩
theorem zFS (p:Nat)(w:World)(S:Nat->Prop)(t:Tb)(a:TabAt w S p t)(ok:t.Ok)(s c:Nat)(i:s<t.nst)(d:c<256):
  Calls prog 154 #[pX p,iX s,int .u8 c] w λe w'=>e=returned (iX (t.next s (t.kind c)))/\w'.Alike w:=by
 obtain⟨_,y,b,o,cap,z,rfl,A,B,f⟩:=a.c8;obtain⟨u,C,b2,j,D,E,rfl,F,G,g⟩:=f s i;obtain⟨_,H,l,q,I,J,rfl,K,L,h⟩:=a.c6;have M:cX w l (q+c)=some (iX (t.kind c:Nat)):=h c d;have r:=ok.kind c d;have N:cX w b2 (j+t.kind c)=some (iX (t.next s (t.kind c):Nat)):=g (t.kind c) r;clear f g h a ok;generalize t.kind c=k at *;generalize t.next s k=x at *
 generalize t.nst=n at *;generalize t.count=m at *;have O:(s:Int)<(n:Int):=by omega
 have P:(k:Int)<(m:Int):=by omega
 have Q:(c:Int)<256:=by omega
 go_in;go_wp2;go_quiet (fail);go_wp2;go_ret;exact⟨rfl,rfl,rfl,rfl⟩
theorem zNh (p:Nat)(w:World)(S:Nat->Prop)(t:Tb)(a:TabAt w S p t):
  Calls prog 118 #[pX p] w λe w'=>e=returned (iX t.count)/\w'.Alike w:=by
 have b:=a.c7;generalize t.count=m at *;go_in;go_wp2;go_ret;exact⟨rfl,rfl,rfl,rfl⟩
def Tb.further (t:Tb)(a d:Nat):Nat:=(a*(t.count+1)+d)%t.rows
theorem zBE (p:Nat)(w:World)(S:Nat->Prop)(t:Tb)(c:TabAt w S p t)(ok:t.Ok)(a b:Nat)(g:a<3000)(i:b<=256):
  Calls prog 108 #[pX p,iX a,iX b] w λe w'=>e=returned (iX (t.further a b))/\w'.Alike w:=by
 have j:=c.c7;have k:=c.c11;have l:=ok.count;have b2:=ok.rows0;have o:=ok.rows;have f:Hid (t.further a b=(a*(t.count+1)+b)%t.rows):=rfl;generalize t.further a b=x at *;generalize t.count=m at *;generalize t.rows=n at *;have q:(a:Int)*((m:Int)+1)<=771000:=by
  have r:a*(m+1)<=771000:=lY (Nat.mul_le_mul (show a<=3000 by omega) (show m+1<=257 by omega)) (by decide);have e:(a:Int)*((m:Int)+1)=((a*(m+1):Nat):Int):=by simp
  rw[e];omega
 have s:0<=(a:Int)*((m:Int)+1):=by
  have e:(a:Int)*((m:Int)+1)=((a*(m+1):Nat):Int):=by simp
  rw[e];omega
 have u:((n:Int)==0)=false:=by rw[hX];omega
 go_in;go_wp2;go_quiet (fail);go_wp2;go_ret;exact⟨zNW (by rw[f.out];simp),rfl,rfl,rfl⟩
def Tb.longer (t:Tb)(a s:Nat):Bool:=decide (t.long ((a*t.nst+s)/8)/2^((a*t.nst+s)%8)%2=1)
theorem zMU (x k:Nat)(b:x<256):(bits BinOp.and IntKind.u8 ((x:Int)/2^k) 1==1)=decide (x/2^k%2=1):=by
 have c:x/2^k<=x:=Nat.div_le_self _ _;have a:=u8_and_nat (x/2^k) 1 (by omega) (by decide);rw[zCe];rw[show ((1:Nat):Int)=1 from rfl] at a;rw[a,Nat.and_one_is_mod,Bool.eq_iff_iff];simp only[beq_iff_eq,decide_eq_true_eq];omega
abbrev Ca:=Calls prog
end
section
def Row (w:World)(H:Nat)(e:TypeId)(v:Value)(n:Nat)(f:Nat->Value):Prop:=w.ownsRow H e 1 v n ((List.range n).map f)
section
variable {w w':World} {H:Nat} {e e':TypeId} {v u:Value} {n m:Nat} {f f':Nat->Value}
theorem Row.get (c:Row w H e v n f)(r:0<n):∃g cap,v=slice (qX g) n cap/\H<=g/\g<w.heap.size/\n<=cap/\cap<=maxLen/\(∀i,i<n->w.cell? ⟨g,i,none⟩=some (f i))/\(∀i,w.frozen? ⟨g,i,none⟩=false):=by
 rcases c.2 with⟨_,s⟩|⟨g,cap,d,j,k,a,l,o,t,p⟩
 ·omega
 ·refine⟨g,cap,j,k,(kQ.1 a).1,l,o,λi q=>?_,λi=>by simp[World.frozen?,a]⟩
  have b:(d.toList.take (n*1))[i]? =some (f i):=by rw[p];simp[q]
  rw[List.getElem?_take,if_pos (by omega)] at b;simp[World.cell?,a];simpa using b
theorem Row.congr (a:Row w H e v n f)(b:∀i,i<n->f i=f' i):Row w H e v n f':=by
 unfold Row at *;rw[<-List.map_congr_left λi c=>b i (List.mem_range.1 c)];exact a
theorem Row.set {g cap:Nat}(o:Row w H e (slice (qX g) n cap) n f)(i:Nat)(x:Value):Row (w.setCell ⟨g,i,none⟩ x) H e (slice (qX g) n cap) n (λj=>if j=i then x else f j):=by
 refine⟨by simp,?_⟩;rcases o.2 with⟨b,_⟩|⟨C,D,c,b,p,q,r,s,t,y⟩
 ·cases b
 ·injection b with d _ z
  injection d with d;injection d with A;subst A z;refine .inr ⟨g,cap,c.setIfInBounds i x,rfl,p,?_,r,s,by simpa using t,?_⟩
  ·simp[setCell,lU,q]
  ·apply List.ext_getElem?
   intro j;have a:(c.toList.take (n*1))[j]? =((List.range n).map f)[j]? :=by rw[y]
   rw[List.getElem?_take] at a ⊢;by_cases k:j<n
   ·rw[if_pos (by omega)] at a ⊢
    simp[k] at a;have B:j<c.size:=by omega
    simp[Array.getElem?_setIfInBounds,k];by_cases l:i=j
    ·subst l
     simp[B]
    ·simp[l,Ne.symm l]
     simpa using a
   ·rw[if_neg (by omega)]
    simp[k]
theorem Row.blk (a:Row w H e v n f)(b:∀g,H<=g->g<w.heap.size->v.ownBlock=some g->w'.heap[g]? =w.heap[g]?):Row w' H e v n f:=zD a b
theorem Row.setOther {g i cap:Nat}{x:Value}(a:Row w H e v n f)(b:Row w H e' (slice (qX g) m cap) m f')(c:e≠e'):Row (w.setCell ⟨g,i,none⟩ x) H e v n f:=
 a.blk λk _ _ d=>lJ _ _ _ _ (λj=>zC3 a b c d (by rw[show k=g from j];rfl))
theorem Row.mono {a:Nat}(b:Row w H e v n f)(c:a<=H):Row w a e v n f:=yD b c
end
theorem zHU {w:World}{H b:Nat}{c:Tc}{e:TypeId}{v:Value}{n:Nat}{f:Nat->Value}(a:zV w b c)(j:Row w H e v n f)(k:e≠90){g:Nat}(d:v.ownBlock=some g):g≠b:=by
 intro l;subst l;rcases j.2 with⟨i,_⟩|⟨o,_,s,i,_,p,_⟩
 ·rw[i] at d;cases d
 ·rw[i] at d
  have q:o=g:=by simpa[Value.ownBlock] using d
  subst q;unfold zV at a;rw[p] at a;injection a with a;injection a with _ r _;exact k r
structure Mem (w:World)(H b:Nat)(c:Tc)(t:Tb):Prop where
 tp:zV w b c
 stream:c.stream=bool t.stream
 ahead:c.ahead=int i64 t.ahead
 hold:c.hold=int i64 t.hold
 count:c.count=int i64 t.count
 rows:c.rows=int i64 t.rows
 starts:Row w H 3 c.starts t.nmode λi=>int i64 (t.start i:Nat)
 acts:Row w H 3 c.acts t.nrule λi=>int i64 (t.act i:Nat)
 pushed:Row w H 3 c.pushed t.nrule λi=>int i64 (t.push i:Nat)
 kinds:Row w H 3 c.kinds 256 λi=>int i64 (t.kind i:Nat)
 next:∃rv,Row w H 45 c.next t.nst rv/\∀i,i<t.nst->Row w H 3 (rv i) t.count λk=>int i64 (t.next i k:Nat)
 ends:Row w H 3 c.ends t.nst λi=>int i64 (t.ends i)
 live:Row w H 4 c.live t.nst λi=>bool (t.live i)
 longer:Row w H 5 c.longer t.nlong λi=>int .u8 (t.long i:Nat)
 HH:H<=w.heap.size
theorem Mem.keep {w w':World}{H b:Nat}{c:Tc}{t:Tb}(a:Mem w H b c t)(d:w'.heap[b]? =w.heap[b]?)(j:∀k,H<=k->k<w.heap.size->w'.heap[k]? =w.heap[k]?)(l:w.heap.size<=w'.heap.size):Mem w' H b c t:=by
 have k:∀{e v n f},Row w H e v n f->Row w' H e v n f:=λr=>r.blk λg o p _=>j g o p;obtain⟨rv,q,s⟩:=a.next
 exact⟨a.tp.of_block d,a.stream,a.ahead,a.hold,a.count,a.rows,k a.starts,k a.acts,k a.pushed,k a.kinds,⟨rv,k q,λi x=>k (s i x)⟩,k a.ends,k a.live,k a.longer,lY a.HH l⟩
theorem Mem.setLive {w:World}{H b g cap:Nat}{c:Tc}{t:Tb}(a:Mem w H b c t)(k:c.live=slice (qX g) t.nst cap)(i:Nat)(q:H<=g):Mem (w.setCell ⟨g,i,none⟩ (bool true)) H b c {t with live:=λj=>if j=i then true else t.live j}:=by
 have d:=a.live;rw[k] at d;obtain⟨rv,l,o⟩:=a.next
 refine⟨a.tp.of_block (lJ _ _ _ _ (zHU a.tp d (by decide) rfl).symm),a.stream,a.ahead,a.hold,a.count,a.rows,a.starts.setOther d (by decide),a.acts.setOther d (by decide),a.pushed.setOther d (by decide),a.kinds.setOther d (by decide),⟨rv,l.setOther d (by decide),λi p=>(o i p).setOther d (by decide)⟩,a.ends.setOther d (by decide),?_,a.longer.setOther d (by decide),by simpa[World.setCell] using a.HH⟩;rw[k];refine(d.set i (bool true)).congr λj _=>?_;show(if j=i then Value.bool true else Value.bool (t.live j))=Value.bool (if j=i then true else t.live j);by_cases e:j=i <;> simp[e]
structure Tb.OkN (t:Tb):Prop where
 count:t.count<=256
 nst:t.nst<=200
 next:∀s k,s<t.nst->k<t.count->t.next s k<t.nst
 ends:∀s,s<t.nst->-1<=t.ends s/\t.ends s<t.nrule
theorem Tb.Ok.n {t:Tb}(ok:t.Ok):t.OkN:=⟨ok.count,ok.nst,ok.next,ok.ends⟩
def Tb.anyTo (t:Tb)(s:Nat):Nat->Bool
 |0=>false
 |k+1=>t.anyTo s k||t.live (t.next s k)
theorem zNy (t:Tb)(s k n:Nat)(c:k<=n)(a:t.anyTo s k=true):t.anyTo s n=true:=by
 induction n with
 |zero=>rw[show k=0 by omega] at a;exact a
 |succ n b=>
  by_cases e:k=n+1
  ·rw[<-e];exact a
  ·rw[Tb.anyTo,b (by omega)];rfl
theorem zDu (w:World)(H b:Nat)(c:Tc)(t:Tb)(a:Mem w H b c t)(ok:t.OkN)(s:Nat)(d:s<t.nst)(y:1<=t.count)(rv:Value)(h:Row w H 3 rv t.count λk=>iX (t.next s k:Nat)):
  Calls prog 138 #[pX b,rv] w λe w'=>e=returned (bool (t.anyTo s t.count))/\w'=w:=by
 obtain⟨g,cap,rfl,O,P,Q,R,l,z⟩:=h.get y;obtain⟨gl,A,B,S,T,U,V,o,C⟩:=a.live.get (Nat.lt_of_le_of_lt lX d);have W:cX w b 10=some (slice (qX gl) t.nst A):=by rw[<-B];exact a.tp.get_live
 have D:Hid (∀k,k<t.count->t.next s k<t.nst):=λk E=>ok.next s k d E
 have F:=vl l;have G:=vl o;have X:=ok.count;have Y:=ok.nst;clear a ok h l o z C;generalize aa:t.count=n at *;go_in;go_wp2;go_loop [9] (λi=>∃j:Nat,j<=n/\i=iX j/\t.anyTo s j=false) (λi=>n-(intOf i).toNat)
 case atStart=>exact⟨0,lX,rfl,rfl⟩
 case round=>
  obtain⟨j,ab,rfl,I⟩:=hrel;have p:=vl I;by_cases q:j<n
  ·have J:(j:Int)<(n:Int):=by omega
   have ac:=F j q;have K:=D j q;have ad:=G _ K;have ae:(t.next s j:Int)<(t.nst:Int):=by omega
   have L:Hid (t.anyTo s (j+1)=(t.anyTo s j||t.live (t.next s j))):=rfl;generalize t.next s j=x at *
   generalize af:t.live x=lv at *;have r:Hid (t.anyTo s (j+1)=lv):=by show _=_;rw[L.out,p.out];rfl
   cases lv with
   |true=>
    go_wp2;go_ret;exact⟨vC (zNy t s (j+1) n (by omega) r).symm,rfl⟩
   |false=>
    go_wp2;exact⟨⟨j+1,by omega,by go_num,r⟩,by simp[intOf];omega⟩
  ·have M:j=n:=by omega
   have J:(n:Int)<=(j:Int):=by omega
   have N:Hid (t.anyTo s n=false):=by rw[<-M];exact p
   go_wp2;go_ret;exact⟨vC N.symm,rfl⟩
end
theorem Tb.Ok.withLive {t:Tb}(ok:t.Ok)(f:Nat->Bool):({t with live:=f}).Ok:=
 ⟨ok.ahead,ok.hold0,ok.hold,ok.count,ok.rows0,ok.rows,ok.nst,ok.nmode,ok.long,ok.start,ok.push,ok.kind,ok.next,ok.ends,ok.longB⟩
theorem Tb.OkN.withLive {t:Tb}(ok:t.OkN)(f:Nat->Bool):({t with live:=f}).OkN:=⟨ok.count,ok.nst,ok.next,ok.ends⟩
def Tb.spreadTo (t:Tb):Nat->Tb×Bool
 |0=>(t,false)
 |s+1=>if !(t.spreadTo s).1.live s&&(t.spreadTo s).1.anyTo s t.count then({(t.spreadTo s).1 with live:=λj=>if j=s then true else(t.spreadTo s).1.live j},true) else t.spreadTo s
theorem zB1 (t:Tb)(s:Nat)(a:(t.spreadTo s).1.live s=false)(b:(t.spreadTo s).1.anyTo s t.count=true):t.spreadTo (s+1)=({(t.spreadTo s).1 with live:=λj=>if j=s then true else(t.spreadTo s).1.live j},true):=by
 rw[Tb.spreadTo,a,b];rfl
theorem zAI (t:Tb)(s:Nat)(a:(t.spreadTo s).1.live s=true\/(t.spreadTo s).1.anyTo s t.count=false):t.spreadTo (s+1)=t.spreadTo s:=by
 rw[Tb.spreadTo];rcases a with a|a <;> rw[a] <;> simp
theorem vP (t:Tb)(s:Nat):(t.spreadTo s).1={t with live:=(t.spreadTo s).1.live}:=by
 induction s with
 |zero=>rfl
 |succ s a=>
  rw[Tb.spreadTo];split
  ·show({(t.spreadTo s).1 with live:=_}:Tb)=_
   rw[a]
  ·exact a
theorem zB0 (t:Tb)(s:Nat):(t.spreadTo s).1.nst=t.nst:=by rw[vP]
theorem zHQ (t:Tb)(s:Nat):(t.spreadTo s).1.count=t.count:=by rw[vP]
theorem zMA {t:Tb}(ok:t.OkN)(s:Nat):(t.spreadTo s).1.OkN:=by rw[vP];exact ok.withLive _
theorem zEv (w:World)(H b:Nat)(c:Tc)(t:Tb)(z:Mem w H b c t)(ok:t.OkN)(A:1<=t.nst)(S:1<=t.count):
  Calls prog 100 #[pX b] w λe w'=>e=returned (bool (t.spreadTo t.nst).2)/\Mem w' H b c (t.spreadTo t.nst).1/\Below H w w':=by
 obtain⟨rv,u,I⟩:=z.next
 obtain⟨g,cap,T,ap,aq,ar,au,av,aw⟩:=u.get A;obtain⟨gl,J,ad,ae,ax,ay,az,aA,aB⟩:=z.live.get A;have aC:cX w b 8=some (slice (qX g) t.nst cap):=by rw[<-T];exact z.tp.get_next
 have af:=vl z;have B:=vl ad;have ag:=vl T;have aD:=ok.nst;generalize ah:t.nst=n at *;have C:=vl ah;go_in;go_wp2;go_loopg [3,11] n (λq more i wr=>∃j:Nat,q=n-j/\j<=n/\i=iX (j:Int)/\more=bool (t.spreadTo j).2/\Mem wr H b c (t.spreadTo j).1/\Below H w wr)
 case atStart=>exact⟨0,rfl,lX,rfl,rfl,af,Below.refl _ _⟩
 case round=>
  obtain⟨j,K,aE,rfl,rfl,o,L⟩:=hrel;have d:Hid (gk=n-j/\Mem wr H b c (t.spreadTo j).1/\Below H w wr):=⟨K,o,L⟩
  by_cases v:j<n
  ·have ai:(j:Int)<(n:Int):=by omega
   obtain⟨rv,u,I⟩:=o.next
   rw[ag.out,zB0,C.out] at u;obtain⟨aj,aF,D,_,_,_,_,U,_⟩:=u.get A;have ak:aj=g:=by injection D with f _ _;injection f with f;injection f with f;exact f.symm
   subst ak;have M:=U j v;have N:=o.live;rw[B.out,zB0,C.out] at N;obtain⟨x,aG,D,_,_,_,_,V,W⟩:=N.get A;have al:x=gl:=by injection D with f _ _;injection f with f;injection f with f;exact f.symm
   subst al;have X:=V j v;have aH:=W j;have aI:cX wr b 10=some (slice (qX x) n J):=by rw[<-B.out];exact o.tp.get_live
   have O:=I j (by rw[zB0,C.out];exact v);obtain⟨ao,Y,P⟩:=zE O;have E:=vl O;rw[P] at M;have F:=vl P;have am:=vl <| zB1 t j;have aa:=vl <| zAI t j;have G:=zMA ok j;have h:=zHQ t j;have p:(t.spreadTo j).1.nst=n:=by rw[zB0,C.out]
   clear K o L U V W O P u I N D;generalize ab:t.spreadTo j=a at *;cases r:a.1.live j with
   |true=>
    rw[r] at X;have m:=vl <| aa (.inl r);go_wp2;go_roundg (n-(j+1))
    case measure=>rw[d.out.1];omega
    case rel=>exact⟨j+1,rfl,by omega,congrArg (Value.int IntKind.i64) (by omega),by rw[m.out],by rw[m.out];exact d.2.1,d.2.2⟩
   |false=>
    rw[r] at X;cases s:a.1.anyTo j t.count with
    |true=>
     have m:=vl <| am r s;have Q:Hid (a.1.anyTo j a.1.count=true):=by show _=_;rw[h];exact s
     have R:Hid (Row wr H 3 (slice ao t.count Y) a.1.count λk=>iX (a.1.next j k:Nat)):=by show Row _ _ _ _ _ _;rw[<-h,<-F.out];exact E
     have l:j<a.1.nst:=by rw[p];exact v
     have y:1<=a.1.count:=by rw[h];exact S
     have ac:Hid (c.live=slice (qX x) a.1.nst J):=by show _=_;rw[p];exact B
     clear r s ab E F p;rw[h] at M;clear h;go_wp2_with fail;refine(zDu wr H b c a.1 d.2.1 G j l y _ R).mono ?_;rintro e w1 ⟨rfl,rfl⟩;rw[Q.out];clear l y G;go_wp2_with fail;go_roundg (n-(j+1))
     case measure=>rw[d.out.1];omega
     case rel=>
      refine⟨j+1,rfl,by omega,congrArg (Value.int IntKind.i64) (by omega),by rw[m.out],?_,d.2.2.trans ?_⟩
      ·rw[m.out]
       exact d.2.1.setLive ac j ae
      ·exact⟨rfl,rfl,rfl,by simp[World.setCell],λk aJ=>lJ _ _ _ _ (by show k≠x;omega)⟩
    |false=>
     have m:Hid (t.spreadTo (j+1)=a):=aa (.inr s);have Q:Hid (a.1.anyTo j a.1.count=false):=by show _=_;rw[h];exact s
     have R:Hid (Row wr H 3 (slice ao t.count Y) a.1.count λk=>iX (a.1.next j k:Nat)):=by show Row _ _ _ _ _ _;rw[<-h,<-F.out];exact E
     have l:j<a.1.nst:=by rw[p];exact v
     have y:1<=a.1.count:=by rw[h];exact S
     have ac:Hid (c.live=slice (qX x) a.1.nst J):=by show _=_;rw[p];exact B
     clear r s ab E F p;rw[h] at M;clear h;go_wp2_with fail;refine(zDu wr H b c a.1 d.2.1 G j l y _ R).mono ?_;rintro e w1 ⟨rfl,rfl⟩;rw[Q.out];clear l y G;go_wp2_with fail;go_roundg (n-(j+1))
     case measure=>rw[d.out.1];omega
     case rel=>exact⟨j+1,rfl,by omega,congrArg (Value.int IntKind.i64) (by omega),by rw[m.out],by rw[m.out];exact d.2.1,d.2.2⟩
  ·have l:j=n:=by omega
   have ai:(n:Int)<=(j:Int):=by omega
   rw[l] at d;clear K o L;have an:Hid ((t.spreadTo j).2=(t.spreadTo n).2):=by show _=_;rw[l]
   clear l;generalize (t.spreadTo j).2=aK at *;go_wp2_with fail;go_ret;exact⟨vC an,d.2.1,d.2.2⟩
structure MemB (w:World)(H b:Nat)(c:Tc)(t:Tb):Prop where
 tp:zV w b c
 stream:c.stream=bool t.stream
 ahead:c.ahead=int i64 t.ahead
 hold:c.hold=int i64 t.hold
 count:c.count=int i64 t.count
 rows:c.rows=int i64 t.rows
 starts:Row w H 3 c.starts t.nmode λi=>int i64 (t.start i:Nat)
 acts:Row w H 3 c.acts t.nrule λi=>int i64 (t.act i:Nat)
 pushed:Row w H 3 c.pushed t.nrule λi=>int i64 (t.push i:Nat)
 kinds:Row w H 3 c.kinds 256 λi=>int i64 (t.kind i:Nat)
 next:∃rv,Row w H 45 c.next t.nst rv/\∀i,i<t.nst->Row w H 3 (rv i) t.count λk=>int i64 (t.next i k:Nat)
 ends:Row w H 3 c.ends t.nst λi=>int i64 (t.ends i)
 longer:Row w H 5 c.longer t.nlong λi=>int .u8 (t.long i:Nat)
 HH:H<=w.heap.size
theorem MemB.withLive {w w':World}{H b:Nat}{c:Tc}{t:Tb}{v:Value}(a:MemB w H b c t)(d:Keep w.heap.size b w w')(j:zV w' b {c with live:=v}):MemB w' H b {c with live:=v} t:=by
 have k:∀{e v n f},e≠90->Row w H e v n f->Row w' H e v n f:=λl r=>r.blk λg _ m o=>d.block g m (zHU a.tp r l o);obtain⟨rv,p,q⟩:=a.next
 exact⟨j,a.stream,a.ahead,a.hold,a.count,a.rows,k (by decide) a.starts,k (by decide) a.acts,k (by decide) a.pushed,k (by decide) a.kinds,⟨rv,k (by decide) p,λi s=>k (by decide) (q i s)⟩,k (by decide) a.ends,k (by decide) a.longer,lY a.HH d.size⟩
theorem MemB.mem {w:World}{H b:Nat}{c:Tc}{t:Tb}(a:MemB w H b c t)(f:Nat->Bool)(d:Row w H 4 c.live t.nst λi=>bool (f i)):Mem w H b c {t with live:=f}:=
 ⟨a.tp,a.stream,a.ahead,a.hold,a.count,a.rows,a.starts,a.acts,a.pushed,a.kinds,a.next,a.ends,d,a.longer,a.HH⟩
def zFe (live:Nat->Bool):Nat->Nat
 |0=>0
 |n+1=>zFe live n+if live n then 0 else 1
def Tb.deadTo (t:Tb)(n:Nat):Nat:=zFe t.live n
theorem zOx (live:Nat->Bool)(s:Nat)(b:live s=false)(n:Nat):zFe (λj=>if j=s then true else live j) n+(if s<n then 1 else 0)=zFe live n:=by
 induction n with
 |zero=>rfl
 |succ n c=>
  simp only[zFe];generalize zFe (λj=>if j=s then true else live j) n=d at *;generalize zFe live n=f at *;by_cases e:n=s
  ·subst e
   simp[b] at *;omega
  ·by_cases a:s<n
   ·simp[e,a,show s<n+1 by omega] at *
    omega
   ·simp[e,a,show¬s<n+1 by omega] at *
    omega
theorem zJb (t:Tb)(s:Nat)(e:s<=t.nst):(t.spreadTo s).1.deadTo t.nst+(if (t.spreadTo s).2 then 1 else 0)<=t.deadTo t.nst:=by
 induction s with
 |zero=>exact lQ
 |succ s a=>
  have a:=a (by omega);cases b:(t.spreadTo s).1.live s with
  |true=>rw[zAI t s (.inl b)];exact a
  |false=>
   cases c:(t.spreadTo s).1.anyTo s t.count with
   |false=>rw[zAI t s (.inr c)];exact a
   |true=>
    rw[zB1 t s b c];have d:=zOx (t.spreadTo s).1.live s b t.nst;rw[if_pos (by omega)] at d;show zFe (λj=>if j=s then true else(t.spreadTo s).1.live j) t.nst+(if true=true then 1 else 0)<=_;rw[if_pos rfl,d];exact lY (Nat.le_add_right _ _) a
theorem zI9 (t:Tb)(s:Nat)(a:(t.spreadTo s).2=false):(t.spreadTo s).1=t:=by
 induction s with
 |zero=>rfl
 |succ s b=>
  cases c:(t.spreadTo s).1.live s with
  |true=>rw[zAI t s (.inl c)] at a ⊢;exact b a
  |false=>
   cases d:(t.spreadTo s).1.anyTo s t.count with
   |false=>rw[zAI t s (.inr d)] at a ⊢;exact b a
   |true=>rw[zB1 t s c d] at a;cases a
def Tb.itr (t:Tb):Nat->Tb
 |0=>t
 |n+1=>((t.itr n).spreadTo t.nst).1
theorem zIP {t u:Tb}(a:u={t with live:=u.live})(f:Nat->Bool):({u with live:=f}:Tb)={t with live:=f}:=by rw[a]
theorem vN (t:Tb)(n:Nat):t.itr n={t with live:=(t.itr n).live}:=by
 induction n with
 |zero=>rfl
 |succ n a=>exact(vP (t.itr n) t.nst).trans (zIP a _)
theorem zIo (t:Tb)(n:Nat):(t.itr n).nst=t.nst:=by rw[vN]
theorem vF (t:Tb)(n:Nat):(t.itr n).count=t.count:=by rw[vN]
theorem zLh {t:Tb}(ok:t.OkN)(n:Nat):(t.itr n).OkN:=by rw[vN];exact ok.withLive _
def Tb.first (t:Tb):Tb:={t with live:=λs=>t.ends s != -1}
theorem zCI (w:World)(H b:Nat)(c:Tc)(t:Tb)(f:MemB w H b c t)(ai:c.live=slice none 0 0)(ok:t.OkN)(L:1<=t.nst)(aj:1<=t.count):
  Calls prog 65 #[pX b] w λe w'=>e=returned (tuple #[])/\∃v n,Mem w' H b {c with live:=v} (t.first.itr n)/\((t.first.itr n).spreadTo t.nst).2=false/\Keep H b w w':=by
 obtain⟨ak,al,am,an,ao⟩:=info_parts vO;obtain⟨M,ap,N,aJ,aq,aK,aL,ar,aM⟩:=f.ends.get L;have aN:cX w b 9=some (slice (qX M) t.nst ap):=by rw[<-N];exact f.tp.get_ends
 have O:=vl f;have au:=vl ar;have aO:=vl ok.ends;have aP:=ok.nst;have aQ:=f.tp.lt;have av:=zHU f.tp f.ends (by decide) (by rw[N];rfl);have aw:=f.HH;generalize ax:t.nst=n at *;have y:=vl ax;go_in;apply wp_cut;intro aR P;go_wp2;go_loopg [9] n (λq i wr=>∃(j:Nat) (v:Value),q=n-j/\j<=n/\i=iX (j:Int)/\Row wr w.heap.size 4 v j (λs=>bool (t.ends s != -1))/\zV wr b {c with live:=v}/\Keep w.heap.size b w wr)
 case atStart=>exact⟨0,slice none 0 0,rfl,lX,rfl,ownsRow_nil _ _ _ _,(by rw[<-ai];exact O.tp),Keep.refl _ _ _⟩
 case round=>
  obtain⟨j,v,z,aS,rfl,l,g,a⟩:=hrel;have ay:=a.size;by_cases az:j<n
  ·have aA:(j:Int)<(n:Int):=by omega
   have aB:=(gZ (a.block M aq av)).trans (au j az);have aT:=g.get_live;have Q:Hid (gk=n-j/\Keep w.heap.size b w wr):=⟨z,a⟩
   have R:=vl l;have A:=vl g;have B:Hid (∃x,x=t.ends j):=⟨_,rfl⟩
   obtain⟨x,C⟩:=B;have B:=vl C;rw[<-C] at aB;clear z l g a C;go_wp2_with (first|(at_builtin;refine wpList_append_lies _ rfl _ _ 28 rfl w.heap.size 4 ak (bool false) 1 1 underlying28 al am an ao rfl (by decide) _ _ _ rfl (R.alloc _) ⟨wr.heap.size,0,none⟩ 1 1 [bool (x != -1)] rfl rfl (cell_one_new _ _ _) (by intro u S;simp at S;subst S;rfl) (by decide) (by unfold maxLen;omega) (by omega) (by simp;omega) _ rfl ?_;intro aC cap w2 aD aE aU aV;have o:=xF R aE ay;have aW:=(A.of_block (o.block b (by omega))).get_live;have q2:=(A.of_block (o.block b (by omega))).fz 10))
   have aF:=A.of_block (o.block b (by omega));have aG:w2.ownsRow w.heap.size 4 1 (slice (qX aC) (j+1) cap) (j+1) ((List.range (j+1)).map λs=>bool (t.ends s != -1)):=by
    rw[xP,<-B.out];exact aD
   go_roundg (n-(j+1))
   case measure=>rw[Q.out.1];omega
   case rel=>exact⟨j+1,_,rfl,by omega,congrArg (Value.int IntKind.i64) (by omega),xW aG (λ_=>Keep.set _ _ _) (by omega),aF.set_live _,(Q.2.trans (xD o)).trans (Keep.set _ _ _)⟩
  ·have T:j=n:=by omega
   have aA:(n:Int)<=(j:Int):=by omega
   have aH:Hid (Mem wr H b {c with live:=v} t.first):=by
    refine(O.withLive a g).mem _ ?_;show Row wr H 4 v t.nst _;rw[y.out,<-T];exact l.mono aw
   have p:=vl a;clear z l g a T;go_wp2_with fail;apply P.out;clear P;have U:=zLh (t:=t.first) (ok.withLive _);have V:=zIo t.first
   have W:=vF t.first
   go_wp2_with fail;go_loopg [] (t.first.deadTo n) (λq X=>∃m:Nat,q=(t.first.itr m).deadTo n/\Mem X H b {c with live:=v} (t.first.itr m)/\Keep H b w X)
   case atStart=>exact⟨0,rfl,aH,⟨p.os,p.output,p.size,λk a=>p.block k (by omega)⟩⟩
   case round=>
    obtain⟨m,Y,D,aa⟩:=hrel;have E:(t.first.itr m).nst=n:=by rw[V];exact y
    have F:=zEv wr H b _ (t.first.itr m) D (U m) (by rw[E];exact L) (by rw[W];exact aj);have G:=zJb (t.first.itr m) (t.first.itr m).nst lQ;rw[E] at F G;have I:Hid (gk=(t.first.itr m).deadTo n/\Mem wr H b {c with live:=v} (t.first.itr m)/\Keep H b w wr):=⟨Y,D,aa⟩
    have ab:Hid (t.first.itr (m+1)=((t.first.itr m).spreadTo n).1):=by show _=_;rw[<-y.out];rfl
    have ac:Hid (((t.first.itr m).spreadTo n).1.deadTo n+(if ((t.first.itr m).spreadTo n).2 then 1 else 0)<=(t.first.itr m).deadTo n):=G;have ad:Hid (Calls _ _ _ _ _):=F;clear Y D aa F G E U V W;go_wp2_with fail;refine Calls.mono ad ?_;rintro e w2 ⟨rfl,ae,af⟩;have d:Hid (Mem w2 H b {c with live:=v} ((t.first.itr m).spreadTo n).1/\Below H wr w2):=⟨ae,af⟩
    clear ae af ad;cases r:((t.first.itr m).spreadTo n).2 with
    |true=>
     have J:=ac.out;rw[r,if_pos rfl,<-ab.out] at J;have aI:Hid ((t.first.itr (m+1)).deadTo n+1<=(t.first.itr m).deadTo n):=J;clear r ac J;go_wp2_with fail;go_roundg ((t.first.itr (m+1)).deadTo n)
     case measure=>rw[I.out.1];exact aI
     case rel=>exact⟨m+1,rfl,by rw[ab.out];exact d.1,I.2.2.trans ⟨d.2.os,d.2.output,d.2.size,λk a _=>d.2.block k a⟩⟩
    |false=>
     have ag:Hid (((t.first.itr m).spreadTo n).2=false):=r;clear r;go_wp2_with fail;go_end0;refine⟨rfl,v,m,?_,ag,I.2.2.trans ⟨d.2.os,d.2.output,d.2.size,λk a _=>d.2.block k a⟩⟩;have ah:=d.1;rw[zI9 _ _ ag.out] at ah;exact ah
section
theorem Keep.lower {H b d c:Nat}{w w':World}(a:Keep H b w w')(e:d<=H)(f:d<=b):Keep d c w w':=⟨a.os,a.output,a.size,λk g _=>a.block k (by omega) (by omega)⟩
def Ints (w:World)(S:Nat->Prop)(v:Value)(l:List Int):Prop:=
 ∃ao cap,v=slice ao l.length cap/\l.length<=cap/\cap<=maxLen/\∀i,i<l.length->∃b o,ao=some ⟨b,o,none⟩/\S b/\w.cell? ⟨b,o+i,none⟩=some (int i64 (l.getD i 0))
def Bools (w:World)(S:Nat->Prop)(v:Value)(l:List Bool):Prop:=
 ∃ao cap,v=slice ao l.length cap/\l.length<=cap/\cap<=maxLen/\∀i,i<l.length->∃b o,ao=some ⟨b,o,none⟩/\S b/\w.cell? ⟨b,o+i,none⟩=some (bool (l.getD i false))
def IntRows (w:World)(S:Nat->Prop)(v:Value)(l:List (List Int)):Prop:=
 ∃ao cap,v=slice ao l.length cap/\l.length<=cap/\cap<=maxLen/\∀i,i<l.length->∃b o u,ao=some ⟨b,o,none⟩/\S b/\w.cell? ⟨b,o+i,none⟩=some u/\Ints w S u (l.getD i [])
section
variable {w w':World} {S S':Nat->Prop} {v:Value}
theorem Ints.keep {l:List Int}(c:Ints w S v l)(e:∀b,S b->w'.heap[b]? =w.heap[b]?):Ints w' S v l:=by
 obtain⟨ao,cap,d,f,g,j⟩:=c;refine⟨ao,cap,d,f,g,λi k=>?_⟩;obtain⟨b,o,m,a,p⟩:=j i k;exact⟨b,o,m,a,(gZ (e b a)).trans p⟩
theorem Ints.mono {l:List Int}(a:Ints w S v l)(e:∀b,S b->S' b):Ints w S' v l:=by
 obtain⟨ao,cap,c,d,f,g⟩:=a;refine⟨ao,cap,c,d,f,λi j=>?_⟩;obtain⟨b,o,k,m,p⟩:=g i j;exact⟨b,o,k,e b m,p⟩
theorem Bools.keep {l:List Bool}(c:Bools w S v l)(e:∀b,S b->w'.heap[b]? =w.heap[b]?):Bools w' S v l:=by
 obtain⟨ao,cap,d,f,g,j⟩:=c;refine⟨ao,cap,d,f,g,λi k=>?_⟩;obtain⟨b,o,m,a,p⟩:=j i k;exact⟨b,o,m,a,(gZ (e b a)).trans p⟩
theorem Bools.mono {l:List Bool}(a:Bools w S v l)(e:∀b,S b->S' b):Bools w S' v l:=by
 obtain⟨ao,cap,c,d,f,g⟩:=a;refine⟨ao,cap,c,d,f,λi j=>?_⟩;obtain⟨b,o,k,m,p⟩:=g i j;exact⟨b,o,k,e b m,p⟩
theorem IntRows.keep {l:List (List Int)}(c:IntRows w S v l)(e:∀b,S b->w'.heap[b]? =w.heap[b]?):IntRows w' S v l:=by
 obtain⟨ao,cap,d,f,g,j⟩:=c;refine⟨ao,cap,d,f,g,λi k=>?_⟩;obtain⟨b,o,u,m,a,p,q⟩:=j i k;exact⟨b,o,u,m,a,(gZ (e b a)).trans p,q.keep e⟩
theorem IntRows.mono {l:List (List Int)}(a:IntRows w S v l)(e:∀b,S b->S' b):IntRows w S' v l:=by
 obtain⟨ao,cap,c,d,f,g⟩:=a;refine⟨ao,cap,c,d,f,λi j=>?_⟩;obtain⟨b,o,u,k,m,p,q⟩:=g i j;exact⟨b,o,u,k,e b m,p,q.mono e⟩
theorem zCz {H:Nat}{e:TypeId}{l:List Int}(c:w.ownsRow H e 1 v l.length (l.map λx=>iX x))(f:∀g,v.ownBlock=some g->S g):Ints w S v l:=by
 rcases c.2 with⟨a,j⟩|⟨g,cap,o,a,p,q,k,m,r,s⟩
 ·refine⟨none,0,by rw[a,j],by omega,by unfold maxLen;omega,λi b=>by omega⟩
 ·refine⟨some ⟨g,0,none⟩,cap,a,k,m,λi b=>⟨g,0,rfl,f g (by rw[a];rfl),?_⟩⟩
  have d:=c.cells (g:=g) (by rw[a];rfl) i (iX (l.getD i 0)) (by
   rw[gQ,lV b,lW,lV b];rfl)
  rw[Addr.add_lit] at d;exact d
theorem zHp {H:Nat}{e:TypeId}{l:List Bool}(c:w.ownsRow H e 1 v l.length (l.map λx=>bool x))(f:∀g,v.ownBlock=some g->S g):Bools w S v l:=by
 rcases c.2 with⟨a,j⟩|⟨g,cap,o,a,p,q,k,m,r,s⟩
 ·refine⟨none,0,by rw[a,j],by omega,by unfold maxLen;omega,λi b=>by omega⟩
 ·refine⟨some ⟨g,0,none⟩,cap,a,k,m,λi b=>⟨g,0,rfl,f g (by rw[a];rfl),?_⟩⟩
  have d:=c.cells (g:=g) (by rw[a];rfl) i (bool (l.getD i false)) (by
   rw[gQ,lV b,lW,lV b];rfl)
  rw[Addr.add_lit] at d;exact d
end
theorem Ints.block {w:World}{S:Nat->Prop}{v:Value}{l:List Int}(e:Ints w S v l)(f:0<l.length):∃b o cap,v=slice (some ⟨b,o,none⟩) l.length cap/\S b/\l.length<=cap/\cap<=maxLen/\∀i,i<l.length->w.cell? ⟨b,o+i,none⟩=some (iX (l.getD i 0)):=by
 obtain⟨ao,cap,g,j,k,c⟩:=e;obtain⟨b,o,d,m,_⟩:=c 0 f;refine⟨b,o,cap,by rw[g,d],m,j,k,λi p=>?_⟩;obtain⟨t,u,a,_,q⟩:=c i p;rw[d] at a;injection a with a;injection a with r s;subst r s;exact q
theorem IntRows.block {w:World}{S:Nat->Prop}{v:Value}{l:List (List Int)}(e:IntRows w S v l)(f:0<l.length):∃b o cap,v=slice (some ⟨b,o,none⟩) l.length cap/\S b/\l.length<=cap/\cap<=maxLen/\∀i,i<l.length->∃u,w.cell? ⟨b,o+i,none⟩=some u/\Ints w S u (l.getD i []):=by
 obtain⟨ao,cap,g,j,k,c⟩:=e;obtain⟨b,o,_,d,m,_⟩:=c 0 f;refine⟨b,o,cap,by rw[g,d],m,j,k,λi p=>?_⟩;obtain⟨t,x,u,a,_,q⟩:=c i p;rw[d] at a;injection a with a;injection a with r s;subst r s;exact⟨u,q⟩
structure Sm where
 next:List (List Int)
 rules:List Int
 start:Int
 empty:List Bool
def ModesAt (w:World)(S:Nat->Prop)(v:Value)(ms:List Sm):Prop:=
 ∃ao cap,v=slice ao ms.length cap/\ms.length<=cap/\cap<=maxLen/\∀i (hi:i<ms.length),∃b o u0 u1 u3,ao=some ⟨b,o,none⟩/\S b/\
  w.cell? ⟨b,o+i*4,none⟩=some u0/\w.cell? ⟨b,o+i*4+1,none⟩=some u1/\w.cell? ⟨b,o+i*4+2,none⟩=some (int i64 ms[i].start)/\w.cell? ⟨b,o+i*4+3,none⟩=some u3/\
  IntRows w S u0 ms[i].next/\Ints w S u1 ms[i].rules/\Bools w S u3 ms[i].empty
theorem ModesAt.keep {w w':World}{S:Nat->Prop}{v:Value}{ms:List Sm}(c:ModesAt w S v ms)(e:∀b,S b->w'.heap[b]? =w.heap[b]?):ModesAt w' S v ms:=by
 obtain⟨ao,cap,d,f,g,l⟩:=c;refine⟨ao,cap,d,f,g,λi m=>?_⟩;obtain⟨b,o,u0,u1,u3,p,a,c0,c1,c2,q,r,s,t⟩:=l i m;have k:∀j,cX w' b j=cX w b j:=λj=>gZ (e b a);exact⟨b,o,u0,u1,u3,p,a,(k _).trans c0,(k _).trans c1,(k _).trans c2,(k _).trans q,r.keep e,s.keep e,t.keep e⟩
end
def jT (a b:Nat)(row:List Int):Bool:=row.getD a 0==row.getD b 0
def zAA (a b:Nat)(m:Sm):Bool:=m.next.all (jT a b)
def zCE (ms:List Sm)(a b:Nat):Bool:=ms.all (zAA a b)
def Wide (ms:List Sm):Prop:=∀m∈ms,∀row∈m.next,row.length=256
theorem zFn (w:World)(S:Nat->Prop)(v:Value)(ms:List Sm)(M:ModesAt w S v ms)(r:∀k,S k->k<w.heap.size)(N:Wide ms)(aH:ms.length<=3)(O:∀m∈ms,m.next.length<=200)(a b:Nat)(aI:a<256)(aJ:b<256):
  Calls prog 137 #[v,iX a,iX b] w λe w'=>e=returned (bool (zCE ms a b))/\Grew w w':=by
 obtain⟨ao,cap,rfl,aK,aL,P⟩:=M;have Q:=vl P;go_in;go_wp2;go_loopg [13] ms.length (λq i wr=>∃j:Nat,q=ms.length-j/\j<=ms.length/\i=iX (j:Int)/\(ms.take j).all (zAA a b)=true/\Grew w wr)
 case atStart=>exact⟨0,rfl,lX,rfl,rfl,Keep.refl _ _ _⟩
 case round=>
  obtain⟨j,y,aM,rfl,z,A⟩:=hrel;have s:Hid (gk=ms.length-j/\(ms.take j).all (zAA a b)=true/\Grew w wr):=⟨y,z,A⟩
  by_cases t:j<ms.length
  ·have R:(j:Int)<(ms.length:Int):=by omega
   obtain⟨h,o,u0,u1,u3,rfl,G,c0,c1,c2,T,U,V,W⟩:=Q j t;have d:∀i,wr.cell? ⟨h,i,none⟩=w.cell? ⟨h,i,none⟩:=λi=>gZ (A.block h (r h G) (by have:=r h G;omega));have X:=(d _).trans c0;have Y:=(d _).trans c1;have aa:=(d _).trans c2;have aN:=(d _).trans T;have H:=vl A;obtain⟨ab,ac,ad,aO,m0,ae⟩:=U;obtain⟨af,ag,ah,_⟩:=V;obtain⟨ai,aj,ak,_⟩:=W;subst ad ah ak;have al:=vl ae;have aP:=O _ (List.getElem_mem t);have am:=vl <| N _ (List.getElem_mem t);have I:Hid ((ms.take (j+1)).all (zAA a b)=((ms.take j).all (zAA a b)&&ms[j].next.all (jT a b))):=by
    show _=_;rw[List.take_succ_eq_append_getElem t,List.all_append];simp[zAA]
   generalize aQ:ms[j].next=rows at *
   generalize ms[j].start=an at *;generalize ms[j].rules=ap at *;generalize ms[j].empty=aq at *;go_wp2;obtain⟨w1,ar,au⟩:∃w1,w1=wr.alloc (.cells #[slice ab rows.length ac,slice af ap.length ag,iX an,slice ai aq.length aj] 134)/\Hid (Grew w w1):=⟨_,rfl,H.trans (kZ _ _ H.size)⟩
   rw[<-ar];go_loopg [21] rows.length (λq i av=>∃k:Nat,q=rows.length-k/\k<=rows.length/\i=iX (k:Int)/\(rows.take k).all (jT a b)=true/\Grew w av)
   case atStart=>exact⟨0,rfl,lX,rfl,rfl,au⟩
   case round=>
    obtain⟨k,y,aR,rfl,z,J⟩:=hrel;have g:Hid (gk=rows.length-k/\(rows.take k).all (jT a b)=true/\Grew w wr):=⟨y,z,J⟩
    by_cases f:k<rows.length
    ·have aw:(k:Int)<(rows.length:Int):=by omega
     obtain⟨ax,ay,u,rfl,az,aA,aB⟩:=al k f;have aC:(rows.getD k []).length=256:=by
      rw[lW,lV f];exact am _ (List.getElem_mem f)
     obtain⟨B,C,aD,rfl,K,_,_,L⟩:=aB.block (by omega);have d:∀x i,S x->wr.cell? ⟨x,i,none⟩=w.cell? ⟨x,i,none⟩:=λx i c=>gZ (J.block x (r x c) (by have:=r x c;omega));have X:wr.cell? ⟨ax,ay+k,none⟩=some (slice (some ⟨B,C,none⟩) 256 aD):=by rw[d _ _ az,aA,aC]
     have Y:wr.cell? ⟨B,C+a,none⟩=some (iX ((rows.getD k []).getD a 0)):=by rw[d _ _ K,L a (by omega)]
     have aa:wr.cell? ⟨B,C+b,none⟩=some (iX ((rows.getD k []).getD b 0)):=by rw[d _ _ K,L b (by omega)]
     have aE:Hid ((rows.take (k+1)).all (jT a b)=((rows.take k).all (jT a b)&&((rows.getD k []).getD a 0==(rows.getD k []).getD b 0))):=by
      show _=_;rw[List.take_succ_eq_append_getElem f,List.all_append,lW (l:=rows),lV f];simp[jT]
     have aF:Hid (((rows.getD k []).getD a 0==(rows.getD k []).getD b 0)=false->rows.all (jT a b)=false):=by
      intro c;rw[List.all_eq_false];refine⟨rows[k],List.getElem_mem f,?_⟩;rw[lW (l:=rows),lV f] at c;simpa[jT] using c
     have aS:(a:Int)<256:=by omega
     have aT:(b:Int)<256:=by omega
     generalize (rows.getD k []).getD a 0=D at *;generalize (rows.getD k []).getD b 0=E at *;by_cases c:D=E
     ·have aG:(D != E)=false:=by simp[c]
      have p:Hid ((rows.take (k+1)).all (jT a b)=true):=by show _=_;rw[aE.out,g.out.2.1,c];simp
      go_wp2;go_quiet (fail);go_wp2;go_roundg (rows.length-(k+1))
      case measure=>rw[g.out.1];omega
      case rel=>exact⟨k+1,rfl,by omega,by go_num,p,g.2.2.trans (Keep.alike (w':=wr.drewN nq) ⟨rfl,rfl,rfl⟩)⟩
     ·have aG:(D != E)=true:=by simpa using c
      have p:=vl <| aF (by simpa using c);have F:Hid (zCE ms a b=false):=by
       show _=_;unfold zCE;rw[<-List.take_append_drop (j+1) ms,List.all_append,I.out,p.out];simp
      go_wp2;go_quiet (fail);go_wp2;go_ret;exact⟨vC F.symm,g.2.2.trans (Keep.alike (w':=wr.drewN nq) ⟨rfl,rfl,rfl⟩)⟩
    ·have aw:(rows.length:Int)<=(k:Int):=by omega
     have p:Hid ((ms.take (j+1)).all (zAA a b)=true):=by
      show _=_;rw[I.out,s.out.2.1,<-List.take_of_length_le (l:=rows) (i:=k) (by omega),g.out.2.1];rfl
     go_wp2;go_roundg (ms.length-(j+1))
     case measure=>rw[s.out.1];omega
     case rel=>exact⟨j+1,rfl,by omega,by go_num,p,g.2.2⟩
  ·have R:(ms.length:Int)<=(j:Int):=by omega
   have F:Hid (zCE ms a b=true):=by
    show _=_;unfold zCE;rw[<-List.take_of_length_le (l:=ms) (i:=j) (by omega)];exact s.2.1
   go_wp2;go_ret;exact⟨vC F.symm,s.2.2⟩
end Go.Proofs.YtbjcfkdnjaiclaaGreat
