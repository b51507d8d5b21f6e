import Derived.Deep.LoopGhost
import Derived.Laws.AppendOwnNone
import Derived.Laws.IdiomStrings
import Derived.Test.YtbjcfkdnjaiclaaGreatT0
import Derived.Test.YtbjcfkdnjaiclaaGreatT2
import Derived.Test.YtbjcfkdnjaiclaaGreatT3
import Derived.Test.YtbjcfkdnjaiclaaGreatT8
import Derived.Test.YtbjcfkdnjaiclaaGreatT9
/- Turned: a lexer's bytes that somebody has turned are none, or are written so again, and scanning with them ends, in order, in whatever pieces; for every specification, text and numbers (texts of up to 65536 bytes, as the statement itself says). -/
set_option linter.unusedVariables false
set_option linter.unusedSimpArgs false
set_option maxHeartbeats 4000000
set_option maxRecDepth 100000
namespace Go.Proofs.YtbjcfkdnjaiclaaGreat
open Go.RowKit Go.Proofs.Tryz Go.World
open Go.Value (int slice bool pointer string agg tuple)
open Go.IntKind (i64)
open Go.Ending (returned)
theorem zHe (s:ByteArray)(w:World)(o:s.size<=1048576):
  Calls prog 38 #[string s] w λe w'=>(∃r:ByteArray,e=returned (string r)/\r.size=4)/\Grew w w':=by
 go_in;go_wp2;go_loop [3,4] (λr i=>∃k q:Nat,k<=s.size/\i=iX k/\r=iX (q:Nat)/\q<4294967296) (λ_ i=>s.size-(intOf i).toNat)
 case atStart=>exact⟨0,4294967295,lX,rfl,rfl,by decide⟩
 case round=>
  obtain⟨k,q,p,rfl,rfl,d⟩:=hrel;by_cases t:k<s.size
  ·have u:=s[k].toNat_lt
   have b:=zCT q s[k].toNat (by omega) (by omega)
   have c:q^^^s[k].toNat<4294967296:=Nat.xor_lt_two_pow (n:=32) (by omega) (by omega);go_wp2;generalize q^^^s[k].toNat=a at *;clear b d;go_loop [3,5] (λr i=>∃j x:Nat,j<=8/\i=iX (j:Int)/\r=iX (x:Nat)/\x<4294967296) (λ_ i=>8-(intOf i).toNat)
   case atStart=>exact⟨0,a,by omega,rfl,rfl,c⟩
   case round=>
    obtain⟨j,x,v,rfl,rfl,g⟩:=hrel;by_cases y:j<8
    ·have z:bits .xor i64 ((x:Int)/2) 3988292384=((x/2^^^3988292384:Nat):Int):=by rw[<-zCT (x/2) 3988292384 (by omega) (by decide)];rfl
     have h:x/2^^^3988292384<4294967296:=Nat.xor_lt_two_pow (n:=32) (by omega) (by decide);go_wp2
     ·exact⟨⟨j+1,_,by omega,by go_num,rfl,h⟩,by simp[intOf];omega⟩
     ·exact⟨⟨j+1,x/2,by omega,by go_num,rfl,by omega⟩,by simp[intOf];omega⟩
    ·go_wp2
     exact⟨⟨k+1,x,by omega,by go_num,rfl,g⟩,by simp[intOf];omega⟩
  ·have b:bits .xor i64 (q:Int) 4294967295=((q^^^4294967295:Nat):Int):=zCT q 4294967295 (by omega) (by decide)
   have c:q^^^4294967295<4294967296:=Nat.xor_lt_two_pow (n:=32) (by omega) (by decide);have l:=zHL w (q^^^4294967295);have m:(ByteArray.mk (four (q^^^4294967295)).toArray).size=4:=rfl;generalize four (q^^^4294967295)=f at *;generalize q^^^4294967295=a at *;rw[show (a:Int)/16777216%256=(a:Int)/16777216 by omega] at l;go_wp2;refine gU (results_tmp rfl _ _ _) rfl ?_;exact⟨⟨_,rfl,m⟩,kZ _ _ lQ⟩
def ByIn (w:World)(b:Nat)(l:List UInt8):Prop:=b<w.heap.size/\∀j (hj:j<l.length),w.cell? ⟨b,j,none⟩=some (int .u8 (l[j].toNat:Int))/\w.frozen? ⟨b,j,none⟩=false
theorem ByIn.set {w:World}{b:Nat}{l:List UInt8}(a:ByIn w b l)(i:Nat)(m:i<l.length)(x:Int)(o:0<=x)(p:x<256):∃c:List UInt8,c.length=l.length/\ByIn (w.setCell ⟨b,i,none⟩ (int .u8 x)) b c:=by
 refine⟨l.set i (UInt8.ofNat x.toNat),List.length_set,by simpa[World.setCell] using a.1,λj d=>?_⟩;rw[List.length_set] at d;have ⟨c1,c2⟩:=a.2 j d;have g:(w.setCell ⟨b,i,none⟩ (int .u8 x)).frozen? ⟨b,j,none⟩=w.frozen? ⟨b,j,none⟩:=World.frozen?_setCell ..;rw[g];refine⟨?_,c2⟩;by_cases e:i=j
 ·subst e
  rw[World.cell?_setCell_same _ _ _ c1,List.getElem_set_self];have:((UInt8.ofNat x.toNat).toNat:Int)=x:=by
   have f:(UInt8.ofNat x.toNat).toNat=x.toNat:=UInt8.toNat_ofNat_of_lt' (by show x.toNat<256;omega);omega
  rw[this]
 ·rw[World.cell?_setCell_other _ _ _ _ (by intro f;injection f with _ k;exact e k),List.getElem_set_ne e]
  exact c1
theorem ByIn.conv {w:World}{b:Nat}{l:List UInt8}(c:ByIn w b l)(n cap:Nat)(f:n<=l.length):(convert 68 9 (slice (qX b) n cap)).run prog w=.ok (string ⟨(l.take n).toArray⟩) w:=by
 have a:(l.take n).length=n:=by rw[List.length_take];omega
 have:=run_convert_bytes_back (P:=prog) w 68 9 5 ⟨b,0,none⟩ cap (l.take n) underlying68 underlying5 underlying9 λj d=>by
  rw[a] at d;have e:(⟨b,0,none⟩:Addr).add j=⟨b,j,none⟩:=by rw[zGW,Nat.zero_add]
  rw[e,List.getElem_take];exact(c.2 j (by omega)).1
 rw[a] at this;exact this
theorem ByIn.grown {w w':World}{b:Nat}{l:List UInt8}(a:ByIn w b l)(c:Grew w w'):ByIn w' b l:=⟨lZ a.1 c.size,λj d=>⟨(gY (c.block b a.1 (kJ a.1))).trans (a.2 j d).1,(gW (c.block b a.1 (kJ a.1))).trans (a.2 j d).2⟩⟩
theorem ByIn.new (w:World)(s:ByteArray)(cap:Nat):ByIn (w.drew.alloc (.cells (bytesRow s cap) 5 ((bytesRow s cap).size,(bytesRow s cap).size+1))) w.heap.size s.data.toList/\Grew w (w.drew.alloc (.cells (bytesRow s cap) 5 ((bytesRow s cap).size,(bytesRow s cap).size+1))):=by
 refine⟨⟨by simp,λj b=>?_⟩,?_⟩
 ·have a:j<s.data.size:=by simpa using b
  have c:=World.cell?_alloc_mark w.drew (bytesRow s cap) 5 ((bytesRow s cap).size,(bytesRow s cap).size+1) j;have d:=World.frozen?_alloc_mark w.drew (bytesRow s cap) 5 (bytesRow s cap).size ((bytesRow s cap).size+1) j;have e:j<(bytesRow s cap).size:=by unfold bytesRow;rw[Array.size_append,Array.size_map];omega
  refine⟨c.trans ?_,d.trans ?_⟩
  ·unfold bytesRow
   rw[Array.getElem?_append_left (by simpa using a),Array.getElem?_map,Array.getElem?_eq_getElem a];simp
  ·rw[gJ (by omega)]
   rfl
 ·exact(Keep.drew _).trans (kZ _ _ lQ)
theorem zOB (w:World)(s:ByteArray)(a:s.size<=1000000):∃cap w2,(convert 9 68 (string s)).run prog w=.ok (slice (qX w.heap.size) s.size cap) w2/\(s.size<=cap/\cap<=9223372036854775807)/\Hid (ByIn w2 w.heap.size s.data.toList/\Grew w w2):=by
 refine⟨_,_,run_bytes_of_string (P:=prog) w 9 68 5 s underlying9 underlying68 underlying5,⟨grownCap_ge _ _ _ _,?_⟩,ByIn.new w s _⟩;have:=grownCap_le_maxLen w s.size 0 5 (by unfold maxLen;omega);unfold maxLen at this;omega
theorem zDd (s:ByteArray)(p n:Nat):(seg s p n).length=n:=by simp[seg]
theorem zKU {r:ByteArray}{l:List Nat}(a:r.data.toList=sealed l)(d:∀x∈l,x<256):r.size=l.length+4/\seg r 0 l.length=l/\zHt r=true:=by
 have c:r.size=l.length+4:=by
  have:=congrArg List.length a;simpa[sealed,u8s,four] using this
 have f:seg r 0 l.length=l:=by
  apply List.ext_getElem
  ·rw[zDd]
  ·intro i k b
   simp only[seg,List.getElem_map,List.getElem_range,Nat.zero_add];unfold byt;rw[a,lW];unfold sealed u8s;rw[kW (by rw[kV];exact b),gX,lV b];exact UInt8.toNat_ofNat_of_lt (d _ (List.getElem_mem b))
 refine⟨c,f,?_⟩;have g:=zF6 r (by omega);show(zJi (r.extract 0 (r.size-4))==zHm (r.extract (r.size-4) r.size))=true;rw[<-g,beq_iff_eq,ByteArray.toList_eq];have e:(r.extract (r.size-4) r.size).data.toList=r.data.toList.drop (r.size-4):=by
  simp[List.take_of_length_le]
 have j:r.size-4=(u8s l).length:=by rw[c];simp[u8s]
 rw[e,j,a];unfold sealed;rw[List.drop_left,List.take_left]
theorem zIv {s:ByteArray}{p n:Nat}{f:Nat->Nat}(a:(List.range n).map f=seg s p n)(i:Nat)(b:i<n):byt s (p+i)=f i:=by
 have:=congrArg (λl=>l[i]?) a;simpa[seg,b] using this.symm
theorem zJN {s:ByteArray}{p n:Nat}{f g:Nat->Nat}(b:(List.range n).flatMap (λi=>[f i,g i])=seg s p (2*n))(i:Nat)(d:i<n):byt s (p+2*i)=f i/\byt s (p+2*i+1)=g i:=by
 induction n with
 |zero=>omega
 |succ n a=>
  have j:((List.range n).flatMap λi=>[f i,g i]).length=2*n:=by
   clear a b d;induction n with
   |zero=>rfl
   |succ n a=>rw[qM,kX,a];show 2*n+2=_;omega
  rw[qM,Nat.mul_succ,yT] at b;have ⟨k,l⟩:=List.append_inj b (by rw[j,zDd]);by_cases e:i=n
  ·subst e
   have m:[f i,g i]=[byt s (p+2*i+0),byt s (p+2*i+1)]:=l;injection m with o c;injection c with c;exact⟨o.symm,c.symm⟩
  ·exact a k (by omega)
theorem zLZ {s:ByteArray}{p n:Nat}{f:Nat->Nat}(a:(List.range n).flatMap (λi=>two (f i))=seg s p (2*n))(i:Nat)(b:i<n)(e:f i<65536):xU s (p+2*i)=f i:=by
 have ⟨c,d⟩:=zJN (f:=λi=>f i/256%256) (g:=λi=>f i%256) a i b;unfold xU;rw[c,d];omega
structure ReadsAs (r:ByteArray)(t:Tb):Prop where
 size:r.size=13+2*t.nmode+2*t.nrule+256+2*t.count*t.nst+t.nst+t.nlong+4
 sum:zHt r=true
 b0:byt r 0=76
 b1:byt r 1=88
 b2:byt r 2=qJ t
 b3:byt r 3=t.ahead
 b4:byt r 4=t.hold
 modes:xU r 5=t.nmode
 rules:xU r 7=t.nrule
 states:xU r 9=t.nst
 kinds:xU r 11=t.count
 start:∀i,i<t.nmode->xU r (13+2*i)=t.start i
 rule:∀i,i<t.nrule->byt r (13+2*t.nmode+2*i)=t.act i/\byt r (13+2*t.nmode+2*i+1)=t.push i
 kind:∀i,i<256->byt r (13+2*t.nmode+2*t.nrule+i)=t.kind i
 next:∀i,i<t.nst->∀k,k<t.count->xU r (13+2*t.nmode+2*t.nrule+256+2*t.count*i+2*k)=t.next i k
 ends:∀i,i<t.nst->(byt r (13+2*t.nmode+2*t.nrule+256+2*t.count*t.nst+i):Int)=t.ends i+1
 long:∀i,i<t.nlong->byt r (13+2*t.nmode+2*t.nrule+256+2*t.count*t.nst+t.nst+i)=t.long i
theorem zN4 {s:ByteArray}{t:Tb}{p n:Nat}(b:∀i,i<n->∀k,k<t.count->t.next i k<65536)(a:t.nextL n=seg s p (2*t.count*n))(i:Nat)(c:i<n)(k:Nat)(d:k<t.count):xU s (p+2*t.count*i+2*k)=t.next i k:=by
 induction n with
 |zero=>omega
 |succ n f=>
  unfold Tb.nextL at a;rw[qM,Nat.mul_succ,yT] at a;have ⟨g,j⟩:=List.append_inj a (by rw[zDd];exact zBP t n);by_cases e:i=n
  ·subst e
   exact zLZ j k d (b i c k d)
  ·exact f (λi c=>b i (by omega)) g (by omega)
theorem zKY {r:ByteArray}{t:Tb}(e:t.Fine)(s:r.data.toList=sealed t.bytesL):ReadsAs r t:=by
 have ok:=e.ok;have C:=e.mode2;have D:=e.rule2;have E:=ok.ahead;have F:=ok.hold;have G:=ok.nst;have H:=ok.count;have u:∀x∈t.bytesL,x<256:=by
  have j:qJ t<256:=by unfold qJ;split <;> omega
  unfold Tb.bytesL;refine qP (qP (qP (qP (qP (qP ?_ λx c=>zGF _ _ _ c) λx c=>zHx _ _ _ c) λx c=>zFO _ _ _ c) λx c=>zJW _ _ _ c) λx c=>zFO _ _ _ c) λx c=>?_
  ·unfold Tb.headL
   refine qP (qP (qP (qP (λx c=>?_) (zB3 _)) (zB3 _)) (zB3 _)) (zB3 _);simp at c;rcases c with rfl|rfl|rfl|rfl|rfl <;> omega
  ·obtain⟨i,a,rfl⟩:=List.mem_map.1 c
   exact ok.longB i (List.mem_range.1 a)
 have ⟨v,d,w⟩:=zKU s u;have l:t.bytesL.length=13+2*t.nmode+2*t.nrule+256+2*t.count*t.nst+t.nst+t.nlong:=by
  unfold Tb.bytesL;simp only[kX,zBv,zCa,zBP];simp[Tb.headL,two,Tb.kindsL,Tb.endsL,Tb.longL]
 rw[l,yT,yT,yT,yT,yT,yT] at d;unfold Tb.bytesL at d;have ⟨d,m⟩:=List.append_inj' d (by simp[seg,Tb.longL]);have ⟨d,o⟩:=List.append_inj' d (by simp[seg,Tb.endsL]);have ⟨d,p⟩:=List.append_inj' d (by rw[zDd,zBP]);have ⟨d,q⟩:=List.append_inj' d (by simp[seg,Tb.kindsL]);have ⟨d,s2⟩:=List.append_inj' d (by rw[zDd,zCa]);have ⟨s0,s1⟩:=List.append_inj' d (by rw[zDd,zBv]);simp only[Nat.zero_add] at s1 s2 q p o m;have g:∀i x,t.headL[i]? =some x->i<13->byt r i=x:=λi x c a=>by
  rw[<-s0] at c;simpa[seg,a] using c
 have b:∀i,i<11+1->∀x y,t.headL[i]? =some x->t.headL[i+1]? =some y->xU r i=256*x+y:=λi a x y j z=>by
  unfold xU;rw[g i x j (by omega),g (i+1) y z (by omega)]
 refine⟨by rw[v,l],w,g 0 _ rfl (by decide),g 1 _ rfl (by decide),g 2 _ rfl (by decide),?_,?_,?_,?_,?_,?_,λi a=>?_,λi a=>?_,λi a=>?_,λi a k f=>?_,λi a=>?_,λi a=>zIv m.symm i a⟩
 ·exact(g 3 _ rfl (by decide)).trans (Nat.mod_eq_of_lt (by omega))
 ·exact(g 4 _ rfl (by decide)).trans (Nat.mod_eq_of_lt (by omega))
 ·rw[b 5 (by decide) _ _ rfl rfl];omega
 ·rw[b 7 (by decide) _ _ rfl rfl];omega
 ·rw[b 9 (by decide) _ _ rfl rfl];omega
 ·rw[b 11 (by decide) _ _ rfl rfl];omega
 ·exact zLZ s1.symm i a (by have:=ok.start i a;omega)
 ·have I:=e.act i a
  have J:=ok.push i a;have ⟨A,B⟩:=zJN s2.symm i a;rw[A,B];omega
 ·rw[zIv q.symm i a]
  have:=ok.kind i a;omega
 ·exact zN4 (λi a k f=>by have:=ok.next i k a f;omega) p.symm i a k f
 ·have:=ok.ends i a
  rw[zIv o.symm i a];unfold Tb.endN;omega
def zEV (f:Nat->Nat):Nat->Nat
 |0=>0
 |i+1=>if f i=zEV f i then zEV f i+1 else zEV f i
structure Tb.Whole (t:Tb):Prop where
 ways:t.rows=zG t.count t.ahead
 strm:t.stream=true\/t.ahead=0
 nlong:t.nlong=(t.nst*t.rows+7)/8
 met:∀i,i<256->t.kind i<=zEV t.kind i
 all:zEV t.kind 256=t.count
 bits:∀i,i<t.nlong->t.long i<=jW (t.nst*t.rows) i
structure Heads (r:ByteArray)(t:Tb):Prop where
 stream:xF r=qJ t
 ahead:xK r=t.ahead
 hold:vS r=t.hold
 modes:zQ r=t.nmode
 rules:zT r=t.nrule
 states:zE r=t.nst
 kinds:zJ r=t.count
 ways:xP r=t.rows
theorem zOi {r:ByteArray}{t:Tb}(a:t.Fine)(d:t.Whole)(b2:byt r 2=qJ t)(e:byt r 3=t.ahead)(f:byt r 4=t.hold)(m:xU r 5=t.nmode)(g:xU r 7=t.nrule)(h:xU r 9=t.nst)(j:xU r 11=t.count):Heads r t:=by
 have ok:=a.ok;have k:qJ t<=1:=by unfold qJ;split <;> omega
 have l:=ok.ahead;have o:=ok.hold;have p:=ok.hold0;have q:=ok.nmode;have s:=a.mode2;have u:=a.rule1;have v:=a.rule2;have w:=a.nst;have x:=ok.nst;have y:=a.count;have z:=ok.count;have b:xK r=t.ahead:=by unfold xK;rw[e];exact zL (by omega)
 have c:zJ r=t.count:=by unfold zJ;rw[j];exact zL (by omega)
 refine⟨by unfold xF;rw[b2];exact zL (by omega),b,by unfold vS;rw[f];exact zL (by omega),by unfold zQ;rw[m];exact zL (by omega),by unfold zT;rw[g];exact zL (by omega),by unfold zE;rw[h];exact zL (by omega),c,?_⟩;unfold xP;rw[b,c,d.ways]
theorem ReadsAs.heads {r:ByteArray}{t:Tb}(a:ReadsAs r t)(b:t.Fine)(c:t.Whole):Heads r t:=zOi b c a.b2 a.b3 a.b4 a.modes a.rules a.states a.kinds
theorem zHE {s:ByteArray}{p n:Nat}{f:Nat->Nat}(a:∀i,i<n->byt s (p+i)=f i)(b:∀i,i<n->f i<=zEV f i):yX s p n=zEV f n:=by
 induction n with
 |zero=>rfl
 |succ n c=>
  have:=c (λi d=>a i (by omega)) λi d=>b i (by omega);have e:within (byt s (p+n)) 0 (yX s p n)=f n:=by rw[a n (by omega),this];exact zL ⟨lX,b n (by omega)⟩
  rw[yX,e,this,zEV]
theorem zPt {r:ByteArray}{t:Tb}(a:Heads r t)(b:t.Whole)(n:Nat)(c:n=13+2*t.nmode+2*t.nrule+256+2*t.count*t.nst+t.nst+t.nlong+4):yS (zQ r) (zT r) (zE r) (zJ r) (xP r)+4=n:=by
 rw[a.modes,a.rules,a.states,a.kinds,a.ways,c,b.nlong];have d:2*t.count*t.nst=2*t.nst*t.count:=by rw[Nat.mul_assoc,Nat.mul_comm t.count,<-Nat.mul_assoc]
 have e:t.nst*t.rows=t.rows*t.nst:=Nat.mul_comm _ _;rw[d,e];unfold yS;omega
theorem zNJ {r:ByteArray}{t:Tb}(f:t.Fine)(d:t.Whole)(b:ReadsAs r t):jP r=true:=by
 have c:=b.heads f d;have ok:=f.ok;have F:=ok.ahead;have G:=ok.hold;have H:=ok.hold0;have I:=ok.nmode;have J:=f.mode2;have K:=f.rule1;have L:=f.rule2;have M:=f.nst;have N:=ok.nst;have O:=f.count;have P:=ok.count;have w:=ok.rows;have x:=b.size;have y:qJ t<=1:=by unfold qJ;split <;> omega
 have z:=zHE (s:=r) (p:=13+2*t.nmode+2*t.nrule) (n:=256) b.kind d.met;have g:q2 r=13+2*t.nmode:=by unfold q2;rw[c.modes]
 have l:q3 r=13+2*t.nmode+2*t.nrule:=by unfold q3;rw[g,c.rules]
 have m:q4 r=13+2*t.nmode+2*t.nrule+256:=by unfold q4;rw[l]
 have o:q5 r=13+2*t.nmode+2*t.nrule+256+2*t.count*t.nst:=by unfold q5;rw[m,c.kinds,c.states]
 have A:q6 r=13+2*t.nmode+2*t.nrule+256+2*t.count*t.nst+t.nst:=by unfold q6;rw[o,c.states]
 have B:nbit r=t.nst*t.rows:=by unfold nbit;rw[c.states,c.ways]
 rw[zB2];simp only[Bool.and_eq_true];refine⟨⟨⟨(zAE r).2 ⟨by omega,b.b0,b.b1,by rw[b.b2];exact y,by rw[b.b4];omega,by rw[b.modes];omega,by rw[b.rules];omega,by rw[b.states];omega,by rw[b.kinds];omega,by rw[c.ways];exact w,?_⟩,gG (zPt c d r.size x).symm⟩,b.sum⟩,?_⟩
 ·rw[c.stream,c.ahead]
  unfold qJ;rcases d.strm with e|e
  ·rw[e];exact .inl rfl
  ·exact .inr e
 ·unfold zEd
  simp only[Bool.and_eq_true,decide_eq_true_iff];rw[zFJ,zEN,zBi,zET,zGJ,zGQ,g,l,m,o,A,B,c.modes,c.rules,c.states,c.kinds];refine⟨⟨⟨⟨⟨λi a=>?_,λi a=>?_⟩,λi a=>?_,z.trans d.all⟩,λi a k q=>?_⟩,λi a=>?_⟩,λi a=>?_⟩
  ·have:=ok.start i a
   rw[b.start i a];omega
  ·have u:=f.act i a
   have v:=ok.push i a;have ⟨C,D⟩:=b.rule i a;rw[C,D];omega
  ·have e:=zHE (s:=r) (p:=13+2*t.nmode+2*t.nrule) (n:=i) (λj E=>b.kind j (by omega)) λj E=>d.met j (by omega)
   rw[b.kind i a,e];exact⟨by omega,d.met i a⟩
  ·have u:=ok.next i k a q
   have v:2*t.count*i+2*k+1<2*t.count*t.nst:=by
    have:=Nat.mul_le_mul_left (2*t.count) (show i+1<=t.nst from a);rw[Nat.mul_succ] at this;omega
   rw[b.next i a k q];omega
  ·have u:=ok.ends i a
   have v:=b.ends i a;omega
  ·rw[<-d.nlong] at a
   rw[b.long i a];exact⟨by omega,d.bits i a⟩
theorem zLo (ms:List Sm)(n:Nat)(k:n<=256):zEV (λi=>((zB ms 256).1.getD i 0).toNat) n=(zB ms n).2/\∀i,i<n->((zB ms 256).1.getD i 0).toNat<=zEV (λi=>((zB ms 256).1.getD i 0).toNat) i:=by
 induction n with
 |zero=>exact⟨rfl,λi b=>absurd b (Nat.not_lt_zero _)⟩
 |succ n g=>
  have ⟨c,h⟩:=g (by omega);have ⟨d,f⟩:=zE1 ms n 256 (by omega);have j:=zDj ms (n+1) n (by omega);rw[<-zDz ms (n+1) 256 n (by omega) (by omega)] at j;have l:(zB ms (n+1)).2<=(zB ms n).2+1:=by rw[f];split <;> omega
  refine⟨?_,λi b=>?_⟩
  ·rw[zEV,c,f]
   by_cases a:jS ms n<n
   ·rw[if_pos a,if_neg λe=>d.1 (by omega) a]
   ·rw[if_neg a,if_pos (by rw[d.2 a];rfl)]
  ·by_cases e:i=n
   ·subst e
    rw[c];omega
   ·exact h i (by omega)
theorem zDy (u:Tb)(a:Nat)(d:u.stream=true\/a=0)(e:∀i,i<256->u.kind i<=zEV u.kind i)(f:zEV u.kind 256=u.count):(u.looking a).Whole:=by
 have b:u.nst*zG u.count a=zG u.count a*u.nst:=Nat.mul_comm _ _;refine⟨rfl,d,by show(zG u.count a*u.nst+7)/8=(u.nst*zG u.count a+7)/8;rw[b],e,f,λi g=>?_⟩;have h:i<(zG u.count a*u.nst+7)/8:=g;show yC (u.aheadF a) (zG u.count a*u.nst) i<=jW (u.nst*zG u.count a) i;rw[b];generalize zG u.count a*u.nst=c at *;have j:=zCK (u.aheadF a) c i;unfold jW;split
 ·have:=zER (u.aheadF a) c i (by omega) (by omega)
  omega
 ·omega
theorem zLw (ms:List Sm)(acts pushed:List Int)(hold n:Nat)(c:Bool):(zBU ms acts pushed hold n c).Whole:=by
 have ⟨a,b⟩:=zLo ms 256 lQ;unfold zBU zAU;split
 ·rw[zBk]
  exact zDy _ _ (.inl rfl) b a
 ·rw[zBk]
  exact zDy _ _ (.inr rfl) b a
def nxN (x:Nat):Nat:=(x*1103515+12345)%1073741824
def itK (f:Nat->Nat):Nat->Nat->Nat
 |0,x=>x
 |k+1,x=>itK f k (f x)
theorem zPi (f:Nat->Nat)(x:Nat):itK f 1 x=f x:=rfl
theorem zPj (f:Nat->Nat)(a b x:Nat):itK f (a+b) x=itK f b (itK f a x):=by
 induction a generalizing x with
 |zero=>rw[Nat.zero_add];rfl
 |succ a c=>rw[Nat.succ_add];exact c (f x)
theorem zP7 (f:Nat->Nat)(a:Nat)(b:∀x,f x<a)(k x:Nat)(c:x<a):itK f k x<a:=by
 induction k generalizing x with
 |zero=>exact c
 |succ k d=>exact d _ (b x)
theorem zIr (x:Nat):nxN x<1073741824:=hU _ (by decide)
def Nx (M A C:Nat):Prop:=∃n,∀x,itK nxN n x%M=(A*x+C)%M
theorem Nx.twice {b a C d e:Nat}(c:Nx b a C)(f:a*a%b=d)(g:(a*C+C)%b=e):Nx b d e:=by
 obtain⟨n,c⟩:=c;refine⟨n+n,λx=>?_⟩;have j:itK nxN (n+n) x%b=(a*itK nxN n x+C)%b:=by rw[zPj];exact c _
 have k:(a*itK nxN n x+C)%b=(a*(a*x+C)+C)%b:=by rw[Nat.add_mod,Nat.mul_mod,c,<-Nat.mul_mod,<-Nat.add_mod]
 have l:(a*a%b*x+(a*C+C)%b)%b=(a*a*x+(a*C+C))%b:=by rw[Nat.add_mod,Nat.mul_mod,Nat.mod_mod,<-Nat.mul_mod,Nat.mod_mod,<-Nat.add_mod]
 rw[j,k,<-f,<-g,l,Nat.mul_add,Nat.mul_assoc,Nat.add_assoc]
theorem zN3 (a:Nat)(b:a ∣ 1073741824):Nx a 1103515 12345:=by
 refine⟨1,λx=>?_⟩;rw[zPi];unfold nxN;rw[Nat.mod_mod_of_dvd _ b,Nat.mul_comm]
theorem zQD:Nx 1073741824 1 536870912:=by
 have a:=zN3 1073741824 (Nat.dvd_refl _);replace a:Nx 1073741824 122126809 738003132:=a.twice rfl rfl;replace a:Nx 1073741824 641362417 117713944:=a.twice rfl rfl;replace a:Nx 1073741824 957060321 628590256:=a.twice rfl rfl;replace a:Nx 1073741824 334163393 653436768:=a.twice rfl rfl;replace a:Nx 1073741824 664988545 110540480:=a.twice rfl rfl;replace a:Nx 1073741824 904533761 399183232:=a.twice rfl rfl;replace a:Nx 1073741824 971320833 80517888:=a.twice rfl rfl;replace a:Nx 1073741824 135158785 879965696:=a.twice rfl rfl;replace a:Nx 1073741824 19707905 72248320:=a.twice rfl rfl;replace a:Nx 1073741824 110718977 909957120:=a.twice rfl rfl;replace a:Nx 1073741824 506650625 586788864:=a.twice rfl rfl;replace a:Nx 1073741824 6668289 536043520:=a.twice rfl rfl;replace a:Nx 1073741824 281772033 669433856:=a.twice rfl rfl;replace a:Nx 1073741824 563544065 801996800:=a.twice rfl rfl;replace a:Nx 1073741824 53346305 530251776:=a.twice rfl rfl;replace a:Nx 1073741824 106692609 1060503552:=a.twice rfl rfl;replace a:Nx 1073741824 213385217 1047265280:=a.twice rfl rfl;replace a:Nx 1073741824 426770433 1020788736:=a.twice rfl rfl;replace a:Nx 1073741824 853540865 967835648:=a.twice rfl rfl;replace a:Nx 1073741824 633339905 861929472:=a.twice rfl rfl;replace a:Nx 1073741824 192937985 650117120:=a.twice rfl rfl;replace a:Nx 1073741824 385875969 226492416:=a.twice rfl rfl;replace a:Nx 1073741824 771751937 452984832:=a.twice rfl rfl;replace a:Nx 1073741824 469762049 905969664:=a.twice rfl rfl;replace a:Nx 1073741824 939524097 738197504:=a.twice rfl rfl;replace a:Nx 1073741824 805306369 402653184:=a.twice rfl rfl;replace a:Nx 1073741824 536870913 805306368:=a.twice rfl rfl;replace a:Nx 1073741824 1 536870912:=a.twice rfl rfl;exact a
theorem zQI:Nx 1024 1 512:=by
 have a:=zN3 1024 ⟨1048576,rfl⟩;replace a:Nx 1024 473 188:=a.twice rfl rfl;replace a:Nx 1024 497 24:=a.twice rfl rfl;replace a:Nx 1024 225 688:=a.twice rfl rfl;replace a:Nx 1024 449 864:=a.twice rfl rfl;replace a:Nx 1024 897 704:=a.twice rfl rfl;replace a:Nx 1024 769 384:=a.twice rfl rfl;replace a:Nx 1024 513 768:=a.twice rfl rfl;replace a:Nx 1024 1 512:=a.twice rfl rfl;exact a
theorem zO7 {m:Nat}(a:m%2=1)(b:m ∣ 1048576):m=1:=by
 have c:Nat.Coprime m 2:=by
  unfold Nat.Coprime;rw[Nat.gcd_comm,Nat.gcd_rec,a];decide
 exact Nat.Coprime.eq_one_of_dvd (Nat.Coprime.pow_right 20 c) b
theorem zO8:∃B,∀m x,2<=m->x<1073741824->∃k,k<B/\(itK nxN k x/512)%m≠0:=by
 obtain⟨a,g⟩:=zQD;obtain⟨f,h⟩:=zQI;refine⟨a+f+1,λm x C r=>?_⟩;by_cases b:(x/512)%m=0
 ·rcases Nat.mod_two_eq_zero_or_one m with j|j
  ·refine⟨f,by omega,λd=>?_⟩
   have l:=h x;rw[Nat.one_mul] at l;obtain⟨q,s⟩:m ∣ x/512:=Nat.dvd_of_mod_eq_zero b;obtain⟨t,v⟩:m ∣ itK nxN f x/512:=Nat.dvd_of_mod_eq_zero d;obtain⟨c,w⟩:2 ∣ m:=Nat.dvd_of_mod_eq_zero j;rw[w,Nat.mul_assoc] at s v;generalize itK nxN f x=y at *;generalize c*q=u at *;generalize c*t=D at *;clear b d g h;omega
  ·refine⟨a,by omega,λd=>?_⟩
   have l:=g x;rw[Nat.one_mul] at l;have E:=zP7 nxN _ zIr a x r;have o:m ∣ x/512:=Nat.dvd_of_mod_eq_zero b;have p:m ∣ itK nxN a x/512:=Nat.dvd_of_mod_eq_zero d;generalize itK nxN a x=y at *;clear b d g h;have z:m ∣ 1048576:=by
    rcases Nat.lt_or_ge x 536870912 with A|A
    ·have e:y/512=x/512+1048576:=by omega
     rw[e] at p;exact(Nat.dvd_add_right o).1 p
    ·have e:x/512=y/512+1048576:=by omega
     rw[e] at o;exact(Nat.dvd_add_right p).1 o
   have:=zO7 j z;omega
 ·exact⟨0,by omega,b⟩
theorem zLc (w:World)(x:Nat)(b:x<1073741824):Calls prog 48 #[iX (x:Int)] w λe w'=>e=returned (iX (nxN x:Nat))/\w'=w:=by
 have c:(x:Int)*1103515<=1200000000000000:=by omega
 have d:0<=(x:Int)*1103515:=by omega
 have a:Hid (((nxN x:Nat):Int)=((x:Int)*1103515+12345)%1073741824):=by
  show _=_;unfold nxN;rw[Int.natCast_emod,Int.natCast_add,Int.natCast_mul];rfl
 go_in;go_wp2;refine gU (results_tmp rfl _ _ _) rfl ?_;refine⟨by rw[a.out];rfl,rfl⟩
def EvRow (w:World)(H:Nat)(v:Value)(es:List Ev):Prop:=w.ownsRow H 51 6 v es.length (xD es)
theorem EvRow.nil (w:World)(H:Nat):EvRow w H nX []:=ownsRow_nil _ _ _ _
theorem EvRow.keep {w w':World}{H b:Nat}{v:Value}{a:List Ev}(c:EvRow w H v a)(d:Keep w.heap.size b w w')(f:b<H):EvRow w' H v a:=zD c λg j e _=>d.block g e (by omega)
theorem zAm {w:World}{q:Array Oper}{r:List Oper}{o:Oper}{a:Act}{Q:Exit->Act->World->Prop}(t:o.guard=none)(s x:Operand)
  (y:o.op=.call {callee:=.builtin .append,args:=#[s,x],argTypes:=#[48,48]})
  (H I:Nat) (v v2:Value) (l b:List Ev) (z:a.eval s=v) (d:Hid (EvRow w H v l)) (A:a.eval x=v2) (B:Hid (EvRow w I v2 b)) (S:l.length+b.length<=1000000) (C:H<=w.heap.size)
  (D:∀e c,Hid (EvRow c H e (l++b)/\Keep H H w c/\∀k,k<w.heap.size->v.ownBlock≠some k->c.heap[k]? =w.heap[k]?)->wpList prog q Q r (a.put o.dst e) c):wpList prog q Q (o::r) a w:=by
 have ⟨E,F,J,K,L⟩:=info_parts zLt;rcases B.out.2 with⟨f,M⟩|⟨g,cap,T,f,_,U,_,_,_,V⟩
 ·have N:b=[]:=List.length_eq_zero_iff.1 M
  refine wpList_append_own_none t s x 48 y H 51 E 6 underlying48 F _ _ _ z d (by rw[A,f]) (D v w ⟨?_,Keep.refl _ _ _,λk _ _=>rfl⟩);rw[N,dQ];exact d
 ·have O:∀j u,(xD b)[j]? =some u->w.cell? ((⟨g,0,none⟩:Addr).add j)=some u:=by
   have m:=B.out;unfold EvRow at m;rw[f] at m;exact m.cells rfl
  refine wpList_append_own _ t s x 48 y H 51 E _ 6 48 underlying48 F J K L rfl (by decide) _ _ _ z d ⟨g,0,none⟩ b.length cap (xD b) (by rw[A,f]) (zCv b) O (zEv b) (by unfold maxLen;omega) (by omega) C ?_;intro e c P G _;refine D e c ⟨?_,Keep.grownEnd G C λk p=>(d.lt k p).1,λk p R=>G.block k p (Ne.symm R)⟩;unfold EvRow;rw[kX,zCw];exact P
theorem zJI {w:World}{S:Nat->Prop}{p b:Nat}{t:Tb}{r:Rs}{P:Nat}(a:ScAt w S p b t r P)(d:t.Fine)(s:ByteArray)(f:P+s.size<4194000):Calls prog 35 #[pX b,string s] w λe w'=>∃v,e=returned v/\EvRow w' w.heap.size v (Rs.feed t (nats s) r).2/\ScAt w' S p b t (Rs.feed t (nats s) r).1 (P+s.size)/\Keep w.heap.size b w w':=by
 refine(zCH b w.heap.size S t w r s P a.cv d a.good f).mono ?_;rintro e w' ⟨v,rfl,j,l,c⟩;obtain⟨g,-,-⟩:=Rs.feed_inv t d.ok (nats s) r P a.good (zCd s);rw[jD] at g;exact⟨v,rfl,l,⟨j,a.tab.keep λk e=>c.block k (a.safe k e).1 (a.safe k e).2,(Rs.feed_tp t (nats s) r).trans a.tp,lZ a.lt c.size,λk e=>⟨lZ (a.safe k e).1 c.size,(a.safe k e).2⟩,g⟩,c⟩
theorem zIP {w:World}{S:Nat->Prop}{p b:Nat}{t:Tb}{r:Rs}{P:Nat}(a:ScAt w S p b t r P)(c:t.Fine)(d:P<4194000):Calls prog 42 #[pX b] w λe w'=>∃v,e=returned v/\EvRow w' w.heap.size v (r.shut t).2/\Keep w.heap.size b w w':=by
 refine(zCp b w.heap.size S t w r P a.cv c a.good d).mono ?_;rintro e w' ⟨v,rfl,-,f,g⟩;exact⟨v,rfl,f,g⟩
theorem zK3 {f:Nat->Nat}{B m e:Nat}(j:∀x,f x<e)(l:∀m x,2<=m->x<e->∃k,k<B/\(itK f k x/512)%m≠0)(o:2<=m)(a b x k n:Nat)(g:k<B/\(itK f k (f x)/512)%m≠0)(u:b<a)(p:n=min (f x/512%m) (a-b)):∃c,(c<B/\(itK f c (f (f x))/512)%m≠0)/\(a-(b+n))*B+c<(a-b)*B+k:=by
 by_cases h:f x/512%m=0
 ·cases k with
  |zero=>exact absurd h g.2
  |succ k=>
   refine⟨k,⟨by omega,g.2⟩,?_⟩;rw[p,h,Nat.zero_min,Nat.add_zero];omega
 ·have ⟨c,r,s⟩:=l m (f (f x)) o (j _)
  refine⟨c,⟨r,s⟩,?_⟩;obtain⟨q,t⟩:∃q,a-b=(a-(b+n))+(q+1):=⟨n-1,by omega⟩
  rw[t,Nat.add_mul,Nat.succ_mul];omega
theorem ScAt.keepH {w w':World}{S:Nat->Prop}{p b H:Nat}{t:Tb}{r:Rs}{P:Nat}(a:ScAt w S p b t r P)(c:Keep H H w w')(d:b<H)(g:H<=w.heap.size)(f:∀k,S k->k<H):ScAt w' S p b t r P:=⟨a.run.of_block (c.block b d (kJ d)),a.tab.keep λk e=>c.block k (f k e) (kJ (f k e)),a.tp,lZ a.lt c.size,λk e=>⟨lZ (a.safe k e).1 c.size,(a.safe k e).2⟩,a.good⟩
theorem zIg (w:World)(S:Nat->Prop)(aw p:Nat)(t:Tb)(ah:LexAt w S aw p t)(ai:t.Fine)(s:ByteArray)(bg:s.size<=65536)(a:Int)(ax:-9223372036854775808<=a)(ay:a<=9223372036854775807)(most:Nat)(bh:1<=most)(bi:most<=100000):
  Calls prog 31 #[pX aw,string s,iX a,iX (most:Int)] w λe w'=>∃v,e=returned v/\EvsAt w' v (t.events p s)/\Grew w w':=by
 have az:=vl <| zIT ah ai;have aA:Hid (∀w2,Ca 15 #[iX a,iX 1073741824] w2 λe w'=>∃x:Nat,e=returned (iX (x:Int))/\x<1073741824/\w'=w2):=λw2=>(vO w2 a ax ay 1073741824 (by decide) (by decide)).mono (by rintro e w' ⟨rfl,a0⟩;exact⟨_,rfl,zBd _ _ (by decide),a0⟩);have a1:=vl zLc;obtain⟨B,aB⟩:=zO8;have aC:Hid (∀m x,2<=m->x<1073741824->∃k,k<B/\(itK nxN k x/512)%m≠0):=aB;have V:=vl ai;have aD:=vl ah.safe;clear ah ax ay aB ai;go_in;apply wp_cut;intro W l;go_wp2;apply l.out;clear l;apply wp_cut;intro W l;go_wp2_with (go_at_call 34;refine az.mono ?_;rintro e w1 ⟨b,rfl,aE,aj,ak⟩)
 apply l.out;clear l;apply wp_cut;intro W l;go_wp2;apply l.out;clear l;apply wp_cut;intro W l;go_wp2_with (go_at_call 15;refine(aA _).mono ?_;rintro e aF ⟨aG,rfl,a2,J⟩;have K:=J.symm;subst K)
 apply l.out;clear l;apply wp_cut;intro W l;obtain⟨H,Y⟩:∃H,H=w1.heap.size:=⟨_,rfl⟩
 have j:Hid (ScAt w1 S p b t (Rs.born t p) 0/\Grew w w1/\w.heap.size<=b/\b<H/\w.heap.size<=H):=⟨aj,ak,aE,by rw[Y];exact aj.lt,by rw[Y];exact ak.size⟩
 have a3:=vl Y;clear aj ak aE az aA Y;have ⟨aH,aI⟩:=aC (most+1) (nxN aG) (by omega) (zIr _);have a4:=vl aI;clear aI;obtain⟨al,a5⟩:∃al:Nat->Value->Value->Value->World->Prop,al=λq am an ao wr=>∃c x k,q=(s.size-c)*B+k/\c<=s.size/\am=string (s.extract c s.size)/\ao=iX ((x:Nat):Int)/\x<1073741824/\(k<B/\(itK nxN k (nxN x)/512)%(most+1)≠0)/\ScAt wr S p b t (Rs.feed t (nats (s.extract 0 c)) (Rs.born t p)).1 c/\EvRow wr H an (Rs.feed t (nats (s.extract 0 c)) (Rs.born t p)).2/\Grew w wr/\H<=wr.heap.size:=⟨_,rfl⟩
 have aa:=vl a5;go_wp2;go_loopg [1,10,11] (s.size*B+aH) (λq am an ao wr=>al q am an ao wr)
 case atStart=>
  rw[aa.out];have aJ:s.extract 0 0=ByteArray.empty:=by apply ByteArray.ext;rw[ByteArray.data_extract];simp
  refine⟨0,aG,aH,rfl,lX,?_,rfl,a2,a4,?_,?_,j.2.1,by rw[a3.out];exact lQ⟩
  ·rw[ByteArray.extract_zero_size]
  ·rw[aJ];exact j.1
  ·rw[aJ];exact EvRow.nil _ _
 case round=>
  rw[aa.out] at hrel;obtain⟨c,x,k,aK,bj,rfl,rfl,a6,D,aL,aM,aN,aO⟩:=hrel;have f:=vl (And.intro aK (And.intro D (And.intro aL (And.intro aM (And.intro aN aO)))));clear aK D aL aM aN aO;obtain⟨g,ab⟩:∃g,g=s.extract c s.size:=⟨_,rfl⟩
  have M:Hid (g.size=s.size-c):=by show _=_;rw[ab,ByteArray.size_extract];omega
  have bk:g.size<=65536:=by rw[M.out];omega
  have aP:=vl ab;rw[<-ab];clear ab;by_cases a7:c<s.size
  ·have a8:(0:Int)<(g.size:Int):=by have:=M.out;omega
   obtain⟨y,N⟩:∃y,y=nxN x:=⟨_,rfl⟩
   have aQ:y<1073741824:=by rw[N];exact zIr _
   have aR:Hid (∀w2,Ca 48 #[iX (x:Int)] w2 λe w'=>e=returned (iX (y:Int))/\w'=w2):=λw2=>by rw[N];exact a1 w2 x a6
   obtain⟨z,ap⟩:∃z,z=y/512%(most+1):=⟨_,rfl⟩
   obtain⟨n,aS⟩:∃n,n=min z (s.size-c):=⟨_,rfl⟩
   have ⟨ac,aT,aU⟩:=zK3 zIr aC (by omega) s.size c x k n f.2.1 a7 (by rw[aS,ap,N]);have ad:=vl (And.intro aT aU);have aV:Hid (y=nxN x):=N;have bl:(y:Int)/512%((most:Int)+1)=(z:Int):=by rw[ap];simp
   have ae:c+n<=s.size:=by omega
   have bm:n<=g.size:=by rw[M.out];omega
   have aq:z<=g.size/\n=z\/g.size<z/\n=g.size:=by rw[M.out];omega
   have af:Hid (∀X,X=g.extract 0 n->Ca 35 #[pX b,string X] wr λe w'=>∃v,e=returned v/\EvRow w' wr.heap.size v (Rs.feed t (nats (s.extract c (c+n))) (Rs.feed t (nats (s.extract 0 c)) (Rs.born t p)).1).2/\ScAt w' S p b t (Rs.feed t (nats (s.extract c (c+n))) (Rs.feed t (nats (s.extract 0 c)) (Rs.born t p)).1).1 (c+n)/\Keep wr.heap.size b wr w'):=by
    rintro X rfl;have a9:g.extract 0 n=s.extract c (c+n):=by rw[aP.out,ByteArray.extract_extract];congr 1;omega
    have ba:(s.extract c (c+n)).size=n:=by rw[ByteArray.size_extract];omega
    have:=zJI f.2.2.1 V (s.extract c (c+n)) (by omega);rw[ba] at this;rw[a9];exact this
   have E:=vl (zKd t p s c n ae);have I:Hid ((Rs.feed t (nats (s.extract 0 c)) (Rs.born t p)).2.length+(Rs.feed t (nats (s.extract c (c+n))) (Rs.feed t (nats (s.extract 0 c)) (Rs.born t p)).1).2.length<=1000000):=by
    have ar:=(zKc t V p (s.extract 0 (c+n))).1;rw[zKd t p s c n ae,ByteArray.size_extract] at ar;simp only[kX] at ar;show _<=_;omega
   have aW:Hid (g.extract n g.size=s.extract (c+n) s.size):=by
    show _=_;rw[aP.out,ByteArray.extract_extract,ByteArray.size_extract]
    congr 1
    omega
   clear aT aU N ap aS;obtain⟨C,au⟩:∃C,C=Rs.feed t (nats (s.extract 0 c)) (Rs.born t p):=⟨_,rfl⟩
   obtain⟨ag,aX⟩:∃ag,ag=Rs.feed t (nats (s.extract c (c+n))) C.1:=⟨_,rfl⟩
   have bn:=vl au;rw[<-au] at af E I f;rw[<-aX] at af E I;clear au aX;have bo:(0:Int)<=(n:Int):=by omega
   have bp:(n:Int)<=(g.size:Int):=by omega
   rcases aq with⟨aq,rfl⟩|⟨aq,bb⟩
   ·have bc:¬((g.size:Int)<(n:Int)):=by omega
    go_wp2_with (first|(go_at_call 48;refine(aR _).mono ?_;rintro e aF ⟨rfl,J⟩;have K:=J.symm;subst K)|(go_at_call 35;refine(af _ (by first|rfl|simp)).mono ?_;rintro e w2 ⟨v,rfl,O,av,r⟩;have P:=vl O;have U:=vl (f.2.2.2.1.keep r j.2.2.2.1);have u:H<=w2.heap.size:=lY f.2.2.2.2.2 r.size)|(refine zAm rfl _ _ rfl H wr.heap.size _ _ C.2 ag.2 rfl U rfl P I u ?_;intro aY aZ o))
    go_roundg ((s.size-(c+n))*B+ac)
    case measure=>rw[f.out.1];exact ad.2
    case rel=>
     rw[aa.out];refine⟨c+n,y,ac,rfl,ae,by rw[<-aW.out],rfl,aQ,by rw[aV.out];exact ad.1,?_,?_,?_,lY u o.2.1.size⟩
     ·rw[E.out]
      exact av.keepH o.2.1 j.2.2.2.1 u λk D=>lZ (aD k D) j.2.2.2.2
     ·rw[E.out]
      exact o.1
     ·exact(f.2.2.2.2.1.trans (r.lower f.2.2.2.2.1.size j.2.2.1)).trans (o.2.1.lower j.2.2.2.2 j.2.2.2.2)
   ·have bc:(g.size:Int)<(z:Int):=by omega
    subst bb;go_wp2_with (first|(go_at_call 48;refine(aR _).mono ?_;rintro e aF ⟨rfl,J⟩;have K:=J.symm;subst K)|(go_at_call 35;refine(af _ (by first|rfl|simp)).mono ?_;rintro e w2 ⟨v,rfl,O,av,r⟩;have P:=vl O;have U:=vl (f.2.2.2.1.keep r j.2.2.2.1);have u:H<=w2.heap.size:=lY f.2.2.2.2.2 r.size)|(refine zAm rfl _ _ rfl H wr.heap.size _ _ C.2 ag.2 rfl U rfl P I u ?_;intro aY aZ o))
    go_roundg ((s.size-(c+g.size))*B+ac)
    case measure=>rw[f.out.1];exact ad.2
    case rel=>
     rw[aa.out];refine⟨c+g.size,y,ac,rfl,ae,by rw[<-aW.out];congr 1;apply ByteArray.ext;rw[ByteArray.data_extract];simp,rfl,aQ,by rw[aV.out];exact ad.1,?_,?_,?_,lY u o.2.1.size⟩
     ·rw[E.out]
      exact av.keepH o.2.1 j.2.2.2.1 u λk D=>lZ (aD k D) j.2.2.2.2
     ·rw[E.out]
      exact o.1
     ·exact(f.2.2.2.2.1.trans (r.lower f.2.2.2.2.1.size j.2.2.1)).trans (o.2.1.lower j.2.2.2.2 j.2.2.2.2)
  ·have a8:¬((0:Int)<(g.size:Int)):=by have:=M.out;omega
   have bd:c=s.size:=by omega
   subst bd;rw[ByteArray.extract_zero_size] at f;have be:=vl <| zIP f.2.2.1 V (by omega);have bf:Hid (t.events p s=(Rs.feed t (nats s) (Rs.born t p)).2++((Rs.feed t (nats s) (Rs.born t p)).1.shut t).2):=rfl;have I:Hid ((Rs.feed t (nats s) (Rs.born t p)).2.length+((Rs.feed t (nats s) (Rs.born t p)).1.shut t).2.length<=1000000):=by
    have ar:=zKc t V p s;show _<=_;omega
   generalize Rs.feed t (nats s) (Rs.born t p)=C at *;go_wp2;apply l.out;clear l;go_wp2_with (first|(go_at_call 42;refine be.mono ?_;rintro e w2 ⟨v,rfl,O,r⟩;have P:=vl O;have U:=vl (f.2.2.2.1.keep r j.2.2.2.1);have u:H<=w2.heap.size:=lY f.2.2.2.2.2 r.size)|(refine zAm rfl _ _ rfl H wr.heap.size _ _ C.2 (C.1.shut t).2 rfl U rfl P I u ?_;intro aY aZ o))
   refine gU (results_tmp rfl _ _ _) rfl ?_;refine⟨_,rfl,by rw[bf.out];exact zL9 o.1,?_⟩;exact(f.2.2.2.2.1.trans (r.lower f.2.2.2.2.1.size j.2.2.1)).trans (o.2.1.lower j.2.2.2.2 j.2.2.2.2)
theorem zLL (t:Tb)(u:t.Fine)(p:Nat)(s:ByteArray):∃C:Nat->Nat->Prop,C 0 0/\∀i a,C i a->i<(t.events p s).length->∃(k v:Int) (f g:Nat),(t.events p s).getD i ⟨0,0,0,0,0,0⟩=⟨k,v,f,g,lnT (nats s) f,clT (nats s) f⟩/\a<=f/\g<=s.size/\C (i+1) g/\(i+1=(t.events p s).length/\2<=k/\k<=6/\f=g/\(k=2->f=s.size)\/i+1<(t.events p s).length/\k=1/\f<g):=by
 have ⟨b,k,f,w,y,z,I⟩:=zLC t u p s;rw[w];have h:∀x:Ev,(b++[x]).length=b.length+1:=λx=>by rw[kX];rfl
 refine⟨λi a=>i<=b.length/\Told (nats s) a f (b.drop i)\/i=b.length+1,.inl ⟨lX,y⟩,λi a A B=>?_⟩;rw[h] at B;rw[h];have ⟨J,c⟩:=A.resolve_right (by omega);by_cases d:i<b.length
 ·rw[List.drop_eq_getElem_cons d] at c
  obtain⟨D,E,j,l,m,o,q,F,G,r⟩:=c;have:=r.le;refine⟨1,b[i].rule,D,E,?_,F,by omega,.inl ⟨d,r⟩,.inr ⟨by omega,rfl,G⟩⟩;rw[lW,kW d,lV d,Option.getD_some];generalize b[i]=e at *;obtain⟨K,L,M,N,O,P⟩:=e;simp only at j l m o q;rw[j,l,m,o,q]
 ·have H:i=b.length:=by omega
  subst H;rw[List.drop_length] at c;refine⟨k,0,f,f,?_,c,z,.inr rfl,.inl ⟨rfl,by omega,by omega,rfl,λe=>by omega⟩⟩;rw[lW,hZ lQ,Nat.sub_self];rfl
theorem EvsAt.at {w:World}{v:Value}{a:List Ev}(c:EvsAt w v a)(i:Nat)(d:i<a.length):∃g cap,v=slice (qX g) a.length cap/\w.cell? ⟨g,i*6,none⟩=some (iX (a.getD i ⟨0,0,0,0,0,0⟩).kind)/\w.cell? ⟨g,i*6+1,none⟩=some (iX (a.getD i ⟨0,0,0,0,0,0⟩).rule)/\w.cell? ⟨g,i*6+2,none⟩=some (iX (a.getD i ⟨0,0,0,0,0,0⟩).from_)/\w.cell? ⟨g,i*6+3,none⟩=some (iX (a.getD i ⟨0,0,0,0,0,0⟩).to)/\w.cell? ⟨g,i*6+4,none⟩=some (iX (a.getD i ⟨0,0,0,0,0,0⟩).line)/\w.cell? ⟨g,i*6+5,none⟩=some (iX (a.getD i ⟨0,0,0,0,0,0⟩).col):=by
 obtain⟨ao,cap,rfl,-,-,e⟩:=c;obtain⟨g,rfl,-,b⟩:=e i d;exact⟨g,cap,rfl,b 0 _ rfl,b 1 _ rfl,b 2 _ rfl,b 3 _ rfl,b 4 _ rfl,b 5 _ rfl⟩
theorem zEz {a b:ByteArray}(c:a.data.toList=b.data.toList):a=b:=by
 cases a;cases b
 rw[ByteArray.mk.injEq];exact Array.toList_inj.1 c
theorem zFn {r:ByteArray}{t:Tb}(a:t.Fine)(b:ReadsAs r t):64<=r.size/\r.size<=1000000:=by
 have c:=b.size;have d:2*t.count*t.nst<=2*256*200:=Nat.mul_le_mul (Nat.mul_le_mul lQ a.ok.count) a.ok.nst;have:=a.mode2;have:=a.rule2;have:=a.ok.nst;have:=a.long2;omega
theorem zHh (w:World)(B aq:Nat)(y:List Sm×Sh)(hold:Nat)(bY:Bool)(t:Tb)(ar:LexIn w B aq y hold bY t)(O:ByteArray)(bZ:O.size<=65536)(a b c:Int)(aK:-9223372036854775808<=a)(aL:a<=9223372036854775807)(b0:-9223372036854775808<=b)(b1:b<=9223372036854775807)(aM:-9223372036854775808<=c)(aN:c<=9223372036854775807):Calls prog 23 #[pX aq,string O,iX a,iX b,iX c] w λe w'=>e=returned (bool true)/\Grew w w':=by
 obtain⟨S,p,au,-⟩:=ar.at_;obtain⟨n,bh,b3⟩:=ar.made;have ae:=ar.fine;have av:t.Whole:=by rw[bh];exact zLw _ _ _ _ _ _
 have bi:Hid (Ca 36 #[pX aq] w λe w'=>∃r:ByteArray,e=returned (string r)/\(64<=r.size/\r.size<=1000000/\jP r=true)/\Grew w w'):=(zCP aq p S t w au.cell au.tab au.safe ae).mono (by
  rintro e w' ⟨⟨r,rfl,P⟩,F⟩;have aO:=zKY ae P;exact⟨r,rfl,⟨(zFn ae aO).1,(zFn ae aO).2,zNJ ae av aO⟩,F⟩)
 have b4:Hid (∀(w2:World) (q:Int) (m:Nat),-9223372036854775808<=q->q<=9223372036854775807->1<=m->m<=1073741824->Ca 15 #[iX q,iX (m:Int)] w2 λe w'=>∃x:Nat,e=returned (iX (x:Int))/\x<m/\w'=w2):=λw2 q m P F U aP=>(vO w2 q P F m U aP).mono (by rintro e w' ⟨rfl,av⟩;exact⟨_,rfl,zBd _ _ U,av⟩);have aQ:Hid (∀w2,Ca 15 #[iX c,iX 3] w2 λe w'=>e=returned (iX (zAs c 3:Nat))/\w'=w2):=λw2=>vO w2 c aM aN 3 (by decide) (by decide);have bj:Hid (∀w2,Ca 15 #[iX c,iX 5] w2 λe w'=>e=returned (iX (zAs c 5:Nat))/\w'=w2):=λw2=>vO w2 c aM aN 5 (by decide) (by decide);have bk:Hid (∀w2,Ca 15 #[iX c,iX 2] w2 λe w'=>e=returned (iX (zAs c 2:Nat))/\w'=w2):=λw2=>vO w2 c aM aN 2 (by decide) (by decide);have bl:Hid (∀w2,Ca 15 #[iX a,iX 60] w2 λe w'=>e=returned (iX (zAs a 60:Nat))/\w'=w2):=λw2=>vO w2 a aK aL 60 (by decide) (by decide);have cK:=zBd c 5 (by decide);have cL:=zBd a 60 (by decide);generalize zAs c 3=al at *;generalize zAs c 5=b5 at *;generalize zAs c 2=b6 at *;generalize zAs a 60=aR at *;clear bh b3 av ar ae au;go_in;apply wp_cut;intro A o;go_wp2;apply o.out;clear o;apply wp_cut;intro A o;go_wp2_with (first|(go_at_call 36;refine bi.out.mono ?_;rintro e w1 ⟨r,rfl,aS,am⟩;obtain⟨cap,w2,aT,bm,aw⟩:=zOB w1 r aS.2.1))
 apply o.out;clear o bi aT;obtain⟨v,bn⟩:∃v,r.size=v+4:=⟨r.size-4,by omega⟩
 have cM:(r.size:Int)-4=(v:Int):=by omega
 have cN:¬(v:Int)<1:=by omega
 have cO:v<=1000000/\60<=v:=by omega
 have bo:Hid ((convert 68 9 (slice (qX w1.heap.size) (v+4) cap)).run prog w2=.ok (string r) w2):=by
  have ax:=aw.out.1.conv r.size cap (by rw[Array.length_toList];exact lQ)
  have e:(⟨(r.data.toList.take r.size).toArray⟩:ByteArray)=r:=zEz (by rw[List.take_of_length_le (by rw[Array.length_toList];exact lQ)]);rw[e,bn] at ax;exact ax
 have aa:Hid (Ca 37 #[string r] w2 λe w'=>∃x,e=returned (tuple #[pX x,zX])/\Grew w2 w'):=(zDN r w2 (by omega)).mono (by
  rintro e w' ⟨W,-,F⟩;obtain⟨x,p,n,S,rfl,-⟩:=F aS.2.2;exact⟨x,rfl,W⟩)
 have bp:Hid (∀w2,Ca 15 #[iX a,iX (v:Int)] w2 λe w'=>e=returned (iX (zAs a v:Nat))/\w'=w2):=λw2=>vO w2 a aK aL v (by omega) (by omega);have bq:Hid (∀w2,Ca 15 #[iX b,iX (v:Int)] w2 λe w'=>e=returned (iX (zAs b v:Nat))/\w'=w2):=λw2=>vO w2 b b0 b1 v (by omega) (by omega);have cP:=zBd a v (by omega);have b7:=zBd b v (by omega);generalize zAs a v=br at *;generalize zAs b v=ay at *;have bs:Hid (∃l:List UInt8,l.length=v+4/\ByIn w2 w1.heap.size l/\Grew w w2/\w.heap.size<=w1.heap.size):=⟨_,by rw[Array.length_toList];exact bn,aw.out.1,am.trans (aw.out.2.lower am.size am.size),am.size⟩
 have cQ:r.size<=cap/\cap<=9223372036854775807:=bm;clear aS am b4 aw bm;apply wp_cut;intro A o;go_wp2;apply o.out;clear o;apply wp_cut;intro A o;go_wp2;apply o.out;clear o;have b8:=bo.out;clear bo;apply wp_cut;intro A o;go_wp2_with (first|(go_at_call 37;refine aa.out.mono ?_;rintro e az ⟨x,rfl,aU⟩))
 apply o.out;clear o b8 aa;obtain⟨l,b9,bt,aA,bu⟩:=bs.out;have af:Hid (ByIn az w1.heap.size l/\Grew w az/\w.heap.size<=w1.heap.size):=⟨bt.grown aU,aA.trans (aU.lower aA.size aA.size),bu⟩
 clear bt aA bu aU bs;apply wp_cut;intro A o;go_wp2;apply o.out;clear o;apply wp_cut;intro A o;go_wp2_with (first|(go_at_call 15;refine(bp.out _).mono ?_;rintro e ag ⟨rfl,G⟩;have I:=G.symm;subst I))
 apply o.out;clear o bp;apply wp_cut;intro A o;go_wp2_with (first|(go_at_call 15;refine(bq.out _).mono ?_;rintro e ag ⟨rfl,G⟩;have I:=G.symm;subst I))
 apply o.out;clear o bq;have aV:Hid (∀(D:World) (l:List UInt8),l.length=v+4->ByIn D w1.heap.size l->Grew w D->w.heap.size<=w1.heap.size->∀(i:Nat) (x:Int),i<v+4->0<=x->x<256->∃J:List UInt8,J.length=v+4/\ByIn (D.setCell ⟨w1.heap.size,i,none⟩ (int .u8 x)) w1.heap.size J/\Grew w (D.setCell ⟨w1.heap.size,i,none⟩ (int .u8 x))):=λD l P F U aP i x cR ca cb=>by
  obtain⟨J,aW,bv⟩:=F.set i (by omega) x ca cb;exact⟨J,aW.trans P,bv,U.trans ((zP (H:=w.heap.size) D w1.heap.size i _ aP))⟩
 have cS:aR<v:=by omega
 obtain⟨ab,cc,aB⟩:∃ab,ab<v/\ab=if al=0 then br else aR:=⟨if al=0 then br else aR,by split <;> omega,rfl⟩
 rcases Nat.eq_zero_or_pos al with U|U
 focus
  rw[if_pos U] at aB;subst aB;have aC:¬(0:Int)<(al:Int):=by omega
  apply wp_cut;intro A o;go_wp2_with (first|(go_at_call 15;refine(aQ.out _).mono ?_;rintro e ag ⟨rfl,G⟩;have I:=G.symm;subst I))
  apply o.out;clear o aC
 rotate_left
 focus
  rw[if_neg (by omega)] at aB;subst aB;have aC:(0:Int)<(al:Int):=by omega
  apply wp_cut;intro A o;go_wp2_with (first|(have mk:=bw;go_at_call 15;refine(bl.out _).mono ?_;rintro e ag ⟨rfl,G⟩;have I:=G.symm;subst I)|(go_at_call 15;refine(aQ.out _).mono ?_;rintro e ag ⟨rfl,G⟩;have I:=G.symm;subst I;have bw:True:=trivial))
  apply o.out;clear o aC bw
 all_goals
  clear aQ bl;apply wp_cut;intro A o;obtain⟨cd,ce⟩:=af.out.1.2 ab (by omega);have aX:(ab:Int)<(v:Int)+4:=by omega
  go_wp2_with (first|(go_at_call 15;refine(bj.out _).mono ?_;rintro e ag ⟨rfl,G⟩;have I:=G.symm;subst I))
  obtain⟨D,bx,aY⟩:∃D,D=az.setCell ⟨w1.heap.size,ab,none⟩ (int .u8 (b5:Int))/\Hid (∃J:List UInt8,J.length=v+4/\ByIn D w1.heap.size J/\Grew w D):=⟨_,rfl,aV.out az l b9 af.out.1 af.out.2.1 af.out.2.2 ab _ (by omega) (by omega) (by omega)⟩
  rw[<-bx];apply o.out;clear o bx cd ce aX bj;cases cf:((b6:Int)==1)
 all_goals
  obtain⟨cg,bz,aZ,bA⟩:=aY.out;obtain⟨ch,ck⟩:=aZ.2 ay (by omega);have aX:(ay:Int)<(v:Int)+4:=by omega
  apply wp_cut;intro A o;go_wp2_with (first|(go_at_call 15;refine(bk.out _).mono ?_;rintro e ag ⟨rfl,G⟩;have I:=G.symm;subst I))
  first
  |(obtain ⟨V,aD,a1⟩:∃V,V=D.setCell ⟨w1.heap.size,ay,none⟩ (int .u8 (c/16%256))/\Hid (∃J:List UInt8,J.length=v+4/\ByIn V w1.heap.size J/\Grew w V):=⟨_,rfl,aV.out D cg bz aZ bA af.out.2.2 ay _ (by omega) (by omega) (by omega)⟩;rw[<-aD])
  |(obtain ⟨V,aD,a1⟩:∃V,V=D/\Hid (∃J:List UInt8,J.length=v+4/\ByIn V w1.heap.size J/\Grew w V):=⟨_,rfl,aY.out⟩;rw[<-aD])
  apply o.out;clear o aD ch ck aX cf bk aY bz aZ bA af aV cc b7;obtain⟨a2,cl,bB,bC⟩:=a1.out;have aE:=vl bC;have aT:=bB.conv v cap (by omega)
  have cT:(0:Int)<=(v:Int):=by omega
  have cU:(v:Int)<=(cap:Int):=by omega
  have bD:Hid (∀(w2:World) (s:ByteArray),s.size<=1048576->Ca 38 #[string s] w2 λe w'=>(∃r:ByteArray,e=returned (string r)/\r.size=4)/\Grew w2 w'):=λw2 s ax=>zHe s w2 ax;have cm:(ByteArray.mk (a2.take v).toArray).size=v:=by
   show(a2.take v).toArray.size=v;rw[List.size_toArray,List.length_take];omega
  generalize ByteArray.mk (a2.take v).toArray=u0 at *;clear cl bB bC a1;apply wp_cut;intro A o;go_wp2;apply o.out;clear o aT;apply wp_cut;intro A o;have cn:(u0.size:Int)<=8388608:=by omega
  go_wp2_with (first|(go_at_call 38;refine(bD.out _ _ (by omega)).mono ?_;rintro e ah ⟨⟨q4,rfl,co⟩,bE⟩;have cp:(q4.size:Int)<=8388608:=(by omega)))
  apply o.out;clear o bD;have bF:(u0++q4).size<=1048576:=by rw[ByteArray.size_append];omega
  have ai:=vl (aE.out.trans (bE.lower aE.out.size aE.out.size));generalize u0++q4=u at *;clear bE cm cn co cp aE;cases ac:jP u
  ·have aa:Hid (Ca 37 #[string u] ah λe w'=>e=returned (tuple #[pointer none,iX 7])/\Grew ah w'):=(zDN u ah bF).mono (by rintro e w' ⟨W,P,-⟩;exact⟨P ac,W⟩)
   clear ac;go_wp2_with (first|(go_at_call 37;refine aa.out.mono ?_;rintro e aF ⟨rfl,aG⟩))
   refine gU (results_tmp rfl _ _ _) rfl ?_;exact⟨rfl,ai.out.trans (aG.lower ai.out.size ai.out.size)⟩
  ·have aa:Hid (Ca 37 #[string u] ah λe w'=>∃x,e=returned (tuple #[pX x,zX])/\Hid (∃n p S,LexAt w' S x p (zD5 u n))/\Grew ah w'):=(zDN u ah bF).mono (by
    rintro e w' ⟨W,-,F⟩;obtain⟨x,p,n,S,rfl,-,U,-⟩:=F ac;exact⟨x,rfl,⟨n,p,S,U⟩,W⟩)
   have a3:=vl ac;clear ac;apply wp_cut;intro A o;go_wp2_with (first|(go_at_call 37;refine aa.out.mono ?_;rintro e aF ⟨a4,rfl,bG,aG⟩))
   apply o.out;clear o aa;obtain⟨bH,aj,bI,a5⟩:=bG.out;obtain⟨R,bJ,ak⟩:∃R,R=zD5 u bH/\Hid (R.Fine/\sealed R.bytesL=u.data.toList):=⟨_,rfl,zF5 u bH a3.out,by rw[zJh];exact zJu u a3.out⟩
   rw[<-bJ] at a5;have X:=vl (And.intro a5 (ai.out.trans (aG.lower ai.out.size ai.out.size)));clear bJ a5 aG bG a3;have bK:Hid (Ca 36 #[pX a4] aF λe w'=>e=returned (string u)/\Grew aF w'):=(zCP a4 aj bI R aF X.out.1.cell X.out.1.tab X.out.1.safe ak.out.1).mono (by
    rintro e w' ⟨⟨cV,rfl,P⟩,F⟩;exact⟨by rw[zEz (P.trans ak.out.2)],F⟩)
   apply wp_cut;intro A o;go_wp2;apply o.out;clear o;apply wp_cut;intro A o;go_wp2_with (first|(go_at_call 36;refine bK.out.mono ?_;rintro e cW ⟨rfl,a6⟩))
   apply o.out;clear o bK;have Y:=vl (And.intro (X.out.1.grown a6) (X.out.2.trans (a6.lower X.out.2.size X.out.2.size)));clear a6 X;have bL:=vl (zJv Y.out.1 ak.out.1 O (by omega));apply wp_cut;intro A o;go_wp2;apply o.out;clear o;apply wp_cut;intro A o;go_wp2_with (first|(go_at_call 27;refine bL.out.mono ?_;rintro e cq ⟨bM,rfl,a7,an⟩))
   apply o.out;clear o bL;have bN:=vl (zIg cq bI a4 aj R (Y.out.1.grown an) ak.out.1 O bZ a aK aL 3 (by decide) (by decide));apply wp_cut;intro A o;go_wp2_with (first|(go_at_call 31;refine bN.out.mono ?_;rintro e a8 ⟨cr,rfl,bO,aH⟩))
   apply o.out;clear o bN;have bP:=vl (zKW a8 bM cr _ (a7.grown aH) bO);have ap:Hid (Grew w a8/\EvsAt a8 bM (R.events aj O)):=⟨(Y.out.2.trans (an.lower Y.out.2.size Y.out.2.size)).trans (aH.lower (lY Y.out.2.size an.size) (lY Y.out.2.size an.size)),a7.grown aH⟩
   clear a7 bO an aH Y;apply wp_cut;intro A o;go_wp2_with (first|(go_at_call 32;refine bP.out.mono ?_;rintro e ct ⟨rfl,a9⟩))
   apply o.out;clear o bP;have bQ:=vl (ap.out.2.grown a9);have bb:=vl (ap.out.1.trans (a9.lower ap.out.1.size ap.out.1.size));obtain⟨C,cu,bR⟩:=zLL R ak.out.1 aj O;have cw:=vl bR;have cx:=List.length_pos_iff.2 (R.events_some ak.out.1 aj O);clear a9 ap bR;generalize R.events aj O=bc at *;obtain⟨ao,cY,rfl,P,F,-⟩:=id bQ.out;have cy:bc.length<=9223372036854775807:=by unfold maxLen at F;omega
   obtain⟨K,bS⟩:∃K,bc.length=K+1:=⟨bc.length-1,by omega⟩
   have aI:=vl bS;clear cx bS;rw[aI.out] at P cy ⊢;have cz:((K:Int)+1==0)=false:=by rw[hX];omega
   apply wp_cut;intro A o;go_wp2;apply o.out;clear o cz;apply wp_cut;intro A o;go_wp2;apply o.out;clear o;go_wp2;go_loopg [24,25] (K+1) (λq at_ i wr=>∃j ad:Nat,q=K+1-j/\j<=K+1/\ad<=O.size/\C j ad/\at_=iX (ad:Int)/\i=iX (j:Int)/\Grew ct wr)
   case atStart=>exact⟨0,0,rfl,lX,lX,cu,rfl,rfl,Keep.refl _ _ _⟩
   case round=>
    obtain⟨j,ad,bT,cZ,c4,bU,rfl,rfl,W⟩:=hrel;have aJ:=vl (And.intro bT W);clear bT W;by_cases bV:j<K+1
    ·have cA:(j:Int)<(K:Int)+1:=by omega
     obtain⟨bd,c5,ac,be,-,bf,y3,-,-⟩:=(bQ.out.grown aJ.out.2).at j (by rw[aI.out];exact bV);injection ac with aW bv cB;subst aW cB;obtain⟨k,rl,f,g,bW,cC,cD,bX,bg⟩:=cw.out j ad bU (by rw[aI.out];exact bV);rw[bW] at be bf y3;rw[aI.out] at bg;have c6:cX wr bd (j*6)=some (iX k):=be;have c7:cX wr bd (j*6+2)=some (iX (f:Int)):=bf;have c8:cX wr bd (j*6+3)=some (iX (g:Int)):=y3;have cF:=vl bX;clear be bf y3 bW bU bX;have c9:¬(f:Int)<(ad:Int):=by omega
     have aC:¬(g:Int)<(f:Int):=by omega
     have da:¬(O.size:Int)<(g:Int):=by omega
     have cG:(((j:Int)==(K:Int))=true/\(k==1)=false)\/(((j:Int)==(K:Int))=false/\(k==1)=true/\((g:Int)==(f:Int))=false):=by
      rcases bg with⟨c1,c2,cH,-,-⟩|⟨c1,c2,cH⟩
      ·exact .inl ⟨by rw[beq_iff_eq];omega,by rw[hX];omega⟩
      ·exact .inr ⟨by rw[hX];omega,by rw[beq_iff_eq];exact c2,by rw[hX];omega⟩
     have db:decide (f<ad)=false:=gJ (by omega);have dc:decide (g<f)=false:=gJ (by omega);have dd:decide (O.size<g)=false:=gJ (by omega);clear bg cC;rcases cG with⟨cI,cJ⟩|⟨cI,cJ,de⟩
     all_goals
      go_wp2;go_quiet (fail);go_wp2;go_roundg (K+1-(j+1))
      case measure=>rw[aJ.out.1];omega
      case rel=>exact⟨j+1,g,rfl,by omega,cD,cF.out,rfl,by go_num,aJ.out.2.trans (Keep.alike (w':=wr.drewN nq) ⟨rfl,rfl,rfl⟩)⟩
    ·have cA:¬(j:Int)<(K:Int)+1:=by omega
     go_wp2;refine gU (results_tmp rfl _ _ _) rfl ?_;exact⟨rfl,bb.out.trans (aJ.out.2.lower bb.out.size bb.out.size)⟩
theorem zKF (w:World)(s o:ByteArray)(a b c:Int)(r:-9223372036854775808<=a)(u:a<=9223372036854775807)(C:-9223372036854775808<=b)(D:b<=9223372036854775807)(N:-9223372036854775808<=c)(O:c<=9223372036854775807):Calls prog 10 #[string s,string o,iX a,iX b,iX c] w λe w'=>e=returned (bool true)/\Grew w w':=by
 rcases zNw w s o with l|⟨y,E,Y,P,l⟩
 ·have p:=vl l
  clear l;go_in;go_wp2_with (go_at_call 14;refine p.mono ?_;rintro e w1 ⟨rfl,m⟩)
  refine gU (results_tmp rfl _ _ _) rfl ?_;exact⟨rfl,m⟩
 have p:=vl l;obtain⟨j,v⟩:∃j,j=zAs a 64:=⟨_,rfl⟩
 have aa:j<64:=by rw[v];exact zBd _ _ (by decide)
 have F:Hid (∀w2,Ca 15 #[iX a,iX 64] w2 λe w'=>e=returned (iX (j:Nat))/\w'=w2):=λw2=>by rw[v];exact vO w2 a r u 64 (by decide) (by decide)
 have G:Hid (∀w2 q,Ca 16 #[string s,iX (1+(j:Int)),bool q] w2 λe w'=>Grew w2 w'/\∃k m0 m1 m2 s0 s1 s2 v0 v1 v2 AH ST LN,e=returned (tuple #[pX k,agg #[slice m0 m1 m2,slice s0 s1 s2,slice v0 v1 v2,iX AH,bool ST,iX LN]])/\Hid (∀f,Grew w' f->Ca 23 #[pX k,string o,iX a,iX b,iX c] f λe H=>e=returned tX/\Grew f H)):=λw2 q=>by
  have I:=zJV w2 s (by omega) (1+j) (by omega) (by omega) q;rw[show ((1+j:Nat):Int)=1+(j:Int) by omega] at I;refine I.mono ?_;rintro e w' ⟨R,x,m0,m1,m2,s0,s1,s2,v0,v1,v2,AH,ST,LN,rfl,z⟩;unfold OfQ at z;rw[E] at z;obtain⟨k,t,rfl,-,-,S⟩:=z;exact⟨R,k,m0,m1,m2,s0,s1,s2,v0,v1,v2,AH,ST,LN,rfl,λf T=>zHh f _ k y _ q t (S.grown T) o P a b c r u C D N O⟩
 clear v r u C D E l;go_in;apply wp_cut;intro A g;go_wp2;apply g.out;clear g;apply wp_cut;intro A g;go_wp2_with (go_at_call 14;refine p.mono ?_;rintro e w1 ⟨rfl,m⟩)
 apply g.out;clear g;apply wp_cut;intro A g;go_wp2;apply g.out;clear g;apply wp_cut;intro A g;go_wp2_with (first|(go_at_call 15;refine(F _).mono ?_;rintro e ab ⟨rfl,U⟩;have V:=U.symm;subst V)|(go_at_call 16;refine(G _ _).mono ?_;rintro e w2 ⟨B,k,m0,m1,m2,s0,s1,s2,v0,v1,v2,AH,ST,LN,rfl,J⟩))
 apply g.out;clear g;obtain⟨f,K,M⟩:∃f,f=w2.alloc (.cells #[slice m0 m1 m2,slice s0 s1 s2,slice v0 v1 v2,iX AH,bool ST,iX LN] 30)/\Hid (Grew w f/\Grew w2 f):=⟨_,rfl,(m.th B).trans (kZ _ _ (lY m.size B.size)),kZ _ _ lQ⟩
 have W:=vl (J f M.2);rw[<-K];clear K B m p J G F;go_wp2_with (go_at_call 23;refine W.mono ?_;rintro e H ⟨rfl,X⟩)
 refine gU (results_tmp rfl _ _ _) rfl ?_;exact⟨rfl,M.1.th X⟩
section
open Go.ChangeShapes Go.WideShapes Go.ChangeAt Go.RowKit
open Go.ChangeMaps (open_string shut_string)
theorem zG1 (os:Os)(started:os.Started)(H:Type)(enc:TypeId×Value->H):
  ReturnsInHanded {} checked os 10 .any (Rows.turnedSpec.pre6 enc prog f10 Rows.turnedRow.domain false) (Rows.turnedSpec.post enc prog f10 false true false false):=by
 refine returnsInHanded_of_change (C:=checked) own started (by kernel_rfl) func10
  (ChangeSpec.witness6 (enc:=enc) (C:=checked) false ⟨#[],#[.string ⟨#[]⟩,.string ⟨#[]⟩,.int .i64 0,.int .i64 0,.int .i64 0],[]⟩ 8 (by kernel_rfl) (by kernel_rfl) (by kernel_rfl) (by kernel_rfl)) ?_
 intro W base args ds gs before hval0 hW _ _;have hval:=hval0;have hW':=hW;obtain⟨p,q,hA0,hV,rfl,hfz,hnd⟩:=hW;have hA:=hA0;rw[params10] at hA hval;obtain⟨v0,vs0,d0,ds0,p0,q0,hargs,rfl,rfl,h0,r0⟩:=trodAll_cons hA;obtain⟨v1,vs1,d1,ds1,p1,q1,rfl,rfl,rfl,h1,r1⟩:=trodAll_cons r0;obtain⟨v2,vs2,d2,ds2,p2,q2,rfl,rfl,rfl,h2,r2⟩:=trodAll_cons r1;obtain⟨v3,vs3,d3,ds3,p3,q3,rfl,rfl,rfl,h3,r3⟩:=trodAll_cons r2;obtain⟨v4,vs4,d4,ds4,p4,q4,rfl,rfl,rfl,h4,r4⟩:=trodAll_cons r3;obtain⟨rfl,rfl,rfl⟩:=trodAll_nil r4;have hargs2:args=#[v0,v1,v2,v3,v4]:=by cases args;simp_all
 subst hargs2;obtain⟨rfl,rfl⟩:=trodVars_none hV;obtain⟨a0,rfl,rfl,rfl,w0⟩:=open_string underlying9 (hval 0 9 v0 rfl rfl) h0;obtain⟨a1,rfl,rfl,rfl,w1⟩:=open_string underlying9 (hval 1 9 v1 rfl rfl) h1;obtain⟨a2,rfl,rfl,rfl,w2⟩:=open_int underlying3 (hval 2 3 v2 rfl rfl) h2;obtain⟨l2,u2⟩:=zLq w2;obtain⟨a3,rfl,rfl,rfl,w3⟩:=open_int underlying3 (hval 3 3 v3 rfl rfl) h3;obtain⟨l3,u3⟩:=zLq w3;obtain⟨a4,rfl,rfl,rfl,w4⟩:=open_int underlying3 (hval 4 3 v4 rfl rfl) h4;obtain⟨l4,u4⟩:=zLq w4;simp only[dQ] at hW';refine(zKF W a0 a1 a2 a3 a4 l2 u2 l3 u3 l4 u4).mono fun e W' ⟨he,hk⟩=>?_;subst he;exact⟨_,rfl,zK1 hW' (fun _ _ _=>trodAll_mk1 (shut_bool underlying4 _)) (fun sp=>zD2 (shut_string underlying9 w0) (zD2 (shut_string underlying9 w1) (zD2 (shut_int underlying3 w2) (zD2 (shut_int underlying3 w3) (zD2 (shut_int underlying3 w4) (trodAll_mk0)))))) (fun _=>rfl)
  (hk.frame _) (ok_one (by kernel_rfl) rfl (okWide_bool_mk underlying4 _))⟩
theorem turned_holds:Rows.TurnedSaid:=
 OpenClaim.holds_of_wide 10 f10 rfl rfl rfl rfl rfl rfl rfl ⟨rfl,rfl,rfl,rfl,rfl⟩ rfl rfl rfl rfl rfl (by kernel_rfl) func10 (by kernel_rfl)
  (of_decide_eq_true (by kernel_rfl)) (by unfold Func.isWrapper;first|(rw [if_pos (by decide +kernel)];kernel_rfl)|(rw [if_neg (by decide +kernel)];exact⟨rfl,rfl⟩))
  (fun os started H enc _=>zG1 os started H enc)
end
end Go.Proofs.YtbjcfkdnjaiclaaGreat
