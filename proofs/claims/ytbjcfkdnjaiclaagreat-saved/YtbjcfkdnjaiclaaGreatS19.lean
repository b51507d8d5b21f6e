import Derived.Test.YtbjcfkdnjaiclaaGreatS0
import Derived.Test.YtbjcfkdnjaiclaaGreatS18
/- Parts of the proof. -/
set_option linter.unusedVariables false
set_option linter.unusedSimpArgs false
set_option maxHeartbeats 4000000
set_option maxRecDepth 100000
namespace Go.Proofs.YtbjcfkdnjaiclaaGreat
open Go.RowKit Go.Proofs.Tryz Go.World
open Go.Value (int slice bool pointer string agg tuple)
open Go.IntKind (i64)
open Go.Ending (returned)
def zKe (r:Int×Int):List (Int×Int):=r::(qI r 65 90 32++qI r 97 122 (-32))
def qV (l:List (Int×Int)):List (Int×Int):=l.flatMap zKe
theorem zEC (r:Int×Int)(a b c:Int):(qI r a b c).length<=1:=by
 have h:∀(p:Prop) [Decidable p] (x:Int×Int),(if p then[x] else[]).length<=1:=by intro p _ x;split <;> simp
 exact h _ _
theorem zHD (l:List (Int×Int)):(qV l).length<=3*l.length:=by
 induction l with
 |nil=>exact lX
 |cons r l a=>
  have b:=zEC r 65 90 32;have c:=zEC r 97 122 (-32);have e:qV (r::l)=zKe r++qV l:=rfl;rw[e,kX];unfold zKe;simp only[List.length_cons,kX];omega
theorem zLD (l:List (Int×Int))(j:Nat)(a:j<l.length):qV (l.take (j+1))=((qV (l.take j)++[l.getD j (0,0)])++qI (l.getD j (0,0)) 65 90 32)++qI (l.getD j (0,0)) 97 122 (-32):=by
 have e:l.take (j+1)=l.take j++[l.getD j (0,0)]:=by rw[List.take_add_one,lV a,lW,lV a];rfl
 rw[e];unfold qV;rw[List.flatMap_append];simp[zKe]
theorem zFt (w:World)(u:Value)(l:List (Int×Int))(o:Bool)(aH:RangesAt w u l)(bf:l.length<=10000000):
  Calls prog 204 #[agg #[u,bool o]] w λe w'=>∃ae,e=returned (agg #[ae,bool o])/\RangesIn (λi=>w.heap.size<=i) w' ae (qV l)/\Grew w w':=by
 obtain⟨aI,aJ,aK,aL,aM⟩:=info_parts zEO;obtain⟨ao,cap,rfl,_,_,aN⟩:=aH;have aO:=vl aN;obtain⟨s,af,aP,I,J,aQ,P⟩:∃s,s=((w.alloc (.cells #[slice ao l.length cap,bool o] 161)).alloc (.cells #[slice none 0 0,bool false] 161)).alloc (.cells #[slice none 0 0,bool o] 161)/\Hid (Rw s (w.heap.size+3) (w.heap.size+1+1) (slice none 0 0) [] o)/\s.cell? ⟨w.heap.size,0,none⟩=some (slice ao l.length cap)/\s.cell? ⟨w.heap.size,1,none⟩=some (bool o)/\Hid (s.heap[w.heap.size+1]? =some (.cells #[slice none 0 0,bool false] 161))/\Hid (Grew w s):=by
  have s1:(w.alloc (.cells #[slice ao l.length cap,bool o] 161)).heap.size=w.heap.size+1:=by simp
  have s2:((w.alloc (.cells #[slice ao l.length cap,bool o] 161)).alloc (.cells #[slice none 0 0,bool false] 161)).heap.size=w.heap.size+1+1:=by simp
  have aR:=gX w (.cells #[slice ao l.length cap,bool o] 161);have b2:=gX (w.alloc (.cells #[slice ao l.length cap,bool o] 161)) (.cells #[slice none 0 0,bool false] 161);rw[s1] at b2;have ah:=gX ((w.alloc (.cells #[slice ao l.length cap,bool o] 161)).alloc (.cells #[slice none 0 0,bool false] 161)) (.cells #[slice none 0 0,bool o] 161);rw[s2] at ah;have ai:=(lG ((w.alloc (.cells #[slice ao l.length cap,bool o] 161)).alloc (.cells #[slice none 0 0,bool false] 161)) (.cells #[slice none 0 0,bool o] 161) w.heap.size (by rw[s2];omega)).trans ((lG _ _ _ (by rw[s1];omega)).trans aR);have aS:=(lG ((w.alloc (.cells #[slice ao l.length cap,bool o] 161)).alloc (.cells #[slice none 0 0,bool false] 161)) (.cells #[slice none 0 0,bool o] 161) (w.heap.size+1) (by rw[s2];omega)).trans b2;refine⟨_,rfl,⟨ah,ownsRow_nil _ _ _ _,by omega,by simp⟩,?_,?_,aS,((kZ _ _ lQ).trans (kZ _ _ (by rw[s1];omega))).trans (kZ _ _ (by rw[s2];omega))⟩
  ·unfold cell?;rw[ai];rfl
  ·unfold cell?;rw[ai];rfl
 go_in;apply wp_cut;intro A c;go_wp2;apply c.out;apply wp_cut;intro A c;go_wp2;apply c.out;clear c;rw[<-af];clear af;go_wp2;clear I J;go_loopg [12] l.length (λq i wr=>∃j:Nat,q=l.length-j/\j<=l.length/\i=iX (j:Int)/\zQn wr (w.heap.size+3) (w.heap.size+1+1) (qV (l.take j)) o/\Keep (w.heap.size+3) (w.heap.size+1+1) s wr)
 case atStart=>exact⟨0,rfl,lX,rfl,⟨_,by rw[List.take_zero];exact aP⟩,Keep.refl _ _ _⟩
 case round=>
  obtain⟨j,Q,bg,rfl,⟨sv,B⟩,x⟩:=hrel;have z:Hid (gk=l.length-j/\Rw wr (w.heap.size+3) (w.heap.size+1+1) sv (qV (l.take j)) o/\Keep (w.heap.size+3) (w.heap.size+1+1) s wr):=⟨Q,B,x⟩
  by_cases aj:j<l.length
  ·have aT:(j:Int)<(l.length:Int):=by omega
   obtain⟨b,bh,rfl,aU,ak,al⟩:=aO j aj;have bi:=P.size;have aV:b<w.heap.size:=aU;have R:wr.heap[b]? =w.heap[b]? :=(x.block b (by omega) (by omega)).trans (P.block b aV (by omega));have I:=(gZ R).trans ak;have J:=(gZ R).trans al;have aW:=vl <| zLD l j aj;have bj:(qV (l.take j)).length<=30000000:=by
    have am:=zHD (l.take j);rw[List.length_take] at am;omega
   clear ak al R Q x B;generalize l.getD j (0,0)=r at *;generalize aX:qV (l.take j)=a at *;clear aX;obtain⟨d,f⟩:=r;simp only at I J;obtain⟨g,m,S⟩:=zE z.2.1.own;subst S;obtain⟨p,an,C,K,aY,bk⟩:∃p,p=wr.alloc (.cells #[iX d,iX f] 255)/\Rw p (w.heap.size+3) (w.heap.size+1+1) (slice g a.length m) a o/\Hid (p.heap[wr.heap.size]? =some (.cells #[iX d,iX f] 255)/\some wr.heap.size≠(Value.slice g a.length m).ownBlock)/\Hid (Keep (w.heap.size+3) (w.heap.size+1+1) wr p)/\wr.heap.size+1<=p.heap.size:=by
    have T:=z.2.1.lt;refine⟨_,rfl,z.2.1.keep (kZ (b:=wr.heap.size) _ _ lQ) (.inr rfl) (by omega),⟨gX _ _,λe=>by have:=(z.2.1.own.lt _ e.symm).2;omega⟩,kZ _ _ T,by simp⟩
   have bl:w.heap.size+3<=wr.heap.size:=z.2.1.lt;apply wp_cut;intro A c;go_wp2;apply c.out;clear c;apply wp_cut;intro A c;go_wp2;apply c.out;clear c;apply wp_cut;intro bm ap;refine wp_block ?_;apply wp_cut;intro A c;go_wp2;apply c.out;clear c;rw[<-an];clear an I J;obtain⟨aq,-,ar⟩:=C.cells;have au:=ar 0;have av:p.ownsRow (w.heap.size+3) 255 2 (slice g a.length m) a.length (qM a):=C.own;have U:w.heap.size+1+1<p.heap.size:=by omega
   have aw:=vl <| zM C.own C.blk (by decide);have c0:p.cell? ⟨wr.heap.size,0,none⟩=some (iX d):=by unfold cell?;rw[K.out.1];rfl
   have c1:p.cell? ⟨wr.heap.size,1,none⟩=some (iX f):=by unfold cell?;rw[K.out.1];rfl
   have V:=vl C;clear ar C;apply wp_cut;intro A c;go_wp2_with (first|(at_builtin;refine wpList_append_lies _ rfl _ _ 159 rfl (w.heap.size+3) 255 aI (agg #[iX 0,iX 0]) 2 16 underlying159 aJ aK aL aM rfl (by decide) _ _ _ rfl (av.alloc _) ⟨p.heap.size,0,none⟩ 1 1 [iX d,iX f] rfl rfl (news_of_block (cs:=#[iX d,iX f]) (t:=255) (fr:=(0,0)) (gX p _)) (by simp[Value.oneCell']) (by decide) (by unfold maxLen;omega) (by omega) (by simp;omega) _ rfl ?_;intro M cap w2 ax W ay T;have X:=W.block (w.heap.size+1+1) (by simp;omega) aw;have aZ:w2.cell? ⟨w.heap.size+1+1,0,none⟩=some (slice g a.length m):=(gZ X).trans ((gW _ _ _ U).trans aq);have a0:w2.frozen? ⟨w.heap.size+1+1,0,none⟩=false:=(gY X).trans ((frozen?_alloc_past _ _ _ U).trans au)))
   apply c.out;clear c;obtain⟨y,az,N⟩:∃y,y=w2.setCell ⟨w.heap.size+1+1,0,none⟩ (slice (qX M) (a.length+1) cap)/\Hid (Rw y (w.heap.size+3) (w.heap.size+1+1) (slice (qX M) (a.length+1) cap) (a++[(d,f)]) o/\KeepO (w.heap.size+1+1) (slice g a.length m) (slice (qX M) (a.length+1) cap) p y):=⟨_,rfl,V.app rfl ax W (by rcases ay with Y|Y;exact .inl Y;right;rw[Y];simp)⟩
   rw[<-az];clear az ax W ay T X aZ a0 av aw U;generalize (Value.slice (qX M) (a.length+1) cap)=aa at *;obtain⟨D,O⟩:=N.2.block wr.heap.size (by omega) (by omega) K.2;have G:Hid (y.heap[wr.heap.size]? =some (.cells #[iX d,iX f] 255)/\some wr.heap.size≠aa.ownBlock):=⟨D.trans K.1,O⟩
   have a1:y.cell? ⟨wr.heap.size,0,none⟩=some (iX d):=by unfold cell?;rw[G.out.1];rfl
   have a2:y.cell? ⟨wr.heap.size,1,none⟩=some (iX f):=by unfold cell?;rw[G.out.1];rfl
   clear D O c0 c1 aq au;have a3:=vl <| zCS y _ _ aa _ o N.1 (by simp;omega) d f 65 90 32 (by omega) (by omega) (by omega);apply wp_cut;intro A c;go_wp2_with (first|(go_at_call 213;refine a3.mono ?_;rintro e H ⟨rfl,ab,ac,ad⟩))
   apply c.out;clear c;have bn:=N.2.size;obtain⟨D,O⟩:=ad.block wr.heap.size (by omega) (by omega) G.2;have v0:H.cell? ⟨wr.heap.size,0,none⟩=some (iX d):=by unfold cell?;rw[D,G.out.1];rfl
   have v1:H.cell? ⟨wr.heap.size,1,none⟩=some (iX f):=by unfold cell?;rw[D,G.out.1];rfl
   have a4:Hid (Rw H (w.heap.size+3) (w.heap.size+1+1) ab ((a++[(d,f)])++qI (d,f) 65 90 32) o/\KeepO (w.heap.size+1+1) aa ab y H):=⟨ac,ad⟩
   have a5:=vl <| zCS H _ _ ab _ o ac (by have:=zEC (d,f) 65 90 32;simp;omega) d f 97 122 (-32) (by omega) (by omega) (by omega);clear D O ac ad a1 a2;go_wp2_with (first|(go_at_call 213;refine a5.mono ?_;rintro e aA ⟨rfl,a6,aB,aC⟩))
   apply ap.out;clear ap;have a7:Hid (zQn aA (w.heap.size+3) (w.heap.size+1+1) (qV (l.take (j+1))) o/\Keep (w.heap.size+3) (w.heap.size+1+1) s aA):=⟨⟨a6,by rw[aW.out];exact aB⟩,z.2.2.trans (aY.trans (((N.2.trans a4.2).trans aC).keep V.own V.lt))⟩
   clear aB aC v0 v1;go_wp2;go_roundg (l.length-(j+1))
   case measure=>rw[z.out.1];omega
   case rel=>exact⟨j+1,rfl,by omega,by go_num,a7⟩
  ·have aT:(l.length:Int)<=(j:Int):=by omega
   have e:j=l.length:=by omega
   subst e;obtain⟨c0,c1,-⟩:=B.cells;obtain⟨g,m,S⟩:=zE B.own;subst S;have aD:=vl B.in;have E:wr.heap[w.heap.size+1]? =some (.cells #[slice none 0 0,bool false] 161):=(x.block _ (by omega) (by omega)).trans aQ;have bo:wr.cell? ⟨w.heap.size+1,0,none⟩=some (slice none 0 0):=by unfold cell?;rw[E];rfl
   have bp:wr.cell? ⟨w.heap.size+1,1,none⟩=some (bool false):=by unfold cell?;rw[E];rfl
   have bq:wr.frozen? ⟨w.heap.size+1,0,none⟩=false:=by unfold frozen?;rw[E];rfl
   have br:wr.frozen? ⟨w.heap.size+1,1,none⟩=false:=by unfold frozen?;rw[E];rfl
   have a8:Hid (qV (l.take l.length)=qV l):=by show _=_;rw[List.take_length]
   generalize qV (l.take l.length)=a at *;obtain⟨F,a9,ba,bb,aE⟩:∃F,F=(wr.setCell ⟨w.heap.size+1,0,none⟩ (slice g a.length m)).setCell ⟨w.heap.size+1,1,none⟩ (bool o)/\F.cell? ⟨w.heap.size+1,0,none⟩=some (slice g a.length m)/\F.cell? ⟨w.heap.size+1,1,none⟩=some (bool o)/\Hid (RangesIn (λi=>w.heap.size<=i) F (slice g a.length m) a/\Grew w F):=by
    have aF:((wr.setCell ⟨w.heap.size+1,0,none⟩ (slice g a.length m)).setCell ⟨w.heap.size+1,1,none⟩ (bool o)).heap[w.heap.size+1]? =some (.cells #[slice g a.length m,bool o] 161):=by
     simp[setCell,lU,E]
    have aG:∀i,i≠w.heap.size+1->((wr.setCell ⟨w.heap.size+1,0,none⟩ (slice g a.length m)).setCell ⟨w.heap.size+1,1,none⟩ (bool o)).heap[i]? =wr.heap[i]? :=λi bc=>by
     simp[setCell,lU,Ne.symm bc]
    refine⟨_,rfl,?_,?_,?_,?_⟩
    ·unfold cell?;rw[aF];rfl
    ·unfold cell?;rw[aF];rfl
    ·have bd:Agree (λi=>w.heap.size+3<=i) wr ((wr.setCell ⟨w.heap.size+1,0,none⟩ (slice g a.length m)).setCell ⟨w.heap.size+1,1,none⟩ (bool o)):=⟨rfl,rfl,by simp[World.setCell],λi _ be=>aG i (by omega)⟩
     exact(aD.go bd).mono (λi _ be=>by omega)
    ·exact(P.trans ⟨x.os,x.output,x.size,λk bs _=>x.block k (by omega) (by omega)⟩).trans ⟨rfl,rfl,by simp[World.setCell],λk am _=>aG k (by omega)⟩
   clear Q B x E aD;go_wp2;rw[<-a9];refine gV (v:=agg #[slice g a.length m,bool o]) (by simp[results,results204,go_sem,ba,bb]) rfl ?_;exact⟨_,rfl,by rw[<-a8.out];exact aE.1,aE.2⟩
theorem vY {s t:ByteArray}{i:Nat}(a:zJ s i t=true):i+t.size<=s.size:=by
 unfold zJ at a;rw[Bool.and_eq_true] at a;exact of_decide_eq_true a.1
theorem zCO {s:ByteArray}{i:Nat}(b:byt s i≠0):i<s.size:=by
 rcases Nat.lt_or_ge i s.size with a|a
 ·exact a
 ·exact absurd (zID s i a) b
theorem zM3:zAd 0<0:=by decide
theorem zMa (s:ByteArray)(i most:Nat)(d:0<yV s i most):i+yV s i most<=s.size:=by
 obtain⟨k,f⟩:∃k,yV s i most=k+1:=⟨yV s i most-1,by omega⟩
 have g:=zFB s i most;have b:¬zAd (byt s (i+k))<0:=by
  have c:k<(List.range most).findIdx λj=>decide (zAd (byt s (i+j))<0):=by
   show k<yV s i most;omega
  have a:=List.not_of_lt_findIdx c;rw[List.getElem_range] at a;exact of_decide_eq_false a
 have l:=zCO (λe=>b (by rw[e];exact zM3));omega
theorem zL8 (s:ByteArray)(p k:Nat)(a:k<=6):zBl s p k<=16777216:=Nat.le_of_lt (lZ (zL7 s p k) (kG (by omega) (by omega:k<=6)))
theorem zPm (s:ByteArray)(p:Nat):(zIs s p).at_<=p+2/\((zIs s p).ok=true->p<(zIs s p).at_/\(zIs s p).at_<=s.size)/\0<=(zIs s p).num/\(zIs s p).num<=16777216:=by
 have a:=zFB s p 2;have b:=zMa s p 2;have c:=zL8 s p (yV s p 2) (by omega);unfold zIs;refine⟨by show p+yV s p 2<=p+2;omega,λe=>?_,by show(0:Int)<=(zBl s p (yV s p 2):Nat);omega,by show((zBl s p (yV s p 2):Nat):Int)<=16777216;omega⟩;have d:yV s p 2=2:=by simpa using e
 show p<p+yV s p 2/\p+yV s p 2<=s.size;omega
theorem zOS (s:ByteArray)(p:Nat):(zHH s p).at_<=p+7/\((zHH s p).ok=true->p<(zHH s p).at_/\(zHH s p).at_<=s.size)/\0<=(zHH s p).num/\(zHH s p).num<=16777216:=by
 have c:=zFB s p 6;have d:=zMa s p 6;have f:=zL8 s p (yV s p 6) c;unfold zHH;refine⟨?_,λe=>?_,by show(0:Int)<=(zBl s p (yV s p 6):Nat);omega,by show((zBl s p (yV s p 6):Nat):Int)<=16777216;omega⟩
 ·show(if zJ s (p+yV s p 6) ⟨#[125]⟩ then p+yV s p 6+1 else p+yV s p 6)<=p+7
  split <;> omega
 ·have a:zJ s (p+yV s p 6) ⟨#[125]⟩=true:=by
   have b:=e;rw[Bool.and_eq_true,Bool.and_eq_true] at b;exact b.1.1
  show p<(if zJ s (p+yV s p 6) ⟨#[125]⟩ then p+yV s p 6+1 else p+yV s p 6)/\(if zJ s (p+yV s p 6) ⟨#[125]⟩ then p+yV s p 6+1 else p+yV s p 6)<=s.size;rw[if_pos a];have:=vY a;have g:(⟨#[125]⟩:ByteArray).size=1:=rfl;omega
theorem zMc (s:ByteArray)(p:Nat):(zBk s p).at_<=p+10/\((zBk s p).ok=true->p<(zBk s p).at_/\(zBk s p).at_<=s.size)/\0<=(zBk s p).num/\(zBk s p).num<=16777216:=by
 unfold zBk;split
 ·rename_i f
  have:=vY f;have i:(⟨#[110]⟩:ByteArray).size=1:=rfl;exact⟨by show p+1<=_;omega,λ_=>⟨by show p<p+1;omega,by show p+1<=_;omega⟩,by show(0:Int)<=10;omega,by show(10:Int)<=16777216;omega⟩
 split
 ·rename_i f
  have:=vY f;have i:(⟨#[116]⟩:ByteArray).size=1:=rfl;exact⟨by show p+1<=_;omega,λ_=>⟨by show p<p+1;omega,by show p+1<=_;omega⟩,by show(0:Int)<=9;omega,by show(9:Int)<=16777216;omega⟩
 split
 ·obtain⟨a,b,c,g⟩:=zPm s (p+1)
  exact⟨by omega,λe=>by have:=b e;omega,c,g⟩
 split
 ·obtain⟨a,b,c,g⟩:=zOS s (p+2)
  exact⟨by omega,λe=>by have:=b e;omega,c,g⟩
 have k:=vT s p;split
 ·exact⟨by show p<=_;omega,λe=>(by cases e),by show(0:Int)<=0;omega,by show(0:Int)<=16777216;omega⟩
 ·rename_i f
  have j:byt s p≠0:=λe=>f (by rw[e];decide);have:=zCO j;refine⟨by show p+1<=_;omega,λ_=>⟨by show p<p+1;omega,by show p+1<=_;omega⟩,?_,?_⟩
  ·show(0:Int)<=(byt s p:Nat);omega
  ·show((byt s p:Nat):Int)<=16777216;omega
theorem zFV (s:ByteArray)(p:Nat):(xR s p).at_<=p+11/\((xR s p).ok=true->p<(xR s p).at_/\(xR s p).at_<=s.size)/\0<=(xR s p).num/\(xR s p).num<=16777216:=by
 unfold xR;split
 ·obtain⟨a,b,c,f⟩:=zMc s (p+1)
  exact⟨by omega,λe=>by have:=b e;omega,c,f⟩
 have j:=vT s p;split
 ·exact⟨by show p<=_;omega,λe=>(by cases e),by show(0:Int)<=0;omega,by show(0:Int)<=16777216;omega⟩
 ·rename_i g
  have i:byt s p≠0:=λe=>g (by rw[e];decide);have:=zCO i;refine⟨by show p+1<=_;omega,λ_=>⟨by show p<p+1;omega,by show p+1<=_;omega⟩,?_,?_⟩
  ·show(0:Int)<=(byt s p:Nat);omega
  ·show((byt s p:Nat):Int)<=16777216;omega
theorem zL0 (s:ByteArray)(p:Nat):(yU s p).at_<=p+30/\((yU s p).ok=true->p<(yU s p).at_/\(yU s p).at_<=s.size)/\0<=(yU s p).low/\(yU s p).low<=16777216/\0<=(yU s p).high/\(yU s p).high<=16777216:=by
 obtain⟨a,b,c,f⟩:=zFV s p;unfold yU;split
 ·rename_i g
  rw[Bool.and_eq_true] at g;obtain⟨k,b2,c2,j⟩:=zFV s ((xR s p).at_+1);have l:=b g.1;refine⟨?_,λe=>?_,c,f,c2,j⟩
  ·show(xR s ((xR s p).at_+1)).at_<=p+30
   omega
  ·have i:((xR s ((xR s p).at_+1)).ok&&decide ((xR s p).num<=(xR s ((xR s p).at_+1)).num))=true:=e
   rw[Bool.and_eq_true] at i;have:=b2 i.1;show p<(xR s ((xR s p).at_+1)).at_/\(xR s ((xR s p).at_+1)).at_<=s.size;omega
 ·exact⟨by show(xR s p).at_<=p+30;omega,b,c,f,c,f⟩
def zBy (s:ByteArray):Nat->Nat->List (Int×Int)->Option (List (Int×Int)×Nat)
 |0,_,_=>none
 |f+1,p,l=>if(yU s p).ok then(if zJ s (yU s p).at_ ⟨#[93]⟩ then some (l++[((yU s p).low,(yU s p).high)],(yU s p).at_+1) else zBy s f (yU s p).at_ (l++[((yU s p).low,(yU s p).high)])) else none
def zCN (s:ByteArray)(p:Nat):Option (Cs×Nat):=(zBy s (s.size+1) (if zJ s (p+1) ⟨#[94]⟩ then p+2 else p+1) []).map λg=>(⟨g.1,zJ s (p+1) ⟨#[94]⟩⟩,g.2)
def zAT (w:World)(b:Nat)(s:ByteArray)(dv:Value)(r:Rx)(a:Option (Cs×Nat))(e:Ending)(w':World):Prop:=
 Keep w.heap.size b w w'/\match a with
 |none=>∃v n c o q,e=returned (tuple #[agg #[slice v n c,bool o],bool false])/\RxAt w' b s dv {r with at_:=q}
 |some (c,q)=>∃u,e=returned (tuple #[agg #[u,bool c.others],bool true])/\RangesIn (λi=>w.heap.size<=i) w' u c.ranges/\RxAt w' b s dv {r with at_:=q}
theorem zHN (s t:ByteArray)(r:Rx):r.take s t={r with at_:=if zJ s r.at_ t then r.at_+t.size else r.at_}:=by
 cases a:zJ s r.at_ t with
 |true=>rw[zI1 a];rfl
 |false=>rw[zLO a];rfl
structure Cw (w w':World)(b:Nat)(s:ByteArray)(dv:Value)(r:Rx)(pos:Nat)(L:List (Int×Int))(o:Bool):Prop where
 set:zQn w' (w.heap.size+2) (w.heap.size+1) L o
 box:w'.heap[w.heap.size]? =some (.cells #[slice none 0 0,bool false] 161)
 rx:RxAt w' b s dv {r with at_:=pos}
 keep:Keep w.heap.size b w w'
theorem jK (w w2:World)(b:Nat)(s:ByteArray)(dv:Value)(r:Rx)(x y u:Value)(o:Bool)(q:b<w.heap.size)(f:w2.heap[w.heap.size]? =some (.cells #[x,y] 161))(g:RxAt w2 b s dv r)(j:Keep w.heap.size b w w2):
  ∃a,a=(w2.setCell ⟨w.heap.size,0,none⟩ u).setCell ⟨w.heap.size,1,none⟩ (bool o)/\a.cell? ⟨w.heap.size,0,none⟩=some u/\a.cell? ⟨w.heap.size,1,none⟩=some (bool o)/\Hid (RxAt a b s dv r/\Keep w.heap.size b w a/\∀l,RangesIn (λi=>w.heap.size<i) w2 u l->RangesIn (λi=>w.heap.size<=i) a u l):=by
 have e:((w2.setCell ⟨w.heap.size,0,none⟩ u).setCell ⟨w.heap.size,1,none⟩ (bool o)).heap[w.heap.size]? =some (.cells #[u,bool o] 161):=by
  simp[setCell,lU,f]
 have c:∀i,i≠w.heap.size->((w2.setCell ⟨w.heap.size,0,none⟩ u).setCell ⟨w.heap.size,1,none⟩ (bool o)).heap[i]? =w2.heap[i]? :=λi m=>by
  simp[setCell,lU,Ne.symm m]
 refine⟨_,rfl,?_,?_,RxAt.of_block g (c b (by omega)),j.trans ⟨rfl,rfl,by simp[World.setCell],λk t _=>c k (by omega)⟩,λl p=>RangesIn.mono (X:=λi=>w.heap.size<i) (p.go ⟨rfl,rfl,by simp[World.setCell],λi _ d=>c i (Nat.ne_of_gt d)⟩) (λi _ d=>Nat.le_of_lt d)⟩
 ·unfold cell?;rw[e];rfl
 ·unfold cell?;rw[e];rfl
theorem zKa (w:World)(b:Nat)(s:ByteArray)(dv:Value)(r:Rx)(d:RxAt w b s dv r):
  ∃a,a=(((w.alloc (.cells #[slice none 0 0,bool false] 161)).setCell ⟨b,2,none⟩ (iX ((r.at_:Int)+1))).alloc (.cells #[slice none 0 0,bool false] 161))/\Cw w a b s dv r (r.at_+1) [] false/\w.heap.size+2<=a.heap.size/\a.heap[w.heap.size+1]? =some (.cells #[slice none 0 0,bool false] 161):=by
 have f:=d.lt;have s1:(w.alloc (.cells #[slice none 0 0,bool false] 161)).heap.size=w.heap.size+1:=by simp
 have g:=gX w (.cells #[slice none 0 0,bool false] 161);have i:RxAt (w.alloc (.cells #[slice none 0 0,bool false] 161)) b s dv r:=RxAt.of_block d (lG _ _ _ f);have e:=i.setAt (r.at_+1);rw[show ((r.at_+1:Nat):Int)=(r.at_:Int)+1 by omega] at e;have j:Keep w.heap.size b w (w.alloc (.cells #[slice none 0 0,bool false] 161)):=kZ _ _ lQ;generalize (w.alloc (.cells #[slice none 0 0,bool false] 161))=w1 at *;have b2:(w1.setCell ⟨b,2,none⟩ (iX ((r.at_:Int)+1))).heap[w.heap.size]? =some (.cells #[slice none 0 0,bool false] 161):=(lJ _ _ _ _ (by show w.heap.size≠b;omega)).trans g;have s2:(w1.setCell ⟨b,2,none⟩ (iX ((r.at_:Int)+1))).heap.size=w.heap.size+1:=by rw[zC];exact s1
 have k:Keep w.heap.size b w (w1.setCell ⟨b,2,none⟩ (iX ((r.at_:Int)+1))):=j.trans (Keep.set _ _ _);generalize (w1.setCell ⟨b,2,none⟩ (iX ((r.at_:Int)+1)))=w2 at *;have c:=gX w2 (.cells #[slice none 0 0,bool false] 161);rw[s2] at c;refine⟨_,rfl,⟨⟨slice none 0 0,c,ownsRow_nil _ _ _ _,by omega,by simp;omega⟩,(lG _ _ _ (by omega)).trans b2,RxAt.of_block e (lG _ _ _ (by omega)),k.trans (kZ _ _ (by omega))⟩,by simp;omega,c⟩
theorem zFg (w:World)(b:Nat)(s:ByteArray)(dv:Value)(r:Rx)(ad:RxAt w b s dv r)(ae:s.size<=1048576)(af:r.at_<s.size):
  Calls prog 208 #[pX b] w (zAT w b s dv r (zCN s r.at_)):=by
 have ag:=ad.lt;obtain⟨bl,bm,bn,bo,bp⟩:=info_parts zEO;obtain⟨U,aH,aq,bq,aI⟩:=zKa w b s dv r ad;have aJ:=vl aI;obtain⟨o,ar⟩:∃o,o=zJ s (r.at_+1) ⟨#[94]⟩:=⟨_,rfl⟩
 obtain⟨K,ah⟩:∃K,K=(if zJ s (r.at_+1) ⟨#[94]⟩ then r.at_+2 else r.at_+1):=⟨_,rfl⟩
 have br:K<=s.size:=by
  rw[ah];split
  ·rename_i e
   have:=vY e;have bQ:(⟨#[94]⟩:ByteArray).size=1:=rfl;omega
  ·omega
 obtain⟨V,au⟩:∃V,V=zBy s (s.size+1) K []:=⟨_,rfl⟩
 have aK:Hid (zCN s r.at_=V.map λg=>(⟨g.1,o⟩,g.2)):=by
  show _=_;unfold zCN;rw[au,ar,ah]
 have aL:Hid (Ca 189 #[pX b,string ⟨#[94]⟩] U λe w'=>e=returned (bool o)/\RxAt w' b s dv {r with at_:=K}/\∀H,Keep H b U w'):=by
  have:=zAn U b s dv {r with at_:=r.at_+1} aq.rx ae (by show r.at_+1<=_;omega) ⟨#[94]⟩ (by decide);rw[zHN] at this;rw[ah,ar];exact this
 have bs:=vl au;have av:=vl aq;obtain⟨-,-,c2,-,-,aM⟩:=ad.cells;have aN:=aM 2;rw[aK.out];clear ah ar au aM aK ad aq aI;have E:=vl ag;have bt:(w.alloc (.cells #[slice none 0 0,bool false] 161)).cell? ⟨b,2,none⟩=some (iX (r.at_:Int)):=(gW _ _ _ ag).trans c2;have bu:(w.alloc (.cells #[slice none 0 0,bool false] 161)).frozen? ⟨b,2,none⟩=false:=(frozen?_alloc_past _ _ _ ag).trans aN;clear ag c2 aN;go_in;apply wp_cut;intro aw u;go_wp2;apply u.out;clear u;apply wp_cut;intro aw u;go_wp2;apply u.out;clear u;apply wp_cut;intro aw u;go_wp2;apply u.out;clear u;rw[<-aH];clear aH;apply wp_cut;intro aw u;go_wp2_with (first|(go_at_call 189;refine aL.mono ?_;rintro e ai ⟨rfl,aO,aj⟩;have ak:ai.heap[w.heap.size+1]? =some (.cells #[slice none 0 0,bool false] 161):=((aj U.heap.size).block _ (by omega) (by have:=E.out;omega)).trans aJ;have bv:ai.cell? ⟨w.heap.size+1,1,none⟩=some (bool false):=(by unfold cell?;rw[ak];rfl);have bw:ai.frozen? ⟨w.heap.size+1,1,none⟩=false:=(by unfold frozen?;rw[ak];rfl);have aP:=vl ak;clear ak))
 apply u.out;clear u;obtain⟨ax,aQ,bx⟩:∃ax,ax=ai.setCell ⟨w.heap.size+1,1,none⟩ (bool o)/\Hid (Cw w ax b s dv r K [] o):=by
  have M:=E.out;have aR:=aj U.heap.size;have bz:=aP.out;refine⟨_,rfl,⟨⟨slice none 0 0,⟨by simp[setCell,lU,bz],ownsRow_nil _ _ _ _,by omega,by rw[zC];have:=aR.size;omega⟩⟩,(lJ _ _ _ _ (by show w.heap.size≠w.heap.size+1;omega)).trans ((aR.block _ (by omega) (by omega)).trans av.box),RxAt.of_block aO (lJ _ _ _ _ (by show b≠w.heap.size+1;omega)),av.keep.trans ((aj _).trans ⟨rfl,rfl,by rw[zC];omega,λk aS _=>lJ _ _ _ _ (by show k≠w.heap.size+1;omega)⟩)⟩⟩
 rw[<-aQ];clear aQ aO aj bw bv av aL bq bt bu aJ aP;refine wp_block ?_;go_loopg [6] (s.size+1) (λq v wr=>∃f c a,q=f/\c<=s.size/\s.size+1-c<=f/\zBy s f c a=V/\Cw w wr b s dv r c a o/\a.length<=c)
 case atStart=>exact⟨s.size+1,K,[],rfl,br,by omega,bs.symm,bx,lX⟩
 case round=>
  obtain⟨f,c,a,aT,bR,bS,aU,al,bT⟩:=hrel;cases f with
  |zero=>omega
  |succ f=>
  obtain⟨m1,m2,bA,bB,bC,bD⟩:=zL0 s c;have aV:=vl <| zIf wr b s dv {r with at_:=c} al.rx ae (by show c<=_;omega) (by show(xR s c).at_<=_;have:=(zFV s c).1;omega);have aW:(if (yU s c).ok then(if zJ s (yU s c).at_ ⟨#[93]⟩ then some (a++[((yU s c).low,(yU s c).high)],(yU s c).at_+1) else zBy s f (yU s c).at_ (a++[((yU s c).low,(yU s c).high)])) else none)=V:=aU;clear aU;obtain⟨sv,ay⟩:=al.set;obtain⟨P,Q,bE⟩:=zE ay.own;subst bE;have W:Hid (Cw w wr b s dv r c a o/\Rw wr (w.heap.size+2) (w.heap.size+1) (slice P a.length Q) a o/\gk=f+1):=⟨al,ay,aT⟩
  clear al ay aT;generalize yU s c=m at *;obtain⟨B,x,ok,j⟩:=m;have bU:j<=c+30:=m1;have aX:=vl m2;have am:=vl aW;have aY:=vl aV;clear m1 m2 bA bB bC bD aW aV;have aZ:w.heap.size+2<=wr.heap.size:=W.2.1.lt;refine wp_block ?_;apply wp_cut;intro a0 F;go_wp2_with (first|(go_at_call 215;refine aY.mono ?_;rintro e I ⟨rfl,a1,an⟩))
  apply F.out;clear F aY;obtain⟨d,a2,N,az,R,a3,ao,a4⟩:∃d,d=I.alloc (.cells #[iX B,iX x] 255)/\Rw d (w.heap.size+2) (w.heap.size+1) (slice P a.length Q) a o/\Hid (d.heap[I.heap.size]? =some (.cells #[iX B,iX x] 255))/\Hid (Keep wr.heap.size b wr d)/\I.heap.size+1<=d.heap.size/\RxAt d b s dv {r with at_:=j}/\wr.heap.size<=I.heap.size:=by
   have M:=E.out;have a5:=an.size;have bF:Rw I (w.heap.size+2) (w.heap.size+1) (slice P a.length Q) a o:=W.2.1.keep an (.inl (by omega)) (by omega);refine⟨_,rfl,bF.keep (kZ (b:=I.heap.size) _ _ lQ) (.inr rfl) (by omega),gX _ _,an.trans (kZ _ _ a5),by simp,RxAt.of_block a1 (lG _ _ _ (by omega)),a5⟩
  rw[<-a2];clear a2 a1 an;have M:=E.out;have a6:d.heap[w.heap.size]? =some (.cells #[slice none 0 0,bool false] 161):=(R.block _ (by omega) (by omega)).trans W.1.box;have C:Hid (d.heap[w.heap.size]? =some (.cells #[slice none 0 0,bool false] 161)/\Keep w.heap.size b w d):=⟨a6,W.1.keep.trans ⟨R.os,R.output,R.size,λk aS bG=>R.block k (by omega) bG⟩⟩
  clear a6 M;cases ok with
  |false=>
   have a7:=vl am.symm;obtain⟨y,X,Y,aa,z⟩:=jK w d b s dv {r with at_:=j} _ _ (slice none 0 0) false E C.1 ao C.2;have bH:d.cell? ⟨w.heap.size,0,none⟩=some (slice none 0 0):=by unfold cell?;rw[C.out.1];rfl
   have bI:d.cell? ⟨w.heap.size,1,none⟩=some (bool false):=by unfold cell?;rw[C.out.1];rfl
   have bJ:d.frozen? ⟨w.heap.size,0,none⟩=false:=by unfold frozen?;rw[C.out.1];rfl
   have bK:d.frozen? ⟨w.heap.size,1,none⟩=false:=by unfold frozen?;rw[C.out.1];rfl
   rw[a7.out];clear ao N a3 a4 aZ am a7;go_wp2;rw[<-X];refine gV (v:=tuple #[agg #[slice none 0 0,bool false],bool false]) (by simp[results,results208,go_sem,Y,aa]) rfl ?_;exact⟨z.2.1,none,0,0,false,j,rfl,z.1⟩
  |true=>
   have bL:=aX rfl;have S:=vl am;clear am aX;apply wp_cut;intro a0 F;go_wp2;apply F.out;clear F;obtain⟨a8,-,a9⟩:=N.cells;have ba:=a9 0;have bb:d.ownsRow (w.heap.size+2) 255 2 (slice P a.length Q) a.length (qM a):=N.own;have aA:w.heap.size+1<d.heap.size:=by omega
   have bc:=vl <| zM N.own N.blk (by decide);have c0:d.cell? ⟨I.heap.size,0,none⟩=some (iX B):=by unfold cell?;rw[az.out];rfl
   have c1:d.cell? ⟨I.heap.size,1,none⟩=some (iX x):=by unfold cell?;rw[az.out];rfl
   have aB:=vl N;have bd:=vl ao;clear a9 N ao;apply wp_cut;intro a0 F;go_wp2_with (first|(at_builtin;refine wpList_append_lies _ rfl _ _ 159 rfl (w.heap.size+2) 255 bl (agg #[iX 0,iX 0]) 2 16 underlying159 bm bn bo bp rfl (by decide) _ _ _ rfl (bb.alloc _) ⟨d.heap.size,0,none⟩ 1 1 [iX B,iX x] rfl rfl (news_of_block (cs:=#[iX B,iX x]) (t:=255) (fr:=(0,0)) (gX d _)) (by simp[Value.oneCell']) (by decide) (by unfold maxLen;omega) (by omega) (by simp;omega) _ rfl ?_;intro A cap w2 be aC bf bM;have aD:=aC.block (w.heap.size+1) (by simp;omega) bc;have bN:w2.cell? ⟨w.heap.size+1,0,none⟩=some (slice P a.length Q):=(gZ aD).trans ((gW _ _ _ aA).trans a8);have bO:w2.frozen? ⟨w.heap.size+1,0,none⟩=false:=(gY aD).trans ((frozen?_alloc_past _ _ _ aA).trans ba)))
   apply F.out;clear F;obtain⟨p,bg,ab⟩:∃p,p=w2.setCell ⟨w.heap.size+1,0,none⟩ (slice (qX A) (a.length+1) cap)/\Hid (Rw p (w.heap.size+2) (w.heap.size+1) (slice (qX A) (a.length+1) cap) (a++[(B,x)]) o/\KeepO (w.heap.size+1) (slice P a.length Q) (slice (qX A) (a.length+1) cap) d p):=⟨_,rfl,aB.app rfl be aC (by rcases bf with af|af;exact .inl af;right;rw[af];simp)⟩
   rw[<-bg];clear bg be aC bf bM aD bN bO bb bc aA c0 c1 a8 ba;have O:=vl <| ab.2.keep aB.own aB.lt;have J:Hid (RxAt p b s dv {r with at_:=j}/\p.heap[w.heap.size]? =some (.cells #[slice none 0 0,bool false] 161)/\Keep w.heap.size b w p/\w.heap.size+2<=p.heap.size):=by
    have M:=E.out;refine⟨RxAt.of_block bd (O.block b (by omega) (by omega)),(O.block _ (by omega) (by omega)).trans C.1,C.2.trans ⟨O.os,O.output,O.size,λk aS _=>O.block k (by omega) (by omega)⟩,ab.1.lt⟩
   clear bd C R az a3 a4 aZ;cases T:zJ s j ⟨#[93]⟩ with
   |true=>
    rw[T] at S;have ap:=vl S.symm;have aE:Hid (Ca 189 #[pX b,string ⟨#[93]⟩] p λe w'=>e=returned (bool true)/\RxAt w' b s dv {r with at_:=j+1}/\∀H,Keep H b p w'):=by
     have:=zAn p b s dv {r with at_:=j} J.1 ae (by show j<=_;omega) ⟨#[93]⟩ (by decide);rw[zHN] at this;have aF:zJ s ({r with at_:=j}:Rx).at_ ⟨#[93]⟩=true:=T;rw[aF] at this;exact this
    rw[ap.out];clear T S ap;have bh:=J.2.2.2;have bP:Hid (∀l,(∀H,Keep H b p l)->RxAt l b s dv {r with at_:=j+1}->l.cell? ⟨w.heap.size+1,0,none⟩=some (slice (qX A) (a.length+1) cap)/\l.cell? ⟨w.heap.size+1,1,none⟩=some (bool o)/\l.cell? ⟨w.heap.size,0,none⟩=some (slice none 0 0)/\l.cell? ⟨w.heap.size,1,none⟩=some (bool false)/\l.frozen? ⟨w.heap.size,0,none⟩=false/\l.frozen? ⟨w.heap.size,1,none⟩=false/\∃y,y=(l.setCell ⟨w.heap.size,0,none⟩ (slice (qX A) (a.length+1) cap)).setCell ⟨w.heap.size,1,none⟩ (bool o)/\y.cell? ⟨w.heap.size,0,none⟩=some (slice (qX A) (a.length+1) cap)/\y.cell? ⟨w.heap.size,1,none⟩=some (bool o)/\Hid (RxAt y b s dv {r with at_:=j+1}/\Keep w.heap.size b w y/\RangesIn (λi=>w.heap.size<=i) y (slice (qX A) (a.length+1) cap) (a++[(B,x)]))):=λl D ac=>by
     have M:=E.out;have aG:l.heap[w.heap.size]? =some (.cells #[slice none 0 0,bool false] 161):=((D (w.heap.size+1)).block _ (by omega) (by omega)).trans J.2.1;have bi:Rw l (w.heap.size+2) (w.heap.size+1) (slice (qX A) (a.length+1) cap) (a++[(B,x)]) o:=ab.1.keep (D _) (.inl (by omega)) (by omega);obtain⟨bj,bk,-⟩:=bi.cells;obtain⟨y,X,Y,aa,z⟩:=jK w l b s dv {r with at_:=j+1} _ _ (slice (qX A) (a.length+1) cap) o M aG ac (J.2.2.1.trans (D _));refine⟨bj,bk,?_,?_,?_,?_,y,X,Y,aa,z.1,z.2.1,z.2.2 _ (bi.in.mono λi _ x=>by omega)⟩
     all_goals first|(unfold cell?;rw[aG];rfl)|(unfold frozen?;rw[aG];rfl)
    clear bh ab O;go_wp2_with (first|(go_at_call 189;refine aE.mono ?_;rintro e l ⟨rfl,ac,D⟩;obtain⟨bj,bk,bH,bI,bJ,bK,y,X,Y,aa,z⟩:=bP l D ac))
    rw[<-X];refine gV (v:=tuple #[agg #[slice (qX A) (a.length+1) cap,bool o],bool true]) (by simp[results,results208,go_sem,Y,aa]) rfl ?_;exact⟨z.2.1,_,rfl,z.2.2,z.1⟩
   |false=>
    rw[T] at S;have ap:=vl S;have aE:Hid (Ca 189 #[pX b,string ⟨#[93]⟩] p λe w'=>e=returned (bool false)/\RxAt w' b s dv {r with at_:=j}/\∀H,Keep H b p w'):=by
     have:=zAn p b s dv {r with at_:=j} J.1 ae (by show j<=_;omega) ⟨#[93]⟩ (by decide);rw[zHN] at this;have aF:zJ s ({r with at_:=j}:Rx).at_ ⟨#[93]⟩=false:=T;rw[aF] at this;exact this
    clear T S;go_wp2_with (first|(go_at_call 189;refine aE.mono ?_;rintro e l ⟨rfl,ac,D⟩))
    have M:=E.out;have bh:=J.2.2.2;go_roundg f
    case measure=>rw[W.out.2.2];omega
    case rel=>exact⟨f,j,a++[(B,x)],rfl,bL.2,by omega,ap,⟨⟨_,ab.1.keep (D _) (.inl (by omega)) (by omega)⟩,((D (w.heap.size+1)).block _ (by omega) (by omega)).trans J.2.1,ac,J.2.2.1.trans (D _)⟩,by simp;omega⟩
section
theorem TreeAt.deeper {w:World}:∀d b t,TreeAt w d b t->TreeAt w (d+1) b t
 |0,_,_,a=>False.elim a
 |d+1,b,t,a=>by
  obtain⟨c,rv,f,j,k,ao,cap,l,m,q,r⟩:=a;refine⟨c,rv,f,j,k,ao,cap,l,m,q,λi s=>?_⟩;obtain⟨g,o,p,v,x,y,z⟩:=r i s;exact⟨g,o,p,v,x,y,TreeAt.deeper d p _ z⟩
theorem TreeAt.deep {w:World}{d e b:Nat}{t:Tr}(a:TreeAt w d b t)(c:d<=e):TreeAt w e b t:=by
 induction c with
 |refl=>exact a
 |step _ f=>exact TreeAt.deeper _ _ _ f
def TreeIn (X:Nat->Prop)(w:World)(d b:Nat)(t:Tr):Prop:=∀w2,Agree X w w2->TreeAt w2 d b t
section
variable {X Y:Nat->Prop} {w w2:World} {d e b:Nat} {t:Tr}
theorem TreeIn.at (a:TreeIn X w d b t):TreeAt w d b t:=a w (Agree.refl X w)
theorem TreeIn.go (c:TreeIn X w d b t)(a:Agree X w w2):TreeIn X w2 d b t:=λf g=>c f (a.trans g)
theorem TreeIn.mono (a:TreeIn X w d b t)(c:∀i,i<w.heap.size->X i->Y i):TreeIn Y w d b t:=λf g=>a f (g.mono c)
theorem TreeIn.deep (a:TreeIn X w d b t)(c:d<=e):TreeIn X w e b t:=λf g=>(a f g).deep c
theorem TreeIn.step (j:TreeIn X w d b t)(a:Agree X w w2)(k:∀i,i<w.heap.size->X i->Y i):TreeIn Y w2 d b t:=λl c=>j l ⟨c.os.trans a.os,c.output.trans a.output,lY a.size c.size,λi f g=>(c.block i (lZ f a.size) (k i f g)).trans (a.block i f g)⟩
theorem zLY {rv:Value}{ao:Option Addr}{cap:Nat}(c:w.heap[b]? =some (.cells #[iX (t.kind:Int),rv,bool t.set.others,slice ao t.parts.length cap,iX (t.least:Int),iX (t.most:Int),bool t.endless,iX (t.chars:Int)] 165))(j:X b)(k:RangesIn X w rv t.set.ranges)
  (l:t.parts.length<=cap/\t.parts.length<=1000000000000/\t.least<=1000/\t.most<=1000) (m:cap<=maxLen) (q:∀i,i<t.parts.length->∃g o p,ao=some ⟨g,o,none⟩/\In w g/\X g/\w.cell? ⟨g,o+i,none⟩=some (pX p)/\TreeIn X w d p (t.parts.getD i Tr.none)):TreeIn X w (d+1) b t:=λw2 a=>by
 have f:=(kQ.1 c).1;refine⟨lZ f a.size,rv,_,(a.block b f j).trans c,k w2 a,ao,cap,rfl,l,m,λi r=>?_⟩;obtain⟨g,o,p,s,h,v,x,y⟩:=q i r;exact⟨g,o,p,s,lZ h a.size,(gZ (a.block g h v)).trans x,y w2 a⟩
theorem zIm {rv:Value}{t:Tr}(c:w.heap[b]? =some (.cells #[iX (t.kind:Int),rv,bool t.set.others,slice none 0 0,iX (t.least:Int),iX (t.most:Int),bool t.endless,iX (t.chars:Int)] 165))(f:X b)(g:RangesIn X w rv t.set.ranges)(h:t.parts=[])(a:t.least<=1000/\t.most<=1000):TreeIn X w (d+1) b t:=by
 have e:t.parts.length=0:=by rw[h];rfl
 refine zLY (ao:=none) (cap:=0) (by rw[e];exact c) f g ⟨by omega,by omega,a.1,a.2⟩ (by unfold maxLen;omega) λi j=>by omega
theorem zJ4 (a:w.heap[b]? =some (.cells #[iX 0,slice none 0 0,bool false,slice none 0 0,iX 0,iX 0,bool false,iX 0] 165))(c:X b):TreeIn X w (d+1) b Tr.none:=zIm (t:=Tr.none) a c (zK5 X w) rfl ⟨by decide,by decide⟩
end
def zH7 (c:Cs):Tr:=⟨1,c,[],0,0,false,1⟩
def Tr.add (t u:Tr):Tr:={t with parts:=t.parts++[u],chars:=xY (t.chars+u.chars)}
def Tr.plain (t:Tr):Tr:=if t.chars=0 then Tr.none else t
def yI (ps:List Nat):List Value:=ps.map λp=>pointer (some ⟨p,0,none⟩)
structure Tw (w:World)(Y:Nat->Prop)(H p d:Nat)(sv:Value)(ps:List Nat)(t:Tr):Prop where
 blk:w.heap[p]? =some (.cells #[int i64 (t.kind:Int),slice none 0 0,bool false,sv,int i64 (t.least:Int),int i64 (t.most:Int),bool t.endless,int i64 (t.chars:Int)] 165)
 set:t.set=⟨[],false⟩
 own:w.ownsRow H 158 1 sv t.parts.length (yI ps)
 len:ps.length=t.parts.length
 parts:∀i,i<t.parts.length->TreeIn (λj=>Y j/\j≠p/\some j≠sv.ownBlock) w d (ps.getD i 0) (t.parts.getD i Tr.none)
 pH:p<H
 lt:H<=w.heap.size
 small:t.parts.length<=10000000/\t.least<=1000/\t.most<=1000/\t.chars<=25
section
variable {w w2:World} {Y:Nat->Prop} {H p d e b:Nat} {sv:Value} {ps:List Nat} {t u:Tr}
theorem Tw.cells (a:Tw w Y H p d sv ps t):w.cell? ⟨p,3,none⟩=some sv/\w.cell? ⟨p,7,none⟩=some (iX (t.chars:Int))/\∀i,w.frozen? ⟨p,i,none⟩=false:=by
 refine⟨?_,?_,λi=>?_⟩
 all_goals first|(unfold cell?;rw[a.blk];rfl)|(unfold frozen?;rw[a.blk];simp)
theorem Tw.deep (a:Tw w Y H p d sv ps t)(c:d<=e):Tw w Y H p e sv ps t:=⟨a.blk,a.set,a.own,a.len,λi f=>(a.parts i f).deep c,a.pH,a.lt,a.small⟩
theorem Tw.keep (a:Tw w Y H p d sv ps t)(c:Keep w.heap.size b w w2)(v:b<H\/b=w.heap.size)(f:b≠p)(k:b<w.heap.size->¬Y b):Tw w2 Y H p d sv ps t:=by
 have l:=a.pH;have m:=a.lt;refine⟨(c.block p (by omega) (Ne.symm f)).trans a.blk,a.set,zD a.own λg x o _=>c.block g o (by omega),a.len,λi q=>(a.parts i q).go (c.agree λj r s=>⟨r,λe=>k (by omega) (e ▸ s.1)⟩),l,lY m c.size,a.small⟩
theorem Tw.in (a:Tw w Y H p d sv ps t)(o:Y p)(A:∀j,H<=j->Y j):TreeIn Y w (d+1) p t:=by
 obtain⟨ao,cap,B⟩:=zE a.own;subst B;have c:=a.blk;have q:t.set.ranges=[]:=by rw[a.set]
 have r:t.set.others=false:=by rw[a.set]
 obtain⟨K,s,v,-⟩:=a.small;rcases a.own.2 with⟨f,k⟩|⟨g,L,M,f,C,N,D,E,O,P⟩
 ·injection f with l F m
  subst l m;have G:=List.length_eq_zero_iff.1 k;refine zIm (rv:=slice none 0 0) (by rw[r,<-k];rw[k] at c ⊢;exact c) o (by rw[q];exact zK5 Y w) G ⟨s,v⟩
 ·injection f with l F m
  subst l m;refine zLY (rv:=slice none 0 0) (by rw[r];exact c) o (by rw[q];exact zK5 Y w) ⟨D,by omega,s,v⟩ E λi x=>?_;have I:=a.own.lt g rfl;refine⟨g,0,ps.getD i 0,rfl,I.2,A g C,?_,(a.parts i x).mono λj _ J=>J.1⟩;have y:i<ps.length:=by rw[a.len];exact x
  have z:=a.own.cells (g:=g) rfl i (pointer (some ⟨ps.getD i 0,0,none⟩)) (by unfold yI;rw[gQ,lV y,lW,lV y];rfl);rw[Addr.add_lit] at z;exact z
theorem Tw.setChars (a:Tw w Y H p d sv ps t)(n:Nat)(f:n<=25):Tw (w.setCell ⟨p,7,none⟩ (iX (n:Int))) Y H p d sv ps {t with chars:=n}:=by
 have c:=a.pH;refine⟨?_,a.set,xG a.own c,a.len,λi g=>(a.parts i g).go ⟨rfl,rfl,by rw[zC];omega,λj l k=>lJ _ _ _ _ k.2.1⟩,c,by rw[zC];exact a.lt,⟨a.small.1,a.small.2.1,a.small.2.2.1,f⟩⟩;simp[setCell,lU,a.blk]
theorem Tw.app {F:Obj}{g cap m q:Nat}(f:Tw w Y H p d sv ps t)(G:m=t.parts.length)(Q:m<10000000)(I:TreeIn (λj=>Y j/\j≠p/\some j≠sv.ownBlock) w d q u)(J:w2.ownsRow H 158 1 (slice (qX g) (m+1) cap) (m+1) (yI ps++[pX q]))(s:(w.alloc F).grownBy w2 sv.ownBlock)(K:sv.ownBlock=some g\/w.heap.size<=g):
  Tw (w2.setCell ⟨p,3,none⟩ (slice (qX g) (m+1) cap)) Y H p d (slice (qX g) (m+1) cap) (ps++[q]) {t with parts:=t.parts++[u]}/\KeepO p sv (slice (qX g) (m+1) cap) w (w2.setCell ⟨p,3,none⟩ (slice (qX g) (m+1) cap)):=by
 subst G;have y:=f.pH;have R:=f.lt;have L:∀j,j<H->w2.heap[j]? =w.heap[j]? :=λj S=>(s.block j (by simp;omega) λe=>by have:=(f.own.lt j e.symm).1;omega).trans (lG _ _ _ (by omega));have M:=(L p y).trans f.blk;have N:w.heap.size<=w2.heap.size:=lY (by simp) s.size;have r:KeepO p sv (slice (qX g) (t.parts.length+1) cap) w (w2.setCell ⟨p,3,none⟩ (slice (qX g) (t.parts.length+1) cap)):=⟨s.os,s.output,by rw[zC];exact N,λk O z C=>⟨(lJ _ _ _ _ z).trans ((s.block k (by simp;omega) C).trans (lG _ _ _ O)),λe=>by
  have l:k=g:=by simpa[Value.ownBlock] using e
  rcases K with D|D
  ·exact C (by rw[D,l])
  ·omega⟩⟩
 have E:∀q2 A,TreeIn (λj=>Y j/\j≠p/\some j≠sv.ownBlock) w d q2 A->TreeIn (λj=>Y j/\j≠p/\some j≠(Value.slice (qX g) (t.parts.length+1) cap).ownBlock) (w2.setCell ⟨p,3,none⟩ (slice (qX g) (t.parts.length+1) cap)) d q2 A:=λq2 A z=>z.step ⟨r.os,r.output,r.size,λi v o=>(r.block i v o.2.1 o.2.2).1⟩ λi v o=>⟨o.1,o.2.1,(r.block i v o.2.1 o.2.2).2⟩
 refine⟨⟨?_,f.set,?_,?_,λi v=>?_,y,by rw[zC];omega,?_⟩,r⟩
 ·simp[setCell,lU,M]
 ·have x:({t with parts:=t.parts++[u]}:Tr).parts.length=t.parts.length+1:=by simp
  have l:yI (ps++[q])=yI ps++[pX q]:=by simp[yI]
  rw[x,l];exact xG J y
 ·simp[f.len]
 ·have T:i<t.parts.length+1:=by simpa using v
  show TreeIn _ _ d ((ps++[q]).getD i 0) ((t.parts++[u]).getD i Tr.none);by_cases B:i<t.parts.length
  ·have x:(ps++[q]).getD i 0=ps.getD i 0:=by rw[lW,lW,kW (by rw[f.len];exact B)]
   have l:(t.parts++[u]).getD i Tr.none=t.parts.getD i Tr.none:=by rw[lW,lW,kW B]
   rw[x,l];exact E _ _ (f.parts i B)
  ·have e:i=t.parts.length:=by omega
   subst e;have x:(ps++[q]).getD t.parts.length 0=q:=by rw[<-f.len];simp
   have l:(t.parts++[u]).getD t.parts.length Tr.none=u:=by simp
   rw[x,l];exact E _ _ I
 ·obtain⟨a,b,c,P⟩:=f.small
  refine⟨?_,b,c,P⟩;show(t.parts++[u]).length<=10000000;simp;omega
end
end
end Go.Proofs.YtbjcfkdnjaiclaaGreat
