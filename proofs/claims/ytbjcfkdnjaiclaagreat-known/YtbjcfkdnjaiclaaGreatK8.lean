import Derived.Test.YtbjcfkdnjaiclaaGreatK0
import Derived.Test.YtbjcfkdnjaiclaaGreatK7
/- Parts of the proof. -/
set_option linter.unusedVariables false
set_option linter.unusedSimpArgs false
set_option maxHeartbeats 4000000
set_option maxRecDepth 100000
namespace Go.Proofs.YtbjcfkdnjaiclaaGreat
open Go.RowKit Go.Proofs.Tryz Go.World
open Go.Value (int slice bool pointer string agg tuple)
open Go.IntKind (i64)
open Go.Ending (returned)
def vC (rules:List Nat)(set:Nat):Int:=if rules.findIdx (λr=>set&&&r != 0)<rules.length then(rules.findIdx (λr=>set&&&r != 0):Int) else -1
theorem zM3 (rules:List Nat)(set j:Nat)(a:j<rules.length)(b:set&&&rules.getD j 0≠0)(c:∀i,i<j->set&&&rules.getD i 0=0):vC rules set=j:=by
 have e:rules.findIdx (λr=>set&&&r != 0)=j:=by
  rw[List.findIdx_eq a];rw[lW,lV a] at b;refine⟨by simpa using b,λi d=>?_⟩;have:=c i d;rw[lW,lV (by omega)] at this;simpa using this
 unfold vC;rw[e,if_pos a]
theorem zKO (rules:List Nat)(set:Nat)(b:∀i,i<rules.length->set&&&rules.getD i 0=0):vC rules set=-1:=by
 have e:rules.findIdx (λr=>set&&&r != 0)=rules.length:=by
  rw[List.findIdx_eq_length];intro y c;obtain⟨i,a,rfl⟩:=List.getElem_of_mem c;have:=b i a;rw[lW,lV a] at this;simpa using this
 unfold vC;rw[e,if_neg (Nat.lt_irrefl _)]
theorem zI8 (rules:List Nat)(set:Nat):-1<=vC rules set/\vC rules set<rules.length:=by
 unfold vC;split <;> omega
theorem zBo (w:World)(p q:Nat)(rv:Value)(rules:List Nat)(K:w.cell? ⟨p,0,none⟩=some (pX q))(L:w.cell? ⟨q,4,none⟩=some rv)(v:Ints w (In w) rv (rules.map λ(x:Nat)=>(x:Int)))(M:rules.length<=8)(y:∀r∈rules,r<16777216)(set:Nat)(N:set<16777216):
  Calls prog 93 #[pX p,iX set] w λe w'=>e=returned (iX (vC rules set))/\w'=w:=by
 obtain⟨z,O,m,_,_,A⟩:=v;rw[kV] at m;subst m;have B:Hid (∀i,i<rules.length->∃b o,z=some ⟨b,o,none⟩/\cX w b (o+i)=some (iX ((rules.getD i 0:Nat):Int))/\rules.getD i 0<16777216):=by
  intro i a;obtain⟨b,o,C,_,s⟩:=A i (by rw[kV];exact a);refine⟨b,o,C,?_,y _ (zS _ i 0 a)⟩;rw[lW,gZ,lV a] at s;rw[lW,lV a];exact s
 have D:Hid (∀j,j<rules.length->set&&&rules.getD j 0≠0->(∀i,i<j->set&&&rules.getD i 0=0)->vC rules set=j):=λj=>zM3 rules set j;have E:=vl <| zKO rules set;go_in;go_wp2;go_loopg [15] rules.length (λk i wr=>∃j:Nat,k=rules.length-j/\j<=rules.length/\i=iX (j:Int)/\(∀i,i<j->set&&&rules.getD i 0=0)/\wr=w)
 case atStart=>exact⟨0,rfl,lX,rfl,λi a=>by omega,rfl⟩
 case round=>
  obtain⟨j,F,P,rfl,t,G⟩:=hrel;subst G;have f:Hid (gk=rules.length-j/\∀i,i<j->set&&&rules.getD i 0=0):=⟨F,t⟩
  by_cases u:j<rules.length
  ·have H:(j:Int)<(rules.length:Int):=by omega
   obtain⟨b,o,rfl,Q,R⟩:=B j u;have I:Hid (set&&&rules.getD j 0≠0->vC rules set=j):=λg=>D j u g f.2;have J:Hid (set&&&rules.getD j 0=0->∀i,i<j+1->set&&&rules.getD i 0=0):=λg i a=>by
    by_cases e:i=j
    ·rw[e];exact g
    ·exact f.2 i (by omega)
   generalize rules.getD j 0=r at *;have l:bits .and i64 (set:Int) (r:Int)=((set&&&r:Nat):Int):=qE _ _ (by omega) (by omega);by_cases d:set&&&r=0
   ·have c:=vl <| J d
    rw[d] at l;have S:=l;go_wp2;go_roundg (rules.length-(j+1))
    case measure=>rw[f.out.1];omega
    case rel=>exact⟨j+1,rfl,by omega,by go_num,c,rfl⟩
   ·have c:=vl <| I d
    have T:((bits .and i64 (set:Int) (r:Int)) != 0)=true:=by rw[l];simp;exact d
    go_wp2;go_ret;exact⟨by rw[c.out];rfl,rfl⟩
  ·have H:(rules.length:Int)<=(j:Int):=by omega
   have c:=vl <| E λi a=>t i (by omega);go_wp2;go_ret;exact⟨by rw[c.out];rfl,rfl⟩
def xJ (rules:List Nat)(a b tail:Nat):Bool:=a&&&tail != b&&&tail&&(vC rules (a&&&tail) != vC rules (b&&&tail))
theorem zHj (w:World)(p q:Nat)(rv:Value)(rules:List Nat)(f:w.cell? ⟨p,0,none⟩=some (pX q))(g:w.cell? ⟨q,4,none⟩=some rv)(h:Ints w (In w) rv (rules.map λ(x:Nat)=>(x:Int)))(i:rules.length<=8)(j:∀r∈rules,r<16777216)(a b tail:Nat)(l:a<16777216)(m:b<16777216)(A:tail<16777216):
  Calls prog 174 #[pX p,iX a,iX b,iX tail] w λe w'=>e=returned (bool (xJ rules a b tail))/\Grew w w':=by
 have B:bits .and i64 (a:Int) (tail:Int)=((a&&&tail:Nat):Int):=qE _ _ (by omega) (by omega);have C:bits .and i64 (b:Int) (tail:Int)=((b&&&tail:Nat):Int):=qE _ _ (by omega) (by omega);have o:a&&&tail<16777216:=Nat.lt_of_le_of_lt Nat.and_le_left l;have s:b&&&tail<16777216:=Nat.lt_of_le_of_lt Nat.and_le_left m;have k:Hid (xJ rules a b tail=(a&&&tail != b&&&tail&&(vC rules (a&&&tail) != vC rules (b&&&tail)))):=rfl;have t:=vl <| zBo w p q rv rules f g h i j _ o;have u:=vl <| zBo w p q rv rules f g h i j _ s;generalize a&&&tail=x at *;generalize b&&&tail=y at *;by_cases c:x=y
 ·have d:Hid (xJ rules a b tail=false):=by show _=_;rw[k.out,c];simp
  have v:((x:Int)==(y:Int))=true:=by simp[c]
  go_in;go_wp2;go_ret;exact⟨by rw[d.out];rfl,⟨rfl,rfl,lQ,λ_ _ _=>rfl⟩⟩
 ·have d:Hid (xJ rules a b tail=(vC rules x != vC rules y)):=by
   show _=_;rw[k.out,show(x != y)=true by simp[c]];rfl
  have v:((x:Int)==(y:Int))=false:=by simp;omega
  generalize vC rules x=D at *;generalize vC rules y=E at *;go_in;go_wp2_with (first|(go_at_call 93;first|(have m2:=z;refine u.mono ?_;rintro e F ⟨rfl,rfl⟩)|(refine t.mono ?_;rintro e w2 ⟨rfl,rfl⟩;have z:True:=trivial)))
  go_ret;exact⟨by rw[d.out];rfl,⟨rfl,rfl,lQ,λ_ _ _=>rfl⟩⟩
structure So (w:World)(p q:Nat)(rv:Value)(rules:List Nat):Prop where
 net:w.cell? ⟨p,0,none⟩=some (pointer (some ⟨q,0,none⟩))
 rcell:w.cell? ⟨q,4,none⟩=some rv
 at_:Ints w (In w) rv (rules.map λ(x:Nat)=>(x:Int))
 eight:rules.length<=8
 small:∀r∈rules,r<16777216
 lp:p<w.heap.size
 lq:q<w.heap.size
theorem So.grown {w w':World}{p q:Nat}{rv:Value}{rules:List Nat}(a:So w p q rv rules)(b:Grew w w'):So w' p q rv rules:=
 ⟨zA a.net a.lp b,zA a.rcell a.lq b,a.at_.grown b,a.eight,a.small,lZ a.lp b.size,lZ a.lq b.size⟩
theorem So.differ {w:World}{p q:Nat}{rv:Value}{rules:List Nat}(c:So w p q rv rules)(a b tail:Nat)(d:a<16777216)(f:b<16777216)(g:tail<16777216):
  Calls prog 174 #[pX p,iX a,iX b,iX tail] w λe w'=>e=returned (bool (xJ rules a b tail))/\Grew w w':=zHj w p q rv rules c.net c.rcell c.at_ c.eight c.small a b tail d f g
def jS (rules marks:List Nat)(a b:Nat):Bool:=!(marks.any λt=>xJ rules a b t)
theorem zDC (w:World)(p q:Nat)(rv v:Value)(rules marks:List Nat)(E:So w p q rv rules)(ad:w.cell? ⟨p,7,none⟩=some v)(F:Ints w (In w) v (marks.map λ(x:Nat)=>(x:Int)))(ae:marks.length<=1000000000000)(G:∀r∈marks,r<16777216)(a b:Nat)(H:a<16777216)(I:b<16777216):
  Calls prog 173 #[pX p,iX a,iX b] w λe w'=>e=returned (bool (jS rules marks a b))/\Grew w w':=by
 obtain⟨J,af,y,_,_,K⟩:=F;rw[kV] at y;subst y;have L:Hid (∀i,i<marks.length->∃b o,J=some ⟨b,o,none⟩/\In w b/\cX w b (o+i)=some (iX ((marks.getD i 0:Nat):Int))/\marks.getD i 0<16777216):=by
  intro i c;obtain⟨b,o,M,N,z⟩:=K i (by rw[kV];exact c);refine⟨b,o,M,N,?_,G _ (zS _ i 0 c)⟩;rw[lW,gZ,lV c] at z;rw[lW,lV c];exact z
 have O:=vl E;have P:Hid (∀j,j<marks.length->xJ rules a b (marks.getD j 0)=true->jS rules marks a b=false):=λj A f=>by
  show(!_)=false;rw[zMH marks _ 0 j A f];rfl
 have Q:Hid ((∀i,i<marks.length->xJ rules a b (marks.getD i 0)=false)->jS rules marks a b=true):=λf=>by
  show(!_)=true;rw[zIK marks _ 0 f];rfl
 go_in;go_wp2;go_loopg [14] marks.length (λk i wr=>∃j:Nat,k=marks.length-j/\j<=marks.length/\i=iX (j:Int)/\(∀i,i<j->xJ rules a b (marks.getD i 0)=false)/\Grew w wr)
 case atStart=>exact⟨0,rfl,lX,rfl,λi c=>by omega,⟨rfl,rfl,lQ,λ_ _ _=>rfl⟩⟩
 case round=>
  obtain⟨j,R,A,rfl,B,C⟩:=hrel;have d:Hid (gk=marks.length-j/\(∀i,i<j->xJ rules a b (marks.getD i 0)=false)/\Grew w wr):=⟨R,B,C⟩
  by_cases D:j<marks.length
  ·have S:(j:Int)<(marks.length:Int):=by omega
   obtain⟨ag,ah,rfl,T,U,V⟩:=L j D;have ai:=zA U T C;have W:=vl <| P j D;have X:Hid (xJ rules a b (marks.getD j 0)=false->∀i,i<j+1->xJ rules a b (marks.getD i 0)=false):=λf i c=>by
    by_cases e:i=j
    ·rw[e];exact f
    ·exact d.2.1 i (by omega)
   have Y:Hid (∀t:Nat,t<16777216->Ca 174 #[pX p,iX a,iX b,iX t] wr λe w'=>e=returned (bool (xJ rules a b t))/\Grew w w'):=λt aa=>by
    refine((O.grown d.2.2).differ a b t H I aa).mono ?_;rintro e w2 ⟨rfl,ab⟩;exact⟨rfl,d.2.2.trans (ab.lower d.2.2.size d.2.2.size)⟩
   generalize marks.getD j 0=r at *;have l:=Y r V;cases m:xJ rules a b r with
   |false=>
    rw[m] at l;have g:=vl <| X m;have s:=vl l;go_wp2_with (first|(go_at_call 174;refine s.mono ?_;rintro e ac ⟨rfl,u⟩))
    go_roundg (marks.length-(j+1))
    case measure=>rw[d.out.1];omega
    case rel=>exact⟨j+1,rfl,by omega,by go_num,g,u⟩
   |true=>
    rw[m] at l;have g:=vl <| W m;have s:=vl l;go_wp2_with (first|(go_at_call 174;refine s.mono ?_;rintro e ac ⟨rfl,u⟩))
    go_ret;exact⟨by rw[g.out];rfl,u⟩
  ·have S:(marks.length:Int)<=(j:Int):=by omega
   have g:=vl <| Q λi c=>B i (by omega);go_wp2;go_ret;exact⟨by rw[g.out];rfl,d.2.2⟩
def I32s (w:World)(S:Nat->Prop)(v:Value)(l:List Nat):Prop:=
 ∃ao cap,v=slice ao l.length cap/\l.length<=cap/\cap<=maxLen/\∀i,i<l.length->∃b o,ao=some ⟨b,o,none⟩/\S b/\w.cell? ⟨b,o+i,none⟩=some (int .i32 ((l.getD i 0:Nat):Int))
theorem I32s.keep {w w':World}{S:Nat->Prop}{v:Value}{l:List Nat}(c:I32s w S v l)(e:∀b,S b->w'.heap[b]? =w.heap[b]?):I32s w' S v l:=by
 obtain⟨ao,cap,d,f,g,j⟩:=c;refine⟨ao,cap,d,f,g,λi k=>?_⟩;obtain⟨b,o,m,a,p⟩:=j i k;exact⟨b,o,m,a,(gW (e b a)).trans p⟩
theorem I32s.mono {w:World}{S a:Nat->Prop}{v:Value}{l:List Nat}(c:I32s w S v l)(e:∀b,S b->a b):I32s w a v l:=by
 obtain⟨ao,cap,d,f,g,j⟩:=c;refine⟨ao,cap,d,f,g,λi k=>?_⟩;obtain⟨b,o,m,p,q⟩:=j i k;exact⟨b,o,m,e b p,q⟩
def zAC (rules tails:List Nat)(a b:Nat):Int:=if a=b then -1 else if tails.findIdx (λt=>xJ rules a b t)<tails.length then(tails.getD (tails.findIdx λt=>xJ rules a b t) 0:Int) else -1
theorem zDe (l:List Nat)(p:Nat->Bool)(j:Nat)(a:j<l.length)(b:p (l.getD j 0)=true)(c:∀i,i<j->p (l.getD i 0)=false):l.findIdx p=j:=by
 rw[List.findIdx_eq a];rw[lW,lV a] at b;refine⟨by simpa using b,λi d=>?_⟩;have:=c i d;rw[lW,lV (by omega)] at this;simpa using this
theorem zBc (l:List Nat)(p:Nat->Bool)(b:∀i,i<l.length->p (l.getD i 0)=false):l.findIdx p=l.length:=by
 rw[List.findIdx_eq_length];intro y c;obtain⟨i,a,rfl⟩:=List.getElem_of_mem c;have:=b i a;rw[lW,lV a] at this;simpa using this
theorem zMW (rules tails:List Nat)(a b j:Nat)(d:a≠b)(c:j<tails.length)(e:xJ rules a b (tails.getD j 0)=true)(f:∀i,i<j->xJ rules a b (tails.getD i 0)=false):zAC rules tails a b=(tails.getD j 0:Nat):=by
 unfold zAC;rw[if_neg d,zDe tails _ j c e f,if_pos c]
theorem zKF (rules tails:List Nat)(a b:Nat)(c:∀i,i<tails.length->xJ rules a b (tails.getD i 0)=false):zAC rules tails a b=-1:=by
 unfold zAC;rw[zBc tails _ c,if_neg (Nat.lt_irrefl _)];split <;> rfl
theorem zI1 (rules tails:List Nat)(a b:Nat)(e:∀t∈tails,t<16777216):zAC rules tails a b=-1\/∃t:Nat,zAC rules tails a b=t/\t<16777216:=by
 unfold zAC;by_cases d:a=b
 ·rw[if_pos d];exact .inl rfl
 ·rw[if_neg d]
  by_cases c:tails.findIdx (λt=>xJ rules a b t)<tails.length
  ·rw[if_pos c]
   exact .inr ⟨_,rfl,e _ (zS _ _ 0 c)⟩
  ·rw[if_neg c];exact .inl rfl
theorem zCV (w:World)(p q:Nat)(rv x:Value)(rules marks:List Nat)(D:So w p q rv rules)(ae:w.cell? ⟨p,5,none⟩=some x)(E:I32s w (In w) x marks)(af:marks.length<=1000000000000)(F:∀r∈marks,r<16777216)(a b:Nat)(G:a<16777216)(H:b<16777216):
  Calls prog 131 #[pX p,iX a,iX b] w λe w'=>e=returned (iX (zAC rules marks a b))/\Grew w w':=by
 by_cases s:a=b
 ·have I:Hid (zAC rules marks a b=-1):=by unfold zAC;rw[if_pos s];exact rfl
  have y:((a:Int)==(b:Int))=true:=by simp[s]
  go_in;go_wp2;go_ret;exact⟨by rw[I.out];rfl,⟨rfl,rfl,lQ,λ_ _ _=>rfl⟩⟩
 have ag:((a:Int)==(b:Int))=false:=by simp;omega
 obtain⟨J,ah,rfl,_,_,K⟩:=E;have L:Hid (∀i,i<marks.length->∃b o,J=some ⟨b,o,none⟩/\In w b/\cX w b (o+i)=some (int .i32 ((marks.getD i 0:Nat):Int))/\marks.getD i 0<16777216):=by
  intro i f;obtain⟨b,o,M,N,O⟩:=K i f;exact⟨b,o,M,N,O,F _ (zS _ i 0 f)⟩
 have P:=vl D;have Q:Hid (∀j,j<marks.length->xJ rules a b (marks.getD j 0)=true->(∀i,i<j->xJ rules a b (marks.getD i 0)=false)->zAC rules marks a b=(marks.getD j 0:Nat)):=λj z d R=>zMW rules marks a b j s z d R;have S:Hid ((∀i,i<marks.length->xJ rules a b (marks.getD i 0)=false)->zAC rules marks a b=-1):=λd=>zKF rules marks a b d;go_in;go_wp2;go_loopg [17] marks.length (λk i wr=>∃j:Nat,k=marks.length-j/\j<=marks.length/\i=iX (j:Int)/\(∀i,i<j->xJ rules a b (marks.getD i 0)=false)/\Grew w wr)
 case atStart=>exact⟨0,rfl,lX,rfl,λi f=>by omega,⟨rfl,rfl,lQ,λ_ _ _=>rfl⟩⟩
 case round=>
  obtain⟨j,T,z,rfl,A,B⟩:=hrel;have c:Hid (gk=marks.length-j/\(∀i,i<j->xJ rules a b (marks.getD i 0)=false)/\Grew w wr):=⟨T,A,B⟩
  by_cases C:j<marks.length
  ·have U:(j:Int)<(marks.length:Int):=by omega
   obtain⟨ai,aj,rfl,V,y,W⟩:=L j C;have ak:=zA y V B;have X:Hid (xJ rules a b (marks.getD j 0)=true->zAC rules marks a b=(marks.getD j 0:Nat)):=λd=>Q j C d c.2.1;have Y:Hid (xJ rules a b (marks.getD j 0)=false->∀i,i<j+1->xJ rules a b (marks.getD i 0)=false):=λd i f=>by
    by_cases e:i=j
    ·rw[e];exact d
    ·exact c.2.1 i (by omega)
   have aa:Hid (∀t:Nat,t<16777216->Ca 174 #[pX p,iX a,iX b,iX t] wr λe w'=>e=returned (bool (xJ rules a b t))/\Grew w w'):=λt ab=>by
    refine((P.grown c.2.2).differ a b t G H ab).mono ?_;rintro e w2 ⟨rfl,ac⟩;exact⟨rfl,c.2.2.trans (ac.lower c.2.2.size c.2.2.size)⟩
   generalize marks.getD j 0=r at *;have l:=aa r W;cases m:xJ rules a b r with
   |false=>
    rw[m] at l;have g:=vl <| Y m;have u:=vl l;go_wp2_with (first|(go_at_call 174;refine u.mono ?_;rintro e ad ⟨rfl,v⟩))
    go_roundg (marks.length-(j+1))
    case measure=>rw[c.out.1];omega
    case rel=>exact⟨j+1,rfl,by omega,by go_num,g,v⟩
   |true=>
    rw[m] at l;have g:=vl <| X m;have u:=vl l;go_wp2_with (first|(go_at_call 174;refine u.mono ?_;rintro e ad ⟨rfl,v⟩))
    go_ret;exact⟨by rw[g.out];rfl,v⟩
  ·have U:(marks.length:Int)<=(j:Int):=by omega
   have g:=vl <| S λi f=>A i (by omega);go_wp2;go_ret;exact⟨by rw[g.out];rfl,c.2.2⟩
def zAB (rules marks found:List Nat)(set:Nat):Nat:=found.findIdx λo=>jS rules marks set o
theorem zHz (rules marks found:List Nat)(set:Nat):zAB rules marks found set<=found.length:=List.findIdx_le_length
theorem zEH (w:World)(p q:Nat)(rv u z:Value)(rules marks found:List Nat)(A:So w p q rv rules)(I:w.cell? ⟨p,7,none⟩=some u)(J:Ints w (In w) u (marks.map λ(x:Nat)=>(x:Int)))(K:marks.length<=1000000000000)(L:∀r∈marks,r<16777216)(M:w.cell? ⟨p,6,none⟩=some z)(B:Ints w (In w) z (found.map λ(x:Nat)=>(x:Int)))(ak:found.length<=1000000000000)(N:∀r∈found,r<16777216)(a:Nat)(O:a<16777216):
  Calls prog 130 #[pX p,iX a] w λe w'=>e=returned (iX (zAB rules marks found a))/\Grew w w':=by
 have al:=B;obtain⟨P,am,C,_,_,Q⟩:=B;rw[kV] at C;subst C;have R:Hid (∀i,i<found.length->∃b o,P=some ⟨b,o,none⟩/\In w b/\cX w b (o+i)=some (iX ((found.getD i 0:Nat):Int))/\found.getD i 0<16777216):=by
  intro i c;obtain⟨b,o,S,T,D⟩:=Q i (by rw[kV];exact c);refine⟨b,o,S,T,?_,N _ (zS _ i 0 c)⟩;rw[lW,gZ,lV c] at D;rw[lW,lV c];exact D
 have E:=A.lp;have U:Hid (∀wr,Grew w wr->∀b:Nat,b<16777216->Ca 173 #[pX p,iX a,iX b] wr λe w'=>e=returned (bool (jS rules marks a b))/\Grew w w'):=λwr f b V=>by
  refine(zDC wr p q rv u rules marks (A.grown f) (zA I E f) (J.grown f) K L a b O V).mono ?_;rintro e w2 ⟨rfl,W⟩;exact⟨rfl,f.trans (W.lower f.size f.size)⟩
 have X:Hid (∀j,j<found.length->jS rules marks a (found.getD j 0)=true->(∀i,i<j->jS rules marks a (found.getD i 0)=false)->zAB rules marks found a=j):=λj F d Y=>zDe found _ j F d Y;have aa:Hid ((∀i,i<found.length->jS rules marks a (found.getD i 0)=false)->zAB rules marks found a=found.length):=λd=>zBc found _ d;go_in;go_wp2;go_loopg [12] found.length (λk i wr=>∃j:Nat,k=found.length-j/\j<=found.length/\i=iX (j:Int)/\(∀i,i<j->jS rules marks a (found.getD i 0)=false)/\Grew w wr)
 case atStart=>exact⟨0,rfl,lX,rfl,λi c=>by omega,⟨rfl,rfl,lQ,λ_ _ _=>rfl⟩⟩
 case round=>
  obtain⟨j,ab,F,rfl,G,l⟩:=hrel;have m:Hid (gk=found.length-j/\(∀i,i<j->jS rules marks a (found.getD i 0)=false)/\Grew w wr):=⟨ab,G,l⟩
  by_cases H:j<found.length
  ·have ac:(j:Int)<(found.length:Int):=by omega
   obtain⟨an,ao,rfl,ad,ae,af⟩:=R j H;have ap:=zA ae ad l;have ag:Hid (jS rules marks a (found.getD j 0)=true->zAB rules marks found a=j):=λd=>X j H d m.2.1;have ah:Hid (jS rules marks a (found.getD j 0)=false->∀i,i<j+1->jS rules marks a (found.getD i 0)=false):=λd i c=>by
    by_cases e:i=j
    ·rw[e];exact d
    ·exact m.2.1 i (by omega)
   have ai:=vl <| U wr l;generalize found.getD j 0=r at *;have s:=ai r af;cases t:jS rules marks a r with
   |false=>
    rw[t] at s;have g:=vl <| ah t;have v:=vl s;go_wp2_with (first|(go_at_call 173;refine v.mono ?_;rintro e aj ⟨rfl,y⟩))
    go_roundg (found.length-(j+1))
    case measure=>rw[m.out.1];omega
    case rel=>exact⟨j+1,rfl,by omega,by go_num,g,y⟩
   |true=>
    rw[t] at s;have g:=vl <| ag t;have v:=vl s;go_wp2_with (first|(go_at_call 173;refine v.mono ?_;rintro e aj ⟨rfl,y⟩))
    go_ret;exact⟨by rw[g.out];rfl,y⟩
  ·have ac:(found.length:Int)<=(j:Int):=by omega
   have aq:=zA M E l;have g:=vl <| aa λi c=>G i (by omega);go_wp2;go_ret;exact⟨by rw[g.out];rfl,m.2.2⟩
section
structure KeepX (X:Nat->Prop)(w w':World):Prop where
 os:w'.os=w.os
 output:w'.output=w.output
 size:w.heap.size<=w'.heap.size
 block:∀k,X k->w'.heap[k]? =w.heap[k]?
theorem KeepX.refl (X:Nat->Prop)(w:World):KeepX X w w:=⟨rfl,rfl,lQ,λ_ _=>rfl⟩
theorem KeepX.trans {X:Nat->Prop}{w w' c:World}(a:KeepX X w w')(b:KeepX X w' c):KeepX X w c:=⟨b.os.trans a.os,b.output.trans a.output,lY a.size b.size,λk e=>(b.block k e).trans (a.block k e)⟩
theorem KeepX.mono {X b:Nat->Prop}{w w':World}(a:KeepX X w w')(e:∀k,b k->X k):KeepX b w w':=⟨a.os,a.output,a.size,λk c=>a.block k (e k c)⟩
theorem Keep.kx {X:Nat->Prop}{H b:Nat}{w w':World}(a:Keep H b w w')(e:∀k,X k->k<H/\k≠b):KeepX X w w':=⟨a.os,a.output,a.size,λk c=>a.block k (e k c).1 (e k c).2⟩
def ints (l:List Nat):List Int:=l.map λ(x:Nat)=>(x:Int)
theorem zO (l:List Nat):(ints l).length=l.length:=kV ..
theorem zBa (l:List Nat)(x:Nat):ints (l++[x])=ints l++[(x:Int)]:=by simp[ints]
theorem vI (l:List Nat)(i:Nat):(ints l).getD i 0=(l.getD i 0:Nat):=by
 unfold ints;rw[lW,lW,gZ];cases l[i]? <;> rfl
structure Sq where
 rules:List Nat
 tails:List Nat
 sets:List Nat
 q:Nat
 f:Nat
 lv:Value
 tv:Value
 sv:Value
 tl:Value
 rv:Value
structure Sf where
 found:List Nat
 marks:List Nat
structure SoAt (w:World)(X:Nat->Prop)(p:Nat)(s:Sq)(d:Sf)(fv mv:Value):Prop where
 blk:w.heap[p]? =some (.cells #[pointer (some ⟨s.q,0,none⟩),s.lv,s.tv,s.sv,pointer (some ⟨s.f,0,none⟩),s.tl,fv,mv] 176)
 own1:OwnI w 0 fv (ints d.found)
 own2:OwnI w 0 mv (ints d.marks)
 ne:∀g,fv.ownBlock=some g->some g≠mv.ownBlock
 xf:∀g,X g->some g≠fv.ownBlock
 xm:∀g,X g->some g≠mv.ownBlock
 xp:¬X p
 xl:∀g,X g->g<w.heap.size
 lp:p<w.heap.size
 net:w.cell? ⟨s.q,4,none⟩=some s.rv
 xq:X s.q
 rls:Ints w X s.rv (ints s.rules)
 eight:s.rules.length<=8
 rsm:∀r∈s.rules,r<16777216
 tls:I32s w X s.tl s.tails
 tsm:∀t∈s.tails,t<16777216
 tlen:s.tails.length<=16777216
 sts:Ints w X s.sv (ints s.sets)
 ssm:∀t∈s.sets,t<16777216
 fsm:∀t∈d.found,t<16777216
 msm:∀t∈d.marks,t<16777216
def zOo (w:World)(X:Nat->Prop)(p:Nat)(s:Sq)(d:Sf):Prop:=∃fv mv,SoAt w X p s d fv mv
section
variable {w w2:World} {X:Nat->Prop} {p:Nat} {s:Sq} {d:Sf} {fv mv:Value}
theorem SoAt.grown (a:SoAt w X p s d fv mv)(c:Grew w w2):SoAt w2 X p s d fv mv:=by
 have e:∀b,X b->w2.heap[b]? =w.heap[b]? :=λb f=>c.block b (a.xl b f) (kJ (a.xl b f));exact⟨(c.block _ a.lp (kJ a.lp)).trans a.blk,zL a.own1 c,zL a.own2 c,a.ne,a.xf,a.xm,a.xp,λg i=>lZ (a.xl g i) c.size,lZ a.lp c.size,(gW (e _ a.xq)).trans a.net,a.xq,a.rls.keep e,a.eight,a.rsm,a.tls.keep e,a.tsm,a.tlen,a.sts.keep e,a.ssm,a.fsm,a.msm⟩
theorem SoAt.cells (a:SoAt w X p s d fv mv):w.cell? ⟨p,0,none⟩=some (pX s.q)/\w.cell? ⟨p,3,none⟩=some s.sv/\w.cell? ⟨p,4,none⟩=some (pX s.f)/\w.cell? ⟨p,5,none⟩=some s.tl/\w.cell? ⟨p,6,none⟩=some fv/\w.cell? ⟨p,7,none⟩=some mv/\∀i,w.frozen? ⟨p,i,none⟩=false:=by
 refine⟨?_,?_,?_,?_,?_,?_,λi=>?_⟩
 all_goals first|(unfold cell?;rw[a.blk];rfl)|(unfold frozen?;rw[a.blk];simp)
theorem SoAt.so (a:SoAt w X p s d fv mv):So w p s.q s.rv s.rules:=⟨a.cells.1,a.net,a.rls.mono a.xl,a.eight,a.rsm,a.lp,a.xl _ a.xq⟩
theorem SoAt.fewer {b:Nat->Prop}(a:SoAt w X p s d fv mv)(c:¬b p)(f:∀g,b g->g<w.heap.size)(i:∀g,b g->some g≠fv.ownBlock)(j:∀g,b g->some g≠mv.ownBlock)(e:∀g,X g->b g):SoAt w b p s d fv mv:=
 ⟨a.blk,a.own1,a.own2,a.ne,i,j,c,f,a.lp,a.net,e _ a.xq,a.rls.mono e,a.eight,a.rsm,a.tls.mono e,a.tsm,a.tlen,a.sts.mono e,a.ssm,a.fsm,a.msm⟩
theorem zCc {w:World}{b i a:Nat}{v x:Value}{l:List Int}{c:Array Value}(f:OwnI w 0 v l)(g:w.heap[b]? =some (.cells c a))(j:3≠a):OwnI (w.setCell ⟨b,i,none⟩ x) 0 v l:=
 zF f λk _ _ m=>lJ _ _ _ _ λe=>zN f g j (by rw[m];exact congrArg some (Eq.symm e))
theorem SoAt.found_app {o:Obj}{g cap n x:Nat}(a:SoAt w X p s d fv mv)(y:x<16777216)(z:n=d.found.length)(A:w2.ownsRow 0 3 1 (slice (qX g) (n+1) cap) (n+1) (((ints d.found).map λx=>iX x)++[iX (x:Int)]))(c:(w.alloc o).grownBy w2 fv.ownBlock)(m:fv.ownBlock=some g\/w.heap.size<=g):
  SoAt (w2.setCell ⟨p,6,none⟩ (slice (qX g) (n+1) cap)) X p s {d with found:=d.found++[x]} (slice (qX g) (n+1) cap) mv/\KeepX X w (w2.setCell ⟨p,6,none⟩ (slice (qX g) (n+1) cap)):=by
 subst z;have B:=a.lp;have C:=zN a.own1 a.blk (by decide);have q:∀j,j<w.heap.size->some j≠fv.ownBlock->w2.heap[j]? =w.heap[j]? :=λj J D=>(c.block j (by simp;omega) D).trans (lG _ _ _ (by omega));have f:=(q p B C).trans a.blk;have r:w.heap.size<=w2.heap.size:=lY (by simp) c.size;have E:∀k,X k->k≠p:=λk b e=>a.xp (e ▸ b);have e:∀k,X k->(w2.setCell ⟨p,6,none⟩ (slice (qX g) (d.found.length+1) cap)).heap[k]? =w.heap[k]? :=λk b=>(lJ _ _ _ _ (E k b)).trans (q k (a.xl k b) (a.xf k b));have F:OwnI w2 0 (slice (qX g) (d.found.length+1) cap) (ints (d.found++[x])):=by
  rw[zBa];have:=zO d.found;have u:=OwnI.snoc (l:=ints d.found) (x:=(x:Int)) (by rw[this];exact A);rw[this] at u;exact u
 have G:=zT c a.own2 (λg c e=>a.ne g e.symm c.symm);refine⟨⟨?_,zCc F f (by decide),zCc G f (by decide),qA a.own2 a.ne m,?_,a.xm,a.xp,λk b=>by rw[zC];exact lZ (a.xl k b) r,by rw[zC];omega,(gW (e _ a.xq)).trans a.net,a.xq,a.rls.keep e,a.eight,a.rsm,a.tls.keep e,a.tsm,a.tlen,a.sts.keep e,a.ssm,?_,a.msm⟩,⟨c.os,c.output,by rw[zC];exact r,e⟩⟩
 ·simp[setCell,lU,f]
 ·intro k b e
  have H:k=g:=by simpa[Value.ownBlock] using e
  subst H;rcases m with v|v
  ·exact a.xf k b v.symm
  ·have:=a.xl k b
   omega
 ·intro t I
  rcases kU.1 I with i|i
  ·exact a.fsm t i
  ·rw[kY.1 i];exact y
theorem SoAt.marks_app {o:Obj}{g cap n x:Nat}(a:SoAt w X p s d fv mv)(y:x<16777216)(z:n=d.marks.length)(A:w2.ownsRow 0 3 1 (slice (qX g) (n+1) cap) (n+1) (((ints d.marks).map λx=>iX x)++[iX (x:Int)]))(c:(w.alloc o).grownBy w2 mv.ownBlock)(m:mv.ownBlock=some g\/w.heap.size<=g):
  SoAt (w2.setCell ⟨p,7,none⟩ (slice (qX g) (n+1) cap)) X p s {d with marks:=d.marks++[x]} fv (slice (qX g) (n+1) cap)/\KeepX X w (w2.setCell ⟨p,7,none⟩ (slice (qX g) (n+1) cap)):=by
 subst z;have B:=a.lp;have C:=zN a.own2 a.blk (by decide);have q:∀j,j<w.heap.size->some j≠mv.ownBlock->w2.heap[j]? =w.heap[j]? :=λj J D=>(c.block j (by simp;omega) D).trans (lG _ _ _ (by omega));have f:=(q p B C).trans a.blk;have r:w.heap.size<=w2.heap.size:=lY (by simp) c.size;have E:∀k,X k->k≠p:=λk b e=>a.xp (e ▸ b);have e:∀k,X k->(w2.setCell ⟨p,7,none⟩ (slice (qX g) (d.marks.length+1) cap)).heap[k]? =w.heap[k]? :=λk b=>(lJ _ _ _ _ (E k b)).trans (q k (a.xl k b) (a.xm k b));have F:OwnI w2 0 (slice (qX g) (d.marks.length+1) cap) (ints (d.marks++[x])):=by
  rw[zBa];have:=zO d.marks;have u:=OwnI.snoc (l:=ints d.marks) (x:=(x:Int)) (by rw[this];exact A);rw[this] at u;exact u
 have G:=zT c a.own1 a.ne;refine⟨⟨?_,zCc G f (by decide),zCc F f (by decide),zCi (qA a.own1 (λg c e=>a.ne g e.symm c.symm) m),a.xf,?_,a.xp,λk b=>by rw[zC];exact lZ (a.xl k b) r,by rw[zC];omega,(gW (e _ a.xq)).trans a.net,a.xq,a.rls.keep e,a.eight,a.rsm,a.tls.keep e,a.tsm,a.tlen,a.sts.keep e,a.ssm,a.fsm,?_⟩,⟨c.os,c.output,by rw[zC];exact r,e⟩⟩
 ·simp[setCell,lU,f]
 ·intro k b e
  have H:k=g:=by simpa[Value.ownBlock] using e
  subst H;rcases m with v|v
  ·exact a.xm k b v.symm
  ·have:=a.xl k b
   omega
 ·intro t I
  rcases kU.1 I with i|i
  ·exact a.msm t i
  ·rw[kY.1 i];exact y
end
end
section
def Sq.look (s:Sq)(d:Sf)(x:Nat):Nat:=zAB s.rules d.marks d.found x
def Sq.tail (s:Sq)(d:Sf)(x:Nat):Int:=zAC s.rules s.tails x (d.found.getD (s.look d x) 0)
def Sq.kind (s:Sq)(d:Sf)(x:Nat):Nat:=if s.look d x<d.found.length then(if s.tail d x<0 then s.look d x else d.found.length) else d.found.length
def Sq.kindS (s:Sq)(d:Sf)(x:Nat):Sf:=if s.look d x<d.found.length then(if s.tail d x<0 then d else⟨d.found++[x],d.marks++[(s.tail d x).toNat]⟩) else⟨d.found++[x],d.marks⟩
theorem Sq.look_le (s:Sq)(d:Sf)(x:Nat):s.look d x<=d.found.length:=zHz _ _ _ _
section
variable {w:World} {X:Nat->Prop} {p:Nat} {s:Sq} {d:Sf} {fv mv:Value}
theorem SoAt.unmarked (a:SoAt w X p s d fv mv)(b:d.marks.length<=1000000000000)(c:d.found.length<=1000000000000)(x:Nat)(f:x<16777216):
  Calls prog 130 #[pX p,iX x] w λe w'=>e=returned (iX (s.look d x))/\Grew w w':=
 zEH w p s.q s.rv mv fv s.rules d.marks d.found a.so a.cells.2.2.2.2.2.1 (zAH a.own2) b a.msm a.cells.2.2.2.2.1 (zAH a.own1) c a.fsm x f
theorem SoAt.between (c:SoAt w X p s d fv mv)(a b:Nat)(f:a<16777216)(g:b<16777216):
  Calls prog 131 #[pX p,iX a,iX b] w λe w'=>e=returned (iX (zAC s.rules s.tails a b))/\Grew w w':=
 zCV w p s.q s.rv s.tl s.rules s.tails c.so c.cells.2.2.2.1 (c.tls.mono c.xl) (lY c.tlen (by omega)) c.tsm a b f g
end
theorem zG9 (w:World)(X:Nat->Prop)(p:Nat)(s:Sq)(d:Sf)(j:zOo w X p s d)(aB:d.marks.length<=100000000000)(aC:d.found.length<=100000000000)(x:Nat)(F:x<16777216):
  Calls prog 94 #[pX p,iX x] w λe w'=>e=returned (iX (s.kind d x))/\zOo w' X p s (s.kindS d x)/\KeepX X w w':=by
 obtain⟨J,K,L,M,N⟩:=info_parts yL;obtain⟨fv,mv,j⟩:=j;have O:=vl <| j.unmarked (by omega) (by omega) x F;obtain⟨B,q,Y⟩:=j.own1.form;rw[zO] at Y;obtain⟨C,D,aa⟩:=j.own2.form;rw[zO] at aa;subst Y aa;have f:Hid (∀w2,Grew w w2->SoAt w2 X p s d (slice B d.found.length q) (slice C d.marks.length D)):=λw2 i=>j.grown i;have P:Hid (∀w2,Grew w w2->KeepX X w w2):=λw2 i=>i.kx λk a=>⟨j.xl k a,kJ (j.xl k a)⟩
 have ak:Hid (∀w2,SoAt w2 X p s d (slice B d.found.length q) (slice C d.marks.length D)->w2.ownsRow 0 3 1 (slice B d.found.length q) d.found.length ((ints d.found).map λx=>iX x)):=λw2 Q=>by
  have:=Q.own1;unfold OwnI at this;rw[zO] at this;exact this
 have al:Hid (∀w2,SoAt w2 X p s d (slice B d.found.length q) (slice C d.marks.length D)->w2.ownsRow 0 3 1 (slice C d.marks.length D) d.marks.length ((ints d.marks).map λx=>iX x)):=λw2 Q=>by
  have:=Q.own2;unfold OwnI at this;rw[zO] at this;exact this
 have aD:=s.look_le d x;by_cases i:s.look d x<d.found.length
 ·have a:((s.look d x:Nat):Int)<(d.found.length:Int):=by omega
  have an:d.found.getD (s.look d x) 0<16777216:=j.fsm _ (zS _ _ 0 i);obtain⟨G,rfl⟩:=j.own1.some (by rw[zO];omega);have ab:Hid (∀w2,Grew w w2->cX w2 G (s.look d x)=some (iX ((d.found.getD (s.look d x) 0:Nat):Int))):=λw2 a=>by
   have:=(f w2 a).own1.cell (s.look d x) (by rw[zO];exact i);rw[vI] at this;exact this
  have R:Hid (∀w2,Grew w w2->Ca 131 #[pX p,iX (x:Int),iX ((d.found.getD (s.look d x) 0:Nat):Int)] w2 λe w'=>e=returned (iX (s.tail d x))/\Grew w w'):=λw2 a=>by
   refine((f w2 a).between x _ F an).mono ?_;rintro e b ⟨rfl,c⟩;exact⟨rfl,a.trans (c.lower a.size a.size)⟩
  have ao:Hid (s.tail d x=-1\/∃t:Nat,s.tail d x=t/\t<16777216):=zI1 s.rules s.tails x _ j.tsm;by_cases H:s.tail d x<0
  ·have r:Hid (s.kind d x=s.look d x/\s.kindS d x=d):=⟨by unfold Sq.kind;rw[if_pos i,if_pos H],by unfold Sq.kindS;rw[if_pos i,if_pos H]⟩
   generalize s.look d x=k at *;generalize d.found.getD k 0=y at *;generalize s.tail d x=t at *;go_in;go_wp2_with (first|(go_at_call 130;refine O.mono ?_;rintro e w2 ⟨rfl,a⟩;have S:=(f w2 a).cells.2.2.2.2.1;have ap:=ab w2 a)|(go_at_call 131;refine(R w2 a).mono ?_;rintro e b ⟨rfl,c⟩))
   go_ret;exact⟨by rw[r.out.1];rfl,by rw[r.out.2];exact⟨_,_,f _ c⟩,P _ c⟩
  ·obtain⟨t,ac,aq⟩:=ao.resolve_left (by omega)
   have r:Hid (s.kind d x=d.found.length/\s.kindS d x=⟨d.found++[x],d.marks++[t]⟩):=⟨by unfold Sq.kind;rw[if_pos i,if_neg H],by unfold Sq.kindS;rw[if_pos i,if_neg H,ac];rfl⟩
   rw[ac] at R;have aE:¬((t:Int)<0):=by omega
   generalize s.look d x=k at *;generalize d.found.getD k 0=y at *;go_in;go_wp2_with (first|(go_at_call 130;refine O.mono ?_;rintro e w2 ⟨rfl,a⟩;have S:=(f w2 a).cells.2.2.2.2.1;have ap:=ab w2 a)|(go_at_call 131;refine(R w2 a).mono ?_;rintro e b ⟨rfl,c⟩;have o:=vl <| f b c;have ar:=(f b c).cells.2.2.2.2.2.1;have T:=al b (f b c);have ad:=(f b c).lp)|(have m2:=au;at_builtin;refine wpList_append_lies _ rfl _ _ 45 rfl 0 3 J (iX 0) 1 8 underlying45 K L M N rfl (by decide) _ _ _ rfl (av.alloc _) ⟨g.heap.size,0,none⟩ 1 1 [iX (x:Int)] rfl rfl (zBg _ [iX (x:Int)] _ _ (zC _ _ _)) (by intro u v;simp at v;subst v;rfl) (by decide) (by unfold maxLen;omega) (by omega) (by simp[zC]) _ rfl ?_;intro ae ag I aw ah ax aF;have U:=l.1.found_app F rfl aw ah (by rcases ax with m|m;exact .inl m;right;rw[m];simp[zC]);have ai:I.heap[p]? =(g.setCell ⟨p,7,none⟩ (slice (qX z) (d.marks.length+1) cap)).heap[p]? :=(ah.block _ (by simp[zC];omega) (zN l.1.own1 l.1.blk (by decide))).trans (lG _ _ _ (by rw[zC];omega));have aG:cX I p 6=some (slice (qX G) d.found.length q):=(gW ai).trans aj;have aH:I.frozen? ⟨p,6,none⟩=false:=(gV ai).trans (l.1.cells.2.2.2.2.2.2 6);have aI:(I.setCell ⟨p,6,none⟩ (slice (qX ae) (d.found.length+1) ag)).cell? ⟨p,6,none⟩=some (slice (qX ae) (d.found.length+1) ag):=U.1.cells.2.2.2.2.1)|(at_builtin;refine wpList_append_lies _ rfl _ _ 45 rfl 0 3 J (iX 0) 1 8 underlying45 K L M N rfl (by decide) _ _ _ rfl (T.alloc _) ⟨b.heap.size,0,none⟩ 1 1 [iX (t:Int)] rfl rfl (cell_one_new _ _ _) (by intro u v;simp at v;subst v;rfl) (by decide) (by unfold maxLen;omega) (by omega) (by simp) _ rfl ?_;intro z cap g V A W ay;have au:True:=trivial;have l:=o.marks_app aq rfl V A (by rcases W with m|m;exact .inl m;right;rw[m];simp);have E:g.heap[p]? =b.heap[p]? :=(A.block _ (by simp;omega) (zN o.own2 o.blk (by decide))).trans (lG _ _ _ (by omega));have az:cX g p 7=some (slice C d.marks.length D):=(gW E).trans ar;have aA:g.frozen? ⟨p,7,none⟩=false:=(gV E).trans (o.cells.2.2.2.2.2.2 7);have aj:(g.setCell ⟨p,7,none⟩ (slice (qX z) (d.marks.length+1) cap)).cell? ⟨p,6,none⟩=some (slice (qX G) d.found.length q):=l.1.cells.2.2.2.2.1;have aJ:p<g.heap.size:=lZ ad (lY (by simp) A.size);have av:(g.setCell ⟨p,7,none⟩ (slice (qX z) (d.marks.length+1) cap)).ownsRow 0 3 1 (slice (qX G) d.found.length q) d.found.length ((ints d.found).map λx=>iX x):=(by have:=l.1.own1;unfold OwnI at this;rw[zO] at this;exact this)))
   go_ret;refine⟨?_,by rw[r.out.2];exact⟨_,_,U.1⟩,((P _ c).trans l.2).trans U.2⟩;rw[r.out.1]
   first|rfl|(simp;done)|(show _=_;congr 2;omega)
 ·have r:Hid (s.kind d x=d.found.length/\s.kindS d x=⟨d.found++[x],d.marks⟩):=⟨by unfold Sq.kind;rw[if_neg i],by unfold Sq.kindS;rw[if_neg i]⟩
  have a:¬(((s.look d x:Nat):Int)<(d.found.length:Int)):=by omega
  generalize s.look d x=k at *;go_in;go_wp2_with (first|(go_at_call 130;refine O.mono ?_;rintro e b ⟨rfl,c⟩;have o:=vl <| f b c;have S:=(f b c).cells.2.2.2.2.1;have T:=ak b (f b c);have ad:=(f b c).lp)|(at_builtin;refine wpList_append_lies _ rfl _ _ 45 rfl 0 3 J (iX 0) 1 8 underlying45 K L M N rfl (by decide) _ _ _ rfl (T.alloc _) ⟨b.heap.size,0,none⟩ 1 1 [iX (x:Int)] rfl rfl (cell_one_new _ _ _) (by intro u v;simp at v;subst v;rfl) (by decide) (by unfold maxLen;omega) (by omega) (by simp) _ rfl ?_;intro z cap g V A W ay;have l:=o.found_app F rfl V A (by rcases W with m|m;exact .inl m;right;rw[m];simp);have E:g.heap[p]? =b.heap[p]? :=(A.block _ (by simp;omega) (zN o.own1 o.blk (by decide))).trans (lG _ _ _ (by omega));have az:cX g p 6=some (slice B d.found.length q):=(gW E).trans S;have aA:g.frozen? ⟨p,6,none⟩=false:=(gV E).trans (o.cells.2.2.2.2.2.2 6);have aj:(g.setCell ⟨p,6,none⟩ (slice (qX z) (d.found.length+1) cap)).cell? ⟨p,6,none⟩=some (slice (qX z) (d.found.length+1) cap):=l.1.cells.2.2.2.2.1))
  go_ret;refine⟨?_,by rw[r.out.2];exact⟨_,_,l.1⟩,(P _ c).trans l.2⟩;rw[r.out.1]
  first|rfl|(simp;done)|(show _=_;congr 2;omega)
end
section
def SoY (w:World)(X Y:Nat->Prop)(p:Nat)(s:Sq)(d:Sf):Prop:=∃fv mv,SoAt w X p s d fv mv/\∀g,Y g->g<w.heap.size/\g≠p/\some g≠fv.ownBlock/\some g≠mv.ownBlock
section
variable {w w2:World} {X Y:Nat->Prop} {p:Nat} {s:Sq} {d:Sf} {fv mv:Value}
theorem SoAt.both (a:SoAt w X p s d fv mv)(b:∀g,Y g->g<w.heap.size/\g≠p/\some g≠fv.ownBlock/\some g≠mv.ownBlock):SoAt w (λg=>X g\/Y g) p s d fv mv:=
 a.fewer (λe=>e.elim a.xp λe=>(b p e).2.1 rfl) (λg e=>e.elim (a.xl g) λe=>(b g e).1) (λg e=>e.elim (a.xf g) λe=>(b g e).2.2.1) (λg e=>e.elim (a.xm g) λe=>(b g e).2.2.2) (λg e=>.inl e)
theorem SoY.call {i:Sf}(c:SoY w X Y p s d)(a:zOo w2 (λg=>X g\/Y g) p s i)(j:KeepX (λg=>X g\/Y g) w w2):SoY w2 X Y p s i:=by
 obtain⟨fv,mv,c,k⟩:=c;obtain⟨l,m,a⟩:=a;have e:∀b,X b->w2.heap[b]? =w.heap[b]? :=λb o=>j.block b (.inl o);refine⟨l,m,⟨a.blk,a.own1,a.own2,a.ne,λg f=>a.xf g (.inl f),λg f=>a.xm g (.inl f),c.xp,λg f=>a.xl g (.inl f),a.lp,(gW (e _ c.xq)).trans c.net,c.xq,c.rls.keep e,c.eight,c.rsm,c.tls.keep e,c.tsm,c.tlen,c.sts.keep e,c.ssm,a.fsm,a.msm⟩,λg f=>⟨a.xl g (.inr f),(k g f).2.1,a.xf g (.inr f),a.xm g (.inr f)⟩⟩
theorem SoY.mono {Z:Nat->Prop}(a:SoY w X Y p s d)(e:∀g,Z g->Y g):SoY w X Z p s d:=by
 obtain⟨fv,mv,a,b⟩:=a;exact⟨fv,mv,a,λg c=>b g (e g c)⟩
theorem SoY.grown {Z:Nat->Prop}(a:SoY w X Y p s d)(f:Grew w w2)(e:∀g,Z g->g<w2.heap.size/\(Y g\/w.heap.size<=g)):SoY w2 X Z p s d:=by
 obtain⟨fv,mv,a,i⟩:=a;refine⟨fv,mv,a.grown f,λg j=>?_⟩;obtain⟨c,k|l⟩:=e g j
 ·exact⟨c,(i g k).2⟩
 ·refine⟨c,λb=>by have:=a.lp;omega,λb=>?_,λb=>?_⟩
  ·have:=(a.own1.lt g b.symm).2;omega
  ·have:=(a.own2.lt g b.symm).2;omega
theorem SoY.app {Z:Nat->Prop}{o:Obj}{g:Nat}{v:Value}(a:SoY w X Y p s d)(i:∀k,some k=v.ownBlock->Y k/\¬X k)(m:(w.alloc o).grownBy w2 v.ownBlock)(A:v.ownBlock=some g\/w.heap.size<=g)(u:g<w2.heap.size)(B:∀k,Z k->Y k\/k=g):SoY w2 X Z p s d:=by
 obtain⟨fv,mv,a,f⟩:=a;have r:w.heap.size<=w2.heap.size:=lY (by simp) m.size;have q:∀j,j<w.heap.size->some j≠v.ownBlock->w2.heap[j]? =w.heap[j]? :=λj F C=>(m.block j (by simp;omega) C).trans (lG _ _ _ (by omega));have e:∀b,X b->w2.heap[b]? =w.heap[b]? :=λb x=>q b (a.xl b x) λc=>(i b c).2 x;have D:=q p a.lp λc=>(f p (i p c).1).2.1 rfl;have E:g<w.heap.size->Y g:=λy=>(i g (A.elim (λe=>e.symm) λe=>by omega)).1;refine⟨fv,mv,⟨D.trans a.blk,zF a.own1 λk _ t l=>q k t λc=>(f k (i k c).1).2.2.1 l.symm,zF a.own2 λk _ t l=>q k t λc=>(f k (i k c).1).2.2.2 l.symm,a.ne,a.xf,a.xm,a.xp,λg m=>lZ (a.xl g m) r,lZ a.lp r,(gW (e _ a.xq)).trans a.net,a.xq,a.rls.keep e,a.eight,a.rsm,a.tls.keep e,a.tsm,a.tlen,a.sts.keep e,a.ssm,a.fsm,a.msm⟩,λk l=>?_⟩;rcases B k l with z|rfl
 ·exact⟨lZ (f k z).1 r,(f k z).2⟩
 ·by_cases y:k<w.heap.size
  ·exact⟨u,(f k (E y)).2⟩
  ·refine⟨u,λc=>by have:=a.lp;omega,λc=>?_,λc=>?_⟩
   ·have:=(a.own1.lt k c.symm).2;omega
   ·have:=(a.own2.lt k c.symm).2;omega
theorem zIm (a:SoY w X Y p s d)(c:d.marks.length<=100000000000)(f:d.found.length<=100000000000)(x:Nat)(i:x<16777216):
  Calls prog 94 #[pX p,iX x] w λe w'=>e=returned (iX (s.kind d x))/\SoY w' X Y p s (s.kindS d x)/\KeepX (λg=>X g\/Y g) w w':=by
 have j:=a;obtain⟨fv,mv,a,k⟩:=a;refine(zG9 w _ p s d ⟨fv,mv,a.both k⟩ c f x i).mono ?_;rintro e w' ⟨rfl,l,b⟩;exact⟨rfl,j.call l b,b⟩
end
def Sq.rowTo (s:Sq)(next:Nat)(d:Sf):Nat->List Nat×Sf
 |0=>([],d)
 |j+1=>((s.rowTo next d j).1++[s.kind (s.rowTo next d j).2 (next&&&s.sets.getD j 0)],s.kindS (s.rowTo next d j).2 (next&&&s.sets.getD j 0))
theorem Sq.kindS_len (s:Sq)(d:Sf)(x:Nat):(s.kindS d x).found.length<=d.found.length+1/\(s.kindS d x).marks.length<=d.marks.length+1/\d.found.length<=(s.kindS d x).found.length:=by
 unfold Sq.kindS;split
 ·split <;> simp
 ·simp
theorem Sq.rowTo_len (s:Sq)(next:Nat)(d:Sf)(j:Nat):(s.rowTo next d j).1.length=j/\(s.rowTo next d j).2.found.length<=d.found.length+j/\(s.rowTo next d j).2.marks.length<=d.marks.length+j/\d.found.length<=(s.rowTo next d j).2.found.length:=by
 induction j with
 |zero=>exact⟨rfl,lQ,lQ,lQ⟩
 |succ j a=>
  have b:=s.kindS_len (s.rowTo next d j).2 (next&&&s.sets.getD j 0);unfold Sq.rowTo;simp only[kX,List.length_singleton];omega
end
theorem zKV {w w':World}{X:Nat->Prop}{H:Nat}{v:Value}{l:List Int}(a:OwnI w H v l)(b:KeepX X w w')(e:∀k,some k=v.ownBlock->X k):OwnI w' H v l:=zF a λg _ _ c=>b.block g (e g c.symm)
theorem zFL (w:World)(X c:Nat->Prop)(p:Nat)(s:Sq)(a:Sf)(aa:SoY w X c p s a)(aG:a.marks.length+s.sets.length<=100000000000)(aH:a.found.length+s.sets.length<=100000000000)(next:Nat)(C:next<16777216):
  Calls prog 91 #[pX p,iX next] w λe w'=>∃u,e=returned u/\OwnI w' w.heap.size u (ints (s.rowTo next a s.sets.length).1)/\SoY w' X (λg=>c g\/some g=u.ownBlock) p s (s.rowTo next a s.sets.length).2/\KeepX (λg=>X g\/c g) w w':=by
 obtain⟨ab,ac,ad,ae,af⟩:=info_parts yL;obtain⟨ag,ah,y,M⟩:=aa;have y3:=y.cells.2.1;have N:Hid (∀k,X k\/c k->k<w.heap.size):=λk f=>f.elim (y.xl k) λe=>(M k e).1;obtain⟨as_,cs,O,_,_,ai⟩:=y.sts;rw[zO] at O;have aj:Hid (∀i,i<s.sets.length->∃b o,as_=some ⟨b,o,none⟩/\X b/\cX w b (o+i)=some (iX ((s.sets.getD i 0:Nat):Int))/\next&&&s.sets.getD i 0<16777216/\s.sets.getD i 0<16777216):=by
  intro i P;obtain⟨b,o,B,ak,m⟩:=ai i (by rw[zO];exact P);rw[vI] at m;exact⟨b,o,B,ak,m,Nat.lt_of_le_of_lt Nat.and_le_left C,y.ssm _ (zS _ i 0 P)⟩
 rw[O] at y3;have D:Hid (∀j,(s.rowTo next a j).1.length=j/\(s.rowTo next a j).2.found.length<=a.found.length+j/\(s.rowTo next a j).2.marks.length<=a.marks.length+j):=λj=>by
  have:=s.rowTo_len next a j
  exact⟨this.1,this.2.1,this.2.2.1⟩
 have al:Hid (SoY w X (λg=>c g\/some g=(Value.slice none 0 0).ownBlock) p s a):=⟨ag,ah,y,λg am=>am.elim (M g) λe=>by cases e⟩
 have aI:s.sets.length<=100000000000:=by omega
 go_in;go_wp2;go_loopg [5,15] s.sets.length (λq u i wr=>∃j:Nat,q=s.sets.length-j/\j<=s.sets.length/\i=iX (j:Int)/\OwnI wr w.heap.size u (ints (s.rowTo next a j).1)/\SoY wr X (λg=>c g\/some g=u.ownBlock) p s (s.rowTo next a j).2/\KeepX (λg=>X g\/c g) w wr)
 case atStart=>exact⟨0,rfl,lX,rfl,OwnI.nil _ _,al,KeepX.refl _ _⟩
 case round=>
  obtain⟨j,an,aJ,rfl,Q,ao,R⟩:=hrel;have t:Hid (gk=s.sets.length-j/\OwnI wr w.heap.size u5 (ints (s.rowTo next a j).1)/\SoY wr X (λg=>c g\/some g=u5.ownBlock) p s (s.rowTo next a j).2/\KeepX (λg=>X g\/c g) w wr):=⟨an,Q,ao,R⟩
  by_cases ap:j<s.sets.length
  ·have aq:(j:Int)<(s.sets.length:Int):=by omega
   obtain⟨ar,aK,rfl,av,aw,ax,aL⟩:=aj j ap;have aM:=(gW (R.block ar (.inl av))).trans aw;obtain⟨E,F,S⟩:=Q.form;rw[zO,(D.out j).1] at S;have ay:Hid (∀x:Nat,x<16777216->Ca 94 #[pX p,iX x] wr λe w'=>e=returned (iX (s.kind (s.rowTo next a j).2 x))/\(OwnI w' w.heap.size u5 (ints (s.rowTo next a j).1)/\SoY w' X (λg=>c g\/some g=u5.ownBlock) p s (s.kindS (s.rowTo next a j).2 x))/\KeepX (λg=>X g\/c g) w w'):=λx C=>by
    have:=D j;refine(zIm t.2.2.1 (by omega) (by omega) x C).mono ?_;rintro e w2 ⟨rfl,B,m⟩;exact⟨rfl,⟨zKV t.2.1 m λk f=>.inr (.inr f),B⟩,t.2.2.2.trans (m.mono λk f=>f.elim .inl λe=>.inr (.inl e))⟩
   have T:Hid ((s.rowTo next a (j+1)).1=(s.rowTo next a j).1++[s.kind (s.rowTo next a j).2 (next&&&s.sets.getD j 0)]/\(s.rowTo next a (j+1)).2=s.kindS (s.rowTo next a j).2 (next&&&s.sets.getD j 0)):=⟨rfl,rfl⟩
   have G:=(D j).1;generalize s.sets.getD j 0=r at *;have aN:bits .and i64 (next:Int) (r:Int)=((next&&&r:Nat):Int):=qE _ _ (by omega) (by omega);generalize next&&&r=x at *
   have az:=vl <| ay x ax;generalize s.kind (s.rowTo next a j).2 x=H at *;generalize s.kindS (s.rowTo next a j).2 x=aA at *;generalize (s.rowTo next a j).1=l at *;subst S;go_wp2_with (first|(go_at_call 94;refine az.mono ?_;rintro e w2 ⟨rfl,I,U⟩;have J:=vl I;have aB:w2.ownsRow w.heap.size 3 1 (slice E j F) j ((ints l).map λx=>iX x):=(by have:=I.1;unfold OwnI at this;rw[zO,G] at this;exact this);have aO:=U.size;clear I)|(at_builtin;refine wpList_append_lies _ rfl _ _ 45 rfl (w.heap.size) 3 ab (iX 0) 1 8 underlying45 ac ad ae af rfl (by decide) _ _ _ rfl (aB.alloc _) ⟨w2.heap.size,0,none⟩ 1 1 [iX (H:Int)] rfl rfl (cell_one_new _ _ _) (by intro u V;simp at V;subst V;rfl) (by decide) (by unfold maxLen;omega) (by omega) (by simp;omega) _ rfl ?_;intro z cap K aC A aD aP))
   have W:OwnI K w.heap.size (slice (qX z) (j+1) cap) (ints (l++[H])):=by
    rw[zBa];have m:=OwnI.snoc (l:=ints l) (x:=(H:Int)) (by rw[zO,G];exact aC);rw[zO,G] at m;exact m
   have aE:(Value.slice E j F).ownBlock=some z\/w2.heap.size<=z:=by
    rcases aD with L|L
    ·exact .inl L
    ·right;rw[L];simp
   have aF:SoY K X (λg=>c g\/some g=(Value.slice (qX z) (j+1) cap).ownBlock) p s aA:=by
    refine J.2.app (v:=slice E j F) (λk f=>⟨.inr f,λe=>?_⟩) A aE (W.lt z rfl).2 ?_
    ·have:=(J.1.lt k f.symm).1
     have:=N k (.inl e);omega
    ·intro k f
     rcases f with e|e
     ·exact .inl (.inl e)
     ·exact .inr (by simpa[Value.ownBlock] using e)
   have hK3:KeepX (λg=>X g\/c g) w K:=by
    refine U.trans ⟨A.os,A.output,lY (by simp) A.size,λk f=>?_⟩;have B:=N k f;exact(A.block k (by simp;omega) λe=>by have:=(J.1.lt k e.symm).1;omega).trans (lG _ _ _ (by omega))
   go_roundg (s.sets.length-(j+1))
   case measure=>rw[t.out.1];omega
   case rel=>exact⟨j+1,rfl,by omega,by go_num,by rw[T.out.1];exact W,by rw[T.out.2];exact aF,hK3⟩
  ·have aq:(s.sets.length:Int)<=(j:Int):=by omega
   have e:j=s.sets.length:=by omega
   subst e;go_wp2;go_ret;exact⟨_,rfl,t.2.1,t.2.2.1,t.2.2.2⟩
end Go.Proofs.YtbjcfkdnjaiclaaGreat
