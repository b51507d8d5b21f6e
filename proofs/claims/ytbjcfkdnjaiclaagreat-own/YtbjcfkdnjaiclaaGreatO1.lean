import Derived.Deep.AppendLies
import Derived.Deep.DrawnRows
import Derived.Deep.LoopGhost
import Derived.Deep.RegionHeld3
import Derived.Deep.RegionLaw
import Derived.Deep.RegionWith
import Derived.Deep.WholeRow
import Derived.KernelRfl
import Derived.Laws.Pointers
import Derived.OwnWalk
import Derived.StillTactics
import Derived.Test.YtbjcfkdnjaiclaaGreatProg
import Derived.WalkKit
import Derived.WalkLawsBesides
import Derived.WalkSpells
import Derived.Test.YtbjcfkdnjaiclaaGreatO0
/- Parts of the proof. -/
set_option linter.unusedVariables false
set_option linter.unusedSimpArgs false
set_option maxHeartbeats 4000000
set_option maxRecDepth 100000
namespace Go.Proofs.YtbjcfkdnjaiclaaGreat
open Go.RowKit Go.Proofs.Tryz Go.World
open Go.Value (int slice bool pointer string agg tuple)
open Go.IntKind (i64)
open Go.Ending (returned)
section
attribute [local go_sem ↓] Go.wp_at_zero Go.wp_at_succ
theorem zOf:(prog.info? 51).map (λi=>(i.zero,i.size,i.bytes))=some (some (agg #[zX,zX,zX,zX,zX,zX]),6,48):=by kernel_rfl
theorem zEk {w w1:World}{o:Obj}{row:Option Nat}(a:(w.alloc o).drew.grownBy w1 row):w.grownBy w1 row:=
 ⟨a.os,a.tape,a.output,lY (by simp) a.size,λk b c=>(a.block k (by simp;omega) c).trans (lG w o k b)⟩
def jI (k r f t l c:Int):List Value:=[int i64 k,int i64 r,int i64 f,int i64 t,int i64 l,int i64 c]
theorem zNA (b:Nat)(kind rule to at_ c d:Int)(a:Value)(n f:Nat)(xs:List Value)(w:World)
  (j:w.cell? ⟨b,2,none⟩=some a)
  (C:w.cell? ⟨b,8,none⟩=some (iX at_)) (D:w.cell? ⟨b,9,none⟩=some (iX c)) (E:w.cell? ⟨b,10,none⟩=some (iX d))
  (m:w.frozen? ⟨b,2,none⟩=false)
  (o:w.ownsRow f 51 6 a n xs) (F:f<=w.heap.size) (p:n+1<=maxLen) (q:(n+1)*48<=140737488355328)
  (k:a.ownBlock≠some b):
  Calls prog 157 #[pX b,iX kind,iX rule,iX to] w λe w'=>
   e=rX/\∃g cap w1,w1.ownsRow f 51 6 (slice (qX g) (n+1) cap) (n+1) (xs++jI kind rule at_ to c d)/\
    w.grownBy w1 a.ownBlock/\(a.ownBlock=some g\/g=w.heap.size+1)/\g<w1.heap.size/\w'=w1.setCell ⟨b,2,none⟩ (slice (qX g) (n+1) cap):=by
 have ⟨r,s,u,v,x⟩:=info_parts zOf;have l:=World.block_lt_of_cell? w _ j;go_enter func157,ntmps157
 go_wp2_with fail;go_region_law ((refine step_append_lies _ (by rfl) (.tmp 12) (.tmp 32) 48 (by rfl) f 51 r _ 6 48 underlying48 s u v x rfl (by omega) a n xs (by simp[Act.eval,Act.put]) ((o.alloc _).drew) ⟨w.heap.size,0,none⟩ 1 1 (jI kind rule at_ to c d) (by simp[Act.eval,Act.put]) (by rfl) (news_of_block (cs:=#[iX kind,iX rule,iX at_,iX to,iX c,iX d]) (t:=51) (fr:=(0,0)) (gY w _)) (by simp[Value.oneCell',jI]) (by omega) p q (by simp;omega) (w.heap.size+1) (by simp) ?_;intro y cap w1 z h A B;have G:cX w1 b 2=some a:=(h.cell_far ⟨b,2,none⟩ (by simp;omega) (Ne.symm k)).trans ((gU _ _ _ l).trans j);have H:w1.frozen? ⟨b,2,none⟩=false:=(h.frozen_far ⟨b,2,none⟩ (by simp;omega) (Ne.symm k)).trans ((frozen?_alloc_past _ _ _ l).trans m)))
 all_goals (go_end0;exact⟨rfl,y,cap,w1,z,zEk h,A,B,rfl⟩)
end
theorem zJW (b i:Nat)(w:World)(r:Rs){v0:Value}(a:zN w b r v0)(c:r.first<64)(d:i<64):
  Calls prog 151 #[pointer (some ⟨b,12,none⟩),iX i] w λe w'=>e=returned (int .u8 (r.byte ((r.first+i)%64)))/\w'.Alike w:=by
 have g:=a.get_first;have h:=a.get_byte ((r.first+i)%64) (hJ _ (by decide));generalize r.first=f at *
 go_in;go_wp2;go_quiet (fail);go_wp2;go_ret;exact⟨rfl,rfl,rfl,rfl⟩
theorem zGd (b n:Nat)(w:World)(r:Rs){v0:Value}(a:zN w b r v0)(l:r.first<64)(m:n<=r.count)(o:r.count<=64):
  Calls prog 152 #[pointer (some ⟨b,12,none⟩),iX n] w λe w'=>e=rX/\
   zN w' b {r with first:=(r.first+n)%64,count:=r.count-n} v0/\∀H,Keep H b w w':=by
 have p:=a.get_first;have q:=a.get_count;have s:=a.frozen 76;have t:=a.frozen 77;have d:=vl a;generalize g:r.first=f at *
 generalize h:r.count=c at *;have u:Hid (r.first=f/\r.count=c):=⟨g,h⟩
 go_in;go_wp2;go_end0;refine⟨rfl,?_,λH=>(Keep.set w _ _).trans (Keep.set _ _ _)⟩;have j:((f:Int)+(n:Int))%64=(((f+n)%64:Nat):Int):=by omega
 have k:((c:Int)-(n:Int))=((c-n:Nat):Int):=by omega
 rw[j,k];exact(d.set_first _).set_count _
theorem zHC (b v:Nat)(w:World)(r:Rs){v0:Value}(a:zN w b r v0)(l:r.first<64)(m:r.count<64):
  Calls prog 107 #[pointer (some ⟨b,12,none⟩),int .u8 v] w λe w'=>e=rX/\
   zN w' b {r with byte:=λj=>if j=(r.first+r.count)%64 then v else r.byte j,count:=r.count+1} v0/\∀H,Keep H b w w':=by
 have o:=a.get_first;have p:=a.get_count;have q:=a.get_byte ((r.first+r.count)%64) (hJ _ (by decide));have s:=a.frozen 77;have t:=a.frozen (12+(r.first+r.count)%64);have d:=vl a;generalize g:r.first=f at *
 generalize h:r.count=c at *;have k:(f+c)%64<64:=hJ _ (by decide);have u:¬(12+(f+c)%64=77):=by omega
 go_in;go_wp2;go_region
 all_goals go_wp2
 all_goals go_end0
 all_goals
  refine⟨rfl,?_,λH=>((Keep.set w _ _).trans (Keep.set _ _ _)).trans (Keep.drew _)⟩;rw[show ((c:Int)+1)=((c+1:Nat):Int) by omega];subst g h;exact((d.set_byte _ v k).set_count _).drew
theorem zFI (b m:Nat)(w:World)(r:Rs){v0:Value}(a:zN w b r v0)(f:r.depth<4):
  Calls prog 71 #[pX b,iX m] w λe w'=>e=rX/\
   zN w' b {r with stack:=λj=>if j=r.depth then m else r.stack j,depth:=r.depth+1} v0/\∀H,Keep H b w w':=by
 have k:=a.get_depth;have l:=a.get_stack r.depth f;have o:=a.frozen 7;have p:=a.frozen (3+r.depth);have g:=vl a;generalize h:r.depth=c at *;have q:¬(3+c=7):=by omega
 go_in;go_wp2;go_region
 all_goals go_wp2
 all_goals go_end0
 all_goals
  refine⟨rfl,?_,λH=>((Keep.set w _ _).trans (Keep.set _ _ _)).trans (Keep.drew _)⟩;rw[show ((c:Int)+1)=((c+1:Nat):Int) by omega];subst h;exact((g.set_stack _ m f).set_depth _).drew
theorem zDS (b:Nat)(w:World)(r:Rs)(ao:Option Addr)(n cap:Nat)(a:zN w b r (slice ao n cap)):
  Calls prog 75 #[pX b] w λe w'=>e=returned (slice ao n cap)/\
   zN w' b r nX/\∀H,Keep H b w w':=by
 have d:=a.get_told;have f:=a.frozen 2;have c:=vl a;go_in;go_wp2;go_ret;exact⟨rfl,c.set_told _,λH=>Keep.set w _ _⟩
def zAf (v l:Nat):Nat:=if v=10 then l+1 else l
def zBu (v c:Nat):Nat:=if v=10 then 1 else c+1
theorem zLc (a l c v:Nat)(w:World)(g:a<2147483648)(h:l<2147483648)(j:c<2147483648)(k:v<256):
  Calls prog 153 #[agg #[iX a,iX l,iX c],int .u8 v] w λe w'=>
   e=returned (agg #[iX ((a+1:Nat):Int),iX ((if v=10 then l+1 else l:Nat):Int),iX ((if v=10 then 1 else c+1:Nat):Int)])/\Below w.heap.size w w':=by
 by_cases b:v=10
 ·have d:((v:Int)==10)=true:=by rw[beq_iff_eq];omega
  have f:=vl b;go_in;go_wp2;refine gJ (v:=agg #[iX ((a:Int)+1),iX ((l:Int)+1),iX 1]) (by simp[results,results153,go_sem]) rfl ⟨?_,?_⟩
  ·rfl
  ·exact((Below.refl _ _).alloc lQ _).alloc (by simp) _
 ·have d:((v:Int)==10)=false:=by rw[hX];omega
  have f:=vl b;go_in;go_wp2;refine gJ (v:=agg #[iX ((a:Int)+1),iX (l:Int),iX ((c:Int)+1)]) (by simp[results,results153,go_sem]) rfl ⟨?_,?_⟩
  ·rfl
  ·exact((Below.refl _ _).alloc lQ _).alloc (by simp) _
theorem zDQ (a l c v:Nat)(w:World)(b:a<2147483648)(d:l<2147483648)(f:c<2147483648)(g:v<256):
  Calls prog 153 #[agg #[iX a,iX l,iX c],int .u8 v] w λe w'=>
   e=returned (agg #[iX ((a+1:Nat):Int),iX (zAf v l:Nat),iX (zBu v c:Nat)])/\Below w.heap.size w w':=zLc a l c v w b d f g
theorem zAw (b:Nat)(w:World)(r:Rs){v0:Value}(a:zN w b r v0)(S:Nat->Prop)(t:Tb)(f:TabAt w S r.tp t)(o:1<=r.depth)(q:r.depth<=4)(g:r.stack (r.depth-1)<t.nmode):
  Calls prog 72 #[pX b] w λe w'=>e=returned (iX (t.start (r.stack (r.depth-1))))/\w'.Alike w:=by
 have s:=a.get_tp;have u:=a.get_depth;have h:=a.get_stack (r.depth-1) (by omega);obtain⟨_,v,j,k,y,z,rfl,A,B,l⟩:=f.c3;have C:cX w j (k+r.stack (r.depth-1))=some (iX (t.start (r.stack (r.depth-1)):Nat)):=l _ g;generalize r.tp=p at *;generalize t.start (r.stack (r.depth-1))=x at *;generalize r.stack (r.depth-1)=m at *;generalize r.depth=c at *;generalize t.nmode=n at *;have D:(m:Int)<(n:Int):=by omega
 have E:(1:Int)<=(c:Int):=by omega
 have F:(c:Int)<=4:=by omega
 have G:=h;go_in;go_wp2;go_quiet (fail);go_wp2;go_ret;exact⟨rfl,rfl,rfl,rfl⟩
section
structure Cx (H b:Nat)(S:Nat->Prop)(t:Tb)(w:World)(r:Rs)(v0:Value)(n:Nat)(xs:List Value):Prop where
 run:zN w b r v0
 own:w.ownsRow H 51 6 v0 n xs
 tab:TabAt w S r.tp t
 bH:b<H
 HH:H<=w.heap.size
 safe:∀k,S k->k<H/\k≠b
namespace Cx
variable {H b:Nat} {S:Nat->Prop} {t:Tb} {w w':World} {r r':Rs} {v0 v1:Value} {n n':Nat} {xs xs':List Value}
theorem below (a:Cx H b S t w r v0 n xs)(e:Below w.heap.size w w'):Cx H b S t w' r v0 n xs:=
 ⟨a.run.below e,a.own.kept ⟨e.os,e.tape,e.output,e.size,λk c _=>e.block k c⟩ (row:=none) (by cases d:v0.ownBlock <;> simp),a.tab.keep λk c=>e.block k (lZ (a.safe k c).1 a.HH),a.bH,lY a.HH e.size,a.safe⟩
theorem alloc (a:Cx H b S t w r v0 n xs)(o:Obj):Cx H b S t (w.alloc o) r v0 n xs:=a.below ((Below.refl _ _).alloc lQ _)
theorem alike (a:Cx H b S t w r v0 n xs)(e:w'.Alike w):Cx H b S t w' r v0 n xs:=
 ⟨a.run.alike e,by unfold World.ownsRow;rw[e.1];exact a.own,a.tab.keep λk _=>by rw[e.1],a.bH,by rw[e.1];exact a.HH,a.safe⟩
theorem next (a:Cx H b S t w r v0 n xs)(c:Keep H b w w')(e:zN w' b r' v1)(f:r'.tp=r.tp)(g:w'.ownsRow H 51 6 v1 n' xs'):Cx H b S t w' r' v1 n' xs':=
 ⟨e,g,by rw[f];exact a.tab.keep λk d=>c.block k (a.safe k d).1 (a.safe k d).2,a.bH,lY a.HH c.size,a.safe⟩
theorem stored (a:Cx H b S t w r v0 n xs)(i:Nat)(v:Value)(c:zN (w.setCell ⟨b,i,none⟩ v) b r' v0)(d:r'.tp=r.tp):Cx H b S t (w.setCell ⟨b,i,none⟩ v) r' v0 n xs:=
 a.next (Keep.set _ _ _) c d (ownsRow_setCell_below a.own a.bH _)
theorem kept (a:Cx H b S t w r v0 n xs)(c:∀H,Keep H b w w')(e:zN w' b r' v0)(f:r'.tp=r.tp):Cx H b S t w' r' v0 n xs:=
 a.next (c H) e f (by
  refine⟨a.own.1,a.own.2.imp id ?_⟩;rintro⟨g,cap,j,k,l,d,m⟩;have o:=(kQ.1 d).1;have p:=a.bH;exact⟨g,cap,j,k,l,((c w.heap.size).block g o (by omega)).trans d,m⟩)
end Cx
theorem zA9 (b H:Nat)(S:Nat->Prop)(t:Tb)(kind rule to:Int)(w:World)(r:Rs)(v0:Value)(n:Nat)(xs:List Value)(c:Cx H b S t w r v0 n xs)(x:n<=4194304):
  Calls prog 157 #[pX b,iX kind,iX rule,iX to] w λe w'=>
   e=rX/\∃ao cap,Cx H b S t w' r (slice ao (n+1) cap) (n+1) (xs++jI kind rule r.bAt to r.bLine r.bCol)/\Keep H b w w'/\
    ∀k,k<w.heap.size->k≠b->some k≠v0.ownBlock->w'.heap[k]? =w.heap[k]? :=by
 have a:=c.run;have h:=c.own;have o:=c.bH;have j:=c.HH;have l:=h.lt;have m:v0.ownBlock≠some b:=λe=>by have:=l b e;omega
 refine(zNA b kind rule to r.bAt r.bLine r.bCol v0 n H xs w a.get_told a.get_bAt a.get_bLine a.get_bCol (a.frozen 2) h j (by unfold maxLen;omega) (by omega) m).mono ?_;rintro e w' ⟨rfl,g,cap,w1,p,f,y,z,rfl⟩;have q:=a.of_block (f.block b a.lt (Ne.symm m));have d:Keep H b w (w1.setCell ⟨b,2,none⟩ (slice (qX g) (n+1) cap)):=(Keep.grown f j λk d=>(l k d).1).trans (Keep.set _ _ _);refine⟨rfl,some ⟨g,0,none⟩,cap,c.next d (q.set_told _) rfl (ownsRow_setCell_below p o _),d,λk s u v=>?_⟩;exact(lJ _ _ _ _ u).trans (f.block k s v)
theorem vW (b H:Nat)(S:Nat->Prop)(t:Tb)(kind:Int)(w:World)(r:Rs)(v0:Value)(n:Nat)(xs:List Value)(c:Cx H b S t w r v0 n xs)(f:n<=4194304):
  Calls prog 110 #[pX b,iX kind] w λe w'=>
   e=rX/\∃ao cap,Cx H b S t w' {r with opn:=false} (slice ao (n+1) cap) (n+1) (xs++jI kind 0 r.bAt r.bAt r.bLine r.bCol)/\Keep H b w w':=by
 have k:=c.run.get_bAt;have g:=vl c;go_in;go_wp2_with fail;refine(zA9 b H S t kind 0 r.bAt _ r v0 n xs g f).mono ?_;rintro e w1 ⟨rfl,ao,cap,a,h,_⟩;have c1:=a.run.get_opn;have l:=a.run.frozen 1;have d:=vl a;have j:=vl h;go_wp2;go_end0;exact⟨rfl,ao,cap,d.stored 1 _ (d.run.set_opn false) rfl,j.trans (Keep.set _ _ _)⟩
theorem zKd (b H:Nat)(S:Nat->Prop)(t:Tb)(w:World)(r:Rs)(v0:Value)(n:Nat)(xs:List Value)(a:Cx H b S t w r v0 n xs)(f:n<=4194304)
  (rule g h j:Nat) (k:rule<t.nrule) (l:t.act rule=2) (m:r.depth=4):
  Calls prog 156 #[pX b,iX rule,agg #[iX g,iX h,iX j]] w λe w'=>
   e=rX/\∃ao cap,Cx H b S t w' {r with opn:=false} (slice ao (n+1) cap) (n+1) (xs++jI 4 0 r.bAt r.bAt r.bLine r.bCol)/\Keep H b w w':=by
 have z:=a.run.get_tp;have o:=a.run.get_depth;obtain⟨_,A,c,p,B,q,rfl,C,D,s⟩:=a.tab.c4;have u:cX w c (p+rule)=some (iX (t.act rule:Nat)):=s _ k;rw[l] at u;rw[m] at o;have E:(rule:Int)<(t.nrule:Int):=by omega
 have F:b<w.heap.size:=a.run.lt;have G:c<w.heap.size:=lZ (a.safe _ q).1 a.HH;have I:r.tp<w.heap.size:=lZ (a.safe _ a.tab.safe).1 a.HH;have d:=vl a;go_in;go_wp2_with fail;refine(vW b H S t 4 _ r v0 n xs (d.alloc _) f).mono ?_;rintro e w1 ⟨rfl,ao,cap,v,x⟩;have y:=vl v;go_wp2;refine gJ (results_none rfl _ _ _) rfl ?_;exact⟨rfl,ao,cap,y,(kZ _ _ d.HH).trans x⟩
theorem zIE (b H:Nat)(S:Nat->Prop)(t:Tb)(w:World)(r:Rs)(v0:Value)(n:Nat)(xs:List Value)(a:Cx H b S t w r v0 n xs)(f:n<=4194304)
  (rule g h j:Nat) (k:rule<t.nrule) (l:t.act rule=3) (m:r.depth=1):
  Calls prog 156 #[pX b,iX rule,agg #[iX g,iX h,iX j]] w λe w'=>
   e=rX/\∃ao cap,Cx H b S t w' {r with opn:=false} (slice ao (n+1) cap) (n+1) (xs++jI 5 0 r.bAt r.bAt r.bLine r.bCol)/\Keep H b w w':=by
 have z:=a.run.get_tp;have o:=a.run.get_depth;obtain⟨_,A,c,p,B,q,rfl,C,D,s⟩:=a.tab.c4;have u:cX w c (p+rule)=some (iX (t.act rule:Nat)):=s _ k;rw[l] at u;rw[m] at o;have E:(rule:Int)<(t.nrule:Int):=by omega
 have F:b<w.heap.size:=a.run.lt;have G:c<w.heap.size:=lZ (a.safe _ q).1 a.HH;have I:r.tp<w.heap.size:=lZ (a.safe _ a.tab.safe).1 a.HH;have d:=vl a;go_in;go_wp2_with fail;refine(vW b H S t 5 _ r v0 n xs (d.alloc _) f).mono ?_;rintro e w1 ⟨rfl,ao,cap,v,x⟩;have y:=vl v;go_wp2;refine gJ (results_none rfl _ _ _) rfl ?_;exact⟨rfl,ao,cap,y,(kZ _ _ d.HH).trans x⟩
theorem zKb (b H:Nat)(S:Nat->Prop)(t:Tb)(w:World)(r:Rs)(v0:Value)(n:Nat)(xs:List Value)(a:Cx H b S t w r v0 n xs)
  (rule c d f:Nat) (p:rule<t.nrule) (q:t.act rule=1) (s:1<=r.depth) (u:r.depth<=4) (v:r.stack (r.depth-1)<t.nmode):
  Calls prog 156 #[pX b,iX rule,agg #[iX c,iX d,iX f]] w λe w'=>
   e=rX/\Cx H b S t w' {r with bAt:=c,bLine:=d,bCol:=f,state:=t.start (r.stack (r.depth-1))} v0 n xs/\Keep H b w w':=by
 have D:=a.run.get_tp;have E:=a.run.get_depth;obtain⟨_,F,j,x,G,y,rfl,I,J,z⟩:=a.tab.c4;have A:cX w j (x+rule)=some (iX (t.act rule:Nat)):=z _ p;rw[q] at A;have K:(rule:Int)<(t.nrule:Int):=by omega
 have L:b<w.heap.size:=a.run.lt;have M:j<w.heap.size:=lZ (a.safe _ y).1 a.HH;have N:r.tp<w.heap.size:=lZ (a.safe _ a.tab.safe).1 a.HH;have O:=(a).run.get_bAt;have P:=(a).run.get_bLine;have R:=(a).run.get_bCol;have T:=(a).run.get_state;have U:=(a).run.frozen 8;have V:=(a).run.frozen 9;have W:=(a).run.frozen 10;have X:=(a).run.frozen 11;have k:=vl a;go_in;go_wp2_with fail;have c1:=k.stored 8 _ (k.run.set_bAt c) rfl;have c2:=c1.stored 9 _ (c1.run.set_bLine d) rfl;have l:=c2.stored 10 _ (c2.run.set_bCol f) rfl;have g:=l.alloc (.cells #[iX c,iX d,iX f] 97);have B:=(((Keep.set (H:=H) (b:=b) w 8 (iX c)).trans (Keep.set _ 9 (iX d))).trans (Keep.set _ 10 (iX f))).trans (kZ _ (.cells #[iX c,iX d,iX f] 97) l.HH);refine(zAw b _ _ g.run S t g.tab s u v).mono ?_;rintro e Y ⟨rfl,m⟩;have h:=g.alike m;have C:=vl <| B.trans (Keep.alike m);have aa:=h.run.get_state;have ab:=h.run.frozen 11;have o:=vl h;go_wp2;go_end0;exact⟨rfl,o.stored 11 _ (o.run.set_state _) rfl,C.trans (Keep.set _ _ _)⟩
theorem zKe (b H:Nat)(S:Nat->Prop)(t:Tb)(w:World)(r:Rs)(v0:Value)(n:Nat)(xs:List Value)(a:Cx H b S t w r v0 n xs)(s:n<=4194304)
  (rule c f g:Nat) (u:rule<t.nrule) (v:t.act rule=0) (x:1<=r.depth) (y:r.depth<=4) (z:r.stack (r.depth-1)<t.nmode):
  Calls prog 156 #[pX b,iX rule,agg #[iX c,iX f,iX g]] w λe w'=>
   e=rX/\∃ao cap,Cx H b S t w' {r with bAt:=c,bLine:=f,bCol:=g,state:=t.start (r.stack (r.depth-1))} (slice ao (n+1) cap) (n+1) (xs++jI 1 rule r.bAt c r.bLine r.bCol)/\Keep H b w w':=by
 have L:=a.run.get_tp;have M:=a.run.get_depth;obtain⟨_,N,m,A,O,B,rfl,P,R,C⟩:=a.tab.c4;have D:cX w m (A+rule)=some (iX (t.act rule:Nat)):=C _ u;rw[v] at D;have T:(rule:Int)<(t.nrule:Int):=by omega
 have U:b<w.heap.size:=a.run.lt;have V:m<w.heap.size:=lZ (a.safe _ B).1 a.HH;have W:r.tp<w.heap.size:=lZ (a.safe _ a.tab.safe).1 a.HH;have h:=vl a;go_in;go_wp2_with fail;have E:=h.alloc (.cells #[iX c,iX f,iX g] 97);refine(zA9 b H S t 1 rule c _ r v0 n xs E s).mono ?_;rintro e w1 ⟨rfl,ao,cap,d,F,G⟩;have j:w1.heap[w.heap.size]? =some (.cells #[iX c,iX f,iX g] 97):=by
  rw[G w.heap.size (by simp) (by omega) (λe=>by have:=(h.out.own.lt _ e.symm).2;omega)];exact gY w _
 have X:cX w1 w.heap.size 0=some (iX c):=by simp[World.cell?,j]
 have Y:cX w1 w.heap.size 1=some (iX f):=by simp[World.cell?,j]
 have aa:cX w1 w.heap.size 2=some (iX g):=by simp[World.cell?,j]
 have ab:=d.run.get_bAt;have ac:=d.run.frozen 8;have ad:=d.run.get_bLine;have ae:=d.run.frozen 9;have af:=d.run.get_bCol;have ag:=d.run.frozen 10;have ah:=d.run.get_state;have ai:=d.run.frozen 11;have o:=vl d;have I:=vl <| (kZ w _ h.HH).trans F;go_wp2_with fail;have c1:=o.stored 8 _ (o.run.set_bAt c) rfl;have c2:=c1.stored 9 _ (c1.run.set_bLine f) rfl;have k:=c2.stored 10 _ (c2.run.set_bCol g) rfl;have J:=((I.trans (Keep.set w1 8 (iX c))).trans (Keep.set _ 9 (iX f))).trans (Keep.set _ 10 (iX g));refine(zAw b _ _ k.run S t k.tab x y z).mono ?_;rintro e aj ⟨rfl,p⟩;have l:=k.alike p;have K:=vl <| J.trans (Keep.alike p);have ak:=l.run.get_state;have al:=l.run.frozen 11;have q:=vl l;go_wp2;go_end0;exact⟨rfl,ao,cap,q.stored 11 _ (q.run.set_state _) rfl,K.trans (Keep.set _ _ _)⟩
end
theorem zL4 (b H:Nat)(S:Nat->Prop)(t:Tb)(w:World)(r:Rs)(v0:Value)(n:Nat)(xs:List Value)(c:Cx H b S t w r v0 n xs)(s:n<=4194304)
  (rule d f g:Nat) (u:rule<t.nrule) (v:t.act rule=3) (K:2<=r.depth) (L:r.depth<=4) (x:r.stack (r.depth-1-1)<t.nmode):
  Calls prog 156 #[pX b,iX rule,agg #[iX d,iX f,iX g]] w λe w'=>
   e=rX/\∃ao cap,Cx H b S t w' {r with depth:=r.depth-1,bAt:=d,bLine:=f,bCol:=g,state:=t.start (r.stack (r.depth-1-1))} (slice ao (n+1) cap) (n+1) (xs++jI 1 rule r.bAt d r.bLine r.bCol)/\Keep H b w w':=by
 have M:=c.run.get_tp;have N:=c.run.get_depth;have O:((r.depth:Int)==1)=false:=by rw[hX];omega
 have P:(2:Int)<=(r.depth:Int):=by omega
 have R:(r.depth:Int)<=4:=by omega
 obtain⟨_,T,m,y,U,z,rfl,V,W,A⟩:=c.tab.c4;have B:cX w m (y+rule)=some (iX (t.act rule:Nat)):=A _ u;rw[v] at B;have X:(rule:Int)<(t.nrule:Int):=by omega
 have Y:b<w.heap.size:=c.run.lt;have aa:m<w.heap.size:=lZ (c.safe _ z).1 c.HH;have ab:r.tp<w.heap.size:=lZ (c.safe _ c.tab.safe).1 c.HH;have h:=vl c;go_in;go_wp2_with fail;have C:=h.alloc (.cells #[iX d,iX f,iX g] 97);refine(zA9 b H S t 1 rule d _ r v0 n xs C s).mono ?_;rintro e w1 ⟨rfl,ao,cap,a,D,E⟩;have j:w1.heap[w.heap.size]? =some (.cells #[iX d,iX f,iX g] 97):=by
  rw[E w.heap.size (by simp) (by omega) (λe=>by have:=(h.out.own.lt _ e.symm).2;omega)];exact gY w _
 have ac:cX w1 w.heap.size 0=some (iX d):=by simp[World.cell?,j]
 have ad:cX w1 w.heap.size 1=some (iX f):=by simp[World.cell?,j]
 have ae:cX w1 w.heap.size 2=some (iX g):=by simp[World.cell?,j]
 have af:=a.run.get_depth;have ag:=a.run.frozen 7;have ah:=a.run.get_bAt;have ai:=a.run.frozen 8;have aj:=a.run.get_bLine;have ak:=a.run.frozen 9;have al:=a.run.get_bCol;have am:=a.run.frozen 10;have an:=a.run.get_state;have ap:=a.run.frozen 11;have o:=vl a;have F:=vl <| (kZ w _ h.HH).trans D;go_wp2_with fail;have G:((r.depth:Int)-1)=((r.depth-1:Nat):Int):=by omega
 rw[G];have c0:=o.stored 7 _ (o.run.set_depth (r.depth-1)) rfl;have c1:=c0.stored 8 _ (c0.run.set_bAt d) rfl;have c2:=c1.stored 9 _ (c1.run.set_bLine f) rfl;have k:=c2.stored 10 _ (c2.run.set_bCol g) rfl;have I:=(((F.trans (Keep.set w1 7 (iX (r.depth-1:Nat)))).trans (Keep.set _ 8 (iX d))).trans (Keep.set _ 9 (iX f))).trans (Keep.set _ 10 (iX g));refine(zAw b _ _ k.run S t k.tab (by show 1<=r.depth-1;omega) (by show r.depth-1<=4;omega) x).mono ?_;rintro e aq ⟨rfl,p⟩;have l:=k.alike p;have J:=vl <| I.trans (Keep.alike p);have ar:=l.run.get_state;have au:=l.run.frozen 11;have q:=vl l;go_wp2;go_end0;exact⟨rfl,ao,cap,q.stored 11 _ (q.run.set_state _) rfl,J.trans (Keep.set _ _ _)⟩
theorem zKc (b H:Nat)(S:Nat->Prop)(t:Tb)(w:World)(r:Rs)(v0:Value)(n:Nat)(xs:List Value)(a:Cx H b S t w r v0 n xs)(G:n<=4194304)
  (rule c d f:Nat) (s:rule<t.nrule) (I:t.act rule=2) (ab:1<=r.depth) (J:r.depth<4) (K:t.push rule<t.nmode):
  Calls prog 156 #[pX b,iX rule,agg #[iX c,iX d,iX f]] w λe w'=>
   e=rX/\∃ao cap,Cx H b S t w' {r with stack:=λj=>if j=r.depth then t.push rule else r.stack j,depth:=r.depth+1,bAt:=c,bLine:=d,bCol:=f,state:=t.start (t.push rule)} (slice ao (n+1) cap) (n+1) (xs++jI 1 rule r.bAt c r.bLine r.bCol)/\Keep H b w w':=by
 have ac:=a.run.get_tp;have ad:=a.run.get_depth;have ae:((r.depth:Int)==4)=false:=by rw[hX];omega
 obtain⟨_,af,u,L,ag,M,rfl,ah,ai,v⟩:=a.tab.c4;have N:cX w u (L+rule)=some (iX (t.act rule:Nat)):=v _ s;rw[I] at N;have aj:(rule:Int)<(t.nrule:Int):=by omega
 have ak:b<w.heap.size:=a.run.lt;have al:u<w.heap.size:=lZ (a.safe _ M).1 a.HH;have am:r.tp<w.heap.size:=lZ (a.safe _ a.tab.safe).1 a.HH;have p:=vl a;clear a v;go_in;go_wp2_with fail;have x:=p.alloc (.cells #[iX c,iX d,iX f] 97);refine(zA9 b H S t 1 rule c _ r v0 n xs x G).mono ?_;rintro e w1 ⟨rfl,ao,cap,k,y,z⟩;have l:w1.heap[w.heap.size]? =some (.cells #[iX c,iX d,iX f] 97):=by
  rw[z w.heap.size (by simp) (by omega) (λe=>by have:=(p.out.own.lt _ e.symm).2;omega)];exact gY w _
 have O:cX w1 w.heap.size 0=some (iX c):=by simp[World.cell?,l]
 have P:cX w1 w.heap.size 1=some (iX d):=by simp[World.cell?,l]
 have R:cX w1 w.heap.size 2=some (iX f):=by simp[World.cell?,l]
 have an:=k.run.get_tp;obtain⟨_,ap,T,U,aq,ar,rfl,au,av,A⟩:=k.tab.c5;have aw:cX w1 T (U+rule)=some (iX (t.push rule:Nat)):=A _ s;have B:=vl k;have V:=vl <| (kZ w _ p.HH).trans y;clear k x y z l A;go_wp2_with fail;refine(zFI b (t.push rule) _ _ B.run (by exact J)).mono ?_;rintro e w2 ⟨rfl,C,h⟩;have g:=B.kept h C rfl;have ax:cX w2 w.heap.size 0=some (iX c):=(gW ((h (w.heap.size+1)).block _ (by show w.heap.size<_;omega) (by show w.heap.size≠b;omega))).trans O;have ay:cX w2 w.heap.size 1=some (iX d):=(gW ((h (w.heap.size+1)).block _ (by show w.heap.size<_;omega) (by show w.heap.size≠b;omega))).trans P;have az:cX w2 w.heap.size 2=some (iX f):=(gW ((h (w.heap.size+1)).block _ (by show w.heap.size<_;omega) (by show w.heap.size≠b;omega))).trans R;have aA:=g.run.get_bAt;have aB:=g.run.frozen 8;have aC:=g.run.get_bLine;have aD:=g.run.frozen 9;have aE:=g.run.get_bCol;have aF:=g.run.frozen 10;have W:=vl <| V.trans (h H);have D:=vl g;clear g h C;go_wp2_with fail;have c1:=D.stored 8 _ (D.run.set_bAt c) rfl;have c2:=c1.stored 9 _ (c1.run.set_bLine d) rfl;have m:=c2.stored 10 _ (c2.run.set_bCol f) rfl;have E:=((W.trans (Keep.set w2 8 (iX c))).trans (Keep.set _ 9 (iX d))).trans (Keep.set _ 10 (iX f));clear c1 c2;have X:(λj=>if j=r.depth then t.push rule else r.stack j) (r.depth+1-1)=t.push rule:=by simp
 refine(zAw b _ _ m.run S t m.tab (by show 1<=r.depth+1;omega) (by show r.depth+1<=4;omega) (by show(λj=>if j=r.depth then t.push rule else r.stack j) (r.depth+1-1)<t.nmode;rw[X];exact K)).mono ?_;rintro e aG ⟨rfl,q⟩;have o:=m.alike q;have Y:=vl <| E.trans (Keep.alike q);have aH:=o.run.get_state;have aI:=o.run.frozen 11;have F:=vl o;clear o m E q;go_wp2;go_end0;refine⟨rfl,ao,cap,?_,Y.trans (Keep.set _ 11 _)⟩;have aa:=F.stored 11 _ (F.run.set_state (t.start (t.push rule))) rfl;simpa using aa
structure Ev where
 kind:Int
 rule:Int
 from_:Int
 to:Int
 line:Int
 col:Int
def Ev.cells (e:Ev):List Value:=jI e.kind e.rule e.from_ e.to e.line e.col
def xD (es:List Ev):List Value:=es.flatMap Ev.cells
theorem yE (a:List Ev)(e:Ev):xD (a++[e])=xD a++e.cells:=by simp[xD]
abbrev Cv (H b:Nat)(S:Nat->Prop)(t:Tb)(w:World)(r:Rs)(v0:Value)(es:List Ev):Prop:=Cx H b S t w r v0 es.length (xD es)
structure Rs.Ok (r:Rs)(t:Tb):Prop where
 d1:1<=r.depth
 d4:r.depth<=4
 st:∀j,j<r.depth->r.stack j<t.nmode
 state:r.state<t.nst
 first:r.first<64
 count:r.count<=64
 bytes:∀j,j<64->r.byte j<256
def Rs.lastEv (r:Rs)(kind:Int):Ev:=⟨kind,0,r.bAt,r.bAt,r.bLine,r.bCol⟩
def Rs.moved (r:Rs)(t:Tb)(rule:Nat):Rs:=
 if t.act rule=3 then{r with depth:=r.depth-1}
 else if t.act rule=2 then{r with stack:=λj=>if j=r.depth then t.push rule else r.stack j,depth:=r.depth+1}
 else r
def Rs.tok (r:Rs)(t:Tb)(rule eAt eLine eCol:Nat):Rs×List Ev:=
 if t.act rule=2/\r.depth=4 then({r with opn:=false},[r.lastEv 4])
 else if t.act rule=3/\r.depth=1 then({r with opn:=false},[r.lastEv 5])
 else({r.moved t rule with bAt:=eAt,bLine:=eLine,bCol:=eCol,state:=t.start ((r.moved t rule).stack ((r.moved t rule).depth-1))},
  if t.act rule=1 then[] else[⟨1,rule,r.bAt,eAt,r.bLine,r.bCol⟩])
theorem zEx (b H:Nat)(S:Nat->Prop)(t:Tb)(w:World)(r:Rs){v0:Value}(h:List Ev)(m:Cv H b S t w r v0 h)(o:h.length<=4194304)
  (rule d f g:Nat) (k:rule<t.nrule) (z:t.act rule<4) (ok:t.Ok) (p:r.Ok t):
  Calls prog 156 #[pX b,iX rule,agg #[iX d,iX f,iX g]] w λe w'=>
   e=rX/\∃v,Cv H b S t w' (r.tok t rule d f g).1 v (h++(r.tok t rule d f g).2)/\Keep H b w w':=by
 have s:=p.d1;have u:=p.d4;by_cases j:t.act rule=2/\r.depth=4
 ·refine(zKd b H S t w r v0 _ _ m o rule d f g k j.1 j.2).mono ?_
  rintro e w' ⟨rfl,ao,cap,a,c⟩;refine⟨rfl,slice ao (h.length+1) cap,?_,c⟩;unfold Rs.tok Cv;rw[if_pos j,yE,kX];exact a
 ·by_cases l:t.act rule=3/\r.depth=1
  ·refine(zIE b H S t w r v0 _ _ m o rule d f g k l.1 l.2).mono ?_
   rintro e w' ⟨rfl,ao,cap,a,c⟩;refine⟨rfl,slice ao (h.length+1) cap,?_,c⟩;unfold Rs.tok Cv;rw[if_neg j,if_pos l,yE,kX];exact a
  ·by_cases q:t.act rule=1
   ·refine(zKb b H S t w r v0 _ _ m rule d f g k q s u (p.st _ (by omega))).mono ?_
    rintro e w' ⟨rfl,a,c⟩;refine⟨rfl,v0,?_,c⟩;unfold Rs.tok Cv Rs.moved;rw[if_neg j,if_neg l,if_neg (by omega),if_neg (by omega),if_pos q,dX];exact a
   ·by_cases x:t.act rule=2
    ·refine(zKc b H S t w r v0 _ _ m o rule d f g k x s (by omega) (ok.push _ k)).mono ?_
     rintro e w' ⟨rfl,ao,cap,a,c⟩;refine⟨rfl,slice ao (h.length+1) cap,?_,c⟩;unfold Rs.tok Cv Rs.moved;rw[if_neg j,if_neg l,if_neg (by omega),if_pos x,if_neg q,yE,kX];simpa[Ev.cells] using a
    ·by_cases y:t.act rule=3
     ·refine(zL4 b H S t w r v0 _ _ m o rule d f g k y (by omega) u (p.st _ (by omega))).mono ?_
      rintro e w' ⟨rfl,ao,cap,a,c⟩;refine⟨rfl,slice ao (h.length+1) cap,?_,c⟩;unfold Rs.tok Cv Rs.moved;rw[if_neg j,if_neg l,if_pos y,if_neg q,yE,kX];exact a
     ·refine(zKe b H S t w r v0 _ _ m o rule d f g k (by omega) s u (p.st _ (by omega))).mono ?_
      rintro e w' ⟨rfl,ao,cap,a,c⟩;refine⟨rfl,slice ao (h.length+1) cap,?_,c⟩;unfold Rs.tok Cv Rs.moved;rw[if_neg j,if_neg l,if_neg y,if_neg x,if_neg q,yE,kX];exact a
def Rs.fin (r:Rs)(t:Tb):Rs×List Ev:=
 if t.ends r.state≠-1/\t.longer r.ahead r.state=false then r.tok t (t.ends r.state).toNat r.hAt r.hLine r.hCol
 else if t.live r.state=false then({r with opn:=false},[r.lastEv 3])
 else(r,[])
theorem zGX (b H:Nat)(S:Nat->Prop)(t:Tb)(g w:World)(r:Rs){v0:Value}(c:List Ev)(l:Cv H b S t w r v0 c)(m:c.length<=4194304)(o:r.Ok t)(p:Keep H b g w)
  (f:Rs×List Ev) (q:f=if t.live r.state=false then({r with opn:=false},[r.lastEv 3]) else(r,[]))
  {s u x y z A B C D E F G I J K L M N O P R T U V W X Y aa ab ac ad ae af ag ah ai aj ak al am an ap aq ar au av aw ax ay az aA aB aC aD aE aF aG aH aI aJ aK aL aM aN aO aP aQ aR aS aT aU aV aW aX aY aZ a0 a1 a2 a3 a4 a5 a6 a7 a8 a9:Value}:
  Code.wp prog (qE 6 ((f109.body).getD .skip)) (bodyPost prog f109 λe w'=>
   e=rX/\∃v,Cv H b S t w' f.1 v (c++f.2)/\Keep H b g w')
   ⟨(pX b::s::u::x::y::z::A::B::C::D::E::F::G::I::J::K::L::M::N::O::P::R::T::U::V::W::X::Y::aa::ab::ac::ad::ae::af::ag::ah::ai::aj::ak::al::am::an::ap::aq::ar::au::av::aw::ax::ay::az::aA::aB::aC::aD::aE::aF::aG::aH::aI::aJ::aK::aL::aM::bool false::aN::aO::aP::aQ::aR::aS::aT::aU::aV::aW::aX::aY::aZ::a0::a1::a2::a3::a4::a5::a6::a7::a8::a9::[]).toArray,[]⟩ w:=by
 conv=>arg 2;whnf
 have a:=vl l;have h:=vl p;have j:=vl q;have bg:cX w b 0=some (pX r.tp):=a.run.get_tp;have bh:cX w b 11=some (iX r.state):=a.run.get_state;obtain⟨_,bi,ba,bb,bj,bk,rfl,bl,bm,bc⟩:=a.tab.c10;have bd:=o.state;have k:cX w ba (bb+r.state)=some (bool (t.live r.state)):=bc _ bd;have bn:(r.state:Int)<(t.nst:Int):=by omega
 cases d:t.live r.state
 ·rw[d] at k
  go_wp2;go_quiet (fail);go_wp2_with fail;refine(vW b H S t 3 _ r v0 _ _ (Cx.alike (w':=w.drewN nq) a ⟨rfl,rfl,rfl⟩) m).mono ?_;rintro e w2 ⟨rfl,ao,cap,c2,be⟩;have bf:=vl c2;go_wp2;go_end0;refine⟨rfl,slice ao (c.length+1) cap,?_,(h.trans (Keep.alike (w':=w.drewN nq) ⟨rfl,rfl,rfl⟩)).trans be⟩;rw[j.out,if_pos d];unfold Cv;rw[yE,kX];exact bf
 ·rw[d] at k
  go_wp2;go_quiet (fail);go_wp2;go_end0;refine⟨rfl,v0,?_,h.trans (Keep.alike (w':=w.drewN nq) ⟨rfl,rfl,rfl⟩)⟩;rw[j.out,if_neg (by rw[d];decide),dX];exact Cx.alike (w':=w.drewN nq) a ⟨rfl,rfl,rfl⟩
theorem zNv (b H:Nat)(S:Nat->Prop)(t:Tb)(g w:World)(r:Rs){v0:Value}(a:List Ev)(l:Cv H b S t w r v0 a)(m:a.length<=4194304)(ok:t.Ok)(o:∀i,i<t.nrule->t.act i<4)(h:r.Ok t)(p:Keep H b g w)(bc:¬t.ends r.state=-1)
  (f:Rs×List Ev) (d:f=r.tok t (t.ends r.state).toNat r.hAt r.hLine r.hCol)
  {q s u x y z A B C D E F G I J K L M N O P R T U V W X Y aa ab ac ad ae af ag ah ai aj ak al am an ao ap aq ar au av aw ax ay az aA aB aC aD aE aF aG aH aI aJ aK aL aM aN aO aP aQ aR aS aT aU aV aW aX aY aZ a0 a1 a2 a3 a4 a5 a6:Value}:
  Code.wp prog (qE 6 ((f109.body).getD .skip)) (bodyPost prog f109 λe w'=>
   e=rX/\∃v,Cv H b S t w' f.1 v (a++f.2)/\Keep H b g w')
   ⟨(pX b::q::s::iX (t.ends r.state)::u::x::y::z::A::B::C::D::E::F::G::I::J::K::L::M::N::O::P::R::T::U::V::W::X::Y::aa::ab::ac::ad::ae::af::ag::ah::ai::aj::ak::al::am::an::ao::ap::aq::ar::au::av::aw::ax::ay::az::aA::aB::aC::aD::aE::aF::aG::aH::aI::aJ::bool true::aK::aL::aM::aN::aO::aP::aQ::aR::aS::aT::aU::aV::aW::aX::aY::aZ::a0::a1::a2::a3::a4::a5::a6::[]).toArray,[]⟩ w:=by
 conv=>arg 2;whnf
 have ⟨bd,be⟩:=ok.ends r.state h.state;have ⟨k,a7⟩:=Int.eq_ofNat_of_zero_le (show 0<=t.ends r.state by omega);have j:k<t.nrule:=by omega
 rw[a7] at d ⊢;rw[Int.toNat_natCast] at d;have c:=vl l;have a8:=vl p;have a9:=vl d;have bf:=c.run.get_hAt;have bg:=c.run.get_hLine;have bh:=c.run.get_hCol;go_wp2_with fail;refine(zEx b H S t _ r a c m k r.hAt r.hLine r.hCol j (o k j) ok h).mono ?_;rintro e w2 ⟨rfl,v,c2,ba⟩;rw[<-a9.out] at c2;have bb:=vl c2;go_wp2;go_end0;exact⟨rfl,v,bb,a8.trans ba⟩
theorem zMb (b H:Nat)(S:Nat->Prop)(t:Tb)(c w:World)(r:Rs){v0:Value}(a:List Ev)(C:Cv H b S t w r v0 a)(l:a.length<=4194304)(ok:t.Ok)(D:∀i,i<t.nrule->t.act i<4)(j:r.Ok t)(q:r.ahead<t.rows)(E:Keep H b c w)
  {F G I J L M N O P R T U V W X Y aa ab ac ad ae af ag ah ai aj ak al am an ao ap aq ar au av aw ax ay az aA aB aC aD aE aF aG aH aI aJ aK aL aM aN aO aP aQ aR aS aT aU aV aW aX aY aZ a0 a1 a2 a3 a4 a5 a6 a7 a8 a9 ba bb bc bd be bf bg bh bi bj bk:Value}:
  Code.wp prog (qE 4 ((f109.body).getD .skip)) (bodyPost prog f109 λe w'=>
   e=rX/\∃v,Cv H b S t w' (r.fin t).1 v (a++(r.fin t).2)/\Keep H b c w')
   ⟨(pX b::F::G::I::J::L::M::N::O::P::R::T::U::V::W::X::Y::aa::ab::ac::ad::ae::af::ag::ah::ai::aj::ak::al::am::an::ao::ap::aq::ar::au::av::aw::ax::ay::az::aA::aB::aC::aD::aE::aF::aG::aH::aI::aJ::aK::aL::aM::aN::aO::aP::aQ::aR::aS::aT::aU::aV::aW::aX::aY::aZ::a0::a1::a2::a3::a4::a5::a6::a7::a8::a9::ba::bb::bc::bd::be::bf::bg::bh::bi::bj::bk::[]).toArray,[]⟩ w:=by
 conv=>arg 2;whnf
 have g:=vl C;have s:=vl E;apply wp_cut;intro bl u;have x:cX w b 0=some (pX r.tp):=g.run.get_tp;have y:cX w b 11=some (iX r.state):=g.run.get_state;obtain⟨_,bm,bn,bo,bs,bt,rfl,bu,bv,bp⟩:=g.tab.c9;have m:=j.state;have bq:cX w bn (bo+r.state)=some (iX (t.ends r.state)):=bp _ m;have bw:(r.state:Int)<(t.nst:Int):=by omega
 go_wp2;go_quiet (fail);go_wp2;apply u.out;clear u bq bm x y;obtain⟨w1,z,c1,o⟩:∃w1,w1=w.drewN nq/\Hid (Cv H b S t w1 r v0 a)/\Hid (Keep H b c w1):=⟨_,rfl,Cx.alike (w':=w.drewN nq) g ⟨rfl,rfl,rfl⟩,s.trans (Keep.alike ⟨rfl,rfl,rfl⟩)⟩
 rw[<-z];clear z g s;apply wp_cut;intro bl d;have x:cX w1 b 0=some (pX r.tp):=c1.run.get_tp;have y:cX w1 b 11=some (iX r.state):=c1.run.get_state;have bx:cX w1 b 81=some (iX r.ahead):=c1.run.get_ahead;have A:Hid (∀n,TabAt (w1.drewN n) S r.tp t):=λn=>(Cx.alike (w':=w1.drewN n) c1 ⟨rfl,rfl,rfl⟩).tab;by_cases f:t.ends r.state=-1
 ·have br:(t.ends r.state != -1)=false:=by rw[f];rfl
  have p:Hid (r.fin t=if t.live r.state=false then({r with opn:=false},[r.lastEv 3]) else(r,[])):=by show r.fin t=_;unfold Rs.fin;rw[if_neg (λk=>k.1 f)]
  clear f;go_wp2;go_quiet (fail);go_wp2;apply d.out;clear d;exact zGX b H S t c _ r a (Cx.alike (w':=w1.drewN nq) c1 ⟨rfl,rfl,rfl⟩) l j (o.trans (Keep.alike (w':=w1.drewN nq) ⟨rfl,rfl,rfl⟩)) _ p
 ·have br:(t.ends r.state != -1)=true:=by rw[bne_iff_ne];exact f
  cases B:t.longer r.ahead r.state
  ·go_wp2
   go_quiet ((go_at_call 155;exact Calls.quiet_of_same (zEK r.tp _ S t (A _) ok r.ahead r.state q m)));go_wp2;apply d.out;clear d;exact zNv b H S t c _ r a (Cx.alike (w':=w1.drewN nq) c1 ⟨rfl,rfl,rfl⟩) l ok D j (o.trans (Keep.alike (w':=w1.drewN nq) ⟨rfl,rfl,rfl⟩)) f _ (by unfold Rs.fin;rw[if_pos ⟨f,B⟩])
  ·have p:Hid (r.fin t=if t.live r.state=false then({r with opn:=false},[r.lastEv 3]) else(r,[])):=by show r.fin t=_;unfold Rs.fin;rw[if_neg (λk=>by rw[B] at k;exact absurd k.2 (by decide))]
   go_wp2;go_quiet ((go_at_call 155;exact Calls.quiet_of_same (zEK r.tp _ S t (A _) ok r.ahead r.state q m)));go_wp2;apply d.out;clear d;exact zGX b H S t c _ r a (Cx.alike (w':=w1.drewN nq) c1 ⟨rfl,rfl,rfl⟩) l j (o.trans (Keep.alike (w':=w1.drewN nq) ⟨rfl,rfl,rfl⟩)) _ p
def Rs.here1 (r:Rs)(c:Nat):Rs:={r with hAt:=r.hAt+1,hLine:=zAf c r.hLine,hCol:=zBu c r.hCol}
def Rs.took (r:Rs)(t:Tb):Rs:=
 {(({r with first:=(r.first+1)%64,count:=r.count-1}:Rs).here1 (r.byte r.first)) with state:=t.next r.state (t.kind (r.byte r.first))}
def Rs.step (r:Rs)(t:Tb):Rs×List Ev:=(r.took t).fin t
theorem Rs.took_ok (r:Rs)(t:Tb)(ok:t.Ok)(a:r.Ok t):(r.took t).Ok t:=
 ⟨a.d1,a.d4,a.st,ok.next _ _ a.state (ok.kind _ (a.bytes _ a.first)),hJ _ (by decide),lY (Nat.sub_le _ _) a.count,a.bytes⟩
theorem zIH (b H:Nat)(S:Nat->Prop)(t:Tb)(w:World)(r:Rs){v0:Value}(d:List Ev)(T:Cv H b S t w r v0 d)(U:d.length<=4194304)(ok:t.Ok)(V:∀i,i<t.nrule->t.act i<4)(g:r.Ok t)(W:1<=r.count)(X:r.ahead<t.rows)
  (Y:r.hAt<2147483648) (aa:r.hLine<2147483648) (ab:r.hCol<2147483648):
  Calls prog 109 #[pX b] w λe w'=>
   e=rX/\∃v,Cv H b S t w' (r.step t).1 v (d++(r.step t).2)/\Keep H b w w':=by
 have B:=vl T;go_in;apply wp_cut;intro l ac;go_wp2_with fail;refine(zJW b 0 _ r B.run g.first (by omega)).mono ?_;rintro e w1 ⟨rfl,C⟩;have c1:=vl <| B.alike C;have D:Hid (Keep H b w w1):=Keep.alike C;have E:=g.bytes r.first g.first
 rw[show (r.first+0)%64=r.first by have:=g.first;omega];generalize ad:r.byte r.first=c at *
 have ae:=vl ad;go_wp2;apply ac.out;apply wp_cut;intro l F;go_wp2_with fail;refine(zGd b 1 _ r c1.run g.first W g.count).mono ?_;rintro e w2 ⟨rfl,G,q⟩;have c2:Hid (Cv H b S t w2 {r with first:=(r.first+1)%64,count:=r.count-1} v0 d):=c1.kept q G rfl;have I:Hid (Keep H b w w2):=D.trans (q H);clear q G D c1;go_wp2_with fail;apply F.out;clear F;refine wp_seq_k ?_;intro l m;have J:Hid (∀a w,_->l a w):=m;clear m;have s:=c2.run.get_hAt;have u:=c2.run.get_hLine;have x:=c2.run.get_hCol;go_wp2_with fail;refine(zDQ r.hAt r.hLine r.hCol c _ Y aa ab E).mono ?_;rintro e y ⟨rfl,z⟩;have f:Hid (Cv H b S t y {r with first:=(r.first+1)%64,count:=r.count-1} v0 d):=c2.below z;have L:Hid (Keep H b w y):=I.trans (Keep.below z c2.HH);clear z c2 I s u x;have s:=f.run.get_hAt;have u:=f.run.get_hLine;have x:=f.run.get_hCol;have af:=f.run.frozen 78;have ag:=f.run.frozen 79;have ah:=f.run.frozen 80;go_wp2_with fail;apply J.out;clear J s u x af ag ah;obtain⟨j,M,k,N⟩:∃j,j=((y.setCell ⟨b,78,none⟩ (iX ((r.hAt:Int)+1))).setCell ⟨b,79,none⟩ (iX (zAf c r.hLine:Nat))).setCell ⟨b,80,none⟩ (iX (zBu c r.hCol:Nat))/\
   Hid (Cv H b S t j (({r with first:=(r.first+1)%64,count:=r.count-1}:Rs).here1 c) v0 d)/\Hid (Keep H b w j):=by
  have O:=Cx.stored f 78 _ (f.run.set_hAt (r.hAt+1)) rfl;have P:=O.stored 79 _ (O.run.set_hLine (zAf c r.hLine)) rfl;have ai:=P.stored 80 _ (P.run.set_hCol (zBu c r.hCol)) rfl;exact⟨_,rfl,ai,((L.trans (Keep.set _ _ _)).trans (Keep.set _ _ _)).trans (Keep.set _ _ _)⟩
 rw[<-M];clear M f L;refine wp_seq_k ?_;intro l m;have aj:Hid (∀a w,_->l a w):=m;clear m;have ap:cX j b 0=some (pX r.tp):=k.run.get_tp;have ak:cX j b 11=some (iX r.state):=k.run.get_state;have al:=k.run.frozen 11;have R:Hid (TabAt j.drew S r.tp t):=(Cx.alike (w':=j.drew) k ⟨rfl,rfl,rfl⟩).tab;go_wp2_with fail;go_region_with ((go_at_call 154;go_must ((refine (zFr r.tp _ S t R ok r.state c g.state E).mono ?_;rintro e o ⟨rfl,p⟩;have aq:cX o b 11=some (iX r.state):=(p.cell ⟨b,11,none⟩).trans ak;have ar:o.frozen? ⟨b,11,none⟩=false:=(p.frozen ⟨b,11,none⟩).trans al))))
 all_goals
  have A:Hid (Cv H b S t o (({r with first:=(r.first+1)%64,count:=r.count-1}:Rs).here1 c) v0 d):=Cx.alike k p;have am:Hid (Keep H b w o):=N.trans (Keep.alike p);have an:Hid (Cv H b S t (o.setCell ⟨b,11,none⟩ (iX (t.next r.state (t.kind c):Nat))) (r.took t) v0 d):=by
   have ao:=Cx.stored A 11 _ (A.run.set_state (t.next r.state (t.kind c))) rfl;show Cv H b S t _ (r.took t) v0 d;unfold Rs.took;rw[ae.out];exact ao
  clear k N R p A;go_wp2_with fail;apply aj.out;exact zMb b H S t w _ (r.took t) d an U ok V (r.took_ok t ok g) X (am.trans (Keep.set _ _ _))
section
variable (r:Rs) (t:Tb) (rule a l c:Nat) (ok:t.Ok) (b:r.Ok t)
structure Rs.Same (s r:Rs):Prop where
 count:s.count=r.count
 first:s.first=r.first
 byte:s.byte=r.byte
 hAt:s.hAt=r.hAt
 hLine:s.hLine=r.hLine
 hCol:s.hCol=r.hCol
 ahead:s.ahead=r.ahead
 tp:s.tp=r.tp
theorem Rs.tok_same:(r.tok t rule a l c).1.Same r:=by
 unfold Rs.tok Rs.moved;split
 ·exact⟨rfl,rfl,rfl,rfl,rfl,rfl,rfl,rfl⟩
 ·split
  ·exact⟨rfl,rfl,rfl,rfl,rfl,rfl,rfl,rfl⟩
  ·split
   ·exact⟨rfl,rfl,rfl,rfl,rfl,rfl,rfl,rfl⟩
   ·split <;> exact⟨rfl,rfl,rfl,rfl,rfl,rfl,rfl,rfl⟩
theorem Rs.tok_one:(r.tok t rule a l c).2.length<=1:=by
 unfold Rs.tok;split
 ·exact lQ
 ·split
  ·exact lQ
  ·show(if t.act rule=1 then[] else[_]:List Ev).length<=1
   split <;> simp
theorem Rs.tok_ok (ok:t.Ok)(b:r.Ok t)(g:rule<t.nrule):(r.tok t rule a l c).1.Ok t:=by
 unfold Rs.tok;split
 ·exact⟨b.d1,b.d4,b.st,b.state,b.first,b.count,b.bytes⟩
 ·split
  ·exact⟨b.d1,b.d4,b.st,b.state,b.first,b.count,b.bytes⟩
  ·rename_i k m
   have o:=b.d1;have p:=b.d4;have q:1<=(r.moved t rule).depth/\(r.moved t rule).depth<=4/\∀j,j<(r.moved t rule).depth->(r.moved t rule).stack j<t.nmode:=by
    unfold Rs.moved;split
    ·exact⟨by show 1<=r.depth-1;omega,by show r.depth-1<=4;omega,λj e=>b.st j (by have:j<r.depth-1:=e;omega)⟩
    ·split
     ·refine⟨by show 1<=r.depth+1;omega,by show r.depth+1<=4;omega,λj e=>?_⟩
      have v:j<r.depth+1:=e;show(if j=r.depth then t.push rule else r.stack j)<t.nmode;split
      ·exact ok.push _ g
      ·exact b.st j (by omega)
     ·exact⟨o,p,b.st⟩
   obtain⟨s,u,f⟩:=q;have d:=r.tok_same t rule a l c;unfold Rs.tok at d;rw[if_neg k,if_neg m] at d;exact⟨s,u,f,ok.start _ (f _ (by omega)),by rw[d.first];exact b.first,by rw[d.count];exact b.count,by rw[d.byte];exact b.bytes⟩
theorem Rs.fin_same:(r.fin t).1.Same r:=by
 unfold Rs.fin;split
 ·exact r.tok_same t _ _ _ _
 ·split <;> exact⟨rfl,rfl,rfl,rfl,rfl,rfl,rfl,rfl⟩
theorem Rs.fin_one:(r.fin t).2.length<=1:=by
 unfold Rs.fin;split
 ·exact r.tok_one t _ _ _ _
 ·split <;> simp
theorem Rs.fin_ok (ok:t.Ok)(a:r.Ok t):(r.fin t).1.Ok t:=by
 have c:=ok.ends r.state a.state;unfold Rs.fin;split
 ·rename_i b
  exact r.tok_ok t _ _ _ _ ok a (by have:=b.1;omega)
 ·split
  ·exact⟨a.d1,a.d4,a.st,a.state,a.first,a.count,a.bytes⟩
  ·exact a
end
theorem Cx.boxed {H b:Nat}{S:Nat->Prop}{t:Tb}{w:World}{r:Rs}{v0:Value}{n:Nat}{xs:List Value}(a:Cx H b S t w r v0 n xs)(g i:Nat)(x:Value)(u:H<=g)(c:v0.ownBlock≠some g):Cx H b S t (w.setCell ⟨g,i,none⟩ x) r v0 n xs:=by
 have f:=a.bH;refine⟨a.run.of_block (lJ _ _ _ _ (by show b≠g;omega)),⟨a.own.1,a.own.2.imp id ?_⟩,a.tab.keep λk j=>lJ _ _ _ _ (by have:=(a.safe k j).1;show k≠g;omega),f,by simpa[World.setCell] using a.HH,a.safe⟩;rintro⟨l,cap,m,d,o,p,q⟩;refine⟨l,cap,m,d,o,(lJ _ _ _ _ ?_).trans p,q⟩;intro e;have s:=e;rw[d,s] at c;exact c rfl
theorem Keep.boxed {H b:Nat}(w:World)(g i:Nat)(x:Value)(a:H<=g):Keep H b w (w.setCell ⟨g,i,none⟩ x):=
 ⟨rfl,rfl,by simp[World.setCell],λk c _=>lJ _ _ _ _ (by show k≠g;omega)⟩
def Rs.cut (r:Rs):Rs:={r with first:=(r.first+r.length)%64,count:=r.count-r.length,taken:=0,length:=0}
theorem zMD (b H:Nat)(S:Nat->Prop)(t:Tb)(o w:World)(r:Rs){v0:Value}(c:List Ev)(J:Cv H b S t w r v0 c)(L:c.length<=4194304)(ok:t.Ok)(M:∀i,i<t.nrule->t.act i<4)(a:r.Ok t)(N:r.length<=r.count)(k:Nat)(O:r.rule=k)(x:k<t.nrule)(P:Keep H b o w)
  (g d h j:Nat) (a8:H<=g) (R:w.heap[g]? =some (.cells #[iX d,iX h,iX j] 97)) (f:Rs×List Ev) (T:f=r.cut.tok t k d h j)
  {U V W X Y aa ab ac ad ae af ag ah ai aj ak al am an ao ap aq ar au av aw ax ay az aA aB aC aD aE aF aG aH aI aJ aK aL aM aN aO aP aQ aR aS aT:Value}:
  Code.wp prog (qE 3 ((f119.body).getD .skip)) (bodyPost prog f119 λe w'=>
   e=rX/\∃v,Cv H b S t w' f.1 v (c++f.2)/\Keep H b o w')
   ⟨(pX b::U::pX g::V::W::X::Y::aa::ab::ac::ad::ae::af::ag::ah::ai::aj::ak::al::am::an::ao::ap::aq::ar::au::av::aw::ax::ay::az::aA::aB::aC::aD::aE::aF::aG::aH::aI::aJ::aK::aL::aM::aN::aO::aP::aQ::aR::aS::aT::[]).toArray,[]⟩ w:=by
 conv=>arg 2;whnf
 have m:=vl J;have aU:=vl P;have aV:=vl T;have aW:=vl R;have y:=vl O;have z:=m.run.get_length;have p:g≠b:=by have:=m.bH;omega
 apply wp_cut;intro a9 aX;go_wp2;go_region_with ((go_at_call 152;go_must ((refine (zGd b r.length _ r (Cx.alike (w':=w.drew) m ⟨rfl,rfl,rfl⟩).run a.first N a.count).mono ?_;rintro e w1 ⟨rfl,aY,q⟩))))
 all_goals
  have c1:=vl <| Cx.kept (Cx.alike (w':=w.drew) m ⟨rfl,rfl,rfl⟩) q aY rfl;have A:=vl <| (aU.trans (Keep.drew _)).trans (q H);have l:=vl <| ((q (g+1)).block g (by omega) p).trans aW;go_wp2;apply aX.out;have aZ:=c1.run.get_taken;have z:=c1.run.get_length;have B:cX w1 b 84=some (iX k):=by rw[<-y.out];exact c1.run.get_rule
  have a0:=c1.run.frozen 82;have a1:=c1.run.frozen 83;have C:cX w1 g 0=some (iX d):=by simp[World.cell?,l.out]
  have D:cX w1 g 1=some (iX h):=by simp[World.cell?,l.out]
  have E:cX w1 g 2=some (iX j):=by simp[World.cell?,l.out]
  go_wp2;obtain⟨w2,F,c2,a2,s⟩:∃w2,w2=(w1.setCell ⟨b,82,none⟩ zX).setCell ⟨b,83,none⟩ zX/\Hid (Cv H b S t w2 r.cut v0 c)/\Hid (Keep H b o w2)/\Hid (w2.heap[g]? =some (.cells #[iX d,iX h,iX j] 97)):=by
   have G:=Cx.stored c1 82 _ (c1.run.set_taken 0) rfl;have a3:=G.stored 83 _ (G.run.set_length 0) rfl;exact⟨_,rfl,a3,(A.trans (Keep.set _ _ _)).trans (Keep.set _ _ _),((lJ _ _ _ _ (by exact p)).trans (lJ _ _ _ _ (by exact p))).trans l⟩
  rw[<-F];clear F c1 A l aZ z B a0 a1 C D E;have B:cX w2 b 84=some (iX k):=by rw[<-y.out];exact c2.run.get_rule
  have C:cX w2 g 0=some (iX d):=by simp[World.cell?,s.out]
  have D:cX w2 g 1=some (iX h):=by simp[World.cell?,s.out]
  have E:cX w2 g 2=some (iX j):=by simp[World.cell?,s.out]
  have a4:r.cut.Ok t:=⟨a.d1,a.d4,a.st,a.state,hJ _ (by decide),lY (Nat.sub_le _ _) a.count,a.bytes⟩
  go_region_with ((go_at_call 156;go_must ((refine (zEx b H S t _ r.cut c (Cx.alike (w':=w2.drew) c2 ⟨rfl,rfl,rfl⟩) L k d h j x (M k x) ok a4).mono ?_;rintro e I ⟨rfl,u,a5,a6⟩))))
  all_goals
   have a7:Hid (Cv H b S t I f.1 u (c++f.2)):=by show Cv H b S t I f.1 u (c++f.2);rw[aV.out];exact a5
   go_wp2;go_end0;exact⟨rfl,u,a7,(a2.trans (Keep.drew _)).trans a6⟩
def Rs.lineTo (r:Rs):Nat->Nat
 |0=>r.bLine
 |i+1=>zAf (r.byte ((r.first+i)%64)) (r.lineTo i)
def Rs.colTo (r:Rs):Nat->Nat
 |0=>r.bCol
 |i+1=>zBu (r.byte ((r.first+i)%64)) (r.colTo i)
theorem Rs.lineTo_le (r:Rs)(i:Nat):r.lineTo i<=r.bLine+i:=by
 induction i with
 |zero=>exact lQ
 |succ i a=>simp only[Rs.lineTo];unfold zAf;split <;> omega
theorem Rs.colTo_le (r:Rs)(i:Nat):r.colTo i<=r.bCol+i+1:=by
 induction i with
 |zero=>exact Nat.le_succ _
 |succ i a=>simp only[Rs.colTo];unfold zBu;split <;> omega
theorem zME (b H:Nat)(S:Nat->Prop)(t:Tb)(z w:World)(r:Rs){v0:Value}(y:List Ev)(T:Cv H b S t w r v0 y)(ae:y.length<=4194304)(ok:t.Ok)(af:∀i,i<t.nrule->t.act i<4)(G:r.Ok t)(ag:r.length<=r.count)(k:Nat)(U:r.rule=k)(ah:k<t.nrule)(V:Keep H b z w)
  (bu:r.bAt+64<2147483648) (bv:r.bLine+64<2147483648) (bw:r.bCol+65<2147483648)
  (g:Nat) (B:H<=g) (O:v0.ownBlock≠some g) (W:w.heap[g]? =some (.cells #[iX r.bAt,iX r.bLine,iX r.bCol] 97)) (f:Rs×List Ev) (X:f=r.cut.tok t k (r.bAt+r.length) (r.lineTo r.length) (r.colTo r.length))
  {ai aj ak al am an ao ap aq ar au av aw ax ay az aA aB aC aD aE aF aG aH aI aJ aK aL aM aN aO aP aQ aR aS aT aU aV aW aX aY aZ a0 a4 a5 a6 a7 a8 a9:Value}:
  Code.wp prog (qE 2 ((f119.body).getD .skip)) (bodyPost prog f119 λe w'=>
   e=rX/\∃v,Cv H b S t w' f.1 v (y++f.2)/\Keep H b z w')
   ⟨(pX b::ai::pX g::aj::ak::al::am::an::ao::ap::aq::ar::au::av::aw::ax::ay::az::aA::aB::aC::aD::aE::aF::aG::aH::aI::aJ::aK::aL::aM::aN::aO::aP::aQ::aR::aS::aT::aU::aV::aW::aX::aY::aZ::a0::a4::a5::a6::a7::a8::a9::[]).toArray,[]⟩ w:=by
 conv=>arg 2;whnf
 refine wp_seq_k ?_;intro ba hK0;have bb:Hid (∀a w,_->ba a w):=hK0;have bc:Hid (Cv H b S t w r v0 y):=T;have bd:Hid (Keep H b z w):=V;have be:Hid (f=r.cut.tok t k (r.bAt+r.length) (r.lineTo r.length) (r.colTo r.length)):=X;have bf:Hid (w.heap[g]? =some (.cells #[iX r.bAt,iX r.bLine,iX r.bCol] 97)):=W;have bg:Hid (r.rule=k):=U;have bx:=G.count;clear T V X W U hK0;go_wp2_with fail;go_loopg [3] r.length (λq i wr=>∃(j d l C:Nat),q=r.length-j/\j<=r.length/\i=iX (j:Int)/\d=r.bAt+j/\l=r.lineTo j/\C=r.colTo j/\Cv H b S t wr r v0 y/\Keep H b z wr/\wr.heap[g]? =some (.cells #[iX d,iX l,iX C] 97))
 case atStart=>exact⟨0,r.bAt,r.bLine,r.bCol,rfl,lX,rfl,rfl,rfl,rfl,bc,bd,bf⟩
 case round=>
  obtain⟨j,d,l,C,Y,bz,rfl,I,J,M,E,N,u⟩:=hrel;have x:Hid (gk=r.length-j/\d=r.bAt+j/\l=r.lineTo j/\C=r.colTo j/\Cv H b S t wr r v0 y/\Keep H b z wr/\wr.heap[g]? =some (.cells #[iX d,iX l,iX C] 97)):=⟨Y,I,J,M,E,N,u⟩
  have bh:=r.lineTo_le j;have q2:=r.colTo_le j;have bi:d<2147483648:=by omega
  have bj:l<2147483648:=by omega
  have bk:C<2147483648:=by omega
  have bA:cX wr b 83=some (iX r.length):=E.run.get_length;have bl:cX wr g 0=some (iX d):=by simp[World.cell?,u]
  have bm:cX wr g 1=some (iX l):=by simp[World.cell?,u]
  have bn:cX wr g 2=some (iX C):=by simp[World.cell?,u]
  have fz:Hid (∀i,wr.frozen? ⟨g,i,none⟩=false):=λi=>by simp[World.frozen?,u]
  have bo:g<wr.heap.size:=(kQ.1 u).1;clear Y I J M E N u bh q2;by_cases bB:j<r.length
  ·have bp:(j:Int)<(r.length:Int):=by omega
   have bq:=G.bytes ((r.first+j)%64) (hJ _ (by decide));have aa:Hid (r.lineTo (j+1)=zAf (r.byte ((r.first+j)%64)) (r.lineTo j)/\r.colTo (j+1)=zBu (r.byte ((r.first+j)%64)) (r.colTo j)):=⟨rfl,rfl⟩
   have br:Hid (Ca 151 #[pointer (some ⟨b,12,none⟩),iX j] wr.drew λe w'=>e=returned (int .u8 (r.byte ((r.first+j)%64)))/\w'.Alike wr.drew):=zJW b j _ r (Cx.alike (w':=wr.drew) x.2.2.2.2.1 ⟨rfl,rfl,rfl⟩).run G.first (by omega)
   generalize r.byte ((r.first+j)%64)=c at *;go_wp2_with fail;go_region_with ((first|(go_at_call 151;go_must ((refine Calls.mono br ?_;rintro e F ⟨rfl,m⟩;have m0:cX F g 0=some (iX d):=(m.cell ⟨g,0,none⟩).trans bl;have m1:cX F g 1=some (iX l):=(m.cell ⟨g,1,none⟩).trans bm;have m2:cX F g 2=some (iX C):=(m.cell ⟨g,2,none⟩).trans bn)))|(go_at_call 153;go_must ((refine (zDQ d l C c _ bi bj bk bq).mono ?_;rintro e o ⟨rfl,s⟩;have D:g<F.heap.size:=Nat.lt_of_lt_of_eq bo (congrArg Array.size m.1).symm;have bC:cX o g 0=some (iX d):=(s.cell (p:=⟨g,0,none⟩) D).trans m0;have bD:cX o g 1=some (iX l):=(s.cell (p:=⟨g,1,none⟩) D).trans m1;have bE:cX o g 2=some (iX C):=(s.cell (p:=⟨g,2,none⟩) D).trans m2;have bF:o.frozen? ⟨g,0,none⟩=false:=(s.frozen (p:=⟨g,0,none⟩) D).trans ((m.frozen ⟨g,0,none⟩).trans (fz 0));have bG:o.frozen? ⟨g,1,none⟩=false:=(s.frozen (p:=⟨g,1,none⟩) D).trans ((m.frozen ⟨g,1,none⟩).trans (fz 1));have bH:o.frozen? ⟨g,2,none⟩=false:=(s.frozen (p:=⟨g,2,none⟩) D).trans ((m.frozen ⟨g,2,none⟩).trans (fz 2)))))))
   all_goals
    have ab:F.heap[g]? =wr.heap[g]? :=congrArg (λbs=>bs[g]?) m.1;have ac:o.heap[g]? =some (.cells #[iX d,iX l,iX C] 97):=(s.block g D).trans (ab.trans x.2.2.2.2.2.2);have P:=Cx.alike x.2.2.2.2.1 m;have ad:=Cx.below P s;have R:Hid (Cv H b S t (((o.setCell ⟨g,0,none⟩ (iX ((d:Int)+1))).setCell ⟨g,1,none⟩ (iX (zAf c l:Nat))).setCell ⟨g,2,none⟩ (iX (zBu c C:Nat))) r v0 y/\
      Keep H b z (((o.setCell ⟨g,0,none⟩ (iX ((d:Int)+1))).setCell ⟨g,1,none⟩ (iX (zAf c l:Nat))).setCell ⟨g,2,none⟩ (iX (zBu c C:Nat)))/\
      (((o.setCell ⟨g,0,none⟩ (iX ((d:Int)+1))).setCell ⟨g,1,none⟩ (iX (zAf c l:Nat))).setCell ⟨g,2,none⟩ (iX (zBu c C:Nat))).heap[g]? =some (.cells #[iX ((d+1:Nat):Int),iX (zAf c l:Nat),iX (zBu c C:Nat)] 97)):=by
     refine⟨((Cx.boxed ad g 0 _ B O).boxed g 1 _ B O).boxed g 2 _ B O,((((x.2.2.2.2.2.1.trans (Keep.alike m)).trans (Keep.below s P.HH)).trans (Keep.boxed _ g 0 _ B)).trans (Keep.boxed _ g 1 _ B)).trans (Keep.boxed _ g 2 _ B),?_⟩;simp[setCell,lU,ac]
    clear ab ac P ad s m;go_wp2_with fail;go_roundg (r.length-(j+1))
    case measure=>rw[x.out.1];omega
    case rel=>exact⟨j+1,d+1,zAf c l,zBu c C,rfl,by omega,congrArg (Value.int IntKind.i64) (by omega),by rw[x.out.2.1];omega,by rw[aa.out.1,x.out.2.2.1],by rw[aa.out.2,x.out.2.2.2.1],R.1,R.2.1,R.2.2⟩
  ·have bp:(r.length:Int)<=(j:Int):=by omega
   have bt:Hid (j=r.length):=by show j=_;omega
   go_wp2_with fail;apply bb.out;have ⟨_,I,J,M,E,N,u⟩:=x.out;exact zMD b H S t z _ r y E ae ok af G ag k bg ah N g d l C B u f (by rw[be.out,I,J,M,bt.out])
def Rs.long (r:Rs)(t:Tb):Rs×List Ev:=
 if r.length=0 then({r with opn:=false},[r.lastEv 3])
 else r.cut.tok t r.rule.toNat (r.bAt+r.length) (r.lineTo r.length) (r.colTo r.length)
theorem zBj (b H:Nat)(S:Nat->Prop)(t:Tb)(w:World)(r:Rs){v0:Value}(c:List Ev)(f:Cv H b S t w r v0 c)(g:c.length<=4194304)(ok:t.Ok)(l:∀i,i<t.nrule->t.act i<4)(m:r.Ok t)(o:r.length<=r.count)(E:r.length=0\/(0<=r.rule/\r.rule<t.nrule))
  (p:r.bAt+64<2147483648) (q:r.bLine+64<2147483648) (s:r.bCol+65<2147483648):
  Calls prog 119 #[pX b] w λe w'=>
   e=rX/\∃v,Cv H b S t w' (r.long t).1 v (c++(r.long t).2)/\Keep H b w w':=by
 have a:=vl f;have F:=f.run.get_length;by_cases h:r.length=0
 ·have u:((r.length:Int)==0)=true:=by rw[beq_iff_eq];omega
  have d:Hid (r.long t=({r with opn:=false},[r.lastEv 3])):=by show r.long t=_;unfold Rs.long;rw[if_pos h]
  go_in;go_wp2_with fail;refine(vW b H S t 3 _ r v0 _ _ a g).mono ?_;rintro e w2 ⟨rfl,ao,cap,c2,x⟩;have y:=vl c2;go_wp2;refine gJ (results_none rfl _ _ _) rfl ?_;refine⟨rfl,slice ao (c.length+1) cap,?_,x⟩;rw[d.out];unfold Cv;rw[yE,kX];exact y
 ·have u:((r.length:Int)==0)=false:=by rw[hX];omega
  have ⟨k,j⟩:=Int.eq_ofNat_of_zero_le (show 0<=r.rule by omega);have z:k<t.nrule:=by omega
  have A:=vl j;have d:Hid (r.long t=r.cut.tok t k (r.bAt+r.length) (r.lineTo r.length) (r.colTo r.length)):=by show r.long t=_;unfold Rs.long;rw[if_neg h,j];rfl
  have G:=a.run.get_bAt;have I:=a.run.get_bLine;have J:=a.run.get_bCol;go_in;apply wp_cut;intro B C;go_wp2;apply C.out;apply wp_cut;intro B D;go_wp2;apply D.out;exact zME b H S t w _ r c (Cx.alloc a _) g ok l m o k A z (kZ _ _ a.HH) p q s w.heap.size a.HH (λe=>by have:=(a.own.lt _ e).2;omega) (gY w _) _ d
section
variable (r:Rs) (t:Tb)
def Rs.ate (r:Rs)(t:Tb):Rs:={r with taken:=r.taken+1,state:=t.next r.state (t.kind (r.byte ((r.first+r.taken)%64)))}
def Rs.marked (r:Rs)(t:Tb):Rs:=if t.ends r.state=-1 then r else{r with rule:=t.ends r.state,length:=r.taken}
def Rs.judged (r:Rs)(t:Tb):Rs×List Ev:=if t.live r.state then(r,[]) else r.long t
def Rs.heldStep (r:Rs)(t:Tb):Rs×List Ev:=((r.ate t).marked t).judged t
def Rs.heldN (r:Rs)(t:Tb):Nat->Rs×List Ev
 |0=>(r,[])
 |n+1=>if(r.heldN t n).1.taken<(r.heldN t n).1.count/\(r.heldN t n).1.opn=true then(((r.heldN t n).1.heldStep t).1,(r.heldN t n).2++((r.heldN t n).1.heldStep t).2) else r.heldN t n
structure Rs.Oth (r:Rs)(t:Tb)(P:Nat):Prop where
 ok:r.Ok t
 len:r.length<=r.taken
 tak:r.taken<=r.count
 rule:r.length=0\/(0<=r.rule/\r.rule<t.nrule)
 pos:r.bAt+r.count<=P
 line:r.bLine<=r.bAt+1
 col1:1<=r.bCol
 col:r.bCol<=r.bAt+1
def xK (b:Bool):Nat:=if b then 1 else 0
def Rs.todo (r:Rs):Nat:=r.count*65+(r.count-r.taken)
theorem Rs.colTo_le2 (a:1<=r.bCol)(i:Nat):1<=r.colTo i/\r.colTo i<=r.bCol+i:=by
 induction i with
 |zero=>exact⟨a,lQ⟩
 |succ i b=>simp only[Rs.colTo];unfold zBu;split <;> omega
theorem Rs.ate_oth (P:Nat)(ok:t.Ok)(a:r.Oth t P)(b:r.taken<r.count):(r.ate t).Oth t P:=
 ⟨⟨a.ok.d1,a.ok.d4,a.ok.st,ok.next _ _ a.ok.state (ok.kind _ (a.ok.bytes _ (hJ _ (by decide)))),a.ok.first,a.ok.count,a.ok.bytes⟩,Nat.le_succ_of_le a.len,b,a.rule,a.pos,a.line,a.col1,a.col⟩
theorem Rs.marked_oth (P:Nat)(ok:t.Ok)(a:r.Oth t P):(r.marked t).Oth t P:=by
 unfold Rs.marked;split
 ·exact a
 ·rename_i b
  have e:=ok.ends r.state a.ok.state;exact⟨⟨a.ok.d1,a.ok.d4,a.ok.st,a.ok.state,a.ok.first,a.ok.count,a.ok.bytes⟩,lQ,a.tak,.inr ⟨by show 0<=t.ends r.state;omega,by show t.ends r.state<t.nrule;omega⟩,a.pos,a.line,a.col1,a.col⟩
theorem Rs.marked_same:(r.marked t).count=r.count/\(r.marked t).taken=r.taken/\(r.marked t).opn=r.opn/\(r.marked t).state=r.state:=by
 unfold Rs.marked;split <;> exact⟨rfl,rfl,rfl,rfl⟩
theorem Rs.tok_opn (rule a l c:Nat):((r.tok t rule a l c).1.opn=r.opn\/(r.tok t rule a l c).2≠[])/\((r.tok t rule a l c).1.opn=true->r.opn=true)/\((r.tok t rule a l c).1.taken=r.taken/\(r.tok t rule a l c).1.length=r.length)/\(((r.tok t rule a l c).1.bAt=r.bAt/\(r.tok t rule a l c).1.bLine=r.bLine/\(r.tok t rule a l c).1.bCol=r.bCol/\(r.tok t rule a l c).1.opn=false)\/((r.tok t rule a l c).1.bAt=a/\(r.tok t rule a l c).1.bLine=l/\(r.tok t rule a l c).1.bCol=c)):=by
 unfold Rs.tok Rs.moved;split
 ·exact⟨.inr (by simp),(λb=>by cases b),⟨rfl,rfl⟩,.inl ⟨rfl,rfl,rfl,rfl⟩⟩
 ·split
  ·exact⟨.inr (by simp),(λb=>by cases b),⟨rfl,rfl⟩,.inl ⟨rfl,rfl,rfl,rfl⟩⟩
  ·split
   ·exact⟨.inl rfl,id,⟨rfl,rfl⟩,.inr ⟨rfl,rfl,rfl⟩⟩
   ·split <;> exact⟨.inl rfl,id,⟨rfl,rfl⟩,.inr ⟨rfl,rfl,rfl⟩⟩
theorem Rs.long_inv (P:Nat)(ok:t.Ok)(a:r.Oth t P)(j:r.opn=true)(w:1<=r.count):
  (r.long t).1.Oth t P/\(r.long t).2.length+(r.long t).1.count+xK (r.long t).1.opn<=r.count+1/\((r.long t).1.opn=true\/(r.long t).2≠[])/\((r.long t).1.count<r.count\/((r.long t).1.opn=false/\(r.long t).1.count=r.count/\(r.long t).1.taken=r.taken)):=by
 unfold Rs.long;have x:=a.len;have y:=a.tak;split
 ·refine⟨⟨⟨a.ok.d1,a.ok.d4,a.ok.st,a.ok.state,a.ok.first,a.ok.count,a.ok.bytes⟩,a.len,a.tak,a.rule,a.pos,a.line,a.col1,a.col⟩,?_,.inr (by simp),.inr ⟨rfl,rfl,rfl⟩⟩
  show 1+r.count+0<=r.count+1;omega
 ·rename_i k
  have z:=a.rule.resolve_left k;have l:r.rule.toNat<t.nrule:=by omega
  have hcut:r.cut.Ok t:=⟨a.ok.d1,a.ok.d4,a.ok.st,a.ok.state,hJ _ (by decide),lY (Nat.sub_le _ _) a.ok.count,a.ok.bytes⟩
  have m:=r.cut.tok_ok t r.rule.toNat (r.bAt+r.length) (r.lineTo r.length) (r.colTo r.length) ok hcut l;have o:=r.cut.tok_same t r.rule.toNat (r.bAt+r.length) (r.lineTo r.length) (r.colTo r.length)
  have A:=r.cut.tok_one t r.rule.toNat (r.bAt+r.length) (r.lineTo r.length) (r.colTo r.length)
  have ⟨b,B,⟨p,q⟩,d⟩:=r.cut.tok_opn t r.rule.toNat (r.bAt+r.length) (r.lineTo r.length) (r.colTo r.length)
  generalize r.cut.tok t r.rule.toNat (r.bAt+r.length) (r.lineTo r.length) (r.colTo r.length)=f at *;have C:f.1.count=r.count-r.length:=o.count;have D:f.1.taken=0:=p;have s:f.1.length=0:=q;have E:=a.pos;have F:=a.line;have u:=a.col1;have G:=a.col;have H:=r.lineTo_le r.length;have q2:=r.colTo_le2 u r.length;refine⟨⟨m,by omega,by omega,.inl s,?_,?_,?_,?_⟩,?_,?_,.inl (by omega)⟩
  ·rcases d with⟨e,_⟩|⟨e,_⟩
   ·have g:f.1.bAt=r.bAt:=e
    omega
   ·omega
  ·rcases d with⟨e,c,_⟩|⟨e,c,_⟩
   ·have g:f.1.bAt=r.bAt:=e
    have v:f.1.bLine=r.bLine:=c;omega
   ·omega
  ·rcases d with⟨_,_,e,_⟩|⟨_,_,e⟩
   ·have g:f.1.bCol=r.bCol:=e
    omega
   ·omega
  ·rcases d with⟨e,_,c,_⟩|⟨e,_,c⟩
   ·have g:f.1.bAt=r.bAt:=e
    have v:f.1.bCol=r.bCol:=c;omega
   ·omega
  ·have:xK f.1.opn<=1:=by unfold xK;split <;> omega
   omega
  ·rcases b with b|b
   ·left
    rw[b];exact j
   ·exact .inr b
theorem Rs.held_inv (P:Nat)(ok:t.Ok)(c:r.Oth t P)(g:r.opn=true)(j:r.taken<r.count):
  (r.heldStep t).1.Oth t P/\(r.heldStep t).2.length+(r.heldStep t).1.count+xK (r.heldStep t).1.opn<=r.count+1/\((r.heldStep t).1.opn=true\/(r.heldStep t).2≠[])/\(r.heldStep t).1.todo<r.todo:=by
 have d:=(r.ate t).marked_oth t P ok (r.ate_oth t P ok c j);have ⟨m1,m2,k,o⟩:=(r.ate t).marked_same t;have b:((r.ate t).marked t).opn=true:=by rw[k];exact g
 have c1:((r.ate t).marked t).count=r.count:=m1;have c2:((r.ate t).marked t).taken=r.taken+1:=m2;have p:=c.ok.count;unfold Rs.heldStep Rs.judged;split
 ·refine⟨d,?_,.inl b,?_⟩
  ·show 0+((r.ate t).marked t).count+xK ((r.ate t).marked t).opn<=r.count+1
   rw[b,c1];show 0+r.count+1<=r.count+1;omega
  ·show((r.ate t).marked t).todo<r.todo
   unfold Rs.todo;rw[c1,c2];omega
 ·have ⟨e,f,l,a⟩:=((r.ate t).marked t).long_inv t P ok d b (by omega)
  refine⟨e,by rw[c1] at f;exact f,l,?_⟩;unfold Rs.todo;have:=e.tak;rcases a with a|⟨_,a,m⟩
  ·rw[c1] at a
   omega
  ·rw[a,m,c1,c2]
   omega
end
theorem zOH (b i:Nat)(w:World)(r:Rs){v0:Value}(a:zN w b r v0)(c:r.first<64)(d:i<64):
  Calls prog 151 #[pointer (some ⟨b,12,none⟩),iX i] w λe w'=>e=returned (int .u8 (r.byte ((r.first+i)%64)))/\∃m,w'=w.drewN m:=by
 have g:=a.get_first;have h:=a.get_byte ((r.first+i)%64) (hJ _ (by decide));clear a;generalize r.first=f at *
 go_enter func151,ntmps151
 go_wp2;go_quiet (fail);go_wp2;go_ret;exact⟨rfl,_,rfl⟩
theorem zFp (b H:Nat)(S:Nat->Prop)(t:Tb)(w:World)(r0:Rs){v0:Value}(es0:List Ev)(P C:Nat)(hC:Cv H b S t w r0 v0 es0)(ok:t.Ok)(hact:∀i,i<t.nrule->t.act i<4)(hO:r0.Oth t P)(hP:P<=1073741824)(hn:es0.length+r0.count+xK r0.opn<=C)(hC4:C<=4194304):
  Calls prog 111 #[pX b] w λe w'=>
   e=rX/\∃v n,Cv H b S t w' (r0.heldN t n).1 v (es0++(r0.heldN t n).2)/\Keep H b w w'/\(r0.heldN t n).1.Oth t P/\(es0++(r0.heldN t n).2).length+(r0.heldN t n).1.count+xK (r0.heldN t n).1.opn<=C/\¬((r0.heldN t n).1.taken<(r0.heldN t n).1.count/\(r0.heldN t n).1.opn=true):=by
 have HC0:Hid (Cv H b S t w r0 v0 es0/\r0.Oth t P/\es0.length+r0.count+xK r0.opn<=C):=⟨hC,hO,hn⟩
 clear hC hO hn;go_enter func111,ntmps111
 go_wp2_with fail;go_loopg [] r0.todo (λq wr=>∃(n:Nat) (r:Rs) (es:List Ev) (v:Value),q=r.todo/\r0.heldN t n=(r,es)/\Cv H b S t wr r v (es0++es)/\Keep H b w wr/\r.Oth t P/\(es0++es).length+r.count+xK r.opn<=C)
 case atStart=>exact⟨0,r0,[],v0,rfl,rfl,by rw[dX];exact HC0.1,Keep.refl _ _ _,HC0.2.1,by rw[dX];exact HC0.2.2⟩
 case round=>
  obtain⟨n,r,es,v,hgk,hN,hC,hk,hO,hn⟩:=hrel;have AA:Hid (gk=r.todo/\r0.heldN t n=(r,es)/\Cv H b S t wr r v (es0++es)/\Keep H b w wr/\r.Oth t P/\(es0++es).length+r.count+xK r.opn<=C):=⟨hgk,hN,hC,hk,hO,hn⟩
  have y1:cX wr b 1=some (bool r.opn):=hC.run.get_opn;have y77:cX wr b 77=some (iX r.count):=hC.run.get_count;have y82:cX wr b 82=some (iX r.taken):=hC.run.get_taken;have hok:=hO.ok;have htk:=hO.tak;have hct:=hO.ok.count;clear hgk hN hC hk hO hn;by_cases hcond:r.taken<r.count/\r.opn=true
  ·obtain⟨hlt,hop⟩:=hcond
   have i1:(r.taken:Int)<(r.count:Int):=by omega
   rw[hop] at y1;have HOP:Hid (r.opn=true):=hop;clear hop;go_wp2_with fail;go_quiet (fail);obtain⟨w1,hw1,C1,K1⟩:∃w1,w1=wr.drewN nq/\Hid (Cv H b S t w1 r v (es0++es))/\Hid (Keep H b w w1):=⟨_,rfl,Cx.alike (w':=wr.drewN nq) AA.2.2.1 ⟨rfl,rfl,rfl⟩,AA.2.2.2.1.trans (Keep.alike ⟨rfl,rfl,rfl⟩)⟩
   rw[<-hw1];clear hw1 y1 y77 y82;have y82:cX w1 b 82=some (iX r.taken):=C1.run.get_taken;have HAT:Hid (∀q,Ca 151 #[pointer (some ⟨b,12,none⟩),iX r.taken] (w1.drewN q) λe w'=>e=returned (int .u8 (r.byte ((r.first+r.taken)%64)))/\∃m,w'=(w1.drewN q).drewN m):=λq=>zOH b r.taken _ r (Cx.alike (w':=w1.drewN q) C1 ⟨rfl,rfl,rfl⟩).run hok.first (by omega)
   have hcb:=hok.bytes ((r.first+r.taken)%64) (hJ _ (by decide));have HST:Hid (r.ate t={r with taken:=r.taken+1,state:=t.next r.state (t.kind (r.byte ((r.first+r.taken)%64)))}):=rfl;generalize r.byte ((r.first+r.taken)%64)=c at *;have hst:=hok.state;have HOT:Hid (r.Oth t P):=AA.2.2.2.2.1;go_wp2_with fail;go_quiet ((go_at_call 151;exact Calls.quiet_of (HAT _)));obtain⟨w2,hw2,C2,K2⟩:∃w2,w2=w1.drewN nq/\Hid (Cv H b S t w2 r v (es0++es))/\Hid (Keep H b w w2):=⟨_,rfl,Cx.alike (w':=w1.drewN nq) C1 ⟨rfl,rfl,rfl⟩,K1.trans (Keep.alike ⟨rfl,rfl,rfl⟩)⟩
   rw[<-hw2];clear hw2 y82 C1 K1 HAT;have y82:cX w2 b 82=some (iX r.taken):=C2.run.get_taken;have z82:=C2.run.frozen 82;have y0:cX w2 b 0=some (pX r.tp):=C2.run.get_tp;have y11:cX w2 b 11=some (iX r.state):=C2.run.get_state;go_wp2_with fail;obtain⟨w3,hw3,C3,K3⟩:∃w3,w3=w2.setCell ⟨b,82,none⟩ (iX ((r.taken:Int)+1))/\Hid (Cv H b S t w3 {r with taken:=r.taken+1} v (es0++es))/\Hid (Keep H b w w3):=⟨_,rfl,Cx.stored C2 82 _ (C2.run.set_taken (r.taken+1)) rfl,K2.trans (Keep.set _ _ _)⟩
   rw[<-hw3];clear hw3 y82 z82 y0 y11 C2 K2;have y0:cX w3 b 0=some (pX r.tp):=C3.run.get_tp;have y11:cX w3 b 11=some (iX r.state):=C3.run.get_state;have z11:=C3.run.frozen 11;have tb3:Hid (TabAt w3.drew S r.tp t):=(Cx.alike (w':=w3.drew) C3 ⟨rfl,rfl,rfl⟩).tab;have HRA:Hid ((r.ate t).Oth t P/\True):=⟨r.ate_oth t P ok HOT hlt,trivial⟩
   have HSTEP:Hid (r.heldStep t=if t.live ((r.ate t).marked t).state then((r.ate t).marked t,[]) else((r.ate t).marked t).long t):=rfl;have INV:Hid ((r.heldStep t).1.Oth t P/\(r.heldStep t).2.length+(r.heldStep t).1.count+xK (r.heldStep t).1.opn<=r.count+1/\((r.heldStep t).1.opn=true\/(r.heldStep t).2≠[])/\(r.heldStep t).1.todo<r.todo):=r.held_inv t P ok HOT HOP hlt;have HNX:Hid (r0.heldN t (n+1)=((r.heldStep t).1,es++(r.heldStep t).2)):=by show _=_;rw[Rs.heldN,AA.out.2.1,if_pos ⟨hlt,HOP.out⟩]
   generalize r.ate t=ra at *;go_wp2_with fail;go_region_with ((go_at_call 154;go_must ((refine (zFr r.tp _ S t tb3 ok r.state c hst hcb).mono ?_;rintro e w5 ⟨rfl,ha5⟩;have q11:cX w5 b 11=some (iX r.state):=(ha5.cell ⟨b,11,none⟩).trans y11;have z5:w5.frozen? ⟨b,11,none⟩=false:=(ha5.frozen ⟨b,11,none⟩).trans z11))))
   all_goals
    have c5:Hid (Cv H b S t w5 {r with taken:=r.taken+1} v (es0++es)):=Cx.alike C3 ha5;have k5:Hid (Keep H b w w5):=K3.trans (Keep.alike ha5);obtain⟨w6,hw6,C6,K6⟩:∃w6,w6=w5.setCell ⟨b,11,none⟩ (iX (t.next r.state (t.kind c):Nat))/\Hid (Cv H b S t w6 ra v (es0++es))/\Hid (Keep H b w w6):=⟨_,rfl,by rw[HST.out];exact Cx.stored c5 11 _ (c5.run.set_state (t.next r.state (t.kind c))) rfl,k5.trans (Keep.set _ _ _)⟩
    clear c5 k5 ha5;go_wp2_with fail;rw[<-hw6];clear hw6 q11 z5 y0 y11 z11;have y0:cX w6 b 0=some (pX ra.tp):=C6.run.get_tp;have y11:cX w6 b 11=some (iX ra.state):=C6.run.get_state;obtain⟨_,h9,b9,o9,cap9,hb9,rfl,hcap9,hml9,hL9⟩:=C6.tab.c9;have hsa:=HRA.1.ok.state;have hx9:cX w6 b9 (o9+ra.state)=some (iX (t.ends ra.state)):=hL9 _ hsa;have ia:(ra.state:Int)<(t.nst:Int):=by omega
    clear hL9;by_cases hen:t.ends ra.state=-1
    ·have ie:(t.ends ra.state != -1)=false:=by rw[hen];rfl
     have HMR:Hid (ra.marked t=ra):=by show _=_;unfold Rs.marked;rw[if_pos hen]
     clear hen;generalize t.ends ra.state=ee at *;go_wp2_with fail;go_quiet (fail);obtain⟨wm,hwm,CM,KM⟩:∃wm,wm=w6.drewN nq/\Hid (Cv H b S t wm (ra.marked t) v (es0++es))/\Hid (Keep H b w wm):=⟨_,rfl,by show Cv _ _ _ _ _ _ _ _;rw[HMR.out];exact Cx.alike (w':=w6.drewN nq) C6 ⟨rfl,rfl,rfl⟩,K6.trans (Keep.alike ⟨rfl,rfl,rfl⟩)⟩
     rw[<-hwm];clear hwm y0 y11 h9 hx9 C6 K6;have HM:Hid ((ra.marked t).Oth t P/\True):=⟨ra.marked_oth t P ok HRA.1,trivial⟩
     generalize ra.marked t=rm at *;go_wp2_with fail;have y0:cX wm b 0=some (pX rm.tp):=CM.run.get_tp;have y11:cX wm b 11=some (iX rm.state):=CM.run.get_state;obtain⟨_,h10,b10,o10,cap10,hb10,rfl,hcap10,hml10,hL10⟩:=CM.tab.c10;have hsm:=HM.1.ok.state;have hx10:cX wm b10 (o10+rm.state)=some (bool (t.live rm.state)):=hL10 _ hsm;have im:(rm.state:Int)<(t.nst:Int):=by omega
     clear hL10;cases hlv:t.live rm.state with
     |true=>
      rw[hlv] at hx10;have HE:Hid (r.heldStep t=(rm,[])):=by show _=_;rw[HSTEP.out,if_pos hlv]
      clear hlv;go_wp2_with fail;go_quiet (fail);obtain⟨w9,hw9,C9,K9⟩:∃w9,w9=wm.drewN nq/\Hid (Cv H b S t w9 rm v (es0++es))/\Hid (Keep H b w w9):=⟨_,rfl,Cx.alike (w':=wm.drewN nq) CM ⟨rfl,rfl,rfl⟩,KM.trans (Keep.alike ⟨rfl,rfl,rfl⟩)⟩
      rw[<-hw9];clear hw9;go_wp2_with fail;have hI:=INV.out;rw[HE.out] at hI;have hB:=AA.2.2.2.2.2;rw[HOP.out] at hB;go_roundg rm.todo
      case measure=>rw[AA.out.1];exact hI.2.2.2
      case rel=>exact⟨n+1,rm,es,v,rfl,by rw[HNX.out,HE.out,dX],C9,K9,hI.1,by have h2:0+rm.count+xK rm.opn<=r.count+1:=hI.2.1;have h3:(es0++es).length+r.count+1<=C:=hB;omega⟩
     |false=>
      rw[hlv] at hx10;have HE:Hid (r.heldStep t=rm.long t):=by show _=_;rw[HSTEP.out,if_neg (by rw[hlv];decide)]
      clear hlv;go_wp2_with fail;go_quiet (fail);obtain⟨w9,hw9,C9,K9⟩:∃w9,w9=wm.drewN nq/\Hid (Cv H b S t w9 rm v (es0++es))/\Hid (Keep H b w w9):=⟨_,rfl,Cx.alike (w':=wm.drewN nq) CM ⟨rfl,rfl,rfl⟩,KM.trans (Keep.alike ⟨rfl,rfl,rfl⟩)⟩
      rw[<-hw9];clear hw9 y0 y11 h10 hx10;have hI:=INV.out;rw[HE.out] at hI;have hB:=AA.2.2.2.2.2;rw[HOP.out] at hB;have hB2:(es0++es).length+r.count+1<=C:=hB;have hpp:=HM.1.pos;have hll:=HM.1.line;have hcl:=HM.1.col;have HLG:Hid (Ca 119 #[pX b] w9 λe w'=>e=rX/\∃v,Cv H b S t w' (rm.long t).1 v ((es0++es)++(rm.long t).2)/\Keep H b w9 w'):=zBj b H S t w9 rm (es0++es) C9 (by omega) ok hact HM.1.ok (lY HM.1.len HM.1.tak) HM.1.rule (by omega) (by omega) (by omega);have HI:Hid ((rm.long t).1.Oth t P/\(rm.long t).2.length+(rm.long t).1.count+xK (rm.long t).1.opn<=r.count+1/\((rm.long t).1.opn=true\/(rm.long t).2≠[])/\(rm.long t).1.todo<r.todo):=hI;clear hI hB hpp hll hcl;go_wp2_with fail;refine Calls.mono HLG ?_;rintro e w10 ⟨rfl,v10,c10,k10⟩;have CZ:Hid (Cv H b S t w10 (rm.long t).1 v10 (es0++(es++(rm.long t).2))/\Keep H b w w10):=⟨by rw[<-gX];exact c10,K9.trans k10⟩
      clear c10 k10 HLG;go_wp2_with fail;go_roundg (rm.long t).1.todo
      case measure=>rw[AA.out.1];exact HI.2.2.2
      case rel=>exact⟨n+1,(rm.long t).1,es++(rm.long t).2,v10,rfl,by rw[HNX.out,HE.out],CZ.1,CZ.2,HI.1,by have h2:=HI.2.1;rw[kX,kX];rw[kX] at hB2;omega⟩
    ·have ie:(t.ends ra.state != -1)=true:=by rw[bne_iff_ne];exact hen
     have HMR:Hid (ra.marked t={ra with rule:=t.ends ra.state,length:=ra.taken}):=by show _=_;unfold Rs.marked;rw[if_neg hen]
     clear hen;obtain⟨ee,hee⟩:∃ee,ee=t.ends ra.state:=⟨_,rfl⟩
     rw[<-hee] at hx9 ie HMR;clear hee;go_wp2_with fail;go_quiet (fail);obtain⟨w7,hw7,C7,K7⟩:∃w7,w7=w6.drewN nq/\Hid (Cv H b S t w7 ra v (es0++es))/\Hid (Keep H b w w7):=⟨_,rfl,Cx.alike (w':=w6.drewN nq) C6 ⟨rfl,rfl,rfl⟩,K6.trans (Keep.alike ⟨rfl,rfl,rfl⟩)⟩
     have x9:cX w7 b9 (o9+ra.state)=some (iX ee):=by rw[hw7];exact hx9
     have x9':cX w7 ra.tp 9=some (slice (some ⟨b9,o9,none⟩) t.nst cap9):=by rw[hw7];exact h9
     rw[<-hw7];clear hw7 y0 y11 h9 hx9 C6 K6;have y0:cX w7 b 0=some (pX ra.tp):=C7.run.get_tp;have y11:cX w7 b 11=some (iX ra.state):=C7.run.get_state;have y84:cX w7 b 84=some (iX ra.rule):=C7.run.get_rule;have z84:=C7.run.frozen 84;have y82:cX w7 b 82=some (iX ra.taken):=C7.run.get_taken;have y83:cX w7 b 83=some (iX ra.length):=C7.run.get_length;have z83:=C7.run.frozen 83;have nb9:b9≠b:=(C7.safe _ hb9).2;have ntp:ra.tp≠b:=(C7.safe _ C7.tab.safe).2;go_wp2_with fail;go_region
     all_goals
      go_wp2_with fail;obtain⟨wm,hwm,CM,KM⟩:∃wm,wm=((w7.setCell ⟨b,84,none⟩ (iX ee)).setCell ⟨b,83,none⟩ (iX (ra.taken:Nat))).drew/\Hid (Cv H b S t wm (ra.marked t) v (es0++es))/\Hid (Keep H b w wm):=by
       have d1:=Cx.stored C7 84 _ (C7.run.set_rule ee) rfl;have d2:=d1.stored 83 _ (d1.run.set_length ra.taken) rfl;exact⟨_,rfl,by show Cv _ _ _ _ _ _ _ _;rw[HMR.out];exact Cx.alike d2 ⟨rfl,rfl,rfl⟩,((K7.trans (Keep.set _ _ _)).trans (Keep.set _ _ _)).trans (Keep.drew _)⟩
      rw[<-hwm];clear hwm y0 y11 y84 z84 y82 y83 z83 x9 x9' C7 K7;have HM:Hid ((ra.marked t).Oth t P/\True):=⟨ra.marked_oth t P ok HRA.1,trivial⟩
      generalize ra.marked t=rm at *;have y0:cX wm b 0=some (pX rm.tp):=CM.run.get_tp;have y11:cX wm b 11=some (iX rm.state):=CM.run.get_state;obtain⟨_,h10,b10,o10,cap10,hb10,rfl,hcap10,hml10,hL10⟩:=CM.tab.c10;have hsm:=HM.1.ok.state;have hx10:cX wm b10 (o10+rm.state)=some (bool (t.live rm.state)):=hL10 _ hsm;have im:(rm.state:Int)<(t.nst:Int):=by omega
      clear hL10;cases hlv:t.live rm.state with
      |true=>
       rw[hlv] at hx10;have HE:Hid (r.heldStep t=(rm,[])):=by show _=_;rw[HSTEP.out,if_pos hlv]
       clear hlv;go_wp2_with fail;go_quiet (fail);obtain⟨w9,hw9,C9,K9⟩:∃w9,w9=wm.drewN nq/\Hid (Cv H b S t w9 rm v (es0++es))/\Hid (Keep H b w w9):=⟨_,rfl,Cx.alike (w':=wm.drewN nq) CM ⟨rfl,rfl,rfl⟩,KM.trans (Keep.alike ⟨rfl,rfl,rfl⟩)⟩
       rw[<-hw9];clear hw9;go_wp2_with fail;have hI:=INV.out;rw[HE.out] at hI;have hB:=AA.2.2.2.2.2;rw[HOP.out] at hB;go_roundg rm.todo
       case measure=>rw[AA.out.1];exact hI.2.2.2
       case rel=>exact⟨n+1,rm,es,v,rfl,by rw[HNX.out,HE.out,dX],C9,K9,hI.1,by have h2:0+rm.count+xK rm.opn<=r.count+1:=hI.2.1;have h3:(es0++es).length+r.count+1<=C:=hB;omega⟩
      |false=>
       rw[hlv] at hx10;have HE:Hid (r.heldStep t=rm.long t):=by show _=_;rw[HSTEP.out,if_neg (by rw[hlv];decide)]
       clear hlv;go_wp2_with fail;go_quiet (fail);obtain⟨w9,hw9,C9,K9⟩:∃w9,w9=wm.drewN nq/\Hid (Cv H b S t w9 rm v (es0++es))/\Hid (Keep H b w w9):=⟨_,rfl,Cx.alike (w':=wm.drewN nq) CM ⟨rfl,rfl,rfl⟩,KM.trans (Keep.alike ⟨rfl,rfl,rfl⟩)⟩
       rw[<-hw9];clear hw9 y0 y11 h10 hx10;have hI:=INV.out;rw[HE.out] at hI;have hB:=AA.2.2.2.2.2;rw[HOP.out] at hB;have hB2:(es0++es).length+r.count+1<=C:=hB;have hpp:=HM.1.pos;have hll:=HM.1.line;have hcl:=HM.1.col;have HLG:Hid (Ca 119 #[pX b] w9 λe w'=>e=rX/\∃v,Cv H b S t w' (rm.long t).1 v ((es0++es)++(rm.long t).2)/\Keep H b w9 w'):=zBj b H S t w9 rm (es0++es) C9 (by omega) ok hact HM.1.ok (lY HM.1.len HM.1.tak) HM.1.rule (by omega) (by omega) (by omega);have HI:Hid ((rm.long t).1.Oth t P/\(rm.long t).2.length+(rm.long t).1.count+xK (rm.long t).1.opn<=r.count+1/\((rm.long t).1.opn=true\/(rm.long t).2≠[])/\(rm.long t).1.todo<r.todo):=hI;clear hI hB hpp hll hcl;go_wp2_with fail;refine Calls.mono HLG ?_;rintro e w10 ⟨rfl,v10,c10,k10⟩;have CZ:Hid (Cv H b S t w10 (rm.long t).1 v10 (es0++(es++(rm.long t).2))/\Keep H b w w10):=⟨by rw[<-gX];exact c10,K9.trans k10⟩
       clear c10 k10 HLG;go_wp2_with fail;go_roundg (rm.long t).1.todo
       case measure=>rw[AA.out.1];exact HI.2.2.2
       case rel=>exact⟨n+1,(rm.long t).1,es++(rm.long t).2,v10,rfl,by rw[HNX.out,HE.out],CZ.1,CZ.2,HI.1,by have h2:=HI.2.1;rw[kX,kX];rw[kX] at hB2;omega⟩
  ·have HE:Hid (¬(r.taken<r.count/\r.opn=true)):=hcond
   have fin_:Hid (∃v m,Cv H b S t wr (r0.heldN t m).1 v (es0++(r0.heldN t m).2)/\Keep H b w wr/\(r0.heldN t m).1.Oth t P/\(es0++(r0.heldN t m).2).length+(r0.heldN t m).1.count+xK (r0.heldN t m).1.opn<=C/\¬((r0.heldN t m).1.taken<(r0.heldN t m).1.count/\(r0.heldN t m).1.opn=true)):=by
    refine⟨v,n,?_⟩;rw[AA.out.2.1];exact⟨AA.2.2.1,AA.2.2.2.1,AA.2.2.2.2.1,AA.2.2.2.2.2,HE⟩
   by_cases hlt:r.taken<r.count
   ·have i1:(r.taken:Int)<(r.count:Int):=by omega
    have hop:r.opn=false:=by
     cases h:r.opn with
     |false=>rfl
     |true=>exact absurd ⟨hlt,h⟩ hcond
    rw[hop] at y1;clear hop hcond;go_wp2_with fail;go_quiet (fail);obtain⟨w1,hw1,FN⟩:∃w1,w1=wr.drewN nq/\Hid (∃v m,Cv H b S t w1 (r0.heldN t m).1 v (es0++(r0.heldN t m).2)/\Keep H b w w1/\(r0.heldN t m).1.Oth t P/\(es0++(r0.heldN t m).2).length+(r0.heldN t m).1.count+xK (r0.heldN t m).1.opn<=C/\¬((r0.heldN t m).1.taken<(r0.heldN t m).1.count/\(r0.heldN t m).1.opn=true)):=by
     obtain⟨v,m,f1,f2,f3⟩:=fin_;exact⟨_,rfl,v,m,Cx.alike (w':=wr.drewN nq) f1 ⟨rfl,rfl,rfl⟩,f2.trans (Keep.alike ⟨rfl,rfl,rfl⟩),f3⟩
    rw[<-hw1];clear hw1 fin_;go_wp2_with fail;go_end0;exact⟨rfl,FN⟩
   ·have i1:(r.count:Int)<=(r.taken:Int):=by omega
    clear hcond;go_wp2_with fail;go_quiet (fail);obtain⟨w1,hw1,FN⟩:∃w1,w1=wr.drewN nq/\Hid (∃v m,Cv H b S t w1 (r0.heldN t m).1 v (es0++(r0.heldN t m).2)/\Keep H b w w1/\(r0.heldN t m).1.Oth t P/\(es0++(r0.heldN t m).2).length+(r0.heldN t m).1.count+xK (r0.heldN t m).1.opn<=C/\¬((r0.heldN t m).1.taken<(r0.heldN t m).1.count/\(r0.heldN t m).1.opn=true)):=by
     obtain⟨v,m,f1,f2,f3⟩:=fin_;exact⟨_,rfl,v,m,Cx.alike (w':=wr.drewN nq) f1 ⟨rfl,rfl,rfl⟩,f2.trans (Keep.alike ⟨rfl,rfl,rfl⟩),f3⟩
    rw[<-hw1];clear hw1 fin_;go_wp2_with fail;go_end0;exact⟨rfl,FN⟩
def Rs.added (r:Rs)(c:Nat):Rs:={r with byte:=λj=>if j=(r.first+r.count)%64 then c else r.byte j,count:=r.count+1}
def Rs.looked (r:Rs)(t:Tb)(d:Nat):Rs:={r with ahead:=t.further r.ahead d}
def Rs.due (r:Rs)(t:Tb):Rs×List Ev:=if t.ahead<r.count then r.step t else(r,[])
def Rs.take (r:Rs)(t:Tb)(c:Nat):Rs×List Ev:=((r.added c).looked t (t.kind c)).due t
theorem Rs.added_ok (r:Rs)(t:Tb)(c:Nat)(a:r.Ok t)(b:c<256)(d:r.count<64):(r.added c).Ok t:=
 ⟨a.d1,a.d4,a.st,a.state,a.first,d,λj e=>by
  show(if j=(r.first+r.count)%64 then c else r.byte j)<256;split
  ·exact b
  ·exact a.bytes j e⟩
theorem zL9 (b H:Nat)(S:Nat->Prop)(t:Tb)(d w:World)(r:Rs){v0:Value}(a:List Ev)(g:Cv H b S t w r v0 a)(o:a.length<=4194304)(ok:t.Ok)(p:∀i,i<t.nrule->t.act i<4)(q:r.Ok t)(s:r.ahead<t.rows)(u:1<=r.count)
  (x:r.hAt<2147483648) (y:r.hLine<2147483648) (z:r.hCol<2147483648) (h:Keep H b d w) (f:Rs×List Ev) (j:f=r.due t)
  {A B C D E F G I J K L M N O P R T U V W X Y aa ab ac ad ae af ag ah ai aj ak al am an ao ap aq ar au av aw ax ay:Value}:
  Code.wp prog (qE 2 ((f73.body).getD .skip)) (bodyPost prog f73 λe w'=>
   e=rX/\∃v,Cv H b S t w' f.1 v (a++f.2)/\Keep H b d w')
   ⟨(pX b::A::B::C::D::E::F::G::I::J::K::L::M::N::O::P::R::T::U::V::W::X::Y::aa::ab::ac::ad::ae::af::ag::ah::ai::aj::ak::al::am::an::ao::ap::aq::ar::au::av::aw::ax::ay::[]).toArray,[]⟩ w:=by
 conv=>arg 2;whnf
 have c:Hid (Cv H b S t w r v0 a):=g;have k:Hid (Keep H b d w):=h;have l:Hid (f=r.due t):=j;have aC:cX w b 0=some (pX r.tp):=c.run.get_tp;have aD:cX w b 77=some (iX r.count):=c.run.get_count;have aE:cX w r.tp 1=some (iX t.ahead):=c.tab.c1;clear g h j;by_cases m:t.ahead<r.count
 ·have az:(t.ahead:Int)<(r.count:Int):=by omega
  go_wp2_with fail;go_quiet (fail);go_wp2_with fail;refine(zIH b H S t _ r a (Cx.alike (w':=w.drewN nq) c ⟨rfl,rfl,rfl⟩) o ok p q u s x y z).mono ?_;rintro e w2 ⟨rfl,v,c2,aA⟩;have aB:Hid (Cv H b S t w2 f.1 v (a++f.2)):=by
   show Cv H b S t w2 f.1 v (a++f.2);rw[l.out,Rs.due,if_pos m];exact c2
  clear c2;go_wp2_with fail;go_end0;exact⟨rfl,v,aB,(k.trans (Keep.alike (w':=w.drewN nq) ⟨rfl,rfl,rfl⟩)).trans aA⟩
 ·have az:(r.count:Int)<=(t.ahead:Int):=by omega
  go_wp2_with fail;go_quiet (fail);go_wp2_with fail;go_end0;refine⟨rfl,v0,?_,k.trans (Keep.alike (w':=w.drewN nq) ⟨rfl,rfl,rfl⟩)⟩;rw[l.out,Rs.due,if_neg m,dX];exact Cx.alike (w':=w.drewN nq) c ⟨rfl,rfl,rfl⟩
theorem zKg (b H:Nat)(S:Nat->Prop)(t:Tb)(w:World)(r:Rs){v0:Value}(d:List Ev)(c:Nat)(q:Cv H b S t w r v0 d)(G:d.length<=4194304)(ok:t.Ok)(I:∀i,i<t.nrule->t.act i<4)(s:r.Ok t)(W:r.ahead<t.rows)(u:r.count<64)(l:c<256)
  (J:r.hAt<2147483648) (L:r.hLine<2147483648) (M:r.hCol<2147483648):
  Calls prog 73 #[pX b,int .u8 c] w λe w'=>
   e=rX/\∃v,Cv H b S t w' (r.take t c).1 v (d++(r.take t c).2)/\Keep H b w w':=by
 have x:Hid (Cv H b S t w r v0 d):=q;clear q;go_enter func73,ntmps73
 refine wp_seq_k ?_;intro m g;have y:Hid (∀a w,_->m a w):=g;clear g;go_wp2_with fail;refine(zHC b c _ r x.run s.first u).mono ?_;rintro e w1 ⟨rfl,z,o⟩;have c1:Hid (Cv H b S t w1 (r.added c) v0 d):=Cx.kept x o z rfl;have A:Hid (Keep H b w w1):=o H;clear o z;go_wp2_with fail;apply y.out;clear y;refine wp_seq_k ?_;intro m g;have N:Hid (∀a w,_->m a w):=g;clear g;have X:cX w1 b 0=some (pX r.tp):=c1.run.get_tp;have O:cX w1 b 81=some (iX r.ahead):=c1.run.get_ahead;have P:=c1.run.frozen 81;have R:=c1.tab.c6;obtain⟨Y,B,C,D,T,aa,rfl,ab,ac,E⟩:=R;have ad:cX w1 r.tp 6=some (slice (some ⟨C,D,none⟩) 256 T):=B;have ae:cX w1 C (D+c)=some (iX (t.kind c:Nat)):=E _ l;have af:(c:Int)<256:=by omega
 have ag:=ok.kind c l;have ah:=ok.count;have ai:=ok.rows;have F:Hid (TabAt w1.drew S r.tp t):=(Cx.alike (w':=w1.drew) c1 ⟨rfl,rfl,rfl⟩).tab;clear E B;go_wp2_with fail;go_region_with ((go_at_call 108;go_must ((refine (zBl r.tp _ S t F ok r.ahead (t.kind c) (by omega) (by omega)).mono ?_;rintro e j ⟨rfl,k⟩;have aj:cX j b 81=some (iX r.ahead):=(k.cell ⟨b,81,none⟩).trans O;have ak:j.frozen? ⟨b,81,none⟩=false:=(k.frozen ⟨b,81,none⟩).trans P))))
 all_goals
  have p:Hid (Cv H b S t j (r.added c) v0 d):=Cx.alike c1 k;have U:Hid (Keep H b w j):=A.trans (Keep.alike k);have V:Hid (Cv H b S t (j.setCell ⟨b,81,none⟩ (iX (t.further r.ahead (t.kind c):Nat))) ((r.added c).looked t (t.kind c)) v0 d):=Cx.stored p 81 _ (p.run.set_ahead (t.further r.ahead (t.kind c))) rfl;clear c1 A F k p;go_wp2_with fail;apply N.out;exact zL9 b H S t w _ ((r.added c).looked t (t.kind c)) d V G ok I (let f:=r.added_ok t c s l u;⟨f.d1,f.d4,f.st,f.state,f.first,f.count,f.bytes⟩) (hJ _ ok.rows0) (Nat.succ_le_succ lX) J L M (U.trans (Keep.set _ _ _)) _ rfl
section
variable (r:Rs) (t:Tb) (P c:Nat) (ok:t.Ok) (a:r.Oth t P)
theorem Rs.held_count (ok:t.Ok)(b:r.Oth t P)(c:r.opn=true)(d:r.taken<r.count):(r.heldStep t).1.count<=r.count:=by
 have ⟨_,e,a,_⟩:=r.held_inv t P ok b c d;rcases a with a|a
 ·rw[a] at e
  have:xK true=1:=rfl;omega
 ·have:=List.length_pos_iff.2 a
  omega
theorem Rs.heldN_inv (ok:t.Ok)(l:r.Oth t P)(n:Nat):
  (r.heldN t n).1.Oth t P/\(r.heldN t n).2.length+(r.heldN t n).1.count+xK (r.heldN t n).1.opn<=r.count+xK r.opn/\((r.heldN t n).1.opn=r.opn\/(r.heldN t n).2≠[])/\(r.heldN t n).1.count<=r.count/\(¬((r.heldN t n).1.taken<(r.heldN t n).1.count/\(r.heldN t n).1.opn=true)\/(r.heldN t n).1.todo+n<=r.todo)/\((r.heldN t n).1.opn=true->r.opn=true):=by
 induction n with
 |zero=>exact⟨l,by simp[Rs.heldN],.inl rfl,lQ,.inr lQ,id⟩
 |succ n m=>
  obtain⟨d,f,o,g,c,j⟩:=m;rw[Rs.heldN];split
  ·rename_i a
   have ⟨p,s,b,u⟩:=(r.heldN t n).1.held_inv t P ok d a.2 a.1;have q:=(r.heldN t n).1.held_count t P ok d a.2 a.1;have k:=j a.2;refine⟨p,?_,?_,lY q g,.inr ?_,λ_=>k⟩
   ·show((r.heldN t n).2++((r.heldN t n).1.heldStep t).2).length+((r.heldN t n).1.heldStep t).1.count+xK ((r.heldN t n).1.heldStep t).1.opn<=_
    rw[a.2] at f;have:xK true=1:=rfl;rw[kX];omega
   ·rcases b with b|b
    ·left
     show((r.heldN t n).1.heldStep t).1.opn=r.opn;rw[b,k]
    ·right
     show(r.heldN t n).2++((r.heldN t n).1.heldStep t).2≠[];intro e;exact b (List.append_eq_nil_iff.1 e).2
   ·show((r.heldN t n).1.heldStep t).1.todo+(n+1)<=r.todo
    rcases c with c|c
    ·exact absurd a c
    ·omega
  ·rename_i a
   exact⟨d,f,o,g,.inl a,j⟩
theorem Rs.heldN_stop (n m:Nat)(a:¬((r.heldN t n).1.taken<(r.heldN t n).1.count/\(r.heldN t n).1.opn=true))(c:n<=m):r.heldN t m=r.heldN t n:=by
 induction m with
 |zero=>rw[show n=0 by omega]
 |succ m b=>
  by_cases e:n=m+1
  ·rw[e]
  ·rw[Rs.heldN,b (by omega),if_neg a]
def Rs.heldAll (r:Rs)(t:Tb):Rs×List Ev:=r.heldN t (r.todo+1)
theorem Rs.heldAll_eq (ok:t.Ok)(c:r.Oth t P)(n:Nat)(d:¬((r.heldN t n).1.taken<(r.heldN t n).1.count/\(r.heldN t n).1.opn=true)):r.heldN t n=r.heldAll t:=by
 have a:=(r.heldN_inv t P ok c (r.todo+1)).2.2.2.2.1;have e:¬((r.heldAll t).1.taken<(r.heldAll t).1.count/\(r.heldAll t).1.opn=true):=by
  rcases a with a|a
  ·exact a
  ·omega
 rcases Nat.le_total n (r.todo+1) with b|b
 ·exact(r.heldN_stop t n _ d b).symm
 ·exact r.heldN_stop t _ n e b
theorem Rs.heldAll_inv (ok:t.Ok)(a:r.Oth t P):
  (r.heldAll t).1.Oth t P/\(r.heldAll t).2.length+(r.heldAll t).1.count+xK (r.heldAll t).1.opn<=r.count+xK r.opn/\((r.heldAll t).1.opn=r.opn\/(r.heldAll t).2≠[])/\(r.heldAll t).1.count<=r.count/\((r.heldAll t).1.opn=true->r.opn=true):=by
 have ⟨b,c,d,e,_,f⟩:=r.heldN_inv t P ok a (r.todo+1);exact⟨b,c,d,e,f⟩
def Rs.takeO (r:Rs)(t:Tb)(c:Nat):Rs×List Ev:=
 if t.hold<=r.count then({r with opn:=false},[r.lastEv 6]) else(r.added c).heldAll t
theorem Rs.added_oth (a:r.Oth t P)(b:c<256)(d:r.count<64):(r.added c).Oth t (P+1):=by
 have e:=a.len;have f:=a.tak;have g:=a.pos;exact⟨r.added_ok t c a.ok b d,e,Nat.le_succ_of_le f,a.rule,by show r.bAt+(r.count+1)<=P+1;omega,a.line,a.col1,a.col⟩
theorem Rs.takeO_inv (ok:t.Ok)(a:r.Oth t P)(e:c<256)(f:r.opn=true):
  (r.takeO t c).1.Oth t (P+1)/\(r.takeO t c).2.length+(r.takeO t c).1.count+xK (r.takeO t c).1.opn<=r.count+2/\((r.takeO t c).1.opn=true\/(r.takeO t c).2≠[]):=by
 unfold Rs.takeO;split
 ·refine⟨⟨⟨a.ok.d1,a.ok.d4,a.ok.st,a.ok.state,a.ok.first,a.ok.count,a.ok.bytes⟩,a.len,a.tak,a.rule,Nat.le_succ_of_le a.pos,a.line,a.col1,a.col⟩,?_,.inr (by simp)⟩
  show 1+r.count+0<=r.count+2;omega
 ·rename_i m
  have g:r.count<64:=by have:=ok.hold;omega
  have ⟨j,k,b,o,p⟩:=(r.added c).heldAll_inv t (P+1) ok (r.added_oth t P c a e g);have l:(r.added c).count=r.count+1:=rfl;have d:(r.added c).opn=true:=f;rw[l,d] at k;rw[d] at b;have:xK true=1:=rfl;exact⟨j,by omega,b⟩
def Rs.endO (r:Rs)(t:Tb):Rs×List Ev:=(((r.long t).1.heldAll t).1,(r.long t).2++((r.long t).1.heldAll t).2)
def Rs.endN (r:Rs)(t:Tb):Nat->Rs×List Ev
 |0=>(r,[])
 |n+1=>if 0<(r.endN t n).1.count/\(r.endN t n).1.opn=true then(((r.endN t n).1.endO t).1,(r.endN t n).2++((r.endN t n).1.endO t).2) else r.endN t n
theorem Rs.endO_inv (ok:t.Ok)(a:r.Oth t P)(c:r.opn=true)(d:0<r.count):
  (r.endO t).1.Oth t P/\(r.endO t).2.length+(r.endO t).1.count+xK (r.endO t).1.opn<=r.count+1/\((r.endO t).1.opn=true\/(r.endO t).2≠[])/\(r.endO t).1.count+xK (r.endO t).1.opn<r.count+1:=by
 have ⟨f,u,g,b⟩:=r.long_inv t P ok a c d;have ⟨j,b2,k,v,l⟩:=(r.long t).1.heldAll_inv t P ok f;unfold Rs.endO;have w:xK true=1:=rfl;have x:xK false=0:=rfl;refine⟨j,?_,?_,?_⟩
 ·show((r.long t).2++((r.long t).1.heldAll t).2).length+((r.long t).1.heldAll t).1.count+xK ((r.long t).1.heldAll t).1.opn<=_
  rw[kX];omega
 ·by_cases e:((r.long t).1.heldAll t).1.opn=true
  ·exact .inl e
  ·right
   show(r.long t).2++((r.long t).1.heldAll t).2≠[];intro m;have ⟨o,p⟩:=List.append_eq_nil_iff.1 m;have q:=g.resolve_right (λa=>a o);have s:=k.resolve_right (λa=>a p);exact e (by rw[s,q])
 ·show((r.long t).1.heldAll t).1.count+xK ((r.long t).1.heldAll t).1.opn<r.count+1
  rcases b with b|⟨b,y,_⟩
  ·have:xK ((r.long t).1.heldAll t).1.opn<=1:=by unfold xK;split <;> omega
   omega
  ·have e:((r.long t).1.heldAll t).1.opn=false:=by
    cases a:((r.long t).1.heldAll t).1.opn with
    |false=>rfl
    |true=>rw[l a] at b;cases b
   rw[e];omega
theorem Rs.endN_inv (ok:t.Ok)(k:r.Oth t P)(n:Nat):
  (r.endN t n).1.Oth t P/\(r.endN t n).2.length+(r.endN t n).1.count+xK (r.endN t n).1.opn<=r.count+xK r.opn/\((r.endN t n).1.opn=r.opn\/(r.endN t n).2≠[])/\(¬(0<(r.endN t n).1.count/\(r.endN t n).1.opn=true)\/(r.endN t n).1.count+xK (r.endN t n).1.opn+n<=r.count+xK r.opn)/\((r.endN t n).1.opn=true->r.opn=true):=by
 induction n with
 |zero=>exact⟨k,by simp[Rs.endN],.inl rfl,.inr lQ,id⟩
 |succ n l=>
  obtain⟨d,f,m,b,g⟩:=l;rw[Rs.endN];split
  ·rename_i a
   have ⟨o,p,c,q⟩:=(r.endN t n).1.endO_inv t P ok d a.2 a.1;have j:=g a.2;have s:xK true=1:=rfl;refine⟨o,?_,?_,.inr ?_,λ_=>j⟩
   ·show((r.endN t n).2++((r.endN t n).1.endO t).2).length+((r.endN t n).1.endO t).1.count+xK ((r.endN t n).1.endO t).1.opn<=_
    rw[a.2] at f;rw[kX];omega
   ·rcases c with c|c
    ·left
     show((r.endN t n).1.endO t).1.opn=r.opn;rw[c,j]
    ·right
     show(r.endN t n).2++((r.endN t n).1.endO t).2≠[];intro e;exact c (List.append_eq_nil_iff.1 e).2
   ·show((r.endN t n).1.endO t).1.count+xK ((r.endN t n).1.endO t).1.opn+(n+1)<=_
    rcases b with b|b
    ·exact absurd a b
    ·rw[a.2] at b
     omega
  ·rename_i a
   exact⟨d,f,m,.inl a,g⟩
theorem Rs.endN_stop (n m:Nat)(a:¬(0<(r.endN t n).1.count/\(r.endN t n).1.opn=true))(c:n<=m):r.endN t m=r.endN t n:=by
 induction m with
 |zero=>rw[show n=0 by omega]
 |succ m b=>
  by_cases e:n=m+1
  ·rw[e]
  ·rw[Rs.endN,b (by omega),if_neg a]
def Rs.endAll (r:Rs)(t:Tb):Rs×List Ev:=r.endN t (r.count+2)
theorem Rs.endAll_eq (ok:t.Ok)(c:r.Oth t P)(n:Nat)(d:¬(0<(r.endN t n).1.count/\(r.endN t n).1.opn=true)):r.endN t n=r.endAll t:=by
 have a:=(r.endN_inv t P ok c (r.count+2)).2.2.2.1;have e:¬(0<(r.endAll t).1.count/\(r.endAll t).1.opn=true):=by
  rcases a with a|a
  ·exact a
  ·have:xK r.opn<=1:=by unfold xK;split <;> omega
   omega
 rcases Nat.le_total n (r.count+2) with b|b
 ·exact(r.endN_stop t n _ d b).symm
 ·exact r.endN_stop t _ n e b
def Rs.closeO (r:Rs)(t:Tb):Rs×List Ev:=if(r.endAll t).1.opn then({(r.endAll t).1 with opn:=false},(r.endAll t).2++[(r.endAll t).1.lastEv 2]) else r.endAll t
theorem Rs.closeO_end (ok:t.Ok)(c:r.Oth t P)(d:r.opn=true):(r.closeO t).1.opn=false/\(r.closeO t).2≠[]:=by
 have a:=(r.endN_inv t P ok c (r.count+2)).2.2.1;unfold Rs.closeO;split
 ·exact⟨rfl,by simp⟩
 ·rename_i e
  have b:(r.endAll t).1.opn=false:=by simpa using e
  refine⟨b,?_⟩;rcases a with a|a
  ·have:(r.endAll t).1.opn=r.opn:=a
   rw[b,d] at this;cases this
  ·exact a
end
section
variable (b H:Nat) (S:Nat->Prop) (t:Tb) (w:World) (r:Rs) {v0:Value} (a:List Ev) (P C c:Nat) (d:Cv H b S t w r v0 a) (ok:t.Ok)
theorem zF6 (d:Cv H b S t w r v0 a)(ok:t.Ok)(f:∀i,i<t.nrule->t.act i<4)(c:r.Oth t P)(g:P<=1073741824)(h:a.length+r.count+xK r.opn<=C)(j:C<=4194304):
  Calls prog 111 #[pX b] w λe w'=>
   e=rX/\∃v,Cv H b S t w' (r.heldAll t).1 v (a++(r.heldAll t).2)/\Keep H b w w':=
 (zFp b H S t w r a P C d ok f c g h j).mono λe w' ⟨k,v,n,h1,h2,_,_,h5⟩=>by
  rw[r.heldAll_eq t P ok c n h5] at h1;exact⟨k,v,h1,h2⟩
theorem zIG (d:Cv H b S t w r v0 a)(ok:t.Ok)(B:∀i,i<t.nrule->t.act i<4)(l:r.Oth t P)(N:P<1073741824)(O:a.length+r.count+xK r.opn<=C)(R:C<4194304)(D:c<256):
  Calls prog 74 #[pX b,int .u8 c] w λe w'=>
   e=rX/\∃v,Cv H b S t w' (r.takeO t c).1 v (a++(r.takeO t c).2)/\Keep H b w w':=by
 have m:=vl d;have E:=d.run.get_tp;have F:=d.run.get_count;have G:=d.tab.c2;have T:=ok.hold;by_cases f:t.hold<=r.count
 ·have I:(t.hold:Int)<=(r.count:Int):=by omega
  have g:Hid (r.takeO t c=({r with opn:=false},[r.lastEv 6])):=if_pos f;go_in;go_wp2;go_quiet (fail);go_wp2_with fail;refine(vW b H S t 6 _ r v0 _ _ (Cx.alike (w':=w.drewN nq) m ⟨rfl,rfl,rfl⟩) (by omega)).mono ?_;rintro e w2 ⟨rfl,ao,cap,c2,J⟩;have h:=vl c2;go_wp2;refine gJ (results_none rfl _ _ _) rfl ?_;refine⟨rfl,slice ao (a.length+1) cap,?_,Keep.trans (w:=w) (w':=w.drewN nq) (Keep.alike ⟨rfl,rfl,rfl⟩) J⟩;rw[g.out];unfold Cv;rw[yE,kX];exact h
 ·have I:(r.count:Int)<(t.hold:Int):=by omega
  have o:r.count<64:=by omega
  have g:Hid (r.takeO t c=(r.added c).heldAll t):=if_neg f;have K:Hid ((r.added c).Oth t (P+1)):=r.added_oth t P c l D o;have L:=l.ok.first
  clear f;go_enter func74,ntmps74
  go_wp2_with fail;go_quiet (fail);obtain⟨w1,p,j,q⟩:∃w1,w1=w.drewN nq/\Hid (Cv H b S t w1 r v0 a)/\Hid (Keep H b w w1):=⟨_,rfl,Cx.alike (w':=w.drewN nq) m ⟨rfl,rfl,rfl⟩,Keep.alike ⟨rfl,rfl,rfl⟩⟩
  rw[<-p];clear p E F G;go_wp2_with fail;refine(zHC b c _ r j.run L o).mono ?_;rintro e w2 ⟨rfl,s,k⟩;have h:Hid (Cv H b S t w2 (r.added c) v0 a):=Cx.kept j k s rfl;have M:Hid (Keep H b w w2):=q.trans (k H);clear k s j q;go_wp2_with fail;refine(zF6 b H S t w2 (r.added c) a (P+1) (C+1) h ok B K (by omega) (by show a.length+(r.count+1)+xK r.opn<=C+1;omega) (by omega)).mono ?_;rintro e u ⟨rfl,x,y,z⟩;have A:Hid (Cv H b S t u (r.takeO t c).1 x (a++(r.takeO t c).2)/\Keep H b w u):=⟨by rw[g.out];exact y,M.trans z⟩
  clear y z;go_wp2_with fail;go_end0;exact⟨rfl,x,A.1,A.2⟩
theorem zIn (a:Rs){v0:Value}(f:List Ev)(P C:Nat)(l:Cv H b S t w a v0 f)(ok:t.Ok)(B:∀i,i<t.nrule->t.act i<4)(j:a.Oth t P)(L:P<=1073741824)(u:f.length+a.count+xK a.opn<=C)(M:C<=4194304):
  Calls prog 85 #[pX b] w λe w'=>
   e=rX/\∃v,Cv H b S t w' (a.closeO t).1 v (f++(a.closeO t).2)/\Keep H b w w':=by
 have o:Hid (Cv H b S t w a v0 f/\a.Oth t P/\f.length+a.count+xK a.opn<=C):=⟨l,j,u⟩
 go_in;apply wp_cut;intro af k;go_wp2;go_loopg [] (a.count+xK a.opn) (λq wr=>∃(n:Nat) (r:Rs) (c:List Ev) (v:Value),q=r.count+xK r.opn/\a.endN t n=(r,c)/\Cv H b S t wr r v (f++c)/\Keep H b w wr/\r.Oth t P/\(f++c).length+r.count+xK r.opn<=C)
 case atStart=>exact⟨0,a,[],v0,rfl,rfl,by rw[dX];exact o.1,Keep.refl _ _ _,o.2.1,by rw[dX];exact o.2.2⟩
 case round=>
  obtain⟨n,r,c,v,N,O,l,R,j,u⟩:=hrel;have d:Hid (gk=r.count+xK r.opn/\a.endN t n=(r,c)/\Cv H b S t wr r v (f++c)/\Keep H b w wr/\r.Oth t P/\(f++c).length+r.count+xK r.opn<=C):=⟨N,O,l,R,j,u⟩
  have x:=l.run.get_opn;have ag:=l.run.get_count;have ah:=j.ok.count;have T:=j.tak;have ai:=j.pos;have aj:=j.line;have ak:=j.col;by_cases m:0<r.count/\r.opn=true
  ·obtain⟨y,g⟩:=m
   have z:(0:Int)<(r.count:Int):=by omega
   rw[g] at x;have U:=vl g;have V:=r.endO_inv t P ok d.2.2.2.2.1 g y;have D:=d.2.2.2.2.2;rw[g] at D;have W:(f++c).length+r.count+1<=C:=D;have ⟨X,al,am,an⟩:=r.long_inv t P ok d.2.2.2.2.1 g y;have Y:Hid (a.endN t (n+1)=((r.endO t).1,c++(r.endO t).2)):=by show _=_;rw[Rs.endN,d.out.2.1,if_pos ⟨y,g⟩]
   have A:=vl V;have aa:=vl <| zBj b H S t wr r (f++c) d.2.2.1 (by omega) ok B d.2.2.2.2.1.ok (lY d.2.2.2.2.1.len T) d.2.2.2.2.1.rule (by omega) (by omega) (by omega);have E:Hid ((r.long t).1.Oth t P/\((f++c)++(r.long t).2).length+(r.long t).1.count+xK (r.long t).1.opn<=C):=⟨X,by rw[kX];omega⟩
   go_wp2_with fail;refine Calls.mono aa ?_;rintro e w1 ⟨rfl,v1,c1,F⟩;have ab:=vl c1;go_wp2_with fail;refine(zF6 b H S t w1 (r.long t).1 ((f++c)++(r.long t).2) P C ab ok B E.1 L E.2 M).mono ?_;rintro e w2 ⟨rfl,v2,c2,p⟩;have G:Hid (Cv H b S t w2 (r.endO t).1 v2 (f++(c++(r.endO t).2))/\Keep H b w w2):=by
    refine⟨?_,(d.2.2.2.1.trans F).trans p⟩;rw[gX,gX] at c2;exact c2
   clear c2 p F;go_wp2_with fail;go_roundg ((r.endO t).1.count+xK (r.endO t).1.opn)
   case measure=>rw[d.out.1,U.out];exact A.2.2.2
   case rel=>exact⟨n+1,(r.endO t).1,c++(r.endO t).2,v2,rfl,Y,G.1,G.2,A.1,by have ap:=A.2.1;rw[kX,kX];rw[kX] at W;omega⟩
  ·have I:Hid (a.endAll t=(r,c)):=by
    show _=_;rw[<-a.endAll_eq t P ok o.out.2.1 n (by rw[d.out.2.1];exact m),d.out.2.1]
   by_cases g:r.opn=true
   ·have ac:¬0<r.count:=λad=>m ⟨ad,g⟩
    have z:(r.count:Int)<=0:=by omega
    rw[g] at x;have s:Hid (a.closeO t=({r with opn:=false},c++[r.lastEv 2])):=by
     show _=_;unfold Rs.closeO;rw[I.out,if_pos g]
    clear m;go_wp2_with fail;apply k.out;clear k;go_wp2_with fail;refine(vW b H S t 2 _ r v _ _ d.2.2.1 (by have:=d.2.2.2.2.2;omega)).mono ?_;rintro e w2 ⟨rfl,ao,cap,c2,p⟩;have ae:Hid (Cx _ _ _ _ _ _ _ _ _):=c2;clear c2;go_wp2_with fail;go_end0;refine⟨rfl,slice ao ((f++c).length+1) cap,?_,d.2.2.2.1.trans p⟩;rw[s.out];show Cv H b S t w2 _ _ (f++(c++[r.lastEv 2]));unfold Cv;rw[<-gX,yE,kX (bs:=[r.lastEv 2])];exact ae
   ·have J:r.opn=false:=by simpa using g
    rw[J] at x;have s:Hid (a.closeO t=(r,c)):=by
     show _=_;unfold Rs.closeO;rw[I.out,if_neg g]
    clear m g J;by_cases ac:0<r.count
    ·have z:(0:Int)<(r.count:Int):=by omega
     go_wp2_with fail;apply k.out;clear k;go_wp2_with fail;go_end0;exact⟨rfl,v,by rw[s.out];exact d.2.2.1,d.2.2.2.1⟩
    ·have z:(r.count:Int)<=0:=by omega
     go_wp2_with fail;apply k.out;clear k;go_wp2_with fail;go_end0;exact⟨rfl,v,by rw[s.out];exact d.2.2.1,d.2.2.2.1⟩
end
def Rs.look (r:Rs)(t:Tb):Rs:={r with ahead:=t.further r.ahead t.count}
def Rs.ended (r:Rs):Rs×List Ev:=if r.opn=false then(r,[]) else({r with opn:=false},[r.lastEv (if r.hAt=r.bAt then 2 else 3)])
theorem zGg (b H:Nat)(S:Nat->Prop)(t:Tb)(m w:World)(r:Rs){v0:Value}(c:List Ev)(s:Cv H b S t w r v0 c)(o:c.length<=4194304)(u:Keep H b m w)(f:Rs×List Ev)(x:f=r.ended)
  {y z A B C D E F G I J K L M N O P R T U V W X Y aa ab ac ad ae af ag ah ai aj ak al am an ap aq ar au av aw ax ay az aA aB aC aD aE aF aG aH aI aJ aK aL aM aN aO aP aQ aR aS aT aU aV aW aX aY aZ a0 a1 a2 a3 a4 a5 a6 a7 a8 a9 ba:Value}:
  Code.wp prog (qE 3 ((f84.body).getD .skip)) (bodyPost prog f84 λe w'=>
   e=rX/\∃v,Cv H b S t w' f.1 v (c++f.2)/\Keep H b m w')
   ⟨(pX b::y::z::A::B::C::D::E::F::G::I::J::K::L::M::N::O::P::R::T::U::V::W::X::Y::aa::ab::ac::ad::ae::af::ag::ah::ai::aj::ak::al::am::an::ap::aq::ar::au::av::aw::ax::ay::az::aA::aB::aC::aD::aE::aF::aG::aH::aI::aJ::aK::aL::aM::aN::aO::aP::aQ::aR::aS::aT::aU::aV::aW::aX::aY::aZ::a0::a1::a2::a3::a4::a5::a6::a7::a8::a9::ba::[]).toArray,[]⟩ w:=by
 conv=>arg 2;whnf
 have a:=vl s;have g:=vl u;have h:=vl x;have p:=a.run.get_opn;have bc:=a.run.get_bAt;have bd:=a.run.get_hAt;cases d:r.opn
 ·rw[d] at p
  go_wp2;refine gJ (results_none rfl _ _ _) rfl ?_;refine⟨rfl,v0,?_,g⟩;rw[h.out,Rs.ended,if_pos d,dX];exact a
 ·rw[d] at p
  by_cases q:r.hAt=r.bAt
  ·have bb:((r.hAt:Int)==(r.bAt:Int))=true:=by rw[beq_iff_eq];omega
   have j:=vl q;go_wp2;go_quiet (fail);go_wp2_with fail;refine(vW b H S t 2 _ r v0 _ _ (Cx.alike (w':=w.drewN nq) a ⟨rfl,rfl,rfl⟩) o).mono ?_;rintro e w2 ⟨rfl,ao,cap,c2,k⟩;have l:=vl c2;go_wp2;go_end0;refine⟨rfl,slice ao (c.length+1) cap,?_,(g.trans (Keep.alike (w':=w.drewN nq) ⟨rfl,rfl,rfl⟩)).trans k⟩;rw[h.out,Rs.ended,if_neg (by rw[d];decide),if_pos j.out];unfold Cv;rw[yE,kX];exact l
  ·have bb:((r.hAt:Int)==(r.bAt:Int))=false:=by rw[hX];omega
   have j:=vl q;go_wp2;go_quiet (fail);go_wp2_with fail;refine(vW b H S t 3 _ r v0 _ _ (Cx.alike (w':=w.drewN nq) a ⟨rfl,rfl,rfl⟩) o).mono ?_;rintro e w2 ⟨rfl,ao,cap,c2,k⟩;have l:=vl c2;go_wp2;go_end0;refine⟨rfl,slice ao (c.length+1) cap,?_,(g.trans (Keep.alike (w':=w.drewN nq) ⟨rfl,rfl,rfl⟩)).trans k⟩;rw[h.out,Rs.ended,if_neg (by rw[d];decide),if_neg j.out];unfold Cv;rw[yE,kX];exact l
def Rs.drain (t:Tb):Nat->Rs->Rs×List Ev
 |0,r=>(r,[])
 |n+1,r=>if r.opn=false then(r,[]) else((Rs.drain t n ((r.look t).step t).1).1,((r.look t).step t).2++(Rs.drain t n ((r.look t).step t).1).2)
structure Rs.Fit (r:Rs)(t:Tb)(n:Nat):Prop where
 ok:r.Ok t
 ahead:r.ahead<t.rows
 hAt:r.hAt+n<2147483648
 hLine:r.hLine+n<2147483648
 hCol:r.hCol+n<2147483648
theorem Rs.look_ok (r:Rs)(t:Tb)(a:r.Ok t):(r.look t).Ok t:=⟨a.d1,a.d4,a.st,a.state,a.first,a.count,a.bytes⟩
theorem Rs.step_fit (r:Rs)(t:Tb)(n:Nat)(ok:t.Ok)(a:r.Fit t (n+1)):((r.look t).step t).1.Fit t n:=by
 have b:=((r.look t).took t).fin_same t;have c:=a.hAt;have d:=a.hLine;have e:=a.hCol;refine⟨((r.look t).took t).fin_ok t ok ((r.look t).took_ok t ok (r.look_ok t a.ok)),?_,?_,?_,?_⟩
 ·show(((r.look t).took t).fin t).1.ahead<t.rows
  rw[b.ahead];exact hJ _ ok.rows0
 ·show(((r.look t).took t).fin t).1.hAt+n<2147483648
  rw[b.hAt];show r.hAt+1+n<2147483648;omega
 ·show(((r.look t).took t).fin t).1.hLine+n<2147483648
  rw[b.hLine];show zAf _ r.hLine+n<2147483648;unfold zAf;split <;> omega
 ·show(((r.look t).took t).fin t).1.hCol+n<2147483648
  rw[b.hCol];show zBu _ r.hCol+n<2147483648;unfold zBu;split <;> omega
theorem Rs.step_count (r:Rs)(t:Tb):((r.look t).step t).1.count=r.count-1:=(((r.look t).took t).fin_same t).count
theorem Rs.step_one (r:Rs)(t:Tb):((r.look t).step t).2.length<=1:=((r.look t).took t).fin_one t
theorem zJI (b H:Nat)(S:Nat->Prop)(t:Tb)(l w:World)(r:Rs){v0:Value}(j:List Ev)(D:Cv H b S t w r v0 j)(U:j.length+r.count<4194304)(ok:t.Ok)(V:∀i,i<t.nrule->t.act i<4)(W:r.Fit t r.count)(E:Keep H b l w)
  (f:Rs×List Ev) (F:f=((Rs.drain t r.count r).1.ended.1,(Rs.drain t r.count r).2++(Rs.drain t r.count r).1.ended.2))
  {X Y aa ab ac ad ae af ag ah ai aj ak al am an ao ap aq ar au av aw ax ay az aA aB aC aD aE aF aG aH aI aJ aK aL aM aN aO aP aQ aR aS aT aU aV aW aX aY aZ a0 a1 a2 a3 a4 a5 a6 a7 a8 a9 ba bb bc bd be bf bg bh bi bj bk bl bm bn bo bp bq br bs bt bu:Value}:
  Code.wp prog (qE 2 ((f84.body).getD .skip)) (bodyPost prog f84 λe w'=>
   e=rX/\∃v,Cv H b S t w' f.1 v (j++f.2)/\Keep H b l w')
   ⟨(pX b::X::iX (t.count:Int)::Y::aa::ab::ac::ad::ae::af::ag::ah::ai::aj::ak::al::am::an::ao::ap::aq::ar::au::av::aw::ax::ay::az::aA::aB::aC::aD::aE::aF::aG::aH::aI::aJ::aK::aL::aM::aN::aO::aP::aQ::aR::aS::aT::aU::aV::aW::aX::aY::aZ::a0::a1::a2::a3::a4::a5::a6::a7::a8::a9::ba::bb::bc::bd::be::bf::bg::bh::bi::bj::bk::bl::bm::bn::bo::bp::bq::br::bs::bt::bu::[]).toArray,[]⟩ w:=by
 conv=>arg 2;whnf
 refine wp_seq_k ?_;intro bG hK0;have G:=vl hK0;have bv:=vl D;have bw:=vl E;have I:=vl F;clear D E F hK0;go_wp2;go_loopg [] r.count (λk wr=>∃(a:Rs) (y:Value) (c:List Ev),k=a.count/\Cv H b S t wr a y c/\Keep H b l wr/\a.Fit t a.count/\c.length+a.count<4194304/\
  f.1=(Rs.drain t a.count a).1.ended.1/\j++f.2=c++((Rs.drain t a.count a).2++(Rs.drain t a.count a).1.ended.2))
 case atStart=>exact⟨r,v0,j,rfl,bv,bw,W,U,by rw[I.out],by rw[I.out]⟩
 case round=>
  obtain⟨a,y,c,J,d,q,p,bH,g,h⟩:=hrel;have o:Hid (gk=a.count/\Cv H b S t wr a y c/\Keep H b l wr/\f.1=(Rs.drain t a.count a).1.ended.1/\j++f.2=c++((Rs.drain t a.count a).2++(Rs.drain t a.count a).1.ended.2)):=⟨J,d,q,g,h⟩
  have bI:=d.run.get_tp;have L:=d.run.get_opn;have bJ:=d.run.get_count;have bx:=d.run.get_ahead;have bz:=d.run.frozen 81;by_cases bA:a.count=0
  ·have bB:¬(0:Int)<(a.count:Int):=by omega
   have bC:=vl bA;go_wp2;apply G.out;have ⟨_,d,q,g,h⟩:=o.out;have z:Rs.drain t a.count a=(a,[]):=by rw[bC.out];rfl
   rw[z] at g h;rw[g,show j++f.2=c++a.ended.2 from h];exact zGg b H S t l _ a c d (by omega) q _ rfl
  ·have bB:(0:Int)<(a.count:Int):=by omega
   cases u:a.opn
   ·rw[u] at L
    go_wp2;apply G.out;have ⟨_,d,q,g,h⟩:=o.out;have z:Rs.drain t a.count a=(a,[]):=by cases bK:a.count with|zero=>rfl|succ n=>rw[Rs.drain,if_pos u]
    rw[z] at g h;rw[g,show j++f.2=c++a.ended.2 from h];exact zGg b H S t l _ a c d (by omega) q _ rfl
   ·rw[u] at L
    have bD:=vl u;have M:=vl <| (Cx.alike (w':=wr.drew) o.2.1 ⟨rfl,rfl,rfl⟩).tab;have bL:=ok.count;have bM:=ok.rows;have bN:=p.ahead;go_wp2;go_region_with ((go_at_call 108;go_must ((refine (zBl a.tp _ S t M ok a.ahead t.count (by omega) (by omega)).mono ?_;rintro e bO ⟨rfl,s⟩;have bP:=(s.cell ⟨b,81,none⟩).trans bx;have bQ:=(s.frozen ⟨b,81,none⟩).trans bz))))
    all_goals
     have B:=vl <| Cx.alike o.2.1 s;have bE:=vl <| o.2.2.1.trans (Keep.alike s);have bF:=vl <| Cx.stored B 81 _ (B.run.set_ahead (t.further a.ahead t.count)) rfl;clear M s B;go_wp2_with fail;refine(zIH b H S t _ (a.look t) c bF (by omega) ok V (a.look_ok t p.ok) (by show 1<=a.count;omega) (hJ _ ok.rows0) (by have:=p.hAt;show a.hAt<_;omega) (by have:=p.hLine;show a.hLine<_;omega) (by have:=p.hCol;show a.hCol<_;omega)).mono ?_;rintro e N ⟨rfl,O,P,R⟩;have T:Hid (Cv H b S t N ((a.look t).step t).1 O (c++((a.look t).step t).2)/\Keep H b l N):=⟨P,(bE.trans (Keep.set _ _ _)).trans R⟩
     clear P R;go_wp2_with fail;go_roundg ((a.look t).step t).1.count
     case measure=>rw[o.out.1,Rs.step_count];omega
     case rel=>
      have ⟨J,_,_,g,h⟩:=o.out;obtain⟨m,C⟩:∃m,a.count=m+1:=⟨a.count-1,by omega⟩
      have x:((a.look t).step t).1.count=m:=by rw[Rs.step_count,C];rfl
      have bR:=a.step_one t;rw[C,Rs.drain,if_neg (by rw[bD.out];decide)] at g h;refine⟨((a.look t).step t).1,O,c++((a.look t).step t).2,rfl,T.1,T.2,?_,?_,?_,?_⟩
      ·rw[x];exact a.step_fit t m ok (by rw[<-C];exact p)
      ·rw[x,kX];omega
      ·rw[x];exact g
      ·rw[x,h];simp[gX]
def Tb.aheadTo (t:Tb)(a:Nat):Nat->Nat
 |0=>a
 |j+1=>t.further (t.aheadTo a j) t.count
theorem Tb.aheadTo_lt (t:Tb)(ok:t.Ok)(a j:Nat)(b:a<t.rows):t.aheadTo a j<t.rows:=by
 cases j with
 |zero=>exact b
 |succ j=>exact hJ _ ok.rows0
def Rs.pad (r:Rs)(t:Tb)(j:Nat):Rs:={r with ahead:=t.aheadTo r.ahead j}
theorem Rs.pad_ok (r:Rs)(t:Tb)(j:Nat)(a:r.Ok t):(r.pad t j).Ok t:=⟨a.d1,a.d4,a.st,a.state,a.first,a.count,a.bytes⟩
def Rs.closed (r:Rs)(t:Tb):Rs×List Ev:=
 let d:=Rs.drain t r.count (r.pad t (t.ahead-r.count))
 (d.1.ended.1,d.2++d.1.ended.2)
theorem zNa (b H:Nat)(S:Nat->Prop)(t:Tb)(l w:World)(r:Rs){v0:Value}(c:List Ev)(p:Cv H b S t w r v0 c)(z:c.length+r.count<4194304)(ok:t.Ok)(B:∀i,i<t.nrule->t.act i<4)(d:r.Fit t r.count)(s:Keep H b l w)
  (f:Rs×List Ev) (u:f=r.closed t)
  {C D E F G I J L M N O P R T U V W X Y aa ab ac ad ae af ag ah ai aj ak al am an ao ap aq ar au av aw ax ay az aA aB aC aD aE aF aG aH aI aJ aK aL aM aN aO aP aQ aR aS aT aU aV aW aX aY aZ a0 a1 a2 a3 a4 a5 a6 a7 a8 a9 ba bb bc bd:Value}:
  Code.wp prog (qE 1 ((f84.body).getD .skip)) (bodyPost prog f84 λe w'=>
   e=rX/\∃v,Cv H b S t w' f.1 v (c++f.2)/\Keep H b l w')
   ⟨(pX b::C::iX (t.count:Int)::D::E::F::G::I::J::L::M::N::O::P::R::T::U::V::W::X::Y::aa::ab::ac::ad::ae::af::ag::ah::ai::aj::ak::al::am::an::ao::ap::aq::ar::au::av::aw::ax::ay::az::aA::aB::aC::aD::aE::aF::aG::aH::aI::aJ::aK::aL::aM::aN::aO::aP::aQ::aR::aS::aT::aU::aV::aW::aX::aY::aZ::a0::a1::a2::a3::a4::a5::a6::a7::a8::a9::ba::bb::bc::bd::[]).toArray,[]⟩ w:=by
 conv=>arg 2;whnf
 refine wp_seq_k ?_;intro bt hK0;have be:=vl hK0;have bf:=vl p;have bg:=vl s;have bh:=vl u;have bu:cX w b 77=some (iX r.count):=p.run.get_count;clear p s u hK0;have bv:=ok.ahead;have bw:=d.ok.count;have bx:=ok.count;have bz:=ok.rows;go_wp2;go_loopg [3] (t.ahead-r.count) (λk i wr=>∃j:Nat,k=t.ahead-r.count-j/\j<=t.ahead-r.count/\i=iX ((r.count:Int)+(j:Int))/\Cv H b S t wr (r.pad t j) v0 c/\Keep H b l wr)
 case atStart=>exact⟨0,rfl,lX,congrArg (Value.int IntKind.i64) (by omega),bf,bg⟩
 case round=>
  obtain⟨j,bi,bA,rfl,m,bj⟩:=hrel;have g:Hid (gk=t.ahead-r.count-j/\Cv H b S t wr (r.pad t j) v0 c/\Keep H b l wr):=⟨bi,m,bj⟩
  have bB:cX wr b 0=some (pX r.tp):=m.run.get_tp;have bk:cX wr b 81=some (iX (t.aheadTo r.ahead j:Nat)):=m.run.get_ahead;have bl:=m.run.frozen 81;have bC:cX wr r.tp 1=some (iX t.ahead):=m.tab.c1;have bm:=t.aheadTo_lt ok r.ahead j d.ahead;have bn:Hid (t.aheadTo r.ahead (j+1)=t.further (t.aheadTo r.ahead j) t.count):=rfl;by_cases bD:j<t.ahead-r.count
  ·have bo:(r.count:Int)+(j:Int)<(t.ahead:Int):=by omega
   have bp:=vl <| (Cx.alike (w':=wr.drew) g.2.1 ⟨rfl,rfl,rfl⟩).tab;generalize t.aheadTo r.ahead j=a at *;go_wp2;go_region_with ((go_at_call 108;go_must ((refine (zBl r.tp _ S t bp ok a t.count (by omega) (by omega)).mono ?_;rintro e q ⟨rfl,o⟩;have bE:cX q b 81=some (iX (a:Nat)):=(o.cell ⟨b,81,none⟩).trans bk;have bF:q.frozen? ⟨b,81,none⟩=false:=(o.frozen ⟨b,81,none⟩).trans bl))))
   all_goals
    have x:=vl <| Cx.alike g.2.1 o;have bq:=vl <| g.2.2.trans (Keep.alike o);have br:Hid (Cv H b S t (q.setCell ⟨b,81,none⟩ (iX (t.further a t.count:Nat))) (r.pad t (j+1)) v0 c):=by
     have y:=Cx.stored x 81 _ (x.run.set_ahead (t.further a t.count)) rfl;rw[<-bn.out] at y ⊢;exact y
    go_wp2;go_roundg (t.ahead-r.count-(j+1))
    case measure=>rw[g.out.1];omega
    case rel=>exact⟨j+1,rfl,by omega,congrArg (Value.int IntKind.i64) (by omega),br,bq.trans (Keep.set _ _ _)⟩
  ·have bo:(t.ahead:Int)<=(r.count:Int)+(j:Int):=by omega
   have bs:Hid (j=t.ahead-r.count):=by show j=_;omega
   go_wp2;apply be.out;refine zJI b H S t l _ (r.pad t j) c g.2.1 z ok B ⟨r.pad_ok t j d.ok,bm,d.hAt,d.hLine,d.hCol⟩ g.2.2 f ?_;rw[bh.out,bs.out];rfl
theorem zDP (b H:Nat)(S:Nat->Prop)(t:Tb)(w:World)(r:Rs){v0:Value}(a:List Ev)(c:Cv H b S t w r v0 a)(g:a.length+r.count<4194304)(ok:t.Ok)(h:∀i,i<t.nrule->t.act i<4)(j:r.Fit t r.count):
  Calls prog 84 #[pX b] w λe w'=>
   e=rX/\∃v,Cv H b S t w' (r.closed t).1 v (a++(r.closed t).2)/\Keep H b w w':=by
 have d:=vl c;have l:=c.run.get_tp;go_in;apply wp_cut;intro m k;go_wp2_with fail;refine(zM1 r.tp _ S t d.tab).mono ?_;rintro e w1 ⟨rfl,f⟩;go_wp2;apply k.out;exact zNa b H S t w _ r a (Cx.alike d f) g ok h j (Keep.alike f) _ rfl
section
variable (r:Rs) (t:Tb)
structure Rs.Str (r:Rs)(t:Tb)(P:Nat):Prop where
 ok:r.Ok t
 ahead:r.ahead<t.rows
 cnt:r.count<=t.ahead
 pos:r.hAt+r.count<=P
 line:r.hLine<=r.hAt+1
 col:r.hCol<=r.hAt+1
theorem Rs.step_opn:((r.step t).1.opn=r.opn\/(r.step t).2≠[])/\((r.step t).1.opn=true->r.opn=true)/\(r.step t).2.length<=1:=by
 have a:=(r.took t).fin_one t;refine⟨?_,?_,a⟩
 ·show((r.took t).fin t).1.opn=r.opn\/((r.took t).fin t).2≠[]
  unfold Rs.fin;split
  ·exact((r.took t).tok_opn t _ _ _ _).1
  ·split
   ·exact .inr (by simp)
   ·exact .inl rfl
 ·show((r.took t).fin t).1.opn=true->r.opn=true
  unfold Rs.fin;split
  ·exact((r.took t).tok_opn t _ _ _ _).2.1
  ·split
   ·intro b;cases b
   ·exact id
theorem Rs.take_inv (P c:Nat)(ok:t.Ok)(a:r.Str t P)(j:c<256)(k:r.opn=true):
  (r.take t c).1.Str t (P+1)/\(r.take t c).2.length+(r.take t c).1.count+xK (r.take t c).1.opn<=r.count+2/\((r.take t c).1.opn=true\/(r.take t c).2≠[]):=by
 have p:=ok.ahead;have s:=a.cnt;have u:=a.pos;have v:=a.line;have w:=a.col;have g:((r.added c).looked t (t.kind c)).Ok t:=let a:=r.added_ok t c a.ok j (by omega);⟨a.d1,a.d4,a.st,a.state,a.first,a.count,a.bytes⟩;unfold Rs.take Rs.due;generalize b:(r.added c).looked t (t.kind c)=q at *;have x:q.count=r.count+1:=by rw[<-b];rfl
 have y:q.hAt=r.hAt:=by rw[<-b];rfl
 have z:q.hLine=r.hLine:=by rw[<-b];rfl
 have A:q.hCol=r.hCol:=by rw[<-b];rfl
 have f:q.opn=true:=by rw[<-b];exact k
 have l:q.ahead<t.rows:=by rw[<-b];exact hJ _ ok.rows0
 have B:xK true=1:=rfl;split
 ·rename_i m
  have ⟨s1,s2,C⟩:=q.step_opn t;have d:=(q.took t).fin_same t;have D:(q.step t).1.count=q.count-1:=d.count;have E:(q.step t).1.hAt=q.hAt+1:=d.hAt;have F:(q.step t).1.hLine<=q.hLine+1:=by
   have e:(q.step t).1.hLine=zAf (q.byte q.first) q.hLine:=d.hLine;rw[e];unfold zAf;split <;> omega
  have G:(q.step t).1.hCol<=q.hCol+1:=by
   have e:(q.step t).1.hCol=zBu (q.byte q.first) q.hCol:=d.hCol;rw[e];unfold zBu;split <;> omega
  have H:(q.step t).1.ahead=q.ahead:=d.ahead;have o:=(q.took t).fin_ok t ok (q.took_ok t ok g);have I:xK (q.step t).1.opn<=1:=by unfold xK;split <;> omega
  exact⟨⟨o,by omega,by omega,by omega,by omega,by omega⟩,by omega,by rw[f] at s1;exact s1⟩
 ·rename_i m
  refine⟨⟨g,l,by show q.count<=t.ahead;omega,by show q.hAt+q.count<=P+1;omega,by show q.hLine<=q.hAt+1;omega,by show q.hCol<=q.hAt+1;omega⟩,?_,.inl f⟩;show 0+q.count+xK q.opn<=r.count+2;rw[f];omega
def Rs.Good (r:Rs)(t:Tb)(P:Nat):Prop:=if t.stream then r.Str t P else r.Oth t P
theorem Rs.Good.ok {r:Rs}{t:Tb}{P:Nat}(a:r.Good t P):r.Ok t:=by
 unfold Rs.Good at a;split at a
 ·exact a.ok
 ·exact a.ok
theorem Rs.Good.cnt {r:Rs}{t:Tb}{P:Nat}(a:r.Good t P):r.count<=P:=by
 unfold Rs.Good at a;split at a
 ·have:=a.pos;omega
 ·have:=a.pos;omega
def Rs.eat (r:Rs)(t:Tb)(c:Nat):Rs×List Ev:=if t.stream then r.take t c else r.takeO t c
theorem Rs.eat_inv (P c:Nat)(ok:t.Ok)(a:r.Good t P)(d:c<256)(e:r.opn=true):
  (r.eat t c).1.Good t (P+1)/\(r.eat t c).2.length+(r.eat t c).1.count+xK (r.eat t c).1.opn<=r.count+2/\((r.eat t c).1.opn=true\/(r.eat t c).2≠[]):=by
 unfold Rs.eat Rs.Good at *;split
 ·rename_i b
  rw[if_pos b] at a;exact r.take_inv t P c ok a d e
 ·rename_i b
  rw[if_neg b] at a;exact r.takeO_inv t P c ok a d e
def Rs.feed (t:Tb):List Nat->Rs->Rs×List Ev
 |[],r=>(r,[])
 |c::cs,r=>if r.opn then((Rs.feed t cs (r.eat t c).1).1,(r.eat t c).2++(Rs.feed t cs (r.eat t c).1).2) else(r,[])
theorem Rs.feed_shut (cs:List Nat)(r:Rs)(a:r.opn=false):Rs.feed t cs r=(r,[]):=by
 cases cs with
 |nil=>rfl
 |cons c cs=>unfold Rs.feed;rw[if_neg (by rw[a];decide)]
theorem Rs.feed_append (xs bs:List Nat)(r:Rs):Rs.feed t (xs++bs) r=((Rs.feed t bs (Rs.feed t xs r).1).1,(Rs.feed t xs r).2++(Rs.feed t bs (Rs.feed t xs r).1).2):=by
 induction xs generalizing r with
 |nil=>simp[Rs.feed]
 |cons c xs d=>
  by_cases b:r.opn=true
  ·simp only[List.cons_append,Rs.feed,b,if_true,d,gX]
  ·have a:r.opn=false:=by simpa using b
   rw[Rs.feed_shut t _ r a,Rs.feed_shut t _ r a];rw[Rs.feed_shut t _ r a,dX]
theorem Rs.feed_snoc (cs:List Nat)(c:Nat)(r:Rs)(a:(Rs.feed t cs r).1.opn=true):Rs.feed t (cs++[c]) r=(((Rs.feed t cs r).1.eat t c).1,(Rs.feed t cs r).2++((Rs.feed t cs r).1.eat t c).2):=by
 rw[Rs.feed_append];simp[Rs.feed,a]
theorem Rs.feed_inv (ok:t.Ok)(cs:List Nat)(r:Rs)(P:Nat)(a:r.Good t P)(f:∀c∈cs,c<256):
  (Rs.feed t cs r).1.Good t (P+cs.length)/\(Rs.feed t cs r).2.length+(Rs.feed t cs r).1.count+xK (Rs.feed t cs r).1.opn<=r.count+xK r.opn+cs.length/\((Rs.feed t cs r).1.opn=r.opn\/(Rs.feed t cs r).2≠[]):=by
 induction cs generalizing r P with
 |nil=>exact⟨a,by simp[Rs.feed],.inl rfl⟩
 |cons c cs k=>
  by_cases b:r.opn=true
  ·have ⟨l,u,m⟩:=r.eat_inv t P c ok a (f c gQ) b
   have ⟨o,b2,p⟩:=k (r.eat t c).1 (P+1) l λx q=>f x (List.mem_cons_of_mem _ q);have e:Rs.feed t (c::cs) r=((Rs.feed t cs (r.eat t c).1).1,(r.eat t c).2++(Rs.feed t cs (r.eat t c).1).2):=by
    rw[Rs.feed,if_pos b]
   rw[e,b];have v:xK true=1:=rfl;refine⟨?_,?_,?_⟩
   ·rw[hU,Nat.add_comm cs.length,<-Nat.add_assoc];exact o
   ·rw[kX,hU]
    show(r.eat t c).2.length+(Rs.feed t cs (r.eat t c).1).2.length+(Rs.feed t cs (r.eat t c).1).1.count+xK (Rs.feed t cs (r.eat t c).1).1.opn<=_;omega
   ·show(Rs.feed t cs (r.eat t c).1).1.opn=true\/(r.eat t c).2++(Rs.feed t cs (r.eat t c).1).2≠[]
    by_cases g:(r.eat t c).2=[]
    ·by_cases j:(Rs.feed t cs (r.eat t c).1).2=[]
     ·left
      rw[p.resolve_right (λa=>a j)];exact m.resolve_right (λa=>a g)
     ·right;simp[j]
    ·right;simp[g]
  ·have s:r.opn=false:=by simpa using b
   rw[Rs.feed_shut t _ r s];refine⟨?_,?_,.inl rfl⟩
   ·unfold Rs.Good at *
    split
    ·rename_i d
     rw[if_pos d] at a;exact⟨a.ok,a.ahead,a.cnt,lY a.pos (Nat.le_add_right _ _),a.line,a.col⟩
    ·rename_i d
     rw[if_neg d] at a;exact⟨a.ok,a.len,a.tak,a.rule,lY a.pos (Nat.le_add_right _ _),a.line,a.col1,a.col⟩
   ·show 0+r.count+xK r.opn<=_
    omega
def Rs.shut (r:Rs)(t:Tb):Rs×List Ev:=if r.opn then(if t.stream then r.closed t else r.closeO t) else(r,[])
theorem Rs.drain_end (n:Nat)(r:Rs):((Rs.drain t n r).1.opn=r.opn\/(Rs.drain t n r).2≠[])/\(Rs.drain t n r).2.length<=n:=by
 induction n generalizing r with
 |zero=>exact⟨.inl rfl,lQ⟩
 |succ n d=>
  rw[Rs.drain];split
  ·exact⟨.inl rfl,lX⟩
  ·have ⟨s1,s2,f⟩:=(r.look t).step_opn t
   have ⟨e,g⟩:=d ((r.look t).step t).1
   constructor
   ·show(Rs.drain t n ((r.look t).step t).1).1.opn=r.opn\/((r.look t).step t).2++(Rs.drain t n ((r.look t).step t).1).2≠[]
    by_cases b:((r.look t).step t).2=[]
    ·by_cases c:(Rs.drain t n ((r.look t).step t).1).2=[]
     ·left
      rw[e.resolve_right (λa=>a c)];exact s1.resolve_right (λa=>a b)
     ·right;simp[c]
    ·right;simp[b]
   ·show(((r.look t).step t).2++(Rs.drain t n ((r.look t).step t).1).2).length<=n+1
    rw[kX];omega
theorem Rs.closed_end (c:r.opn=true):(r.closed t).1.opn=false/\(r.closed t).2≠[]/\(r.closed t).2.length<=r.count+1:=by
 have ⟨a,f⟩:=Rs.drain_end t r.count (r.pad t (t.ahead-r.count));have e:(r.pad t (t.ahead-r.count)).opn=true:=c;rw[e] at a;unfold Rs.closed;simp only;generalize Rs.drain t r.count (r.pad t (t.ahead-r.count))=g at *;unfold Rs.ended;split
 ·rename_i b
  refine⟨b,?_,?_⟩
  ·have:=a.resolve_left (by rw[b];decide)
   simpa using this
  ·simp;omega
 ·exact⟨rfl,by simp,by simp;omega⟩
theorem Rs.shut_end (P:Nat)(ok:t.Ok)(b:r.Good t P)(a:r.opn=true):(r.shut t).1.opn=false/\(r.shut t).2≠[]:=by
 unfold Rs.shut;rw[if_pos a];unfold Rs.Good at b;split
 ·exact⟨(r.closed_end t a).1,(r.closed_end t a).2.1⟩
 ·rename_i c
  rw[if_neg c] at b;exact r.closeO_end t P ok b a
def nats (s:ByteArray):List Nat:=s.data.toList.map UInt8.toNat
theorem zDE (s:ByteArray):∀c∈nats s,c<256:=by
 intro c a;obtain⟨x,_,rfl⟩:=List.mem_map.1 a;exact x.toNat_lt
theorem qG (s:ByteArray):(nats s).length=s.size:=by
 unfold nats;rw[kV,Array.length_toList];rfl
end
def zLj (i:Nat):Value:=if i=0 then pointer none else if i=1 then bool false else if i=2 then slice none 0 0 else if 12<=i∧i<76 then int .u8 0 else int i64 0
theorem zCu:zeroCells102=((List.range 85).map zLj).toArray:=by kernel_rfl
theorem zIe:(prog.info? 102).map (·.size)=some 85:=by kernel_rfl
def Rs.zero (p:Nat):Rs:=⟨p,true,fun _=>0,0,0,1,1,0,fun _=>0,0,0,0,1,1,0,0,0,0⟩
def zAe (z:Array Value)(p:Nat):Array Value:=(((((((z.setIfInBounds 0 (pointer (some ⟨p,0,none⟩))).setIfInBounds 1 (bool true)).setIfInBounds 8 (int i64 0)).setIfInBounds 9 (int i64 1)).setIfInBounds 10 (int i64 1)).setIfInBounds 78 (int i64 0)).setIfInBounds 79 (int i64 1)).setIfInBounds 80 (int i64 1)
theorem zAu (p:Nat):(zAe zeroCells102 p).size=85:=by unfold zAe;rw[zCu];simp
theorem zED (p i:Nat)(hi:i<85):(zAe zeroCells102 p)[i]? =some ((Rs.zero p).cells (slice none 0 0) i):=by
 unfold zAe;rw[zCu];simp only[Array.getElem?_setIfInBounds,Array.size_setIfInBounds,List.getElem?_toArray,List.size_toArray,kV,List.length_range,gZ];rw[List.getElem?_range hi];unfold Rs.cells zLj Rs.zero;simp only[Option.map_some];by_cases h0:i=0
 ·subst h0;rfl
 by_cases h1:i=1
 ·subst h1;rfl
 by_cases h2:i=2
 ·subst h2;rfl
 by_cases h8:i=8
 ·subst h8;rfl
 by_cases h9:i=9
 ·subst h9;rfl
 by_cases h10:i=10
 ·subst h10;rfl
 by_cases h78:i=78
 ·subst h78;rfl
 by_cases h79:i=79
 ·subst h79;rfl
 by_cases h80:i=80
 ·subst h80;rfl
 rw[if_neg (Ne.symm h80),if_neg (Ne.symm h79),if_neg (Ne.symm h78),if_neg (Ne.symm h10),if_neg (Ne.symm h9),if_neg (Ne.symm h8),if_neg (Ne.symm h1),if_neg (Ne.symm h0)];simp only[h0,h1,h2,h8,h9,h10,h78,h79,h80,if_false];by_cases hb:12<=i∧i<76
 ·rw[if_pos hb]
  repeat rw[if_neg (by omega)]
  rfl
 ·rw[if_neg hb]
  by_cases h3:i=3
  ·subst h3;rfl
  by_cases h4:i=4
  ·subst h4;rfl
  by_cases h5:i=5
  ·subst h5;rfl
  by_cases h6:i=6
  ·subst h6;rfl
  by_cases h7:i=7
  ·subst h7;rfl
  by_cases h11:i=11
  ·subst h11;rfl
  by_cases h76:i=76
  ·subst h76;rfl
  by_cases h77:i=77
  ·subst h77;rfl
  by_cases h81:i=81
  ·subst h81;rfl
  by_cases h82:i=82
  ·subst h82;rfl
  by_cases h83:i=83
  ·subst h83;rfl
  have h84:i=84:=by omega
  subst h84;rfl
theorem zN9 {H:Nat}(w:World)(g i:Nat)(x:Value)(hg:H<=g):Keep H H w (w.setCell ⟨g,i,none⟩ x):=⟨rfl,rfl,by simp[World.setCell],fun k h1 _=>lJ _ _ _ _ (by show k≠g;omega)⟩
theorem yR {c:Prop}[Decidable c] {x y:Value}(hx:x.oneCell'=true)(hy:y.oneCell'=true):(if c then x else y).oneCell'=true:=by split <;> assumption
theorem Rs.cells_one (r:Rs)(v:Value)(j:Nat)(hv:v.oneCell'=true):(r.cells v j).oneCell'=true:=by
 unfold Rs.cells;exact yR rfl (yR rfl (yR hv (yR rfl (yR rfl (yR rfl (yR rfl (yR rfl (yR rfl (yR rfl (yR rfl (yR rfl (yR rfl (yR rfl (yR rfl (yR rfl (yR rfl (yR rfl (yR rfl (yR rfl (yR rfl rfl))))))))))))))))))))
theorem zHy (r:Rs)(v:Value)(hv:v.oneCell'=true)(C:Array Value)(hs:C.size=85)(h:∀i,i<85->C[i]? =some (r.cells v i)):C.all (·.oneCell')=true:=by
 rw[Array.all_eq_true];intro i hi;have e:=h i (by omega);rw[Array.getElem?_eq_getElem hi] at e;rw[hQ e];exact r.cells_one v i hv
theorem zJT (p:Nat)(S:Nat->Prop)(t:Tb)(w:World)(hT:TabAt w S p t)(hS:∀k,S k->k<w.heap.size)(ok:t.Ok):
  Calls prog 49 #[pointer (some ⟨p,0,none⟩)] w fun e w'=>∃c:Array Value,e=returned (agg c)∧c.size=85∧(∀i,i<85->c[i]? =some (({Rs.zero p with stack:=fun _=>0,depth:=1,state:=t.start 0}:Rs).cells (slice none 0 0) i))∧Grew w w':=by
 have hst:(storeCells {block:=w.heap.size+1+1,off:=0} ((((((((zeroCells102.toList.set 0 (Value.pointer (some {block:=p,off:=0}))).set 1 (Value.bool true)).set 8 (Value.int IntKind.i64 0)).set 9 (Value.int IntKind.i64 1)).set 10 (Value.int IntKind.i64 1)).set 78 (Value.int IntKind.i64 0)).set 79 (Value.int IntKind.i64 1)).set 80 (Value.int IntKind.i64 1))).run prog
   (((w.alloc (Obj.cells zeroCells102 102)).alloc (Obj.cells #[Value.int IntKind.i64 0,Value.int IntKind.i64 1,Value.int IntKind.i64 1] 97)).alloc (Obj.cells zeroCells102 102))=
   .ok () (((w.alloc (Obj.cells zeroCells102 102)).alloc (Obj.cells #[Value.int IntKind.i64 0,Value.int IntKind.i64 1,Value.int IntKind.i64 1] 97)).alloc (Obj.cells (zAe zeroCells102 p) 102)):=by
  have h:=run_storeCells_new (P:=prog) ((w.alloc (Obj.cells zeroCells102 102)).alloc (Obj.cells #[Value.int IntKind.i64 0,Value.int IntKind.i64 1,Value.int IntKind.i64 1] 97)) 102 zeroCells102 (zAe zeroCells102 p) (by rw[zAu];exact zIe) (by rw[zAu,zCu];simp) (zHy (Rs.zero p) (slice none 0 0) rfl _ (zAu p) (zED p));rw[show ((w.alloc (Obj.cells zeroCells102 102)).alloc (Obj.cells #[Value.int IntKind.i64 0,Value.int IntKind.i64 1,Value.int IntKind.i64 1] 97)).heap.size=w.heap.size+1+1 by simp] at h;simpa only[zAe,Array.toList_setIfInBounds] using h
 have HT:Hid (TabAt w S p t∧∀k,S k->k<w.heap.size):=⟨hT,hS⟩
 go_in;apply wp_cut;intro K0 HK0;go_wp2;apply HK0.out;apply wp_cut;intro K1 HK1;go_wp2;apply HK1.out;apply wp_cut;intro K2 HK2;go_wp2;apply HK2.out;obtain⟨w3,hw3,A3⟩:∃w3,w3=(((w.alloc (Obj.cells zeroCells102 102)).alloc (Obj.cells #[Value.int IntKind.i64 0,Value.int IntKind.i64 1,Value.int IntKind.i64 1] 97)).alloc (Obj.cells (zAe zeroCells102 p) 102))∧
   Hid (zN w3 (w.heap.size+1+1) (Rs.zero p) (slice none 0 0)∧w3.heap[w.heap.size]? =some (.cells zeroCells102 102 (0,0))∧TabAt w3 S p t∧Grew w w3∧w.heap.size+3<=w3.heap.size):=by
  have hn:=gY ((w.alloc (Obj.cells zeroCells102 102)).alloc (Obj.cells #[Value.int IntKind.i64 0,Value.int IntKind.i64 1,Value.int IntKind.i64 1] 97)) (Obj.cells (zAe zeroCells102 p) 102);rw[show ((w.alloc (Obj.cells zeroCells102 102)).alloc (Obj.cells #[Value.int IntKind.i64 0,Value.int IntKind.i64 1,Value.int IntKind.i64 1] 97)).heap.size=w.heap.size+1+1 by simp] at hn;refine⟨_,rfl,⟨_,_,hn,zAu p,fun i hi=>zED p i hi⟩,?_,?_,?_,by simp⟩
  ·exact(lG _ _ _ (by simp;omega)).trans ((lG _ _ _ (by simp)).trans (gY w _))
  ·exact HT.out.1.keep fun k hk=>by
    have:=HT.out.2 k hk;exact(lG _ _ _ (by simp;omega)).trans ((lG _ _ _ (by simp;omega)).trans (lG _ _ _ this))
  ·exact((kZ _ _ lQ).trans (kZ _ _ (by simp))).trans (kZ _ _ (by simp;omega))
 rw[<-hw3];clear hw3 hst;apply wp_cut;intro K3 HK3;go_wp2_with fail;refine(zFI (w.heap.size+1+1) 0 w3 (Rs.zero p) A3.out.1 (by show(0:Nat)<4;decide)).mono ?_;rintro e w4 ⟨rfl,hR4,hk4⟩;have A4:Hid (zN w4 (w.heap.size+1+1) {Rs.zero p with stack:=fun j=>if j=0 then 0 else 0,depth:=1} (slice none 0 0)∧w4.heap[w.heap.size]? =some (.cells zeroCells102 102 (0,0))∧TabAt w4 S p t∧Grew w w4∧w.heap.size+3<=w4.heap.size):=by
  refine⟨hR4,((hk4 w3.heap.size).block _ (by have:=A3.out.2.2.2.2;omega) (by omega)).trans A3.out.2.1,A3.out.2.2.1.keep fun k hk=>(hk4 w3.heap.size).block k (by have:=HT.out.2 k hk;have:=A3.out.2.2.2.2;omega) (by have:=HT.out.2 k hk;omega),A3.out.2.2.2.1.trans ⟨(hk4 0).os,(hk4 0).output,(hk4 0).size,fun k hk _=>(hk4 w3.heap.size).block k (by have:=A3.out.2.2.2.2;omega) (by omega)⟩,lY A3.out.2.2.2.2 (hk4 0).size⟩
 go_wp2;apply HK3.out;refine wp_seq_k ?_;intro K4 hK4;have HK4:Hid (∀a w,_->K4 a w):=hK4;clear hK4;have y11:w4.cell? ⟨w.heap.size+1+1,11,none⟩=some (int i64 0):=A4.out.1.get_state;have z11:=A4.out.1.frozen 11;go_wp2_with fail;refine(zAw (w.heap.size+1+1) w4 _ A4.out.1 S t A4.out.2.2.1 lQ (by show(1:Nat)<=4;decide) ok.nmode).mono ?_;rintro e w5 ⟨rfl,ha5⟩;have y11':w5.cell? ⟨w.heap.size+1+1,11,none⟩=some (int i64 0):=(ha5.cell _).trans y11;have z11':w5.frozen? ⟨w.heap.size+1+1,11,none⟩=false:=(ha5.frozen _).trans z11;clear y11 z11;go_wp2_with fail;apply HK4.out;clear HK4;obtain⟨w6,hw6,A6⟩:∃w6,w6=w5.setCell ⟨w.heap.size+1+1,11,none⟩ (int i64 (t.start 0:Nat))∧Hid (zN w6 (w.heap.size+1+1) {Rs.zero p with stack:=fun _=>0,depth:=1,state:=t.start 0} (slice none 0 0)∧w6.heap[w.heap.size]? =some (.cells zeroCells102 102 (0,0))∧Grew w w6∧w.heap.size+3<=w6.heap.size):=by
  have hR:=(A4.out.1.alike ha5).set_state (t.start 0);rw[show (fun j=>if j=0 then 0 else 0:Nat->Nat)=fun _=>0 from funext fun j=>by split <;> rfl] at hR;refine⟨_,rfl,hR,(lJ _ _ _ _ (by show w.heap.size≠w.heap.size+1+1;omega)).trans ((by rw[ha5.1]:w5.heap[w.heap.size]? =w4.heap[w.heap.size]?).trans A4.out.2.1),(A4.out.2.2.2.1.trans (Keep.alike ha5)).trans (zN9 _ _ _ _ (by omega)),?_⟩;have:=A4.out.2.2.2.2;rw[<-ha5.1] at this;simpa[World.setCell] using this
 rw[<-hw6];clear hw6 y11' z11' ha5 A4;obtain⟨hR6,hZ6,hK6,hS6⟩:=A6.out;obtain⟨ty,c,hg6,hc85,hcat⟩:=hR6;have hone:=zHy _ (slice none 0 0) rfl c hc85 hcat
 clear A6;have HCA:Hid (∀i,i<85->c[i]? =some (({Rs.zero p with stack:=fun _=>0,depth:=1,state:=t.start 0}:Rs).cells (slice none 0 0) i)):=hcat
 have HG6:Hid (w6.heap[w.heap.size+1+1]? =some (.cells c ty (0,0))):=hg6;have HZ6:Hid (w6.heap[w.heap.size]? =some (.cells zeroCells102 102 (0,0))):=hZ6;have HON:Hid (c.all (·.oneCell')=true):=hone;clear hcat hg6 hZ6 hone;go_wp2_with fail;refine wp_load_row 102 (.tmp 4) rfl (w.heap.size+1+1) rfl ty c (0,0) _ HG6.out underlying102 rfl (by rw[hc85];exact zIe) ?_;have hs3:(storeCells ⟨w.heap.size,0,none⟩ c.toList).run prog w6=.ok () (w6.setRow w.heap.size c):=by
  have h:=run_storeCells_from (P:=prog) w.heap.size 102 c.toList 0 zeroCells102 w6 HZ6.out (by rw[zCu];simp[hc85]) (fun v hv=>(Array.all_eq_true_iff_forall_mem.1 HON.out) v (by simpa using hv));simpa using h
 go_wp2_with fail;have hg7:(w6.setRow w.heap.size c).heap[w.heap.size]? =some (.cells c 102 (0,0)):=by
  unfold World.setRow;simp[lU,HZ6.out]
 have hl2:(loadVar 102 ⟨w.heap.size,0,none⟩).run prog (w6.setRow w.heap.size c)=.ok (agg c) (w6.setRow w.heap.size c):=run_loadVar_row _ _ 102 102 c (0,0) _ hg7 underlying102 rfl (by rw[hc85];exact zIe);refine gJ (v:=agg c) ?_ rfl ⟨c,rfl,hc85,HCA.out,hK6.trans ?_⟩
 ·unfold results
  rw[results49];simp[hl2,asAddr,Sem.run_bind,Sem.run_pure]
 ·refine⟨rfl,rfl,by simp[World.setRow],fun k hk _=>?_⟩
  unfold World.setRow;simp[lU];intro e;omega
section
variable (b H:Nat) (S:Nat->Prop) (t:Tb) (w:World) (r:Rs) {v0:Value} (a:List Ev) (P:Nat) (d:Cv H b S t w r v0 a) (ok:t.Ok)
theorem zMy (s:ByteArray)(k:Nat)(a:k<s.size):(nats s).take (k+1)=(nats s).take k++[s[k].toNat]:=by
 unfold nats;rw[<-List.map_take,zL8 s k a,List.map_append,List.map_take];rfl
theorem zMW (s:ByteArray)(k:Nat)(r:Rs)(d:k<=s.size)(a:¬(k<s.size/\(Rs.feed t ((nats s).take k) r).1.opn=true)):Rs.feed t ((nats s).take k) r=Rs.feed t (nats s) r:=by
 by_cases e:k<s.size
 ·have b:(Rs.feed t ((nats s).take k) r).1.opn=false:=by
   cases c:(Rs.feed t ((nats s).take k) r).1.opn with
   |false=>rfl
   |true=>exact absurd ⟨e,c⟩ a
  conv=>rhs;rw[<-List.take_append_drop k (nats s),Rs.feed_append,Rs.feed_shut t _ _ b,dX]
 ·rw[List.take_of_length_le (by rw[qG];omega)]
theorem zJh {w:World}{H e b n:Nat}{v:Value}{xs:List Value}(c:w.ownsRow H e b v n xs):∃ao cap,v=slice ao n cap:=by
 rcases c.2 with⟨a,d⟩|⟨g,cap,_,a,_⟩
 ·exact⟨none,0,by rw[a,d]⟩
 ·exact⟨_,cap,a⟩
theorem zJg {w w':World}{H b e a n:Nat}{v:Value}{xs:List Value}(c:w.ownsRow H e a v n xs)(f:∀H,Keep H b w w')(p:b<H):w'.ownsRow H e a v n xs:=by
 refine⟨c.1,c.2.imp id ?_⟩;rintro⟨g,cap,j,k,l,d,m⟩;have o:=(kQ.1 d).1;exact⟨g,cap,j,k,l,((f w.heap.size).block g o (by omega)).trans d,m⟩
theorem Rs.Good.str {r:Rs}{t:Tb}{P:Nat}(a:r.Good t P)(b:t.stream=true):r.Str t P:=by unfold Rs.Good at a;rw[if_pos b] at a;exact a
theorem Rs.Good.oth {r:Rs}{t:Tb}{P:Nat}(a:r.Good t P)(b:t.stream=false):r.Oth t P:=by unfold Rs.Good at a;rw[if_neg (by rw[b];decide)] at a;exact a
theorem zK5 (d:List Ev)(P c:Nat)(g:Cv H b S t w r v0 d)(ok:t.Ok)(j:∀i,i<t.nrule->t.act i<4)(k:r.Good t P)(o:P<1073741824)(l:d.length<=4194304)(m:c<256)(f:t.stream=true):
  Calls prog 73 #[pX b,int .u8 c] w λe w'=>
   e=rX/\∃v,Cv H b S t w' (r.eat t c).1 v (d++(r.eat t c).2)/\Keep H b w w':=by
 have a:=k.str f;have p:=a.pos;have q:=a.line;have s:=a.col;have u:=a.cnt;have x:=ok.ahead;have e:r.eat t c=r.take t c:=if_pos f;rw[e];exact zKg b H S t w r d c g l ok j a.ok a.ahead (by omega) m (by omega) (by omega) (by omega)
theorem zK6 (P C c:Nat)(f:Cv H b S t w r v0 a)(ok:t.Ok)(g:∀i,i<t.nrule->t.act i<4)(h:r.Good t P)(j:P<1073741824)(k:a.length+r.count+xK r.opn<=C)(l:C<4194304)(m:c<256)(d:t.stream=false):
  Calls prog 74 #[pX b,int .u8 c] w λe w'=>
   e=rX/\∃v,Cv H b S t w' (r.eat t c).1 v (a++(r.eat t c).2)/\Keep H b w w':=by
 have e:r.eat t c=r.takeO t c:=if_neg (by rw[d];decide);rw[e];exact zIG b H S t w r a P C c f ok g (h.oth d) j k l m
theorem zGB (a:Rs){v0:Value}(d:List Ev)(s:ByteArray)(P C:Nat)(f:Cv H b S t w a v0 d)(ok:t.Ok)(M:∀i,i<t.nrule->t.act i<4)(Y:a.Good t P)(am:P+s.size<1073741824)(aa:d.length+a.count+xK a.opn<=C)(an:C+s.size<4194304):
  Calls prog 50 #[pX b,string s] w λe w'=>
   ∃v,e=returned v/\zN w' b (Rs.feed t (nats s) a).1 nX/\w'.ownsRow H 51 6 v (d++(Rs.feed t (nats s) a).2).length (xD (d++(Rs.feed t (nats s) a).2))/\Keep H b w w':=by
 have E:Hid (Cv H b S t w a v0 d/\a.Good t P/\d.length+a.count+xK a.opn<=C):=⟨f,Y,aa⟩
 go_in;apply wp_cut;intro ap ab;go_wp2;apply ab.out;apply wp_cut;intro aq z;go_wp2;go_loopg [5] s.size (λq i wr=>∃(k:Nat) (v:Value),q=s.size-k/\k<=s.size/\i=iX (k:Int)/\Cv H b S t wr (Rs.feed t ((nats s).take k) a).1 v (d++(Rs.feed t ((nats s).take k) a).2)/\Keep H b w wr)
 case atStart=>exact⟨0,v0,rfl,lX,rfl,by rw[List.take_zero];show Cv H b S t w a v0 (d++[]);rw[dX];exact E.1,Keep.refl _ _ _⟩
 case round=>
  obtain⟨k,v,ac,G,rfl,f,ad⟩:=hrel;have N:=vl <| zMW t s k a G;have A:Hid ((Rs.feed t ((nats s).take k) a).1.Good t (P+k)/\(d++(Rs.feed t ((nats s).take k) a).2).length+(Rs.feed t ((nats s).take k) a).1.count+xK (Rs.feed t ((nats s).take k) a).1.opn<=C+k):=by
   have B:=Rs.feed_inv t ok ((nats s).take k) a P E.2.1 (λc ae=>zDE s c (List.mem_of_mem_take ae));have af:((nats s).take k).length=k:=by rw[List.length_take,qG];omega
   rw[af] at B;have ar:=E.2.2;refine⟨B.1,?_⟩;rw[kX];omega
  have O:Hid (∀m:k<s.size,(Rs.feed t ((nats s).take k) a).1.opn=true->Rs.feed t ((nats s).take (k+1)) a=(((Rs.feed t ((nats s).take k) a).1.eat t s[k].toNat).1,(Rs.feed t ((nats s).take k) a).2++((Rs.feed t ((nats s).take k) a).1.eat t s[k].toNat).2)):=by
   intro m ag;rw[zMy s k m];exact Rs.feed_snoc t _ _ _ ag
  generalize ah:Rs.feed t ((nats s).take k) a=ai at *;obtain⟨r,j⟩:=ai;have au:=vl ah;have g:Hid (Cv H b S t wr r v (d++j)/\Keep H b w wr/\gk=s.size-k):=⟨f,ad,ac⟩
  have R:=f.run.get_opn;have av:=f.run.get_tp;have T:=f.tab.c0;by_cases o:k<s.size/\r.opn=true
  ·obtain⟨m,p⟩:=o
   rw[p] at R;have U:=vl <| O m p;have V:=s[k].toNat_lt;cases u:t.stream with
   |true=>
    have I:=vl u;rw[u] at T;go_wp2_with fail;refine(zK5 b H S t wr r (d++j) (P+k) s[k].toNat g.1 ok M A.1 (by omega) (by have:=A.2;omega) V I).mono ?_;rintro e w1 ⟨rfl,v1,c1,D⟩;have l:Hid (Cv H b S t w1 (r.eat t s[k].toNat).1 v1 ((d++j)++(r.eat t s[k].toNat).2)/\Keep H b wr w1):=⟨c1,D⟩
    go_wp2;go_roundg (s.size-(k+1))
    case measure=>rw[g.out.2.2];omega
    case rel=>exact⟨k+1,v1,rfl,by omega,by go_num,by rw[U.out];rw[gX] at l;exact l.1,g.2.1.trans l.2⟩
   |false=>
    have I:=vl u;rw[u] at T;clear u;go_wp2_with fail;refine(zK6 b H S t wr r (d++j) (P+k) (C+k) s[k].toNat g.1 ok M A.1 (by omega) A.2 (by omega) V I).mono ?_;rintro e w1 ⟨rfl,v1,c1,D⟩;have l:Hid (Cv H b S t w1 (r.eat t s[k].toNat).1 v1 ((d++j)++(r.eat t s[k].toNat).2)/\Keep H b wr w1):=⟨c1,D⟩
    clear c1 D;go_wp2_with fail;go_roundg (s.size-(k+1))
    case measure=>rw[g.out.2.2];omega
    case rel=>exact⟨k+1,v1,rfl,by omega,by go_num,by rw[U.out];rw[gX] at l;exact l.1,g.2.1.trans l.2⟩
  ·have aj:Hid (Rs.feed t (nats s) a=(r,j)):=(N o).symm
   have ⟨ao,cap,W⟩:=zJh g.1.own;have ak:Hid (v=slice ao (d++j).length cap):=W;clear W O N;have fin:∀x,Cv H b S t x r v (d++j)->Keep H b w x->Calls prog 75 #[pX b] x λe w'=>
     ∃v,e=returned v/\zN w' b (Rs.feed t (nats s) a).1 nX/\w'.ownsRow H 51 6 v (d++(Rs.feed t (nats s) a).2).length (xD (d++(Rs.feed t (nats s) a).2))/\Keep H b w w':=by
    intro x f G;rw[ak.out] at f;refine(zDS b x r ao _ cap f.run).mono ?_;rintro e w2 ⟨rfl,al,X⟩;rw[aj.out];exact⟨_,rfl,al,zJg f.own X f.bH,G.trans (X H)⟩
   by_cases m:k<s.size
   ·have p:r.opn=false:=by
     cases B:r.opn with
     |false=>rfl
     |true=>exact absurd ⟨m,B⟩ o
    rw[p] at R;have J:Hid (Ca 75 #[pX b] wr _):=fin wr g.1 g.2.1;clear p o fin;go_wp2_with fail;apply z.out;clear z;go_wp2_with fail;refine J.mono ?_;rintro e w2 ⟨v2,rfl,y⟩;have L:Hid _:=y;clear y;go_wp2_with fail;go_ret;exact⟨v2,rfl,L⟩
   ·have J:Hid (Ca 75 #[pX b] wr _):=fin wr g.1 g.2.1
    clear o fin;go_wp2_with fail;apply z.out;clear z;go_wp2_with fail;refine J.mono ?_;rintro e w2 ⟨v2,rfl,y⟩;have L:Hid _:=y;clear y;go_wp2_with fail;go_ret;exact⟨v2,rfl,L⟩
theorem zIT (c:List Ev)(P:Nat)(f:Cv H b S t w r v0 c)(ok:t.Ok)(g:∀i,i<t.nrule->t.act i<4)(j:r.Good t P)(m:P<1073741824)(k:c.length+r.count<4194304)(d:t.stream=true)(l:r.opn=true):
  Calls prog 84 #[pX b] w λe w'=>
   e=rX/\∃v,Cv H b S t w' (r.shut t).1 v (c++(r.shut t).2)/\Keep H b w w':=by
 have a:=j.str d;have o:=a.pos;have p:=a.line;have q:=a.col;have s:=a.cnt;have u:=ok.ahead;have e:r.shut t=r.closed t:=by unfold Rs.shut;rw[if_pos l,if_pos d]
 rw[e];exact zDP b H S t w r c f k ok g ⟨a.ok,a.ahead,by omega,by omega,by omega⟩
theorem zIU (d:Cv H b S t w r v0 a)(ok:t.Ok)(f:∀i,i<t.nrule->t.act i<4)(g:r.Good t P)(j:P<1073741824)(k:a.length+r.count<4194304)(c:t.stream=false)(h:r.opn=true):
  Calls prog 85 #[pX b] w λe w'=>
   e=rX/\∃v,Cv H b S t w' (r.shut t).1 v (a++(r.shut t).2)/\Keep H b w w':=by
 have e:r.shut t=r.closeO t:=by unfold Rs.shut;rw[if_pos h,if_neg (by rw[c];decide)]
 rw[e];have l:xK r.opn<=1:=by unfold xK;split <;> omega
 exact zIn b H S t w r a P 4194304 d ok f (g.oth c) (by omega) (by omega) (by omega)
theorem zFz (a:Cv H b S t w r nX [])(ok:t.Ok)(u:∀i,i<t.nrule->t.act i<4)(g:r.Good t P)(x:P<1073741824):
  Calls prog 55 #[pX b] w λe w'=>
   ∃v,e=returned v/\zN w' b (r.shut t).1 nX/\w'.ownsRow H 51 6 v (r.shut t).2.length (xD (r.shut t).2)/\Keep H b w w':=by
 have p:=vl a;have y:=a.run.get_opn;have E:=a.run.get_tp;have z:=a.tab.c0;have F:=g.ok.count;have fin:∀c v,Cv H b S t c (r.shut t).1 v ([]++(r.shut t).2)->Keep H b w c->Calls prog 75 #[pX b] c λe w'=>
   ∃v,e=returned v/\zN w' b (r.shut t).1 nX/\w'.ownsRow H 51 6 v (r.shut t).2.length (xD (r.shut t).2)/\Keep H b w w':=by
  intro c v a B;have ⟨ao,cap,C⟩:=zJh a.own;rw[C] at a;refine(zDS b c _ ao _ cap a.run).mono ?_;rintro e w2 ⟨rfl,D,A⟩;exact⟨_,rfl,D,zJg a.own A a.bH,B.trans (A H)⟩
 cases h:r.opn with
 |false=>
  have j:Hid (r.shut t=(r,[])):=by show _=_;unfold Rs.shut;rw[if_neg (by rw[h];decide)]
  rw[h] at y;go_in;go_wp2;go_ret;refine⟨_,rfl,?_⟩;rw[j.out];exact⟨p.run,ownsRow_nil _ _ _ _,Keep.refl _ _ _⟩
 |true=>
  have j:=vl h;rw[h] at y;cases d:t.stream with
  |true=>
   have k:=vl <| zIT b H S t w r [] P p ok u g x (by show 0+r.count<4194304;omega) d j;have l:=vl fin;rw[d] at z;go_in;go_wp2_with fail;refine k.mono ?_;rintro e w1 ⟨rfl,v1,c1,m⟩;have o:=l w1 v1 c1 m;have q:=vl o;go_wp2_with fail;refine q.mono ?_;rintro e w2 ⟨v2,rfl,f⟩;have s:Hid _:=f;clear f;go_wp2_with fail;go_ret;exact⟨v2,rfl,s⟩
  |false=>
   have k:Hid (Ca 85 #[pX b] w _):=zIU b H S t w r [] P p ok u g x (by show 0+r.count<4194304;omega) d j;have l:Hid (∀c v,Cv H b S t c (r.shut t).1 v ([]++(r.shut t).2)->Keep H b w c->_):=fin;rw[d] at z;clear d fin g;go_enter func55,ntmps55
   go_wp2_with fail;refine k.mono ?_;rintro e w1 ⟨rfl,v1,c1,m⟩;have o:=l w1 v1 c1 m;have q:Hid (Ca 75 #[pX b] w1 _):=o;clear o c1 m l k;go_wp2_with fail;refine q.mono ?_;rintro e w2 ⟨v2,rfl,f⟩;have s:Hid _:=f;clear f;go_wp2_with fail;go_ret;exact⟨v2,rfl,s⟩
end
end Go.Proofs.YtbjcfkdnjaiclaaGreat
