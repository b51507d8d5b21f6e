import Derived.Deep.DrawnRows
import Derived.Deep.RegionLaw
import Derived.Test.YtbjcfkdnjaiclaaGreatB0
import Derived.Test.YtbjcfkdnjaiclaaGreatB19
/- Parts of the proof. -/
set_option linter.unusedVariables false
set_option linter.unusedSimpArgs false
set_option maxHeartbeats 4000000
set_option maxRecDepth 100000
namespace Go.Proofs.YtbjcfkdnjaiclaaGreat
open Go.RowKit Go.Proofs.Tryz Go.World
section
attribute [local go_sem ↓] Go.wp_at_zero Go.wp_at_succ
structure Agree (X:Nat->Prop)(w w2:World):Prop where
 os:w2.os=w.os
 output:w2.output=w.output
 size:w.heap.size<=w2.heap.size
 block:∀i,i<w.heap.size->X i->w2.heap[i]? =w.heap[i]?
theorem Agree.refl (X:Nat->Prop)(w:World):Agree X w w:=⟨rfl,rfl,lQ,fun _ _ _=>rfl⟩
theorem Agree.trans {X:Nat->Prop}{w w2 w3:World}(h:Agree X w w2)(k:Agree X w2 w3):Agree X w w3:=⟨k.os.trans h.os,k.output.trans h.output,lY h.size k.size,fun i hi hx=>(k.block i (lZ hi h.size) hx).trans (h.block i hi hx)⟩
theorem Agree.mono {X Y:Nat->Prop}{w w2:World}(h:Agree X w w2)(hx:∀i,i<w.heap.size->Y i->X i):Agree Y w w2:=⟨h.os,h.output,h.size,fun i hi hy=>h.block i hi (hx i hi hy)⟩
theorem Keep.agree {H b:Nat}{X:Nat->Prop}{w w2:World}(h:Keep H b w w2)(hx:∀i,i<w.heap.size->X i->i<H∧i≠b):Agree X w w2:=⟨h.os,h.output,h.size,fun i hi hxi=>h.block i (hx i hi hxi).1 (hx i hi hxi).2⟩
def RangesIn (X:Nat->Prop)(w:World)(v:Value)(l:List (Int×Int)):Prop:=∀w2,Agree X w w2->RangesAt w2 v l
theorem RangesIn.at {X:Nat->Prop}{w:World}{v:Value}{l:List (Int×Int)}(h:RangesIn X w v l):RangesAt w v l:=h w (Agree.refl X w)
theorem RangesIn.go {X:Nat->Prop}{w w2:World}{v:Value}{l:List (Int×Int)}(h:RangesIn X w v l)(a:Agree X w w2):RangesIn X w2 v l:=fun w3 h3=>h w3 (a.trans h3)
theorem RangesIn.mono {X Y:Nat->Prop}{w:World}{v:Value}{l:List (Int×Int)}(h:RangesIn X w v l)(hx:∀i,i<w.heap.size->X i->Y i):RangesIn Y w v l:=fun w3 h3=>h w3 (h3.mono hx)
theorem zGT {X:Nat->Prop}{w:World}{c:Int}{b:Nat}(h:w.heap[b]? =some (.cells #[.int .i64 c,.int .i64 c] 255))(hx:X b):RangesIn X w (.slice (some ⟨b,0,none⟩) 1 1) [(c,c)]:=fun w2 a=>zKw w2 c b ((a.block b (kQ.1 h).1 hx).trans h)
theorem zI4 (X:Nat->Prop)(w:World):RangesIn X w (.slice none 0 0) []:=fun w2 _=>⟨none,0,rfl,lQ,by unfold maxLen;omega,fun i hi=>absurd hi (Nat.not_lt_zero _)⟩
def yU (ps:List (Int×Int)):List Value:=ps.flatMap fun p=>[.int .i64 p.1,.int .i64 p.2]
theorem zE2 (ps:List (Int×Int))(x y:Int):yU (ps++[(x,y)])=yU ps++[.int .i64 x,.int .i64 y]:=by simp[yU]
theorem zCr (ps:List (Int×Int))(i:Nat)(hi:i<ps.length):(yU ps)[i*2]? =some (.int .i64 (ps.getD i (0,0)).1)∧(yU ps)[i*2+1]? =some (.int .i64 (ps.getD i (0,0)).2):=by
 induction ps generalizing i with
 |nil=>simp at hi
 |cons p ps ih=>
  cases i with
  |zero=>exact⟨rfl,rfl⟩
  |succ i=>
   have:=ih i (by simpa using hi);have e:yU (p::ps)=.int .i64 p.1:: .int .i64 p.2::yU ps:=rfl;rw[e,show(i+1)*2=i*2+1+1 by omega];exact this
structure Rw (w:World)(H p:Nat)(sv:Value)(l:List (Int×Int))(o:Bool):Prop where
 blk:w.heap[p]? =some (.cells #[sv,.bool o] 161)
 own:w.ownsRow H 255 2 sv l.length (yU l)
 pH:p<H
 lt:H<=w.heap.size
def zNy (w:World)(H p:Nat)(l:List (Int×Int))(o:Bool):Prop:=∃sv,Rw w H p sv l o
structure KeepO (p:Nat)(sv sv':Value)(w w':World):Prop where
 os:w'.os=w.os
 output:w'.output=w.output
 size:w.heap.size<=w'.heap.size
 block:∀k,k<w.heap.size->k≠p->some k≠sv.ownBlock->w'.heap[k]? =w.heap[k]?∧some k≠sv'.ownBlock
theorem KeepO.trans {p:Nat}{sv sv2 sv3:Value}{w w2 w3:World}(h:KeepO p sv sv2 w w2)(k:KeepO p sv2 sv3 w2 w3):KeepO p sv sv3 w w3:=⟨k.os.trans h.os,k.output.trans h.output,lY h.size k.size,fun i h1 h2 h3=>by
 obtain⟨a1,a2⟩:=h.block i h1 h2 h3;obtain⟨b1,b2⟩:=k.block i (lZ h1 h.size) h2 a2;exact⟨b1.trans a1,b2⟩⟩
theorem KeepO.of_keep {p:Nat}{sv:Value}{w w2:World}(h:Grew w w2):KeepO p sv sv w w2:=⟨h.os,h.output,h.size,fun k h1 _ h3=>⟨h.block k h1 (kJ h1),h3⟩⟩
theorem KeepO.keep {p H e z n:Nat}{sv sv':Value}{xs:List Value}{w w2:World}(h:KeepO p sv sv' w w2)(ho:w.ownsRow H e z sv n xs)(hH:H<=w.heap.size):Keep H p w w2:=⟨h.os,h.output,h.size,fun k h1 h2=>(h.block k (lZ h1 hH) h2 fun e=>absurd (ho.lt k e.symm).1 (Nat.not_le_of_lt h1)).1⟩
theorem zDS:(prog.info? 255).map (fun i=>(i.zero,i.size,i.bytes))=some (some (.agg #[.int .i64 0,.int .i64 0]),2,16):=by kernel_rfl
section
variable {w w2:World} {H p b:Nat} {sv:Value} {l:List (Int×Int)} {o:Bool}
theorem Rw.cells (h:Rw w H p sv l o):w.cell? ⟨p,0,none⟩=some sv∧w.cell? ⟨p,1,none⟩=some (.bool o)∧∀i,w.frozen? ⟨p,i,none⟩=false:=by
 refine⟨?_,?_,fun i=>?_⟩
 all_goals first|(unfold cell?;rw[h.blk];rfl)|(unfold frozen?;rw[h.blk];simp)
theorem Rw.keep (h:Rw w H p sv l o)(hk:Keep w.heap.size b w w2)(hb:b<H∨b=w.heap.size)(hbp:b≠p):Rw w2 H p sv l o:=by
 have h1:=h.pH;have h2:=h.lt;refine⟨(hk.block p (by omega) (Ne.symm hbp)).trans h.blk,zD h.own fun g hg hgl _=>hk.block g hgl (by omega),h1,lY h2 hk.size⟩
theorem Rw.in (h:Rw w H p sv l o):RangesIn (fun i=>H<=i) w sv l:=fun w3 a=>by
 rcases h.own.2 with⟨hv,h0⟩|⟨g,cap,cur,hv,hH,hh,h1,h2,h3,h4⟩
 ·exact⟨none,0,by rw[hv,h0],by omega,by unfold maxLen;omega,fun i hi=>by omega⟩
 ·have hg2:=h.own.lt g (by rw[hv];rfl)
  have hbb:=a.block g hg2.2 hg2.1;refine⟨some ⟨g,0,none⟩,cap,hv,h1,h2,fun i hi=>⟨g,0,rfl,lZ hg2.2 a.size,?_,?_⟩⟩
  ·have:=h.own.cells (g:=g) (by rw[hv];rfl) (i*2) _ (zCr l i hi).1
   rw[Addr.add_lit] at this;rw[Nat.zero_add] at this ⊢;exact(cell?_of_block hbb).trans this
  ·have:=h.own.cells (g:=g) (by rw[hv];rfl) (i*2+1) _ (zCr l i hi).2
   rw[Addr.add_lit] at this;rw[Nat.zero_add] at this ⊢;exact(cell?_of_block hbb).trans this
theorem Rw.app {ob:Obj}{g cap m:Nat}{x y:Int}(h:Rw w H p sv l o)(hm:m=l.length)(hown:w2.ownsRow H 255 2 (.slice (some ⟨g,0,none⟩) (m+1) cap) (m+1) (yU l++[.int .i64 x,.int .i64 y]))(hg:(w.alloc ob).grownBy w2 sv.ownBlock)(hat:sv.ownBlock=some g∨w.heap.size<=g):
  Rw (w2.setCell ⟨p,0,none⟩ (.slice (some ⟨g,0,none⟩) (m+1) cap)) H p (.slice (some ⟨g,0,none⟩) (m+1) cap) (l++[(x,y)]) o∧KeepO p sv (.slice (some ⟨g,0,none⟩) (m+1) cap) w (w2.setCell ⟨p,0,none⟩ (.slice (some ⟨g,0,none⟩) (m+1) cap)):=by
 subst hm;have hpH:=h.pH;have hlt:=h.lt;have hbl:∀j,j<H->w2.heap[j]? =w.heap[j]? :=fun j hj=>(hg.block j (by simp;omega) fun e=>by have:=(h.own.lt j e.symm).1;omega).trans (lG _ _ _ (by omega));have hb:=(hbl p hpH).trans h.blk;have hsz:w.heap.size<=w2.heap.size:=lY (by simp) hg.size;refine⟨⟨?_,?_,hpH,by rw[zC];omega⟩,⟨hg.os,hg.output,by rw[zC];exact hsz,fun k h1 h2 h3=>⟨(lJ _ _ _ _ h2).trans ((hg.block k (by simp;omega) h3).trans (lG _ _ _ h1)),fun e=>by
  have e2:k=g:=by simpa[Value.ownBlock] using e
  rcases hat with ha|ha
  ·exact h3 (by rw[ha,e2])
  ·omega⟩⟩⟩
 ·simp[setCell,lU,hb]
 ·rw[zE2,show(l++[(x,y)]).length=l.length+1 by simp]
  exact zX hown hpH
end
def yT (r:Int×Int)(first last far:Int):List (Int×Int):=if(if first<r.1 then r.1 else first)<=(if r.2<last then r.2 else last) then[((if first<r.1 then r.1 else first)+far,(if r.2<last then r.2 else last)+far)] else[]
theorem zB9 (w:World)(H p:Nat)(sv:Value)(l:List (Int×Int))(o:Bool)(h:Rw w H p sv l o)(hl:l.length<=1000000000)(lo hi first last far:Int)(hf:0<=first∧first<=1000)(hla:0<=last∧last<=1000)(hfar:-100<=far∧far<=100):
  Calls prog 213 #[.pointer (some ⟨p,0,none⟩),.agg #[.int .i64 lo,.int .i64 hi],.int .i64 first,.int .i64 last,.int .i64 far] w fun e w'=>e=.returned (.tuple #[])∧∃sv',Rw w' H p sv' (l++yT (lo,hi) first last far) o∧KeepO p sv sv' w w':=by
 obtain⟨i0,hi0,hz0,hz1,hz2⟩:=info_parts zDS;obtain⟨w1,hw1,HN1,y0,y1,HK1⟩:∃w1,w1=w.alloc (.cells #[.int .i64 lo,.int .i64 hi] 255)∧Hid (Rw w1 H p sv l o)∧w1.cell? ⟨w.heap.size,0,none⟩=some (.int .i64 lo)∧w1.cell? ⟨w.heap.size,1,none⟩=some (.int .i64 hi)∧Hid (KeepO p sv sv w w1):=by
  have hb:=gG w (.cells #[.int .i64 lo,.int .i64 hi] 255);have hlt:=h.lt;have hpH:=h.pH;refine⟨_,rfl,h.keep (kZ (b:=w.heap.size) _ _ lQ) (.inr rfl) (by omega),?_,?_,KeepO.of_keep (kZ _ _ lQ)⟩
  ·unfold cell?;rw[hb];rfl
  ·unfold cell?;rw[hb];rfl
 clear h;obtain⟨ff,hff⟩:∃ff,ff=(if first<lo then lo else first):=⟨_,rfl⟩
 obtain⟨ll,hll⟩:∃ll,ll=(if hi<last then hi else last):=⟨_,rfl⟩
 have HM:Hid (yT (lo,hi) first last far=if ff<=ll then[(ff+far,ll+far)] else[]):=by show _=_;unfold yT;rw[hff,hll]
 have hf2:first<=ff:=by rw[hff];split <;> omega
 have hl2:ll<=last:=by rw[hll];split <;> omega
 obtain⟨x0,-,xf⟩:=HN1.out.cells;have xf0:=xf 0;obtain⟨asv,csv,hsv⟩:=zE HN1.out.own;subst hsv;have OW:w1.ownsRow H 255 2 (.slice asv l.length csv) l.length (yU l):=HN1.out.own;have hlt1:p<w1.heap.size:=lZ HN1.out.pH HN1.out.lt;have hH1:H<=w1.heap.size:=HN1.out.lt;have HNP:=vl <| zL HN1.out.own HN1.out.blk (by decide);clear xf;rcases Int.lt_or_le first lo with a1|a1 <;> rcases Int.lt_or_le hi last with a2|a2
 ·
  have e1:lo=ff:=by rw[hff];exact(if_pos a1).symm
  have e2:hi=ll:=by rw[hll];exact(if_pos a2).symm
  clear hff hll;subst e1 e2;by_cases a3:lo<=hi
  ·have HM2:Hid (yT (lo,hi) first last far=[(lo+far,hi+far)]):=by show _=_;rw[HM.out,if_pos a3]
   clear HM;go_in;apply wp_cut;intro K0 J;go_wp2;apply J.out;clear J;rw[<-hw1];clear hw1;go_wp2_with (first|(at_builtin;refine wpList_append_lies _ rfl _ _ 159 rfl (H) 255 i0 (.agg #[.int .i64 0,.int .i64 0]) 2 16 underlying159 hi0 hz0 hz1 hz2 rfl (by decide) _ _ _ rfl (OW.alloc _) ⟨w1.heap.size,0,none⟩ 1 1 [.int .i64 (lo+far),.int .i64 (hi+far)] rfl rfl (news_of_block (cs:=#[.int .i64 (lo+far),.int .i64 (hi+far)]) (t:=255) (fr:=(0,0)) (gG w1 _)) (by simp[Value.oneCell']) (by decide) (by unfold maxLen;omega) (by omega) (by simp;omega) _ rfl ?_;intro gg cap w2 hown hgrow hat hlt;have hPB:=hgrow.block p (by simp;omega) HNP.out;have x0b:w2.cell? ⟨p,0,none⟩=some (.slice asv l.length csv):=(cell?_of_block hPB).trans ((cell?_alloc_past _ _ _ hlt1).trans x0);have xf0b:w2.frozen? ⟨p,0,none⟩=false:=(frozen?_of_block hPB).trans ((frozen?_alloc_past _ _ _ hlt1).trans xf0)))
   obtain⟨w9,hw9,HN4⟩:∃w9,w9=w2.setCell ⟨p,0,none⟩ (.slice (some ⟨gg,0,none⟩) (l.length+1) cap)∧Hid (∃sv',Rw w9 H p sv' (l++yT (lo,hi) first last far) o∧KeepO p (.slice asv l.length csv) sv' w w9):=⟨_,rfl,_,by rw[HM2.out];exact(HN1.out.app rfl hown hgrow (by rcases hat with ha|ha;exact .inl ha;right;rw[ha];simp)).1,HK1.out.trans (HN1.out.app rfl hown hgrow (by rcases hat with ha|ha;exact .inl ha;right;rw[ha];simp)).2⟩
   rw[<-hw9];go_end0;exact⟨rfl,HN4.out⟩
  ·have a4:hi<lo:=by omega
   have HM2:Hid (yT (lo,hi) first last far=[]):=by show _=_;rw[HM.out,if_neg a3]
   clear HM;go_in;apply wp_cut;intro K0 J;go_wp2;apply J.out;clear J;rw[<-hw1];clear hw1;go_wp2;go_end0;exact⟨rfl,_,by rw[HM2.out,List.append_nil];exact HN1.out,HK1.out⟩
 ·
  have e1:lo=ff:=by rw[hff];exact(if_pos a1).symm
  have e2:last=ll:=by rw[hll];exact(if_neg (by omega)).symm
  clear hff hll;subst e1 e2;by_cases a3:lo<=last
  ·have HM2:Hid (yT (lo,hi) first last far=[(lo+far,last+far)]):=by show _=_;rw[HM.out,if_pos a3]
   clear HM;go_in;apply wp_cut;intro K0 J;go_wp2;apply J.out;clear J;rw[<-hw1];clear hw1;go_wp2_with (first|(at_builtin;refine wpList_append_lies _ rfl _ _ 159 rfl (H) 255 i0 (.agg #[.int .i64 0,.int .i64 0]) 2 16 underlying159 hi0 hz0 hz1 hz2 rfl (by decide) _ _ _ rfl (OW.alloc _) ⟨w1.heap.size,0,none⟩ 1 1 [.int .i64 (lo+far),.int .i64 (last+far)] rfl rfl (news_of_block (cs:=#[.int .i64 (lo+far),.int .i64 (last+far)]) (t:=255) (fr:=(0,0)) (gG w1 _)) (by simp[Value.oneCell']) (by decide) (by unfold maxLen;omega) (by omega) (by simp;omega) _ rfl ?_;intro gg cap w2 hown hgrow hat hlt;have hPB:=hgrow.block p (by simp;omega) HNP.out;have x0b:w2.cell? ⟨p,0,none⟩=some (.slice asv l.length csv):=(cell?_of_block hPB).trans ((cell?_alloc_past _ _ _ hlt1).trans x0);have xf0b:w2.frozen? ⟨p,0,none⟩=false:=(frozen?_of_block hPB).trans ((frozen?_alloc_past _ _ _ hlt1).trans xf0)))
   obtain⟨w9,hw9,HN4⟩:∃w9,w9=w2.setCell ⟨p,0,none⟩ (.slice (some ⟨gg,0,none⟩) (l.length+1) cap)∧Hid (∃sv',Rw w9 H p sv' (l++yT (lo,hi) first last far) o∧KeepO p (.slice asv l.length csv) sv' w w9):=⟨_,rfl,_,by rw[HM2.out];exact(HN1.out.app rfl hown hgrow (by rcases hat with ha|ha;exact .inl ha;right;rw[ha];simp)).1,HK1.out.trans (HN1.out.app rfl hown hgrow (by rcases hat with ha|ha;exact .inl ha;right;rw[ha];simp)).2⟩
   rw[<-hw9];go_end0;exact⟨rfl,HN4.out⟩
  ·have a4:last<lo:=by omega
   have HM2:Hid (yT (lo,hi) first last far=[]):=by show _=_;rw[HM.out,if_neg a3]
   clear HM;go_in;apply wp_cut;intro K0 J;go_wp2;apply J.out;clear J;rw[<-hw1];clear hw1;go_wp2;go_end0;exact⟨rfl,_,by rw[HM2.out,List.append_nil];exact HN1.out,HK1.out⟩
 ·
  have e1:first=ff:=by rw[hff];exact(if_neg (by omega)).symm
  have e2:hi=ll:=by rw[hll];exact(if_pos a2).symm
  clear hff hll;subst e1 e2;by_cases a3:first<=hi
  ·have HM2:Hid (yT (lo,hi) first last far=[(first+far,hi+far)]):=by show _=_;rw[HM.out,if_pos a3]
   clear HM;go_in;apply wp_cut;intro K0 J;go_wp2;apply J.out;clear J;rw[<-hw1];clear hw1;go_wp2_with (first|(at_builtin;refine wpList_append_lies _ rfl _ _ 159 rfl (H) 255 i0 (.agg #[.int .i64 0,.int .i64 0]) 2 16 underlying159 hi0 hz0 hz1 hz2 rfl (by decide) _ _ _ rfl (OW.alloc _) ⟨w1.heap.size,0,none⟩ 1 1 [.int .i64 (first+far),.int .i64 (hi+far)] rfl rfl (news_of_block (cs:=#[.int .i64 (first+far),.int .i64 (hi+far)]) (t:=255) (fr:=(0,0)) (gG w1 _)) (by simp[Value.oneCell']) (by decide) (by unfold maxLen;omega) (by omega) (by simp;omega) _ rfl ?_;intro gg cap w2 hown hgrow hat hlt;have hPB:=hgrow.block p (by simp;omega) HNP.out;have x0b:w2.cell? ⟨p,0,none⟩=some (.slice asv l.length csv):=(cell?_of_block hPB).trans ((cell?_alloc_past _ _ _ hlt1).trans x0);have xf0b:w2.frozen? ⟨p,0,none⟩=false:=(frozen?_of_block hPB).trans ((frozen?_alloc_past _ _ _ hlt1).trans xf0)))
   obtain⟨w9,hw9,HN4⟩:∃w9,w9=w2.setCell ⟨p,0,none⟩ (.slice (some ⟨gg,0,none⟩) (l.length+1) cap)∧Hid (∃sv',Rw w9 H p sv' (l++yT (lo,hi) first last far) o∧KeepO p (.slice asv l.length csv) sv' w w9):=⟨_,rfl,_,by rw[HM2.out];exact(HN1.out.app rfl hown hgrow (by rcases hat with ha|ha;exact .inl ha;right;rw[ha];simp)).1,HK1.out.trans (HN1.out.app rfl hown hgrow (by rcases hat with ha|ha;exact .inl ha;right;rw[ha];simp)).2⟩
   rw[<-hw9];go_end0;exact⟨rfl,HN4.out⟩
  ·have a4:hi<first:=by omega
   have HM2:Hid (yT (lo,hi) first last far=[]):=by show _=_;rw[HM.out,if_neg a3]
   clear HM;go_in;apply wp_cut;intro K0 J;go_wp2;apply J.out;clear J;rw[<-hw1];clear hw1;go_wp2;go_end0;exact⟨rfl,_,by rw[HM2.out,List.append_nil];exact HN1.out,HK1.out⟩
 ·
  have e1:first=ff:=by rw[hff];exact(if_neg (by omega)).symm
  have e2:last=ll:=by rw[hll];exact(if_neg (by omega)).symm
  clear hff hll;subst e1 e2;by_cases a3:first<=last
  ·have HM2:Hid (yT (lo,hi) first last far=[(first+far,last+far)]):=by show _=_;rw[HM.out,if_pos a3]
   clear HM;go_in;apply wp_cut;intro K0 J;go_wp2;apply J.out;clear J;rw[<-hw1];clear hw1;go_wp2_with (first|(at_builtin;refine wpList_append_lies _ rfl _ _ 159 rfl (H) 255 i0 (.agg #[.int .i64 0,.int .i64 0]) 2 16 underlying159 hi0 hz0 hz1 hz2 rfl (by decide) _ _ _ rfl (OW.alloc _) ⟨w1.heap.size,0,none⟩ 1 1 [.int .i64 (first+far),.int .i64 (last+far)] rfl rfl (news_of_block (cs:=#[.int .i64 (first+far),.int .i64 (last+far)]) (t:=255) (fr:=(0,0)) (gG w1 _)) (by simp[Value.oneCell']) (by decide) (by unfold maxLen;omega) (by omega) (by simp;omega) _ rfl ?_;intro gg cap w2 hown hgrow hat hlt;have hPB:=hgrow.block p (by simp;omega) HNP.out;have x0b:w2.cell? ⟨p,0,none⟩=some (.slice asv l.length csv):=(cell?_of_block hPB).trans ((cell?_alloc_past _ _ _ hlt1).trans x0);have xf0b:w2.frozen? ⟨p,0,none⟩=false:=(frozen?_of_block hPB).trans ((frozen?_alloc_past _ _ _ hlt1).trans xf0)))
   obtain⟨w9,hw9,HN4⟩:∃w9,w9=w2.setCell ⟨p,0,none⟩ (.slice (some ⟨gg,0,none⟩) (l.length+1) cap)∧Hid (∃sv',Rw w9 H p sv' (l++yT (lo,hi) first last far) o∧KeepO p (.slice asv l.length csv) sv' w w9):=⟨_,rfl,_,by rw[HM2.out];exact(HN1.out.app rfl hown hgrow (by rcases hat with ha|ha;exact .inl ha;right;rw[ha];simp)).1,HK1.out.trans (HN1.out.app rfl hown hgrow (by rcases hat with ha|ha;exact .inl ha;right;rw[ha];simp)).2⟩
   rw[<-hw9];go_end0;exact⟨rfl,HN4.out⟩
  ·have a4:last<first:=by omega
   have HM2:Hid (yT (lo,hi) first last far=[]):=by show _=_;rw[HM.out,if_neg a3]
   clear HM;go_in;apply wp_cut;intro K0 J;go_wp2;apply J.out;clear J;rw[<-hw1];clear hw1;go_wp2;go_end0;exact⟨rfl,_,by rw[HM2.out,List.append_nil];exact HN1.out,HK1.out⟩
end
def zIs (r:Int×Int):List (Int×Int):=r::(yT r 65 90 32++yT r 97 122 (-32))
def qB (l:List (Int×Int)):List (Int×Int):=l.flatMap zIs
theorem zDI (r:Int×Int)(a b c:Int):(yT r a b c).length<=1:=by
 have h:∀(p:Prop) [Decidable p] (x:Int×Int),(if p then[x] else[]).length<=1:=by intro p _ x;split <;> simp
 exact h _ _
theorem zGu (l:List (Int×Int)):(qB l).length<=3*l.length:=by
 induction l with
 |nil=>exact lX
 |cons r l ih=>
  have h1:=zDI r 65 90 32;have h2:=zDI r 97 122 (-32);have e:qB (r::l)=zIs r++qB l:=rfl;rw[e,kX];unfold zIs;simp only[gY,kX];omega
theorem zJw (l:List (Int×Int))(j:Nat)(hj:j<l.length):qB (l.take (j+1))=((qB (l.take j)++[l.getD j (0,0)])++yT (l.getD j (0,0)) 65 90 32)++yT (l.getD j (0,0)) 97 122 (-32):=by
 have e:l.take (j+1)=l.take j++[l.getD j (0,0)]:=by rw[List.take_add_one,lV hj,lW,lV hj];rfl
 rw[e];unfold qB;rw[List.flatMap_append];simp[zIs]
theorem zEv (w:World)(u:Value)(l:List (Int×Int))(o:Bool)(h:RangesAt w u l)(hl:l.length<=10000000):
  Calls prog 204 #[.agg #[u,.bool o]] w fun e w'=>∃u',e=.returned (.agg #[u',.bool o])∧RangesIn (fun i=>w.heap.size<=i) w' u' (qB l)∧Grew w w':=by
 obtain⟨i0,hi0,hz0,hz1,hz2⟩:=info_parts zDS;obtain⟨ao,cap,rfl,_,_,hrc⟩:=h;have HRC:=vl hrc;obtain⟨w3,hw3,HN3,y0,y1,HB3,HK3⟩:∃w3,w3=((w.alloc (.cells #[.slice ao l.length cap,.bool o] 161)).alloc (.cells #[.slice none 0 0,.bool false] 161)).alloc (.cells #[.slice none 0 0,.bool o] 161)∧Hid (Rw w3 (w.heap.size+3) (w.heap.size+1+1) (.slice none 0 0) [] o)∧w3.cell? ⟨w.heap.size,0,none⟩=some (.slice ao l.length cap)∧w3.cell? ⟨w.heap.size,1,none⟩=some (.bool o)∧Hid (w3.heap[w.heap.size+1]? =some (.cells #[.slice none 0 0,.bool false] 161))∧Hid (Grew w w3):=by
  have s1:(w.alloc (.cells #[.slice ao l.length cap,.bool o] 161)).heap.size=w.heap.size+1:=by simp
  have s2:((w.alloc (.cells #[.slice ao l.length cap,.bool o] 161)).alloc (.cells #[.slice none 0 0,.bool false] 161)).heap.size=w.heap.size+1+1:=by simp
  have b1:=gG w (.cells #[.slice ao l.length cap,.bool o] 161);have b2:=gG (w.alloc (.cells #[.slice ao l.length cap,.bool o] 161)) (.cells #[.slice none 0 0,.bool false] 161);rw[s1] at b2;have b3:=gG ((w.alloc (.cells #[.slice ao l.length cap,.bool o] 161)).alloc (.cells #[.slice none 0 0,.bool false] 161)) (.cells #[.slice none 0 0,.bool o] 161);rw[s2] at b3;have b1':=(lG ((w.alloc (.cells #[.slice ao l.length cap,.bool o] 161)).alloc (.cells #[.slice none 0 0,.bool false] 161)) (.cells #[.slice none 0 0,.bool o] 161) w.heap.size (by rw[s2];omega)).trans ((lG _ _ _ (by rw[s1];omega)).trans b1);have b2':=(lG ((w.alloc (.cells #[.slice ao l.length cap,.bool o] 161)).alloc (.cells #[.slice none 0 0,.bool false] 161)) (.cells #[.slice none 0 0,.bool o] 161) (w.heap.size+1) (by rw[s2];omega)).trans b2;refine⟨_,rfl,⟨b3,ownsRow_nil _ _ _ _,by omega,by simp⟩,?_,?_,b2',((kZ _ _ lQ).trans (kZ _ _ (by rw[s1];omega))).trans (kZ _ _ (by rw[s2];omega))⟩
  ·unfold cell?;rw[b1'];rfl
  ·unfold cell?;rw[b1'];rfl
 go_in;apply wp_cut;intro K0 J;go_wp2;apply J.out;apply wp_cut;intro K0 J;go_wp2;apply J.out;clear J;rw[<-hw3];clear hw3;go_wp2;clear y0 y1;go_loopg [12] l.length (fun q i wr=>∃j:Nat,q=l.length-j∧j<=l.length∧i=.int .i64 (j:Int)∧zNy wr (w.heap.size+3) (w.heap.size+1+1) (qB (l.take j)) o∧Keep (w.heap.size+3) (w.heap.size+1+1) w3 wr)
 case atStart=>exact⟨0,rfl,lX,rfl,⟨_,by rw[List.take_zero];exact HN3.out⟩,Keep.refl _ _ _⟩
 case round=>
  obtain⟨j,hgk,hj,rfl,⟨sv,hR⟩,hk⟩:=hrel;have HA:Hid (gk=l.length-j∧Rw wr (w.heap.size+3) (w.heap.size+1+1) sv (qB (l.take j)) o∧Keep (w.heap.size+3) (w.heap.size+1+1) w3 wr):=⟨hgk,hR,hk⟩
  by_cases hj2:j<l.length
  ·have i1:(j:Int)<(l.length:Int):=by omega
   obtain⟨b,o2,rfl,hb,d0,d1⟩:=HRC.out j hj2;have hlt3:=HK3.out.size;have hbl:b<w.heap.size:=hb;have eb:wr.heap[b]? =w.heap[b]? :=(hk.block b (by omega) (by omega)).trans (HK3.out.block b hbl (by omega));have y0:=(cell?_of_block eb).trans d0;have y1:=(cell?_of_block eb).trans d1;have HBT:=vl <| zJw l j hj2;have hLn:(qB (l.take j)).length<=30000000:=by
    have h1:=zGu (l.take j);rw[List.length_take] at h1;omega
   clear d0 d1 eb hgk hk hR;generalize l.getD j (0,0)=r at *;generalize hL:qB (l.take j)=L at *;clear hL;obtain⟨lo,hi⟩:=r;simp only at y0 y1;obtain⟨asv,csv,hsv⟩:=zE HA.out.2.1.own;subst hsv;obtain⟨wa,hwa,hRa,HBa,HKa,hsa⟩:∃wa,wa=wr.alloc (.cells #[.int .i64 lo,.int .i64 hi] 255)∧Rw wa (w.heap.size+3) (w.heap.size+1+1) (.slice asv L.length csv) L o∧Hid (wa.heap[wr.heap.size]? =some (.cells #[.int .i64 lo,.int .i64 hi] 255)∧some wr.heap.size≠(Value.slice asv L.length csv).ownBlock)∧Hid (Keep (w.heap.size+3) (w.heap.size+1+1) wr wa)∧wr.heap.size+1<=wa.heap.size:=by
    have hlt:=HA.out.2.1.lt;refine⟨_,rfl,HA.out.2.1.keep (kZ (b:=wr.heap.size) _ _ lQ) (.inr rfl) (by omega),⟨gG _ _,fun e=>by have:=(HA.out.2.1.own.lt _ e.symm).2;omega⟩,kZ _ _ hlt,by simp⟩
   have hwr:w.heap.size+3<=wr.heap.size:=HA.out.2.1.lt;apply wp_cut;intro K0 J;go_wp2;apply J.out;clear J;apply wp_cut;intro K0 J;go_wp2;apply J.out;clear J;apply wp_cut;intro KB HKB;refine wp_block ?_;apply wp_cut;intro K0 J;go_wp2;apply J.out;clear J;rw[<-hwa];clear hwa y0 y1;obtain⟨x0,-,xf⟩:=hRa.cells;have xf0:=xf 0;have OW:wa.ownsRow (w.heap.size+3) 255 2 (.slice asv L.length csv) L.length (yU L):=hRa.own;have hlt1:w.heap.size+1+1<wa.heap.size:=by omega
   have HNP:=vl <| zL hRa.own hRa.blk (by decide);have c0:wa.cell? ⟨wr.heap.size,0,none⟩=some (.int .i64 lo):=by unfold cell?;rw[HBa.out.1];rfl
   have c1:wa.cell? ⟨wr.heap.size,1,none⟩=some (.int .i64 hi):=by unfold cell?;rw[HBa.out.1];rfl
   have HRa:=vl hRa;clear xf hRa;apply wp_cut;intro K0 J;go_wp2_with (first|(at_builtin;refine wpList_append_lies _ rfl _ _ 159 rfl (w.heap.size+3) 255 i0 (.agg #[.int .i64 0,.int .i64 0]) 2 16 underlying159 hi0 hz0 hz1 hz2 rfl (by decide) _ _ _ rfl (OW.alloc _) ⟨wa.heap.size,0,none⟩ 1 1 [.int .i64 lo,.int .i64 hi] rfl rfl (news_of_block (cs:=#[.int .i64 lo,.int .i64 hi]) (t:=255) (fr:=(0,0)) (gG wa _)) (by simp[Value.oneCell']) (by decide) (by unfold maxLen;omega) (by omega) (by simp;omega) _ rfl ?_;intro gg cap w2 hown hgrow hat hlt;have hPB:=hgrow.block (w.heap.size+1+1) (by simp;omega) HNP.out;have x0b:w2.cell? ⟨w.heap.size+1+1,0,none⟩=some (.slice asv L.length csv):=(cell?_of_block hPB).trans ((cell?_alloc_past _ _ _ hlt1).trans x0);have xf0b:w2.frozen? ⟨w.heap.size+1+1,0,none⟩=false:=(frozen?_of_block hPB).trans ((frozen?_alloc_past _ _ _ hlt1).trans xf0)))
   apply J.out;clear J;obtain⟨w4,hw4,HR4⟩:∃w4,w4=w2.setCell ⟨w.heap.size+1+1,0,none⟩ (.slice (some ⟨gg,0,none⟩) (L.length+1) cap)∧Hid (Rw w4 (w.heap.size+3) (w.heap.size+1+1) (.slice (some ⟨gg,0,none⟩) (L.length+1) cap) (L++[(lo,hi)]) o∧KeepO (w.heap.size+1+1) (.slice asv L.length csv) (.slice (some ⟨gg,0,none⟩) (L.length+1) cap) wa w4):=⟨_,rfl,HRa.out.app rfl hown hgrow (by rcases hat with ha|ha;exact .inl ha;right;rw[ha];simp)⟩
   rw[<-hw4];clear hw4 hown hgrow hat hlt hPB x0b xf0b OW HNP hlt1;generalize (Value.slice (some ⟨gg,0,none⟩) (L.length+1) cap)=sv4 at *;obtain⟨f1,f2⟩:=HR4.out.2.block wr.heap.size (by omega) (by omega) HBa.out.2;have HB4:Hid (w4.heap[wr.heap.size]? =some (.cells #[.int .i64 lo,.int .i64 hi] 255)∧some wr.heap.size≠sv4.ownBlock):=⟨f1.trans HBa.out.1,f2⟩
   have z0:w4.cell? ⟨wr.heap.size,0,none⟩=some (.int .i64 lo):=by unfold cell?;rw[HB4.out.1];rfl
   have z1:w4.cell? ⟨wr.heap.size,1,none⟩=some (.int .i64 hi):=by unfold cell?;rw[HB4.out.1];rfl
   clear f1 f2 c0 c1 x0 xf0;have HC1:=vl <| zB9 w4 _ _ sv4 _ o HR4.out.1 (by simp;omega) lo hi 65 90 32 (by omega) (by omega) (by omega);apply wp_cut;intro K0 J;go_wp2_with (first|(go_at_call 213;refine HC1.out.mono ?_;rintro e w5 ⟨rfl,sv5,hR5,hk5⟩))
   apply J.out;clear J;have hs4:=HR4.out.2.size;obtain⟨f1,f2⟩:=hk5.block wr.heap.size (by omega) (by omega) HB4.out.2;have v0:w5.cell? ⟨wr.heap.size,0,none⟩=some (.int .i64 lo):=by unfold cell?;rw[f1,HB4.out.1];rfl
   have v1:w5.cell? ⟨wr.heap.size,1,none⟩=some (.int .i64 hi):=by unfold cell?;rw[f1,HB4.out.1];rfl
   have HR5:Hid (Rw w5 (w.heap.size+3) (w.heap.size+1+1) sv5 ((L++[(lo,hi)])++yT (lo,hi) 65 90 32) o∧KeepO (w.heap.size+1+1) sv4 sv5 w4 w5):=⟨hR5,hk5⟩
   have HC2:=vl <| zB9 w5 _ _ sv5 _ o hR5 (by have:=zDI (lo,hi) 65 90 32;simp;omega) lo hi 97 122 (-32) (by omega) (by omega) (by omega);clear f1 f2 hR5 hk5 z0 z1;go_wp2_with (first|(go_at_call 213;refine HC2.out.mono ?_;rintro e w6 ⟨rfl,sv6,hR6,hk6⟩))
   apply HKB.out;clear HKB;have HR6:Hid (zNy w6 (w.heap.size+3) (w.heap.size+1+1) (qB (l.take (j+1))) o∧Keep (w.heap.size+3) (w.heap.size+1+1) w3 w6):=⟨⟨sv6,by rw[HBT.out];exact hR6⟩,HA.out.2.2.trans (HKa.out.trans (((HR4.out.2.trans HR5.out.2).trans hk6).keep HRa.out.own HRa.out.lt))⟩
   clear hR6 hk6 v0 v1;go_wp2;go_roundg (l.length-(j+1))
   case measure=>rw[HA.out.1];omega
   case rel=>exact⟨j+1,rfl,by omega,by go_num,HR6.out⟩
  ·have i1:(l.length:Int)<=(j:Int):=by omega
   have e:j=l.length:=by omega
   subst e;obtain⟨c0,c1,-⟩:=hR.cells;obtain⟨asv,csv,hsv⟩:=zE hR.own;subst hsv;have HF:=vl hR.in;have hbq:wr.heap[w.heap.size+1]? =some (.cells #[.slice none 0 0,.bool false] 161):=(hk.block _ (by omega) (by omega)).trans HB3.out;have q0:wr.cell? ⟨w.heap.size+1,0,none⟩=some (.slice none 0 0):=by unfold cell?;rw[hbq];rfl
   have q1:wr.cell? ⟨w.heap.size+1,1,none⟩=some (.bool false):=by unfold cell?;rw[hbq];rfl
   have g0:wr.frozen? ⟨w.heap.size+1,0,none⟩=false:=by unfold frozen?;rw[hbq];rfl
   have g1:wr.frozen? ⟨w.heap.size+1,1,none⟩=false:=by unfold frozen?;rw[hbq];rfl
   have HLL:Hid (qB (l.take l.length)=qB l):=by show _=_;rw[List.take_length]
   generalize qB (l.take l.length)=L at *;obtain⟨w9,hw9,r0,r1,H9⟩:∃w9,w9=(wr.setCell ⟨w.heap.size+1,0,none⟩ (.slice asv L.length csv)).setCell ⟨w.heap.size+1,1,none⟩ (.bool o)∧w9.cell? ⟨w.heap.size+1,0,none⟩=some (.slice asv L.length csv)∧w9.cell? ⟨w.heap.size+1,1,none⟩=some (.bool o)∧Hid (RangesIn (fun i=>w.heap.size<=i) w9 (.slice asv L.length csv) L∧Grew w w9):=by
    have h2:((wr.setCell ⟨w.heap.size+1,0,none⟩ (.slice asv L.length csv)).setCell ⟨w.heap.size+1,1,none⟩ (.bool o)).heap[w.heap.size+1]? =some (.cells #[.slice asv L.length csv,.bool o] 161):=by
     simp[setCell,lU,hbq]
    have hne:∀i,i≠w.heap.size+1->((wr.setCell ⟨w.heap.size+1,0,none⟩ (.slice asv L.length csv)).setCell ⟨w.heap.size+1,1,none⟩ (.bool o)).heap[i]? =wr.heap[i]? :=fun i hi2=>by
     simp[setCell,lU,Ne.symm hi2]
    refine⟨_,rfl,?_,?_,?_,?_⟩
    ·unfold cell?;rw[h2];rfl
    ·unfold cell?;rw[h2];rfl
    ·have ag:Agree (fun i=>w.heap.size+3<=i) wr ((wr.setCell ⟨w.heap.size+1,0,none⟩ (.slice asv L.length csv)).setCell ⟨w.heap.size+1,1,none⟩ (.bool o)):=⟨rfl,rfl,by simp[World.setCell],fun i _ hx=>hne i (by omega)⟩
     exact(HF.out.go ag).mono (fun i _ hx=>by omega)
    ·exact(HK3.out.trans ⟨hk.os,hk.output,hk.size,fun k hk1 _=>hk.block k (by omega) (by omega)⟩).trans ⟨rfl,rfl,by simp[World.setCell],fun k h1 _=>hne k (by omega)⟩
   clear hgk hR hk hbq HF;go_wp2;rw[<-hw9];refine bodyPost_ret (v:=.agg #[.slice asv L.length csv,.bool o]) (by simp[results,results204,go_sem,r0,r1]) rfl ?_;exact⟨_,rfl,by rw[<-HLL.out];exact H9.out.1,H9.out.2⟩
theorem qV {s t:ByteArray}{i:Nat}(h:zI s i t=true):i+t.size<=s.size:=by
 unfold zI at h;rw[Bool.and_eq_true] at h;exact of_decide_eq_true h.1
theorem zB6 {s:ByteArray}{i:Nat}(h:byt s i≠0):i<s.size:=by
 rcases Nat.lt_or_ge i s.size with h1|h1
 ·exact h1
 ·exact absurd (zJY s i h1) h
theorem zKH:vW 0<0:=by decide
theorem zJW (s:ByteArray)(i most:Nat)(h:0<yF s i most):i+yF s i most<=s.size:=by
 obtain⟨k,hk⟩:∃k,yF s i most=k+1:=⟨yF s i most-1,by omega⟩
 have hle:=zEB s i most;have h1:¬vW (byt s (i+k))<0:=by
  have h2:k<(List.range most).findIdx fun j=>decide (vW (byt s (i+j))<0):=by
   show k<yF s i most;omega
  have h3:=List.not_of_lt_findIdx h2;rw[List.getElem_range] at h3;exact of_decide_eq_false h3
 have h4:=zB6 (fun e=>h1 (by rw[e];exact zKH));omega
theorem zJU (s:ByteArray)(p k:Nat)(h:k<=6):zAO s p k<=16777216:=Nat.le_of_lt (lZ (zJT s p k) (kG (by omega) (by omega:k<=6)))
theorem zMH (s:ByteArray)(p:Nat):(zG5 s p).at_<=p+2∧((zG5 s p).ok=true->p<(zG5 s p).at_∧(zG5 s p).at_<=s.size)∧0<=(zG5 s p).num∧(zG5 s p).num<=16777216:=by
 have h1:=zEB s p 2;have h2:=zJW s p 2;have h3:=zJU s p (yF s p 2) (by omega);unfold zG5;refine⟨by show p+yF s p 2<=p+2;omega,fun e=>?_,by show(0:Int)<=(zAO s p (yF s p 2):Nat);omega,by show((zAO s p (yF s p 2):Nat):Int)<=16777216;omega⟩;have e2:yF s p 2=2:=by simpa using e
 show p<p+yF s p 2∧p+yF s p 2<=s.size;omega
theorem zMe (s:ByteArray)(p:Nat):(zGw s p).at_<=p+7∧((zGw s p).ok=true->p<(zGw s p).at_∧(zGw s p).at_<=s.size)∧0<=(zGw s p).num∧(zGw s p).num<=16777216:=by
 have h1:=zEB s p 6;have h2:=zJW s p 6;have h3:=zJU s p (yF s p 6) h1;unfold zGw;refine⟨?_,fun e=>?_,by show(0:Int)<=(zAO s p (yF s p 6):Nat);omega,by show((zAO s p (yF s p 6):Nat):Int)<=16777216;omega⟩
 ·show(if zI s (p+yF s p 6) ⟨#[125]⟩ then p+yF s p 6+1 else p+yF s p 6)<=p+7
  split <;> omega
 ·have e2:zI s (p+yF s p 6) ⟨#[125]⟩=true:=by
   have e3:=e;rw[Bool.and_eq_true,Bool.and_eq_true] at e3;exact e3.1.1
  show p<(if zI s (p+yF s p 6) ⟨#[125]⟩ then p+yF s p 6+1 else p+yF s p 6)∧(if zI s (p+yF s p 6) ⟨#[125]⟩ then p+yF s p 6+1 else p+yF s p 6)<=s.size;rw[if_pos e2];have:=qV e2;have e4:(⟨#[125]⟩:ByteArray).size=1:=rfl;omega
theorem zJX (s:ByteArray)(p:Nat):(zAM s p).at_<=p+10∧((zAM s p).ok=true->p<(zAM s p).at_∧(zAM s p).at_<=s.size)∧0<=(zAM s p).num∧(zAM s p).num<=16777216:=by
 unfold zAM;split
 ·rename_i h
  have:=qV h;have e4:(⟨#[110]⟩:ByteArray).size=1:=rfl;exact⟨by show p+1<=_;omega,fun _=>⟨by show p<p+1;omega,by show p+1<=_;omega⟩,by show(0:Int)<=10;omega,by show(10:Int)<=16777216;omega⟩
 split
 ·rename_i h
  have:=qV h;have e4:(⟨#[116]⟩:ByteArray).size=1:=rfl;exact⟨by show p+1<=_;omega,fun _=>⟨by show p<p+1;omega,by show p+1<=_;omega⟩,by show(0:Int)<=9;omega,by show(9:Int)<=16777216;omega⟩
 split
 ·obtain⟨a,b,c,d⟩:=zMH s (p+1)
  exact⟨by omega,fun e=>by have:=b e;omega,c,d⟩
 split
 ·obtain⟨a,b,c,d⟩:=zMe s (p+2)
  exact⟨by omega,fun e=>by have:=b e;omega,c,d⟩
 have hl:=zAl s p;split
 ·exact⟨by show p<=_;omega,fun e=>(by cases e),by show(0:Int)<=0;omega,by show(0:Int)<=16777216;omega⟩
 ·rename_i h
  have h0:byt s p≠0:=fun e=>h (by rw[e];decide);have:=zB6 h0;refine⟨by show p+1<=_;omega,fun _=>⟨by show p<p+1;omega,by show p+1<=_;omega⟩,?_,?_⟩
  ·show(0:Int)<=(byt s p:Nat);omega
  ·show((byt s p:Nat):Int)<=16777216;omega
theorem zER (s:ByteArray)(p:Nat):(xE s p).at_<=p+11∧((xE s p).ok=true->p<(xE s p).at_∧(xE s p).at_<=s.size)∧0<=(xE s p).num∧(xE s p).num<=16777216:=by
 unfold xE;split
 ·obtain⟨a,b,c,d⟩:=zJX s (p+1)
  exact⟨by omega,fun e=>by have:=b e;omega,c,d⟩
 have hl:=zAl s p;split
 ·exact⟨by show p<=_;omega,fun e=>(by cases e),by show(0:Int)<=0;omega,by show(0:Int)<=16777216;omega⟩
 ·rename_i h
  have h0:byt s p≠0:=fun e=>h (by rw[e];decide);have:=zB6 h0;refine⟨by show p+1<=_;omega,fun _=>⟨by show p<p+1;omega,by show p+1<=_;omega⟩,?_,?_⟩
  ·show(0:Int)<=(byt s p:Nat);omega
  ·show((byt s p:Nat):Int)<=16777216;omega
theorem zJM (s:ByteArray)(p:Nat):(yE s p).at_<=p+30∧((yE s p).ok=true->p<(yE s p).at_∧(yE s p).at_<=s.size)∧0<=(yE s p).low∧(yE s p).low<=16777216∧0<=(yE s p).high∧(yE s p).high<=16777216:=by
 obtain⟨a,b,c,d⟩:=zER s p;unfold yE;split
 ·rename_i h
  rw[Bool.and_eq_true] at h;obtain⟨a2,b2,c2,d2⟩:=zER s ((xE s p).at_+1);have b1:=b h.1;refine⟨?_,fun e=>?_,c,d,c2,d2⟩
  ·show(xE s ((xE s p).at_+1)).at_<=p+30
   omega
  ·have e3:((xE s ((xE s p).at_+1)).ok&&decide ((xE s p).num<=(xE s ((xE s p).at_+1)).num))=true:=e
   rw[Bool.and_eq_true] at e3;have:=b2 e3.1;show p<(xE s ((xE s p).at_+1)).at_∧(xE s ((xE s p).at_+1)).at_<=s.size;omega
 ·exact⟨by show(xE s p).at_<=p+30;omega,b,c,d,c,d⟩
def zAY (s:ByteArray):Nat->Nat->List (Int×Int)->Option (List (Int×Int)×Nat)
 |0,_,_=>none
 |f+1,p,l=>if(yE s p).ok then(if zI s (yE s p).at_ ⟨#[93]⟩ then some (l++[((yE s p).low,(yE s p).high)],(yE s p).at_+1) else zAY s f (yE s p).at_ (l++[((yE s p).low,(yE s p).high)])) else none
def zB5 (s:ByteArray)(p:Nat):Option (Cs×Nat):=(zAY s (s.size+1) (if zI s (p+1) ⟨#[94]⟩ then p+2 else p+1) []).map fun g=>(⟨g.1,zI s (p+1) ⟨#[94]⟩⟩,g.2)
def zAm (w:World)(b:Nat)(s:ByteArray)(dv:Value)(r:Rx)(a:Option (Cs×Nat))(e:Ending)(w':World):Prop:=
 Keep w.heap.size b w w'∧match a with
 |none=>∃v n c o q,e=.returned (.tuple #[.agg #[.slice v n c,.bool o],.bool false])∧RxAt w' b s dv {r with at_:=q}
 |some (c,q)=>∃u,e=.returned (.tuple #[.agg #[u,.bool c.others],.bool true])∧RangesIn (fun i=>w.heap.size<=i) w' u c.ranges∧RxAt w' b s dv {r with at_:=q}
end Go.Proofs.YtbjcfkdnjaiclaaGreat
