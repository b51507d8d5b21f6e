import Derived.Test.YtbjcfkdnjaiclaaGreatB0
import Derived.Test.YtbjcfkdnjaiclaaGreatB8
/- Parts of the proof, in order. -/
set_option linter.unusedVariables false
set_option linter.unusedSimpArgs false
set_option maxHeartbeats 4000000
set_option maxRecDepth 100000
namespace Go.Proofs.YtbjcfkdnjaiclaaGreat
open Go.RowKit Go.Proofs.Tryz Go.World
section
structure Aw (w:World)(H p:Nat)(lv tv sv:Value)(a:Ar):Prop where
 blk:w.heap[p]? =some (.cells #[lv,tv,sv] 172)
 lows:OwnI w H lv a.lows
 letters:OwnI w H tv a.letters
 sets:OwnI w H sv a.sets
 ne1:∀g,lv.ownBlock=some g->some g≠tv.ownBlock
 ne2:∀g,lv.ownBlock=some g->some g≠sv.ownBlock
 ne3:∀g,tv.ownBlock=some g->some g≠sv.ownBlock
 pH:p<H
 lt:H<=w.heap.size
section
variable {w w2:World} {H p:Nat} {lv tv sv:Value} {a:Ar}
theorem Aw.grown (h:Aw w H p lv tv sv a)(hk:Grew w w2):Aw w2 H p lv tv sv a:=by
 have h1:=h.pH;have h2:=h.lt;exact⟨(hk.block _ (by omega) (by omega)).trans h.blk,zJ h.lows hk,zJ h.letters hk,zJ h.sets hk,h.ne1,h.ne2,h.ne3,h.pH,Nat.le_trans h2 hk.size⟩
theorem Aw.cells (h:Aw w H p lv tv sv a):w.cell? ⟨p,0,none⟩=some lv∧w.cell? ⟨p,1,none⟩=some tv∧w.cell? ⟨p,2,none⟩=some sv∧∀i,w.frozen? ⟨p,i,none⟩=false:=by
 refine⟨?_,?_,?_,fun i=>?_⟩
 all_goals first|(unfold cell?;rw[h.blk];rfl)|(unfold frozen?;rw[h.blk];simp)
theorem yU {w:World}{H g cap n m:Nat}{v u:Value}{ys:List Value}{e z:Nat}(hu:w.ownsRow H e z u m ys)(hne:∀g,v.ownBlock=some g->some g≠u.ownBlock)(hat:v.ownBlock=some g∨w.heap.size<=g):∀k,(Value.slice (some ⟨g,0,none⟩) n cap).ownBlock=some k->some k≠u.ownBlock:=by
 intro k hk e;have e1:g=k:=by simpa[Value.ownBlock] using hk
 subst e1;rcases hat with ha|ha
 ·exact hne g ha e
 ·have:=(hu.lt g e.symm).2
  omega
theorem zCc {u v:Value}(h:∀g,u.ownBlock=some g->some g≠v.ownBlock):∀g,v.ownBlock=some g->some g≠u.ownBlock:=fun g hg e=>h g e.symm hg.symm
theorem Aw.lows_app {o:Obj}{g cap:Nat}{x:Int}(h:Aw w H p lv tv sv a)(hown:w2.ownsRow H 3 1 (.slice (some ⟨g,0,none⟩) (a.lows.length+1) cap) (a.lows.length+1) ((a.lows.map fun x=>.int .i64 x)++[.int .i64 x]))(hg:(w.alloc o).grownBy w2 lv.ownBlock)(hat:lv.ownBlock=some g∨w.heap.size<=g):
  Aw (w2.setCell ⟨p,0,none⟩ (.slice (some ⟨g,0,none⟩) (a.lows.length+1) cap)) H p (.slice (some ⟨g,0,none⟩) (a.lows.length+1) cap) tv sv {a with lows:=a.lows++[x]}∧Keep H p w (w2.setCell ⟨p,0,none⟩ (.slice (some ⟨g,0,none⟩) (a.lows.length+1) cap)):=by
 have hpH:=h.pH;have hlt:=h.lt;have hbl:∀j,j<H->w2.heap[j]? =w.heap[j]? :=fun j hj=>(hg.block j (by simp;omega) fun e=>by have:=(h.lows.lt j e.symm).1;omega).trans (Below.heap_alloc _ _ _ (by omega));have hb:=(hbl p hpH).trans h.blk;have hsz:w.heap.size<=w2.heap.size:=Nat.le_trans (by simp) hg.size;refine⟨⟨?_,zW (OwnI.snoc hown) h.pH,zW (zP hg h.letters (fun g hg e=>h.ne1 g e.symm hg.symm)) h.pH,zW (zP hg h.sets (fun g hg e=>h.ne2 g e.symm hg.symm)) h.pH,yU h.letters h.ne1 hat,yU h.sets h.ne2 hat,h.ne3,hpH,by rw[zC];omega⟩,⟨hg.os,hg.output,by rw[zC];exact hsz,fun k h1 h2=>(Below.heap_setCell _ _ _ _ h2).trans (hbl k h1)⟩⟩;simp[setCell,Array.getElem?_modify,hb]
theorem Aw.letters_app {o:Obj}{g cap:Nat}{x:Int}(h:Aw w H p lv tv sv a)(hown:w2.ownsRow H 3 1 (.slice (some ⟨g,0,none⟩) (a.letters.length+1) cap) (a.letters.length+1) ((a.letters.map fun x=>.int .i64 x)++[.int .i64 x]))(hg:(w.alloc o).grownBy w2 tv.ownBlock)(hat:tv.ownBlock=some g∨w.heap.size<=g):
  Aw (w2.setCell ⟨p,1,none⟩ (.slice (some ⟨g,0,none⟩) (a.letters.length+1) cap)) H p lv (.slice (some ⟨g,0,none⟩) (a.letters.length+1) cap) sv {a with letters:=a.letters++[x]}∧Keep H p w (w2.setCell ⟨p,1,none⟩ (.slice (some ⟨g,0,none⟩) (a.letters.length+1) cap)):=by
 have hpH:=h.pH;have hlt:=h.lt;have hbl:∀j,j<H->w2.heap[j]? =w.heap[j]? :=fun j hj=>(hg.block j (by simp;omega) fun e=>by have:=(h.letters.lt j e.symm).1;omega).trans (Below.heap_alloc _ _ _ (by omega));have hb:=(hbl p hpH).trans h.blk;have hsz:w.heap.size<=w2.heap.size:=Nat.le_trans (by simp) hg.size;refine⟨⟨?_,zW (zP hg h.lows h.ne1) h.pH,zW (OwnI.snoc hown) h.pH,zW (zP hg h.sets (fun g hg e=>h.ne3 g e.symm hg.symm)) h.pH,zCc (yU h.lows (fun g hg e=>h.ne1 g e.symm hg.symm) hat),h.ne2,yU h.sets h.ne3 hat,hpH,by rw[zC];omega⟩,⟨hg.os,hg.output,by rw[zC];exact hsz,fun k h1 h2=>(Below.heap_setCell _ _ _ _ h2).trans (hbl k h1)⟩⟩;simp[setCell,Array.getElem?_modify,hb]
theorem Aw.sets_app {o:Obj}{g cap:Nat}{x:Int}(h:Aw w H p lv tv sv a)(hown:w2.ownsRow H 3 1 (.slice (some ⟨g,0,none⟩) (a.sets.length+1) cap) (a.sets.length+1) ((a.sets.map fun x=>.int .i64 x)++[.int .i64 x]))(hg:(w.alloc o).grownBy w2 sv.ownBlock)(hat:sv.ownBlock=some g∨w.heap.size<=g):
  Aw (w2.setCell ⟨p,2,none⟩ (.slice (some ⟨g,0,none⟩) (a.sets.length+1) cap)) H p lv tv (.slice (some ⟨g,0,none⟩) (a.sets.length+1) cap) {a with sets:=a.sets++[x]}∧Keep H p w (w2.setCell ⟨p,2,none⟩ (.slice (some ⟨g,0,none⟩) (a.sets.length+1) cap)):=by
 have hpH:=h.pH;have hlt:=h.lt;have hbl:∀j,j<H->w2.heap[j]? =w.heap[j]? :=fun j hj=>(hg.block j (by simp;omega) fun e=>by have:=(h.sets.lt j e.symm).1;omega).trans (Below.heap_alloc _ _ _ (by omega));have hb:=(hbl p hpH).trans h.blk;have hsz:w.heap.size<=w2.heap.size:=Nat.le_trans (by simp) hg.size;refine⟨⟨?_,zW (zP hg h.lows h.ne2) h.pH,zW (zP hg h.letters h.ne3) h.pH,zW (OwnI.snoc hown) h.pH,h.ne1,zCc (yU h.lows (fun g hg e=>h.ne2 g e.symm hg.symm) hat),zCc (yU h.letters (fun g hg e=>h.ne3 g e.symm hg.symm) hat),hpH,by rw[zC];omega⟩,⟨hg.os,hg.output,by rw[zC];exact hsz,fun k h1 h2=>(Below.heap_setCell _ _ _ _ h2).trans (hbl k h1)⟩⟩;simp[setCell,Array.getElem?_modify,hb]
end
end
def Ar.look (a:Ar)(x:Int):Nat:=a.sets.findIdx (·==x)
def Ar.seen (a:Ar)(x:Int):Ar:=if a.look x<a.sets.length then a else{a with sets:=a.sets++[x]}
def AwIs (w:World)(H p:Nat)(a:Ar):Prop:=∃lv tv sv,Aw w H p lv tv sv a
theorem zL5 (a:Ar)(x:Int)(j:Nat)(hj:j<a.sets.length)(h:a.sets.getD j 0=x)(hn:∀i,i<j->a.sets.getD i 0≠x):a.look x=j:=by
 unfold Ar.look;rw[List.findIdx_eq hj];rw[List.getD_eq_getElem?_getD,List.getElem?_eq_getElem hj] at h;refine⟨by simpa using h,fun i hi=>?_⟩;have:=hn i hi;rw[List.getD_eq_getElem?_getD,List.getElem?_eq_getElem (by omega)] at this;simpa using this
theorem zKh (a:Ar)(x:Int)(hn:∀i,i<a.sets.length->a.sets.getD i 0≠x):a.look x=a.sets.length:=by
 unfold Ar.look;rw[List.findIdx_eq_length];intro y hy;obtain⟨i,hi,rfl⟩:=List.getElem_of_mem hy;have:=hn i hi;rw[List.getD_eq_getElem?_getD,List.getElem?_eq_getElem hi] at this;simpa using this
theorem zE2 (w:World)(H p:Nat)(a:Ar)(hA:AwIs w H p a)(hl:a.sets.length<=1000000000000)(x:Int):
  Calls prog 168 #[.pointer (some ⟨p,0,none⟩),.int .i64 x] w fun e w'=>e=.returned (.int .i64 (a.look x))∧AwIs w' H p (a.seen x)∧Keep H p w w':=by
 obtain⟨i0,hi0,hz0,hz1,hz2⟩:=info_parts yH;obtain⟨lv,tv,sv,hA⟩:=hA;obtain⟨as_,cs,rfl⟩:=hA.sets.form;obtain⟨y0,y1,y2,f⟩:=hA.cells;have f2:=f 2;have HA:=vl hA;have OR:=vl hA.sets;have hpH:=hA.pH;have hlt:=hA.lt;have HCL:Hid (∀i,i<a.sets.length->∃g,as_=some ⟨g,0,none⟩∧w.cell? ⟨g,i,none⟩=some (.int .i64 (a.sets.getD i 0))):=by
  intro i hi;obtain⟨g,hg⟩:∃g,as_=some ⟨g,0,none⟩:=by
   rcases hA.sets.2 with⟨h,h0⟩|⟨g,_,_,h,_⟩
   ·omega
   ·injection h with h _ _
    exact⟨g,h⟩
  subst hg;exact⟨g,rfl,hA.sets.cell i hi⟩
 have HL1:Hid (∀j,j<a.sets.length->a.sets.getD j 0=x->(∀i,i<j->a.sets.getD i 0≠x)->a.look x=j∧a.seen x=a):=fun j hj h hn=>by
  have e:=zL5 a x j hj h hn;exact⟨e,by unfold Ar.seen;rw[e,if_pos hj]⟩
 have HL2:Hid ((∀i,i<a.sets.length->a.sets.getD i 0≠x)->a.look x=a.sets.length∧a.seen x={a with sets:=a.sets++[x]}):=fun hn=>by
  have e:=zKh a x hn;exact⟨e,by unfold Ar.seen;rw[e,if_neg (Nat.lt_irrefl _)]⟩
 go_in;go_wp2;go_loopg [12] a.sets.length (fun q i wr=>∃j:Nat,q=a.sets.length-j∧j<=a.sets.length∧i=.int .i64 (j:Int)∧(∀i,i<j->a.sets.getD i 0≠x)∧wr=w)
 case atStart=>exact⟨0,rfl,Nat.zero_le _,rfl,fun i hi=>by omega,rfl⟩
 case round=>
  obtain⟨j,hgk,hj,rfl,hno,hw⟩:=hrel;subst hw;have HB:Hid (gk=a.sets.length-j∧∀i,i<j->a.sets.getD i 0≠x):=⟨hgk,hno⟩
  by_cases hj2:j<a.sets.length
  ·have i1:(j:Int)<(a.sets.length:Int):=by omega
   obtain⟨g,rfl,hc⟩:=HCL.out j hj2;have HL3:Hid (a.sets.getD j 0=x->a.look x=j∧a.seen x=a):=fun h=>HL1.out j hj2 h HB.out.2;have HN3:Hid (a.sets.getD j 0≠x->∀i,i<j+1->a.sets.getD i 0≠x):=fun h i hi=>by
    by_cases e:i=j
    ·rw[e];exact h
    ·exact HB.out.2 i (by omega)
   generalize a.sets.getD j 0=y at *;by_cases hy:y=x
   ·have HR:=HL3.out hy
    have HR2:=vl HR;have hy2:(y==x)=true:=by simp[hy]
    go_wp2;go_ret;exact⟨by rw[HR2.out.1];rfl,by rw[HR2.out.2];exact⟨_,_,_,HA.out⟩,⟨rfl,rfl,Nat.le_refl _,fun _ _ _=>rfl⟩⟩
   ·have HR:=vl <| HN3.out hy
    have hy2:(y==x)=false:=by simp[hy]
    go_wp2;go_roundg (a.sets.length-(j+1))
    case measure=>rw[HB.out.1];omega
    case rel=>exact⟨j+1,rfl,by omega,by go_num,HR.out,rfl⟩
  ·have i1:(a.sets.length:Int)<=(j:Int):=by omega
   have HR:=vl <| HL2.out fun i hi=>hno i (by omega);have hHs:=hlt;go_wp2_with (first|(at_builtin;refine wpList_append_lies _ rfl _ _ 45 rfl (H) 3 i0 (.int .i64 0) 1 8 underlying45 hi0 hz0 hz1 hz2 rfl (by decide) _ _ _ rfl (OR.out.alloc _) ⟨wr.heap.size,0,none⟩ 1 1 [.int .i64 x] rfl rfl (cell_one_new _ _ _) (by intro u hu;simp at hu;subst hu;rfl) (by decide) (by unfold maxLen;omega) (by omega) (by simp;omega) _ rfl ?_;intro gg cap2 w2 hown hgrow hat hlt2;have hPB:=(hgrow.block p (by simp;omega) (fun e=>by have:=(OR.out.lt _ e.symm).1;omega)).trans (Below.heap_alloc _ _ _ (by omega));have t2:=(cell?_of_block hPB).trans y2;have g2:=(frozen?_of_block hPB).trans f2;have A2:=Aw.sets_app HA.out hown hgrow (by rcases hat with ha|ha;exact .inl ha;right;rw[ha];simp);have t3:=A2.1.cells.2.2.1))
   go_ret;refine⟨?_,by rw[HR.out.2];exact⟨_,_,_,A2.1⟩,A2.2⟩;rw[HR.out.1]
   first|rfl|(simp;done)|(show _=_;congr 2;omega)
theorem AwIs.grown {w w2:World}{H p:Nat}{a:Ar}(h:AwIs w H p a)(hk:Grew w w2):AwIs w2 H p a:=by
 obtain⟨lv,tv,sv,h⟩:=h;exact⟨lv,tv,sv,h.grown hk⟩
def Ar.turns (a:Ar)(l:Nat):Bool:=a.letters.length==0||(a.letters.getD (a.letters.length-1) 0 != (l:Int))
def Ar.step (sets:List Cs)(a:Ar)(low:Int):Ar:=
 if(a.seen (qJ sets low)).turns (a.look (qJ sets low)) then{a.seen (qJ sets low) with lows:=(a.seen (qJ sets low)).lows++[low],letters:=(a.seen (qJ sets low)).letters++[(a.look (qJ sets low):Int)]} else a.seen (qJ sets low)
def qQ (sets:List Cs)(j:Nat):Ar:=((xI sets).take j).foldl (Ar.step sets) ⟨[],[],[]⟩
def xY (sets:List Cs):Ar:=(xI sets).foldl (Ar.step sets) ⟨[],[],[]⟩
theorem zBK (sets:List Cs)(j:Nat)(hj:j<(xI sets).length):qQ sets (j+1)=(qQ sets j).step sets ((xI sets).getD j 0):=zCI _ _ _ 0 j hj
theorem zEX (sets:List Cs)(j:Nat)(hj:(xI sets).length<=j):qQ sets j=xY sets:=by
 unfold qQ;rw[List.take_of_length_le hj];rfl
theorem zEJ (a:Ar)(x:Int):(a.seen x).lows=a.lows∧(a.seen x).letters=a.letters∧(a.seen x).sets.length<=a.sets.length+1:=by
 unfold Ar.seen;split
 ·exact⟨rfl,rfl,by omega⟩
 ·exact⟨rfl,rfl,by simp⟩
theorem zIv (sets:List Cs)(a:Ar)(low:Int)(n:Nat)(h:a.lows.length=a.letters.length∧a.lows.length<=n∧a.sets.length<=n):(a.step sets low).lows.length=(a.step sets low).letters.length∧(a.step sets low).lows.length<=n+1∧(a.step sets low).sets.length<=n+1:=by
 obtain⟨e1,e2,e3⟩:=zEJ a (qJ sets low);unfold Ar.step;split
 ·show((a.seen _).lows++[low]).length=((a.seen _).letters++[_]).length∧((a.seen _).lows++[low]).length<=n+1∧(a.seen _).sets.length<=n+1
  rw[e1,e2,List.length_append,List.length_append];simp only[List.length_singleton];omega
 ·rw[e1,e2]
  omega
theorem zC3 (sets:List Cs)(j:Nat)(hj:j<=(xI sets).length):(qQ sets j).lows.length=(qQ sets j).letters.length∧(qQ sets j).lows.length<=j∧(qQ sets j).sets.length<=j:=by
 induction j with
 |zero=>exact⟨rfl,Nat.le_refl _,Nat.le_refl _⟩
 |succ j ih=>
  rw[zBK sets j (by omega)];exact zIv sets _ _ j (ih (by omega))
theorem Ar.step_yes (sets:List Cs)(a:Ar)(low:Int)(h:(a.seen (qJ sets low)).turns (a.look (qJ sets low))=true):a.step sets low={a.seen (qJ sets low) with lows:=(a.seen (qJ sets low)).lows++[low],letters:=(a.seen (qJ sets low)).letters++[(a.look (qJ sets low):Int)]}:=by
 unfold Ar.step;rw[if_pos h]
theorem Ar.step_no (sets:List Cs)(a:Ar)(low:Int)(h:(a.seen (qJ sets low)).turns (a.look (qJ sets low))=false):a.step sets low=a.seen (qJ sets low):=by
 unfold Ar.step;rw[h];rfl
theorem OwnI.some {w:World}{H n cap:Nat}{ao:Option Addr}{l:List Int}(h:OwnI w H (.slice ao n cap) l)(hl:0<l.length):∃g,ao=some ⟨g,0,none⟩:=by
 rcases h.2 with⟨_,h0⟩|⟨g,_,_,h,_⟩
 ·omega
 ·injection h with h _ _
  exact⟨g,h⟩
theorem zAB {w:World}{H:Nat}{v:Value}{l:List Int}(h:OwnI w H v l):Ints w (In w) v l:=zBL h fun g hg=>(h.lt g hg).2
theorem zIG (w:World)(v:Value)(sets:List Cs)(hS:SetsAt w v sets)(hn:sets.length<=24)(hN:yC sets<=100000000000)(hsm:∀s∈sets,s.Small):
  Calls prog 127 #[v] w fun e w'=>∃lv tv sv,e=.returned (.agg #[lv,tv,sv])∧ArAt w' lv tv sv (xY sets)∧Grew w w':=by
 obtain⟨i0,hi0,hz0,hz1,hz2⟩:=info_parts yH;have HBC:Hid (∀w',Grew w w'->_):=fun w' hk=>zEn w' v sets (hS.grown hk) hn hN hsm;have HSC:Hid (∀w' c,Grew w w'->_):=fun w' c hk=>zGs w' v sets (hS.grown hk) hn (fun s hs=>by
  obtain⟨i,hi,rfl⟩:=List.getElem_of_mem hs;have h:=zDX sets i hi;rw[List.getD_eq_getElem?_getD,List.getElem?_eq_getElem hi] at h;have h2:sets[i].ranges.length<=yC sets:=by simpa using (Nat.le_trans (Nat.le_add_left _ _) h)
  omega) c
 have hbl:(xI sets).length<=500000000000:=by
  have:(xI sets).length=4+2*yC sets:=zFo _ _;omega
 have HSZ:Hid (∀j,j<=(xI sets).length->_):=fun j hj=>zC3 sets j hj;have hal1:w.heap.size<(w.alloc (.cells #[.slice none 0 0,.slice none 0 0,.slice none 0 0] 172)).heap.size:=by simp
 obtain⟨w1,hw1,K1⟩:∃w1,w1=w.alloc (.cells #[.slice none 0 0,.slice none 0 0,.slice none 0 0] 172)∧Hid (Grew w w1∧w1.heap[w.heap.size]? =some (.cells #[.slice none 0 0,.slice none 0 0,.slice none 0 0] 172)∧w.heap.size<w1.heap.size):=⟨_,rfl,Keep.alloc _ _ (Nat.le_refl _),heap_alloc_new w _,by simp⟩
 go_in;refine wp_cut ?_;intro K0 HK0;go_wp2;refine HK0.out _ _ ?_;clear HK0;rw[<-hw1];clear hw1 hal1;refine wp_cut ?_;intro K0 HK0;go_wp2_with (first|(go_at_call 167;refine(HBC.out _ K1.out.1).mono ?_;rintro e w2 ⟨u,rfl,hu,hk2⟩;obtain⟨au,cu,rfl⟩:=hu.form))
 refine HK0.out _ _ ?_;clear HK0;refine wp_cut ?_;intro K0 HK0;go_wp2;refine HK0.out _ _ ?_;clear HK0;obtain⟨w4,hw4,A4,hs4⟩:∃w4,w4=(w2.alloc (.cells #[.slice au (xI sets).length cu] 239)).alloc (.cells #[.slice none 0 0,.slice none 0 0,.slice none 0 0] 172)∧Hid (AwIs w4 (w2.heap.size+2) (w2.heap.size+1) ⟨[],[],[]⟩∧Grew w w4∧w4.heap[w.heap.size]? =some (.cells #[.slice none 0 0,.slice none 0 0,.slice none 0 0] 172)∧w4.cell? ⟨w2.heap.size,0,none⟩=some (.slice au (xI sets).length cu)∧(∀i,i<(xI sets).length->∃g,au=some ⟨g,0,none⟩∧g<w2.heap.size∧w4.cell? ⟨g,i,none⟩=some (.int .i64 ((xI sets).getD i 0))))∧w.heap.size<w2.heap.size:=by
  obtain⟨w3,hw3⟩:∃w3,w3=w2.alloc (.cells #[.slice au (xI sets).length cu] 239):=⟨_,rfl⟩
  have h3:w3.heap[w2.heap.size]? =some (.cells #[.slice au (xI sets).length cu] 239):=by rw[hw3];exact heap_alloc_new w2 _
  have k3:Grew w2 w3:=by rw[hw3];exact Keep.alloc _ _ (Nat.le_refl _)
  have s3:w3.heap.size=w2.heap.size+1:=by rw[hw3];simp
  rw[<-hw3];obtain⟨w4,hw4⟩:∃w4,w4=w3.alloc (.cells #[.slice none 0 0,.slice none 0 0,.slice none 0 0] 172):=⟨_,rfl⟩
  have h4:w4.heap[w2.heap.size+1]? =some (.cells #[.slice none 0 0,.slice none 0 0,.slice none 0 0] 172):=by rw[hw4,<-s3];exact heap_alloc_new w3 _
  have k4:Grew w3 w4:=by rw[hw4];exact Keep.alloc _ _ (Nat.le_refl _)
  have s4:w4.heap.size=w2.heap.size+2:=by rw[hw4];simp[s3]
  have hz1:=K1.out.2.2;have hz2:=hk2.size;have kw:Grew w w4:=((K1.out.1.trans (hk2.lower (by omega) (by omega))).trans (k3.lower (by omega) (by omega))).trans (k4.lower (by omega) (by omega));refine⟨w4,hw4,⟨⟨_,_,_,⟨h4,ownsRow_nil _ _ _ _,ownsRow_nil _ _ _ _,ownsRow_nil _ _ _ _,fun g h=>by simp[Value.ownBlock] at h,fun g h=>by simp[Value.ownBlock] at h,fun g h=>by simp[Value.ownBlock] at h,by omega,by omega⟩⟩,kw,?_,?_,?_⟩,by omega⟩
  ·exact(k4.block _ (by omega) (by omega)).trans ((k3.block _ (by omega) (by omega)).trans ((hk2.block _ hz1 (by omega)).trans K1.out.2.1))
  ·have e:w4.heap[w2.heap.size]? =some (.cells #[.slice au (xI sets).length cu] 239):=(k4.block _ (by omega) (by omega)).trans h3
   unfold cell?;rw[e];rfl
  ·intro i hi
   obtain⟨g,hg⟩:∃g,au=some ⟨g,0,none⟩:=by
    rcases hu.2 with⟨h,h0⟩|⟨g,_,_,h,_⟩
    ·omega
    ·injection h with h _ _
     exact⟨g,h⟩
   subst hg;have hl:=(hu.lt g rfl).2;exact⟨g,rfl,hl,zA (zA (hu.cell i hi) hl k3) (by omega) k4⟩
 rw[<-hw4];clear hw4 hu hk2;have y0:=A4.out.2.2.2.1;go_wp2;clear y0;go_loopg [15] (xI sets).length (fun q i wr=>∃j:Nat,q=(xI sets).length-j∧j<=(xI sets).length∧i=.int .i64 (j:Int)∧AwIs wr (w2.heap.size+2) (w2.heap.size+1) (qQ sets j)∧Keep (w2.heap.size+2) (w2.heap.size+1) w4 wr)
 case atStart=>exact⟨0,rfl,Nat.zero_le _,rfl,by unfold qQ;rw[List.take_zero];exact A4.out.1,⟨rfl,rfl,Nat.le_refl _,fun _ _ _=>rfl⟩⟩
 case round=>
  obtain⟨j,hgk,hj,rfl,hA,hkp⟩:=hrel;have HA:Hid (gk=(xI sets).length-j∧AwIs wr (w2.heap.size+2) (w2.heap.size+1) (qQ sets j)∧Keep (w2.heap.size+2) (w2.heap.size+1) w4 wr∧Grew w wr):=⟨hgk,hA,hkp,A4.out.2.1.trans (hkp.lower (by omega) (by omega))⟩
  by_cases hj2:j<(xI sets).length
  ·have i1:(j:Int)<((xI sets).length:Int):=by omega
   obtain⟨g,rfl,hg,hc⟩:=A4.out.2.2.2.2 j hj2;have yl:wr.cell? ⟨g,j,none⟩=some (.int .i64 ((xI sets).getD j 0)):=(cell?_of_block (hkp.block g (by omega) (by omega))).trans hc;have HPS:=vl <| zBK sets j hj2;have hsz:=HSZ.out j hj;clear hgk hkp hc;generalize (xI sets).getD j 0=low at *;generalize hbn:(xI sets).length=bn at *;obtain⟨x,hx⟩:∃x,qJ sets low=x:=⟨_,rfl⟩
   obtain⟨a,ha⟩:∃a,qQ sets j=a:=⟨_,rfl⟩
   rw[ha] at HPS hsz hA HA;have hse:=zEJ a x;have HY:Hid ((a.seen x).turns (a.look x)=true->qQ sets (j+1)={a.seen x with lows:=(a.seen x).lows++[low],letters:=(a.seen x).letters++[(a.look x:Int)]}):=fun h=>by
    rw[HPS.out];have:=Ar.step_yes sets a low (by rw[hx];exact h);rw[hx] at this;exact this
   have HNO:Hid ((a.seen x).turns (a.look x)=false->qQ sets (j+1)=a.seen x):=fun h=>by
    rw[HPS.out];have:=Ar.step_no sets a low (by rw[hx];exact h);rw[hx] at this;exact this
   have HSC2:Hid (∀w',Grew w w'->Calls prog 169 #[v,.int .i64 low] w' fun e w2=>e=.returned (.int .i64 (x:Nat))∧Grew w' w2):=fun w' h=>by rw[<-hx];exact HSC.out w' low h
   have HLC:Hid (∀w',AwIs w' (w2.heap.size+2) (w2.heap.size+1) a->_):=fun w' h=>zE2 w' _ _ a h (by omega) x;have hb1:(a.seen x).lows.length<=500000000000:=by rw[hse.1];omega
   have hb2:(a.seen x).letters.length<=500000000000:=by rw[hse.2.1,<-hsz.1];omega
   clear hse hsz;have hlw:w2.heap.size+2<=wr.heap.size:=by
    obtain⟨_,_,_,h⟩:=hA;exact h.lt
   clear ha hx hA;by_cases hl0:(a.seen x).letters.length=0
   ·have HT:=vl <| HY.out (by unfold Ar.turns;rw[hl0];rfl)
    have HLN:=vl hl0;clear hl0;go_wp2_with (first|(go_at_call 169;refine(HSC2.out _ HA.out.2.2.2).mono ?_;rintro e w5 ⟨rfl,hk5⟩)|(go_at_call 168;refine(HLC.out _ (HA.out.2.1.grown hk5)).mono ?_;rintro e w6 ⟨rfl,⟨lv,tv,sv,hA6⟩,hk6⟩;obtain⟨q0,q1,q2,qf⟩:=hA6.cells;obtain⟨al,cl,rfl⟩:=hA6.lows.form;obtain⟨at_,ct,htv⟩:=hA6.letters.form;rw[HLN.out] at htv;subst htv;have HA6:Hid (Aw w6 (w2.heap.size+2) (w2.heap.size+1) (.slice al (a.seen x).lows.length cl) (.slice at_ 0 ct) sv (a.seen x)∧Keep (w2.heap.size+2) (w2.heap.size+1) w4 w6):=⟨hA6,(HA.out.2.2.1.trans (hk5.lower (by omega) (by omega))).trans hk6⟩;have hl6:=hA6.lt;have OL6:w6.ownsRow (w2.heap.size+2) 3 1 (.slice al (a.seen x).lows.length cl) (a.seen x).lows.length ((a.seen x).lows.map fun x=>.int .i64 x):=hA6.lows;clear hA6 hk6 hk5 qf q2)|(at_builtin;refine wpList_append_lies _ rfl _ _ 45 rfl (w2.heap.size+2) 3 i0 (.int .i64 0) 1 8 underlying45 hi0 hz0 hz1 hz2 rfl (by decide) _ _ _ rfl (OT7.alloc _) ⟨w7.heap.size,0,none⟩ 1 1 [.int .i64 (a.look x:Int)] rfl rfl (zBb _ [.int .i64 (a.look x:Int)] _ _ (zC _ _ _)) (by intro u hu;simp at hu;subst hu;rfl) (by decide) (by unfold maxLen;omega) (by omega) (by simp[zC];omega) _ rfl ?_;intro g2 cap2 w8 hown2 hgrow2 hat2 hlt3;have hPB2:w8.heap[w2.heap.size+1]? =(w7.setCell ⟨w2.heap.size+1,0,none⟩ (.slice (some ⟨gg,0,none⟩) ((a.seen x).lows.length+1) cap)).heap[w2.heap.size+1]? :=(hgrow2.block _ (by simp[zC];omega) (fun e=>by have:=(OT7.lt _ e.symm).1;omega)).trans (Below.heap_alloc _ _ _ (by rw[zC];omega));have t2:w8.cell? ⟨w2.heap.size+1,1,none⟩=some (.slice at_ 0 ct):=(cell?_of_block hPB2).trans t1;have g1:w8.frozen? ⟨w2.heap.size+1,1,none⟩=false:=(frozen?_of_block hPB2).trans f1)|(at_builtin;refine wpList_append_lies _ rfl _ _ 45 rfl (w2.heap.size+2) 3 i0 (.int .i64 0) 1 8 underlying45 hi0 hz0 hz1 hz2 rfl (by decide) _ _ _ rfl (OL6.alloc _) ⟨w6.heap.size,0,none⟩ 1 1 [.int .i64 low] rfl rfl (cell_one_new _ _ _) (by intro u hu;simp at hu;subst hu;rfl) (by decide) (by unfold maxLen;omega) (by omega) (by simp;omega) _ rfl ?_;intro gg cap w7 hown hgrow hat hlt2;have hPB:w7.heap[w2.heap.size+1]? =w6.heap[w2.heap.size+1]? :=(hgrow.block _ (by simp;omega) (fun e=>by have:=(OL6.lt _ e.symm).1;omega)).trans (Below.heap_alloc _ _ _ (by omega));have t0:w7.cell? ⟨w2.heap.size+1,0,none⟩=some (.slice al (a.seen x).lows.length cl):=(cell?_of_block hPB).trans q0;have g0:w7.frozen? ⟨w2.heap.size+1,0,none⟩=false:=(frozen?_of_block hPB).trans (HA6.out.1.cells.2.2.2 0);have A7:=Aw.lows_app HA6.out.1 hown hgrow (by rcases hat with ha|ha;exact .inl ha;right;rw[ha];simp);have t1:(w7.setCell ⟨w2.heap.size+1,0,none⟩ (.slice (some ⟨gg,0,none⟩) ((a.seen x).lows.length+1) cap)).cell? ⟨w2.heap.size+1,1,none⟩=some (.slice at_ 0 ct):=A7.1.cells.2.1;have OT7:(w7.setCell ⟨w2.heap.size+1,0,none⟩ (.slice (some ⟨gg,0,none⟩) ((a.seen x).lows.length+1) cap)).ownsRow (w2.heap.size+2) 3 1 (.slice at_ 0 ct) 0 ((a.seen x).letters.map fun x=>.int .i64 x):=(by have h:=A7.1.letters;unfold OwnI at h;rw[show ({a.seen x with lows:=(a.seen x).lows++[low]}:Ar).letters=(a.seen x).letters from rfl,HLN.out] at h;exact h);have hl7:w2.heap.size+2<=w7.heap.size:=Nat.le_trans hl6 (Nat.le_trans (by simp) hgrow.size);have f1:(w7.setCell ⟨w2.heap.size+1,0,none⟩ (.slice (some ⟨gg,0,none⟩) ((a.seen x).lows.length+1) cap)).frozen? ⟨w2.heap.size+1,1,none⟩=false:=A7.1.cells.2.2.2 1))
    have A8:Hid (AwIs (w8.setCell ⟨w2.heap.size+1,1,none⟩ (.slice (some ⟨g2,0,none⟩) (0+1) cap2)) (w2.heap.size+2) (w2.heap.size+1) (qQ sets (j+1))∧Keep (w2.heap.size+2) (w2.heap.size+1) w4 (w8.setCell ⟨w2.heap.size+1,1,none⟩ (.slice (some ⟨g2,0,none⟩) (0+1) cap2))):=by
     have hown3:w8.ownsRow (w2.heap.size+2) 3 1 (.slice (some ⟨g2,0,none⟩) ((a.seen x).letters.length+1) cap2) ((a.seen x).letters.length+1) (((a.seen x).letters.map fun x=>.int .i64 x)++[.int .i64 (a.look x:Int)]):=by rw[HLN.out];exact hown2
     have h:=Aw.letters_app A7.1 (g:=g2) (cap:=cap2) (x:=(a.look x:Int)) hown3 hgrow2 (by
      rcases hat2 with ha|ha
      ·exact .inl ha
      ·right;rw[ha];simp[zC])
     rw[show ({a.seen x with lows:=(a.seen x).lows++[low]}:Ar).letters=(a.seen x).letters from rfl,HLN.out] at h;rw[HT.out];exact⟨⟨_,_,_,h.1⟩,(HA6.out.2.trans A7.2).trans h.2⟩
    go_roundg (bn-(j+1))
    case measure=>rw[HA.out.1];omega
    case rel=>exact⟨j+1,rfl,by omega,by go_num,A8.out.1,A8.out.2⟩
   ·obtain⟨k,hk⟩:∃k,(a.seen x).letters.length=k+1:=⟨(a.seen x).letters.length-1,by omega⟩
    have HLN:=vl hk;obtain⟨t,htt⟩:∃t,(a.seen x).letters.getD k 0=t:=⟨_,rfl⟩
    have HTV:=vl htt;have htn:(a.seen x).turns (a.look x)=(t != (a.look x:Int)):=by
     unfold Ar.turns;rw[hk,<-htt];rfl
    have hkb:k<=500000000000:=by omega
    clear hl0 hk htt hb2;cases hcc:(t != (a.look x:Int)) with
    |true=>
     have HT:=vl <| HY.out (by rw[htn,hcc]);clear htn;go_wp2_with (first|(go_at_call 169;refine(HSC2.out _ HA.out.2.2.2).mono ?_;rintro e w5 ⟨rfl,hk5⟩)|(go_at_call 168;refine(HLC.out _ (HA.out.2.1.grown hk5)).mono ?_;rintro e w6 ⟨rfl,⟨lv,tv,sv,hA6⟩,hk6⟩;obtain⟨q0,q1,q2,qf⟩:=hA6.cells;obtain⟨al,cl,rfl⟩:=hA6.lows.form;obtain⟨at_,ct,htv⟩:=hA6.letters.form;rw[HLN.out] at htv;subst htv;obtain⟨gt,rfl⟩:=hA6.letters.some (by rw[HLN.out];omega);have ql:w6.cell? ⟨gt,k,none⟩=some (.int .i64 t):=(by rw[<-HTV.out];exact hA6.letters.cell k (by rw[HLN.out];omega));have HA6:Hid (Aw w6 (w2.heap.size+2) (w2.heap.size+1) (.slice al (a.seen x).lows.length cl) (.slice (some ⟨gt,0,none⟩) (k+1) ct) sv (a.seen x)∧Keep (w2.heap.size+2) (w2.heap.size+1) w4 w6):=⟨hA6,(HA.out.2.2.1.trans (hk5.lower (by omega) (by omega))).trans hk6⟩;have hl6:=hA6.lt;have OL6:w6.ownsRow (w2.heap.size+2) 3 1 (.slice al (a.seen x).lows.length cl) (a.seen x).lows.length ((a.seen x).lows.map fun x=>.int .i64 x):=hA6.lows;clear hA6 hk6 hk5 qf q2)|(at_builtin;refine wpList_append_lies _ rfl _ _ 45 rfl (w2.heap.size+2) 3 i0 (.int .i64 0) 1 8 underlying45 hi0 hz0 hz1 hz2 rfl (by decide) _ _ _ rfl (OT7.alloc _) ⟨w7.heap.size,0,none⟩ 1 1 [.int .i64 (a.look x:Int)] rfl rfl (zBb _ [.int .i64 (a.look x:Int)] _ _ (zC _ _ _)) (by intro u hu;simp at hu;subst hu;rfl) (by decide) (by unfold maxLen;omega) (by omega) (by simp[zC];omega) _ rfl ?_;intro g2 cap2 w8 hown2 hgrow2 hat2 hlt3;have hPB2:w8.heap[w2.heap.size+1]? =(w7.setCell ⟨w2.heap.size+1,0,none⟩ (.slice (some ⟨gg,0,none⟩) ((a.seen x).lows.length+1) cap)).heap[w2.heap.size+1]? :=(hgrow2.block _ (by simp[zC];omega) (fun e=>by have:=(OT7.lt _ e.symm).1;omega)).trans (Below.heap_alloc _ _ _ (by rw[zC];omega));have t2:w8.cell? ⟨w2.heap.size+1,1,none⟩=some (.slice (some ⟨gt,0,none⟩) (k+1) ct):=(cell?_of_block hPB2).trans t1;have g1:w8.frozen? ⟨w2.heap.size+1,1,none⟩=false:=(frozen?_of_block hPB2).trans f1)|(at_builtin;refine wpList_append_lies _ rfl _ _ 45 rfl (w2.heap.size+2) 3 i0 (.int .i64 0) 1 8 underlying45 hi0 hz0 hz1 hz2 rfl (by decide) _ _ _ rfl (OL6.alloc _) ⟨w6.heap.size,0,none⟩ 1 1 [.int .i64 low] rfl rfl (cell_one_new _ _ _) (by intro u hu;simp at hu;subst hu;rfl) (by decide) (by unfold maxLen;omega) (by omega) (by simp;omega) _ rfl ?_;intro gg cap w7 hown hgrow hat hlt2;have hPB:w7.heap[w2.heap.size+1]? =w6.heap[w2.heap.size+1]? :=(hgrow.block _ (by simp;omega) (fun e=>by have:=(OL6.lt _ e.symm).1;omega)).trans (Below.heap_alloc _ _ _ (by omega));have t0:w7.cell? ⟨w2.heap.size+1,0,none⟩=some (.slice al (a.seen x).lows.length cl):=(cell?_of_block hPB).trans q0;have g0:w7.frozen? ⟨w2.heap.size+1,0,none⟩=false:=(frozen?_of_block hPB).trans (HA6.out.1.cells.2.2.2 0);have A7:=Aw.lows_app HA6.out.1 hown hgrow (by rcases hat with ha|ha;exact .inl ha;right;rw[ha];simp);have t1:(w7.setCell ⟨w2.heap.size+1,0,none⟩ (.slice (some ⟨gg,0,none⟩) ((a.seen x).lows.length+1) cap)).cell? ⟨w2.heap.size+1,1,none⟩=some (.slice (some ⟨gt,0,none⟩) (k+1) ct):=A7.1.cells.2.1;have OT7:(w7.setCell ⟨w2.heap.size+1,0,none⟩ (.slice (some ⟨gg,0,none⟩) ((a.seen x).lows.length+1) cap)).ownsRow (w2.heap.size+2) 3 1 (.slice (some ⟨gt,0,none⟩) (k+1) ct) (k+1) ((a.seen x).letters.map fun x=>.int .i64 x):=(by have h:=A7.1.letters;unfold OwnI at h;rw[show ({a.seen x with lows:=(a.seen x).lows++[low]}:Ar).letters=(a.seen x).letters from rfl,HLN.out] at h;exact h);have hl7:w2.heap.size+2<=w7.heap.size:=Nat.le_trans hl6 (Nat.le_trans (by simp) hgrow.size);have f1:(w7.setCell ⟨w2.heap.size+1,0,none⟩ (.slice (some ⟨gg,0,none⟩) ((a.seen x).lows.length+1) cap)).frozen? ⟨w2.heap.size+1,1,none⟩=false:=A7.1.cells.2.2.2 1))
     have A8:Hid (AwIs (w8.setCell ⟨w2.heap.size+1,1,none⟩ (.slice (some ⟨g2,0,none⟩) (k+1+1) cap2)) (w2.heap.size+2) (w2.heap.size+1) (qQ sets (j+1))∧Keep (w2.heap.size+2) (w2.heap.size+1) w4 (w8.setCell ⟨w2.heap.size+1,1,none⟩ (.slice (some ⟨g2,0,none⟩) (k+1+1) cap2))):=by
      have hown3:w8.ownsRow (w2.heap.size+2) 3 1 (.slice (some ⟨g2,0,none⟩) ((a.seen x).letters.length+1) cap2) ((a.seen x).letters.length+1) (((a.seen x).letters.map fun x=>.int .i64 x)++[.int .i64 (a.look x:Int)]):=by rw[HLN.out];exact hown2
      have h:=Aw.letters_app A7.1 (g:=g2) (cap:=cap2) (x:=(a.look x:Int)) hown3 hgrow2 (by
       rcases hat2 with ha|ha
       ·exact .inl ha
       ·right;rw[ha];simp[zC])
      rw[show ({a.seen x with lows:=(a.seen x).lows++[low]}:Ar).letters=(a.seen x).letters from rfl,HLN.out] at h;rw[HT.out];exact⟨⟨_,_,_,h.1⟩,(HA6.out.2.trans A7.2).trans h.2⟩
     go_roundg (bn-(j+1))
     case measure=>rw[HA.out.1];omega
     case rel=>exact⟨j+1,rfl,by omega,by go_num,A8.out.1,A8.out.2⟩
    |false=>
     have HT:=vl <| HNO.out (by rw[htn,hcc]);clear htn;go_wp2_with (first|(go_at_call 169;refine(HSC2.out _ HA.out.2.2.2).mono ?_;rintro e w5 ⟨rfl,hk5⟩)|(go_at_call 168;refine(HLC.out _ (HA.out.2.1.grown hk5)).mono ?_;rintro e w6 ⟨rfl,⟨lv,tv,sv,hA6⟩,hk6⟩;obtain⟨q0,q1,q2,qf⟩:=hA6.cells;obtain⟨al,cl,rfl⟩:=hA6.lows.form;obtain⟨at_,ct,htv⟩:=hA6.letters.form;rw[HLN.out] at htv;subst htv;obtain⟨gt,rfl⟩:=hA6.letters.some (by rw[HLN.out];omega);have ql:w6.cell? ⟨gt,k,none⟩=some (.int .i64 t):=(by rw[<-HTV.out];exact hA6.letters.cell k (by rw[HLN.out];omega));have HA6:Hid (Aw w6 (w2.heap.size+2) (w2.heap.size+1) (.slice al (a.seen x).lows.length cl) (.slice (some ⟨gt,0,none⟩) (k+1) ct) sv (a.seen x)∧Keep (w2.heap.size+2) (w2.heap.size+1) w4 w6):=⟨hA6,(HA.out.2.2.1.trans (hk5.lower (by omega) (by omega))).trans hk6⟩;have hl6:=hA6.lt;have OL6:w6.ownsRow (w2.heap.size+2) 3 1 (.slice al (a.seen x).lows.length cl) (a.seen x).lows.length ((a.seen x).lows.map fun x=>.int .i64 x):=hA6.lows;clear hA6 hk6 hk5 qf q2))
     go_roundg (bn-(j+1))
     case measure=>rw[HA.out.1];omega
     case rel=>exact⟨j+1,rfl,by omega,by go_num,by rw[HT.out];exact⟨_,_,_,HA6.out.1⟩,HA6.out.2⟩
  ·have i1:((xI sets).length:Int)<=(j:Int):=by omega
   have e:=zEX sets j (by omega);rw[e] at hA;obtain⟨lv,tv,sv,h⟩:=hA;obtain⟨q0,q1,q2,-⟩:=h.cells;obtain⟨al,cl,rfl⟩:=h.lows.form;obtain⟨at_,ct,rfl⟩:=h.letters.form;obtain⟨as_,cs,rfl⟩:=h.sets.form;have hres:wr.heap[w.heap.size]? =some (.cells #[.slice none 0 0,.slice none 0 0,.slice none 0 0] 172):=(hkp.block _ (by omega) (by omega)).trans A4.out.2.2.1;have x0:wr.cell? ⟨w.heap.size,0,none⟩=some (.slice none 0 0):=by unfold cell?;rw[hres];rfl
   have x1:wr.cell? ⟨w.heap.size,1,none⟩=some (.slice none 0 0):=by unfold cell?;rw[hres];rfl
   have x2:wr.cell? ⟨w.heap.size,2,none⟩=some (.slice none 0 0):=by unfold cell?;rw[hres];rfl
   have xf:∀i,wr.frozen? ⟨w.heap.size,i,none⟩=false:=fun i=>by unfold frozen?;rw[hres];simp
   have xf0:=xf 0;have xf1:=xf 1;have xf2:=xf 2;have HZ:Hid (Aw wr (w2.heap.size+2) (w2.heap.size+1) (.slice al (xY sets).lows.length cl) (.slice at_ (xY sets).letters.length ct) (.slice as_ (xY sets).sets.length cs) (xY sets)∧Grew w wr):=⟨h,HA.out.2.2.2⟩
   clear h hgk hkp hres xf e;go_wp2;refine bodyPost_ret (v:=.agg #[.slice al (xY sets).lows.length cl,.slice at_ (xY sets).letters.length ct,.slice as_ (xY sets).sets.length cs]) (by simp[results,results127,go_sem, *]) rfl ⟨_,_,_,rfl,⟨zAB (zW (zW (zW HZ.out.1.lows (by omega)) (by omega)) (by omega)),zAB (zW (zW (zW HZ.out.1.letters (by omega)) (by omega)) (by omega)),zAB (zW (zW (zW HZ.out.1.sets (by omega)) (by omega)) (by omega))⟩,?_⟩;exact((HZ.out.2.trans (zN _ _ _ _ (Nat.le_refl _))).trans (zN _ _ _ _ (Nat.le_refl _))).trans (zN _ _ _ _ (Nat.le_refl _))
theorem zLh (a b:List Int)(hl:a.length=b.length)(h:∀i,i<a.length->a.getD i 0=b.getD i 0):a=b:=by
 apply List.ext_getElem hl;intro i h1 h2;have:=h i h1;rw[List.getD_eq_getElem?_getD,List.getElem?_eq_getElem h1,List.getD_eq_getElem?_getD,List.getElem?_eq_getElem h2] at this;exact this
theorem zH0 (w:World)(va vb:Value)(a b:List Int)(hA:Ints w (In w) va a)(hB:Ints w (In w) vb b)(hl:a.length<=1000000000000):
  Calls prog 132 #[va,vb] w fun e w'=>e=.returned (.bool (decide (a=b)))∧Grew w w':=by
 obtain⟨aa,ca,rfl,_,_,hac⟩:=hA;obtain⟨ab,cb,rfl,_,_,hbc⟩:=hB;have HAC:=vl hac;have HBC:=vl hbc;by_cases hne:a.length=b.length
 ·have HEQ:Hid ((∀i,i<a.length->a.getD i 0=b.getD i 0)->a=b):=fun h=>zLh a b hne h
  have HNE:Hid (∀i,a.getD i 0≠b.getD i 0->a≠b):=fun i h e=>h (by rw[e]);rw[<-hne] at HBC ⊢;have hne2:((a.length:Int) != (b.length:Int))=false:=by simp[hne]
  go_in;go_wp2;go_loopg [13] a.length (fun q i wr=>∃j:Nat,q=a.length-j∧j<=a.length∧i=.int .i64 (j:Int)∧(∀i,i<j->a.getD i 0=b.getD i 0)∧Grew w wr)
  case atStart=>exact⟨0,rfl,Nat.zero_le _,rfl,fun i hi=>by omega,⟨rfl,rfl,Nat.le_refl _,fun _ _ _=>rfl⟩⟩
  case round=>
   obtain⟨j,hgk,hj,rfl,hsame,hkp⟩:=hrel;have HA:Hid (gk=a.length-j∧(∀i,i<j->a.getD i 0=b.getD i 0)∧Grew w wr):=⟨hgk,hsame,hkp⟩
   by_cases hj2:j<a.length
   ·have i1:(j:Int)<(a.length:Int):=by omega
    obtain⟨b1,o1,rfl,hb1,c1⟩:=HAC.out j hj2;obtain⟨b2,o2,rfl,hb2,c2⟩:=HBC.out j hj2;have y1:=zA c1 hb1 hkp;have y2:=zA c2 hb2 hkp;have HN1:=vl <| HNE.out j;have HS1:Hid (a.getD j 0=b.getD j 0->∀i,i<j+1->a.getD i 0=b.getD i 0):=fun h i hi=>by
     by_cases e:i=j
     ·rw[e];exact h
     ·exact HA.out.2.1 i (by omega)
    generalize a.getD j 0=x at *;generalize b.getD j 0=y at *;by_cases hxy:x=y
    ·have HS2:=vl <| HS1.out hxy
     have hc:(x != y)=false:=by simp[hxy]
     go_wp2;go_quiet (fail);go_wp2;go_roundg (a.length-(j+1))
     case measure=>rw[HA.out.1];omega
     case rel=>exact⟨j+1,rfl,by omega,by go_num,HS2.out,HA.out.2.2.trans (Keep.alike (w':=wr.drewN nq) ⟨rfl,rfl,rfl⟩)⟩
    ·have HN2:=vl <| HN1.out hxy
     have hc:(x != y)=true:=by simp[hxy]
     go_wp2;go_quiet (fail);go_wp2;go_ret;exact⟨by rw[decide_eq_false HN2.out];rfl,HA.out.2.2.trans (Keep.alike (w':=wr.drewN nq) ⟨rfl,rfl,rfl⟩)⟩
   ·have i1:(a.length:Int)<=(j:Int):=by omega
    have HZ:=vl <| HEQ.out fun i hi=>hsame i (by omega);go_wp2;go_ret;exact⟨by rw[decide_eq_true HZ.out];rfl,HA.out.2.2⟩
 ·have HZ:Hid (a≠b):=fun e=>hne (by rw[e])
  have hc:((a.length:Int) != (b.length:Int))=true:=by simp;omega
  go_in;go_wp2;go_ret;exact⟨by rw[decide_eq_false HZ.out];rfl,⟨rfl,rfl,Nat.le_refl _,fun _ _ _=>rfl⟩⟩
theorem zBQ (w:World)(step:Nat)(h:step=1∨step=64∨step=4096):
  Calls prog 176 #[.int .i64 step] w fun e w'=>e=.returned (.int .i64 (if step=64 then 2048 else if step=4096 then 65536 else 0))∧w'=w:=by
 rcases h with rfl|rfl|rfl
 all_goals
  go_in;go_wp2;go_ret;exact⟨rfl,rfl⟩
def qS (rules:List Nat)(set:Nat):Int:=if rules.findIdx (fun r=>set&&&r != 0)<rules.length then(rules.findIdx (fun r=>set&&&r != 0):Int) else -1
theorem zLX (rules:List Nat)(set j:Nat)(hj:j<rules.length)(h:set&&&rules.getD j 0≠0)(hn:∀i,i<j->set&&&rules.getD i 0=0):qS rules set=j:=by
 have e:rules.findIdx (fun r=>set&&&r != 0)=j:=by
  rw[List.findIdx_eq hj];rw[List.getD_eq_getElem?_getD,List.getElem?_eq_getElem hj] at h;refine⟨by simpa using h,fun i hi=>?_⟩;have:=hn i hi;rw[List.getD_eq_getElem?_getD,List.getElem?_eq_getElem (by omega)] at this;simpa using this
 unfold qS;rw[e,if_pos hj]
theorem zJ7 (rules:List Nat)(set:Nat)(hn:∀i,i<rules.length->set&&&rules.getD i 0=0):qS rules set=-1:=by
 have e:rules.findIdx (fun r=>set&&&r != 0)=rules.length:=by
  rw[List.findIdx_eq_length];intro y hy;obtain⟨i,hi,rfl⟩:=List.getElem_of_mem hy;have:=hn i hi;rw[List.getD_eq_getElem?_getD,List.getElem?_eq_getElem hi] at this;simpa using this
 unfold qS;rw[e,if_neg (Nat.lt_irrefl _)]
theorem zIB (rules:List Nat)(set:Nat):-1<=qS rules set∧qS rules set<rules.length:=by
 unfold qS;split <;> omega
theorem zBj (w:World)(p q:Nat)(rv:Value)(rules:List Nat)(hp:w.cell? ⟨p,0,none⟩=some (.pointer (some ⟨q,0,none⟩)))(hq:w.cell? ⟨q,4,none⟩=some rv)(hR:Ints w (In w) rv (rules.map fun(x:Nat)=>(x:Int)))(hl:rules.length<=8)(hr:∀r∈rules,r<16777216)(set:Nat)(hs:set<16777216):
  Calls prog 93 #[.pointer (some ⟨p,0,none⟩),.int .i64 set] w fun e w'=>e=.returned (.int .i64 (qS rules set))∧w'=w:=by
 obtain⟨ar,cr,hrv,_,_,hrc⟩:=hR;rw[List.length_map] at hrv;subst hrv;have HRC:Hid (∀i,i<rules.length->∃b o,ar=some ⟨b,o,none⟩∧w.cell? ⟨b,o+i,none⟩=some (.int .i64 ((rules.getD i 0:Nat):Int))∧rules.getD i 0<16777216):=by
  intro i hi;obtain⟨b,o,h1,_,h2⟩:=hrc i (by rw[List.length_map];exact hi);refine⟨b,o,h1,?_,hr _ (zR _ i 0 hi)⟩;rw[List.getD_eq_getElem?_getD,List.getElem?_map,List.getElem?_eq_getElem hi] at h2;rw[List.getD_eq_getElem?_getD,List.getElem?_eq_getElem hi];exact h2
 have H1:Hid (∀j,j<rules.length->set&&&rules.getD j 0≠0->(∀i,i<j->set&&&rules.getD i 0=0)->qS rules set=j):=fun j=>zLX rules set j;have H2:=vl <| zJ7 rules set;go_in;go_wp2;go_loopg [15] rules.length (fun k i wr=>∃j:Nat,k=rules.length-j∧j<=rules.length∧i=.int .i64 (j:Int)∧(∀i,i<j->set&&&rules.getD i 0=0)∧wr=w)
 case atStart=>exact⟨0,rfl,Nat.zero_le _,rfl,fun i hi=>by omega,rfl⟩
 case round=>
  obtain⟨j,hgk,hj,rfl,hno,hw⟩:=hrel;subst hw;have HB:Hid (gk=rules.length-j∧∀i,i<j->set&&&rules.getD i 0=0):=⟨hgk,hno⟩
  by_cases hj2:j<rules.length
  ·have i1:(j:Int)<(rules.length:Int):=by omega
   obtain⟨b,o,rfl,hc,hlt⟩:=HRC.out j hj2;have HL3:Hid (set&&&rules.getD j 0≠0->qS rules set=j):=fun h=>H1.out j hj2 h HB.out.2;have HN3:Hid (set&&&rules.getD j 0=0->∀i,i<j+1->set&&&rules.getD i 0=0):=fun h i hi=>by
    by_cases e:i=j
    ·rw[e];exact h
    ·exact HB.out.2 i (by omega)
   generalize rules.getD j 0=r at *;have hand:bits .and .i64 (set:Int) (r:Int)=((set&&&r:Nat):Int):=yY _ _ (by omega) (by omega);by_cases hy:set&&&r=0
   ·have HR:=vl <| HN3.out hy
    rw[hy] at hand;have hand2:=hand;go_wp2;go_roundg (rules.length-(j+1))
    case measure=>rw[HB.out.1];omega
    case rel=>exact⟨j+1,rfl,by omega,by go_num,HR.out,rfl⟩
   ·have HR:=vl <| HL3.out hy
    have hc2:((bits .and .i64 (set:Int) (r:Int)) != 0)=true:=by rw[hand];simp;exact hy
    go_wp2;go_ret;exact⟨by rw[HR.out];rfl,rfl⟩
  ·have i1:(rules.length:Int)<=(j:Int):=by omega
   have HR:=vl <| H2.out fun i hi=>hno i (by omega);go_wp2;go_ret;exact⟨by rw[HR.out];rfl,rfl⟩
def xH (rules:List Nat)(a b tail:Nat):Bool:=a&&&tail != b&&&tail&&(qS rules (a&&&tail) != qS rules (b&&&tail))
theorem zGW (w:World)(p q:Nat)(rv:Value)(rules:List Nat)(hp:w.cell? ⟨p,0,none⟩=some (.pointer (some ⟨q,0,none⟩)))(hq:w.cell? ⟨q,4,none⟩=some rv)(hR:Ints w (In w) rv (rules.map fun(x:Nat)=>(x:Int)))(hl:rules.length<=8)(hr:∀r∈rules,r<16777216)(a b tail:Nat)(ha:a<16777216)(hb:b<16777216)(ht:tail<16777216):
  Calls prog 174 #[.pointer (some ⟨p,0,none⟩),.int .i64 a,.int .i64 b,.int .i64 tail] w fun e w'=>e=.returned (.bool (xH rules a b tail))∧Grew w w':=by
 have hx:bits .and .i64 (a:Int) (tail:Int)=((a&&&tail:Nat):Int):=yY _ _ (by omega) (by omega);have hy:bits .and .i64 (b:Int) (tail:Int)=((b&&&tail:Nat):Int):=yY _ _ (by omega) (by omega);have hxl:a&&&tail<16777216:=Nat.lt_of_le_of_lt Nat.and_le_left ha;have hyl:b&&&tail<16777216:=Nat.lt_of_le_of_lt Nat.and_le_left hb;have HV:Hid (xH rules a b tail=(a&&&tail != b&&&tail&&(qS rules (a&&&tail) != qS rules (b&&&tail)))):=rfl;have HC1:=vl <| zBj w p q rv rules hp hq hR hl hr _ hxl;have HC2:=vl <| zBj w p q rv rules hp hq hR hl hr _ hyl;generalize a&&&tail=x at *;generalize b&&&tail=y at *;by_cases hxy:x=y
 ·have HZ:Hid (xH rules a b tail=false):=by show _=_;rw[HV.out,hxy];simp
  have hc:((x:Int)==(y:Int))=true:=by simp[hxy]
  go_in;go_wp2;go_ret;exact⟨by rw[HZ.out];rfl,⟨rfl,rfl,Nat.le_refl _,fun _ _ _=>rfl⟩⟩
 ·have HZ:Hid (xH rules a b tail=(qS rules x != qS rules y)):=by
   show _=_;rw[HV.out,show(x != y)=true by simp[hxy]];rfl
  have hc:((x:Int)==(y:Int))=false:=by simp;omega
  generalize qS rules x=rx at *;generalize qS rules y=ry at *;go_in;go_wp2_with (first|(go_at_call 93;first|(have m2:=mark1;refine HC2.out.mono ?_;rintro e w3 ⟨rfl,rfl⟩)|(refine HC1.out.mono ?_;rintro e w2 ⟨rfl,rfl⟩;have mark1:True:=trivial)))
  go_ret;exact⟨by rw[HZ.out];rfl,⟨rfl,rfl,Nat.le_refl _,fun _ _ _=>rfl⟩⟩
end Go.Proofs.YtbjcfkdnjaiclaaGreat
