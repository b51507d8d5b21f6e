import Derived.Deep.DrawnRows
import Derived.Deep.RegionLaw
import Derived.Test.YtbjcfkdnjaiclaaGreatB0
import Derived.Test.YtbjcfkdnjaiclaaGreatB1
/- Parts of the proof, in order. -/
set_option linter.unusedVariables false
set_option linter.unusedSimpArgs false
set_option maxHeartbeats 4000000
set_option maxRecDepth 100000
namespace Go.Proofs.YtbjcfkdnjaiclaaGreat
open Go.RowKit Go.Proofs.Tryz Go.World
def Rest (w:World)(p:Nat)(c:Tc)(k:Nat):Prop:=k<w.heap.size∧k≠p∧some k≠c.starts.ownBlock∧some k≠c.next.ownBlock∧some k≠c.ends.ownBlock
def Fin (w:World)(S:Nat->Prop)(H:Nat)(v:Value)(l:List Int):Prop:=OwnI w H v l∧∀g,v.ownBlock=some g->S g
theorem Fin.keep {w w':World}{S S':Nat->Prop}{H:Nat}{v:Value}{l:List Int}(h:Fin w S H v l)(e:∀k,H<=k->S k->w'.heap[k]? =w.heap[k]?∧S' k):Fin w' S' H v l:=
 ⟨zD h.1 fun g h1 _ hg=>(e g h1 (h.2 g hg)).1,fun g hg=>(e g (h.1.lt g hg).1 (h.2 g hg)).2⟩
theorem Fin.ints {w:World}{S:Nat->Prop}{H:Nat}{v:Value}{l:List Int}(h:Fin w S H v l):Ints w S v l:=zBL h.1 h.2
structure Gt (w:World)(H p:Nat)(c:Tc)(kinds acts pushed starts ends:List Int)(next:List (List Int)):Prop where
 tp:xA w p c
 starts:OwnI w H c.starts starts
 ends:OwnI w H c.ends ends
 next:∃rv:Nat->Value,w.ownsRow H 45 1 c.next next.length ((List.range next.length).map rv)∧∀i,i<next.length->Fin w (Rest w p c) H (rv i) (next.getD i [])
 kinds:Fin w (Rest w p c) H c.kinds kinds
 acts:Fin w (Rest w p c) H c.acts acts
 pushed:Fin w (Rest w p c) H c.pushed pushed
 HH:H<=w.heap.size
 sep:∀g,c.starts.ownBlock=some g->c.ends.ownBlock≠some g
theorem Gt.grown {w w':World}{H p:Nat}{c:Tc}{kinds acts pushed starts ends:List Int}{next:List (List Int)}(h:Gt w H p c kinds acts pushed starts ends next)(hk:Grew w w'):Gt w' H p c kinds acts pushed starts ends next:=by
 have hHH:=h.HH;have hp:=h.tp.lt;have hb:∀k,k<w.heap.size->w'.heap[k]? =w.heap[k]? :=fun k h1=>hk.block k h1 (by omega);have hrest:∀k,H<=k->Rest w p c k->w'.heap[k]? =w.heap[k]?∧Rest w' p c k:=fun k _ hr=>⟨hb k hr.1,Nat.lt_of_lt_of_le hr.1 hk.size,hr.2⟩
 obtain⟨rv,hn1,hn2⟩:=h.next
 exact⟨h.tp.of_block (hb p hp),zD h.starts fun k _ h2 _=>hb k h2,zD h.ends fun k _ h2 _=>hb k h2,⟨rv,zD hn1 fun k _ h2 _=>hb k h2,fun i hi=>(hn2 i hi).keep hrest⟩,h.kinds.keep hrest,h.acts.keep hrest,h.pushed.keep hrest,Nat.le_trans hHH hk.size,h.sep⟩
structure Turn (H p:Nat)(w:World)(c:Tc)(w':World)(c':Tc):Prop where
 rest:∀k,H<=k->Rest w p c k->w'.heap[k]? =w.heap[k]?∧Rest w' p c' k
 keep:Keep H p w w'
 same:c'={c with starts:=c'.starts,next:=c'.next,ends:=c'.ends}
theorem Turn.refl (H p:Nat)(w:World)(c:Tc):Turn H p w c w c:=⟨fun _ _ h=>⟨rfl,h⟩,Keep.refl _ _ _,rfl⟩
theorem Turn.trans {H p:Nat}{w w' w'':World}{c c' c'':Tc}(h:Turn H p w c w' c')(k:Turn H p w' c' w'' c''):Turn H p w c w'' c'':=
 ⟨fun i hi hr=>⟨((k.rest i hi (h.rest i hi hr).2).1).trans (h.rest i hi hr).1,(k.rest i hi (h.rest i hi hr).2).2⟩,h.keep.trans k.keep,k.same.trans (by rw[h.same])⟩
theorem Turn.grown {H p:Nat}{w w':World}{c:Tc}(hk:Grew w w')(hH:H<=w.heap.size):Turn H p w c w' c:=
 ⟨fun k _ hr=>⟨hk.block k hr.1 (by have:=hr.1;omega),Nat.lt_of_lt_of_le hr.1 hk.size,hr.2⟩,hk.lower hH hH,rfl⟩
theorem xM {w:World}{H e e' z z' n m:Nat}{v u:Value}{xs ys:List Value}(h:w.ownsRow H e z v n xs)(h':w.ownsRow H e' z' u m ys)(hef:e≠e'){g:Nat}(hg:v.ownBlock=some g):some g≠u.ownBlock:=fun he=>zF3 h h' hef hg he.symm
theorem vK {w:World}{H b e z n:Nat}{c:Tc}{v:Value}{xs:List Value}(ht:xA w b c)(h:w.ownsRow H e z v n xs)(he:e≠90):some b≠v.ownBlock:=by
 intro hg;rcases h.2 with⟨hv,_⟩|⟨g1,_,cur,hv,_,hh,_⟩
 ·rw[hv] at hg;cases hg
 ·rw[hv] at hg
  have e1:b=g1:=by simpa[Value.ownBlock] using hg
  subst e1;unfold xA at ht;rw[hh] at ht;injection ht with ht;injection ht with _ h2 _;exact he h2
theorem zC (w:World)(a:Addr)(v:Value):(w.setCell a v).heap.size=w.heap.size:=by simp[World.setCell]
theorem Gt.starts_app {w w2:World}{H p g cap:Nat}{c:Tc}{kinds acts pushed starts ends:List Int}{next:List (List Int)}{x:Int}(h:Gt w H p c kinds acts pushed starts ends next)
  (hown:OwnI w2 H (.slice (some ⟨g,0,none⟩) (starts.length+1) cap) (starts++[x])) (hgrow:∀k,k<w.heap.size->some k≠c.starts.ownBlock->w2.heap[k]? =w.heap[k]?) (hsz:w.heap.size<=w2.heap.size) (hos:w2.os=w.os∧w2.output=w.output) (hat:c.starts.ownBlock=some g∨w.heap.size<=g):
  Gt (w2.setCell ⟨p,3,none⟩ (.slice (some ⟨g,0,none⟩) (starts.length+1) cap)) H p {c with starts:=.slice (some ⟨g,0,none⟩) (starts.length+1) cap} kinds acts pushed (starts++[x]) ends next∧Turn H p w c (w2.setCell ⟨p,3,none⟩ (.slice (some ⟨g,0,none⟩) (starts.length+1) cap)) {c with starts:=.slice (some ⟨g,0,none⟩) (starts.length+1) cap}:=by
 have hp:=h.tp.lt;have hHH:=h.HH;obtain⟨rv0,hn1,hn20⟩:=h.next
 have hown':=hown.raw;have hpb:=hgrow p hp (vK h.tp h.starts.raw (by decide));have hgp:g≠p:=fun e=>by
  subst e;exact vK (h.tp.of_block hpb) hown' (by decide) rfl
 have hb:∀k,k≠p->(w2.setCell ⟨p,3,none⟩ (.slice (some ⟨g,0,none⟩) (starts.length+1) cap)).heap[k]? =w2.heap[k]? :=fun k hk=>Below.heap_setCell _ _ _ _ hk;have hrest:∀k,H<=k->Rest w p c k->(w2.setCell ⟨p,3,none⟩ (.slice (some ⟨g,0,none⟩) (starts.length+1) cap)).heap[k]? =w.heap[k]?∧Rest (w2.setCell ⟨p,3,none⟩ (.slice (some ⟨g,0,none⟩) (starts.length+1) cap)) p {c with starts:=.slice (some ⟨g,0,none⟩) (starts.length+1) cap} k:=by
  rintro k hk ⟨h1,hkp,h2,h3,h4⟩;refine⟨(hb k hkp).trans (hgrow k h1 h2),by rw[zC];omega,hkp,?_,h3,h4⟩;intro e;have e':k=g:=by simpa[Value.ownBlock] using e
  subst e';rcases hat with ha|ha
  ·exact h2 ha.symm
  ·omega
 have other:∀{e z n v xs},w.ownsRow H e z v n xs->e≠90->(∀k,v.ownBlock=some k->some k≠c.starts.ownBlock)->(w2.setCell ⟨p,3,none⟩ (.slice (some ⟨g,0,none⟩) (starts.length+1) cap)).ownsRow H e z v n xs:=fun ho he hne=>zD ho fun k _ h2 hk=>(hb k (fun ek=>vK h.tp ho he (by rw[hk,ek]))).trans (hgrow k h2 (hne k hk));have mine:=zD (w':=(w2.setCell ⟨p,3,none⟩ (.slice (some ⟨g,0,none⟩) (starts.length+1) cap))) hown' fun k _ _ hk=>hb k (fun ek=>hgp (by have e':g=k:=(by simpa[Value.ownBlock] using hk);rw[e',ek]));refine⟨?_,hrest,⟨hos.1,hos.2,by rw[zC];exact hsz,fun k h1 h2=>(hb k h2).trans (hgrow k (by omega) fun e=>by have:=(h.starts.raw.lt k e.symm).1;omega)⟩,rfl⟩;refine⟨(h.tp.of_block hpb).set_starts _,?_,other h.ends (by decide) fun k hk e=>h.sep k e.symm hk,⟨rv0,other hn1 (by decide) fun k hk=>xM hn1 h.starts.raw (by decide) hk,fun i hi=>(hn20 i hi).keep hrest⟩,h.kinds.keep hrest,h.acts.keep hrest,h.pushed.keep hrest,by rw[zC];omega,?_⟩
 ·exact mine
 intro k hk;have e':g=k:=by simpa[Value.ownBlock] using hk
 subst e';intro he;rcases hat with ha|ha
 ·exact h.sep g ha he
 ·have:=(h.ends.lt g he).2
  omega
theorem Gt.ends_app {w w2:World}{H p g cap:Nat}{c:Tc}{kinds acts pushed starts ends:List Int}{next:List (List Int)}{x:Int}(h:Gt w H p c kinds acts pushed starts ends next)
  (hown:OwnI w2 H (.slice (some ⟨g,0,none⟩) (ends.length+1) cap) (ends++[x])) (hgrow:∀k,k<w.heap.size->some k≠c.ends.ownBlock->w2.heap[k]? =w.heap[k]?) (hsz:w.heap.size<=w2.heap.size) (hos:w2.os=w.os∧w2.output=w.output) (hat:c.ends.ownBlock=some g∨w.heap.size<=g):
  Gt (w2.setCell ⟨p,9,none⟩ (.slice (some ⟨g,0,none⟩) (ends.length+1) cap)) H p {c with ends:=.slice (some ⟨g,0,none⟩) (ends.length+1) cap} kinds acts pushed starts (ends++[x]) next∧Turn H p w c (w2.setCell ⟨p,9,none⟩ (.slice (some ⟨g,0,none⟩) (ends.length+1) cap)) {c with ends:=.slice (some ⟨g,0,none⟩) (ends.length+1) cap}:=by
 have hp:=h.tp.lt;have hHH:=h.HH;obtain⟨rv0,hn1,hn20⟩:=h.next
 have hown':=hown.raw;have hpb:=hgrow p hp (vK h.tp h.ends.raw (by decide));have hgp:g≠p:=fun e=>by
  subst e;exact vK (h.tp.of_block hpb) hown' (by decide) rfl
 have hb:∀k,k≠p->(w2.setCell ⟨p,9,none⟩ (.slice (some ⟨g,0,none⟩) (ends.length+1) cap)).heap[k]? =w2.heap[k]? :=fun k hk=>Below.heap_setCell _ _ _ _ hk;have hrest:∀k,H<=k->Rest w p c k->(w2.setCell ⟨p,9,none⟩ (.slice (some ⟨g,0,none⟩) (ends.length+1) cap)).heap[k]? =w.heap[k]?∧Rest (w2.setCell ⟨p,9,none⟩ (.slice (some ⟨g,0,none⟩) (ends.length+1) cap)) p {c with ends:=.slice (some ⟨g,0,none⟩) (ends.length+1) cap} k:=by
  rintro k hk ⟨h1,hkp,h2,h3,h4⟩;refine⟨(hb k hkp).trans (hgrow k h1 h4),by rw[zC];omega,hkp,h2,h3,?_⟩;intro e;have e':k=g:=by simpa[Value.ownBlock] using e
  subst e';rcases hat with ha|ha
  ·exact h4 ha.symm
  ·omega
 have other:∀{e z n v xs},w.ownsRow H e z v n xs->e≠90->(∀k,v.ownBlock=some k->some k≠c.ends.ownBlock)->(w2.setCell ⟨p,9,none⟩ (.slice (some ⟨g,0,none⟩) (ends.length+1) cap)).ownsRow H e z v n xs:=fun ho he hne=>zD ho fun k _ h2 hk=>(hb k (fun ek=>vK h.tp ho he (by rw[hk,ek]))).trans (hgrow k h2 (hne k hk));have mine:=zD (w':=(w2.setCell ⟨p,9,none⟩ (.slice (some ⟨g,0,none⟩) (ends.length+1) cap))) hown' fun k _ _ hk=>hb k (fun ek=>hgp (by have e':g=k:=(by simpa[Value.ownBlock] using hk);rw[e',ek]));refine⟨?_,hrest,⟨hos.1,hos.2,by rw[zC];exact hsz,fun k h1 h2=>(hb k h2).trans (hgrow k (by omega) fun e=>by have:=(h.ends.raw.lt k e.symm).1;omega)⟩,rfl⟩;refine⟨(h.tp.of_block hpb).set_ends _,other h.starts (by decide) fun k hk e=>h.sep k hk e.symm,?_,⟨rv0,other hn1 (by decide) fun k hk=>xM hn1 h.ends.raw (by decide) hk,fun i hi=>(hn20 i hi).keep hrest⟩,h.kinds.keep hrest,h.acts.keep hrest,h.pushed.keep hrest,by rw[zC];omega,?_⟩
 ·exact mine
 intro k hk he;have e':g=k:=by simpa[Value.ownBlock] using he
 subst e';rcases hat with ha|ha
 ·exact h.sep g hk ha
 ·have:=(h.starts.lt g hk).2
  omega
theorem Gt.next_app {w w2:World}{H p g cap:Nat}{c:Tc}{kinds acts pushed starts ends:List Int}{next:List (List Int)}{u:Value}{l:List Int}(h:Gt w H p c kinds acts pushed starts ends next)
  (rv:Nat->Value) (hn2:∀i,i<next.length->Fin w (Rest w p c) H (rv i) (next.getD i [])) (hu:Fin w (Rest w p c) H u l) (hown:w2.ownsRow H 45 1 (.slice (some ⟨g,0,none⟩) (next.length+1) cap) (next.length+1) ((List.range next.length).map rv++[u])) (hgrow:∀k,k<w.heap.size->some k≠c.next.ownBlock->w2.heap[k]? =w.heap[k]?) (hsz:w.heap.size<=w2.heap.size) (hos:w2.os=w.os∧w2.output=w.output) (hat:c.next.ownBlock=some g∨w.heap.size<=g):
  Gt (w2.setCell ⟨p,8,none⟩ (.slice (some ⟨g,0,none⟩) (next.length+1) cap)) H p {c with next:=.slice (some ⟨g,0,none⟩) (next.length+1) cap} kinds acts pushed starts ends (next++[l])∧Turn H p w c (w2.setCell ⟨p,8,none⟩ (.slice (some ⟨g,0,none⟩) (next.length+1) cap)) {c with next:=.slice (some ⟨g,0,none⟩) (next.length+1) cap}:=by
 have hp:=h.tp.lt;have hHH:=h.HH;obtain⟨rv0,hn1,hn20⟩:=h.next
 have hown':=hown;have hpb:=hgrow p hp (vK h.tp hn1 (by decide));have hgp:g≠p:=fun e=>by
  subst e;exact vK (h.tp.of_block hpb) hown' (by decide) rfl
 have hb:∀k,k≠p->(w2.setCell ⟨p,8,none⟩ (.slice (some ⟨g,0,none⟩) (next.length+1) cap)).heap[k]? =w2.heap[k]? :=fun k hk=>Below.heap_setCell _ _ _ _ hk;have hrest:∀k,H<=k->Rest w p c k->(w2.setCell ⟨p,8,none⟩ (.slice (some ⟨g,0,none⟩) (next.length+1) cap)).heap[k]? =w.heap[k]?∧Rest (w2.setCell ⟨p,8,none⟩ (.slice (some ⟨g,0,none⟩) (next.length+1) cap)) p {c with next:=.slice (some ⟨g,0,none⟩) (next.length+1) cap} k:=by
  rintro k hk ⟨h1,hkp,h2,h3,h4⟩;refine⟨(hb k hkp).trans (hgrow k h1 h3),by rw[zC];omega,hkp,h2,?_,h4⟩;intro e;have e':k=g:=by simpa[Value.ownBlock] using e
  subst e';rcases hat with ha|ha
  ·exact h3 ha.symm
  ·omega
 have other:∀{e z n v xs},w.ownsRow H e z v n xs->e≠90->(∀k,v.ownBlock=some k->some k≠c.next.ownBlock)->(w2.setCell ⟨p,8,none⟩ (.slice (some ⟨g,0,none⟩) (next.length+1) cap)).ownsRow H e z v n xs:=fun ho he hne=>zD ho fun k _ h2 hk=>(hb k (fun ek=>vK h.tp ho he (by rw[hk,ek]))).trans (hgrow k h2 (hne k hk));have mine:=zD hown' fun k _ _ hk=>hb k (fun ek=>hgp (by have e':g=k:=(by simpa[Value.ownBlock] using hk);rw[e',ek]));refine⟨?_,hrest,⟨hos.1,hos.2,by rw[zC];exact hsz,fun k h1 h2=>(hb k h2).trans (hgrow k (by omega) fun e=>by have:=(hn1.lt k e.symm).1;omega)⟩,rfl⟩;refine⟨(h.tp.of_block hpb).set_next _,other h.starts.raw (by decide) fun k hk=>xM h.starts.raw hn1 (by decide) hk,other h.ends.raw (by decide) fun k hk=>xM h.ends.raw hn1 (by decide) hk,⟨fun i=>if i=next.length then u else rv i,?_,?_⟩,h.kinds.keep hrest,h.acts.keep hrest,h.pushed.keep hrest,by rw[zC];omega,h.sep⟩
 ·have e:(List.range (next++[l]).length).map (fun i=>if i=next.length then u else rv i)=(List.range next.length).map rv++[u]:=by
   rw[List.length_append,List.length_singleton,jO,if_pos rfl]
   congr 1
   exact List.map_congr_left fun i hi=>if_neg (by have:=List.mem_range.1 hi;omega)
  rw[e,List.length_append];exact mine
 ·intro i hi
  rw[List.length_append,List.length_singleton] at hi;by_cases e:i=next.length
  ·subst e
   simp only[if_true];have e2:(next++[l]).getD next.length []=l:=by simp
   rw[e2];exact hu.keep hrest
  ·show Fin _ _ _ (if i=next.length then u else rv i) _
   rw[if_neg e];have e2:(next++[l]).getD i []=next.getD i []:=by
    rw[List.getD_eq_getElem?_getD,List.getElem?_append_left (by omega),<-List.getD_eq_getElem?_getD]
   rw[e2];exact(hn2 i (by omega)).keep hrest
section
attribute [local go_sem ↓] Go.wp_at_zero Go.wp_at_succ
def yP (rules:Nat)(r:Int):Int:=if r=-1 then r else r+rules
theorem zNm (w0 w:World)(H p bx:Nat)(c0 c:Tc)(kinds acts pushed starts ends:List Int)(next:List (List Int))(hG:Gt w H p c kinds acts pushed starts ends next)(nv rv st:Value)(S:Nat->Prop)(rl:List Int)(hbx:w.heap[bx]? =some (.cells #[nv,rv,st] 127))(hR:Ints w S rv rl)(hS:∀k,S k->k<H∧k≠p)(hT:Turn H p w0 c0 w c)
  (rules:Nat) (hr8:rules<=8) (hel:ends.length+rl.length<=200) (hrb:∀i,i<rl.length->-1<=rl.getD i 0∧rl.getD i 0<=8)
  {u1 u3 u5 u6 u7 u8 u9 u10 u11 u12 u13 u14 u15 u16 u17 u18 u19 u20 u21 u22 u23 u24 u25 u26 u27 u28 u29 u30 u31 u32 u33 u34 u35 u36 u37 u38 u39 u40 u41 u42 u43 u44 u45 u46 u47 u48 u49 u50 u51 u52 u53 u54 u55 u56 u57 u58 u59 u60 u61 u62 u63 u64 u65 u66 u67 u68 u69 u70 u71 u72:Value}:
  Code.wp prog (yQ 4 ((f64.body).getD .skip)) (bodyPost prog f64 fun e w'=>e=.returned (.tuple #[])∧∃c',Gt w' H p c' kinds acts pushed starts (ends++rl.map (yP rules)) next∧Turn H p w0 c0 w' c')
   ⟨(.pointer (some ⟨p,0,none⟩)::u1:: .int .i64 rules::u3:: .pointer (some ⟨bx,0,none⟩)::u5::u6::u7::u8::u9::u10::u11::u12::u13::u14::u15::u16::u17::u18::u19::u20::u21::u22::u23::u24::u25::u26::u27::u28::u29::u30::u31::u32::u33::u34::u35::u36::u37::u38::u39::u40::u41::u42::u43::u44::u45::u46::u47::u48::u49::u50::u51::u52::u53::u54::u55::u56::u57::u58::u59::u60::u61::u62::u63::u64::u65::u66::u67::u68::u69::u70::u71::u72::[]).toArray,[]⟩ w:=by
 conv=>arg 2;whnf
 obtain⟨i0,hi0,hz0,hz1,hz2⟩:=info_parts yH;obtain⟨ar,cr,rfl,hcr,hmr,hRc⟩:=hR;have HR:=vl hRc;have HG:Hid (Gt w H p c kinds acts pushed starts ends next∧Turn H p w0 c0 w c):=⟨hG,hT⟩
 have HB:=vl hrb;have yb:w.cell? ⟨bx,1,none⟩=some (.slice ar rl.length cr):=by simp[World.cell?,hbx]
 have hHH:=hG.HH;go_wp2;go_loopg [53] rl.length (fun q i wr=>∃(j:Nat) (cj:Tc),q=rl.length-j∧j<=rl.length∧i=.int .i64 (j:Int)∧Gt wr H p cj kinds acts pushed starts (ends++(rl.take j).map (yP rules)) next∧Turn H p w c wr cj)
 case atStart=>exact⟨0,c,rfl,Nat.zero_le _,rfl,by rw[List.take_zero,List.map_nil,List.append_nil];exact HG.out.1,Turn.refl _ _ _ _⟩
 case round=>
  obtain⟨j,cj,hgk,hj,rfl,hGj,hTj⟩:=hrel;have HA:Hid (gk=rl.length-j∧Gt wr H p cj kinds acts pushed starts (ends++(rl.take j).map (yP rules)) next∧Turn H p w c wr cj):=⟨hgk,hGj,hTj⟩
  by_cases hj2:j<rl.length
  ·have i1:(j:Int)<(rl.length:Int):=by omega
   obtain⟨br,orr,rfl,hSr,hcell⟩:=HR.out j hj2;obtain⟨s1,s2⟩:=hS br hSr;have yr:=(cell?_of_block (hTj.keep.block br s1 s2)).trans hcell;obtain⟨ae,ce,hef⟩:=hGj.ends.form;have y9:wr.cell? ⟨p,9,none⟩=some (.slice ae (ends++(rl.take j).map (yP rules)).length ce):=by rw[<-hef];exact hGj.tp.get_ends
   have z9:=hGj.tp.fz 9;have HL:Hid (ends++(rl.take (j+1)).map (yP rules)=(ends++(rl.take j).map (yP rules))++[yP rules (rl.getD j 0)]):=by
    show _=_;rw[List.take_succ_eq_append_getElem hj2,List.map_append,List.append_assoc,List.getD_eq_getElem?_getD,List.getElem?_eq_getElem hj2];rfl
   have hlen:(ends++(rl.take j).map (yP rules)).length<=200:=by
    rw[List.length_append,List.length_map,List.length_take];omega
   have OR:Hid (wr.ownsRow H 3 1 (.slice ae (ends++(rl.take j).map (yP rules)).length ce) (ends++(rl.take j).map (yP rules)).length ((ends++(rl.take j).map (yP rules)).map fun x=>.int .i64 x)):=by have:=hGj.ends;rw[hef] at this;exact this
   have HEF:=vl hef;have hszr:=hGj.HH;have lpr:=hGj.tp.lt;have hnp:some p≠Value.ownBlock (.slice ae (ends++(rl.take j).map (yP rules)).length ce):=by rw[<-hef];exact vK hGj.tp hGj.ends.raw (by decide)
   have HNP:=vl hnp;obtain⟨b1,b2⟩:=HB.out j hj2;generalize hle:ends++(rl.take j).map (yP rules)=le at *;generalize rl.getD j 0=x at *;have fin:∀(w2:World) (g cap:Nat) (y:Int),y=yP rules x->w2.ownsRow H 3 1 (.slice (some ⟨g,0,none⟩) (le.length+1) cap) (le.length+1) ((le.map fun x=>.int .i64 x)++[.int .i64 y])->(wr.alloc (.cells #[.int .i64 y] 3)).grownBy w2 (Value.ownBlock (.slice ae le.length ce))->(Value.ownBlock (.slice ae le.length ce)=some g∨g=(wr.alloc (.cells #[.int .i64 y] 3)).heap.size)->
     ∃c',Gt (w2.setCell ⟨p,9,none⟩ (.slice (some ⟨g,0,none⟩) (le.length+1) cap)) H p c' kinds acts pushed starts (ends++(rl.take (j+1)).map (yP rules)) next∧Turn H p w c (w2.setCell ⟨p,9,none⟩ (.slice (some ⟨g,0,none⟩) (le.length+1) cap)) c':=by
    intro w2 g cap y hy ho hg ha;have h:=Gt.ends_app HA.out.2.1 (w2:=w2) (g:=g) (cap:=cap) (x:=y) (OwnI.snoc ho) (fun k h1 h2=>(hg.block k (by simp;omega) (by rw[<-HEF.out];exact h2)).trans (Below.heap_alloc _ _ _ h1)) (Nat.le_trans (by simp) hg.size) ⟨hg.os,hg.output⟩ (by
     rw[HEF.out];rcases ha with ha|ha
     ·exact .inl ha
     ·right;rw[ha];simp)
    rw[HL.out,<-hy];exact⟨_,h.1,HA.out.2.2.trans h.2⟩
   have FN:=vl fin;by_cases hx:x=-1
   ·have hx1:(x != -1)=false:=by simp[hx]
    have HX:Hid (x=yP rules x):=by show _=_;rw[yP,if_pos hx]
    clear hx;go_wp2_with (first|(at_builtin;refine wpList_append_lies _ rfl _ _ 45 rfl (H) 3 i0 (.int .i64 0) 1 8 underlying45 hi0 hz0 hz1 hz2 rfl (by decide) _ _ _ rfl (OR.out.alloc _) ⟨wr.heap.size,0,none⟩ 1 1 [.int .i64 x] rfl rfl (cell_one_new _ _ _) (by intro u hu;simp at hu;subst hu;rfl) (by decide) (by unfold maxLen;omega) (by omega) (by simp;omega) _ rfl ?_;intro gg cap w2 hown hgrow hat hlt2;have hPB:=hgrow.block p (by simp;omega) HNP.out;have y9':=(cell?_of_block hPB).trans ((cell?_alloc_past _ _ _ lpr).trans y9);have z9':=(frozen?_of_block hPB).trans ((frozen?_alloc_past _ _ _ lpr).trans z9);have HF:=FN.out w2 gg cap x HX.out hown hgrow hat))
    have HF2:Hid _:=HF;go_wp2;go_roundg (rl.length-(j+1))
    case measure=>rw[HA.out.1];omega
    case rel=>exact HF2.out.elim fun c' h=>⟨j+1,c',rfl,by omega,by go_num,h⟩
   ·have hx1:(x != -1)=true:=by simpa using hx
    have HX:Hid (x+rules=yP rules x):=by show _=_;rw[yP,if_neg hx]
    clear hx;go_wp2_with (first|(at_builtin;refine wpList_append_lies _ rfl _ _ 45 rfl (H) 3 i0 (.int .i64 0) 1 8 underlying45 hi0 hz0 hz1 hz2 rfl (by decide) _ _ _ rfl (OR.out.alloc _) ⟨wr.heap.size,0,none⟩ 1 1 [.int .i64 (x+(rules:Int))] rfl rfl (cell_one_new _ _ _) (by intro u hu;simp at hu;subst hu;rfl) (by decide) (by unfold maxLen;omega) (by omega) (by simp;omega) _ rfl ?_;intro gg cap w2 hown hgrow hat hlt2;have hPB:=hgrow.block p (by simp;omega) HNP.out;have y9':w2.cell? ⟨p,9,none⟩=some (.slice ae le.length ce):=(cell?_of_block hPB).trans ((cell?_alloc_past _ _ _ lpr).trans y9);have z9':w2.frozen? ⟨p,9,none⟩=false:=(frozen?_of_block hPB).trans ((frozen?_alloc_past _ _ _ lpr).trans z9);have HF:=FN.out w2 gg cap (x+(rules:Int)) HX.out hown hgrow hat))
    have HF2:Hid _:=HF;clear HF hown hgrow hat hPB y9' z9';go_wp2_with fail;go_roundg (rl.length-(j+1))
    case measure=>rw[HA.out.1];omega
    case rel=>exact HF2.out.elim fun c' h=>⟨j+1,c',rfl,by omega,by go_num,h⟩
  ·have i1:(rl.length:Int)<=(j:Int):=by omega
   have HZ:Hid (Gt wr H p cj kinds acts pushed starts (ends++rl.map (yP rules)) next):=by
    have h:=hGj;rw[List.take_of_length_le (by omega)] at h;exact h
   clear hgk hGj hTj;go_wp2_with fail;go_end0;exact⟨rfl,cj,HZ.out,HG.out.2.trans HA.out.2.2⟩
end
section
attribute [local go_sem ↓] Go.wp_at_zero Go.wp_at_succ
theorem zNn (w0 w:World)(H p bx:Nat)(c0 c:Tc)(kinds acts pushed starts ends:List Int)(next:List (List Int))(hG:Gt w H p c kinds acts pushed starts ends next)(nv rv st:Value)(S:Nat->Prop)(rl:List Int)(nx:List (List Int))(hbx:w.heap[bx]? =some (.cells #[nv,rv,st] 127))(hbr:H<=bx∧Rest w p c bx)(hN:IntRows w S nv nx)(hR:Ints w S rv rl)(hS:∀k,S k->k<H∧k≠p)(hT:Turn H p w0 c0 w c)
  (rules first:Nat) (hr8:rules<=8) (hel:ends.length+rl.length<=200) (hrb:∀i,i<rl.length->-1<=rl.getD i 0∧rl.getD i 0<=8)
  (hf:first<=200) (hnl:next.length+nx.length<=200) (hk:kinds.length=256) (hw:∀i,i<nx.length->(nx.getD i []).length=256∧∀b,b<256->0<=(nx.getD i []).getD b 0∧(nx.getD i []).getD b 0<=200)
  {u1 u3 u5 u7 u8 u9 u10 u11 u12 u13 u14 u15 u16 u17 u18 u19 u20 u21 u22 u23 u24 u25 u26 u27 u28 u29 u30 u31 u32 u33 u34 u35 u36 u37 u38 u39 u40 u41 u42 u43 u44 u45 u46 u47 u48 u49 u50 u51 u52 u53 u54 u55 u56 u57 u58 u59 u60 u61 u62 u63 u64 u65 u66 u67 u68 u69 u70 u71 u72:Value}:
  Code.wp prog (yQ 3 ((f64.body).getD .skip)) (bodyPost prog f64 fun e w'=>e=.returned (.tuple #[])∧∃c',Gt w' H p c' kinds acts pushed starts (ends++rl.map (yP rules)) (next++nx.map fun row=>zT kinds row first 256)∧Turn H p w0 c0 w' c')
   ⟨(.pointer (some ⟨p,0,none⟩)::u1:: .int .i64 rules::u3:: .pointer (some ⟨bx,0,none⟩)::u5:: .int .i64 first::u7::u8::u9::u10::u11::u12::u13::u14::u15::u16::u17::u18::u19::u20::u21::u22::u23::u24::u25::u26::u27::u28::u29::u30::u31::u32::u33::u34::u35::u36::u37::u38::u39::u40::u41::u42::u43::u44::u45::u46::u47::u48::u49::u50::u51::u52::u53::u54::u55::u56::u57::u58::u59::u60::u61::u62::u63::u64::u65::u66::u67::u68::u69::u70::u71::u72::[]).toArray,[]⟩ w:=by
 conv=>arg 2;whnf
 refine wp_seq_k ?_;intro K hK0;have HK:Hid (∀a w,_->K a w):=hK0;clear hK0;obtain⟨i0,hi0,hz0,hz1,hz2⟩:=info_parts zE9;obtain⟨an,cn,rfl,hcn,hmn,hNc⟩:=hN;have HN:Hid (∀i,i<nx.length->∃b o u,an=some ⟨b,o,none⟩∧S b∧w.cell? ⟨b,o+i,none⟩=some u∧Ints w S u (nx.getD i [])):=hNc;have HG:Hid (Gt w H p c kinds acts pushed starts ends next∧Turn H p w0 c0 w c∧Ints w S rv rl∧w.heap[bx]? =some (.cells #[.slice an nx.length cn,rv,st] 127)∧Rest w p c bx):=⟨hG,hT,hR,hbx,hbr.2⟩
 have HW:Hid (∀i,i<nx.length->(nx.getD i []).length=256∧∀b,b<256->0<=(nx.getD i []).getD b 0∧(nx.getD i []).getD b 0<=200):=hw;have HRB:Hid (∀i,i<rl.length->-1<=rl.getD i 0∧rl.getD i 0<=8):=hrb;have HKL:Hid (kinds.length=256):=hk;have yb:w.cell? ⟨bx,0,none⟩=some (.slice an nx.length cn):=by simp[World.cell?,hbx]
 have hHH:=hG.HH;have hbH:=hbr.1;clear hNc hG hbx hT hrb hR hbr hk hw;go_wp2_with fail;clear yb;go_loopg [32] nx.length (fun q i wr=>∃(j:Nat) (cj:Tc),q=nx.length-j∧j<=nx.length∧i=.int .i64 (j:Int)∧Gt wr H p cj kinds acts pushed starts ends (next++(nx.take j).map fun row=>zT kinds row first 256)∧Turn H p w c wr cj)
 case atStart=>exact⟨0,c,rfl,Nat.zero_le _,rfl,by rw[List.take_zero,List.map_nil,List.append_nil];exact HG.out.1,Turn.refl _ _ _ _⟩
 case round=>
  obtain⟨j,cj,hgk,hj,rfl,hGj,hTj⟩:=hrel;have HA:Hid (gk=nx.length-j∧Gt wr H p cj kinds acts pushed starts ends (next++(nx.take j).map fun row=>zT kinds row first 256)∧Turn H p w c wr cj):=⟨hgk,hGj,hTj⟩
  by_cases hj2:j<nx.length
  ·have i1:(j:Int)<(nx.length:Int):=by omega
   obtain⟨br,orr,u,rfl,hSr,hcell,hrow⟩:=HN.out j hj2;obtain⟨s1,s2⟩:=hS br hSr;obtain⟨aro,crw,e0,_⟩:=hrow;have hrw:=HW.out j hj2;have yr:wr.cell? ⟨br,orr+j,none⟩=some u:=(cell?_of_block (hTj.keep.block br s1 s2)).trans hcell;rw[e0] at yr;have hrow2:Ints wr S u (nx.getD j []):=(HN.out j hj2).elim fun b h=>h.elim fun o h=>h.elim fun u' h=>by
    obtain⟨ha,hb,hc,hd⟩:=h;injection ha with ha;injection ha with e1 e2;subst e1 e2;rw[hc] at hcell;injection hcell with hcell;subst hcell;exact hd.keep fun k hk=>hTj.keep.block k (hS k hk).1 (hS k hk).2
   obtain⟨rw0,hn1,hn2⟩:=hGj.next
   obtain⟨ae,ce,hef⟩:=zE hn1;have y8:wr.cell? ⟨p,8,none⟩=some (.slice ae (next++(nx.take j).map fun row=>zT kinds row first 256).length ce):=by rw[<-hef];exact hGj.tp.get_next
   have z8:=hGj.tp.fz 8;have y6:=hGj.tp.get_kinds;have lp:p<wr.heap.size:=hGj.tp.lt;have HNP:Hid (some p≠Value.ownBlock cj.next):=vK hGj.tp hn1 (by decide);have hszr:H<=wr.heap.size:=hGj.HH;have HL:Hid ((next++(nx.take (j+1)).map fun row=>zT kinds row first 256)=(next++(nx.take j).map fun row=>zT kinds row first 256)++[zT kinds (nx.getD j []) first 256]):=by
    show _=_;rw[List.take_succ_eq_append_getElem hj2,List.map_append,List.append_assoc,List.getD_eq_getElem?_getD,List.getElem?_eq_getElem hj2];rfl
   have hlen:(next++(nx.take j).map fun row=>zT kinds row first 256).length<=200:=by
    rw[List.length_append,List.length_map,List.length_take];omega
   have HC:Hid (∀wz,wz.Alike wr->Calls prog 99 #[.pointer (some ⟨p,0,none⟩),u,.int .i64 first] wz fun e w'=>∃u,e=.returned u∧OwnI w' wz.heap.size u (zT kinds (nx.getD j []) first 256)∧Grew wz w'):=by
    intro wz hz;have hkz:∀k:Nat,wz.heap[k]? =wr.heap[k]? :=fun k=>by rw[hz.1]
    exact zG0 wz (fun k=>k<wz.heap.size) p cj.kinds u kinds (nx.getD j []) first ((cell?_of_block (hkz p)).trans y6) (by rw[hz.1];exact lp) (fun k h=>h) ((hGj.kinds.ints.keep fun k _=>hkz k).mono fun k hk=>by rw[hz.1];exact hk.1) ((hrow2.keep fun k _=>hkz k).mono fun k hk=>by rw[hz.1];exact Nat.lt_of_lt_of_le (hS k hk).1 hszr) HKL.out hrw.1 hf hrw.2
   rw[e0] at HC;have OR:Hid (wr.ownsRow H 45 1 (.slice ae (next++(nx.take j).map fun row=>zT kinds row first 256).length ce) (next++(nx.take j).map fun row=>zT kinds row first 256).length ((List.range (next++(nx.take j).map fun row=>zT kinds row first 256).length).map rw0)):=by have:=hn1;rw[hef] at this;exact this
   have HEF:Hid (cj.next=.slice ae (next++(nx.take j).map fun row=>zT kinds row first 256).length ce):=hef;have HN2:Hid (∀i,i<(next++(nx.take j).map fun row=>zT kinds row first 256).length->Fin wr (Rest wr p cj) H (rw0 i) ((next++(nx.take j).map fun row=>zT kinds row first 256).getD i [])):=hn2;clear hgk hGj hTj hef hcell hn1 hn2 hrow2 e0 y6 hrw;generalize hle:(next++(nx.take j).map fun row=>zT kinds row first 256)=le at *;clear hle;generalize nx.getD j []=row at *;generalize zT kinds row first 256=bk at *
   go_wp2_with fail;go_region_law ((first
    |(refine step_append_lies _ (by rfl) (.tmp 40) (.tmp 45) 88 (by rfl) H 45 i0 _ 1 24 underlying88 hi0 hz0 hz1 hz2 rfl (by decide) (.slice ae le.length ce) le.length ((List.range le.length).map rw0) (by simp[Act.eval,Act.put]) (OW.alloc _) ⟨w1.heap.size,0,none⟩ 1 1 [.slice a1 bk.length c1] (by simp[Act.eval,Act.put]) (by rfl) (news_of_block (cs:=#[.slice a1 bk.length c1]) (t:=45) (fr:=(0,0)) (heap_alloc_new w1 _)) (by simp[Value.oneCell']) (by decide) (by unfold maxLen;omega) (by omega) (by simp;omega) (w1.heap.size+1) (by simp) ?_;intro gg cap w2 hown hgrow hat hlt;have hPB:=hgrow.block p (by simp;omega) (by rw[<-HEF.out];exact HNP.out);have y8b:w2.cell? ⟨p,8,none⟩=some (.slice ae le.length ce):=(cell?_of_block hPB).trans ((cell?_alloc_past _ _ _ lp1).trans y8a);have z8b:w2.frozen? ⟨p,8,none⟩=false:=(frozen?_of_block hPB).trans ((frozen?_alloc_past _ _ _ lp1).trans z8a))
    |(go_simp;go_at_call 99;refine(HC.out _ ?_).mono ?_;exact⟨rfl,rfl,rfl⟩;rintro e w1 ⟨ux,rfl,ho1,hk1⟩;obtain⟨a1,c1,hv1⟩:=ho1.form;subst hv1;have y8a:w1.cell? ⟨p,8,none⟩=some (.slice ae le.length ce):=(cell?_of_block (hk1.block p lp (by exact Nat.ne_of_lt lp))).trans y8;have z8a:w1.frozen? ⟨p,8,none⟩=false:=(frozen?_of_block (hk1.block p lp (by exact Nat.ne_of_lt lp))).trans z8;have hsz1:H<=w1.heap.size:=Nat.le_trans hszr hk1.size;have lp1:p<w1.heap.size:=Nat.lt_of_lt_of_le lp hk1.size;have OW:=zJ (w:=wr) (w':=w1) OR.out ⟨hk1.os,hk1.output,hk1.size,hk1.block⟩)))
   all_goals
    have hk1':Grew wr w1:=⟨hk1.os,hk1.output,hk1.size,hk1.block⟩
    have HF:Hid (∃c',Gt (w2.setCell ⟨p,8,none⟩ (.slice (some ⟨gg,0,none⟩) (le.length+1) cap)) H p c' kinds acts pushed starts ends (next++(nx.take (j+1)).map fun row=>zT kinds row first 256)∧Turn H p w c (w2.setCell ⟨p,8,none⟩ (.slice (some ⟨gg,0,none⟩) (le.length+1) cap)) c'):=by
     have hT1:Turn H p wr cj w1 cj:=Turn.grown hk1' hszr;have hnb:∀k,cj.next.ownBlock=some k->k<wr.heap.size:=fun k hk=>(OR.out.lt k (by rw[<-HEF.out];exact hk)).2
     have hfu:Fin w1 (Rest w1 p cj) H (.slice a1 bk.length c1) bk:=by
      refine⟨qW ho1 hszr,fun g hg=>?_⟩;have hl:=ho1.lt g hg;have hl1:wr.heap.size<=g:=hl.1;refine⟨hl.2,fun e=>by omega,fun e=>?_,fun e=>?_,fun e=>?_⟩
      ·have:=(HA.out.2.1.starts.lt g e.symm).2;omega
      ·have:=hnb g e.symm;omega
      ·have:=(HA.out.2.1.ends.lt g e.symm).2;omega
     have h:=Gt.next_app (HA.out.2.1.grown hk1') rw0 (fun i hi=>(HN2.out i hi).keep hT1.rest) hfu (w2:=w2) (g:=gg) (cap:=cap) hown (fun k h1 h2=>(hgrow.block k (by simp;omega) (by rw[<-HEF.out];exact h2)).trans (Below.heap_alloc _ _ _ h1)) (Nat.le_trans (by simp) hgrow.size) ⟨hgrow.os,hgrow.output⟩ (by
      rw[HEF.out];rcases hat with ha|ha
      ·exact .inl ha
      ·right;rw[ha];omega)
     rw[HL.out];exact⟨_,h.1,(HA.out.2.2.trans hT1).trans h.2⟩
    clear hown hgrow hat hPB y8a z8a y8b z8b hk1 hk1' OW ho1;go_wp2_with fail;go_roundg (nx.length-(j+1))
    case measure=>rw[HA.out.1];omega
    case rel=>exact HF.out.elim fun c' h=>⟨j+1,c',rfl,by omega,by go_num,h⟩
  ·have i1:(nx.length:Int)<=(j:Int):=by omega
   have HZ:Hid (Gt wr H p cj kinds acts pushed starts ends (next++nx.map fun row=>zT kinds row first 256)∧wr.heap[bx]? =some (.cells #[.slice an nx.length cn,rv,st] 127)∧Ints wr S rv rl∧Turn H p w0 c0 wr cj):=by
    have h:=hGj;rw[List.take_of_length_le (by omega)] at h;exact⟨h,((hTj.rest bx hbH HG.out.2.2.2.2).1).trans HG.out.2.2.2.1,HG.out.2.2.1.keep fun k hk=>hTj.keep.block k (hS k hk).1 (hS k hk).2,HG.out.2.1.trans hTj⟩
   clear hgk hGj hTj;go_wp2_with fail;refine HK.out _ _ ?_;exact zNm w0 wr H p bx c0 cj kinds acts pushed starts ends _ HZ.out.1 _ rv st S rl HZ.out.2.1 HZ.out.2.2.1 hS HZ.out.2.2.2 rules hr8 hel HRB.out
end
section
attribute [local go_sem ↓] Go.wp_at_zero Go.wp_at_succ
theorem zAM (x:Int)(h1:-4611686018427387904<=x)(h2:x<=4611686018427387904):IntKind.i64.wrap x=x:=by
 simp[IntKind.wrap,IntKind.signed,IntKind.bits];omega
structure Sm.Fit (m:Sm):Prop where
 rows:∀i,i<m.next.length->(m.next.getD i []).length=256∧∀b,b<256->0<=(m.next.getD i []).getD b 0∧(m.next.getD i []).getD b 0<=200
 rules:∀i,i<m.rules.length->-1<=m.rules.getD i 0∧m.rules.getD i 0<=8
 start0:0<=m.start
 start:m.start<=200
theorem zFU (w:World)(H p:Nat)(c:Tc)(kinds acts pushed starts ends:List Int)(next:List (List Int))(hG:Gt w H p c kinds acts pushed starts ends next)(m:Sm)(nv rv:Value)(S:Nat->Prop)(hN:IntRows w S nv m.next)(hR:Ints w S rv m.rules)(hS:∀k,S k->k<H∧k≠p)
  (rules:Nat) (hm:m.Fit) (hr8:rules<=8) (hk:kinds.length=256) (hnl:next.length+m.next.length<=200) (hel:ends.length+m.rules.length<=200) (hsl:starts.length<=3):
  Calls prog 64 #[.pointer (some ⟨p,0,none⟩),.agg #[nv,rv,.int .i64 m.start],.int .i64 rules] w fun e w'=>e=.returned (.tuple #[])∧∃c',Gt w' H p c' kinds acts pushed (starts++[(next.length:Int)+m.start]) (ends++m.rules.map (yP rules)) (next++m.next.map fun row=>zT kinds row next.length 256)∧Turn H p w c w' c':=by
 obtain⟨i0,hi0,hz0,hz1,hz2⟩:=info_parts yH;have HG:Hid (Gt w H p c kinds acts pushed starts ends next∧IntRows w S nv m.next∧Ints w S rv m.rules):=⟨hG,hN,hR⟩
 obtain⟨an,cn,rfl,hcn,hmn,_⟩:=hN;obtain⟨ar,cr,rfl,hcr,hmr,_⟩:=hR;have lp:=hG.tp.lt;have hHH:=hG.HH;obtain⟨rw0,hn1,_⟩:=hG.next
 obtain⟨ann,cnn,hnf⟩:=zE hn1;obtain⟨as_,cs,hsf⟩:=hG.starts.form;have y8:w.cell? ⟨p,8,none⟩=some (.slice ann next.length cnn):=by rw[<-hnf];exact hG.tp.get_next
 have HSF:=vl hsf;have HKL:=vl hk;have hs0:=hm.start0;have hs1:=hm.start;have HM:Hid m.Fit:=hm;go_in;refine wp_cut ?_;intro K0 HK0;go_wp2;refine HK0.out _ _ ?_;refine wp_cut ?_;intro K1 HK1;obtain⟨w1,hw1,A1⟩:∃w1,w1=w.alloc (.cells #[.slice an m.next.length cn,.slice ar m.rules.length cr,.int .i64 m.start] 127)∧Hid (w1.heap[w.heap.size]? =some (.cells #[.slice an m.next.length cn,.slice ar m.rules.length cr,.int .i64 m.start] 127)∧Gt w1 H p c kinds acts pushed starts ends next∧Grew w w1):=⟨_,rfl,heap_alloc_new w _,HG.out.1.grown (Keep.alloc _ _ (Nat.le_refl _)),Keep.alloc _ _ (Nat.le_refl _)⟩
 have hs1z:w1.heap.size=w.heap.size+1:=by rw[hw1];simp
 have HSZ:=vl hs1z;have hszr:H<=w1.heap.size:=by omega
 have lp1:p<w1.heap.size:=by omega
 rw[<-hw1];have x8:=(cell?_of_block (A1.out.2.2.block p lp (by omega))).trans y8;clear y8 hw1 hs1z;go_wp2;refine HK1.out _ _ ?_;refine wp_cut ?_;intro K2 HK2;have y3:w1.cell? ⟨p,3,none⟩=some (.slice as_ starts.length cs):=by rw[<-HSF.out];exact A1.out.2.1.tp.get_starts
 have z3:=A1.out.2.1.tp.fz 3;have yb:w1.cell? ⟨w.heap.size,2,none⟩=some (.int .i64 m.start):=by simp[World.cell?,A1.out.1]
 have lb:w.heap.size<w1.heap.size:=by rw[HSZ.out];omega
 have OW:w1.ownsRow H 3 1 (.slice as_ starts.length cs) starts.length (starts.map fun x=>.int .i64 x):=by have:=A1.out.2.1.starts;rw[HSF.out] at this;exact this
 have hn200:next.length<=200:=by omega
 have HNP:=vl <| vK A1.out.2.1.tp OW (by decide);go_wp2;go_region_law ((refine step_append_lies _ (by rfl) (.tmp 20) (.tmp 25) 45 (by rfl) H 3 i0 _ 1 8 underlying45 hi0 hz0 hz1 hz2 rfl (by decide) (.slice as_ starts.length cs) starts.length (starts.map fun x=>.int .i64 x) (by simp[Act.eval,Act.put]) ((OW.alloc _).drew) ⟨w1.heap.size,0,none⟩ 1 1 [.int .i64 (IntKind.i64.wrap ((next.length:Int)+m.start))] (by simp[Act.eval,Act.put]) (by rfl) (news_of_block (cs:=#[.int .i64 (IntKind.i64.wrap ((next.length:Int)+m.start))]) (t:=3) (fr:=(0,0)) (heap_alloc_new w1 _)) (by simp[Value.oneCell']) (by decide) (by unfold maxLen;omega) (by omega) (by simp;omega) (w1.heap.size+1) (by simp) ?_;intro gg cap w2 hown hgrow hat hlt;have y3b:=(cell?_of_block (hgrow.block p (by simp;omega) HNP.out)).trans ((cell?_alloc_past _ _ _ lp1).trans y3);have z3b:=(frozen?_of_block (hgrow.block p (by simp;omega) HNP.out)).trans ((frozen?_alloc_past _ _ _ lp1).trans z3)))
 all_goals
  have HF:Hid (∃c',(Gt (w2.setCell ⟨p,3,none⟩ (.slice (some ⟨gg,0,none⟩) (starts.length+1) cap)) H p c' kinds acts pushed (starts++[(next.length:Int)+m.start]) ends next∧Turn H p w1 c (w2.setCell ⟨p,3,none⟩ (.slice (some ⟨gg,0,none⟩) (starts.length+1) cap)) c')):=by
   rw[zAM ((next.length:Int)+m.start) (by omega) (by omega)] at hown;have h:=Gt.starts_app A1.out.2.1 (w2:=w2) (g:=gg) (cap:=cap) (x:=(next.length:Int)+m.start) (OwnI.snoc hown) (fun k h1 h2=>(hgrow.block k (by simp;omega) (by rw[<-HSF.out];exact h2)).trans (Below.heap_alloc _ _ _ h1)) (Nat.le_trans (by simp) hgrow.size) ⟨hgrow.os,hgrow.output⟩ (by
    rw[HSF.out];rcases hat with ha|ha
    ·exact .inl ha
    ·right;rw[ha];omega)
   exact⟨_,h⟩
  clear hown hgrow hat y3b z3b y3 z3 yb OW;go_wp2_with fail;refine HK2.out _ _ ?_;obtain⟨c',hG2,hT2⟩:=HF.out;have hT0:Turn H p w c w1 c:=Turn.grown A1.out.2.2 hHH;have hTT:=hT0.trans hT2;have hrb:Rest w1 p c w.heap.size:=by
   refine⟨lb,fun e=>by omega,fun e=>?_,fun e=>?_,fun e=>?_⟩
   ·have:=(HG.out.1.starts.lt _ e.symm).2;omega
   ·obtain⟨_,hq,_⟩:=HG.out.1.next
    have:=(hq.lt _ e.symm).2;omega
   ·have:=(HG.out.1.ends.lt _ e.symm).2;omega
  exact zNn w _ H p w.heap.size c c' kinds acts pushed _ ends next hG2 _ _ _ S m.rules m.next (((hT2.rest _ hHH hrb).1).trans A1.out.1) ⟨hHH,(hT2.rest _ hHH hrb).2⟩ (HG.out.2.1.keep fun k hk=>hTT.keep.block k (hS k hk).1 (hS k hk).2) (HG.out.2.2.keep fun k hk=>hTT.keep.block k (hS k hk).1 (hS k hk).2) hS hTT rules next.length hr8 hel HM.out.rules (by omega) hnl HKL.out HM.out.rows
end
theorem zD2 (p:Nat)(w:World)(S:Nat->Prop)(t:Tb)(hT:TabAt w S p t)(ok:t.Ok)(a s:Nat)(ha:a<t.rows)(hs:s<t.nst):
  Calls prog 155 #[.pointer (some ⟨p,0,none⟩),.int .i64 a,.int .i64 s] w fun e w'=>e=.returned (.bool (t.longer a s))∧w'=w:=by
 obtain⟨_,h8,b,o,cap,hb,rfl,hcap,hml,hN⟩:=hT.c8;obtain⟨_,h12,b3,o3,cap3,hb3,rfl,hcap3,hml3,hL⟩:=hT.c12;have hm:a*t.nst+s<8*t.nlong:=by
  have h1:(a+1)*t.nst<=t.rows*t.nst:=Nat.mul_le_mul_right _ ha;have h2:=ok.long;rw[Nat.add_mul] at h1;omega
 have hx:w.cell? ⟨b3,o3+(a*t.nst+s)/8,none⟩=some (.int .u8 (t.long ((a*t.nst+s)/8):Nat)):=hL _ (by omega);have hxb:=ok.longB ((a*t.nst+s)/8) (by omega);have b1:=ok.rows;have b2:=ok.nst;have HF:Hid (t.longer a s=decide (t.long ((a*t.nst+s)/8)/2^((a*t.nst+s)%8)%2=1)):=rfl;have hp:a*t.nst<=600000:=Nat.le_trans (Nat.mul_le_mul (show a<=3000 by omega) b2) (by decide);generalize t.longer a s=res at *;generalize t.long ((a*t.nst+s)/8)=x at *;generalize t.nst=n at *;generalize t.nlong=nl at *;have p1:(a:Int)*(n:Int)<=600000:=by
  have e:(a:Int)*(n:Int)=((a*n:Nat):Int):=by simp
  rw[e];omega
 have p2:0<=(a:Int)*(n:Int):=by
  have e:(a:Int)*(n:Int)=((a*n:Nat):Int):=by simp
  rw[e];omega
 go_in;go_wp2;go_ret;exact⟨zJ8 (by rw[HF.out];exact zKi x _ hxb),rfl⟩
structure TabN (w:World)(S:Nat->Prop)(p:Nat)(t:Tb):Prop where
 safe:S p
 c7:w.cell? ⟨p,7,none⟩=some (.int .i64 t.count)
 c8:∃v,w.cell? ⟨p,8,none⟩=some v∧RowsAt w S v t.nst t.count fun i k=>t.next i k
 c9:∃v,w.cell? ⟨p,9,none⟩=some v∧IntsAt w S v t.nst fun i=>t.ends i
theorem TabN.keep {w w':World}{S:Nat->Prop}{p:Nat}{t:Tb}(h:TabN w S p t)(e:∀b,S b->w'.heap[b]? =w.heap[b]?):TabN w' S p t:=by
 have c:∀i,w'.cell? ⟨p,i,none⟩=w.cell? ⟨p,i,none⟩:=fun i=>cell?_of_block (e p h.safe);refine⟨h.safe,(c _).trans h.c7,?_,?_⟩
 ·obtain⟨v,a,b⟩:=h.c8;exact⟨v,(c _).trans a,b.keep e⟩
 ·obtain⟨v,a,b⟩:=h.c9;exact⟨v,(c _).trans a,b.keep e⟩
theorem zCK (p:Nat)(w:World)(S:Nat->Prop)(t:Tb)(hT:TabN w S p t):
  Calls prog 118 #[.pointer (some ⟨p,0,none⟩)] w fun e w'=>e=.returned (.int .i64 t.count)∧w'=w:=by
 have h:=hT.c7;generalize t.count=m at *;go_in;go_wp2;go_ret;exact⟨rfl,rfl⟩
def Tb.willEnd (t:Tb)(s d:Nat)(rest:Nat->Bool):Bool:=if d=t.count then false else(t.ends (t.next s d) != -1)||rest (t.next s d)
theorem zFx (p:Nat)(w:World)(S:Nat->Prop)(t:Tb)(hT:TabN w S p t)(ok:t.OkN)(s d:Nat)(hs:s<t.nst)(hd:d<=t.count)(b o cap:Nat)(rest:Nat->Bool)(hr:∀i,i<t.nst->w.cell? ⟨b,o+i,none⟩=some (.bool (rest i))):
  Calls prog 139 #[.pointer (some ⟨p,0,none⟩),.int .i64 s,.int .i64 d,.slice (some ⟨b,o,none⟩) t.nst cap] w fun e w'=>e=.returned (.bool (t.willEnd s d rest))∧w'=w:=by
 have HT:=vl hT;have HR:=vl hr;by_cases hdc:d=t.count
 ·have h1:((d:Int)==(t.count:Int))=true:=by simp[hdc]
  have HV:Hid (t.willEnd s d rest=false):=if_pos hdc;go_in;go_wp2_with fail;refine(zCK p w S t HT.out).mono ?_;rintro e w1 ⟨rfl,rfl⟩;go_wp2;go_ret;exact⟨qN HV.out.symm,rfl⟩
 ·have h1:((d:Int)==(t.count:Int))=false:=by rw[beq_eq_false_iff_ne];omega
  have hdl:d<t.count:=by omega
  have HV:Hid (t.willEnd s d rest=((t.ends (t.next s d) != -1)||rest (t.next s d))):=if_neg hdc;obtain⟨_,h8,b8,o8,cap8,hb8,rfl,hcap8,hml8,hN⟩:=hT.c8;obtain⟨u,hu,b2,o2,cap2,hb2,rfl,hcap2,hml2,hrow⟩:=hN s hs;obtain⟨_,h9,b9,o9,cap9,hb9,rfl,hcap9,hml9,hE⟩:=hT.c9;have hnx:=ok.next s d hs hdl
  have yn:w.cell? ⟨b2,o2+d,none⟩=some (.int .i64 (t.next s d:Nat)):=hrow d hdl;have ye:w.cell? ⟨b9,o9+t.next s d,none⟩=some (.int .i64 (t.ends (t.next s d))):=hE _ hnx;have yr:w.cell? ⟨b,o+t.next s d,none⟩=some (.bool (rest (t.next s d))):=hr _ hnx;clear hN hrow hE hT hr ok hdc;generalize t.next s d=to at *
  generalize t.ends to=x at *;generalize rest to=rb at *;generalize t.nst=n at *;have i1:(s:Int)<(n:Int):=by omega
  have i2:(d:Int)<(t.count:Int):=by omega
  have i3:(to:Int)<(n:Int):=by omega
  cases hx:(x != -1) with
  |true=>
   rw[hx] at HV;go_enter func139,ntmps139
   go_wp2_with fail;refine(zCK p w S t HT.out).mono ?_;rintro e w1 ⟨rfl,rfl⟩;go_wp2_with fail;go_ret;exact⟨qN HV.out.symm,rfl⟩
  |false=>
   rw[hx] at HV;go_enter func139,ntmps139
   go_wp2_with fail;refine(zCK p w S t HT.out).mono ?_;rintro e w1 ⟨rfl,rfl⟩;go_wp2_with fail;go_ret;exact⟨qN HV.out.symm,rfl⟩
end Go.Proofs.YtbjcfkdnjaiclaaGreat
