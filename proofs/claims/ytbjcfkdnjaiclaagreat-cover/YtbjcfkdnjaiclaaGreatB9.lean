import Derived.Test.YtbjcfkdnjaiclaaGreatB0
import Derived.Test.YtbjcfkdnjaiclaaGreatB8
/- Parts of the proof. -/
set_option linter.unusedVariables false
set_option linter.unusedSimpArgs false
set_option maxHeartbeats 4000000
set_option maxRecDepth 100000
namespace Go.Proofs.YtbjcfkdnjaiclaaGreat
open Go.RowKit Go.Proofs.Tryz Go.World
section
structure KeepX (X:Nat->Prop)(w w':World):Prop where
 os:w'.os=w.os
 output:w'.output=w.output
 size:w.heap.size<=w'.heap.size
 block:∀k,X k->w'.heap[k]? =w.heap[k]?
theorem KeepX.refl (X:Nat->Prop)(w:World):KeepX X w w:=⟨rfl,rfl,lQ,fun _ _=>rfl⟩
theorem KeepX.trans {X:Nat->Prop}{w w' w'':World}(h:KeepX X w w')(h':KeepX X w' w''):KeepX X w w'':=⟨h'.os.trans h.os,h'.output.trans h.output,lY h.size h'.size,fun k hk=>(h'.block k hk).trans (h.block k hk)⟩
theorem KeepX.mono {X Y:Nat->Prop}{w w':World}(h:KeepX X w w')(e:∀k,Y k->X k):KeepX Y w w':=⟨h.os,h.output,h.size,fun k hk=>h.block k (e k hk)⟩
theorem Keep.kx {X:Nat->Prop}{H b:Nat}{w w':World}(h:Keep H b w w')(e:∀k,X k->k<H∧k≠b):KeepX X w w':=⟨h.os,h.output,h.size,fun k hk=>h.block k (e k hk).1 (e k hk).2⟩
def ints (l:List Nat):List Int:=l.map fun(x:Nat)=>(x:Int)
theorem zM (l:List Nat):(ints l).length=l.length:=kV ..
theorem zA9 (l:List Nat)(x:Nat):ints (l++[x])=ints l++[(x:Int)]:=by simp[ints]
theorem vB (l:List Nat)(i:Nat):(ints l).getD i 0=(l.getD i 0:Nat):=by
 unfold ints;rw[lW,lW,gJ];cases l[i]? <;> rfl
structure Sq where
 rules:List Nat
 tails:List Nat
 sets:List Nat
 q:Nat
 f:Nat
 lv:Value
 tv:Value
 sv:Value
 tl:Value
 rv:Value
structure Sf where
 found:List Nat
 marks:List Nat
structure SoAt (w:World)(X:Nat->Prop)(p:Nat)(s:Sq)(d:Sf)(fv mv:Value):Prop where
 blk:w.heap[p]? =some (.cells #[.pointer (some ⟨s.q,0,none⟩),s.lv,s.tv,s.sv,.pointer (some ⟨s.f,0,none⟩),s.tl,fv,mv] 176)
 own1:OwnI w 0 fv (ints d.found)
 own2:OwnI w 0 mv (ints d.marks)
 ne:∀g,fv.ownBlock=some g->some g≠mv.ownBlock
 xf:∀g,X g->some g≠fv.ownBlock
 xm:∀g,X g->some g≠mv.ownBlock
 xp:¬X p
 xl:∀g,X g->g<w.heap.size
 lp:p<w.heap.size
 net:w.cell? ⟨s.q,4,none⟩=some s.rv
 xq:X s.q
 rls:Ints w X s.rv (ints s.rules)
 eight:s.rules.length<=8
 rsm:∀r∈s.rules,r<16777216
 tls:I32s w X s.tl s.tails
 tsm:∀t∈s.tails,t<16777216
 tlen:s.tails.length<=16777216
 sts:Ints w X s.sv (ints s.sets)
 ssm:∀t∈s.sets,t<16777216
 fsm:∀t∈d.found,t<16777216
 msm:∀t∈d.marks,t<16777216
def zNx (w:World)(X:Nat->Prop)(p:Nat)(s:Sq)(d:Sf):Prop:=∃fv mv,SoAt w X p s d fv mv
section
variable {w w2:World} {X:Nat->Prop} {p:Nat} {s:Sq} {d:Sf} {fv mv:Value}
theorem SoAt.grown (h:SoAt w X p s d fv mv)(hk:Grew w w2):SoAt w2 X p s d fv mv:=by
 have e:∀b,X b->w2.heap[b]? =w.heap[b]? :=fun b hb=>hk.block b (h.xl b hb) (kJ (h.xl b hb));exact⟨(hk.block _ h.lp (kJ h.lp)).trans h.blk,zJ h.own1 hk,zJ h.own2 hk,h.ne,h.xf,h.xm,h.xp,fun g hg=>lZ (h.xl g hg) hk.size,lZ h.lp hk.size,(cell?_of_block (e _ h.xq)).trans h.net,h.xq,h.rls.keep e,h.eight,h.rsm,h.tls.keep e,h.tsm,h.tlen,h.sts.keep e,h.ssm,h.fsm,h.msm⟩
theorem SoAt.cells (h:SoAt w X p s d fv mv):w.cell? ⟨p,0,none⟩=some (.pointer (some ⟨s.q,0,none⟩))∧w.cell? ⟨p,3,none⟩=some s.sv∧w.cell? ⟨p,4,none⟩=some (.pointer (some ⟨s.f,0,none⟩))∧w.cell? ⟨p,5,none⟩=some s.tl∧w.cell? ⟨p,6,none⟩=some fv∧w.cell? ⟨p,7,none⟩=some mv∧∀i,w.frozen? ⟨p,i,none⟩=false:=by
 refine⟨?_,?_,?_,?_,?_,?_,fun i=>?_⟩
 all_goals first|(unfold cell?;rw[h.blk];rfl)|(unfold frozen?;rw[h.blk];simp)
theorem SoAt.so (h:SoAt w X p s d fv mv):So w p s.q s.rv s.rules:=⟨h.cells.1,h.net,h.rls.mono h.xl,h.eight,h.rsm,h.lp,h.xl _ h.xq⟩
theorem SoAt.fewer {Y:Nat->Prop}(h:SoAt w X p s d fv mv)(hp:¬Y p)(hl:∀g,Y g->g<w.heap.size)(hf:∀g,Y g->some g≠fv.ownBlock)(hm:∀g,Y g->some g≠mv.ownBlock)(e:∀g,X g->Y g):SoAt w Y p s d fv mv:=
 ⟨h.blk,h.own1,h.own2,h.ne,hf,hm,hp,hl,h.lp,h.net,e _ h.xq,h.rls.mono e,h.eight,h.rsm,h.tls.mono e,h.tsm,h.tlen,h.sts.mono e,h.ssm,h.fsm,h.msm⟩
theorem zCd {w:World}{b i e':Nat}{v x:Value}{l:List Int}{c:Array Value}(h:OwnI w 0 v l)(hb:w.heap[b]? =some (.cells c e'))(he:3≠e'):OwnI (w.setCell ⟨b,i,none⟩ x) 0 v l:=
 zD h fun k _ _ hk=>lJ _ _ _ _ fun e=>zL h hb he (by rw[hk];exact congrArg some (Eq.symm e))
theorem SoAt.found_app {o:Obj}{g cap n x:Nat}(h:SoAt w X p s d fv mv)(hx:x<16777216)(hn:n=d.found.length)(hown:w2.ownsRow 0 3 1 (.slice (some ⟨g,0,none⟩) (n+1) cap) (n+1) (((ints d.found).map fun x=>.int .i64 x)++[.int .i64 (x:Int)]))(hg:(w.alloc o).grownBy w2 fv.ownBlock)(hat:fv.ownBlock=some g∨w.heap.size<=g):
  SoAt (w2.setCell ⟨p,6,none⟩ (.slice (some ⟨g,0,none⟩) (n+1) cap)) X p s {d with found:=d.found++[x]} (.slice (some ⟨g,0,none⟩) (n+1) cap) mv∧KeepX X w (w2.setCell ⟨p,6,none⟩ (.slice (some ⟨g,0,none⟩) (n+1) cap)):=by
 subst hn;have hlp:=h.lp;have hpf:=zL h.own1 h.blk (by decide);have hbl:∀j,j<w.heap.size->some j≠fv.ownBlock->w2.heap[j]? =w.heap[j]? :=fun j hj hf=>(hg.block j (by simp;omega) hf).trans (lG _ _ _ (by omega));have hb:=(hbl p hlp hpf).trans h.blk;have hsz:w.heap.size<=w2.heap.size:=lY (by simp) hg.size;have hxp:∀k,X k->k≠p:=fun k hk e=>h.xp (e ▸ hk);have e:∀k,X k->(w2.setCell ⟨p,6,none⟩ (.slice (some ⟨g,0,none⟩) (d.found.length+1) cap)).heap[k]? =w.heap[k]? :=fun k hk=>(lJ _ _ _ _ (hxp k hk)).trans (hbl k (h.xl k hk) (h.xf k hk));have hO1:OwnI w2 0 (.slice (some ⟨g,0,none⟩) (d.found.length+1) cap) (ints (d.found++[x])):=by
  rw[zA9];have:=zM d.found;have h2:=OwnI.snoc (l:=ints d.found) (x:=(x:Int)) (by rw[this];exact hown);rw[this] at h2;exact h2
 have hO2:=zP hg h.own2 (fun g hg e=>h.ne g e.symm hg.symm);refine⟨⟨?_,zCd hO1 hb (by decide),zCd hO2 hb (by decide),yV h.own2 h.ne hat,?_,h.xm,h.xp,fun k hk=>by rw[zC];exact lZ (h.xl k hk) hsz,by rw[zC];omega,(cell?_of_block (e _ h.xq)).trans h.net,h.xq,h.rls.keep e,h.eight,h.rsm,h.tls.keep e,h.tsm,h.tlen,h.sts.keep e,h.ssm,?_,h.msm⟩,⟨hg.os,hg.output,by rw[zC];exact hsz,e⟩⟩
 ·simp[setCell,lU,hb]
 ·intro k hk e
  have e1:k=g:=by simpa[Value.ownBlock] using e
  subst e1;rcases hat with ha|ha
  ·exact h.xf k hk ha.symm
  ·have:=h.xl k hk
   omega
 ·intro t ht
  rcases kU.1 ht with h1|h1
  ·exact h.fsm t h1
  ·rw[kY.1 h1];exact hx
theorem SoAt.marks_app {o:Obj}{g cap n x:Nat}(h:SoAt w X p s d fv mv)(hx:x<16777216)(hn:n=d.marks.length)(hown:w2.ownsRow 0 3 1 (.slice (some ⟨g,0,none⟩) (n+1) cap) (n+1) (((ints d.marks).map fun x=>.int .i64 x)++[.int .i64 (x:Int)]))(hg:(w.alloc o).grownBy w2 mv.ownBlock)(hat:mv.ownBlock=some g∨w.heap.size<=g):
  SoAt (w2.setCell ⟨p,7,none⟩ (.slice (some ⟨g,0,none⟩) (n+1) cap)) X p s {d with marks:=d.marks++[x]} fv (.slice (some ⟨g,0,none⟩) (n+1) cap)∧KeepX X w (w2.setCell ⟨p,7,none⟩ (.slice (some ⟨g,0,none⟩) (n+1) cap)):=by
 subst hn;have hlp:=h.lp;have hpf:=zL h.own2 h.blk (by decide);have hbl:∀j,j<w.heap.size->some j≠mv.ownBlock->w2.heap[j]? =w.heap[j]? :=fun j hj hf=>(hg.block j (by simp;omega) hf).trans (lG _ _ _ (by omega));have hb:=(hbl p hlp hpf).trans h.blk;have hsz:w.heap.size<=w2.heap.size:=lY (by simp) hg.size;have hxp:∀k,X k->k≠p:=fun k hk e=>h.xp (e ▸ hk);have e:∀k,X k->(w2.setCell ⟨p,7,none⟩ (.slice (some ⟨g,0,none⟩) (d.marks.length+1) cap)).heap[k]? =w.heap[k]? :=fun k hk=>(lJ _ _ _ _ (hxp k hk)).trans (hbl k (h.xl k hk) (h.xm k hk));have hO1:OwnI w2 0 (.slice (some ⟨g,0,none⟩) (d.marks.length+1) cap) (ints (d.marks++[x])):=by
  rw[zA9];have:=zM d.marks;have h2:=OwnI.snoc (l:=ints d.marks) (x:=(x:Int)) (by rw[this];exact hown);rw[this] at h2;exact h2
 have hO2:=zP hg h.own1 h.ne;refine⟨⟨?_,zCd hO2 hb (by decide),zCd hO1 hb (by decide),zCj (yV h.own1 (fun g hg e=>h.ne g e.symm hg.symm) hat),h.xf,?_,h.xp,fun k hk=>by rw[zC];exact lZ (h.xl k hk) hsz,by rw[zC];omega,(cell?_of_block (e _ h.xq)).trans h.net,h.xq,h.rls.keep e,h.eight,h.rsm,h.tls.keep e,h.tsm,h.tlen,h.sts.keep e,h.ssm,h.fsm,?_⟩,⟨hg.os,hg.output,by rw[zC];exact hsz,e⟩⟩
 ·simp[setCell,lU,hb]
 ·intro k hk e
  have e1:k=g:=by simpa[Value.ownBlock] using e
  subst e1;rcases hat with ha|ha
  ·exact h.xm k hk ha.symm
  ·have:=h.xl k hk
   omega
 ·intro t ht
  rcases kU.1 ht with h1|h1
  ·exact h.msm t h1
  ·rw[kY.1 h1];exact hx
end
end
section
def Sq.look (s:Sq)(d:Sf)(x:Nat):Nat:=zAt s.rules d.marks d.found x
def Sq.tail (s:Sq)(d:Sf)(x:Nat):Int:=zAz s.rules s.tails x (d.found.getD (s.look d x) 0)
def Sq.kind (s:Sq)(d:Sf)(x:Nat):Nat:=if s.look d x<d.found.length then(if s.tail d x<0 then s.look d x else d.found.length) else d.found.length
def Sq.kindS (s:Sq)(d:Sf)(x:Nat):Sf:=if s.look d x<d.found.length then(if s.tail d x<0 then d else⟨d.found++[x],d.marks++[(s.tail d x).toNat]⟩) else⟨d.found++[x],d.marks⟩
theorem Sq.look_le (s:Sq)(d:Sf)(x:Nat):s.look d x<=d.found.length:=zHs _ _ _ _
section
variable {w:World} {X:Nat->Prop} {p:Nat} {s:Sq} {d:Sf} {fv mv:Value}
theorem SoAt.unmarked (h:SoAt w X p s d fv mv)(hl:d.marks.length<=1000000000000)(hl2:d.found.length<=1000000000000)(x:Nat)(hx:x<16777216):
  Calls prog 130 #[.pointer (some ⟨p,0,none⟩),.int .i64 x] w fun e w'=>e=.returned (.int .i64 (s.look d x))∧Grew w w':=
 zEJ w p s.q s.rv mv fv s.rules d.marks d.found h.so h.cells.2.2.2.2.2.1 (zAF h.own2) hl h.msm h.cells.2.2.2.2.1 (zAF h.own1) hl2 h.fsm x hx
theorem SoAt.between (h:SoAt w X p s d fv mv)(a b:Nat)(ha:a<16777216)(hb:b<16777216):
  Calls prog 131 #[.pointer (some ⟨p,0,none⟩),.int .i64 a,.int .i64 b] w fun e w'=>e=.returned (.int .i64 (zAz s.rules s.tails a b))∧Grew w w':=
 zC1 w p s.q s.rv s.tl s.rules s.tails h.so h.cells.2.2.2.1 (h.tls.mono h.xl) (lY h.tlen (by omega)) h.tsm a b ha hb
end
theorem zG1 (w:World)(X:Nat->Prop)(p:Nat)(s:Sq)(d:Sf)(h:zNx w X p s d)(hl:d.marks.length<=100000000000)(hl2:d.found.length<=100000000000)(x:Nat)(hx:x<16777216):
  Calls prog 94 #[.pointer (some ⟨p,0,none⟩),.int .i64 x] w fun e w'=>e=.returned (.int .i64 (s.kind d x))∧zNx w' X p s (s.kindS d x)∧KeepX X w w':=by
 obtain⟨i0,hi0,hz0,hz1,hz2⟩:=info_parts yH;obtain⟨fv,mv,h⟩:=h;have HU:=vl <| h.unmarked (by omega) (by omega) x hx;obtain⟨af,cf,hfv⟩:=h.own1.form;rw[zM] at hfv;obtain⟨am,cm,hmv⟩:=h.own2.form;rw[zM] at hmv;subst hfv hmv;have HG:Hid (∀w2,Grew w w2->SoAt w2 X p s d (.slice af d.found.length cf) (.slice am d.marks.length cm)):=fun w2 hk=>h.grown hk;have HX:Hid (∀w2,Grew w w2->KeepX X w w2):=fun w2 hk=>hk.kx fun k hk2=>⟨h.xl k hk2,kJ (h.xl k hk2)⟩
 have HOf:Hid (∀w2,SoAt w2 X p s d (.slice af d.found.length cf) (.slice am d.marks.length cm)->w2.ownsRow 0 3 1 (.slice af d.found.length cf) d.found.length ((ints d.found).map fun x=>.int .i64 x)):=fun w2 h2=>by
  have:=h2.own1;unfold OwnI at this;rw[zM] at this;exact this
 have HOm:Hid (∀w2,SoAt w2 X p s d (.slice af d.found.length cf) (.slice am d.marks.length cm)->w2.ownsRow 0 3 1 (.slice am d.marks.length cm) d.marks.length ((ints d.marks).map fun x=>.int .i64 x)):=fun w2 h2=>by
  have:=h2.own2;unfold OwnI at this;rw[zM] at this;exact this
 have hle:=s.look_le d x;by_cases hk:s.look d x<d.found.length
 ·have hk2:((s.look d x:Nat):Int)<(d.found.length:Int):=by omega
  have hfl:d.found.getD (s.look d x) 0<16777216:=h.fsm _ (zR _ _ 0 hk);obtain⟨gf,rfl⟩:=h.own1.some (by rw[zM];omega);have HC:Hid (∀w2,Grew w w2->w2.cell? ⟨gf,s.look d x,none⟩=some (.int .i64 ((d.found.getD (s.look d x) 0:Nat):Int))):=fun w2 hk2=>by
   have:=(HG.out w2 hk2).own1.cell (s.look d x) (by rw[zM];exact hk);rw[vB] at this;exact this
  have HT:Hid (∀w2,Grew w w2->Calls prog 131 #[.pointer (some ⟨p,0,none⟩),.int .i64 (x:Int),.int .i64 ((d.found.getD (s.look d x) 0:Nat):Int)] w2 fun e w'=>e=.returned (.int .i64 (s.tail d x))∧Grew w w'):=fun w2 hk2=>by
   refine((HG.out w2 hk2).between x _ hx hfl).mono ?_;rintro e w3 ⟨rfl,hk3⟩;exact⟨rfl,hk2.trans (hk3.lower hk2.size hk2.size)⟩
  have hrange:Hid (s.tail d x=-1∨∃t:Nat,s.tail d x=t∧t<16777216):=zIO s.rules s.tails x _ h.tsm;by_cases ht:s.tail d x<0
  ·have HZ:Hid (s.kind d x=s.look d x∧s.kindS d x=d):=⟨by unfold Sq.kind;rw[if_pos hk,if_pos ht],by unfold Sq.kindS;rw[if_pos hk,if_pos ht]⟩
   generalize s.look d x=k at *;generalize d.found.getD k 0=y at *;generalize s.tail d x=t at *;go_in;go_wp2_with (first|(go_at_call 130;refine HU.out.mono ?_;rintro e w2 ⟨rfl,hk2⟩;have y6:=(HG.out w2 hk2).cells.2.2.2.2.1;have y8:=HC.out w2 hk2)|(go_at_call 131;refine(HT.out w2 hk2).mono ?_;rintro e w3 ⟨rfl,hk3⟩))
   go_ret;exact⟨by rw[HZ.out.1];rfl,by rw[HZ.out.2];exact⟨_,_,HG.out _ hk3⟩,HX.out _ hk3⟩
  ·obtain⟨t,hte,htl⟩:=hrange.out.resolve_left (by omega)
   have HZ:Hid (s.kind d x=d.found.length∧s.kindS d x=⟨d.found++[x],d.marks++[t]⟩):=⟨by unfold Sq.kind;rw[if_pos hk,if_neg ht],by unfold Sq.kindS;rw[if_pos hk,if_neg ht,hte];rfl⟩
   rw[hte] at HT;have ht2:¬((t:Int)<0):=by omega
   generalize s.look d x=k at *;generalize d.found.getD k 0=y at *;go_in;go_wp2_with (first|(go_at_call 130;refine HU.out.mono ?_;rintro e w2 ⟨rfl,hk2⟩;have y6:=(HG.out w2 hk2).cells.2.2.2.2.1;have y8:=HC.out w2 hk2)|(go_at_call 131;refine(HT.out w2 hk2).mono ?_;rintro e w3 ⟨rfl,hk3⟩;have HS3:=vl <| HG.out w3 hk3;have y7:=(HG.out w3 hk3).cells.2.2.2.2.2.1;have OM3:=HOm.out w3 (HG.out w3 hk3);have hp3:=(HG.out w3 hk3).lp)|(have m2:=mark1;at_builtin;refine wpList_append_lies _ rfl _ _ 45 rfl 0 3 i0 (.int .i64 0) 1 8 underlying45 hi0 hz0 hz1 hz2 rfl (by decide) _ _ _ rfl (OF5.alloc _) ⟨w4.heap.size,0,none⟩ 1 1 [.int .i64 (x:Int)] rfl rfl (zBg _ [.int .i64 (x:Int)] _ _ (zC _ _ _)) (by intro u hu;simp at hu;subst hu;rfl) (by decide) (by unfold maxLen;omega) (by omega) (by simp[zC]) _ rfl ?_;intro g2 cap2 w6 hown2 hgrow2 hat2 hlt3;have A7:=A5.1.found_app hx rfl hown2 hgrow2 (by rcases hat2 with ha|ha;exact .inl ha;right;rw[ha];simp[zC]);have hPB2:w6.heap[p]? =(w4.setCell ⟨p,7,none⟩ (.slice (some ⟨gg,0,none⟩) (d.marks.length+1) cap)).heap[p]? :=(hgrow2.block _ (by simp[zC];omega) (zL A5.1.own1 A5.1.blk (by decide))).trans (lG _ _ _ (by rw[zC];omega));have t6:w6.cell? ⟨p,6,none⟩=some (.slice (some ⟨gf,0,none⟩) d.found.length cf):=(cell?_of_block hPB2).trans y9;have g6:w6.frozen? ⟨p,6,none⟩=false:=(frozen?_of_block hPB2).trans (A5.1.cells.2.2.2.2.2.2 6);have y10:(w6.setCell ⟨p,6,none⟩ (.slice (some ⟨g2,0,none⟩) (d.found.length+1) cap2)).cell? ⟨p,6,none⟩=some (.slice (some ⟨g2,0,none⟩) (d.found.length+1) cap2):=A7.1.cells.2.2.2.2.1)|(at_builtin;refine wpList_append_lies _ rfl _ _ 45 rfl 0 3 i0 (.int .i64 0) 1 8 underlying45 hi0 hz0 hz1 hz2 rfl (by decide) _ _ _ rfl (OM3.alloc _) ⟨w3.heap.size,0,none⟩ 1 1 [.int .i64 (t:Int)] rfl rfl (cell_one_new _ _ _) (by intro u hu;simp at hu;subst hu;rfl) (by decide) (by unfold maxLen;omega) (by omega) (by simp) _ rfl ?_;intro gg cap w4 hown hgrow hat hlt2;have mark1:True:=trivial;have A5:=HS3.out.marks_app htl rfl hown hgrow (by rcases hat with ha|ha;exact .inl ha;right;rw[ha];simp);have hPB:w4.heap[p]? =w3.heap[p]? :=(hgrow.block _ (by simp;omega) (zL HS3.out.own2 HS3.out.blk (by decide))).trans (lG _ _ _ (by omega));have t7:w4.cell? ⟨p,7,none⟩=some (.slice am d.marks.length cm):=(cell?_of_block hPB).trans y7;have g7:w4.frozen? ⟨p,7,none⟩=false:=(frozen?_of_block hPB).trans (HS3.out.cells.2.2.2.2.2.2 7);have y9:(w4.setCell ⟨p,7,none⟩ (.slice (some ⟨gg,0,none⟩) (d.marks.length+1) cap)).cell? ⟨p,6,none⟩=some (.slice (some ⟨gf,0,none⟩) d.found.length cf):=A5.1.cells.2.2.2.2.1;have hp4:p<w4.heap.size:=lZ hp3 (lY (by simp) hgrow.size);have OF5:(w4.setCell ⟨p,7,none⟩ (.slice (some ⟨gg,0,none⟩) (d.marks.length+1) cap)).ownsRow 0 3 1 (.slice (some ⟨gf,0,none⟩) d.found.length cf) d.found.length ((ints d.found).map fun x=>.int .i64 x):=(by have:=A5.1.own1;unfold OwnI at this;rw[zM] at this;exact this)))
   go_ret;refine⟨?_,by rw[HZ.out.2];exact⟨_,_,A7.1⟩,((HX.out _ hk3).trans A5.2).trans A7.2⟩;rw[HZ.out.1]
   first|rfl|(simp;done)|(show _=_;congr 2;omega)
 ·have HZ:Hid (s.kind d x=d.found.length∧s.kindS d x=⟨d.found++[x],d.marks⟩):=⟨by unfold Sq.kind;rw[if_neg hk],by unfold Sq.kindS;rw[if_neg hk]⟩
  have hk2:¬(((s.look d x:Nat):Int)<(d.found.length:Int)):=by omega
  generalize s.look d x=k at *;go_in;go_wp2_with (first|(go_at_call 130;refine HU.out.mono ?_;rintro e w3 ⟨rfl,hk3⟩;have HS3:=vl <| HG.out w3 hk3;have y6:=(HG.out w3 hk3).cells.2.2.2.2.1;have OM3:=HOf.out w3 (HG.out w3 hk3);have hp3:=(HG.out w3 hk3).lp)|(at_builtin;refine wpList_append_lies _ rfl _ _ 45 rfl 0 3 i0 (.int .i64 0) 1 8 underlying45 hi0 hz0 hz1 hz2 rfl (by decide) _ _ _ rfl (OM3.alloc _) ⟨w3.heap.size,0,none⟩ 1 1 [.int .i64 (x:Int)] rfl rfl (cell_one_new _ _ _) (by intro u hu;simp at hu;subst hu;rfl) (by decide) (by unfold maxLen;omega) (by omega) (by simp) _ rfl ?_;intro gg cap w4 hown hgrow hat hlt2;have A5:=HS3.out.found_app hx rfl hown hgrow (by rcases hat with ha|ha;exact .inl ha;right;rw[ha];simp);have hPB:w4.heap[p]? =w3.heap[p]? :=(hgrow.block _ (by simp;omega) (zL HS3.out.own1 HS3.out.blk (by decide))).trans (lG _ _ _ (by omega));have t7:w4.cell? ⟨p,6,none⟩=some (.slice af d.found.length cf):=(cell?_of_block hPB).trans y6;have g7:w4.frozen? ⟨p,6,none⟩=false:=(frozen?_of_block hPB).trans (HS3.out.cells.2.2.2.2.2.2 6);have y9:(w4.setCell ⟨p,6,none⟩ (.slice (some ⟨gg,0,none⟩) (d.found.length+1) cap)).cell? ⟨p,6,none⟩=some (.slice (some ⟨gg,0,none⟩) (d.found.length+1) cap):=A5.1.cells.2.2.2.2.1))
  go_ret;refine⟨?_,by rw[HZ.out.2];exact⟨_,_,A5.1⟩,(HX.out _ hk3).trans A5.2⟩;rw[HZ.out.1]
  first|rfl|(simp;done)|(show _=_;congr 2;omega)
end
section
def SoY (w:World)(X Y:Nat->Prop)(p:Nat)(s:Sq)(d:Sf):Prop:=∃fv mv,SoAt w X p s d fv mv∧∀g,Y g->g<w.heap.size∧g≠p∧some g≠fv.ownBlock∧some g≠mv.ownBlock
section
variable {w w2:World} {X Y:Nat->Prop} {p:Nat} {s:Sq} {d:Sf} {fv mv:Value}
theorem SoAt.both (h:SoAt w X p s d fv mv)(hY:∀g,Y g->g<w.heap.size∧g≠p∧some g≠fv.ownBlock∧some g≠mv.ownBlock):SoAt w (fun g=>X g∨Y g) p s d fv mv:=
 h.fewer (fun e=>e.elim h.xp fun e=>(hY p e).2.1 rfl) (fun g e=>e.elim (h.xl g) fun e=>(hY g e).1) (fun g e=>e.elim (h.xf g) fun e=>(hY g e).2.2.1) (fun g e=>e.elim (h.xm g) fun e=>(hY g e).2.2.2) (fun g e=>.inl e)
theorem SoY.call {d':Sf}(h:SoY w X Y p s d)(h':zNx w2 (fun g=>X g∨Y g) p s d')(hk:KeepX (fun g=>X g∨Y g) w w2):SoY w2 X Y p s d':=by
 obtain⟨fv,mv,h,hY⟩:=h;obtain⟨fv',mv',h'⟩:=h';have e:∀b,X b->w2.heap[b]? =w.heap[b]? :=fun b hb=>hk.block b (.inl hb);refine⟨fv',mv',⟨h'.blk,h'.own1,h'.own2,h'.ne,fun g hg=>h'.xf g (.inl hg),fun g hg=>h'.xm g (.inl hg),h.xp,fun g hg=>h'.xl g (.inl hg),h'.lp,(cell?_of_block (e _ h.xq)).trans h.net,h.xq,h.rls.keep e,h.eight,h.rsm,h.tls.keep e,h.tsm,h.tlen,h.sts.keep e,h.ssm,h'.fsm,h'.msm⟩,fun g hg=>⟨h'.xl g (.inr hg),(hY g hg).2.1,h'.xf g (.inr hg),h'.xm g (.inr hg)⟩⟩
theorem SoY.mono {Z:Nat->Prop}(h:SoY w X Y p s d)(e:∀g,Z g->Y g):SoY w X Z p s d:=by
 obtain⟨fv,mv,h,hY⟩:=h;exact⟨fv,mv,h,fun g hg=>hY g (e g hg)⟩
theorem SoY.grown {Z:Nat->Prop}(h:SoY w X Y p s d)(hk:Grew w w2)(e:∀g,Z g->g<w2.heap.size∧(Y g∨w.heap.size<=g)):SoY w2 X Z p s d:=by
 obtain⟨fv,mv,h,hY⟩:=h;refine⟨fv,mv,h.grown hk,fun g hg=>?_⟩;obtain⟨hl,hy|hn⟩:=e g hg
 ·exact⟨hl,(hY g hy).2⟩
 ·refine⟨hl,fun e2=>by have:=h.lp;omega,fun e2=>?_,fun e2=>?_⟩
  ·have:=(h.own1.lt g e2.symm).2;omega
  ·have:=(h.own2.lt g e2.symm).2;omega
theorem SoY.app {Z:Nat->Prop}{o:Obj}{g:Nat}{v:Value}(h:SoY w X Y p s d)(hv:∀k,some k=v.ownBlock->Y k∧¬X k)(hg:(w.alloc o).grownBy w2 v.ownBlock)(hat:v.ownBlock=some g∨w.heap.size<=g)(hl:g<w2.heap.size)(hZ:∀k,Z k->Y k∨k=g):SoY w2 X Z p s d:=by
 obtain⟨fv,mv,h,hY⟩:=h;have hsz:w.heap.size<=w2.heap.size:=lY (by simp) hg.size;have hbl:∀j,j<w.heap.size->some j≠v.ownBlock->w2.heap[j]? =w.heap[j]? :=fun j hj hf=>(hg.block j (by simp;omega) hf).trans (lG _ _ _ (by omega));have e:∀b,X b->w2.heap[b]? =w.heap[b]? :=fun b hb=>hbl b (h.xl b hb) fun e2=>(hv b e2).2 hb;have hp:=hbl p h.lp fun e2=>(hY p (hv p e2).1).2.1 rfl;have hgY:g<w.heap.size->Y g:=fun hlt=>(hv g (hat.elim (fun e=>e.symm) fun e=>by omega)).1;refine⟨fv,mv,⟨hp.trans h.blk,zD h.own1 fun k _ h2 hk=>hbl k h2 fun e2=>(hY k (hv k e2).1).2.2.1 hk.symm,zD h.own2 fun k _ h2 hk=>hbl k h2 fun e2=>(hY k (hv k e2).1).2.2.2 hk.symm,h.ne,h.xf,h.xm,h.xp,fun g hg=>lZ (h.xl g hg) hsz,lZ h.lp hsz,(cell?_of_block (e _ h.xq)).trans h.net,h.xq,h.rls.keep e,h.eight,h.rsm,h.tls.keep e,h.tsm,h.tlen,h.sts.keep e,h.ssm,h.fsm,h.msm⟩,fun k hk=>?_⟩;rcases hZ k hk with hy|rfl
 ·exact⟨lZ (hY k hy).1 hsz,(hY k hy).2⟩
 ·by_cases hlt:k<w.heap.size
  ·exact⟨hl,(hY k (hgY hlt)).2⟩
  ·refine⟨hl,fun e2=>by have:=h.lp;omega,fun e2=>?_,fun e2=>?_⟩
   ·have:=(h.own1.lt k e2.symm).2;omega
   ·have:=(h.own2.lt k e2.symm).2;omega
theorem zId (h:SoY w X Y p s d)(hl:d.marks.length<=100000000000)(hl2:d.found.length<=100000000000)(x:Nat)(hx:x<16777216):
  Calls prog 94 #[.pointer (some ⟨p,0,none⟩),.int .i64 x] w fun e w'=>e=.returned (.int .i64 (s.kind d x))∧SoY w' X Y p s (s.kindS d x)∧KeepX (fun g=>X g∨Y g) w w':=by
 have h0:=h;obtain⟨fv,mv,h,hY⟩:=h;refine(zG1 w _ p s d ⟨fv,mv,h.both hY⟩ hl hl2 x hx).mono ?_;rintro e w' ⟨rfl,h1,h2⟩;exact⟨rfl,h0.call h1 h2,h2⟩
end
def Sq.rowTo (s:Sq)(next:Nat)(d:Sf):Nat->List Nat×Sf
 |0=>([],d)
 |j+1=>((s.rowTo next d j).1++[s.kind (s.rowTo next d j).2 (next&&&s.sets.getD j 0)],s.kindS (s.rowTo next d j).2 (next&&&s.sets.getD j 0))
theorem Sq.kindS_len (s:Sq)(d:Sf)(x:Nat):(s.kindS d x).found.length<=d.found.length+1∧(s.kindS d x).marks.length<=d.marks.length+1∧d.found.length<=(s.kindS d x).found.length:=by
 unfold Sq.kindS;split
 ·split <;> simp
 ·simp
theorem Sq.rowTo_len (s:Sq)(next:Nat)(d:Sf)(j:Nat):(s.rowTo next d j).1.length=j∧(s.rowTo next d j).2.found.length<=d.found.length+j∧(s.rowTo next d j).2.marks.length<=d.marks.length+j∧d.found.length<=(s.rowTo next d j).2.found.length:=by
 induction j with
 |zero=>exact⟨rfl,lQ,lQ,lQ⟩
 |succ j ih=>
  have h:=s.kindS_len (s.rowTo next d j).2 (next&&&s.sets.getD j 0);unfold Sq.rowTo;simp only[kX,List.length_singleton];omega
end
theorem zKv {w w':World}{X:Nat->Prop}{H:Nat}{v:Value}{l:List Int}(h:OwnI w H v l)(hk:KeepX X w w')(e:∀k,some k=v.ownBlock->X k):OwnI w' H v l:=zD h fun g _ _ hg=>hk.block g (e g hg.symm)
theorem zFM (w:World)(X Y:Nat->Prop)(p:Nat)(s:Sq)(d:Sf)(h:SoY w X Y p s d)(hl:d.marks.length+s.sets.length<=100000000000)(hl2:d.found.length+s.sets.length<=100000000000)(next:Nat)(hx:next<16777216):
  Calls prog 91 #[.pointer (some ⟨p,0,none⟩),.int .i64 next] w fun e w'=>∃u,e=.returned u∧OwnI w' w.heap.size u (ints (s.rowTo next d s.sets.length).1)∧SoY w' X (fun g=>Y g∨some g=u.ownBlock) p s (s.rowTo next d s.sets.length).2∧KeepX (fun g=>X g∨Y g) w w':=by
 obtain⟨i0,hi0,hz0,hz1,hz2⟩:=info_parts yH;obtain⟨fv,mv,hA,hY⟩:=h;have y3:=hA.cells.2.1;have hin:Hid (∀k,X k∨Y k->k<w.heap.size):=fun k hk=>hk.elim (hA.xl k) fun e=>(hY k e).1;obtain⟨as_,cs,hsv,_,_,hsc⟩:=hA.sts;rw[zM] at hsv;have HSC:Hid (∀i,i<s.sets.length->∃b o,as_=some ⟨b,o,none⟩∧X b∧w.cell? ⟨b,o+i,none⟩=some (.int .i64 ((s.sets.getD i 0:Nat):Int))∧next&&&s.sets.getD i 0<16777216∧s.sets.getD i 0<16777216):=by
  intro i hi;obtain⟨b,o,h1,h0,h2⟩:=hsc i (by rw[zM];exact hi);rw[vB] at h2;exact⟨b,o,h1,h0,h2,Nat.lt_of_le_of_lt Nat.and_le_left hx,hA.ssm _ (zR _ i 0 hi)⟩
 rw[hsv] at y3;have HR:Hid (∀j,(s.rowTo next d j).1.length=j∧(s.rowTo next d j).2.found.length<=d.found.length+j∧(s.rowTo next d j).2.marks.length<=d.marks.length+j):=fun j=>by
  have:=s.rowTo_len next d j
  exact⟨this.1,this.2.1,this.2.2.1⟩
 have HI:Hid (SoY w X (fun g=>Y g∨some g=(Value.slice none 0 0).ownBlock) p s d):=⟨fv,mv,hA,fun g hg=>hg.elim (hY g) fun e=>by cases e⟩
 have hsl:s.sets.length<=100000000000:=by omega
 go_in;go_wp2;go_loopg [5,15] s.sets.length (fun q u i wr=>∃j:Nat,q=s.sets.length-j∧j<=s.sets.length∧i=.int .i64 (j:Int)∧OwnI wr w.heap.size u (ints (s.rowTo next d j).1)∧SoY wr X (fun g=>Y g∨some g=u.ownBlock) p s (s.rowTo next d j).2∧KeepX (fun g=>X g∨Y g) w wr)
 case atStart=>exact⟨0,rfl,lX,rfl,OwnI.nil _ _,HI.out,KeepX.refl _ _⟩
 case round=>
  obtain⟨j,hgk,hj,rfl,ho,hs,hkp⟩:=hrel;have HB:Hid (gk=s.sets.length-j∧OwnI wr w.heap.size u5 (ints (s.rowTo next d j).1)∧SoY wr X (fun g=>Y g∨some g=u5.ownBlock) p s (s.rowTo next d j).2∧KeepX (fun g=>X g∨Y g) w wr):=⟨hgk,ho,hs,hkp⟩
  by_cases hj2:j<s.sets.length
  ·have i1:(j:Int)<(s.sets.length:Int):=by omega
   obtain⟨b1,o1,rfl,hb1,hc,hlt,hlt2⟩:=HSC.out j hj2;have y1:=(cell?_of_block (hkp.block b1 (.inl hb1))).trans hc;obtain⟨au,cu,hu5⟩:=ho.form;rw[zM,(HR.out j).1] at hu5;have HK:Hid (∀x:Nat,x<16777216->Calls prog 94 #[.pointer (some ⟨p,0,none⟩),.int .i64 x] wr fun e w'=>e=.returned (.int .i64 (s.kind (s.rowTo next d j).2 x))∧(OwnI w' w.heap.size u5 (ints (s.rowTo next d j).1)∧SoY w' X (fun g=>Y g∨some g=u5.ownBlock) p s (s.kindS (s.rowTo next d j).2 x))∧KeepX (fun g=>X g∨Y g) w w'):=fun x hx=>by
    have:=HR.out j;refine(zId HB.out.2.2.1 (by omega) (by omega) x hx).mono ?_;rintro e w2 ⟨rfl,h1,h2⟩;exact⟨rfl,⟨zKv HB.out.2.1 h2 fun k hk=>.inr (.inr hk),h1⟩,HB.out.2.2.2.trans (h2.mono fun k hk=>hk.elim .inl fun e=>.inr (.inl e))⟩
   have HN:Hid ((s.rowTo next d (j+1)).1=(s.rowTo next d j).1++[s.kind (s.rowTo next d j).2 (next&&&s.sets.getD j 0)]∧(s.rowTo next d (j+1)).2=s.kindS (s.rowTo next d j).2 (next&&&s.sets.getD j 0)):=⟨rfl,rfl⟩
   have hll:=(HR.out j).1;generalize s.sets.getD j 0=r at *;have hand:bits .and .i64 (next:Int) (r:Int)=((next&&&r:Nat):Int):=yZ _ _ (by omega) (by omega);generalize next&&&r=x at *
   have HK2:=vl <| HK.out x hlt;generalize s.kind (s.rowTo next d j).2 x=kd at *;generalize s.kindS (s.rowTo next d j).2 x=d2 at *;generalize (s.rowTo next d j).1=l at *;subst hu5;go_wp2_with (first|(go_at_call 94;refine HK2.out.mono ?_;rintro e w2 ⟨rfl,hA2,hk2⟩;have HA2:=vl hA2;have OR:w2.ownsRow w.heap.size 3 1 (.slice au j cu) j ((ints l).map fun x=>.int .i64 x):=(by have:=hA2.1;unfold OwnI at this;rw[zM,hll] at this;exact this);have hsz2:=hk2.size;clear hA2)|(at_builtin;refine wpList_append_lies _ rfl _ _ 45 rfl (w.heap.size) 3 i0 (.int .i64 0) 1 8 underlying45 hi0 hz0 hz1 hz2 rfl (by decide) _ _ _ rfl (OR.alloc _) ⟨w2.heap.size,0,none⟩ 1 1 [.int .i64 (kd:Int)] rfl rfl (cell_one_new _ _ _) (by intro u hu;simp at hu;subst hu;rfl) (by decide) (by unfold maxLen;omega) (by omega) (by simp;omega) _ rfl ?_;intro gg cap w3 hown hgrow hat hlt3))
   have hO3:OwnI w3 w.heap.size (.slice (some ⟨gg,0,none⟩) (j+1) cap) (ints (l++[kd])):=by
    rw[zA9];have h2:=OwnI.snoc (l:=ints l) (x:=(kd:Int)) (by rw[zM,hll];exact hown);rw[zM,hll] at h2;exact h2
   have hat2:(Value.slice au j cu).ownBlock=some gg∨w2.heap.size<=gg:=by
    rcases hat with ha|ha
    ·exact .inl ha
    ·right;rw[ha];simp
   have hS3:SoY w3 X (fun g=>Y g∨some g=(Value.slice (some ⟨gg,0,none⟩) (j+1) cap).ownBlock) p s d2:=by
    refine HA2.out.2.app (v:=.slice au j cu) (fun k hk=>⟨.inr hk,fun e=>?_⟩) hgrow hat2 (hO3.lt gg rfl).2 ?_
    ·have:=(HA2.out.1.lt k hk.symm).1
     have:=hin.out k (.inl e);omega
    ·intro k hk
     rcases hk with e|e
     ·exact .inl (.inl e)
     ·exact .inr (by simpa[Value.ownBlock] using e)
   have hK3:KeepX (fun g=>X g∨Y g) w w3:=by
    refine hk2.trans ⟨hgrow.os,hgrow.output,lY (by simp) hgrow.size,fun k hk=>?_⟩;have h1:=hin.out k hk;exact(hgrow.block k (by simp;omega) fun e=>by have:=(HA2.out.1.lt k e.symm).1;omega).trans (lG _ _ _ (by omega))
   go_roundg (s.sets.length-(j+1))
   case measure=>rw[HB.out.1];omega
   case rel=>exact⟨j+1,rfl,by omega,by go_num,by rw[HN.out.1];exact hO3,by rw[HN.out.2];exact hS3,hK3⟩
  ·have i1:(s.sets.length:Int)<=(j:Int):=by omega
   have e:j=s.sets.length:=by omega
   subst e;go_wp2;go_ret;exact⟨_,rfl,HB.out.2.1,HB.out.2.2.1,HB.out.2.2.2⟩
theorem zBL (n:Int)(h0:0<=n)(h1:n<18446744073709551616):IntKind.u64.wrap n=n:=by rw[IntKind.wrap_u64];omega
theorem zHt (a b:Nat)(ha:a<18446744073709551616)(hb:b<18446744073709551616):bits .and .u64 (a:Int) (b:Int)=((a&&&b:Nat):Int):=
 (bits_nat .u64 64 (by decide) (fun n h0 h1=>zBL n h0 (by simpa using h1)) a b (by simpa using ha) (by simpa using hb)).1
theorem zIG (a b:Nat)(ha:a<18446744073709551616)(hb:b<18446744073709551616):bits .or .u64 (a:Int) (b:Int)=((a|||b:Nat):Int):=
 (bits_nat .u64 64 (by decide) (fun n h0 h1=>zBL n h0 (by simpa using h1)) a b (by simpa using ha) (by simpa using hb)).2
theorem zAZ (f:Nat->Bool)(k j:Nat):(qM f k).testBit j=(decide (j<k)&&f j):=by
 induction k with
 |zero=>simp[qM]
 |succ k ih=>
  unfold qM;by_cases e:j=k
  ·subst e
   cases hf:f j
   ·simp[ih]
   ·simp[ih,Nat.testBit_or]
  ·have h1:decide (j<k+1)=decide (j<k):=by simp;omega
   rw[h1,<-ih];split
   ·rw[Nat.testBit_or,Nat.testBit_two_pow,show decide (k=j)=false by simp;omega,Bool.or_false]
   ·rfl
def wd (m:Nat->Bool)(i:Nat):Nat:=qM (fun j=>m (64*i+j)) 64
theorem zNC (m:Nat->Bool)(i:Nat):wd m i<18446744073709551616:=zBh _ 64
theorem zM2 (m:Nat->Bool)(i j:Nat)(hj:j<64):wd m i&&&2^j=if m (64*i+j) then 2^j else 0:=by
 apply Nat.eq_of_testBit_eq;intro k;rw[Nat.testBit_and,Nat.testBit_two_pow];have e2:(wd m i).testBit k=(decide (k<64)&&m (64*i+k)):=zAZ _ 64 k;by_cases hk:j=k
 ·subst hk
  rw[e2,decide_eq_true hj,decide_eq_true rfl];cases m (64*i+j) <;> simp
 ·rw[decide_eq_false hk,Bool.and_false]
  cases m (64*i+j) <;> simp[Nat.testBit_two_pow,hk]
theorem zM3 (m:Nat->Bool)(x i:Nat):wd (fun y=>y==x||m y) i=if i=x/64 then wd m i|||2^(x%64) else wd m i:=by
 apply Nat.eq_of_testBit_eq;intro j;have e:(wd (fun y=>y==x||m y) i).testBit j=(decide (j<64)&&(64*i+j==x||m (64*i+j))):=zAZ _ 64 j;have e2:(wd m i).testBit j=(decide (j<64)&&m (64*i+j)):=zAZ _ 64 j;rw[e];split
 ·rename_i h
  rw[Nat.testBit_or,e2,Nat.testBit_two_pow];by_cases hj:j<64
  ·rw[decide_eq_true hj,Bool.true_and,Bool.true_and,Bool.or_comm]
   congr 1
   by_cases hx:x%64=j
   ·rw[decide_eq_true hx,beq_iff_eq];omega
   ·rw[decide_eq_false hx,gQ];omega
  ·rw[decide_eq_false hj,decide_eq_false (by omega)];rfl
 ·rename_i h
  rw[e2];by_cases hj:j<64
  ·rw[show (64*i+j==x)=false by rw[gQ];omega,Bool.false_or]
  ·rw[decide_eq_false hj];rfl
structure SeAt (w:World)(H p n:Nat)(m:Nat->Bool)(g cap:Nat):Prop where
 blk:w.heap[p]? =some (.cells #[.slice (some ⟨g,0,none⟩) n cap] 259)
 row:Row w H 260 (.slice (some ⟨g,0,none⟩) n cap) n fun i=>.int .u64 ((wd m i:Nat):Int)
def SeIs (w:World)(H p n:Nat)(m:Nat->Bool):Prop:=∃g cap,SeAt w H p n m g cap
structure StayU (H:Nat)(w w':World):Prop where
 os:w'.os=w.os
 output:w'.output=w.output
 size:w'.heap.size=w.heap.size
 low:∀k,k<H->w'.heap[k]? =w.heap[k]?
 other:∀(k:Nat) (c:Array Value) (t:TypeId),w.heap[k]? =some (Obj.cells c t)->t≠260->w'.heap[k]? =some (Obj.cells c t)
theorem StayU.refl (H:Nat)(w:World):StayU H w w:=⟨rfl,rfl,rfl,fun _ _=>rfl,fun _ _ _ h _=>h⟩
theorem zFN (w:World)(H p n:Nat)(m:Nat->Bool)(h:SeIs w H p n m)(hn:n<=1000000)(x:Nat)(hx:x<64*n):
  Calls prog 172 #[.pointer (some ⟨p,0,none⟩),.int .i64 x] w fun e w'=>e=.returned (.bool (!m x))∧SeIs w' H p n (fun y=>y==x||m y)∧StayU H w w':=by
 obtain⟨g,cap,h⟩:=h;have y0:w.cell? ⟨p,0,none⟩=some (.slice (some ⟨g,0,none⟩) n cap):=by unfold cell?;rw[h.blk];rfl
 obtain⟨g',cp,hv,g1,g2,g3,g4,g5,g6⟩:=h.row.get (by omega);have eg:g'=g:=by injection hv with e1 _ _;injection e1 with e1;injection e1 with e1;exact e1.symm
 subst eg;have y1:w.cell? ⟨g',x/64,none⟩=some (.int .u64 ((wd m (x/64):Nat):Int)):=g5 (x/64) (by omega);have z1:=g6 (x/64);have hsh:bits .and .i64 (x:Int) 63=((x%64:Nat):Int):=by
  have:=yZ x 63 (by omega) (by omega);rw[show (63:Nat)=2^6-1 from rfl,Nat.and_two_pow_sub_one_eq_mod] at this;exact this
 have hhas:=zM2 m (x/64) (x%64) (by omega);rw[show 64*(x/64)+x%64=x by omega] at hhas;have hpl:2^(x%64)<18446744073709551616:=(Nat.pow_lt_pow_right (by omega) (show x%64<64 by omega):2^(x%64)<2^64)
 have hpp:0<2^(x%64):=Nat.pow_pos (by omega);have hwl:=zNC m (x/64);have HW:=vl <| zM3 m x;have HS:=vl h;have hw1:IntKind.u64.wrap ((2:Int)^(x%64))=((2^(x%64):Nat):Int):=by
  have e1:((2^(x%64):Nat):Int)=(2:Int)^(x%64):=by simp
  rw[<-e1];exact zBL _ (by omega) (by omega)
 have i1:(x:Int)/64<(n:Int):=by omega
 have i2:(0:Int)<=(x:Int)/64:=by omega
 have i3:¬((x:Int)/64<0):=by omega
 have i4:¬((n:Int)<=(x:Int)/64):=by omega
 have ha:=zHt (wd m (x/64)) (2^(x%64)) hwl hpl;rw[hhas,<-hw1] at ha;have HO:Hid (bits .or .u64 ((wd m (x/64):Nat):Int) (IntKind.u64.wrap ((2:Int)^(x%64)))=((wd m (x/64)|||2^(x%64):Nat):Int)):=by
  show _=_;rw[hw1];exact zIG (wd m (x/64)) (2^(x%64)) hwl hpl
 clear h hv g1 g2 g3 g4 g5 g6 hhas;cases hm:m x with
 |true=>
  have hc:(bits .and .u64 ((wd m (x/64):Nat):Int) (IntKind.u64.wrap ((2:Int)^(x%64))) != 0)=true:=by
   rw[ha,hm,if_pos rfl];rw[bne_iff_ne];omega
  have HM:Hid (∀y,(y==x||m y)=m y):=fun y=>by
   by_cases e:y=x
   ·rw[e,hm];simp
   ·rw[show (y==x)=false by simp[e]];rfl
  clear ha hw1 hm hwl hpl hpp;go_in;go_wp2;go_ret;exact⟨rfl,⟨_,_,HS.out.blk,HS.out.row.congr fun i _=>by rw[show (fun y=>y==x||m y)=m from funext HM.out]⟩,StayU.refl _ _⟩
 |false=>
  have hc:(bits .and .u64 ((wd m (x/64):Nat):Int) (IntKind.u64.wrap ((2:Int)^(x%64))) != 0)=false:=by
   rw[ha,hm];simp
  clear ha hw1 hm hwl hpl hpp;go_in;go_wp2;go_ret;have hg:H<=g':=(HS.out.row.get (by omega)).elim fun g h=>h.elim fun c h=>by
   obtain⟨hv,h1,_⟩:=h;injection hv with e1 _ _;injection e1 with e1;injection e1 with e1;omega
  have hpg:p≠g':=fun e=>zL HS.out.row HS.out.blk (by decide) (by rw[e];rfl);have hot:∀(k:Nat) (c:Array Value) (t:TypeId),w.heap[k]? =some (Obj.cells c t)->t≠260->k≠g':=fun k c t hk ht e=>zL HS.out.row hk (Ne.symm ht) (congrArg some e);refine⟨rfl,⟨g',cap,(lJ _ _ _ _ hpg).trans HS.out.blk,?_⟩,⟨rfl,rfl,zC _ _ _,fun k hk=>lJ _ _ _ _ (by show k≠g';omega),fun k c t hk ht=>(lJ _ _ _ _ (hot k c t hk ht)).trans hk⟩⟩;refine Row.congr (HS.out.row.set (x/64) _) fun i _=>?_;rw[HW.out i,HO.out];by_cases e:i=x/64
  ·subst e;simp
  ·simp[e]
theorem zMC:(prog.info? 260).map (fun i=>(i.zero,i.size,i.bytes))=some (some (.int .u64 0),1,8):=by kernel_rfl
theorem zMd (i:Nat):wd (fun _=>false) i=0:=by
 apply Nat.eq_of_testBit_eq;intro j;have e:(wd (fun _=>false) i).testBit j=(decide (j<64)&&false):=zAZ _ 64 j;rw[e];simp
def vN (n:Nat):Nat:=2^n/64+1
theorem zFT (w:World)(n:Nat)(hn:n<=24):
  Calls prog 171 #[.int .i64 n] w fun e w'=>∃p,e=.returned (.pointer (some ⟨p,0,none⟩))∧w.heap.size<=p∧SeIs w' w.heap.size p (vN n) (fun _=>false)∧Grew w w':=by
 obtain⟨i0,hi0,hz0,hz1,hz2⟩:=info_parts zMC;have hpw:2^n<=2^24:=kG (by omega) hn;have hpw2:=zE4 n (by omega);have HN:Hid (vN n=2^n/64+1):=rfl;obtain⟨w1,hmk,ho1,hg1⟩:=run_makeSlice_full (P:=prog) w w.heap.size 257 260 i0 _ 1 underlying257 hi0 hz0 hz1 .i64 .i64 (vN n) (by rw[HN.out];omega) (by rw[hz2,HN.out];omega) (by rw[HN.out];unfold maxLen;omega) lQ;have HO1:Hid (Row w1 w.heap.size 260 (.slice (some ⟨w.heap.size,0,none⟩) (vN n) (vN n)) (vN n) (fun j=>.int .u64 ((wd (fun _=>false) j:Nat):Int))∧Grew w w1):=by
  refine⟨?_,⟨hg1.os,hg1.output,hg1.size,fun k hk _=>hg1.block k hk (by simp)⟩⟩;have h:=ho1;rw[Nat.mul_one,zAd _ rfl] at h;refine Row.congr (f:=fun _=>.int .u64 0) h fun i _=>?_;rw[zMd];rfl
 have hsz:w.heap.size<w1.heap.size:=(HO1.out.1.get (by rw[HN.out];exact Nat.succ_pos _)).elim fun g h=>h.elim fun c h=>by
  obtain⟨hv,_,h1,_⟩:=h;injection hv with e1 _ _;injection e1 with e1;injection e1 with e1;omega
 have ecast:((vN n:Nat):Int)=((2^n:Nat):Int)/64+1:=by rw[HN.out];omega
 rw[ecast] at hmk;generalize 2^n=z at *;go_in;go_wp2;go_ret;refine⟨_,rfl,by omega,⟨w.heap.size,vN n,gG _ _,?_⟩,HO1.out.2.trans (kZ _ _ (by omega))⟩;exact zJ HO1.out.1 (kZ _ _ lQ)
section
def zMr (f:Nat->Nat):Nat->Nat
 |0=>0
 |n+1=>zMr f n|||f n
theorem zMq (f:Nat->Nat)(k:Nat)(h:∀i,f i<16777216)(n:Nat):zMr f n<16777216:=by
 induction n with
 |zero=>show 0<16777216;omega
 |succ n ih=>exact Nat.or_lt_two_pow (n:=24) ih (h n)
def spG (by_:List Nat)(i p:Nat):Nat:=if p/8=i/256 then(if (i%256).testBit (p%8) then by_.getD p 0 else 0) else 0
def spF (by_:List Nat)(n i:Nat):Nat:=zMr (spG by_ i) n
theorem zNa (by_:List Nat)(hs:∀x∈by_,x<16777216)(i p:Nat):spG by_ i p<16777216:=by
 unfold spG;split
 ·split
  ·by_cases h:p<by_.length
   ·exact hs _ (zR _ _ 0 h)
   ·rw[lW,List.getElem?_eq_none (by omega)];show 0<16777216;omega
  ·omega
 ·omega
theorem zLj (by_:List Nat)(hs:∀x∈by_,x<16777216)(n i:Nat):spF by_ n i<16777216:=zMq _ 0 (zNa by_ hs i) n
theorem zHF (by_:List Nat)(n i:Nat):spF by_ (n+1) i=spF by_ n i|||spG by_ i n:=rfl
theorem zIF:zeroCells208=((List.range 768).map fun _=>Value.int .i64 0).toArray:=by kernel_rfl
def SpAt (w:World)(f:Nat)(c:Nat->Nat):Prop:=∃cs:Array Value,w.heap[f]? =some (.cells cs 208)∧∀i,i<768->cs[i]? =some (.int .i64 ((c i:Nat):Int))
section
variable {w w2:World} {f:Nat} {c:Nat->Nat}
theorem SpAt.cell (h:SpAt w f c)(i:Nat)(hi:i<768):w.cell? ⟨f,i,none⟩=some (.int .i64 ((c i:Nat):Int))∧w.frozen? ⟨f,i,none⟩=false:=by
 obtain⟨cs,hb,hc⟩:=h
 constructor
 ·unfold cell?;rw[hb];exact hc i hi
 ·unfold frozen?;rw[hb];simp
theorem SpAt.lt (h:SpAt w f c):f<w.heap.size:=by
 obtain⟨cs,hb,_⟩:=h;exact(kQ.1 hb).1
theorem SpAt.set (h:SpAt w f c)(i x:Nat):SpAt (w.setCell ⟨f,i,none⟩ (.int .i64 (x:Int))) f (fun j=>if j=i then x else c j):=by
 obtain⟨cs,hb,hc⟩:=h;refine⟨cs.setIfInBounds i (.int .i64 (x:Int)),by simp[setCell,lU,hb],fun j hj=>?_⟩;have h1:=hc j hj;rw[Array.getElem?_setIfInBounds];by_cases e:i=j
 ·subst e
  have:=(kQ.1 h1).1;simp[this]
 ·rw[if_neg e,h1]
  simp[Ne.symm e]
theorem SpAt.congr {c':Nat->Nat}(h:SpAt w f c)(e:∀i,i<768->c i=c' i):SpAt w f c':=by
 obtain⟨cs,hb,hc⟩:=h;exact⟨cs,hb,fun i hi=>by rw[<-e i hi];exact hc i hi⟩
theorem SpAt.keep (h:SpAt w f c)(e:w2.heap[f]? =w.heap[f]?):SpAt w2 f c:=by
 obtain⟨cs,hb,hc⟩:=h;exact⟨cs,e.trans hb,hc⟩
end
theorem zHo (w:World):SpAt (w.alloc (Obj.cells zeroCells208 208)) w.heap.size (fun _=>0):=by
 refine⟨_,gG _ _,fun i hi=>?_⟩;rw[zIF];simp[hi]
theorem zBC (w:World)(v:Value)(by_:List Nat)(hB:Ints w (In w) v (ints by_))(hn:by_.length<=24)(hs:∀x∈by_,x<16777216):
  Calls prog 128 #[v] w fun e w'=>e=.returned (.pointer (some ⟨w.heap.size,0,none⟩))∧SpAt w' w.heap.size (spF by_ by_.length)∧Grew w w':=by
 obtain⟨ab,cb,rfl,_,_,hbc⟩:=hB;rw[zM] at hbc ⊢;have HBC:Hid (∀i,i<by_.length->∃b o,ab=some ⟨b,o,none⟩∧In w b∧w.cell? ⟨b,o+i,none⟩=some (.int .i64 ((by_.getD i 0:Nat):Int))∧by_.getD i 0<16777216):=by
  intro i hi;obtain⟨b,o,h1,h2,h3⟩:=hbc i hi;rw[vB] at h3;exact⟨b,o,h1,h2,h3,hs _ (zR _ _ 0 hi)⟩
 have HSF:=vl <| zLj by_ hs;have HZ:=vl <| zHo w;clear hbc hs;go_in;go_wp2;go_loopg [4] by_.length (fun q i wr=>∃j:Nat,q=by_.length-j∧j<=by_.length∧i=.int .i64 (j:Int)∧SpAt wr w.heap.size (spF by_ j)∧Grew w wr)
 case atStart=>exact⟨0,rfl,lX,rfl,HZ.out,kZ _ _ lQ⟩
 case round=>
  obtain⟨j,hgk,hj,rfl,hsp,hkp⟩:=hrel;have HA:Hid (gk=by_.length-j∧SpAt wr w.heap.size (spF by_ j)∧Grew w wr):=⟨hgk,hsp,hkp⟩
  by_cases hj2:j<by_.length
  ·have i1:(j:Int)<(by_.length:Int):=by omega
   have i2:(j:Int)<24:=by omega
   obtain⟨b,o,rfl,hb,hc,hlt⟩:=HBC.out j hj2;have HC:=vl hc;clear hgk hsp hkp hc;go_wp2;go_loopg [5] 256 (fun q i wr=>∃s:Nat,q=256-s∧s<=256∧i=.int .i64 (s:Int)∧SpAt wr w.heap.size (fun i=>if i%256<s then spF by_ (j+1) i else spF by_ j i)∧Grew w wr)
   case atStart=>exact⟨0,rfl,lX,rfl,HA.out.2.1.congr fun i _=>by simp,HA.out.2.2⟩
   case round=>
    obtain⟨s,hgk2,hs,rfl,hsp,hkp⟩:=hrel;have HB:Hid (gk=256-s∧SpAt wr w.heap.size (fun i=>if i%256<s then spF by_ (j+1) i else spF by_ j i)∧Grew w wr):=⟨hgk2,hsp,hkp⟩
    by_cases hs2:s<256
    ·have i3:(s:Int)<256:=by omega
     have y1:wr.cell? ⟨b,o+j,none⟩=some (.int .i64 ((by_.getD j 0:Nat):Int)):=zA HC.out hb hkp;have hbit:bits .and .i64 ((s:Int)/2^(j%8)) 1=((s/2^(j%8)%2:Nat):Int):=by
      rw[zBw];exact zEi _ (Nat.lt_of_le_of_lt (Nat.div_le_self _ _) (by omega))
     have HT:Hid (s.testBit (j%8)=decide (s/2^(j%8)%2=1)):=Nat.testBit_eq_decide_div_mod_eq;have hI:j/8*256+s<768:=by omega
     obtain⟨y2,z2⟩:=hsp.cell (j/8*256+s) hI;have y3:wr.cell? ⟨w.heap.size,j/8*256+s,none⟩=some (.int .i64 ((spF by_ j (j/8*256+s):Nat):Int)):=by
      rw[y2,if_neg (by omega)]
     have HGen:Hid (∀i,i<768->(if i%256<s+1 then spF by_ (j+1) i else spF by_ j i)=if i=j/8*256+s then spF by_ j i|||(if s.testBit (j%8) then by_.getD j 0 else 0) else if i%256<s then spF by_ (j+1) i else spF by_ j i):=fun i hi=>by
      by_cases e:i=j/8*256+s
      ·rw[if_pos e,if_pos (by omega),zHF]
       congr 1
       unfold spG;rw[if_pos (by omega),show i%256=s by omega]
      ·rw[if_neg e]
       by_cases e2:i%256<s
       ·rw[if_pos e2,if_pos (by omega)]
       ·rw[if_neg e2]
        by_cases e3:i%256<s+1
        ·rw[if_pos e3,zHF]
         unfold spG;rw[if_neg (by omega),Nat.or_zero]
        ·rw[if_neg e3]
     have hcl:=HSF.out j (j/8*256+s);clear hgk2 hsp hkp y2;cases htb:s.testBit (j%8) with
     |true=>
      have hc1:(bits .and .i64 ((s:Int)/2^(j%8)) 1==1)=true:=by
       have h1:=HT.out;rw[htb] at h1;rw[hbit,of_decide_eq_true h1.symm];rfl
      rw[htb] at HGen;have HOR:Hid (bits .or .i64 ((spF by_ j (j/8*256+s):Nat):Int) ((by_.getD j 0:Nat):Int)=((spF by_ j (j/8*256+s)|||by_.getD j 0:Nat):Int)):=yK _ _ (by omega) (by omega);clear hbit HT htb;generalize hr:by_.getD j 0=r at *;generalize hc0:spF by_ j (j/8*256+s)=c0 at *;have HC0:Hid (spF by_ j (j/8*256+s)=c0):=hc0;clear hr hc0;have i5:(j:Int)/8<3:=by omega
      have i6:(0:Int)<=(j:Int)/8:=by omega
      go_wp2;go_region;go_wp2;go_roundg (256-(s+1))
      case measure=>rw[HB.out.1];omega
      case rel=>
       refine⟨s+1,rfl,by omega,by go_num,?_,HB.out.2.2.trans (Keep.trans (zN _ _ _ _ lQ) (Keep.drew _))⟩;have h:=HB.out.2.1.set (j/8*256+s) (c0|||r);rw[<-HOR.out] at h;refine SpAt.keep (SpAt.congr h fun i hi=>?_) rfl;show(if i=_ then _ else if _ then _ else _)=if _ then _ else _
       rw[HGen.out i hi];by_cases e:i=j/8*256+s
       ·rw[if_pos e,if_pos e,e,HC0.out];simp
       ·rw[if_neg e,if_neg e]
     |false=>
      have hc1:(bits .and .i64 ((s:Int)/2^(j%8)) 1==1)=false:=by
       have h1:=HT.out;rw[htb] at h1;have h2:=of_decide_eq_false h1.symm;rw[hbit,gQ];omega
      rw[htb] at HGen;clear hbit HT htb;go_wp2;go_roundg (256-(s+1))
      case measure=>rw[HB.out.1];omega
      case rel=>
       refine⟨s+1,rfl,by omega,by go_num,?_,HB.out.2.2⟩;refine HB.out.2.1.congr fun i hi=>?_;show(if _ then _ else _)=if _ then _ else _
       rw[HGen.out i hi];by_cases e:i=j/8*256+s
       ·rw[if_pos e,if_neg (by omega),if_neg (by decide),Nat.or_zero]
       ·rw[if_neg e]
    ·have i3:(256:Int)<=(s:Int):=by omega
     have e:s=256:=by omega
     subst e;have HD:Hid (SpAt wr w.heap.size (spF by_ (j+1))):=hsp.congr fun i _=>by rw[if_pos (gW _ (by omega))]
     clear hgk2 hsp hkp;go_wp2;go_roundg (by_.length-(j+1))
     case measure=>rw[HA.out.1];omega
     case rel=>exact⟨j+1,rfl,by omega,by go_num,HD.out,HB.out.2.2⟩
  ·have i1:(by_.length:Int)<=(j:Int):=by omega
   have e:j=by_.length:=by omega
   subst e;clear hgk hsp hkp;go_wp2;go_ret;exact⟨rfl,HA.out.2.1,HA.out.2.2⟩
end
def zAp (c:Nat->Nat)(x:Nat):Nat:=c (x%256)|||c (256+x/256%256)|||c (512+x/65536%256)
theorem zMh (c:Nat->Nat)(h:∀i,c i<16777216)(x:Nat):zAp c x<16777216:=Nat.or_lt_two_pow (n:=24) (Nat.or_lt_two_pow (n:=24) (h _) (h _)) (h _)
theorem zBN (w:World)(f:Nat)(c:Nat->Nat)(h:SpAt w f c)(hc:∀i,c i<16777216)(x:Nat)(hx:x<16777216):
  Calls prog 92 #[.pointer (some ⟨f,0,none⟩),.int .i64 x] w fun e w'=>e=.returned (.int .i64 ((zAp c x:Nat):Int))∧Grew w w':=by
 have m:∀y:Nat,y<16777216->bits .and .i64 (y:Int) 255=((y%256:Nat):Int):=fun y hy=>by
  have:=yZ y 255 (by omega) (by omega);rw[show (255:Nat)=2^8-1 from rfl,Nat.and_two_pow_sub_one_eq_mod] at this;exact this
 have m0:=m x hx;have m1:bits .and .i64 ((x:Int)/256) 255=((x/256%256:Nat):Int):=by
  have:=m (x/256) (by omega);rw[<-this]
  congr 1
 have m2:bits .and .i64 ((x:Int)/65536) 255=((x/65536%256:Nat):Int):=by
  have:=m (x/65536) (by omega);rw[<-this]
  congr 1
 have y0:=(h.cell (x%256) (by omega)).1;have y1:=(h.cell (256+x/256%256) (by omega)).1;have y2:=(h.cell (512+x/65536%256) (by omega)).1;have HV:Hid (zAp c x=c (x%256)|||c (256+x/256%256)|||c (512+x/65536%256)):=rfl;have l0:=hc (x%256);have l1:=hc (256+x/256%256);have l2:=hc (512+x/65536%256);have i0:((x%256:Nat):Int)<256:=by omega
 have i1:((x/256%256:Nat):Int)<256:=by omega
 have i2:((x/65536%256:Nat):Int)<256:=by omega
 clear m hc h;generalize x%256=p0 at *;generalize x/256%256=p1 at *;generalize x/65536%256=p2 at *;generalize c p0=c0 at *;generalize c (256+p1)=c1 at *;generalize c (512+p2)=c2 at *;have o1:=yK c0 c1 (by omega) (by omega);have o2:=yK (c0|||c1) c2 (Nat.lt_trans (Nat.or_lt_two_pow (n:=24) l0 l1) (by omega)) (by omega);rw[<-o1] at o2;have HO:=vl o2;clear o1 o2;go_in;go_wp2;go_quiet (fail);go_wp2;go_ret;refine⟨?_,Keep.alike (w':=w.drewN nq) ⟨rfl,rfl,rfl⟩⟩;rw[HV.out,<-HO.out];rfl
end Go.Proofs.YtbjcfkdnjaiclaaGreat
