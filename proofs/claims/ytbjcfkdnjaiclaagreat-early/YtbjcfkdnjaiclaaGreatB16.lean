import Derived.Test.YtbjcfkdnjaiclaaGreatB0
import Derived.Test.YtbjcfkdnjaiclaaGreatB15
/- Parts of the proof. -/
set_option linter.unusedVariables false
set_option linter.unusedSimpArgs false
set_option maxHeartbeats 4000000
set_option maxRecDepth 100000
namespace Go.Proofs.YtbjcfkdnjaiclaaGreat
open Go.RowKit Go.Proofs.Tryz Go.World
section
attribute [local go_sem ↓] Go.wp_at_zero Go.wp_at_succ
theorem zHX (w0 w:World)(nb:Nat)(n:Nt)(h:NwIs w0 w nb n)(hl:n.sets.length<=24)(hl2:n.follow.length<=24)(u:Value)(c:Cs)(hc:RangesAt w0 u c.ranges):
  Calls prog 123 #[.pointer (some ⟨nb,0,none⟩),.agg #[u,.bool c.others]] w fun e w'=>e=.returned n.spot.val∧NwIs w0 w' nb (n.place c)∧StayS w w':=by
 obtain⟨i0,hi0,hz0,hz1,hz2⟩:=info_parts yH;obtain⟨is_,his,hs0,hs1,hs2⟩:=info_parts zMD;obtain⟨sv,fv,rv,ev,ps,h⟩:=h;obtain⟨au,cu,hu,-⟩:=id hc;obtain⟨w1,hw1,HN1,HS1,y0,y1,HB2⟩:∃w1,w1=(w.alloc (.cells #[u,.bool c.others] 161)).alloc (.cells #[.int .i64 0,.int .i64 0,.bool false] 167)∧Hid (Nw w0 w1 nb n sv fv rv ev ps)∧Hid (StayS w w1∧w1.heap.size=w.heap.size+1+1)∧w1.cell? ⟨w.heap.size,0,none⟩=some u∧w1.cell? ⟨w.heap.size,1,none⟩=some (.bool c.others)∧Hid (w1.heap[w.heap.size+1]? =some (.cells #[.int .i64 0,.int .i64 0,.bool false] 167)):=by
  have k1:=kZ (b:=w.heap.size) w (.cells #[u,.bool c.others] 161) lQ;have k2:=kZ (b:=(w.alloc (.cells #[u,.bool c.others] 161)).heap.size) (w.alloc (.cells #[u,.bool c.others] 161)) (.cells #[.int .i64 0,.int .i64 0,.bool false] 167) lQ;have s1:(w.alloc (.cells #[u,.bool c.others] 161)).heap.size=w.heap.size+1:=by simp
  have hb:((w.alloc (.cells #[u,.bool c.others] 161)).alloc (.cells #[.int .i64 0,.int .i64 0,.bool false] 167)).heap[w.heap.size]? =some (.cells #[u,.bool c.others] 161):=(lG _ _ _ (by rw[s1];omega)).trans (gG _ _);refine⟨_,rfl,(h.grown k1).grown k2,⟨k1.stayS.trans k2.stayS,by simp⟩,?_,?_,?_⟩
  ·unfold cell?;rw[hb];rfl
  ·unfold cell?;rw[hb];rfl
  ·have:=gG (w.alloc (.cells #[u,.bool c.others] 161)) (.cells #[.int .i64 0,.int .i64 0,.bool false] 167)
   rw[s1] at this;exact this
 obtain⟨asv,csv,hsv⟩:=zE h.sOwn;obtain⟨af,cf,hfv⟩:=h.fOwn.form;rw[zM] at hfv;have hplen:=h.plen;have hH:w0.heap.size<=w.heap.size:=h.keep.size;subst hsv hfv;have x0:=HN1.out.cells.1;have xf0:=HN1.out.cells.2.2.2.2.2.2 0;have hlt1:=HN1.out.lt;have hH1:w0.heap.size<=w1.heap.size:=HN1.out.keep.size;have HNP:=vl HN1.out.box.1;have OW:w1.ownsRow w0.heap.size 161 2 (.slice asv n.sets.length csv) n.sets.length (vS ps):=HN1.out.sOwn;have hpw:=zE4 n.sets.length (by omega);have HRC:=vl hc;have HSP:Hid (n.spot.val=.agg #[.int .i64 ((2^n.sets.length:Nat):Int),.int .i64 ((2^n.sets.length:Nat):Int),.bool false]):=rfl;generalize hP:2^n.sets.length=P at *;generalize c.ranges.length=rl at *;subst hu;have lb0:w.heap.size<w1.heap.size:=by rw[HS1.out.2];omega
 go_in;apply wp_cut;intro K0 J;go_wp2;apply J.out;rw[<-hw1];clear hw1;go_wp2;go_region_law ((refine step_append_lies _ (by rfl) (.tmp 16) (.tmp 18) 130 (by rfl) w0.heap.size 161 is_ _ 2 32 underlying130 his hs0 hs1 hs2 rfl (by decide) (.slice asv n.sets.length csv) n.sets.length (vS ps) (by simp[Act.eval,Act.put]) ((OW.alloc _).drew) ⟨w1.heap.size,0,none⟩ 1 1 [.slice au rl cu,.bool c.others] (by simp[Act.eval,Act.put]) (by rfl) (news_of_block (cs:=#[.slice au rl cu,.bool c.others]) (t:=161) (fr:=(0,0)) (gG w1 _)) (by simp[Value.oneCell']) (by decide) (by unfold maxLen;omega) (by omega) (by simp;omega) (w1.heap.size+1) (by simp) ?_;intro gg cap w2 hown hgrow hat hlt;have hPB:=hgrow.block nb (by simp;omega) HNP.out;have x0b:w2.cell? ⟨nb,0,none⟩=some (.slice asv n.sets.length csv):=(cell?_of_block hPB).trans ((cell?_alloc_past _ _ _ hlt1).trans x0);have xf0b:w2.frozen? ⟨nb,0,none⟩=false:=(frozen?_of_block hPB).trans ((frozen?_alloc_past _ _ _ hlt1).trans xf0)))
 all_goals
  have hgrow':(w1.drew.alloc (Obj.cells #[Value.slice au rl cu,Value.bool c.others] 161)).grownBy w2 (Value.slice asv n.sets.length csv).ownBlock:=hgrow;have HN3:=vl <| (HN1.out.grown (Keep.drew _)).addSet rfl HRC.out hown hgrow' (by
   rcases hat with ha|ha
   ·exact .inl ha
   ·right;show w1.heap.size<=gg;omega)
  clear hown hgrow hgrow' hat hlt hPB x0b xf0b OW x0 xf0 y0 y1;generalize w2.setCell ⟨nb,0,none⟩ (.slice (some ⟨gg,0,none⟩) (n.sets.length+1) cap)=w3 at *;have v1:=HN3.out.1.cells.2.1;have hl3:=HN3.out.1.lt;have hH3:w0.heap.size<=w3.heap.size:=HN3.out.1.keep.size;have OF:w3.ownsRow w0.heap.size 3 1 (.slice af n.follow.length cf) n.follow.length ((ints n.follow).map fun x=>.int .i64 x):=by
   have:=HN3.out.1.fOwn;unfold OwnI at this;rw[zM] at this;exact this
  go_wp2_with (first|(at_builtin;refine wpList_append_lies _ rfl _ _ 45 rfl (w0.heap.size) 3 i0 (.int .i64 0) 1 8 underlying45 hi0 hz0 hz1 hz2 rfl (by decide) _ _ _ rfl (OF.alloc _) ⟨w3.heap.size,0,none⟩ 1 1 [.int .i64 0] rfl rfl (cell_one_new _ _ _) (by intro u hu;simp at hu;subst hu;rfl) (by decide) (by unfold maxLen;omega) (by omega) (by simp;omega) _ rfl ?_;intro g2 cap2 w4 hown2 hgrow2 hat2 hlt2;have hPB2:w4.heap[nb]? =w3.heap[nb]? :=(hgrow2.block _ (by simp;omega) HN3.out.1.box.2.1).trans (lG _ _ _ (by omega));have t1:w4.cell? ⟨nb,1,none⟩=some (.slice af n.follow.length cf):=(cell?_of_block hPB2).trans v1;have g1:w4.frozen? ⟨nb,1,none⟩=false:=(frozen?_of_block hPB2).trans (HN3.out.1.cells.2.2.2.2.2.2 1);have HN5:=HN3.out.1.addFollow (x:=0) rfl hown2 hgrow2 (by rcases hat2 with ha|ha;exact .inl ha;right;rw[ha];simp);have hsp:=HN5.2 _ _ (HN3.out.2 _ _ HB2.out);have HN6:=vl HN5;have HSP5:=vl hsp;have r0:(w4.setCell ⟨nb,1,none⟩ (.slice (some ⟨g2,0,none⟩) (n.follow.length+1) cap2)).cell? ⟨w.heap.size+1,0,none⟩=some (.int .i64 0):=(by unfold cell?;rw[hsp];rfl);have r1:(w4.setCell ⟨nb,1,none⟩ (.slice (some ⟨g2,0,none⟩) (n.follow.length+1) cap2)).cell? ⟨w.heap.size+1,1,none⟩=some (.int .i64 0):=(by unfold cell?;rw[hsp];rfl);have r2:(w4.setCell ⟨nb,1,none⟩ (.slice (some ⟨g2,0,none⟩) (n.follow.length+1) cap2)).cell? ⟨w.heap.size+1,2,none⟩=some (.bool false):=(by unfold cell?;rw[hsp];rfl);have q0:(w4.setCell ⟨nb,1,none⟩ (.slice (some ⟨g2,0,none⟩) (n.follow.length+1) cap2)).frozen? ⟨w.heap.size+1,0,none⟩=false:=(by unfold frozen?;rw[hsp];rfl);have q1:(w4.setCell ⟨nb,1,none⟩ (.slice (some ⟨g2,0,none⟩) (n.follow.length+1) cap2)).frozen? ⟨w.heap.size+1,1,none⟩=false:=(by unfold frozen?;rw[hsp];rfl);have q2:(w4.setCell ⟨nb,1,none⟩ (.slice (some ⟨g2,0,none⟩) (n.follow.length+1) cap2)).frozen? ⟨w.heap.size+1,2,none⟩=false:=(by unfold frozen?;rw[hsp];rfl);clear HN5 hsp))
  obtain⟨w9,hw9,c0,c1,c2,K9⟩:∃w9,w9=(((w4.setCell ⟨nb,1,none⟩ (.slice (some ⟨g2,0,none⟩) (n.follow.length+1) cap2)).setCell ⟨w.heap.size+1,0,none⟩ (.int .i64 (P:Int))).setCell ⟨w.heap.size+1,1,none⟩ (.int .i64 (P:Int))).setCell ⟨w.heap.size+1,2,none⟩ (.bool false)∧w9.cell? ⟨w.heap.size+1,0,none⟩=some (.int .i64 (P:Int))∧w9.cell? ⟨w.heap.size+1,1,none⟩=some (.int .i64 (P:Int))∧w9.cell? ⟨w.heap.size+1,2,none⟩=some (.bool false)∧Hid (NwIs w0 w9 nb (n.place c)∧StayS w w9):=by
   have hk:=HN6.out;have hb0:=HSP5.out;generalize w4.setCell ⟨nb,1,none⟩ (.slice (some ⟨g2,0,none⟩) (n.follow.length+1) cap2)=w5 at *;have b1:(w5.setCell ⟨w.heap.size+1,0,none⟩ (.int .i64 (P:Int))).heap[w.heap.size+1]? =some (.cells #[.int .i64 (P:Int),.int .i64 0,.bool false] 167):=by simp[setCell,lU,hb0]
   have n1:NwIs w0 (w5.setCell ⟨w.heap.size+1,0,none⟩ (.int .i64 (P:Int))) nb (n.place c):=NwIs.setSpan ⟨_,_,_,_,_,hk.1⟩ hb0 (by omega);have t1:StayS w (w5.setCell ⟨w.heap.size+1,0,none⟩ (.int .i64 (P:Int))):=jH ((HS1.out.1.trans HN3.out.2).trans hk.2) (by omega);generalize w5.setCell ⟨w.heap.size+1,0,none⟩ (.int .i64 (P:Int))=w6 at *;have b2:(w6.setCell ⟨w.heap.size+1,1,none⟩ (.int .i64 (P:Int))).heap[w.heap.size+1]? =some (.cells #[.int .i64 (P:Int),.int .i64 (P:Int),.bool false] 167):=by simp[setCell,lU,b1]
   have n2:NwIs w0 (w6.setCell ⟨w.heap.size+1,1,none⟩ (.int .i64 (P:Int))) nb (n.place c):=n1.setSpan b1 (by omega);have t2:StayS w (w6.setCell ⟨w.heap.size+1,1,none⟩ (.int .i64 (P:Int))):=jH t1 (by omega);generalize w6.setCell ⟨w.heap.size+1,1,none⟩ (.int .i64 (P:Int))=w7 at *;have b3:(w7.setCell ⟨w.heap.size+1,2,none⟩ (.bool false)).heap[w.heap.size+1]? =some (.cells #[.int .i64 (P:Int),.int .i64 (P:Int),.bool false] 167):=by simp[setCell,lU,b2]
   refine⟨_,rfl,?_,?_,?_,n2.setSpan b2 (by omega),jH t2 (by omega)⟩
   ·unfold cell?;rw[b3];rfl
   ·unfold cell?;rw[b3];rfl
   ·unfold cell?;rw[b3];rfl
  rw[<-hw9];clear hw9;refine bodyPost_ret (v:=.agg #[.int .i64 (P:Int),.int .i64 (P:Int),.bool false]) (by simp[results,results123,go_sem,c0,c1,c2]) rfl ?_;exact⟨by rw[HSP.out],K9.out.1,K9.out.2⟩
end
structure Tr where
 kind:Nat
 set:Cs
 parts:List Tr
 least:Nat
 most:Nat
 endless:Bool
 chars:Nat
def Tr.none:Tr:=⟨0,⟨[],false⟩,[],0,0,false,0⟩
def Tr.copies (t:Tr):Nat:=if t.endless then(if t.least=0 then 1 else t.least) else t.most
def TreeAt (w:World):Nat->Nat->Tr->Prop
 |0,_,_=>False
 |d+1,b,t=>b<w.heap.size∧∃rv pv,w.heap[b]? =some (.cells #[.int .i64 (t.kind:Int),rv,.bool t.set.others,pv,.int .i64 (t.least:Int),.int .i64 (t.most:Int),.bool t.endless,.int .i64 (t.chars:Int)] 165)∧RangesAt w rv t.set.ranges∧
   ∃ao cap,pv=.slice ao t.parts.length cap∧(t.parts.length<=cap∧t.parts.length<=1000000000000∧t.least<=1000∧t.most<=1000)∧cap<=maxLen∧∀i,i<t.parts.length->∃g o p,ao=some ⟨g,o,none⟩∧In w g∧w.cell? ⟨g,o+i,none⟩=some (.pointer (some ⟨p,0,none⟩))∧TreeAt w d p (t.parts.getD i Tr.none)
abbrev Lay:=Nt->Tr->Nt×Sn
def rowTo (sub:Lay)(n:Nt)(parts:List Tr):Nat->Nt×Sn
 |0=>(n,⟨0,0,true⟩)
 |j+1=>((sub (rowTo sub n parts j).1 (parts.getD j Tr.none)).1.link (rowTo sub n parts j).2.last (sub (rowTo sub n parts j).1 (parts.getD j Tr.none)).2.first,(rowTo sub n parts j).2.then (sub (rowTo sub n parts j).1 (parts.getD j Tr.none)).2)
def Sn.or (a b:Sn):Sn:=⟨a.first|||b.first,a.last|||b.last,a.empty||b.empty⟩
def vY (sub:Lay)(n:Nt)(parts:List Tr):Nat->Nt×Sn
 |0=>(n,⟨0,0,false⟩)
 |j+1=>((sub (vY sub n parts j).1 (parts.getD j Tr.none)).1,(vY sub n parts j).2.or (sub (vY sub n parts j).1 (parts.getD j Tr.none)).2)
def jP (t:Tr)(j:Nat)(q:Nt×Sn):Nt:=if t.endless&&(j+1==t.copies) then q.1.link q.2.last q.2.first else q.1
def zAH (t:Tr)(j:Nat)(q:Nt×Sn):Sn:=if t.least<=j then{q.2 with empty:=true} else q.2
def xS (sub:Lay)(n:Nt)(t:Tr):Nat->Nt×Sn
 |0=>(n,⟨0,0,true⟩)
 |j+1=>((jP t j (rowTo sub (xS sub n t j).1 t.parts t.parts.length)).link (xS sub n t j).2.last (zAH t j (rowTo sub (xS sub n t j).1 t.parts t.parts.length)).first,(xS sub n t j).2.then (zAH t j (rowTo sub (xS sub n t j).1 t.parts t.parts.length)))
def xC:Nat->Lay
 |0,n,_=>(n,⟨0,0,true⟩)
 |d+1,n,t=>if t.kind=1 then(n.place t.set,n.spot) else if t.kind=2 then rowTo (xC d) n t.parts t.parts.length else if t.kind=3 then vY (xC d) n t.parts t.parts.length else if t.kind=4 then xS (xC d) n t t.copies else(n,⟨0,0,true⟩)
def zW (f:Tr->Nat)(parts:List Tr):Nat->Nat
 |0=>0
 |j+1=>zW f parts j+f (parts.getD j Tr.none)
def yN:Nat->Tr->Nat
 |0,_=>0
 |d+1,t=>if t.kind=1 then 1 else if t.kind=2∨t.kind=3 then zW (yN d) t.parts t.parts.length else if t.kind=4 then t.copies*zW (yN d) t.parts t.parts.length else 0
structure Nt.Good (n:Nt):Prop where
 len:n.sets.length<=24
 same:n.follow.length=n.sets.length
 fol:∀x∈n.follow,x<2^n.sets.length
theorem Nt.Good.top {n:Nt}(h:n.Good):∀x∈n.follow,x<2^24:=fun x hx=>lZ (h.fol x hx) (kG (by omega) h.len)
theorem Sn.Small.up {s:Sn}{k m:Nat}(h:s.Small k)(hk:k<=m):s.Small m:=⟨lZ h.first (kG (by omega) hk),lZ h.last (kG (by omega) hk)⟩
theorem zBW (n:Nt)(a b j:Nat):(n.linkTo a b j).sets=n.sets∧(n.linkTo a b j).rules=n.rules∧(n.linkTo a b j).empty=n.empty∧(n.linkTo a b j).first=n.first∧(n.linkTo a b j).ends=n.ends:=by
 induction j with
 |zero=>exact⟨rfl,rfl,rfl,rfl,rfl⟩
 |succ j ih=>
  unfold Nt.linkTo;split
  ·exact ih
  ·exact ih
theorem zCg {n:Nt}(h:n.Good)(a b:Nat)(hb:b<2^n.sets.length):(n.link a b).Good∧(n.link a b).sets=n.sets:=by
 have e:=(zBW n a b n.follow.length).1;refine⟨⟨by unfold Nt.link;rw[e];exact h.len,by unfold Nt.link;rw[e,zFc];exact h.same,?_⟩,e⟩;unfold Nt.link;rw[e];exact zDf a b _ hb h.fol
theorem zIX {n:Nt}(h:n.Good)(c:Cs)(hl:n.sets.length+1<=24):(n.place c).Good∧(n.place c).sets.length=n.sets.length+1∧n.spot.Small (n.sets.length+1):=by
 have e:(n.place c).sets.length=n.sets.length+1:=by simp[Nt.place]
 have hp:2^n.sets.length<2^(n.sets.length+1):=Nat.pow_lt_pow_right (by omega) (by omega);refine⟨⟨by omega,by simp[Nt.place,h.same],fun x hx=>?_⟩,e,⟨hp,hp⟩⟩;rw[e];rcases kU.1 hx with h1|h1
 ·exact Nat.lt_trans (h.fol x h1) hp
 ·rw[kY.1 h1];exact Nat.pow_pos (by omega)
def Lays (sub:Lay)(cnt:Tr->Nat):Prop:=∀n t,n.Good->n.sets.length+cnt t<=24->(sub n t).1.Good∧(sub n t).1.sets.length=n.sets.length+cnt t∧(sub n t).2.Small (n.sets.length+cnt t)
theorem zAB (k:Nat)(e:Bool):(Sn.mk 0 0 e).Small k:=⟨Nat.pow_pos (by omega),Nat.pow_pos (by omega)⟩
theorem zCT (f:Tr->Nat)(parts:List Tr)(j m:Nat)(h:j<=m):zW f parts j<=zW f parts m:=by
 induction m with
 |zero=>rw[Nat.le_zero.1 h];exact lQ
 |succ m ih=>
  by_cases e:j=m+1
  ·rw[e];exact lQ
  ·exact lY (ih (by omega)) (Nat.le_add_right _ _)
theorem zAD {sub:Lay}{cnt:Tr->Nat}(h:Lays sub cnt){n:Nt}(hn:n.Good)(parts:List Tr)(j:Nat)(hl:n.sets.length+zW cnt parts j<=24):(rowTo sub n parts j).1.Good∧(rowTo sub n parts j).1.sets.length=n.sets.length+zW cnt parts j∧(rowTo sub n parts j).2.Small (n.sets.length+zW cnt parts j):=by
 induction j with
 |zero=>exact⟨hn,rfl,zAB _ _⟩
 |succ j ih=>
  have hl2:n.sets.length+(zW cnt parts j+cnt (parts.getD j Tr.none))<=24:=hl;obtain⟨h1,h2,h3⟩:=ih (by omega);obtain⟨g1,g2,g3⟩:=h _ (parts.getD j Tr.none) h1 (by omega);rw[h2] at g2 g3;have e:n.sets.length+zW cnt parts (j+1)=n.sets.length+zW cnt parts j+cnt (parts.getD j Tr.none):=by show n.sets.length+(zW cnt parts j+cnt (parts.getD j Tr.none))=_;omega
  rw[e];have k1:=zCg g1 (rowTo sub n parts j).2.last _ (by rw[g2];exact g3.first);exact⟨k1.1,by show((sub _ _).1.link _ _).sets.length=_;rw[k1.2];exact g2,Sn.then_small (h3.up (by omega)) g3⟩
theorem zB3 {sub:Lay}{cnt:Tr->Nat}(h:Lays sub cnt){n:Nt}(hn:n.Good)(parts:List Tr)(j:Nat)(hl:n.sets.length+zW cnt parts j<=24):(vY sub n parts j).1.Good∧(vY sub n parts j).1.sets.length=n.sets.length+zW cnt parts j∧(vY sub n parts j).2.Small (n.sets.length+zW cnt parts j):=by
 induction j with
 |zero=>exact⟨hn,rfl,zAB _ _⟩
 |succ j ih=>
  have hl2:n.sets.length+(zW cnt parts j+cnt (parts.getD j Tr.none))<=24:=hl;obtain⟨h1,h2,h3⟩:=ih (by omega);obtain⟨g1,g2,g3⟩:=h _ (parts.getD j Tr.none) h1 (by omega);rw[h2] at g2 g3;have e:n.sets.length+zW cnt parts (j+1)=n.sets.length+zW cnt parts j+cnt (parts.getD j Tr.none):=by show n.sets.length+(zW cnt parts j+cnt (parts.getD j Tr.none))=_;omega
  rw[e];have h4:=h3.up (m:=n.sets.length+zW cnt parts j+cnt (parts.getD j Tr.none)) (by omega);exact⟨g1,g2,⟨Nat.or_lt_two_pow h4.first g3.first,Nat.or_lt_two_pow h4.last g3.last⟩⟩
theorem zIc {t:Tr}{j k:Nat}{q:Nt×Sn}(h:q.2.Small k):(zAH t j q).Small k:=by
 unfold zAH;split
 ·exact⟨h.first,h.last⟩
 ·exact h
theorem zBx {sub:Lay}{cnt:Tr->Nat}(h:Lays sub cnt){n:Nt}(hn:n.Good)(t:Tr)(j:Nat)(hl:n.sets.length+j*zW cnt t.parts t.parts.length<=24):(xS sub n t j).1.Good∧(xS sub n t j).1.sets.length=n.sets.length+j*zW cnt t.parts t.parts.length∧(xS sub n t j).2.Small (n.sets.length+j*zW cnt t.parts t.parts.length):=by
 induction j with
 |zero=>exact⟨hn,by simp[xS],zAB _ _⟩
 |succ j ih=>
  rw[Nat.add_mul,Nat.one_mul] at hl ⊢;obtain⟨h1,h2,h3⟩:=ih (by omega);obtain⟨g1,g2,g3⟩:=zAD h h1 t.parts t.parts.length (by omega);rw[h2] at g2 g3;have k0:(jP t j (rowTo sub (xS sub n t j).1 t.parts t.parts.length)).Good∧(jP t j (rowTo sub (xS sub n t j).1 t.parts t.parts.length)).sets=(rowTo sub (xS sub n t j).1 t.parts t.parts.length).1.sets:=by
   unfold jP;split
   ·exact zCg g1 _ _ (by rw[g2];exact g3.first)
   ·exact⟨g1,rfl⟩
  have s2:=zIc (t:=t) (j:=j) g3;have k1:=zCg k0.1 (xS sub n t j).2.last (zAH t j (rowTo sub (xS sub n t j).1 t.parts t.parts.length)).first (by rw[k0.2,g2];exact s2.first)
  have e:n.sets.length+(j*zW cnt t.parts t.parts.length+zW cnt t.parts t.parts.length)=n.sets.length+j*zW cnt t.parts t.parts.length+zW cnt t.parts t.parts.length:=by omega
  rw[e];exact⟨k1.1,by show((jP t j _).link _ _).sets.length=_;rw[k1.2,k0.2];exact g2,Sn.then_small (h3.up (by omega)) s2⟩
theorem jU (d:Nat):Lays (xC d) (yN d):=by
 induction d with
 |zero=>exact fun n t hn _=>⟨hn,rfl,zAB _ _⟩
 |succ d ih=>
  intro n t hn hl;unfold xC;unfold yN at hl ⊢;by_cases k1:t.kind=1
  ·simp only[if_pos k1] at hl ⊢
   have:=zIX hn t.set hl;exact this
  ·simp only[if_neg k1] at hl ⊢
   by_cases k2:t.kind=2
   ·simp only[if_pos k2,if_pos (Or.inl k2:t.kind=2∨t.kind=3)] at hl ⊢
    exact zAD ih hn _ _ hl
   ·simp only[if_neg k2] at hl ⊢
    by_cases k3:t.kind=3
    ·simp only[if_pos k3,if_pos (Or.inr k3:t.kind=2∨t.kind=3)] at hl ⊢
     exact zB3 ih hn _ _ hl
    ·simp only[if_neg k3,if_neg (show¬(t.kind=2∨t.kind=3) by omega)] at hl ⊢
     by_cases k4:t.kind=4
     ·simp only[if_pos k4] at hl ⊢
      exact zBx ih hn t _ hl
     ·simp only[if_neg k4] at hl ⊢
      exact⟨hn,rfl,zAB _ _⟩
section
def zCa (w0:World)(nb d:Nat)(sub:Lay)(cnt:Tr->Nat):Prop:=∀(w:World) (n:Nt) (b:Nat) (t:Tr),NwIs w0 w nb n->n.Good->TreeAt w0 d b t->n.sets.length+cnt t<=24->Calls prog 89 #[.pointer (some ⟨nb,0,none⟩),.pointer (some ⟨b,0,none⟩)] w fun e w'=>e=.returned (sub n t).2.val∧NwIs w0 w' nb (sub n t).1∧StayS w w'
structure Al (w0 w wr:World)(nb:Nat)(n:Nt)(s:Sn):Prop where
 net:NwIs w0 wr nb n
 res:wr.heap[w.heap.size]? =some (.cells (Sn.mk 0 0 false).cells 167)
 all:wr.heap[w.heap.size+1]? =some (.cells s.cells 167)
 stay:StayS w wr
 old:w0.heap.size<=w.heap.size
theorem zF {w:World}{b:Nat}{s:Sn}(h:w.heap[b]? =some (.cells s.cells 167)):w.cell? ⟨b,0,none⟩=some (.int .i64 (s.first:Int))∧w.cell? ⟨b,1,none⟩=some (.int .i64 (s.last:Int))∧w.cell? ⟨b,2,none⟩=some (.bool s.empty)∧∀i,w.frozen? ⟨b,i,none⟩=false:=by
 refine⟨?_,?_,?_,fun i=>?_⟩
 ·unfold cell?;rw[h];rfl
 ·unfold cell?;rw[h];rfl
 ·unfold cell?;rw[h];rfl
 ·unfold frozen?;rw[h];simp
def World.span (w:World)(b:Nat)(s:Sn):World:=((w.setCell ⟨b,0,none⟩ (.int .i64 (s.first:Int))).setCell ⟨b,1,none⟩ (.int .i64 (s.last:Int))).setCell ⟨b,2,none⟩ (.bool s.empty)
theorem zEQ {w:World}{b:Nat}{s s':Sn}(h:w.heap[b]? =some (.cells s.cells 167)):(World.span w b s').heap[b]? =some (.cells s'.cells 167)∧(∀k,k≠b->(World.span w b s').heap[k]? =w.heap[k]?)∧(∀w0 nb n,NwIs w0 w nb n->w0.heap.size<=b->NwIs w0 (World.span w b s') nb n):=by
 have c2:(w.setCell ⟨b,0,none⟩ (.int .i64 (s'.first:Int))).heap[b]? =some (.cells #[.int .i64 (s'.first:Int),.int .i64 (s.last:Int),.bool s.empty] 167):=by simp[setCell,lU,h,Sn.cells]
 have e1:∀k,k≠b->(w.setCell ⟨b,0,none⟩ (.int .i64 (s'.first:Int))).heap[k]? =w.heap[k]? :=fun k hk=>lJ _ _ _ _ hk;have n1:∀w0 nb n,NwIs w0 w nb n->w0.heap.size<=b->NwIs w0 (w.setCell ⟨b,0,none⟩ (.int .i64 (s'.first:Int))) nb n:=fun w0 nb n hn hb=>hn.setSpan h hb;unfold World.span;generalize w.setCell ⟨b,0,none⟩ (.int .i64 (s'.first:Int))=w1 at *;have c3:(w1.setCell ⟨b,1,none⟩ (.int .i64 (s'.last:Int))).heap[b]? =some (.cells #[.int .i64 (s'.first:Int),.int .i64 (s'.last:Int),.bool s.empty] 167):=by simp[setCell,lU,c2]
 have e2:∀k,k≠b->(w1.setCell ⟨b,1,none⟩ (.int .i64 (s'.last:Int))).heap[k]? =w.heap[k]? :=fun k hk=>(lJ _ _ _ _ hk).trans (e1 k hk);have n2:∀w0 nb n,NwIs w0 w nb n->w0.heap.size<=b->NwIs w0 (w1.setCell ⟨b,1,none⟩ (.int .i64 (s'.last:Int))) nb n:=fun w0 nb n hn hb=>(n1 w0 nb n hn hb).setSpan c2 hb;generalize w1.setCell ⟨b,1,none⟩ (.int .i64 (s'.last:Int))=w2 at *;refine⟨by simp[setCell,lU,c3,Sn.cells],fun k hk=>(lJ _ _ _ _ hk).trans (e2 k hk),fun w0 nb n hn hb=>(n2 w0 nb n hn hb).setSpan c3 hb⟩
section
variable {w0 w wr w2:World} {nb:Nat} {n:Nt} {s:Sn}
theorem Al.call {n2:Nt}(h:Al w0 w wr nb n s)(hn:NwIs w0 w2 nb n2)(hs:StayS wr w2):Al w0 w w2 nb n2 s:=⟨hn,hs _ _ h.res,hs _ _ h.all,h.stay.trans hs,h.old⟩
theorem Al.grown (h:Al w0 w wr nb n s)(hk:Grew wr w2):Al w0 w w2 nb n s:=h.call (h.net.grown hk) hk.stayS
theorem Al.setAll (h:Al w0 w wr nb n s)(s':Sn):Al w0 w (World.span wr (w.heap.size+1) s') nb n s':=by
 obtain⟨h1,h2,h3⟩:=zEQ (s':=s') h.all;have ho:=h.old;exact⟨h3 _ _ _ h.net (by omega),(h2 _ (by omega)).trans h.res,h1,fun k c hk=>by
  have hl:=(kQ.1 hk).1;exact(h2 k (by omega)).trans (h.stay k c hk),h.old⟩
theorem Al.fin (h:Al w0 w wr nb n s)(s':Sn):NwIs w0 (World.span wr w.heap.size s') nb n∧StayS w (World.span wr w.heap.size s')∧(World.span wr w.heap.size s').cell? ⟨w.heap.size,0,none⟩=some (.int .i64 (s'.first:Int))∧(World.span wr w.heap.size s').cell? ⟨w.heap.size,1,none⟩=some (.int .i64 (s'.last:Int))∧(World.span wr w.heap.size s').cell? ⟨w.heap.size,2,none⟩=some (.bool s'.empty):=by
 obtain⟨h1,h2,h3⟩:=zEQ (s':=s') h.res;obtain⟨c0,c1,c2,_⟩:=zF h1;exact⟨h3 _ _ _ h.net h.old,fun k c hk=>by
  have hl:=(kQ.1 hk).1;exact(h2 k (by omega)).trans (h.stay k c hk),c0,c1,c2⟩
theorem Al.start (h:NwIs w0 w nb n)(s:Sn):Al w0 w ((w.alloc (.cells (Sn.mk 0 0 false).cells 167)).alloc (.cells s.cells 167)) nb n s:=by
 have s1:(w.alloc (.cells (Sn.mk 0 0 false).cells 167)).heap.size=w.heap.size+1:=by simp
 have k1:=kZ (b:=w.heap.size) w (.cells (Sn.mk 0 0 false).cells 167) lQ;have k2:=kZ (b:=(w.alloc (.cells (Sn.mk 0 0 false).cells 167)).heap.size) (w.alloc (.cells (Sn.mk 0 0 false).cells 167)) (.cells s.cells 167) lQ;refine⟨(h.grown k1).grown k2,(lG _ _ _ (by rw[s1];omega)).trans (gG _ _),?_,k1.stayS.trans k2.stayS,by obtain⟨_,_,_,_,_,h⟩:=h;exact h.keep.size⟩;have:=gG (w.alloc (.cells (Sn.mk 0 0 false).cells 167)) (.cells s.cells 167);rw[s1] at this;exact this
end
theorem zDg (w0:World)(nb d:Nat)(sub:Lay)(cnt:Tr->Nat)(hs:zCa w0 nb d sub cnt)(hy:Lays sub cnt)(w:World)(n:Nt)(b:Nat)(t:Tr)(h:NwIs w0 w nb n)(hg:n.Good)(ht:TreeAt w0 (d+1) b t)(hl:n.sets.length+zW cnt t.parts t.parts.length<=24)(hpl:t.parts.length<=1000000000000):
  Calls prog 124 #[.pointer (some ⟨nb,0,none⟩),.pointer (some ⟨b,0,none⟩)] w fun e w'=>e=.returned (rowTo sub n t.parts t.parts.length).2.val∧NwIs w0 w' nb (rowTo sub n t.parts t.parts.length).1∧StayS w w':=by
 obtain⟨hbl,rv,pv,hb,_,ao,cap,rfl,_,_,hpc⟩:=ht;have HPT:Hid (∀wr n2,NwIs w0 wr nb n2->wr.cell? ⟨b,3,none⟩=some (.slice ao t.parts.length cap)∧∀i,i<t.parts.length->∃g o p,ao=some ⟨g,o,none⟩∧wr.cell? ⟨g,o+i,none⟩=some (.pointer (some ⟨p,0,none⟩))∧TreeAt w0 d p (t.parts.getD i Tr.none)):=by
  rintro wr n2 ⟨_,_,_,_,_,hN⟩;have hk:=hN.keep;have hb2:=(hk.block b hbl (kJ hbl)).trans hb;refine⟨by unfold cell?;rw[hb2];rfl,fun i hi=>?_⟩;obtain⟨g,o,p,ha,hgi,hc,hti⟩:=hpc i hi;exact⟨g,o,p,ha,zA hc hgi hk,hti⟩
 obtain⟨RT,hRT⟩:∃RT,RT=rowTo sub n t.parts:=⟨_,rfl⟩
 have HRT:Hid (RT 0=(n,⟨0,0,true⟩)∧(∀j,RT (j+1)=((sub (RT j).1 (t.parts.getD j Tr.none)).1.link (RT j).2.last (sub (RT j).1 (t.parts.getD j Tr.none)).2.first,(RT j).2.then (sub (RT j).1 (t.parts.getD j Tr.none)).2))∧(∀j,j<=t.parts.length->(RT j).1.Good∧(RT j).2.Small 24)∧(∀j,j<t.parts.length->(RT j).1.sets.length+cnt (t.parts.getD j Tr.none)<=24∧(sub (RT j).1 (t.parts.getD j Tr.none)).1.Good∧(sub (RT j).1 (t.parts.getD j Tr.none)).2.Small 24)∧RT t.parts.length=rowTo sub n t.parts t.parts.length):=by
  rw[hRT];have hm:∀j,j<=t.parts.length->n.sets.length+zW cnt t.parts j<=24:=fun j hj=>lY (Nat.add_le_add_left (zCT cnt t.parts j _ hj) _) hl;refine⟨rfl,fun j=>rfl,fun j hj=>?_,fun j hj=>?_,rfl⟩
  ·have:=zAD hy hg t.parts j (hm j hj)
   exact⟨this.1,this.2.2.up (hm j hj)⟩
  ·have h1:=zAD hy hg t.parts j (hm j (by omega))
   have h2:n.sets.length+(zW cnt t.parts j+cnt (t.parts.getD j Tr.none))<=24:=hm (j+1) hj;have h3:=hy _ (t.parts.getD j Tr.none) h1.1 (by rw[h1.2.1];omega);exact⟨by rw[h1.2.1];omega,h3.1,h3.2.2.up (by rw[h1.2.1];omega)⟩
 obtain⟨w1,hw1,HA1⟩:∃w1,w1=(w.alloc (.cells #[.int .i64 0,.int .i64 0,.bool false] 167)).alloc (.cells #[.int .i64 0,.int .i64 0,.bool true] 167)∧Hid (Al w0 w w1 nb n ⟨0,0,true⟩):=⟨_,rfl,Al.start h ⟨0,0,true⟩⟩
 have HS:=vl hs;generalize hRE:rowTo sub n t.parts t.parts.length=RE at *;clear hRE hRT hpc hb hs hy hl h hg;go_in;apply wp_cut;intro K0 J;go_wp2;apply J.out;clear J;apply wp_cut;intro K0 J;go_wp2;apply J.out;clear J;rw[<-hw1];clear hw1;have y3:=(HPT.out w1 n HA1.out.net).1;go_wp2;clear y3;go_loopg [15] t.parts.length (fun q i wr=>∃j:Nat,q=t.parts.length-j∧j<=t.parts.length∧i=.int .i64 (j:Int)∧Al w0 w wr nb (RT j).1 (RT j).2)
 case atStart=>exact⟨0,rfl,lX,rfl,by rw[HRT.out.1];exact HA1.out⟩
 case round=>
  obtain⟨j,hgk,hj,rfl,hA⟩:=hrel;have HB:Hid (gk=t.parts.length-j∧Al w0 w wr nb (RT j).1 (RT j).2):=⟨hgk,hA⟩
  by_cases hj2:j<t.parts.length
  ·have i1:(j:Int)<(t.parts.length:Int):=by omega
   obtain⟨g,o,p,rfl,hc,hti⟩:=(HPT.out wr _ hA.net).2 j hj2;obtain⟨b1,b2,b3⟩:=HRT.out.2.2.2.1 j hj2;obtain⟨g1,g2⟩:=HRT.out.2.2.1 j hj;have HC0:=HS.out wr (RT j).1 p (t.parts.getD j Tr.none) hA.net g1 hti b1;have HTH0:=fun w6 (h6:NwIs w0 w6 nb (sub (RT j).1 (t.parts.getD j Tr.none)).1)=>zCD w0 w6 nb _ h6 (by rw[b2.same];exact b2.len) b2.top (RT j).2 (sub (RT j).1 (t.parts.getD j Tr.none)).2 g2 b3;have HN:=vl <| HRT.out.2.1 j;have HA:=vl hA;clear hgk hA hti b1 b2 b3 g1 g2;generalize (RT j).1=nj at *;generalize (RT j).2=sj at *;generalize (sub nj (t.parts.getD j Tr.none)).1=q1 at *;generalize (sub nj (t.parts.getD j Tr.none)).2=q2 at *;have HC:Hid (Calls prog 89 #[.pointer (some ⟨nb,0,none⟩),.pointer (some ⟨p,0,none⟩)] wr fun e w'=>e=.returned (.agg #[.int .i64 (q2.first:Int),.int .i64 (q2.last:Int),.bool q2.empty])∧NwIs w0 w' nb q1∧StayS wr w'):=HC0;have HTH:Hid (∀w6,NwIs w0 w6 nb q1->Calls prog 164 #[.pointer (some ⟨nb,0,none⟩),.agg #[.int .i64 (sj.first:Int),.int .i64 (sj.last:Int),.bool sj.empty],.agg #[.int .i64 (q2.first:Int),.int .i64 (q2.last:Int),.bool q2.empty]] w6 fun e w'=>e=.returned (.agg #[.int .i64 ((sj.then q2).first:Int),.int .i64 ((sj.then q2).last:Int),.bool (sj.then q2).empty])∧NwIs w0 w' nb (q1.link sj.last q2.first)∧StayS w6 w'):=HTH0;clear HC0 HTH0;generalize sj.then q2=s9 at *
   go_wp2_with (first|(go_at_call 89;refine HC.out.mono ?_;rintro e w5 ⟨rfl,hN5,hS5⟩;have A5:=HA.out.call hN5 hS5;have A6:=A5.grown (kZ w5 (Obj.cells #[.int .i64 (q2.first:Int),.int .i64 (q2.last:Int),.bool q2.empty] 167) lQ);obtain⟨c0,c1,c2,-⟩:=zF A6.all;obtain⟨d0,d1,d2,-⟩:=zF (s:=q2) (gG w5 (Obj.cells #[.int .i64 (q2.first:Int),.int .i64 (q2.last:Int),.bool q2.empty] 167));have HA6:Hid (Al w0 w (w5.alloc (Obj.cells #[.int .i64 (q2.first:Int),.int .i64 (q2.last:Int),.bool q2.empty] 167)) nb q1 sj):=A6;clear A5 A6 hN5 hS5)|(go_at_call 164;refine(HTH.out _ HA6.out.net).mono ?_;rintro e w7 ⟨rfl,hN7,hS7⟩;have A7:=HA6.out.call hN7 hS7;obtain⟨e0,e1,e2,ef⟩:=zF A7.all;have f0:=ef 0;have f1:=ef 1;have f2:=ef 2;have HA8:Hid (Al w0 w (World.span w7 (w.heap.size+1) s9) nb (q1.link sj.last q2.first) s9):=A7.setAll s9;clear A7 hN7 hS7 ef))
   go_roundg (t.parts.length-(j+1))
   case measure=>rw[HB.out.1];omega
   case rel=>exact⟨j+1,rfl,by omega,by go_num,by rw[HN.out];exact HA8.out⟩
  ·have i1:(t.parts.length:Int)<=(j:Int):=by omega
   have e:j=t.parts.length:=by omega
   subst e;rw[HRT.out.2.2.2.2] at hA;obtain⟨c0,c1,c2,-⟩:=zF hA.all;obtain⟨r0,r1,r2,rf⟩:=zF hA.res;have f0:=rf 0;have f1:=rf 1;have f2:=rf 2;have HF:Hid (Al w0 w wr nb RE.1 RE.2):=hA;clear hgk hA rf;go_wp2;obtain⟨w9,hw9,K9,z0,z1,z2⟩:∃w9,w9=((wr.setCell ⟨w.heap.size,0,none⟩ (.int .i64 (RE.2.first:Int))).setCell ⟨w.heap.size,1,none⟩ (.int .i64 (RE.2.last:Int))).setCell ⟨w.heap.size,2,none⟩ (.bool RE.2.empty)∧Hid (NwIs w0 w9 nb RE.1∧StayS w w9)∧w9.cell? ⟨w.heap.size,0,none⟩=some (.int .i64 (RE.2.first:Int))∧w9.cell? ⟨w.heap.size,1,none⟩=some (.int .i64 (RE.2.last:Int))∧w9.cell? ⟨w.heap.size,2,none⟩=some (.bool RE.2.empty):=by
    obtain⟨h1,h2,h3,h4,h5⟩:=HF.out.fin RE.2;exact⟨_,rfl,⟨h1,h2⟩,h3,h4,h5⟩
   rw[<-hw9];clear hw9;refine bodyPost_ret (v:=.agg #[.int .i64 (RE.2.first:Int),.int .i64 (RE.2.last:Int),.bool RE.2.empty]) (by simp[results,results124,go_sem,z0,z1,z2]) rfl ?_;exact⟨rfl,K9.out.1,K9.out.2⟩
end
theorem zEs (w0:World)(nb d:Nat)(sub:Lay)(cnt:Tr->Nat)(hs:zCa w0 nb d sub cnt)(hy:Lays sub cnt)(w:World)(n:Nt)(b:Nat)(t:Tr)(h:NwIs w0 w nb n)(hg:n.Good)(ht:TreeAt w0 (d+1) b t)(hl:n.sets.length+zW cnt t.parts t.parts.length<=24)(hpl:t.parts.length<=1000000000000):
  Calls prog 125 #[.pointer (some ⟨nb,0,none⟩),.pointer (some ⟨b,0,none⟩)] w fun e w'=>e=.returned (vY sub n t.parts t.parts.length).2.val∧NwIs w0 w' nb (vY sub n t.parts t.parts.length).1∧StayS w w':=by
 obtain⟨hbl,rv,pv,hb,_,ao,cap,rfl,_,_,hpc⟩:=ht;have HPT:Hid (∀wr n2,NwIs w0 wr nb n2->wr.cell? ⟨b,3,none⟩=some (.slice ao t.parts.length cap)∧∀i,i<t.parts.length->∃g o p,ao=some ⟨g,o,none⟩∧wr.cell? ⟨g,o+i,none⟩=some (.pointer (some ⟨p,0,none⟩))∧TreeAt w0 d p (t.parts.getD i Tr.none)):=by
  rintro wr n2 ⟨_,_,_,_,_,hN⟩;have hk:=hN.keep;have hb2:=(hk.block b hbl (kJ hbl)).trans hb;refine⟨by unfold cell?;rw[hb2];rfl,fun i hi=>?_⟩;obtain⟨g,o,p,ha,hgi,hc,hti⟩:=hpc i hi;exact⟨g,o,p,ha,zA hc hgi hk,hti⟩
 obtain⟨RT,hRT⟩:∃RT,RT=vY sub n t.parts:=⟨_,rfl⟩
 have HRT:Hid (RT 0=(n,⟨0,0,false⟩)∧(∀j,RT (j+1)=((sub (RT j).1 (t.parts.getD j Tr.none)).1,(RT j).2.or (sub (RT j).1 (t.parts.getD j Tr.none)).2))∧(∀j,j<=t.parts.length->(RT j).1.Good∧(RT j).2.Small 24)∧(∀j,j<t.parts.length->(RT j).1.sets.length+cnt (t.parts.getD j Tr.none)<=24∧(sub (RT j).1 (t.parts.getD j Tr.none)).1.Good∧(sub (RT j).1 (t.parts.getD j Tr.none)).2.Small 24)∧RT t.parts.length=vY sub n t.parts t.parts.length):=by
  rw[hRT];have hm:∀j,j<=t.parts.length->n.sets.length+zW cnt t.parts j<=24:=fun j hj=>lY (Nat.add_le_add_left (zCT cnt t.parts j _ hj) _) hl;refine⟨rfl,fun j=>rfl,fun j hj=>?_,fun j hj=>?_,rfl⟩
  ·have:=zB3 hy hg t.parts j (hm j hj)
   exact⟨this.1,this.2.2.up (hm j hj)⟩
  ·have h1:=zB3 hy hg t.parts j (hm j (by omega))
   have h2:n.sets.length+(zW cnt t.parts j+cnt (t.parts.getD j Tr.none))<=24:=hm (j+1) hj;have h3:=hy _ (t.parts.getD j Tr.none) h1.1 (by rw[h1.2.1];omega);exact⟨by rw[h1.2.1];omega,h3.1,h3.2.2.up (by rw[h1.2.1];omega)⟩
 obtain⟨w1,hw1,HA1⟩:∃w1,w1=(w.alloc (.cells #[.int .i64 0,.int .i64 0,.bool false] 167)).alloc (.cells #[.int .i64 0,.int .i64 0,.bool false] 167)∧Hid (Al w0 w w1 nb n ⟨0,0,false⟩):=⟨_,rfl,Al.start h ⟨0,0,false⟩⟩
 have HS:=vl hs;generalize hRE:vY sub n t.parts t.parts.length=RE at *;clear hRE hRT hpc hb hs hy hl h hg;go_in;apply wp_cut;intro K0 J;go_wp2;apply J.out;clear J;apply wp_cut;intro K0 J;go_wp2;apply J.out;clear J;rw[<-hw1];clear hw1;have y3:=(HPT.out w1 n HA1.out.net).1;go_wp2;clear y3;go_loopg [15] t.parts.length (fun q i wr=>∃j:Nat,q=t.parts.length-j∧j<=t.parts.length∧i=.int .i64 (j:Int)∧Al w0 w wr nb (RT j).1 (RT j).2)
 case atStart=>exact⟨0,rfl,lX,rfl,by rw[HRT.out.1];exact HA1.out⟩
 case round=>
  obtain⟨j,hgk,hj,rfl,hA⟩:=hrel;have HB:Hid (gk=t.parts.length-j∧Al w0 w wr nb (RT j).1 (RT j).2):=⟨hgk,hA⟩
  by_cases hj2:j<t.parts.length
  ·have i1:(j:Int)<(t.parts.length:Int):=by omega
   obtain⟨g,o,p,rfl,hc,hti⟩:=(HPT.out wr _ hA.net).2 j hj2;obtain⟨b1,b2,b3⟩:=HRT.out.2.2.2.1 j hj2;obtain⟨g1,g2⟩:=HRT.out.2.2.1 j hj;have HC0:=HS.out wr (RT j).1 p (t.parts.getD j Tr.none) hA.net g1 hti b1;have l1:(RT j).2.first<16777216:=g2.first
   have l2:(RT j).2.last<16777216:=g2.last;have l3:(sub (RT j).1 (t.parts.getD j Tr.none)).2.first<16777216:=b3.first
   have l4:(sub (RT j).1 (t.parts.getD j Tr.none)).2.last<16777216:=b3.last;have HN:=vl <| HRT.out.2.1 j;have HA:=vl hA;clear hgk hA hti b1 b2 b3 g1 g2;generalize (RT j).1=nj at *;generalize (RT j).2=sj at *;generalize (sub nj (t.parts.getD j Tr.none)).1=q1 at *;generalize (sub nj (t.parts.getD j Tr.none)).2=q2 at *;have HC:Hid (Calls prog 89 #[.pointer (some ⟨nb,0,none⟩),.pointer (some ⟨p,0,none⟩)] wr fun e w'=>e=.returned (.agg #[.int .i64 (q2.first:Int),.int .i64 (q2.last:Int),.bool q2.empty])∧NwIs w0 w' nb q1∧StayS wr w'):=HC0;clear HC0;have hor1:bits .or .i64 (sj.first:Int) (q2.first:Int)=((sj.first|||q2.first:Nat):Int):=yK _ _ (by omega) (by omega);have hor2:bits .or .i64 (sj.last:Int) (q2.last:Int)=((sj.last|||q2.last:Nat):Int):=yK _ _ (by omega) (by omega);clear l1 l2 l3 l4;have HW6:Hid (∀w5,Al w0 w w5 nb q1 sj->w.heap.size+1<w5.heap.size∧Al w0 w (w5.alloc (Obj.cells #[.int .i64 (q2.first:Int),.int .i64 (q2.last:Int),.bool q2.empty] 167)) nb q1 sj∧(w5.alloc (Obj.cells #[.int .i64 (q2.first:Int),.int .i64 (q2.last:Int),.bool q2.empty] 167)).heap[w5.heap.size]? =some (.cells q2.cells 167)):=fun w5 h5=>⟨(kQ.1 h5.all).1,h5.grown (kZ w5 _ lQ),gG w5 _⟩
   have HOR:Hid (sj.or q2=⟨sj.first|||q2.first,sj.last|||q2.last,sj.empty||q2.empty⟩):=rfl;rw[HOR.out] at HN;clear HOR;obtain⟨af,al,ae⟩:=sj;obtain⟨bf,bl,be⟩:=q2;have HC2:Hid (Calls prog 89 #[.pointer (some ⟨nb,0,none⟩),.pointer (some ⟨p,0,none⟩)] wr fun e w'=>e=.returned (.agg #[.int .i64 (bf:Int),.int .i64 (bl:Int),.bool be])∧NwIs w0 w' nb q1∧StayS wr w'):=HC.out;clear HC;have hor1':bits .or .i64 (af:Int) (bf:Int)=((af|||bf:Nat):Int):=hor1;have hor2':bits .or .i64 (al:Int) (bl:Int)=((al|||bl:Nat):Int):=hor2;clear hor1 hor2;have HN2:Hid (RT (j+1)=(q1,⟨af|||bf,al|||bl,ae||be⟩)):=HN.out;clear HN;have HBX:Hid (∀wq:World,wq.heap[w.heap.size+1]? =some (.cells #[.int .i64 (af:Int),.int .i64 (al:Int),.bool ae] 167)->∀b8,w.heap.size+1<b8->wq.heap[b8]? =some (.cells #[.int .i64 (bf:Int),.int .i64 (bl:Int),.bool be] 167)->∀x y:Nat,
     ((wq.setCell ⟨w.heap.size+1,0,none⟩ (.int .i64 (x:Int))).cell? ⟨w.heap.size+1,1,none⟩=some (.int .i64 (al:Int))∧(wq.setCell ⟨w.heap.size+1,0,none⟩ (.int .i64 (x:Int))).cell? ⟨b8,1,none⟩=some (.int .i64 (bl:Int))∧(wq.setCell ⟨w.heap.size+1,0,none⟩ (.int .i64 (x:Int))).frozen? ⟨w.heap.size+1,1,none⟩=false)∧
     (((wq.setCell ⟨w.heap.size+1,0,none⟩ (.int .i64 (x:Int))).setCell ⟨w.heap.size+1,1,none⟩ (.int .i64 (y:Int))).cell? ⟨w.heap.size+1,2,none⟩=some (.bool ae)∧((wq.setCell ⟨w.heap.size+1,0,none⟩ (.int .i64 (x:Int))).setCell ⟨w.heap.size+1,1,none⟩ (.int .i64 (y:Int))).cell? ⟨b8,2,none⟩=some (.bool be)∧((wq.setCell ⟨w.heap.size+1,0,none⟩ (.int .i64 (x:Int))).setCell ⟨w.heap.size+1,1,none⟩ (.int .i64 (y:Int))).frozen? ⟨w.heap.size+1,2,none⟩=false)):=by
    intro wq hq b8 hb8 h8 x y;have c2:(wq.setCell ⟨w.heap.size+1,0,none⟩ (.int .i64 (x:Int))).heap[w.heap.size+1]? =some (.cells #[.int .i64 (x:Int),.int .i64 (al:Int),.bool ae] 167):=by simp[setCell,lU,hq]
    have c8:(wq.setCell ⟨w.heap.size+1,0,none⟩ (.int .i64 (x:Int))).heap[b8]? =some (.cells #[.int .i64 (bf:Int),.int .i64 (bl:Int),.bool be] 167):=(lJ _ _ _ _ (by show b8≠w.heap.size+1;omega)).trans h8;generalize wq.setCell ⟨w.heap.size+1,0,none⟩ (.int .i64 (x:Int))=w6 at *;have c3:(w6.setCell ⟨w.heap.size+1,1,none⟩ (.int .i64 (y:Int))).heap[w.heap.size+1]? =some (.cells #[.int .i64 (x:Int),.int .i64 (y:Int),.bool ae] 167):=by simp[setCell,lU,c2]
    have c9:(w6.setCell ⟨w.heap.size+1,1,none⟩ (.int .i64 (y:Int))).heap[b8]? =some (.cells #[.int .i64 (bf:Int),.int .i64 (bl:Int),.bool be] 167):=(lJ _ _ _ _ (by show b8≠w.heap.size+1;omega)).trans c8;refine⟨⟨?_,?_,?_⟩,?_,?_,?_⟩
    ·unfold cell?;rw[c2];rfl
    ·unfold cell?;rw[c8];rfl
    ·unfold frozen?;rw[c2];rfl
    ·unfold cell?;rw[c3];rfl
    ·unfold cell?;rw[c9];rfl
    ·unfold frozen?;rw[c3];rfl
   rcases ae with _|_
   ·have HN3:Hid (RT (j+1)=(q1,⟨af|||bf,al|||bl,be⟩)):=HN2.out
    go_wp2_with (first|(go_at_call 89;refine HC2.out.mono ?_;rintro e w5 ⟨rfl,hN5,hS5⟩;have A5:=HA.out.call hN5 hS5;obtain⟨hlt5,A6,hb8⟩:=HW6.out w5 A5;obtain⟨c0,c1,c2,cf⟩:=zF A6.all;have f0:=cf 0;obtain⟨d0,d1,d2,-⟩:=zF hb8;obtain⟨⟨k1,k2,k3⟩,k4,k5,k6⟩:=HBX.out _ A6.all w5.heap.size hlt5 hb8 (af|||bf) (al|||bl);have HA8:Hid (Al w0 w (World.span (w5.alloc (Obj.cells #[.int .i64 (bf:Int),.int .i64 (bl:Int),.bool be] 167)) (w.heap.size+1) ⟨af|||bf,al|||bl,be⟩) nb q1 ⟨af|||bf,al|||bl,be⟩):=A6.setAll _;clear A5 A6 hN5 hS5 cf hb8 hlt5))
    go_roundg (t.parts.length-(j+1))
    case measure=>rw[HB.out.1];omega
    case rel=>exact⟨j+1,rfl,by omega,by go_num,by rw[HN3.out];exact HA8.out⟩
   ·have HN3:Hid (RT (j+1)=(q1,⟨af|||bf,al|||bl,true⟩)):=HN2.out
    go_wp2_with (first|(go_at_call 89;refine HC2.out.mono ?_;rintro e w5 ⟨rfl,hN5,hS5⟩;have A5:=HA.out.call hN5 hS5;obtain⟨hlt5,A6,hb8⟩:=HW6.out w5 A5;obtain⟨c0,c1,c2,cf⟩:=zF A6.all;have f0:=cf 0;obtain⟨d0,d1,d2,-⟩:=zF hb8;obtain⟨⟨k1,k2,k3⟩,k4,k5,k6⟩:=HBX.out _ A6.all w5.heap.size hlt5 hb8 (af|||bf) (al|||bl);have HA8:Hid (Al w0 w (World.span (w5.alloc (Obj.cells #[.int .i64 (bf:Int),.int .i64 (bl:Int),.bool be] 167)) (w.heap.size+1) ⟨af|||bf,al|||bl,true⟩) nb q1 ⟨af|||bf,al|||bl,true⟩):=A6.setAll _;clear A5 A6 hN5 hS5 cf hb8 hlt5))
    go_roundg (t.parts.length-(j+1))
    case measure=>rw[HB.out.1];omega
    case rel=>exact⟨j+1,rfl,by omega,by go_num,by rw[HN3.out];exact HA8.out⟩
  ·have i1:(t.parts.length:Int)<=(j:Int):=by omega
   have e:j=t.parts.length:=by omega
   subst e;rw[HRT.out.2.2.2.2] at hA;obtain⟨c0,c1,c2,-⟩:=zF hA.all;obtain⟨r0,r1,r2,rf⟩:=zF hA.res;have f0:=rf 0;have f1:=rf 1;have f2:=rf 2;have HF:Hid (Al w0 w wr nb RE.1 RE.2):=hA;clear hgk hA rf;go_wp2;obtain⟨w9,hw9,K9,z0,z1,z2⟩:∃w9,w9=((wr.setCell ⟨w.heap.size,0,none⟩ (.int .i64 (RE.2.first:Int))).setCell ⟨w.heap.size,1,none⟩ (.int .i64 (RE.2.last:Int))).setCell ⟨w.heap.size,2,none⟩ (.bool RE.2.empty)∧Hid (NwIs w0 w9 nb RE.1∧StayS w w9)∧w9.cell? ⟨w.heap.size,0,none⟩=some (.int .i64 (RE.2.first:Int))∧w9.cell? ⟨w.heap.size,1,none⟩=some (.int .i64 (RE.2.last:Int))∧w9.cell? ⟨w.heap.size,2,none⟩=some (.bool RE.2.empty):=by
    obtain⟨h1,h2,h3,h4,h5⟩:=HF.out.fin RE.2;exact⟨_,rfl,⟨h1,h2⟩,h3,h4,h5⟩
   rw[<-hw9];clear hw9;refine bodyPost_ret (v:=.agg #[.int .i64 (RE.2.first:Int),.int .i64 (RE.2.last:Int),.bool RE.2.empty]) (by simp[results,results125,go_sem,z0,z1,z2]) rfl ?_;exact⟨rfl,K9.out.1,K9.out.2⟩
end Go.Proofs.YtbjcfkdnjaiclaaGreat
