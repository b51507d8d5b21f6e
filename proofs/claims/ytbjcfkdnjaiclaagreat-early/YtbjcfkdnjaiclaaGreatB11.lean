import Derived.Deep.DrawnRows
import Derived.Deep.RegionLaw
import Derived.Test.YtbjcfkdnjaiclaaGreatB0
import Derived.Test.YtbjcfkdnjaiclaaGreatB10
/- Parts of the proof. -/
set_option linter.unusedVariables false
set_option linter.unusedSimpArgs false
set_option maxHeartbeats 4000000
set_option maxRecDepth 100000
namespace Go.Proofs.YtbjcfkdnjaiclaaGreat
open Go.RowKit Go.Proofs.Tryz Go.World
section
theorem SoY.set {w:World}{X Y:Nat->Prop}{p b i:Nat}{s:Sq}{d:Sf}{x:Value}(h:SoY w X Y p s d)(hb:Y b)(hx:¬X b):SoY (w.setCell ⟨b,i,none⟩ x) X Y p s d:=by
 obtain⟨fv,mv,h,hY⟩:=h;obtain⟨hbl,hbp,hbf,hbm⟩:=hY b hb;have e:∀k,k≠b->(w.setCell ⟨b,i,none⟩ x).heap[k]? =w.heap[k]? :=fun k hk=>lJ _ _ _ _ hk;have eX:∀k,X k->(w.setCell ⟨b,i,none⟩ x).heap[k]? =w.heap[k]? :=fun k hk=>e k fun e2=>hx (e2 ▸ hk);exact⟨fv,mv,⟨(e p (Ne.symm hbp)).trans h.blk,zD h.own1 fun k _ _ hk=>e k fun e2=>hbf (by rw[hk,e2]),zD h.own2 fun k _ _ hk=>e k fun e2=>hbm (by rw[hk,e2]),h.ne,h.xf,h.xm,h.xp,fun g hg=>by rw[zC];exact h.xl g hg,by rw[zC];exact h.lp,(cell?_of_block (eX _ h.xq)).trans h.net,h.xq,h.rls.keep eX,h.eight,h.rsm,h.tls.keep eX,h.tsm,h.tlen,h.sts.keep eX,h.ssm,h.fsm,h.msm⟩,fun g hg=>by rw[zC];exact hY g hg⟩
structure Kw (w1 w:World)(H p kb:Nat)(Z:Nat->Prop)(s:Sq)(d:Sf)(lv tv sv nv rv u8:Value)(us:Nat->Value)(rows:List (List Nat))(rules:List Int)(start:List Nat)(st dd:Int):Prop where
 blk:w.heap[kb]? =some (.cells #[lv,tv,sv,nv,rv,.int .i64 st,.int .i64 dd] 178)
 nOwn:Row w H 45 nv rows.length us
 each:∀i,i<rows.length->Ints w Z (us i) (ints (rows.getD i []))
 rOwn:OwnI w H rv rules
 stA:Ints w Z u8 (ints start)
 zr:∀g,Z g->some g≠rv.ownBlock
 zn:∀g,Z g->some g≠nv.ownBlock
 zk:∀g,Z g->g≠kb
 zH:∀g,Z g->H<=g
 so:SoY w (fun g=>g<H∧g≠p) (fun g=>Z g∨g=kb∨some g=nv.ownBlock∨some g=rv.ownBlock) p s d
 kbH:H<=kb
 keep:KeepX (fun g=>g<H∧g≠p) w1 w
section
variable {w1 w w2:World} {H p kb:Nat} {Z:Nat->Prop} {s:Sq} {d d':Sf} {lv tv sv nv rv u8 u:Value} {us:Nat->Value} {rows:List (List Nat)} {rules:List Int} {start l:List Nat} {st dd:Int}
theorem Kw.zl (h:Kw w1 w H p kb Z s d lv tv sv nv rv u8 us rows rules start st dd):∀g,Z g->g<w.heap.size:=by
 obtain⟨fv,mv,_,hY⟩:=h.so;exact fun g hg=>(hY g (.inl hg)).1
theorem Kw.kl (h:Kw w1 w H p kb Z s d lv tv sv nv rv u8 us rows rules start st dd):kb<w.heap.size:=(kQ.1 h.blk).1
theorem Kw.cells (h:Kw w1 w H p kb Z s d lv tv sv nv rv u8 us rows rules start st dd):w.cell? ⟨kb,3,none⟩=some nv∧w.cell? ⟨kb,4,none⟩=some rv∧w.cell? ⟨kb,5,none⟩=some (.int .i64 st)∧w.cell? ⟨kb,6,none⟩=some (.int .i64 dd)∧∀i,w.frozen? ⟨kb,i,none⟩=false:=by
 refine⟨?_,?_,?_,?_,fun i=>?_⟩
 all_goals first|(unfold cell?;rw[h.blk];rfl)|(unfold frozen?;rw[h.blk];simp)
theorem Kw.nbox (h:Kw w1 w H p kb Z s d lv tv sv nv rv u8 us rows rules start st dd):some kb≠nv.ownBlock∧some kb≠rv.ownBlock:=⟨zL h.nOwn h.blk (by decide),zL h.rOwn h.blk (by decide)⟩
theorem Kw.call {Z':Nat->Prop}(h:Kw w1 w H p kb Z s d lv tv sv nv rv u8 us rows rules start st dd)(hk:KeepX (fun g=>(g<H∧g≠p)∨(Z g∨g=kb∨some g=nv.ownBlock∨some g=rv.ownBlock)) w w2)(hZ:∀g,Z g->Z' g)(hZ2:∀g,Z' g->Z g∨w.heap.size<=g)(hs:SoY w2 (fun g=>g<H∧g≠p) (fun g=>Z' g∨g=kb∨some g=nv.ownBlock∨some g=rv.ownBlock) p s d'):Kw w1 w2 H p kb Z' s d' lv tv sv nv rv u8 us rows rules start st dd:=by
 have eZ:∀b,Z b->w2.heap[b]? =w.heap[b]? :=fun b hb=>hk.block b (.inr (.inl hb));have hH:=lY h.kbH (Nat.le_of_lt h.kl);refine⟨(hk.block kb (.inr (.inr (.inl rfl)))).trans h.blk,zD h.nOwn fun g _ _ hg=>hk.block g (.inr (.inr (.inr (.inl hg.symm)))),fun i hi=>((h.each i hi).keep eZ).mono hZ,zD h.rOwn fun g _ _ hg=>hk.block g (.inr (.inr (.inr (.inr hg.symm)))),(h.stA.keep eZ).mono hZ,fun g hg=>?_,fun g hg=>?_,fun g hg=>?_,fun g hg=>?_,hs,h.kbH,h.keep.trans (hk.mono fun k hk=>.inl hk)⟩
 ·rcases hZ2 g hg with h1|h1
  ·exact h.zr g h1
  ·intro e;have:=(h.rOwn.lt g e.symm).2;omega
 ·rcases hZ2 g hg with h1|h1
  ·exact h.zn g h1
  ·intro e;have:=(h.nOwn.lt g e.symm).2;omega
 ·rcases hZ2 g hg with h1|h1
  ·exact h.zk g h1
  ·have:=h.kl;omega
 ·rcases hZ2 g hg with h1|h1
  ·exact h.zH g h1
  ·omega
theorem Kw.grown (h:Kw w1 w H p kb Z s d lv tv sv nv rv u8 us rows rules start st dd)(hk:Grew w w2):Kw w1 w2 H p kb Z s d lv tv sv nv rv u8 us rows rules start st dd:=by
 obtain⟨fv,mv,hs,hY⟩:=id h.so;refine h.call (hk.kx fun k hk2=>?_) (fun _ h=>h) (fun _ h=>.inl h) (h.so.grown hk fun g hg=>⟨lZ (hY g hg).1 hk.size,.inl hg⟩);have:=hk2.elim (hs.xl k) fun e=>(hY k e).1;omega
theorem Kw.setC {i:Nat}{x:Value}{st' dd':Int}(h:Kw w1 w H p kb Z s d lv tv sv nv rv u8 us rows rules start st dd)(hb:(w.setCell ⟨kb,i,none⟩ x).heap[kb]? =some (.cells #[lv,tv,sv,nv,rv,.int .i64 st',.int .i64 dd'] 178)):Kw w1 (w.setCell ⟨kb,i,none⟩ x) H p kb Z s d lv tv sv nv rv u8 us rows rules start st' dd':=by
 have e:∀k,k≠kb->(w.setCell ⟨kb,i,none⟩ x).heap[k]? =w.heap[k]? :=fun k hk=>lJ _ _ _ _ hk;have hnb:=h.nbox;have hkH:=h.kbH;exact⟨hb,zD h.nOwn fun g _ _ hg=>e g fun e2=>hnb.1 (by rw[hg,e2]),fun i hi=>(h.each i hi).keep fun b hb=>e b (h.zk b hb),zD h.rOwn fun g _ _ hg=>e g fun e2=>hnb.2 (by rw[hg,e2]),h.stA.keep fun b hb=>e b (h.zk b hb),h.zr,h.zn,h.zk,h.zH,h.so.set (.inr (.inl rfl)) (fun e2=>by omega),h.kbH,h.keep.trans ⟨rfl,rfl,by rw[zC];exact lQ,fun k hk=>e k (by omega)⟩⟩
theorem Kw.setStart (h:Kw w1 w H p kb Z s d lv tv sv nv rv u8 us rows rules start st dd)(x:Int):Kw w1 (w.setCell ⟨kb,5,none⟩ (.int .i64 x)) H p kb Z s d lv tv sv nv rv u8 us rows rules start x dd:=h.setC (by simp[setCell,lU,h.blk])
theorem Kw.setDead (h:Kw w1 w H p kb Z s d lv tv sv nv rv u8 us rows rules start st dd)(x:Int):Kw w1 (w.setCell ⟨kb,6,none⟩ (.int .i64 x)) H p kb Z s d lv tv sv nv rv u8 us rows rules start st x:=h.setC (by simp[setCell,lU,h.blk])
theorem Kw.start_of (h:Kw w1 w H p kb Z s d lv tv sv nv rv u8 us rows rules start st dd)(hu:Ints w Z u (ints l)):Kw w1 w H p kb Z s d lv tv sv nv rv u us rows rules l st dd:={h with stA:=hu}
theorem Kw.snocN {o:Obj}{g cap m:Nat}(h:Kw w1 w H p kb Z s d lv tv sv nv rv u8 us rows rules start st dd)(hm:m=rows.length)(hu:Ints w Z u (ints l))(hown:w2.ownsRow H 45 1 (.slice (some ⟨g,0,none⟩) (m+1) cap) (m+1) ((List.range m).map us++[u]))(hg:(w.alloc o).grownBy w2 nv.ownBlock)(hat:nv.ownBlock=some g∨w.heap.size<=g):
  Kw w1 (w2.setCell ⟨kb,3,none⟩ (.slice (some ⟨g,0,none⟩) (m+1) cap)) H p kb Z s d lv tv sv (.slice (some ⟨g,0,none⟩) (m+1) cap) rv u8 (fun i=>if i=m then u else us i) (rows++[l]) rules start st dd:=by
 subst hm;have hkl:=h.kl;have hkH:=h.kbH;have hnb:=h.nbox;have hbl:∀j,j<w.heap.size->some j≠nv.ownBlock->w2.heap[j]? =w.heap[j]? :=fun j hj hf=>(hg.block j (by simp;omega) hf).trans (lG _ _ _ (by omega));have hb:=(hbl kb hkl hnb.1).trans h.blk;have hsz:w.heap.size<=w2.heap.size:=lY (by simp) hg.size;have e:∀k,k≠kb->(w2.setCell ⟨kb,3,none⟩ (.slice (some ⟨g,0,none⟩) (rows.length+1) cap)).heap[k]? =w2.heap[k]? :=fun k hk=>lJ _ _ _ _ hk;have eZ:∀k,Z k->(w2.setCell ⟨kb,3,none⟩ (.slice (some ⟨g,0,none⟩) (rows.length+1) cap)).heap[k]? =w.heap[k]? :=fun k hk=>(e k (h.zk k hk)).trans (hbl k (h.zl k hk) (h.zn k hk));have hkg:kb≠g:=fun e2=>by
  rcases hat with ha|ha
  ·exact hnb.1 (by rw[ha,e2])
  ·omega
 have hR2:=zP hg h.rOwn fun k hk=>xM h.rOwn h.nOwn (by decide) hk;have hgl:=(hown.lt g rfl).2;have hso:SoY w2 (fun g=>g<H∧g≠p) (fun k=>Z k∨k=kb∨some k=(Value.slice (some ⟨g,0,none⟩) (rows.length+1) cap).ownBlock∨some k=rv.ownBlock) p s d:=by
  refine h.so.app (v:=nv) (fun k hk=>⟨.inr (.inr (.inl hk)),fun e2=>by have:=(h.nOwn.lt k hk.symm).1;omega⟩) hg hat hgl fun k hk=>?_;rcases hk with h1|h1|h1|h1
  ·exact .inl (.inl h1)
  ·exact .inl (.inr (.inl h1))
  ·exact .inr (by simpa[Value.ownBlock] using h1)
  ·exact .inl (.inr (.inr (.inr h1)))
 refine⟨by simp[setCell,lU,hb],?_,fun i hi=>?_,zD hR2 fun k _ _ hk=>e k fun e2=>hnb.2 (by rw[hk,e2]),h.stA.keep eZ,h.zr,fun k hk e2=>?_,h.zk,h.zH,hso.set (.inr (.inl rfl)) (fun e2=>by omega),h.kbH,h.keep.trans ⟨hg.os,hg.output,by rw[zC];exact hsz,fun k hk=>(e k (by omega)).trans (hbl k (by omega) fun e2=>by have:=(h.nOwn.lt k e2.symm).1;omega)⟩⟩
 ·have h2:Row w2 H 45 (.slice (some ⟨g,0,none⟩) (rows.length+1) cap) (rows.length+1) (fun i=>if i=rows.length then u else us i):=by
   unfold Row;rw[jS];rw[show (List.range rows.length).map (fun i=>if i=rows.length then u else us i)=(List.range rows.length).map us from List.map_congr_left fun i hi=>by rw[if_neg (by have:=List.mem_range.1 hi;omega)]];rw[if_pos rfl];exact hown
  have e3:(rows++[l]).length=rows.length+1:=by simp
  rw[e3];exact zD h2 fun k _ _ hk=>e k fun e2=>by
   have:g=k:=by simpa[Value.ownBlock] using hk
   omega
 ·by_cases e3:i=rows.length
  ·subst e3
   rw[if_pos rfl,lW,gX lQ,Nat.sub_self];exact hu.keep eZ
  ·have hi2:i<rows.length:=by simp at hi;omega
   rw[if_neg e3,lW,kW hi2,<-lW];exact(h.each i hi2).keep eZ
 ·have e4:k=g:=by simpa[Value.ownBlock] using e2
  subst e4;rcases hat with ha|ha
  ·exact h.zn k hk ha.symm
  ·have:=h.zl k hk;omega
theorem Kw.snocR {o:Obj}{g cap m:Nat}{x:Int}(h:Kw w1 w H p kb Z s d lv tv sv nv rv u8 us rows rules start st dd)(hm:m=rules.length)(hown:w2.ownsRow H 3 1 (.slice (some ⟨g,0,none⟩) (m+1) cap) (m+1) ((rules.map fun x=>.int .i64 x)++[.int .i64 x]))(hg:(w.alloc o).grownBy w2 rv.ownBlock)(hat:rv.ownBlock=some g∨w.heap.size<=g):
  Kw w1 (w2.setCell ⟨kb,4,none⟩ (.slice (some ⟨g,0,none⟩) (m+1) cap)) H p kb Z s d lv tv sv nv (.slice (some ⟨g,0,none⟩) (m+1) cap) u8 us rows (rules++[x]) start st dd:=by
 subst hm;have hkl:=h.kl;have hkH:=h.kbH;have hnb:=h.nbox;have hbl:∀j,j<w.heap.size->some j≠rv.ownBlock->w2.heap[j]? =w.heap[j]? :=fun j hj hf=>(hg.block j (by simp;omega) hf).trans (lG _ _ _ (by omega));have hb:=(hbl kb hkl hnb.2).trans h.blk;have hsz:w.heap.size<=w2.heap.size:=lY (by simp) hg.size;have e:∀k,k≠kb->(w2.setCell ⟨kb,4,none⟩ (.slice (some ⟨g,0,none⟩) (rules.length+1) cap)).heap[k]? =w2.heap[k]? :=fun k hk=>lJ _ _ _ _ hk;have eZ:∀k,Z k->(w2.setCell ⟨kb,4,none⟩ (.slice (some ⟨g,0,none⟩) (rules.length+1) cap)).heap[k]? =w.heap[k]? :=fun k hk=>(e k (h.zk k hk)).trans (hbl k (h.zl k hk) (h.zr k hk));have hkg:kb≠g:=fun e2=>by
  rcases hat with ha|ha
  ·exact hnb.2 (by rw[ha,e2])
  ·omega
 have hN2:=zP hg h.nOwn fun k hk=>xM h.nOwn h.rOwn (by decide) hk;have hgl:=(hown.lt g rfl).2;have hso:SoY w2 (fun g=>g<H∧g≠p) (fun k=>Z k∨k=kb∨some k=nv.ownBlock∨some k=(Value.slice (some ⟨g,0,none⟩) (rules.length+1) cap).ownBlock) p s d:=by
  refine h.so.app (v:=rv) (fun k hk=>⟨.inr (.inr (.inr hk)),fun e2=>by have:=(h.rOwn.lt k hk.symm).1;omega⟩) hg hat hgl fun k hk=>?_;rcases hk with h1|h1|h1|h1
  ·exact .inl (.inl h1)
  ·exact .inl (.inr (.inl h1))
  ·exact .inl (.inr (.inr (.inl h1)))
  ·exact .inr (by simpa[Value.ownBlock] using h1)
 refine⟨by simp[setCell,lU,hb],zD hN2 fun k _ _ hk=>e k fun e2=>hnb.1 (by rw[hk,e2]),fun i hi=>(h.each i hi).keep eZ,?_,h.stA.keep eZ,fun k hk e2=>?_,h.zn,h.zk,h.zH,hso.set (.inr (.inl rfl)) (fun e2=>by omega),h.kbH,h.keep.trans ⟨hg.os,hg.output,by rw[zC];exact hsz,fun k hk=>(e k (by omega)).trans (hbl k (by omega) fun e2=>by have:=(h.rOwn.lt k e2.symm).1;omega)⟩⟩
 ·exact zD (OwnI.snoc hown) fun k _ _ hk=>e k fun e2=>by
   have:g=k:=by simpa[Value.ownBlock] using hk
   omega
 ·have e4:k=g:=by simpa[Value.ownBlock] using e2
  subst e4;rcases hat with ha|ha
  ·exact h.zr k hk ha.symm
  ·have:=h.zl k hk;omega
end
end
section
theorem Sq.kindS_ml (s:Sq)(d:Sf)(x:Nat)(h:d.marks.length<=d.found.length):(s.kindS d x).marks.length<=(s.kindS d x).found.length:=by
 unfold Sq.kindS;split
 ·split
  ·exact h
  ·simp;omega
 ·simp;omega
theorem Sq.rowTo_ml (s:Sq)(next:Nat)(d:Sf)(j:Nat)(h:d.marks.length<=d.found.length):(s.rowTo next d j).2.marks.length<=(s.rowTo next d j).2.found.length:=by
 induction j with
 |zero=>exact h
 |succ j ih=>exact s.kindS_ml _ _ ih
theorem Sq.kind_lt (s:Sq)(d:Sf)(x:Nat):s.kind d x<(s.kindS d x).found.length:=by
 have:=s.look_le d x;unfold Sq.kind Sq.kindS;by_cases h:s.look d x<d.found.length
 ·rw[if_pos h,if_pos h]
  by_cases h2:s.tail d x<0
  ·rw[if_pos h2,if_pos h2];exact h
  ·rw[if_neg h2,if_neg h2];simp
 ·rw[if_neg h,if_neg h];simp
theorem Sq.rowTo_lt (s:Sq)(next:Nat)(d:Sf)(j:Nat):∀k∈(s.rowTo next d j).1,k<(s.rowTo next d j).2.found.length:=by
 induction j with
 |zero=>exact fun k hk=>absurd hk List.not_mem_nil
 |succ j ih=>
  intro k hk;have hm:=(s.kindS_len (s.rowTo next d j).2 (next&&&s.sets.getD j 0)).2.2;rcases kU.1 hk with h1|h1
  ·have:=ih k h1
   show k<(s.kindS (s.rowTo next d j).2 (next&&&s.sets.getD j 0)).found.length;omega
  ·rw[kY.1 h1]
   exact s.kind_lt _ _
def Sq.Like (s t:Sq):Prop:=s.rules=t.rules∧s.tails=t.tails∧s.sets=t.sets
theorem Sq.Like.kind {s t:Sq}(h:s.Like t)(d:Sf)(x:Nat):s.kind d x=t.kind d x∧s.kindS d x=t.kindS d x:=by
 obtain⟨h1,h2,h3⟩:=h;unfold Sq.kind Sq.kindS Sq.tail Sq.look;rw[h1,h2];exact⟨rfl,rfl⟩
theorem Sq.Like.row {s t:Sq}(h:s.Like t)(next:Nat)(d:Sf)(j:Nat):s.rowTo next d j=t.rowTo next d j:=by
 induction j with
 |zero=>rfl
 |succ j ih=>
  unfold Sq.rowTo;rw[ih,(h.kind _ _).1,(h.kind _ _).2,h.2.2]
def Sq.sortGo (s:Sq)(ahead:Nat->Nat)(ends most:Nat):Nat->Nat->Sf->List (List Nat)->List Int->Option (Sf×List (List Nat)×List Int)
 |0,_,d,rows,rules=>some (d,rows,rules)
 |f+1,i,d,rows,rules=>if i<d.found.length then(if d.found.length>most then none else s.sortGo ahead ends most f (i+1) (s.rowTo (zAp ahead (d.found.getD i 0)) d s.sets.length).2 (rows++[(s.rowTo (zAp ahead (d.found.getD i 0)) d s.sets.length).1]) (rules++[qT s.rules (d.found.getD i 0&&&ends)])) else some (d,rows,rules)
structure Kd where
 rows:List (List Nat)
 rules:List Int
 start:Nat
 dead:Nat
def Nt.sq (n:Nt):Sq:=⟨n.rules,n.tails n.letters,n.letters,0,0,undef,undef,undef,undef,undef⟩
def Nt.start (n:Nt):List Nat×Sf:=n.sq.rowTo n.first ⟨[],[]⟩ n.letters.length
def Nt.ended (n:Nt)(d:Sf)(rows:List (List Nat))(rules:List Int):Kd:=
 if zAn (rows.map ints) rules (ints n.start.1)=rows.length then⟨rows++[n.start.1],rules++[-1],zAn (rows.map ints) rules (ints n.start.1),n.sq.kind d 0⟩ else⟨rows,rules,zAn (rows.map ints) rules (ints n.start.1),n.sq.kind d 0⟩
def Nt.sort (n:Nt)(most:Nat):Option Kd:=
 match n.sq.sortGo n.ahead n.ends most (most+1) 0 n.start.2 [] [] with
 |none=>none
 |some (d,rows,rules)=>some (n.ended d rows rules)
section
variable {w1 w:World} {H p kb:Nat} {Z:Nat->Prop} {s:Sq} {d:Sf} {lv tv sv nv rv u8:Value} {us:Nat->Value} {rows:List (List Nat)} {rules:List Int} {start:List Nat} {st dd:Int}
theorem Kw.row (h:Kw w1 w H p kb Z s d lv tv sv nv rv u8 us rows rules start st dd)(hl:d.marks.length<=d.found.length)(hl2:d.found.length+s.sets.length<=100000000000)(next:Nat)(hx:next<16777216):
  Calls prog 91 #[.pointer (some ⟨p,0,none⟩),.int .i64 next] w fun e w'=>∃u Z',e=.returned u∧Kw w1 w' H p kb Z' s (s.rowTo next d s.sets.length).2 lv tv sv nv rv u8 us rows rules start st dd∧Ints w' Z' u (ints (s.rowTo next d s.sets.length).1):=by
 refine(zFM w _ _ p s d h.so (by omega) hl2 next hx).mono ?_;rintro e w' ⟨u,rfl,ho,hs,hk⟩;refine⟨u,fun g=>Z g∨some g=u.ownBlock,rfl,h.call hk (fun g hg=>.inl hg) (fun g hg=>hg.imp id fun e=>(ho.lt g e.symm).1) (hs.mono fun g hg=>?_),zBT ho fun g hg=>.inr hg.symm⟩;rcases hg with(h1|h1)|h1
 ·exact .inl (.inl h1)
 ·exact .inr h1
 ·exact .inl (.inr h1)
theorem Kw.kindOf (h:Kw w1 w H p kb Z s d lv tv sv nv rv u8 us rows rules start st dd)(hl:d.marks.length<=d.found.length)(hl2:d.found.length<=100000000000)(x:Nat)(hx:x<16777216):
  Calls prog 94 #[.pointer (some ⟨p,0,none⟩),.int .i64 x] w fun e w'=>e=.returned (.int .i64 (s.kind d x))∧Kw w1 w' H p kb Z s (s.kindS d x) lv tv sv nv rv u8 us rows rules start st dd:=by
 refine(zId h.so (by omega) hl2 x hx).mono ?_;rintro e w' ⟨rfl,hs,hk⟩;exact⟨rfl,h.call hk (fun g hg=>hg) (fun g hg=>.inl hg) hs⟩
theorem Kw.ruleOf (h:Kw w1 w H p kb Z s d lv tv sv nv rv u8 us rows rules start st dd)(x:Nat)(hx:x<16777216):
  Calls prog 93 #[.pointer (some ⟨p,0,none⟩),.int .i64 x] w fun e w'=>e=.returned (.int .i64 (qT s.rules x))∧w'=w:=by
 obtain⟨fv,mv,hs,_⟩:=h.so;have:=hs.so;exact zBo w p s.q s.rv s.rules this.net this.rcell this.at_ this.eight this.small x hx
theorem Kw.found (h:Kw w1 w H p kb Z s d lv tv sv nv rv u8 us rows rules start st dd):∃fa cap,w.cell? ⟨p,6,none⟩=some (.slice fa d.found.length cap)∧w.cell? ⟨p,4,none⟩=some (.pointer (some ⟨s.f,0,none⟩))∧∀i,i<d.found.length->∃g,fa=some ⟨g,0,none⟩∧w.cell? ⟨g,i,none⟩=some (.int .i64 ((d.found.getD i 0:Nat):Int))∧d.found.getD i 0<16777216:=by
 obtain⟨fv,mv,hs,_⟩:=h.so;obtain⟨fa,cap,hf⟩:=hs.own1.form;rw[zM] at hf;refine⟨fa,cap,by rw[<-hf];exact hs.cells.2.2.2.2.1,hs.cells.2.2.1,fun i hi=>?_⟩;have ho:=hs.own1;rw[hf] at ho;obtain⟨g,rfl⟩:=ho.some (by rw[zM];omega);have:=ho.cell i (by rw[zM];exact hi);rw[vB] at this;exact⟨g,rfl,this,hs.fsm _ (zR _ _ 0 hi)⟩
end
structure KdAt (w:World)(kb:Nat)(a:Ar)(k:Kd):Prop where
 lk:kb<w.heap.size
 all:∃lv tv sv nv rv,w.heap[kb]? =some (.cells #[lv,tv,sv,nv,rv,.int .i64 (k.start:Int),.int .i64 (k.dead:Int)] 178)∧ArAt w lv tv sv a∧IntRows w (In w) nv (k.rows.map ints)∧Ints w (In w) rv k.rules
theorem Kw.rowsAt {w1 w:World}{H p kb:Nat}{Z:Nat->Prop}{s:Sq}{d:Sf}{lv tv sv nv rv u8:Value}{us:Nat->Value}{rows:List (List Nat)}{rules:List Int}{start:List Nat}{st dd:Int}(h:Kw w1 w H p kb Z s d lv tv sv nv rv u8 us rows rules start st dd):IntRows w (In w) nv (rows.map ints):=by
 have hg:∀i,(rows.map ints).getD i []=ints (rows.getD i []):=fun i=>by
  rw[lW,lW,gJ];cases rows[i]? <;> rfl
 by_cases h0:rows.length=0
 ·rcases h.nOwn.2 with⟨hv,_⟩|⟨g,cap,cur,hv,hH,hh,h1,h2,h3,h4⟩
  ·exact⟨none,0,by rw[hv,kV,h0],by rw[kV,h0];exact lQ,by unfold maxLen;omega,fun i hi=>by rw[kV] at hi;omega⟩
  ·exact⟨_,cap,by rw[hv,kV],by rw[kV];exact h1,h2,fun i hi=>by rw[kV] at hi;omega⟩
 ·obtain⟨g,cap,hv,hH,hl,h1,h2,h3,_⟩:=h.nOwn.get (by omega)
  refine⟨_,cap,by rw[hv,kV],by rw[kV];exact h1,h2,fun i hi=>?_⟩;rw[kV] at hi;refine⟨g,0,us i,rfl,hl,by rw[Nat.zero_add];exact h3 i hi,?_⟩;rw[hg];exact(h.each i hi).mono h.zl
end
section
attribute [local go_sem ↓] Go.wp_at_zero Go.wp_at_succ
def zNz (w1 w:World)(H p kb:Nat)(s:Sq)(d:Sf)(lv tv sv u8:Value)(rows:List (List Nat))(rules:List Int)(start:List Nat)(st dd:Int):Prop:=∃Z nv rv us,Kw w1 w H p kb Z s d lv tv sv nv rv u8 us rows rules start st dd
def zBz (w:World)(n:Nt)(most:Nat)(e:Ending)(w':World):Prop:=
 match n.sort most with
 |none=>e=.returned (.tuple #[.pointer none,.bool false])∧Grew w w'
 |some k=>∃kb,e=.returned (.tuple #[.pointer (some ⟨kb,0,none⟩),.bool true])∧KdAt w' kb n.areas k∧Grew w w'
theorem zKk {w w':World}{n:Nt}{most:Nat}(h:n.sort most=none)(hk:Grew w w'):zBz w n most (.returned (.tuple #[.pointer none,.bool false])) w':=by
 unfold zBz;rw[h];exact⟨rfl,hk⟩
theorem zF9 {w w':World}{n:Nt}{most kb:Nat}{k:Kd}(h:n.sort most=some k)(hk:KdAt w' kb n.areas k∧Grew w w'):zBz w n most (.returned (.tuple #[.pointer (some ⟨kb,0,none⟩),.bool true])) w':=by
 unfold zBz;rw[h];exact⟨kb,rfl,hk.1,hk.2⟩
theorem Kw.begin {w1:World}{p:Nat}{s:Sq}(h:SoAt w1 (fun g=>g<w1.heap.size∧g≠p) p s ⟨[],[]⟩ (.slice none 0 0) (.slice none 0 0))(lv tv sv:Value):
  Kw w1 (w1.alloc (.cells #[lv,tv,sv,.slice none 0 0,.slice none 0 0,.int .i64 0,.int .i64 0] 178)) w1.heap.size p w1.heap.size (fun _=>False) s ⟨[],[]⟩ lv tv sv (.slice none 0 0) (.slice none 0 0) (.slice none 0 0) (fun _=>undef) [] [] [] 0 0:=by
 have hp:=h.lp;refine⟨gG _ _,ownsRow_nil _ _ _ _,fun i hi=>absurd hi (Nat.not_lt_zero _),OwnI.nil _ _,⟨none,0,rfl,lQ,by unfold maxLen;omega,fun i hi=>absurd hi (Nat.not_lt_zero _)⟩,fun g hg=>hg.elim,fun g hg=>hg.elim,fun g hg=>hg.elim,fun g hg=>hg.elim,⟨_,_,h.grown (kZ _ _ lQ),fun g hg=>?_⟩,lQ,⟨rfl,rfl,by simp,fun k hk=>lG _ _ _ hk.1⟩⟩;rcases hg with h1|h1|h1|h1
 ·exact h1.elim
 ·subst h1
  exact⟨by simp,by omega,fun e=>(by cases e),fun e=>(by cases e)⟩
 ·cases h1
 ·cases h1
theorem zLI {w:World}{S:Nat->Prop}{v:Value}{l:List Int}{p:Nat}(h:Ints w S v l)(hp:∀i x,w.cell? ⟨p,i,none⟩≠some (.int .i64 x)):Ints w (fun g=>S g∧g≠p) v l:=by
 obtain⟨ao,cap,hv,h1,h2,h3⟩:=h;refine⟨ao,cap,hv,h1,h2,fun i hi=>?_⟩;obtain⟨b,o,ha,hb,hc⟩:=h3 i hi;exact⟨b,o,ha,⟨hb,fun e=>hp (o+i) _ (by rw[<-e];exact hc)⟩,hc⟩
theorem SoAt.no_int {w:World}{X:Nat->Prop}{p:Nat}{s:Sq}{d:Sf}{fv mv lv tv sv tl:Value}(h:SoAt w X p s d fv mv)(h1:∃a n c,s.lv=.slice a n c)(h2:∃a n c,s.tv=.slice a n c)(h3:∃a n c,s.sv=.slice a n c)(h4:∃a n c,s.tl=.slice a n c)(h5:∃a n c,fv=.slice a n c)(h6:∃a n c,mv=.slice a n c):∀i x,w.cell? ⟨p,i,none⟩≠some (.int .i64 x):=by
 intro i x e;obtain⟨_,_,_,h1⟩:=h1;obtain⟨_,_,_,h2⟩:=h2;obtain⟨_,_,_,h3⟩:=h3;obtain⟨_,_,_,h4⟩:=h4;obtain⟨_,_,_,h5⟩:=h5;obtain⟨_,_,_,h6⟩:=h6;unfold cell? at e;rw[h.blk,h1,h2,h3,h4,h5,h6] at e;rcases i with _|_|_|_|_|_|_|_|i
 all_goals simp at e
theorem zLQ {w w1 w2:World}{H p kb:Nat}{Z:Nat->Prop}{s:Sq}{d:Sf}{lv tv sv nv rv u8:Value}{us:Nat->Value}{rows:List (List Nat)}{rules:List Int}{start:List Nat}{st dd:Nat}{a:Ar}(h:Kw w1 w2 H p kb Z s d lv tv sv nv rv u8 us rows rules start st dd)(hH:H=w1.heap.size)(hp:∀i x,w1.cell? ⟨p,i,none⟩≠some (.int .i64 x))(har:ArAt w1 lv tv sv a):KdAt w2 kb a ⟨rows,rules,st,dd⟩:=by
 have e:∀v l,Ints w1 (fun g=>g<H∧g≠p) v l->Ints w2 (In w2) v l:=fun v l hv=>(hv.keep fun b hb=>h.keep.block b hb).mono fun b hb=>by
  have h1:b<w1.heap.size:=by rw[<-hH];exact hb.1
  exact lZ h1 h.keep.size
 have a:∀v l,Ints w1 (In w1) v l->Ints w1 (fun g=>g<H∧g≠p) v l:=fun v l hv=>(zLI hv hp).mono fun g hg=>⟨by rw[hH];exact hg.1,hg.2⟩
 exact⟨h.kl,lv,tv,sv,nv,rv,h.blk,⟨e _ _ (a _ _ har.lows),e _ _ (a _ _ har.letters),e _ _ (a _ _ har.sets)⟩,h.rowsAt,zAF h.rOwn⟩
end
section
attribute [local go_sem ↓] Go.wp_at_zero Go.wp_at_succ
theorem zIS (w:World)(q:Nat)(n:Nt)(sv fv rv ev:Value)(hN:NetAt w q n sv fv rv ev)(ok:n.Ok)(fit:n.Fits)(most:Nat)(hmost:most<=1000000000):
  Calls prog 61 #[.pointer (some ⟨q,0,none⟩),.int .i64 (most:Int)] w (zBz w n most):=by
 obtain⟨i0,hi0,hz0,hz1,hz2⟩:=info_parts yH;obtain⟨ii1,hi1,hy0,hy1,hy2⟩:=info_parts zFk;have HS:Hid (Calls prog 90 #[.pointer (some ⟨q,0,none⟩)] w fun e w'=>∃p s,e=.returned (.pointer (some ⟨p,0,none⟩))∧(s.rules=n.rules∧s.tails=n.tails n.letters∧s.sets=n.letters∧s.q=q)∧SoAt w' (fun g=>g<w'.heap.size∧g≠p) p s ⟨[],[]⟩ (.slice none 0 0) (.slice none 0 0)∧ArAt w' s.lv s.tv s.sv n.areas∧SpAt w' s.f n.ahead∧s.f≠p∧w.heap.size<=p∧Grew w w'):=zEq w q n sv fv rv ev hN ok fit;have HN:Hid (NetAt w q n sv fv rv ev):=hN;have hlq:=hN.lq;have htop:=ok.top;have hfirst:=ok.first
 have hends:=ok.ends;have hlet:n.letters.length<=20000000004:=by
  have:=(zBp n.sets).2.2.2;have:=fit.few;show(xY n.sets).setsN.length<=_;rw[Ar.setsN_len];omega
 have HAL:Hid (∀i,n.ahead i<16777216):=fun i=>zLj _ (fun x hx=>lZ (ok.fs x hx) htop) _ i;have HSP:Hid (∀x,zAp n.ahead x<16777216):=zMh _ HAL.out;clear hN ok fit;go_enter func61,ntmps61
 go_wp2_with (first|(go_at_call 90;refine HS.out.mono ?_;rintro e w1 ⟨p,s,rfl,hs1,hso,har,hsp,hfp,hpH,hk1⟩;obtain⟨a1,c1,hf1,-⟩:=id har.lows;obtain⟨a2,c2,hf2,-⟩:=id har.letters;obtain⟨a3,c3,hf3,-⟩:=id har.sets;have x1:w1.cell? ⟨p,1,none⟩=some (.slice a1 n.areas.lows.length c1):=(by rw[<-hf1];unfold cell?;rw[hso.blk];rfl);have x2:w1.cell? ⟨p,2,none⟩=some (.slice a2 n.areas.letters.length c2):=(by rw[<-hf2];unfold cell?;rw[hso.blk];rfl);have x3:w1.cell? ⟨p,3,none⟩=some (.slice a3 n.areas.sets.length c3):=(by rw[<-hf3];unfold cell?;rw[hso.blk];rfl);have HQ:Hid ((s.rules=n.rules∧s.tails=n.tails n.letters∧s.sets=n.letters∧s.q=q)∧SoAt w1 (fun g=>g<w1.heap.size∧g≠p) p s ⟨[],[]⟩ (.slice none 0 0) (.slice none 0 0)∧ArAt w1 (.slice a1 n.areas.lows.length c1) (.slice a2 n.areas.letters.length c2) (.slice a3 n.areas.sets.length c3) n.areas∧SpAt w1 s.f n.ahead∧s.f≠p∧(∃a n c,s.lv=.slice a n c)∧(∃a n c,s.tv=.slice a n c)∧(∃a n c,s.sv=.slice a n c)):=⟨hs1,hso,(by rw[<-hf1,<-hf2,<-hf3];exact har),hsp,hfp,⟨_,_,_,hf1⟩,⟨_,_,_,hf2⟩,⟨_,_,_,hf3⟩⟩;have y2:=(HN.out.grown hk1).c2;have hlq1:q<w1.heap.size:=(HN.out.grown hk1).lq;have hnqp:q≠p:=(by omega);clear hs1 hso har hsp hfp hf1 hf2 hf3)|(go_at_call 91;refine((Kw.begin HQ.out.2.1 _ _ _).row lQ (by rw[HQ.out.1.2.2.1];simp;omega) n.first (by omega)).mono ?_;rintro e w2 ⟨u8,Z2,rfl,K2,hu8⟩;obtain⟨a8,c8,hf8,-⟩:=id hu8;have HK2:Hid (zNz w1 w2 w1.heap.size p w1.heap.size s (s.rowTo n.first ⟨[],[]⟩ s.sets.length).2 (.slice a1 n.areas.lows.length c1) (.slice a2 n.areas.letters.length c2) (.slice a3 n.areas.sets.length c3) u8 [] [] (s.rowTo n.first ⟨[],[]⟩ s.sets.length).1 0 0):=⟨_,_,_,_,K2.start_of hu8⟩;subst hf8;clear K2 hu8))
 have HLK:Hid (s.Like n.sq):=⟨HQ.out.1.1,HQ.out.1.2.1,HQ.out.1.2.2.1⟩
 have hsl:s.sets.length=n.letters.length:=by rw[HQ.out.1.2.2.1]
 have hst:s.rowTo n.first ⟨[],[]⟩ s.sets.length=n.start:=by rw[hsl];exact HLK.out.row _ _ _
 rw[hst] at HK2 ⊢;have hst2:n.start.2.marks.length<=n.start.2.found.length:=by rw[<-hst];exact s.rowTo_ml _ _ _ lQ
 have HRL:Hid (s.rules=n.rules):=HQ.out.1.1;have HE3:Hid (∀wr,KeepX (fun g=>g<w1.heap.size∧g≠p) w1 wr->wr.cell? ⟨q,3,none⟩=some (.int .i64 (n.ends:Int))):=fun wr hk=>(cell?_of_block (hk.block q ⟨hlq1,hnqp⟩)).trans (HN.out.grown hk1).c3;have HSF:Hid (∀wr,KeepX (fun g=>g<w1.heap.size∧g≠p) w1 wr->SpAt wr s.f n.ahead):=fun wr hk=>HQ.out.2.2.2.1.keep (hk.block s.f ⟨HQ.out.2.2.2.1.lt,HQ.out.2.2.2.2.1⟩);have HKP:Hid (∀wr,KeepX (fun g=>g<w1.heap.size∧g≠p) w1 wr->Grew w wr):=fun wr hk=>hk1.trans ⟨hk.os,hk.output,hk.size,fun k h1 _=>hk.block k ⟨lZ h1 hk1.size,by omega⟩⟩;have HK1:Hid (Grew w w1):=hk1;have HST:Hid (n.start=n.start):=rfl;clear hk1 hst x1 x2 x3 y2 HS;generalize hu8:Value.slice a8 (ints n.start.1).length c8=u8 at *;have HU8:Hid (Value.slice a8 (ints n.start.1).length c8=u8):=hu8;clear hu8;go_loopg [9] (most+1) (fun k i wr=>∃(j:Nat) (d:Sf) (rows:List (List Nat)) (rules:List Int),k=most+1-j∧(j<=most∧j<=d.found.length∧rows.length=j∧rules.length=j∧d.marks.length<=d.found.length∧∀r∈rows,r.length=n.letters.length)∧i=.int .i64 (j:Int)∧zNz w1 wr w1.heap.size p w1.heap.size s d (.slice a1 n.areas.lows.length c1) (.slice a2 n.areas.letters.length c2) (.slice a3 n.areas.sets.length c3) u8 rows rules n.start.1 0 0∧n.sq.sortGo n.ahead n.ends most (most+1) 0 n.start.2 [] []=n.sq.sortGo n.ahead n.ends most (most+1-j) j d rows rules)
 case atStart=>exact⟨0,n.start.2,[],[],rfl,⟨lX,lX,rfl,rfl,hst2,fun r hr=>absurd hr List.not_mem_nil⟩,rfl,HK2.out,rfl⟩
 case round=>
  obtain⟨j,d,rows,rules,hgk,⟨hj1,hj2,hj3,hj4,hml,hrl⟩,rfl,⟨Z,nv,rv2,us,hK⟩,hgo⟩:=hrel;have HB:Hid (gk=most+1-j∧Kw w1 wr w1.heap.size p w1.heap.size Z s d (.slice a1 n.areas.lows.length c1) (.slice a2 n.areas.letters.length c2) (.slice a3 n.areas.sets.length c3) nv rv2 u8 us rows rules n.start.1 0 0∧n.sq.sortGo n.ahead n.ends most (most+1) 0 n.start.2 [] []=n.sq.sortGo n.ahead n.ends most (most+1-j) j d rows rules):=⟨hgk,hK,hgo⟩
  obtain⟨fa,fc,z6,z4,hfc⟩:=hK.found;have HFC:Hid (∀i,i<d.found.length->∃g,fa=some ⟨g,0,none⟩∧wr.cell? ⟨g,i,none⟩=some (.int .i64 ((d.found.getD i 0:Nat):Int))∧d.found.getD i 0<16777216):=hfc;have HRW:Hid (∀r∈rows,r.length=n.letters.length):=hrl;clear hgk hgo hfc hrl HK2;by_cases hjf:j<d.found.length
  ·have i1:(j:Int)<(d.found.length:Int):=by omega
   by_cases hmo:d.found.length>most
   ·have i2:(d.found.length:Int)>(most:Int):=by omega
    have HZ:Hid (n.sort most=none):=by
     show _=_;unfold Nt.sort;rw[HB.out.2.2,show most+1-j=(most-j)+1 by omega];unfold Sq.sortGo;rw[if_pos hjf,if_pos hmo]
    clear hK;go_wp2_with fail;refine bodyPost_ret (results_tmp2 rfl _ _ _) rfl ?_;exact zKk HZ.out (HKP.out _ HB.out.2.1.keep)
   ·have i2:¬((d.found.length:Int)>(most:Int)):=by omega
    obtain⟨g,rfl,hc6,hxl⟩:=HFC.out j hjf;have HGo2:Hid (n.sq.sortGo n.ahead n.ends most (most+1) 0 n.start.2 [] []=n.sq.sortGo n.ahead n.ends most (most+1-(j+1)) (j+1) (n.sq.rowTo (zAp n.ahead (d.found.getD j 0)) d n.letters.length).2 (rows++[(n.sq.rowTo (zAp n.ahead (d.found.getD j 0)) d n.letters.length).1]) (rules++[qT n.rules (d.found.getD j 0&&&n.ends)])):=by
     show _=_;rw[HB.out.2.2,show most+1-j=(most+1-(j+1))+1 by omega];show(if j<d.found.length then(if d.found.length>most then none else _) else _)=_;rw[if_pos hjf,if_neg hmo];rfl
    have hra:d.found.getD j 0&&&n.ends<16777216:=Nat.lt_of_le_of_lt Nat.and_le_left hxl;have hand:bits .and .i64 ((d.found.getD j 0:Nat):Int) (n.ends:Int)=((d.found.getD j 0&&&n.ends:Nat):Int):=yZ _ _ (by omega) (by omega);have HOF:Hid (∀x:Nat,x<16777216->Calls prog 92 #[.pointer (some ⟨s.f,0,none⟩),.int .i64 (x:Int)] wr fun e w'=>e=.returned (.int .i64 ((zAp n.ahead x:Nat):Int))∧Grew wr w'):=fun x hx=>zBN wr s.f n.ahead (HSF.out wr HB.out.2.1.keep) HAL.out x hx;have HRow:Hid (∀w5,Grew wr w5->∀y:Nat,y<16777216->Calls prog 91 #[.pointer (some ⟨p,0,none⟩),.int .i64 (y:Int)] w5 fun e w'=>∃u Z',e=.returned u∧Kw w1 w' w1.heap.size p w1.heap.size Z' s (n.sq.rowTo y d n.letters.length).2 (.slice a1 n.areas.lows.length c1) (.slice a2 n.areas.letters.length c2) (.slice a3 n.areas.sets.length c3) nv rv2 u8 us rows rules n.start.1 0 0∧Ints w' Z' u (ints (n.sq.rowTo y d n.letters.length).1)):=fun w5 hk5 y hy=>by
     have h:=(HB.out.2.1.grown hk5).row hml (by omega) y hy;rw[hsl,HLK.out.row] at h;exact h
    have hyl:=HSP.out (d.found.getD j 0);have hr1:=n.sq.rowTo_len (zAp n.ahead (d.found.getD j 0)) d n.letters.length;have hr2:=n.sq.rowTo_ml (zAp n.ahead (d.found.getD j 0)) d n.letters.length hml;have HOF2:=HOF.out _ hxl;clear hK HOF;generalize d.found.getD j 0=x at *;generalize zAp n.ahead x=y at *;have HRow2:Hid (∀w5,Grew wr w5->Calls prog 91 #[.pointer (some ⟨p,0,none⟩),.int .i64 (y:Int)] w5 fun e w'=>∃u Z',e=.returned u∧Kw w1 w' w1.heap.size p w1.heap.size Z' s (n.sq.rowTo y d n.letters.length).2 (.slice a1 n.areas.lows.length c1) (.slice a2 n.areas.letters.length c2) (.slice a3 n.areas.sets.length c3) nv rv2 u8 us rows rules n.start.1 0 0∧Ints w' Z' u (ints (n.sq.rowTo y d n.letters.length).1)):=fun w5 hk5=>HRow.out w5 hk5 y hyl;clear HRow;generalize (n.sq.rowTo y d n.letters.length).1=rw2 at *;generalize (n.sq.rowTo y d n.letters.length).2=d2 at *;obtain⟨hr1a,-,-,hr1d⟩:=hr1;obtain⟨an,cn,hnv⟩:=zE HB.out.2.1.nOwn;obtain⟨ar,cr,hrv⟩:=HB.out.2.1.rOwn.form;rw[hj3] at hnv;rw[hj4] at hrv;subst hnv hrv;go_wp2_with (first|(go_at_call 92;refine HOF2.mono ?_;rintro e w5 ⟨rfl,hk5⟩)|(go_at_call 91;refine(HRow2.out w5 hk5).mono ?_;rintro e w6 ⟨u,Z6,rfl,hK6,hu6⟩;obtain⟨au,cu,hfu,-⟩:=id hu6;have HK6:Hid (Kw w1 w6 w1.heap.size p w1.heap.size Z6 s d2 (.slice a1 n.areas.lows.length c1) (.slice a2 n.areas.letters.length c2) (.slice a3 n.areas.sets.length c3) (.slice an j cn) (.slice ar j cr) u8 us rows rules n.start.1 0 0∧Ints w6 Z6 u (ints rw2)):=⟨hK6,hu6⟩;have v3:=hK6.cells.1;have hkl6:=hK6.kl;have OR:w6.ownsRow w1.heap.size 45 1 (.slice an j cn) j ((List.range j).map us):=(by have:=hK6.nOwn;unfold Row at this;rw[hj3] at this;exact this);generalize (ints rw2).length=ul at *;subst hfu;clear hK6 hu6)|(at_builtin;refine wpList_append_lies _ rfl _ _ 88 rfl w1.heap.size 45 ii1 (.slice none 0 0) 1 24 underlying88 hi1 hy0 hy1 hy2 rfl (by decide) _ _ _ rfl (OR.alloc _) ⟨w6.heap.size,0,none⟩ 1 1 [.slice au ul cu] rfl rfl (cell_one_new _ _ _) (by intro u hu;simp at hu;subst hu;rfl) (by decide) (by unfold maxLen;omega) (by omega) (by simp;omega) _ rfl ?_;intro gg cap w7 hown hgrow hat hlt3;have hPB:w7.heap[w1.heap.size]? =w6.heap[w1.heap.size]? :=(hgrow.block _ (by simp;omega) HK6.out.1.nbox.1).trans (lG _ _ _ (by omega));have t3:w7.cell? ⟨w1.heap.size,3,none⟩=some (.slice an j cn):=(cell?_of_block hPB).trans v3;have g3:w7.frozen? ⟨w1.heap.size,3,none⟩=false:=(frozen?_of_block hPB).trans (HK6.out.1.cells.2.2.2.2 3);have HK7:Hid (Kw w1 (w7.setCell ⟨w1.heap.size,3,none⟩ (.slice (some ⟨gg,0,none⟩) (j+1) cap)) w1.heap.size p w1.heap.size Z6 s d2 (.slice a1 n.areas.lows.length c1) (.slice a2 n.areas.letters.length c2) (.slice a3 n.areas.sets.length c3) (.slice (some ⟨gg,0,none⟩) (j+1) cap) (.slice ar j cr) u8 (fun i=>if i=j then .slice au ul cu else us i) (rows++[rw2]) rules n.start.1 0 0):=HK6.out.1.snocN hj3.symm HK6.out.2 hown hgrow (by rcases hat with ha|ha;exact .inl ha;right;rw[ha];simp)))
    obtain⟨w8,hw8,HK8⟩:∃w8,w8=w7.setCell ⟨w1.heap.size,3,none⟩ (.slice (some ⟨gg,0,none⟩) (j+1) cap)∧Hid (Kw w1 w8 w1.heap.size p w1.heap.size Z6 s d2 (.slice a1 n.areas.lows.length c1) (.slice a2 n.areas.letters.length c2) (.slice a3 n.areas.sets.length c3) (.slice (some ⟨gg,0,none⟩) (j+1) cap) (.slice ar j cr) u8 (fun i=>if i=j then .slice au ul cu else us i) (rows++[rw2]) rules n.start.1 0 0):=⟨_,rfl,HK7.out⟩
    rw[<-hw8];clear hw8 HK7 hown hgrow hat hlt3 hPB t3 g3 OR v3 hkl6 hk5 HK6 HOF2 HRow2 hc6 z4 z6;have v4:=HK8.out.cells.2.1;have f4:=HK8.out.cells.2.2.2.2 4;have vq:=HE3.out w8 HK8.out.keep;have hkl8:=HK8.out.kl;have HC:Hid (∀wz,wz.Alike w8->Calls prog 93 #[.pointer (some ⟨p,0,none⟩),.int .i64 ((x&&&n.ends:Nat):Int)] wz fun e w'=>e=.returned (.int .i64 (qT n.rules (x&&&n.ends)))∧Grew w8 w'):=fun wz hz=>by
     have hkz:Grew w8 wz:=⟨hz.2.1,hz.2.2,by rw[hz.1];exact lQ,fun k _ _=>by rw[hz.1]⟩
     refine((HK8.out.grown hkz).ruleOf (x&&&n.ends) hra).mono ?_;rintro e w' ⟨rfl,rfl⟩;rw[HRL.out];exact⟨rfl,hkz⟩
    generalize qT n.rules (x&&&n.ends)=r at *;generalize x&&&n.ends=xe at *;go_region_law ((first
     |(refine step_append_lies _ (by rfl) (.tmp 71) (.tmp 80) 45 (by rfl) w1.heap.size 3 i0 _ 1 8 underlying45 hi0 hz0 hz1 hz2 rfl (by decide) (.slice ar j cr) j (rules.map fun x=>.int .i64 x) (by simp[Act.eval,Act.put]) (OW.alloc _) ⟨w9.heap.size,0,none⟩ 1 1 [.int .i64 r] (by simp[Act.eval,Act.put]) (by rfl) (news_of_block (cs:=#[.int .i64 r]) (t:=3) (fr:=(0,0)) (gG w9 _)) (by simp[Value.oneCell']) (by decide) (by unfold maxLen;omega) (by omega) (by simp;omega) (w9.heap.size+1) (by simp) ?_;intro g2 cap2 w10 hown2 hgrow2 hat2 hlt4;have hPB2:=hgrow2.block w1.heap.size (by simp;omega) HNB.out;have v4b:w10.cell? ⟨w1.heap.size,4,none⟩=some (.slice ar j cr):=(cell?_of_block hPB2).trans ((cell?_alloc_past _ _ _ hkl9).trans v4a);have f4b:w10.frozen? ⟨w1.heap.size,4,none⟩=false:=(frozen?_of_block hPB2).trans ((frozen?_alloc_past _ _ _ hkl9).trans f4a))
     |(go_simp;go_at_call 93;refine(HC.out _ ?_).mono ?_;exact⟨rfl,rfl,rfl⟩;rintro e w9 ⟨rfl,hk9⟩;have HK9:Hid (Kw w1 w9 w1.heap.size p w1.heap.size Z6 s d2 (.slice a1 n.areas.lows.length c1) (.slice a2 n.areas.letters.length c2) (.slice a3 n.areas.sets.length c3) (.slice (some ⟨gg,0,none⟩) (j+1) cap) (.slice ar j cr) u8 (fun i=>if i=j then .slice au ul cu else us i) (rows++[rw2]) rules n.start.1 0 0):=HK8.out.grown hk9;have v4a:=HK9.out.cells.2.1;have f4a:=HK9.out.cells.2.2.2.2 4;have vqa:=HE3.out w9 HK9.out.keep;have hkl9:=HK9.out.kl;have HNB:Hid (some w1.heap.size≠(Value.slice ar j cr).ownBlock):=HK9.out.nbox.2;have OW:w9.ownsRow w1.heap.size 3 1 (.slice ar j cr) j (rules.map fun x=>.int .i64 x):=(by have:=HK9.out.rOwn;unfold OwnI at this;rw[hj4] at this;exact this))))
    all_goals
     have HF:Hid (zNz w1 (w10.setCell ⟨w1.heap.size,4,none⟩ (.slice (some ⟨g2,0,none⟩) (j+1) cap2)) w1.heap.size p w1.heap.size s d2 (.slice a1 n.areas.lows.length c1) (.slice a2 n.areas.letters.length c2) (.slice a3 n.areas.sets.length c3) u8 (rows++[rw2]) (rules++[r]) n.start.1 0 0):=⟨_,_,_,_,HK9.out.snocR hj4.symm hown2 hgrow2 (by
      rcases hat2 with ha|ha
      ·exact .inl ha
      ·right;rw[ha];omega)⟩
     clear hown2 hgrow2 hat2 hPB2 v4a f4a v4b f4b OW;go_wp2_with fail;go_roundg (most+1-(j+1))
     case measure=>rw[HB.out.1];omega
     case rel=>exact⟨j+1,d2,_,_,rfl,⟨by omega,by omega,by simp[hj3],by simp[hj4],hr2,fun t ht=>by
      rcases kU.1 ht with h1|h1
      ·exact HRW.out t h1
      ·rw[kY.1 h1];exact hr1a⟩,by go_num,HF.out,HGo2.out⟩
  ·have i1:¬((j:Int)<(d.found.length:Int)):=by omega
   have HZ:Hid (n.sort most=some (n.ended d rows rules)):=by
    show _=_;have e:n.sq.sortGo n.ahead n.ends most (most+1-j) j d rows rules=some (d,rows,rules):=by
     cases most+1-j with
     |zero=>rfl
     |succ k=>
      show(if j<d.found.length then _ else _)=_;rw[if_neg hjf]
    unfold Nt.sort;rw[HB.out.2.2,e]
   have HEN:Hid (n.ended d rows rules=if zAn (rows.map ints) rules (ints n.start.1)=rows.length then⟨rows++[n.start.1],rules++[-1],zAn (rows.map ints) rules (ints n.start.1),n.sq.kind d 0⟩ else⟨rows,rules,zAn (rows.map ints) rules (ints n.start.1),n.sq.kind d 0⟩):=rfl;have hll:zAn (rows.map ints) rules (ints n.start.1)<=rows.length:=by
    have:=zJN (rows.map ints) rules (ints n.start.1);rw[kV] at this;exact this
   have HKO:Hid (Calls prog 94 #[.pointer (some ⟨p,0,none⟩),.int .i64 0] wr fun e w'=>e=.returned (.int .i64 ((n.sq.kind d 0:Nat):Int))∧Kw w1 w' w1.heap.size p w1.heap.size Z s (s.kindS d 0) (.slice a1 n.areas.lows.length c1) (.slice a2 n.areas.letters.length c2) (.slice a3 n.areas.sets.length c3) nv rv2 u8 us rows rules n.start.1 0 0):=by
    have h:=hK.kindOf hml (by omega) 0 (by omega);rw[(HLK.out.kind d 0).1] at h;exact h
   have HLI:Hid (∀w4 Z d' st dd,Kw w1 w4 w1.heap.size p w1.heap.size Z s d' (.slice a1 n.areas.lows.length c1) (.slice a2 n.areas.letters.length c2) (.slice a3 n.areas.sets.length c3) nv rv2 u8 us rows rules n.start.1 st dd->Calls prog 95 #[.pointer (some ⟨w1.heap.size,0,none⟩),u8] w4 fun e w'=>e=.returned (.int .i64 ((zAn (rows.map ints) rules (ints n.start.1):Nat):Int))∧Grew w4 w'):=fun w4 Z d' st dd h4=>by
    refine zJc w4 w1.heap.size nv rv2 u8 (rows.map ints) rules (ints n.start.1) h4.kl h4.cells.1 h4.cells.2.1 h4.rowsAt (zAF h4.rOwn) (by rw[kV];omega) (by rw[kV];omega) (h4.stA.mono h4.zl) fun r hr=>?_;obtain⟨r2,hr2,rfl⟩:=List.mem_map.1 hr;rw[zM,HRW.out r2 hr2];omega
   have HPN:Hid (∀i x,w1.cell? ⟨p,i,none⟩≠some (.int .i64 x)):=HQ.out.2.1.no_int HQ.out.2.2.2.2.2.1 HQ.out.2.2.2.2.2.2.1 HQ.out.2.2.2.2.2.2.2 (by obtain⟨a,c,h,-⟩:=HQ.out.2.1.tls;exact⟨_,_,_,h⟩) ⟨_,_,_,rfl⟩ ⟨_,_,_,rfl⟩ (lv:=undef) (tv:=undef) (sv:=undef) (tl:=undef);have HAR:Hid (ArAt w1 (.slice a1 n.areas.lows.length c1) (.slice a2 n.areas.letters.length c2) (.slice a3 n.areas.sets.length c3) n.areas):=HQ.out.2.2.1;obtain⟨an,cn,hnv⟩:=zE HB.out.2.1.nOwn;obtain⟨ar,cr,hrv⟩:=HB.out.2.1.rOwn.form;rw[hj3] at hnv;rw[hj4] at hrv;generalize zAn (rows.map ints) rules (ints n.start.1)=lk at *;generalize n.sq.kind d 0=dd at *;generalize s.kindS d 0=d3 at *;have hu8:=HU8.out;generalize (ints n.start.1).length=ul8 at *;subst hnv hrv hu8;clear hK HFC z4;by_cases hlk:lk=rows.length
   ·have hlk2:lk=j:=by omega
    subst hlk2;have HEN2:Hid (n.ended d rows rules=⟨rows++[n.start.1],rules++[-1],lk,dd⟩):=by show _=_;rw[HEN.out,if_pos hlk]
    clear hlk HEN;go_wp2_with (first|(go_at_call 94;refine HKO.out.mono ?_;rintro e w3 ⟨rfl,K3⟩;have v6:=K3.cells.2.2.2.1;have f6:=K3.cells.2.2.2.2 6;have K4:=K3.setDead (dd:Int))|(go_at_call 95;refine(HLI.out _ _ _ _ _ K4).mono ?_;rintro e w5 ⟨rfl,hk5⟩;have K5:=K4.grown hk5;have v5:=K5.cells.2.2.1;have f5:=K5.cells.2.2.2.2 5;have K6:=K5.setStart (lk:Int)))
    have HK6:Hid (Kw w1 (w5.setCell ⟨w1.heap.size,5,none⟩ (.int .i64 (lk:Int))) w1.heap.size p w1.heap.size Z s d3 (.slice a1 n.areas.lows.length c1) (.slice a2 n.areas.letters.length c2) (.slice a3 n.areas.sets.length c3) (.slice an lk cn) (.slice ar lk cr) (.slice a8 ul8 c8) us rows rules n.start.1 (lk:Int) (dd:Int)):=K6;clear K3 K4 K5 K6 v6 f6 v5 f5 z6 hk5 HKO HLI;generalize w5.setCell ⟨w1.heap.size,5,none⟩ (.int .i64 (lk:Int))=w6 at *;have v5:=HK6.out.cells.2.2.1;have v3:=HK6.out.cells.1;have hkl6:=HK6.out.kl;go_quiet (fail);have HK7:Hid (Kw w1 (w6.drewN nq) w1.heap.size p w1.heap.size Z s d3 (.slice a1 n.areas.lows.length c1) (.slice a2 n.areas.letters.length c2) (.slice a3 n.areas.sets.length c3) (.slice an lk cn) (.slice ar lk cr) (.slice a8 ul8 c8) us rows rules n.start.1 (lk:Int) (dd:Int)):=HK6.out.grown (Keep.alike (w':=w6.drewN nq) ⟨rfl,rfl,rfl⟩);clear HK6 v5 v3;generalize w6.drewN nq=w7 at *;have v3:=HK7.out.cells.1;have hkl7:=HK7.out.kl;have OR:w7.ownsRow w1.heap.size 45 1 (.slice an lk cn) lk ((List.range lk).map us):=(by have:=HK7.out.nOwn;unfold Row at this;rw[hj3] at this;exact this)
    go_wp2_with (first|(at_builtin;refine wpList_append_lies _ rfl _ _ 45 rfl w1.heap.size 3 i0 (.int .i64 0) 1 8 underlying45 hi0 hz0 hz1 hz2 rfl (by decide) _ _ _ rfl (OW.alloc _) ⟨w8.heap.size,0,none⟩ 1 1 [.int .i64 (-1)] rfl rfl (zBg _ [.int .i64 (-1)] _ _ (zC _ _ _)) (by intro u hu;simp at hu;subst hu;rfl) (by decide) (by unfold maxLen;omega) (by omega) (by simp[zC];omega) _ rfl ?_;intro g2 cap2 w9 hown2 hgrow2 hat2 hlt4;have hPB2:w9.heap[w1.heap.size]? =(w8.setCell ⟨w1.heap.size,3,none⟩ (.slice (some ⟨gg,0,none⟩) (lk+1) cap)).heap[w1.heap.size]? :=(hgrow2.block _ (by simp[zC];omega) HK8.out.nbox.2).trans (lG _ _ _ HK8.out.kl);have t4:w9.cell? ⟨w1.heap.size,4,none⟩=some (.slice ar lk cr):=(cell?_of_block hPB2).trans v4;have g4:w9.frozen? ⟨w1.heap.size,4,none⟩=false:=(frozen?_of_block hPB2).trans (HK8.out.cells.2.2.2.2 4);have HK9:Hid (Kw w1 (w9.setCell ⟨w1.heap.size,4,none⟩ (.slice (some ⟨g2,0,none⟩) (lk+1) cap2)) w1.heap.size p w1.heap.size Z s d3 (.slice a1 n.areas.lows.length c1) (.slice a2 n.areas.letters.length c2) (.slice a3 n.areas.sets.length c3) (.slice (some ⟨gg,0,none⟩) (lk+1) cap) (.slice (some ⟨g2,0,none⟩) (lk+1) cap2) (.slice a8 ul8 c8) (fun i=>if i=lk then .slice a8 ul8 c8 else us i) (rows++[n.start.1]) (rules++[-1]) n.start.1 (lk:Int) (dd:Int)):=HK8.out.snocR hj4.symm hown2 hgrow2 (by rcases hat2 with ha|ha;exact .inl ha;right;rw[ha];simp[zC]))|(at_builtin;refine wpList_append_lies _ rfl _ _ 88 rfl w1.heap.size 45 ii1 (.slice none 0 0) 1 24 underlying88 hi1 hy0 hy1 hy2 rfl (by decide) _ _ _ rfl (OR.alloc _) ⟨w7.heap.size,0,none⟩ 1 1 [.slice a8 ul8 c8] rfl rfl (cell_one_new _ _ _) (by intro u hu;simp at hu;subst hu;rfl) (by decide) (by unfold maxLen;omega) (by omega) (by simp;omega) _ rfl ?_;intro gg cap w8 hown hgrow hat hlt3;have hPB:w8.heap[w1.heap.size]? =w7.heap[w1.heap.size]? :=(hgrow.block _ (by simp;omega) HK7.out.nbox.1).trans (lG _ _ _ (by omega));have t3:w8.cell? ⟨w1.heap.size,3,none⟩=some (.slice an lk cn):=(cell?_of_block hPB).trans v3;have g3:w8.frozen? ⟨w1.heap.size,3,none⟩=false:=(frozen?_of_block hPB).trans (HK7.out.cells.2.2.2.2 3);have HK8:Hid (Kw w1 (w8.setCell ⟨w1.heap.size,3,none⟩ (.slice (some ⟨gg,0,none⟩) (lk+1) cap)) w1.heap.size p w1.heap.size Z s d3 (.slice a1 n.areas.lows.length c1) (.slice a2 n.areas.letters.length c2) (.slice a3 n.areas.sets.length c3) (.slice (some ⟨gg,0,none⟩) (lk+1) cap) (.slice ar lk cr) (.slice a8 ul8 c8) (fun i=>if i=lk then .slice a8 ul8 c8 else us i) (rows++[n.start.1]) rules n.start.1 (lk:Int) (dd:Int)):=HK7.out.snocN hj3.symm HK7.out.stA hown hgrow (by rcases hat with ha|ha;exact .inl ha;right;rw[ha];simp);have v4:=HK8.out.cells.2.1;have hkl8:w1.heap.size<w8.heap.size:=(by have:=HK8.out.kl;rw[zC] at this;exact this);have OW:(w8.setCell ⟨w1.heap.size,3,none⟩ (.slice (some ⟨gg,0,none⟩) (lk+1) cap)).ownsRow w1.heap.size 3 1 (.slice ar lk cr) lk (rules.map fun x=>.int .i64 x):=(by have:=HK8.out.rOwn;unfold OwnI at this;rw[hj4] at this;exact this)))
    refine bodyPost_ret (results_tmp2 rfl _ _ _) rfl ?_;refine zF9 HZ.out ⟨?_,HKP.out _ HK9.out.keep⟩;rw[HEN2.out];exact zLQ (w:=w) HK9.out rfl HPN.out HAR.out
   ·have HEN2:Hid (n.ended d rows rules=⟨rows,rules,lk,dd⟩):=by show _=_;rw[HEN.out,if_neg hlk]
    have i3:¬((lk:Int)=(j:Int)):=by omega
    clear hlk HEN;go_wp2_with (first|(go_at_call 94;refine HKO.out.mono ?_;rintro e w3 ⟨rfl,K3⟩;have v6:=K3.cells.2.2.2.1;have f6:=K3.cells.2.2.2.2 6;have K4:=K3.setDead (dd:Int))|(go_at_call 95;refine(HLI.out _ _ _ _ _ K4).mono ?_;rintro e w5 ⟨rfl,hk5⟩;have K5:=K4.grown hk5;have v5:=K5.cells.2.2.1;have f5:=K5.cells.2.2.2.2 5;have K6:=K5.setStart (lk:Int)))
    have HK6:Hid (Kw w1 (w5.setCell ⟨w1.heap.size,5,none⟩ (.int .i64 (lk:Int))) w1.heap.size p w1.heap.size Z s d3 (.slice a1 n.areas.lows.length c1) (.slice a2 n.areas.letters.length c2) (.slice a3 n.areas.sets.length c3) (.slice an j cn) (.slice ar j cr) (.slice a8 ul8 c8) us rows rules n.start.1 (lk:Int) (dd:Int)):=K6;clear K3 K4 K5 K6 v6 f6 v5 f5 z6 hk5 HKO HLI;generalize w5.setCell ⟨w1.heap.size,5,none⟩ (.int .i64 (lk:Int))=w6 at *;have v5:=HK6.out.cells.2.2.1;have v3:=HK6.out.cells.1;have hc3:((lk:Int)==(j:Int))=false:=by simp;omega
    clear i3;go_quiet (fail);go_wp2_with fail;refine bodyPost_ret (results_tmp2 rfl _ _ _) rfl ?_;have HK7:=HK6.out.grown (Keep.alike (w':=w6.drewN nq) ⟨rfl,rfl,rfl⟩);refine zF9 HZ.out ⟨?_,HKP.out _ HK7.keep⟩;rw[HEN2.out];exact zLQ (w:=w) HK7 rfl HPN.out HAR.out
end
end Go.Proofs.YtbjcfkdnjaiclaaGreat
