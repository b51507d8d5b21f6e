import Derived.Test.YtbjcfkdnjaiclaaGreatS0
import Derived.Test.YtbjcfkdnjaiclaaGreatS15
/- Parts of the proof. -/
set_option linter.unusedVariables false
set_option linter.unusedSimpArgs false
set_option maxHeartbeats 4000000
set_option maxRecDepth 100000
namespace Go.Proofs.YtbjcfkdnjaiclaaGreat
open Go.RowKit Go.Proofs.Tryz Go.World
open Go.Value (int slice bool pointer string agg tuple)
open Go.IntKind (i64)
open Go.Ending (returned)
section
attribute [local go_sem ↓] Go.wp_at_zero Go.wp_at_succ
theorem zJz (d w:World)(a:Nat)(n:Nt)(l:NwIs d w a n)(aT:n.sets.length<=24)(aU:n.follow.length<=24)(u:Value)(c:Cs)(J:RangesAt d u c.ranges):
  Calls prog 123 #[pX a,agg #[u,bool c.others]] w λe w'=>e=returned n.spot.val/\NwIs d w' a (n.place c)/\StayS w w':=by
 obtain⟨al,am,an,ao,ap⟩:=info_parts yF;obtain⟨is_,aq,ar,av,aw⟩:=info_parts zPh;obtain⟨sv,ax,rv,ay,B,l⟩:=l;obtain⟨C,D,q,-⟩:=id J;obtain⟨w1,K,m,L,az,aA,aB⟩:∃w1,w1=(w.alloc (.cells #[u,bool c.others] 161)).alloc (.cells #[iX 0,iX 0,bool false] 167)/\Hid (Nw d w1 a n sv ax rv ay B)/\Hid (StayS w w1/\w1.heap.size=w.heap.size+1+1)/\w1.cell? ⟨w.heap.size,0,none⟩=some u/\w1.cell? ⟨w.heap.size,1,none⟩=some (bool c.others)/\Hid (w1.heap[w.heap.size+1]? =some (.cells #[iX 0,iX 0,bool false] 167)):=by
  have M:=kZ (b:=w.heap.size) w (.cells #[u,bool c.others] 161) lQ;have N:=kZ (b:=(w.alloc (.cells #[u,bool c.others] 161)).heap.size) (w.alloc (.cells #[u,bool c.others] 161)) (.cells #[iX 0,iX 0,bool false] 167) lQ;have s1:(w.alloc (.cells #[u,bool c.others] 161)).heap.size=w.heap.size+1:=by simp
  have O:((w.alloc (.cells #[u,bool c.others] 161)).alloc (.cells #[iX 0,iX 0,bool false] 167)).heap[w.heap.size]? =some (.cells #[u,bool c.others] 161):=(lG _ _ _ (by rw[s1];omega)).trans (gX _ _);refine⟨_,rfl,(l.grown M).grown N,⟨M.stayS.trans N.stayS,by simp⟩,?_,?_,?_⟩
  ·unfold cell?;rw[O];rfl
  ·unfold cell?;rw[O];rfl
  ·have:=gX (w.alloc (.cells #[u,bool c.others] 161)) (.cells #[iX 0,iX 0,bool false] 167)
   rw[s1] at this;exact this
 obtain⟨r,s,aC⟩:=zE l.sOwn;obtain⟨Q,R,S⟩:=l.fOwn.form;rw[zO] at S;have aV:=l.plen;have aW:d.heap.size<=w.heap.size:=l.keep.size;subst aC S;have T:=m.cells.1;have U:=m.cells.2.2.2.2.2.2 0;have V:=m.lt;have aX:d.heap.size<=w1.heap.size:=m.keep.size;have aD:=vl m.box.1;have W:w1.ownsRow d.heap.size 161 2 (slice r n.sets.length s) n.sets.length (jY B):=m.sOwn;have aY:=zF9 n.sets.length (by omega);have aE:=vl J;have aF:Hid (n.spot.val=agg #[iX ((2^n.sets.length:Nat):Int),iX ((2^n.sets.length:Nat):Int),bool false]):=rfl;generalize aZ:2^n.sets.length=P at *;generalize c.ranges.length=E at *;subst q;have a0:w.heap.size<w1.heap.size:=by rw[L.out.2];omega
 go_in;apply wp_cut;intro a1 aG;go_wp2;apply aG.out;rw[<-K];clear K;go_wp2;go_region_law ((refine step_append_lies _ (by rfl) (.tmp 16) (.tmp 18) 130 (by rfl) d.heap.size 161 is_ _ 2 32 underlying130 aq ar av aw rfl (by decide) (slice r n.sets.length s) n.sets.length (jY B) (by simp[Act.eval,Act.put]) ((W.alloc _).drew) ⟨w1.heap.size,0,none⟩ 1 1 [slice C E D,bool c.others] (by simp[Act.eval,Act.put]) (by rfl) (news_of_block (cs:=#[slice C E D,bool c.others]) (t:=161) (fr:=(0,0)) (gX w1 _)) (by simp[Value.oneCell']) (by decide) (by unfold maxLen;omega) (by omega) (by simp;omega) (w1.heap.size+1) (by simp) ?_;intro X cap w2 Y F aa aH;have G:=F.block a (by simp;omega) aD;have aI:w2.cell? ⟨a,0,none⟩=some (slice r n.sets.length s):=(gZ G).trans ((gW _ _ _ V).trans T);have aJ:w2.frozen? ⟨a,0,none⟩=false:=(gY G).trans ((frozen?_alloc_past _ _ _ V).trans U)))
 all_goals
  have ab:(w1.drew.alloc (Obj.cells #[Value.slice C E D,Value.bool c.others] 161)).grownBy w2 (Value.slice r n.sets.length s).ownBlock:=F;have g:=vl <| (m.grown (Keep.drew _)).addSet rfl aE Y ab (by
   rcases aa with p|p
   ·exact .inl p
   ·right;show w1.heap.size<=X;omega)
  clear Y F ab aa aH G aI aJ W T U az aA;generalize w2.setCell ⟨a,0,none⟩ (slice (qX X) (n.sets.length+1) cap)=y at *;have v1:=g.1.cells.2.1;have a2:=g.1.lt;have a3:d.heap.size<=y.heap.size:=g.1.keep.size;have aK:y.ownsRow d.heap.size 3 1 (slice Q n.follow.length R) n.follow.length ((ints n.follow).map λx=>iX x):=by
   have:=g.1.fOwn;unfold OwnI at this;rw[zO] at this;exact this
  go_wp2_with (first|(at_builtin;refine wpList_append_lies _ rfl _ _ 45 rfl (d.heap.size) 3 al (iX 0) 1 8 underlying45 am an ao ap rfl (by decide) _ _ _ rfl (aK.alloc _) ⟨y.heap.size,0,none⟩ 1 1 [iX 0] rfl rfl (cell_one_new _ _ _) (by intro u q;simp at q;subst q;rfl) (by decide) (by unfold maxLen;omega) (by omega) (by simp;omega) _ rfl ?_;intro i j f aL ac aM a4;have ad:f.heap[a]? =y.heap[a]? :=(ac.block _ (by simp;omega) g.1.box.2.1).trans (lG _ _ _ (by omega));have ae:f.cell? ⟨a,1,none⟩=some (slice Q n.follow.length R):=(gZ ad).trans v1;have a5:f.frozen? ⟨a,1,none⟩=false:=(gY ad).trans (g.1.cells.2.2.2.2.2.2 1);have H:=g.1.addFollow (x:=0) rfl aL ac (by rcases aM with p|p;exact .inl p;right;rw[p];simp);have k:=H.2 _ _ (g.2 _ _ aB);have aN:=vl H;have aO:=vl k;have a6:(f.setCell ⟨a,1,none⟩ (slice (qX i) (n.follow.length+1) j)).cell? ⟨w.heap.size+1,0,none⟩=some (iX 0):=(by unfold cell?;rw[k];rfl);have a7:(f.setCell ⟨a,1,none⟩ (slice (qX i) (n.follow.length+1) j)).cell? ⟨w.heap.size+1,1,none⟩=some (iX 0):=(by unfold cell?;rw[k];rfl);have a8:(f.setCell ⟨a,1,none⟩ (slice (qX i) (n.follow.length+1) j)).cell? ⟨w.heap.size+1,2,none⟩=some (bool false):=(by unfold cell?;rw[k];rfl);have a9:(f.setCell ⟨a,1,none⟩ (slice (qX i) (n.follow.length+1) j)).frozen? ⟨w.heap.size+1,0,none⟩=false:=(by unfold frozen?;rw[k];rfl);have ba:(f.setCell ⟨a,1,none⟩ (slice (qX i) (n.follow.length+1) j)).frozen? ⟨w.heap.size+1,1,none⟩=false:=(by unfold frozen?;rw[k];rfl);have q2:(f.setCell ⟨a,1,none⟩ (slice (qX i) (n.follow.length+1) j)).frozen? ⟨w.heap.size+1,2,none⟩=false:=(by unfold frozen?;rw[k];rfl);clear H k))
  obtain⟨o,ag,c0,c1,c2,ah⟩:∃o,o=(((f.setCell ⟨a,1,none⟩ (slice (qX i) (n.follow.length+1) j)).setCell ⟨w.heap.size+1,0,none⟩ (iX (P:Int))).setCell ⟨w.heap.size+1,1,none⟩ (iX (P:Int))).setCell ⟨w.heap.size+1,2,none⟩ (bool false)/\o.cell? ⟨w.heap.size+1,0,none⟩=some (iX (P:Int))/\o.cell? ⟨w.heap.size+1,1,none⟩=some (iX (P:Int))/\o.cell? ⟨w.heap.size+1,2,none⟩=some (bool false)/\Hid (NwIs d o a (n.place c)/\StayS w o):=by
   have ai:=aN.out;have aj:=aO.out;generalize f.setCell ⟨a,1,none⟩ (slice (qX i) (n.follow.length+1) j)=z at *;have ak:(z.setCell ⟨w.heap.size+1,0,none⟩ (iX (P:Int))).heap[w.heap.size+1]? =some (.cells #[iX (P:Int),iX 0,bool false] 167):=by simp[setCell,lU,aj]
   have aP:NwIs d (z.setCell ⟨w.heap.size+1,0,none⟩ (iX (P:Int))) a (n.place c):=NwIs.setSpan ⟨_,_,_,_,_,ai.1⟩ aj (by omega);have ae:StayS w (z.setCell ⟨w.heap.size+1,0,none⟩ (iX (P:Int))):=zAp ((L.1.trans g.2).trans ai.2) (by omega);generalize z.setCell ⟨w.heap.size+1,0,none⟩ (iX (P:Int))=A at *;have b2:(A.setCell ⟨w.heap.size+1,1,none⟩ (iX (P:Int))).heap[w.heap.size+1]? =some (.cells #[iX (P:Int),iX (P:Int),bool false] 167):=by simp[setCell,lU,ak]
   have aQ:NwIs d (A.setCell ⟨w.heap.size+1,1,none⟩ (iX (P:Int))) a (n.place c):=aP.setSpan ak (by omega);have aR:StayS w (A.setCell ⟨w.heap.size+1,1,none⟩ (iX (P:Int))):=zAp ae (by omega);generalize A.setCell ⟨w.heap.size+1,1,none⟩ (iX (P:Int))=aS at *;have I:(aS.setCell ⟨w.heap.size+1,2,none⟩ (bool false)).heap[w.heap.size+1]? =some (.cells #[iX (P:Int),iX (P:Int),bool false] 167):=by simp[setCell,lU,b2]
   refine⟨_,rfl,?_,?_,?_,aQ.setSpan b2 (by omega),zAp aR (by omega)⟩
   ·unfold cell?;rw[I];rfl
   ·unfold cell?;rw[I];rfl
   ·unfold cell?;rw[I];rfl
  rw[<-ag];clear ag;refine gV (v:=agg #[iX (P:Int),iX (P:Int),bool false]) (by simp[results,results123,go_sem,c0,c1,c2]) rfl ?_;exact⟨by rw[aF.out],ah.1,ah.2⟩
end
structure Tr where
 kind:Nat
 set:Cs
 parts:List Tr
 least:Nat
 most:Nat
 endless:Bool
 chars:Nat
def Tr.none:Tr:=⟨0,⟨[],false⟩,[],0,0,false,0⟩
def Tr.copies (t:Tr):Nat:=if t.endless then(if t.least=0 then 1 else t.least) else t.most
def TreeAt (w:World):Nat->Nat->Tr->Prop
 |0,_,_=>False
 |d+1,b,t=>b<w.heap.size/\∃rv pv,w.heap[b]? =some (.cells #[int i64 (t.kind:Int),rv,bool t.set.others,pv,int i64 (t.least:Int),int i64 (t.most:Int),bool t.endless,int i64 (t.chars:Int)] 165)/\RangesAt w rv t.set.ranges/\
   ∃ao cap,pv=slice ao t.parts.length cap/\(t.parts.length<=cap/\t.parts.length<=1000000000000/\t.least<=1000/\t.most<=1000)/\cap<=maxLen/\∀i,i<t.parts.length->∃g o p,ao=some ⟨g,o,none⟩/\In w g/\w.cell? ⟨g,o+i,none⟩=some (pointer (some ⟨p,0,none⟩))/\TreeAt w d p (t.parts.getD i Tr.none)
abbrev Lay:=Nt->Tr->Nt×Sn
def rowTo (sub:Lay)(n:Nt)(parts:List Tr):Nat->Nt×Sn
 |0=>(n,⟨0,0,true⟩)
 |j+1=>((sub (rowTo sub n parts j).1 (parts.getD j Tr.none)).1.link (rowTo sub n parts j).2.last (sub (rowTo sub n parts j).1 (parts.getD j Tr.none)).2.first,(rowTo sub n parts j).2.then (sub (rowTo sub n parts j).1 (parts.getD j Tr.none)).2)
def Sn.or (a b:Sn):Sn:=⟨a.first|||b.first,a.last|||b.last,a.empty||b.empty⟩
def zAe (sub:Lay)(n:Nt)(parts:List Tr):Nat->Nt×Sn
 |0=>(n,⟨0,0,false⟩)
 |j+1=>((sub (zAe sub n parts j).1 (parts.getD j Tr.none)).1,(zAe sub n parts j).2.or (sub (zAe sub n parts j).1 (parts.getD j Tr.none)).2)
def zAU (t:Tr)(j:Nat)(q:Nt×Sn):Nt:=if t.endless&&(j+1==t.copies) then q.1.link q.2.last q.2.first else q.1
def zBM (t:Tr)(j:Nat)(q:Nt×Sn):Sn:=if t.least<=j then{q.2 with empty:=true} else q.2
def yH (sub:Lay)(n:Nt)(t:Tr):Nat->Nt×Sn
 |0=>(n,⟨0,0,true⟩)
 |j+1=>((zAU t j (rowTo sub (yH sub n t j).1 t.parts t.parts.length)).link (yH sub n t j).2.last (zBM t j (rowTo sub (yH sub n t j).1 t.parts t.parts.length)).first,(yH sub n t j).2.then (zBM t j (rowTo sub (yH sub n t j).1 t.parts t.parts.length)))
def xQ:Nat->Lay
 |0,n,_=>(n,⟨0,0,true⟩)
 |d+1,n,t=>if t.kind=1 then(n.place t.set,n.spot) else if t.kind=2 then rowTo (xQ d) n t.parts t.parts.length else if t.kind=3 then zAe (xQ d) n t.parts t.parts.length else if t.kind=4 then yH (xQ d) n t t.copies else(n,⟨0,0,true⟩)
def xE (f:Tr->Nat)(parts:List Tr):Nat->Nat
 |0=>0
 |j+1=>xE f parts j+f (parts.getD j Tr.none)
def qE:Nat->Tr->Nat
 |0,_=>0
 |d+1,t=>if t.kind=1 then 1 else if t.kind=2\/t.kind=3 then xE (qE d) t.parts t.parts.length else if t.kind=4 then t.copies*xE (qE d) t.parts t.parts.length else 0
structure Nt.Good (n:Nt):Prop where
 len:n.sets.length<=24
 same:n.follow.length=n.sets.length
 fol:∀x∈n.follow,x<2^n.sets.length
theorem Nt.Good.top {n:Nt}(a:n.Good):∀x∈n.follow,x<2^24:=λx b=>lZ (a.fol x b) (kG (by omega) a.len)
theorem Sn.Small.up {s:Sn}{k m:Nat}(a:s.Small k)(b:k<=m):s.Small m:=⟨lZ a.first (kG (by omega) b),lZ a.last (kG (by omega) b)⟩
theorem zCC (n:Nt)(a b j:Nat):(n.linkTo a b j).sets=n.sets/\(n.linkTo a b j).rules=n.rules/\(n.linkTo a b j).empty=n.empty/\(n.linkTo a b j).first=n.first/\(n.linkTo a b j).ends=n.ends:=by
 induction j with
 |zero=>exact⟨rfl,rfl,rfl,rfl,rfl⟩
 |succ j c=>
  unfold Nt.linkTo;split
  ·exact c
  ·exact c
theorem zC5 {n:Nt}(c:n.Good)(a b:Nat)(d:b<2^n.sets.length):(n.link a b).Good/\(n.link a b).sets=n.sets:=by
 have e:=(zCC n a b n.follow.length).1;refine⟨⟨by unfold Nt.link;rw[e];exact c.len,by unfold Nt.link;rw[e,zGj];exact c.same,?_⟩,e⟩;unfold Nt.link;rw[e];exact zD8 a b _ d c.fol
theorem zKW {n:Nt}(d:n.Good)(c:Cs)(g:n.sets.length+1<=24):(n.place c).Good/\(n.place c).sets.length=n.sets.length+1/\n.spot.Small (n.sets.length+1):=by
 have e:(n.place c).sets.length=n.sets.length+1:=by simp[Nt.place]
 have a:2^n.sets.length<2^(n.sets.length+1):=Nat.pow_lt_pow_right (by omega) (by omega);refine⟨⟨by omega,by simp[Nt.place,d.same],λx f=>?_⟩,e,⟨a,a⟩⟩;rw[e];rcases kU.1 f with b|b
 ·exact Nat.lt_trans (d.fol x b) a
 ·rw[kY.1 b];exact Nat.pow_pos (by omega)
def Lays (sub:Lay)(cnt:Tr->Nat):Prop:=∀n t,n.Good->n.sets.length+cnt t<=24->(sub n t).1.Good/\(sub n t).1.sets.length=n.sets.length+cnt t/\(sub n t).2.Small (n.sets.length+cnt t)
theorem zA6 (k:Nat)(e:Bool):(Sn.mk 0 0 e).Small k:=⟨Nat.pow_pos (by omega),Nat.pow_pos (by omega)⟩
theorem zDI (f:Tr->Nat)(parts:List Tr)(j m:Nat)(a:j<=m):xE f parts j<=xE f parts m:=by
 induction m with
 |zero=>rw[Nat.le_zero.1 a];exact lQ
 |succ m b=>
  by_cases e:j=m+1
  ·rw[e];exact lQ
  ·exact lY (b (by omega)) (Nat.le_add_right _ _)
theorem zA7 {a:Lay}{cnt:Tr->Nat}(f:Lays a cnt){n:Nt}(g:n.Good)(parts:List Tr)(j:Nat)(i:n.sets.length+xE cnt parts j<=24):(rowTo a n parts j).1.Good/\(rowTo a n parts j).1.sets.length=n.sets.length+xE cnt parts j/\(rowTo a n parts j).2.Small (n.sets.length+xE cnt parts j):=by
 induction j with
 |zero=>exact⟨g,rfl,zA6 _ _⟩
 |succ j k=>
  have q:n.sets.length+(xE cnt parts j+cnt (parts.getD j Tr.none))<=24:=i;obtain⟨l,m,o⟩:=k (by omega);obtain⟨p,b,c⟩:=f _ (parts.getD j Tr.none) l (by omega);rw[m] at b c;have e:n.sets.length+xE cnt parts (j+1)=n.sets.length+xE cnt parts j+cnt (parts.getD j Tr.none):=by show n.sets.length+(xE cnt parts j+cnt (parts.getD j Tr.none))=_;omega
  rw[e];have d:=zC5 p (rowTo a n parts j).2.last _ (by rw[b];exact c.first);exact⟨d.1,by show((a _ _).1.link _ _).sets.length=_;rw[d.2];exact b,Sn.then_small (o.up (by omega)) c⟩
theorem zCK {a:Lay}{cnt:Tr->Nat}(f:Lays a cnt){n:Nt}(g:n.Good)(parts:List Tr)(j:Nat)(i:n.sets.length+xE cnt parts j<=24):(zAe a n parts j).1.Good/\(zAe a n parts j).1.sets.length=n.sets.length+xE cnt parts j/\(zAe a n parts j).2.Small (n.sets.length+xE cnt parts j):=by
 induction j with
 |zero=>exact⟨g,rfl,zA6 _ _⟩
 |succ j k=>
  have r:n.sets.length+(xE cnt parts j+cnt (parts.getD j Tr.none))<=24:=i;obtain⟨l,o,p⟩:=k (by omega);obtain⟨q,c,b⟩:=f _ (parts.getD j Tr.none) l (by omega);rw[o] at c b;have e:n.sets.length+xE cnt parts (j+1)=n.sets.length+xE cnt parts j+cnt (parts.getD j Tr.none):=by show n.sets.length+(xE cnt parts j+cnt (parts.getD j Tr.none))=_;omega
  rw[e];have d:=p.up (m:=n.sets.length+xE cnt parts j+cnt (parts.getD j Tr.none)) (by omega);exact⟨q,c,⟨Nat.or_lt_two_pow d.first b.first,Nat.or_lt_two_pow d.last b.last⟩⟩
theorem zJT {t:Tr}{j k:Nat}{q:Nt×Sn}(a:q.2.Small k):(zBM t j q).Small k:=by
 unfold zBM;split
 ·exact⟨a.first,a.last⟩
 ·exact a
theorem zCf {a:Lay}{cnt:Tr->Nat}(i:Lays a cnt){n:Nt}(k:n.Good)(t:Tr)(j:Nat)(l:n.sets.length+j*xE cnt t.parts t.parts.length<=24):(yH a n t j).1.Good/\(yH a n t j).1.sets.length=n.sets.length+j*xE cnt t.parts t.parts.length/\(yH a n t j).2.Small (n.sets.length+j*xE cnt t.parts t.parts.length):=by
 induction j with
 |zero=>exact⟨k,by simp[yH],zA6 _ _⟩
 |succ j m=>
  rw[Nat.add_mul,Nat.one_mul] at l ⊢;obtain⟨o,p,q⟩:=m (by omega);obtain⟨f,b,c⟩:=zA7 i o t.parts t.parts.length (by omega);rw[p] at b c;have d:(zAU t j (rowTo a (yH a n t j).1 t.parts t.parts.length)).Good/\(zAU t j (rowTo a (yH a n t j).1 t.parts t.parts.length)).sets=(rowTo a (yH a n t j).1 t.parts t.parts.length).1.sets:=by
   unfold zAU;split
   ·exact zC5 f _ _ (by rw[b];exact c.first)
   ·exact⟨f,rfl⟩
  have s2:=zJT (t:=t) (j:=j) c;have g:=zC5 d.1 (yH a n t j).2.last (zBM t j (rowTo a (yH a n t j).1 t.parts t.parts.length)).first (by rw[d.2,b];exact s2.first)
  have e:n.sets.length+(j*xE cnt t.parts t.parts.length+xE cnt t.parts t.parts.length)=n.sets.length+j*xE cnt t.parts t.parts.length+xE cnt t.parts t.parts.length:=by omega
  rw[e];exact⟨g.1,by show((zAU t j _).link _ _).sets.length=_;rw[g.2,d.2];exact b,Sn.then_small (q.up (by omega)) s2⟩
theorem zAB (c:Nat):Lays (xQ c) (qE c):=by
 induction c with
 |zero=>exact λn t b _=>⟨b,rfl,zA6 _ _⟩
 |succ c e=>
  intro n t b a;unfold xQ;unfold qE at a ⊢;by_cases h:t.kind=1
  ·simp only[if_pos h] at a ⊢
   have:=zKW b t.set a;exact this
  ·simp only[if_neg h] at a ⊢
   by_cases f:t.kind=2
   ·simp only[if_pos f,if_pos (Or.inl f:t.kind=2\/t.kind=3)] at a ⊢
    exact zA7 e b _ _ a
   ·simp only[if_neg f] at a ⊢
    by_cases g:t.kind=3
    ·simp only[if_pos g,if_pos (Or.inr g:t.kind=2\/t.kind=3)] at a ⊢
     exact zCK e b _ _ a
    ·simp only[if_neg g,if_neg (show¬(t.kind=2\/t.kind=3) by omega)] at a ⊢
     by_cases i:t.kind=4
     ·simp only[if_pos i] at a ⊢
      exact zCf e b t _ a
     ·simp only[if_neg i] at a ⊢
      exact⟨b,rfl,zA6 _ _⟩
section
def zCT (w0:World)(nb d:Nat)(sub:Lay)(cnt:Tr->Nat):Prop:=∀(w:World) (n:Nt) (b:Nat) (t:Tr),NwIs w0 w nb n->n.Good->TreeAt w0 d b t->n.sets.length+cnt t<=24->Calls prog 89 #[pointer (some ⟨nb,0,none⟩),pointer (some ⟨b,0,none⟩)] w λe w'=>e=returned (sub n t).2.val/\NwIs w0 w' nb (sub n t).1/\StayS w w'
structure Al (w0 w wr:World)(nb:Nat)(n:Nt)(s:Sn):Prop where
 net:NwIs w0 wr nb n
 res:wr.heap[w.heap.size]? =some (.cells (Sn.mk 0 0 false).cells 167)
 all:wr.heap[w.heap.size+1]? =some (.cells s.cells 167)
 stay:StayS w wr
 old:w0.heap.size<=w.heap.size
theorem zI {w:World}{b:Nat}{s:Sn}(a:w.heap[b]? =some (.cells s.cells 167)):w.cell? ⟨b,0,none⟩=some (iX (s.first:Int))/\w.cell? ⟨b,1,none⟩=some (iX (s.last:Int))/\w.cell? ⟨b,2,none⟩=some (bool s.empty)/\∀i,w.frozen? ⟨b,i,none⟩=false:=by
 refine⟨?_,?_,?_,λi=>?_⟩
 ·unfold cell?;rw[a];rfl
 ·unfold cell?;rw[a];rfl
 ·unfold cell?;rw[a];rfl
 ·unfold frozen?;rw[a];simp
def World.span (w:World)(b:Nat)(s:Sn):World:=((w.setCell ⟨b,0,none⟩ (int i64 (s.first:Int))).setCell ⟨b,1,none⟩ (int i64 (s.last:Int))).setCell ⟨b,2,none⟩ (bool s.empty)
theorem zFU {w:World}{b:Nat}{s s':Sn}(e:w.heap[b]? =some (.cells s.cells 167)):(World.span w b s').heap[b]? =some (.cells s'.cells 167)/\(∀k,k≠b->(World.span w b s').heap[k]? =w.heap[k]?)/\(∀w0 nb n,NwIs w0 w nb n->w0.heap.size<=b->NwIs w0 (World.span w b s') nb n):=by
 have c2:(w.setCell ⟨b,0,none⟩ (iX (s'.first:Int))).heap[b]? =some (.cells #[iX (s'.first:Int),iX (s.last:Int),bool s.empty] 167):=by simp[setCell,lU,e,Sn.cells]
 have g:∀k,k≠b->(w.setCell ⟨b,0,none⟩ (iX (s'.first:Int))).heap[k]? =w.heap[k]? :=λk a=>lJ _ _ _ _ a;have i:∀w0 nb n,NwIs w0 w nb n->w0.heap.size<=b->NwIs w0 (w.setCell ⟨b,0,none⟩ (iX (s'.first:Int))) nb n:=λw0 nb n d c=>d.setSpan e c;unfold World.span;generalize w.setCell ⟨b,0,none⟩ (iX (s'.first:Int))=w1 at *;have f:(w1.setCell ⟨b,1,none⟩ (iX (s'.last:Int))).heap[b]? =some (.cells #[iX (s'.first:Int),iX (s'.last:Int),bool s.empty] 167):=by simp[setCell,lU,c2]
 have j:∀k,k≠b->(w1.setCell ⟨b,1,none⟩ (iX (s'.last:Int))).heap[k]? =w.heap[k]? :=λk a=>(lJ _ _ _ _ a).trans (g k a);have l:∀w0 nb n,NwIs w0 w nb n->w0.heap.size<=b->NwIs w0 (w1.setCell ⟨b,1,none⟩ (iX (s'.last:Int))) nb n:=λw0 nb n d c=>(i w0 nb n d c).setSpan c2 c;generalize w1.setCell ⟨b,1,none⟩ (iX (s'.last:Int))=w2 at *;refine⟨by simp[setCell,lU,f,Sn.cells],λk a=>(lJ _ _ _ _ a).trans (j k a),λw0 nb n d c=>(l w0 nb n d c).setSpan f c⟩
section
variable {w0 w wr w2:World} {nb:Nat} {n:Nt} {s:Sn}
theorem Al.call {c:Nt}(a:Al w0 w wr nb n s)(d:NwIs w0 w2 nb c)(b:StayS wr w2):Al w0 w w2 nb c s:=⟨d,b _ _ a.res,b _ _ a.all,a.stay.trans b,a.old⟩
theorem Al.grown (a:Al w0 w wr nb n s)(b:Grew wr w2):Al w0 w w2 nb n s:=a.call (a.net.grown b) b.stayS
theorem Al.setAll (a:Al w0 w wr nb n s)(s':Sn):Al w0 w (World.span wr (w.heap.size+1) s') nb n s':=by
 obtain⟨e,b,f⟩:=zFU (s':=s') a.all;have g:=a.old;exact⟨f _ _ _ a.net (by omega),(b _ (by omega)).trans a.res,e,λk c d=>by
  have i:=(kQ.1 d).1;exact(b k (by omega)).trans (a.stay k c d),a.old⟩
theorem Al.fin (a:Al w0 w wr nb n s)(s':Sn):NwIs w0 (World.span wr w.heap.size s') nb n/\StayS w (World.span wr w.heap.size s')/\(World.span wr w.heap.size s').cell? ⟨w.heap.size,0,none⟩=some (iX (s'.first:Int))/\(World.span wr w.heap.size s').cell? ⟨w.heap.size,1,none⟩=some (iX (s'.last:Int))/\(World.span wr w.heap.size s').cell? ⟨w.heap.size,2,none⟩=some (bool s'.empty):=by
 obtain⟨d,e,f⟩:=zFU (s':=s') a.res;obtain⟨c0,c1,c2,_⟩:=zI d;exact⟨f _ _ _ a.net a.old,λk c b=>by
  have g:=(kQ.1 b).1;exact(e k (by omega)).trans (a.stay k c b),c0,c1,c2⟩
theorem Al.start (a:NwIs w0 w nb n)(s:Sn):Al w0 w ((w.alloc (.cells (Sn.mk 0 0 false).cells 167)).alloc (.cells s.cells 167)) nb n s:=by
 have s1:(w.alloc (.cells (Sn.mk 0 0 false).cells 167)).heap.size=w.heap.size+1:=by simp
 have c:=kZ (b:=w.heap.size) w (.cells (Sn.mk 0 0 false).cells 167) lQ;have d:=kZ (b:=(w.alloc (.cells (Sn.mk 0 0 false).cells 167)).heap.size) (w.alloc (.cells (Sn.mk 0 0 false).cells 167)) (.cells s.cells 167) lQ;refine⟨(a.grown c).grown d,(lG _ _ _ (by rw[s1];omega)).trans (gX _ _),?_,c.stayS.trans d.stayS,by obtain⟨_,_,_,_,_,a⟩:=a;exact a.keep.size⟩;have:=gX (w.alloc (.cells (Sn.mk 0 0 false).cells 167)) (.cells s.cells 167);rw[s1] at this;exact this
end
theorem zD9 (w0:World)(nb H:Nat)(c:Lay)(cnt:Tr->Nat)(O:zCT w0 nb H c cnt)(B:Lays c cnt)(w:World)(n:Nt)(b:Nat)(t:Tr)(P:NwIs w0 w nb n)(I:n.Good)(aw:TreeAt w0 (H+1) b t)(Q:n.sets.length+xE cnt t.parts t.parts.length<=24)(aX:t.parts.length<=1000000000000):
  Calls prog 124 #[pX nb,pX b] w λe w'=>e=returned (rowTo c n t.parts t.parts.length).2.val/\NwIs w0 w' nb (rowTo c n t.parts t.parts.length).1/\StayS w w':=by
 obtain⟨R,rv,aY,S,_,ao,cap,rfl,_,_,T⟩:=aw;have U:Hid (∀wr V,NwIs w0 wr nb V->wr.cell? ⟨b,3,none⟩=some (slice ao t.parts.length cap)/\∀i,i<t.parts.length->∃g o p,ao=some ⟨g,o,none⟩/\wr.cell? ⟨g,o+i,none⟩=some (pX p)/\TreeAt w0 H p (t.parts.getD i Tr.none)):=by
  rintro wr V ⟨_,_,_,_,_,ax⟩;have W:=ax.keep;have ay:=(W.block b R (kJ R)).trans S;refine⟨by unfold cell?;rw[ay];rfl,λi az=>?_⟩;obtain⟨g,o,p,aA,aB,X,C⟩:=T i az;exact⟨g,o,p,aA,zA X aB W,C⟩
 obtain⟨a,Y⟩:∃a,a=rowTo c n t.parts:=⟨_,rfl⟩
 have y:Hid (a 0=(n,⟨0,0,true⟩)/\(∀j,a (j+1)=((c (a j).1 (t.parts.getD j Tr.none)).1.link (a j).2.last (c (a j).1 (t.parts.getD j Tr.none)).2.first,(a j).2.then (c (a j).1 (t.parts.getD j Tr.none)).2))/\(∀j,j<=t.parts.length->(a j).1.Good/\(a j).2.Small 24)/\(∀j,j<t.parts.length->(a j).1.sets.length+cnt (t.parts.getD j Tr.none)<=24/\(c (a j).1 (t.parts.getD j Tr.none)).1.Good/\(c (a j).1 (t.parts.getD j Tr.none)).2.Small 24)/\a t.parts.length=rowTo c n t.parts t.parts.length):=by
  rw[Y];have D:∀j,j<=t.parts.length->n.sets.length+xE cnt t.parts j<=24:=λj m=>lY (Nat.add_le_add_left (zDI cnt t.parts j _ m) _) Q;refine⟨rfl,λj=>rfl,λj m=>?_,λj m=>?_,rfl⟩
  ·have:=zA7 B I t.parts j (D j m)
   exact⟨this.1,this.2.2.up (D j m)⟩
  ·have u:=zA7 B I t.parts j (D j (by omega))
   have aa:n.sets.length+(xE cnt t.parts j+cnt (t.parts.getD j Tr.none))<=24:=D (j+1) m;have E:=B _ (t.parts.getD j Tr.none) u.1 (by rw[u.2.1];omega);exact⟨by rw[u.2.1];omega,E.1,E.2.2.up (by rw[u.2.1];omega)⟩
 obtain⟨w1,ab,ac⟩:∃w1,w1=(w.alloc (.cells #[iX 0,iX 0,bool false] 167)).alloc (.cells #[iX 0,iX 0,bool true] 167)/\Hid (Al w0 w w1 nb n ⟨0,0,true⟩):=⟨_,rfl,Al.start P ⟨0,0,true⟩⟩
 have aC:=vl O;generalize aD:rowTo c n t.parts t.parts.length=f at *;clear aD Y T S O B Q P I;go_in;apply wp_cut;intro aE z;go_wp2;apply z.out;clear z;apply wp_cut;intro aE z;go_wp2;apply z.out;clear z;rw[<-ab];clear ab;have y3:=(U w1 n ac.net).1;go_wp2;clear y3;go_loopg [15] t.parts.length (λq i wr=>∃j:Nat,q=t.parts.length-j/\j<=t.parts.length/\i=iX (j:Int)/\Al w0 w wr nb (a j).1 (a j).2)
 case atStart=>exact⟨0,rfl,lX,rfl,by rw[y.out.1];exact ac⟩
 case round=>
  obtain⟨j,J,m,rfl,k⟩:=hrel;have aF:Hid (gk=t.parts.length-j/\Al w0 w wr nb (a j).1 (a j).2):=⟨J,k⟩
  by_cases ad:j<t.parts.length
  ·have aG:(j:Int)<(t.parts.length:Int):=by omega
   obtain⟨g,o,p,rfl,X,C⟩:=(U wr _ k.net).2 j ad;obtain⟨ae,b2,af⟩:=y.2.2.2.1 j ad;obtain⟨ag,ah⟩:=y.2.2.1 j m;have ai:=aC wr (a j).1 p (t.parts.getD j Tr.none) k.net ag C ae;have aj:=λx (aH:NwIs w0 x nb (c (a j).1 (t.parts.getD j Tr.none)).1)=>zDw w0 x nb _ aH (by rw[b2.same];exact b2.len) b2.top (a j).2 (c (a j).1 (t.parts.getD j Tr.none)).2 ah af;have aI:=vl <| y.2.1 j;have aJ:=vl k;clear J k C ae b2 af ag ah;generalize (a j).1=ak at *;generalize (a j).2=l at *;generalize (c ak (t.parts.getD j Tr.none)).1=A at *;generalize (c ak (t.parts.getD j Tr.none)).2=q2 at *;have aK:Hid (Ca 89 #[pX nb,pX p] wr λe w'=>e=returned (agg #[iX (q2.first:Int),iX (q2.last:Int),bool q2.empty])/\NwIs w0 w' nb A/\StayS wr w'):=ai;have aL:Hid (∀x,NwIs w0 x nb A->Ca 164 #[pX nb,agg #[iX (l.first:Int),iX (l.last:Int),bool l.empty],agg #[iX (q2.first:Int),iX (q2.last:Int),bool q2.empty]] x λe w'=>e=returned (agg #[iX ((l.then q2).first:Int),iX ((l.then q2).last:Int),bool (l.then q2).empty])/\NwIs w0 w' nb (A.link l.last q2.first)/\StayS x w'):=aj;clear ai aj;generalize l.then q2=K at *
   go_wp2_with (first|(go_at_call 89;refine aK.mono ?_;rintro e L ⟨rfl,al,am⟩;have an:=aJ.call al am;have M:=an.grown (kZ L (Obj.cells #[iX (q2.first:Int),iX (q2.last:Int),bool q2.empty] 167) lQ);obtain⟨c0,c1,c2,-⟩:=zI M.all;obtain⟨aZ,a0,a1,-⟩:=zI (s:=q2) (gX L (Obj.cells #[iX (q2.first:Int),iX (q2.last:Int),bool q2.empty] 167));have ap:Hid (Al w0 w (L.alloc (Obj.cells #[iX (q2.first:Int),iX (q2.last:Int),bool q2.empty] 167)) nb A l):=M;clear an M al am)|(go_at_call 164;refine(aL _ ap.net).mono ?_;rintro e aM ⟨rfl,aq,ar⟩;have N:=ap.call aq ar;obtain⟨a2,a3,a4,F⟩:=zI N.all;have aN:=F 0;have aO:=F 1;have aP:=F 2;have aQ:Hid (Al w0 w (World.span aM (w.heap.size+1) K) nb (A.link l.last q2.first) K):=N.setAll K;clear N aq ar F))
   go_roundg (t.parts.length-(j+1))
   case measure=>rw[aF.out.1];omega
   case rel=>exact⟨j+1,rfl,by omega,by go_num,by rw[aI.out];exact aQ⟩
  ·have aG:(t.parts.length:Int)<=(j:Int):=by omega
   have e:j=t.parts.length:=by omega
   subst e;rw[y.out.2.2.2.2] at k;obtain⟨c0,c1,c2,-⟩:=zI k.all;obtain⟨a5,a6,a7,G⟩:=zI k.res;have aN:=G 0;have aO:=G 1;have aP:=G 2;have aR:Hid (Al w0 w wr nb f.1 f.2):=k;clear J k G;go_wp2;obtain⟨r,au,av,aS,aT,aU⟩:∃r,r=((wr.setCell ⟨w.heap.size,0,none⟩ (iX (f.2.first:Int))).setCell ⟨w.heap.size,1,none⟩ (iX (f.2.last:Int))).setCell ⟨w.heap.size,2,none⟩ (bool f.2.empty)/\Hid (NwIs w0 r nb f.1/\StayS w r)/\r.cell? ⟨w.heap.size,0,none⟩=some (iX (f.2.first:Int))/\r.cell? ⟨w.heap.size,1,none⟩=some (iX (f.2.last:Int))/\r.cell? ⟨w.heap.size,2,none⟩=some (bool f.2.empty):=by
    obtain⟨u,aa,E,aV,aW⟩:=aR.fin f.2;exact⟨_,rfl,⟨u,aa⟩,E,aV,aW⟩
   rw[<-au];clear au;refine gV (v:=agg #[iX (f.2.first:Int),iX (f.2.last:Int),bool f.2.empty]) (by simp[results,results124,go_sem,aS,aT,aU]) rfl ?_;exact⟨rfl,av.1,av.2⟩
end
theorem zFo (k:World)(c aa:Nat)(r:Lay)(cnt:Tr->Nat)(ak:zCT k c aa r cnt)(T:Lays r cnt)(w:World)(n:Nt)(b:Nat)(t:Tr)(am:NwIs k w c n)(ab:n.Good)(aX:TreeAt k (aa+1) b t)(an:n.sets.length+xE cnt t.parts t.parts.length<=24)(bv:t.parts.length<=1000000000000):
  Calls prog 125 #[pX c,pX b] w λe w'=>e=returned (zAe r n t.parts t.parts.length).2.val/\NwIs k w' c (zAe r n t.parts t.parts.length).1/\StayS w w':=by
 obtain⟨ap,rv,bw,aq,_,ao,cap,rfl,_,_,ar⟩:=aX;have au:Hid (∀wr av,NwIs k wr c av->wr.cell? ⟨b,3,none⟩=some (slice ao t.parts.length cap)/\∀i,i<t.parts.length->∃g o p,ao=some ⟨g,o,none⟩/\wr.cell? ⟨g,o+i,none⟩=some (pX p)/\TreeAt k aa p (t.parts.getD i Tr.none)):=by
  rintro wr av ⟨_,_,_,_,_,aY⟩;have aw:=aY.keep;have aZ:=(aw.block b ap (kJ ap)).trans aq;refine⟨by unfold cell?;rw[aZ];rfl,λi a0=>?_⟩;obtain⟨g,o,p,a1,a2,ax,U⟩:=ar i a0;exact⟨g,o,p,a1,zA ax a2 aw,U⟩
 obtain⟨a,ay⟩:∃a,a=zAe r n t.parts:=⟨_,rfl⟩
 have M:Hid (a 0=(n,⟨0,0,false⟩)/\(∀j,a (j+1)=((r (a j).1 (t.parts.getD j Tr.none)).1,(a j).2.or (r (a j).1 (t.parts.getD j Tr.none)).2))/\(∀j,j<=t.parts.length->(a j).1.Good/\(a j).2.Small 24)/\(∀j,j<t.parts.length->(a j).1.sets.length+cnt (t.parts.getD j Tr.none)<=24/\(r (a j).1 (t.parts.getD j Tr.none)).1.Good/\(r (a j).1 (t.parts.getD j Tr.none)).2.Small 24)/\a t.parts.length=zAe r n t.parts t.parts.length):=by
  rw[ay];have V:∀j,j<=t.parts.length->n.sets.length+xE cnt t.parts j<=24:=λj H=>lY (Nat.add_le_add_left (zDI cnt t.parts j _ H) _) an;refine⟨rfl,λj=>rfl,λj H=>?_,λj H=>?_,rfl⟩
  ·have:=zCK T ab t.parts j (V j H)
   exact⟨this.1,this.2.2.up (V j H)⟩
  ·have K:=zCK T ab t.parts j (V j (by omega))
   have az:n.sets.length+(xE cnt t.parts j+cnt (t.parts.getD j Tr.none))<=24:=V (j+1) H;have W:=T _ (t.parts.getD j Tr.none) K.1 (by rw[K.2.1];omega);exact⟨by rw[K.2.1];omega,W.1,W.2.2.up (by rw[K.2.1];omega)⟩
 obtain⟨w1,aA,aB⟩:∃w1,w1=(w.alloc (.cells #[iX 0,iX 0,bool false] 167)).alloc (.cells #[iX 0,iX 0,bool false] 167)/\Hid (Al k w w1 c n ⟨0,0,false⟩):=⟨_,rfl,Al.start am ⟨0,0,false⟩⟩
 have a3:=vl ak;generalize a4:zAe r n t.parts t.parts.length=u at *;clear a4 ay ar aq ak T an am ab;go_in;apply wp_cut;intro a5 N;go_wp2;apply N.out;clear N;apply wp_cut;intro a5 N;go_wp2;apply N.out;clear N;rw[<-aA];clear aA;have y3:=(au w1 n aB.net).1;go_wp2;clear y3;go_loopg [15] t.parts.length (λq i wr=>∃j:Nat,q=t.parts.length-j/\j<=t.parts.length/\i=iX (j:Int)/\Al k w wr c (a j).1 (a j).2)
 case atStart=>exact⟨0,rfl,lX,rfl,by rw[M.out.1];exact aB⟩
 case round=>
  obtain⟨j,ac,H,rfl,D⟩:=hrel;have aC:Hid (gk=t.parts.length-j/\Al k w wr c (a j).1 (a j).2):=⟨ac,D⟩
  by_cases aD:j<t.parts.length
  ·have a6:(j:Int)<(t.parts.length:Int):=by omega
   obtain⟨g,o,p,rfl,ax,U⟩:=(au wr _ D.net).2 j aD;obtain⟨aE,b2,ad⟩:=M.2.2.2.1 j aD;obtain⟨aF,ag⟩:=M.2.2.1 j H;have aG:=a3 wr (a j).1 p (t.parts.getD j Tr.none) D.net aF U aE;have a7:(a j).2.first<16777216:=ag.first
   have a8:(a j).2.last<16777216:=ag.last;have a9:(r (a j).1 (t.parts.getD j Tr.none)).2.first<16777216:=ad.first
   have ba:(r (a j).1 (t.parts.getD j Tr.none)).2.last<16777216:=ad.last;have ah:=vl <| M.2.1 j;have aH:=vl D;clear ac D U aE b2 ad aF ag;generalize (a j).1=aI at *;generalize (a j).2=B at *;generalize (r aI (t.parts.getD j Tr.none)).1=E at *;generalize (r aI (t.parts.getD j Tr.none)).2=q2 at *;have aJ:Hid (Ca 89 #[pX c,pX p] wr λe w'=>e=returned (agg #[iX (q2.first:Int),iX (q2.last:Int),bool q2.empty])/\NwIs k w' c E/\StayS wr w'):=aG;clear aG;have aK:bits .or i64 (B.first:Int) (q2.first:Int)=((B.first|||q2.first:Nat):Int):=qA _ _ (by omega) (by omega);have aL:bits .or i64 (B.last:Int) (q2.last:Int)=((B.last|||q2.last:Nat):Int):=qA _ _ (by omega) (by omega);clear a7 a8 a9 ba;have aM:Hid (∀m,Al k w m c E B->w.heap.size+1<m.heap.size/\Al k w (m.alloc (Obj.cells #[iX (q2.first:Int),iX (q2.last:Int),bool q2.empty] 167)) c E B/\(m.alloc (Obj.cells #[iX (q2.first:Int),iX (q2.last:Int),bool q2.empty] 167)).heap[m.heap.size]? =some (.cells q2.cells 167)):=λm X=>⟨(kQ.1 X.all).1,X.grown (kZ m _ lQ),gX m _⟩
   have aN:Hid (B.or q2=⟨B.first|||q2.first,B.last|||q2.last,B.empty||q2.empty⟩):=rfl;rw[aN.out] at ah;clear aN;obtain⟨z,s,L⟩:=B;obtain⟨l,f,C⟩:=q2;have aO:Hid (Ca 89 #[pX c,pX p] wr λe w'=>e=returned (agg #[iX (l:Int),iX (f:Int),bool C])/\NwIs k w' c E/\StayS wr w'):=aJ;clear aJ;have bx:bits .or i64 (z:Int) (l:Int)=((z|||l:Nat):Int):=aK;have bz:bits .or i64 (s:Int) (f:Int)=((s|||f:Nat):Int):=aL;clear aK aL;have aP:Hid (a (j+1)=(E,⟨z|||l,s|||f,L||C⟩)):=ah;clear ah;have aQ:Hid (∀A:World,A.heap[w.heap.size+1]? =some (.cells #[iX (z:Int),iX (s:Int),bool L] 167)->∀F,w.heap.size+1<F->A.heap[F]? =some (.cells #[iX (l:Int),iX (f:Int),bool C] 167)->∀x y:Nat,
     ((A.setCell ⟨w.heap.size+1,0,none⟩ (iX (x:Int))).cell? ⟨w.heap.size+1,1,none⟩=some (iX (s:Int))/\(A.setCell ⟨w.heap.size+1,0,none⟩ (iX (x:Int))).cell? ⟨F,1,none⟩=some (iX (f:Int))/\(A.setCell ⟨w.heap.size+1,0,none⟩ (iX (x:Int))).frozen? ⟨w.heap.size+1,1,none⟩=false)/\
     (((A.setCell ⟨w.heap.size+1,0,none⟩ (iX (x:Int))).setCell ⟨w.heap.size+1,1,none⟩ (iX (y:Int))).cell? ⟨w.heap.size+1,2,none⟩=some (bool L)/\((A.setCell ⟨w.heap.size+1,0,none⟩ (iX (x:Int))).setCell ⟨w.heap.size+1,1,none⟩ (iX (y:Int))).cell? ⟨F,2,none⟩=some (bool C)/\((A.setCell ⟨w.heap.size+1,0,none⟩ (iX (x:Int))).setCell ⟨w.heap.size+1,1,none⟩ (iX (y:Int))).frozen? ⟨w.heap.size+1,2,none⟩=false)):=by
    intro A bb F I bc x y;have c2:(A.setCell ⟨w.heap.size+1,0,none⟩ (iX (x:Int))).heap[w.heap.size+1]? =some (.cells #[iX (x:Int),iX (s:Int),bool L] 167):=by simp[setCell,lU,bb]
    have aR:(A.setCell ⟨w.heap.size+1,0,none⟩ (iX (x:Int))).heap[F]? =some (.cells #[iX (l:Int),iX (f:Int),bool C] 167):=(lJ _ _ _ _ (by show F≠w.heap.size+1;omega)).trans bc;generalize A.setCell ⟨w.heap.size+1,0,none⟩ (iX (x:Int))=aS at *;have aT:(aS.setCell ⟨w.heap.size+1,1,none⟩ (iX (y:Int))).heap[w.heap.size+1]? =some (.cells #[iX (x:Int),iX (y:Int),bool L] 167):=by simp[setCell,lU,c2]
    have bd:(aS.setCell ⟨w.heap.size+1,1,none⟩ (iX (y:Int))).heap[F]? =some (.cells #[iX (l:Int),iX (f:Int),bool C] 167):=(lJ _ _ _ _ (by show F≠w.heap.size+1;omega)).trans aR;refine⟨⟨?_,?_,?_⟩,?_,?_,?_⟩
    ·unfold cell?;rw[c2];rfl
    ·unfold cell?;rw[aR];rfl
    ·unfold frozen?;rw[c2];rfl
    ·unfold cell?;rw[aT];rfl
    ·unfold cell?;rw[bd];rfl
    ·unfold frozen?;rw[aT];rfl
   rcases L with _|_
   ·have ai:Hid (a (j+1)=(E,⟨z|||l,s|||f,C⟩)):=aP
    go_wp2_with (first|(go_at_call 89;refine aO.mono ?_;rintro e m ⟨rfl,O,P⟩;have Q:=aH.call O P;obtain⟨R,G,I⟩:=aM m Q;obtain⟨c0,c1,c2,S⟩:=zI G.all;have aU:=S 0;obtain⟨bg,bh,bi,-⟩:=zI I;obtain⟨⟨bj,bk,bm⟩,bn,bo,bp⟩:=aQ _ G.all m.heap.size R I (z|||l) (s|||f);have aj:Hid (Al k w (World.span (m.alloc (Obj.cells #[iX (l:Int),iX (f:Int),bool C] 167)) (w.heap.size+1) ⟨z|||l,s|||f,C⟩) c E ⟨z|||l,s|||f,C⟩):=G.setAll _;clear Q G O P S I R))
    go_roundg (t.parts.length-(j+1))
    case measure=>rw[aC.out.1];omega
    case rel=>exact⟨j+1,rfl,by omega,by go_num,by rw[ai.out];exact aj⟩
   ·have ai:Hid (a (j+1)=(E,⟨z|||l,s|||f,true⟩)):=aP
    go_wp2_with (first|(go_at_call 89;refine aO.mono ?_;rintro e m ⟨rfl,O,P⟩;have Q:=aH.call O P;obtain⟨R,G,I⟩:=aM m Q;obtain⟨c0,c1,c2,S⟩:=zI G.all;have aU:=S 0;obtain⟨bg,bh,bi,-⟩:=zI I;obtain⟨⟨bj,bk,bm⟩,bn,bo,bp⟩:=aQ _ G.all m.heap.size R I (z|||l) (s|||f);have aj:Hid (Al k w (World.span (m.alloc (Obj.cells #[iX (l:Int),iX (f:Int),bool C] 167)) (w.heap.size+1) ⟨z|||l,s|||f,true⟩) c E ⟨z|||l,s|||f,true⟩):=G.setAll _;clear Q G O P S I R))
    go_roundg (t.parts.length-(j+1))
    case measure=>rw[aC.out.1];omega
    case rel=>exact⟨j+1,rfl,by omega,by go_num,by rw[ai.out];exact aj⟩
  ·have a6:(t.parts.length:Int)<=(j:Int):=by omega
   have e:j=t.parts.length:=by omega
   subst e;rw[M.out.2.2.2.2] at D;obtain⟨c0,c1,c2,-⟩:=zI D.all;obtain⟨bA,bB,bC,Y⟩:=zI D.res;have aU:=Y 0;have bD:=Y 1;have bE:=Y 2;have bq:Hid (Al k w wr c u.1 u.2):=D;clear ac D Y;go_wp2;obtain⟨J,aV,aW,br,bs,bt⟩:∃J,J=((wr.setCell ⟨w.heap.size,0,none⟩ (iX (u.2.first:Int))).setCell ⟨w.heap.size,1,none⟩ (iX (u.2.last:Int))).setCell ⟨w.heap.size,2,none⟩ (bool u.2.empty)/\Hid (NwIs k J c u.1/\StayS w J)/\J.cell? ⟨w.heap.size,0,none⟩=some (iX (u.2.first:Int))/\J.cell? ⟨w.heap.size,1,none⟩=some (iX (u.2.last:Int))/\J.cell? ⟨w.heap.size,2,none⟩=some (bool u.2.empty):=by
    obtain⟨K,az,W,bu,X⟩:=bq.fin u.2;exact⟨_,rfl,⟨K,az⟩,W,bu,X⟩
   rw[<-aV];clear aV;refine gV (v:=agg #[iX (u.2.first:Int),iX (u.2.last:Int),bool u.2.empty]) (by simp[results,results125,go_sem,br,bs,bt]) rfl ?_;exact⟨rfl,aW.1,aW.2⟩
theorem zEi (w:World)(l m:Nat)(e:Bool):
  Calls prog 165 #[agg #[iX (l:Int),iX (m:Int),bool e]] w λx w'=>x=returned (iX (((if e then(if l=0 then 1 else l) else m:Nat)):Int))/\Grew w w':=by
 cases e with
 |false=>
  go_in;go_wp2;go_ret;exact⟨rfl,kZ _ _ lQ⟩
 |true=>
  by_cases a:l=0
  ·subst a
   go_in;go_wp2;go_ret;exact⟨rfl,kZ _ _ lQ⟩
  ·have b:((l:Int)==0)=false:=by rw[hX];omega
   go_in;go_wp2;go_ret;exact⟨rfl,kZ _ _ lQ⟩
theorem zGn (l:World)(f aR:Nat)(A:Lay)(cnt:Tr->Nat)(bb:zCT l f aR A cnt)(aB:Lays A cnt)(w:World)(n:Nt)(b:Nat)(t:Tr)(E:NwIs l w f n)(aS:n.Good)(aT:TreeAt l (aR+1) b t)(bc:n.sets.length+t.copies*xE cnt t.parts t.parts.length<=24)(bw:t.parts.length<=1000000000000)(bY:t.copies<=1000000000000)(bZ:t.least<=1000000000000):
  Calls prog 126 #[pX f,pX b] w λe w'=>e=returned (yH A n t t.copies).2.val/\NwIs l w' f (yH A n t t.copies).1/\StayS w w':=by
 have bx:=vl aT;obtain⟨bd,rv,b0,be,-⟩:=id aT;have aU:Hid (∀wr C,NwIs l wr f C->wr.cell? ⟨b,4,none⟩=some (iX (t.least:Int))/\wr.cell? ⟨b,5,none⟩=some (iX (t.most:Int))/\wr.cell? ⟨b,6,none⟩=some (bool t.endless)):=by
  rintro wr C ⟨_,_,_,_,_,aq⟩;have aV:=aq.keep;have bz:=(aV.block b bd (kJ bd)).trans be;refine⟨?_,?_,?_⟩
  all_goals (unfold cell?;rw[bz];rfl)
 have V:Hid (∀wr C,NwIs l wr f C->wr.cell? ⟨b,6,none⟩=some (bool t.endless)/\wr.cell? ⟨b,4,none⟩=some (iX (t.least:Int))):=λwr C aq=>⟨(aU wr C aq).2.2,(aU wr C aq).1⟩
 have bA:Hid (∀w2,Ca 165 #[agg #[iX (t.least:Int),iX (t.most:Int),bool t.endless]] w2 λx w'=>x=returned (iX (t.copies:Int))/\Grew w2 w'):=λw2=>zEi w2 t.least t.most t.endless;have aC:∀j,j<=t.copies->n.sets.length+j*xE cnt t.parts t.parts.length<=24:=λj aa=>lY (Nat.add_le_add_left (Nat.mul_le_mul_right _ aa) _) bc;obtain⟨o,bf⟩:∃o,o=yH A n t:=⟨_,rfl⟩
 have aD:Hid (o 0=(n,⟨0,0,true⟩)/\(∀j,o (j+1)=((zAU t j (rowTo A (o j).1 t.parts t.parts.length)).link (o j).2.last (zBM t j (rowTo A (o j).1 t.parts t.parts.length)).first,(o j).2.then (zBM t j (rowTo A (o j).1 t.parts t.parts.length))))/\(∀j,j<=t.copies->(o j).1.Good/\(o j).2.Small 24)/\(∀j,j<t.copies->(o j).1.sets.length+xE cnt t.parts t.parts.length<=24/\(rowTo A (o j).1 t.parts t.parts.length).1.Good/\(rowTo A (o j).1 t.parts t.parts.length).2.Small 24/\(rowTo A (o j).1 t.parts t.parts.length).2.first<2^(rowTo A (o j).1 t.parts t.parts.length).1.sets.length)/\o t.copies=yH A n t t.copies):=by
  rw[bf];refine⟨rfl,λj=>rfl,λj aa=>?_,λj aa=>?_,rfl⟩
  ·have:=zCf aB aS t j (aC j aa)
   exact⟨this.1,this.2.2.up (aC j aa)⟩
  ·have ar:=zCf aB aS t j (aC j (by omega))
   have ah:=aC (j+1) aa;rw[Nat.add_mul,Nat.one_mul] at ah;have au:=zA7 aB ar.1 t.parts t.parts.length (by rw[ar.2.1];omega);exact⟨by rw[ar.2.1];omega,au.1,au.2.2.up (by rw[ar.2.1];omega),by rw[au.2.1];exact au.2.2.first⟩
 have bB:Hid (∀wr C,NwIs l wr f C->C.Good->C.sets.length+xE cnt t.parts t.parts.length<=24->Ca 124 #[pX f,pX b] wr λe w'=>e=returned (rowTo A C t.parts t.parts.length).2.val/\NwIs l w' f (rowTo A C t.parts t.parts.length).1/\StayS wr w'):=λwr C aq bC bD=>zD9 l f aR A cnt bb aB wr C b t aq bC bx bD bw;obtain⟨w1,bg,bh⟩:∃w1,w1=(w.alloc (.cells #[iX 0,iX 0,bool false] 167)).alloc (.cells #[iX 0,iX 0,bool true] 167)/\Hid (Al l w w1 f n ⟨0,0,true⟩):=⟨_,rfl,Al.start E ⟨0,0,true⟩⟩
 generalize bE:yH A n t t.copies=N at *;generalize bi:t.copies=D at *;have bF:=vl bi;clear bE bf be bb aB bc E aS aT aC bi;go_in;apply wp_cut;intro bG aE;go_wp2;apply aE.out;clear aE;apply wp_cut;intro bG aE;go_wp2;apply aE.out;clear aE;rw[<-bg];clear bg;obtain⟨bH,y5,bI⟩:=aU w1 n bh.net;go_wp2_with (first|(go_at_call 165;refine(bA _).mono ?_;rintro e w2 ⟨rfl,bj⟩;have bJ:=vl <| bh.grown bj;clear bj))
 clear bH y5 bI;go_loopg [7] D (λq i wr=>∃j:Nat,q=D-j/\j<=D/\i=iX (j:Int)/\Al l w wr f (o j).1 (o j).2)
 case atStart=>exact⟨0,rfl,lX,rfl,by rw[aD.out.1];exact bJ⟩
 case round=>
  obtain⟨j,aW,aa,rfl,W⟩:=hrel;have aI:Hid (gk=D-j/\Al l w wr f (o j).1 (o j).2):=⟨aW,W⟩
  by_cases bK:j<D
  ·have bL:(j:Int)<(D:Int):=by omega
   obtain⟨bk,b2,bl,bm⟩:=aD.2.2.2.1 j bK;obtain⟨bn,aX⟩:=aD.2.2.1 j aa;have bo:=bB wr (o j).1 W.net bn bk;have ab:Hid (o (j+1)=((zAU t j (rowTo A (o j).1 t.parts t.parts.length)).link (o j).2.last (zBM t j (rowTo A (o j).1 t.parts t.parts.length)).first,(o j).2.then (zBM t j (rowTo A (o j).1 t.parts t.parts.length)))):=aD.2.1 j;have aJ:Hid (Al l w wr f (o j).1 (o j).2):=W;clear aW W bk;generalize (o j).1=bM at *;generalize (o j).2=bN at *;generalize rowTo A bM t.parts t.parts.length=q at *;obtain⟨z,⟨a,c,p⟩⟩:=q;obtain⟨r,g,u⟩:=bN;have ac:z.Good:=b2;have ai:(Sn.mk a c p).Small 24:=bl;have bp:a<2^z.sets.length:=bm;have aK:=zC5 ac c a bp;have aL:Hid (Ca 124 #[pX f,pX b] wr λe w'=>e=returned (agg #[iX (a:Int),iX (c:Int),bool p])/\NwIs l w' f z/\StayS wr w'):=bo;have bq:Hid (∀m,NwIs l m f z->Ca 166 #[pX f,iX (c:Int),iX (a:Int)] m λe w'=>e=returned (tuple #[])/\NwIs l w' f (z.link c a)/\StayS m w'):=λm O=>zGi l m f z O (by rw[ac.same];exact ac.len) ac.top c a ai.last ai.first
   have av:Hid (∀m,NwIs l m f z->∀x:Bool,Ca 164 #[pX f,agg #[iX (r:Int),iX (g:Int),bool u],agg #[iX (a:Int),iX (c:Int),bool x]] m λe w'=>e=returned ((Sn.mk r g u).then ⟨a,c,x⟩).val/\NwIs l w' f (z.link g a)/\StayS m w'):=λm O x=>zDw l m f z O (by rw[ac.same];exact ac.len) ac.top ⟨r,g,u⟩ ⟨a,c,x⟩ aX ⟨ai.first,ai.last⟩;have aw:Hid (∀m,NwIs l m f (z.link c a)->∀x:Bool,Ca 164 #[pX f,agg #[iX (r:Int),iX (g:Int),bool u],agg #[iX (a:Int),iX (c:Int),bool x]] m λe w'=>e=returned ((Sn.mk r g u).then ⟨a,c,x⟩).val/\NwIs l w' f ((z.link c a).link g a)/\StayS m w'):=λm O x=>zDw l m f _ O (by rw[aK.1.same];exact aK.1.len) aK.1.top ⟨r,g,u⟩ ⟨a,c,x⟩ aX ⟨ai.first,ai.last⟩;have aF:Hid (∀y,Al l w y f z ⟨r,g,u⟩->∀x:Bool,w.heap.size+1<y.heap.size/\Al l w (y.alloc (Obj.cells #[iX (a:Int),iX (c:Int),bool x] 167)) f z ⟨r,g,u⟩/\(y.alloc (Obj.cells #[iX (a:Int),iX (c:Int),bool x] 167)).heap[y.heap.size]? =some (.cells #[iX (a:Int),iX (c:Int),bool x] 167)):=λy aM x=>⟨(kQ.1 aM.all).1,aM.grown (kZ y _ lQ),gX y _⟩
   have bO:Hid (∀(K:World) (ad:Nat),w.heap.size+1<ad->Al l w K f (z.link c a) ⟨r,g,u⟩->K.heap[ad]? =some (.cells #[iX (a:Int),iX (c:Int),bool p] 167)->Al l w (K.setCell ⟨ad,2,none⟩ (bool true)) f (z.link c a) ⟨r,g,u⟩/\(K.setCell ⟨ad,2,none⟩ (bool true)).heap[ad]? =some (.cells #[iX (a:Int),iX (c:Int),bool true] 167)):=by
    intro K ad L ax X;have e:∀k,k≠ad->(K.setCell ⟨ad,2,none⟩ (bool true)).heap[k]? =K.heap[k]? :=λk aV=>lJ _ _ _ _ aV;have b6:=ax.old;exact⟨⟨ax.net.setSpan X (by omega),(e _ (by omega)).trans ax.res,(e _ (by omega)).trans ax.all,zAp ax.stay (by omega),ax.old⟩,by simp[setCell,lU,X]⟩
   have b7:=bF.out;clear bo b2 bl bm ac ai bp aK bn aX;have bP:(t.endless=false\/(t.endless=true/\(j+1==t.copies)=false))\/(t.endless=true/\(j+1==t.copies)=true):=by
    cases t.endless
    ·exact .inl (.inl rfl)
    ·cases E:(j+1==t.copies)
     ·exact .inl (.inr ⟨rfl,rfl⟩)
     ·exact .inr ⟨rfl,rfl⟩
   rcases bP with ay|⟨M,az⟩
   all_goals (by_cases ag:t.least<=j)
   ·have aj:Hid (o (j+1)=(z.link g a,(Sn.mk r g u).then ⟨a,c,true⟩)):=by
     show o (j+1)=_;rw[ab.out];unfold zAU zBM;rw[if_neg (by rcases ay with E|⟨E,ah⟩ <;> simp[E];exact hX.1 ah),if_pos ag]
    have ak:Hid (∀m,NwIs l m f z->Ca 164 #[pX f,agg #[iX (r:Int),iX (g:Int),bool u],agg #[iX (a:Int),iX (c:Int),bool true]] m λe w'=>e=returned (agg #[iX (((Sn.mk r g u).then ⟨a,c,true⟩).first:Int),iX (((Sn.mk r g u).then ⟨a,c,true⟩).last:Int),bool ((Sn.mk r g u).then ⟨a,c,true⟩).empty])/\NwIs l w' f (z.link g a)/\StayS m w'):=λm O=>av m O true;have aY:(j:Int)>=(t.least:Int):=by omega
    clear ab av aw ag;generalize (Sn.mk r g u).then ⟨a,c,true⟩=F at *
    have aZ:t.endless=false\/t.endless=true/\((j:Int)==(D:Int)-1)=false:=ay.imp_right λE=>⟨E.1,by rw[hX];have:=hX.1 E.2;omega⟩
    clear ay;rcases aZ with M|⟨M,a0⟩
    all_goals
     have Q:=vl M;clear M;go_wp2_with (first|(go_at_call 124;refine aL.mono ?_;rintro e y ⟨rfl,G,R⟩;have P:=aJ.call G R;obtain⟨am,a1⟩:=V y _ G;rw[Q.out] at am;obtain⟨Y,H,L⟩:=aF y P p;obtain⟨a2,a3,a4,-⟩:=zI (s:=⟨a,c,p⟩) L;obtain⟨u6,u4⟩:=V (y.alloc (Obj.cells #[iX (a:Int),iX (c:Int),bool p] 167)) _ H.net;rw[Q.out] at u6;obtain⟨-,a5,br⟩:=aF y P true;obtain⟨m0,m1,m2,-⟩:=zI (s:=⟨a,c,true⟩) br;obtain⟨c0,c1,c2,-⟩:=zI a5.all;have S:Hid (Al l w (y.alloc (Obj.cells #[iX (a:Int),iX (c:Int),bool true] 167)) f z ⟨r,g,u⟩):=a5;clear a5 br;clear P H G R L Y)|(go_at_call 164;refine(ak _ S.net).mono ?_;rintro e I ⟨rfl,T,U⟩;have J:=S.call T U;obtain⟨a6,a7,a8,B⟩:=zI J.all;have aN:=B 0;have aO:=B 1;have aP:=B 2;have an:Hid (Al l w (World.span I (w.heap.size+1) F) f (z.link g a) F):=J.setAll F;clear J T U B))
     go_roundg (D-(j+1))
     case measure=>rw[aI.out.1];omega
     case rel=>exact⟨j+1,rfl,by omega,by go_num,by rw[aj.out];exact an⟩
   ·have aj:Hid (o (j+1)=(z.link g a,(Sn.mk r g u).then ⟨a,c,p⟩)):=by
     show o (j+1)=_;rw[ab.out];unfold zAU zBM;rw[if_neg (by rcases ay with E|⟨E,ah⟩ <;> simp[E];exact hX.1 ah),if_neg ag]
    have ak:Hid (∀m,NwIs l m f z->Ca 164 #[pX f,agg #[iX (r:Int),iX (g:Int),bool u],agg #[iX (a:Int),iX (c:Int),bool p]] m λe w'=>e=returned (agg #[iX (((Sn.mk r g u).then ⟨a,c,p⟩).first:Int),iX (((Sn.mk r g u).then ⟨a,c,p⟩).last:Int),bool ((Sn.mk r g u).then ⟨a,c,p⟩).empty])/\NwIs l w' f (z.link g a)/\StayS m w'):=λm O=>av m O p;have aY:(j:Int)<(t.least:Int):=by omega
    clear ab av aw ag;generalize (Sn.mk r g u).then ⟨a,c,p⟩=F at *
    have aZ:t.endless=false\/t.endless=true/\((j:Int)==(D:Int)-1)=false:=ay.imp_right λE=>⟨E.1,by rw[hX];have:=hX.1 E.2;omega⟩
    clear ay;rcases aZ with M|⟨M,a0⟩
    all_goals
     have Q:=vl M;clear M;go_wp2_with (first|(go_at_call 124;refine aL.mono ?_;rintro e y ⟨rfl,G,R⟩;have P:=aJ.call G R;obtain⟨am,a1⟩:=V y _ G;rw[Q.out] at am;obtain⟨Y,H,L⟩:=aF y P p;obtain⟨a2,a3,a4,-⟩:=zI (s:=⟨a,c,p⟩) L;obtain⟨u6,u4⟩:=V (y.alloc (Obj.cells #[iX (a:Int),iX (c:Int),bool p] 167)) _ H.net;rw[Q.out] at u6;obtain⟨c0,c1,c2,-⟩:=zI H.all;have S:Hid (Al l w (y.alloc (Obj.cells #[iX (a:Int),iX (c:Int),bool p] 167)) f z ⟨r,g,u⟩):=H;clear P H G R L Y)|(go_at_call 164;refine(ak _ S.net).mono ?_;rintro e I ⟨rfl,T,U⟩;have J:=S.call T U;obtain⟨a6,a7,a8,B⟩:=zI J.all;have aN:=B 0;have aO:=B 1;have aP:=B 2;have an:Hid (Al l w (World.span I (w.heap.size+1) F) f (z.link g a) F):=J.setAll F;clear J T U B))
     go_roundg (D-(j+1))
     case measure=>rw[aI.out.1];omega
     case rel=>exact⟨j+1,rfl,by omega,by go_num,by rw[aj.out];exact an⟩
   ·have aj:Hid (o (j+1)=((z.link c a).link g a,(Sn.mk r g u).then ⟨a,c,true⟩)):=by
     show o (j+1)=_;rw[ab.out];unfold zAU zBM;rw[if_pos (by rw[M,az];rfl),if_pos ag]
    have ak:Hid (∀m,NwIs l m f (z.link c a)->Ca 164 #[pX f,agg #[iX (r:Int),iX (g:Int),bool u],agg #[iX (a:Int),iX (c:Int),bool true]] m λe w'=>e=returned (agg #[iX (((Sn.mk r g u).then ⟨a,c,true⟩).first:Int),iX (((Sn.mk r g u).then ⟨a,c,true⟩).last:Int),bool ((Sn.mk r g u).then ⟨a,c,true⟩).empty])/\NwIs l w' f ((z.link c a).link g a)/\StayS m w'):=λm O=>aw m O true;have aY:(j:Int)>=(t.least:Int):=by omega
    have a0:((j:Int)==(D:Int)-1)=true:=by rw[beq_iff_eq];have:=beq_iff_eq.1 az;omega
    have Q:Hid (t.endless=true):=M;clear ab av aw ag az M;generalize (Sn.mk r g u).then ⟨a,c,true⟩=F at *
    go_wp2_with (first|(go_at_call 124;refine aL.mono ?_;rintro e y ⟨rfl,G,R⟩;have P:=aJ.call G R;obtain⟨am,a1⟩:=V y _ G;rw[Q.out] at am;obtain⟨Y,H,L⟩:=aF y P p;obtain⟨a2,a3,a4,-⟩:=zI (s:=⟨a,c,p⟩) L;obtain⟨u6,u4⟩:=V (y.alloc (Obj.cells #[iX (a:Int),iX (c:Int),bool p] 167)) _ H.net;rw[Q.out] at u6;have aG:Hid (Al l w (y.alloc (Obj.cells #[iX (a:Int),iX (c:Int),bool p] 167)) f z ⟨r,g,u⟩):=H;have a9:Hid ((y.alloc (Obj.cells #[iX (a:Int),iX (c:Int),bool p] 167)).heap[y.heap.size]? =some (.cells #[iX (a:Int),iX (c:Int),bool p] 167)):=L;have bs:Hid (w.heap.size+1<y.heap.size):=Y;clear P H G R L Y)|(go_at_call 166;refine(bq (y.alloc (Obj.cells #[iX (a:Int),iX (c:Int),bool p] 167)) aG.net).mono ?_;rintro e K ⟨rfl,ao,ap⟩;have aA:=aG.call ao ap;have X:=ap _ _ a9;obtain⟨bQ,bR⟩:=V K _ ao;obtain⟨m0,m1,m2,aH⟩:=zI (s:=⟨a,c,p⟩) X;have bS:=aH 2;obtain⟨ba,bt⟩:=bO K y.heap.size bs aA X;obtain⟨b9,ca,C,-⟩:=zI (s:=⟨a,c,true⟩) bt;obtain⟨c0,c1,c2,-⟩:=zI ba.all;have S:Hid (Al l w (K.setCell ⟨y.heap.size,2,none⟩ (bool true)) f (z.link c a) ⟨r,g,u⟩):=ba;clear ba bt;clear aA ao ap X aH)|(go_at_call 164;refine(ak _ S.net).mono ?_;rintro e I ⟨rfl,T,U⟩;have J:=S.call T U;obtain⟨a6,a7,a8,B⟩:=zI J.all;have aN:=B 0;have aO:=B 1;have aP:=B 2;have an:Hid (Al l w (World.span I (w.heap.size+1) F) f ((z.link c a).link g a) F):=J.setAll F;clear J T U B))
    go_roundg (D-(j+1))
    case measure=>rw[aI.out.1];omega
    case rel=>exact⟨j+1,rfl,by omega,by go_num,by rw[aj.out];exact an⟩
   ·have aj:Hid (o (j+1)=((z.link c a).link g a,(Sn.mk r g u).then ⟨a,c,p⟩)):=by
     show o (j+1)=_;rw[ab.out];unfold zAU zBM;rw[if_pos (by rw[M,az];rfl),if_neg ag]
    have ak:Hid (∀m,NwIs l m f (z.link c a)->Ca 164 #[pX f,agg #[iX (r:Int),iX (g:Int),bool u],agg #[iX (a:Int),iX (c:Int),bool p]] m λe w'=>e=returned (agg #[iX (((Sn.mk r g u).then ⟨a,c,p⟩).first:Int),iX (((Sn.mk r g u).then ⟨a,c,p⟩).last:Int),bool ((Sn.mk r g u).then ⟨a,c,p⟩).empty])/\NwIs l w' f ((z.link c a).link g a)/\StayS m w'):=λm O=>aw m O p;have aY:(j:Int)<(t.least:Int):=by omega
    have a0:((j:Int)==(D:Int)-1)=true:=by rw[beq_iff_eq];have:=beq_iff_eq.1 az;omega
    have Q:Hid (t.endless=true):=M;clear ab av aw ag az M;generalize (Sn.mk r g u).then ⟨a,c,p⟩=F at *
    go_wp2_with (first|(go_at_call 124;refine aL.mono ?_;rintro e y ⟨rfl,G,R⟩;have P:=aJ.call G R;obtain⟨am,a1⟩:=V y _ G;rw[Q.out] at am;obtain⟨Y,H,L⟩:=aF y P p;obtain⟨a2,a3,a4,-⟩:=zI (s:=⟨a,c,p⟩) L;obtain⟨u6,u4⟩:=V (y.alloc (Obj.cells #[iX (a:Int),iX (c:Int),bool p] 167)) _ H.net;rw[Q.out] at u6;have aG:Hid (Al l w (y.alloc (Obj.cells #[iX (a:Int),iX (c:Int),bool p] 167)) f z ⟨r,g,u⟩):=H;have a9:Hid ((y.alloc (Obj.cells #[iX (a:Int),iX (c:Int),bool p] 167)).heap[y.heap.size]? =some (.cells #[iX (a:Int),iX (c:Int),bool p] 167)):=L;have bs:Hid (w.heap.size+1<y.heap.size):=Y;clear P H G R L Y)|(go_at_call 166;refine(bq (y.alloc (Obj.cells #[iX (a:Int),iX (c:Int),bool p] 167)) aG.net).mono ?_;rintro e K ⟨rfl,ao,ap⟩;have aA:=aG.call ao ap;have X:=ap _ _ a9;obtain⟨bQ,bR⟩:=V K _ ao;obtain⟨m0,m1,m2,aH⟩:=zI (s:=⟨a,c,p⟩) X;have bS:=aH 2;obtain⟨c0,c1,c2,-⟩:=zI aA.all;have S:Hid (Al l w K f (z.link c a) ⟨r,g,u⟩):=aA;clear aA ao ap X aH)|(go_at_call 164;refine(ak _ S.net).mono ?_;rintro e I ⟨rfl,T,U⟩;have J:=S.call T U;obtain⟨a6,a7,a8,B⟩:=zI J.all;have aN:=B 0;have aO:=B 1;have aP:=B 2;have an:Hid (Al l w (World.span I (w.heap.size+1) F) f ((z.link c a).link g a) F):=J.setAll F;clear J T U B))
    go_roundg (D-(j+1))
    case measure=>rw[aI.out.1];omega
    case rel=>exact⟨j+1,rfl,by omega,by go_num,by rw[aj.out];exact an⟩
  ·have bL:(D:Int)<=(j:Int):=by omega
   have e:j=D:=by omega
   subst e;rw[aD.out.2.2.2.2] at W;obtain⟨c0,c1,c2,-⟩:=zI W.all;obtain⟨cb,cc,cd,aQ⟩:=zI W.res;have aN:=aQ 0;have aO:=aQ 1;have aP:=aQ 2;have bT:Hid (Al l w wr f N.1 N.2):=W;clear aW W aQ;go_wp2;obtain⟨I,bu,bv,bU,bV,bW⟩:∃I,I=((wr.setCell ⟨w.heap.size,0,none⟩ (iX (N.2.first:Int))).setCell ⟨w.heap.size,1,none⟩ (iX (N.2.last:Int))).setCell ⟨w.heap.size,2,none⟩ (bool N.2.empty)/\Hid (NwIs l I f N.1/\StayS w I)/\I.cell? ⟨w.heap.size,0,none⟩=some (iX (N.2.first:Int))/\I.cell? ⟨w.heap.size,1,none⟩=some (iX (N.2.last:Int))/\I.cell? ⟨w.heap.size,2,none⟩=some (bool N.2.empty):=by
    obtain⟨ar,ah,au,bX,aM⟩:=bT.fin N.2;exact⟨_,rfl,⟨ar,ah⟩,au,bX,aM⟩
   rw[<-bu];clear bu;refine gV (v:=agg #[iX (N.2.first:Int),iX (N.2.last:Int),bool N.2.empty]) (by simp[results,results126,go_sem,bU,bV,bW]) rfl ?_;exact⟨rfl,bv.1,bv.2⟩
end Go.Proofs.YtbjcfkdnjaiclaaGreat
