import Derived.Test.YtbjcfkdnjaiclaaGreatB0
import Derived.Test.YtbjcfkdnjaiclaaGreatB9
/- Parts of the proof. -/
set_option linter.unusedVariables false
set_option linter.unusedSimpArgs false
set_option maxHeartbeats 4000000
set_option maxRecDepth 100000
namespace Go.Proofs.YtbjcfkdnjaiclaaGreat
open Go.RowKit Go.Proofs.Tryz Go.World
def yS (follow:List Nat)(n q:Nat):Nat:=qM (fun p=>(follow.getD p 0).testBit q) n
def zCo (follow:List Nat):List Nat:=(List.range follow.length).map (yS follow follow.length)
theorem zDy (follow:List Nat):(zCo follow).length=follow.length:=by simp[zCo]
theorem zJ9 (follow:List Nat)(q:Nat)(hq:q<follow.length):(zCo follow).getD q 0=yS follow follow.length q:=by
 unfold zCo;rw[lW,gJ,List.getElem?_range hq];rfl
theorem zHu (follow:List Nat)(n q:Nat)(hn:n<=24):yS follow n q<16777216:=lZ (zBh _ n) (kG (by omega) hn:2^n<=2^24)
theorem zIH (follow:List Nat)(n q:Nat):yS follow (n+1) q=if(follow.getD n 0).testBit q then yS follow n q|||2^n else yS follow n q:=rfl
theorem zMp (a j:Nat)(hj:j<62)(ha:a<9223372036854775808):bits .or .i64 (a:Int) (IntKind.i64.wrap (2^j))=((a|||2^j:Nat):Int):=by
 have h1:2^j<2^62:=Nat.pow_lt_pow_right (by omega) hj;have e:((2:Int)^j)=((2^j:Nat):Int):=by simp
 rw[e];generalize 2^j=z at *;rw[zB1 _ (by omega) (by omega)];exact yK _ _ ha (by omega)
theorem zJ0 (x q:Nat)(hx:x<9223372036854775808):(bits .and .i64 ((x:Int)/2^q) 1==1)=x.testBit q:=by
 have hbit:bits .and .i64 ((x:Int)/2^q) 1=((x/2^q%2:Nat):Int):=by
  rw[zBw];exact zEi _ (Nat.lt_of_le_of_lt (Nat.div_le_self _ _) hx)
 have HT:x.testBit q=decide (x/2^q%2=1):=Nat.testBit_eq_decide_div_mod_eq;rw[hbit,HT];by_cases e:x/2^q%2=1
 ·rw[e];rfl
 ·rw[decide_eq_false e,gQ];omega
theorem zGx (w:World)(v:Value)(fo:List Nat)(hB:Ints w (In w) v (ints fo))(hn:fo.length<=24)(hs:∀x∈fo,x<16777216):
  Calls prog 170 #[v] w fun e w'=>∃u,e=.returned u∧Ints w' (In w') u (ints (zCo fo))∧Grew w w':=by
 obtain⟨i0,hi0,hz0,hz1,hz2⟩:=info_parts yH;obtain⟨ab,cb,rfl,_,_,hbc⟩:=hB;rw[zM] at hbc ⊢;have HBC:Hid (∀i,i<fo.length->∃b o,ab=some ⟨b,o,none⟩∧In w b∧w.cell? ⟨b,o+i,none⟩=some (.int .i64 ((fo.getD i 0:Nat):Int))∧fo.getD i 0<16777216):=by
  intro i hi;obtain⟨b,o,h1,h2,h3⟩:=hbc i hi;rw[vB] at h3;exact⟨b,o,h1,h2,h3,hs _ (zR _ _ 0 hi)⟩
 obtain⟨w1,hmk,ho1,hg1⟩:=run_makeSlice_full (P:=prog) w w.heap.size 45 3 i0 _ 1 underlying45 hi0 hz0 hz1 .i64 .i64 fo.length (by omega) (by rw[hz2];omega) (by unfold maxLen;omega) lQ;have HO1:Hid (Row w1 w.heap.size 3 (.slice (some ⟨w.heap.size,0,none⟩) fo.length fo.length) fo.length (fun q=>.int .i64 ((yS fo 0 q:Nat):Int))∧Grew w w1):=by
  refine⟨?_,⟨hg1.os,hg1.output,hg1.size,fun k hk _=>hg1.block k hk (by simp)⟩⟩;have h:=ho1;rw[Nat.mul_one,zAd _ rfl] at h;exact h
 have HFin:Hid (∀wr,Row wr w.heap.size 3 (.slice (some ⟨w.heap.size,0,none⟩) fo.length fo.length) fo.length (fun q=>.int .i64 ((yS fo fo.length q:Nat):Int))->Ints wr (In wr) (.slice (some ⟨w.heap.size,0,none⟩) fo.length fo.length) (ints (zCo fo))):=fun wr h=>by
  refine zAF (H:=w.heap.size) (Row.ownI ?_);rw[zM,zDy];refine h.congr fun q hq=>?_;rw[vB,zJ9 _ _ hq]
 have HTL:Hid (∀j q,j<=24->yS fo j q<16777216):=fun j q h=>zHu fo j q h;clear hbc hs ho1 hg1;go_in;go_wp2;clear hmk;go_loopg [12] fo.length (fun k i wr=>∃j:Nat,k=fo.length-j∧j<=fo.length∧i=.int .i64 (j:Int)∧Row wr w.heap.size 3 (.slice (some ⟨w.heap.size,0,none⟩) fo.length fo.length) fo.length (fun q=>.int .i64 ((yS fo j q:Nat):Int))∧Grew w wr)
 case atStart=>exact⟨0,rfl,lX,rfl,HO1.out.1,HO1.out.2⟩
 case round=>
  obtain⟨j,hgk,hj,rfl,hsp,hkp⟩:=hrel;have HA:Hid (gk=fo.length-j∧Row wr w.heap.size 3 (.slice (some ⟨w.heap.size,0,none⟩) fo.length fo.length) fo.length (fun q=>.int .i64 ((yS fo j q:Nat):Int))∧Grew w wr):=⟨hgk,hsp,hkp⟩
  by_cases hj2:j<fo.length
  ·have i1:(j:Int)<(fo.length:Int):=by omega
   obtain⟨b,o,rfl,hb,hc,hlt⟩:=HBC.out j hj2;have y1:wr.cell? ⟨b,o+j,none⟩=some (.int .i64 ((fo.getD j 0:Nat):Int)):=zA hc hb hkp;have HSU:Hid (∀q,yS fo (j+1) q=if(fo.getD j 0).testBit q then yS fo j q|||2^j else yS fo j q):=fun q=>zIH fo j q;clear hgk hsp hkp hc;generalize fo.getD j 0=r at *;go_wp2;clear y1;go_loopg [19] fo.length (fun k i wr=>∃s:Nat,k=fo.length-s∧s<=fo.length∧i=.int .i64 (s:Int)∧Row wr w.heap.size 3 (.slice (some ⟨w.heap.size,0,none⟩) fo.length fo.length) fo.length (fun q=>.int .i64 (((if q<s then yS fo (j+1) q else yS fo j q:Nat)):Int))∧Grew w wr)
   case atStart=>exact⟨0,rfl,lX,rfl,HA.out.2.1.congr fun i _=>by simp,HA.out.2.2⟩
   case round=>
    obtain⟨s,hgk2,hs,rfl,hsp,hkp⟩:=hrel;have HB:Hid (gk=fo.length-s∧Row wr w.heap.size 3 (.slice (some ⟨w.heap.size,0,none⟩) fo.length fo.length) fo.length (fun q=>.int .i64 (((if q<s then yS fo (j+1) q else yS fo j q:Nat)):Int))∧Grew w wr):=⟨hgk2,hsp,hkp⟩
    by_cases hs2:s<fo.length
    ·have i3:(s:Int)<(fo.length:Int):=by omega
     obtain⟨g,cp,hv,g1,g2,g3,g4,g5,g6⟩:=hsp.get (by omega);have eg:g=w.heap.size:=by injection hv with e1 _ _;injection e1 with e1;injection e1 with e1;exact e1.symm
     subst eg;have y2:wr.cell? ⟨w.heap.size,s,none⟩=some (.int .i64 ((yS fo j s:Nat):Int)):=by
      rw[g5 s hs2,if_neg (by omega)]
     have z2:=g6 s;have hbit:=zJ0 r s (by omega);have htl:=HTL.out j s (by omega);have HGen:Hid (∀i,i<fo.length->(if i<s+1 then yS fo (j+1) i else yS fo j i)=if i=s then(if r.testBit s then yS fo j s|||2^j else yS fo j s) else if i<s then yS fo (j+1) i else yS fo j i):=fun i hi=>by
      by_cases e:i=s
      ·rw[if_pos e,if_pos (by omega),e,HSU.out s]
      ·rw[if_neg e]
       by_cases e2:i<s
       ·rw[if_pos e2,if_pos (by omega)]
       ·rw[if_neg e2,if_neg (by omega)]
     clear hgk2 hsp hkp hv g1 g2 g3 g4 g5 g6;cases htb:r.testBit s with
     |true=>
      rw[htb] at hbit HGen;have HOR:Hid (bits .or .i64 ((yS fo j s:Nat):Int) (IntKind.i64.wrap (2^j))=((yS fo j s|||2^j:Nat):Int)):=zMp _ j (by omega) (by omega);have HOR2:Hid (bits .or .i64 ((yS fo j s:Nat):Int) (wrap64 (2^j))=((yS fo j s|||2^j:Nat):Int)):=zLt _ j (by omega) (by omega);clear htb;generalize yS fo j s=c0 at *;go_wp2;go_region;go_wp2;go_roundg (fo.length-(s+1))
      case measure=>rw[HB.out.1];omega
      case rel=>
       refine⟨s+1,rfl,by omega,by go_num,?_,HB.out.2.2.trans (Keep.trans (zN _ _ _ _ lQ) (Keep.drew _))⟩;have h:=HB.out.2.1.set s (.int .i64 ((c0|||2^j:Nat):Int));rw[<-HOR2.out] at h;refine Row.congr (w:=(wr.setCell ⟨w.heap.size,s,none⟩ _).drew) h fun i hi=>?_;rw[HGen.out i hi];by_cases e:i=s
       ·rw[if_pos e,if_pos e];rw[HOR2.out];simp
       ·rw[if_neg e,if_neg e]
     |false=>
      rw[htb] at hbit HGen;clear htb;go_wp2;go_roundg (fo.length-(s+1))
      case measure=>rw[HB.out.1];omega
      case rel=>
       refine⟨s+1,rfl,by omega,by go_num,?_,HB.out.2.2⟩;refine HB.out.2.1.congr fun i hi=>?_;rw[HGen.out i hi];by_cases e:i=s
       ·rw[if_pos e,if_neg (by omega),e];simp
       ·rw[if_neg e]
    ·have i3:(fo.length:Int)<=(s:Int):=by omega
     have HD:=vl <| hsp.congr fun i hi=>by rw[if_pos (by omega)]
     clear hgk2 hsp hkp;go_wp2;go_roundg (fo.length-(j+1))
     case measure=>rw[HA.out.1];omega
     case rel=>exact⟨j+1,rfl,by omega,by go_num,HD.out,HB.out.2.2⟩
  ·have i1:(fo.length:Int)<=(j:Int):=by omega
   have e:j=fo.length:=by omega
   subst e;clear hgk hsp hkp;go_wp2;go_ret;exact⟨_,rfl,HFin.out _ HA.out.2.1,HA.out.2.2⟩
section
def zHj (l:List Nat)(x:Nat):List Nat:=if l.contains x then l else l++[x]
def zBa (c:Nat->Nat)(ls:List Nat)(t:Nat)(l:List Nat):Nat->List Nat
 |0=>l
 |k+1=>zHj (zBa c ls t l k) (zAp c (t&&&ls.getD k 0))
def jG (c:Nat->Nat)(ls:List Nat):Nat->Nat->List Nat->List Nat
 |0,_,l=>l
 |f+1,i,l=>if i<l.length then jG c ls f (i+1) (zBa c ls (l.getD i 0) l ls.length) else l
def zM8 (c:Nat->Nat)(ls:List Nat)(ends:Nat):List Nat:=jG c ls 16777216 0 [ends]
structure Once (B:Nat)(l:List Nat):Prop where
 nd:l.Nodup
 lt:∀x∈l,x<B
theorem zLx (B:Nat)(l:List Nat)(h:Once B l):l.length<=B:=by
 induction B generalizing l with
 |zero=>
  cases l with
  |nil=>exact lQ
  |cons x l=>exact absurd (h.lt x (gV)) (by omega)
 |succ B ih=>
  have h2:Once B (l.erase B):=⟨h.nd.erase B,fun x hx=>by
   have h3:=(h.nd.mem_erase_iff.1 hx)
   have:=h.lt x h3.2;have:=h3.1;omega⟩
  have:=ih _ h2;have h4:=List.length_erase (a:=B) (l:=l);rw[h4] at this;split at this <;> omega
theorem zLc {B:Nat}{l:List Nat}{x:Nat}(h:Once B l)(hx:x<B):Once B (zHj l x):=by
 unfold zHj;split
 ·exact h
 ·rename_i hc
  refine⟨?_,fun y hy=>?_⟩
  ·rw[List.nodup_append]
   refine⟨h.nd,by simp,fun a ha b hb e=>?_⟩;rw[kY.1 hb] at e;subst e;exact hc (by simpa using ha)
  ·rcases kU.1 hy with h1|h1
   ·exact h.lt y h1
   ·rw[kY.1 h1];exact hx
theorem zL6 (l:List Nat)(x:Nat):l.length<=(zHj l x).length∧∀i,i<l.length->(zHj l x).getD i 0=l.getD i 0:=by
 unfold zHj;split
 ·exact⟨lQ,fun _ _=>rfl⟩
 ·refine⟨by simp,fun i hi=>?_⟩
  rw[lW,kW hi,lW]
theorem zIe (c:Nat->Nat)(ls:List Nat)(t:Nat)(l:List Nat)(k:Nat):l.length<=(zBa c ls t l k).length∧∀i,i<l.length->(zBa c ls t l k).getD i 0=l.getD i 0:=by
 induction k with
 |zero=>exact⟨lQ,fun _ _=>rfl⟩
 |succ k ih=>
  have h:=zL6 (zBa c ls t l k) (zAp c (t&&&ls.getD k 0));exact⟨lY ih.1 h.1,fun i hi=>(h.2 i (by omega)).trans (ih.2 i hi)⟩
theorem zGn {B:Nat}{c:Nat->Nat}(hc:∀x,zAp c x<B)(ls:List Nat)(t:Nat){l:List Nat}(h:Once B l)(k:Nat):Once B (zBa c ls t l k):=by
 induction k with
 |zero=>exact h
 |succ k ih=>exact zLc ih (hc _)
theorem zGA {B:Nat}{c:Nat->Nat}(hc:∀x,zAp c x<B)(ls:List Nat)(f:Nat):∀i l,Once B l->Once B (jG c ls f i l):=by
 induction f with
 |zero=>exact fun i l h=>h
 |succ f ih=>
  intro i l h;unfold jG;split
  ·exact ih _ _ (zGn hc ls _ h _)
  ·exact h
theorem zLu (f:Nat->Nat)(k:Nat)(h:∀i,f i<2^k)(n:Nat):zMr f n<2^k:=by
 induction n with
 |zero=>exact Nat.pow_pos (by omega)
 |succ n ih=>exact Nat.or_lt_two_pow ih (h n)
theorem zMi (by_:List Nat)(k:Nat)(hs:∀x∈by_,x<2^k)(n i:Nat):spF by_ n i<2^k:=by
 refine zLu _ k (fun p=>?_) n;have h0:0<2^k:=Nat.pow_pos (by omega);unfold spG;split
 ·split
  ·by_cases h:p<by_.length
   ·exact hs _ (zR _ _ 0 h)
   ·rw[lW,List.getElem?_eq_none (by omega)];exact h0
  ·exact h0
 ·exact h0
theorem zHE (c:Nat->Nat)(k:Nat)(h:∀i,c i<2^k)(x:Nat):zAp c x<2^k:=Nat.or_lt_two_pow (Nat.or_lt_two_pow (h _) (h _)) (h _)
structure Tt (w0 w:World)(fb ps N:Nat)(c:Nat->Nat)(u:Value)(l:List Nat)(m:Nat->Bool):Prop where
 sp:SpAt w fb c
 se:SeIs w w0.heap.size ps N m
 own:w.ownsRow w0.heap.size 21 1 u l.length (l.map fun(x:Nat)=>.int .i32 (x:Int))
 keep:Grew w0 w
section
variable {w0 w w2:World} {fb ps N:Nat} {c:Nat->Nat} {u:Value} {l:List Nat} {m:Nat->Bool}
theorem SeIs.grown {H:Nat}(h:SeIs w H ps N m)(hk:Grew w w2):SeIs w2 H ps N m:=by
 obtain⟨g,cap,h⟩:=h;have hl:=(kQ.1 h.blk).1;exact⟨g,cap,(hk.block ps hl (kJ hl)).trans h.blk,zJ h.row hk⟩
theorem Tt.grown (h:Tt w0 w fb ps N c u l m)(hk:Grew w w2):Tt w0 w2 fb ps N c u l m:=
 ⟨h.sp.keep (hk.block fb h.sp.lt (kJ h.sp.lt)),h.se.grown hk,zJ h.own hk,h.keep.trans (hk.lower h.keep.size h.keep.size)⟩
theorem Tt.add {m':Nat->Bool}(h:Tt w0 w fb ps N c u l m)(hs:StayU w0.heap.size w w2)(he:SeIs w2 w0.heap.size ps N m'):Tt w0 w2 fb ps N c u l m':=by
 refine⟨?_,he,zD h.own fun g _ _ hg=>?_,h.keep.trans ⟨hs.os,hs.output,Nat.le_of_eq hs.size.symm,fun k hk _=>hs.low k hk⟩⟩
 ·obtain⟨cs,hb,hc⟩:=h.sp
  exact⟨cs,hs.other fb cs _ hb (by decide),hc⟩
 ·rcases h.own.2 with⟨hv,_⟩|⟨g1,cap,cur,hv,_,hh,_⟩
  ·rw[hv] at hg;cases hg
  ·rw[hv] at hg
   have e:g1=g:=by simpa[Value.ownBlock] using hg
   subst e;rw[hh];exact hs.other g1 cur _ hh (by decide)
theorem Tt.app {o:Obj}{g cap x:Nat}(h:Tt w0 w fb ps N c u l m)(hown:w2.ownsRow w0.heap.size 21 1 (.slice (some ⟨g,0,none⟩) (l.length+1) cap) (l.length+1) ((l.map fun(x:Nat)=>.int .i32 (x:Int))++[.int .i32 (x:Int)]))(hg:(w.alloc o).grownBy w2 u.ownBlock):
  Tt w0 w2 fb ps N c (.slice (some ⟨g,0,none⟩) (l.length+1) cap) (l++[x]) m:=by
 have hbl:∀j,j<w.heap.size->some j≠u.ownBlock->w2.heap[j]? =w.heap[j]? :=fun j hj hf=>(hg.block j (by simp;omega) hf).trans (lG _ _ _ (by omega));refine⟨?_,?_,?_,h.keep.trans ⟨hg.os,hg.output,lY (by simp) hg.size,fun k hk _=>hbl k (lZ hk h.keep.size) fun e=>by have:=(h.own.lt k e.symm).1;omega⟩⟩
 ·obtain⟨cs,hb,hc⟩:=h.sp
  exact⟨cs,(hbl fb h.sp.lt (zL h.own hb (by decide))).trans hb,hc⟩
 ·obtain⟨gs,cp,hse⟩:=h.se
  have hl:=(kQ.1 hse.blk).1;exact⟨gs,cp,(hbl ps hl (zL h.own hse.blk (by decide))).trans hse.blk,zP hg hse.row fun k hk=>xM hse.row h.own (by decide) hk⟩
 ·have e:(l++[x]).length=l.length+1:=by simp
  rw[e,List.map_append];exact hown
end
end
structure Nt where
 sets:List Cs
 follow:List Nat
 first:Nat
 ends:Nat
 rules:List Nat
 empty:List Bool
structure Nt.Ok (n:Nt):Prop where
 len:n.sets.length<=24
 fl:n.follow.length=n.sets.length
 fs:∀x∈n.follow,x<2^n.sets.length
 first:n.first<2^n.sets.length
 ends:n.ends<2^n.sets.length
 eight:n.rules.length<=8
 rs:∀x∈n.rules,x<2^n.sets.length
theorem Nt.Ok.top {n:Nt}(h:n.Ok):2^n.sets.length<=16777216:=(kG (by omega) h.len:2^n.sets.length<=2^24)
structure NetAt (w:World)(q:Nat)(n:Nt)(sv fv rv ev:Value):Prop where
 lq:q<w.heap.size
 c0:w.cell? ⟨q,0,none⟩=some sv
 c1:w.cell? ⟨q,1,none⟩=some fv
 c2:w.cell? ⟨q,2,none⟩=some (.int .i64 (n.first:Int))
 c3:w.cell? ⟨q,3,none⟩=some (.int .i64 (n.ends:Int))
 c4:w.cell? ⟨q,4,none⟩=some rv
 c5:w.cell? ⟨q,5,none⟩=some ev
 sets:SetsAt w sv n.sets
 follow:Ints w (In w) fv (ints n.follow)
 rules:Ints w (In w) rv (ints n.rules)
 empty:Bools w (In w) ev n.empty
theorem NetAt.grown {w w2:World}{q:Nat}{n:Nt}{sv fv rv ev:Value}(h:NetAt w q n sv fv rv ev)(hk:Grew w w2):NetAt w2 q n sv fv rv ev:=
 ⟨lZ h.lq hk.size,zA h.c0 h.lq hk,zA h.c1 h.lq hk,zA h.c2 h.lq hk,zA h.c3 h.lq hk,zA h.c4 h.lq hk,zA h.c5 h.lq hk,h.sets.grown hk,h.follow.grown hk,h.rules.grown hk,h.empty.grown hk⟩
def Nt.back (n:Nt):Nat->Nat:=spF (zCo n.follow) n.follow.length
def Nt.tails (n:Nt)(ls:List Nat):List Nat:=zM8 n.back ls n.ends
theorem Nt.back_lt {n:Nt}(h:n.Ok)(i:Nat):n.back i<2^n.sets.length:=by
 refine zMi _ _ (fun x hx=>?_) _ _;obtain⟨q,hq,rfl⟩:=List.mem_map.1 hx;have:=zBh (fun p=>(n.follow.getD p 0).testBit q) n.follow.length;rw[h.fl] at this;show yS n.follow n.follow.length q<_;rw[h.fl];exact this
theorem Nt.tails_once {n:Nt}(h:n.Ok)(ls:List Nat):Once (2^n.sets.length) (n.tails ls):=
 zGA (zHE _ _ (Nt.back_lt h)) ls _ _ _ ⟨by simp,fun x hx=>by rw[kY.1 hx];exact h.ends⟩
theorem Once.top {n:Nt}(h:n.Ok){l:List Nat}(hl:Once (2^n.sets.length) l):l.length<=16777216∧∀x∈l,x<16777216:=
 ⟨lY (zLx _ _ hl) h.top,fun x hx=>lZ (hl.lt x hx) h.top⟩
theorem zH0 {w:World}{H:Nat}{v:Value}{l:List Nat}(h:w.ownsRow H 21 1 v l.length (l.map fun(x:Nat)=>.int .i32 (x:Int))):I32s w (In w) v l:=by
 rcases h.2 with⟨hv,h0⟩|⟨g,cap,cur,hv,hg,hh,h1,h2,h3,h4⟩
 ·exact⟨none,0,by rw[hv,h0],by omega,by unfold maxLen;omega,fun i hi=>by omega⟩
 ·refine⟨some ⟨g,0,none⟩,cap,hv,h1,h2,fun i hi=>⟨g,0,rfl,(h.lt g (by rw[hv];rfl)).2,?_⟩⟩
  have hc:=h.cells (g:=g) (by rw[hv];rfl) i (.int .i32 ((l.getD i 0:Nat):Int)) (by
   rw[gJ,lV hi,lW,lV hi];rfl)
  rw[Addr.add_lit] at hc;exact hc
theorem zME:(prog.info? 21).map (fun i=>(i.zero,i.size,i.bytes))=some (some (.int .i32 0),1,4):=by kernel_rfl
theorem zLv (w:World)(H x:Nat)(hH:H<=w.heap.size):(w.alloc (.cells #[.int .i32 (x:Int)] 21)).ownsRow H 21 1 (.slice (some ⟨w.heap.size,0,none⟩) 1 1) ([x]:List Nat).length (([x]:List Nat).map fun(x:Nat)=>.int .i32 (x:Int)):=
 ⟨rfl,.inr ⟨w.heap.size,1,_,rfl,hH,gG w _,lQ,by unfold maxLen;omega,rfl,rfl⟩⟩
theorem zFL (w:World)(q:Nat)(n:Nt)(sv fv rv ev:Value)(hN:NetAt w q n sv fv rv ev)(ok:n.Ok)(lv:Value)(ls:List Nat)(hL:Ints w (In w) lv (ints ls))(hll:ls.length<=1000000000000)(hls:∀x∈ls,x<16777216):
  Calls prog 129 #[.pointer (some ⟨q,0,none⟩),lv] w fun e w'=>∃u,e=.returned u∧I32s w' (In w') u (n.tails ls)∧Grew w w':=by
 obtain⟨i0,hi0,hz0,hz1,hz2⟩:=info_parts zME;obtain⟨asv,csv,rfl,-⟩:=id hN.sets;obtain⟨al,cl,rfl,-⟩:=id hL;have hlen:=ok.len;have htop:=ok.top;have hends:=ok.ends;have x0:=hN.c0;have x1:=hN.c1;have x3:=hN.c3;have HN:=vl hN;have HOK:Hid n.Ok:=ok;have HT:Hid (∀w2,w2=w->Calls prog 170 #[fv] w2 fun e w'=>∃u,e=.returned u∧Ints w' (In w') u (ints (zCo n.follow))∧Grew w w'):=by
  rintro w2 rfl;exact zGx w2 fv n.follow HN.out.follow (by rw[ok.fl];exact hlen) fun x hx=>lZ (ok.fs x hx) htop
 have HSp:Hid (∀w1 u,Ints w1 (In w1) u (ints (zCo n.follow))->Grew w w1->Calls prog 128 #[u] w1 fun e w'=>e=.returned (.pointer (some ⟨w1.heap.size,0,none⟩))∧SpAt w' w1.heap.size n.back∧Grew w w'):=fun w1 u hu hk=>by
  refine(zBC w1 u (zCo n.follow) hu (by rw[zDy,ok.fl];exact hlen) fun x hx=>?_).mono ?_
  ·obtain⟨q,hq,rfl⟩:=List.mem_map.1 hx
   exact zHu _ _ _ (by rw[ok.fl];exact hlen)
  ·rintro e w2 ⟨rfl,h1,h2⟩
   rw[zDy] at h1;exact⟨rfl,h1,hk.trans (h2.lower hk.size hk.size)⟩
 have HSe:Hid (∀w2 f,SpAt w2 f n.back->Grew w w2->Calls prog 171 #[.int .i64 (n.sets.length:Int)] w2 fun e w'=>∃p,e=.returned (.pointer (some ⟨p,0,none⟩))∧SeIs w' w.heap.size p (vN n.sets.length) (fun _=>false)∧SpAt w' f n.back∧Grew w w'):=fun w2 f hf hk=>by
  refine(zFT w2 n.sets.length hlen).mono ?_;rintro e w3 ⟨p,rfl,hp,⟨g,cap,hs⟩,hk3⟩;exact⟨p,rfl,⟨g,cap,hs.blk,hs.row.mono hk.size⟩,hf.keep (hk3.block f hf.lt (kJ hf.lt)),hk.trans (hk3.lower hk.size hk.size)⟩
 have hsn:∀x:Nat,x<2^n.sets.length->x<64*vN n.sets.length:=fun x hx=>by unfold vN;omega
 have hsn2:vN n.sets.length<=1000000:=by unfold vN;omega
 have HAd:Hid (∀w3 p f m u l,Tt w w3 f p (vN n.sets.length) n.back u l m->∀x:Nat,x<2^n.sets.length->Calls prog 172 #[.pointer (some ⟨p,0,none⟩),.int .i64 (x:Int)] w3 fun e w'=>e=.returned (.bool (!m x))∧Tt w w' f p (vN n.sets.length) n.back u l (fun y=>y==x||m y)):=fun w3 p f m u l ht x hx=>by
  refine(zFN w3 w.heap.size p (vN n.sets.length) m ht.se hsn2 x (hsn x hx)).mono ?_;rintro e w4 ⟨rfl,h1,h2⟩;exact⟨rfl,ht.add h2 h1⟩
 have HOf:Hid (∀w3 p f m u l,Tt w w3 f p (vN n.sets.length) n.back u l m->∀x:Nat,x<16777216->Calls prog 92 #[.pointer (some ⟨f,0,none⟩),.int .i64 (x:Int)] w3 fun e w'=>e=.returned (.int .i64 ((zAp n.back x:Nat):Int))∧Tt w w' f p (vN n.sets.length) n.back u l m):=fun w3 p f m u l ht x hx=>by
  refine(zBN w3 f n.back ht.sp (fun i=>lZ (Nt.back_lt HOK.out i) htop) x hx).mono ?_;rintro e w4 ⟨rfl,h1⟩;exact⟨rfl,ht.grown h1⟩
 have HLC:Hid (∀i,i<ls.length->∃b o,al=some ⟨b,o,none⟩∧In w b∧w.cell? ⟨b,o+i,none⟩=some (.int .i64 ((ls.getD i 0:Nat):Int))∧ls.getD i 0<16777216):=by
  obtain⟨al',cl',hv,_,_,h3⟩:=hL;injection hv with e1 _ _;subst e1;intro i hi;obtain⟨b,o,h1,h0,h2⟩:=h3 i (by rw[zM];exact hi);rw[vB] at h2;exact⟨b,o,h1,h0,h2,hls _ (zR _ i 0 hi)⟩
 have HON:Hid (∀l,Once (2^n.sets.length) l->l.length<=16777216∧∀x∈l,x<16777216):=fun l hl=>Once.top HOK.out hl;have HBL:=vl <| zHE _ _ (Nt.back_lt HOK.out);have HE1:Hid (Once (2^n.sets.length) [n.ends]):=⟨by simp,fun x hx=>by rw[kY.1 hx];exact hends⟩
 have HTT:Hid (n.tails ls=jG n.back ls 16777216 0 [n.ends]):=rfl;rw[zM];have hew:n.ends<16777216:=by omega
 clear hN ok hL hls;go_in;go_wp2_with (first|(go_at_call 170;refine(HT.out _ rfl).mono ?_;rintro e w1 ⟨u,rfl,hu,hk1⟩;have HU:=vl hu;clear hu)|(go_at_call 128;refine(HSp.out w1 u HU.out hk1).mono ?_;rintro e w2 ⟨rfl,hs2,hk2⟩;have y0:=(HN.out.grown hk2).c0;clear hk1)|(go_at_call 171;refine(HSe.out w2 w1.heap.size hs2 hk2).mono ?_;rintro e w3 ⟨p,rfl,he3,hs3,hk3⟩;have y3:=(HN.out.grown hk3).c3;have T3:Tt w w3 w1.heap.size p (vN n.sets.length) n.back (.slice none 0 0) [] (fun _=>false):=⟨hs3,he3,ownsRow_nil _ _ _ _,hk3⟩;clear y0 hk2 hs2)|(go_at_call 172;refine(HAd.out w3 p w1.heap.size _ _ _ T3 n.ends hends).mono ?_;rintro e w4 ⟨rfl,T4⟩;have y4:=(HN.out.grown T4.keep).c3;clear y3))
 have T5:Hid (Tt w (w4.alloc (Obj.cells #[Value.int IntKind.i32 (n.ends:Int)] 21)) w1.heap.size p (vN n.sets.length) n.back (.slice (some ⟨w4.heap.size,0,none⟩) 1 1) [n.ends] (fun y=>[n.ends].contains y)):=by
  have h:=T4.grown (kZ w4 (Obj.cells #[Value.int IntKind.i32 (n.ends:Int)] 21) lQ);refine⟨h.sp,?_,zLv w4 w.heap.size n.ends T4.keep.size,h.keep⟩;have e:(fun y=>[n.ends].contains y)=fun y=>y==n.ends||false:=by funext y;by_cases e:y=n.ends <;> simp[e]
  rw[e];exact h.se
 clear T4 T3 hs3 he3 hk3 y4;generalize w1.heap.size=f at *;generalize vN n.sets.length=N at *;go_loopg [7,8] 16777216 (fun k u i wr=>∃(j:Nat) (l:List Nat),k=16777216-j∧j<=l.length∧i=.int .i64 (j:Int)∧Tt w wr f p N n.back u l (fun y=>l.contains y)∧Once (2^n.sets.length) l∧jG n.back ls 16777216 0 [n.ends]=jG n.back ls (16777216-j) j l)
 case atStart=>exact⟨0,[n.ends],rfl,lX,rfl,T5.out,HE1.out,rfl⟩
 case round=>
  obtain⟨j,l,hgk,hj,rfl,ht,hon,hgo⟩:=hrel;have HA:Hid (gk=16777216-j∧Tt w wr f p N n.back u7 l (fun y=>l.contains y)∧Once (2^n.sets.length) l∧jG n.back ls 16777216 0 [n.ends]=jG n.back ls (16777216-j) j l):=⟨hgk,ht,hon,hgo⟩
  obtain⟨ao,cap,hu7⟩:=zE ht.own;have hl24:=(HON.out l hon).1;by_cases hj2:j<l.length
  ·have i1:(j:Int)<(l.length:Int):=by omega
   have HG2:Hid (jG n.back ls 16777216 0 [n.ends]=jG n.back ls (16777216-(j+1)) (j+1) (zBa n.back ls (l.getD j 0) l ls.length)):=by
    show _=_;rw[hgo,show 16777216-j=(16777216-(j+1))+1 by omega];show(if j<l.length then _ else _)=_;rw[if_pos hj2]
   have HP:Hid (∀k,l.length<=(zBa n.back ls (l.getD j 0) l k).length∧(zBa n.back ls (l.getD j 0) l k).getD j 0=l.getD j 0∧Once (2^n.sets.length) (zBa n.back ls (l.getD j 0) l k)):=fun k=>⟨(zIe _ _ _ _ k).1,(zIe _ _ _ _ k).2 j hj2,zGn HBL.out ls _ hon k⟩
   have hxl:=(HON.out l hon).2 _ (zR l j 0 hj2);subst hu7;clear hgk ht hon hgo T5;generalize hxx:l.getD j 0=x at *;clear hxx;go_wp2;go_loopg [7,44] ls.length (fun k u i wr=>∃t:Nat,k=ls.length-t∧t<=ls.length∧i=.int .i64 (t:Int)∧Tt w wr f p N n.back u (zBa n.back ls x l t) (fun y=>(zBa n.back ls x l t).contains y))
   case atStart=>exact⟨0,rfl,lX,rfl,HA.out.2.1⟩
   case round=>
    obtain⟨t,hgk,ht,rfl,hT⟩:=hrel;have HB:Hid (gk=ls.length-t∧Tt w wr f p N n.back u7 (zBa n.back ls x l t) (fun y=>(zBa n.back ls x l t).contains y)):=⟨hgk,hT⟩
    by_cases ht2:t<ls.length
    ·have i2:(t:Int)<(ls.length:Int):=by omega
     obtain⟨b1,o1,rfl,hb1,hc1,hlt1⟩:=HLC.out t ht2;have y1:wr.cell? ⟨b1,o1+t,none⟩=some (.int .i64 ((ls.getD t 0:Nat):Int)):=zA hc1 hb1 hT.keep;obtain⟨hp1,hp2,hp3⟩:=HP.out t;obtain⟨ao2,cap2,hu2,hcap2,hml2,hcs⟩:=zH0 hT.own;obtain⟨b2,o2,rfl,hb2,hc2⟩:=hcs j (by omega);rw[hp2] at hc2;have i3:(j:Int)<((zBa n.back ls x l t).length:Int):=by omega
     have HNx:Hid (zBa n.back ls x l (t+1)=zHj (zBa n.back ls x l t) (zAp n.back (x&&&ls.getD t 0))):=rfl;have hl3:=(HON.out _ hp3).1;clear hgk hT hc1 hcs HP hp2 hp3;generalize zBa n.back ls x l t=L at *;generalize ls.getD t 0=r at *;have hand:bits .and .i64 (x:Int) (r:Int)=((x&&&r:Nat):Int):=yZ _ _ (by omega) (by omega);have hal:x&&&r<16777216:=Nat.lt_of_le_of_lt Nat.and_le_left hxl;generalize x&&&r=y at *;have hyl:=HBL.out y;have HOf2:=vl <| HOf.out wr p f _ _ _ HB.out.2 y hal;generalize zAp n.back y=z at *;have hz24:z<16777216:=by omega
     subst hu2;cases hcz:L.contains z with
     |true=>
      have HAd2:Hid (∀w5,Tt w w5 f p N n.back (.slice (some ⟨b2,o2,none⟩) L.length cap2) L (fun y=>L.contains y)->Calls prog 172 #[.pointer (some ⟨p,0,none⟩),.int .i64 (z:Int)] w5 fun e w'=>e=.returned (.bool false)∧Tt w w' f p N n.back (.slice (some ⟨b2,o2,none⟩) L.length cap2) L (fun y=>y==z||L.contains y)):=fun w5 h5=>by
       have:=HAd.out w5 p f _ _ _ h5 z hyl;rw[hcz] at this;exact this
      have HX:Hid (zBa n.back ls x l (t+1)=L∧(fun y=>y==z||L.contains y)=fun y=>L.contains y):=⟨by rw[HNx.out];unfold zHj;rw[if_pos hcz],by
       funext y
       by_cases e:y=z
       ·rw[e,hcz];simp
       ·rw[show (y==z)=false by simp[e]];rfl⟩
      clear hcz;go_wp2_with (first|(go_at_call 92;refine HOf2.out.mono ?_;rintro e w5 ⟨rfl,T6⟩)|(go_at_call 172;refine(HAd2.out w5 T6).mono ?_;rintro e w6 ⟨rfl,T7⟩))
      go_roundg (ls.length-(t+1))
      case measure=>rw[HB.out.1];omega
      case rel=>
       rw[HX.out.2] at T7;exact⟨t+1,rfl,by omega,by go_num,by rw[HX.out.1];exact T7⟩
     |false=>
      have HAd2:Hid (∀w5,Tt w w5 f p N n.back (.slice (some ⟨b2,o2,none⟩) L.length cap2) L (fun y=>L.contains y)->Calls prog 172 #[.pointer (some ⟨p,0,none⟩),.int .i64 (z:Int)] w5 fun e w'=>e=.returned (.bool true)∧Tt w w' f p N n.back (.slice (some ⟨b2,o2,none⟩) L.length cap2) L (fun y=>y==z||L.contains y)):=fun w5 h5=>by
       have:=HAd.out w5 p f _ _ _ h5 z hyl;rw[hcz] at this;exact this
      have HX:Hid (zBa n.back ls x l (t+1)=L++[z]∧(fun y=>y==z||L.contains y)=fun y=>(L++[z]).contains y):=⟨by rw[HNx.out];unfold zHj;rw[if_neg (by rw[hcz];decide)],by
       funext y
       rw[List.contains_append];by_cases e:y=z
       ·simp[e]
       ·simp[e]⟩
      clear hcz;go_wp2_with (first|(go_at_call 92;refine HOf2.out.mono ?_;rintro e w5 ⟨rfl,T6⟩)|(go_at_call 172;refine(HAd2.out w5 T6).mono ?_;rintro e w6 ⟨rfl,T7⟩;have OR:=T7.own;have hsz6:=T7.keep.size)|(at_builtin;refine wpList_append_lies _ rfl _ _ 174 rfl (w.heap.size) 21 i0 (.int .i32 0) 1 4 underlying174 hi0 hz0 hz1 hz2 rfl (by decide) _ _ _ rfl (OR.alloc _) ⟨w6.heap.size,0,none⟩ 1 1 [.int .i32 (z:Int)] rfl rfl (cell_one_new _ _ _) (by intro u hu;simp at hu;subst hu;rfl) (by decide) (by unfold maxLen;omega) (by omega) (by simp;omega) _ rfl ?_;intro gg cap3 w7 hown hgrow hat hlt3;have T8:=T7.app hown hgrow))
      go_roundg (ls.length-(t+1))
      case measure=>rw[HB.out.1];omega
      case rel=>
       rw[HX.out.2] at T8;exact⟨t+1,rfl,by omega,by go_num,by rw[HX.out.1];exact T8⟩
    ·have i2:(ls.length:Int)<=(t:Int):=by omega
     have e:t=ls.length:=by omega
     subst e;have HZ:=HP.out ls.length;clear hgk hT;go_wp2;go_roundg (16777216-(j+1))
     case measure=>rw[HA.out.1];omega
     case rel=>exact⟨j+1,_,rfl,by omega,by go_num,HB.out.2,HZ.2.2,HG2.out⟩
  ·have i1:(l.length:Int)<=(j:Int):=by omega
   have HZ:Hid (n.tails ls=l):=by
    show _=_;rw[HTT.out,hgo];cases 16777216-j with
    |zero=>rfl
    |succ k=>
     show(if j<l.length then _ else _)=_;rw[if_neg hj2]
   subst hu7;clear hgk ht hon hgo T5;go_wp2;go_ret;exact⟨_,rfl,by rw[HZ.out];exact zH0 HA.out.2.1.own,HA.out.2.1.keep⟩
section
structure Ar.Good (a:Ar)(k:Nat):Prop where
 sets:∀x∈a.sets,0<=x∧x<((2^k:Nat):Int)
 letters:∀x∈a.letters,0<=x∧x<(a.sets.length:Int)
 lens:a.lows.length=a.letters.length
theorem Ar.look_lt (a:Ar)(x:Int):a.look x<(a.seen x).sets.length:=by
 unfold Ar.seen;split
 ·assumption
 ·have:a.look x<=a.sets.length:=List.findIdx_le_length
  simp;omega
theorem Ar.seen_good {a:Ar}{k:Nat}(h:a.Good k)(x:Int)(hx:0<=x∧x<((2^k:Nat):Int)):(a.seen x).Good k:=by
 unfold Ar.seen;split
 ·exact h
 ·refine⟨fun y hy=>?_,fun y hy=>?_,h.lens⟩
  ·rcases kU.1 hy with h1|h1
   ·exact h.sets y h1
   ·rw[kY.1 h1];exact hx
  ·have:=h.letters y hy
   simp;omega
theorem Ar.step_good (sets:List Cs){a:Ar}(h:a.Good sets.length)(low:Int):(a.step sets low).Good sets.length∧0<(a.step sets low).lows.length:=by
 have hb:=zBh (zAK sets low) sets.length;have hs:(0:Int)<=(qK sets low:Nat)∧((qK sets low:Nat):Int)<((2^sets.length:Nat):Int):=by
  unfold qK;omega
 have h2:=Ar.seen_good h _ hs;have h3:=a.look_lt (qK sets low:Nat);unfold Ar.step;split
 ·refine⟨⟨h2.sets,fun y hy=>?_,?_⟩,by simp⟩
  ·rcases kU.1 hy with h1|h1
   ·exact h2.letters y h1
   ·rw[kY.1 h1]
    exact⟨by omega,by show _<(((a.seen _).sets.length:Nat):Int);omega⟩
  ·have:=h2.lens
   simp;omega
 ·rename_i hn
  refine⟨h2,?_⟩;have h4:=h2.lens;apply Nat.pos_of_ne_zero;intro e;apply hn;unfold Ar.turns;rw[show (a.seen (qK sets low)).letters.length=0 by omega];rfl
theorem zHY (sets:List Cs)(j:Nat)(hj:j<=(xI sets).length):(qR sets j).Good sets.length∧(0<j->0<(qR sets j).lows.length):=by
 induction j with
 |zero=>exact⟨⟨fun x hx=>absurd hx (List.not_mem_nil),fun x hx=>absurd hx (List.not_mem_nil),rfl⟩,fun h=>absurd h (Nat.lt_irrefl _)⟩
 |succ j ih=>
  have h:=Ar.step_good sets (ih (by omega)).1 ((xI sets).getD j 0);rw[zBS sets j (by omega)];exact⟨h.1,fun _=>h.2⟩
theorem zK7 (sets:List Cs):(xI sets).length=4+2*yC sets:=zFB sets _
theorem zBp (sets:List Cs):(xY sets).Good sets.length∧0<(xY sets).lows.length∧(xY sets).lows.length<=4+2*yC sets∧(xY sets).sets.length<=4+2*yC sets:=by
 have h:=zHY sets (xI sets).length lQ;have h2:=zC9 sets (xI sets).length lQ;rw[zE7 sets _ lQ] at h h2;have:=zK7 sets;exact⟨h.1,h.2 (by omega),by omega,by omega⟩
def Ar.setsN (a:Ar):List Nat:=a.sets.map Int.toNat
theorem Ar.setsN_ints {a:Ar}{k:Nat}(h:a.Good k):a.sets=ints a.setsN:=by
 unfold ints Ar.setsN;rw[List.map_map]
 conv=>lhs;rw[<-List.map_id a.sets]
 apply List.map_congr_left;intro x hx;have:=h.sets x hx;show x=((x.toNat:Nat):Int);omega
theorem Ar.setsN_lt {a:Ar}{k:Nat}(h:a.Good k):∀x∈a.setsN,x<2^k:=by
 intro x hx;obtain⟨y,hy,rfl⟩:=List.mem_map.1 hx;have:=h.sets y hy;omega
theorem Ar.setsN_len (a:Ar):a.setsN.length=a.sets.length:=kV ..
def Nt.areas (n:Nt):Ar:=xY n.sets
def Nt.letters (n:Nt):List Nat:=n.areas.setsN
def Nt.ahead (n:Nt):Nat->Nat:=spF n.follow n.follow.length
structure Nm (w w':World)(q b:Nat)(n:Nt)(sv fv rv ev lv tv av:Value):Prop where
 net:NetAt w' q n sv fv rv ev
 blk:w'.heap[b]? =some (.cells #[lv,tv,av] 172)
 ar:ArAt w' lv tv av n.areas
 keep:Grew w w'
section
variable {w w1 w2:World} {q b:Nat} {n:Nt} {sv fv rv ev lv tv av:Value}
theorem Nm.grown (h:Nm w w1 q b n sv fv rv ev lv tv av)(hk:Grew w1 w2):Nm w w2 q b n sv fv rv ev lv tv av:=by
 have hl:=(kQ.1 h.blk).1;exact⟨h.net.grown hk,(hk.block b hl (kJ hl)).trans h.blk,h.ar.grown hk,h.keep.trans (hk.lower h.keep.size h.keep.size)⟩
theorem Nm.drew (h:Nm w w1 q b n sv fv rv ev lv tv av):Nm w w1.drew q b n sv fv rv ev lv tv av:=h.grown (Keep.drew _)
theorem Nm.cells (h:Nm w w1 q b n sv fv rv ev lv tv av):w1.cell? ⟨b,0,none⟩=some lv∧w1.cell? ⟨b,1,none⟩=some tv∧w1.cell? ⟨b,2,none⟩=some av:=by
 refine⟨?_,?_,?_⟩
 all_goals (unfold cell?;rw[h.blk];rfl)
end
end
structure Nt.Fits (n:Nt):Prop where
 few:yC n.sets<=10000000000
 small:∀s∈n.sets,s.Small
theorem zEq (w:World)(q:Nat)(n:Nt)(sv fv rv ev:Value)(hN:NetAt w q n sv fv rv ev)(ok:n.Ok)(fit:n.Fits):
  Calls prog 90 #[.pointer (some ⟨q,0,none⟩)] w fun e w'=>∃p s,e=.returned (.pointer (some ⟨p,0,none⟩))∧(s.rules=n.rules∧s.tails=n.tails n.letters∧s.sets=n.letters∧s.q=q)∧SoAt w' (fun g=>g<w'.heap.size∧g≠p) p s ⟨[],[]⟩ (.slice none 0 0) (.slice none 0 0)∧ArAt w' s.lv s.tv s.sv n.areas∧SpAt w' s.f n.ahead∧s.f≠p∧w.heap.size<=p∧Grew w w':=by
 have hlen:=ok.len;have htop:=ok.top;have x0:=hN.c0;have HN:=vl hN;have HOK:Hid n.Ok:=ok;have hfew:=fit.few;have HP:Hid (Calls prog 127 #[sv] w fun e w'=>∃lv tv sv,e=.returned (.agg #[lv,tv,sv])∧ArAt w' lv tv sv (xY n.sets)∧Grew w w'):=zIZ w sv n.sets hN.sets hlen (by omega) fit.small;have HG:Hid (n.areas.Good n.sets.length):=(zBp n.sets).1;have hal:n.areas.sets.length<=1000000000000:=by have:=(zBp n.sets).2.2.2;show(xY n.sets).sets.length<=_;omega
 have HSp:Hid (∀b lv tv av w1,Nm w w1 q b n sv fv rv ev lv tv av->Calls prog 128 #[fv] w1 fun e w'=>∃f,e=.returned (.pointer (some ⟨f,0,none⟩))∧SpAt w' f n.ahead∧f≠b∧Nm w w' q b n sv fv rv ev lv tv av∧Grew w1 w'):=fun b lv tv av w1 hm=>by
  refine(zBC w1 fv n.follow hm.net.follow (by rw[HOK.out.fl];exact hlen) fun x hx=>lZ (HOK.out.fs x hx) htop).mono ?_;rintro e w2 ⟨rfl,h1,h2⟩;have hl:=(kQ.1 hm.blk).1;exact⟨_,rfl,h1,by omega,hm.grown h2,h2⟩
 have HTl:Hid (∀b lv tv av w1,Nm w w1 q b n sv fv rv ev lv tv av->Calls prog 129 #[.pointer (some ⟨q,0,none⟩),av] w1 fun e w'=>∃u,e=.returned u∧I32s w' (In w') u (n.tails n.letters)∧Nm w w' q b n sv fv rv ev lv tv av∧Grew w1 w'):=fun b lv tv av w1 hm=>by
  have hs:=hm.ar.sets;rw[Ar.setsN_ints HG.out] at hs;refine(zFL w1 q n sv fv rv ev hm.net HOK.out av n.letters hs (by show n.areas.setsN.length<=_;rw[Ar.setsN_len];exact hal) fun x hx=>lZ (Ar.setsN_lt HG.out x hx) htop).mono ?_;rintro e w2 ⟨u,rfl,h1,h2⟩;exact⟨u,rfl,h1,hm.grown h2,h2⟩
 clear hN ok fit;go_in;go_wp2_with (first|(go_at_call 127;refine HP.out.mono ?_;rintro e w1 ⟨lv,tv,av,rfl,ha1,hk1⟩;obtain⟨al,cl,rfl,-⟩:=id ha1.lows;obtain⟨at_,ct,rfl,-⟩:=id ha1.letters;obtain⟨as_,cs,rfl,-⟩:=id ha1.sets;have HA1:Hid (ArAt w1 (.slice al (xY n.sets).lows.length cl) (.slice at_ (xY n.sets).letters.length ct) (.slice as_ (xY n.sets).sets.length cs) (xY n.sets)∧Grew w w1):=⟨ha1,hk1⟩;clear ha1))
 obtain⟨w2,hw2,HM⟩:∃w2,w2=w1.alloc (Obj.cells #[Value.slice al (xY n.sets).lows.length cl,Value.slice at_ (xY n.sets).letters.length ct,Value.slice as_ (xY n.sets).sets.length cs] 172)∧Hid (Nm w w2 q w1.heap.size n sv fv rv ev (.slice al (xY n.sets).lows.length cl) (.slice at_ (xY n.sets).letters.length ct) (.slice as_ (xY n.sets).sets.length cs)):=by
  have hk2:=kZ (b:=w1.heap.size) w1 (Obj.cells #[Value.slice al (xY n.sets).lows.length cl,Value.slice at_ (xY n.sets).letters.length ct,Value.slice as_ (xY n.sets).sets.length cs] 172) lQ;have hk3:=HA1.out.2.trans (hk2.lower (c:=w.heap.size) HA1.out.2.size HA1.out.2.size);exact⟨_,rfl,⟨HN.out.grown hk3,gG _ _,HA1.out.1.grown hk2,hk3⟩⟩
 rw[<-hw2];have hwl:w.heap.size<=w1.heap.size:=HA1.out.2.size;clear hw2 HA1 hk1 x0 HP;obtain⟨y0,y1,y2⟩:=HM.out.cells;have y3:=HM.out.net.c1;generalize w1.heap.size=b at *;generalize (xY n.sets).lows.length=l0 at *;generalize (xY n.sets).letters.length=l1 at *;generalize (xY n.sets).sets.length=l2 at *;go_region_held3 (fun w'=>w'.cell? ⟨b,0,none⟩=some (.slice al l0 cl)∧w'.cell? ⟨b,1,none⟩=some (.slice at_ l1 ct)∧w'.cell? ⟨b,2,none⟩=some (.slice as_ l2 cs)∧w'.cell? ⟨q,1,none⟩=some fv) (first|exact⟨z0,z1,z2,z3⟩|go_keep) (first|(go_at_call 128;go_must ((refine (HSp.out _ _ _ _ _ (by first|exact hmT|exact HM.out.drew)).mono ?_;rintro e wS ⟨f,rfl,hsp,hfb,hmS,hkS⟩;obtain⟨z0,z1,z2⟩:=hmS.cells;have z3:=hmS.net.c1)))|(go_at_call 129;go_must ((refine (HTl.out _ _ _ _ _ (by first|exact hmS|exact HM.out.drew)).mono ?_;rintro e wT ⟨tl,rfl,htl,hmT,hkT⟩;obtain⟨atl,ctl,rfl,-⟩:=id htl;obtain⟨z0,z1,z2⟩:=hmT.cells;have z3:=hmT.net.c1))));have HF:Hid (SpAt wT f n.ahead∧Nm w wT q b n sv fv rv ev (.slice al l0 cl) (.slice at_ l1 ct) (.slice as_ l2 cs)∧I32s wT (In wT) (.slice atl (n.tails n.letters).length ctl) (n.tails n.letters)):=⟨hsp.keep (hkT.block f hsp.lt (kJ hsp.lt)),hmT,htl⟩
 clear hsp hmS hkS hmT hkT htl;go_wp2;go_ret;obtain⟨hsp,hm,htl⟩:=HF.out;have hka:=kZ (b:=wT.heap.size) wT (Obj.cells #[Value.pointer (some ⟨q,0,none⟩),Value.slice al l0 cl,Value.slice at_ l1 ct,Value.slice as_ l2 cs,Value.pointer (some ⟨f,0,none⟩),Value.slice atl (n.tails n.letters).length ctl,Value.slice none 0 0,Value.slice none 0 0] 176) lQ;have hin:∀g,In wT g->g<(wT.alloc (Obj.cells #[Value.pointer (some ⟨q,0,none⟩),Value.slice al l0 cl,Value.slice at_ l1 ct,Value.slice as_ l2 cs,Value.pointer (some ⟨f,0,none⟩),Value.slice atl (n.tails n.letters).length ctl,Value.slice none 0 0,Value.slice none 0 0] 176)).heap.size∧g≠wT.heap.size:=fun g hg=>by
  have:g<wT.heap.size:=hg;simp;omega
 have e:∀g,In wT g->(wT.alloc (Obj.cells #[Value.pointer (some ⟨q,0,none⟩),Value.slice al l0 cl,Value.slice at_ l1 ct,Value.slice as_ l2 cs,Value.pointer (some ⟨f,0,none⟩),Value.slice atl (n.tails n.letters).length ctl,Value.slice none 0 0,Value.slice none 0 0] 176)).heap[g]? =wT.heap[g]? :=fun g hg=>lG _ _ _ hg;have hon:=Once.top HOK.out (Nt.tails_once HOK.out n.letters);have hm2:=hm.grown hka;have hss:=hm.ar.sets;rw[Ar.setsN_ints HG.out] at hss;refine⟨wT.heap.size,⟨n.rules,n.tails n.letters,n.letters,q,f,.slice al l0 cl,.slice at_ l1 ct,.slice as_ l2 cs,.slice atl (n.tails n.letters).length ctl,rv⟩,rfl,⟨rfl,rfl,rfl,rfl⟩,?_,hm2.ar,hsp.keep (e f hsp.lt),kJ hsp.lt,hm.keep.size,hm2.keep⟩;exact⟨gG _ _,OwnI.nil _ _,OwnI.nil _ _,fun g hg=>(by cases hg),fun g _ hg=>(by cases hg),fun g _ hg=>(by cases hg),fun h=>h.2 rfl,fun g hg=>hg.1,by simp,(cell?_of_block (e q hm.net.lq)).trans hm.net.c4,hin q hm.net.lq,(hm.net.rules.keep e).mono hin,HOK.out.eight,fun r hr=>lZ (HOK.out.rs r hr) htop,(htl.keep e).mono hin,hon.2,hon.1,(hss.keep e).mono hin,fun x hx=>lZ (Ar.setsN_lt HG.out x hx) htop,fun x hx=>absurd hx List.not_mem_nil,fun x hx=>absurd hx List.not_mem_nil⟩
def zBD (rows:List (List Int))(rules:List Int)(next:List Int)(i:Nat):Bool:=rules.getD i 0== -1&&decide (rows.getD i []=next)
def zAn (rows:List (List Int))(rules:List Int)(next:List Int):Nat:=(List.range rows.length).findIdx (zBD rows rules next)
theorem qL (n j:Nat)(hj:j<n):(List.range n).getD j 0=j:=by
 rw[lW,List.getElem?_range hj];rfl
theorem zMx (rows:List (List Int))(rules next:List Int)(j:Nat)(hj:j<rows.length)(h:zBD rows rules next j=true)(hn:∀i,i<j->zBD rows rules next i=false):zAn rows rules next=j:=
 zDk _ _ j (by rw[List.length_range];exact hj) (by rw[qL _ _ hj];exact h) fun i hi=>by rw[qL _ _ (by omega)];exact hn i hi
theorem zKD (rows:List (List Int))(rules next:List Int)(hn:∀i,i<rows.length->zBD rows rules next i=false):zAn rows rules next=rows.length:=by
 have h:=zBb (List.range rows.length) (zBD rows rules next) fun i hi=>by
  rw[List.length_range] at hi;rw[qL _ _ hi];exact hn i hi
 rw[List.length_range] at h;exact h
theorem zJN (rows:List (List Int))(rules next:List Int):zAn rows rules next<=rows.length:=by
 have h:(List.range rows.length).findIdx (zBD rows rules next)<=(List.range rows.length).length:=List.findIdx_le_length;rw[List.length_range] at h;exact h
theorem zJc (w:World)(kb:Nat)(nv rv tv:Value)(rows:List (List Int))(rules next:List Int)(hl:kb<w.heap.size)(h3:w.cell? ⟨kb,3,none⟩=some nv)(h4:w.cell? ⟨kb,4,none⟩=some rv)(hN:IntRows w (In w) nv rows)(hR:Ints w (In w) rv rules)(hrl:rules.length=rows.length)(hrn:rows.length<=1000000000000)(hT:Ints w (In w) tv next)(hlen:∀r∈rows,r.length<=1000000000000):
  Calls prog 95 #[.pointer (some ⟨kb,0,none⟩),tv] w fun e w'=>e=.returned (.int .i64 ((zAn rows rules next:Nat):Int))∧Grew w w':=by
 obtain⟨an,cn,rfl,_,_,hnc⟩:=hN;obtain⟨ar,cr,rfl,_,_,hrc⟩:=hR;rw[hrl] at h4 hrc;have HN:=vl hnc;have HR:=vl hrc;have HE:Hid (∀wr u i,i<rows.length->Grew w wr->Ints w (In w) u (rows.getD i [])->Calls prog 132 #[u,tv] wr fun e w'=>e=.returned (.bool (decide (rows.getD i []=next)))∧Grew w w'):=fun wr u i hi hk hu=>by
  refine(zIg wr u tv _ next (hu.grown hk) (hT.grown hk) (hlen _ (zR _ _ _ hi))).mono ?_;rintro e w2 ⟨rfl,hk2⟩;exact⟨rfl,hk.trans (hk2.lower hk.size hk.size)⟩
 have H1:=vl <| zMx rows rules next
 have H2:=vl <| zKD rows rules next
 go_in;go_wp2;go_loopg [12] rows.length (fun k i wr=>∃j:Nat,k=rows.length-j∧j<=rows.length∧i=.int .i64 (j:Int)∧(∀i,i<j->zBD rows rules next i=false)∧Grew w wr)
 case atStart=>exact⟨0,rfl,lX,rfl,fun i hi=>by omega,⟨rfl,rfl,lQ,fun _ _ _=>rfl⟩⟩
 case round=>
  obtain⟨j,hgk,hj,rfl,hno,hkp⟩:=hrel;have HB:Hid (gk=rows.length-j∧(∀i,i<j->zBD rows rules next i=false)∧Grew w wr):=⟨hgk,hno,hkp⟩
  have x3:=zA h3 hl hkp;have x4:=zA h4 hl hkp;by_cases hj2:j<rows.length
  ·have i1:(j:Int)<(rows.length:Int):=by omega
   obtain⟨b1,o1,u,rfl,hb1,hc1,hu⟩:=HN.out j hj2;obtain⟨b2,o2,rfl,hb2,hc2⟩:=HR.out j hj2;obtain⟨au,cu,hu2,-⟩:=id hu;have y1:=zA hc1 hb1 hkp;have y2:=zA hc2 hb2 hkp;have HC:=vl <| HE.out wr u j hj2 hkp hu;have HV:Hid (zBD rows rules next j=(rules.getD j 0== -1&&decide (rows.getD j []=next))):=rfl;have HL3:Hid (zBD rows rules next j=true->zAn rows rules next=j):=fun h=>H1.out j hj2 h HB.out.2.1;have HN3:Hid (zBD rows rules next j=false->∀i,i<j+1->zBD rows rules next i=false):=fun h i hi=>by
    by_cases e:i=j
    ·rw[e];exact h
    ·exact HB.out.2.1 i (by omega)
   generalize (rows.getD j []).length=ul at *;subst hu2;generalize decide (rows.getD j []=next)=d at *;generalize rules.getD j 0=r at *;by_cases hr:r=-1
   ·subst hr
    cases d with
    |true=>
     have HR2:=vl <| HL3.out (by rw[HV.out];rfl);go_wp2_with (first|(go_at_call 132;refine HC.out.mono ?_;rintro e w5 ⟨rfl,hk5⟩))
     go_ret;exact⟨by rw[HR2.out];rfl,hk5⟩
    |false=>
     have HR2:=vl <| HN3.out (by rw[HV.out];rfl);go_wp2_with (first|(go_at_call 132;refine HC.out.mono ?_;rintro e w5 ⟨rfl,hk5⟩))
     go_roundg (rows.length-(j+1))
     case measure=>rw[HB.out.1];omega
     case rel=>exact⟨j+1,rfl,by omega,by go_num,HR2.out,hk5⟩
   ·have hc:(r== -1)=false:=by simp[hr]
    have HR2:=vl <| HN3.out (by rw[HV.out,hc];rfl);go_wp2;go_roundg (rows.length-(j+1))
    case measure=>rw[HB.out.1];omega
    case rel=>exact⟨j+1,rfl,by omega,by go_num,HR2.out,HB.out.2.2⟩
  ·have i1:(rows.length:Int)<=(j:Int):=by omega
   have HR2:=vl <| H2.out fun i hi=>hno i (by omega);go_wp2;go_ret;exact⟨by rw[HR2.out];rfl,HB.out.2.2⟩
end Go.Proofs.YtbjcfkdnjaiclaaGreat
