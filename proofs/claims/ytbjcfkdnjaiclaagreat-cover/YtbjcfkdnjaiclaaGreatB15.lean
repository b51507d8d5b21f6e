import Derived.Deep.DrawnRows
import Derived.Deep.RegionLaw
import Derived.Test.YtbjcfkdnjaiclaaGreatB0
import Derived.Test.YtbjcfkdnjaiclaaGreatB14
/- Parts of the proof. -/
set_option linter.unusedVariables false
set_option linter.unusedSimpArgs false
set_option maxHeartbeats 4000000
set_option maxRecDepth 100000
namespace Go.Proofs.YtbjcfkdnjaiclaaGreat
open Go.RowKit Go.Proofs.Tryz Go.World
def zDw (w:World)(k:Kd)(a:Ar)(most:Nat)(e:Ending)(w':World):Prop:=
 Grew w w'∧(((yA k a most).full=true∧e=.returned (.tuple #[.agg #[.slice none 0 0,.slice none 0 0,.int .i64 0],.bool false]))∨((yA k a most).full=false∧∃nv rv,e=.returned (.tuple #[.agg #[nv,rv,.int .i64 ((yA k a most).of.getD k.start 0)],.bool true])∧IntRows w' (fun g=>w.heap.size<=g∧g<w'.heap.size) nv (yA k a most).next∧Ints w' (fun g=>w.heap.size<=g∧g<w'.heap.size) rv (yA k a most).rules))
theorem Mw.begin {w0 w:World}{kb most:Nat}(hk:Grew w0 w):Mw w0 (w.alloc (.cells #[.pointer (some ⟨kb,0,none⟩),.int .i64 (most:Int),.bool false,.slice none 0 0,.slice none 0 0,.int .i64 0,.slice none 0 0] 183)) w.heap.size kb most Mk.blank (.slice none 0 0) (.slice none 0 0) (.slice none 0 0) (fun _=>0):=
 ⟨gG _ _,ownsRow_nil _ _ _ _,fun i hi=>absurd hi (Nat.not_lt_zero _),OwnI.nil _ _,OwnI.nil _ _,fun i j hi=>absurd hi (Nat.not_lt_zero _),fun i hi=>absurd hi (Nat.not_lt_zero _),fun i hi=>absurd hi (Nat.not_lt_zero _),fun g hg=>(by cases hg),hk.size,hk.trans (kZ _ _ hk.size)⟩
theorem zGB (w:World)(kb most:Nat)(hmost:most<=1000000)(k:Kd)(a:Ar)(hK:KdAt w kb a k)(ok:k.Ok a)(hrl:k.rows.length<=10000000000):
  Calls prog 62 #[.pointer (some ⟨kb,0,none⟩),.int .i64 (most:Int)] w (zDw w k a most):=by
 obtain⟨w1,hw1,K1⟩:∃w1,w1=w.alloc (.cells #[.slice none 0 0,.slice none 0 0,.int .i64 0] 127)∧Hid (Grew w w1∧w1.heap.size=w.heap.size+1∧w1.heap[w.heap.size]? =some (.cells #[.slice none 0 0,.slice none 0 0,.int .i64 0] 127)):=⟨_,rfl,kZ _ _ lQ,by simp,gG _ _⟩
 obtain⟨w2,hw2,K2⟩:∃w2,w2=w1.alloc (.cells #[.pointer (some ⟨kb,0,none⟩),.int .i64 (most:Int),.bool false,.slice none 0 0,.slice none 0 0,.int .i64 0,.slice none 0 0] 183)∧Hid (MwIs w w2 (w.heap.size+1) kb most Mk.blank∧w2.heap[w.heap.size]? =some (.cells #[.slice none 0 0,.slice none 0 0,.int .i64 0] 127)):=by
  refine⟨_,rfl,⟨.slice none 0 0,.slice none 0 0,.slice none 0 0,fun _=>0,?_⟩,?_⟩
  ·have h:=Mw.begin (kb:=kb) (most:=most) K1.out.1
   rw[K1.out.2.1] at h;exact h
  ·exact(lG _ _ _ (by rw[K1.out.2.1];omega)).trans K1.out.2.2
 have HSZ1:=vl K1.out.2.1;have HAW:=vl <| zFH w w2 (w.heap.size+1) kb most K2.out.1 hmost k a hK ok.lens hrl;have HKC:Hid (∀wr m2,MwIs w wr (w.heap.size+1) kb most m2->∃kn cn,wr.cell? ⟨w.heap.size+1,2,none⟩=some (.bool m2.full)∧wr.cell? ⟨kb,3,none⟩=some (.slice kn k.rows.length cn)∧wr.cell? ⟨kb,5,none⟩=some (.int .i64 (k.start:Int))∧wr.cell? ⟨kb,6,none⟩=some (.int .i64 (k.dead:Int))∧kb<wr.heap.size):=by
  rintro wr m2 ⟨nv,rv,ov,gs,hM⟩;obtain⟨hkl,lv,tv,sv,kn,kr,hkb,hka,hkn,hkr⟩:=hK.grown hM.keep;obtain⟨an,cn,rfl,-⟩:=hkn;rw[kV] at hkb;refine⟨an,cn,hM.cells.2.2.1,?_,?_,?_,hkl⟩
  all_goals (unfold cell?;rw[hkb];rfl)
 obtain⟨MT,hMT⟩:∃MT,MT=qY k a most:=⟨_,rfl⟩
 have HMT:Hid (MT 0=zZ k most k.rows.length∧(∀j,j≠k.dead->(MT j).full=false->MT (j+1)=zBF k a most j ((MT j).of.getD j 0).toNat (MT j))∧(∀j,¬(j≠k.dead∧(MT j).full=false)->MT (j+1)=MT j)∧(∀j,(MT j).Fit most)∧(∀j,(MT j).full=false->(MT j).Has∧(MT j).of.length=k.rows.length)∧MT k.rows.length=yA k a most):=by
  rw[hMT];exact⟨rfl,fun j h1 h2=>if_pos ⟨h1,h2⟩,fun j h=>if_neg h,fun j=>(zDK k a most j).1,fun j h=>zH9 k a most j h,rfl⟩
 have HFI:Hid (∀wr j,j<k.rows.length->MwIs w wr (w.heap.size+1) kb most (MT j)->(MT j).full=false->Calls prog 97 #[.pointer (some ⟨w.heap.size+1,0,none⟩),.int .i64 ((j:Nat):Int)] wr fun e w'=>e=.returned (.tuple #[])∧MwIs w w' (w.heap.size+1) kb most (zBF k a most j ((MT j).of.getD j 0).toNat (MT j))∧StayT wr w'):=fun wr j hj hM hf=>by
  obtain⟨hh,hol⟩:=HMT.out.2.2.2.2.1 j hf;have hx:=hh.of _ (zR (MT j).of j 0 (by omega));exact zJl w wr (w.heap.size+1) kb most (MT j) hM hmost (HMT.out.2.2.2.1 j) k a hK ok j _ hj hol (by omega) (by omega)
 have hstart:=ok.start;generalize hMM:yA k a most=MM at *;have HANS:Hid (∀e w',zDw w k a most e w'↔Grew w w'∧((MM.full=true∧e=.returned (.tuple #[.agg #[.slice none 0 0,.slice none 0 0,.int .i64 0],.bool false]))∨(MM.full=false∧∃nv rv,e=.returned (.tuple #[.agg #[nv,rv,.int .i64 (MM.of.getD k.start 0)],.bool true])∧IntRows w' (fun g=>w.heap.size<=g∧g<w'.heap.size) nv MM.next∧Ints w' (fun g=>w.heap.size<=g∧g<w'.heap.size) rv MM.rules))):=fun e w'=>by unfold zDw;rw[hMM]
 go_in;apply wp_cut;intro K0 J;go_wp2;apply J.out;clear J;rw[<-hw1];clear hw1;apply wp_cut;intro K0 J;go_wp2;apply J.out;clear J;rw[<-hw2,HSZ1.out];clear hw2;go_wp2_with (first|(go_at_call 96;refine HAW.out.mono ?_;rintro e w3 ⟨rfl,hM3,hS3⟩;obtain⟨kn,cn,y2,y3,y5,y6,-⟩:=HKC.out w3 _ hM3;have HM3:Hid (MwIs w w3 (w.heap.size+1) kb most (MT 0)∧w3.heap[w.heap.size]? =some (.cells #[.slice none 0 0,.slice none 0 0,.int .i64 0] 127)):=⟨(by rw[HMT.out.1];exact hM3),hS3 _ _ _ K2.out.2 (by decide) (by decide) (by decide)⟩;clear hM3 hS3 y2 y5 y6))
 clear y3;go_loopg [19] k.rows.length (fun q i wr=>∃j:Nat,q=k.rows.length-j∧j<=k.rows.length∧i=.int .i64 (j:Int)∧MwIs w wr (w.heap.size+1) kb most (MT j)∧wr.heap[w.heap.size]? =some (.cells #[.slice none 0 0,.slice none 0 0,.int .i64 0] 127))
 case atStart=>exact⟨0,rfl,lX,rfl,HM3.out.1,HM3.out.2⟩
 case round=>
  obtain⟨j,hgk,hj,rfl,hM,hR⟩:=hrel;have HB:Hid (gk=k.rows.length-j∧MwIs w wr (w.heap.size+1) kb most (MT j)∧wr.heap[w.heap.size]? =some (.cells #[.slice none 0 0,.slice none 0 0,.int .i64 0] 127)):=⟨hgk,hM,hR⟩
  obtain⟨kn2,cn2,y2,y3,y5,y6,hkl⟩:=HKC.out wr _ hM;by_cases hj2:j<k.rows.length
  ·have i1:(j:Int)<(k.rows.length:Int):=by omega
   by_cases hd:j=k.dead
   ·have hdc:((j:Int) != (k.dead:Int))=false:=by simp;omega
    have HN:=vl <| HMT.out.2.2.1 j fun h=>h.1 hd;clear hgk hM hR hd y3 y5;generalize (MT j).full=fu at *;go_wp2;go_roundg (k.rows.length-(j+1))
    case measure=>rw[HB.out.1];omega
    case rel=>exact⟨j+1,rfl,by omega,by go_num,by rw[HN.out];exact HB.out.2.1,HB.out.2.2⟩
   ·have hdc:((j:Int) != (k.dead:Int))=true:=by simp;omega
    cases hfu:(MT j).full with
    |true=>
     rw[hfu] at y2;have HN:=vl <| HMT.out.2.2.1 j fun h=>by rw[hfu] at h;exact absurd h.2 (by decide)
     clear hgk hM hR hd y3 y5 hfu;go_wp2;go_roundg (k.rows.length-(j+1))
     case measure=>rw[HB.out.1];omega
     case rel=>exact⟨j+1,rfl,by omega,by go_num,by rw[HN.out];exact HB.out.2.1,HB.out.2.2⟩
    |false=>
     rw[hfu] at y2;have HN:=vl <| HMT.out.2.1 j hd hfu;have HC:=vl <| HFI.out wr j hj2 hM hfu;clear hgk hM hR hd y3 y5 hfu;generalize zBF k a most j ((MT j).of.getD j 0).toNat (MT j)=m5 at *;go_wp2_with (first|(go_at_call 97;refine HC.out.mono ?_;rintro e w5 ⟨rfl,hM5,hS5⟩))
     go_roundg (k.rows.length-(j+1))
     case measure=>rw[HB.out.1];omega
     case rel=>exact⟨j+1,rfl,by omega,by go_num,by rw[HN.out];exact hM5,hS5 _ _ _ HB.out.2.2 (by decide) (by decide) (by decide)⟩
  ·have i1:(k.rows.length:Int)<=(j:Int):=by omega
   have e:j=k.rows.length:=by omega
   subst e;rw[HMT.out.2.2.2.2.2] at hM y2;have HM:Hid (MwIs w wr (w.heap.size+1) kb most MM∧wr.heap[w.heap.size]? =some (.cells #[.slice none 0 0,.slice none 0 0,.int .i64 0] 127)):=⟨hM,hR⟩
   have HHAS:Hid (MM.full=false->MM.Has∧MM.of.length=k.rows.length):=by have:=HMT.out.2.2.2.2.1 k.rows.length;rw[HMT.out.2.2.2.2.2] at this;exact this
   have hr0:w.heap.size<wr.heap.size:=(kQ.1 hR).1;have r0:wr.cell? ⟨w.heap.size,0,none⟩=some (.slice none 0 0):=by unfold cell?;rw[hR];rfl
   have r1:wr.cell? ⟨w.heap.size,1,none⟩=some (.slice none 0 0):=by unfold cell?;rw[hR];rfl
   have r2:wr.cell? ⟨w.heap.size,2,none⟩=some (.int .i64 0):=by unfold cell?;rw[hR];rfl
   have HRF:Hid (∀i,wr.frozen? ⟨w.heap.size,i,none⟩=false):=fun i=>by unfold frozen?;rw[hR];simp
   have q0:=HRF.out 0;have q1:=HRF.out 1;have q2:=HRF.out 2;cases hfu:MM.full with
   |true=>
    rw[hfu] at y2;have HFT:=vl hfu;clear hgk hM hR hfu;go_wp2;obtain⟨w9,hw9,c0,c1,c2,K9⟩:∃w9,w9=((wr.setCell ⟨w.heap.size,0,none⟩ (Value.slice none 0 0)).setCell ⟨w.heap.size,1,none⟩ (Value.slice none 0 0)).setCell ⟨w.heap.size,2,none⟩ (Value.int IntKind.i64 0)∧w9.cell? ⟨w.heap.size,0,none⟩=some (.slice none 0 0)∧w9.cell? ⟨w.heap.size,1,none⟩=some (.slice none 0 0)∧w9.cell? ⟨w.heap.size,2,none⟩=some (.int .i64 0)∧Hid (Grew w w9):=by
     obtain⟨⟨nv,rv,ov,gs,hMw⟩,hR⟩:=HM.out;refine⟨_,rfl,?_,?_,?_,hMw.keep.trans (((zN _ _ _ _ lQ).trans (zN _ _ _ _ lQ)).trans (zN _ _ _ _ lQ))⟩
     all_goals simp[World.cell?,setCell,lU,hR]
    rw[<-hw9];clear hw9;refine bodyPost_ret (v:=.tuple #[.agg #[.slice none 0 0,.slice none 0 0,.int .i64 0],.bool false]) (by simp[results,results62,go_sem,c0,c1,c2]) rfl ?_;exact(HANS.out _ _).2 ⟨K9.out,.inl ⟨HFT.out,rfl⟩⟩
   |false=>
    rw[hfu] at y2;have HFT:=vl hfu;obtain⟨hh,hol⟩:=HHAS.out hfu;obtain⟨nv,rv,ov,gs,hMw⟩:=hM;obtain⟨an,cn9,hnv⟩:=zE hMw.nOwn;obtain⟨ar,cr,hrv⟩:=hMw.rOwn.form;obtain⟨ao,co,hov⟩:=hMw.oOwn.form;subst hnv hrv hov;obtain⟨go,rfl⟩:=hMw.oOwn.some (by omega);have o1:=hMw.oOwn.cell k.start (by omega);rw[hol] at hMw;have x6:=hMw.cells.2.2.2.2.2.1;have x3:=hMw.cells.2.2.2.1;have x4:=hMw.cells.2.2.2.2.1;have x5:wr.cell? ⟨w.heap.size+1,5,none⟩=some (.int .i64 0):=by unfold cell?;rw[hMw.blk];rfl
    have f5:=hMw.cells.2.2.2.2.2.2 5;have i3:(k.start:Int)<(k.rows.length:Int):=by omega
    have HMw:=vl hMw;have HO2:=vl hol;have HST:Hid (MM.of.getD k.start 0=MM.of.getD k.start 0):=rfl;clear hgk hR hfu hh hMw hol HHAS;generalize MM.of.getD k.start 0=st at *;go_wp2;go_region;obtain⟨w6,hw6,v3,v4,v5,v0,v1,v2,p0,p1,p2,HK6⟩:∃w6,w6=(wr.setCell ⟨w.heap.size+1,5,none⟩ (.int .i64 st)).drew∧w6.cell? ⟨w.heap.size+1,3,none⟩=some (.slice an MM.next.length cn9)∧w6.cell? ⟨w.heap.size+1,4,none⟩=some (.slice ar MM.rules.length cr)∧w6.cell? ⟨w.heap.size+1,5,none⟩=some (.int .i64 st)∧w6.cell? ⟨w.heap.size,0,none⟩=some (.slice none 0 0)∧w6.cell? ⟨w.heap.size,1,none⟩=some (.slice none 0 0)∧w6.cell? ⟨w.heap.size,2,none⟩=some (.int .i64 0)∧w6.frozen? ⟨w.heap.size,0,none⟩=false∧w6.frozen? ⟨w.heap.size,1,none⟩=false∧w6.frozen? ⟨w.heap.size,2,none⟩=false∧Hid (w6.heap[w.heap.size]? =some (.cells #[.slice none 0 0,.slice none 0 0,.int .i64 0] 127)∧w6.heap.size=wr.heap.size∧w6.os=wr.os∧w6.output=wr.output∧∀k,k≠w.heap.size+1->w6.heap[k]? =wr.heap[k]?):=by
     have e:∀k,k≠w.heap.size+1->((wr.setCell ⟨w.heap.size+1,5,none⟩ (.int .i64 st)).drew).heap[k]? =wr.heap[k]? :=fun k hk=>lJ _ _ _ _ hk;have er:=(e w.heap.size (by omega)).trans HM.out.2;have em:((wr.setCell ⟨w.heap.size+1,5,none⟩ (.int .i64 st)).drew).heap[w.heap.size+1]? =some (.cells #[.pointer (some ⟨kb,0,none⟩),.int .i64 (most:Int),.bool MM.full,.slice an MM.next.length cn9,.slice ar MM.rules.length cr,.int .i64 st,.slice (some ⟨go,0,none⟩) k.rows.length co] 183):=by
      show(wr.setCell ⟨w.heap.size+1,5,none⟩ (.int .i64 st)).heap[w.heap.size+1]? =_;simp[setCell,lU,HMw.out.blk]
     refine⟨_,rfl,?_,?_,?_,?_,?_,?_,?_,?_,?_,er,zC _ _ _,rfl,rfl,e⟩
     ·unfold cell?;rw[em];rfl
     ·unfold cell?;rw[em];rfl
     ·unfold cell?;rw[em];rfl
     ·unfold cell?;rw[er];rfl
     ·unfold cell?;rw[er];rfl
     ·unfold cell?;rw[er];rfl
     ·unfold frozen?;rw[er];rfl
     ·unfold frozen?;rw[er];rfl
     ·unfold frozen?;rw[er];rfl
    rw[<-hw6];clear hw6 x3 x4 x5 x6 o1 f5 r0 r1 r2 q0 q1 q2 y2 y3 y5 y6;go_wp2;obtain⟨w9,hw9,c0,c1,c2,K9⟩:∃w9,w9=((w6.setCell ⟨w.heap.size,0,none⟩ (Value.slice an MM.next.length cn9)).setCell ⟨w.heap.size,1,none⟩ (Value.slice ar MM.rules.length cr)).setCell ⟨w.heap.size,2,none⟩ (Value.int IntKind.i64 st)∧w9.cell? ⟨w.heap.size,0,none⟩=some (.slice an MM.next.length cn9)∧w9.cell? ⟨w.heap.size,1,none⟩=some (.slice ar MM.rules.length cr)∧w9.cell? ⟨w.heap.size,2,none⟩=some (.int .i64 st)∧Hid (Grew w w9∧IntRows w9 (fun g=>w.heap.size<=g∧g<w9.heap.size) (.slice an MM.next.length cn9) MM.next∧Ints w9 (fun g=>w.heap.size<=g∧g<w9.heap.size) (.slice ar MM.rules.length cr) MM.rules):=by
     obtain⟨hR6,hs6,ho6,hu6,he6⟩:=HK6.out;have hT:=HMw.out.tables HM.out.2;have e9:∀k,k≠w.heap.size->k≠w.heap.size+1->(((w6.setCell ⟨w.heap.size,0,none⟩ (Value.slice an MM.next.length cn9)).setCell ⟨w.heap.size,1,none⟩ (Value.slice ar MM.rules.length cr)).setCell ⟨w.heap.size,2,none⟩ (Value.int IntKind.i64 st)).heap[k]? =wr.heap[k]? :=fun k h1 h2=>(lJ _ _ _ _ h1).trans ((lJ _ _ _ _ h1).trans ((lJ _ _ _ _ h1).trans (he6 k h2)));have s9:(((w6.setCell ⟨w.heap.size,0,none⟩ (Value.slice an MM.next.length cn9)).setCell ⟨w.heap.size,1,none⟩ (Value.slice ar MM.rules.length cr)).setCell ⟨w.heap.size,2,none⟩ (Value.int IntKind.i64 st)).heap.size=wr.heap.size:=by rw[zC,zC,zC];exact hs6
     refine⟨_,rfl,?_,?_,?_,HMw.out.keep.trans ⟨ho6,hu6,by rw[s9];exact lQ,fun k h1 _=>e9 k (by omega) (by omega)⟩,hT.1.moved (fun b hb=>e9 b hb.2.2.1 hb.2.1) (fun b hb=>⟨hb.2.2.2,by rw[s9];exact hb.1⟩),(hT.2.keep fun b hb=>e9 b hb.2.2.1 hb.2.1).mono fun b hb=>⟨hb.2.2.2,by rw[s9];exact hb.1⟩⟩
     all_goals simp[World.cell?,setCell,lU,hR6]
    rw[<-hw9];clear hw9;refine bodyPost_ret (v:=.tuple #[.agg #[.slice an MM.next.length cn9,.slice ar MM.rules.length cr,.int .i64 st],.bool true]) (by simp[results,results62,go_sem,c0,c1,c2]) rfl ?_;exact(HANS.out _ _).2 ⟨K9.out.1,.inr ⟨HFT.out,_,_,rfl,K9.out.2.1,K9.out.2.2⟩⟩
section
def vS (ps:List (Value×Bool)):List Value:=ps.flatMap fun p=>[p.1,.bool p.2]
theorem zGF (ps:List (Value×Bool))(u:Value)(o:Bool):vS (ps++[(u,o)])=vS ps++[u,.bool o]:=by simp[vS]
theorem zD6 (ps:List (Value×Bool))(i:Nat)(hi:i<ps.length):(vS ps)[i*2]? =some (ps.getD i (undef,false)).1∧(vS ps)[i*2+1]? =some (.bool (ps.getD i (undef,false)).2):=by
 induction ps generalizing i with
 |nil=>simp at hi
 |cons p ps ih=>
  cases i with
  |zero=>exact⟨rfl,rfl⟩
  |succ i=>
   have:=ih i (by simpa using hi);have e:vS (p::ps)=p.1:: .bool p.2::vS ps:=rfl;rw[e,show(i+1)*2=i*2+1+1 by omega];exact this
structure Nw (w0 w:World)(nb:Nat)(n:Nt)(sv fv rv ev:Value)(ps:List (Value×Bool)):Prop where
 blk:w.heap[nb]? =some (.cells #[sv,fv,.int .i64 (n.first:Int),.int .i64 (n.ends:Int),rv,ev] 132)
 sOwn:w.ownsRow w0.heap.size 161 2 sv n.sets.length (vS ps)
 plen:ps.length=n.sets.length
 each:∀i,i<n.sets.length->RangesAt w0 (ps.getD i (undef,false)).1 (n.sets.getD i ⟨[],false⟩).ranges∧(ps.getD i (undef,false)).2=(n.sets.getD i ⟨[],false⟩).others
 fOwn:OwnI w w0.heap.size fv (ints n.follow)
 rOwn:OwnI w w0.heap.size rv (ints n.rules)
 eOwn:OwnB w w0.heap.size ev n.empty
 fr:∀g,fv.ownBlock=some g->some g≠rv.ownBlock
 nH:w0.heap.size<=nb
 keep:Grew w0 w
def NwIs (w0 w:World)(nb:Nat)(n:Nt):Prop:=∃sv fv rv ev ps,Nw w0 w nb n sv fv rv ev ps
def StayS (w w':World):Prop:=∀(k:Nat) (c:Array Value),w.heap[k]? =some (Obj.cells c 167)->w'.heap[k]? =some (Obj.cells c 167)
theorem StayS.refl (w:World):StayS w w:=fun _ _ h=>h
theorem StayS.trans {w w' w'':World}(h:StayS w w')(h':StayS w' w''):StayS w w'':=fun k c hk=>h' k c (h k c hk)
theorem Keep.stayS {w w':World}(h:Grew w w'):StayS w w':=fun k c hk=>by
 have hl:=(kQ.1 hk).1;exact(h.block k hl (kJ hl)).trans hk
section
variable {w0 w w2:World} {nb:Nat} {n:Nt} {sv fv rv ev:Value} {ps:List (Value×Bool)}
theorem Nw.lt (h:Nw w0 w nb n sv fv rv ev ps):nb<w.heap.size:=(kQ.1 h.blk).1
theorem Nw.cells (h:Nw w0 w nb n sv fv rv ev ps):w.cell? ⟨nb,0,none⟩=some sv∧w.cell? ⟨nb,1,none⟩=some fv∧w.cell? ⟨nb,2,none⟩=some (.int .i64 (n.first:Int))∧w.cell? ⟨nb,3,none⟩=some (.int .i64 (n.ends:Int))∧w.cell? ⟨nb,4,none⟩=some rv∧w.cell? ⟨nb,5,none⟩=some ev∧∀i,w.frozen? ⟨nb,i,none⟩=false:=by
 refine⟨?_,?_,?_,?_,?_,?_,fun i=>?_⟩
 all_goals first|(unfold cell?;rw[h.blk];rfl)|(unfold frozen?;rw[h.blk];simp)
theorem Nw.box (h:Nw w0 w nb n sv fv rv ev ps):some nb≠sv.ownBlock∧some nb≠fv.ownBlock∧some nb≠rv.ownBlock∧some nb≠ev.ownBlock:=⟨zL h.sOwn h.blk (by decide),zL h.fOwn h.blk (by decide),zL h.rOwn h.blk (by decide),zL h.eOwn h.blk (by decide)⟩
theorem Nw.grown (h:Nw w0 w nb n sv fv rv ev ps)(hk:Grew w w2):Nw w0 w2 nb n sv fv rv ev ps:=
 ⟨(hk.block nb h.lt (kJ h.lt)).trans h.blk,zJ h.sOwn hk,h.plen,h.each,zJ h.fOwn hk,zJ h.rOwn hk,zJ h.eOwn hk,h.fr,h.nH,h.keep.trans (hk.lower h.keep.size h.keep.size)⟩
theorem Nw.setSpan {b i:Nat}{x:Value}{c:Array Value}(h:Nw w0 w nb n sv fv rv ev ps)(hb:w.heap[b]? =some (.cells c 167))(hH:w0.heap.size<=b):Nw w0 (w.setCell ⟨b,i,none⟩ x) nb n sv fv rv ev ps:=by
 have e:∀k,k≠b->(w.setCell ⟨b,i,none⟩ x).heap[k]? =w.heap[k]? :=fun k hk=>lJ _ _ _ _ hk;have n1:nb≠b:=fun e2=>by
  have:=h.blk;rw[e2,hb] at this;simp at this
 have n3:=zL h.sOwn hb (by decide);have n4:=zL h.fOwn hb (by decide);have n5:=zL h.rOwn hb (by decide);have n6:=zL h.eOwn hb (by decide);exact⟨(e nb n1).trans h.blk,zD h.sOwn fun k _ _ hk=>e k fun e2=>n3 (by rw[hk,e2]),h.plen,h.each,zD h.fOwn fun k _ _ hk=>e k fun e2=>n4 (by rw[hk,e2]),zD h.rOwn fun k _ _ hk=>e k fun e2=>n5 (by rw[hk,e2]),zD h.eOwn fun k _ _ hk=>e k fun e2=>n6 (by rw[hk,e2]),h.fr,h.nH,h.keep.trans (zN _ _ _ _ hH)⟩
theorem Nw.setFollow {g cap p x:Nat}(h:Nw w0 w nb n sv (.slice (some ⟨g,0,none⟩) n.follow.length cap) rv ev ps)(hp:p<n.follow.length):Nw w0 (w.setCell ⟨g,p,none⟩ (.int .i64 (x:Int))) nb {n with follow:=n.follow.set p x} sv (.slice (some ⟨g,0,none⟩) n.follow.length cap) rv ev ps∧StayS w (w.setCell ⟨g,p,none⟩ (.int .i64 (x:Int))):=by
 have e:∀k,k≠g->(w.setCell ⟨g,p,none⟩ (.int .i64 (x:Int))).heap[k]? =w.heap[k]? :=fun k hk=>lJ _ _ _ _ hk;have hgH:=(h.fOwn.lt g rfl).1;have hn:=h.box.2.1;have hrow:Row w w0.heap.size 3 (.slice (some ⟨g,0,none⟩) n.follow.length cap) n.follow.length fun i=>.int .i64 ((ints n.follow).getD i 0):=by
  have:=h.fOwn.rowOf;rw[zM] at this;exact this
 have hf2:OwnI (w.setCell ⟨g,p,none⟩ (.int .i64 (x:Int))) w0.heap.size (.slice (some ⟨g,0,none⟩) n.follow.length cap) (ints (n.follow.set p x)):=by
  refine Row.ownI ?_;rw[zM,List.length_set];refine Row.congr (hrow.set p (.int .i64 (x:Int))) fun i hi=>?_;have e0:(n.follow.set p x).getD i 0=if i=p then x else n.follow.getD i 0:=by
   rw[lW,List.getElem?_set];by_cases e1:i=p
   ·subst e1;rw[if_pos rfl,if_pos rfl,if_pos hp];rfl
   ·rw[if_neg e1,if_neg (Ne.symm e1),<-lW]
  rw[vB,vB,e0];split <;> rfl
 have hb1:∀{v:Value} {ee z m:Nat} {xs:List Value},w.ownsRow w0.heap.size ee z v m xs->3≠ee->some g≠v.ownBlock:=fun{v} {ee} {z} {m} {xs} hv he e2=>xM h.fOwn hv he (g:=g) rfl e2;refine⟨⟨(e nb fun e2=>hn (by rw[e2];rfl)).trans h.blk,zD h.sOwn fun k _ _ hk=>e k fun e2=>hb1 h.sOwn (by decide) (by rw[hk,e2]),h.plen,h.each,hf2,zD h.rOwn fun k _ _ hk=>e k fun e2=>h.fr g rfl (by rw[hk,e2]),zD h.eOwn fun k _ _ hk=>e k fun e2=>hb1 h.eOwn (by decide) (by rw[hk,e2]),h.fr,h.nH,h.keep.trans (zN _ _ _ _ hgH)⟩,fun k c hk=>(e k fun e2=>?_).trans hk⟩;exact zL h.fOwn hk (by decide) (by rw[e2];rfl)
end
end
def Nt.linkTo (n:Nt)(from_ to:Nat):Nat->Nt
 |0=>n
 |j+1=>if from_.testBit j then{n.linkTo from_ to j with follow:=(n.linkTo from_ to j).follow.set j ((n.linkTo from_ to j).follow.getD j 0|||to)} else n.linkTo from_ to j
def Nt.link (n:Nt)(from_ to:Nat):Nt:=n.linkTo from_ to n.follow.length
theorem zFc (n:Nt)(a b j:Nat):(n.linkTo a b j).follow.length=n.follow.length:=by
 induction j with
 |zero=>rfl
 |succ j ih=>
  unfold Nt.linkTo;split
  ·show(List.set _ _ _).length=_;rw[List.length_set,ih]
  ·exact ih
theorem zMv {α:Type}{l:List α}{i:Nat}{x y:α}(h:y∈l.set i x):y=x∨y∈l:=by
 rcases List.mem_or_eq_of_mem_set h with h1|h1
 ·exact .inr h1
 ·exact .inl h1
theorem zDf {n:Nt}{B:Nat}(a b j:Nat)(hb:b<2^B)(h:∀x∈n.follow,x<2^B):∀x∈(n.linkTo a b j).follow,x<2^B:=by
 induction j with
 |zero=>exact h
 |succ j ih=>
  unfold Nt.linkTo;split
  ·intro x hx
   rcases zMv hx with h1|h1
   ·subst h1
    refine Nat.or_lt_two_pow ?_ hb;by_cases hj:j<(n.linkTo a b j).follow.length
    ·exact ih _ (zR _ _ 0 hj)
    ·rw[lW,List.getElem?_eq_none (by omega)];exact Nat.pow_pos (by omega)
   ·exact ih x h1
  ·exact ih
theorem zFb (w0 w:World)(nb:Nat)(n:Nt)(h:NwIs w0 w nb n)(hl:n.follow.length<=24)(hf:∀x∈n.follow,x<2^24)(a b:Nat)(ha:a<16777216)(hb:b<2^24):
  Calls prog 166 #[.pointer (some ⟨nb,0,none⟩),.int .i64 (a:Int),.int .i64 (b:Int)] w fun e w'=>e=.returned (.tuple #[])∧NwIs w0 w' nb (n.link a b)∧StayS w w':=by
 have hb2:b<16777216:=hb;obtain⟨LT,hLT⟩:∃LT,LT=n.linkTo a b:=⟨_,rfl⟩
 have HL:Hid (LT 0=n∧(∀j,a.testBit j=true->LT (j+1)={LT j with follow:=(LT j).follow.set j ((LT j).follow.getD j 0|||b)})∧(∀j,a.testBit j=false->LT (j+1)=LT j)∧(∀j,(LT j).follow.length=n.follow.length∧∀x∈(LT j).follow,x<16777216)∧LT n.follow.length=n.link a b):=by
  rw[hLT];refine⟨rfl,fun j h=>?_,fun j h=>?_,fun j=>⟨zFc n a b j,zDf a b j hb hf⟩,rfl⟩
  ·show(if a.testBit j=true then _ else _)=_;rw[if_pos h]
  ·show(if a.testBit j=true then _ else _)=_;rw[if_neg (by rw[h];decide)]
 have HN:Hid (∀wr m,NwIs w0 wr nb m->∃fa cap,wr.cell? ⟨nb,1,none⟩=some (.slice fa m.follow.length cap)∧∀p,p<m.follow.length->∃g,fa=some ⟨g,0,none⟩∧wr.cell? ⟨g,p,none⟩=some (.int .i64 ((m.follow.getD p 0:Nat):Int))∧wr.frozen? ⟨g,p,none⟩=false∧∀x:Nat,NwIs w0 (wr.setCell ⟨g,p,none⟩ (.int .i64 (x:Int))) nb {m with follow:=m.follow.set p x}∧StayS wr (wr.setCell ⟨g,p,none⟩ (.int .i64 (x:Int)))):=by
  rintro wr m ⟨sv,fv,rv,ev,ps,hM⟩;obtain⟨fa,cap,hfv⟩:=hM.fOwn.form;rw[zM] at hfv;subst hfv;refine⟨fa,cap,hM.cells.2.1,fun p hp=>?_⟩;obtain⟨g,rfl⟩:=hM.fOwn.some (by rw[zM];omega);have hc:=hM.fOwn.cell p (by rw[zM];exact hp);rw[vB] at hc;refine⟨g,rfl,hc,?_,fun x=>?_⟩
  ·obtain⟨g2,c2,hv,_,_,_,_,_,hz⟩:=hM.fOwn.rowOf.get (by rw[zM];omega)
   injection hv with e1 _ _;injection e1 with e1;injection e1 with e1;rw[e1];exact hz p
  ·have:=hM.setFollow (x:=x) hp
   exact⟨⟨_,_,_,_,_,this.1⟩,this.2⟩
 have HH:=vl h;obtain⟨fa0,cap0,y1,-⟩:=HN.out w n h;generalize n.link a b=NE at *;clear hLT h hf;generalize hln:n.follow.length=L at *;clear hln;go_in;go_wp2;clear y1;go_loopg [12] L (fun q i wr=>∃j:Nat,q=L-j∧j<=L∧i=.int .i64 (j:Int)∧NwIs w0 wr nb (LT j)∧StayS w wr)
 case atStart=>exact⟨0,rfl,lX,rfl,by rw[HL.out.1];exact HH.out,StayS.refl _⟩
 case round=>
  obtain⟨j,hgk,hj,rfl,hM,hS⟩:=hrel;have HB:Hid (gk=L-j∧NwIs w0 wr nb (LT j)∧StayS w wr):=⟨hgk,hM,hS⟩
  by_cases hj2:j<L
  ·have i1:(j:Int)<(L:Int):=by omega
   obtain⟨hlen,hsm⟩:=HL.out.2.2.2.1 j;have hbit:=zJ0 a j (by omega);cases htb:a.testBit j with
   |false=>
    rw[htb] at hbit;have HE:=vl <| HL.out.2.2.1 j htb;clear hgk hM hS hlen hsm htb;go_wp2;go_roundg (L-(j+1))
    case measure=>rw[HB.out.1];omega
    case rel=>exact⟨j+1,rfl,by omega,by go_num,by rw[HE.out];exact HB.out.2.1,HB.out.2.2⟩
   |true=>
    rw[htb] at hbit;have HE:=vl <| HL.out.2.1 j htb;obtain⟨fa,cap,z1,hzc⟩:=HN.out wr (LT j) hM;obtain⟨g,rfl,z2,z3,hset⟩:=hzc j (by omega);have HSET:Hid (NwIs w0 (wr.setCell ⟨g,j,none⟩ (.int .i64 (((LT j).follow.getD j 0|||b:Nat):Int))) nb {LT j with follow:=(LT j).follow.set j ((LT j).follow.getD j 0|||b)}∧StayS wr (wr.setCell ⟨g,j,none⟩ (.int .i64 (((LT j).follow.getD j 0|||b:Nat):Int)))):=hset _;have hxl:=hsm _ (zR (LT j).follow j 0 (by omega));have HOR:Hid (bits .or .i64 (((LT j).follow.getD j 0:Nat):Int) (b:Int)=(((LT j).follow.getD j 0|||b:Nat):Int)):=yK _ _ (by omega) (by omega);rw[hlen] at z1;clear hgk hM hS hlen hsm htb hzc hset;rw[<-HE.out,<-HOR.out] at HSET;generalize (LT j).follow.getD j 0=x at *;go_wp2;go_roundg (L-(j+1))
    case measure=>rw[HB.out.1];omega
    case rel=>exact⟨j+1,rfl,by omega,by go_num,HSET.out.1,HB.out.2.2.trans HSET.out.2⟩
  ·have i1:(L:Int)<=(j:Int):=by omega
   have e:j=L:=by omega
   subst e;have HE:Hid (NwIs w0 wr nb NE∧StayS w wr):=⟨by rw[<-HL.out.2.2.2.2];exact hM,hS⟩
   clear hgk hM hS;go_wp2;go_end0;exact⟨rfl,HE.out.1,HE.out.2⟩
section
structure Sn where
 first:Nat
 last:Nat
 empty:Bool
def Sn.val (s:Sn):Value:=.agg #[.int .i64 (s.first:Int),.int .i64 (s.last:Int),.bool s.empty]
def Sn.cells (s:Sn):Array Value:=#[.int .i64 (s.first:Int),.int .i64 (s.last:Int),.bool s.empty]
def Sn.then (a b:Sn):Sn:=⟨if a.empty then a.first|||b.first else a.first,if b.empty then b.last|||a.last else b.last,a.empty&&b.empty⟩
structure Sn.Small (s:Sn)(k:Nat):Prop where
 first:s.first<2^k
 last:s.last<2^k
theorem Sn.then_small {a b:Sn}{k:Nat}(ha:a.Small k)(hb:b.Small k):(a.then b).Small k:=by
 constructor
 ·show(if _ then _ else _)<_
  split
  ·exact Nat.or_lt_two_pow ha.first hb.first
  ·exact ha.first
 ·show(if _ then _ else _)<_
  split
  ·exact Nat.or_lt_two_pow hb.last ha.last
  ·exact hb.last
theorem NwIs.grown {w0 w w2:World}{nb:Nat}{n:Nt}(h:NwIs w0 w nb n)(hk:Grew w w2):NwIs w0 w2 nb n:=by
 obtain⟨sv,fv,rv,ev,ps,h⟩:=h;exact⟨sv,fv,rv,ev,ps,h.grown hk⟩
structure Three (w0 w wr:World)(nb:Nat)(n:Nt)(a b c:Sn):Prop where
 net:NwIs w0 wr nb n
 a1:wr.heap[w.heap.size]? =some (.cells a.cells 167)
 b1:wr.heap[w.heap.size+1]? =some (.cells b.cells 167)
 c1:wr.heap[w.heap.size+1+1]? =some (.cells c.cells 167)
 stay:StayS w wr
 old:w0.heap.size<=w.heap.size
section
variable {w0 w wr w2:World} {nb:Nat} {n:Nt} {a b c:Sn}
theorem Three.at (h:Three w0 w wr nb n a b c):wr.cell? ⟨w.heap.size,0,none⟩=some (.int .i64 (a.first:Int))∧wr.cell? ⟨w.heap.size,1,none⟩=some (.int .i64 (a.last:Int))∧wr.cell? ⟨w.heap.size,2,none⟩=some (.bool a.empty)∧wr.cell? ⟨w.heap.size+1,0,none⟩=some (.int .i64 (b.first:Int))∧wr.cell? ⟨w.heap.size+1,1,none⟩=some (.int .i64 (b.last:Int))∧wr.cell? ⟨w.heap.size+1,2,none⟩=some (.bool b.empty)∧wr.cell? ⟨w.heap.size+1+1,0,none⟩=some (.int .i64 (c.first:Int))∧wr.cell? ⟨w.heap.size+1+1,1,none⟩=some (.int .i64 (c.last:Int))∧wr.cell? ⟨w.heap.size+1+1,2,none⟩=some (.bool c.empty):=by
 refine⟨?_,?_,?_,?_,?_,?_,?_,?_,?_⟩
 all_goals first|(unfold cell?;rw[h.a1];rfl)|(unfold cell?;rw[h.b1];rfl)|(unfold cell?;rw[h.c1];rfl)
theorem Three.fz (h:Three w0 w wr nb n a b c)(i:Nat):wr.frozen? ⟨w.heap.size,i,none⟩=false∧wr.frozen? ⟨w.heap.size+1,i,none⟩=false∧wr.frozen? ⟨w.heap.size+1+1,i,none⟩=false:=by
 refine⟨?_,?_,?_⟩
 ·unfold frozen?;rw[h.a1];simp
 ·unfold frozen?;rw[h.b1];simp
 ·unfold frozen?;rw[h.c1];simp
theorem NwIs.setSpan {b i:Nat}{x:Value}{c:Array Value}(h:NwIs w0 w nb n)(hb:w.heap[b]? =some (.cells c 167))(hH:w0.heap.size<=b):NwIs w0 (w.setCell ⟨b,i,none⟩ x) nb n:=by
 obtain⟨sv,fv,rv,ev,ps,h⟩:=h;exact⟨sv,fv,rv,ev,ps,h.setSpan hb hH⟩
theorem jH {b i:Nat}{x:Value}(h:StayS w wr)(hb:w.heap.size<=b):StayS w (wr.setCell ⟨b,i,none⟩ x):=fun k c hk=>by
 have hl:=(kQ.1 hk).1;exact(lJ _ _ _ _ (by show k≠b;omega)).trans (h k c hk)
theorem Three.setA (h:Three w0 w wr nb n a b c)(x:Nat):Three w0 w (wr.setCell ⟨w.heap.size,0,none⟩ (.int .i64 (x:Int))) nb n {a with first:=x} b c:=by
 have e:∀k,k≠w.heap.size->(wr.setCell ⟨w.heap.size,0,none⟩ (.int .i64 (x:Int))).heap[k]? =wr.heap[k]? :=fun k hk=>lJ _ _ _ _ hk;exact⟨h.net.setSpan h.a1 h.old,by simp[setCell,lU,h.a1,Sn.cells],(e _ (by omega)).trans h.b1,(e _ (by omega)).trans h.c1,jH h.stay lQ,h.old⟩
theorem Three.setB (h:Three w0 w wr nb n a b c)(x:Nat):Three w0 w (wr.setCell ⟨w.heap.size+1,1,none⟩ (.int .i64 (x:Int))) nb n a {b with last:=x} c:=by
 have e:∀k,k≠w.heap.size+1->(wr.setCell ⟨w.heap.size+1,1,none⟩ (.int .i64 (x:Int))).heap[k]? =wr.heap[k]? :=fun k hk=>lJ _ _ _ _ hk;have:=h.old;exact⟨h.net.setSpan h.b1 (by omega),(e _ (by omega)).trans h.a1,by simp[setCell,lU,h.b1,Sn.cells],(e _ (by omega)).trans h.c1,jH h.stay (by omega),h.old⟩
theorem Three.setC (h:Three w0 w wr nb n a b c)(s:Sn):Three w0 w (((wr.setCell ⟨w.heap.size+1+1,0,none⟩ (.int .i64 (s.first:Int))).setCell ⟨w.heap.size+1+1,1,none⟩ (.int .i64 (s.last:Int))).setCell ⟨w.heap.size+1+1,2,none⟩ (.bool s.empty)) nb n a b s:=by
 have e:∀(wq:World) (i k:Nat) (x:Value),k≠w.heap.size+1+1->(wq.setCell ⟨w.heap.size+1+1,i,none⟩ x).heap[k]? =wq.heap[k]? :=fun wq i k x hk=>lJ _ _ _ _ hk;have ho:=h.old;have c2:(wr.setCell ⟨w.heap.size+1+1,0,none⟩ (.int .i64 (s.first:Int))).heap[w.heap.size+1+1]? =some (.cells #[.int .i64 (s.first:Int),.int .i64 (c.last:Int),.bool c.empty] 167):=by simp[setCell,lU,h.c1,Sn.cells]
 have c3:((wr.setCell ⟨w.heap.size+1+1,0,none⟩ (.int .i64 (s.first:Int))).setCell ⟨w.heap.size+1+1,1,none⟩ (.int .i64 (s.last:Int))).heap[w.heap.size+1+1]? =some (.cells #[.int .i64 (s.first:Int),.int .i64 (s.last:Int),.bool c.empty] 167):=by
  generalize hq:wr.setCell ⟨w.heap.size+1+1,0,none⟩ (.int .i64 (s.first:Int))=wq at *;simp[setCell,lU,c2]
 refine⟨((h.net.setSpan h.c1 (by omega)).setSpan c2 (by omega)).setSpan c3 (by omega),(e _ _ _ _ (by omega)).trans ((e _ _ _ _ (by omega)).trans ((e _ _ _ _ (by omega)).trans h.a1)),(e _ _ _ _ (by omega)).trans ((e _ _ _ _ (by omega)).trans ((e _ _ _ _ (by omega)).trans h.b1)),?_,jH (jH (jH h.stay (by omega)) (by omega)) (by omega),h.old⟩;generalize hq:(wr.setCell ⟨w.heap.size+1+1,0,none⟩ (.int .i64 (s.first:Int))).setCell ⟨w.heap.size+1+1,1,none⟩ (.int .i64 (s.last:Int))=wq at *;simp[setCell,lU,c3,Sn.cells]
theorem Three.start (h:NwIs w0 w nb n)(hw:w0.heap.size<=w.heap.size)(a b:Sn):Three w0 w (((w.alloc (.cells a.cells 167)).alloc (.cells b.cells 167)).alloc (.cells (Sn.mk 0 0 false).cells 167)) nb n a b ⟨0,0,false⟩:=by
 have s1:(w.alloc (.cells a.cells 167)).heap.size=w.heap.size+1:=by simp
 have s2:((w.alloc (.cells a.cells 167)).alloc (.cells b.cells 167)).heap.size=w.heap.size+1+1:=by simp
 have k1:=kZ (b:=w.heap.size) w (.cells a.cells 167) lQ;have k2:=kZ (b:=(w.alloc (.cells a.cells 167)).heap.size) (w.alloc (.cells a.cells 167)) (.cells b.cells 167) lQ;have k3:=kZ (b:=((w.alloc (.cells a.cells 167)).alloc (.cells b.cells 167)).heap.size) ((w.alloc (.cells a.cells 167)).alloc (.cells b.cells 167)) (.cells (Sn.mk 0 0 false).cells 167) lQ;refine⟨((h.grown k1).grown k2).grown k3,?_,?_,?_,(k1.stayS.trans k2.stayS).trans k3.stayS,hw⟩
 ·exact(lG _ _ _ (by rw[s2];omega)).trans ((lG _ _ _ (by rw[s1];omega)).trans (gG _ _))
 ·refine(lG _ _ _ (by rw[s2];omega)).trans ?_
  have:=gG (w.alloc (.cells a.cells 167)) (.cells b.cells 167);rw[s1] at this;exact this
 ·have:=gG ((w.alloc (.cells a.cells 167)).alloc (.cells b.cells 167)) (.cells (Sn.mk 0 0 false).cells 167)
  rw[s2] at this;exact this
theorem Three.call {n2:Nt}(h:Three w0 w wr nb n a b c)(hn:NwIs w0 w2 nb n2)(hs:StayS wr w2):Three w0 w w2 nb n2 a b c:=⟨hn,hs _ _ h.a1,hs _ _ h.b1,hs _ _ h.c1,h.stay.trans hs,h.old⟩
end
end
theorem zCD (w0 w:World)(nb:Nat)(n:Nt)(h:NwIs w0 w nb n)(hl:n.follow.length<=24)(hf:∀x∈n.follow,x<2^24)(a b:Sn)(ha:a.Small 24)(hb:b.Small 24):
  Calls prog 164 #[.pointer (some ⟨nb,0,none⟩),a.val,b.val] w fun e w'=>e=.returned (a.then b).val∧NwIs w0 w' nb (n.link a.last b.first)∧StayS w w':=by
 have hw:w0.heap.size<=w.heap.size:=by obtain⟨_,_,_,_,_,h⟩:=h;exact h.keep.size
 have HLK:Hid (∀w2,NwIs w0 w2 nb n->Calls prog 166 #[.pointer (some ⟨nb,0,none⟩),.int .i64 (a.last:Int),.int .i64 (b.first:Int)] w2 fun e w'=>e=.returned (.tuple #[])∧NwIs w0 w' nb (n.link a.last b.first)∧StayS w2 w'):=fun w2 h2=>zFb w0 w2 nb n h2 hl hf a.last b.first ha.last hb.first
 obtain⟨w3,hw3,HT⟩:∃w3,w3=((w.alloc (.cells a.cells 167)).alloc (.cells b.cells 167)).alloc (.cells (Sn.mk 0 0 false).cells 167)∧Three w0 w w3 nb n a b ⟨0,0,false⟩:=⟨_,rfl,Three.start h hw a b⟩
 have l1:a.first<16777216:=ha.first
 have l2:a.last<16777216:=ha.last;have l3:b.first<16777216:=hb.first
 have l4:b.last<16777216:=hb.last;obtain⟨af,al,ae⟩:=a;obtain⟨bf,bl,be⟩:=b;have l1':af<16777216:=l1;have l2':al<16777216:=l2;have l3':bf<16777216:=l3;have l4':bl<16777216:=l4;have hor1:bits .or .i64 (af:Int) (bf:Int)=((af|||bf:Nat):Int):=yK _ _ (by omega) (by omega);have hor2:bits .or .i64 (bl:Int) (al:Int)=((bl|||al:Nat):Int):=yK _ _ (by omega) (by omega);obtain⟨y0,y1,y2,y3,y4,y5,y6,y7,y8⟩:=HT.at
 show Calls prog 164 #[.pointer (some ⟨nb,0,none⟩),.agg #[.int .i64 (af:Int),.int .i64 (al:Int),.bool ae],.agg #[.int .i64 (bf:Int),.int .i64 (bl:Int),.bool be]] w _;go_in;apply wp_cut;intro K0 J;go_wp2;apply J.out;clear J;have hw4:w3=((w.alloc (Obj.cells #[.int .i64 (af:Int),.int .i64 (al:Int),.bool ae] 167)).alloc (Obj.cells #[.int .i64 (bf:Int),.int .i64 (bl:Int),.bool be] 167)).alloc (Obj.cells #[.int .i64 0,.int .i64 0,.bool false] 167):=hw3;rw[<-hw4];clear hw3 hw4;rcases ae with _|_ <;> rcases be with _|_
 ·have HT3:=vl HT
  clear HT;go_wp2_with (first|(go_at_call 166;refine(HLK.out w3 HT3.out.net).mono ?_;rintro e w4 ⟨rfl,hM5,hS5⟩;have T4:=HT3.out.call hM5 hS5;obtain⟨p0,p1,p2,p3,p4,p5,p6,p7,p8⟩:=T4.at;obtain⟨f0,f1,f2⟩:=T4.fz 0;obtain⟨f3,f4,f5⟩:=T4.fz 1;obtain⟨f6,f7,f8⟩:=T4.fz 2;have T7:=T4.setC ⟨af,bl,false⟩;obtain⟨z0,z1,z2,z3,z4,z5,z6,z7,z8⟩:=T7.at))
  refine bodyPost_ret (v:=.agg #[.int .i64 ((af:Nat):Int),.int .i64 ((bl:Nat):Int),.bool false]) (by simp[results,results164,go_sem,z6,z7,z8]) rfl ?_;exact⟨rfl,T7.net,T7.stay⟩
 ·have HT3:=vl HT
  clear HT;go_wp2_with (first|(go_at_call 166;refine(HLK.out w3 HT3.out.net).mono ?_;rintro e w4 ⟨rfl,hM5,hS5⟩;have T4:=HT3.out.call hM5 hS5;obtain⟨p0,p1,p2,p3,p4,p5,p6,p7,p8⟩:=T4.at;obtain⟨f0,f1,f2⟩:=T4.fz 0;obtain⟨f3,f4,f5⟩:=T4.fz 1;obtain⟨f6,f7,f8⟩:=T4.fz 2;have T6:=T4.setB (bl|||al);obtain⟨v0,v1,v2,v3,v4,v5,v6,v7,v8⟩:=T6.at;obtain⟨h0,h1,h2⟩:=T6.fz 0;obtain⟨h3,h4,h5⟩:=T6.fz 1;obtain⟨h6,h7,h8⟩:=T6.fz 2;have T7:=T6.setC ⟨af,bl|||al,false⟩;obtain⟨z0,z1,z2,z3,z4,z5,z6,z7,z8⟩:=T7.at))
  refine bodyPost_ret (v:=.agg #[.int .i64 ((af:Nat):Int),.int .i64 ((bl|||al:Nat):Int),.bool false]) (by simp[results,results164,go_sem,z6,z7,z8]) rfl ?_;exact⟨rfl,T7.net,T7.stay⟩
 ·have HT3:=vl HT
  clear HT;go_wp2_with (first|(go_at_call 166;refine(HLK.out w3 HT3.out.net).mono ?_;rintro e w4 ⟨rfl,hM5,hS5⟩;have T4:=HT3.out.call hM5 hS5;obtain⟨p0,p1,p2,p3,p4,p5,p6,p7,p8⟩:=T4.at;obtain⟨f0,f1,f2⟩:=T4.fz 0;obtain⟨f3,f4,f5⟩:=T4.fz 1;obtain⟨f6,f7,f8⟩:=T4.fz 2;have T5:=T4.setA (af|||bf);obtain⟨s0,s1,s2,s3,s4,s5,s6,s7,s8⟩:=T5.at;obtain⟨g0,g1,g2⟩:=T5.fz 0;obtain⟨g3,g4,g5⟩:=T5.fz 1;obtain⟨g6,g7,g8⟩:=T5.fz 2;have T7:=T5.setC ⟨af|||bf,bl,false⟩;obtain⟨z0,z1,z2,z3,z4,z5,z6,z7,z8⟩:=T7.at))
  refine bodyPost_ret (v:=.agg #[.int .i64 ((af|||bf:Nat):Int),.int .i64 ((bl:Nat):Int),.bool false]) (by simp[results,results164,go_sem,z6,z7,z8]) rfl ?_;exact⟨rfl,T7.net,T7.stay⟩
 ·have HT3:=vl HT
  clear HT;go_wp2_with (first|(go_at_call 166;refine(HLK.out w3 HT3.out.net).mono ?_;rintro e w4 ⟨rfl,hM5,hS5⟩;have T4:=HT3.out.call hM5 hS5;obtain⟨p0,p1,p2,p3,p4,p5,p6,p7,p8⟩:=T4.at;obtain⟨f0,f1,f2⟩:=T4.fz 0;obtain⟨f3,f4,f5⟩:=T4.fz 1;obtain⟨f6,f7,f8⟩:=T4.fz 2;have T5:=T4.setA (af|||bf);obtain⟨s0,s1,s2,s3,s4,s5,s6,s7,s8⟩:=T5.at;obtain⟨g0,g1,g2⟩:=T5.fz 0;obtain⟨g3,g4,g5⟩:=T5.fz 1;obtain⟨g6,g7,g8⟩:=T5.fz 2;have T6:=T5.setB (bl|||al);obtain⟨v0,v1,v2,v3,v4,v5,v6,v7,v8⟩:=T6.at;obtain⟨h0,h1,h2⟩:=T6.fz 0;obtain⟨h3,h4,h5⟩:=T6.fz 1;obtain⟨h6,h7,h8⟩:=T6.fz 2;have T7:=T6.setC ⟨af|||bf,bl|||al,true⟩;obtain⟨z0,z1,z2,z3,z4,z5,z6,z7,z8⟩:=T7.at))
  refine bodyPost_ret (v:=.agg #[.int .i64 ((af|||bf:Nat):Int),.int .i64 ((bl|||al:Nat):Int),.bool true]) (by simp[results,results164,go_sem,z6,z7,z8]) rfl ?_;exact⟨rfl,T7.net,T7.stay⟩
section
attribute [local go_sem ↓] Go.wp_at_zero Go.wp_at_succ
theorem zMD:(prog.info? 161).map (fun i=>(i.zero,i.size,i.bytes))=some (some (.agg #[.slice none 0 0,.bool false]),2,32):=by kernel_rfl
section
variable {w0 w w2:World} {nb:Nat} {n:Nt} {sv fv rv ev:Value} {ps:List (Value×Bool)}
theorem Nw.addSet {o:Obj}{g cap m:Nat}{u:Value}{c:Cs}(h:Nw w0 w nb n sv fv rv ev ps)(hm:m=n.sets.length)(hc:RangesAt w0 u c.ranges)(hown:w2.ownsRow w0.heap.size 161 2 (.slice (some ⟨g,0,none⟩) (m+1) cap) (m+1) (vS ps++[u,.bool c.others]))(hg:(w.alloc o).grownBy w2 sv.ownBlock)(hat:sv.ownBlock=some g∨w.heap.size<=g):
  Nw w0 (w2.setCell ⟨nb,0,none⟩ (.slice (some ⟨g,0,none⟩) (m+1) cap)) nb {n with sets:=n.sets++[c]} (.slice (some ⟨g,0,none⟩) (m+1) cap) fv rv ev (ps++[(u,c.others)])∧StayS w (w2.setCell ⟨nb,0,none⟩ (.slice (some ⟨g,0,none⟩) (m+1) cap)):=by
 subst hm;have hbx:=h.box;have hlt:=h.lt;have hbl:∀j,j<w.heap.size->some j≠sv.ownBlock->w2.heap[j]? =w.heap[j]? :=fun j hj hf=>(hg.block j (by simp;omega) hf).trans (lG _ _ _ (by omega));have hsz:w.heap.size<=w2.heap.size:=lY (by simp) hg.size;have hb:=(hbl nb hlt hbx.1).trans h.blk;have e:∀k,k≠nb->(w2.setCell ⟨nb,0,none⟩ (.slice (some ⟨g,0,none⟩) (n.sets.length+1) cap)).heap[k]? =w2.heap[k]? :=fun k hk=>lJ _ _ _ _ hk;have hf2:=zP hg h.fOwn fun k hk=>xM h.fOwn h.sOwn (by decide) hk;have hr2:=zP hg h.rOwn fun k hk=>xM h.rOwn h.sOwn (by decide) hk;have he2:=zP hg h.eOwn fun k hk=>xM h.eOwn h.sOwn (by decide) hk;have hgm:nb≠g:=fun e2=>by
  rcases hat with ha|ha
  ·exact hbx.1 (by rw[ha,e2])
  ·omega
 have hpl:=h.plen;have hlen:(n.sets++[c]).length=n.sets.length+1:=by simp
 refine⟨⟨by simp[setCell,lU,hb],?_,by simp[hpl],fun i hi=>?_,zD hf2 fun k _ _ hk=>e k fun e2=>hbx.2.1 (by rw[hk,e2]),zD hr2 fun k _ _ hk=>e k fun e2=>hbx.2.2.1 (by rw[hk,e2]),zD he2 fun k _ _ hk=>e k fun e2=>hbx.2.2.2 (by rw[hk,e2]),h.fr,h.nH,h.keep.trans ⟨hg.os,hg.output,by rw[zC];exact hsz,fun k hk _=>(e k (by have:=h.nH;omega)).trans (hbl k (by have:=h.keep.size;omega) fun e2=>by have:=(h.sOwn.lt k e2.symm).1;omega)⟩⟩,fun k cc hk=>?_⟩
 ·show World.ownsRow _ _ _ _ _ (n.sets++[c]).length (vS (ps++[(u,c.others)]))
  rw[hlen,zGF];exact zD hown fun k _ _ hk=>e k fun e2=>by
   have:g=k:=by simpa[Value.ownBlock] using hk
   omega
 ·have hi':i<(n.sets++[c]).length:=hi
  show RangesAt w0 ((ps++[(u,c.others)]).getD i (undef,false)).1 ((n.sets++[c]).getD i ⟨[],false⟩).ranges∧((ps++[(u,c.others)]).getD i (undef,false)).2=((n.sets++[c]).getD i ⟨[],false⟩).others;by_cases e3:i=n.sets.length
  ·rw[lW,gX (by omega),show i-ps.length=0 by omega,lW,gX (by omega),show i-n.sets.length=0 by omega]
   exact⟨hc,rfl⟩
  ·rw[lW,kW (by omega),lW,kW (by omega),<-lW,<-lW]
   exact h.each i (by omega)
 ·have hl:=(kQ.1 hk).1
  have hkm:k≠nb:=fun e2=>by
   rw[e2,h.blk] at hk;injection hk with hk;injection hk with _ hk;exact absurd hk (by decide)
  exact(e k hkm).trans ((hbl k hl (zL h.sOwn hk (by decide))).trans hk)
theorem Nw.addFollow {o:Obj}{g cap m x:Nat}(h:Nw w0 w nb n sv fv rv ev ps)(hm:m=n.follow.length)(hown:w2.ownsRow w0.heap.size 3 1 (.slice (some ⟨g,0,none⟩) (m+1) cap) (m+1) (((ints n.follow).map fun x=>.int .i64 x)++[.int .i64 (x:Int)]))(hg:(w.alloc o).grownBy w2 fv.ownBlock)(hat:fv.ownBlock=some g∨w.heap.size<=g):
  Nw w0 (w2.setCell ⟨nb,1,none⟩ (.slice (some ⟨g,0,none⟩) (m+1) cap)) nb {n with follow:=n.follow++[x]} sv (.slice (some ⟨g,0,none⟩) (m+1) cap) rv ev ps∧StayS w (w2.setCell ⟨nb,1,none⟩ (.slice (some ⟨g,0,none⟩) (m+1) cap)):=by
 subst hm;have hbx:=h.box;have hlt:=h.lt;have hbl:∀j,j<w.heap.size->some j≠fv.ownBlock->w2.heap[j]? =w.heap[j]? :=fun j hj hf=>(hg.block j (by simp;omega) hf).trans (lG _ _ _ (by omega));have hsz:w.heap.size<=w2.heap.size:=lY (by simp) hg.size;have hb:=(hbl nb hlt hbx.2.1).trans h.blk;have e:∀k,k≠nb->(w2.setCell ⟨nb,1,none⟩ (.slice (some ⟨g,0,none⟩) (n.follow.length+1) cap)).heap[k]? =w2.heap[k]? :=fun k hk=>lJ _ _ _ _ hk;have hs2:=zP hg h.sOwn fun k hk=>xM h.sOwn h.fOwn (by decide) hk;have hr2:=zP hg h.rOwn fun k hk e2=>h.fr k e2.symm hk.symm;have he2:=zP hg h.eOwn fun k hk=>xM h.eOwn h.fOwn (by decide) hk;have hgm:nb≠g:=fun e2=>by
  rcases hat with ha|ha
  ·exact hbx.2.1 (by rw[ha,e2])
  ·omega
 have hO1:OwnI w2 w0.heap.size (.slice (some ⟨g,0,none⟩) (n.follow.length+1) cap) (ints (n.follow++[x])):=by
  rw[zA9];have:=zM n.follow;have h2:=OwnI.snoc (l:=ints n.follow) (x:=(x:Int)) (by rw[this];exact hown);rw[this] at h2;exact h2
 refine⟨⟨by simp[setCell,lU,hb],zD hs2 fun k _ _ hk=>e k fun e2=>hbx.1 (by rw[hk,e2]),h.plen,h.each,zD hO1 fun k _ _ hk=>e k fun e2=>?_,zD hr2 fun k _ _ hk=>e k fun e2=>hbx.2.2.1 (by rw[hk,e2]),zD he2 fun k _ _ hk=>e k fun e2=>hbx.2.2.2 (by rw[hk,e2]),yV h.rOwn h.fr hat,h.nH,h.keep.trans ⟨hg.os,hg.output,by rw[zC];exact hsz,fun k hk _=>(e k (by have:=h.nH;omega)).trans (hbl k (by have:=h.keep.size;omega) fun e2=>by have:=(h.fOwn.lt k e2.symm).1;omega)⟩⟩,fun k cc hk=>?_⟩
 ·have:g=k:=by simpa[Value.ownBlock] using hk
  omega
 ·have hl:=(kQ.1 hk).1
  have hkm:k≠nb:=fun e2=>by
   rw[e2,h.blk] at hk;injection hk with hk;injection hk with _ hk;exact absurd hk (by decide)
  exact(e k hkm).trans ((hbl k hl (zL h.fOwn hk (by decide))).trans hk)
end
def Nt.place (n:Nt)(c:Cs):Nt:={n with sets:=n.sets++[c],follow:=n.follow++[0]}
def Nt.spot (n:Nt):Sn:=⟨2^n.sets.length,2^n.sets.length,false⟩
end
end Go.Proofs.YtbjcfkdnjaiclaaGreat
