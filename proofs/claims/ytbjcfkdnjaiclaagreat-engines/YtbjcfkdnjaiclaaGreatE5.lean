import Derived.ChangeKeysEq
import Derived.Deep.DrawnRows
import Derived.Deep.MidRow
import Derived.Deep.RegionLaw
import Derived.Test.YtbjcfkdnjaiclaaGreatE0
import Derived.Test.YtbjcfkdnjaiclaaGreatE4
/- Parts of the proof. -/
set_option linter.unusedVariables false
set_option linter.unusedSimpArgs false
set_option maxHeartbeats 4000000
set_option maxRecDepth 100000
namespace Go.Proofs.YtbjcfkdnjaiclaaGreat
open Go.RowKit Go.Proofs.Tryz Go.World
open Go.Value (int slice bool pointer string agg tuple)
open Go.IntKind (i64)
open Go.Ending (returned)
section
attribute [local go_sem ↓] Go.wp_at_zero Go.wp_at_succ
theorem zI2 (w:World)(q:Nat)(n:Nt)(sv fv rv ev:Value)(hN:NetAt w q n sv fv rv ev)(ok:n.Ok)(fit:n.Fits)(most:Nat)(hmost:most<=1000000000):
  Calls prog 61 #[pointer (some ⟨q,0,none⟩),int i64 (most:Int)] w (zBu w n most):=by
 obtain⟨i0,hi0,hz0,hz1,hz2⟩:=info_parts yJ;obtain⟨ii1,hi1,hy0,hy1,hy2⟩:=info_parts zFd;have HS:Hid (Ca 90 #[pointer (some ⟨q,0,none⟩)] w fun e w'=>∃p s,e=returned (pointer (some ⟨p,0,none⟩))∧(s.rules=n.rules∧s.tails=n.tails n.letters∧s.sets=n.letters∧s.q=q)∧SoAt w' (fun g=>g<w'.heap.size∧g≠p) p s ⟨[],[]⟩ (slice none 0 0) (slice none 0 0)∧ArAt w' s.lv s.tv s.sv n.areas∧SpAt w' s.f n.ahead∧s.f≠p∧w.heap.size<=p∧Grew w w'):=zEb w q n sv fv rv ev hN ok fit;have HN:Hid (NetAt w q n sv fv rv ev):=hN;have hlq:=hN.lq;have htop:=ok.top;have hfirst:=ok.first
 have hends:=ok.ends;have hlet:n.letters.length<=20000000004:=by
  have:=(zBj n.sets).2.2.2;have:=fit.few;show(xY n.sets).setsN.length<=_;rw[Ar.setsN_len];omega
 have HAL:Hid (∀i,n.ahead i<16777216):=fun i=>zLP _ (fun x hx=>lZ (ok.fs x hx) htop) _ i;have HSP:Hid (∀x,zAq n.ahead x<16777216):=zMU _ HAL.out;clear hN ok fit;go_enter func61,ntmps61
 go_wp2_with (first|(go_at_call 90;refine HS.out.mono ?_;rintro e w1 ⟨p,s,rfl,hs1,hso,har,hsp,hfp,hpH,hk1⟩;obtain⟨a1,c1,hf1,-⟩:=id har.lows;obtain⟨a2,c2,hf2,-⟩:=id har.letters;obtain⟨a3,c3,hf3,-⟩:=id har.sets;have x1:w1.cell? ⟨p,1,none⟩=some (slice a1 n.areas.lows.length c1):=(by rw[<-hf1];unfold cell?;rw[hso.blk];rfl);have x2:w1.cell? ⟨p,2,none⟩=some (slice a2 n.areas.letters.length c2):=(by rw[<-hf2];unfold cell?;rw[hso.blk];rfl);have x3:w1.cell? ⟨p,3,none⟩=some (slice a3 n.areas.sets.length c3):=(by rw[<-hf3];unfold cell?;rw[hso.blk];rfl);have HQ:Hid ((s.rules=n.rules∧s.tails=n.tails n.letters∧s.sets=n.letters∧s.q=q)∧SoAt w1 (fun g=>g<w1.heap.size∧g≠p) p s ⟨[],[]⟩ (slice none 0 0) (slice none 0 0)∧ArAt w1 (slice a1 n.areas.lows.length c1) (slice a2 n.areas.letters.length c2) (slice a3 n.areas.sets.length c3) n.areas∧SpAt w1 s.f n.ahead∧s.f≠p∧(∃a n c,s.lv=slice a n c)∧(∃a n c,s.tv=slice a n c)∧(∃a n c,s.sv=slice a n c)):=⟨hs1,hso,(by rw[<-hf1,<-hf2,<-hf3];exact har),hsp,hfp,⟨_,_,_,hf1⟩,⟨_,_,_,hf2⟩,⟨_,_,_,hf3⟩⟩;have y2:=(HN.out.grown hk1).c2;have hlq1:q<w1.heap.size:=(HN.out.grown hk1).lq;have hnqp:q≠p:=(by omega);clear hs1 hso har hsp hfp hf1 hf2 hf3)|(go_at_call 91;refine((Kw.begin HQ.out.2.1 _ _ _).row lQ (by rw[HQ.out.1.2.2.1];simp;omega) n.first (by omega)).mono ?_;rintro e w2 ⟨u8,Z2,rfl,K2,hu8⟩;obtain⟨a8,c8,hf8,-⟩:=id hu8;have HK2:Hid (zOk w1 w2 w1.heap.size p w1.heap.size s (s.rowTo n.first ⟨[],[]⟩ s.sets.length).2 (slice a1 n.areas.lows.length c1) (slice a2 n.areas.letters.length c2) (slice a3 n.areas.sets.length c3) u8 [] [] (s.rowTo n.first ⟨[],[]⟩ s.sets.length).1 0 0):=⟨_,_,_,_,K2.start_of hu8⟩;subst hf8;clear K2 hu8))
 have HLK:Hid (s.Like n.sq):=⟨HQ.out.1.1,HQ.out.1.2.1,HQ.out.1.2.2.1⟩
 have hsl:s.sets.length=n.letters.length:=by rw[HQ.out.1.2.2.1]
 have hst:s.rowTo n.first ⟨[],[]⟩ s.sets.length=n.start:=by rw[hsl];exact HLK.out.row _ _ _
 rw[hst] at HK2 ⊢;have hst2:n.start.2.marks.length<=n.start.2.found.length:=by rw[<-hst];exact s.rowTo_ml _ _ _ lQ
 have HRL:Hid (s.rules=n.rules):=HQ.out.1.1;have HE3:Hid (∀wr,KeepX (fun g=>g<w1.heap.size∧g≠p) w1 wr->wr.cell? ⟨q,3,none⟩=some (int i64 (n.ends:Int))):=fun wr hk=>(cell?_of_block (hk.block q ⟨hlq1,hnqp⟩)).trans (HN.out.grown hk1).c3;have HSF:Hid (∀wr,KeepX (fun g=>g<w1.heap.size∧g≠p) w1 wr->SpAt wr s.f n.ahead):=fun wr hk=>HQ.out.2.2.2.1.keep (hk.block s.f ⟨HQ.out.2.2.2.1.lt,HQ.out.2.2.2.2.1⟩);have HKP:Hid (∀wr,KeepX (fun g=>g<w1.heap.size∧g≠p) w1 wr->Grew w wr):=fun wr hk=>hk1.trans ⟨hk.os,hk.output,hk.size,fun k h1 _=>hk.block k ⟨lZ h1 hk1.size,by omega⟩⟩;have HK1:Hid (Grew w w1):=hk1;have HST:Hid (n.start=n.start):=rfl;clear hk1 hst x1 x2 x3 y2 HS;generalize hu8:Value.slice a8 (ints n.start.1).length c8=u8 at *;have HU8:Hid (Value.slice a8 (ints n.start.1).length c8=u8):=hu8;clear hu8;go_loopg [9] (most+1) (fun k i wr=>∃(j:Nat) (d:Sf) (rows:List (List Nat)) (rules:List Int),k=most+1-j∧(j<=most∧j<=d.found.length∧rows.length=j∧rules.length=j∧d.marks.length<=d.found.length∧∀r∈rows,r.length=n.letters.length)∧i=int i64 (j:Int)∧zOk w1 wr w1.heap.size p w1.heap.size s d (slice a1 n.areas.lows.length c1) (slice a2 n.areas.letters.length c2) (slice a3 n.areas.sets.length c3) u8 rows rules n.start.1 0 0∧n.sq.sortGo n.ahead n.ends most (most+1) 0 n.start.2 [] []=n.sq.sortGo n.ahead n.ends most (most+1-j) j d rows rules)
 case atStart=>exact⟨0,n.start.2,[],[],rfl,⟨lX,lX,rfl,rfl,hst2,fun r hr=>absurd hr List.not_mem_nil⟩,rfl,HK2.out,rfl⟩
 case round=>
  obtain⟨j,d,rows,rules,hgk,⟨hj1,hj2,hj3,hj4,hml,hrl⟩,rfl,⟨Z,nv,rv2,us,hK⟩,hgo⟩:=hrel;have HB:Hid (gk=most+1-j∧Kw w1 wr w1.heap.size p w1.heap.size Z s d (slice a1 n.areas.lows.length c1) (slice a2 n.areas.letters.length c2) (slice a3 n.areas.sets.length c3) nv rv2 u8 us rows rules n.start.1 0 0∧n.sq.sortGo n.ahead n.ends most (most+1) 0 n.start.2 [] []=n.sq.sortGo n.ahead n.ends most (most+1-j) j d rows rules):=⟨hgk,hK,hgo⟩
  obtain⟨fa,fc,z6,z4,hfc⟩:=hK.found;have HFC:Hid (∀i,i<d.found.length->∃g,fa=some ⟨g,0,none⟩∧wr.cell? ⟨g,i,none⟩=some (int i64 ((d.found.getD i 0:Nat):Int))∧d.found.getD i 0<16777216):=hfc;have HRW:Hid (∀r∈rows,r.length=n.letters.length):=hrl;clear hgk hgo hfc hrl HK2;by_cases hjf:j<d.found.length
  ·have i1:(j:Int)<(d.found.length:Int):=by omega
   by_cases hmo:d.found.length>most
   ·have i2:(d.found.length:Int)>(most:Int):=by omega
    have HZ:Hid (n.sort most=none):=by
     show _=_;unfold Nt.sort;rw[HB.out.2.2,show most+1-j=(most-j)+1 by omega];unfold Sq.sortGo;rw[if_pos hjf,if_pos hmo]
    clear hK;go_wp2_with fail;refine bodyPost_ret (results_tmp2 rfl _ _ _) rfl ?_;exact zKE HZ.out (HKP.out _ HB.out.2.1.keep)
   ·have i2:¬((d.found.length:Int)>(most:Int)):=by omega
    obtain⟨g,rfl,hc6,hxl⟩:=HFC.out j hjf;have HGo2:Hid (n.sq.sortGo n.ahead n.ends most (most+1) 0 n.start.2 [] []=n.sq.sortGo n.ahead n.ends most (most+1-(j+1)) (j+1) (n.sq.rowTo (zAq n.ahead (d.found.getD j 0)) d n.letters.length).2 (rows++[(n.sq.rowTo (zAq n.ahead (d.found.getD j 0)) d n.letters.length).1]) (rules++[vA n.rules (d.found.getD j 0&&&n.ends)])):=by
     show _=_;rw[HB.out.2.2,show most+1-j=(most+1-(j+1))+1 by omega];show(if j<d.found.length then(if d.found.length>most then none else _) else _)=_;rw[if_pos hjf,if_neg hmo];rfl
    have hra:d.found.getD j 0&&&n.ends<16777216:=Nat.lt_of_le_of_lt Nat.and_le_left hxl;have hand:bits .and i64 ((d.found.getD j 0:Nat):Int) (n.ends:Int)=((d.found.getD j 0&&&n.ends:Nat):Int):=qA _ _ (by omega) (by omega);have HOF:Hid (∀x:Nat,x<16777216->Ca 92 #[pointer (some ⟨s.f,0,none⟩),int i64 (x:Int)] wr fun e w'=>e=returned (int i64 ((zAq n.ahead x:Nat):Int))∧Grew wr w'):=fun x hx=>zBE wr s.f n.ahead (HSF.out wr HB.out.2.1.keep) HAL.out x hx;have HRow:Hid (∀w5,Grew wr w5->∀y:Nat,y<16777216->Ca 91 #[pointer (some ⟨p,0,none⟩),int i64 (y:Int)] w5 fun e w'=>∃u Z',e=returned u∧Kw w1 w' w1.heap.size p w1.heap.size Z' s (n.sq.rowTo y d n.letters.length).2 (slice a1 n.areas.lows.length c1) (slice a2 n.areas.letters.length c2) (slice a3 n.areas.sets.length c3) nv rv2 u8 us rows rules n.start.1 0 0∧Ints w' Z' u (ints (n.sq.rowTo y d n.letters.length).1)):=fun w5 hk5 y hy=>by
     have h:=(HB.out.2.1.grown hk5).row hml (by omega) y hy;rw[hsl,HLK.out.row] at h;exact h
    have hyl:=HSP.out (d.found.getD j 0);have hr1:=n.sq.rowTo_len (zAq n.ahead (d.found.getD j 0)) d n.letters.length;have hr2:=n.sq.rowTo_ml (zAq n.ahead (d.found.getD j 0)) d n.letters.length hml;have HOF2:=HOF.out _ hxl;clear hK HOF;generalize d.found.getD j 0=x at *;generalize zAq n.ahead x=y at *;have HRow2:Hid (∀w5,Grew wr w5->Ca 91 #[pointer (some ⟨p,0,none⟩),int i64 (y:Int)] w5 fun e w'=>∃u Z',e=returned u∧Kw w1 w' w1.heap.size p w1.heap.size Z' s (n.sq.rowTo y d n.letters.length).2 (slice a1 n.areas.lows.length c1) (slice a2 n.areas.letters.length c2) (slice a3 n.areas.sets.length c3) nv rv2 u8 us rows rules n.start.1 0 0∧Ints w' Z' u (ints (n.sq.rowTo y d n.letters.length).1)):=fun w5 hk5=>HRow.out w5 hk5 y hyl;clear HRow;generalize (n.sq.rowTo y d n.letters.length).1=rw2 at *;generalize (n.sq.rowTo y d n.letters.length).2=d2 at *;obtain⟨hr1a,-,-,hr1d⟩:=hr1;obtain⟨an,cn,hnv⟩:=zG HB.out.2.1.nOwn;obtain⟨ar,cr,hrv⟩:=HB.out.2.1.rOwn.form;rw[hj3] at hnv;rw[hj4] at hrv;subst hnv hrv;go_wp2_with (first|(go_at_call 92;refine HOF2.mono ?_;rintro e w5 ⟨rfl,hk5⟩)|(go_at_call 91;refine(HRow2.out w5 hk5).mono ?_;rintro e w6 ⟨u,Z6,rfl,hK6,hu6⟩;obtain⟨au,cu,hfu,-⟩:=id hu6;have HK6:Hid (Kw w1 w6 w1.heap.size p w1.heap.size Z6 s d2 (slice a1 n.areas.lows.length c1) (slice a2 n.areas.letters.length c2) (slice a3 n.areas.sets.length c3) (slice an j cn) (slice ar j cr) u8 us rows rules n.start.1 0 0∧Ints w6 Z6 u (ints rw2)):=⟨hK6,hu6⟩;have v3:=hK6.cells.1;have hkl6:=hK6.kl;have OR:w6.ownsRow w1.heap.size 45 1 (slice an j cn) j ((List.range j).map us):=(by have:=hK6.nOwn;unfold Row at this;rw[hj3] at this;exact this);generalize (ints rw2).length=ul at *;subst hfu;clear hK6 hu6)|(at_builtin;refine wpList_append_lies _ rfl _ _ 88 rfl w1.heap.size 45 ii1 (slice none 0 0) 1 24 underlying88 hi1 hy0 hy1 hy2 rfl (by decide) _ _ _ rfl (OR.alloc _) ⟨w6.heap.size,0,none⟩ 1 1 [slice au ul cu] rfl rfl (cell_one_new _ _ _) (by intro u hu;simp at hu;subst hu;rfl) (by decide) (by unfold maxLen;omega) (by omega) (by simp;omega) _ rfl ?_;intro gg cap w7 hown hgrow hat hlt3;have hPB:w7.heap[w1.heap.size]? =w6.heap[w1.heap.size]? :=(hgrow.block _ (by simp;omega) HK6.out.1.nbox.1).trans (lG _ _ _ (by omega));have t3:w7.cell? ⟨w1.heap.size,3,none⟩=some (slice an j cn):=(cell?_of_block hPB).trans v3;have g3:w7.frozen? ⟨w1.heap.size,3,none⟩=false:=(frozen?_of_block hPB).trans (HK6.out.1.cells.2.2.2.2 3);have HK7:Hid (Kw w1 (w7.setCell ⟨w1.heap.size,3,none⟩ (slice (some ⟨gg,0,none⟩) (j+1) cap)) w1.heap.size p w1.heap.size Z6 s d2 (slice a1 n.areas.lows.length c1) (slice a2 n.areas.letters.length c2) (slice a3 n.areas.sets.length c3) (slice (some ⟨gg,0,none⟩) (j+1) cap) (slice ar j cr) u8 (fun i=>if i=j then slice au ul cu else us i) (rows++[rw2]) rules n.start.1 0 0):=HK6.out.1.snocN hj3.symm HK6.out.2 hown hgrow (by rcases hat with ha|ha;exact .inl ha;right;rw[ha];simp)))
    obtain⟨w8,hw8,HK8⟩:∃w8,w8=w7.setCell ⟨w1.heap.size,3,none⟩ (slice (some ⟨gg,0,none⟩) (j+1) cap)∧Hid (Kw w1 w8 w1.heap.size p w1.heap.size Z6 s d2 (slice a1 n.areas.lows.length c1) (slice a2 n.areas.letters.length c2) (slice a3 n.areas.sets.length c3) (slice (some ⟨gg,0,none⟩) (j+1) cap) (slice ar j cr) u8 (fun i=>if i=j then slice au ul cu else us i) (rows++[rw2]) rules n.start.1 0 0):=⟨_,rfl,HK7.out⟩
    rw[<-hw8];clear hw8 HK7 hown hgrow hat hlt3 hPB t3 g3 OR v3 hkl6 hk5 HK6 HOF2 HRow2 hc6 z4 z6;have v4:=HK8.out.cells.2.1;have f4:=HK8.out.cells.2.2.2.2 4;have vq:=HE3.out w8 HK8.out.keep;have hkl8:=HK8.out.kl;have HC:Hid (∀wz,wz.Alike w8->Ca 93 #[pointer (some ⟨p,0,none⟩),int i64 ((x&&&n.ends:Nat):Int)] wz fun e w'=>e=returned (int i64 (vA n.rules (x&&&n.ends)))∧Grew w8 w'):=fun wz hz=>by
     have hkz:Grew w8 wz:=⟨hz.2.1,hz.2.2,by rw[hz.1];exact lQ,fun k _ _=>by rw[hz.1]⟩
     refine((HK8.out.grown hkz).ruleOf (x&&&n.ends) hra).mono ?_;rintro e w' ⟨rfl,rfl⟩;rw[HRL.out];exact⟨rfl,hkz⟩
    generalize vA n.rules (x&&&n.ends)=r at *;generalize x&&&n.ends=xe at *;go_region_law ((first
     |(refine step_append_lies _ (by rfl) (.tmp 71) (.tmp 80) 45 (by rfl) w1.heap.size 3 i0 _ 1 8 underlying45 hi0 hz0 hz1 hz2 rfl (by decide) (slice ar j cr) j (rules.map fun x=>int i64 x) (by simp[Act.eval,Act.put]) (OW.alloc _) ⟨w9.heap.size,0,none⟩ 1 1 [int i64 r] (by simp[Act.eval,Act.put]) (by rfl) (news_of_block (cs:=#[int i64 r]) (t:=3) (fr:=(0,0)) (gU w9 _)) (by simp[Value.oneCell']) (by decide) (by unfold maxLen;omega) (by omega) (by simp;omega) (w9.heap.size+1) (by simp) ?_;intro g2 cap2 w10 hown2 hgrow2 hat2 hlt4;have hPB2:=hgrow2.block w1.heap.size (by simp;omega) HNB.out;have v4b:w10.cell? ⟨w1.heap.size,4,none⟩=some (slice ar j cr):=(cell?_of_block hPB2).trans ((cell?_alloc_past _ _ _ hkl9).trans v4a);have f4b:w10.frozen? ⟨w1.heap.size,4,none⟩=false:=(frozen?_of_block hPB2).trans ((frozen?_alloc_past _ _ _ hkl9).trans f4a))
     |(go_simp;go_at_call 93;refine(HC.out _ ?_).mono ?_;exact⟨rfl,rfl,rfl⟩;rintro e w9 ⟨rfl,hk9⟩;have HK9:Hid (Kw w1 w9 w1.heap.size p w1.heap.size Z6 s d2 (slice a1 n.areas.lows.length c1) (slice a2 n.areas.letters.length c2) (slice a3 n.areas.sets.length c3) (slice (some ⟨gg,0,none⟩) (j+1) cap) (slice ar j cr) u8 (fun i=>if i=j then slice au ul cu else us i) (rows++[rw2]) rules n.start.1 0 0):=HK8.out.grown hk9;have v4a:=HK9.out.cells.2.1;have f4a:=HK9.out.cells.2.2.2.2 4;have vqa:=HE3.out w9 HK9.out.keep;have hkl9:=HK9.out.kl;have HNB:Hid (some w1.heap.size≠(Value.slice ar j cr).ownBlock):=HK9.out.nbox.2;have OW:w9.ownsRow w1.heap.size 3 1 (slice ar j cr) j (rules.map fun x=>int i64 x):=(by have:=HK9.out.rOwn;unfold OwnI at this;rw[hj4] at this;exact this))))
    all_goals
     have HF:Hid (zOk w1 (w10.setCell ⟨w1.heap.size,4,none⟩ (slice (some ⟨g2,0,none⟩) (j+1) cap2)) w1.heap.size p w1.heap.size s d2 (slice a1 n.areas.lows.length c1) (slice a2 n.areas.letters.length c2) (slice a3 n.areas.sets.length c3) u8 (rows++[rw2]) (rules++[r]) n.start.1 0 0):=⟨_,_,_,_,HK9.out.snocR hj4.symm hown2 hgrow2 (by
      rcases hat2 with ha|ha
      ·exact .inl ha
      ·right;rw[ha];omega)⟩
     clear hown2 hgrow2 hat2 hPB2 v4a f4a v4b f4b OW;go_wp2_with fail;go_roundg (most+1-(j+1))
     case measure=>rw[HB.out.1];omega
     case rel=>exact⟨j+1,d2,_,_,rfl,⟨by omega,by omega,by simp[hj3],by simp[hj4],hr2,fun t ht=>by
      rcases kU.1 ht with h1|h1
      ·exact HRW.out t h1
      ·rw[kY.1 h1];exact hr1a⟩,by go_num,HF.out,HGo2.out⟩
  ·have i1:¬((j:Int)<(d.found.length:Int)):=by omega
   have HZ:Hid (n.sort most=some (n.ended d rows rules)):=by
    show _=_;have e:n.sq.sortGo n.ahead n.ends most (most+1-j) j d rows rules=some (d,rows,rules):=by
     cases most+1-j with
     |zero=>rfl
     |succ k=>
      show(if j<d.found.length then _ else _)=_;rw[if_neg hjf]
    unfold Nt.sort;rw[HB.out.2.2,e]
   have HEN:Hid (n.ended d rows rules=if zAo (rows.map ints) rules (ints n.start.1)=rows.length then⟨rows++[n.start.1],rules++[-1],zAo (rows.map ints) rules (ints n.start.1),n.sq.kind d 0⟩ else⟨rows,rules,zAo (rows.map ints) rules (ints n.start.1),n.sq.kind d 0⟩):=rfl;have hll:zAo (rows.map ints) rules (ints n.start.1)<=rows.length:=by
    have:=zJ4 (rows.map ints) rules (ints n.start.1);rw[kV] at this;exact this
   have HKO:Hid (Ca 94 #[pointer (some ⟨p,0,none⟩),int i64 0] wr fun e w'=>e=returned (int i64 ((n.sq.kind d 0:Nat):Int))∧Kw w1 w' w1.heap.size p w1.heap.size Z s (s.kindS d 0) (slice a1 n.areas.lows.length c1) (slice a2 n.areas.letters.length c2) (slice a3 n.areas.sets.length c3) nv rv2 u8 us rows rules n.start.1 0 0):=by
    have h:=hK.kindOf hml (by omega) 0 (by omega);rw[(HLK.out.kind d 0).1] at h;exact h
   have HLI:Hid (∀w4 Z d' st dd,Kw w1 w4 w1.heap.size p w1.heap.size Z s d' (slice a1 n.areas.lows.length c1) (slice a2 n.areas.letters.length c2) (slice a3 n.areas.sets.length c3) nv rv2 u8 us rows rules n.start.1 st dd->Ca 95 #[pointer (some ⟨w1.heap.size,0,none⟩),u8] w4 fun e w'=>e=returned (int i64 ((zAo (rows.map ints) rules (ints n.start.1):Nat):Int))∧Grew w4 w'):=fun w4 Z d' st dd h4=>by
    refine zJn w4 w1.heap.size nv rv2 u8 (rows.map ints) rules (ints n.start.1) h4.kl h4.cells.1 h4.cells.2.1 h4.rowsAt (zAA h4.rOwn) (by rw[kV];omega) (by rw[kV];omega) (h4.stA.mono h4.zl) fun r hr=>?_;obtain⟨r2,hr2,rfl⟩:=List.mem_map.1 hr;rw[zN,HRW.out r2 hr2];omega
   have HPN:Hid (∀i x,w1.cell? ⟨p,i,none⟩≠some (int i64 x)):=HQ.out.2.1.no_int HQ.out.2.2.2.2.2.1 HQ.out.2.2.2.2.2.2.1 HQ.out.2.2.2.2.2.2.2 (by obtain⟨a,c,h,-⟩:=HQ.out.2.1.tls;exact⟨_,_,_,h⟩) ⟨_,_,_,rfl⟩ ⟨_,_,_,rfl⟩ (lv:=undef) (tv:=undef) (sv:=undef) (tl:=undef);have HAR:Hid (ArAt w1 (slice a1 n.areas.lows.length c1) (slice a2 n.areas.letters.length c2) (slice a3 n.areas.sets.length c3) n.areas):=HQ.out.2.2.1;obtain⟨an,cn,hnv⟩:=zG HB.out.2.1.nOwn;obtain⟨ar,cr,hrv⟩:=HB.out.2.1.rOwn.form;rw[hj3] at hnv;rw[hj4] at hrv;generalize zAo (rows.map ints) rules (ints n.start.1)=lk at *;generalize n.sq.kind d 0=dd at *;generalize s.kindS d 0=d3 at *;have hu8:=HU8.out;generalize (ints n.start.1).length=ul8 at *;subst hnv hrv hu8;clear hK HFC z4;by_cases hlk:lk=rows.length
   ·have hlk2:lk=j:=by omega
    subst hlk2;have HEN2:Hid (n.ended d rows rules=⟨rows++[n.start.1],rules++[-1],lk,dd⟩):=by show _=_;rw[HEN.out,if_pos hlk]
    clear hlk HEN;go_wp2_with (first|(go_at_call 94;refine HKO.out.mono ?_;rintro e w3 ⟨rfl,K3⟩;have v6:=K3.cells.2.2.2.1;have f6:=K3.cells.2.2.2.2 6;have K4:=K3.setDead (dd:Int))|(go_at_call 95;refine(HLI.out _ _ _ _ _ K4).mono ?_;rintro e w5 ⟨rfl,hk5⟩;have K5:=K4.grown hk5;have v5:=K5.cells.2.2.1;have f5:=K5.cells.2.2.2.2 5;have K6:=K5.setStart (lk:Int)))
    have HK6:Hid (Kw w1 (w5.setCell ⟨w1.heap.size,5,none⟩ (int i64 (lk:Int))) w1.heap.size p w1.heap.size Z s d3 (slice a1 n.areas.lows.length c1) (slice a2 n.areas.letters.length c2) (slice a3 n.areas.sets.length c3) (slice an lk cn) (slice ar lk cr) (slice a8 ul8 c8) us rows rules n.start.1 (lk:Int) (dd:Int)):=K6;clear K3 K4 K5 K6 v6 f6 v5 f5 z6 hk5 HKO HLI;generalize w5.setCell ⟨w1.heap.size,5,none⟩ (int i64 (lk:Int))=w6 at *;have v5:=HK6.out.cells.2.2.1;have v3:=HK6.out.cells.1;have hkl6:=HK6.out.kl;go_quiet (fail);have HK7:Hid (Kw w1 (w6.drewN nq) w1.heap.size p w1.heap.size Z s d3 (slice a1 n.areas.lows.length c1) (slice a2 n.areas.letters.length c2) (slice a3 n.areas.sets.length c3) (slice an lk cn) (slice ar lk cr) (slice a8 ul8 c8) us rows rules n.start.1 (lk:Int) (dd:Int)):=HK6.out.grown (Keep.alike (w':=w6.drewN nq) ⟨rfl,rfl,rfl⟩);clear HK6 v5 v3;generalize w6.drewN nq=w7 at *;have v3:=HK7.out.cells.1;have hkl7:=HK7.out.kl;have OR:w7.ownsRow w1.heap.size 45 1 (slice an lk cn) lk ((List.range lk).map us):=(by have:=HK7.out.nOwn;unfold Row at this;rw[hj3] at this;exact this)
    go_wp2_with (first|(at_builtin;refine wpList_append_lies _ rfl _ _ 45 rfl w1.heap.size 3 i0 (int i64 0) 1 8 underlying45 hi0 hz0 hz1 hz2 rfl (by decide) _ _ _ rfl (OW.alloc _) ⟨w8.heap.size,0,none⟩ 1 1 [int i64 (-1)] rfl rfl (zA9 _ [int i64 (-1)] _ _ (zC _ _ _)) (by intro u hu;simp at hu;subst hu;rfl) (by decide) (by unfold maxLen;omega) (by omega) (by simp[zC];omega) _ rfl ?_;intro g2 cap2 w9 hown2 hgrow2 hat2 hlt4;have hPB2:w9.heap[w1.heap.size]? =(w8.setCell ⟨w1.heap.size,3,none⟩ (slice (some ⟨gg,0,none⟩) (lk+1) cap)).heap[w1.heap.size]? :=(hgrow2.block _ (by simp[zC];omega) HK8.out.nbox.2).trans (lG _ _ _ HK8.out.kl);have t4:w9.cell? ⟨w1.heap.size,4,none⟩=some (slice ar lk cr):=(cell?_of_block hPB2).trans v4;have g4:w9.frozen? ⟨w1.heap.size,4,none⟩=false:=(frozen?_of_block hPB2).trans (HK8.out.cells.2.2.2.2 4);have HK9:Hid (Kw w1 (w9.setCell ⟨w1.heap.size,4,none⟩ (slice (some ⟨g2,0,none⟩) (lk+1) cap2)) w1.heap.size p w1.heap.size Z s d3 (slice a1 n.areas.lows.length c1) (slice a2 n.areas.letters.length c2) (slice a3 n.areas.sets.length c3) (slice (some ⟨gg,0,none⟩) (lk+1) cap) (slice (some ⟨g2,0,none⟩) (lk+1) cap2) (slice a8 ul8 c8) (fun i=>if i=lk then slice a8 ul8 c8 else us i) (rows++[n.start.1]) (rules++[-1]) n.start.1 (lk:Int) (dd:Int)):=HK8.out.snocR hj4.symm hown2 hgrow2 (by rcases hat2 with ha|ha;exact .inl ha;right;rw[ha];simp[zC]))|(at_builtin;refine wpList_append_lies _ rfl _ _ 88 rfl w1.heap.size 45 ii1 (slice none 0 0) 1 24 underlying88 hi1 hy0 hy1 hy2 rfl (by decide) _ _ _ rfl (OR.alloc _) ⟨w7.heap.size,0,none⟩ 1 1 [slice a8 ul8 c8] rfl rfl (cell_one_new _ _ _) (by intro u hu;simp at hu;subst hu;rfl) (by decide) (by unfold maxLen;omega) (by omega) (by simp;omega) _ rfl ?_;intro gg cap w8 hown hgrow hat hlt3;have hPB:w8.heap[w1.heap.size]? =w7.heap[w1.heap.size]? :=(hgrow.block _ (by simp;omega) HK7.out.nbox.1).trans (lG _ _ _ (by omega));have t3:w8.cell? ⟨w1.heap.size,3,none⟩=some (slice an lk cn):=(cell?_of_block hPB).trans v3;have g3:w8.frozen? ⟨w1.heap.size,3,none⟩=false:=(frozen?_of_block hPB).trans (HK7.out.cells.2.2.2.2 3);have HK8:Hid (Kw w1 (w8.setCell ⟨w1.heap.size,3,none⟩ (slice (some ⟨gg,0,none⟩) (lk+1) cap)) w1.heap.size p w1.heap.size Z s d3 (slice a1 n.areas.lows.length c1) (slice a2 n.areas.letters.length c2) (slice a3 n.areas.sets.length c3) (slice (some ⟨gg,0,none⟩) (lk+1) cap) (slice ar lk cr) (slice a8 ul8 c8) (fun i=>if i=lk then slice a8 ul8 c8 else us i) (rows++[n.start.1]) rules n.start.1 (lk:Int) (dd:Int)):=HK7.out.snocN hj3.symm HK7.out.stA hown hgrow (by rcases hat with ha|ha;exact .inl ha;right;rw[ha];simp);have v4:=HK8.out.cells.2.1;have hkl8:w1.heap.size<w8.heap.size:=(by have:=HK8.out.kl;rw[zC] at this;exact this);have OW:(w8.setCell ⟨w1.heap.size,3,none⟩ (slice (some ⟨gg,0,none⟩) (lk+1) cap)).ownsRow w1.heap.size 3 1 (slice ar lk cr) lk (rules.map fun x=>int i64 x):=(by have:=HK8.out.rOwn;unfold OwnI at this;rw[hj4] at this;exact this)))
    refine bodyPost_ret (results_tmp2 rfl _ _ _) rfl ?_;refine zF4 HZ.out ⟨?_,HKP.out _ HK9.out.keep⟩;rw[HEN2.out];exact zMq (w:=w) HK9.out rfl HPN.out HAR.out
   ·have HEN2:Hid (n.ended d rows rules=⟨rows,rules,lk,dd⟩):=by show _=_;rw[HEN.out,if_neg hlk]
    have i3:¬((lk:Int)=(j:Int)):=by omega
    clear hlk HEN;go_wp2_with (first|(go_at_call 94;refine HKO.out.mono ?_;rintro e w3 ⟨rfl,K3⟩;have v6:=K3.cells.2.2.2.1;have f6:=K3.cells.2.2.2.2 6;have K4:=K3.setDead (dd:Int))|(go_at_call 95;refine(HLI.out _ _ _ _ _ K4).mono ?_;rintro e w5 ⟨rfl,hk5⟩;have K5:=K4.grown hk5;have v5:=K5.cells.2.2.1;have f5:=K5.cells.2.2.2.2 5;have K6:=K5.setStart (lk:Int)))
    have HK6:Hid (Kw w1 (w5.setCell ⟨w1.heap.size,5,none⟩ (int i64 (lk:Int))) w1.heap.size p w1.heap.size Z s d3 (slice a1 n.areas.lows.length c1) (slice a2 n.areas.letters.length c2) (slice a3 n.areas.sets.length c3) (slice an j cn) (slice ar j cr) (slice a8 ul8 c8) us rows rules n.start.1 (lk:Int) (dd:Int)):=K6;clear K3 K4 K5 K6 v6 f6 v5 f5 z6 hk5 HKO HLI;generalize w5.setCell ⟨w1.heap.size,5,none⟩ (int i64 (lk:Int))=w6 at *;have v5:=HK6.out.cells.2.2.1;have v3:=HK6.out.cells.1;have hc3:((lk:Int)==(j:Int))=false:=by simp;omega
    clear i3;go_quiet (fail);go_wp2_with fail;refine bodyPost_ret (results_tmp2 rfl _ _ _) rfl ?_;have HK7:=HK6.out.grown (Keep.alike (w':=w6.drewN nq) ⟨rfl,rfl,rfl⟩);refine zF4 HZ.out ⟨?_,HKP.out _ HK7.keep⟩;rw[HEN2.out];exact zMq (w:=w) HK7 rfl HPN.out HAR.out
end
def a64 (f:Nat->Int):Array Value:=((List.range 64).map fun i=>Value.int i64 (f i)).toArray
theorem zBb (f:Nat->Int):(a64 f).size=64:=by simp[a64]
theorem jL (f:Nat->Int)(i:Nat)(hi:i<64):(a64 f)[i]? =some (int i64 (f i)):=by
 simp[a64,hi]
theorem zN6:(prog.info? 246).map (·.size)=some 64:=by kernel_rfl
theorem zEn (w:World)(b:Nat)(f:Nat->Int)(h:w.heap[b]? =some (.cells (a64 f) 246)):w.rangeAt b 0 (a64 f).toList:=fun j v hv=>by
 unfold cell?;rw[h,Nat.zero_add];simpa using hv
theorem zJ5 (f:Nat->Int):(prog.info? 246).map (·.size)=some (a64 f).toList.length:=by
 rw[Array.length_toList,zBb];exact zN6
theorem zJ8 (w:World)(f:Nat->Int)(i:Nat)(hi:i<64):Sem.run prog (Instr.index 246 (agg (a64 f)) (int i64 (i:Int))) w=.ok (int i64 (f i)) w:=by
 have h1:(0:Int)<=(i:Int)∧(i:Int)<64:=by omega
 simp[Instr.index,run_underlying underlying246,asIntOf,h1,go_sem,jL f i hi];omega
def qG (row:List Int)(f:Nat->Int):Bool:=(List.range 64).all fun i=>row.getD (128+i) 0==f i
theorem zNc (row:List Int)(f:Nat->Int)(i:Nat)(hi:i<64)(h:row.getD (128+i) 0≠f i):qG row f=false:=by
 unfold qG;rw[List.all_eq_false];exact⟨i,List.mem_range.2 hi,by simpa using h⟩
theorem zMc (row:List Int)(f:Nat->Int)(h:∀i,i<64->row.getD (128+i) 0=f i):qG row f=true:=by
 unfold qG;rw[List.all_eq_true];intro i hi;rw[h i (List.mem_range.1 hi)];simp
theorem zFN (w:World)(v:Value)(row:List Int)(hR:Ints w (In w) v row)(hr:row.length=256)(f:Nat->Int):
  Calls prog 186 #[v,agg (a64 f)] w fun e w'=>e=returned (bool (qG row f))∧Grew w w':=by
 obtain⟨ab,cb,rfl,_,_,hbc⟩:=hR;rw[hr] at hbc ⊢;have HBC:=vl hbc;have HLD:Hid ((w.alloc (.cells (a64 f) 246)).rangeAt w.heap.size 0 (a64 f).toList∧(prog.info? 246).map (·.size)=some (a64 f).toList.length):=⟨zEn (w.alloc (.cells (a64 f) 246)) w.heap.size f (gU _ _),zJ5 f⟩
 have HIX:Hid (∀w i,i<64->Sem.run prog (Instr.index 246 (agg (a64 f)) (int i64 ((i:Nat):Int))) w=.ok (int i64 (f i)) w):=fun w i=>zJ8 w f i;have HAG:=vl <| jL f;have HKA:Hid (Grew w (w.alloc (.cells (a64 f) 246))):=kZ _ _ lQ;have H1:Hid (∀i,i<64->row.getD (128+i) 0≠f i->qG row f=false):=zNc row f;have H2:Hid ((∀i,i<64->row.getD (128+i) 0=f i)->qG row f=true):=zMc row f;clear hbc;generalize a64 f=A at *;go_in;go_wp2_with (first|(refine wpList_load_mid rfl 246 (.tmp 3) rfl w.heap.size 0 rfl A.toList (.array 64 3) HLD.out.1 underlying246 rfl HLD.out.2 ?_))
 go_loopg [8] 64 (fun k i wr=>∃j:Nat,k=64-j∧j<=64∧i=int i64 (j:Int)∧(∀i,i<j->row.getD (128+i) 0=f i)∧Grew w wr)
 case atStart=>exact⟨0,rfl,lX,rfl,fun i hi=>by omega,HKA.out⟩
 case round=>
  obtain⟨j,hgk,hj,rfl,hno,hkp⟩:=hrel;have HB:Hid (gk=64-j∧(∀i,i<j->row.getD (128+i) 0=f i)∧Grew w wr):=⟨hgk,hno,hkp⟩
  by_cases hj2:j<64
  ·have i1:(j:Int)<64:=by omega
   obtain⟨b1,o1,rfl,hb1,hc1⟩:=HBC.out (128+j) (by omega);have y1:=zA hc1 hb1 hkp;have hix:=HIX.out wr j hj2;have hag:=HAG.out j hj2;have HN3:Hid (row.getD (128+j) 0≠f j->qG row f=false):=H1.out j hj2;have HS3:Hid (row.getD (128+j) 0=f j->∀i,i<j+1->row.getD (128+i) 0=f i):=fun h i hi=>by
    by_cases e:i=j
    ·rw[e];exact h
    ·exact HB.out.2.1 i (by omega)
   have i2:(128:Int)+(j:Int)<256:=by omega
   clear hgk hno hkp hc1;generalize row.getD (128+j) 0=x at *;generalize f j=y at *;by_cases hxy:x=y
   ·have HR:Hid (∀i,i<j+1->row.getD (128+i) 0=f i):=HS3.out hxy
    have hc:(x != y)=false:=by simp[hxy]
    clear hxy;go_wp2;go_roundg (64-(j+1))
    case measure=>rw[HB.out.1];omega
    case rel=>exact⟨j+1,rfl,by omega,by go_num,HR.out,HB.out.2.2⟩
   ·have HR:Hid (qG row f=false):=HN3.out hxy
    have hc:(x != y)=true:=by simp[hxy]
    clear hxy;go_wp2;go_ret;exact⟨by rw[HR.out];rfl,HB.out.2.2⟩
  ·have i1:(64:Int)<=(j:Int):=by omega
   have HR:Hid (qG row f=true):=H2.out fun i hi=>hno i (by omega);clear hgk hno hkp;go_wp2;go_ret;exact⟨by rw[HR.out];rfl,HB.out.2.2⟩
section
structure Mk where
 next:List (List Int)
 rules:List Int
 of:List Int
 full:Bool
def zCU (l:List Int):Array Value:=(l.map fun x=>Value.int i64 x).toArray
structure Mw (w0 w:World)(mb kb:Nat)(most:Nat)(m:Mk)(nv rv ov:Value)(gs:Nat->Nat):Prop where
 blk:w.heap[mb]? =some (.cells #[pointer (some ⟨kb,0,none⟩),int i64 (most:Int),bool m.full,nv,rv,int i64 0,ov] 183)
 nOwn:Row w w0.heap.size 45 nv m.next.length fun i=>slice (some ⟨gs i,0,none⟩) 256 256
 each:∀i,i<m.next.length->w.heap[gs i]? =some (.cells (zCU (m.next.getD i [])) 3)∧w0.heap.size<=gs i∧(m.next.getD i []).length=256
 rOwn:OwnI w w0.heap.size rv m.rules
 oOwn:OwnI w w0.heap.size ov m.of
 inj:∀i j,i<m.next.length->j<m.next.length->gs i=gs j->i=j
 nr:∀i,i<m.next.length->some (gs i)≠rv.ownBlock
 no:∀i,i<m.next.length->some (gs i)≠ov.ownBlock
 ro:∀g,rv.ownBlock=some g->some g≠ov.ownBlock
 mH:w0.heap.size<=mb
 keep:Grew w0 w
def MwIs (w0 w:World)(mb kb most:Nat)(m:Mk):Prop:=∃nv rv ov gs,Mw w0 w mb kb most m nv rv ov gs
def StayT (w w':World):Prop:=∀(k:Nat) (c:Array Value) (t:TypeId),w.heap[k]? =some (Obj.cells c t)->t≠3->t≠45->t≠183->w'.heap[k]? =some (Obj.cells c t)
theorem StayT.refl (w:World):StayT w w:=fun _ _ _ h _ _ _=>h
theorem StayT.trans {w w' w'':World}(h:StayT w w')(h':StayT w' w''):StayT w w'':=fun k c t hk h1 h2 h3=>h' k c t (h k c t hk h1 h2 h3) h1 h2 h3
theorem Keep.stayT {w w':World}(h:Grew w w'):StayT w w':=fun k c t hk _ _ _=>by
 have hl:=(kQ.1 hk).1;exact(h.block k hl (kJ hl)).trans hk
section
variable {w0 w w2:World} {mb kb most:Nat} {m:Mk} {nv rv ov:Value} {gs:Nat->Nat}
theorem zLW (l:List Int)(i:Nat)(hi:i<l.length):(zCU l)[i]? =some (int i64 (l.getD i 0)):=by
 simp[zCU,hi]
theorem zLV (l:List Int)(i:Nat)(x:Int):(zCU l).setIfInBounds i (int i64 x)=zCU (l.set i x):=by
 simp[zCU,List.map_set]
theorem Mw.lt (h:Mw w0 w mb kb most m nv rv ov gs):mb<w.heap.size:=(kQ.1 h.blk).1
theorem Mw.gl (h:Mw w0 w mb kb most m nv rv ov gs)(i:Nat)(hi:i<m.next.length):gs i<w.heap.size:=(kQ.1 (h.each i hi).1).1
theorem Mw.cells (h:Mw w0 w mb kb most m nv rv ov gs):w.cell? ⟨mb,0,none⟩=some (pointer (some ⟨kb,0,none⟩))∧w.cell? ⟨mb,1,none⟩=some (int i64 (most:Int))∧w.cell? ⟨mb,2,none⟩=some (bool m.full)∧w.cell? ⟨mb,3,none⟩=some nv∧w.cell? ⟨mb,4,none⟩=some rv∧w.cell? ⟨mb,6,none⟩=some ov∧∀i,w.frozen? ⟨mb,i,none⟩=false:=by
 refine⟨?_,?_,?_,?_,?_,?_,fun i=>?_⟩
 all_goals first|(unfold cell?;rw[h.blk];rfl)|(unfold frozen?;rw[h.blk];simp)
theorem Mw.row (h:Mw w0 w mb kb most m nv rv ov gs)(i b:Nat)(hi:i<m.next.length)(hb:b<256):w.cell? ⟨gs i,b,none⟩=some (int i64 ((m.next.getD i []).getD b 0))∧w.frozen? ⟨gs i,b,none⟩=false:=by
 obtain⟨h1,_,h3⟩:=h.each i hi
 constructor
 ·unfold cell?;rw[h1];exact zLW _ _ (by rw[h3];exact hb)
 ·unfold frozen?;rw[h1];simp
theorem Mw.box (h:Mw w0 w mb kb most m nv rv ov gs):some mb≠nv.ownBlock∧some mb≠rv.ownBlock∧some mb≠ov.ownBlock∧∀i,i<m.next.length->gs i≠mb:=by
 refine⟨zM h.nOwn h.blk (by decide),zM h.rOwn h.blk (by decide),zM h.oOwn h.blk (by decide),fun i hi e=>?_⟩;have:=(h.each i hi).1;rw[e,h.blk] at this;simp at this
theorem Mw.grown (h:Mw w0 w mb kb most m nv rv ov gs)(hk:Grew w w2):Mw w0 w2 mb kb most m nv rv ov gs:=by
 have e:∀k,k<w.heap.size->w2.heap[k]? =w.heap[k]? :=fun k hk2=>hk.block k hk2 (kJ hk2);exact⟨(e mb h.lt).trans h.blk,zK h.nOwn hk,fun i hi=>⟨(e _ (h.gl i hi)).trans (h.each i hi).1,(h.each i hi).2⟩,zK h.rOwn hk,zK h.oOwn hk,h.inj,h.nr,h.no,h.ro,h.mH,h.keep.trans (hk.lower h.keep.size h.keep.size)⟩
theorem Mw.put (h:Mw w0 w mb kb most m nv rv ov gs)(s b:Nat)(hs:s<m.next.length)(x:Int):Mw w0 (w.setCell ⟨gs s,b,none⟩ (int i64 x)) mb kb most {m with next:=m.next.set s ((m.next.getD s []).set b x)} nv rv ov gs∧StayT w (w.setCell ⟨gs s,b,none⟩ (int i64 x)):=by
 have e:∀k,k≠gs s->(w.setCell ⟨gs s,b,none⟩ (int i64 x)).heap[k]? =w.heap[k]? :=fun k hk=>lJ _ _ _ _ hk;obtain⟨h1,h2,h3⟩:=h.each s hs;have hbx:=h.box;have hn:=zM h.nOwn h1 (by decide);have hlen:(m.next.set s ((m.next.getD s []).set b x)).length=m.next.length:=List.length_set ..
 refine⟨⟨(e mb (Ne.symm (hbx.2.2.2 s hs))).trans h.blk,?_,fun i hi=>?_,zD h.rOwn fun k _ _ hk=>e k fun e2=>h.nr s hs (by rw[hk,e2]),zD h.oOwn fun k _ _ hk=>e k fun e2=>h.no s hs (by rw[hk,e2]),fun i j hi hj=>?_,fun i hi=>?_,fun i hi=>?_,h.ro,h.mH,h.keep.trans (zO _ _ _ _ h2)⟩,fun k c t hk ht _ _=>?_⟩
 ·show Row _ _ _ _ (m.next.set s _).length _
  rw[hlen];exact zD h.nOwn fun k _ _ hk=>e k fun e2=>hn (by rw[hk,e2])
 ·have hi2:i<m.next.length:=by rw[<-hlen];exact hi
  show _=some (Obj.cells (zCU ((m.next.set s _).getD i [])) _)∧_∧((m.next.set s _).getD i []).length=256;rw[lW,List.getElem?_set];by_cases e2:s=i
  ·subst e2
   rw[if_pos rfl,if_pos hs];refine⟨?_,h2,by simp only[Option.getD_some,List.length_set];exact h3⟩;show _=some (Obj.cells (zCU ((m.next.getD s []).set b x)) _);rw[<-zLV];simp[setCell,lU,h1]
  ·rw[if_neg e2,<-lW]
   have hg:gs i≠gs s:=fun e3=>e2 (h.inj s i hs hi2 e3.symm);exact⟨(e _ hg).trans (h.each i hi2).1,(h.each i hi2).2⟩
 ·exact h.inj i j (by rw[<-hlen];exact hi) (by rw[<-hlen];exact hj)
 ·exact h.nr i (by rw[<-hlen];exact hi)
 ·exact h.no i (by rw[<-hlen];exact hi)
 ·refine(e k fun e2=>?_).trans hk
  rw[e2,h1] at hk;injection hk with hk;injection hk with _ hk;exact ht hk.symm
end
end
section
attribute [local go_sem ↓] Go.wp_at_zero Go.wp_at_succ
def zeros:List Int:=List.replicate 256 0
theorem zL9 {w:World}{H g:Nat}(h:w.ownsRow H 3 1 (slice (some ⟨g,0,none⟩) 256 256) 256 ((List.range 256).map fun _=>int i64 0)):w.heap[g]? =some (.cells (zCU zeros) 3):=by
 rcases h.2 with⟨hv,_⟩|⟨g1,cap,cur,hv,_,hh,_,_,h3,h4⟩
 ·cases hv
 ·injection hv with e1 e2 e3
  injection e1 with e1;injection e1 with e1;subst e1 e3;rw[hh];have h5:cur.toList=(List.range 256).map fun _=>int i64 0:=by
   rw[<-h4,List.take_of_length_le (by rw[Array.length_toList,h3];exact lQ)]
  have h6:cur=zCU zeros:=by
   apply Array.toList_inj.1;rw[h5];unfold zCU zeros;rw[List.map_replicate];apply List.ext_getElem
   ·rw[kV,List.length_range,List.length_replicate]
   ·intro i h1 h2
    rw[List.getElem_map,List.getElem_replicate]
  rw[h6]
section
variable {w0 w w1 w2:World} {mb kb most:Nat} {m:Mk} {nv rv ov:Value} {gs:Nat->Nat}
theorem Mw.newRow {o:Obj}{g cap n:Nat}(h:Mw w0 w mb kb most m nv rv ov gs)(hn:n=m.next.length)(hk1:Grew w w1)(hrow:w1.heap[w.heap.size]? =some (.cells (zCU zeros) 3))
  (hown:w2.ownsRow w0.heap.size 45 1 (slice (some ⟨g,0,none⟩) (n+1) cap) (n+1) (((List.range n).map fun i=>slice (some ⟨gs i,0,none⟩) 256 256)++[slice (some ⟨w.heap.size,0,none⟩) 256 256])) (hg:(w1.alloc o).grownBy w2 nv.ownBlock) (hat:nv.ownBlock=some g∨w1.heap.size<=g):
  Mw w0 (w2.setCell ⟨mb,3,none⟩ (slice (some ⟨g,0,none⟩) (n+1) cap)) mb kb most {m with next:=m.next++[zeros]} (slice (some ⟨g,0,none⟩) (n+1) cap) rv ov (fun i=>if i=n then w.heap.size else gs i)∧StayT w (w2.setCell ⟨mb,3,none⟩ (slice (some ⟨g,0,none⟩) (n+1) cap)):=by
 subst hn;have h1:=h.grown hk1;have hbx:=h1.box;have hlt:=h1.lt;have hlw:=h.lt;have hw1l:=(kQ.1 hrow).1;have hH:=h.keep.size;have hbl:∀j,j<w1.heap.size->some j≠nv.ownBlock->w2.heap[j]? =w1.heap[j]? :=fun j hj hf=>(hg.block j (by simp;omega) hf).trans (lG _ _ _ (by omega));have hsz:w1.heap.size<=w2.heap.size:=lY (by simp) hg.size;have hb:=(hbl mb hlt hbx.1).trans h1.blk;have e:∀k,k≠mb->(w2.setCell ⟨mb,3,none⟩ (slice (some ⟨g,0,none⟩) (m.next.length+1) cap)).heap[k]? =w2.heap[k]? :=fun k hk=>lJ _ _ _ _ hk;have hgn:∀i,i<m.next.length->some (gs i)≠nv.ownBlock:=fun i hi=>zM h1.nOwn (h1.each i hi).1 (by decide)
 have hfn:some w.heap.size≠nv.ownBlock:=fun e2=>by have:=(h.nOwn.lt _ e2.symm).2;omega
 have hr2:=zR hg h1.rOwn fun k hk=>xM h1.rOwn h1.nOwn (by decide) hk;have ho2:=zR hg h1.oOwn fun k hk=>xM h1.oOwn h1.nOwn (by decide) hk;have hgm:mb≠g:=fun e2=>by
  rcases hat with ha|ha
  ·exact hbx.1 (by rw[ha,e2])
  ·omega
 have hlen:(m.next++[zeros]).length=m.next.length+1:=by simp
 have hgl:∀i,i<m.next.length->gs i<w.heap.size:=fun i hi=>h.gl i hi
 refine⟨⟨by simp[setCell,lU,hb],?_,fun i hi=>?_,zD hr2 fun k _ _ hk=>e k fun e2=>hbx.2.1 (by rw[hk,e2]),zD ho2 fun k _ _ hk=>e k fun e2=>hbx.2.2.1 (by rw[hk,e2]),fun i j hi hj=>?_,fun i hi=>?_,fun i hi=>?_,h.ro,h.mH,h1.keep.trans ⟨hg.os,hg.output,by rw[zC];exact hsz,fun k hk _=>(e k (by have:=h.mH;omega)).trans (hbl k (by omega) fun e2=>by have:=(h.nOwn.lt k e2.symm).1;omega)⟩⟩,fun k c t hk t1 t2 t3=>?_⟩
 ·show Row _ _ _ _ (m.next++[zeros]).length _
  rw[hlen];have h2:Row w2 w0.heap.size 45 (slice (some ⟨g,0,none⟩) (m.next.length+1) cap) (m.next.length+1) (fun i=>slice (some ⟨if i=m.next.length then w.heap.size else gs i,0,none⟩) 256 256):=by
   unfold Row;rw[jO,if_pos rfl];rw[show (List.range m.next.length).map (fun i=>Value.slice (some ⟨if i=m.next.length then w.heap.size else gs i,0,none⟩) 256 256)=(List.range m.next.length).map fun i=>Value.slice (some ⟨gs i,0,none⟩) 256 256 from List.map_congr_left fun i hi=>by rw[if_neg (by have:=List.mem_range.1 hi;omega)]];exact hown
  exact zD h2 fun k _ _ hk=>e k fun e2=>by
   have:g=k:=by simpa[Value.ownBlock] using hk
   omega
 ·show _=some (Obj.cells (zCU ((m.next++[zeros]).getD i [])) _)∧_∧((m.next++[zeros]).getD i []).length=256
  by_cases e3:i=m.next.length
  ·subst e3
   rw[if_pos rfl,lW,gQ lQ,Nat.sub_self];exact⟨(e _ (by omega)).trans ((hbl _ hw1l hfn).trans hrow),hH,List.length_replicate ..⟩
  ·have hi2:i<m.next.length:=by
    have hi':i<(m.next++[zeros]).length:=hi;omega
   rw[if_neg e3,lW,kW hi2,<-lW];exact⟨(e _ (hbx.2.2.2 i hi2)).trans ((hbl _ (h1.gl i hi2) (hgn i hi2)).trans (h1.each i hi2).1),(h1.each i hi2).2⟩
 ·have hi':i<(m.next++[zeros]).length:=hi
  have hj':j<(m.next++[zeros]).length:=hj;intro e3;by_cases a1:i=m.next.length
  ·by_cases a2:j=m.next.length
   ·omega
   ·rw[if_pos a1,if_neg a2] at e3
    have:=hgl j (by omega);omega
  ·by_cases a2:j=m.next.length
   ·rw[if_neg a1,if_pos a2] at e3
    have:=hgl i (by omega);omega
   ·rw[if_neg a1,if_neg a2] at e3
    exact h.inj i j (by omega) (by omega) e3
 ·have hi':i<(m.next++[zeros]).length:=hi
  split
  ·intro e2;have:=(h.rOwn.lt _ e2.symm).2;omega
  ·exact h.nr i (by omega)
 ·have hi':i<(m.next++[zeros]).length:=hi
  split
  ·intro e2;have:=(h.oOwn.lt _ e2.symm).2;omega
  ·exact h.no i (by omega)
 ·have hl:=(kQ.1 hk).1
  have hk1':=(hk1.block k hl (kJ hl)).trans hk;have hkm:k≠mb:=fun e2=>by
   rw[e2,h.blk] at hk;injection hk with hk;injection hk with _ hk;exact t3 hk.symm
  exact(e k hkm).trans ((hbl k (by omega) (zM h1.nOwn hk1' (Ne.symm t2))).trans hk1')
theorem Mw.newRule {o:Obj}{g cap n:Nat}{x:Int}(h:Mw w0 w mb kb most m nv rv ov gs)(hn:n=m.rules.length)(hown:w2.ownsRow w0.heap.size 3 1 (slice (some ⟨g,0,none⟩) (n+1) cap) (n+1) ((m.rules.map fun x=>int i64 x)++[int i64 x]))(hg:(w.alloc o).grownBy w2 rv.ownBlock)(hat:rv.ownBlock=some g∨w.heap.size<=g):
  Mw w0 (w2.setCell ⟨mb,4,none⟩ (slice (some ⟨g,0,none⟩) (n+1) cap)) mb kb most {m with rules:=m.rules++[x]} nv (slice (some ⟨g,0,none⟩) (n+1) cap) ov gs∧StayT w (w2.setCell ⟨mb,4,none⟩ (slice (some ⟨g,0,none⟩) (n+1) cap)):=by
 subst hn;have hbx:=h.box;have hlt:=h.lt;have hbl:∀j,j<w.heap.size->some j≠rv.ownBlock->w2.heap[j]? =w.heap[j]? :=fun j hj hf=>(hg.block j (by simp;omega) hf).trans (lG _ _ _ (by omega));have hsz:w.heap.size<=w2.heap.size:=lY (by simp) hg.size;have hb:=(hbl mb hlt hbx.2.1).trans h.blk;have e:∀k,k≠mb->(w2.setCell ⟨mb,4,none⟩ (slice (some ⟨g,0,none⟩) (m.rules.length+1) cap)).heap[k]? =w2.heap[k]? :=fun k hk=>lJ _ _ _ _ hk;have hn2:=zR hg h.nOwn fun k hk=>xM h.nOwn h.rOwn (by decide) hk;have ho2:=zR hg h.oOwn fun k hk=>fun e2=>h.ro k e2.symm hk.symm;have hgm:mb≠g:=fun e2=>by
  rcases hat with ha|ha
  ·exact hbx.2.1 (by rw[ha,e2])
  ·omega
 refine⟨⟨by simp[setCell,lU,hb],zD hn2 fun k _ _ hk=>e k fun e2=>hbx.1 (by rw[hk,e2]),fun i hi=>⟨(e _ (hbx.2.2.2 i hi)).trans ((hbl _ (h.gl i hi) (h.nr i hi)).trans (h.each i hi).1),(h.each i hi).2⟩,zD (OwnI.snoc hown) fun k _ _ hk=>e k fun e2=>?_,zD ho2 fun k _ _ hk=>e k fun e2=>hbx.2.2.1 (by rw[hk,e2]),h.inj,fun i hi e2=>?_,h.no,yV h.oOwn h.ro hat,h.mH,h.keep.trans ⟨hg.os,hg.output,by rw[zC];exact hsz,fun k hk _=>(e k (by have:=h.mH;omega)).trans (hbl k (by have:=h.keep.size;omega) fun e2=>by have:=(h.rOwn.lt k e2.symm).1;omega)⟩⟩,fun k c t hk t1 t2 t3=>?_⟩
 ·have:g=k:=by simpa[Value.ownBlock] using hk
  omega
 ·have e4:gs i=g:=by simpa[Value.ownBlock] using e2
  rcases hat with ha|ha
  ·exact h.nr i hi (by rw[ha,e4])
  ·have:=h.gl i hi;omega
 ·have hl:=(kQ.1 hk).1
  have hkm:k≠mb:=fun e2=>by
   rw[e2,h.blk] at hk;injection hk with hk;injection hk with _ hk;exact t3 hk.symm
  exact(e k hkm).trans ((hbl k hl (zM h.rOwn hk (Ne.symm t1))).trans hk)
theorem Mw.newOf {o:Obj}{g cap n:Nat}{x:Int}(h:Mw w0 w mb kb most m nv rv ov gs)(hn:n=m.of.length)(hown:w2.ownsRow w0.heap.size 3 1 (slice (some ⟨g,0,none⟩) (n+1) cap) (n+1) ((m.of.map fun x=>int i64 x)++[int i64 x]))(hg:(w.alloc o).grownBy w2 ov.ownBlock)(hat:ov.ownBlock=some g∨w.heap.size<=g):
  Mw w0 (w2.setCell ⟨mb,6,none⟩ (slice (some ⟨g,0,none⟩) (n+1) cap)) mb kb most {m with of:=m.of++[x]} nv rv (slice (some ⟨g,0,none⟩) (n+1) cap) gs∧StayT w (w2.setCell ⟨mb,6,none⟩ (slice (some ⟨g,0,none⟩) (n+1) cap)):=by
 subst hn;have hbx:=h.box;have hlt:=h.lt;have hbl:∀j,j<w.heap.size->some j≠ov.ownBlock->w2.heap[j]? =w.heap[j]? :=fun j hj hf=>(hg.block j (by simp;omega) hf).trans (lG _ _ _ (by omega));have hsz:w.heap.size<=w2.heap.size:=lY (by simp) hg.size;have hb:=(hbl mb hlt hbx.2.2.1).trans h.blk;have e:∀k,k≠mb->(w2.setCell ⟨mb,6,none⟩ (slice (some ⟨g,0,none⟩) (m.of.length+1) cap)).heap[k]? =w2.heap[k]? :=fun k hk=>lJ _ _ _ _ hk;have hn2:=zR hg h.nOwn fun k hk=>xM h.nOwn h.oOwn (by decide) hk;have hr2:=zR hg h.rOwn h.ro;have hgm:mb≠g:=fun e2=>by
  rcases hat with ha|ha
  ·exact hbx.2.2.1 (by rw[ha,e2])
  ·omega
 refine⟨⟨by simp[setCell,lU,hb],zD hn2 fun k _ _ hk=>e k fun e2=>hbx.1 (by rw[hk,e2]),fun i hi=>⟨(e _ (hbx.2.2.2 i hi)).trans ((hbl _ (h.gl i hi) (h.no i hi)).trans (h.each i hi).1),(h.each i hi).2⟩,zD hr2 fun k _ _ hk=>e k fun e2=>hbx.2.1 (by rw[hk,e2]),zD (OwnI.snoc hown) fun k _ _ hk=>e k fun e2=>?_,h.inj,h.nr,fun i hi e2=>?_,zCc (yV h.rOwn (fun g hg e=>h.ro g e.symm hg.symm) hat),h.mH,h.keep.trans ⟨hg.os,hg.output,by rw[zC];exact hsz,fun k hk _=>(e k (by have:=h.mH;omega)).trans (hbl k (by have:=h.keep.size;omega) fun e2=>by have:=(h.oOwn.lt k e2.symm).1;omega)⟩⟩,fun k c t hk t1 t2 t3=>?_⟩
 ·have:g=k:=by simpa[Value.ownBlock] using hk
  omega
 ·have e4:gs i=g:=by simpa[Value.ownBlock] using e2
  rcases hat with ha|ha
  ·exact h.no i hi (by rw[ha,e4])
  ·have:=h.gl i hi;omega
 ·have hl:=(kQ.1 hk).1
  have hkm:k≠mb:=fun e2=>by
   rw[e2,h.blk] at hk;injection hk with hk;injection hk with _ hk;exact t3 hk.symm
  exact(e k hkm).trans ((hbl k hl (zM h.oOwn hk (Ne.symm t1))).trans hk)
theorem Mw.fill (h:Mw w0 w mb kb most m nv rv ov gs):Mw w0 (w.setCell ⟨mb,2,none⟩ (bool true)) mb kb most {m with full:=true} nv rv ov gs∧StayT w (w.setCell ⟨mb,2,none⟩ (bool true)):=by
 have hbx:=h.box;have e:∀k,k≠mb->(w.setCell ⟨mb,2,none⟩ (bool true)).heap[k]? =w.heap[k]? :=fun k hk=>lJ _ _ _ _ hk;refine⟨⟨by simp[setCell,lU,h.blk],zD h.nOwn fun k _ _ hk=>e k fun e2=>hbx.1 (by rw[hk,e2]),fun i hi=>⟨(e _ (hbx.2.2.2 i hi)).trans (h.each i hi).1,(h.each i hi).2⟩,zD h.rOwn fun k _ _ hk=>e k fun e2=>hbx.2.1 (by rw[hk,e2]),zD h.oOwn fun k _ _ hk=>e k fun e2=>hbx.2.2.1 (by rw[hk,e2]),h.inj,h.nr,h.no,h.ro,h.mH,h.keep.trans (zO _ _ _ _ h.mH)⟩,fun k c t hk t1 t2 t3=>(e k fun e2=>?_).trans hk⟩;rw[e2,h.blk] at hk;injection hk with hk;injection hk with _ hk;exact t3 hk.symm
end
end
section
attribute [local go_sem ↓] Go.wp_at_zero Go.wp_at_succ
def Mk.addN (m:Mk)(most:Nat):Nat:=if most<=m.next.length then 0 else m.next.length
def Mk.add (m:Mk)(most:Nat)(rule:Int):Mk:=if most<=m.next.length then{m with full:=true} else{m with next:=m.next++[zeros],rules:=m.rules++[rule]}
theorem MwIs.grown {w0 w w2:World}{mb kb most:Nat}{m:Mk}(h:MwIs w0 w mb kb most m)(hk:Grew w w2):MwIs w0 w2 mb kb most m:=by
 obtain⟨nv,rv,ov,gs,h⟩:=h;exact⟨nv,rv,ov,gs,h.grown hk⟩
theorem zD6 (w0 w:World)(mb kb most:Nat)(m:Mk)(h:MwIs w0 w mb kb most m)(hmost:most<=1000000)(hr:m.rules.length<=1000000)(rule:Int):
  Calls prog 133 #[pointer (some ⟨mb,0,none⟩),int i64 rule] w fun e w'=>e=returned (int i64 ((m.addN most:Nat):Int))∧MwIs w0 w' mb kb most (m.add most rule)∧StayT w w':=by
 obtain⟨i0,hi0,hz0,hz1,hz2⟩:=info_parts yJ;obtain⟨ii1,hi1,hy0,hy1,hy2⟩:=info_parts zFd;obtain⟨nv,rv,ov,gs,h⟩:=h;obtain⟨an,cn,hnv⟩:=zG h.nOwn;obtain⟨ar,cr,hrv⟩:=h.rOwn.form;subst hnv hrv;obtain⟨x0,x1,x2,x3,x4,x6,xf⟩:=h.cells;have xf2:=xf 2;have xf3:=xf 3;have HM:=vl h;have hlt:=h.lt;by_cases hc:most<=m.next.length
 ·have HZ:Hid (m.addN most=0∧m.add most rule={m with full:=true}):=⟨by unfold Mk.addN;rw[if_pos hc],by unfold Mk.add;rw[if_pos hc]⟩
  have i1:(m.next.length:Int)>=(most:Int):=by omega
  go_in;go_wp2;go_quiet (fail);have HM2:=vl <| HM.out.grown (Keep.alike (w':=w.drewN nq) ⟨rfl,rfl,rfl⟩);go_wp2;go_ret;refine⟨by rw[HZ.out.1];rfl,by rw[HZ.out.2];exact⟨_,_,_,_,HM2.out.fill.1⟩,?_⟩;exact StayT.trans (Keep.stayT (Keep.alike (w':=w.drewN nq) ⟨rfl,rfl,rfl⟩)) HM2.out.fill.2
 ·have HZ:Hid (m.addN most=m.next.length∧m.add most rule={m with next:=m.next++[zeros],rules:=m.rules++[rule]}):=⟨by unfold Mk.addN;rw[if_neg hc],by unfold Mk.add;rw[if_neg hc]⟩
  have i1:¬((m.next.length:Int)>=(most:Int)):=by omega
  have hnl:m.next.length<=1000000:=by omega
  go_in;go_wp2;go_quiet (fail);have HM2:Hid (Mw w0 (w.drewN nq) mb kb most m (slice an m.next.length cn) (slice ar m.rules.length cr) ov gs∧StayT w (w.drewN nq)):=⟨HM.out.grown (Keep.alike (w':=w.drewN nq) ⟨rfl,rfl,rfl⟩),Keep.stayT (Keep.alike (w':=w.drewN nq) ⟨rfl,rfl,rfl⟩)⟩
  generalize w.drewN nq=w3 at *;obtain⟨x0,x1,x2,x3,x4,x6,xf⟩:=HM2.out.1.cells;have xf3:=xf 3;have hlt:=HM2.out.1.lt;go_wp2;obtain⟨w4,hmk,ho4,hg4⟩:=run_makeSlice_full (P:=prog) w3.drew w3.heap.size 45 3 i0 _ 1 underlying45 hi0 hz0 hz1 i64 i64 256 (by omega) (by rw[hz2];omega) (by unfold maxLen;omega) lQ;have HK4:Hid (Grew w3 w4∧w4.heap[w3.heap.size]? =some (.cells (zCU zeros) 3)):=by
   refine⟨⟨hg4.os,hg4.output,hg4.size,fun k hk _=>hg4.block k hk (by simp)⟩,?_⟩;have h:=ho4;rw[Nat.mul_one,zAc _ rfl] at h;exact zL9 h
  have HM4:=vl <| HM2.out.1.grown HK4.out.1;have x3a:=HM4.out.cells.2.2.2.1;have xf3a:=HM4.out.cells.2.2.2.2.2.2 3;have hlt4:=HM4.out.lt;have HNP:=vl HM4.out.box.1;have hH4:=HM4.out.keep.size;have OW:=HM4.out.nOwn;have hmk2:Sem.run prog (Instr.makeSlice 45 (int i64 256) (int i64 256)) w3.drew=.ok (slice (some ⟨w3.heap.size,0,none⟩) 256 256) w4:=hmk;go_region_law ((first
   |(refine step_append_lies _ (by rfl) (.tmp 24) (.tmp 26) 88 (by rfl) w0.heap.size 45 ii1 _ 1 24 underlying88 hi1 hy0 hy1 hy2 rfl (by decide) (slice an m.next.length cn) m.next.length ((List.range m.next.length).map fun i=>slice (some ⟨gs i,0,none⟩) 256 256) (by simp[Act.eval,Act.put]) (OW.alloc _) ⟨w4.heap.size,0,none⟩ 1 1 [slice (some ⟨w3.heap.size,0,none⟩) 256 256] (by simp[Act.eval,Act.put]) (by rfl) (news_of_block (cs:=#[slice (some ⟨w3.heap.size,0,none⟩) 256 256]) (t:=45) (fr:=(0,0)) (gU w4 _)) (by simp[Value.oneCell']) (by decide) (by unfold maxLen;omega) (by omega) (by simp;omega) (w4.heap.size+1) (by simp) ?_;intro gg cap w5 hown hgrow hat hlt5;have hPB:=hgrow.block mb (by simp;omega) HNP.out;have x3b:w5.cell? ⟨mb,3,none⟩=some (slice an m.next.length cn):=(cell?_of_block hPB).trans ((cell?_alloc_past _ _ _ hlt4).trans x3a);have xf3b:w5.frozen? ⟨mb,3,none⟩=false:=(frozen?_of_block hPB).trans ((frozen?_alloc_past _ _ _ hlt4).trans xf3a))))
  all_goals
   have HM6:Hid (Mw w0 (w5.setCell ⟨mb,3,none⟩ (slice (some ⟨gg,0,none⟩) (m.next.length+1) cap)) mb kb most {m with next:=m.next++[zeros]} (slice (some ⟨gg,0,none⟩) (m.next.length+1) cap) (slice ar m.rules.length cr) ov (fun i=>if i=m.next.length then w3.heap.size else gs i)∧StayT w (w5.setCell ⟨mb,3,none⟩ (slice (some ⟨gg,0,none⟩) (m.next.length+1) cap))):=by
    have h:=HM2.out.1.newRow rfl HK4.out.1 HK4.out.2 hown hgrow (by
     rcases hat with ha|ha
     ·exact .inl ha
     ·right;rw[ha];omega)
    exact⟨h.1,HM2.out.2.trans h.2⟩
   generalize w5.setCell ⟨mb,3,none⟩ (slice (some ⟨gg,0,none⟩) (m.next.length+1) cap)=w6 at *;have v3:=HM6.out.1.cells.2.2.2.1;have v4:=HM6.out.1.cells.2.2.2.2.1;have hl6:=HM6.out.1.lt;have hH6:w0.heap.size<=w6.heap.size:=HM6.out.1.keep.size;have OR:w6.ownsRow w0.heap.size 3 1 (slice ar m.rules.length cr) m.rules.length (m.rules.map fun x=>int i64 x):=HM6.out.1.rOwn;go_wp2_with (first|(at_builtin;refine wpList_append_lies _ rfl _ _ 45 rfl (w0.heap.size) 3 i0 (int i64 0) 1 8 underlying45 hi0 hz0 hz1 hz2 rfl (by decide) _ _ _ rfl (OR.alloc _) ⟨w6.heap.size,0,none⟩ 1 1 [int i64 rule] rfl rfl (cell_one_new _ _ _) (by intro u hu;simp at hu;subst hu;rfl) (by decide) (by unfold maxLen;omega) (by omega) (by simp;omega) _ rfl ?_;intro g2 cap2 w7 hown2 hgrow2 hat2 hlt7;have hPB2:w7.heap[mb]? =w6.heap[mb]? :=(hgrow2.block _ (by simp;omega) HM6.out.1.box.2.1).trans (lG _ _ _ (by omega));have t4:w7.cell? ⟨mb,4,none⟩=some (slice ar m.rules.length cr):=(cell?_of_block hPB2).trans v4;have g4:w7.frozen? ⟨mb,4,none⟩=false:=(frozen?_of_block hPB2).trans (HM6.out.1.cells.2.2.2.2.2.2 4);have HM8:=vl <| HM6.out.1.newRule rfl hown2 hgrow2 (by rcases hat2 with ha|ha;exact .inl ha;right;rw[ha];simp);have t3:=HM8.out.1.cells.2.2.2.1))
   go_ret;refine⟨?_,by rw[HZ.out.2];exact⟨_,_,_,_,HM8.out.1⟩,HM6.out.2.trans HM8.out.2⟩;rw[HZ.out.1]
   first|rfl|(simp;done)|(show _=_;congr 2;omega)
end
def Mk.put (m:Mk)(s b:Nat)(x:Int):Mk:={m with next:=m.next.set s ((m.next.getD s []).set b x)}
theorem zJo (w0 w:World)(mb kb most:Nat)(m:Mk)(h:MwIs w0 w mb kb most m)(kind b s:Nat)(hk:kind<m.of.length)(hs:m.of.getD kind 0=(s:Int))(hsl:s<m.next.length)(hb:b<256)(x:Int):
  Calls prog 135 #[pointer (some ⟨mb,0,none⟩),int i64 (kind:Int),int i64 (b:Int),int i64 x] w fun e w'=>e=returned (tuple #[])∧MwIs w0 w' mb kb most (m.put s b x)∧StayT w w':=by
 obtain⟨nv,rv,ov,gs,h⟩:=h;obtain⟨ao,co,hov⟩:=h.oOwn.form;subst hov;obtain⟨go,rfl⟩:=h.oOwn.some (by omega);obtain⟨gn,cn,hnv,_,_,_,_,hnc,_⟩:=h.nOwn.get (by omega);subst hnv;obtain⟨x0,x1,x2,x3,x4,x6,xf⟩:=h.cells;have c1:=h.oOwn.cell kind hk;rw[hs] at c1;have c2:=hnc s hsl;obtain⟨c3,c4⟩:=h.row s b hsl hb;have HM:=h.put s b hsl x;have HM2:=vl HM;have i1:(kind:Int)<(m.of.length:Int):=by omega
 have i2:(s:Int)<(m.next.length:Int):=by omega
 have i3:(b:Int)<256:=by omega
 generalize (m.next.getD s []).getD b 0=old at *;go_in;go_wp2;go_region;go_wp2;go_end0;exact⟨rfl,⟨_,_,_,_,HM2.out.1.grown (Keep.drew _)⟩,HM2.out.2.trans (Keep.stayT (Keep.drew _))⟩
structure Kd.Ok (k:Kd)(a:Ar):Prop where
 lows:0<a.lows.length
 few:a.lows.length<=1000000000000
 good:a.Good 24
 lens:k.rules.length=k.rows.length
 wide:∀i,i<k.rows.length->(k.rows.getD i []).length=a.sets.length
 in_:∀i l,i<k.rows.length->l<a.sets.length->(k.rows.getD i []).getD l 0<k.rows.length
 start:k.start<k.rows.length
theorem zLy (lows:List Int)(n:Int)(h:0<lows.length):vY lows n lows.length 0 lows.length<lows.length:=zIF _ _ _ _ _ h
theorem Kd.Ok.letter {k:Kd}{a:Ar}(h:k.Ok a)(c:Int):∃l:Nat,a.letter c=(l:Int)∧l<a.sets.length:=by
 have h1:a.area c<a.letters.length:=by
  rw[<-h.good.lens];exact zLy a.lows c h.lows
 have h2:=h.good.letters _ (zS a.letters (a.area c) 0 h1);refine⟨(a.letters.getD (a.area c) 0).toNat,?_,by omega⟩;show a.letters.getD (a.area c) 0=_;omega
def Mk.behind (m:Mk)(k:Kd)(a:Ar)(kind:Nat)(c:Int):Int:=m.of.getD ((k.rows.getD kind []).getD (a.letter c).toNat 0) 0
theorem KdAt.grown {w w2:World}{kb:Nat}{a:Ar}{k:Kd}(h:KdAt w kb a k)(hk:Grew w w2):KdAt w2 kb a k:=by
 obtain⟨hl,lv,tv,sv,nv,rv,h1,h2,h3,h4⟩:=h;exact⟨lZ hl hk.size,lv,tv,sv,nv,rv,(hk.block kb hl (kJ hl)).trans h1,h2.grown hk,h3.grown hk,h4.grown hk⟩
theorem zBW (w0 w:World)(mb kb most:Nat)(m:Mk)(h:MwIs w0 w mb kb most m)(k:Kd)(a:Ar)(hK:KdAt w0 kb a k)(ok:k.Ok a)(kind:Nat)(hk:kind<k.rows.length)(hof:m.of.length=k.rows.length)(c:Int):
  Calls prog 134 #[pointer (some ⟨mb,0,none⟩),int i64 (kind:Int),int i64 c] w fun e w'=>e=returned (int i64 (m.behind k a kind c))∧Grew w w':=by
 obtain⟨nv,rv,ov,gs,h⟩:=h;have hK2:=hK.grown h.keep;obtain⟨hkl,lv,tv,sv,kn,kr,hkb,hka,hkn,hkr⟩:=hK2;obtain⟨al,cl,hal,-⟩:=id hka.lows;obtain⟨at_,ct,hat,-⟩:=id hka.letters;obtain⟨as_,cs,has,-⟩:=id hka.sets;have HLt:=vl <| zGZ w lv tv sv a hka ok.few ok.lows ok.good.lens.symm c;obtain⟨l,hl1,hl2⟩:=ok.letter c;have HV:Hid (m.behind k a kind c=m.of.getD ((k.rows.getD kind []).getD l 0) 0):=by
  show m.of.getD ((k.rows.getD kind []).getD (a.letter c).toNat 0) 0=_;rw[hl1];rfl
 rw[hl1] at HLt;have hin:=ok.in_ kind l hk hl2;obtain⟨bn,on,cn,hkn2,hbn,_,_,hknc⟩:=hkn.block (by rw[kV];omega);obtain⟨ur,hur,huI⟩:=hknc kind (by rw[kV];exact hk);have hge:(k.rows.map ints).getD kind []=ints (k.rows.getD kind []):=by
  rw[lW,lW,gV];cases k.rows[kind]? <;> rfl
 rw[hge] at huI;have hwd:=ok.wide kind hk;obtain⟨br,or_,cr,hur2,hbr,_,_,hrc⟩:=huI.block (by rw[zN,hwd];omega);have hc5:=hrc l (by rw[zN,hwd];exact hl2);rw[vF] at hc5;rw[zN,hwd] at hur2;rw[kV] at hkn2;subst hal hat has hkn2 hur2;obtain⟨ao,co,hov⟩:=h.oOwn.form;subst hov;obtain⟨go,rfl⟩:=h.oOwn.some (by omega);obtain⟨x0,x1,x2,x3,x4,x6,xf⟩:=h.cells;have c1:=h.oOwn.cell _ (show (k.rows.getD kind []).getD l 0<m.of.length by omega);have hgo:=(h.oOwn.lt go rfl).2;have k0:w.cell? ⟨kb,0,none⟩=some (slice al a.lows.length cl):=by unfold cell?;rw[hkb];rfl
 have k1:w.cell? ⟨kb,1,none⟩=some (slice at_ a.letters.length ct):=by unfold cell?;rw[hkb];rfl
 have k2:w.cell? ⟨kb,2,none⟩=some (slice as_ a.sets.length cs):=by unfold cell?;rw[hkb];rfl
 have k3:w.cell? ⟨kb,3,none⟩=some (slice (some ⟨bn,on,none⟩) k.rows.length cn):=by unfold cell?;rw[hkb];rfl
 have HG:Hid (∀w2,Grew w w2->w2.cell? ⟨mb,6,none⟩=some (slice (some ⟨go,0,none⟩) m.of.length co)∧w2.cell? ⟨mb,0,none⟩=some (pointer (some ⟨kb,0,none⟩))∧w2.cell? ⟨kb,3,none⟩=some (slice (some ⟨bn,on,none⟩) k.rows.length cn)∧w2.cell? ⟨bn,on+kind,none⟩=some (slice (some ⟨br,or_,none⟩) a.sets.length cr)∧w2.cell? ⟨br,or_+l,none⟩=some (int i64 (((k.rows.getD kind []).getD l 0:Nat):Int))∧w2.cell? ⟨go,(k.rows.getD kind []).getD l 0,none⟩=some (int i64 (m.of.getD ((k.rows.getD kind []).getD l 0) 0))):=fun w2 hk2=>⟨zA x6 h.lt hk2,zA x0 h.lt hk2,zA k3 hkl hk2,zA hur hbn hk2,zA hc5 hbr hk2,zA c1 hgo hk2⟩
 have i1:(kind:Int)<(k.rows.length:Int):=by omega
 have i2:(l:Int)<(a.sets.length:Int):=by omega
 have i3:(((k.rows.getD kind []).getD l 0:Nat):Int)<(m.of.length:Int):=by omega
 have hofl:=hof;generalize (k.rows.getD kind []).getD l 0=z at *;generalize m.of.getD z 0=y at *;go_in;go_wp2_with (first|(go_at_call 175;refine HLt.out.mono ?_;rintro e w2 ⟨rfl,hk2⟩;obtain⟨v0,v1,v2,v3,v4,v5⟩:=HG.out w2 hk2))
 go_quiet (fail);go_wp2;go_ret;exact⟨by rw[HV.out];rfl,hk2.trans (Keep.lower (Keep.alike (w':=w2.drewN nq) ⟨rfl,rfl,rfl⟩) hk2.size hk2.size)⟩
def nz (f:Nat->Int):Bool:=(List.range 64).all fun i=>f i==0
theorem zGw:a64 (fun _=>0)=(#[int i64 0,int i64 0,int i64 0,int i64 0,int i64 0,int i64 0,int i64 0,int i64 0,int i64 0,int i64 0,int i64 0,int i64 0,int i64 0,int i64 0,int i64 0,int i64 0,int i64 0,int i64 0,int i64 0,int i64 0,int i64 0,int i64 0,int i64 0,int i64 0,int i64 0,int i64 0,int i64 0,int i64 0,int i64 0,int i64 0,int i64 0,int i64 0,int i64 0,int i64 0,int i64 0,int i64 0,int i64 0,int i64 0,int i64 0,int i64 0,int i64 0,int i64 0,int i64 0,int i64 0,int i64 0,int i64 0,int i64 0,int i64 0,int i64 0,int i64 0,int i64 0,int i64 0,int i64 0,int i64 0,int i64 0,int i64 0,int i64 0,int i64 0,int i64 0,int i64 0,int i64 0,int i64 0,int i64 0,int i64 0]:Array Value):=rfl
theorem zJ6 (w:World)(d:Nat)(f g:Nat->Int):∀is:List Nat,(∀i∈is,i<64)->(Op.eqItems (d+1) 3 (prog.cellsOf 3) (a64 f) (a64 g) is).run prog w=.ok (is.all fun i=>f i==g i) w
 |[],_=>rfl
 |i::is,h=>by
  have hi:=h i (gY);have e1:prog.cellsOf 3=1:=by kernel_rfl
  have hp:prog.plainKey 3=true:=by kernel_rfl
  have p1:=run_part_plain (P:=prog) w (e:=3) hp (xs:=a64 f) (off:=i*1) (v:=int i64 (f i)) (by rw[Nat.mul_one];exact jL f i hi);have p2:=run_part_plain (P:=prog) w (e:=3) hp (xs:=a64 g) (off:=i*1) (v:=int i64 (g i)) (by rw[Nat.mul_one];exact jL g i hi);have ih:=zJ6 w d f g is fun j hj=>h j (List.mem_cons_of_mem _ hj);have p3:=run_equalIn_int (P:=prog) w d 3 i64 i64 (f i) (g i) underlying3;rw[e1] at ih ⊢;simp only[Op.eqItems,Sem.run_bind,p1,p2,p3,Result.andThen_ok,List.all_cons];cases f i==g i
  ·rfl
  ·simpa using ih
theorem zNr (w:World)(f:Nat->Int):(Op.equalIn 10000 246 (agg (a64 f)) (agg (#[int i64 0,int i64 0,int i64 0,int i64 0,int i64 0,int i64 0,int i64 0,int i64 0,int i64 0,int i64 0,int i64 0,int i64 0,int i64 0,int i64 0,int i64 0,int i64 0,int i64 0,int i64 0,int i64 0,int i64 0,int i64 0,int i64 0,int i64 0,int i64 0,int i64 0,int i64 0,int i64 0,int i64 0,int i64 0,int i64 0,int i64 0,int i64 0,int i64 0,int i64 0,int i64 0,int i64 0,int i64 0,int i64 0,int i64 0,int i64 0,int i64 0,int i64 0,int i64 0,int i64 0,int i64 0,int i64 0,int i64 0,int i64 0,int i64 0,int i64 0,int i64 0,int i64 0,int i64 0,int i64 0,int i64 0,int i64 0,int i64 0,int i64 0,int i64 0,int i64 0,int i64 0,int i64 0,int i64 0,int i64 0]:Array Value))).run prog w=.ok (nz f) w:=by
 obtain⟨i0,hi0,-⟩:=info_parts yJ;rw[<-zGw,run_equalIn_array (P:=prog) w 9999 (a64 f) (a64 fun _=>0) underlying246 hi0];exact zJ6 w 9998 f (fun _=>0) (List.range 64) fun i hi=>List.mem_range.1 hi
section
def Mk.fillTo (m:Mk)(s:Nat)(f:Nat->Int):Nat->Mk
 |0=>m
 |j+1=>(m.fillTo s f j).put s (128+j) (f j)
theorem zCW (m:Mk)(s b:Nat)(x:Int):(m.put s b x).next.length=m.next.length:=List.length_set ..
theorem zBm (m:Mk)(s:Nat)(f:Nat->Int)(j:Nat):(m.fillTo s f j).next.length=m.next.length:=by
 induction j with
 |zero=>rfl
 |succ j ih=>rw[Mk.fillTo,zCW,ih]
def Mk.seek (m:Mk)(f:Nat->Int):Nat:=m.next.findIdx fun row=>qG row f
def Mk.withN (m:Mk)(most:Nat)(f:Nat->Int):Nat:=if nz f=true then 0 else if m.seek f<m.next.length then m.seek f else m.addN most
def Mk.withM (m:Mk)(most:Nat)(f:Nat->Int):Mk:=if nz f=true then m else if m.seek f<m.next.length then m else if m.addN most=0 then m.add most (-1) else(m.add most (-1)).fillTo (m.addN most) f 64
theorem zMY (l:List (List Int))(f:Nat->Int)(j:Nat)(hj:j<l.length)(h:qG (l.getD j []) f=true)(hn:∀i,i<j->qG (l.getD i []) f=false):l.findIdx (fun row=>qG row f)=j:=by
 rw[List.findIdx_eq hj];rw[lW,lV hj] at h;refine⟨h,fun i hi=>?_⟩;have:=hn i hi;rw[lW,lV (by omega)] at this;exact this
theorem zKI (l:List (List Int))(f:Nat->Int)(hn:∀i,i<l.length->qG (l.getD i []) f=false):l.findIdx (fun row=>qG row f)=l.length:=by
 rw[List.findIdx_eq_length];intro y hy;obtain⟨i,hi,rfl⟩:=List.getElem_of_mem hy;have:=hn i hi;rw[lW,lV hi] at this;exact this
section
variable {w0 w w2:World} {mb kb most:Nat} {m:Mk} {nv rv ov:Value} {gs:Nat->Nat}
theorem Mw.rowInts (h:Mw w0 w mb kb most m nv rv ov gs)(i:Nat)(hi:i<m.next.length):Ints w (In w) (slice (some ⟨gs i,0,none⟩) 256 256) (m.next.getD i []):=by
 have hl:=(h.each i hi).2.2;exact⟨_,256,by rw[hl],by rw[hl];exact lQ,by unfold maxLen;omega,fun b hb=>⟨gs i,0,rfl,h.gl i hi,by rw[Nat.zero_add];exact(h.row i b hi (by omega)).1⟩⟩
theorem Mw.rows (h:Mw w0 w mb kb most m nv rv ov gs):∃an cn,nv=slice an m.next.length cn∧w.cell? ⟨mb,3,none⟩=some (slice an m.next.length cn)∧∀i,i<m.next.length->∃g,an=some ⟨g,0,none⟩∧g<w.heap.size∧w.cell? ⟨g,i,none⟩=some (slice (some ⟨gs i,0,none⟩) 256 256):=by
 obtain⟨an,cn,hnv⟩:=zG h.nOwn;refine⟨an,cn,hnv,by rw[<-hnv];exact h.cells.2.2.2.1,fun i hi=>?_⟩;obtain⟨g,cp,hv,_,hl,_,_,hc,_⟩:=h.nOwn.get (by omega);rw[hnv] at hv;injection hv with e1 _ _;exact⟨g,e1,hl,hc i hi⟩
end
theorem zEw (w0 w:World)(mb kb most:Nat)(m:Mk)(h:MwIs w0 w mb kb most m)(hmost:most<=1000000)(hr:m.rules.length<=1000000)(hnl:m.next.length<=1000000)(f:Nat->Int):
  Calls prog 179 #[pointer (some ⟨mb,0,none⟩),agg (a64 f)] w fun e w'=>e=returned (int i64 ((m.withN most f:Nat):Int))∧MwIs w0 w' mb kb most (m.withM most f)∧StayT w w':=by
 have HLN:=vl <| zJ5 f;have HRG:Hid (∀wr:World,wr.heap[w.heap.size]? =some (.cells (a64 f) 246)->wr.rangeAt w.heap.size 0 (a64 f).toList):=fun wr hb=>zEn wr w.heap.size f hb;have HB0:Hid ((w.alloc (.cells (a64 f) 246)).heap[w.heap.size]? =some (.cells (a64 f) 246)):=gU _ _;have heq:=zNr (w.alloc (.cells (a64 f) 246)) f;have HKA:Hid (Grew w (w.alloc (.cells (a64 f) 246))):=kZ _ _ lQ;have HM0:Hid (MwIs w0 (w.alloc (.cells (a64 f) 246)) mb kb most m):=h.grown HKA.out;have HLE:Hid (∀(wr:World) v row,Ints wr (In wr) v row->row.length=256->Ca 186 #[v,agg (a64 f)] wr fun e w'=>e=returned (bool (qG row f))∧Grew wr w'):=fun wr v row hR hr=>zFN wr v row hR hr f;have HIX:Hid (∀w i,i<64->Sem.run prog (Instr.index 246 (agg (a64 f)) (int i64 ((i:Nat):Int))) w=.ok (int i64 (f i)) w):=fun w i=>zJ8 w f i;have HAG:Hid (∀i,i<64->(a64 f)[i]? =some (int i64 (f i))):=jL f;have HS1:Hid (∀j,j<m.next.length->qG (m.next.getD j []) f=true->(∀i,i<j->qG (m.next.getD i []) f=false)->m.seek f=j):=fun j hj h hn=>zMY m.next f j hj h hn
 have HS2:Hid ((∀i,i<m.next.length->qG (m.next.getD i []) f=false)->m.seek f=m.next.length):=fun h=>zKI m.next f h
 have HN:Hid (m.withN most f=if nz f=true then 0 else if m.seek f<m.next.length then m.seek f else m.addN most):=rfl;have HW:Hid (m.withM most f=if nz f=true then m else if m.seek f<m.next.length then m else if m.addN most=0 then m.add most (-1) else(m.add most (-1)).fillTo (m.addN most) f 64):=rfl;clear h;generalize a64 f=A at *;obtain⟨w1,hw1⟩:∃w1,w1=w.alloc (.cells A 246):=⟨_,rfl⟩
 rw[<-hw1] at HB0 heq HKA HM0;cases hz:nz f with
 |true=>
  rw[hz] at heq;have HZ:Hid (m.withN most f=0∧m.withM most f=m):=⟨by rw[HN.out,if_pos hz],by rw[HW.out,if_pos hz]⟩
  clear hz;have HR1:Hid (w1.rangeAt w.heap.size 0 A.toList):=HRG.out w1 HB0.out;go_in;apply wp_cut;intro K0 J;go_wp2;apply J.out;clear J;rw[<-hw1];clear hw1;go_wp2_with (first|(refine wpList_load_mid rfl 246 (.tmp 3) rfl w.heap.size 0 rfl A.toList (.array 64 3) HR1.out underlying246 rfl HLN.out ?_))
  go_ret;exact⟨by rw[HZ.out.1];rfl,by rw[HZ.out.2];exact HM0.out,HKA.out.stayT⟩
 |false=>
  rw[hz] at heq;have HN2:Hid (m.withN most f=if m.seek f<m.next.length then m.seek f else m.addN most):=by show _=_;rw[HN.out,if_neg (by rw[hz];decide)]
  have HW2:Hid (m.withM most f=if m.seek f<m.next.length then m else if m.addN most=0 then m.add most (-1) else(m.add most (-1)).fillTo (m.addN most) f 64):=by show _=_;rw[HW.out,if_neg (by rw[hz];decide)]
  clear hz HN HW;have HR1:Hid (w1.rangeAt w.heap.size 0 A.toList):=HRG.out w1 HB0.out;obtain⟨nv,rv,ov,gs,h1⟩:=HM0.out;obtain⟨an,cn,hnv,x3,hrow⟩:=h1.rows;have HM1:Hid (Mw w0 w1 mb kb most m nv rv ov gs):=h1;have HRW:Hid (∀i,i<m.next.length->∃g,an=some ⟨g,0,none⟩∧g<w1.heap.size∧w1.cell? ⟨g,i,none⟩=some (slice (some ⟨gs i,0,none⟩) 256 256)):=hrow;clear h1 hrow;go_in;apply wp_cut;intro K0 J;go_wp2;apply J.out;clear J;rw[<-hw1];clear hw1;go_wp2_with (first|(refine wpList_load_mid rfl 246 (.tmp 3) rfl w.heap.size 0 rfl A.toList (.array 64 3) HR1.out underlying246 rfl HLN.out ?_))
  clear heq;go_loopg [19] m.next.length (fun k i wr=>∃j:Nat,k=m.next.length-j∧j<=m.next.length∧i=int i64 (j:Int)∧(∀i,i<j->qG (m.next.getD i []) f=false)∧Grew w1 wr)
  case atStart=>exact⟨0,rfl,lX,rfl,fun i hi=>by omega,⟨rfl,rfl,lQ,fun _ _ _=>rfl⟩⟩
  case round=>
   obtain⟨j,hgk,hj,rfl,hno,hkp⟩:=hrel;have HB:Hid (gk=m.next.length-j∧(∀i,i<j->qG (m.next.getD i []) f=false)∧Grew w1 wr):=⟨hgk,hno,hkp⟩
   have hbl:w.heap.size<w1.heap.size:=(kQ.1 HB0.out).1;have HB2:Hid (wr.heap[w.heap.size]? =some (.cells A 246)):=(hkp.block _ hbl (kJ hbl)).trans HB0.out;have HR2:Hid (wr.rangeAt w.heap.size 0 A.toList):=HRG.out wr HB2.out;by_cases hj2:j<m.next.length
   ·have i1:(j:Int)<(m.next.length:Int):=by omega
    obtain⟨g,rfl,hgl,hc⟩:=HRW.out j hj2;have y1:=zA hc hgl hkp;have HC:Hid (Ca 186 #[slice (some ⟨gs j,0,none⟩) 256 256,agg A] wr fun e w'=>e=returned (bool (qG (m.next.getD j []) f))∧Grew wr w'):=HLE.out wr _ _ ((HM1.out.grown hkp).rowInts j hj2) (HM1.out.each j hj2).2.2;have HS3:Hid (qG (m.next.getD j []) f=true->m.seek f=j):=fun h=>HS1.out j hj2 h HB.out.2.1;have HN3:Hid (qG (m.next.getD j []) f=false->∀i,i<j+1->qG (m.next.getD i []) f=false):=fun h i hi=>by
     by_cases e:i=j
     ·rw[e];exact h
     ·exact HB.out.2.1 i (by omega)
    clear hgk hno hkp hc;cases hlb:qG (m.next.getD j []) f with
    |true=>
     rw[hlb] at HC;have HSK:=HS3.out hlb;have HZ:Hid (m.withN most f=j∧m.withM most f=m):=⟨by rw[HN2.out,HSK,if_pos hj2],by rw[HW2.out,HSK,if_pos hj2]⟩
     clear hlb HSK;go_wp2_with (first|(refine wpList_load_mid rfl 246 (.tmp 3) rfl w.heap.size 0 rfl A.toList (.array 64 3) HR2.out underlying246 rfl HLN.out ?_)|(go_at_call 186;refine HC.out.mono ?_;rintro e w5 ⟨rfl,hk5⟩))
     go_ret;have hk6:=HB.out.2.2.trans (hk5.lower HB.out.2.2.size HB.out.2.2.size);exact⟨by rw[HZ.out.1];rfl,by rw[HZ.out.2];exact⟨_,_,_,_,HM1.out.grown hk6⟩,StayT.trans HKA.out.stayT hk6.stayT⟩
    |false=>
     rw[hlb] at HC;have HR:Hid (∀i,i<j+1->qG (m.next.getD i []) f=false):=HN3.out hlb;clear hlb;go_wp2_with (first|(refine wpList_load_mid rfl 246 (.tmp 3) rfl w.heap.size 0 rfl A.toList (.array 64 3) HR2.out underlying246 rfl HLN.out ?_)|(go_at_call 186;refine HC.out.mono ?_;rintro e w5 ⟨rfl,hk5⟩))
     go_roundg (m.next.length-(j+1))
     case measure=>rw[HB.out.1];omega
     case rel=>exact⟨j+1,rfl,by omega,by go_num,HR.out,HB.out.2.2.trans (hk5.lower HB.out.2.2.size HB.out.2.2.size)⟩
   ·have i1:(m.next.length:Int)<=(j:Int):=by omega
    have hsk:m.seek f=m.next.length:=HS2.out fun i hi=>hno i (by omega)
    have HN3:Hid (m.withN most f=m.addN most):=by show _=_;rw[HN2.out,hsk,if_neg (Nat.lt_irrefl _)]
    have HW3:Hid (m.withM most f=if m.addN most=0 then m.add most (-1) else(m.add most (-1)).fillTo (m.addN most) f 64):=by show _=_;rw[HW2.out,hsk,if_neg (Nat.lt_irrefl _)]
    have HAdd:Hid (Ca 133 #[pointer (some ⟨mb,0,none⟩),int i64 (-1)] wr fun e w'=>e=returned (int i64 ((m.addN most:Nat):Int))∧MwIs w0 w' mb kb most (m.add most (-1))∧StayT wr w'):=zD6 w0 wr mb kb most m ⟨_,_,_,_,HM1.out.grown hkp⟩ hmost hr (-1);have HST:Hid (StayT w wr):=StayT.trans HKA.out.stayT hkp.stayT;have HADL:Hid (m.addN most≠0->m.addN most<(m.add most (-1)).next.length):=fun h=>by
     unfold Mk.addN at h ⊢;unfold Mk.add;by_cases e:most<=m.next.length
     ·rw[if_pos e] at h;exact absurd rfl h
     ·rw[if_neg e,if_neg e];show _<(m.next++[zeros]).length;simp
    clear hgk hno hkp hsk HN2 HW2 HM1 HRW x3;by_cases hs0:m.addN most=0
    ·rw[hs0] at HAdd HN3
     have HW4:Hid (m.withM most f=m.add most (-1)):=by show _=_;rw[HW3.out,if_pos hs0]
     clear HW3 HADL hs0;go_wp2_with (first|(go_at_call 133;refine HAdd.out.mono ?_;rintro e w5 ⟨rfl,hM5,hS5⟩))
     go_ret;exact⟨by rw[HN3.out];rfl,by rw[HW4.out];exact hM5,HST.out.trans hS5⟩
    ·have hsl:=HADL.out hs0
     have HW4:Hid (m.withM most f=(m.add most (-1)).fillTo (m.addN most) f 64):=by show _=_;rw[HW3.out,if_neg hs0]
     have hc0:(((m.addN most:Nat):Int)==0)=false:=by rw[hJ];omega
     clear HW3 HADL hs0;generalize m.add most (-1)=m2 at *;generalize m.addN most=s at *;go_wp2_with (first|(go_at_call 133;refine HAdd.out.mono ?_;rintro e w5 ⟨rfl,hM5,hS5⟩;have HB5:w5.heap[w.heap.size]? =some (.cells A 246):=hS5 _ _ _ HB2.out (by decide) (by decide) (by decide);have HR5:=HRG.out w5 HB5)|(refine wpList_load_mid rfl 246 (.tmp 3) rfl w.heap.size 0 rfl A.toList (.array 64 3) HR5 underlying246 rfl HLN.out ?_))
     have HI5:Hid (MwIs w0 w5 mb kb most m2∧StayT w w5):=⟨hM5,HST.out.trans hS5⟩
     clear hM5 hS5 HB5 HR5;go_loopg [34] 64 (fun k i wr=>∃j:Nat,k=64-j∧j<=64∧i=int i64 (j:Int)∧MwIs w0 wr mb kb most (m2.fillTo s f j)∧StayT w wr)
     case atStart=>exact⟨0,rfl,lX,rfl,HI5.out.1,HI5.out.2⟩
     case round=>
      obtain⟨t,hgk,ht,rfl,hMt,hSt⟩:=hrel;have HE:Hid (gk=64-t∧MwIs w0 wr mb kb most (m2.fillTo s f t)∧StayT w wr):=⟨hgk,hMt,hSt⟩
      by_cases ht2:t<64
      ·have i2:(t:Int)<64:=by omega
       have i4:(128:Int)+(t:Int)<256:=by omega
       obtain⟨nv2,rv2,ov2,gs2,hM⟩:=hMt;have hfl:=zBm m2 s f t;obtain⟨an2,cn2,hnv2,v3,hrow2⟩:=hM.rows;obtain⟨g2,rfl,_,hc2⟩:=hrow2 s (by omega);obtain⟨c3,c4⟩:=hM.row s (128+t) (by omega) (by omega);have hput:=hM.put s (128+t) (by omega) (f t);have HPT:Hid (MwIs w0 (wr.setCell ⟨gs2 s,128+t,none⟩ (int i64 (f t))) mb kb most (m2.fillTo s f (t+1))∧StayT w (wr.setCell ⟨gs2 s,128+t,none⟩ (int i64 (f t)))):=⟨⟨_,_,_,_,hput.1⟩,hSt.trans hput.2⟩
       have hix:=HIX.out wr t ht2;have hag:=HAG.out t ht2;have i3:(s:Int)<((m2.fillTo s f t).next.length:Int):=by omega
       clear hgk hSt hM hput hnv2 hrow2 hfl;generalize (m2.fillTo s f t).next.length=L at *
       generalize ((m2.fillTo s f t).next.getD s []).getD (128+t) 0=old at *;generalize f t=y at *;go_wp2;go_roundg (64-(t+1))
       case measure=>rw[HE.out.1];omega
       case rel=>exact⟨t+1,rfl,by omega,by go_num,HPT.out.1,HPT.out.2⟩
      ·have i2:(64:Int)<=(t:Int):=by omega
       have e:t=64:=by omega
       subst e;clear hgk hMt hSt;go_wp2;go_ret;exact⟨by rw[HN3.out];rfl,by rw[HW4.out];exact HE.out.2.1,HE.out.2.2⟩
end
section
structure Mk.Fit (m:Mk)(most:Nat):Prop where
 same:m.rules.length=m.next.length
 few:m.next.length<=most
theorem zEr {m:Mk}{most:Nat}(h:m.Fit most)(r:Int):(m.add most r).Fit most:=by
 unfold Mk.add;by_cases e:most<=m.next.length
 ·rw[if_pos e];exact⟨h.same,h.few⟩
 ·rw[if_neg e]
  have:=h.same;exact⟨by simp[this],by simp;omega⟩
theorem zJY {m:Mk}{most:Nat}(h:m.Fit most)(s b:Nat)(x:Int):(m.put s b x).Fit most:=⟨by rw[zCW];exact h.same,by rw[zCW];exact h.few⟩
theorem zJB {m:Mk}{most:Nat}(h:m.Fit most)(s:Nat)(f:Nat->Int)(j:Nat):(m.fillTo s f j).Fit most:=by
 induction j with
 |zero=>exact h
 |succ j ih=>exact zJY ih _ _ _
theorem zEv {m:Mk}{most:Nat}(h:m.Fit most)(f:Nat->Int):(m.withM most f).Fit most:=by
 unfold Mk.withM;split
 ·exact h
 ·split
  ·exact h
  ·split
   ·exact zEr h _
   ·exact zJB (zEr h _) _ _ _
theorem zLa (m:Mk)(s:Nat)(f:Nat->Int)(j:Nat):(m.fillTo s f j).of=m.of:=by
 induction j with
 |zero=>rfl
 |succ j ih=>exact ih
theorem zCH (m:Mk)(most:Nat)(r:Int):(m.add most r).of=m.of:=by unfold Mk.add;split <;> rfl
theorem zJP (m:Mk)(most:Nat)(f:Nat->Int):(m.withM most f).of=m.of:=by
 unfold Mk.withM;split
 ·rfl
 ·split
  ·rfl
  ·split
   ·exact zCH _ _ _
   ·rw[zLa,zCH]
structure Bx (w0 w wr:World)(mb kb most:Nat)(m:Mk)(b:Nat)(g:Nat->Int):Prop where
 ma:MwIs w0 wr mb kb most m
 arr:wr.heap[b]? =some (.cells (a64 g) 246)
 stay:StayT w wr
 new:w.heap.size<=b
 old:w0.heap.size<=w.heap.size
theorem zNC (g:Nat->Int)(i:Nat)(x:Int)(hi:i<64):(a64 g).setIfInBounds i (int i64 x)=a64 (fun j=>if j=i then x else g j):=by
 apply Array.ext_getElem?;intro j;rw[Array.getElem?_setIfInBounds];by_cases hj:j<64
 ·by_cases e:i=j
  ·subst e
   rw[if_pos rfl,zBb,if_pos hi,jL _ i hi,if_pos rfl]
  ·rw[if_neg e,jL _ j hj,jL _ j hj,if_neg (Ne.symm e)]
 ·rw[if_neg (by omega),Array.getElem?_eq_none (by rw[zBb];omega),Array.getElem?_eq_none (by rw[zBb];omega)]
theorem zLE {g g':Nat->Int}(h:∀i,i<64->g i=g' i):a64 g=a64 g':=by
 apply Array.ext_getElem?;intro j;by_cases hj:j<64
 ·rw[jL _ j hj,jL _ j hj,h j hj]
 ·rw[Array.getElem?_eq_none (by rw[zBb];omega),Array.getElem?_eq_none (by rw[zBb];omega)]
section
variable {w0 w wr w2:World} {mb kb most:Nat} {m:Mk} {b:Nat} {g:Nat->Int}
theorem Mw.setBox {nv rv ov:Value}{gs:Nat->Nat}{i:Nat}{x:Value}{c:Array Value}(h:Mw w0 wr mb kb most m nv rv ov gs)(hb:wr.heap[b]? =some (.cells c 246))(hH:w0.heap.size<=b):Mw w0 (wr.setCell ⟨b,i,none⟩ x) mb kb most m nv rv ov gs:=by
 have e:∀k,k≠b->(wr.setCell ⟨b,i,none⟩ x).heap[k]? =wr.heap[k]? :=fun k hk=>lJ _ _ _ _ hk;have n1:mb≠b:=fun e2=>by
  have:=h.blk;rw[e2,hb] at this;simp at this
 have n2:∀i,i<m.next.length->gs i≠b:=fun i hi e2=>by
  have:=(h.each i hi).1;rw[e2,hb] at this;simp at this
 have n3:=zM h.nOwn hb (by decide);have n4:=zM h.rOwn hb (by decide);have n5:=zM h.oOwn hb (by decide);exact⟨(e mb n1).trans h.blk,zD h.nOwn fun k _ _ hk=>e k fun e2=>n3 (by rw[hk,e2]),fun i hi=>⟨(e _ (n2 i hi)).trans (h.each i hi).1,(h.each i hi).2⟩,zD h.rOwn fun k _ _ hk=>e k fun e2=>n4 (by rw[hk,e2]),zD h.oOwn fun k _ _ hk=>e k fun e2=>n5 (by rw[hk,e2]),h.inj,h.nr,h.no,h.ro,h.mH,h.keep.trans (zO _ _ _ _ hH)⟩
theorem Bx.set (h:Bx w0 w wr mb kb most m b g)(i:Nat)(hi:i<64)(x:Int):Bx w0 w (wr.setCell ⟨b,i,none⟩ (int i64 x)) mb kb most m b (fun j=>if j=i then x else g j):=by
 obtain⟨nv,rv,ov,gs,hM⟩:=h.ma;have hH:=lY h.old h.new;refine⟨⟨nv,rv,ov,gs,hM.setBox h.arr hH⟩,?_,fun k c t hk t1 t2 t3=>?_,h.new,h.old⟩
 ·rw[<-zNC g i x hi]
  simp[setCell,lU,h.arr]
 ·have hl:=(kQ.1 hk).1
  have hn:=h.new;exact(lJ _ _ _ _ (by show k≠b;omega)).trans (h.stay k c t hk t1 t2 t3)
theorem Bx.call {m':Mk}(h:Bx w0 w wr mb kb most m b g)(hM:MwIs w0 w2 mb kb most m')(hs:StayT wr w2):Bx w0 w w2 mb kb most m' b g:=⟨hM,hs b _ _ h.arr (by decide) (by decide) (by decide),h.stay.trans hs,h.new,h.old⟩
theorem Bx.congr {g':Nat->Int}(h:Bx w0 w wr mb kb most m b g)(e:∀i,i<64->g i=g' i):Bx w0 w wr mb kb most m b g':=⟨h.ma,by rw[<-zLE e];exact h.arr,h.stay,h.new,h.old⟩
theorem Bx.cell (h:Bx w0 w wr mb kb most m b g)(i:Nat)(hi:i<64):wr.cell? ⟨b,i,none⟩=some (int i64 (g i))∧wr.frozen? ⟨b,i,none⟩=false:=by
 constructor
 ·unfold cell?;rw[h.arr];exact jL g i hi
 ·unfold frozen?;rw[h.arr];simp
theorem Bx.start {m0:Mk}(h:MwIs w0 w mb kb most m0)(wr:World)(hs:StayT w wr)(hM:MwIs w0 wr mb kb most m)(hl:w.heap.size<=wr.heap.size):Bx w0 w (wr.alloc (.cells (a64 fun _=>0) 246)) mb kb most m wr.heap.size (fun _=>0):=by
 have hk:=kZ (b:=wr.heap.size) wr (.cells (a64 fun _=>0) 246) lQ;obtain⟨_,_,_,_,h⟩:=h;exact⟨hM.grown hk,gU _ _,hs.trans hk.stayT,hl,h.keep.size⟩
end
end
def qX:Nat->Nat
 |0=>0
 |1=>1
 |2=>64
 |_=>4096
def Mk.even (most:Nat):Nat->Mk->Int->Int×Mk
 |0,m,to=>(to,m)
 |c+1,m,to=>Mk.even most c (m.withM most fun _=>to) (m.withN most fun _=>to)
theorem zJE (w0 w:World)(mb kb most:Nat)(m:Mk)(h:MwIs w0 w mb kb most m)(hmost:most<=1000000)(fit:m.Fit most)(to:Int)(c:Nat)(hc:c<=3):
  Calls prog 178 #[pointer (some ⟨mb,0,none⟩),int i64 to,int i64 (qX c:Int)] w fun e w'=>e=returned (int i64 (Mk.even most c m to).1)∧MwIs w0 w' mb kb most (Mk.even most c m to).2∧StayT w w':=by
 have HH:=vl h;have HF:=vl fit;go_in;go_wp2;go_loopg [1,2] c (fun k t s wr=>∃(n:Nat) (m2:Mk) (to2:Int),k=n∧n<=3∧t=int i64 to2∧s=int i64 (qX n:Int)∧MwIs w0 wr mb kb most m2∧m2.Fit most∧StayT w wr∧w.heap.size<=wr.heap.size∧Mk.even most c m to=Mk.even most n m2 to2)
 case atStart=>exact⟨c,m,to,rfl,hc,rfl,rfl,h,fit,StayT.refl _,lQ,rfl⟩
 case round=>
  obtain⟨n,m2,to2,hgk,hn,rfl,rfl,hM,hF,hS,hsz,hev⟩:=hrel;cases n with
  |zero=>
   have HA:Hid (MwIs w0 wr mb kb most m2∧StayT w wr∧Mk.even most c m to=(to2,m2)):=⟨hM,hS,hev⟩
   clear hM hF hS hev hgk;have hst:qX 0=0:=rfl;rw[hst];go_wp2;go_ret;exact⟨by rw[HA.out.2.2];rfl,by rw[HA.out.2.2];exact HA.out.1,HA.out.2.1⟩
  |succ n=>
   have hst:0<qX (n+1):=by
    rcases n with _|_|_|n
    all_goals (simp [qX])
   have hdv:qX (n+1)/64=qX n:=by
    rcases n with _|_|_|n
    all_goals first|rfl|omega
   have i1:(qX (n+1):Int)>0:=by omega
   have hs4:qX (n+1)<=4096:=by
    rcases n with _|_|_|n
    all_goals (simp [qX])
   have HSW:Hid (wrap64 ((qX (n+1):Int)/64)=(qX n:Int)):=by
    show _=_;rw[w64 _ (by omega) (by omega)];omega
   have HA:Hid (gk=n+1∧MwIs w0 wr mb kb most m2∧m2.Fit most∧StayT w wr∧w.heap.size<=wr.heap.size∧Mk.even most c m to=Mk.even most (n+1) m2 to2):=⟨hgk,hM,hF,hS,hsz,hev⟩
   clear hM hF hS hev hgk;go_wp2;rw[<-zGw];have HX:=vl <| Bx.start HH.out wr HA.out.2.2.2.1 HA.out.2.1 HA.out.2.2.2.2.1;generalize wr.alloc (.cells (a64 fun _=>0) 246)=w3 at *;generalize wr.heap.size=b at *;go_loopg [13] 64 (fun k i wr=>∃j:Nat,k=64-j∧j<=64∧i=int i64 (j:Int)∧Bx w0 w wr mb kb most m2 b (fun t=>if t<j then to2 else 0))
   case atStart=>exact⟨0,rfl,lX,rfl,HX.out.congr fun i _=>by simp⟩
   case round=>
    obtain⟨j,hgk,hj,rfl,hX⟩:=hrel;have HB:Hid (gk=64-j∧Bx w0 w wr mb kb most m2 b (fun t=>if t<j then to2 else 0)):=⟨hgk,hX⟩
    by_cases hj2:j<64
    ·have i2:(j:Int)<64:=by omega
     obtain⟨y1,z1⟩:=hX.cell j hj2;have HX2:Hid (Bx w0 w (wr.setCell ⟨b,j,none⟩ (int i64 to2)) mb kb most m2 b (fun t=>if t<j+1 then to2 else 0)):=(hX.set j hj2 to2).congr fun i _=>by
      by_cases e:i=j
      ·subst e;rw[if_pos rfl,if_pos (by omega)]
      ·rw[if_neg e]
       by_cases e2:i<j
       ·rw[if_pos e2,if_pos (by omega)]
       ·rw[if_neg e2,if_neg (by omega)]
     clear hgk hX;generalize (if j<j then to2 else 0)=old at *;go_wp2;go_roundg (64-(j+1))
     case measure=>rw[HB.out.1];omega
     case rel=>exact⟨j+1,rfl,by omega,by go_num,HX2.out⟩
    ·have i2:(64:Int)<=(j:Int):=by omega
     have HX2:Hid (Bx w0 w wr mb kb most m2 b (fun _=>to2)):=hX.congr fun i hi=>by rw[if_pos (by omega)]
     have HR2:Hid (wr.rangeAt b 0 (a64 fun _=>to2).toList):=zEn wr b _ HX2.out.arr;have HLN:Hid ((prog.info? 246).map (·.size)=some (a64 fun _=>to2).toList.length):=zJ5 _;have HF:=HA.out.2.2.1;have HW:Hid (Ca 179 #[pointer (some ⟨mb,0,none⟩),agg (a64 fun _=>to2)] wr fun e w'=>e=returned (int i64 ((m2.withN most (fun _=>to2):Nat):Int))∧MwIs w0 w' mb kb most (m2.withM most fun _=>to2)∧StayT wr w'):=zEw w0 wr mb kb most m2 HX2.out.ma hmost (by have:=HF.same;have:=HF.few;omega) (by have:=HF.few;omega) _;have HEV:Hid (Mk.even most c m to=Mk.even most n (m2.withM most fun _=>to2) ((m2.withN most fun _=>to2:Nat):Int)):=HA.out.2.2.2.2.2;have HF2:Hid ((m2.withM most fun _=>to2).Fit most):=zEv HF _;have hnew:=HX2.out.new;clear hgk hX HF;generalize (a64 fun _=>to2)=A at *;generalize (m2.withM most fun _=>to2)=m3 at *;generalize (m2.withN most fun _=>to2)=n3 at *;go_wp2_with (first|(refine wpList_load_mid rfl 246 (.tmp 7) rfl b 0 rfl A.toList (.array 64 3) HR2.out underlying246 rfl HLN.out ?_)|(go_at_call 179;refine HW.out.mono ?_;rintro e w5 ⟨rfl,hM5,hS5⟩))
     go_roundg n
     case measure=>rw[HA.out.1];omega
     case rel=>
      have hX5:=HX2.out.call hM5 hS5;have hb5:=(kQ.1 hX5.arr).1;exact⟨n,m3,(n3:Int),rfl,by omega,rfl,by congr 1;omega,hM5,HF2.out,hX5.stay,by omega,HEV.out⟩
def zG0 (step:Nat):Nat:=if step=64 then 2048 else if step=4096 then 65536 else 0
def yS (sub:Mk->Nat->Int×Mk)(step low:Nat)(m:Mk):Nat->(Nat->Int)×Mk
 |0=>(fun _=>0,m)
 |j+1=>if low+j*step<zG0 step then(fun i=>if i=j then 0 else(yS sub step low m j).1 i,(yS sub step low m j).2) else(fun i=>if i=j then(sub (yS sub step low m j).2 (low+j*step)).1 else(yS sub step low m j).1 i,(sub (yS sub step low m j).2 (low+j*step)).2)
def zEt (most:Nat)(p:(Nat->Int)×Mk):Int×Mk:=(((p.2.withN most p.1:Nat):Int),p.2.withM most p.1)
def jI (k:Kd)(a:Ar)(most kind cnt step:Nat)(sub:Mk->Nat->Int×Mk)(m:Mk)(low:Nat):Int×Mk:=
 if zG0 step<=low∧a.alike (low:Int) ((low+64*step-1:Nat):Int)=true then Mk.even most cnt m (m.behind k a kind (low:Int)) else zEt most (yS sub step low m 64)
def yE (k:Kd)(a:Ar)(most kind:Nat):Nat->Mk->Nat->Int×Mk
 |0,m,low=>jI k a most kind 1 1 (fun m c=>(m.behind k a kind (c:Int),m)) m low
 |l+1,m,low=>jI k a most kind (l+2) (qX (l+2)) (yE k a most kind l) m low
def Tame (most:Nat)(sub:Mk->Nat->Int×Mk):Prop:=∀m c,m.Fit most->(sub m c).2.Fit most∧(sub m c).2.of=m.of
theorem zLd (most:Nat)(c:Nat):∀(m:Mk) (to:Int),m.Fit most->(Mk.even most c m to).2.Fit most∧(Mk.even most c m to).2.of=m.of:=by
 induction c with
 |zero=>exact fun m to h=>⟨h,rfl⟩
 |succ c ih=>
  intro m to h;have:=ih (m.withM most fun _=>to) ((m.withN most fun _=>to:Nat):Int) (zEv h _);exact⟨this.1,this.2.trans (zJP _ _ _)⟩
theorem zHH {most:Nat}{sub:Mk->Nat->Int×Mk}(h:Tame most sub)(step low:Nat){m:Mk}(hm:m.Fit most)(j:Nat):(yS sub step low m j).2.Fit most∧(yS sub step low m j).2.of=m.of:=by
 induction j with
 |zero=>exact⟨hm,rfl⟩
 |succ j ih=>
  unfold yS;split
  ·exact ih
  ·have:=h (yS sub step low m j).2 (low+j*step) ih.1
   exact⟨this.1,this.2.trans ih.2⟩
theorem zC5 (k:Kd)(a:Ar){most:Nat}(kind cnt step:Nat){sub:Mk->Nat->Int×Mk}(h:Tame most sub):Tame most (jI k a most kind cnt step sub):=by
 intro m low hm;unfold jI;split
 ·exact zLd most cnt m _ hm
 ·have:=zHH h step low hm 64
  exact⟨zEv this.1 _,(zJP _ _ _).trans this.2⟩
theorem zAf (k:Kd)(a:Ar)(most kind l:Nat):Tame most (yE k a most kind l):=by
 induction l with
 |zero=>exact zC5 k a kind 1 1 fun m c hm=>⟨hm,rfl⟩
 |succ l ih=>exact zC5 k a kind (l+2) (qX (l+2)) ih
theorem zAV (w0 w:World)(mb kb most:Nat)(m:Mk)(h:MwIs w0 w mb kb most m)(hmost:most<=1000000)(fit:m.Fit most)(k:Kd)(a:Ar)(hK:KdAt w0 kb a k)(ok:k.Ok a)(kind:Nat)(hk:kind<k.rows.length)(hof:m.of.length=k.rows.length)(low:Nat)(hlow:low<=1410000)(l st cnt s2:Nat)(hst:st=1∨st=64∨st=4096)(hcnt:cnt<=3)(hev:qX cnt=st)(hs2:st/64=s2)(sub:Mk->Nat->Int×Mk)(hdef:yE k a most kind l m low=jI k a most kind cnt st sub m low)(htm:Tame most sub)
  (hsub:(st=1∧∀wr m2,MwIs w0 wr mb kb most m2->m2.Fit most->m2.of.length=k.rows.length->∀c:Nat,c<=low+64*st->Calls prog 134 #[pointer (some ⟨mb,0,none⟩),int i64 (kind:Int),int i64 (c:Int)] wr fun e w'=>e=returned (int i64 (sub m2 c).1)∧MwIs w0 w' mb kb most (sub m2 c).2∧StayT wr w')∨(st≠1∧∀wr m2,MwIs w0 wr mb kb most m2->m2.Fit most->m2.of.length=k.rows.length->∀c:Nat,c<=low+64*st->Calls prog 136 #[pointer (some ⟨mb,0,none⟩),int i64 (kind:Int),int i64 (c:Int),int i64 (s2:Int)] wr fun e w'=>e=returned (int i64 (sub m2 c).1)∧MwIs w0 w' mb kb most (sub m2 c).2∧StayT wr w')):
  Calls prog 136 #[pointer (some ⟨mb,0,none⟩),int i64 (kind:Int),int i64 (low:Int),int i64 (st:Int)] w fun e w'=>e=returned (int i64 (yE k a most kind l m low).1)∧MwIs w0 w' mb kb most (yE k a most kind l m low).2∧StayT w w':=by
 have HH:=vl h;obtain⟨nv,rv,ov,gs,hM0⟩:=h;obtain⟨hkl,lv,tv,sv,kn,kr,hkb,hka,-,-⟩:=hK.grown hM0.keep;obtain⟨al,cl,hal,-⟩:=id hka.lows;obtain⟨at_,ct,hat,-⟩:=id hka.letters;obtain⟨as_,cs,has,-⟩:=id hka.sets;obtain⟨AL,hAL⟩:∃AL,AL=a.alike (low:Int) ((low+64*st-1:Nat):Int):=⟨_,rfl⟩
 have HAL:Hid (∀y:Int,y=((low+64*st-1:Nat):Int)->Ca 177 #[agg #[lv,tv,sv],int i64 (low:Int),int i64 y] w fun e w'=>e=returned (bool AL)∧Grew w w'):=by
  rintro y rfl;rw[hAL];exact zII w lv tv sv a hka ok.few _ _
 have x0:=hM0.cells.1;have k0:w.cell? ⟨kb,0,none⟩=some lv:=by unfold cell?;rw[hkb];rfl
 have k1:w.cell? ⟨kb,1,none⟩=some tv:=by unfold cell?;rw[hkb];rfl
 have k2:w.cell? ⟨kb,2,none⟩=some sv:=by unfold cell?;rw[hkb];rfl
 subst hal hat has;obtain⟨T,hT⟩:∃T,T=zG0 st:=⟨_,rfl⟩
 have HLE:Hid (∀w,Ca 176 #[int i64 (st:Int)] w fun e w'=>e=returned (int i64 (T:Int))∧w'=w):=fun w=>by
  have:=zIa w st hst;rw[show (if st=64 then 2048 else if st=4096 then 65536 else 0:Int)=(T:Int) by rw[hT];rcases hst with rfl|rfl|rfl <;> rfl] at this;exact this
 have HBH:Hid (∀w2,Grew w w2->Ca 134 #[pointer (some ⟨mb,0,none⟩),int i64 (kind:Int),int i64 (low:Int)] w2 fun e w'=>e=returned (int i64 (m.behind k a kind (low:Int)))∧Grew w2 w'):=fun w2 hk2=>zBW w0 w2 mb kb most m (HH.out.grown hk2) k a hK ok kind hk hof (low:Int);have HEV:Hid (∀w2 to,Grew w w2->Ca 178 #[pointer (some ⟨mb,0,none⟩),int i64 to,int i64 (st:Int)] w2 fun e w'=>e=returned (int i64 (Mk.even most cnt m to).1)∧MwIs w0 w' mb kb most (Mk.even most cnt m to).2∧StayT w2 w'):=fun w2 to hk2=>by rw[<-hev];exact zJE w0 w2 mb kb most m (HH.out.grown hk2) hmost fit to cnt hcnt
 have HSUB:=vl hsub;have HFIT:=vl (And.intro fit hof);have HX0:Hid (yS sub st low m 0=(fun _=>0,m)):=rfl;have HXS:Hid (∀j,yS sub st low m (j+1)=if low+j*st<T then(fun i=>if i=j then 0 else(yS sub st low m j).1 i,(yS sub st low m j).2) else(fun i=>if i=j then(sub (yS sub st low m j).2 (low+j*st)).1 else(yS sub st low m j).1 i,(sub (yS sub st low m j).2 (low+j*st)).2)):=fun j=>by rw[hT];rfl
 have HXT:Hid (∀j,(yS sub st low m j).2.Fit most∧(yS sub st low m j).2.of=m.of):=fun j=>zHH htm st low fit j;have hb:(T<=low∧AL=true)∨¬(T<=low∧AL=true):=Decidable.em _;have HZ:Hid (((T<=low∧AL=true)->yE k a most kind l m low=Mk.even most cnt m (m.behind k a kind (low:Int)))∧(¬(T<=low∧AL=true)->yE k a most kind l m low=zEt most (yS sub st low m 64))):=by
  rw[hdef,hT,hAL];exact⟨fun h=>if_pos h,fun h=>if_neg h⟩
 have hT2:T<=65536:=by rw[hT];rcases hst with rfl|rfl|rfl <;> decide
 have h1:1<=st∧st<=4096:=by omega
 have hq1:(st:Int)/64=(s2:Int):=by omega
 clear hM0 hkb hka hK ok hk hof fit hdef htm hsub hT hAL hev hs2 hst;generalize a.lows.length=q0 at *;generalize a.letters.length=q1 at *;generalize a.sets.length=q2 at *;generalize yS sub st low m=SX at *;rcases hb with hb|hb
 ·have HZ2:=vl (HZ.out.1 hb)
  obtain⟨hc,rfl⟩:=hb;have i1:(low:Int)>=(T:Int):=by omega
  clear HZ HSUB hc;generalize m.behind k a kind (low:Int)=bh at *;generalize yE k a most kind l m low=IN at *;go_in;go_wp2_with (first|(go_at_call 176;refine(HLE.out _).mono ?_;rintro e w9 ⟨rfl,hw9⟩;have hw8:=hw9.symm;subst hw8)|(go_at_call 177;refine(HAL.out _ (by omega)).mono ?_;rintro e w2 ⟨rfl,hk2⟩)|(go_at_call 134;refine(HBH.out w2 hk2).mono ?_;rintro e w3 ⟨rfl,hk3⟩;have hk4:=hk2.trans (hk3.lower hk2.size hk2.size))|(go_at_call 178;refine(HEV.out w3 bh hk4).mono ?_;rintro e w5 ⟨rfl,hM5,hS5⟩))
  go_ret;exact⟨by rw[HZ2.out];rfl,by rw[HZ2.out];exact hM5,StayT.trans hk4.stayT hS5⟩
 have HZ2:=vl (HZ.out.2 hb);clear HZ HEV HBH;generalize yE k a most kind l m low=IN at *;have hcase:(low:Int)<(T:Int)∨(low:Int)>=(T:Int)∧AL=false:=by
  rcases Nat.lt_or_ge low T with h|h
  ·exact .inl (by omega)
  ·refine .inr ⟨by omega,?_⟩
   cases AL with
   |false=>rfl
   |true=>exact absurd ⟨h,rfl⟩ hb
 clear hb;go_in;rcases hcase with i1|⟨i1,rfl⟩;go_wp2_with (first|(go_at_call 176;refine(HLE.out _).mono ?_;rintro e w9 ⟨rfl,hw9⟩;have hw8:=hw9.symm;subst hw8))
 rw[<-zGw];have HX:=vl (Bx.start HH.out w (Keep.refl w.heap.size w.heap.size w).stayT HH.out lQ);generalize w.alloc (.cells (a64 fun _=>0) 246)=w3 at *;generalize w.heap.size=b at *;rotate_left;go_wp2_with (first|(go_at_call 176;refine(HLE.out _).mono ?_;rintro e w9 ⟨rfl,hw9⟩;have hw8:=hw9.symm;subst hw8)|(go_at_call 177;refine(HAL.out _ (by omega)).mono ?_;rintro e w2 ⟨rfl,K2⟩))
 rw[<-zGw];have HX:=vl (Bx.start HH.out w2 K2.stayT (HH.out.grown K2) K2.size);clear K2;generalize w2.alloc (.cells (a64 fun _=>0) 246)=w3 at *;generalize w2.heap.size=b at *
 all_goals
  clear HAL k0 k1 k2 x0 i1;go_loopg [39] 64 (fun q i wr=>∃j:Nat,q=64-j∧j<=64∧i=int i64 (j:Int)∧Bx w0 w wr mb kb most (SX j).2 b (SX j).1)
  case atStart=>exact⟨0,rfl,lX,rfl,by rw[HX0.out];exact HX.out⟩
  case round=>
   obtain⟨j,hgk,hj,rfl,hX⟩:=hrel;have HB:=vl (And.intro hgk hX);have HTJ:=HXT.out j;by_cases hj2:j<64
   ·have i2:(j:Int)<64:=by omega
    obtain⟨y1,z1⟩:=hX.cell j hj2;obtain⟨x,hx⟩:∃x,x=j*st:=⟨_,rfl⟩
    have hxi:(j:Int)*(st:Int)=(x:Int):=by rw[hx];exact(Int.natCast_mul j st).symm
    have hx1:x<=64*st:=by rw[hx];exact Nat.mul_le_mul_right st (by omega)
    have HS:=vl (HXS.out j);rw[<-hx] at HS;clear hx;by_cases hcl:low+x<T
    ·have HX2:Hid (Bx w0 w (wr.setCell ⟨b,j,none⟩ (int i64 0)) mb kb most (SX (j+1)).2 b (SX (j+1)).1):=by
      have h:=hX.set j hj2 0;show Bx _ _ _ _ _ _ (SX (j+1)).2 _ (SX (j+1)).1;rw[HS.out,if_pos hcl];exact h
     have i3:(low:Int)+(x:Int)<(T:Int):=by omega
     clear hgk hX hcl HS HTJ HSUB;generalize (SX j).1 j=old at *;go_wp2_with (first|(go_at_call 176;refine(HLE.out _).mono ?_;rintro e w9 ⟨rfl,hw9⟩;have hw8:=hw9.symm;subst hw8))
     go_roundg (64-(j+1))
     case measure=>rw[HB.out.1];omega
     case rel=>exact⟨j+1,rfl,by omega,by go_num,HX2.out⟩
    ·have HS2:Hid (SX (j+1)=(fun i=>if i=j then(sub (SX j).2 (low+x)).1 else(SX j).1 i,(sub (SX j).2 (low+x)).2)):=by show _=_;rw[HS.out,if_neg hcl]
     have i3:(T:Int)<=(low:Int)+(x:Int):=by omega
     have i4:(0:Int)<=(low:Int)+(x:Int):=by omega
     rcases HSUB.out with⟨e1,hs⟩|⟨e1,hs⟩;have i5:((st:Int)==1)=true:=by rw[beq_iff_eq];omega
     rotate_left;have i5:((st:Int)==1)=false:=by rw[hJ];omega
     all_goals
      have hs3:=hs wr _ hX.ma HTJ.1 (by rw[HTJ.2];exact HFIT.out.2) (low+x) (by omega);rw[Int.natCast_add] at hs3;have HC:=vl hs3;clear hgk hX hcl HS HTJ HSUB hs hs3 e1;generalize (sub (SX j).2 (low+x)).1=r1 at *;generalize (sub (SX j).2 (low+x)).2=m5 at *;generalize (SX j).1 j=old at *;go_wp2_with (first|(go_at_call 176;refine(HLE.out _).mono ?_;rintro e w9 ⟨rfl,hw9⟩;have hw8:=hw9.symm;subst hw8)|(go_at_call 134;refine HC.out.mono ?_;rintro e w5 ⟨rfl,hM5,hS5⟩;have hX5:=HB.out.2.call hM5 hS5;obtain⟨y5,z5⟩:=hX5.cell j hj2;have HX5:=vl hX5;clear hX5 hM5 hS5)|(go_at_call 136;refine HC.out.mono ?_;rintro e w5 ⟨rfl,hM5,hS5⟩;have hX5:=HB.out.2.call hM5 hS5;obtain⟨y5,z5⟩:=hX5.cell j hj2;have HX5:=vl hX5;clear hX5 hM5 hS5))
      go_roundg (64-(j+1))
      case measure=>rw[HB.out.1];omega
      case rel=>
       refine⟨j+1,rfl,by omega,by go_num,?_⟩;rw[HS2.out];exact HX5.out.set j hj2 r1
   ·have i2:(64:Int)<=(j:Int):=by omega
    have e:j=64:=by omega
    subst e;have HR2:=vl (zEn wr b _ hX.arr);have HLN:=vl (zJ5 (SX 64).1);have HW:Hid (Ca 179 #[pointer (some ⟨mb,0,none⟩),agg (a64 (SX 64).1)] wr fun e w'=>e=returned (int i64 (zEt most (SX 64)).1)∧MwIs w0 w' mb kb most (zEt most (SX 64)).2∧StayT wr w'):=zEw w0 wr mb kb most _ hX.ma hmost (by have:=HTJ.1.same;have:=HTJ.1.few;omega) (by have:=HTJ.1.few;omega) _;clear hgk hX HTJ HSUB;generalize (a64 (SX 64).1)=A at *;generalize zEt most (SX 64)=wu at *;go_wp2_with (first|(refine wpList_load_mid rfl 246 (.tmp 9) rfl b 0 rfl A.toList (.array 64 3) HR2.out underlying246 rfl HLN.out ?_)|(go_at_call 179;refine HW.out.mono ?_;rintro e w5 ⟨rfl,hM5,hS5⟩))
    go_ret;exact⟨by rw[HZ2.out];rfl,by rw[HZ2.out];exact hM5,HB.out.2.stay.trans hS5⟩
theorem zCr (w0 w:World)(mb kb most:Nat)(m:Mk)(h:MwIs w0 w mb kb most m)(hmost:most<=1000000)(fit:m.Fit most)(k:Kd)(a:Ar)(hK:KdAt w0 kb a k)(ok:k.Ok a)(kind:Nat)(hk:kind<k.rows.length)(hof:m.of.length=k.rows.length)(low:Nat)(hlow:low<=1410000):Calls prog 136 #[pointer (some ⟨mb,0,none⟩),int i64 (kind:Int),int i64 (low:Int),int i64 1] w fun e w'=>e=returned (int i64 (yE k a most kind 0 m low).1)∧MwIs w0 w' mb kb most (yE k a most kind 0 m low).2∧StayT w w':=
 zAV w0 w mb kb most m h hmost fit k a hK ok kind hk hof low hlow 0 1 1 0 (.inl rfl) (by decide) rfl rfl _ rfl (fun m c hm=>⟨hm,rfl⟩) (.inl ⟨rfl,fun wr m2 hM _ hof2 c _=>(zBW w0 wr mb kb most m2 hM k a hK ok kind hk hof2 (c:Int)).mono (by rintro e w2 ⟨rfl,hk2⟩;exact⟨rfl,hM.grown hk2,hk2.stayT⟩)⟩)
theorem zCq (w0 w:World)(mb kb most:Nat)(m:Mk)(h:MwIs w0 w mb kb most m)(hmost:most<=1000000)(fit:m.Fit most)(k:Kd)(a:Ar)(hK:KdAt w0 kb a k)(ok:k.Ok a)(kind:Nat)(hk:kind<k.rows.length)(hof:m.of.length=k.rows.length)(low:Nat)(hlow:low<=1400000):Calls prog 136 #[pointer (some ⟨mb,0,none⟩),int i64 (kind:Int),int i64 (low:Int),int i64 64] w fun e w'=>e=returned (int i64 (yE k a most kind 1 m low).1)∧MwIs w0 w' mb kb most (yE k a most kind 1 m low).2∧StayT w w':=
 zAV w0 w mb kb most m h hmost fit k a hK ok kind hk hof low (by omega) 1 64 2 1 (.inr (.inl rfl)) (by decide) rfl rfl _ rfl (zAf k a most kind 0) (.inr ⟨by decide,fun wr m2 hM hF hof2 c hc=>zCr w0 wr mb kb most m2 hM hmost hF k a hK ok kind hk hof2 c (by omega)⟩)
theorem zFQ (w0 w:World)(mb kb most:Nat)(m:Mk)(h:MwIs w0 w mb kb most m)(hmost:most<=1000000)(fit:m.Fit most)(k:Kd)(a:Ar)(hK:KdAt w0 kb a k)(ok:k.Ok a)(kind:Nat)(hk:kind<k.rows.length)(hof:m.of.length=k.rows.length)(low:Nat)(hlow:low<=1100000):Calls prog 136 #[pointer (some ⟨mb,0,none⟩),int i64 (kind:Int),int i64 (low:Int),int i64 4096] w fun e w'=>e=returned (int i64 (yE k a most kind 2 m low).1)∧MwIs w0 w' mb kb most (yE k a most kind 2 m low).2∧StayT w w':=
 zAV w0 w mb kb most m h hmost fit k a hK ok kind hk hof low (by omega) 2 4096 3 64 (.inr (.inr rfl)) (by decide) rfl rfl _ rfl (zAf k a most kind 1) (.inr ⟨by decide,fun wr m2 hM hF hof2 c hc=>zCq w0 wr mb kb most m2 hM hmost hF k a hK ok kind hk hof2 c (by omega)⟩)
def Grows (sub:Mk->Nat->Int×Mk):Prop:=∀m c,m.next.length<=(sub m c).2.next.length
theorem zDK (m:Mk)(most:Nat)(r:Int):m.next.length<=(m.add most r).next.length:=by
 unfold Mk.add;split
 ·exact lQ
 ·show _<=(m.next++[zeros]).length;simp
theorem zEu (m:Mk)(most:Nat)(f:Nat->Int):m.next.length<=(m.withM most f).next.length:=by
 unfold Mk.withM;split
 ·exact lQ
 ·split
  ·exact lQ
  ·split
   ·exact zDK _ _ _
   ·rw[zBm];exact zDK _ _ _
theorem zJD (most c:Nat):∀(m:Mk) (to:Int),m.next.length<=(Mk.even most c m to).2.next.length:=by
 induction c with
 |zero=>exact fun m to=>lQ
 |succ c ih=>exact fun m to=>lY (zEu m most fun _=>to) (ih _ _)
theorem zKF {sub:Mk->Nat->Int×Mk}(h:Grows sub)(step low:Nat)(m:Mk)(j:Nat):m.next.length<=(yS sub step low m j).2.next.length:=by
 induction j with
 |zero=>exact lQ
 |succ j ih=>
  unfold yS;split
  ·exact ih
  ·exact lY ih (h _ _)
theorem zCp (k:Kd)(a:Ar)(most kind cnt step:Nat){sub:Mk->Nat->Int×Mk}(h:Grows sub):Grows (jI k a most kind cnt step sub):=by
 intro m low;unfold jI;split
 ·exact zJD _ _ _ _
 ·exact lY (zKF h step low m 64) (zEu _ _ _)
theorem zAr (k:Kd)(a:Ar)(most kind l:Nat):Grows (yE k a most kind l):=by
 induction l with
 |zero=>exact zCp k a most kind 1 1 fun m c=>lQ
 |succ l ih=>exact zCp k a most kind (l+2) (qX (l+2)) ih
def qV (sub:Mk->Nat->Int×Mk)(s lo:Nat)(m:Mk):Nat->Mk
 |0=>m
 |j+1=>(sub (qV sub s lo m j) (lo+j)).2.put s (lo+j) (sub (qV sub s lo m j) (lo+j)).1
theorem zAF {most:Nat}{sub:Mk->Nat->Int×Mk}(h:Tame most sub)(g:Grows sub)(s lo:Nat){m:Mk}(hm:m.Fit most)(j:Nat):(qV sub s lo m j).Fit most∧(qV sub s lo m j).of=m.of∧m.next.length<=(qV sub s lo m j).next.length:=by
 induction j with
 |zero=>exact⟨hm,rfl,lQ⟩
 |succ j ih=>
  have h1:=h (qV sub s lo m j) (lo+j) ih.1;refine⟨zJY h1.1 _ _ _,h1.2.trans ih.2.1,?_⟩;show _<=((sub (qV sub s lo m j) (lo+j)).2.put s (lo+j) _).next.length
  rw[zCW];exact lY ih.2.2 (g _ _)
theorem zAQ {most s lo:Nat}{sub:Mk->Nat->Int×Mk}(ht:Tame most sub)(hg:Grows sub){M m:Mk}(hp:M.Fit most∧M.of=m.of∧m.next.length<=M.next.length)(hs:s<m.next.length)(j:Nat):(qV sub s lo M j).Fit most∧(qV sub s lo M j).of=m.of∧s<(qV sub s lo M j).next.length∧s<(sub (qV sub s lo M j) (lo+j)).2.next.length∧(sub (qV sub s lo M j) (lo+j)).2.of=m.of:=by
 have h1:=zAF ht hg s lo hp.1 j;have h2:=ht _ (lo+j) h1.1;have h3:=hg (qV sub s lo M j) (lo+j);exact⟨h1.1,h1.2.1.trans hp.2.1,by omega,by omega,h2.2.trans (h1.2.1.trans hp.2.1)⟩
def zD8 (k:Kd)(a:Ar)(kind:Nat)(m:Mk)(b:Nat):Int×Mk:=(m.behind k a kind (b:Int),m)
def zCR (k:Kd)(a:Ar)(most kind:Nat)(m:Mk)(b:Nat):Int×Mk:=yE k a most kind 0 m ((b-192)*64)
def zCQ (k:Kd)(a:Ar)(most kind:Nat)(m:Mk)(b:Nat):Int×Mk:=yE k a most kind 1 m ((b-224)*4096)
def zCP (k:Kd)(a:Ar)(most kind:Nat)(m:Mk)(b:Nat):Int×Mk:=yE k a most kind 2 m ((b-240)*262144)
theorem zB5 (k:Kd)(a:Ar)(most kind:Nat):Tame most (zD8 k a kind)∧Grows (zD8 k a kind):=⟨fun m c hm=>⟨hm,rfl⟩,fun m c=>lQ⟩
theorem zB4 (k:Kd)(a:Ar)(most kind:Nat):Tame most (zCR k a most kind)∧Grows (zCR k a most kind):=⟨fun m c hm=>by unfold zCR;exact zAf k a most kind 0 m _ hm,fun m c=>by unfold zCR;exact zAr k a most kind 0 m _⟩
theorem zB3 (k:Kd)(a:Ar)(most kind:Nat):Tame most (zCQ k a most kind)∧Grows (zCQ k a most kind):=⟨fun m c hm=>by unfold zCQ;exact zAf k a most kind 1 m _ hm,fun m c=>by unfold zCQ;exact zAr k a most kind 1 m _⟩
theorem zB2 (k:Kd)(a:Ar)(most kind:Nat):Tame most (zCP k a most kind)∧Grows (zCP k a most kind):=⟨fun m c hm=>by unfold zCP;exact zAf k a most kind 2 m _ hm,fun m c=>by unfold zCP;exact zAr k a most kind 2 m _⟩
def zDa (k:Kd)(a:Ar)(kind s:Nat)(m:Mk):Mk:=qV (zD8 k a kind) s 0 m 128
def zC9 (k:Kd)(a:Ar)(most kind s:Nat)(m:Mk):Mk:=qV (zCR k a most kind) s 194 (zDa k a kind s m) 30
def zC8 (k:Kd)(a:Ar)(most kind s:Nat)(m:Mk):Mk:=qV (zCQ k a most kind) s 224 (zC9 k a most kind s m) 16
def zA6 (k:Kd)(a:Ar)(most kind s:Nat)(m:Mk):Mk:=qV (zCP k a most kind) s 240 (zC8 k a most kind s m) 5
theorem zFl (k:Kd)(a:Ar){most:Nat}(kind s:Nat){m:Mk}(h:m.Fit most):(zDa k a kind s m).Fit most∧(zDa k a kind s m).of=m.of∧m.next.length<=(zDa k a kind s m).next.length:=zAF (zB5 k a most kind).1 (zB5 k a most kind).2 s 0 h 128
theorem zFk (k:Kd)(a:Ar){most:Nat}(kind s:Nat){m:Mk}(h:m.Fit most):(zC9 k a most kind s m).Fit most∧(zC9 k a most kind s m).of=m.of∧m.next.length<=(zC9 k a most kind s m).next.length:=by
 have h1:=zFl k a kind s h;have h2:=zAF (zB4 k a most kind).1 (zB4 k a most kind).2 s 194 h1.1 30;exact⟨h2.1,h2.2.1.trans h1.2.1,lY h1.2.2 h2.2.2⟩
theorem zFj (k:Kd)(a:Ar){most:Nat}(kind s:Nat){m:Mk}(h:m.Fit most):(zC8 k a most kind s m).Fit most∧(zC8 k a most kind s m).of=m.of∧m.next.length<=(zC8 k a most kind s m).next.length:=by
 have h1:=zFk k a kind s h;have h2:=zAF (zB3 k a most kind).1 (zB3 k a most kind).2 s 224 h1.1 16;exact⟨h2.1,h2.2.1.trans h1.2.1,lY h1.2.2 h2.2.2⟩
theorem zJC (k:Kd)(a:Ar){most:Nat}(kind s:Nat){m:Mk}(h:m.Fit most):(zA6 k a most kind s m).Fit most∧(zA6 k a most kind s m).of=m.of∧m.next.length<=(zA6 k a most kind s m).next.length:=by
 have h1:=zFj k a kind s h;have h2:=zAF (zB2 k a most kind).1 (zB2 k a most kind).2 s 240 h1.1 5;exact⟨h2.1,h2.2.1.trans h1.2.1,lY h1.2.2 h2.2.2⟩
end Go.Proofs.YtbjcfkdnjaiclaaGreat
