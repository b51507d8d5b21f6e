import Derived.Deep.DrawnRows
import Derived.Deep.MidRow
import Derived.Deep.RegionLaw
import Derived.Test.YtbjcfkdnjaiclaaGreatS0
import Derived.Test.YtbjcfkdnjaiclaaGreatS12
/- Parts of the proof. -/
set_option linter.unusedVariables false
set_option linter.unusedSimpArgs false
set_option maxHeartbeats 4000000
set_option maxRecDepth 100000
namespace Go.Proofs.YtbjcfkdnjaiclaaGreat
open Go.RowKit Go.Proofs.Tryz Go.World
open Go.Value (int slice bool pointer string agg tuple)
open Go.IntKind (i64)
open Go.Ending (returned)
section
attribute [local go_sem ↓] Go.wp_at_zero Go.wp_at_succ
theorem zKN (w:World)(q:Nat)(n:Nt)(sv fv rv ev:Value)(hN:NetAt w q n sv fv rv ev)(ok:n.Ok)(fit:n.Fits)(most:Nat)(hmost:most<=1000000000):
  Calls prog 61 #[pX q,iX (most:Int)] w (zCh w n most):=by
 obtain⟨i0,hi0,hz0,hz1,hz2⟩:=info_parts yF;obtain⟨ii1,hi1,hy0,hy1,hy2⟩:=info_parts zEb;have HS:Hid (Ca 90 #[pX q] w λe w'=>∃p s,e=returned (pX p)/\(s.rules=n.rules/\s.tails=n.tails n.letters/\s.sets=n.letters/\s.q=q)/\SoAt w' (λg=>g<w'.heap.size/\g≠p) p s ⟨[],[]⟩ (slice none 0 0) (slice none 0 0)/\ArAt w' s.lv s.tv s.sv n.areas/\SpAt w' s.f n.ahead/\s.f≠p/\w.heap.size<=p/\Grew w w'):=zFm w q n sv fv rv ev hN ok fit;have HN:Hid (NetAt w q n sv fv rv ev):=hN;have hlq:=hN.lq;have htop:=ok.top;have hfirst:=ok.first
 have hends:=ok.ends;have hlet:n.letters.length<=20000000004:=by
  have:=(zB5 n.sets).2.2.2;have:=fit.few;show(yN n.sets).setsN.length<=_;rw[Ar.setsN_len];omega
 have HAL:Hid (∀i,n.ahead i<16777216):=λi=>zNN _ (λx hx=>lZ (ok.fs x hx) htop) _ i;have HSP:Hid (∀x,zAY n.ahead x<16777216):=zOV _ HAL;clear hN ok fit;go_enter func61,ntmps61
 go_wp2_with (first|(go_at_call 90;refine HS.mono ?_;rintro e w1 ⟨p,s,rfl,hs1,hso,har,hsp,hfp,hpH,hk1⟩;obtain⟨a1,c1,hf1,-⟩:=id har.lows;obtain⟨a2,c2,hf2,-⟩:=id har.letters;obtain⟨a3,c3,hf3,-⟩:=id har.sets;have x1:w1.cell? ⟨p,1,none⟩=some (slice a1 n.areas.lows.length c1):=(by rw[<-hf1];unfold cell?;rw[hso.blk];rfl);have x2:w1.cell? ⟨p,2,none⟩=some (slice a2 n.areas.letters.length c2):=(by rw[<-hf2];unfold cell?;rw[hso.blk];rfl);have x3:w1.cell? ⟨p,3,none⟩=some (slice a3 n.areas.sets.length c3):=(by rw[<-hf3];unfold cell?;rw[hso.blk];rfl);have HQ:Hid ((s.rules=n.rules/\s.tails=n.tails n.letters/\s.sets=n.letters/\s.q=q)/\SoAt w1 (λg=>g<w1.heap.size/\g≠p) p s ⟨[],[]⟩ (slice none 0 0) (slice none 0 0)/\ArAt w1 (slice a1 n.areas.lows.length c1) (slice a2 n.areas.letters.length c2) (slice a3 n.areas.sets.length c3) n.areas/\SpAt w1 s.f n.ahead/\s.f≠p/\(∃a n c,s.lv=slice a n c)/\(∃a n c,s.tv=slice a n c)/\(∃a n c,s.sv=slice a n c)):=⟨hs1,hso,(by rw[<-hf1,<-hf2,<-hf3];exact har),hsp,hfp,⟨_,_,_,hf1⟩,⟨_,_,_,hf2⟩,⟨_,_,_,hf3⟩⟩;have y2:=(HN.grown hk1).c2;have hlq1:q<w1.heap.size:=(HN.grown hk1).lq;have hnqp:q≠p:=(by omega);clear hs1 hso har hsp hfp hf1 hf2 hf3)|(go_at_call 91;refine((Kw.begin HQ.2.1 _ _ _).row lQ (by rw[HQ.out.1.2.2.1];simp;omega) n.first (by omega)).mono ?_;rintro e w2 ⟨u8,Z2,rfl,K2,hu8⟩;obtain⟨a8,c8,hf8,-⟩:=id hu8;have HK2:Hid (zQo w1 w2 w1.heap.size p w1.heap.size s (s.rowTo n.first ⟨[],[]⟩ s.sets.length).2 (slice a1 n.areas.lows.length c1) (slice a2 n.areas.letters.length c2) (slice a3 n.areas.sets.length c3) u8 [] [] (s.rowTo n.first ⟨[],[]⟩ s.sets.length).1 0 0):=⟨_,_,_,_,K2.start_of hu8⟩;subst hf8;clear K2 hu8))
 have HLK:Hid (s.Like n.sq):=⟨HQ.1.1,HQ.1.2.1,HQ.1.2.2.1⟩
 have hsl:s.sets.length=n.letters.length:=by rw[HQ.out.1.2.2.1]
 have hst:s.rowTo n.first ⟨[],[]⟩ s.sets.length=n.start:=by rw[hsl];exact HLK.row _ _ _
 rw[hst] at HK2 ⊢;have hst2:n.start.2.marks.length<=n.start.2.found.length:=by rw[<-hst];exact s.rowTo_ml _ _ _ lQ
 have HRL:Hid (s.rules=n.rules):=HQ.1.1;have HE3:Hid (∀wr,KeepX (λg=>g<w1.heap.size/\g≠p) w1 wr->wr.cell? ⟨q,3,none⟩=some (iX (n.ends:Int))):=λwr hk=>(gZ (hk.block q ⟨hlq1,hnqp⟩)).trans (HN.grown hk1).c3;have HSF:Hid (∀wr,KeepX (λg=>g<w1.heap.size/\g≠p) w1 wr->SpAt wr s.f n.ahead):=λwr hk=>HQ.2.2.2.1.keep (hk.block s.f ⟨HQ.2.2.2.1.lt,HQ.2.2.2.2.1⟩);have HKP:Hid (∀wr,KeepX (λg=>g<w1.heap.size/\g≠p) w1 wr->Grew w wr):=λwr hk=>hk1.trans ⟨hk.os,hk.output,hk.size,λk h1 _=>hk.block k ⟨lZ h1 hk1.size,by omega⟩⟩;have HK1:Hid (Grew w w1):=hk1;have HST:Hid (n.start=n.start):=rfl;clear hk1 hst x1 x2 x3 y2 HS;generalize hu8:Value.slice a8 (ints n.start.1).length c8=u8 at *;have HU8:Hid (Value.slice a8 (ints n.start.1).length c8=u8):=hu8;clear hu8;go_loopg [9] (most+1) (λk i wr=>∃(j:Nat) (d:Sf) (rows:List (List Nat)) (rules:List Int),k=most+1-j/\(j<=most/\j<=d.found.length/\rows.length=j/\rules.length=j/\d.marks.length<=d.found.length/\∀r∈rows,r.length=n.letters.length)/\i=iX (j:Int)/\zQo w1 wr w1.heap.size p w1.heap.size s d (slice a1 n.areas.lows.length c1) (slice a2 n.areas.letters.length c2) (slice a3 n.areas.sets.length c3) u8 rows rules n.start.1 0 0/\n.sq.sortGo n.ahead n.ends most (most+1) 0 n.start.2 [] []=n.sq.sortGo n.ahead n.ends most (most+1-j) j d rows rules)
 case atStart=>exact⟨0,n.start.2,[],[],rfl,⟨lX,lX,rfl,rfl,hst2,λr hr=>absurd hr List.not_mem_nil⟩,rfl,HK2,rfl⟩
 case round=>
  obtain⟨j,d,rows,rules,hgk,⟨hj1,hj2,hj3,hj4,hml,hrl⟩,rfl,⟨Z,nv,rv2,us,hK⟩,hgo⟩:=hrel;have HB:Hid (gk=most+1-j/\Kw w1 wr w1.heap.size p w1.heap.size Z s d (slice a1 n.areas.lows.length c1) (slice a2 n.areas.letters.length c2) (slice a3 n.areas.sets.length c3) nv rv2 u8 us rows rules n.start.1 0 0/\n.sq.sortGo n.ahead n.ends most (most+1) 0 n.start.2 [] []=n.sq.sortGo n.ahead n.ends most (most+1-j) j d rows rules):=⟨hgk,hK,hgo⟩
  obtain⟨fa,fc,z6,z4,hfc⟩:=hK.found;have HFC:Hid (∀i,i<d.found.length->∃g,fa=some ⟨g,0,none⟩/\wr.cell? ⟨g,i,none⟩=some (iX ((d.found.getD i 0:Nat):Int))/\d.found.getD i 0<16777216):=hfc;have HRW:Hid (∀r∈rows,r.length=n.letters.length):=hrl;clear hgk hgo hfc hrl HK2;by_cases hjf:j<d.found.length
  ·have i1:(j:Int)<(d.found.length:Int):=by omega
   by_cases hmo:d.found.length>most
   ·have i2:(d.found.length:Int)>(most:Int):=by omega
    have HZ:Hid (n.sort most=none):=by
     show _=_;unfold Nt.sort;rw[HB.out.2.2,show most+1-j=(most-j)+1 by omega];unfold Sq.sortGo;rw[if_pos hjf,if_pos hmo]
    clear hK;go_wp2_with fail;refine gV (results_tmp2 rfl _ _ _) rfl ?_;exact zMB HZ (HKP _ HB.2.1.keep)
   ·have i2:¬((d.found.length:Int)>(most:Int)):=by omega
    obtain⟨g,rfl,hc6,hxl⟩:=HFC j hjf;have HGo2:Hid (n.sq.sortGo n.ahead n.ends most (most+1) 0 n.start.2 [] []=n.sq.sortGo n.ahead n.ends most (most+1-(j+1)) (j+1) (n.sq.rowTo (zAY n.ahead (d.found.getD j 0)) d n.letters.length).2 (rows++[(n.sq.rowTo (zAY n.ahead (d.found.getD j 0)) d n.letters.length).1]) (rules++[vV n.rules (d.found.getD j 0&&&n.ends)])):=by
     show _=_;rw[HB.out.2.2,show most+1-j=(most+1-(j+1))+1 by omega];show(if j<d.found.length then(if d.found.length>most then none else _) else _)=_;rw[if_pos hjf,if_neg hmo];rfl
    have hra:d.found.getD j 0&&&n.ends<16777216:=Nat.lt_of_le_of_lt Nat.and_le_left hxl;have hand:bits .and i64 ((d.found.getD j 0:Nat):Int) (n.ends:Int)=((d.found.getD j 0&&&n.ends:Nat):Int):=qT _ _ (by omega) (by omega);have HOF:Hid (∀x:Nat,x<16777216->Ca 92 #[pX s.f,iX (x:Int)] wr λe w'=>e=returned (iX ((zAY n.ahead x:Nat):Int))/\Grew wr w'):=λx hx=>zCt wr s.f n.ahead (HSF wr HB.2.1.keep) HAL x hx;have HRow:Hid (∀w5,Grew wr w5->∀y:Nat,y<16777216->Ca 91 #[pX p,iX (y:Int)] w5 λe w'=>∃u Z',e=returned u/\Kw w1 w' w1.heap.size p w1.heap.size Z' s (n.sq.rowTo y d n.letters.length).2 (slice a1 n.areas.lows.length c1) (slice a2 n.areas.letters.length c2) (slice a3 n.areas.sets.length c3) nv rv2 u8 us rows rules n.start.1 0 0/\Ints w' Z' u (ints (n.sq.rowTo y d n.letters.length).1)):=λw5 hk5 y hy=>by
     have h:=(HB.2.1.grown hk5).row hml (by omega) y hy;rw[hsl,HLK.out.row] at h;exact h
    have hyl:=HSP (d.found.getD j 0);have hr1:=n.sq.rowTo_len (zAY n.ahead (d.found.getD j 0)) d n.letters.length;have hr2:=n.sq.rowTo_ml (zAY n.ahead (d.found.getD j 0)) d n.letters.length hml;have HOF2:=HOF _ hxl;clear hK HOF;generalize d.found.getD j 0=x at *;generalize zAY n.ahead x=y at *;have HRow2:Hid (∀w5,Grew wr w5->Ca 91 #[pX p,iX (y:Int)] w5 λe w'=>∃u Z',e=returned u/\Kw w1 w' w1.heap.size p w1.heap.size Z' s (n.sq.rowTo y d n.letters.length).2 (slice a1 n.areas.lows.length c1) (slice a2 n.areas.letters.length c2) (slice a3 n.areas.sets.length c3) nv rv2 u8 us rows rules n.start.1 0 0/\Ints w' Z' u (ints (n.sq.rowTo y d n.letters.length).1)):=λw5 hk5=>HRow w5 hk5 y hyl;clear HRow;generalize (n.sq.rowTo y d n.letters.length).1=rw2 at *;generalize (n.sq.rowTo y d n.letters.length).2=d2 at *;obtain⟨hr1a,-,-,hr1d⟩:=hr1;obtain⟨an,cn,hnv⟩:=zE HB.2.1.nOwn;obtain⟨ar,cr,hrv⟩:=HB.2.1.rOwn.form;rw[hj3] at hnv;rw[hj4] at hrv;subst hnv hrv;go_wp2_with (first|(go_at_call 92;refine HOF2.mono ?_;rintro e w5 ⟨rfl,hk5⟩)|(go_at_call 91;refine(HRow2 w5 hk5).mono ?_;rintro e w6 ⟨u,Z6,rfl,hK6,hu6⟩;obtain⟨au,cu,hfu,-⟩:=id hu6;have HK6:Hid (Kw w1 w6 w1.heap.size p w1.heap.size Z6 s d2 (slice a1 n.areas.lows.length c1) (slice a2 n.areas.letters.length c2) (slice a3 n.areas.sets.length c3) (slice an j cn) (slice ar j cr) u8 us rows rules n.start.1 0 0/\Ints w6 Z6 u (ints rw2)):=⟨hK6,hu6⟩;have v3:=hK6.cells.1;have hkl6:=hK6.kl;have OR:w6.ownsRow w1.heap.size 45 1 (slice an j cn) j ((List.range j).map us):=(by have:=hK6.nOwn;unfold Row at this;rw[hj3] at this;exact this);generalize (ints rw2).length=ul at *;subst hfu;clear hK6 hu6)|(at_builtin;refine wpList_append_lies _ rfl _ _ 88 rfl w1.heap.size 45 ii1 (slice none 0 0) 1 24 underlying88 hi1 hy0 hy1 hy2 rfl (by decide) _ _ _ rfl (OR.alloc _) ⟨w6.heap.size,0,none⟩ 1 1 [slice au ul cu] rfl rfl (cell_one_new _ _ _) (by intro u hu;simp at hu;subst hu;rfl) (by decide) (by unfold maxLen;omega) (by omega) (by simp;omega) _ rfl ?_;intro gg cap w7 hown hgrow hat hlt3;have hPB:w7.heap[w1.heap.size]? =w6.heap[w1.heap.size]? :=(hgrow.block _ (by simp;omega) HK6.1.nbox.1).trans (lG _ _ _ (by omega));have t3:w7.cell? ⟨w1.heap.size,3,none⟩=some (slice an j cn):=(gZ hPB).trans v3;have g3:w7.frozen? ⟨w1.heap.size,3,none⟩=false:=(gY hPB).trans (HK6.1.cells.2.2.2.2 3);have HK7:Hid (Kw w1 (w7.setCell ⟨w1.heap.size,3,none⟩ (slice (qX gg) (j+1) cap)) w1.heap.size p w1.heap.size Z6 s d2 (slice a1 n.areas.lows.length c1) (slice a2 n.areas.letters.length c2) (slice a3 n.areas.sets.length c3) (slice (qX gg) (j+1) cap) (slice ar j cr) u8 (λi=>if i=j then slice au ul cu else us i) (rows++[rw2]) rules n.start.1 0 0):=HK6.1.snocN hj3.symm HK6.2 hown hgrow (by rcases hat with ha|ha;exact .inl ha;right;rw[ha];simp)))
    obtain⟨w8,hw8,HK8⟩:∃w8,w8=w7.setCell ⟨w1.heap.size,3,none⟩ (slice (qX gg) (j+1) cap)/\Hid (Kw w1 w8 w1.heap.size p w1.heap.size Z6 s d2 (slice a1 n.areas.lows.length c1) (slice a2 n.areas.letters.length c2) (slice a3 n.areas.sets.length c3) (slice (qX gg) (j+1) cap) (slice ar j cr) u8 (λi=>if i=j then slice au ul cu else us i) (rows++[rw2]) rules n.start.1 0 0):=⟨_,rfl,HK7⟩
    rw[<-hw8];clear hw8 HK7 hown hgrow hat hlt3 hPB t3 g3 OR v3 hkl6 hk5 HK6 HOF2 HRow2 hc6 z4 z6;have v4:=HK8.cells.2.1;have f4:=HK8.cells.2.2.2.2 4;have vq:=HE3 w8 HK8.keep;have hkl8:=HK8.kl;have HC:Hid (∀wz,wz.Alike w8->Ca 93 #[pX p,iX ((x&&&n.ends:Nat):Int)] wz λe w'=>e=returned (iX (vV n.rules (x&&&n.ends)))/\Grew w8 w'):=λwz hz=>by
     have hkz:Grew w8 wz:=⟨hz.2.1,hz.2.2,by rw[hz.1];exact lQ,λk _ _=>by rw[hz.1]⟩
     refine((HK8.grown hkz).ruleOf (x&&&n.ends) hra).mono ?_;rintro e w' ⟨rfl,rfl⟩;rw[HRL.out];exact⟨rfl,hkz⟩
    generalize vV n.rules (x&&&n.ends)=r at *;generalize x&&&n.ends=xe at *;go_region_law ((first
     |(refine step_append_lies _ (by rfl) (.tmp 71) (.tmp 80) 45 (by rfl) w1.heap.size 3 i0 _ 1 8 underlying45 hi0 hz0 hz1 hz2 rfl (by decide) (slice ar j cr) j (rules.map λx=>iX x) (by simp[Act.eval,Act.put]) (OW.alloc _) ⟨w9.heap.size,0,none⟩ 1 1 [iX r] (by simp[Act.eval,Act.put]) (by rfl) (news_of_block (cs:=#[iX r]) (t:=3) (fr:=(0,0)) (gX w9 _)) (by simp[Value.oneCell']) (by decide) (by unfold maxLen;omega) (by omega) (by simp;omega) (w9.heap.size+1) (by simp) ?_;intro g2 cap2 w10 hown2 hgrow2 hat2 hlt4;have hPB2:=hgrow2.block w1.heap.size (by simp;omega) HNB;have v4b:w10.cell? ⟨w1.heap.size,4,none⟩=some (slice ar j cr):=(gZ hPB2).trans ((gW _ _ _ hkl9).trans v4a);have f4b:w10.frozen? ⟨w1.heap.size,4,none⟩=false:=(gY hPB2).trans ((frozen?_alloc_past _ _ _ hkl9).trans f4a))
     |(go_simp;go_at_call 93;refine(HC _ ?_).mono ?_;exact⟨rfl,rfl,rfl⟩;rintro e w9 ⟨rfl,hk9⟩;have HK9:Hid (Kw w1 w9 w1.heap.size p w1.heap.size Z6 s d2 (slice a1 n.areas.lows.length c1) (slice a2 n.areas.letters.length c2) (slice a3 n.areas.sets.length c3) (slice (qX gg) (j+1) cap) (slice ar j cr) u8 (λi=>if i=j then slice au ul cu else us i) (rows++[rw2]) rules n.start.1 0 0):=HK8.grown hk9;have v4a:=HK9.cells.2.1;have f4a:=HK9.cells.2.2.2.2 4;have vqa:=HE3 w9 HK9.keep;have hkl9:=HK9.kl;have HNB:Hid (some w1.heap.size≠(Value.slice ar j cr).ownBlock):=HK9.nbox.2;have OW:w9.ownsRow w1.heap.size 3 1 (slice ar j cr) j (rules.map λx=>iX x):=(by have:=HK9.rOwn;unfold OwnI at this;rw[hj4] at this;exact this))))
    all_goals
     have HF:Hid (zQo w1 (w10.setCell ⟨w1.heap.size,4,none⟩ (slice (qX g2) (j+1) cap2)) w1.heap.size p w1.heap.size s d2 (slice a1 n.areas.lows.length c1) (slice a2 n.areas.letters.length c2) (slice a3 n.areas.sets.length c3) u8 (rows++[rw2]) (rules++[r]) n.start.1 0 0):=⟨_,_,_,_,HK9.snocR hj4.symm hown2 hgrow2 (by
      rcases hat2 with ha|ha
      ·exact .inl ha
      ·right;rw[ha];omega)⟩
     clear hown2 hgrow2 hat2 hPB2 v4a f4a v4b f4b OW;go_wp2_with fail;go_roundg (most+1-(j+1))
     case measure=>rw[HB.out.1];omega
     case rel=>exact⟨j+1,d2,_,_,rfl,⟨by omega,by omega,by simp[hj3],by simp[hj4],hr2,λt ht=>by
      rcases kU.1 ht with h1|h1
      ·exact HRW t h1
      ·rw[kY.1 h1];exact hr1a⟩,by go_num,HF,HGo2⟩
  ·have i1:¬((j:Int)<(d.found.length:Int)):=by omega
   have HZ:Hid (n.sort most=some (n.ended d rows rules)):=by
    show _=_;have e:n.sq.sortGo n.ahead n.ends most (most+1-j) j d rows rules=some (d,rows,rules):=by
     cases most+1-j with
     |zero=>rfl
     |succ k=>
      show(if j<d.found.length then _ else _)=_;rw[if_neg hjf]
    unfold Nt.sort;rw[HB.out.2.2,e]
   have HEN:Hid (n.ended d rows rules=if zAW (rows.map ints) rules (ints n.start.1)=rows.length then⟨rows++[n.start.1],rules++[-1],zAW (rows.map ints) rules (ints n.start.1),n.sq.kind d 0⟩ else⟨rows,rules,zAW (rows.map ints) rules (ints n.start.1),n.sq.kind d 0⟩):=rfl;have hll:zAW (rows.map ints) rules (ints n.start.1)<=rows.length:=by
    have:=zL1 (rows.map ints) rules (ints n.start.1);rw[kV] at this;exact this
   have HKO:Hid (Ca 94 #[pX p,iX 0] wr λe w'=>e=returned (iX ((n.sq.kind d 0:Nat):Int))/\Kw w1 w' w1.heap.size p w1.heap.size Z s (s.kindS d 0) (slice a1 n.areas.lows.length c1) (slice a2 n.areas.letters.length c2) (slice a3 n.areas.sets.length c3) nv rv2 u8 us rows rules n.start.1 0 0):=by
    have h:=hK.kindOf hml (by omega) 0 (by omega);rw[(HLK.out.kind d 0).1] at h;exact h
   have HLI:Hid (∀w4 Z d' st dd,Kw w1 w4 w1.heap.size p w1.heap.size Z s d' (slice a1 n.areas.lows.length c1) (slice a2 n.areas.letters.length c2) (slice a3 n.areas.sets.length c3) nv rv2 u8 us rows rules n.start.1 st dd->Ca 95 #[pX w1.heap.size,u8] w4 λe w'=>e=returned (iX ((zAW (rows.map ints) rules (ints n.start.1):Nat):Int))/\Grew w4 w'):=λw4 Z d' st dd h4=>by
    refine zLc w4 w1.heap.size nv rv2 u8 (rows.map ints) rules (ints n.start.1) h4.kl h4.cells.1 h4.cells.2.1 h4.rowsAt (zBb h4.rOwn) (by rw[kV];omega) (by rw[kV];omega) (h4.stA.mono h4.zl) λr hr=>?_;obtain⟨r2,hr2,rfl⟩:=List.mem_map.1 hr;rw[zO,HRW.out r2 hr2];omega
   have HPN:Hid (∀i x,w1.cell? ⟨p,i,none⟩≠some (iX x)):=HQ.2.1.no_int HQ.2.2.2.2.2.1 HQ.2.2.2.2.2.2.1 HQ.2.2.2.2.2.2.2 (by obtain⟨a,c,h,-⟩:=HQ.2.1.tls;exact⟨_,_,_,h⟩) ⟨_,_,_,rfl⟩ ⟨_,_,_,rfl⟩ (lv:=undef) (tv:=undef) (sv:=undef) (tl:=undef);have HAR:Hid (ArAt w1 (slice a1 n.areas.lows.length c1) (slice a2 n.areas.letters.length c2) (slice a3 n.areas.sets.length c3) n.areas):=HQ.2.2.1;obtain⟨an,cn,hnv⟩:=zE HB.2.1.nOwn;obtain⟨ar,cr,hrv⟩:=HB.2.1.rOwn.form;rw[hj3] at hnv;rw[hj4] at hrv;generalize zAW (rows.map ints) rules (ints n.start.1)=lk at *;generalize n.sq.kind d 0=dd at *;generalize s.kindS d 0=d3 at *;have hu8:=HU8.out;generalize (ints n.start.1).length=ul8 at *;subst hnv hrv hu8;clear hK HFC z4;by_cases hlk:lk=rows.length
   ·have hlk2:lk=j:=by omega
    subst hlk2;have HEN2:Hid (n.ended d rows rules=⟨rows++[n.start.1],rules++[-1],lk,dd⟩):=by show _=_;rw[HEN.out,if_pos hlk]
    clear hlk HEN;go_wp2_with (first|(go_at_call 94;refine HKO.mono ?_;rintro e w3 ⟨rfl,K3⟩;have v6:=K3.cells.2.2.2.1;have f6:=K3.cells.2.2.2.2 6;have K4:=K3.setDead (dd:Int))|(go_at_call 95;refine(HLI _ _ _ _ _ K4).mono ?_;rintro e w5 ⟨rfl,hk5⟩;have K5:=K4.grown hk5;have v5:=K5.cells.2.2.1;have f5:=K5.cells.2.2.2.2 5;have K6:=K5.setStart (lk:Int)))
    have HK6:Hid (Kw w1 (w5.setCell ⟨w1.heap.size,5,none⟩ (iX (lk:Int))) w1.heap.size p w1.heap.size Z s d3 (slice a1 n.areas.lows.length c1) (slice a2 n.areas.letters.length c2) (slice a3 n.areas.sets.length c3) (slice an lk cn) (slice ar lk cr) (slice a8 ul8 c8) us rows rules n.start.1 (lk:Int) (dd:Int)):=K6;clear K3 K4 K5 K6 v6 f6 v5 f5 z6 hk5 HKO HLI;generalize w5.setCell ⟨w1.heap.size,5,none⟩ (iX (lk:Int))=w6 at *;have v5:=HK6.cells.2.2.1;have v3:=HK6.cells.1;have hkl6:=HK6.kl;go_quiet (fail);have HK7:Hid (Kw w1 (w6.drewN nq) w1.heap.size p w1.heap.size Z s d3 (slice a1 n.areas.lows.length c1) (slice a2 n.areas.letters.length c2) (slice a3 n.areas.sets.length c3) (slice an lk cn) (slice ar lk cr) (slice a8 ul8 c8) us rows rules n.start.1 (lk:Int) (dd:Int)):=HK6.grown (Keep.alike (w':=w6.drewN nq) ⟨rfl,rfl,rfl⟩);clear HK6 v5 v3;generalize w6.drewN nq=w7 at *;have v3:=HK7.cells.1;have hkl7:=HK7.kl;have OR:w7.ownsRow w1.heap.size 45 1 (slice an lk cn) lk ((List.range lk).map us):=(by have:=HK7.nOwn;unfold Row at this;rw[hj3] at this;exact this)
    go_wp2_with (first|(at_builtin;refine wpList_append_lies _ rfl _ _ 45 rfl w1.heap.size 3 i0 (iX 0) 1 8 underlying45 hi0 hz0 hz1 hz2 rfl (by decide) _ _ _ rfl (OW.alloc _) ⟨w8.heap.size,0,none⟩ 1 1 [iX (-1)] rfl rfl (zBR _ [iX (-1)] _ _ (zC _ _ _)) (by intro u hu;simp at hu;subst hu;rfl) (by decide) (by unfold maxLen;omega) (by omega) (by simp[zC];omega) _ rfl ?_;intro g2 cap2 w9 hown2 hgrow2 hat2 hlt4;have hPB2:w9.heap[w1.heap.size]? =(w8.setCell ⟨w1.heap.size,3,none⟩ (slice (qX gg) (lk+1) cap)).heap[w1.heap.size]? :=(hgrow2.block _ (by simp[zC];omega) HK8.nbox.2).trans (lG _ _ _ HK8.kl);have t4:w9.cell? ⟨w1.heap.size,4,none⟩=some (slice ar lk cr):=(gZ hPB2).trans v4;have g4:w9.frozen? ⟨w1.heap.size,4,none⟩=false:=(gY hPB2).trans (HK8.cells.2.2.2.2 4);have HK9:Hid (Kw w1 (w9.setCell ⟨w1.heap.size,4,none⟩ (slice (qX g2) (lk+1) cap2)) w1.heap.size p w1.heap.size Z s d3 (slice a1 n.areas.lows.length c1) (slice a2 n.areas.letters.length c2) (slice a3 n.areas.sets.length c3) (slice (qX gg) (lk+1) cap) (slice (qX g2) (lk+1) cap2) (slice a8 ul8 c8) (λi=>if i=lk then slice a8 ul8 c8 else us i) (rows++[n.start.1]) (rules++[-1]) n.start.1 (lk:Int) (dd:Int)):=HK8.snocR hj4.symm hown2 hgrow2 (by rcases hat2 with ha|ha;exact .inl ha;right;rw[ha];simp[zC]))|(at_builtin;refine wpList_append_lies _ rfl _ _ 88 rfl w1.heap.size 45 ii1 (slice none 0 0) 1 24 underlying88 hi1 hy0 hy1 hy2 rfl (by decide) _ _ _ rfl (OR.alloc _) ⟨w7.heap.size,0,none⟩ 1 1 [slice a8 ul8 c8] rfl rfl (cell_one_new _ _ _) (by intro u hu;simp at hu;subst hu;rfl) (by decide) (by unfold maxLen;omega) (by omega) (by simp;omega) _ rfl ?_;intro gg cap w8 hown hgrow hat hlt3;have hPB:w8.heap[w1.heap.size]? =w7.heap[w1.heap.size]? :=(hgrow.block _ (by simp;omega) HK7.nbox.1).trans (lG _ _ _ (by omega));have t3:w8.cell? ⟨w1.heap.size,3,none⟩=some (slice an lk cn):=(gZ hPB).trans v3;have g3:w8.frozen? ⟨w1.heap.size,3,none⟩=false:=(gY hPB).trans (HK7.cells.2.2.2.2 3);have HK8:Hid (Kw w1 (w8.setCell ⟨w1.heap.size,3,none⟩ (slice (qX gg) (lk+1) cap)) w1.heap.size p w1.heap.size Z s d3 (slice a1 n.areas.lows.length c1) (slice a2 n.areas.letters.length c2) (slice a3 n.areas.sets.length c3) (slice (qX gg) (lk+1) cap) (slice ar lk cr) (slice a8 ul8 c8) (λi=>if i=lk then slice a8 ul8 c8 else us i) (rows++[n.start.1]) rules n.start.1 (lk:Int) (dd:Int)):=HK7.snocN hj3.symm HK7.stA hown hgrow (by rcases hat with ha|ha;exact .inl ha;right;rw[ha];simp);have v4:=HK8.cells.2.1;have hkl8:w1.heap.size<w8.heap.size:=(by have:=HK8.kl;rw[zC] at this;exact this);have OW:(w8.setCell ⟨w1.heap.size,3,none⟩ (slice (qX gg) (lk+1) cap)).ownsRow w1.heap.size 3 1 (slice ar lk cr) lk (rules.map λx=>iX x):=(by have:=HK8.rOwn;unfold OwnI at this;rw[hj4] at this;exact this)))
    refine gV (results_tmp2 rfl _ _ _) rfl ?_;refine zHh HZ ⟨?_,HKP _ HK9.keep⟩;rw[HEN2.out];exact zOr (w:=w) HK9 rfl HPN HAR
   ·have HEN2:Hid (n.ended d rows rules=⟨rows,rules,lk,dd⟩):=by show _=_;rw[HEN.out,if_neg hlk]
    have i3:¬((lk:Int)=(j:Int)):=by omega
    clear hlk HEN;go_wp2_with (first|(go_at_call 94;refine HKO.mono ?_;rintro e w3 ⟨rfl,K3⟩;have v6:=K3.cells.2.2.2.1;have f6:=K3.cells.2.2.2.2 6;have K4:=K3.setDead (dd:Int))|(go_at_call 95;refine(HLI _ _ _ _ _ K4).mono ?_;rintro e w5 ⟨rfl,hk5⟩;have K5:=K4.grown hk5;have v5:=K5.cells.2.2.1;have f5:=K5.cells.2.2.2.2 5;have K6:=K5.setStart (lk:Int)))
    have HK6:Hid (Kw w1 (w5.setCell ⟨w1.heap.size,5,none⟩ (iX (lk:Int))) w1.heap.size p w1.heap.size Z s d3 (slice a1 n.areas.lows.length c1) (slice a2 n.areas.letters.length c2) (slice a3 n.areas.sets.length c3) (slice an j cn) (slice ar j cr) (slice a8 ul8 c8) us rows rules n.start.1 (lk:Int) (dd:Int)):=K6;clear K3 K4 K5 K6 v6 f6 v5 f5 z6 hk5 HKO HLI;generalize w5.setCell ⟨w1.heap.size,5,none⟩ (iX (lk:Int))=w6 at *;have v5:=HK6.cells.2.2.1;have v3:=HK6.cells.1;have hc3:((lk:Int)==(j:Int))=false:=by simp;omega
    clear i3;go_quiet (fail);go_wp2_with fail;refine gV (results_tmp2 rfl _ _ _) rfl ?_;have HK7:=HK6.grown (Keep.alike (w':=w6.drewN nq) ⟨rfl,rfl,rfl⟩);refine zHh HZ ⟨?_,HKP _ HK7.keep⟩;rw[HEN2.out];exact zOr (w:=w) HK7 rfl HPN HAR
end
def a64 (f:Nat->Int):Array Value:=((List.range 64).map λi=>Value.int i64 (f i)).toArray
theorem zBU (f:Nat->Int):(a64 f).size=64:=by simp[a64]
theorem zAv (f:Nat->Int)(i:Nat)(a:i<64):(a64 f)[i]? =some (iX (f i)):=by
 simp[a64,a]
theorem zP3:(prog.info? 246).map (·.size)=some 64:=by kernel_rfl
theorem zFz (w:World)(b:Nat)(f:Nat->Int)(a:w.heap[b]? =some (.cells (a64 f) 246)):w.rangeAt b 0 (a64 f).toList:=λj v c=>by
 unfold cell?;rw[a,Nat.zero_add];simpa using c
theorem zL2 (f:Nat->Int):(prog.info? 246).map (·.size)=some (a64 f).toList.length:=by
 rw[Array.length_toList,zBU];exact zP3
theorem zL5 (w:World)(f:Nat->Int)(i:Nat)(a:i<64):Sem.run prog (Instr.index 246 (agg (a64 f)) (iX (i:Int))) w=.ok (iX (f i)) w:=by
 have b:(0:Int)<=(i:Int)/\(i:Int)<64:=by omega
 simp[Instr.index,run_underlying underlying246,asIntOf,b,go_sem,zAv f i a];omega
def qZ (row:List Int)(f:Nat->Int):Bool:=(List.range 64).all λi=>row.getD (128+i) 0==f i
theorem zPe (row:List Int)(f:Nat->Int)(i:Nat)(a:i<64)(b:row.getD (128+i) 0≠f i):qZ row f=false:=by
 unfold qZ;rw[List.all_eq_false];exact⟨i,List.mem_range.2 a,by simpa using b⟩
theorem zOd (row:List Int)(f:Nat->Int)(a:∀i,i<64->row.getD (128+i) 0=f i):qZ row f=true:=by
 unfold qZ;rw[List.all_eq_true];intro i b;rw[a i (List.mem_range.1 b)];simp
theorem zGZ (w:World)(v:Value)(row:List Int)(s:Ints w (In w) v row)(t:row.length=256)(f:Nat->Int):
  Calls prog 186 #[v,agg (a64 f)] w λe w'=>e=returned (bool (qZ row f))/\Grew w w':=by
 obtain⟨M,N,rfl,_,_,l⟩:=s;rw[t] at l ⊢;have u:=vl l;have p:Hid ((w.alloc (.cells (a64 f) 246)).rangeAt w.heap.size 0 (a64 f).toList/\(prog.info? 246).map (·.size)=some (a64 f).toList.length):=⟨zFz (w.alloc (.cells (a64 f) 246)) w.heap.size f (gX _ _),zL2 f⟩
 have z:Hid (∀w i,i<64->Sem.run prog (Instr.index 246 (agg (a64 f)) (iX ((i:Nat):Int))) w=.ok (iX (f i)) w):=λw i=>zL5 w f i;have B:=vl <| zAv f;have C:Hid (Grew w (w.alloc (.cells (a64 f) 246))):=kZ _ _ lQ;have D:Hid (∀i,i<64->row.getD (128+i) 0≠f i->qZ row f=false):=zPe row f;have E:Hid ((∀i,i<64->row.getD (128+i) 0=f i)->qZ row f=true):=zOd row f;clear l;generalize a64 f=F at *;go_in;go_wp2_with (first|(refine wpList_load_mid rfl 246 (.tmp 3) rfl w.heap.size 0 rfl F.toList (.array 64 3) p.1 underlying246 rfl p.2 ?_))
 go_loopg [8] 64 (λk i wr=>∃j:Nat,k=64-j/\j<=64/\i=iX (j:Int)/\(∀i,i<j->row.getD (128+i) 0=f i)/\Grew w wr)
 case atStart=>exact⟨0,rfl,lX,rfl,λi q=>by omega,C⟩
 case round=>
  obtain⟨j,m,O,rfl,d,g⟩:=hrel;have b:Hid (gk=64-j/\(∀i,i<j->row.getD (128+i) 0=f i)/\Grew w wr):=⟨m,d,g⟩
  by_cases o:j<64
  ·have G:(j:Int)<64:=by omega
   obtain⟨P,Q,rfl,H,r⟩:=u (128+j) (by omega);have R:=zA r H g;have S:=z wr j o;have T:=B j o;have I:Hid (row.getD (128+j) 0≠f j->qZ row f=false):=D j o;have J:Hid (row.getD (128+j) 0=f j->∀i,i<j+1->row.getD (128+i) 0=f i):=λK i q=>by
    by_cases e:i=j
    ·rw[e];exact K
    ·exact b.2.1 i (by omega)
   have U:(128:Int)+(j:Int)<256:=by omega
   clear m d g r;generalize row.getD (128+j) 0=x at *;generalize f j=y at *;by_cases a:x=y
   ·have c:Hid (∀i,i<j+1->row.getD (128+i) 0=f i):=J a
    have L:(x != y)=false:=by simp[a]
    clear a;go_wp2;go_roundg (64-(j+1))
    case measure=>rw[b.out.1];omega
    case rel=>exact⟨j+1,rfl,by omega,by go_num,c,b.2.2⟩
   ·have c:Hid (qZ row f=false):=I a
    have L:(x != y)=true:=by simp[a]
    clear a;go_wp2;go_ret;exact⟨by rw[c.out];rfl,b.2.2⟩
  ·have G:(64:Int)<=(j:Int):=by omega
   have c:Hid (qZ row f=true):=E λi q=>d i (by omega);clear m d g;go_wp2;go_ret;exact⟨by rw[c.out];rfl,b.2.2⟩
section
structure Mk where
 next:List (List Int)
 rules:List Int
 of:List Int
 full:Bool
def zDY (l:List Int):Array Value:=(l.map λx=>Value.int i64 x).toArray
structure Mw (w0 w:World)(mb kb:Nat)(most:Nat)(m:Mk)(nv rv ov:Value)(gs:Nat->Nat):Prop where
 blk:w.heap[mb]? =some (.cells #[pointer (some ⟨kb,0,none⟩),int i64 (most:Int),bool m.full,nv,rv,int i64 0,ov] 183)
 nOwn:Row w w0.heap.size 45 nv m.next.length λi=>slice (some ⟨gs i,0,none⟩) 256 256
 each:∀i,i<m.next.length->w.heap[gs i]? =some (.cells (zDY (m.next.getD i [])) 3)/\w0.heap.size<=gs i/\(m.next.getD i []).length=256
 rOwn:OwnI w w0.heap.size rv m.rules
 oOwn:OwnI w w0.heap.size ov m.of
 inj:∀i j,i<m.next.length->j<m.next.length->gs i=gs j->i=j
 nr:∀i,i<m.next.length->some (gs i)≠rv.ownBlock
 no:∀i,i<m.next.length->some (gs i)≠ov.ownBlock
 ro:∀g,rv.ownBlock=some g->some g≠ov.ownBlock
 mH:w0.heap.size<=mb
 keep:Grew w0 w
def MwIs (w0 w:World)(mb kb most:Nat)(m:Mk):Prop:=∃nv rv ov gs,Mw w0 w mb kb most m nv rv ov gs
def StayT (w w':World):Prop:=∀(k:Nat) (c:Array Value) (t:TypeId),w.heap[k]? =some (Obj.cells c t)->t≠3->t≠45->t≠183->w'.heap[k]? =some (Obj.cells c t)
theorem StayT.refl (w:World):StayT w w:=λ_ _ _ a _ _ _=>a
theorem StayT.trans {w w' a:World}(f:StayT w w')(g:StayT w' a):StayT w a:=λk c t i b d e=>g k c t (f k c t i b d e) b d e
theorem Keep.stayT {w w':World}(d:Grew w w'):StayT w w':=λk c t a _ _ _=>by
 have b:=(kQ.1 a).1;exact(d.block k b (kJ b)).trans a
section
variable {w0 w w2:World} {mb kb most:Nat} {m:Mk} {nv rv ov:Value} {gs:Nat->Nat}
theorem zNV (l:List Int)(i:Nat)(a:i<l.length):(zDY l)[i]? =some (iX (l.getD i 0)):=by
 simp[zDY,a]
theorem zNU (l:List Int)(i:Nat)(x:Int):(zDY l).setIfInBounds i (iX x)=zDY (l.set i x):=by
 simp[zDY,List.map_set]
theorem Mw.lt (a:Mw w0 w mb kb most m nv rv ov gs):mb<w.heap.size:=(kQ.1 a.blk).1
theorem Mw.gl (a:Mw w0 w mb kb most m nv rv ov gs)(i:Nat)(b:i<m.next.length):gs i<w.heap.size:=(kQ.1 (a.each i b).1).1
theorem Mw.cells (a:Mw w0 w mb kb most m nv rv ov gs):w.cell? ⟨mb,0,none⟩=some (pX kb)/\w.cell? ⟨mb,1,none⟩=some (iX (most:Int))/\w.cell? ⟨mb,2,none⟩=some (bool m.full)/\w.cell? ⟨mb,3,none⟩=some nv/\w.cell? ⟨mb,4,none⟩=some rv/\w.cell? ⟨mb,6,none⟩=some ov/\∀i,w.frozen? ⟨mb,i,none⟩=false:=by
 refine⟨?_,?_,?_,?_,?_,?_,λi=>?_⟩
 all_goals first|(unfold cell?;rw[a.blk];rfl)|(unfold frozen?;rw[a.blk];simp)
theorem Mw.row (c:Mw w0 w mb kb most m nv rv ov gs)(i b:Nat)(d:i<m.next.length)(e:b<256):w.cell? ⟨gs i,b,none⟩=some (iX ((m.next.getD i []).getD b 0))/\w.frozen? ⟨gs i,b,none⟩=false:=by
 obtain⟨a,_,f⟩:=c.each i d
 constructor
 ·unfold cell?;rw[a];exact zNV _ _ (by rw[f];exact e)
 ·unfold frozen?;rw[a];simp
theorem Mw.box (a:Mw w0 w mb kb most m nv rv ov gs):some mb≠nv.ownBlock/\some mb≠rv.ownBlock/\some mb≠ov.ownBlock/\∀i,i<m.next.length->gs i≠mb:=by
 refine⟨zM a.nOwn a.blk (by decide),zM a.rOwn a.blk (by decide),zM a.oOwn a.blk (by decide),λi b e=>?_⟩;have:=(a.each i b).1;rw[e,a.blk] at this;simp at this
theorem Mw.grown (a:Mw w0 w mb kb most m nv rv ov gs)(b:Grew w w2):Mw w0 w2 mb kb most m nv rv ov gs:=by
 have e:∀k,k<w.heap.size->w2.heap[k]? =w.heap[k]? :=λk d=>b.block k d (kJ d);exact⟨(e mb a.lt).trans a.blk,zK a.nOwn b,λi c=>⟨(e _ (a.gl i c)).trans (a.each i c).1,(a.each i c).2⟩,zK a.rOwn b,zK a.oOwn b,a.inj,a.nr,a.no,a.ro,a.mH,a.keep.trans (b.lower a.keep.size a.keep.size)⟩
theorem Mw.put (a:Mw w0 w mb kb most m nv rv ov gs)(s b:Nat)(l:s<m.next.length)(x:Int):Mw w0 (w.setCell ⟨gs s,b,none⟩ (iX x)) mb kb most {m with next:=m.next.set s ((m.next.getD s []).set b x)} nv rv ov gs/\StayT w (w.setCell ⟨gs s,b,none⟩ (iX x)):=by
 have e:∀k,k≠gs s->(w.setCell ⟨gs s,b,none⟩ (iX x)).heap[k]? =w.heap[k]? :=λk d=>lJ _ _ _ _ d;obtain⟨p,r,u⟩:=a.each s l;have v:=a.box;have y:=zM a.nOwn p (by decide);have o:(m.next.set s ((m.next.getD s []).set b x)).length=m.next.length:=List.length_set ..
 refine⟨⟨(e mb (Ne.symm (v.2.2.2 s l))).trans a.blk,?_,λi g=>?_,zD a.rOwn λk _ _ d=>e k λf=>a.nr s l (by rw[d,f]),zD a.oOwn λk _ _ d=>e k λf=>a.no s l (by rw[d,f]),λi j g z=>?_,λi g=>?_,λi g=>?_,a.ro,a.mH,a.keep.trans (zP _ _ _ _ r)⟩,λk c t d A _ _=>?_⟩
 ·show Row _ _ _ _ (m.next.set s _).length _
  rw[o];exact zD a.nOwn λk _ _ d=>e k λf=>y (by rw[d,f])
 ·have q:i<m.next.length:=by rw[<-o];exact g
  show _=some (Obj.cells (zDY ((m.next.set s _).getD i [])) _)/\_/\((m.next.set s _).getD i []).length=256;rw[lW,List.getElem?_set];by_cases f:s=i
  ·subst f
   rw[if_pos rfl,if_pos l];refine⟨?_,r,by simp only[Option.getD_some,List.length_set];exact u⟩;show _=some (Obj.cells (zDY ((m.next.getD s []).set b x)) _);rw[<-zNU];simp[setCell,lU,p]
  ·rw[if_neg f,<-lW]
   have B:gs i≠gs s:=λC=>f (a.inj s i l q C.symm);exact⟨(e _ B).trans (a.each i q).1,(a.each i q).2⟩
 ·exact a.inj i j (by rw[<-o];exact g) (by rw[<-o];exact z)
 ·exact a.nr i (by rw[<-o];exact g)
 ·exact a.no i (by rw[<-o];exact g)
 ·refine(e k λf=>?_).trans d
  rw[f,p] at d;injection d with d;injection d with _ d;exact A d.symm
end
end
section
attribute [local go_sem ↓] Go.wp_at_zero Go.wp_at_succ
def zeros:List Int:=List.replicate 256 0
theorem zOa {w:World}{H g:Nat}(d:w.ownsRow H 3 1 (slice (qX g) 256 256) 256 ((List.range 256).map λ_=>iX 0)):w.heap[g]? =some (.cells (zDY zeros) 3):=by
 rcases d.2 with⟨b,_⟩|⟨p,cap,c,b,_,e,_,_,f,j⟩
 ·cases b
 ·injection b with a q k
  injection a with a;injection a with a;subst a k;rw[e];have l:c.toList=(List.range 256).map λ_=>iX 0:=by
   rw[<-j,List.take_of_length_le (by rw[Array.length_toList,f];exact lQ)]
  have o:c=zDY zeros:=by
   apply Array.toList_inj.1;rw[l];unfold zDY zeros;rw[List.map_replicate];apply List.ext_getElem
   ·rw[kV,List.length_range,List.length_replicate]
   ·intro i r s
    rw[List.getElem_map,List.getElem_replicate]
  rw[o]
section
variable {w0 w w1 w2:World} {mb kb most:Nat} {m:Mk} {nv rv ov:Value} {gs:Nat->Nat}
theorem Mw.newRow {o:Obj}{g cap n:Nat}(f:Mw w0 w mb kb most m nv rv ov gs)(G:n=m.next.length)(z:Grew w w1)(A:w1.heap[w.heap.size]? =some (.cells (zDY zeros) 3))
  (H:w2.ownsRow w0.heap.size 45 1 (slice (qX g) (n+1) cap) (n+1) (((List.range n).map λi=>slice (some ⟨gs i,0,none⟩) 256 256)++[slice (qX w.heap.size) 256 256])) (q:(w1.alloc o).grownBy w2 nv.ownBlock) (I:nv.ownBlock=some g\/w1.heap.size<=g):
  Mw w0 (w2.setCell ⟨mb,3,none⟩ (slice (qX g) (n+1) cap)) mb kb most {m with next:=m.next++[zeros]} (slice (qX g) (n+1) cap) rv ov (λi=>if i=n then w.heap.size else gs i)/\StayT w (w2.setCell ⟨mb,3,none⟩ (slice (qX g) (n+1) cap)):=by
 subst G;have b:=f.grown z;have s:=b.box;have J:=b.lt;have Y:=f.lt;have K:=(kQ.1 A).1;have L:=f.keep.size;have u:∀j,j<w1.heap.size->some j≠nv.ownBlock->w2.heap[j]? =w1.heap[j]? :=λj B M=>(q.block j (by simp;omega) M).trans (lG _ _ _ (by omega));have N:w1.heap.size<=w2.heap.size:=lY (by simp) q.size;have O:=(u mb J s.1).trans b.blk;have e:∀k,k≠mb->(w2.setCell ⟨mb,3,none⟩ (slice (qX g) (m.next.length+1) cap)).heap[k]? =w2.heap[k]? :=λk a=>lJ _ _ _ _ a;have P:∀i,i<m.next.length->some (gs i)≠nv.ownBlock:=λi l=>zM b.nOwn (b.each i l).1 (by decide)
 have Q:some w.heap.size≠nv.ownBlock:=λd=>by have:=(f.nOwn.lt _ d.symm).2;omega
 have R:=zQ q b.rOwn λk a=>yC b.rOwn b.nOwn (by decide) a;have S:=zQ q b.oOwn λk a=>yC b.oOwn b.nOwn (by decide) a;have aa:mb≠g:=λd=>by
  rcases I with C|C
  ·exact s.1 (by rw[C,d])
  ·omega
 have T:(m.next++[zeros]).length=m.next.length+1:=by simp
 have D:∀i,i<m.next.length->gs i<w.heap.size:=λi l=>f.gl i l
 refine⟨⟨by simp[setCell,lU,O],?_,λi l=>?_,zD R λk _ _ a=>e k λd=>s.2.1 (by rw[a,d]),zD S λk _ _ a=>e k λd=>s.2.2.1 (by rw[a,d]),λi j l B=>?_,λi l=>?_,λi l=>?_,f.ro,f.mH,b.keep.trans ⟨q.os,q.output,by rw[zC];exact N,λk a _=>(e k (by have:=f.mH;omega)).trans (u k (by omega) λd=>by have:=(f.nOwn.lt k d.symm).1;omega)⟩⟩,λk c t a ab U V=>?_⟩
 ·show Row _ _ _ _ (m.next++[zeros]).length _
  rw[T];have W:Row w2 w0.heap.size 45 (slice (qX g) (m.next.length+1) cap) (m.next.length+1) (λi=>slice (some ⟨if i=m.next.length then w.heap.size else gs i,0,none⟩) 256 256):=by
   unfold Row;rw[xP,if_pos rfl];rw[show (List.range m.next.length).map (λi=>Value.slice (some ⟨if i=m.next.length then w.heap.size else gs i,0,none⟩) 256 256)=(List.range m.next.length).map λi=>Value.slice (some ⟨gs i,0,none⟩) 256 256 from List.map_congr_left λi l=>by rw[if_neg (by have:=List.mem_range.1 l;omega)]];exact H
  exact zD W λk _ _ a=>e k λd=>by
   have:g=k:=by simpa[Value.ownBlock] using a
   omega
 ·show _=some (Obj.cells (zDY ((m.next++[zeros]).getD i [])) _)/\_/\((m.next++[zeros]).getD i []).length=256
  by_cases p:i=m.next.length
  ·subst p
   rw[if_pos rfl,lW,hZ lQ,Nat.sub_self];exact⟨(e _ (by omega)).trans ((u _ K Q).trans A),L,List.length_replicate ..⟩
  ·have r:i<m.next.length:=by
    have x:i<(m.next++[zeros]).length:=l;omega
   rw[if_neg p,lW,kW r,<-lW];exact⟨(e _ (s.2.2.2 i r)).trans ((u _ (b.gl i r) (P i r)).trans (b.each i r).1),(b.each i r).2⟩
 ·have x:i<(m.next++[zeros]).length:=l
  have ac:j<(m.next++[zeros]).length:=B;intro p;by_cases y:i=m.next.length
  ·by_cases v:j=m.next.length
   ·omega
   ·rw[if_pos y,if_neg v] at p
    have:=D j (by omega);omega
  ·by_cases v:j=m.next.length
   ·rw[if_neg y,if_pos v] at p
    have:=D i (by omega);omega
   ·rw[if_neg y,if_neg v] at p
    exact f.inj i j (by omega) (by omega) p
 ·have x:i<(m.next++[zeros]).length:=l
  split
  ·intro d;have:=(f.rOwn.lt _ d.symm).2;omega
  ·exact f.nr i (by omega)
 ·have x:i<(m.next++[zeros]).length:=l
  split
  ·intro d;have:=(f.oOwn.lt _ d.symm).2;omega
  ·exact f.no i (by omega)
 ·have E:=(kQ.1 a).1
  have F:=(z.block k E (kJ E)).trans a;have X:k≠mb:=λd=>by
   rw[d,f.blk] at a;injection a with a;injection a with _ a;exact V a.symm
  exact(e k X).trans ((u k (by omega) (zM b.nOwn F (Ne.symm U))).trans F)
theorem Mw.newRule {o:Obj}{g cap n:Nat}{x:Int}(a:Mw w0 w mb kb most m nv rv ov gs)(u:n=m.rules.length)(v:w2.ownsRow w0.heap.size 3 1 (slice (qX g) (n+1) cap) (n+1) ((m.rules.map λx=>iX x)++[iX x]))(l:(w.alloc o).grownBy w2 rv.ownBlock)(s:rv.ownBlock=some g\/w.heap.size<=g):
  Mw w0 (w2.setCell ⟨mb,4,none⟩ (slice (qX g) (n+1) cap)) mb kb most {m with rules:=m.rules++[x]} nv (slice (qX g) (n+1) cap) ov gs/\StayT w (w2.setCell ⟨mb,4,none⟩ (slice (qX g) (n+1) cap)):=by
 subst u;have p:=a.box;have y:=a.lt;have r:∀j,j<w.heap.size->some j≠rv.ownBlock->w2.heap[j]? =w.heap[j]? :=λj J z=>(l.block j (by simp;omega) z).trans (lG _ _ _ (by omega));have A:w.heap.size<=w2.heap.size:=lY (by simp) l.size;have B:=(r mb y p.2.1).trans a.blk;have e:∀k,k≠mb->(w2.setCell ⟨mb,4,none⟩ (slice (qX g) (m.rules.length+1) cap)).heap[k]? =w2.heap[k]? :=λk b=>lJ _ _ _ _ b;have C:=zQ l a.nOwn λk b=>yC a.nOwn a.rOwn (by decide) b;have D:=zQ l a.oOwn λk b=>λd=>a.ro k d.symm b.symm;have K:mb≠g:=λd=>by
  rcases s with q|q
  ·exact p.2.1 (by rw[q,d])
  ·omega
 refine⟨⟨by simp[setCell,lU,B],zD C λk _ _ b=>e k λd=>p.1 (by rw[b,d]),λi f=>⟨(e _ (p.2.2.2 i f)).trans ((r _ (a.gl i f) (a.nr i f)).trans (a.each i f).1),(a.each i f).2⟩,zD (OwnI.snoc v) λk _ _ b=>e k λd=>?_,zD D λk _ _ b=>e k λd=>p.2.2.1 (by rw[b,d]),a.inj,λi f d=>?_,a.no,qN a.oOwn a.ro s,a.mH,a.keep.trans ⟨l.os,l.output,by rw[zC];exact A,λk b _=>(e k (by have:=a.mH;omega)).trans (r k (by have:=a.keep.size;omega) λd=>by have:=(a.rOwn.lt k d.symm).1;omega)⟩⟩,λk c t b E L F=>?_⟩
 ·have:g=k:=by simpa[Value.ownBlock] using b
  omega
 ·have G:gs i=g:=by simpa[Value.ownBlock] using d
  rcases s with q|q
  ·exact a.nr i f (by rw[q,G])
  ·have:=a.gl i f;omega
 ·have H:=(kQ.1 b).1
  have I:k≠mb:=λd=>by
   rw[d,a.blk] at b;injection b with b;injection b with _ b;exact F b.symm
  exact(e k I).trans ((r k H (zM a.rOwn b (Ne.symm E))).trans b)
theorem Mw.newOf {o:Obj}{g cap n:Nat}{x:Int}(a:Mw w0 w mb kb most m nv rv ov gs)(u:n=m.of.length)(v:w2.ownsRow w0.heap.size 3 1 (slice (qX g) (n+1) cap) (n+1) ((m.of.map λx=>iX x)++[iX x]))(f:(w.alloc o).grownBy w2 ov.ownBlock)(s:ov.ownBlock=some g\/w.heap.size<=g):
  Mw w0 (w2.setCell ⟨mb,6,none⟩ (slice (qX g) (n+1) cap)) mb kb most {m with of:=m.of++[x]} nv rv (slice (qX g) (n+1) cap) gs/\StayT w (w2.setCell ⟨mb,6,none⟩ (slice (qX g) (n+1) cap)):=by
 subst u;have p:=a.box;have y:=a.lt;have r:∀j,j<w.heap.size->some j≠ov.ownBlock->w2.heap[j]? =w.heap[j]? :=λj J z=>(f.block j (by simp;omega) z).trans (lG _ _ _ (by omega));have A:w.heap.size<=w2.heap.size:=lY (by simp) f.size;have B:=(r mb y p.2.2.1).trans a.blk;have e:∀k,k≠mb->(w2.setCell ⟨mb,6,none⟩ (slice (qX g) (m.of.length+1) cap)).heap[k]? =w2.heap[k]? :=λk b=>lJ _ _ _ _ b;have C:=zQ f a.nOwn λk b=>yC a.nOwn a.oOwn (by decide) b;have D:=zQ f a.rOwn a.ro;have K:mb≠g:=λd=>by
  rcases s with q|q
  ·exact p.2.2.1 (by rw[q,d])
  ·omega
 refine⟨⟨by simp[setCell,lU,B],zD C λk _ _ b=>e k λd=>p.1 (by rw[b,d]),λi l=>⟨(e _ (p.2.2.2 i l)).trans ((r _ (a.gl i l) (a.no i l)).trans (a.each i l).1),(a.each i l).2⟩,zD D λk _ _ b=>e k λd=>p.2.1 (by rw[b,d]),zD (OwnI.snoc v) λk _ _ b=>e k λd=>?_,a.inj,a.nr,λi l d=>?_,zDa (qN a.rOwn (λg f e=>a.ro g e.symm f.symm) s),a.mH,a.keep.trans ⟨f.os,f.output,by rw[zC];exact A,λk b _=>(e k (by have:=a.mH;omega)).trans (r k (by have:=a.keep.size;omega) λd=>by have:=(a.oOwn.lt k d.symm).1;omega)⟩⟩,λk c t b E L F=>?_⟩
 ·have:g=k:=by simpa[Value.ownBlock] using b
  omega
 ·have G:gs i=g:=by simpa[Value.ownBlock] using d
  rcases s with q|q
  ·exact a.no i l (by rw[q,G])
  ·have:=a.gl i l;omega
 ·have H:=(kQ.1 b).1
  have I:k≠mb:=λd=>by
   rw[d,a.blk] at b;injection b with b;injection b with _ b;exact F b.symm
  exact(e k I).trans ((r k H (zM a.oOwn b (Ne.symm E))).trans b)
theorem Mw.fill (a:Mw w0 w mb kb most m nv rv ov gs):Mw w0 (w.setCell ⟨mb,2,none⟩ (bool true)) mb kb most {m with full:=true} nv rv ov gs/\StayT w (w.setCell ⟨mb,2,none⟩ (bool true)):=by
 have f:=a.box;have e:∀k,k≠mb->(w.setCell ⟨mb,2,none⟩ (bool true)).heap[k]? =w.heap[k]? :=λk b=>lJ _ _ _ _ b;refine⟨⟨by simp[setCell,lU,a.blk],zD a.nOwn λk _ _ b=>e k λd=>f.1 (by rw[b,d]),λi g=>⟨(e _ (f.2.2.2 i g)).trans (a.each i g).1,(a.each i g).2⟩,zD a.rOwn λk _ _ b=>e k λd=>f.2.1 (by rw[b,d]),zD a.oOwn λk _ _ b=>e k λd=>f.2.2.1 (by rw[b,d]),a.inj,a.nr,a.no,a.ro,a.mH,a.keep.trans (zP _ _ _ _ a.mH)⟩,λk c t b l o j=>(e k λd=>?_).trans b⟩;rw[d,a.blk] at b;injection b with b;injection b with _ b;exact j b.symm
end
end
section
attribute [local go_sem ↓] Go.wp_at_zero Go.wp_at_succ
def Mk.addN (m:Mk)(most:Nat):Nat:=if most<=m.next.length then 0 else m.next.length
def Mk.add (m:Mk)(most:Nat)(rule:Int):Mk:=if most<=m.next.length then{m with full:=true} else{m with next:=m.next++[zeros],rules:=m.rules++[rule]}
theorem MwIs.grown {b w w2:World}{c kb most:Nat}{m:Mk}(a:MwIs b w c kb most m)(d:Grew w w2):MwIs b w2 c kb most m:=by
 obtain⟨e,rv,f,g,a⟩:=a;exact⟨e,rv,f,g,a.grown d⟩
theorem zFh (w0 w:World)(mb kb most:Nat)(m:Mk)(h:MwIs w0 w mb kb most m)(hmost:most<=1000000)(hr:m.rules.length<=1000000)(rule:Int):
  Calls prog 133 #[pX mb,iX rule] w λe w'=>e=returned (iX ((m.addN most:Nat):Int))/\MwIs w0 w' mb kb most (m.add most rule)/\StayT w w':=by
 obtain⟨i0,hi0,hz0,hz1,hz2⟩:=info_parts yF;obtain⟨ii1,hi1,hy0,hy1,hy2⟩:=info_parts zEb;obtain⟨nv,rv,ov,gs,h⟩:=h;obtain⟨an,cn,hnv⟩:=zE h.nOwn;obtain⟨ar,cr,hrv⟩:=h.rOwn.form;subst hnv hrv;obtain⟨x0,x1,x2,x3,x4,x6,xf⟩:=h.cells;have xf2:=xf 2;have xf3:=xf 3;have HM:=vl h;have hlt:=h.lt;by_cases hc:most<=m.next.length
 ·have HZ:Hid (m.addN most=0/\m.add most rule={m with full:=true}):=⟨by unfold Mk.addN;rw[if_pos hc],by unfold Mk.add;rw[if_pos hc]⟩
  have i1:(m.next.length:Int)>=(most:Int):=by omega
  go_in;go_wp2;go_quiet (fail);have HM2:=vl <| HM.grown (Keep.alike (w':=w.drewN nq) ⟨rfl,rfl,rfl⟩);go_wp2;go_ret;refine⟨by rw[HZ.out.1];rfl,by rw[HZ.out.2];exact⟨_,_,_,_,HM2.fill.1⟩,?_⟩;exact StayT.trans (Keep.stayT (Keep.alike (w':=w.drewN nq) ⟨rfl,rfl,rfl⟩)) HM2.fill.2
 ·have HZ:Hid (m.addN most=m.next.length/\m.add most rule={m with next:=m.next++[zeros],rules:=m.rules++[rule]}):=⟨by unfold Mk.addN;rw[if_neg hc],by unfold Mk.add;rw[if_neg hc]⟩
  have i1:¬((m.next.length:Int)>=(most:Int)):=by omega
  have hnl:m.next.length<=1000000:=by omega
  go_in;go_wp2;go_quiet (fail);have HM2:Hid (Mw w0 (w.drewN nq) mb kb most m (slice an m.next.length cn) (slice ar m.rules.length cr) ov gs/\StayT w (w.drewN nq)):=⟨HM.grown (Keep.alike (w':=w.drewN nq) ⟨rfl,rfl,rfl⟩),Keep.stayT (Keep.alike (w':=w.drewN nq) ⟨rfl,rfl,rfl⟩)⟩
  generalize w.drewN nq=w3 at *;obtain⟨x0,x1,x2,x3,x4,x6,xf⟩:=HM2.1.cells;have xf3:=xf 3;have hlt:=HM2.1.lt;go_wp2;obtain⟨w4,hmk,ho4,hg4⟩:=run_makeSlice_full (P:=prog) w3.drew w3.heap.size 45 3 i0 _ 1 underlying45 hi0 hz0 hz1 i64 i64 256 (by omega) (by rw[hz2];omega) (by unfold maxLen;omega) lQ;have HK4:Hid (Grew w3 w4/\w4.heap[w3.heap.size]? =some (.cells (zDY zeros) 3)):=by
   refine⟨⟨hg4.os,hg4.output,hg4.size,λk hk _=>hg4.block k hk (by simp)⟩,?_⟩;have h:=ho4;rw[Nat.mul_one,zAL _ rfl] at h;exact zOa h
  have HM4:=vl <| HM2.1.grown HK4.1;have x3a:=HM4.cells.2.2.2.1;have xf3a:=HM4.cells.2.2.2.2.2.2 3;have hlt4:=HM4.lt;have HNP:=vl HM4.box.1;have hH4:=HM4.keep.size;have OW:=HM4.nOwn;have hmk2:Sem.run prog (Instr.makeSlice 45 (iX 256) (iX 256)) w3.drew=.ok (slice (qX w3.heap.size) 256 256) w4:=hmk;go_region_law ((first
   |(refine step_append_lies _ (by rfl) (.tmp 24) (.tmp 26) 88 (by rfl) w0.heap.size 45 ii1 _ 1 24 underlying88 hi1 hy0 hy1 hy2 rfl (by decide) (slice an m.next.length cn) m.next.length ((List.range m.next.length).map λi=>slice (some ⟨gs i,0,none⟩) 256 256) (by simp[Act.eval,Act.put]) (OW.alloc _) ⟨w4.heap.size,0,none⟩ 1 1 [slice (qX w3.heap.size) 256 256] (by simp[Act.eval,Act.put]) (by rfl) (news_of_block (cs:=#[slice (qX w3.heap.size) 256 256]) (t:=45) (fr:=(0,0)) (gX w4 _)) (by simp[Value.oneCell']) (by decide) (by unfold maxLen;omega) (by omega) (by simp;omega) (w4.heap.size+1) (by simp) ?_;intro gg cap w5 hown hgrow hat hlt5;have hPB:=hgrow.block mb (by simp;omega) HNP;have x3b:cX w5 mb 3=some (slice an m.next.length cn):=(gZ hPB).trans ((gW _ _ _ hlt4).trans x3a);have xf3b:w5.frozen? ⟨mb,3,none⟩=false:=(gY hPB).trans ((frozen?_alloc_past _ _ _ hlt4).trans xf3a))))
  all_goals
   have HM6:Hid (Mw w0 (w5.setCell ⟨mb,3,none⟩ (slice (qX gg) (m.next.length+1) cap)) mb kb most {m with next:=m.next++[zeros]} (slice (qX gg) (m.next.length+1) cap) (slice ar m.rules.length cr) ov (λi=>if i=m.next.length then w3.heap.size else gs i)/\StayT w (w5.setCell ⟨mb,3,none⟩ (slice (qX gg) (m.next.length+1) cap))):=by
    have h:=HM2.1.newRow rfl HK4.1 HK4.2 hown hgrow (by
     rcases hat with ha|ha
     ·exact .inl ha
     ·right;rw[ha];omega)
    exact⟨h.1,HM2.2.trans h.2⟩
   generalize w5.setCell ⟨mb,3,none⟩ (slice (qX gg) (m.next.length+1) cap)=w6 at *;have v3:=HM6.1.cells.2.2.2.1;have v4:=HM6.1.cells.2.2.2.2.1;have hl6:=HM6.1.lt;have hH6:w0.heap.size<=w6.heap.size:=HM6.1.keep.size;have OR:w6.ownsRow w0.heap.size 3 1 (slice ar m.rules.length cr) m.rules.length (m.rules.map λx=>iX x):=HM6.1.rOwn;go_wp2_with (first|(at_builtin;refine wpList_append_lies _ rfl _ _ 45 rfl (w0.heap.size) 3 i0 (iX 0) 1 8 underlying45 hi0 hz0 hz1 hz2 rfl (by decide) _ _ _ rfl (OR.alloc _) ⟨w6.heap.size,0,none⟩ 1 1 [iX rule] rfl rfl (cell_one_new _ _ _) (by intro u hu;simp at hu;subst hu;rfl) (by decide) (by unfold maxLen;omega) (by omega) (by simp;omega) _ rfl ?_;intro g2 cap2 w7 hown2 hgrow2 hat2 hlt7;have hPB2:w7.heap[mb]? =w6.heap[mb]? :=(hgrow2.block _ (by simp;omega) HM6.1.box.2.1).trans (lG _ _ _ (by omega));have t4:cX w7 mb 4=some (slice ar m.rules.length cr):=(gZ hPB2).trans v4;have g4:w7.frozen? ⟨mb,4,none⟩=false:=(gY hPB2).trans (HM6.1.cells.2.2.2.2.2.2 4);have HM8:=vl <| HM6.1.newRule rfl hown2 hgrow2 (by rcases hat2 with ha|ha;exact .inl ha;right;rw[ha];simp);have t3:=HM8.1.cells.2.2.2.1))
   go_ret;refine⟨?_,by rw[HZ.out.2];exact⟨_,_,_,_,HM8.1⟩,HM6.2.trans HM8.2⟩;rw[HZ.out.1]
   first|rfl|(simp;done)|(show _=_;congr 2;omega)
end
def Mk.put (m:Mk)(s b:Nat)(x:Int):Mk:={m with next:=m.next.set s ((m.next.getD s []).set b x)}
theorem zLd (f w:World)(c kb most:Nat)(m:Mk)(a:MwIs f w c kb most m)(kind b s:Nat)(i:kind<m.of.length)(j:m.of.getD kind 0=(s:Int))(d:s<m.next.length)(k:b<256)(x:Int):
  Calls prog 135 #[pX c,iX (kind:Int),iX (b:Int),iX x] w λe w'=>e=returned (tuple #[])/\MwIs f w' c kb most (m.put s b x)/\StayT w w':=by
 obtain⟨r,rv,t,u,a⟩:=a;obtain⟨ao,v,l⟩:=a.oOwn.form;subst l;obtain⟨go,rfl⟩:=a.oOwn.some (by omega);obtain⟨y,z,o,_,_,_,_,p,_⟩:=a.nOwn.get (by omega);subst o;obtain⟨A,B,C,D,E,F,G⟩:=a.cells;have c1:=a.oOwn.cell kind i;rw[j] at c1;have c2:=p s d;obtain⟨H,I⟩:=a.row s b d k;have q:=a.put s b d x;have g:=vl q;have J:(kind:Int)<(m.of.length:Int):=by omega
 have K:(s:Int)<(m.next.length:Int):=by omega
 have L:(b:Int)<256:=by omega
 generalize (m.next.getD s []).getD b 0=old at *;go_in;go_wp2;go_region;go_wp2;go_end0;exact⟨rfl,⟨_,_,_,_,g.1.grown (Keep.drew _)⟩,g.2.trans (Keep.stayT (Keep.drew _))⟩
structure Kd.Ok (k:Kd)(a:Ar):Prop where
 lows:0<a.lows.length
 few:a.lows.length<=1000000000000
 good:a.Good 24
 lens:k.rules.length=k.rows.length
 wide:∀i,i<k.rows.length->(k.rows.getD i []).length=a.sets.length
 in_:∀i l,i<k.rows.length->l<a.sets.length->(k.rows.getD i []).getD l 0<k.rows.length
 start:k.start<k.rows.length
theorem zNx (lows:List Int)(n:Int)(a:0<lows.length):zAi lows n lows.length 0 lows.length<lows.length:=zKm _ _ _ _ _ a
theorem Kd.Ok.letter {k:Kd}{a:Ar}(b:k.Ok a)(c:Int):∃l:Nat,a.letter c=(l:Int)/\l<a.sets.length:=by
 have d:a.area c<a.letters.length:=by
  rw[<-b.good.lens];exact zNx a.lows c b.lows
 have e:=b.good.letters _ (zY a.letters (a.area c) 0 d);refine⟨(a.letters.getD (a.area c) 0).toNat,?_,by omega⟩;show a.letters.getD (a.area c) 0=_;omega
def Mk.behind (m:Mk)(k:Kd)(a:Ar)(kind:Nat)(c:Int):Int:=m.of.getD ((k.rows.getD kind []).getD (a.letter c).toNat 0) 0
theorem KdAt.grown {w w2:World}{kb:Nat}{a:Ar}{k:Kd}(d:KdAt w kb a k)(b:Grew w w2):KdAt w2 kb a k:=by
 obtain⟨c,lv,tv,sv,e,rv,f,g,i,j⟩:=d;exact⟨lZ c b.size,lv,tv,sv,e,rv,(b.block kb c (kJ c)).trans f,g.grown b,i.grown b,j.grown b⟩
theorem zCR (q w:World)(f kb most:Nat)(m:Mk)(d:MwIs q w f kb most m)(k:Kd)(a:Ar)(D:KdAt q kb a k)(ok:k.Ok a)(kind:Nat)(j:kind<k.rows.length)(E:m.of.length=k.rows.length)(c:Int):
  Calls prog 134 #[pX f,iX (kind:Int),iX c] w λe w'=>e=returned (iX (m.behind k a kind c))/\Grew w w':=by
 obtain⟨ad,rv,ae,af,d⟩:=d;have hK2:=D.grown d.keep;obtain⟨F,lv,tv,sv,ag,ah,g,i,G,ai⟩:=hK2;obtain⟨H,I,J,-⟩:=id i.lows;obtain⟨at_,K,L,-⟩:=id i.letters;obtain⟨as_,cs,has,-⟩:=id i.sets;have r:=vl <| zIj w lv tv sv a i ok.few ok.lows ok.good.lens.symm c;obtain⟨l,s,t⟩:=ok.letter c;have M:Hid (m.behind k a kind c=m.of.getD ((k.rows.getD kind []).getD l 0) 0):=by
  show m.of.getD ((k.rows.getD kind []).getD (a.letter c).toNat 0) 0=_;rw[s];rfl
 rw[s] at r;have aj:=ok.in_ kind l j t;obtain⟨o,on,u,v,N,_,_,O⟩:=G.block (by rw[kV];omega);obtain⟨ak,P,x⟩:=O kind (by rw[kV];exact j);have Q:(k.rows.map ints).getD kind []=ints (k.rows.getD kind []):=by
  rw[lW,lW,gQ];cases k.rows[kind]? <;> rfl
 rw[Q] at x;have p:=ok.wide kind j;obtain⟨A,or_,R,B,S,_,_,T⟩:=x.block (by rw[zO,p];omega);have C:=T l (by rw[zO,p];exact t);rw[jF] at C;rw[zO,p] at B;rw[kV] at v;subst J L has v B;obtain⟨ao,U,V⟩:=d.oOwn.form;subst V;obtain⟨go,rfl⟩:=d.oOwn.some (by omega);obtain⟨W,am,an,ap,aq,X,ar⟩:=d.cells;have c1:=d.oOwn.cell _ (show (k.rows.getD kind []).getD l 0<m.of.length by omega);have Y:=(d.oOwn.lt go rfl).2;have au:w.cell? ⟨kb,0,none⟩=some (slice H a.lows.length I):=by unfold cell?;rw[g];rfl
 have av:w.cell? ⟨kb,1,none⟩=some (slice at_ a.letters.length K):=by unfold cell?;rw[g];rfl
 have aw:w.cell? ⟨kb,2,none⟩=some (slice as_ a.sets.length cs):=by unfold cell?;rw[g];rfl
 have aa:w.cell? ⟨kb,3,none⟩=some (slice (some ⟨o,on,none⟩) k.rows.length u):=by unfold cell?;rw[g];rfl
 have ab:Hid (∀w2,Grew w w2->w2.cell? ⟨f,6,none⟩=some (slice (qX go) m.of.length U)/\w2.cell? ⟨f,0,none⟩=some (pX kb)/\w2.cell? ⟨kb,3,none⟩=some (slice (some ⟨o,on,none⟩) k.rows.length u)/\w2.cell? ⟨o,on+kind,none⟩=some (slice (some ⟨A,or_,none⟩) a.sets.length R)/\w2.cell? ⟨A,or_+l,none⟩=some (iX (((k.rows.getD kind []).getD l 0:Nat):Int))/\w2.cell? ⟨go,(k.rows.getD kind []).getD l 0,none⟩=some (iX (m.of.getD ((k.rows.getD kind []).getD l 0) 0))):=λw2 b=>⟨zA X d.lt b,zA W d.lt b,zA aa F b,zA P N b,zA C S b,zA c1 Y b⟩
 have ax:(kind:Int)<(k.rows.length:Int):=by omega
 have ay:(l:Int)<(a.sets.length:Int):=by omega
 have az:(((k.rows.getD kind []).getD l 0:Nat):Int)<(m.of.length:Int):=by omega
 have aA:=E;generalize (k.rows.getD kind []).getD l 0=ac at *;generalize m.of.getD ac 0=y at *;go_in;go_wp2_with (first|(go_at_call 175;refine r.mono ?_;rintro e w2 ⟨rfl,b⟩;obtain⟨v0,v1,v2,aB,aC,aD⟩:=ab w2 b))
 go_quiet (fail);go_wp2;go_ret;exact⟨by rw[M.out];rfl,b.trans (Keep.lower (Keep.alike (w':=w2.drewN nq) ⟨rfl,rfl,rfl⟩) b.size b.size)⟩
end Go.Proofs.YtbjcfkdnjaiclaaGreat
