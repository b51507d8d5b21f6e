import Derived.ChangeKeysEq
import Derived.Deep.DrawnRows
import Derived.Deep.MidRow
import Derived.Deep.RegionLaw
import Derived.Test.YtbjcfkdnjaiclaaGreatT0
import Derived.Test.YtbjcfkdnjaiclaaGreatT4
/- Parts of the proof. -/
set_option linter.unusedVariables false
set_option linter.unusedSimpArgs false
set_option maxHeartbeats 4000000
set_option maxRecDepth 100000
namespace Go.Proofs.YtbjcfkdnjaiclaaGreat
open Go.RowKit Go.Proofs.Tryz Go.World
open Go.Value (int slice bool pointer string agg tuple)
open Go.IntKind (i64)
open Go.Ending (returned)
section
attribute [local go_sem ↓] Go.wp_at_zero Go.wp_at_succ
theorem zKS (w:World)(q:Nat)(n:Nt)(sv fv rv ev:Value)(hN:NetAt w q n sv fv rv ev)(ok:n.Ok)(fit:n.Fits)(most:Nat)(hmost:most<=1000000000):
  Calls prog 61 #[pX q,iX (most:Int)] w (zCo w n most):=by
 obtain⟨i0,hi0,hz0,hz1,hz2⟩:=info_parts yG;obtain⟨ii1,hi1,hy0,hy1,hy2⟩:=info_parts zEp;have HS:Hid (Ca 90 #[pX q] w λe w'=>∃p s,e=returned (pX p)/\(s.rules=n.rules/\s.tails=n.tails n.letters/\s.sets=n.letters/\s.q=q)/\SoAt w' (λg=>g<w'.heap.size/\g≠p) p s ⟨[],[]⟩ nX nX/\ArAt w' s.lv s.tv s.sv n.areas/\SpAt w' s.f n.ahead/\s.f≠p/\w.heap.size<=p/\Grew w w'):=zFC w q n sv fv rv ev hN ok fit;have HN:Hid (NetAt w q n sv fv rv ev):=hN;have hlq:=hN.lq;have htop:=ok.top;have hfirst:=ok.first
 have hends:=ok.ends;have hlet:n.letters.length<=20000000004:=by
  have:=(zCc n.sets).2.2.2;have:=fit.few;show(yO n.sets).setsN.length<=_;rw[Ar.setsN_len];omega
 have HAL:Hid (∀i,n.ahead i<16777216):=λi=>zNM _ (λx hx=>lZ (ok.fs x hx) htop) _ i;have HSP:Hid (∀x,zA1 n.ahead x<16777216):=zOW _ HAL;clear hN ok fit;go_enter func61,ntmps61
 go_wp2_with (first|(go_at_call 90;refine HS.mono ?_;rintro e w1 ⟨p,s,rfl,hs1,hso,har,hsp,hfp,hpH,hk1⟩;obtain⟨a1,c1,hf1,-⟩:=id har.lows;obtain⟨a2,c2,hf2,-⟩:=id har.letters;obtain⟨a3,c3,hf3,-⟩:=id har.sets;have x1:w1.cell? ⟨p,1,none⟩=some (slice a1 n.areas.lows.length c1):=(by rw[<-hf1];unfold cell?;rw[hso.blk];rfl);have x2:w1.cell? ⟨p,2,none⟩=some (slice a2 n.areas.letters.length c2):=(by rw[<-hf2];unfold cell?;rw[hso.blk];rfl);have x3:w1.cell? ⟨p,3,none⟩=some (slice a3 n.areas.sets.length c3):=(by rw[<-hf3];unfold cell?;rw[hso.blk];rfl);have HQ:Hid ((s.rules=n.rules/\s.tails=n.tails n.letters/\s.sets=n.letters/\s.q=q)/\SoAt w1 (λg=>g<w1.heap.size/\g≠p) p s ⟨[],[]⟩ nX nX/\ArAt w1 (slice a1 n.areas.lows.length c1) (slice a2 n.areas.letters.length c2) (slice a3 n.areas.sets.length c3) n.areas/\SpAt w1 s.f n.ahead/\s.f≠p/\(∃a n c,s.lv=slice a n c)/\(∃a n c,s.tv=slice a n c)/\(∃a n c,s.sv=slice a n c)):=⟨hs1,hso,(by rw[<-hf1,<-hf2,<-hf3];exact har),hsp,hfp,⟨_,_,_,hf1⟩,⟨_,_,_,hf2⟩,⟨_,_,_,hf3⟩⟩;have y2:=(HN.grown hk1).c2;have hlq1:q<w1.heap.size:=(HN.grown hk1).lq;have hnqp:q≠p:=(by omega);clear hs1 hso har hsp hfp hf1 hf2 hf3)|(go_at_call 91;refine((Kw.begin HQ.2.1 _ _ _).row lQ (by rw[HQ.out.1.2.2.1];simp;omega) n.first (by omega)).mono ?_;rintro e w2 ⟨u8,Z2,rfl,K2,hu8⟩;obtain⟨a8,c8,hf8,-⟩:=id hu8;have HK2:Hid (zQt w1 w2 w1.heap.size p w1.heap.size s (s.rowTo n.first ⟨[],[]⟩ s.sets.length).2 (slice a1 n.areas.lows.length c1) (slice a2 n.areas.letters.length c2) (slice a3 n.areas.sets.length c3) u8 [] [] (s.rowTo n.first ⟨[],[]⟩ s.sets.length).1 0 0):=⟨_,_,_,_,K2.start_of hu8⟩;subst hf8;clear K2 hu8))
 have HLK:Hid (s.Like n.sq):=⟨HQ.1.1,HQ.1.2.1,HQ.1.2.2.1⟩
 have hsl:s.sets.length=n.letters.length:=by rw[HQ.out.1.2.2.1]
 have hst:s.rowTo n.first ⟨[],[]⟩ s.sets.length=n.start:=by rw[hsl];exact HLK.row _ _ _
 rw[hst] at HK2 ⊢;have hst2:n.start.2.marks.length<=n.start.2.found.length:=by rw[<-hst];exact s.rowTo_ml _ _ _ lQ
 have HRL:Hid (s.rules=n.rules):=HQ.1.1;have HE3:Hid (∀wr,KeepX (λg=>g<w1.heap.size/\g≠p) w1 wr->wr.cell? ⟨q,3,none⟩=some (iX (n.ends:Int))):=λwr hk=>(gY (hk.block q ⟨hlq1,hnqp⟩)).trans (HN.grown hk1).c3;have HSF:Hid (∀wr,KeepX (λg=>g<w1.heap.size/\g≠p) w1 wr->SpAt wr s.f n.ahead):=λwr hk=>HQ.2.2.2.1.keep (hk.block s.f ⟨HQ.2.2.2.1.lt,HQ.2.2.2.2.1⟩);have HKP:Hid (∀wr,KeepX (λg=>g<w1.heap.size/\g≠p) w1 wr->Grew w wr):=λwr hk=>hk1.trans ⟨hk.os,hk.output,hk.size,λk h1 _=>hk.block k ⟨lZ h1 hk1.size,by omega⟩⟩;have HK1:Hid (Grew w w1):=hk1;have HST:Hid (n.start=n.start):=rfl;clear hk1 hst x1 x2 x3 y2 HS;generalize hu8:Value.slice a8 (ints n.start.1).length c8=u8 at *;have HU8:Hid (Value.slice a8 (ints n.start.1).length c8=u8):=hu8;clear hu8;go_loopg [9] (most+1) (λk i wr=>∃(j:Nat) (d:Sf) (rows:List (List Nat)) (rules:List Int),k=most+1-j/\(j<=most/\j<=d.found.length/\rows.length=j/\rules.length=j/\d.marks.length<=d.found.length/\∀r∈rows,r.length=n.letters.length)/\i=iX (j:Int)/\zQt w1 wr w1.heap.size p w1.heap.size s d (slice a1 n.areas.lows.length c1) (slice a2 n.areas.letters.length c2) (slice a3 n.areas.sets.length c3) u8 rows rules n.start.1 0 0/\n.sq.sortGo n.ahead n.ends most (most+1) 0 n.start.2 [] []=n.sq.sortGo n.ahead n.ends most (most+1-j) j d rows rules)
 case atStart=>exact⟨0,n.start.2,[],[],rfl,⟨lX,lX,rfl,rfl,hst2,λr hr=>absurd hr List.not_mem_nil⟩,rfl,HK2,rfl⟩
 case round=>
  obtain⟨j,d,rows,rules,hgk,⟨hj1,hj2,hj3,hj4,hml,hrl⟩,rfl,⟨Z,nv,rv2,us,hK⟩,hgo⟩:=hrel;have HB:Hid (gk=most+1-j/\Kw w1 wr w1.heap.size p w1.heap.size Z s d (slice a1 n.areas.lows.length c1) (slice a2 n.areas.letters.length c2) (slice a3 n.areas.sets.length c3) nv rv2 u8 us rows rules n.start.1 0 0/\n.sq.sortGo n.ahead n.ends most (most+1) 0 n.start.2 [] []=n.sq.sortGo n.ahead n.ends most (most+1-j) j d rows rules):=⟨hgk,hK,hgo⟩
  obtain⟨fa,fc,z6,z4,hfc⟩:=hK.found;have HFC:Hid (∀i,i<d.found.length->∃g,fa=some ⟨g,0,none⟩/\wr.cell? ⟨g,i,none⟩=some (iX ((d.found.getD i 0:Nat):Int))/\d.found.getD i 0<16777216):=hfc;have HRW:Hid (∀r∈rows,r.length=n.letters.length):=hrl;clear hgk hgo hfc hrl HK2;by_cases hjf:j<d.found.length
  ·have i1:(j:Int)<(d.found.length:Int):=by omega
   by_cases hmo:d.found.length>most
   ·have i2:(d.found.length:Int)>(most:Int):=by omega
    have HZ:Hid (n.sort most=none):=by
     show _=_;unfold Nt.sort;rw[HB.out.2.2,show most+1-j=(most-j)+1 by omega];unfold Sq.sortGo;rw[if_pos hjf,if_pos hmo]
    clear hK;go_wp2_with fail;refine gU (results_tmp2 rfl _ _ _) rfl ?_;exact zMI HZ (HKP _ HB.2.1.keep)
   ·have i2:¬((d.found.length:Int)>(most:Int)):=by omega
    obtain⟨g,rfl,hc6,hxl⟩:=HFC j hjf;have HGo2:Hid (n.sq.sortGo n.ahead n.ends most (most+1) 0 n.start.2 [] []=n.sq.sortGo n.ahead n.ends most (most+1-(j+1)) (j+1) (n.sq.rowTo (zA1 n.ahead (d.found.getD j 0)) d n.letters.length).2 (rows++[(n.sq.rowTo (zA1 n.ahead (d.found.getD j 0)) d n.letters.length).1]) (rules++[vW n.rules (d.found.getD j 0&&&n.ends)])):=by
     show _=_;rw[HB.out.2.2,show most+1-j=(most+1-(j+1))+1 by omega];show(if j<d.found.length then(if d.found.length>most then none else _) else _)=_;rw[if_pos hjf,if_neg hmo];rfl
    have hra:d.found.getD j 0&&&n.ends<16777216:=Nat.lt_of_le_of_lt Nat.and_le_left hxl;have hand:bits .and i64 ((d.found.getD j 0:Nat):Int) (n.ends:Int)=((d.found.getD j 0&&&n.ends:Nat):Int):=qY _ _ (by omega) (by omega);have HOF:Hid (∀x:Nat,x<16777216->Ca 92 #[pX s.f,iX (x:Int)] wr λe w'=>e=returned (iX ((zA1 n.ahead x:Nat):Int))/\Grew wr w'):=λx hx=>zCE wr s.f n.ahead (HSF wr HB.2.1.keep) HAL x hx;have HRow:Hid (∀w5,Grew wr w5->∀y:Nat,y<16777216->Ca 91 #[pX p,iX (y:Int)] w5 λe w'=>∃u Z',e=returned u/\Kw w1 w' w1.heap.size p w1.heap.size Z' s (n.sq.rowTo y d n.letters.length).2 (slice a1 n.areas.lows.length c1) (slice a2 n.areas.letters.length c2) (slice a3 n.areas.sets.length c3) nv rv2 u8 us rows rules n.start.1 0 0/\Ints w' Z' u (ints (n.sq.rowTo y d n.letters.length).1)):=λw5 hk5 y hy=>by
     have h:=(HB.2.1.grown hk5).row hml (by omega) y hy;rw[hsl,HLK.out.row] at h;exact h
    have hyl:=HSP (d.found.getD j 0);have hr1:=n.sq.rowTo_len (zA1 n.ahead (d.found.getD j 0)) d n.letters.length;have hr2:=n.sq.rowTo_ml (zA1 n.ahead (d.found.getD j 0)) d n.letters.length hml;have HOF2:=HOF _ hxl;clear hK HOF;generalize d.found.getD j 0=x at *;generalize zA1 n.ahead x=y at *;have HRow2:Hid (∀w5,Grew wr w5->Ca 91 #[pX p,iX (y:Int)] w5 λe w'=>∃u Z',e=returned u/\Kw w1 w' w1.heap.size p w1.heap.size Z' s (n.sq.rowTo y d n.letters.length).2 (slice a1 n.areas.lows.length c1) (slice a2 n.areas.letters.length c2) (slice a3 n.areas.sets.length c3) nv rv2 u8 us rows rules n.start.1 0 0/\Ints w' Z' u (ints (n.sq.rowTo y d n.letters.length).1)):=λw5 hk5=>HRow w5 hk5 y hyl;clear HRow;generalize (n.sq.rowTo y d n.letters.length).1=rw2 at *;generalize (n.sq.rowTo y d n.letters.length).2=d2 at *;obtain⟨hr1a,-,-,hr1d⟩:=hr1;obtain⟨an,cn,hnv⟩:=zF HB.2.1.nOwn;obtain⟨ar,cr,hrv⟩:=HB.2.1.rOwn.form;rw[hj3] at hnv;rw[hj4] at hrv;subst hnv hrv;go_wp2_with (first|(go_at_call 92;refine HOF2.mono ?_;rintro e w5 ⟨rfl,hk5⟩)|(go_at_call 91;refine(HRow2 w5 hk5).mono ?_;rintro e w6 ⟨u,Z6,rfl,hK6,hu6⟩;obtain⟨au,cu,hfu,-⟩:=id hu6;have HK6:Hid (Kw w1 w6 w1.heap.size p w1.heap.size Z6 s d2 (slice a1 n.areas.lows.length c1) (slice a2 n.areas.letters.length c2) (slice a3 n.areas.sets.length c3) (slice an j cn) (slice ar j cr) u8 us rows rules n.start.1 0 0/\Ints w6 Z6 u (ints rw2)):=⟨hK6,hu6⟩;have v3:=hK6.cells.1;have hkl6:=hK6.kl;have OR:w6.ownsRow w1.heap.size 45 1 (slice an j cn) j ((List.range j).map us):=(by have:=hK6.nOwn;unfold Row at this;rw[hj3] at this;exact this);generalize (ints rw2).length=ul at *;subst hfu;clear hK6 hu6)|(at_builtin;refine wpList_append_lies _ rfl _ _ 88 rfl w1.heap.size 45 ii1 nX 1 24 underlying88 hi1 hy0 hy1 hy2 rfl (by decide) _ _ _ rfl (OR.alloc _) ⟨w6.heap.size,0,none⟩ 1 1 [slice au ul cu] rfl rfl (cell_one_new _ _ _) (by intro u hu;simp at hu;subst hu;rfl) (by decide) (by unfold maxLen;omega) (by omega) (by simp;omega) _ rfl ?_;intro gg cap w7 hown hgrow hat hlt3;have hPB:w7.heap[w1.heap.size]? =w6.heap[w1.heap.size]? :=(hgrow.block _ (by simp;omega) HK6.1.nbox.1).trans (lG _ _ _ (by omega));have t3:w7.cell? ⟨w1.heap.size,3,none⟩=some (slice an j cn):=(gY hPB).trans v3;have g3:w7.frozen? ⟨w1.heap.size,3,none⟩=false:=(gW hPB).trans (HK6.1.cells.2.2.2.2 3);have HK7:Hid (Kw w1 (w7.setCell ⟨w1.heap.size,3,none⟩ (slice (qX gg) (j+1) cap)) w1.heap.size p w1.heap.size Z6 s d2 (slice a1 n.areas.lows.length c1) (slice a2 n.areas.letters.length c2) (slice a3 n.areas.sets.length c3) (slice (qX gg) (j+1) cap) (slice ar j cr) u8 (λi=>if i=j then slice au ul cu else us i) (rows++[rw2]) rules n.start.1 0 0):=HK6.1.snocN hj3.symm HK6.2 hown hgrow (by rcases hat with ha|ha;exact .inl ha;right;rw[ha];simp)))
    obtain⟨w8,hw8,HK8⟩:∃w8,w8=w7.setCell ⟨w1.heap.size,3,none⟩ (slice (qX gg) (j+1) cap)/\Hid (Kw w1 w8 w1.heap.size p w1.heap.size Z6 s d2 (slice a1 n.areas.lows.length c1) (slice a2 n.areas.letters.length c2) (slice a3 n.areas.sets.length c3) (slice (qX gg) (j+1) cap) (slice ar j cr) u8 (λi=>if i=j then slice au ul cu else us i) (rows++[rw2]) rules n.start.1 0 0):=⟨_,rfl,HK7⟩
    rw[<-hw8];clear hw8 HK7 hown hgrow hat hlt3 hPB t3 g3 OR v3 hkl6 hk5 HK6 HOF2 HRow2 hc6 z4 z6;have v4:=HK8.cells.2.1;have f4:=HK8.cells.2.2.2.2 4;have vq:=HE3 w8 HK8.keep;have hkl8:=HK8.kl;have HC:Hid (∀wz,wz.Alike w8->Ca 93 #[pX p,iX ((x&&&n.ends:Nat):Int)] wz λe w'=>e=returned (iX (vW n.rules (x&&&n.ends)))/\Grew w8 w'):=λwz hz=>by
     have hkz:Grew w8 wz:=⟨hz.2.1,hz.2.2,by rw[hz.1];exact lQ,λk _ _=>by rw[hz.1]⟩
     refine((HK8.grown hkz).ruleOf (x&&&n.ends) hra).mono ?_;rintro e w' ⟨rfl,rfl⟩;rw[HRL.out];exact⟨rfl,hkz⟩
    generalize vW n.rules (x&&&n.ends)=r at *;generalize x&&&n.ends=xe at *;go_region_law ((first
     |(refine step_append_lies _ (by rfl) (.tmp 71) (.tmp 80) 45 (by rfl) w1.heap.size 3 i0 _ 1 8 underlying45 hi0 hz0 hz1 hz2 rfl (by decide) (slice ar j cr) j (rules.map λx=>iX x) (by simp[Act.eval,Act.put]) (OW.alloc _) ⟨w9.heap.size,0,none⟩ 1 1 [iX r] (by simp[Act.eval,Act.put]) (by rfl) (news_of_block (cs:=#[iX r]) (t:=3) (fr:=(0,0)) (gZ w9 _)) (by simp[Value.oneCell']) (by decide) (by unfold maxLen;omega) (by omega) (by simp;omega) (w9.heap.size+1) (by simp) ?_;intro g2 cap2 w10 hown2 hgrow2 hat2 hlt4;have hPB2:=hgrow2.block w1.heap.size (by simp;omega) HNB;have v4b:w10.cell? ⟨w1.heap.size,4,none⟩=some (slice ar j cr):=(gY hPB2).trans ((gV _ _ _ hkl9).trans v4a);have f4b:w10.frozen? ⟨w1.heap.size,4,none⟩=false:=(gW hPB2).trans ((frozen?_alloc_past _ _ _ hkl9).trans f4a))
     |(go_simp;go_at_call 93;refine(HC _ ?_).mono ?_;exact⟨rfl,rfl,rfl⟩;rintro e w9 ⟨rfl,hk9⟩;have HK9:Hid (Kw w1 w9 w1.heap.size p w1.heap.size Z6 s d2 (slice a1 n.areas.lows.length c1) (slice a2 n.areas.letters.length c2) (slice a3 n.areas.sets.length c3) (slice (qX gg) (j+1) cap) (slice ar j cr) u8 (λi=>if i=j then slice au ul cu else us i) (rows++[rw2]) rules n.start.1 0 0):=HK8.grown hk9;have v4a:=HK9.cells.2.1;have f4a:=HK9.cells.2.2.2.2 4;have vqa:=HE3 w9 HK9.keep;have hkl9:=HK9.kl;have HNB:Hid (some w1.heap.size≠(Value.slice ar j cr).ownBlock):=HK9.nbox.2;have OW:w9.ownsRow w1.heap.size 3 1 (slice ar j cr) j (rules.map λx=>iX x):=(by have:=HK9.rOwn;unfold OwnI at this;rw[hj4] at this;exact this))))
    all_goals
     have HF:Hid (zQt w1 (w10.setCell ⟨w1.heap.size,4,none⟩ (slice (qX g2) (j+1) cap2)) w1.heap.size p w1.heap.size s d2 (slice a1 n.areas.lows.length c1) (slice a2 n.areas.letters.length c2) (slice a3 n.areas.sets.length c3) u8 (rows++[rw2]) (rules++[r]) n.start.1 0 0):=⟨_,_,_,_,HK9.snocR hj4.symm hown2 hgrow2 (by
      rcases hat2 with ha|ha
      ·exact .inl ha
      ·right;rw[ha];omega)⟩
     clear hown2 hgrow2 hat2 hPB2 v4a f4a v4b f4b OW;go_wp2_with fail;go_roundg (most+1-(j+1))
     case measure=>rw[HB.out.1];omega
     case rel=>exact⟨j+1,d2,_,_,rfl,⟨by omega,by omega,by simp[hj3],by simp[hj4],hr2,λt ht=>by
      rcases kU.1 ht with h1|h1
      ·exact HRW t h1
      ·rw[kY.1 h1];exact hr1a⟩,by go_num,HF,HGo2⟩
  ·have i1:¬((j:Int)<(d.found.length:Int)):=by omega
   have HZ:Hid (n.sort most=some (n.ended d rows rules)):=by
    show _=_;have e:n.sq.sortGo n.ahead n.ends most (most+1-j) j d rows rules=some (d,rows,rules):=by
     cases most+1-j with
     |zero=>rfl
     |succ k=>
      show(if j<d.found.length then _ else _)=_;rw[if_neg hjf]
    unfold Nt.sort;rw[HB.out.2.2,e]
   have HEN:Hid (n.ended d rows rules=if zAZ (rows.map ints) rules (ints n.start.1)=rows.length then⟨rows++[n.start.1],rules++[-1],zAZ (rows.map ints) rules (ints n.start.1),n.sq.kind d 0⟩ else⟨rows,rules,zAZ (rows.map ints) rules (ints n.start.1),n.sq.kind d 0⟩):=rfl;have hll:zAZ (rows.map ints) rules (ints n.start.1)<=rows.length:=by
    have:=zMe (rows.map ints) rules (ints n.start.1);rw[kV] at this;exact this
   have HKO:Hid (Ca 94 #[pX p,zX] wr λe w'=>e=returned (iX ((n.sq.kind d 0:Nat):Int))/\Kw w1 w' w1.heap.size p w1.heap.size Z s (s.kindS d 0) (slice a1 n.areas.lows.length c1) (slice a2 n.areas.letters.length c2) (slice a3 n.areas.sets.length c3) nv rv2 u8 us rows rules n.start.1 0 0):=by
    have h:=hK.kindOf hml (by omega) 0 (by omega);rw[(HLK.out.kind d 0).1] at h;exact h
   have HLI:Hid (∀w4 Z d' st dd,Kw w1 w4 w1.heap.size p w1.heap.size Z s d' (slice a1 n.areas.lows.length c1) (slice a2 n.areas.letters.length c2) (slice a3 n.areas.sets.length c3) nv rv2 u8 us rows rules n.start.1 st dd->Ca 95 #[pX w1.heap.size,u8] w4 λe w'=>e=returned (iX ((zAZ (rows.map ints) rules (ints n.start.1):Nat):Int))/\Grew w4 w'):=λw4 Z d' st dd h4=>by
    refine zLk w4 w1.heap.size nv rv2 u8 (rows.map ints) rules (ints n.start.1) h4.kl h4.cells.1 h4.cells.2.1 h4.rowsAt (zBf h4.rOwn) (by rw[kV];omega) (by rw[kV];omega) (h4.stA.mono h4.zl) λr hr=>?_;obtain⟨r2,hr2,rfl⟩:=List.mem_map.1 hr;rw[zR,HRW.out r2 hr2];omega
   have HPN:Hid (∀i x,w1.cell? ⟨p,i,none⟩≠some (iX x)):=HQ.2.1.no_int HQ.2.2.2.2.2.1 HQ.2.2.2.2.2.2.1 HQ.2.2.2.2.2.2.2 (by obtain⟨a,c,h,-⟩:=HQ.2.1.tls;exact⟨_,_,_,h⟩) ⟨_,_,_,rfl⟩ ⟨_,_,_,rfl⟩ (lv:=undef) (tv:=undef) (sv:=undef) (tl:=undef);have HAR:Hid (ArAt w1 (slice a1 n.areas.lows.length c1) (slice a2 n.areas.letters.length c2) (slice a3 n.areas.sets.length c3) n.areas):=HQ.2.2.1;obtain⟨an,cn,hnv⟩:=zF HB.2.1.nOwn;obtain⟨ar,cr,hrv⟩:=HB.2.1.rOwn.form;rw[hj3] at hnv;rw[hj4] at hrv;generalize zAZ (rows.map ints) rules (ints n.start.1)=lk at *;generalize n.sq.kind d 0=dd at *;generalize s.kindS d 0=d3 at *;have hu8:=HU8.out;generalize (ints n.start.1).length=ul8 at *;subst hnv hrv hu8;clear hK HFC z4;by_cases hlk:lk=rows.length
   ·have hlk2:lk=j:=by omega
    subst hlk2;have HEN2:Hid (n.ended d rows rules=⟨rows++[n.start.1],rules++[-1],lk,dd⟩):=by show _=_;rw[HEN.out,if_pos hlk]
    clear hlk HEN;go_wp2_with (first|(go_at_call 94;refine HKO.mono ?_;rintro e w3 ⟨rfl,K3⟩;have v6:=K3.cells.2.2.2.1;have f6:=K3.cells.2.2.2.2 6;have K4:=K3.setDead (dd:Int))|(go_at_call 95;refine(HLI _ _ _ _ _ K4).mono ?_;rintro e w5 ⟨rfl,hk5⟩;have K5:=K4.grown hk5;have v5:=K5.cells.2.2.1;have f5:=K5.cells.2.2.2.2 5;have K6:=K5.setStart (lk:Int)))
    have HK6:Hid (Kw w1 (w5.setCell ⟨w1.heap.size,5,none⟩ (iX (lk:Int))) w1.heap.size p w1.heap.size Z s d3 (slice a1 n.areas.lows.length c1) (slice a2 n.areas.letters.length c2) (slice a3 n.areas.sets.length c3) (slice an lk cn) (slice ar lk cr) (slice a8 ul8 c8) us rows rules n.start.1 (lk:Int) (dd:Int)):=K6;clear K3 K4 K5 K6 v6 f6 v5 f5 z6 hk5 HKO HLI;generalize w5.setCell ⟨w1.heap.size,5,none⟩ (iX (lk:Int))=w6 at *;have v5:=HK6.cells.2.2.1;have v3:=HK6.cells.1;have hkl6:=HK6.kl;go_quiet (fail);have HK7:Hid (Kw w1 (w6.drewN nq) w1.heap.size p w1.heap.size Z s d3 (slice a1 n.areas.lows.length c1) (slice a2 n.areas.letters.length c2) (slice a3 n.areas.sets.length c3) (slice an lk cn) (slice ar lk cr) (slice a8 ul8 c8) us rows rules n.start.1 (lk:Int) (dd:Int)):=HK6.grown (Keep.alike (w':=w6.drewN nq) ⟨rfl,rfl,rfl⟩);clear HK6 v5 v3;generalize w6.drewN nq=w7 at *;have v3:=HK7.cells.1;have hkl7:=HK7.kl;have OR:w7.ownsRow w1.heap.size 45 1 (slice an lk cn) lk ((List.range lk).map us):=(by have:=HK7.nOwn;unfold Row at this;rw[hj3] at this;exact this)
    go_wp2_with (first|(at_builtin;refine wpList_append_lies _ rfl _ _ 45 rfl w1.heap.size 3 i0 zX 1 8 underlying45 hi0 hz0 hz1 hz2 rfl (by decide) _ _ _ rfl (OW.alloc _) ⟨w8.heap.size,0,none⟩ 1 1 [iX (-1)] rfl rfl (zBY _ [iX (-1)] _ _ (zC _ _ _)) (by intro u hu;simp at hu;subst hu;rfl) (by decide) (by unfold maxLen;omega) (by omega) (by simp[zC];omega) _ rfl ?_;intro g2 cap2 w9 hown2 hgrow2 hat2 hlt4;have hPB2:w9.heap[w1.heap.size]? =(w8.setCell ⟨w1.heap.size,3,none⟩ (slice (qX gg) (lk+1) cap)).heap[w1.heap.size]? :=(hgrow2.block _ (by simp[zC];omega) HK8.nbox.2).trans (lG _ _ _ HK8.kl);have t4:w9.cell? ⟨w1.heap.size,4,none⟩=some (slice ar lk cr):=(gY hPB2).trans v4;have g4:w9.frozen? ⟨w1.heap.size,4,none⟩=false:=(gW hPB2).trans (HK8.cells.2.2.2.2 4);have HK9:Hid (Kw w1 (w9.setCell ⟨w1.heap.size,4,none⟩ (slice (qX g2) (lk+1) cap2)) w1.heap.size p w1.heap.size Z s d3 (slice a1 n.areas.lows.length c1) (slice a2 n.areas.letters.length c2) (slice a3 n.areas.sets.length c3) (slice (qX gg) (lk+1) cap) (slice (qX g2) (lk+1) cap2) (slice a8 ul8 c8) (λi=>if i=lk then slice a8 ul8 c8 else us i) (rows++[n.start.1]) (rules++[-1]) n.start.1 (lk:Int) (dd:Int)):=HK8.snocR hj4.symm hown2 hgrow2 (by rcases hat2 with ha|ha;exact .inl ha;right;rw[ha];simp[zC]))|(at_builtin;refine wpList_append_lies _ rfl _ _ 88 rfl w1.heap.size 45 ii1 nX 1 24 underlying88 hi1 hy0 hy1 hy2 rfl (by decide) _ _ _ rfl (OR.alloc _) ⟨w7.heap.size,0,none⟩ 1 1 [slice a8 ul8 c8] rfl rfl (cell_one_new _ _ _) (by intro u hu;simp at hu;subst hu;rfl) (by decide) (by unfold maxLen;omega) (by omega) (by simp;omega) _ rfl ?_;intro gg cap w8 hown hgrow hat hlt3;have hPB:w8.heap[w1.heap.size]? =w7.heap[w1.heap.size]? :=(hgrow.block _ (by simp;omega) HK7.nbox.1).trans (lG _ _ _ (by omega));have t3:w8.cell? ⟨w1.heap.size,3,none⟩=some (slice an lk cn):=(gY hPB).trans v3;have g3:w8.frozen? ⟨w1.heap.size,3,none⟩=false:=(gW hPB).trans (HK7.cells.2.2.2.2 3);have HK8:Hid (Kw w1 (w8.setCell ⟨w1.heap.size,3,none⟩ (slice (qX gg) (lk+1) cap)) w1.heap.size p w1.heap.size Z s d3 (slice a1 n.areas.lows.length c1) (slice a2 n.areas.letters.length c2) (slice a3 n.areas.sets.length c3) (slice (qX gg) (lk+1) cap) (slice ar lk cr) (slice a8 ul8 c8) (λi=>if i=lk then slice a8 ul8 c8 else us i) (rows++[n.start.1]) rules n.start.1 (lk:Int) (dd:Int)):=HK7.snocN hj3.symm HK7.stA hown hgrow (by rcases hat with ha|ha;exact .inl ha;right;rw[ha];simp);have v4:=HK8.cells.2.1;have hkl8:w1.heap.size<w8.heap.size:=(by have:=HK8.kl;rw[zC] at this;exact this);have OW:(w8.setCell ⟨w1.heap.size,3,none⟩ (slice (qX gg) (lk+1) cap)).ownsRow w1.heap.size 3 1 (slice ar lk cr) lk (rules.map λx=>iX x):=(by have:=HK8.rOwn;unfold OwnI at this;rw[hj4] at this;exact this)))
    refine gU (results_tmp2 rfl _ _ _) rfl ?_;refine zHv HZ ⟨?_,HKP _ HK9.keep⟩;rw[HEN2.out];exact zOr (w:=w) HK9 rfl HPN HAR
   ·have HEN2:Hid (n.ended d rows rules=⟨rows,rules,lk,dd⟩):=by show _=_;rw[HEN.out,if_neg hlk]
    have i3:¬((lk:Int)=(j:Int)):=by omega
    clear hlk HEN;go_wp2_with (first|(go_at_call 94;refine HKO.mono ?_;rintro e w3 ⟨rfl,K3⟩;have v6:=K3.cells.2.2.2.1;have f6:=K3.cells.2.2.2.2 6;have K4:=K3.setDead (dd:Int))|(go_at_call 95;refine(HLI _ _ _ _ _ K4).mono ?_;rintro e w5 ⟨rfl,hk5⟩;have K5:=K4.grown hk5;have v5:=K5.cells.2.2.1;have f5:=K5.cells.2.2.2.2 5;have K6:=K5.setStart (lk:Int)))
    have HK6:Hid (Kw w1 (w5.setCell ⟨w1.heap.size,5,none⟩ (iX (lk:Int))) w1.heap.size p w1.heap.size Z s d3 (slice a1 n.areas.lows.length c1) (slice a2 n.areas.letters.length c2) (slice a3 n.areas.sets.length c3) (slice an j cn) (slice ar j cr) (slice a8 ul8 c8) us rows rules n.start.1 (lk:Int) (dd:Int)):=K6;clear K3 K4 K5 K6 v6 f6 v5 f5 z6 hk5 HKO HLI;generalize w5.setCell ⟨w1.heap.size,5,none⟩ (iX (lk:Int))=w6 at *;have v5:=HK6.cells.2.2.1;have v3:=HK6.cells.1;have hc3:((lk:Int)==(j:Int))=false:=by simp;omega
    clear i3;go_quiet (fail);go_wp2_with fail;refine gU (results_tmp2 rfl _ _ _) rfl ?_;have HK7:=HK6.grown (Keep.alike (w':=w6.drewN nq) ⟨rfl,rfl,rfl⟩);refine zHv HZ ⟨?_,HKP _ HK7.keep⟩;rw[HEN2.out];exact zOr (w:=w) HK7 rfl HPN HAR
end
def a64 (f:Nat->Int):Array Value:=((List.range 64).map λi=>Value.int i64 (f i)).toArray
theorem zB1 (f:Nat->Int):(a64 f).size=64:=by simp[a64]
theorem zAx (f:Nat->Int)(i:Nat)(a:i<64):(a64 f)[i]? =some (iX (f i)):=by
 simp[a64,a]
theorem zP8:(prog.info? 246).map (·.size)=some 64:=by kernel_rfl
theorem zFN (w:World)(b:Nat)(f:Nat->Int)(a:w.heap[b]? =some (.cells (a64 f) 246)):w.rangeAt b 0 (a64 f).toList:=λj v c=>by
 unfold cell?;rw[a,Nat.zero_add];simpa using c
theorem zMf (f:Nat->Int):(prog.info? 246).map (·.size)=some (a64 f).toList.length:=by
 rw[Array.length_toList,zB1];exact zP8
theorem zMi (w:World)(f:Nat->Int)(i:Nat)(a:i<64):Sem.run prog (Instr.index 246 (agg (a64 f)) (iX (i:Int))) w=.ok (iX (f i)) w:=by
 have b:(0:Int)<=(i:Int)/\(i:Int)<64:=by omega
 simp[Instr.index,run_underlying underlying246,asIntOf,b,go_sem,zAx f i a];omega
def vD (row:List Int)(f:Nat->Int):Bool:=(List.range 64).all λi=>row.getD (128+i) 0==f i
theorem zPg (row:List Int)(f:Nat->Int)(i:Nat)(a:i<64)(b:row.getD (128+i) 0≠f i):vD row f=false:=by
 unfold vD;rw[List.all_eq_false];exact⟨i,List.mem_range.2 a,by simpa using b⟩
theorem zOc (row:List Int)(f:Nat->Int)(a:∀i,i<64->row.getD (128+i) 0=f i):vD row f=true:=by
 unfold vD;rw[List.all_eq_true];intro i b;rw[a i (List.mem_range.1 b)];simp
theorem zHc (w:World)(v:Value)(row:List Int)(s:Ints w (In w) v row)(t:row.length=256)(f:Nat->Int):
  Calls prog 186 #[v,agg (a64 f)] w λe w'=>e=returned (bool (vD row f))/\Grew w w':=by
 obtain⟨M,N,rfl,_,_,l⟩:=s;rw[t] at l ⊢;have u:=vl l;have p:Hid ((w.alloc (.cells (a64 f) 246)).rangeAt w.heap.size 0 (a64 f).toList/\(prog.info? 246).map (·.size)=some (a64 f).toList.length):=⟨zFN (w.alloc (.cells (a64 f) 246)) w.heap.size f (gZ _ _),zMf f⟩
 have z:Hid (∀w i,i<64->Sem.run prog (Instr.index 246 (agg (a64 f)) (iX ((i:Nat):Int))) w=.ok (iX (f i)) w):=λw i=>zMi w f i;have B:=vl <| zAx f;have C:Hid (Grew w (w.alloc (.cells (a64 f) 246))):=kZ _ _ lQ;have D:Hid (∀i,i<64->row.getD (128+i) 0≠f i->vD row f=false):=zPg row f;have E:Hid ((∀i,i<64->row.getD (128+i) 0=f i)->vD row f=true):=zOc row f;clear l;generalize a64 f=F at *;go_in;go_wp2_with (refine wpList_load_mid rfl 246 (.tmp 3) rfl w.heap.size 0 rfl F.toList (.array 64 3) p.1 underlying246 rfl p.2 ?_)
 go_loopg [8] 64 (λk i wr=>∃j:Nat,k=64-j/\j<=64/\i=iX (j:Int)/\(∀i,i<j->row.getD (128+i) 0=f i)/\Grew w wr)
 case atStart=>exact⟨0,rfl,lX,rfl,λi q=>by omega,C⟩
 case round=>
  obtain⟨j,m,O,rfl,d,g⟩:=hrel;have b:Hid (gk=64-j/\(∀i,i<j->row.getD (128+i) 0=f i)/\Grew w wr):=⟨m,d,g⟩
  by_cases o:j<64
  ·have G:(j:Int)<64:=by omega
   obtain⟨P,R,rfl,H,r⟩:=u (128+j) (by omega);have S:=zA r H g;have T:=z wr j o;have U:=B j o;have I:Hid (row.getD (128+j) 0≠f j->vD row f=false):=D j o;have J:Hid (row.getD (128+j) 0=f j->∀i,i<j+1->row.getD (128+i) 0=f i):=λK i q=>by
    by_cases e:i=j
    ·rw[e];exact K
    ·exact b.2.1 i (by omega)
   have V:(128:Int)+(j:Int)<256:=by omega
   clear m d g r;generalize row.getD (128+j) 0=x at *;generalize f j=y at *;by_cases a:x=y
   ·have c:Hid (∀i,i<j+1->row.getD (128+i) 0=f i):=J a
    have L:(x != y)=false:=by simp[a]
    clear a;go_wp2;go_roundg (64-(j+1))
    case measure=>rw[b.out.1];omega
    case rel=>exact⟨j+1,rfl,by omega,by go_num,c,b.2.2⟩
   ·have c:Hid (vD row f=false):=I a
    have L:(x != y)=true:=by simp[a]
    clear a;go_wp2;go_ret;exact⟨by rw[c.out];rfl,b.2.2⟩
  ·have G:(64:Int)<=(j:Int):=by omega
   have c:Hid (vD row f=true):=E λi q=>d i (by omega);clear m d g;go_wp2;go_ret;exact⟨by rw[c.out];rfl,b.2.2⟩
section
structure Mk where
 next:List (List Int)
 rules:List Int
 of:List Int
 full:Bool
def zEb (l:List Int):Array Value:=(l.map λx=>Value.int i64 x).toArray
structure Mw (w0 w:World)(mb kb:Nat)(most:Nat)(m:Mk)(nv rv ov:Value)(gs:Nat->Nat):Prop where
 blk:w.heap[mb]? =some (.cells #[pointer (some ⟨kb,0,none⟩),int i64 (most:Int),bool m.full,nv,rv,int i64 0,ov] 183)
 nOwn:Row w w0.heap.size 45 nv m.next.length λi=>slice (some ⟨gs i,0,none⟩) 256 256
 each:∀i,i<m.next.length->w.heap[gs i]? =some (.cells (zEb (m.next.getD i [])) 3)/\w0.heap.size<=gs i/\(m.next.getD i []).length=256
 rOwn:OwnI w w0.heap.size rv m.rules
 oOwn:OwnI w w0.heap.size ov m.of
 inj:∀i j,i<m.next.length->j<m.next.length->gs i=gs j->i=j
 nr:∀i,i<m.next.length->some (gs i)≠rv.ownBlock
 no:∀i,i<m.next.length->some (gs i)≠ov.ownBlock
 ro:∀g,rv.ownBlock=some g->some g≠ov.ownBlock
 mH:w0.heap.size<=mb
 keep:Grew w0 w
def MwIs (w0 w:World)(mb kb most:Nat)(m:Mk):Prop:=∃nv rv ov gs,Mw w0 w mb kb most m nv rv ov gs
def StayT (w w':World):Prop:=∀(k:Nat) (c:Array Value) (t:TypeId),w.heap[k]? =some (Obj.cells c t)->t≠3->t≠45->t≠183->w'.heap[k]? =some (Obj.cells c t)
theorem StayT.refl (w:World):StayT w w:=λ_ _ _ a _ _ _=>a
theorem StayT.trans {w w' a:World}(f:StayT w w')(g:StayT w' a):StayT w a:=λk c t j b d e=>g k c t (f k c t j b d e) b d e
theorem Keep.stayT {w w':World}(d:Grew w w'):StayT w w':=λk c t a _ _ _=>by
 have b:=(kQ.1 a).1;exact(d.block k b (kJ b)).trans a
section
variable {w0 w w2:World} {mb kb most:Nat} {m:Mk} {nv rv ov:Value} {gs:Nat->Nat}
theorem zNU (l:List Int)(i:Nat)(a:i<l.length):(zEb l)[i]? =some (iX (l.getD i 0)):=by
 simp[zEb,a]
theorem zNT (l:List Int)(i:Nat)(x:Int):(zEb l).setIfInBounds i (iX x)=zEb (l.set i x):=by
 simp[zEb,List.map_set]
theorem Mw.lt (a:Mw w0 w mb kb most m nv rv ov gs):mb<w.heap.size:=(kQ.1 a.blk).1
theorem Mw.gl (a:Mw w0 w mb kb most m nv rv ov gs)(i:Nat)(b:i<m.next.length):gs i<w.heap.size:=(kQ.1 (a.each i b).1).1
theorem Mw.cells (a:Mw w0 w mb kb most m nv rv ov gs):w.cell? ⟨mb,0,none⟩=some (pX kb)/\w.cell? ⟨mb,1,none⟩=some (iX (most:Int))/\w.cell? ⟨mb,2,none⟩=some (bool m.full)/\w.cell? ⟨mb,3,none⟩=some nv/\w.cell? ⟨mb,4,none⟩=some rv/\w.cell? ⟨mb,6,none⟩=some ov/\∀i,w.frozen? ⟨mb,i,none⟩=false:=by
 refine⟨?_,?_,?_,?_,?_,?_,λi=>?_⟩
 all_goals first|(unfold cell?;rw[a.blk];rfl)|(unfold frozen?;rw[a.blk];simp)
theorem Mw.row (c:Mw w0 w mb kb most m nv rv ov gs)(i b:Nat)(d:i<m.next.length)(e:b<256):w.cell? ⟨gs i,b,none⟩=some (iX ((m.next.getD i []).getD b 0))/\w.frozen? ⟨gs i,b,none⟩=false:=by
 have ⟨a,_,f⟩:=c.each i d
 constructor
 ·unfold cell?;rw[a];exact zNU _ _ (by rw[f];exact e)
 ·unfold frozen?;rw[a];simp
theorem Mw.box (a:Mw w0 w mb kb most m nv rv ov gs):some mb≠nv.ownBlock/\some mb≠rv.ownBlock/\some mb≠ov.ownBlock/\∀i,i<m.next.length->gs i≠mb:=by
 refine⟨zO a.nOwn a.blk (by decide),zO a.rOwn a.blk (by decide),zO a.oOwn a.blk (by decide),λi b e=>?_⟩;have:=(a.each i b).1;rw[e,a.blk] at this;simp at this
theorem Mw.grown (a:Mw w0 w mb kb most m nv rv ov gs)(b:Grew w w2):Mw w0 w2 mb kb most m nv rv ov gs:=by
 have e:∀k,k<w.heap.size->w2.heap[k]? =w.heap[k]? :=λk d=>b.block k d (kJ d);exact⟨(e mb a.lt).trans a.blk,zM a.nOwn b,λi c=>⟨(e _ (a.gl i c)).trans (a.each i c).1,(a.each i c).2⟩,zM a.rOwn b,zM a.oOwn b,a.inj,a.nr,a.no,a.ro,a.mH,a.keep.th b⟩
theorem Mw.put (a:Mw w0 w mb kb most m nv rv ov gs)(s b:Nat)(l:s<m.next.length)(x:Int):Mw w0 (w.setCell ⟨gs s,b,none⟩ (iX x)) mb kb most {m with next:=m.next.set s ((m.next.getD s []).set b x)} nv rv ov gs/\StayT w (w.setCell ⟨gs s,b,none⟩ (iX x)):=by
 have e:∀k,k≠gs s->(w.setCell ⟨gs s,b,none⟩ (iX x)).heap[k]? =w.heap[k]? :=λk d=>lJ _ _ _ _ d;have ⟨p,r,u⟩:=a.each s l;have v:=a.box;have y:=zO a.nOwn p (by decide);have o:(m.next.set s ((m.next.getD s []).set b x)).length=m.next.length:=List.length_set ..
 refine⟨⟨(e mb (Ne.symm (v.2.2.2 s l))).trans a.blk,?_,λi g=>?_,zD a.rOwn λk _ _ d=>e k λf=>a.nr s l (by rw[d,f]),zD a.oOwn λk _ _ d=>e k λf=>a.no s l (by rw[d,f]),λi j g z=>?_,λi g=>?_,λi g=>?_,a.ro,a.mH,a.keep.trans (zP _ _ _ _ r)⟩,λk c t d A _ _=>?_⟩
 ·show Row _ _ _ _ (m.next.set s _).length _
  rw[o];exact zD a.nOwn λk _ _ d=>e k λf=>y (by rw[d,f])
 ·have q:i<m.next.length:=by rw[<-o];exact g
  show _=some (Obj.cells (zEb ((m.next.set s _).getD i [])) _)/\_/\((m.next.set s _).getD i []).length=256;rw[lW,List.getElem?_set];by_cases f:s=i
  ·subst f
   rw[if_pos rfl,if_pos l];refine⟨?_,r,by simp only[Option.getD_some,List.length_set];exact u⟩;show _=some (Obj.cells (zEb ((m.next.getD s []).set b x)) _);rw[<-zNT];simp[setCell,lU,p]
  ·rw[if_neg f,<-lW]
   have B:gs i≠gs s:=λC=>f (a.inj s i l q C.symm);exact⟨(e _ B).trans (a.each i q).1,(a.each i q).2⟩
 ·exact a.inj i j (by rw[<-o];exact g) (by rw[<-o];exact z)
 ·exact a.nr i (by rw[<-o];exact g)
 ·exact a.no i (by rw[<-o];exact g)
 ·refine(e k λf=>?_).trans d
  rw[f,p] at d;injection d with d;injection d with _ d;exact A d.symm
end
end
section
attribute [local go_sem ↓] Go.wp_at_zero Go.wp_at_succ
def zeros:List Int:=List.replicate 256 0
theorem zN9 {w:World}{H g:Nat}(d:w.ownsRow H 3 1 (slice (qX g) 256 256) 256 ((List.range 256).map λ_=>zX)):w.heap[g]? =some (.cells (zEb zeros) 3):=by
 rcases d.2 with⟨b,_⟩|⟨p,cap,c,b,_,e,_,_,f,j⟩
 ·cases b
 ·injection b with a q k
  injection a with a;injection a with a;subst a k;rw[e];have l:c.toList=(List.range 256).map λ_=>zX:=by
   rw[<-j,List.take_of_length_le (by rw[Array.length_toList,f];exact lQ)]
  have o:c=zEb zeros:=by
   apply Array.toList_inj.1;rw[l];unfold zEb zeros;rw[List.map_replicate];apply List.ext_getElem
   ·rw[kV,List.length_range,List.length_replicate]
   ·intro i r s
    rw[List.getElem_map,List.getElem_replicate]
  rw[o]
section
variable {w0 w w1 w2:World} {mb kb most:Nat} {m:Mk} {nv rv ov:Value} {gs:Nat->Nat}
theorem Mw.newRow {o:Obj}{g cap n:Nat}(f:Mw w0 w mb kb most m nv rv ov gs)(G:n=m.next.length)(z:Grew w w1)(A:w1.heap[w.heap.size]? =some (.cells (zEb zeros) 3))
  (H:w2.ownsRow w0.heap.size 45 1 (slice (qX g) (n+1) cap) (n+1) (((List.range n).map λi=>slice (some ⟨gs i,0,none⟩) 256 256)++[slice (qX w.heap.size) 256 256])) (q:(w1.alloc o).grownBy w2 nv.ownBlock) (I:nv.ownBlock=some g\/w1.heap.size<=g):
  Mw w0 (w2.setCell ⟨mb,3,none⟩ (slice (qX g) (n+1) cap)) mb kb most {m with next:=m.next++[zeros]} (slice (qX g) (n+1) cap) rv ov (λi=>if i=n then w.heap.size else gs i)/\StayT w (w2.setCell ⟨mb,3,none⟩ (slice (qX g) (n+1) cap)):=by
 subst G;have b:=f.grown z;have s:=b.box;have J:=b.lt;have aa:=f.lt;have K:=(kQ.1 A).1;have L:=f.keep.size;have u:∀j,j<w1.heap.size->some j≠nv.ownBlock->w2.heap[j]? =w1.heap[j]? :=λj B M=>(q.block j (by simp;omega) M).trans (lG _ _ _ (by omega));have N:w1.heap.size<=w2.heap.size:=lY (by simp) q.size;have O:=(u mb J s.1).trans b.blk;have e:∀k,k≠mb->(w2.setCell ⟨mb,3,none⟩ (slice (qX g) (m.next.length+1) cap)).heap[k]? =w2.heap[k]? :=λk a=>lJ _ _ _ _ a;have P:∀i,i<m.next.length->some (gs i)≠nv.ownBlock:=λi l=>zO b.nOwn (b.each i l).1 (by decide)
 have R:some w.heap.size≠nv.ownBlock:=λd=>by have:=(f.nOwn.lt _ d.symm).2;omega
 have S:=zU q b.rOwn λk a=>yD b.rOwn b.nOwn (by decide) a;have T:=zU q b.oOwn λk a=>yD b.oOwn b.nOwn (by decide) a;have ab:mb≠g:=λd=>by
  rcases I with C|C
  ·exact s.1 (by rw[C,d])
  ·omega
 have U:(m.next++[zeros]).length=m.next.length+1:=by simp
 have D:∀i,i<m.next.length->gs i<w.heap.size:=λi l=>f.gl i l
 refine⟨⟨by simp[setCell,lU,O],?_,λi l=>?_,zD S λk _ _ a=>e k λd=>s.2.1 (by rw[a,d]),zD T λk _ _ a=>e k λd=>s.2.2.1 (by rw[a,d]),λi j l B=>?_,λi l=>?_,λi l=>?_,f.ro,f.mH,b.keep.trans ⟨q.os,q.output,by rw[zC];exact N,λk a _=>(e k (by have:=f.mH;omega)).trans (u k (by omega) λd=>by have:=(f.nOwn.lt k d.symm).1;omega)⟩⟩,λk c t a ac V W=>?_⟩
 ·show Row _ _ _ _ (m.next++[zeros]).length _
  rw[U];have X:Row w2 w0.heap.size 45 (slice (qX g) (m.next.length+1) cap) (m.next.length+1) (λi=>slice (some ⟨if i=m.next.length then w.heap.size else gs i,0,none⟩) 256 256):=by
   unfold Row;rw[xQ,if_pos rfl];rw[show (List.range m.next.length).map (λi=>Value.slice (some ⟨if i=m.next.length then w.heap.size else gs i,0,none⟩) 256 256)=(List.range m.next.length).map λi=>Value.slice (some ⟨gs i,0,none⟩) 256 256 from List.map_congr_left λi l=>by rw[if_neg (by have:=List.mem_range.1 l;omega)]];exact H
  exact zD X λk _ _ a=>e k λd=>by
   have:g=k:=by simpa[Value.ownBlock] using a
   omega
 ·show _=some (Obj.cells (zEb ((m.next++[zeros]).getD i [])) _)/\_/\((m.next++[zeros]).getD i []).length=256
  by_cases p:i=m.next.length
  ·subst p
   rw[if_pos rfl,lW,hZ lQ,Nat.sub_self];exact⟨(e _ (by omega)).trans ((u _ K R).trans A),L,List.length_replicate ..⟩
  ·have r:i<m.next.length:=by
    have x:i<(m.next++[zeros]).length:=l;omega
   rw[if_neg p,lW,kW r,<-lW];exact⟨(e _ (s.2.2.2 i r)).trans ((u _ (b.gl i r) (P i r)).trans (b.each i r).1),(b.each i r).2⟩
 ·have x:i<(m.next++[zeros]).length:=l
  have ad:j<(m.next++[zeros]).length:=B;intro p;by_cases y:i=m.next.length
  ·by_cases v:j=m.next.length
   ·omega
   ·rw[if_pos y,if_neg v] at p
    have:=D j (by omega);omega
  ·by_cases v:j=m.next.length
   ·rw[if_neg y,if_pos v] at p
    have:=D i (by omega);omega
   ·rw[if_neg y,if_neg v] at p
    exact f.inj i j (by omega) (by omega) p
 ·have x:i<(m.next++[zeros]).length:=l
  split
  ·intro d;have:=(f.rOwn.lt _ d.symm).2;omega
  ·exact f.nr i (by omega)
 ·have x:i<(m.next++[zeros]).length:=l
  split
  ·intro d;have:=(f.oOwn.lt _ d.symm).2;omega
  ·exact f.no i (by omega)
 ·have E:=(kQ.1 a).1
  have F:=(z.block k E (kJ E)).trans a;have Y:k≠mb:=λd=>by
   rw[d,f.blk] at a;injection a with a;injection a with _ a;exact W a.symm
  exact(e k Y).trans ((u k (by omega) (zO b.nOwn F (Ne.symm V))).trans F)
theorem Mw.newRule {o:Obj}{g cap n:Nat}{x:Int}(a:Mw w0 w mb kb most m nv rv ov gs)(u:n=m.rules.length)(v:w2.ownsRow w0.heap.size 3 1 (slice (qX g) (n+1) cap) (n+1) ((m.rules.map λx=>iX x)++[iX x]))(l:(w.alloc o).grownBy w2 rv.ownBlock)(s:rv.ownBlock=some g\/w.heap.size<=g):
  Mw w0 (w2.setCell ⟨mb,4,none⟩ (slice (qX g) (n+1) cap)) mb kb most {m with rules:=m.rules++[x]} nv (slice (qX g) (n+1) cap) ov gs/\StayT w (w2.setCell ⟨mb,4,none⟩ (slice (qX g) (n+1) cap)):=by
 subst u;have p:=a.box;have y:=a.lt;have r:∀j,j<w.heap.size->some j≠rv.ownBlock->w2.heap[j]? =w.heap[j]? :=λj J z=>(l.block j (by simp;omega) z).trans (lG _ _ _ (by omega));have A:w.heap.size<=w2.heap.size:=lY (by simp) l.size;have B:=(r mb y p.2.1).trans a.blk;have e:∀k,k≠mb->(w2.setCell ⟨mb,4,none⟩ (slice (qX g) (m.rules.length+1) cap)).heap[k]? =w2.heap[k]? :=λk b=>lJ _ _ _ _ b;have C:=zU l a.nOwn λk b=>yD a.nOwn a.rOwn (by decide) b;have D:=zU l a.oOwn λk b=>λd=>a.ro k d.symm b.symm;have K:mb≠g:=λd=>by
  rcases s with q|q
  ·exact p.2.1 (by rw[q,d])
  ·omega
 refine⟨⟨by simp[setCell,lU,B],zD C λk _ _ b=>e k λd=>p.1 (by rw[b,d]),λi f=>⟨(e _ (p.2.2.2 i f)).trans ((r _ (a.gl i f) (a.nr i f)).trans (a.each i f).1),(a.each i f).2⟩,zD (OwnI.snoc v) λk _ _ b=>e k λd=>?_,zD D λk _ _ b=>e k λd=>p.2.2.1 (by rw[b,d]),a.inj,λi f d=>?_,a.no,qR a.oOwn a.ro s,a.mH,a.keep.trans ⟨l.os,l.output,by rw[zC];exact A,λk b _=>(e k (by have:=a.mH;omega)).trans (r k (by have:=a.keep.size;omega) λd=>by have:=(a.rOwn.lt k d.symm).1;omega)⟩⟩,λk c t b E L F=>?_⟩
 ·have:g=k:=by simpa[Value.ownBlock] using b
  omega
 ·have G:gs i=g:=by simpa[Value.ownBlock] using d
  rcases s with q|q
  ·exact a.nr i f (by rw[q,G])
  ·have:=a.gl i f;omega
 ·have H:=(kQ.1 b).1
  have I:k≠mb:=λd=>by
   rw[d,a.blk] at b;injection b with b;injection b with _ b;exact F b.symm
  exact(e k I).trans ((r k H (zO a.rOwn b (Ne.symm E))).trans b)
theorem Mw.newOf {o:Obj}{g cap n:Nat}{x:Int}(a:Mw w0 w mb kb most m nv rv ov gs)(u:n=m.of.length)(v:w2.ownsRow w0.heap.size 3 1 (slice (qX g) (n+1) cap) (n+1) ((m.of.map λx=>iX x)++[iX x]))(f:(w.alloc o).grownBy w2 ov.ownBlock)(s:ov.ownBlock=some g\/w.heap.size<=g):
  Mw w0 (w2.setCell ⟨mb,6,none⟩ (slice (qX g) (n+1) cap)) mb kb most {m with of:=m.of++[x]} nv rv (slice (qX g) (n+1) cap) gs/\StayT w (w2.setCell ⟨mb,6,none⟩ (slice (qX g) (n+1) cap)):=by
 subst u;have p:=a.box;have y:=a.lt;have r:∀j,j<w.heap.size->some j≠ov.ownBlock->w2.heap[j]? =w.heap[j]? :=λj J z=>(f.block j (by simp;omega) z).trans (lG _ _ _ (by omega));have A:w.heap.size<=w2.heap.size:=lY (by simp) f.size;have B:=(r mb y p.2.2.1).trans a.blk;have e:∀k,k≠mb->(w2.setCell ⟨mb,6,none⟩ (slice (qX g) (m.of.length+1) cap)).heap[k]? =w2.heap[k]? :=λk b=>lJ _ _ _ _ b;have C:=zU f a.nOwn λk b=>yD a.nOwn a.oOwn (by decide) b;have D:=zU f a.rOwn a.ro;have K:mb≠g:=λd=>by
  rcases s with q|q
  ·exact p.2.2.1 (by rw[q,d])
  ·omega
 refine⟨⟨by simp[setCell,lU,B],zD C λk _ _ b=>e k λd=>p.1 (by rw[b,d]),λi l=>⟨(e _ (p.2.2.2 i l)).trans ((r _ (a.gl i l) (a.no i l)).trans (a.each i l).1),(a.each i l).2⟩,zD D λk _ _ b=>e k λd=>p.2.1 (by rw[b,d]),zD (OwnI.snoc v) λk _ _ b=>e k λd=>?_,a.inj,a.nr,λi l d=>?_,zDm (qR a.rOwn (λg f e=>a.ro g e.symm f.symm) s),a.mH,a.keep.trans ⟨f.os,f.output,by rw[zC];exact A,λk b _=>(e k (by have:=a.mH;omega)).trans (r k (by have:=a.keep.size;omega) λd=>by have:=(a.oOwn.lt k d.symm).1;omega)⟩⟩,λk c t b E L F=>?_⟩
 ·have:g=k:=by simpa[Value.ownBlock] using b
  omega
 ·have G:gs i=g:=by simpa[Value.ownBlock] using d
  rcases s with q|q
  ·exact a.no i l (by rw[q,G])
  ·have:=a.gl i l;omega
 ·have H:=(kQ.1 b).1
  have I:k≠mb:=λd=>by
   rw[d,a.blk] at b;injection b with b;injection b with _ b;exact F b.symm
  exact(e k I).trans ((r k H (zO a.oOwn b (Ne.symm E))).trans b)
theorem Mw.fill (a:Mw w0 w mb kb most m nv rv ov gs):Mw w0 (w.setCell ⟨mb,2,none⟩ (bool true)) mb kb most {m with full:=true} nv rv ov gs/\StayT w (w.setCell ⟨mb,2,none⟩ (bool true)):=by
 have f:=a.box;have e:∀k,k≠mb->(w.setCell ⟨mb,2,none⟩ tX).heap[k]? =w.heap[k]? :=λk b=>lJ _ _ _ _ b;refine⟨⟨by simp[setCell,lU,a.blk],zD a.nOwn λk _ _ b=>e k λd=>f.1 (by rw[b,d]),λi g=>⟨(e _ (f.2.2.2 i g)).trans (a.each i g).1,(a.each i g).2⟩,zD a.rOwn λk _ _ b=>e k λd=>f.2.1 (by rw[b,d]),zD a.oOwn λk _ _ b=>e k λd=>f.2.2.1 (by rw[b,d]),a.inj,a.nr,a.no,a.ro,a.mH,a.keep.trans (zP _ _ _ _ a.mH)⟩,λk c t b l o j=>(e k λd=>?_).trans b⟩;rw[d,a.blk] at b;injection b with b;injection b with _ b;exact j b.symm
end
end
section
attribute [local go_sem ↓] Go.wp_at_zero Go.wp_at_succ
def Mk.addN (m:Mk)(most:Nat):Nat:=if most<=m.next.length then 0 else m.next.length
def Mk.add (m:Mk)(most:Nat)(rule:Int):Mk:=if most<=m.next.length then{m with full:=true} else{m with next:=m.next++[zeros],rules:=m.rules++[rule]}
theorem MwIs.grown {b w w2:World}{c kb most:Nat}{m:Mk}(a:MwIs b w c kb most m)(d:Grew w w2):MwIs b w2 c kb most m:=by
 obtain⟨e,rv,f,g,a⟩:=a;exact⟨e,rv,f,g,a.grown d⟩
theorem zFy (w0 w:World)(mb kb most:Nat)(m:Mk)(h:MwIs w0 w mb kb most m)(hmost:most<=1000000)(hr:m.rules.length<=1000000)(rule:Int):
  Calls prog 133 #[pX mb,iX rule] w λe w'=>e=returned (iX ((m.addN most:Nat):Int))/\MwIs w0 w' mb kb most (m.add most rule)/\StayT w w':=by
 obtain⟨i0,hi0,hz0,hz1,hz2⟩:=info_parts yG;obtain⟨ii1,hi1,hy0,hy1,hy2⟩:=info_parts zEp;obtain⟨nv,rv,ov,gs,h⟩:=h;obtain⟨an,cn,hnv⟩:=zF h.nOwn;obtain⟨ar,cr,hrv⟩:=h.rOwn.form;subst hnv hrv;obtain⟨x0,x1,x2,x3,x4,x6,xf⟩:=h.cells;have xf2:=xf 2;have xf3:=xf 3;have HM:=vl h;have hlt:=h.lt;by_cases hc:most<=m.next.length
 ·have HZ:Hid (m.addN most=0/\m.add most rule={m with full:=true}):=⟨by unfold Mk.addN;rw[if_pos hc],by unfold Mk.add;rw[if_pos hc]⟩
  have i1:(m.next.length:Int)>=(most:Int):=by omega
  go_in;go_wp2;go_quiet (fail);have HM2:=vl <| HM.grown (Keep.alike (w':=w.drewN nq) ⟨rfl,rfl,rfl⟩);go_wp2;go_ret;refine⟨by rw[HZ.out.1];rfl,by rw[HZ.out.2];exact⟨_,_,_,_,HM2.fill.1⟩,?_⟩;exact StayT.trans (Keep.stayT (Keep.alike (w':=w.drewN nq) ⟨rfl,rfl,rfl⟩)) HM2.fill.2
 ·have HZ:Hid (m.addN most=m.next.length/\m.add most rule={m with next:=m.next++[zeros],rules:=m.rules++[rule]}):=⟨by unfold Mk.addN;rw[if_neg hc],by unfold Mk.add;rw[if_neg hc]⟩
  have i1:¬((m.next.length:Int)>=(most:Int)):=by omega
  have hnl:m.next.length<=1000000:=by omega
  go_in;go_wp2;go_quiet (fail);have HM2:Hid (Mw w0 (w.drewN nq) mb kb most m (slice an m.next.length cn) (slice ar m.rules.length cr) ov gs/\StayT w (w.drewN nq)):=⟨HM.grown (Keep.alike (w':=w.drewN nq) ⟨rfl,rfl,rfl⟩),Keep.stayT (Keep.alike (w':=w.drewN nq) ⟨rfl,rfl,rfl⟩)⟩
  generalize w.drewN nq=w3 at *;obtain⟨x0,x1,x2,x3,x4,x6,xf⟩:=HM2.1.cells;have xf3:=xf 3;have hlt:=HM2.1.lt;go_wp2;obtain⟨w4,hmk,ho4,hg4⟩:=run_makeSlice_full (P:=prog) w3.drew w3.heap.size 45 3 i0 _ 1 underlying45 hi0 hz0 hz1 i64 i64 256 (by omega) (by rw[hz2];omega) (by unfold maxLen;omega) lQ;have HK4:Hid (Grew w3 w4/\w4.heap[w3.heap.size]? =some (.cells (zEb zeros) 3)):=by
   refine⟨⟨hg4.os,hg4.output,hg4.size,λk hk _=>hg4.block k hk (by simp)⟩,?_⟩;have h:=ho4;rw[Nat.mul_one,zAO _ rfl] at h;exact zN9 h
  have HM4:=vl <| HM2.1.grown HK4.1;have x3a:=HM4.cells.2.2.2.1;have xf3a:=HM4.cells.2.2.2.2.2.2 3;have hlt4:=HM4.lt;have HNP:=vl HM4.box.1;have hH4:=HM4.keep.size;have OW:=HM4.nOwn;have hmk2:Sem.run prog (Instr.makeSlice 45 (iX 256) (iX 256)) w3.drew=.ok (slice (qX w3.heap.size) 256 256) w4:=hmk;go_region_law ((first
   |(refine step_append_lies _ (by rfl) (.tmp 24) (.tmp 26) 88 (by rfl) w0.heap.size 45 ii1 _ 1 24 underlying88 hi1 hy0 hy1 hy2 rfl (by decide) (slice an m.next.length cn) m.next.length ((List.range m.next.length).map λi=>slice (some ⟨gs i,0,none⟩) 256 256) (by simp[Act.eval,Act.put]) (OW.alloc _) ⟨w4.heap.size,0,none⟩ 1 1 [slice (qX w3.heap.size) 256 256] (by simp[Act.eval,Act.put]) (by rfl) (news_of_block (cs:=#[slice (qX w3.heap.size) 256 256]) (t:=45) (fr:=(0,0)) (gZ w4 _)) (by simp[Value.oneCell']) (by decide) (by unfold maxLen;omega) (by omega) (by simp;omega) (w4.heap.size+1) (by simp) ?_;intro gg cap w5 hown hgrow hat hlt5;have hPB:=hgrow.block mb (by simp;omega) HNP;have x3b:cX w5 mb 3=some (slice an m.next.length cn):=(gY hPB).trans ((gV _ _ _ hlt4).trans x3a);have xf3b:w5.frozen? ⟨mb,3,none⟩=false:=(gW hPB).trans ((frozen?_alloc_past _ _ _ hlt4).trans xf3a))))
  all_goals
   have HM6:Hid (Mw w0 (w5.setCell ⟨mb,3,none⟩ (slice (qX gg) (m.next.length+1) cap)) mb kb most {m with next:=m.next++[zeros]} (slice (qX gg) (m.next.length+1) cap) (slice ar m.rules.length cr) ov (λi=>if i=m.next.length then w3.heap.size else gs i)/\StayT w (w5.setCell ⟨mb,3,none⟩ (slice (qX gg) (m.next.length+1) cap))):=by
    have h:=HM2.1.newRow rfl HK4.1 HK4.2 hown hgrow (by
     rcases hat with ha|ha
     ·exact .inl ha
     ·right;rw[ha];omega)
    exact⟨h.1,HM2.2.trans h.2⟩
   generalize w5.setCell ⟨mb,3,none⟩ (slice (qX gg) (m.next.length+1) cap)=w6 at *;have v3:=HM6.1.cells.2.2.2.1;have v4:=HM6.1.cells.2.2.2.2.1;have hl6:=HM6.1.lt;have hH6:w0.heap.size<=w6.heap.size:=HM6.1.keep.size;have OR:w6.ownsRow w0.heap.size 3 1 (slice ar m.rules.length cr) m.rules.length (m.rules.map λx=>iX x):=HM6.1.rOwn;go_wp2_with (first|(at_builtin;refine wpList_append_lies _ rfl _ _ 45 rfl (w0.heap.size) 3 i0 zX 1 8 underlying45 hi0 hz0 hz1 hz2 rfl (by decide) _ _ _ rfl (OR.alloc _) ⟨w6.heap.size,0,none⟩ 1 1 [iX rule] rfl rfl (cell_one_new _ _ _) (by intro u hu;simp at hu;subst hu;rfl) (by decide) (by unfold maxLen;omega) (by omega) (by simp;omega) _ rfl ?_;intro g2 cap2 w7 hown2 hgrow2 hat2 hlt7;have hPB2:w7.heap[mb]? =w6.heap[mb]? :=(hgrow2.block _ (by simp;omega) HM6.1.box.2.1).trans (lG _ _ _ (by omega));have t4:cX w7 mb 4=some (slice ar m.rules.length cr):=(gY hPB2).trans v4;have g4:w7.frozen? ⟨mb,4,none⟩=false:=(gW hPB2).trans (HM6.1.cells.2.2.2.2.2.2 4);have HM8:=vl <| HM6.1.newRule rfl hown2 hgrow2 (by rcases hat2 with ha|ha;exact .inl ha;right;rw[ha];simp);have t3:=HM8.1.cells.2.2.2.1))
   go_ret;refine⟨?_,by rw[HZ.out.2];exact⟨_,_,_,_,HM8.1⟩,HM6.2.trans HM8.2⟩;rw[HZ.out.1]
   first|rfl|(simp;done)|(show _=_;congr 2;omega)
end
def Mk.put (m:Mk)(s b:Nat)(x:Int):Mk:={m with next:=m.next.set s ((m.next.getD s []).set b x)}
theorem zLl (f w:World)(c kb most:Nat)(m:Mk)(a:MwIs f w c kb most m)(kind b s:Nat)(j:kind<m.of.length)(k:m.of.getD kind 0=(s:Int))(d:s<m.next.length)(l:b<256)(x:Int):
  Calls prog 135 #[pX c,iX (kind:Int),iX (b:Int),iX x] w λe w'=>e=rX/\MwIs f w' c kb most (m.put s b x)/\StayT w w':=by
 obtain⟨t,rv,u,v,a⟩:=a;have ⟨ao,y,o⟩:=a.oOwn.form;subst o;obtain⟨go,rfl⟩:=a.oOwn.some (by omega);have ⟨z,A,p,_,_,_,_,q,_⟩:=a.nOwn.get (by omega);subst p;have ⟨B,C,D,E,F,G,H⟩:=a.cells;have c1:=a.oOwn.cell kind j;rw[k] at c1;have c2:=q s d;have ⟨I,J⟩:=a.row s b d l;have r:=a.put s b d x;have g:=vl r;have K:(kind:Int)<(m.of.length:Int):=by omega
 have L:(s:Int)<(m.next.length:Int):=by omega
 have M:(b:Int)<256:=by omega
 generalize (m.next.getD s []).getD b 0=old at *;go_in;go_wp2;go_region;go_wp2;go_end0;exact⟨rfl,⟨_,_,_,_,g.1.grown (Keep.drew _)⟩,g.2.trans (Keep.stayT (Keep.drew _))⟩
structure Kd.Ok (k:Kd)(a:Ar):Prop where
 lows:0<a.lows.length
 few:a.lows.length<=1000000000000
 good:a.Good 24
 lens:k.rules.length=k.rows.length
 wide:∀i,i<k.rows.length->(k.rows.getD i []).length=a.sets.length
 in_:∀i l,i<k.rows.length->l<a.sets.length->(k.rows.getD i []).getD l 0<k.rows.length
 start:k.start<k.rows.length
theorem zNy (lows:List Int)(n:Int)(a:0<lows.length):zAj lows n lows.length 0 lows.length<lows.length:=zKv _ _ _ _ _ a
theorem Kd.Ok.letter {k:Kd}{a:Ar}(b:k.Ok a)(c:Int):∃l:Nat,a.letter c=(l:Int)/\l<a.sets.length:=by
 have d:a.area c<a.letters.length:=by
  rw[<-b.good.lens];exact zNy a.lows c b.lows
 have e:=b.good.letters _ (zZ a.letters (a.area c) 0 d);refine⟨(a.letters.getD (a.area c) 0).toNat,?_,by omega⟩;show a.letters.getD (a.area c) 0=_;omega
def Mk.behind (m:Mk)(k:Kd)(a:Ar)(kind:Nat)(c:Int):Int:=m.of.getD ((k.rows.getD kind []).getD (a.letter c).toNat 0) 0
theorem KdAt.grown {w w2:World}{kb:Nat}{a:Ar}{k:Kd}(d:KdAt w kb a k)(b:Grew w w2):KdAt w2 kb a k:=by
 obtain⟨c,lv,tv,sv,e,rv,f,g,j,l⟩:=d;exact⟨lZ c b.size,lv,tv,sv,e,rv,(b.block kb c (kJ c)).trans f,g.grown b,j.grown b,l.grown b⟩
theorem zC2 (r w:World)(f kb most:Nat)(m:Mk)(d:MwIs r w f kb most m)(k:Kd)(a:Ar)(E:KdAt r kb a k)(ok:k.Ok a)(kind:Nat)(o:kind<k.rows.length)(F:m.of.length=k.rows.length)(c:Int):
  Calls prog 134 #[pX f,iX (kind:Int),iX c] w λe w'=>e=returned (iX (m.behind k a kind c))/\Grew w w':=by
 obtain⟨af,rv,ag,ah,d⟩:=d;have hK2:=E.grown d.keep;obtain⟨G,lv,tv,sv,ai,aj,g,j,H,ak⟩:=hK2;obtain⟨I,J,K,-⟩:=id j.lows;obtain⟨at_,L,M,-⟩:=id j.letters;obtain⟨as_,cs,has,-⟩:=id j.sets;have s:=vl <| zIy w lv tv sv a j ok.few ok.lows ok.good.lens.symm c;have ⟨l,t,u⟩:=ok.letter c;have N:Hid (m.behind k a kind c=m.of.getD ((k.rows.getD kind []).getD l 0) 0):=by
  show m.of.getD ((k.rows.getD kind []).getD (a.letter c).toNat 0) 0=_;rw[t];rfl
 rw[t] at s;have am:=ok.in_ kind l o u;have ⟨p,on,v,x,O,_,_,P⟩:=H.block (by rw[kV];omega);have ⟨an,R,A⟩:=P kind (by rw[kV];exact o);have S:(k.rows.map ints).getD kind []=ints (k.rows.getD kind []):=by
  rw[lW,lW,gX];cases k.rows[kind]? <;> rfl
 rw[S] at A;have q:=ok.wide kind o;have ⟨B,or_,T,C,U,_,_,V⟩:=A.block (by rw[zR,q];omega);have D:=V l (by rw[zR,q];exact u);rw[jH] at D;rw[zR,q] at C;rw[kV] at x;subst K M has x C;have ⟨ao,W,X⟩:=d.oOwn.form;subst X;obtain⟨go,rfl⟩:=d.oOwn.some (by omega);have ⟨Y,ap,aq,ar,au,aa,av⟩:=d.cells;have c1:=d.oOwn.cell _ (show (k.rows.getD kind []).getD l 0<m.of.length by omega);have ab:=(d.oOwn.lt go rfl).2;have aw:w.cell? ⟨kb,0,none⟩=some (slice I a.lows.length J):=by unfold cell?;rw[g];rfl
 have ax:w.cell? ⟨kb,1,none⟩=some (slice at_ a.letters.length L):=by unfold cell?;rw[g];rfl
 have ay:w.cell? ⟨kb,2,none⟩=some (slice as_ a.sets.length cs):=by unfold cell?;rw[g];rfl
 have ac:w.cell? ⟨kb,3,none⟩=some (slice (some ⟨p,on,none⟩) k.rows.length v):=by unfold cell?;rw[g];rfl
 have ad:Hid (∀w2,Grew w w2->w2.cell? ⟨f,6,none⟩=some (slice (qX go) m.of.length W)/\w2.cell? ⟨f,0,none⟩=some (pX kb)/\w2.cell? ⟨kb,3,none⟩=some (slice (some ⟨p,on,none⟩) k.rows.length v)/\w2.cell? ⟨p,on+kind,none⟩=some (slice (some ⟨B,or_,none⟩) a.sets.length T)/\w2.cell? ⟨B,or_+l,none⟩=some (iX (((k.rows.getD kind []).getD l 0:Nat):Int))/\w2.cell? ⟨go,(k.rows.getD kind []).getD l 0,none⟩=some (iX (m.of.getD ((k.rows.getD kind []).getD l 0) 0))):=λw2 b=>⟨zA aa d.lt b,zA Y d.lt b,zA ac G b,zA R O b,zA D U b,zA c1 ab b⟩
 have az:(kind:Int)<(k.rows.length:Int):=by omega
 have aA:(l:Int)<(a.sets.length:Int):=by omega
 have aB:(((k.rows.getD kind []).getD l 0:Nat):Int)<(m.of.length:Int):=by omega
 have aC:=F;generalize (k.rows.getD kind []).getD l 0=ae at *;generalize m.of.getD ae 0=y at *;go_in;go_wp2_with (go_at_call 175;refine s.mono ?_;rintro e w2 ⟨rfl,b⟩;have ⟨v0,v1,v2,aD,aE,aF⟩:=ad w2 b)
 go_quiet (fail);go_wp2;go_ret;exact⟨by rw[N.out];rfl,b.trans (Keep.lower (Keep.alike (w':=w2.drewN nq) ⟨rfl,rfl,rfl⟩) b.size b.size)⟩
def nz (f:Nat->Int):Bool:=(List.range 64).all λi=>f i==0
theorem zHU:a64 (λ_=>0)=(#[zX,zX,zX,zX,zX,zX,zX,zX,zX,zX,zX,zX,zX,zX,zX,zX,zX,zX,zX,zX,zX,zX,zX,zX,zX,zX,zX,zX,zX,zX,zX,zX,zX,zX,zX,zX,zX,zX,zX,zX,zX,zX,zX,zX,zX,zX,zX,zX,zX,zX,zX,zX,zX,zX,zX,zX,zX,zX,zX,zX,zX,zX,zX,zX]:Array Value):=rfl
theorem zMg (w:World)(a:Nat)(f g:Nat->Int):∀is:List Nat,(∀i∈is,i<64)->(Op.eqItems (a+1) 3 (prog.cellsOf 3) (a64 f) (a64 g) is).run prog w=.ok (is.all λi=>f i==g i) w
 |[],_=>rfl
 |i::is,b=>by
  have c:=b i (hJ);have m:prog.cellsOf 3=1:=by kernel_rfl
  have k:prog.plainKey 3=true:=by kernel_rfl
  have o:=run_part_plain (P:=prog) w (e:=3) k (xs:=a64 f) (off:=i*1) (v:=iX (f i)) (by rw[Nat.mul_one];exact zAx f i c);have p:=run_part_plain (P:=prog) w (e:=3) k (xs:=a64 g) (off:=i*1) (v:=iX (g i)) (by rw[Nat.mul_one];exact zAx g i c);have l:=zMg w a f g is λj q=>b j (List.mem_cons_of_mem _ q);have r:=run_equalIn_int (P:=prog) w a 3 i64 i64 (f i) (g i) underlying3;rw[m] at l ⊢;simp only[Op.eqItems,Sem.run_bind,o,p,r,Result.andThen_ok,List.all_cons];cases f i==g i
  ·rfl
  ·simpa using l
theorem zPv (w:World)(f:Nat->Int):(Op.equalIn 10000 246 (agg (a64 f)) (agg (#[zX,zX,zX,zX,zX,zX,zX,zX,zX,zX,zX,zX,zX,zX,zX,zX,zX,zX,zX,zX,zX,zX,zX,zX,zX,zX,zX,zX,zX,zX,zX,zX,zX,zX,zX,zX,zX,zX,zX,zX,zX,zX,zX,zX,zX,zX,zX,zX,zX,zX,zX,zX,zX,zX,zX,zX,zX,zX,zX,zX,zX,zX,zX,zX]:Array Value))).run prog w=.ok (nz f) w:=by
 obtain⟨c,a,-⟩:=info_parts yG;rw[<-zHU,run_equalIn_array (P:=prog) w 9999 (a64 f) (a64 λ_=>0) underlying246 a];exact zMg w 9998 f (λ_=>0) (List.range 64) λi b=>List.mem_range.1 b
section
def Mk.fillTo (m:Mk)(s:Nat)(f:Nat->Int):Nat->Mk
 |0=>m
 |j+1=>(m.fillTo s f j).put s (128+j) (f j)
theorem zEe (m:Mk)(s b:Nat)(x:Int):(m.put s b x).next.length=m.next.length:=List.length_set ..
theorem zCi (m:Mk)(s:Nat)(f:Nat->Int)(j:Nat):(m.fillTo s f j).next.length=m.next.length:=by
 induction j with
 |zero=>rfl
 |succ j a=>rw[Mk.fillTo,zEe,a]
def Mk.seek (m:Mk)(f:Nat->Int):Nat:=m.next.findIdx λrow=>vD row f
def Mk.withN (m:Mk)(most:Nat)(f:Nat->Int):Nat:=if nz f=true then 0 else if m.seek f<m.next.length then m.seek f else m.addN most
def Mk.withM (m:Mk)(most:Nat)(f:Nat->Int):Mk:=if nz f=true then m else if m.seek f<m.next.length then m else if m.addN most=0 then m.add most (-1) else(m.add most (-1)).fillTo (m.addN most) f 64
theorem zO0 (l:List (List Int))(f:Nat->Int)(j:Nat)(a:j<l.length)(b:vD (l.getD j []) f=true)(c:∀i,i<j->vD (l.getD i []) f=false):l.findIdx (λrow=>vD row f)=j:=by
 rw[List.findIdx_eq a];rw[lW,lV a] at b;refine⟨b,λi d=>?_⟩;have:=c i d;rw[lW,lV (by omega)] at this;exact this
theorem zMM (l:List (List Int))(f:Nat->Int)(b:∀i,i<l.length->vD (l.getD i []) f=false):l.findIdx (λrow=>vD row f)=l.length:=by
 rw[List.findIdx_eq_length];intro y c;obtain⟨i,a,rfl⟩:=List.getElem_of_mem c;have:=b i a;rw[lW,lV a] at this;exact this
section
variable {w0 w w2:World} {mb kb most:Nat} {m:Mk} {nv rv ov:Value} {gs:Nat->Nat}
theorem Mw.rowInts (a:Mw w0 w mb kb most m nv rv ov gs)(i:Nat)(c:i<m.next.length):Ints w (In w) (slice (some ⟨gs i,0,none⟩) 256 256) (m.next.getD i []):=by
 have d:=(a.each i c).2.2;exact⟨_,256,by rw[d],by rw[d];exact lQ,by unfold maxLen;omega,λb e=>⟨gs i,0,rfl,a.gl i c,by rw[Nat.zero_add];exact(a.row i b c (by omega)).1⟩⟩
theorem Mw.rows (c:Mw w0 w mb kb most m nv rv ov gs):∃a b,nv=slice a m.next.length b/\w.cell? ⟨mb,3,none⟩=some (slice a m.next.length b)/\∀i,i<m.next.length->∃g,a=some ⟨g,0,none⟩/\g<w.heap.size/\w.cell? ⟨g,i,none⟩=some (slice (some ⟨gs i,0,none⟩) 256 256):=by
 have ⟨a,b,d⟩:=zF c.nOwn;refine⟨a,b,d,by rw[<-d];exact c.cells.2.2.2.1,λi f=>?_⟩;have ⟨g,o,e,_,j,_,_,k,_⟩:=c.nOwn.get (by omega);rw[d] at e;injection e with l _ _;exact⟨g,l,j,k i f⟩
end
theorem zFW (w0 w:World)(mb kb most:Nat)(m:Mk)(a:MwIs w0 w mb kb most m)(aE:most<=1000000)(S:m.rules.length<=1000000)(aX:m.next.length<=1000000)(f:Nat->Int):
  Calls prog 179 #[pX mb,agg (a64 f)] w λe w'=>e=returned (iX ((m.withN most f:Nat):Int))/\MwIs w0 w' mb kb most (m.withM most f)/\StayT w w':=by
 have u:=vl <| zMf f;have I:Hid (∀wr:World,wr.heap[w.heap.size]? =some (.cells (a64 f) 246)->wr.rangeAt w.heap.size 0 (a64 f).toList):=λwr aF=>zFN wr w.heap.size f aF;have x:Hid ((w.alloc (.cells (a64 f) 246)).heap[w.heap.size]? =some (.cells (a64 f) 246)):=gZ _ _;have J:=zPv (w.alloc (.cells (a64 f) 246)) f;have z:Hid (Grew w (w.alloc (.cells (a64 f) 246))):=kZ _ _ lQ;have T:Hid (MwIs w0 (w.alloc (.cells (a64 f) 246)) mb kb most m):=a.grown z;have aG:Hid (∀(wr:World) v row,Ints wr (In wr) v row->row.length=256->Ca 186 #[v,agg (a64 f)] wr λe w'=>e=returned (bool (vD row f))/\Grew wr w'):=λwr v row aH S=>zHc wr v row aH S f;have aI:Hid (∀w i,i<64->Sem.run prog (Instr.index 246 (agg (a64 f)) (iX ((i:Nat):Int))) w=.ok (iX (f i)) w):=λw i=>zMi w f i;have aJ:Hid (∀i,i<64->(a64 f)[i]? =some (iX (f i))):=zAx f;have aK:Hid (∀j,j<m.next.length->vD (m.next.getD j []) f=true->(∀i,i<j->vD (m.next.getD i []) f=false)->m.seek f=j):=λj ak a aL=>zO0 m.next f j ak a aL
 have aM:Hid ((∀i,i<m.next.length->vD (m.next.getD i []) f=false)->m.seek f=m.next.length):=λa=>zMM m.next f a
 have U:Hid (m.withN most f=if nz f=true then 0 else if m.seek f<m.next.length then m.seek f else m.addN most):=rfl;have V:Hid (m.withM most f=if nz f=true then m else if m.seek f<m.next.length then m else if m.addN most=0 then m.add most (-1) else(m.add most (-1)).fillTo (m.addN most) f 64):=rfl;clear a;generalize a64 f=b at *;obtain⟨w1,B⟩:∃w1,w1=w.alloc (.cells b 246):=⟨_,rfl⟩
 rw[<-B] at x J z T;cases c:nz f with
 |true=>
  rw[c] at J;have C:Hid (m.withN most f=0/\m.withM most f=m):=⟨by rw[U.out,if_pos c],by rw[V.out,if_pos c]⟩
  clear c;have W:Hid (w1.rangeAt w.heap.size 0 b.toList):=I w1 x;go_in;apply wp_cut;intro aN D;go_wp2;apply D.out;clear D;rw[<-B];clear B;go_wp2_with (refine wpList_load_mid rfl 246 (.tmp 3) rfl w.heap.size 0 rfl b.toList (.array 64 3) W underlying246 rfl u ?_)
  go_ret;exact⟨by rw[C.out.1];rfl,by rw[C.out.2];exact T,z.stayT⟩
 |false=>
  rw[c] at J;have X:Hid (m.withN most f=if m.seek f<m.next.length then m.seek f else m.addN most):=by show _=_;rw[U.out,if_neg (by rw[c];decide)]
  have Y:Hid (m.withM most f=if m.seek f<m.next.length then m else if m.addN most=0 then m.add most (-1) else(m.add most (-1)).fillTo (m.addN most) f 64):=by show _=_;rw[V.out,if_neg (by rw[c];decide)]
  clear c U V;have W:Hid (w1.rangeAt w.heap.size 0 b.toList):=I w1 x;have ⟨nv,rv,ov,gs,aa⟩:=T.out;have ⟨aO,aY,aZ,aP,al⟩:=aa.rows;have E:Hid (Mw w0 w1 mb kb most m nv rv ov gs):=aa;have am:Hid (∀i,i<m.next.length->∃g,aO=some ⟨g,0,none⟩/\g<w1.heap.size/\cX w1 g i=some (slice (some ⟨gs i,0,none⟩) 256 256)):=al;clear aa al;go_in;apply wp_cut;intro aN D;go_wp2;apply D.out;clear D;rw[<-B];clear B;go_wp2_with (refine wpList_load_mid rfl 246 (.tmp 3) rfl w.heap.size 0 rfl b.toList (.array 64 3) W underlying246 rfl u ?_)
  clear J;go_loopg [19] m.next.length (λk i wr=>∃j:Nat,k=m.next.length-j/\j<=m.next.length/\i=iX (j:Int)/\(∀i,i<j->vD (m.next.getD i []) f=false)/\Grew w1 wr)
  case atStart=>exact⟨0,rfl,lX,rfl,λi ao=>by omega,⟨rfl,rfl,lQ,λ_ _ _=>rfl⟩⟩
  case round=>
   obtain⟨j,l,ak,rfl,K,d⟩:=hrel;have F:Hid (gk=m.next.length-j/\(∀i,i<j->vD (m.next.getD i []) f=false)/\Grew w1 wr):=⟨l,K,d⟩
   have ap:w.heap.size<w1.heap.size:=(kQ.1 x).1;have aq:Hid (wr.heap[w.heap.size]? =some (.cells b 246)):=(d.block _ ap (kJ ap)).trans x;have ar:Hid (wr.rangeAt w.heap.size 0 b.toList):=I wr aq;by_cases p:j<m.next.length
   ·have aQ:(j:Int)<(m.next.length:Int):=by omega
    obtain⟨g,rfl,aR,au⟩:=am j p;have a0:=zA au aR d;have M:Hid (Ca 186 #[slice (some ⟨gs j,0,none⟩) 256 256,agg b] wr λe w'=>e=returned (bool (vD (m.next.getD j []) f))/\Grew wr w'):=aG wr _ _ ((E.grown d).rowInts j p) (E.each j p).2.2;have aS:Hid (vD (m.next.getD j []) f=true->m.seek f=j):=λa=>aK j p a F.2.1;have G:Hid (vD (m.next.getD j []) f=false->∀i,i<j+1->vD (m.next.getD i []) f=false):=λa i ao=>by
     by_cases e:i=j
     ·rw[e];exact a
     ·exact F.2.1 i (by omega)
    clear l K d au;cases q:vD (m.next.getD j []) f with
    |true=>
     rw[q] at M;have ab:=aS q;have C:Hid (m.withN most f=j/\m.withM most f=m):=⟨by rw[X.out,ab,if_pos p],by rw[Y.out,ab,if_pos p]⟩
     clear q ab;go_wp2_with (first|(refine wpList_load_mid rfl 246 (.tmp 3) rfl w.heap.size 0 rfl b.toList (.array 64 3) ar underlying246 rfl u ?_)|(go_at_call 186;refine M.mono ?_;rintro e o ⟨rfl,ac⟩))
     go_ret;have av:=F.2.2.th ac;exact⟨by rw[C.out.1];rfl,by rw[C.out.2];exact⟨_,_,_,_,E.grown av⟩,StayT.trans z.stayT av.stayT⟩
    |false=>
     rw[q] at M;have aT:Hid (∀i,i<j+1->vD (m.next.getD i []) f=false):=G q;clear q;go_wp2_with (first|(refine wpList_load_mid rfl 246 (.tmp 3) rfl w.heap.size 0 rfl b.toList (.array 64 3) ar underlying246 rfl u ?_)|(go_at_call 186;refine M.mono ?_;rintro e o ⟨rfl,ac⟩))
     go_roundg (m.next.length-(j+1))
     case measure=>rw[F.out.1];omega
     case rel=>exact⟨j+1,rfl,by omega,by go_num,aT,F.2.2.th ac⟩
   ·have aQ:(m.next.length:Int)<=(j:Int):=by omega
    have ad:m.seek f=m.next.length:=aM λi ao=>K i (by omega)
    have G:Hid (m.withN most f=m.addN most):=by show _=_;rw[X.out,ad,if_neg (Nat.lt_irrefl _)]
    have N:Hid (m.withM most f=if m.addN most=0 then m.add most (-1) else(m.add most (-1)).fillTo (m.addN most) f 64):=by show _=_;rw[Y.out,ad,if_neg (Nat.lt_irrefl _)]
    have ae:Hid (Ca 133 #[pX mb,iX (-1)] wr λe w'=>e=returned (iX ((m.addN most:Nat):Int))/\MwIs w0 w' mb kb most (m.add most (-1))/\StayT wr w'):=zFy w0 wr mb kb most m ⟨_,_,_,_,E.grown d⟩ aE S (-1);have aw:Hid (StayT w wr):=StayT.trans z.stayT d.stayT;have af:Hid (m.addN most≠0->m.addN most<(m.add most (-1)).next.length):=λa=>by
     unfold Mk.addN at a ⊢;unfold Mk.add;by_cases e:most<=m.next.length
     ·rw[if_pos e] at a;exact absurd rfl a
     ·rw[if_neg e,if_neg e];show _<(m.next++[zeros]).length;simp
    clear l K d ad X Y E am aP;by_cases r:m.addN most=0
    ·rw[r] at ae G
     have ag:Hid (m.withM most f=m.add most (-1)):=by show _=_;rw[N.out,if_pos r]
     clear N af r;go_wp2_with (go_at_call 133;refine ae.mono ?_;rintro e o ⟨rfl,O,H⟩)
     go_ret;exact⟨by rw[G.out];rfl,by rw[ag.out];exact O,aw.trans H⟩
    ·have a1:=af r
     have ag:Hid (m.withM most f=(m.add most (-1)).fillTo (m.addN most) f 64):=by show _=_;rw[N.out,if_neg r]
     have a2:(((m.addN most:Nat):Int)==0)=false:=by rw[hX];omega
     clear N af r;generalize m.add most (-1)=m2 at *;generalize m.addN most=s at *;go_wp2_with (first|(go_at_call 133;refine ae.mono ?_;rintro e o ⟨rfl,O,H⟩;have ax:o.heap[w.heap.size]? =some (.cells b 246):=H _ _ _ aq (by decide) (by decide) (by decide);have ay:=I o ax)|(refine wpList_load_mid rfl 246 (.tmp 3) rfl w.heap.size 0 rfl b.toList (.array 64 3) ay underlying246 rfl u ?_))
     have az:Hid (MwIs w0 o mb kb most m2/\StayT w o):=⟨O,aw.trans H⟩
     clear O H ax ay;go_loopg [34] 64 (λk i wr=>∃j:Nat,k=64-j/\j<=64/\i=iX (j:Int)/\MwIs w0 wr mb kb most (m2.fillTo s f j)/\StayT w wr)
     case atStart=>exact⟨0,rfl,lX,rfl,az.1,az.2⟩
     case round=>
      obtain⟨t,l,a3,rfl,ah,P⟩:=hrel;have ai:Hid (gk=64-t/\MwIs w0 wr mb kb most (m2.fillTo s f t)/\StayT w wr):=⟨l,ah,P⟩
      by_cases aA:t<64
      ·have aU:(t:Int)<64:=by omega
       have a4:(128:Int)+(t:Int)<256:=by omega
       obtain⟨a5,a6,a7,aB,R⟩:=ah;have aV:=zCi m2 s f t;have ⟨a8,a9,aW,ba,aC⟩:=R.rows;obtain⟨bb,rfl,_,bc⟩:=aC s (by omega);have ⟨bd,be⟩:=R.row s (128+t) (by omega) (by omega);have aj:=R.put s (128+t) (by omega) (f t);have aD:Hid (MwIs w0 (wr.setCell ⟨aB s,128+t,none⟩ (iX (f t))) mb kb most (m2.fillTo s f (t+1))/\StayT w (wr.setCell ⟨aB s,128+t,none⟩ (iX (f t)))):=⟨⟨_,_,_,_,aj.1⟩,P.trans aj.2⟩
       have bf:=aI wr t aA;have bg:=aJ t aA;have bh:(s:Int)<((m2.fillTo s f t).next.length:Int):=by omega
       clear l P R aj aW aC aV;generalize (m2.fillTo s f t).next.length=bi at *
       generalize ((m2.fillTo s f t).next.getD s []).getD (128+t) 0=old at *;generalize f t=y at *;go_wp2;go_roundg (64-(t+1))
       case measure=>rw[ai.out.1];omega
       case rel=>exact⟨t+1,rfl,by omega,by go_num,aD.1,aD.2⟩
      ·have aU:(64:Int)<=(t:Int):=by omega
       have e:t=64:=by omega
       subst e;clear l ah P;go_wp2;go_ret;exact⟨by rw[G.out];rfl,by rw[ag.out];exact ai.2.1,ai.2.2⟩
end
section
structure Mk.Fit (m:Mk)(most:Nat):Prop where
 same:m.rules.length=m.next.length
 few:m.next.length<=most
theorem zFR {m:Mk}{most:Nat}(a:m.Fit most)(r:Int):(m.add most r).Fit most:=by
 unfold Mk.add;by_cases e:most<=m.next.length
 ·rw[if_pos e];exact⟨a.same,a.few⟩
 ·rw[if_neg e]
  have:=a.same;exact⟨by simp[this],by simp;omega⟩
theorem zL8 {m:Mk}{most:Nat}(a:m.Fit most)(s b:Nat)(x:Int):(m.put s b x).Fit most:=⟨by rw[zEe];exact a.same,by rw[zEe];exact a.few⟩
theorem zLA {m:Mk}{most:Nat}(a:m.Fit most)(s:Nat)(f:Nat->Int)(j:Nat):(m.fillTo s f j).Fit most:=by
 induction j with
 |zero=>exact a
 |succ j c=>exact zL8 c _ _ _
theorem zFV {m:Mk}{most:Nat}(a:m.Fit most)(f:Nat->Int):(m.withM most f).Fit most:=by
 unfold Mk.withM;split
 ·exact a
 ·split
  ·exact a
  ·split
   ·exact zFR a _
   ·exact zLA (zFR a _) _ _ _
theorem zNd (m:Mk)(s:Nat)(f:Nat->Int)(j:Nat):(m.fillTo s f j).of=m.of:=by
 induction j with
 |zero=>rfl
 |succ j a=>exact a
theorem zDV (m:Mk)(most:Nat)(r:Int):(m.add most r).of=m.of:=by unfold Mk.add;split <;> rfl
theorem zLY (m:Mk)(most:Nat)(f:Nat->Int):(m.withM most f).of=m.of:=by
 unfold Mk.withM;split
 ·rfl
 ·split
  ·rfl
  ·split
   ·exact zDV _ _ _
   ·rw[zNd,zDV]
structure Bx (w0 w wr:World)(mb kb most:Nat)(m:Mk)(b:Nat)(g:Nat->Int):Prop where
 ma:MwIs w0 wr mb kb most m
 arr:wr.heap[b]? =some (.cells (a64 g) 246)
 stay:StayT w wr
 new:w.heap.size<=b
 old:w0.heap.size<=w.heap.size
theorem zPD (g:Nat->Int)(i:Nat)(x:Int)(a:i<64):(a64 g).setIfInBounds i (iX x)=a64 (λj=>if j=i then x else g j):=by
 apply Array.ext_getElem?;intro j;rw[Array.getElem?_setIfInBounds];by_cases c:j<64
 ·by_cases e:i=j
  ·subst e
   rw[if_pos rfl,zB1,if_pos a,zAx _ i a,if_pos rfl]
  ·rw[if_neg e,zAx _ j c,zAx _ j c,if_neg (Ne.symm e)]
 ·rw[if_neg (by omega),Array.getElem?_eq_none (by rw[zB1];omega),Array.getElem?_eq_none (by rw[zB1];omega)]
theorem zNC {g c:Nat->Int}(d:∀i,i<64->g i=c i):a64 g=a64 c:=by
 apply Array.ext_getElem?;intro j;by_cases a:j<64
 ·rw[zAx _ j a,zAx _ j a,d j a]
 ·rw[Array.getElem?_eq_none (by rw[zB1];omega),Array.getElem?_eq_none (by rw[zB1];omega)]
section
variable {w0 w wr w2:World} {mb kb most:Nat} {m:Mk} {b:Nat} {g:Nat->Int}
theorem Mw.setBox {p rv q:Value}{o:Nat->Nat}{i:Nat}{x:Value}{c:Array Value}(a:Mw w0 wr mb kb most m p rv q o)(j:wr.heap[b]? =some (.cells c 246))(r:w0.heap.size<=b):Mw w0 (wr.setCell ⟨b,i,none⟩ x) mb kb most m p rv q o:=by
 have e:∀k,k≠b->(wr.setCell ⟨b,i,none⟩ x).heap[k]? =wr.heap[k]? :=λk f=>lJ _ _ _ _ f;have s:mb≠b:=λd=>by
  have:=a.blk;rw[d,j] at this;simp at this
 have t:∀i,i<m.next.length->o i≠b:=λi l d=>by
  have:=(a.each i l).1;rw[d,j] at this;simp at this
 have u:=zO a.nOwn j (by decide);have v:=zO a.rOwn j (by decide);have y:=zO a.oOwn j (by decide);exact⟨(e mb s).trans a.blk,zD a.nOwn λk _ _ f=>e k λd=>u (by rw[f,d]),λi l=>⟨(e _ (t i l)).trans (a.each i l).1,(a.each i l).2⟩,zD a.rOwn λk _ _ f=>e k λd=>v (by rw[f,d]),zD a.oOwn λk _ _ f=>e k λd=>y (by rw[f,d]),a.inj,a.nr,a.no,a.ro,a.mH,a.keep.trans (zP _ _ _ _ r)⟩
theorem Bx.set (a:Bx w0 w wr mb kb most m b g)(i:Nat)(e:i<64)(x:Int):Bx w0 w (wr.setCell ⟨b,i,none⟩ (iX x)) mb kb most m b (λj=>if j=i then x else g j):=by
 have ⟨f,rv,l,o,p⟩:=a.ma;have q:=lY a.old a.new;refine⟨⟨f,rv,l,o,p.setBox a.arr q⟩,?_,λk c t d r s u=>?_,a.new,a.old⟩
 ·rw[<-zPD g i x e]
  simp[setCell,lU,a.arr]
 ·have v:=(kQ.1 d).1
  have y:=a.new;exact(lJ _ _ _ _ (by show k≠b;omega)).trans (a.stay k c t d r s u)
theorem Bx.call {c:Mk}(a:Bx w0 w wr mb kb most m b g)(e:MwIs w0 w2 mb kb most c)(d:StayT wr w2):Bx w0 w w2 mb kb most c b g:=⟨e,d b _ _ a.arr (by decide) (by decide) (by decide),a.stay.trans d,a.new,a.old⟩
theorem Bx.congr {c:Nat->Int}(a:Bx w0 w wr mb kb most m b g)(e:∀i,i<64->g i=c i):Bx w0 w wr mb kb most m b c:=⟨a.ma,by rw[<-zNC e];exact a.arr,a.stay,a.new,a.old⟩
theorem Bx.cell (a:Bx w0 w wr mb kb most m b g)(i:Nat)(c:i<64):wr.cell? ⟨b,i,none⟩=some (iX (g i))/\wr.frozen? ⟨b,i,none⟩=false:=by
 constructor
 ·unfold cell?;rw[a.arr];exact zAx g i c
 ·unfold frozen?;rw[a.arr];simp
theorem Bx.start {m0:Mk}(a:MwIs w0 w mb kb most m0)(wr:World)(d:StayT w wr)(e:MwIs w0 wr mb kb most m)(f:w.heap.size<=wr.heap.size):Bx w0 w (wr.alloc (.cells (a64 λ_=>0) 246)) mb kb most m wr.heap.size (λ_=>0):=by
 have c:=kZ (b:=wr.heap.size) wr (.cells (a64 λ_=>0) 246) lQ;obtain⟨_,_,_,_,a⟩:=a;exact⟨e.grown c,gZ _ _,d.trans c.stayT,f,a.keep.size⟩
end
end
def jB:Nat->Nat
 |0=>0
 |1=>1
 |2=>64
 |_=>4096
def Mk.even (most:Nat):Nat->Mk->Int->Int×Mk
 |0,m,to=>(to,m)
 |c+1,m,to=>Mk.even most c (m.withM most λ_=>to) (m.withN most λ_=>to)
theorem zLE (f w:World)(d kb most:Nat)(m:Mk)(y:MwIs f w d kb most m)(F:most<=1000000)(fit:m.Fit most)(to:Int)(c:Nat)(G:c<=3):
  Calls prog 178 #[pX d,iX to,iX (jB c:Int)] w λe w'=>e=returned (iX (Mk.even most c m to).1)/\MwIs f w' d kb most (Mk.even most c m to).2/\StayT w w':=by
 have H:=vl y;have o:=vl fit;go_in;go_wp2;go_loopg [1,2] c (λk t s wr=>∃(n:Nat) (m2:Mk) (a:Int),k=n/\n<=3/\t=iX a/\s=iX (jB n:Int)/\MwIs f wr d kb most m2/\m2.Fit most/\StayT w wr/\w.heap.size<=wr.heap.size/\Mk.even most c m to=Mk.even most n m2 a)
 case atStart=>exact⟨c,m,to,rfl,G,rfl,rfl,y,fit,StayT.refl _,lQ,rfl⟩
 case round=>
  obtain⟨n,m2,a,l,W,rfl,rfl,r,x,u,I,v⟩:=hrel;cases n with
  |zero=>
   have g:Hid (MwIs f wr d kb most m2/\StayT w wr/\Mk.even most c m to=(a,m2)):=⟨r,u,v⟩
   clear r x u v l;have z:jB 0=0:=rfl;rw[z];go_wp2;go_ret;exact⟨by rw[g.out.2.2];rfl,by rw[g.out.2.2];exact g.1,g.2.1⟩
  |succ n=>
   have z:0<jB (n+1):=by
    rcases n with _|_|_|n
    all_goals (simp [jB])
   have X:jB (n+1)/64=jB n:=by
    rcases n with _|_|_|n
    all_goals first|rfl|omega
   have Y:(jB (n+1):Int)>0:=by omega
   have aa:jB (n+1)<=4096:=by
    rcases n with _|_|_|n
    all_goals (simp [jB])
   have ab:Hid (wrap64 ((jB (n+1):Int)/64)=(jB n:Int)):=by
    show _=_;rw[w64 _ (by omega) (by omega)];omega
   have g:Hid (gk=n+1/\MwIs f wr d kb most m2/\m2.Fit most/\StayT w wr/\w.heap.size<=wr.heap.size/\Mk.even most c m to=Mk.even most (n+1) m2 a):=⟨l,r,x,u,I,v⟩
   clear r x u v l;go_wp2;rw[<-zHU];have J:=vl <| Bx.start H wr g.2.2.2.1 g.2.1 g.2.2.2.2.1;generalize wr.alloc (.cells (a64 λ_=>0) 246)=ac at *;generalize wr.heap.size=b at *;go_loopg [13] 64 (λk i wr=>∃j:Nat,k=64-j/\j<=64/\i=iX (j:Int)/\Bx f w wr d kb most m2 b (λt=>if t<j then a else 0))
   case atStart=>exact⟨0,rfl,lX,rfl,J.congr λi _=>by simp⟩
   case round=>
    obtain⟨j,l,ad,rfl,p⟩:=hrel;have K:Hid (gk=64-j/\Bx f w wr d kb most m2 b (λt=>if t<j then a else 0)):=⟨l,p⟩
    by_cases B:j<64
    ·have L:(j:Int)<64:=by omega
     have ⟨ae,af⟩:=p.cell j B;have q:Hid (Bx f w (wr.setCell ⟨b,j,none⟩ (iX a)) d kb most m2 b (λt=>if t<j+1 then a else 0)):=(p.set j B a).congr λi _=>by
      by_cases e:i=j
      ·subst e;rw[if_pos rfl,if_pos (by omega)]
      ·rw[if_neg e]
       by_cases C:i<j
       ·rw[if_pos C,if_pos (by omega)]
       ·rw[if_neg C,if_neg (by omega)]
     clear l p;generalize (if j<j then a else 0)=old at *;go_wp2;go_roundg (64-(j+1))
     case measure=>rw[K.out.1];omega
     case rel=>exact⟨j+1,rfl,by omega,by go_num,q⟩
    ·have L:(64:Int)<=(j:Int):=by omega
     have q:Hid (Bx f w wr d kb most m2 b (λ_=>a)):=p.congr λi ag=>by rw[if_pos (by omega)]
     have M:Hid (wr.rangeAt b 0 (a64 λ_=>a).toList):=zFN wr b _ q.arr;have N:Hid ((prog.info? 246).map (·.size)=some (a64 λ_=>a).toList.length):=zMf _;have o:=g.2.2.1;have O:Hid (Ca 179 #[pX d,agg (a64 λ_=>a)] wr λe w'=>e=returned (iX ((m2.withN most (λ_=>a):Nat):Int))/\MwIs f w' d kb most (m2.withM most λ_=>a)/\StayT wr w'):=zFW f wr d kb most m2 q.ma F (by have:=o.same;have:=o.few;omega) (by have:=o.few;omega) _;have P:Hid (Mk.even most c m to=Mk.even most n (m2.withM most λ_=>a) ((m2.withN most λ_=>a:Nat):Int)):=g.2.2.2.2.2;have R:Hid ((m2.withM most λ_=>a).Fit most):=zFV o _;have ah:=q.new;clear l p o;generalize (a64 λ_=>a)=S at *;generalize (m2.withM most λ_=>a)=T at *;generalize (m2.withN most λ_=>a)=U at *;go_wp2_with (first|(refine wpList_load_mid rfl 246 (.tmp 7) rfl b 0 rfl S.toList (.array 64 3) M underlying246 rfl N ?_)|(go_at_call 179;refine O.mono ?_;rintro e ai ⟨rfl,D,V⟩))
     go_roundg n
     case measure=>rw[g.out.1];omega
     case rel=>
      have E:=q.call D V;have aj:=(kQ.1 E.arr).1;exact⟨n,T,(U:Int),rfl,by omega,rfl,by congr 1;omega,D,R,E.stay,by omega,P⟩
def zIA (step:Nat):Nat:=if step=64 then 2048 else if step=4096 then 65536 else 0
def qU (sub:Mk->Nat->Int×Mk)(step low:Nat)(m:Mk):Nat->(Nat->Int)×Mk
 |0=>(λ_=>0,m)
 |j+1=>if low+j*step<zIA step then(λi=>if i=j then 0 else(qU sub step low m j).1 i,(qU sub step low m j).2) else(λi=>if i=j then(sub (qU sub step low m j).2 (low+j*step)).1 else(qU sub step low m j).1 i,(sub (qU sub step low m j).2 (low+j*step)).2)
def zFT (most:Nat)(p:(Nat->Int)×Mk):Int×Mk:=(((p.2.withN most p.1:Nat):Int),p.2.withM most p.1)
def zA4 (k:Kd)(a:Ar)(most kind cnt step:Nat)(sub:Mk->Nat->Int×Mk)(m:Mk)(low:Nat):Int×Mk:=
 if zIA step<=low/\a.alike (low:Int) ((low+64*step-1:Nat):Int)=true then Mk.even most cnt m (m.behind k a kind (low:Int)) else zFT most (qU sub step low m 64)
def qC (k:Kd)(a:Ar)(most kind:Nat):Nat->Mk->Nat->Int×Mk
 |0,m,low=>zA4 k a most kind 1 1 (λm c=>(m.behind k a kind (c:Int),m)) m low
 |l+1,m,low=>zA4 k a most kind (l+2) (jB (l+2)) (qC k a most kind l) m low
def Tame (most:Nat)(sub:Mk->Nat->Int×Mk):Prop:=∀m c,m.Fit most->(sub m c).2.Fit most/\(sub m c).2.of=m.of
theorem zNg (most:Nat)(c:Nat):∀(m:Mk) (to:Int),m.Fit most->(Mk.even most c m to).2.Fit most/\(Mk.even most c m to).2.of=m.of:=by
 induction c with
 |zero=>exact λm to a=>⟨a,rfl⟩
 |succ c b=>
  intro m to a;have:=b (m.withM most λ_=>to) ((m.withN most λ_=>to:Nat):Int) (zFV a _);exact⟨this.1,this.2.trans (zLY _ _ _)⟩
theorem zJr {most:Nat}{a:Mk->Nat->Int×Mk}(c:Tame most a)(step low:Nat){m:Mk}(d:m.Fit most)(j:Nat):(qU a step low m j).2.Fit most/\(qU a step low m j).2.of=m.of:=by
 induction j with
 |zero=>exact⟨d,rfl⟩
 |succ j b=>
  unfold qU;split
  ·exact b
  ·have:=c (qU a step low m j).2 (low+j*step) b.1
   exact⟨this.1,this.2.trans b.2⟩
theorem zEo (k:Kd)(a:Ar){most:Nat}(kind cnt step:Nat){b:Mk->Nat->Int×Mk}(d:Tame most b):Tame most (zA4 k a most kind cnt step b):=by
 intro m low c;unfold zA4;split
 ·exact zNg most cnt m _ c
 ·have:=zJr d step low c 64
  exact⟨zFV this.1 _,(zLY _ _ _).trans this.2⟩
theorem zAP (k:Kd)(a:Ar)(most kind l:Nat):Tame most (qC k a most kind l):=by
 induction l with
 |zero=>exact zEo k a kind 1 1 λm c b=>⟨b,rfl⟩
 |succ l d=>exact zEo k a kind (l+2) (jB (l+2)) d
section
variable (b w:World) (d kb most:Nat) (m:Mk) (l:MwIs b w d kb most m)
theorem zBH (r w:World)(o kb most:Nat)(m:Mk)(s:MwIs r w o kb most m)(am:most<=1000000)(fit:m.Fit most)(k:Kd)(a:Ar)(ab:KdAt r kb a k)(ok:k.Ok a)(kind:Nat)(an:kind<k.rows.length)(ac:m.of.length=k.rows.length)(low:Nat)(a3:low<=1410000)(l d cnt s2:Nat)(R:d=1\/d=64\/d=4096)(aB:cnt<=3)(ao:jB cnt=d)(aC:d/64=s2)(f:Mk->Nat->Int×Mk)(ap:qC k a most kind l m low=zA4 k a most kind cnt d f m low)(aq:Tame most f)
  (ar:(d=1/\∀wr m2,MwIs r wr o kb most m2->m2.Fit most->m2.of.length=k.rows.length->∀c:Nat,c<=low+64*d->Calls prog 134 #[pX o,iX (kind:Int),iX (c:Int)] wr λe w'=>e=returned (iX (f m2 c).1)/\MwIs r w' o kb most (f m2 c).2/\StayT wr w')\/(d≠1/\∀wr m2,MwIs r wr o kb most m2->m2.Fit most->m2.of.length=k.rows.length->∀c:Nat,c<=low+64*d->Calls prog 136 #[pX o,iX (kind:Int),iX (c:Int),iX (s2:Int)] wr λe w'=>e=returned (iX (f m2 c).1)/\MwIs r w' o kb most (f m2 c).2/\StayT wr w')):
  Calls prog 136 #[pX o,iX (kind:Int),iX (low:Int),iX (d:Int)] w λe w'=>e=returned (iX (qC k a most kind l m low).1)/\MwIs r w' o kb most (qC k a most kind l m low).2/\StayT w w':=by
 have G:=vl s;obtain⟨a4,rv,a5,a6,ad⟩:=s;obtain⟨a7,lv,tv,sv,a8,a9,S,I,-,-⟩:=ab.grown ad.keep;obtain⟨ba,bb,aD,-⟩:=id I.lows;obtain⟨at_,bc,aE,-⟩:=id I.letters;obtain⟨as_,cs,has,-⟩:=id I.sets;obtain⟨t,ae⟩:∃t,t=a.alike (low:Int) ((low+64*d-1:Nat):Int):=⟨_,rfl⟩
 have af:Hid (∀y:Int,y=((low+64*d-1:Nat):Int)->Ca 177 #[agg #[lv,tv,sv],iX (low:Int),iX y] w λe w'=>e=returned (bool t)/\Grew w w'):=by
  rintro y rfl;rw[ae];exact zKy w lv tv sv a I ok.few _ _
 have aF:=ad.cells.1;have aG:w.cell? ⟨kb,0,none⟩=some lv:=by unfold cell?;rw[S];rfl
 have aH:w.cell? ⟨kb,1,none⟩=some tv:=by unfold cell?;rw[S];rfl
 have aI:w.cell? ⟨kb,2,none⟩=some sv:=by unfold cell?;rw[S];rfl
 subst aD aE has;obtain⟨p,J⟩:∃p,p=zIA d:=⟨_,rfl⟩
 have K:Hid (∀w,Ca 176 #[iX (d:Int)] w λe w'=>e=returned (iX (p:Int))/\w'=w):=λw=>by
  have:=zJ5 w d R;rw[show (if d=64 then 2048 else if d=4096 then 65536 else 0:Int)=(p:Int) by rw[J];rcases R with rfl|rfl|rfl <;> rfl] at this;exact this
 have au:Hid (∀w2,Grew w w2->Ca 134 #[pX o,iX (kind:Int),iX (low:Int)] w2 λe w'=>e=returned (iX (m.behind k a kind (low:Int)))/\Grew w2 w'):=λw2 H=>zC2 r w2 o kb most m (G.grown H) k a ab ok kind an ac (low:Int);have av:Hid (∀w2 to,Grew w w2->Ca 178 #[pX o,iX to,iX (d:Int)] w2 λe w'=>e=returned (iX (Mk.even most cnt m to).1)/\MwIs r w' o kb most (Mk.even most cnt m to).2/\StayT w2 w'):=λw2 to H=>by rw[<-ao];exact zLE r w2 o kb most m (G.grown H) am fit to cnt aB
 have L:=vl ar;have aJ:=vl (And.intro fit ac);have aK:Hid (qU f d low m 0=(λ_=>0,m)):=rfl;have aL:Hid (∀j,qU f d low m (j+1)=if low+j*d<p then(λi=>if i=j then 0 else(qU f d low m j).1 i,(qU f d low m j).2) else(λi=>if i=j then(f (qU f d low m j).2 (low+j*d)).1 else(qU f d low m j).1 i,(f (qU f d low m j).2 (low+j*d)).2)):=λj=>by rw[J];rfl
 have aM:Hid (∀j,(qU f d low m j).2.Fit most/\(qU f d low m j).2.of=m.of):=λj=>zJr aq d low fit j;have D:(p<=low/\t=true)\/¬(p<=low/\t=true):=Decidable.em _;have U:Hid (((p<=low/\t=true)->qC k a most kind l m low=Mk.even most cnt m (m.behind k a kind (low:Int)))/\(¬(p<=low/\t=true)->qC k a most kind l m low=zFT most (qU f d low m 64))):=by
  rw[ap,J,ae];exact⟨λs=>if_pos s,λs=>if_neg s⟩
 have bd:p<=65536:=by rw[J];rcases R with rfl|rfl|rfl <;> decide
 have be:1<=d/\d<=4096:=by omega
 have bf:(d:Int)/64=(s2:Int):=by omega
 clear ad S I ab ok an ac fit ap aq ar J ae ao aC R;generalize a.lows.length=bg at *;generalize a.letters.length=bi at *;generalize a.sets.length=q2 at *;generalize qU f d low m=g at *;rcases D with D|D
 ·have M:=vl (U.1 D)
  obtain⟨aN,rfl⟩:=D;have ag:(low:Int)>=(p:Int):=by omega
  clear U L aN;generalize m.behind k a kind (low:Int)=aO at *;generalize qC k a most kind l m low=aP at *;go_in;go_wp2_with (first|(go_at_call 176;refine(K _).mono ?_;rintro e V ⟨rfl,u⟩;have v:=u.symm;subst v)|(go_at_call 177;refine(af _ (by omega)).mono ?_;rintro e w2 ⟨rfl,H⟩)|(go_at_call 134;refine(au w2 H).mono ?_;rintro e ah ⟨rfl,aQ⟩;have aw:=H.th aQ)|(go_at_call 178;refine(av ah aO aw).mono ?_;rintro e ai ⟨rfl,z,B⟩))
  go_ret;exact⟨by rw[M.out];rfl,by rw[M.out];exact z,StayT.trans aw.stayT B⟩
 have M:=vl (U.2 D);clear U av au;generalize qC k a most kind l m low=aP at *;have aR:(low:Int)<(p:Int)\/(low:Int)>=(p:Int)/\t=false:=by
  rcases Nat.lt_or_ge low p with s|s
  ·exact .inl (by omega)
  ·refine .inr ⟨by omega,?_⟩
   cases t with
   |false=>rfl
   |true=>exact absurd ⟨s,rfl⟩ D
 clear D;go_in;rcases aR with ag|⟨ag,rfl⟩;go_wp2_with (go_at_call 176;refine(K _).mono ?_;rintro e V ⟨rfl,u⟩;have v:=u.symm;subst v)
 rw[<-zHU];have ax:=vl (Bx.start G w (Keep.refl w.heap.size w.heap.size w).stayT G lQ);generalize w.alloc (.cells (a64 λ_=>0) 246)=ah at *;generalize w.heap.size=b at *;rotate_left;go_wp2_with (first|(go_at_call 176;refine(K _).mono ?_;rintro e V ⟨rfl,u⟩;have v:=u.symm;subst v)|(go_at_call 177;refine(af _ (by omega)).mono ?_;rintro e w2 ⟨rfl,W⟩))
 rw[<-zHU];have ax:=vl (Bx.start G w2 W.stayT (G.grown W) W.size);clear W;generalize w2.alloc (.cells (a64 λ_=>0) 246)=ah at *;generalize w2.heap.size=b at *
 all_goals
  clear af aG aH aI aF ag;go_loopg [39] 64 (λq i wr=>∃j:Nat,q=64-j/\j<=64/\i=iX (j:Int)/\Bx r w wr o kb most (g j).2 b (g j).1)
  case atStart=>exact⟨0,rfl,lX,rfl,by rw[aK.out];exact ax⟩
  case round=>
   obtain⟨j,X,bj,rfl,C⟩:=hrel;have N:=vl (And.intro X C);have E:=aM j;by_cases O:j<64
   ·have aS:(j:Int)<64:=by omega
    have ⟨bk,bl⟩:=C.cell j O;obtain⟨x,Y⟩:∃x,x=j*d:=⟨_,rfl⟩
    have bm:(j:Int)*(d:Int)=(x:Int):=by rw[Y];exact(Int.natCast_mul j d).symm
    have bn:x<=64*d:=by rw[Y];exact Nat.mul_le_mul_right d (by omega)
    have P:=vl (aL j);rw[<-Y] at P;clear Y;by_cases aa:low+x<p
    ·have aT:Hid (Bx r w (wr.setCell ⟨b,j,none⟩ zX) o kb most (g (j+1)).2 b (g (j+1)).1):=by
      have s:=C.set j O 0;show Bx _ _ _ _ _ _ (g (j+1)).2 _ (g (j+1)).1;rw[P.out,if_pos aa];exact s
     have aU:(low:Int)+(x:Int)<(p:Int):=by omega
     clear X C aa P E L;generalize (g j).1 j=old at *;go_wp2_with (go_at_call 176;refine(K _).mono ?_;rintro e V ⟨rfl,u⟩;have v:=u.symm;subst v)
     go_roundg (64-(j+1))
     case measure=>rw[N.out.1];omega
     case rel=>exact⟨j+1,rfl,by omega,by go_num,aT⟩
    ·have aV:Hid (g (j+1)=(λi=>if i=j then(f (g j).2 (low+x)).1 else(g j).1 i,(f (g j).2 (low+x)).2)):=by show _=_;rw[P.out,if_neg aa]
     have aU:(p:Int)<=(low:Int)+(x:Int):=by omega
     have bo:(0:Int)<=(low:Int)+(x:Int):=by omega
     rcases L.out with⟨ay,aj⟩|⟨ay,aj⟩;have aW:((d:Int)==1)=true:=by rw[beq_iff_eq];omega
     rotate_left;have aW:((d:Int)==1)=false:=by rw[hX];omega
     all_goals
      have ak:=aj wr _ C.ma E.1 (by rw[E.2];exact aJ.2) (low+x) (by omega);rw[Int.natCast_add] at ak;have az:=vl ak;clear X C aa P E L aj ak ay;generalize (f (g j).2 (low+x)).1=aX at *;generalize (f (g j).2 (low+x)).2=bp at *;generalize (g j).1 j=old at *;go_wp2_with (first|(go_at_call 176;refine(K _).mono ?_;rintro e V ⟨rfl,u⟩;have v:=u.symm;subst v)|(go_at_call 134;refine az.mono ?_;rintro e ai ⟨rfl,z,B⟩;have F:=N.2.call z B;have ⟨y5,aY⟩:=F.cell j O;have aA:=vl F;clear F z B)|(go_at_call 136;refine az.mono ?_;rintro e ai ⟨rfl,z,B⟩;have F:=N.2.call z B;have ⟨y5,aY⟩:=F.cell j O;have aA:=vl F;clear F z B))
      go_roundg (64-(j+1))
      case measure=>rw[N.out.1];omega
      case rel=>
       refine⟨j+1,rfl,by omega,by go_num,?_⟩;rw[aV.out];exact aA.set j O aX
   ·have aS:(64:Int)<=(j:Int):=by omega
    have e:j=64:=by omega
    subst e;have aZ:=vl (zFN wr b _ C.arr);have a0:=vl (zMf (g 64).1);have a1:Hid (Ca 179 #[pX o,agg (a64 (g 64).1)] wr λe w'=>e=returned (iX (zFT most (g 64)).1)/\MwIs r w' o kb most (zFT most (g 64)).2/\StayT wr w'):=zFW r wr o kb most _ C.ma am (by have:=E.1.same;have:=E.1.few;omega) (by have:=E.1.few;omega) _;clear X C E L;generalize (a64 (g 64).1)=a2 at *;generalize zFT most (g 64)=bq at *;go_wp2_with (first|(refine wpList_load_mid rfl 246 (.tmp 9) rfl b 0 rfl a2.toList (.array 64 3) aZ underlying246 rfl a0 ?_)|(go_at_call 179;refine a1.mono ?_;rintro e ai ⟨rfl,z,B⟩))
    go_ret;exact⟨by rw[M.out];rfl,by rw[M.out];exact z,N.2.stay.trans B⟩
theorem zDE (o:MwIs b w d kb most m)(p:most<=1000000)(fit:m.Fit most)(k:Kd)(a:Ar)(f:KdAt b kb a k)(ok:k.Ok a)(kind:Nat)(g:kind<k.rows.length)(q:m.of.length=k.rows.length)(low:Nat)(r:low<=1410000):Calls prog 136 #[pX d,iX (kind:Int),iX (low:Int),iX 1] w λe w'=>e=returned (iX (qC k a most kind 0 m low).1)/\MwIs b w' d kb most (qC k a most kind 0 m low).2/\StayT w w':=
 zBH b w d kb most m o p fit k a f ok kind g q low r 0 1 1 0 (.inl rfl) (by decide) rfl rfl _ rfl (λm c s=>⟨s,rfl⟩) (.inl ⟨rfl,λwr m2 j _ t c _=>(zC2 b wr d kb most m2 j k a f ok kind g t (c:Int)).mono (by rintro e w2 ⟨rfl,l⟩;exact⟨rfl,j.grown l,l.stayT⟩)⟩)
theorem zDD (l:MwIs b w d kb most m)(f:most<=1000000)(fit:m.Fit most)(k:Kd)(a:Ar)(g:KdAt b kb a k)(ok:k.Ok a)(kind:Nat)(j:kind<k.rows.length)(o:m.of.length=k.rows.length)(low:Nat)(s:low<=1400000):Calls prog 136 #[pX d,iX (kind:Int),iX (low:Int),iX 64] w λe w'=>e=returned (iX (qC k a most kind 1 m low).1)/\MwIs b w' d kb most (qC k a most kind 1 m low).2/\StayT w w':=
 zBH b w d kb most m l f fit k a g ok kind j o low (by omega) 1 64 2 1 (.inr (.inl rfl)) (by decide) rfl rfl _ rfl (zAP k a most kind 0) (.inr ⟨by decide,λwr m2 p q r c t=>zDE b wr d kb most m2 p f q k a g ok kind j r c (by omega)⟩)
theorem zHf (l:MwIs b w d kb most m)(f:most<=1000000)(fit:m.Fit most)(k:Kd)(a:Ar)(g:KdAt b kb a k)(ok:k.Ok a)(kind:Nat)(j:kind<k.rows.length)(o:m.of.length=k.rows.length)(low:Nat)(s:low<=1100000):Calls prog 136 #[pX d,iX (kind:Int),iX (low:Int),iX 4096] w λe w'=>e=returned (iX (qC k a most kind 2 m low).1)/\MwIs b w' d kb most (qC k a most kind 2 m low).2/\StayT w w':=
 zBH b w d kb most m l f fit k a g ok kind j o low (by omega) 2 4096 3 64 (.inr (.inr rfl)) (by decide) rfl rfl _ rfl (zAP k a most kind 1) (.inr ⟨by decide,λwr m2 p q r c t=>zDD b wr d kb most m2 p f q k a g ok kind j r c (by omega)⟩)
end
section
variable (k:Kd) (a:Ar) {most:Nat} (kind s:Nat) {m:Mk} (d:m.Fit most)
def Grows (sub:Mk->Nat->Int×Mk):Prop:=∀m c,m.next.length<=(sub m c).2.next.length
theorem zFc (m:Mk)(most:Nat)(r:Int):m.next.length<=(m.add most r).next.length:=by
 unfold Mk.add;split
 ·exact lQ
 ·show _<=(m.next++[zeros]).length;simp
theorem zFU (m:Mk)(most:Nat)(f:Nat->Int):m.next.length<=(m.withM most f).next.length:=by
 unfold Mk.withM;split
 ·exact lQ
 ·split
  ·exact lQ
  ·split
   ·exact zFc _ _ _
   ·rw[zCi];exact zFc _ _ _
theorem zLD (most c:Nat):∀(m:Mk) (to:Int),m.next.length<=(Mk.even most c m to).2.next.length:=by
 induction c with
 |zero=>exact λm to=>lQ
 |succ c a=>exact λm to=>lY (zFU m most λ_=>to) (a _ _)
theorem zMJ {a:Mk->Nat->Int×Mk}(c:Grows a)(step low:Nat)(m:Mk)(j:Nat):m.next.length<=(qU a step low m j).2.next.length:=by
 induction j with
 |zero=>exact lQ
 |succ j b=>
  unfold qU;split
  ·exact b
  ·exact lY b (c _ _)
theorem zDC (most kind cnt step:Nat){b:Mk->Nat->Int×Mk}(c:Grows b):Grows (zA4 k a most kind cnt step b):=by
 intro m low;unfold zA4;split
 ·exact zLD _ _ _ _
 ·exact lY (zMJ c step low m 64) (zFU _ _ _)
theorem zA3 (most kind l:Nat):Grows (qC k a most kind l):=by
 induction l with
 |zero=>exact zDC k a most kind 1 1 λm c=>lQ
 |succ l b=>exact zDC k a most kind (l+2) (jB (l+2)) b
def vX (sub:Mk->Nat->Int×Mk)(s lo:Nat)(m:Mk):Nat->Mk
 |0=>m
 |j+1=>(sub (vX sub s lo m j) (lo+j)).2.put s (lo+j) (sub (vX sub s lo m j) (lo+j)).1
theorem zBo {a:Mk->Nat->Int×Mk}(e:Tame most a)(g:Grows a)(s b:Nat){m:Mk}(f:m.Fit most)(j:Nat):(vX a s b m j).Fit most/\(vX a s b m j).of=m.of/\m.next.length<=(vX a s b m j).next.length:=by
 induction j with
 |zero=>exact⟨f,rfl,lQ⟩
 |succ j c=>
  have d:=e (vX a s b m j) (b+j) c.1;refine⟨zL8 d.1 _ _ _,d.2.trans c.2.1,?_⟩;show _<=((a (vX a s b m j) (b+j)).2.put s (b+j) _).next.length
  rw[zEe];exact lY c.2.2 (g _ _)
theorem zBA {most s a:Nat}{b:Mk->Nat->Int×Mk}(f:Tame most b)(g:Grows b){c m:Mk}(e:c.Fit most/\c.of=m.of/\m.next.length<=c.next.length)(k:s<m.next.length)(j:Nat):(vX b s a c j).Fit most/\(vX b s a c j).of=m.of/\s<(vX b s a c j).next.length/\s<(b (vX b s a c j) (a+j)).2.next.length/\(b (vX b s a c j) (a+j)).2.of=m.of:=by
 have d:=zBo f g s a e.1 j;have h:=f _ (a+j) d.1;have l:=g (vX b s a c j) (a+j);exact⟨d.1,d.2.1.trans e.2.1,by omega,by omega,h.2.trans (d.2.1.trans e.2.1)⟩
def zFA (k:Kd)(a:Ar)(kind:Nat)(m:Mk)(b:Nat):Int×Mk:=(m.behind k a kind (b:Int),m)
def zD8 (k:Kd)(a:Ar)(most kind:Nat)(m:Mk)(b:Nat):Int×Mk:=qC k a most kind 0 m ((b-192)*64)
def zD7 (k:Kd)(a:Ar)(most kind:Nat)(m:Mk)(b:Nat):Int×Mk:=qC k a most kind 1 m ((b-224)*4096)
def zD6 (k:Kd)(a:Ar)(most kind:Nat)(m:Mk)(b:Nat):Int×Mk:=qC k a most kind 2 m ((b-240)*262144)
theorem zDb (most kind:Nat):Tame most (zFA k a kind)/\Grows (zFA k a kind):=⟨λm c b=>⟨b,rfl⟩,λm c=>lQ⟩
theorem zDa (most kind:Nat):Tame most (zD8 k a most kind)/\Grows (zD8 k a most kind):=⟨λm c b=>by unfold zD8;exact zAP k a most kind 0 m _ b,λm c=>by unfold zD8;exact zA3 k a most kind 0 m _⟩
theorem zC9 (most kind:Nat):Tame most (zD7 k a most kind)/\Grows (zD7 k a most kind):=⟨λm c b=>by unfold zD7;exact zAP k a most kind 1 m _ b,λm c=>by unfold zD7;exact zA3 k a most kind 1 m _⟩
theorem zC8 (most kind:Nat):Tame most (zD6 k a most kind)/\Grows (zD6 k a most kind):=⟨λm c b=>by unfold zD6;exact zAP k a most kind 2 m _ b,λm c=>by unfold zD6;exact zA3 k a most kind 2 m _⟩
def zEu (k:Kd)(a:Ar)(kind s:Nat)(m:Mk):Mk:=vX (zFA k a kind) s 0 m 128
def zEt (k:Kd)(a:Ar)(most kind s:Nat)(m:Mk):Mk:=vX (zD8 k a most kind) s 194 (zEu k a kind s m) 30
def zEs (k:Kd)(a:Ar)(most kind s:Nat)(m:Mk):Mk:=vX (zD7 k a most kind) s 224 (zEt k a most kind s m) 16
def zCu (k:Kd)(a:Ar)(most kind s:Nat)(m:Mk):Mk:=vX (zD6 k a most kind) s 240 (zEs k a most kind s m) 5
theorem zGI (b:m.Fit most):(zEu k a kind s m).Fit most/\(zEu k a kind s m).of=m.of/\m.next.length<=(zEu k a kind s m).next.length:=zBo (zDb k a most kind).1 (zDb k a most kind).2 s 0 b 128
theorem zGH (d:m.Fit most):(zEt k a most kind s m).Fit most/\(zEt k a most kind s m).of=m.of/\m.next.length<=(zEt k a most kind s m).next.length:=by
 have b:=zGI k a kind s d;have c:=zBo (zDa k a most kind).1 (zDa k a most kind).2 s 194 b.1 30;exact⟨c.1,c.2.1.trans b.2.1,lY b.2.2 c.2.2⟩
theorem zGG (d:m.Fit most):(zEs k a most kind s m).Fit most/\(zEs k a most kind s m).of=m.of/\m.next.length<=(zEs k a most kind s m).next.length:=by
 have b:=zGH k a kind s d;have c:=zBo (zC9 k a most kind).1 (zC9 k a most kind).2 s 224 b.1 16;exact⟨c.1,c.2.1.trans b.2.1,lY b.2.2 c.2.2⟩
theorem zLB (d:m.Fit most):(zCu k a most kind s m).Fit most/\(zCu k a most kind s m).of=m.of/\m.next.length<=(zCu k a most kind s m).next.length:=by
 have b:=zGG k a kind s d;have c:=zBo (zC8 k a most kind).1 (zC8 k a most kind).2 s 240 b.1 5;exact⟨c.1,c.2.1.trans b.2.1,lY b.2.2 c.2.2⟩
end
theorem zLy (d w:World)(c kb most:Nat)(m:Mk)(F:MwIs d w c kb most m)(ah:most<=1000000)(fit:m.Fit most)(k:Kd)(a:Ar)(af:KdAt d kb a k)(ok:k.Ok a)(kind s:Nat)(ad:kind<k.rows.length)(ae:m.of.length=k.rows.length)(au:m.of.getD kind 0=(s:Int))(ag:s<m.next.length):
  Calls prog 97 #[pX c,iX (kind:Int)] w λe w'=>e=rX/\MwIs d w' c kb most (zCu k a most kind s m)/\StayT w w':=by
 have aE:Hid (MwIs d w c kb most m):=F;have ai:Hid (∀wr m2,MwIs d wr c kb most m2->m2.of=m.of->s<m2.next.length->∀b:Nat,b<256->∀x:Int,Ca 135 #[pX c,iX (kind:Int),iX (b:Int),iX x] wr λe w'=>e=rX/\MwIs d w' c kb most (m2.put s b x)/\StayT wr w'):=λwr m2 f o aF b l x=>zLl d wr c kb most m2 f kind b s (by rw[o,ae];exact ad) (by rw[o];exact au) aF l x;have aG:Hid (∀wr m2,MwIs d wr c kb most m2->m2.Fit most->m2.of=m.of->∀b:Nat,0<=b->b<=127->∀y:Int,y=(b:Int)->Ca 134 #[pX c,iX (kind:Int),iX y] wr λe w'=>e=returned (iX (zFA k a kind m2 b).1)/\MwIs d w' c kb most (zFA k a kind m2 b).2/\StayT wr w'):=by
  intro wr m2 f A o b an ao y L;subst L;refine(zC2 d wr c kb most m2 f k a af ok kind ad (by rw[o];exact ae) (b:Int)).mono ?_;rintro e w2 ⟨rfl,av⟩;exact⟨rfl,f.grown av,av.stayT⟩
 have aH:Hid (∀wr m2,MwIs d wr c kb most m2->m2.Fit most->m2.of=m.of->∀b:Nat,194<=b->b<=223->∀y:Int,y=((b:Int)-192)*64->Ca 136 #[pX c,iX (kind:Int),iX y,iX 1] wr λe w'=>e=returned (iX (zD8 k a most kind m2 b).1)/\MwIs d w' c kb most (zD8 k a most kind m2 b).2/\StayT wr w'):=by
  intro wr m2 f A o b an ao y L;rw[L,show((b:Int)-192)*64=(((b-192)*64:Nat):Int) by omega];exact zDE d wr c kb most m2 f ah A k a af ok kind ad (by rw[o];exact ae) _ (by omega)
 have aI:Hid (∀wr m2,MwIs d wr c kb most m2->m2.Fit most->m2.of=m.of->∀b:Nat,224<=b->b<=239->∀y:Int,y=((b:Int)-224)*4096->Ca 136 #[pX c,iX (kind:Int),iX y,iX 64] wr λe w'=>e=returned (iX (zD7 k a most kind m2 b).1)/\MwIs d w' c kb most (zD7 k a most kind m2 b).2/\StayT wr w'):=by
  intro wr m2 f A o b an ao y L;rw[L,show((b:Int)-224)*4096=(((b-224)*4096:Nat):Int) by omega];exact zDD d wr c kb most m2 f ah A k a af ok kind ad (by rw[o];exact ae) _ (by omega)
 have aJ:Hid (∀wr m2,MwIs d wr c kb most m2->m2.Fit most->m2.of=m.of->∀b:Nat,240<=b->b<=244->∀y:Int,y=((b:Int)-240)*262144->Ca 136 #[pX c,iX (kind:Int),iX y,iX 4096] wr λe w'=>e=returned (iX (zD6 k a most kind m2 b).1)/\MwIs d w' c kb most (zD6 k a most kind m2 b).2/\StayT wr w'):=by
  intro wr m2 f A o b an ao y L;rw[L,show((b:Int)-240)*262144=(((b-240)*262144:Nat):Int) by omega];exact zHf d wr c kb most m2 f ah A k a af ok kind ad (by rw[o];exact ae) _ (by omega)
 obtain⟨p,aw⟩:∃M,M=vX (zFA k a kind) s 0 (m):=⟨_,rfl⟩
 have aj:Hid (p 0=m/\p 128=zEu k a kind s m/\(∀j,p (j+1)=((zFA k a kind) (p j) (0+j)).2.put s (0+j) ((zFA k a kind) (p j) (0+j)).1)/\∀j,(p j).Fit most/\(p j).of=m.of/\s<(p j).next.length/\s<((zFA k a kind) (p j) (0+j)).2.next.length/\((zFA k a kind) (p j) (0+j)).2.of=m.of):=by
  rw[aw];exact⟨rfl,rfl,λj=>rfl,zBA (zDb k a most kind).1 (zDb k a most kind).2 ⟨fit,rfl,lQ⟩ ag⟩
 clear aw;obtain⟨r,ax⟩:∃M,M=vX (zD8 k a most kind) s 194 (zEu k a kind s m):=⟨_,rfl⟩
 have ak:Hid (r 0=zEu k a kind s m/\r 30=zEt k a most kind s m/\(∀j,r (j+1)=((zD8 k a most kind) (r j) (194+j)).2.put s (194+j) ((zD8 k a most kind) (r j) (194+j)).1)/\∀j,(r j).Fit most/\(r j).of=m.of/\s<(r j).next.length/\s<((zD8 k a most kind) (r j) (194+j)).2.next.length/\((zD8 k a most kind) (r j) (194+j)).2.of=m.of):=by
  rw[ax];exact⟨rfl,rfl,λj=>rfl,zBA (zDa k a most kind).1 (zDa k a most kind).2 (zGI k a kind s fit) ag⟩
 clear ax;obtain⟨t,ay⟩:∃M,M=vX (zD7 k a most kind) s 224 (zEt k a most kind s m):=⟨_,rfl⟩
 have al:Hid (t 0=zEt k a most kind s m/\t 16=zEs k a most kind s m/\(∀j,t (j+1)=((zD7 k a most kind) (t j) (224+j)).2.put s (224+j) ((zD7 k a most kind) (t j) (224+j)).1)/\∀j,(t j).Fit most/\(t j).of=m.of/\s<(t j).next.length/\s<((zD7 k a most kind) (t j) (224+j)).2.next.length/\((zD7 k a most kind) (t j) (224+j)).2.of=m.of):=by
  rw[ay];exact⟨rfl,rfl,λj=>rfl,zBA (zC9 k a most kind).1 (zC9 k a most kind).2 (zGH k a kind s fit) ag⟩
 clear ay;obtain⟨u,az⟩:∃M,M=vX (zD6 k a most kind) s 240 (zEs k a most kind s m):=⟨_,rfl⟩
 have am:Hid (u 0=zEs k a most kind s m/\u 5=zCu k a most kind s m/\(∀j,u (j+1)=((zD6 k a most kind) (u j) (240+j)).2.put s (240+j) ((zD6 k a most kind) (u j) (240+j)).1)/\∀j,(u j).Fit most/\(u j).of=m.of/\s<(u j).next.length/\s<((zD6 k a most kind) (u j) (240+j)).2.next.length/\((zD6 k a most kind) (u j) (240+j)).2.of=m.of):=by
  rw[az];exact⟨rfl,rfl,λj=>rfl,zBA (zC8 k a most kind).1 (zC8 k a most kind).2 (zGG k a kind s fit) ag⟩
 clear az;clear F fit af ok ad ae au ag ah;generalize aK:zFA k a kind=H at *;clear aK;generalize aL:zD8 k a most kind=I at *;clear aL;generalize aM:zD7 k a most kind=J at *;clear aM;generalize aN:zD6 k a most kind=K at *;clear aN;generalize aO:zEu k a kind s m=aP at *;clear aO;generalize aQ:zEt k a most kind s m=aR at *;clear aQ;generalize aS:zEs k a most kind s m=aT at *;clear aS;generalize aU:zCu k a most kind s m=aV at *;clear aU;go_enter func97,ntmps97
 go_wp2_with fail;go_loopg [4] 128 (λq v wr=>∃j b:Nat,q=128-j/\j<=128/\b=0+j/\v=iX (b:Int)/\MwIs d wr c kb most (p j)/\StayT w wr)
 case atStart=>exact⟨0,0,rfl,lX,rfl,rfl,by rw[aj.out.1];exact aE,StayT.refl _⟩
 case round=>
  obtain⟨j,b,B,N,l,rfl,f,z⟩:=hrel;have C:Hid (gk=128-j/\MwIs d wr c kb most (p j)/\StayT w wr):=⟨B,f,z⟩
  by_cases O:j<128
  ·have P:(b:Int)<128:=by omega
   have ap:(b:Int)<256:=by omega
   have ⟨A,o,R,D,E⟩:=aj.2.2.2 j;have S:Hid (∀y:Int,y=(b:Int)->Ca 134 #[pX c,iX (kind:Int),iX y] wr λe w'=>e=returned (iX (H (p j) b).1)/\MwIs d w' c kb most (H (p j) b).2/\StayT wr w'):=aG wr _ f A o b (by omega) (by omega);have T:Hid (p (j+1)=(H (p j) b).2.put s b (H (p j) b).1):=by have F:=aj.2.2.1 j;rw[<-l] at F;exact F
   rw[<-l] at D E;have U:Hid (∀g,MwIs d g c kb most (H (p j) b).2->∀x:Int,Ca 135 #[pX c,iX (kind:Int),iX (b:Int),iX x] g λe w'=>e=rX/\MwIs d w' c kb most ((H (p j) b).2.put s b x)/\StayT g w'):=λg V x=>ai g _ V E D b (by omega) x;have W:Hid (b=0+j):=l;clear B f z A o R D E l;generalize (H (p j) b).1=X at *;generalize (H (p j) b).2=aq at *;go_wp2_with (first|(go_at_call 134;refine(S _ (by omega)).mono ?_;rintro e g ⟨rfl,Y,aa⟩)|(go_at_call 135;refine(U g Y X).mono ?_;rintro e ar ⟨rfl,ab,ac⟩))
   go_roundg (128-(j+1))
   case measure=>rw[C.out.1];omega
   case rel=>exact⟨j+1,b+1,rfl,by omega,by have:=W.out;omega,by go_num,by rw[T.out];exact ab,(C.2.2.trans aa).trans ac⟩
  ·have P:128<=(b:Int):=by omega
   have G:j=128:=by omega
   have aA:Hid (MwIs d wr c kb most aP/\StayT w wr):=by
    rw[G,aj.out.2.1] at f;exact⟨f,z⟩
   clear B f z C G O N l;go_wp2_with fail;go_loopg [6] 30 (λq v wr=>∃j b:Nat,q=30-j/\j<=30/\b=194+j/\v=iX (b:Int)/\MwIs d wr c kb most (r j)/\StayT w wr)
   case atStart=>exact⟨0,194,rfl,lX,rfl,rfl,by rw[ak.out.1];exact aA.1,aA.2⟩
   case round=>
    obtain⟨j,b,B,N,l,rfl,f,z⟩:=hrel;have C:Hid (gk=30-j/\MwIs d wr c kb most (r j)/\StayT w wr):=⟨B,f,z⟩
    by_cases O:j<30
    ·have P:(b:Int)<=223:=by omega
     have ap:(b:Int)<256:=by omega
     have ⟨A,o,R,D,E⟩:=ak.2.2.2 j;have S:Hid (∀y:Int,y=((b:Int)-192)*64->Ca 136 #[pX c,iX (kind:Int),iX y,iX 1] wr λe w'=>e=returned (iX (I (r j) b).1)/\MwIs d w' c kb most (I (r j) b).2/\StayT wr w'):=aH wr _ f A o b (by omega) (by omega);have T:Hid (r (j+1)=(I (r j) b).2.put s b (I (r j) b).1):=by have F:=ak.2.2.1 j;rw[<-l] at F;exact F
     rw[<-l] at D E;have U:Hid (∀g,MwIs d g c kb most (I (r j) b).2->∀x:Int,Ca 135 #[pX c,iX (kind:Int),iX (b:Int),iX x] g λe w'=>e=rX/\MwIs d w' c kb most ((I (r j) b).2.put s b x)/\StayT g w'):=λg V x=>ai g _ V E D b (by omega) x;have W:Hid (b=194+j):=l;clear B f z A o R D E l;generalize (I (r j) b).1=X at *;generalize (I (r j) b).2=aq at *;go_wp2_with (first|(go_at_call 136;refine(S _ (by omega)).mono ?_;rintro e g ⟨rfl,Y,aa⟩)|(go_at_call 135;refine(U g Y X).mono ?_;rintro e ar ⟨rfl,ab,ac⟩))
     go_roundg (30-(j+1))
     case measure=>rw[C.out.1];omega
     case rel=>exact⟨j+1,b+1,rfl,by omega,by have:=W.out;omega,by go_num,by rw[T.out];exact ab,(C.2.2.trans aa).trans ac⟩
    ·have P:223<(b:Int):=by omega
     have G:j=30:=by omega
     have aB:Hid (MwIs d wr c kb most aR/\StayT w wr):=by
      rw[G,ak.out.2.1] at f;exact⟨f,z⟩
     clear B f z C G O N l;go_wp2_with fail;go_loopg [8] 16 (λq v wr=>∃j b:Nat,q=16-j/\j<=16/\b=224+j/\v=iX (b:Int)/\MwIs d wr c kb most (t j)/\StayT w wr)
     case atStart=>exact⟨0,224,rfl,lX,rfl,rfl,by rw[al.out.1];exact aB.1,aB.2⟩
     case round=>
      obtain⟨j,b,B,N,l,rfl,f,z⟩:=hrel;have C:Hid (gk=16-j/\MwIs d wr c kb most (t j)/\StayT w wr):=⟨B,f,z⟩
      by_cases O:j<16
      ·have P:(b:Int)<=239:=by omega
       have ap:(b:Int)<256:=by omega
       have ⟨A,o,R,D,E⟩:=al.2.2.2 j;have S:Hid (∀y:Int,y=((b:Int)-224)*4096->Ca 136 #[pX c,iX (kind:Int),iX y,iX 64] wr λe w'=>e=returned (iX (J (t j) b).1)/\MwIs d w' c kb most (J (t j) b).2/\StayT wr w'):=aI wr _ f A o b (by omega) (by omega);have T:Hid (t (j+1)=(J (t j) b).2.put s b (J (t j) b).1):=by have F:=al.2.2.1 j;rw[<-l] at F;exact F
       rw[<-l] at D E;have U:Hid (∀g,MwIs d g c kb most (J (t j) b).2->∀x:Int,Ca 135 #[pX c,iX (kind:Int),iX (b:Int),iX x] g λe w'=>e=rX/\MwIs d w' c kb most ((J (t j) b).2.put s b x)/\StayT g w'):=λg V x=>ai g _ V E D b (by omega) x;have W:Hid (b=224+j):=l;clear B f z A o R D E l;generalize (J (t j) b).1=X at *;generalize (J (t j) b).2=aq at *;go_wp2_with (first|(go_at_call 136;refine(S _ (by omega)).mono ?_;rintro e g ⟨rfl,Y,aa⟩)|(go_at_call 135;refine(U g Y X).mono ?_;rintro e ar ⟨rfl,ab,ac⟩))
       go_roundg (16-(j+1))
       case measure=>rw[C.out.1];omega
       case rel=>exact⟨j+1,b+1,rfl,by omega,by have:=W.out;omega,by go_num,by rw[T.out];exact ab,(C.2.2.trans aa).trans ac⟩
      ·have P:239<(b:Int):=by omega
       have G:j=16:=by omega
       have aC:Hid (MwIs d wr c kb most aT/\StayT w wr):=by
        rw[G,al.out.2.1] at f;exact⟨f,z⟩
       clear B f z C G O N l;go_wp2_with fail;go_loopg [10] 5 (λq v wr=>∃j b:Nat,q=5-j/\j<=5/\b=240+j/\v=iX (b:Int)/\MwIs d wr c kb most (u j)/\StayT w wr)
       case atStart=>exact⟨0,240,rfl,lX,rfl,rfl,by rw[am.out.1];exact aC.1,aC.2⟩
       case round=>
        obtain⟨j,b,B,N,l,rfl,f,z⟩:=hrel;have C:Hid (gk=5-j/\MwIs d wr c kb most (u j)/\StayT w wr):=⟨B,f,z⟩
        by_cases O:j<5
        ·have P:(b:Int)<=244:=by omega
         have ap:(b:Int)<256:=by omega
         have ⟨A,o,R,D,E⟩:=am.2.2.2 j;have S:Hid (∀y:Int,y=((b:Int)-240)*262144->Ca 136 #[pX c,iX (kind:Int),iX y,iX 4096] wr λe w'=>e=returned (iX (K (u j) b).1)/\MwIs d w' c kb most (K (u j) b).2/\StayT wr w'):=aJ wr _ f A o b (by omega) (by omega);have T:Hid (u (j+1)=(K (u j) b).2.put s b (K (u j) b).1):=by have F:=am.2.2.1 j;rw[<-l] at F;exact F
         rw[<-l] at D E;have U:Hid (∀g,MwIs d g c kb most (K (u j) b).2->∀x:Int,Ca 135 #[pX c,iX (kind:Int),iX (b:Int),iX x] g λe w'=>e=rX/\MwIs d w' c kb most ((K (u j) b).2.put s b x)/\StayT g w'):=λg V x=>ai g _ V E D b (by omega) x;have W:Hid (b=240+j):=l;clear B f z A o R D E l;generalize (K (u j) b).1=X at *;generalize (K (u j) b).2=aq at *;go_wp2_with (first|(go_at_call 136;refine(S _ (by omega)).mono ?_;rintro e g ⟨rfl,Y,aa⟩)|(go_at_call 135;refine(U g Y X).mono ?_;rintro e ar ⟨rfl,ab,ac⟩))
         go_roundg (5-(j+1))
         case measure=>rw[C.out.1];omega
         case rel=>exact⟨j+1,b+1,rfl,by omega,by have:=W.out;omega,by go_num,by rw[T.out];exact ab,(C.2.2.trans aa).trans ac⟩
        ·have P:244<(b:Int):=by omega
         have G:j=5:=by omega
         have aD:Hid (MwIs d wr c kb most aV/\StayT w wr):=by
          rw[G,am.out.2.1] at f;exact⟨f,z⟩
         clear B f z C G O N l;go_wp2_with fail;go_end0;exact⟨rfl,aD.1,aD.2⟩
def Mk.blank:Mk:=⟨[],[],[],false⟩
def Mk.withOf (m:Mk)(l:List Int):Mk:={m with of:=l}
def xL (k:Kd)(most:Nat):Nat->Mk
 |0=>Mk.blank.add most (-1)
 |j+1=>if j=k.dead then(xL k most j).withOf ((xL k most j).of++[0]) else((xL k most j).add most (k.rules.getD j 0)).withOf ((xL k most j).of++[((xL k most j).addN most:Int)])
theorem zFX {m:Mk}{most:Nat}(a:m.Fit most)(l:List Int):(m.withOf l).Fit most:=⟨a.same,a.few⟩
theorem zEG (k:Kd)(most j:Nat):(xL k most j).Fit most/\(xL k most j).of.length=j:=by
 induction j with
 |zero=>exact⟨zFR ⟨rfl,lX⟩ _,by show(Mk.blank.add most (-1)).of.length=0;rw[zDV];rfl⟩
 |succ j a=>
  unfold xL;split
  ·exact⟨zFX a.1 _,by show((xL k most j).of++[0]).length=j+1;rw[kX,a.2];rfl⟩
  ·exact⟨zFX (zFR a.1 _) _,by show((xL k most j).of++[_]).length=j+1;rw[kX,a.2];rfl⟩
theorem zGX (f w:World)(c kb most:Nat)(ac:MwIs f w c kb most Mk.blank)(aC:most<=1000000)(k:Kd)(a:Ar)(ad:KdAt f kb a k)(ae:k.rules.length=k.rows.length)(aY:k.rows.length<=10000000000):
  Calls prog 96 #[pX c] w λe w'=>e=rX/\MwIs f w' c kb most (xL k most k.rows.length)/\StayT w w':=by
 have ⟨af,ag,ah,ai,aj⟩:=info_parts yG;have ak:Hid (∀wr m2,MwIs f wr c kb most m2->m2.Fit most->∀r:Int,Ca 133 #[pX c,iX r] wr λe w'=>e=returned (iX ((m2.addN most:Nat):Int))/\MwIs f w' c kb most (m2.add most r)/\StayT wr w'):=λwr m2 l al r=>zFy f wr c kb most m2 l aC (by have:=al.same;have:=al.few;omega) r;have aD:Hid (Mk.blank.Fit most):=⟨rfl,lX⟩
 have aE:=vl ac;have am:Hid (∀wr m2,MwIs f wr c kb most m2->∃R I A J,wr.cell? ⟨c,0,none⟩=some (pX kb)/\wr.cell? ⟨kb,3,none⟩=some (slice R k.rows.length I)/\wr.cell? ⟨kb,4,none⟩=some (slice A k.rows.length J)/\wr.cell? ⟨kb,6,none⟩=some (iX (k.dead:Int))/\∀i,i<k.rows.length->∃b o,A=some ⟨b,o,none⟩/\wr.cell? ⟨b,o+i,none⟩=some (iX (k.rules.getD i 0))):=by
  rintro wr m2 ⟨S,rv,ap,T,l⟩;have ⟨aZ,lv,tv,sv,R,a0,B,a1,aF,aG⟩:=ad.grown l.keep;obtain⟨aH,I,rfl,-⟩:=aF;obtain⟨A,J,rfl,_,_,aq⟩:=aG;rw[kV] at B;rw[ae] at B aq;refine⟨aH,I,A,J,l.cells.1,?_,?_,?_,λi aI=>?_⟩
  ·unfold cell?;rw[B];rfl
  ·unfold cell?;rw[B];rfl
  ·unfold cell?;rw[B];rfl
  ·have ⟨b,o,aJ,_,aK⟩:=aq i aI
   exact⟨b,o,aJ,aK⟩
 obtain⟨d,au⟩:∃d,d=xL k most:=⟨_,rfl⟩
 have p:Hid (d 0=Mk.blank.add most (-1)/\(∀j,j=k.dead->d (j+1)=(d j).withOf ((d j).of++[0]))/\(∀j,j≠k.dead->d (j+1)=((d j).add most (k.rules.getD j 0)).withOf ((d j).of++[((d j).addN most:Int)]))/\(∀j,(d j).Fit most/\(d j).of.length=j)/\d k.rows.length=xL k most k.rows.length):=by
  rw[au];exact⟨rfl,λj K=>if_pos K,λj K=>if_neg K,λj=>zEG k most j,rfl⟩
 generalize xL k most k.rows.length=aL at *;clear au ac ad ae;go_in;go_wp2_with (go_at_call 133;refine(ak w _ aE aD (-1)).mono ?_;rintro e w1 ⟨rfl,U,av⟩;obtain⟨R,I,A,J,aw,y3,V,ax,-⟩:=am w1 _ U;have ay:Hid (MwIs f w1 c kb most (d 0)/\StayT w w1):=⟨(by rw[p.out.1];exact U),av⟩;clear U av)
 clear aw y3 V ax;go_loopg [14] k.rows.length (λq i wr=>∃j:Nat,q=k.rows.length-j/\j<=k.rows.length/\i=iX (j:Int)/\MwIs f wr c kb most (d j)/\StayT w wr)
 case atStart=>exact⟨0,rfl,lX,rfl,ay.1,ay.2⟩
 case round=>
  obtain⟨j,L,K,rfl,l,C⟩:=hrel;have M:Hid (gk=k.rows.length-j/\MwIs f wr c kb most (d j)/\StayT w wr):=⟨L,l,C⟩
  have ⟨a2,a3,a4,a5,aw,y3,V,ax,N⟩:=am wr _ l;by_cases aM:j<k.rows.length
  ·have aN:(j:Int)<(k.rows.length:Int):=by omega
   obtain⟨b,o,rfl,aO⟩:=N j aM;by_cases O:j=k.dead
   ·have aP:((j:Int)==(k.dead:Int))=true:=by simp;omega
    have P:=vl <| p.2.1 j O;have t:=(p.2.2.2.1 j).2;obtain⟨S,rv,ap,T,g⟩:=l;have ⟨ao,z,D⟩:=g.oOwn.form;rw[t] at D;subst D;have W:=g.cells.2.2.2.2.2.1;have aQ:=g.lt;have aR:f.heap.size<=wr.heap.size:=g.keep.size;have v:=vl g;have X:wr.ownsRow f.heap.size 3 1 (slice ao j z) j ((d j).of.map λx=>iX x):=by have:=g.oOwn;unfold OwnI at this;rw[t] at this;exact this
    clear L C g N O y3 V aO;go_wp2_with (at_builtin;refine wpList_append_lies _ rfl _ _ 45 rfl (f.heap.size) 3 af zX 1 8 underlying45 ag ah ai aj rfl (by decide) _ _ _ rfl (X.alloc _) ⟨wr.heap.size,0,none⟩ 1 1 [zX] rfl rfl (cell_one_new _ _ _) (by intro u E;simp at E;subst E;rfl) (by decide) (by unfold maxLen;omega) (by omega) (by simp;omega) _ rfl ?_;intro aS cap m Y F aa aT;have G:m.heap[c]? =wr.heap[c]? :=(F.block _ (by simp;omega) v.box.2.2.1).trans (lG _ _ _ (by omega));have aU:m.cell? ⟨c,6,none⟩=some (slice ao j z):=(gY G).trans W;have aV:m.frozen? ⟨c,6,none⟩=false:=(gW G).trans (v.cells.2.2.2.2.2.2 6);have H:=v.newOf t.symm Y F (by rcases aa with y|y;exact .inl y;right;rw[y];simp))
    go_roundg (k.rows.length-(j+1))
    case measure=>rw[M.out.1];omega
    case rel=>exact⟨j+1,rfl,by omega,by go_num,by rw[P.out];exact⟨_,_,_,_,H.1⟩,M.2.2.trans H.2⟩
   ·have aP:((j:Int)==(k.dead:Int))=false:=by simp;omega
    have P:=vl <| p.2.2.1 j O;have t:((d j).add most (k.rules.getD j 0)).of.length=j:=by rw[zDV];exact(p.2.2.2.1 j).2
    have az:((d j).add most (k.rules.getD j 0)).of=(d j).of:=zDV _ _ _;rw[<-az] at P;have aW:Hid (Ca 133 #[pX c,iX (k.rules.getD j 0)] wr λe w'=>e=returned (iX (((d j).addN most:Nat):Int))/\MwIs f w' c kb most ((d j).add most (k.rules.getD j 0))/\StayT wr w'):=ak wr _ l (p.2.2.2.1 j).1 _;clear L l C N O y3 az;generalize k.rules.getD j 0=r at *;generalize (d j).addN most=s at *;generalize (d j).add most r=aA at *;go_wp2_with (first|(go_at_call 133;refine aW.mono ?_;rintro e m ⟨rfl,⟨S,rv,ap,T,g⟩,aX⟩;have ⟨ao,z,D⟩:=g.oOwn.form;rw[t] at D;subst D;have W:=g.cells.2.2.2.2.2.1;have aQ:=g.lt;have aR:f.heap.size<=m.heap.size:=g.keep.size;have v:Hid (Mw f m c kb most aA S rv (slice ao j z) T):=g;have X:m.ownsRow f.heap.size 3 1 (slice ao j z) j (aA.of.map λx=>iX x):=(by have:=g.oOwn;unfold OwnI at this;rw[t] at this;exact this);clear g)|(at_builtin;refine wpList_append_lies _ rfl _ _ 45 rfl (f.heap.size) 3 af zX 1 8 underlying45 ag ah ai aj rfl (by decide) _ _ _ rfl (X.alloc _) ⟨m.heap.size,0,none⟩ 1 1 [iX (s:Int)] rfl rfl (cell_one_new _ _ _) (by intro u E;simp at E;subst E;rfl) (by decide) (by unfold maxLen;omega) (by omega) (by simp;omega) _ rfl ?_;intro aS cap ab Y F aa aT;have G:ab.heap[c]? =m.heap[c]? :=(F.block _ (by simp;omega) v.box.2.2.1).trans (lG _ _ _ (by omega));have aU:ab.cell? ⟨c,6,none⟩=some (slice ao j z):=(gY G).trans W;have aV:ab.frozen? ⟨c,6,none⟩=false:=(gW G).trans (v.cells.2.2.2.2.2.2 6);have H:=v.newOf t.symm Y F (by rcases aa with y|y;exact .inl y;right;rw[y];simp)))
    go_roundg (k.rows.length-(j+1))
    case measure=>rw[M.out.1];omega
    case rel=>exact⟨j+1,rfl,by omega,by go_num,by rw[P.out];exact⟨_,_,_,_,H.1⟩,(M.2.2.trans aX).trans H.2⟩
  ·have aN:(k.rows.length:Int)<=(j:Int):=by omega
   have e:j=k.rows.length:=by omega
   subst e;have aB:Hid (MwIs f wr c kb most aL/\StayT w wr):=⟨by rw[<-p.out.2.2.2.2];exact l,C⟩
   clear L l C N;go_wp2;go_end0;exact⟨rfl,aB.1,aB.2⟩
theorem zED {m:Mk}{most:Nat}{r:Int}(a:(m.add most r).full=false):m.full=false/\(m.add most r).next.length=m.next.length+1/\m.addN most=m.next.length:=by
 unfold Mk.add at a ⊢;unfold Mk.addN;by_cases e:most<=m.next.length
 ·rw[if_pos e] at a
  exact absurd a (by simp)
 ·rw[if_neg e] at a
  rw[if_neg e,if_neg e];exact⟨a,by show(m.next++[zeros]).length=_;simp,rfl⟩
structure Mk.Has (m:Mk):Prop where
 one:1<=m.next.length
 of:∀x∈m.of,0<=x/\x<(m.next.length:Int)
theorem zMv (k:Kd)(most j:Nat)(c:(xL k most j).full=false):(xL k most j).Has:=by
 induction j with
 |zero=>
  have a:=zED (m:=Mk.blank) (most:=most) (r:=-1) c;exact⟨by show 1<=(Mk.blank.add most (-1)).next.length;rw[a.2.1];omega,λx b=>by rw[show (xL k most 0).of=[] from zDV _ _ _] at b;exact absurd b List.not_mem_nil⟩
 |succ j f=>
  unfold xL at c ⊢;split at c
  ·rename_i d
   rw[if_pos d];have:=f c;refine⟨this.one,λx b=>?_⟩;rcases kU.1 b with a|a
   ·exact this.of x a
   ·rw[kY.1 a]
    have:=this.one;exact⟨by omega,by show(0:Int)<((xL k most j).next.length:Nat);omega⟩
  ·rename_i d
   rw[if_neg d];have a:=zED (m:=xL k most j) (most:=most) (r:=k.rules.getD j 0) c;have g:=f a.1;have l:=g.one;refine⟨by show 1<=((xL k most j).add most (k.rules.getD j 0)).next.length;omega,λx b=>?_⟩;show 0<=x/\x<(((xL k most j).add most (k.rules.getD j 0)).next.length:Nat);rw[a.2.1];rcases kU.1 b with e|e
   ·have:=g.of x e
    omega
   ·rw[kY.1 e,a.2.2]
    omega
def jE (k:Kd)(a:Ar)(most:Nat):Nat->Mk
 |0=>xL k most k.rows.length
 |j+1=>if j≠k.dead/\(jE k a most j).full=false then zCu k a most j ((jE k a most j).of.getD j 0).toNat (jE k a most j) else jE k a most j
theorem zEX (k:Kd)(a:Ar)(most j:Nat):(jE k a most j).Fit most/\(jE k a most j).of=(xL k most k.rows.length).of/\(xL k most k.rows.length).next.length<=(jE k a most j).next.length/\((jE k a most j).full=false->(xL k most k.rows.length).full=false):=by
 induction j with
 |zero=>exact⟨(zEG k most _).1,rfl,lQ,id⟩
 |succ j b=>
  unfold jE;split
  ·rename_i c
   have:=zLB k a j ((jE k a most j).of.getD j 0).toNat b.1;exact⟨this.1,this.2.1.trans b.2.1,lY b.2.2.1 this.2.2,λ_=>b.2.2.2 c.2⟩
  ·exact b
theorem zJ3 (k:Kd)(a:Ar)(most j:Nat)(e:(jE k a most j).full=false):(jE k a most j).Has/\(jE k a most j).of.length=k.rows.length:=by
 have ⟨_,b,g,f⟩:=zEX k a most j;have c:=zMv k most k.rows.length (f e);have:=c.one;refine⟨⟨by omega,λx d=>?_⟩,by rw[b];exact(zEG k most _).2⟩;rw[b] at d;have:=c.of x d;omega
def yR (k:Kd)(a:Ar)(most:Nat):Mk:=jE k a most k.rows.length
theorem Mw.tables {l w:World}{o kb most j:Nat}{m:Mk}{p rv B:Value}{q:Nat->Nat}{c:Array Value}(a:Mw l w o kb most m p rv B q)(r:w.heap[j]? =some (.cells c 127)):IntRows w (λg=>g<w.heap.size/\g≠o/\g≠j/\l.heap.size<=g) p m.next/\Ints w (λg=>g<w.heap.size/\g≠o/\g≠j/\l.heap.size<=g) rv m.rules:=by
 have s:=a.box;have C:=zO a.nOwn r (by decide);have D:=zO a.rOwn r (by decide);have E:∀i,i<m.next.length->q i≠j:=λi d e=>by
  have:=(a.each i d).1;rw[e,r] at this;simp at this
 constructor
 ·by_cases v:m.next.length=0
  ·rcases a.nOwn.2 with⟨f,_⟩|⟨g,cap,G,f,x,H,t,u,y,I⟩
   ·exact⟨none,0,by rw[f,v],by rw[v];exact lQ,by unfold maxLen;omega,λi d=>by omega⟩
   ·exact⟨_,cap,f,t,u,λi d=>by omega⟩
  ·have ⟨g,cap,f,x,F,t,u,y,_⟩:=a.nOwn.get (by omega)
   have z:p.ownBlock=some g:=by rw[f];rfl
   refine⟨_,cap,f,t,u,λi d=>⟨g,0,_,rfl,⟨F,λe=>s.1 (by rw[z,e]),λe=>C (by rw[z,e]),x⟩,by rw[Nat.zero_add];exact y i d,?_⟩⟩;have A:=(a.each i d).2.2;exact⟨_,256,by rw[A],by rw[A];exact lQ,by unfold maxLen;omega,λb J=>⟨q i,0,rfl,⟨a.gl i d,s.2.2.2 i d,E i d,(a.each i d).2.1⟩,by rw[Nat.zero_add];exact(a.row i b d (by omega)).1⟩⟩
 ·exact zCL a.rOwn λg k=>⟨(a.rOwn.lt g k).2,λe=>s.2.1 (by rw[k,e]),λe=>D (by rw[k,e]),(a.rOwn.lt g k).1⟩
theorem IntRows.moved {w w':World}{S a:Nat->Prop}{v:Value}{l:List (List Int)}(c:IntRows w S v l)(e:∀b,S b->w'.heap[b]? =w.heap[b]?)(d:∀b,S b->a b):IntRows w' a v l:=(c.keep e).mono d
def zEF (w:World)(k:Kd)(a:Ar)(most:Nat)(e:Ending)(w':World):Prop:=
 Grew w w'/\(((yR k a most).full=true/\e=returned (tuple #[agg #[slice none 0 0,slice none 0 0,int i64 0],bool false]))\/((yR k a most).full=false/\∃nv rv,e=returned (tuple #[agg #[nv,rv,int i64 ((yR k a most).of.getD k.start 0)],bool true])/\IntRows w' (λg=>w.heap.size<=g/\g<w'.heap.size) nv (yR k a most).next/\Ints w' (λg=>w.heap.size<=g/\g<w'.heap.size) rv (yR k a most).rules))
theorem Mw.begin {b w:World}{kb most:Nat}(c:Grew b w):Mw b (w.alloc (.cells #[pX kb,iX (most:Int),bool false,nX,nX,zX,nX] 183)) w.heap.size kb most Mk.blank nX nX nX (λ_=>0):=
 ⟨gZ _ _,ownsRow_nil _ _ _ _,λi a=>absurd a (Nat.not_lt_zero _),OwnI.nil _ _,OwnI.nil _ _,λi j a=>absurd a (Nat.not_lt_zero _),λi a=>absurd a (Nat.not_lt_zero _),λi a=>absurd a (Nat.not_lt_zero _),λg d=>(by cases d),c.size,c.trans (kZ _ _ c.size)⟩
theorem zH2 (w:World)(kb most:Nat)(ag:most<=1000000)(k:Kd)(a:Ar)(R:KdAt w kb a k)(ok:k.Ok a)(aB:k.rows.length<=10000000000):
  Calls prog 62 #[pX kb,iX (most:Int)] w (zEF w k a most):=by
 obtain⟨w1,ah,H⟩:∃w1,w1=w.alloc (.cells #[nX,nX,zX] 127)/\Hid (Grew w w1/\w1.heap.size=w.heap.size+1/\w1.heap[w.heap.size]? =some (.cells #[nX,nX,zX] 127)):=⟨_,rfl,kZ _ _ lQ,by simp,gZ _ _⟩
 obtain⟨w2,ai,aj⟩:∃w2,w2=w1.alloc (.cells #[pX kb,iX (most:Int),fX,nX,nX,zX,nX] 183)/\Hid (MwIs w w2 (w.heap.size+1) kb most Mk.blank/\w2.heap[w.heap.size]? =some (.cells #[nX,nX,zX] 127)):=by
  refine⟨_,rfl,⟨nX,nX,nX,λ_=>0,?_⟩,?_⟩
  ·have s:=Mw.begin (kb:=kb) (most:=most) H.1
   rw[H.out.2.1] at s;exact s
  ·exact(lG _ _ _ (by rw[H.out.2.1];omega)).trans H.2.2
 have aC:=vl H.2.1;have aD:=vl <| zGX w w2 (w.heap.size+1) kb most aj.1 ag k a R ok.lens aB;have ak:Hid (∀wr m2,MwIs w wr (w.heap.size+1) kb most m2->∃S P,wr.cell? ⟨w.heap.size+1,2,none⟩=some (bool m2.full)/\wr.cell? ⟨kb,3,none⟩=some (slice S k.rows.length P)/\wr.cell? ⟨kb,5,none⟩=some (iX (k.start:Int))/\wr.cell? ⟨kb,6,none⟩=some (iX (k.dead:Int))/\kb<wr.heap.size):=by
  rintro wr m2 ⟨I,rv,al,am,m⟩;have ⟨ap,lv,tv,sv,S,bc,aq,bd,aE,be⟩:=R.grown m.keep;obtain⟨x,P,rfl,-⟩:=aE;rw[kV] at aq;refine⟨x,P,m.cells.2.2.1,?_,?_,?_,ap⟩
  all_goals (unfold cell?;rw[aq];rfl)
 obtain⟨d,aF⟩:∃d,d=jE k a most:=⟨_,rfl⟩
 have y:Hid (d 0=xL k most k.rows.length/\(∀j,j≠k.dead->(d j).full=false->d (j+1)=zCu k a most j ((d j).of.getD j 0).toNat (d j))/\(∀j,¬(j≠k.dead/\(d j).full=false)->d (j+1)=d j)/\(∀j,(d j).Fit most)/\(∀j,(d j).full=false->(d j).Has/\(d j).of.length=k.rows.length)/\d k.rows.length=yR k a most):=by
  rw[aF];exact⟨rfl,λj F T=>if_pos ⟨F,T⟩,λj s=>if_neg s,λj=>(zEX k a most j).1,λj s=>zJ3 k a most j s,rfl⟩
 have aG:Hid (∀wr j,j<k.rows.length->MwIs w wr (w.heap.size+1) kb most (d j)->(d j).full=false->Ca 97 #[pointer (some ⟨w.heap.size+1,0,none⟩),iX ((j:Nat):Int)] wr λe w'=>e=rX/\MwIs w w' (w.heap.size+1) kb most (zCu k a most j ((d j).of.getD j 0).toNat (d j))/\StayT wr w'):=λwr j au m aH=>by
  have ⟨U,J⟩:=y.2.2.2.2.1 j aH;have bf:=U.of _ (zZ (d j).of j 0 (by omega));exact zLy w wr (w.heap.size+1) kb most (d j) m ag (y.2.2.2.1 j) k a R ok j _ au J (by omega) (by omega)
 have bg:=ok.start;generalize aI:yR k a most=c at *;have av:Hid (∀e w',zEF w k a most e w'↔Grew w w'/\((c.full=true/\e=returned (tuple #[agg #[nX,nX,zX],fX]))\/(c.full=false/\∃I rv,e=returned (tuple #[agg #[I,rv,iX (c.of.getD k.start 0)],tX])/\IntRows w' (λg=>w.heap.size<=g/\g<w'.heap.size) I c.next/\Ints w' (λg=>w.heap.size<=g/\g<w'.heap.size) rv c.rules))):=λe w'=>by unfold zEF;rw[aI]
 go_in;apply wp_cut;intro aJ K;go_wp2;apply K.out;clear K;rw[<-ah];clear ah;apply wp_cut;intro aJ K;go_wp2;apply K.out;clear K;rw[<-ai,aC.out];clear ai;go_wp2_with (go_at_call 96;refine aD.mono ?_;rintro e V ⟨rfl,W,aw⟩;obtain⟨S,P,z,y3,y5,X,-⟩:=ak V _ W;have ax:Hid (MwIs w V (w.heap.size+1) kb most (d 0)/\V.heap[w.heap.size]? =some (.cells #[nX,nX,zX] 127)):=⟨(by rw[y.out.1];exact W),aw _ _ _ aj.2 (by decide) (by decide) (by decide)⟩;clear W aw z y5 X)
 clear y3;go_loopg [19] k.rows.length (λq i wr=>∃j:Nat,q=k.rows.length-j/\j<=k.rows.length/\i=iX (j:Int)/\MwIs w wr (w.heap.size+1) kb most (d j)/\wr.heap[w.heap.size]? =some (.cells #[nX,nX,zX] 127))
 case atStart=>exact⟨0,rfl,lX,rfl,ax.1,ax.2⟩
 case round=>
  obtain⟨j,G,au,rfl,m,r⟩:=hrel;have A:Hid (gk=k.rows.length-j/\MwIs w wr (w.heap.size+1) kb most (d j)/\wr.heap[w.heap.size]? =some (.cells #[nX,nX,zX] 127)):=⟨G,m,r⟩
  have ⟨bh,bi,z,y3,y5,X,ap⟩:=ak wr _ m;by_cases aK:j<k.rows.length
  ·have aL:(j:Int)<(k.rows.length:Int):=by omega
   by_cases L:j=k.dead
   ·have aM:((j:Int) != (k.dead:Int))=false:=by simp;omega
    have M:=vl <| y.2.2.1 j λs=>s.1 L;clear G m r L y3 y5;generalize (d j).full=bj at *;go_wp2;go_roundg (k.rows.length-(j+1))
    case measure=>rw[A.out.1];omega
    case rel=>exact⟨j+1,rfl,by omega,by go_num,by rw[M.out];exact A.2.1,A.2.2⟩
   ·have aM:((j:Int) != (k.dead:Int))=true:=by simp;omega
    cases o:(d j).full with
    |true=>
     rw[o] at z;have M:=vl <| y.2.2.1 j λs=>by rw[o] at s;exact absurd s.2 (by decide)
     clear G m r L y3 y5 o;go_wp2;go_roundg (k.rows.length-(j+1))
     case measure=>rw[A.out.1];omega
     case rel=>exact⟨j+1,rfl,by omega,by go_num,by rw[M.out];exact A.2.1,A.2.2⟩
    |false=>
     rw[o] at z;have M:=vl <| y.2.1 j L o;have aN:=vl <| aG wr j aK m o;clear G m r L y3 y5 o;generalize zCu k a most j ((d j).of.getD j 0).toNat (d j)=bk at *;go_wp2_with (go_at_call 97;refine aN.mono ?_;rintro e bl ⟨rfl,aO,aP⟩)
     go_roundg (k.rows.length-(j+1))
     case measure=>rw[A.out.1];omega
     case rel=>exact⟨j+1,rfl,by omega,by go_num,by rw[M.out];exact aO,aP _ _ _ A.2.2 (by decide) (by decide) (by decide)⟩
  ·have aL:(k.rows.length:Int)<=(j:Int):=by omega
   have e:j=k.rows.length:=by omega
   subst e;rw[y.out.2.2.2.2.2] at m z;have Y:Hid (MwIs w wr (w.heap.size+1) kb most c/\wr.heap[w.heap.size]? =some (.cells #[nX,nX,zX] 127)):=⟨m,r⟩
   have ay:Hid (c.full=false->c.Has/\c.of.length=k.rows.length):=by have:=y.2.2.2.2.1 k.rows.length;rw[y.out.2.2.2.2.2] at this;exact this
   have bm:w.heap.size<wr.heap.size:=(kQ.1 r).1;have aQ:wr.cell? ⟨w.heap.size,0,none⟩=some nX:=by unfold cell?;rw[r];rfl
   have aR:wr.cell? ⟨w.heap.size,1,none⟩=some nX:=by unfold cell?;rw[r];rfl
   have aS:wr.cell? ⟨w.heap.size,2,none⟩=some zX:=by unfold cell?;rw[r];rfl
   have aa:Hid (∀i,wr.frozen? ⟨w.heap.size,i,none⟩=false):=λi=>by unfold frozen?;rw[r];simp
   have aT:=aa 0;have aU:=aa 1;have q2:=aa 2;cases o:c.full with
   |true=>
    rw[o] at z;have ab:=vl o;clear G m r o;go_wp2;obtain⟨l,N,c0,c1,c2,O⟩:∃l,l=((wr.setCell ⟨w.heap.size,0,none⟩ nX).setCell ⟨w.heap.size,1,none⟩ nX).setCell ⟨w.heap.size,2,none⟩ (Value.int IntKind.i64 0)/\l.cell? ⟨w.heap.size,0,none⟩=some nX/\l.cell? ⟨w.heap.size,1,none⟩=some nX/\l.cell? ⟨w.heap.size,2,none⟩=some zX/\Hid (Grew w l):=by
     have ⟨⟨I,rv,al,am,p⟩,r⟩:=Y.out;refine⟨_,rfl,?_,?_,?_,p.keep.trans (((zP _ _ _ _ lQ).trans (zP _ _ _ _ lQ)).trans (zP _ _ _ _ lQ))⟩
     all_goals simp[World.cell?,setCell,lU,r]
    rw[<-N];clear N;refine gU (v:=tuple #[agg #[nX,nX,zX],fX]) (by simp[results,results62,go_sem,c0,c1,c2]) rfl ?_;exact(av _ _).2 ⟨O,.inl ⟨ab,rfl⟩⟩
   |false=>
    rw[o] at z;have ab:=vl o;have ⟨U,J⟩:=ay o;obtain⟨I,rv,al,am,p⟩:=m;have ⟨x,B,aV⟩:=zF p.nOwn;have ⟨C,D,aW⟩:=p.rOwn.form;have ⟨ao,aX,aY⟩:=p.oOwn.form;subst aV aW aY;obtain⟨go,rfl⟩:=p.oOwn.some (by omega);have aZ:=p.oOwn.cell k.start (by omega);rw[J] at p;have a0:=p.cells.2.2.2.2.2.1;have a1:=p.cells.2.2.2.1;have a2:=p.cells.2.2.2.2.1;have a3:wr.cell? ⟨w.heap.size+1,5,none⟩=some zX:=by unfold cell?;rw[p.blk];rfl
    have a4:=p.cells.2.2.2.2.2.2 5;have bn:(k.start:Int)<(k.rows.length:Int):=by omega
    have ac:=vl p;have bo:=vl J;have bp:Hid (c.of.getD k.start 0=c.of.getD k.start 0):=rfl;clear G r o U p J ay;generalize c.of.getD k.start 0=t at *;go_wp2;go_region;obtain⟨f,az,bq,br,bs,v0,v1,v2,bt,bu,bv,a5⟩:∃f,f=(wr.setCell ⟨w.heap.size+1,5,none⟩ (iX t)).drew/\f.cell? ⟨w.heap.size+1,3,none⟩=some (slice x c.next.length B)/\f.cell? ⟨w.heap.size+1,4,none⟩=some (slice C c.rules.length D)/\f.cell? ⟨w.heap.size+1,5,none⟩=some (iX t)/\f.cell? ⟨w.heap.size,0,none⟩=some nX/\f.cell? ⟨w.heap.size,1,none⟩=some nX/\f.cell? ⟨w.heap.size,2,none⟩=some zX/\f.frozen? ⟨w.heap.size,0,none⟩=false/\f.frozen? ⟨w.heap.size,1,none⟩=false/\f.frozen? ⟨w.heap.size,2,none⟩=false/\Hid (f.heap[w.heap.size]? =some (.cells #[nX,nX,zX] 127)/\f.heap.size=wr.heap.size/\f.os=wr.os/\f.output=wr.output/\∀k,k≠w.heap.size+1->f.heap[k]? =wr.heap[k]?):=by
     have e:∀k,k≠w.heap.size+1->((wr.setCell ⟨w.heap.size+1,5,none⟩ (iX t)).drew).heap[k]? =wr.heap[k]? :=λk a6=>lJ _ _ _ _ a6;have E:=(e w.heap.size (by omega)).trans Y.2;have ad:((wr.setCell ⟨w.heap.size+1,5,none⟩ (iX t)).drew).heap[w.heap.size+1]? =some (.cells #[pX kb,iX (most:Int),bool c.full,slice x c.next.length B,slice C c.rules.length D,iX t,slice (qX go) k.rows.length aX] 183):=by
      show(wr.setCell ⟨w.heap.size+1,5,none⟩ (iX t)).heap[w.heap.size+1]? =_;simp[setCell,lU,ac.out.blk]
     refine⟨_,rfl,?_,?_,?_,?_,?_,?_,?_,?_,?_,E,zC _ _ _,rfl,rfl,e⟩
     ·unfold cell?;rw[ad];rfl
     ·unfold cell?;rw[ad];rfl
     ·unfold cell?;rw[ad];rfl
     ·unfold cell?;rw[E];rfl
     ·unfold cell?;rw[E];rfl
     ·unfold cell?;rw[E];rfl
     ·unfold frozen?;rw[E];rfl
     ·unfold frozen?;rw[E];rfl
     ·unfold frozen?;rw[E];rfl
    rw[<-az];clear az a1 a2 a3 a0 aZ a4 aQ aR aS aT aU q2 z y3 y5 X;go_wp2;obtain⟨l,N,c0,c1,c2,O⟩:∃l,l=((f.setCell ⟨w.heap.size,0,none⟩ (Value.slice x c.next.length B)).setCell ⟨w.heap.size,1,none⟩ (Value.slice C c.rules.length D)).setCell ⟨w.heap.size,2,none⟩ (Value.int IntKind.i64 t)/\l.cell? ⟨w.heap.size,0,none⟩=some (slice x c.next.length B)/\l.cell? ⟨w.heap.size,1,none⟩=some (slice C c.rules.length D)/\l.cell? ⟨w.heap.size,2,none⟩=some (iX t)/\Hid (Grew w l/\IntRows l (λg=>w.heap.size<=g/\g<l.heap.size) (slice x c.next.length B) c.next/\Ints l (λg=>w.heap.size<=g/\g<l.heap.size) (slice C c.rules.length D) c.rules):=by
     have ⟨a7,a8,a9,ba,bb⟩:=a5.out;have aA:=ac.tables Y.2;have ae:∀k,k≠w.heap.size->k≠w.heap.size+1->(((f.setCell ⟨w.heap.size,0,none⟩ (Value.slice x c.next.length B)).setCell ⟨w.heap.size,1,none⟩ (Value.slice C c.rules.length D)).setCell ⟨w.heap.size,2,none⟩ (Value.int IntKind.i64 t)).heap[k]? =wr.heap[k]? :=λk F T=>(lJ _ _ _ _ F).trans ((lJ _ _ _ _ F).trans ((lJ _ _ _ _ F).trans (bb k T)));have af:(((f.setCell ⟨w.heap.size,0,none⟩ (Value.slice x c.next.length B)).setCell ⟨w.heap.size,1,none⟩ (Value.slice C c.rules.length D)).setCell ⟨w.heap.size,2,none⟩ (Value.int IntKind.i64 t)).heap.size=wr.heap.size:=by rw[zC,zC,zC];exact a8
     refine⟨_,rfl,?_,?_,?_,ac.keep.trans ⟨a9,ba,by rw[af];exact lQ,λk F _=>ae k (by omega) (by omega)⟩,aA.1.moved (λb u=>ae b u.2.2.1 u.2.1) (λb u=>⟨u.2.2.2,by rw[af];exact u.1⟩),(aA.2.keep λb u=>ae b u.2.2.1 u.2.1).mono λb u=>⟨u.2.2.2,by rw[af];exact u.1⟩⟩
     all_goals simp[World.cell?,setCell,lU,a7]
    rw[<-N];clear N;refine gU (v:=tuple #[agg #[slice x c.next.length B,slice C c.rules.length D,iX t],tX]) (by simp[results,results62,go_sem,c0,c1,c2]) rfl ?_;exact(av _ _).2 ⟨O.1,.inr ⟨ab,_,_,rfl,O.2.1,O.2.2⟩⟩
section
def jZ (ps:List (Value×Bool)):List Value:=ps.flatMap λp=>[p.1,bool p.2]
theorem zH5 (ps:List (Value×Bool))(u:Value)(o:Bool):jZ (ps++[(u,o)])=jZ ps++[u,bool o]:=by simp[jZ]
theorem zFj (ps:List (Value×Bool))(i:Nat)(a:i<ps.length):(jZ ps)[i*2]? =some (ps.getD i (undef,false)).1/\(jZ ps)[i*2+1]? =some (bool (ps.getD i (undef,false)).2):=by
 induction ps generalizing i with
 |nil=>simp at a
 |cons p ps b=>
  cases i with
  |zero=>exact⟨rfl,rfl⟩
  |succ i=>
   have:=b i (by simpa using a);have e:jZ (p::ps)=p.1::bool p.2::jZ ps:=rfl;rw[e,show(i+1)*2=i*2+1+1 by omega];exact this
structure Nw (w0 w:World)(nb:Nat)(n:Nt)(sv fv rv ev:Value)(ps:List (Value×Bool)):Prop where
 blk:w.heap[nb]? =some (.cells #[sv,fv,int i64 (n.first:Int),int i64 (n.ends:Int),rv,ev] 132)
 sOwn:w.ownsRow w0.heap.size 161 2 sv n.sets.length (jZ ps)
 plen:ps.length=n.sets.length
 each:∀i,i<n.sets.length->RangesAt w0 (ps.getD i (undef,false)).1 (n.sets.getD i ⟨[],false⟩).ranges/\(ps.getD i (undef,false)).2=(n.sets.getD i ⟨[],false⟩).others
 fOwn:OwnI w w0.heap.size fv (ints n.follow)
 rOwn:OwnI w w0.heap.size rv (ints n.rules)
 eOwn:OwnB w w0.heap.size ev n.empty
 fr:∀g,fv.ownBlock=some g->some g≠rv.ownBlock
 nH:w0.heap.size<=nb
 keep:Grew w0 w
def NwIs (w0 w:World)(nb:Nat)(n:Nt):Prop:=∃sv fv rv ev ps,Nw w0 w nb n sv fv rv ev ps
def StayS (w w':World):Prop:=∀(k:Nat) (c:Array Value),w.heap[k]? =some (Obj.cells c 167)->w'.heap[k]? =some (Obj.cells c 167)
theorem StayS.refl (w:World):StayS w w:=λ_ _ a=>a
theorem StayS.trans {w w' a:World}(b:StayS w w')(d:StayS w' a):StayS w a:=λk c e=>d k c (b k c e)
theorem Keep.stayS {w w':World}(d:Grew w w'):StayS w w':=λk c a=>by
 have b:=(kQ.1 a).1;exact(d.block k b (kJ b)).trans a
section
variable {w0 w w2:World} {nb:Nat} {n:Nt} {sv fv rv ev:Value} {ps:List (Value×Bool)}
theorem Nw.lt (a:Nw w0 w nb n sv fv rv ev ps):nb<w.heap.size:=(kQ.1 a.blk).1
theorem Nw.cells (a:Nw w0 w nb n sv fv rv ev ps):w.cell? ⟨nb,0,none⟩=some sv/\w.cell? ⟨nb,1,none⟩=some fv/\w.cell? ⟨nb,2,none⟩=some (iX (n.first:Int))/\w.cell? ⟨nb,3,none⟩=some (iX (n.ends:Int))/\w.cell? ⟨nb,4,none⟩=some rv/\w.cell? ⟨nb,5,none⟩=some ev/\∀i,w.frozen? ⟨nb,i,none⟩=false:=by
 refine⟨?_,?_,?_,?_,?_,?_,λi=>?_⟩
 all_goals first|(unfold cell?;rw[a.blk];rfl)|(unfold frozen?;rw[a.blk];simp)
theorem Nw.box (a:Nw w0 w nb n sv fv rv ev ps):some nb≠sv.ownBlock/\some nb≠fv.ownBlock/\some nb≠rv.ownBlock/\some nb≠ev.ownBlock:=⟨zO a.sOwn a.blk (by decide),zO a.fOwn a.blk (by decide),zO a.rOwn a.blk (by decide),zO a.eOwn a.blk (by decide)⟩
theorem Nw.grown (a:Nw w0 w nb n sv fv rv ev ps)(b:Grew w w2):Nw w0 w2 nb n sv fv rv ev ps:=
 ⟨(b.block nb a.lt (kJ a.lt)).trans a.blk,zM a.sOwn b,a.plen,a.each,zM a.fOwn b,zM a.rOwn b,zM a.eOwn b,a.fr,a.nH,a.keep.th b⟩
theorem Nw.setSpan {b i:Nat}{x:Value}{c:Array Value}(a:Nw w0 w nb n sv fv rv ev ps)(g:w.heap[b]? =some (.cells c 167))(j:w0.heap.size<=b):Nw w0 (w.setCell ⟨b,i,none⟩ x) nb n sv fv rv ev ps:=by
 have e:∀k,k≠b->(w.setCell ⟨b,i,none⟩ x).heap[k]? =w.heap[k]? :=λk d=>lJ _ _ _ _ d;have l:nb≠b:=λf=>by
  have:=a.blk;rw[f,g] at this;simp at this
 have m:=zO a.sOwn g (by decide);have o:=zO a.fOwn g (by decide);have p:=zO a.rOwn g (by decide);have q:=zO a.eOwn g (by decide);exact⟨(e nb l).trans a.blk,zD a.sOwn λk _ _ d=>e k λf=>m (by rw[d,f]),a.plen,a.each,zD a.fOwn λk _ _ d=>e k λf=>o (by rw[d,f]),zD a.rOwn λk _ _ d=>e k λf=>p (by rw[d,f]),zD a.eOwn λk _ _ d=>e k λf=>q (by rw[d,f]),a.fr,a.nH,a.keep.trans (zP _ _ _ _ j)⟩
theorem Nw.setFollow {g cap p x:Nat}(a:Nw w0 w nb n sv (slice (qX g) n.follow.length cap) rv ev ps)(q:p<n.follow.length):Nw w0 (w.setCell ⟨g,p,none⟩ (iX (x:Int))) nb {n with follow:=n.follow.set p x} sv (slice (qX g) n.follow.length cap) rv ev ps/\StayS w (w.setCell ⟨g,p,none⟩ (iX (x:Int))):=by
 have e:∀k,k≠g->(w.setCell ⟨g,p,none⟩ (iX (x:Int))).heap[k]? =w.heap[k]? :=λk d=>lJ _ _ _ _ d;have r:=(a.fOwn.lt g rfl).1;have s:=a.box.2.1;have t:Row w w0.heap.size 3 (slice (qX g) n.follow.length cap) n.follow.length λi=>iX ((ints n.follow).getD i 0):=by
  have:=a.fOwn.rowOf;rw[zR] at this;exact this
 have u:OwnI (w.setCell ⟨g,p,none⟩ (iX (x:Int))) w0.heap.size (slice (qX g) n.follow.length cap) (ints (n.follow.set p x)):=by
  refine Row.ownI ?_;rw[zR,List.length_set];refine Row.congr (t.set p (iX (x:Int))) λi C=>?_;have y:(n.follow.set p x).getD i 0=if i=p then x else n.follow.getD i 0:=by
   rw[lW,List.getElem?_set];by_cases f:i=p
   ·subst f;rw[if_pos rfl,if_pos rfl,if_pos q];rfl
   ·rw[if_neg f,if_neg (Ne.symm f),<-lW]
  rw[jH,jH,y];split <;> rfl
 have l:∀{v:Value} {j o m:Nat} {xs:List Value},w.ownsRow w0.heap.size j o v m xs->3≠j->some g≠v.ownBlock:=λ{v} {j} {o} {m} {xs} A B b=>yD a.fOwn A B (g:=g) rfl b;refine⟨⟨(e nb λb=>s (by rw[b];rfl)).trans a.blk,zD a.sOwn λk _ _ d=>e k λb=>l a.sOwn (by decide) (by rw[d,b]),a.plen,a.each,u,zD a.rOwn λk _ _ d=>e k λb=>a.fr g rfl (by rw[d,b]),zD a.eOwn λk _ _ d=>e k λb=>l a.eOwn (by decide) (by rw[d,b]),a.fr,a.nH,a.keep.trans (zP _ _ _ _ r)⟩,λk c d=>(e k λb=>?_).trans d⟩;exact zO a.fOwn d (by decide) (by rw[b];rfl)
end
end
def Nt.linkTo (n:Nt)(from_ to:Nat):Nat->Nt
 |0=>n
 |j+1=>if from_.testBit j then{n.linkTo from_ to j with follow:=(n.linkTo from_ to j).follow.set j ((n.linkTo from_ to j).follow.getD j 0|||to)} else n.linkTo from_ to j
def Nt.link (n:Nt)(from_ to:Nat):Nt:=n.linkTo from_ to n.follow.length
theorem zGt (n:Nt)(a b j:Nat):(n.linkTo a b j).follow.length=n.follow.length:=by
 induction j with
 |zero=>rfl
 |succ j c=>
  unfold Nt.linkTo;split
  ·show(List.set _ _ _).length=_;rw[List.length_set,c]
  ·exact c
theorem zPd {b:Type}{l:List b}{i:Nat}{x y:b}(c:y∈l.set i x):y=x\/y∈l:=by
 rcases List.mem_or_eq_of_mem_set c with a|a
 ·exact .inr a
 ·exact .inl a
theorem zEm {n:Nt}{B:Nat}(a b j:Nat)(e:b<2^B)(f:∀x∈n.follow,x<2^B):∀x∈(n.linkTo a b j).follow,x<2^B:=by
 induction j with
 |zero=>exact f
 |succ j c=>
  unfold Nt.linkTo;split
  ·intro x g
   rcases zPd g with d|d
   ·subst d
    refine Nat.or_lt_two_pow ?_ e;by_cases k:j<(n.linkTo a b j).follow.length
    ·exact c _ (zZ _ _ 0 k)
    ·rw[lW,List.getElem?_eq_none (by omega)];exact Nat.pow_pos (by omega)
   ·exact c x d
  ·exact c
theorem zGs (l w:World)(f:Nat)(n:Nt)(o:NwIs l w f n)(aa:n.follow.length<=24)(E:∀x∈n.follow,x<2^24)(a b:Nat)(ab:a<16777216)(F:b<2^24):
  Calls prog 166 #[pX f,iX (a:Int),iX (b:Int)] w λe w'=>e=rX/\NwIs l w' f (n.link a b)/\StayS w w':=by
 have ac:b<16777216:=F;obtain⟨c,G⟩:∃c,c=n.linkTo a b:=⟨_,rfl⟩
 have t:Hid (c 0=n/\(∀j,a.testBit j=true->c (j+1)={c j with follow:=(c j).follow.set j ((c j).follow.getD j 0|||b)})/\(∀j,a.testBit j=false->c (j+1)=c j)/\(∀j,(c j).follow.length=n.follow.length/\∀x∈(c j).follow,x<16777216)/\c n.follow.length=n.link a b):=by
  rw[G];refine⟨rfl,λj o=>?_,λj o=>?_,λj=>⟨zGt n a b j,zEm a b j F E⟩,rfl⟩
  ·show(if a.testBit j=true then _ else _)=_;rw[if_pos o]
  ·show(if a.testBit j=true then _ else _)=_;rw[if_neg (by rw[o];decide)]
 have H:Hid (∀wr m,NwIs l wr f m->∃u cap,cX wr f 1=some (slice u m.follow.length cap)/\∀p,p<m.follow.length->∃g,u=some ⟨g,0,none⟩/\cX wr g p=some (iX ((m.follow.getD p 0:Nat):Int))/\wr.frozen? ⟨g,p,none⟩=false/\∀x:Nat,NwIs l (wr.setCell ⟨g,p,none⟩ (iX (x:Int))) f {m with follow:=m.follow.set p x}/\StayS wr (wr.setCell ⟨g,p,none⟩ (iX (x:Int)))):=by
  rintro wr m ⟨sv,ad,rv,ae,af,d⟩;have ⟨u,cap,I⟩:=d.fOwn.form;rw[zR] at I;subst I;refine⟨u,cap,d.cells.2.1,λp J=>?_⟩;obtain⟨g,rfl⟩:=d.fOwn.some (by rw[zR];omega);have K:=d.fOwn.cell p (by rw[zR];exact J);rw[jH] at K;refine⟨g,rfl,K,?_,λx=>?_⟩
  ·have ⟨ag,c2,P,_,_,_,_,_,R⟩:=d.fOwn.rowOf.get (by rw[zR];omega)
   injection P with v _ _;injection v with v;injection v with v;rw[v];exact R p
  ·have:=d.setFollow (x:=x) J
   exact⟨⟨_,_,_,_,_,this.1⟩,this.2⟩
 have S:=vl o;obtain⟨ah,ai,T,-⟩:=H w n o;generalize n.link a b=U at *;clear G o E;generalize V:n.follow.length=k at *;clear V;go_in;go_wp2;clear T;go_loopg [12] k (λq i wr=>∃j:Nat,q=k-j/\j<=k/\i=iX (j:Int)/\NwIs l wr f (c j)/\StayS w wr)
 case atStart=>exact⟨0,rfl,lX,rfl,by rw[t.out.1];exact S,StayS.refl _⟩
 case round=>
  obtain⟨j,A,aj,rfl,d,y⟩:=hrel;have z:Hid (gk=k-j/\NwIs l wr f (c j)/\StayS w wr):=⟨A,d,y⟩
  by_cases ak:j<k
  ·have W:(j:Int)<(k:Int):=by omega
   have ⟨B,C⟩:=t.2.2.2.1 j;have M:=zMq a j (by omega);cases r:a.testBit j with
   |false=>
    rw[r] at M;have s:=vl <| t.2.2.1 j r;clear A d y B C r;go_wp2;go_roundg (k-(j+1))
    case measure=>rw[z.out.1];omega
    case rel=>exact⟨j+1,rfl,by omega,by go_num,by rw[s.out];exact z.2.1,z.2.2⟩
   |true=>
    rw[r] at M;have s:=vl <| t.2.1 j r;have ⟨u,cap,X,N⟩:=H wr (c j) d;obtain⟨g,rfl,al,am,O⟩:=N j (by omega);have D:Hid (NwIs l (wr.setCell ⟨g,j,none⟩ (iX (((c j).follow.getD j 0|||b:Nat):Int))) f {c j with follow:=(c j).follow.set j ((c j).follow.getD j 0|||b)}/\StayS wr (wr.setCell ⟨g,j,none⟩ (iX (((c j).follow.getD j 0|||b:Nat):Int)))):=O _;have an:=C _ (zZ (c j).follow j 0 (by omega));have Y:Hid (bits .or i64 (((c j).follow.getD j 0:Nat):Int) (b:Int)=(((c j).follow.getD j 0|||b:Nat):Int)):=qF _ _ (by omega) (by omega);rw[B] at X;clear A d y B C r N O;rw[<-s.out,<-Y.out] at D;generalize (c j).follow.getD j 0=x at *;go_wp2;go_roundg (k-(j+1))
    case measure=>rw[z.out.1];omega
    case rel=>exact⟨j+1,rfl,by omega,by go_num,D.1,z.2.2.trans D.2⟩
  ·have W:(k:Int)<=(j:Int):=by omega
   have e:j=k:=by omega
   subst e;have s:Hid (NwIs l wr f U/\StayS w wr):=⟨by rw[<-t.out.2.2.2.2];exact d,y⟩
   clear A d y;go_wp2;go_end0;exact⟨rfl,s.1,s.2⟩
section
structure Sn where
 first:Nat
 last:Nat
 empty:Bool
def Sn.val (s:Sn):Value:=agg #[int i64 (s.first:Int),int i64 (s.last:Int),bool s.empty]
def Sn.cells (s:Sn):Array Value:=#[int i64 (s.first:Int),int i64 (s.last:Int),bool s.empty]
def Sn.then (a b:Sn):Sn:=⟨if a.empty then a.first|||b.first else a.first,if b.empty then b.last|||a.last else b.last,a.empty&&b.empty⟩
structure Sn.Small (s:Sn)(k:Nat):Prop where
 first:s.first<2^k
 last:s.last<2^k
theorem Sn.then_small {a b:Sn}{k:Nat}(d:a.Small k)(e:b.Small k):(a.then b).Small k:=by
 constructor
 ·show(if _ then _ else _)<_
  split
  ·exact Nat.or_lt_two_pow d.first e.first
  ·exact d.first
 ·show(if _ then _ else _)<_
  split
  ·exact Nat.or_lt_two_pow e.last d.last
  ·exact e.last
theorem NwIs.grown {w0 w w2:World}{nb:Nat}{n:Nt}(d:NwIs w0 w nb n)(e:Grew w w2):NwIs w0 w2 nb n:=by
 obtain⟨sv,f,rv,g,j,d⟩:=d;exact⟨sv,f,rv,g,j,d.grown e⟩
structure Three (w0 w wr:World)(nb:Nat)(n:Nt)(a b c:Sn):Prop where
 net:NwIs w0 wr nb n
 a1:wr.heap[w.heap.size]? =some (.cells a.cells 167)
 b1:wr.heap[w.heap.size+1]? =some (.cells b.cells 167)
 c1:wr.heap[w.heap.size+1+1]? =some (.cells c.cells 167)
 stay:StayS w wr
 old:w0.heap.size<=w.heap.size
section
variable {w0 w wr w2:World} {nb:Nat} {n:Nt} {a b c:Sn}
theorem Three.at (d:Three w0 w wr nb n a b c):wr.cell? ⟨w.heap.size,0,none⟩=some (iX (a.first:Int))/\wr.cell? ⟨w.heap.size,1,none⟩=some (iX (a.last:Int))/\wr.cell? ⟨w.heap.size,2,none⟩=some (bool a.empty)/\wr.cell? ⟨w.heap.size+1,0,none⟩=some (iX (b.first:Int))/\wr.cell? ⟨w.heap.size+1,1,none⟩=some (iX (b.last:Int))/\wr.cell? ⟨w.heap.size+1,2,none⟩=some (bool b.empty)/\wr.cell? ⟨w.heap.size+1+1,0,none⟩=some (iX (c.first:Int))/\wr.cell? ⟨w.heap.size+1+1,1,none⟩=some (iX (c.last:Int))/\wr.cell? ⟨w.heap.size+1+1,2,none⟩=some (bool c.empty):=by
 refine⟨?_,?_,?_,?_,?_,?_,?_,?_,?_⟩
 all_goals first|(unfold cell?;rw[d.a1];rfl)|(unfold cell?;rw[d.b1];rfl)|(unfold cell?;rw[d.c1];rfl)
theorem Three.fz (d:Three w0 w wr nb n a b c)(i:Nat):wr.frozen? ⟨w.heap.size,i,none⟩=false/\wr.frozen? ⟨w.heap.size+1,i,none⟩=false/\wr.frozen? ⟨w.heap.size+1+1,i,none⟩=false:=by
 refine⟨?_,?_,?_⟩
 ·unfold frozen?;rw[d.a1];simp
 ·unfold frozen?;rw[d.b1];simp
 ·unfold frozen?;rw[d.c1];simp
theorem NwIs.setSpan {b i:Nat}{x:Value}{c:Array Value}(d:NwIs w0 w nb n)(e:w.heap[b]? =some (.cells c 167))(f:w0.heap.size<=b):NwIs w0 (w.setCell ⟨b,i,none⟩ x) nb n:=by
 obtain⟨sv,g,rv,j,k,d⟩:=d;exact⟨sv,g,rv,j,k,d.setSpan e f⟩
theorem zAp {b i:Nat}{x:Value}(e:StayS w wr)(f:w.heap.size<=b):StayS w (wr.setCell ⟨b,i,none⟩ x):=λk c d=>by
 have g:=(kQ.1 d).1;exact(lJ _ _ _ _ (by show k≠b;omega)).trans (e k c d)
theorem Three.setA (d:Three w0 w wr nb n a b c)(x:Nat):Three w0 w (wr.setCell ⟨w.heap.size,0,none⟩ (iX (x:Int))) nb n {a with first:=x} b c:=by
 have e:∀k,k≠w.heap.size->(wr.setCell ⟨w.heap.size,0,none⟩ (iX (x:Int))).heap[k]? =wr.heap[k]? :=λk f=>lJ _ _ _ _ f;exact⟨d.net.setSpan d.a1 d.old,by simp[setCell,lU,d.a1,Sn.cells],(e _ (by omega)).trans d.b1,(e _ (by omega)).trans d.c1,zAp d.stay lQ,d.old⟩
theorem Three.setB (d:Three w0 w wr nb n a b c)(x:Nat):Three w0 w (wr.setCell ⟨w.heap.size+1,1,none⟩ (iX (x:Int))) nb n a {b with last:=x} c:=by
 have e:∀k,k≠w.heap.size+1->(wr.setCell ⟨w.heap.size+1,1,none⟩ (iX (x:Int))).heap[k]? =wr.heap[k]? :=λk f=>lJ _ _ _ _ f;have:=d.old;exact⟨d.net.setSpan d.b1 (by omega),(e _ (by omega)).trans d.a1,by simp[setCell,lU,d.b1,Sn.cells],(e _ (by omega)).trans d.c1,zAp d.stay (by omega),d.old⟩
theorem Three.setC (d:Three w0 w wr nb n a b c)(s:Sn):Three w0 w (((wr.setCell ⟨w.heap.size+1+1,0,none⟩ (iX (s.first:Int))).setCell ⟨w.heap.size+1+1,1,none⟩ (iX (s.last:Int))).setCell ⟨w.heap.size+1+1,2,none⟩ (bool s.empty)) nb n a b s:=by
 have e:∀(f:World) (i k:Nat) (x:Value),k≠w.heap.size+1+1->(f.setCell ⟨w.heap.size+1+1,i,none⟩ x).heap[k]? =f.heap[k]? :=λf i k x j=>lJ _ _ _ _ j;have m:=d.old;have c2:(wr.setCell ⟨w.heap.size+1+1,0,none⟩ (iX (s.first:Int))).heap[w.heap.size+1+1]? =some (.cells #[iX (s.first:Int),iX (c.last:Int),bool c.empty] 167):=by simp[setCell,lU,d.c1,Sn.cells]
 have g:((wr.setCell ⟨w.heap.size+1+1,0,none⟩ (iX (s.first:Int))).setCell ⟨w.heap.size+1+1,1,none⟩ (iX (s.last:Int))).heap[w.heap.size+1+1]? =some (.cells #[iX (s.first:Int),iX (s.last:Int),bool c.empty] 167):=by
  generalize l:wr.setCell ⟨w.heap.size+1+1,0,none⟩ (iX (s.first:Int))=f at *;simp[setCell,lU,c2]
 refine⟨((d.net.setSpan d.c1 (by omega)).setSpan c2 (by omega)).setSpan g (by omega),(e _ _ _ _ (by omega)).trans ((e _ _ _ _ (by omega)).trans ((e _ _ _ _ (by omega)).trans d.a1)),(e _ _ _ _ (by omega)).trans ((e _ _ _ _ (by omega)).trans ((e _ _ _ _ (by omega)).trans d.b1)),?_,zAp (zAp (zAp d.stay (by omega)) (by omega)) (by omega),d.old⟩;generalize l:(wr.setCell ⟨w.heap.size+1+1,0,none⟩ (iX (s.first:Int))).setCell ⟨w.heap.size+1+1,1,none⟩ (iX (s.last:Int))=f at *;simp[setCell,lU,g,Sn.cells]
theorem Three.start (g:NwIs w0 w nb n)(j:w0.heap.size<=w.heap.size)(a b:Sn):Three w0 w (((w.alloc (.cells a.cells 167)).alloc (.cells b.cells 167)).alloc (.cells (Sn.mk 0 0 false).cells 167)) nb n a b ⟨0,0,false⟩:=by
 have s1:(w.alloc (.cells a.cells 167)).heap.size=w.heap.size+1:=by simp
 have s2:((w.alloc (.cells a.cells 167)).alloc (.cells b.cells 167)).heap.size=w.heap.size+1+1:=by simp
 have d:=kZ (b:=w.heap.size) w (.cells a.cells 167) lQ;have e:=kZ (b:=(w.alloc (.cells a.cells 167)).heap.size) (w.alloc (.cells a.cells 167)) (.cells b.cells 167) lQ;have f:=kZ (b:=((w.alloc (.cells a.cells 167)).alloc (.cells b.cells 167)).heap.size) ((w.alloc (.cells a.cells 167)).alloc (.cells b.cells 167)) (.cells (Sn.mk 0 0 false).cells 167) lQ;refine⟨((g.grown d).grown e).grown f,?_,?_,?_,(d.stayS.trans e.stayS).trans f.stayS,j⟩
 ·exact(lG _ _ _ (by rw[s2];omega)).trans ((lG _ _ _ (by rw[s1];omega)).trans (gZ _ _))
 ·refine(lG _ _ _ (by rw[s2];omega)).trans ?_
  have:=gZ (w.alloc (.cells a.cells 167)) (.cells b.cells 167);rw[s1] at this;exact this
 ·have:=gZ ((w.alloc (.cells a.cells 167)).alloc (.cells b.cells 167)) (.cells (Sn.mk 0 0 false).cells 167)
  rw[s2] at this;exact this
theorem Three.call {f:Nt}(d:Three w0 w wr nb n a b c)(g:NwIs w0 w2 nb f)(e:StayS wr w2):Three w0 w w2 nb f a b c:=⟨g,e _ _ d.a1,e _ _ d.b1,e _ _ d.c1,d.stay.trans e,d.old⟩
end
end
theorem zDH (s w:World)(p:Nat)(n:Nt)(B:NwIs s w p n)(ap:n.follow.length<=24)(aq:∀x∈n.follow,x<2^24)(a b:Sn)(D:a.Small 24)(E:b.Small 24):
  Calls prog 164 #[pX p,a.val,b.val] w λe w'=>e=returned (a.then b).val/\NwIs s w' p (n.link a.last b.first)/\StayS w w':=by
 have ar:s.heap.size<=w.heap.size:=by obtain⟨_,_,_,_,_,B⟩:=B;exact B.keep.size
 have C:Hid (∀w2,NwIs s w2 p n->Ca 166 #[pX p,iX (a.last:Int),iX (b.first:Int)] w2 λe w'=>e=rX/\NwIs s w' p (n.link a.last b.first)/\StayS w2 w'):=λw2 F=>zGs s w2 p n F ap aq a.last b.first D.last E.first
 obtain⟨r,am,q⟩:∃r,r=((w.alloc (.cells a.cells 167)).alloc (.cells b.cells 167)).alloc (.cells (Sn.mk 0 0 false).cells 167)/\Three s w r p n a b ⟨0,0,false⟩:=⟨_,rfl,Three.start B ar a b⟩
 have au:a.first<16777216:=D.first
 have av:a.last<16777216:=D.last;have aw:b.first<16777216:=E.first
 have ax:b.last<16777216:=E.last;obtain⟨d,j,G⟩:=a;obtain⟨k,f,H⟩:=b;have a1:d<16777216:=au;have a2:j<16777216:=av;have a3:k<16777216:=aw;have a4:f<16777216:=ax;have a5:bits .or i64 (d:Int) (k:Int)=((d|||k:Nat):Int):=qF _ _ (by omega) (by omega);have a6:bits .or i64 (f:Int) (j:Int)=((f|||j:Nat):Int):=qF _ _ (by omega) (by omega);have ⟨a7,a8,a9,y3,ba,y5,bb,bc,bd⟩:=q.at
 show Calls prog 164 #[pX p,agg #[iX (d:Int),iX (j:Int),bool G],agg #[iX (k:Int),iX (f:Int),bool H]] w _;go_in;apply wp_cut;intro bg an;go_wp2;apply an.out;clear an;have ao:r=((w.alloc (Obj.cells #[iX (d:Int),iX (j:Int),bool G] 167)).alloc (Obj.cells #[iX (k:Int),iX (f:Int),bool H] 167)).alloc (Obj.cells #[zX,zX,fX] 167):=am;rw[<-ao];clear am ao;rcases G with _|_ <;> rcases H with _|_
 ·have l:=vl q
  clear q;go_wp2_with (go_at_call 166;refine(C r l.net).mono ?_;rintro e I ⟨rfl,t,u⟩;have c:=l.call t u;have ⟨J,K,L,M,N,O,P,R,S⟩:=c.at;have ⟨T,U,V⟩:=c.fz 0;have ⟨W,X,Y⟩:=c.fz 1;have ⟨aa,ab,ac⟩:=c.fz 2;have g:=c.setC ⟨d,f,false⟩;have ⟨ad,ag,ah,ai,aj,ak,y,z,A⟩:=g.at)
  refine gU (v:=agg #[iX ((d:Nat):Int),iX ((f:Nat):Int),fX]) (by simp[results,results164,go_sem,y,z,A]) rfl ?_;exact⟨rfl,g.net,g.stay⟩
 ·have l:=vl q
  clear q;go_wp2_with (go_at_call 166;refine(C r l.net).mono ?_;rintro e I ⟨rfl,t,u⟩;have c:=l.call t u;have ⟨J,K,L,M,N,O,P,R,S⟩:=c.at;have ⟨T,U,V⟩:=c.fz 0;have ⟨W,X,Y⟩:=c.fz 1;have ⟨aa,ab,ac⟩:=c.fz 2;have m:=c.setB (f|||j);have ⟨v0,v1,v2,ay,az,aA,aB,aC,aD⟩:=m.at;have ⟨aE,aF,F⟩:=m.fz 0;have ⟨aG,aH,aI⟩:=m.fz 1;have ⟨aJ,aK,aL⟩:=m.fz 2;have g:=m.setC ⟨d,f|||j,false⟩;have ⟨ad,ag,ah,ai,aj,ak,y,z,A⟩:=g.at)
  refine gU (v:=agg #[iX ((d:Nat):Int),iX ((f|||j:Nat):Int),fX]) (by simp[results,results164,go_sem,y,z,A]) rfl ?_;exact⟨rfl,g.net,g.stay⟩
 ·have l:=vl q
  clear q;go_wp2_with (go_at_call 166;refine(C r l.net).mono ?_;rintro e I ⟨rfl,t,u⟩;have c:=l.call t u;have ⟨J,K,L,M,N,O,P,R,S⟩:=c.at;have ⟨T,U,V⟩:=c.fz 0;have ⟨W,X,Y⟩:=c.fz 1;have ⟨aa,ab,ac⟩:=c.fz 2;have o:=c.setA (d|||k);have ⟨s0,s1,s2,aM,aN,aO,aP,aQ,aR⟩:=o.at;have ⟨aS,aT,aU⟩:=o.fz 0;have ⟨aV,aW,aX⟩:=o.fz 1;have ⟨aY,aZ,a0⟩:=o.fz 2;have g:=o.setC ⟨d|||k,f,false⟩;have ⟨ad,ag,ah,ai,aj,ak,y,z,A⟩:=g.at)
  refine gU (v:=agg #[iX ((d|||k:Nat):Int),iX ((f:Nat):Int),fX]) (by simp[results,results164,go_sem,y,z,A]) rfl ?_;exact⟨rfl,g.net,g.stay⟩
 ·have l:=vl q
  clear q;go_wp2_with (go_at_call 166;refine(C r l.net).mono ?_;rintro e I ⟨rfl,t,u⟩;have c:=l.call t u;have ⟨J,K,L,M,N,O,P,R,S⟩:=c.at;have ⟨T,U,V⟩:=c.fz 0;have ⟨W,X,Y⟩:=c.fz 1;have ⟨aa,ab,ac⟩:=c.fz 2;have o:=c.setA (d|||k);have ⟨s0,s1,s2,aM,aN,aO,aP,aQ,aR⟩:=o.at;have ⟨aS,aT,aU⟩:=o.fz 0;have ⟨aV,aW,aX⟩:=o.fz 1;have ⟨aY,aZ,a0⟩:=o.fz 2;have m:=o.setB (f|||j);have ⟨v0,v1,v2,ay,az,aA,aB,aC,aD⟩:=m.at;have ⟨aE,aF,F⟩:=m.fz 0;have ⟨aG,aH,aI⟩:=m.fz 1;have ⟨aJ,aK,aL⟩:=m.fz 2;have g:=m.setC ⟨d|||k,f|||j,true⟩;have ⟨ad,ag,ah,ai,aj,ak,y,z,A⟩:=g.at)
  refine gU (v:=agg #[iX ((d|||k:Nat):Int),iX ((f|||j:Nat):Int),tX]) (by simp[results,results164,go_sem,y,z,A]) rfl ?_;exact⟨rfl,g.net,g.stay⟩
section
attribute [local go_sem ↓] Go.wp_at_zero Go.wp_at_succ
theorem zPl:(prog.info? 161).map (λi=>(i.zero,i.size,i.bytes))=some (some (agg #[nX,bool false]),2,32):=by kernel_rfl
section
variable {w0 w w2:World} {nb:Nat} {n:Nt} {sv fv rv ev:Value} {ps:List (Value×Bool)}
theorem Nw.addSet {o:Obj}{g cap m:Nat}{u:Value}{c:Cs}(b:Nw w0 w nb n sv fv rv ev ps)(r:m=n.sets.length)(s:RangesAt w0 u c.ranges)(t:w2.ownsRow w0.heap.size 161 2 (slice (qX g) (m+1) cap) (m+1) (jZ ps++[u,bool c.others]))(f:(w.alloc o).grownBy w2 sv.ownBlock)(v:sv.ownBlock=some g\/w.heap.size<=g):
  Nw w0 (w2.setCell ⟨nb,0,none⟩ (slice (qX g) (m+1) cap)) nb {n with sets:=n.sets++[c]} (slice (qX g) (m+1) cap) fv rv ev (ps++[(u,c.others)])/\StayS w (w2.setCell ⟨nb,0,none⟩ (slice (qX g) (m+1) cap)):=by
 subst r;have l:=b.box;have x:=b.lt;have p:∀j,j<w.heap.size->some j≠sv.ownBlock->w2.heap[j]? =w.heap[j]? :=λj J y=>(f.block j (by simp;omega) y).trans (lG _ _ _ (by omega));have z:w.heap.size<=w2.heap.size:=lY (by simp) f.size;have A:=(p nb x l.1).trans b.blk;have e:∀k,k≠nb->(w2.setCell ⟨nb,0,none⟩ (slice (qX g) (n.sets.length+1) cap)).heap[k]? =w2.heap[k]? :=λk a=>lJ _ _ _ _ a;have B:=zU f b.fOwn λk a=>yD b.fOwn b.sOwn (by decide) a;have C:=zU f b.rOwn λk a=>yD b.rOwn b.sOwn (by decide) a;have D:=zU f b.eOwn λk a=>yD b.eOwn b.sOwn (by decide) a;have K:nb≠g:=λd=>by
  rcases v with q|q
  ·exact l.1 (by rw[q,d])
  ·omega
 have E:=b.plen;have F:(n.sets++[c]).length=n.sets.length+1:=by simp
 refine⟨⟨by simp[setCell,lU,A],?_,by simp[E],λi G=>?_,zD B λk _ _ a=>e k λd=>l.2.1 (by rw[a,d]),zD C λk _ _ a=>e k λd=>l.2.2.1 (by rw[a,d]),zD D λk _ _ a=>e k λd=>l.2.2.2 (by rw[a,d]),b.fr,b.nH,b.keep.trans ⟨f.os,f.output,by rw[zC];exact z,λk a _=>(e k (by have:=b.nH;omega)).trans (p k (by have:=b.keep.size;omega) λd=>by have:=(b.sOwn.lt k d.symm).1;omega)⟩⟩,λk L a=>?_⟩
 ·show World.ownsRow _ _ _ _ _ (n.sets++[c]).length (jZ (ps++[(u,c.others)]))
  rw[F,zH5];exact zD t λk _ _ a=>e k λd=>by
   have:g=k:=by simpa[Value.ownBlock] using a
   omega
 ·have M:i<(n.sets++[c]).length:=G
  show RangesAt w0 ((ps++[(u,c.others)]).getD i (undef,false)).1 ((n.sets++[c]).getD i ⟨[],false⟩).ranges/\((ps++[(u,c.others)]).getD i (undef,false)).2=((n.sets++[c]).getD i ⟨[],false⟩).others;by_cases N:i=n.sets.length
  ·rw[lW,hZ (by omega),show i-ps.length=0 by omega,lW,hZ (by omega),show i-n.sets.length=0 by omega]
   exact⟨s,rfl⟩
  ·rw[lW,kW (by omega),lW,kW (by omega),<-lW,<-lW]
   exact b.each i (by omega)
 ·have H:=(kQ.1 a).1
  have I:k≠nb:=λd=>by
   rw[d,b.blk] at a;injection a with a;injection a with _ a;exact absurd a (by decide)
  exact(e k I).trans ((p k H (zO b.sOwn a (by decide))).trans a)
theorem Nw.addFollow {o:Obj}{g cap m x:Nat}(b:Nw w0 w nb n sv fv rv ev ps)(t:m=n.follow.length)(u:w2.ownsRow w0.heap.size 3 1 (slice (qX g) (m+1) cap) (m+1) (((ints n.follow).map λx=>iX x)++[iX (x:Int)]))(d:(w.alloc o).grownBy w2 fv.ownBlock)(q:fv.ownBlock=some g\/w.heap.size<=g):
  Nw w0 (w2.setCell ⟨nb,1,none⟩ (slice (qX g) (m+1) cap)) nb {n with follow:=n.follow++[x]} sv (slice (qX g) (m+1) cap) rv ev ps/\StayS w (w2.setCell ⟨nb,1,none⟩ (slice (qX g) (m+1) cap)):=by
 subst t;have f:=b.box;have v:=b.lt;have p:∀j,j<w.heap.size->some j≠fv.ownBlock->w2.heap[j]? =w.heap[j]? :=λj H y=>(d.block j (by simp;omega) y).trans (lG _ _ _ (by omega));have z:w.heap.size<=w2.heap.size:=lY (by simp) d.size;have A:=(p nb v f.2.1).trans b.blk;have e:∀k,k≠nb->(w2.setCell ⟨nb,1,none⟩ (slice (qX g) (n.follow.length+1) cap)).heap[k]? =w2.heap[k]? :=λk a=>lJ _ _ _ _ a;have B:=zU d b.sOwn λk a=>yD b.sOwn b.fOwn (by decide) a;have C:=zU d b.rOwn λk a c=>b.fr k c.symm a.symm;have D:=zU d b.eOwn λk a=>yD b.eOwn b.fOwn (by decide) a;have I:nb≠g:=λc=>by
  rcases q with r|r
  ·exact f.2.1 (by rw[r,c])
  ·omega
 have E:OwnI w2 w0.heap.size (slice (qX g) (n.follow.length+1) cap) (ints (n.follow++[x])):=by
  rw[zBS];have:=zR n.follow;have s:=OwnI.snoc (l:=ints n.follow) (x:=(x:Int)) (by rw[this];exact u);rw[this] at s;exact s
 refine⟨⟨by simp[setCell,lU,A],zD B λk _ _ a=>e k λc=>f.1 (by rw[a,c]),b.plen,b.each,zD E λk _ _ a=>e k λc=>?_,zD C λk _ _ a=>e k λc=>f.2.2.1 (by rw[a,c]),zD D λk _ _ a=>e k λc=>f.2.2.2 (by rw[a,c]),qR b.rOwn b.fr q,b.nH,b.keep.trans ⟨d.os,d.output,by rw[zC];exact z,λk a _=>(e k (by have:=b.nH;omega)).trans (p k (by have:=b.keep.size;omega) λc=>by have:=(b.fOwn.lt k c.symm).1;omega)⟩⟩,λk J a=>?_⟩
 ·have:g=k:=by simpa[Value.ownBlock] using a
  omega
 ·have F:=(kQ.1 a).1
  have G:k≠nb:=λc=>by
   rw[c,b.blk] at a;injection a with a;injection a with _ a;exact absurd a (by decide)
  exact(e k G).trans ((p k F (zO b.fOwn a (by decide))).trans a)
end
def Nt.place (n:Nt)(c:Cs):Nt:={n with sets:=n.sets++[c],follow:=n.follow++[0]}
def Nt.spot (n:Nt):Sn:=⟨2^n.sets.length,2^n.sets.length,false⟩
end
section
attribute [local go_sem ↓] Go.wp_at_zero Go.wp_at_succ
theorem zJL (d w:World)(a:Nat)(n:Nt)(m:NwIs d w a n)(aU:n.sets.length<=24)(aV:n.follow.length<=24)(u:Value)(c:Cs)(J:RangesAt d u c.ranges):
  Calls prog 123 #[pX a,agg #[u,bool c.others]] w λe w'=>e=returned n.spot.val/\NwIs d w' a (n.place c)/\StayS w w':=by
 have ⟨am,an,ao,ap,aq⟩:=info_parts yG;have ⟨is_,ar,av,aw,ax⟩:=info_parts zPl;obtain⟨sv,ay,rv,az,C,m⟩:=m;obtain⟨D,E,r,-⟩:=id J;obtain⟨w1,K,o,L,aA,aB,aC⟩:∃w1,w1=(w.alloc (.cells #[u,bool c.others] 161)).alloc (.cells #[zX,zX,fX] 167)/\Hid (Nw d w1 a n sv ay rv az C)/\Hid (StayS w w1/\w1.heap.size=w.heap.size+1+1)/\w1.cell? ⟨w.heap.size,0,none⟩=some u/\w1.cell? ⟨w.heap.size,1,none⟩=some (bool c.others)/\Hid (w1.heap[w.heap.size+1]? =some (.cells #[zX,zX,fX] 167)):=by
  have M:=kZ (b:=w.heap.size) w (.cells #[u,bool c.others] 161) lQ;have N:=kZ (b:=(w.alloc (.cells #[u,bool c.others] 161)).heap.size) (w.alloc (.cells #[u,bool c.others] 161)) (.cells #[zX,zX,fX] 167) lQ;have s1:(w.alloc (.cells #[u,bool c.others] 161)).heap.size=w.heap.size+1:=by simp
  have O:((w.alloc (.cells #[u,bool c.others] 161)).alloc (.cells #[zX,zX,fX] 167)).heap[w.heap.size]? =some (.cells #[u,bool c.others] 161):=(lG _ _ _ (by rw[s1];omega)).trans (gZ _ _);refine⟨_,rfl,(m.grown M).grown N,⟨M.stayS.trans N.stayS,by simp⟩,?_,?_,?_⟩
  ·unfold cell?;rw[O];rfl
  ·unfold cell?;rw[O];rfl
  ·have:=gZ (w.alloc (.cells #[u,bool c.others] 161)) (.cells #[zX,zX,fX] 167)
   rw[s1] at this;exact this
 have ⟨s,y,aD⟩:=zF m.sOwn;have ⟨R,S,T⟩:=m.fOwn.form;rw[zR] at T;have aW:=m.plen;have aX:d.heap.size<=w.heap.size:=m.keep.size;subst aD T;have U:=o.cells.1;have V:=o.cells.2.2.2.2.2.2 0;have W:=o.lt;have aY:d.heap.size<=w1.heap.size:=o.keep.size;have aE:=vl o.box.1;have X:w1.ownsRow d.heap.size 161 2 (slice s n.sets.length y) n.sets.length (jZ C):=o.sOwn;have aZ:=zGl n.sets.length (by omega);have aF:=vl J;have aG:Hid (n.spot.val=agg #[iX ((2^n.sets.length:Nat):Int),iX ((2^n.sets.length:Nat):Int),fX]):=rfl;generalize a0:2^n.sets.length=P at *;generalize c.ranges.length=rl at *;subst r;have a1:w.heap.size<w1.heap.size:=by rw[L.out.2];omega
 go_in;apply wp_cut;intro a2 aH;go_wp2;apply aH.out;rw[<-K];clear K;go_wp2;go_region_law ((refine step_append_lies _ (by rfl) (.tmp 16) (.tmp 18) 130 (by rfl) d.heap.size 161 is_ _ 2 32 underlying130 ar av aw ax rfl (by decide) (slice s n.sets.length y) n.sets.length (jZ C) (by simp[Act.eval,Act.put]) ((X.alloc _).drew) ⟨w1.heap.size,0,none⟩ 1 1 [slice D rl E,bool c.others] (by simp[Act.eval,Act.put]) (by rfl) (news_of_block (cs:=#[slice D rl E,bool c.others]) (t:=161) (fr:=(0,0)) (gZ w1 _)) (by simp[Value.oneCell']) (by decide) (by unfold maxLen;omega) (by omega) (by simp;omega) (w1.heap.size+1) (by simp) ?_;intro Y cap w2 aa F ab aI;have G:=F.block a (by simp;omega) aE;have aJ:w2.cell? ⟨a,0,none⟩=some (slice s n.sets.length y):=(gY G).trans ((gV _ _ _ W).trans U);have aK:w2.frozen? ⟨a,0,none⟩=false:=(gW G).trans ((frozen?_alloc_past _ _ _ W).trans V)))
 all_goals
  have ac:(w1.drew.alloc (Obj.cells #[Value.slice D rl E,Value.bool c.others] 161)).grownBy w2 (Value.slice s n.sets.length y).ownBlock:=F;have g:=vl <| (o.grown (Keep.drew _)).addSet rfl aF aa ac (by
   rcases ab with q|q
   ·exact .inl q
   ·right;show w1.heap.size<=Y;omega)
  clear aa F ac ab aI G aJ aK X U V aA aB;generalize w2.setCell ⟨a,0,none⟩ (slice (qX Y) (n.sets.length+1) cap)=z at *;have v1:=g.1.cells.2.1;have a3:=g.1.lt;have a4:d.heap.size<=z.heap.size:=g.1.keep.size;have aL:z.ownsRow d.heap.size 3 1 (slice R n.follow.length S) n.follow.length ((ints n.follow).map λx=>iX x):=by
   have:=g.1.fOwn;unfold OwnI at this;rw[zR] at this;exact this
  go_wp2_with (at_builtin;refine wpList_append_lies _ rfl _ _ 45 rfl (d.heap.size) 3 am zX 1 8 underlying45 an ao ap aq rfl (by decide) _ _ _ rfl (aL.alloc _) ⟨z.heap.size,0,none⟩ 1 1 [zX] rfl rfl (cell_one_new _ _ _) (by intro u r;simp at r;subst r;rfl) (by decide) (by unfold maxLen;omega) (by omega) (by simp;omega) _ rfl ?_;intro j k f aM ad aN a5;have ae:f.heap[a]? =z.heap[a]? :=(ad.block _ (by simp;omega) g.1.box.2.1).trans (lG _ _ _ (by omega));have ag:f.cell? ⟨a,1,none⟩=some (slice R n.follow.length S):=(gY ae).trans v1;have a6:f.frozen? ⟨a,1,none⟩=false:=(gW ae).trans (g.1.cells.2.2.2.2.2.2 1);have H:=g.1.addFollow (x:=0) rfl aM ad (by rcases aN with q|q;exact .inl q;right;rw[q];simp);have l:=H.2 _ _ (g.2 _ _ aC);have aO:=vl H;have aP:=vl l;have a7:(f.setCell ⟨a,1,none⟩ (slice (qX j) (n.follow.length+1) k)).cell? ⟨w.heap.size+1,0,none⟩=some zX:=(by unfold cell?;rw[l];rfl);have a8:(f.setCell ⟨a,1,none⟩ (slice (qX j) (n.follow.length+1) k)).cell? ⟨w.heap.size+1,1,none⟩=some zX:=(by unfold cell?;rw[l];rfl);have a9:(f.setCell ⟨a,1,none⟩ (slice (qX j) (n.follow.length+1) k)).cell? ⟨w.heap.size+1,2,none⟩=some fX:=(by unfold cell?;rw[l];rfl);have ba:(f.setCell ⟨a,1,none⟩ (slice (qX j) (n.follow.length+1) k)).frozen? ⟨w.heap.size+1,0,none⟩=false:=(by unfold frozen?;rw[l];rfl);have bb:(f.setCell ⟨a,1,none⟩ (slice (qX j) (n.follow.length+1) k)).frozen? ⟨w.heap.size+1,1,none⟩=false:=(by unfold frozen?;rw[l];rfl);have q2:(f.setCell ⟨a,1,none⟩ (slice (qX j) (n.follow.length+1) k)).frozen? ⟨w.heap.size+1,2,none⟩=false:=(by unfold frozen?;rw[l];rfl);clear H l)
  obtain⟨p,ah,c0,c1,c2,ai⟩:∃p,p=(((f.setCell ⟨a,1,none⟩ (slice (qX j) (n.follow.length+1) k)).setCell ⟨w.heap.size+1,0,none⟩ (iX (P:Int))).setCell ⟨w.heap.size+1,1,none⟩ (iX (P:Int))).setCell ⟨w.heap.size+1,2,none⟩ fX/\p.cell? ⟨w.heap.size+1,0,none⟩=some (iX (P:Int))/\p.cell? ⟨w.heap.size+1,1,none⟩=some (iX (P:Int))/\p.cell? ⟨w.heap.size+1,2,none⟩=some fX/\Hid (NwIs d p a (n.place c)/\StayS w p):=by
   have aj:=aO.out;have ak:=aP.out;generalize f.setCell ⟨a,1,none⟩ (slice (qX j) (n.follow.length+1) k)=A at *;have al:(A.setCell ⟨w.heap.size+1,0,none⟩ (iX (P:Int))).heap[w.heap.size+1]? =some (.cells #[iX (P:Int),zX,fX] 167):=by simp[setCell,lU,ak]
   have aQ:NwIs d (A.setCell ⟨w.heap.size+1,0,none⟩ (iX (P:Int))) a (n.place c):=NwIs.setSpan ⟨_,_,_,_,_,aj.1⟩ ak (by omega);have ag:StayS w (A.setCell ⟨w.heap.size+1,0,none⟩ (iX (P:Int))):=zAp ((L.1.trans g.2).trans aj.2) (by omega);generalize A.setCell ⟨w.heap.size+1,0,none⟩ (iX (P:Int))=B at *;have b2:(B.setCell ⟨w.heap.size+1,1,none⟩ (iX (P:Int))).heap[w.heap.size+1]? =some (.cells #[iX (P:Int),iX (P:Int),fX] 167):=by simp[setCell,lU,al]
   have aR:NwIs d (B.setCell ⟨w.heap.size+1,1,none⟩ (iX (P:Int))) a (n.place c):=aQ.setSpan al (by omega);have aS:StayS w (B.setCell ⟨w.heap.size+1,1,none⟩ (iX (P:Int))):=zAp ag (by omega);generalize B.setCell ⟨w.heap.size+1,1,none⟩ (iX (P:Int))=aT at *;have I:(aT.setCell ⟨w.heap.size+1,2,none⟩ fX).heap[w.heap.size+1]? =some (.cells #[iX (P:Int),iX (P:Int),fX] 167):=by simp[setCell,lU,b2]
   refine⟨_,rfl,?_,?_,?_,aR.setSpan b2 (by omega),zAp aS (by omega)⟩
   ·unfold cell?;rw[I];rfl
   ·unfold cell?;rw[I];rfl
   ·unfold cell?;rw[I];rfl
  rw[<-ah];clear ah;refine gU (v:=agg #[iX (P:Int),iX (P:Int),fX]) (by simp[results,results123,go_sem,c0,c1,c2]) rfl ?_;exact⟨by rw[aG.out],ai.1,ai.2⟩
end
structure Tr where
 kind:Nat
 set:Cs
 parts:List Tr
 least:Nat
 most:Nat
 endless:Bool
 chars:Nat
def Tr.none:Tr:=⟨0,⟨[],false⟩,[],0,0,false,0⟩
def Tr.copies (t:Tr):Nat:=if t.endless then(if t.least=0 then 1 else t.least) else t.most
def TreeAt (w:World):Nat->Nat->Tr->Prop
 |0,_,_=>False
 |d+1,b,t=>b<w.heap.size/\∃rv pv,w.heap[b]? =some (.cells #[int i64 (t.kind:Int),rv,bool t.set.others,pv,int i64 (t.least:Int),int i64 (t.most:Int),bool t.endless,int i64 (t.chars:Int)] 165)/\RangesAt w rv t.set.ranges/\
   ∃ao cap,pv=slice ao t.parts.length cap/\(t.parts.length<=cap/\t.parts.length<=1000000000000/\t.least<=1000/\t.most<=1000)/\cap<=maxLen/\∀i,i<t.parts.length->∃g o p,ao=some ⟨g,o,none⟩/\In w g/\w.cell? ⟨g,o+i,none⟩=some (pointer (some ⟨p,0,none⟩))/\TreeAt w d p (t.parts.getD i Tr.none)
abbrev Lay:=Nt->Tr->Nt×Sn
def rowTo (sub:Lay)(n:Nt)(parts:List Tr):Nat->Nt×Sn
 |0=>(n,⟨0,0,true⟩)
 |j+1=>((sub (rowTo sub n parts j).1 (parts.getD j Tr.none)).1.link (rowTo sub n parts j).2.last (sub (rowTo sub n parts j).1 (parts.getD j Tr.none)).2.first,(rowTo sub n parts j).2.then (sub (rowTo sub n parts j).1 (parts.getD j Tr.none)).2)
def Sn.or (a b:Sn):Sn:=⟨a.first|||b.first,a.last|||b.last,a.empty||b.empty⟩
def zAf (sub:Lay)(n:Nt)(parts:List Tr):Nat->Nt×Sn
 |0=>(n,⟨0,0,false⟩)
 |j+1=>((sub (zAf sub n parts j).1 (parts.getD j Tr.none)).1,(zAf sub n parts j).2.or (sub (zAf sub n parts j).1 (parts.getD j Tr.none)).2)
def zAY (t:Tr)(j:Nat)(q:Nt×Sn):Nt:=if t.endless&&(j+1==t.copies) then q.1.link q.2.last q.2.first else q.1
def zBQ (t:Tr)(j:Nat)(q:Nt×Sn):Sn:=if t.least<=j then{q.2 with empty:=true} else q.2
def yI (sub:Lay)(n:Nt)(t:Tr):Nat->Nt×Sn
 |0=>(n,⟨0,0,true⟩)
 |j+1=>((zAY t j (rowTo sub (yI sub n t j).1 t.parts t.parts.length)).link (yI sub n t j).2.last (zBQ t j (rowTo sub (yI sub n t j).1 t.parts t.parts.length)).first,(yI sub n t j).2.then (zBQ t j (rowTo sub (yI sub n t j).1 t.parts t.parts.length)))
def xR:Nat->Lay
 |0,n,_=>(n,⟨0,0,true⟩)
 |d+1,n,t=>if t.kind=1 then(n.place t.set,n.spot) else if t.kind=2 then rowTo (xR d) n t.parts t.parts.length else if t.kind=3 then zAf (xR d) n t.parts t.parts.length else if t.kind=4 then yI (xR d) n t t.copies else(n,⟨0,0,true⟩)
def xG (f:Tr->Nat)(parts:List Tr):Nat->Nat
 |0=>0
 |j+1=>xG f parts j+f (parts.getD j Tr.none)
def qI:Nat->Tr->Nat
 |0,_=>0
 |d+1,t=>if t.kind=1 then 1 else if t.kind=2\/t.kind=3 then xG (qI d) t.parts t.parts.length else if t.kind=4 then t.copies*xG (qI d) t.parts t.parts.length else 0
structure Nt.Good (n:Nt):Prop where
 len:n.sets.length<=24
 same:n.follow.length=n.sets.length
 fol:∀x∈n.follow,x<2^n.sets.length
theorem Nt.Good.top {n:Nt}(a:n.Good):∀x∈n.follow,x<2^24:=λx b=>lZ (a.fol x b) (kG (by omega) a.len)
theorem Sn.Small.up {s:Sn}{k m:Nat}(a:s.Small k)(b:k<=m):s.Small m:=⟨lZ a.first (kG (by omega) b),lZ a.last (kG (by omega) b)⟩
theorem zCO (n:Nt)(a b j:Nat):(n.linkTo a b j).sets=n.sets/\(n.linkTo a b j).rules=n.rules/\(n.linkTo a b j).empty=n.empty/\(n.linkTo a b j).first=n.first/\(n.linkTo a b j).ends=n.ends:=by
 induction j with
 |zero=>exact⟨rfl,rfl,rfl,rfl,rfl⟩
 |succ j c=>
  unfold Nt.linkTo;split
  ·exact c
  ·exact c
theorem zDh {n:Nt}(c:n.Good)(a b:Nat)(d:b<2^n.sets.length):(n.link a b).Good/\(n.link a b).sets=n.sets:=by
 have e:=(zCO n a b n.follow.length).1;refine⟨⟨by unfold Nt.link;rw[e];exact c.len,by unfold Nt.link;rw[e,zGt];exact c.same,?_⟩,e⟩;unfold Nt.link;rw[e];exact zEm a b _ d c.fol
theorem zK2 {n:Nt}(d:n.Good)(c:Cs)(g:n.sets.length+1<=24):(n.place c).Good/\(n.place c).sets.length=n.sets.length+1/\n.spot.Small (n.sets.length+1):=by
 have e:(n.place c).sets.length=n.sets.length+1:=by simp[Nt.place]
 have a:2^n.sets.length<2^(n.sets.length+1):=Nat.pow_lt_pow_right (by omega) (by omega);refine⟨⟨by omega,by simp[Nt.place,d.same],λx f=>?_⟩,e,⟨a,a⟩⟩;rw[e];rcases kU.1 f with b|b
 ·exact Nat.lt_trans (d.fol x b) a
 ·rw[kY.1 b];exact Nat.pow_pos (by omega)
def Lays (sub:Lay)(cnt:Tr->Nat):Prop:=∀n t,n.Good->n.sets.length+cnt t<=24->(sub n t).1.Good/\(sub n t).1.sets.length=n.sets.length+cnt t/\(sub n t).2.Small (n.sets.length+cnt t)
theorem zA9 (k:Nat)(e:Bool):(Sn.mk 0 0 e).Small k:=⟨Nat.pow_pos (by omega),Nat.pow_pos (by omega)⟩
theorem zDT (f:Tr->Nat)(parts:List Tr)(j m:Nat)(a:j<=m):xG f parts j<=xG f parts m:=by
 induction m with
 |zero=>rw[Nat.le_zero.1 a];exact lQ
 |succ m b=>
  by_cases e:j=m+1
  ·rw[e];exact lQ
  ·exact lY (b (by omega)) (Nat.le_add_right _ _)
theorem zBa {a:Lay}{cnt:Tr->Nat}(f:Lays a cnt){n:Nt}(g:n.Good)(parts:List Tr)(j:Nat)(k:n.sets.length+xG cnt parts j<=24):(rowTo a n parts j).1.Good/\(rowTo a n parts j).1.sets.length=n.sets.length+xG cnt parts j/\(rowTo a n parts j).2.Small (n.sets.length+xG cnt parts j):=by
 induction j with
 |zero=>exact⟨g,rfl,zA9 _ _⟩
 |succ j l=>
  have r:n.sets.length+(xG cnt parts j+cnt (parts.getD j Tr.none))<=24:=k;have ⟨m,o,p⟩:=l (by omega);have ⟨q,b,c⟩:=f _ (parts.getD j Tr.none) m (by omega);rw[o] at b c;have e:n.sets.length+xG cnt parts (j+1)=n.sets.length+xG cnt parts j+cnt (parts.getD j Tr.none):=by show n.sets.length+(xG cnt parts j+cnt (parts.getD j Tr.none))=_;omega
  rw[e];have d:=zDh q (rowTo a n parts j).2.last _ (by rw[b];exact c.first);exact⟨d.1,by show((a _ _).1.link _ _).sets.length=_;rw[d.2];exact b,Sn.then_small (p.up (by omega)) c⟩
theorem zCX {a:Lay}{cnt:Tr->Nat}(f:Lays a cnt){n:Nt}(g:n.Good)(parts:List Tr)(j:Nat)(k:n.sets.length+xG cnt parts j<=24):(zAf a n parts j).1.Good/\(zAf a n parts j).1.sets.length=n.sets.length+xG cnt parts j/\(zAf a n parts j).2.Small (n.sets.length+xG cnt parts j):=by
 induction j with
 |zero=>exact⟨g,rfl,zA9 _ _⟩
 |succ j l=>
  have s:n.sets.length+(xG cnt parts j+cnt (parts.getD j Tr.none))<=24:=k;have ⟨o,p,q⟩:=l (by omega);have ⟨r,c,b⟩:=f _ (parts.getD j Tr.none) o (by omega);rw[p] at c b;have e:n.sets.length+xG cnt parts (j+1)=n.sets.length+xG cnt parts j+cnt (parts.getD j Tr.none):=by show n.sets.length+(xG cnt parts j+cnt (parts.getD j Tr.none))=_;omega
  rw[e];have d:=q.up (m:=n.sets.length+xG cnt parts j+cnt (parts.getD j Tr.none)) (by omega);exact⟨r,c,⟨Nat.or_lt_two_pow d.first b.first,Nat.or_lt_two_pow d.last b.last⟩⟩
theorem zJ6 {t:Tr}{j k:Nat}{q:Nt×Sn}(a:q.2.Small k):(zBQ t j q).Small k:=by
 unfold zBQ;split
 ·exact⟨a.first,a.last⟩
 ·exact a
theorem zCm {a:Lay}{cnt:Tr->Nat}(k:Lays a cnt){n:Nt}(l:n.Good)(t:Tr)(j:Nat)(m:n.sets.length+j*xG cnt t.parts t.parts.length<=24):(yI a n t j).1.Good/\(yI a n t j).1.sets.length=n.sets.length+j*xG cnt t.parts t.parts.length/\(yI a n t j).2.Small (n.sets.length+j*xG cnt t.parts t.parts.length):=by
 induction j with
 |zero=>exact⟨l,by simp[yI],zA9 _ _⟩
 |succ j o=>
  rw[Nat.add_mul,Nat.one_mul] at m ⊢;have ⟨p,q,r⟩:=o (by omega);have ⟨f,b,c⟩:=zBa k p t.parts t.parts.length (by omega);rw[q] at b c;have d:(zAY t j (rowTo a (yI a n t j).1 t.parts t.parts.length)).Good/\(zAY t j (rowTo a (yI a n t j).1 t.parts t.parts.length)).sets=(rowTo a (yI a n t j).1 t.parts t.parts.length).1.sets:=by
   unfold zAY;split
   ·exact zDh f _ _ (by rw[b];exact c.first)
   ·exact⟨f,rfl⟩
  have s2:=zJ6 (t:=t) (j:=j) c;have g:=zDh d.1 (yI a n t j).2.last (zBQ t j (rowTo a (yI a n t j).1 t.parts t.parts.length)).first (by rw[d.2,b];exact s2.first)
  have e:n.sets.length+(j*xG cnt t.parts t.parts.length+xG cnt t.parts t.parts.length)=n.sets.length+j*xG cnt t.parts t.parts.length+xG cnt t.parts t.parts.length:=by omega
  rw[e];exact⟨g.1,by show((zAY t j _).link _ _).sets.length=_;rw[g.2,d.2];exact b,Sn.then_small (r.up (by omega)) s2⟩
theorem zAD (c:Nat):Lays (xR c) (qI c):=by
 induction c with
 |zero=>exact λn t b _=>⟨b,rfl,zA9 _ _⟩
 |succ c e=>
  intro n t b a;unfold xR;unfold qI at a ⊢;by_cases h:t.kind=1
  ·simp only[if_pos h] at a ⊢
   have:=zK2 b t.set a;exact this
  ·simp only[if_neg h] at a ⊢
   by_cases f:t.kind=2
   ·simp only[if_pos f,if_pos (Or.inl f:t.kind=2\/t.kind=3)] at a ⊢
    exact zBa e b _ _ a
   ·simp only[if_neg f] at a ⊢
    by_cases g:t.kind=3
    ·simp only[if_pos g,if_pos (Or.inr g:t.kind=2\/t.kind=3)] at a ⊢
     exact zCX e b _ _ a
    ·simp only[if_neg g,if_neg (show¬(t.kind=2\/t.kind=3) by omega)] at a ⊢
     by_cases j:t.kind=4
     ·simp only[if_pos j] at a ⊢
      exact zCm e b t _ a
     ·simp only[if_neg j] at a ⊢
      exact⟨b,rfl,zA9 _ _⟩
end Go.Proofs.YtbjcfkdnjaiclaaGreat
