import Derived.Test.YtbjcfkdnjaiclaaGreatB0
import Derived.Test.YtbjcfkdnjaiclaaGreatB7
/- Parts of the proof. -/
set_option linter.unusedVariables false
set_option linter.unusedSimpArgs false
set_option maxHeartbeats 4000000
set_option maxRecDepth 100000
namespace Go.Proofs.YtbjcfkdnjaiclaaGreat
open Go.RowKit Go.Proofs.Tryz Go.World
theorem OwnI.some {w:World}{H n cap:Nat}{ao:Option Addr}{l:List Int}(h:OwnI w H (.slice ao n cap) l)(hl:0<l.length):∃g,ao=some ⟨g,0,none⟩:=by
 rcases h.2 with⟨_,h0⟩|⟨g,_,_,h,_⟩
 ·omega
 ·injection h with h _ _
  exact⟨g,h⟩
theorem zAF {w:World}{H:Nat}{v:Value}{l:List Int}(h:OwnI w H v l):Ints w (In w) v l:=zBT h fun g hg=>(h.lt g hg).2
theorem zIZ (w:World)(v:Value)(sets:List Cs)(hS:SetsAt w v sets)(hn:sets.length<=24)(hN:yC sets<=100000000000)(hsm:∀s∈sets,s.Small):
  Calls prog 127 #[v] w fun e w'=>∃lv tv sv,e=.returned (.agg #[lv,tv,sv])∧ArAt w' lv tv sv (xY sets)∧Grew w w':=by
 obtain⟨i0,hi0,hz0,hz1,hz2⟩:=info_parts yH;have HBC:Hid (∀w',Grew w w'->_):=fun w' hk=>zEw w' v sets (hS.grown hk) hn hN hsm;have HSC:Hid (∀w' c,Grew w w'->_):=fun w' c hk=>zGE w' v sets (hS.grown hk) hn (fun s hs=>by
  obtain⟨i,hi,rfl⟩:=List.getElem_of_mem hs;have h:=zEa sets i hi;rw[lW,lV hi] at h;have h2:sets[i].ranges.length<=yC sets:=by simpa using (lY (Nat.le_add_left _ _) h)
  omega) c
 have hbl:(xI sets).length<=500000000000:=by
  have:(xI sets).length=4+2*yC sets:=zFB _ _;omega
 have HSZ:Hid (∀j,j<=(xI sets).length->_):=fun j hj=>zC9 sets j hj;have hal1:w.heap.size<(w.alloc (.cells #[.slice none 0 0,.slice none 0 0,.slice none 0 0] 172)).heap.size:=by simp
 obtain⟨w1,hw1,K1⟩:∃w1,w1=w.alloc (.cells #[.slice none 0 0,.slice none 0 0,.slice none 0 0] 172)∧Hid (Grew w w1∧w1.heap[w.heap.size]? =some (.cells #[.slice none 0 0,.slice none 0 0,.slice none 0 0] 172)∧w.heap.size<w1.heap.size):=⟨_,rfl,kZ _ _ lQ,gG w _,by simp⟩
 go_in;apply wp_cut;intro K0 J;go_wp2;apply J.out;clear J;rw[<-hw1];clear hw1 hal1;apply wp_cut;intro K0 J;go_wp2_with (first|(go_at_call 167;refine(HBC.out _ K1.out.1).mono ?_;rintro e w2 ⟨u,rfl,hu,hk2⟩;obtain⟨au,cu,rfl⟩:=hu.form))
 apply J.out;clear J;apply wp_cut;intro K0 J;go_wp2;apply J.out;clear J;obtain⟨w4,hw4,A4,hs4⟩:∃w4,w4=(w2.alloc (.cells #[.slice au (xI sets).length cu] 239)).alloc (.cells #[.slice none 0 0,.slice none 0 0,.slice none 0 0] 172)∧Hid (AwIs w4 (w2.heap.size+2) (w2.heap.size+1) ⟨[],[],[]⟩∧Grew w w4∧w4.heap[w.heap.size]? =some (.cells #[.slice none 0 0,.slice none 0 0,.slice none 0 0] 172)∧w4.cell? ⟨w2.heap.size,0,none⟩=some (.slice au (xI sets).length cu)∧(∀i,i<(xI sets).length->∃g,au=some ⟨g,0,none⟩∧g<w2.heap.size∧w4.cell? ⟨g,i,none⟩=some (.int .i64 ((xI sets).getD i 0))))∧w.heap.size<w2.heap.size:=by
  obtain⟨w3,hw3⟩:∃w3,w3=w2.alloc (.cells #[.slice au (xI sets).length cu] 239):=⟨_,rfl⟩
  have h3:w3.heap[w2.heap.size]? =some (.cells #[.slice au (xI sets).length cu] 239):=by rw[hw3];exact gG w2 _
  have k3:Grew w2 w3:=by rw[hw3];exact kZ _ _ lQ
  have s3:w3.heap.size=w2.heap.size+1:=by rw[hw3];simp
  rw[<-hw3];obtain⟨w4,hw4⟩:∃w4,w4=w3.alloc (.cells #[.slice none 0 0,.slice none 0 0,.slice none 0 0] 172):=⟨_,rfl⟩
  have h4:w4.heap[w2.heap.size+1]? =some (.cells #[.slice none 0 0,.slice none 0 0,.slice none 0 0] 172):=by rw[hw4,<-s3];exact gG w3 _
  have k4:Grew w3 w4:=by rw[hw4];exact kZ _ _ lQ
  have s4:w4.heap.size=w2.heap.size+2:=by rw[hw4];simp[s3]
  have hz1:=K1.out.2.2;have hz2:=hk2.size;have kw:Grew w w4:=((K1.out.1.trans (hk2.lower (by omega) (by omega))).trans (k3.lower (by omega) (by omega))).trans (k4.lower (by omega) (by omega));refine⟨w4,hw4,⟨⟨_,_,_,⟨h4,ownsRow_nil _ _ _ _,ownsRow_nil _ _ _ _,ownsRow_nil _ _ _ _,fun g h=>by simp[Value.ownBlock] at h,fun g h=>by simp[Value.ownBlock] at h,fun g h=>by simp[Value.ownBlock] at h,by omega,by omega⟩⟩,kw,?_,?_,?_⟩,by omega⟩
  ·exact(k4.block _ (by omega) (by omega)).trans ((k3.block _ (by omega) (by omega)).trans ((hk2.block _ hz1 (by omega)).trans K1.out.2.1))
  ·have e:w4.heap[w2.heap.size]? =some (.cells #[.slice au (xI sets).length cu] 239):=(k4.block _ (by omega) (by omega)).trans h3
   unfold cell?;rw[e];rfl
  ·intro i hi
   obtain⟨g,hg⟩:∃g,au=some ⟨g,0,none⟩:=by
    rcases hu.2 with⟨h,h0⟩|⟨g,_,_,h,_⟩
    ·omega
    ·injection h with h _ _
     exact⟨g,h⟩
   subst hg;have hl:=(hu.lt g rfl).2;exact⟨g,rfl,hl,zA (zA (hu.cell i hi) hl k3) (by omega) k4⟩
 rw[<-hw4];clear hw4 hu hk2;have y0:=A4.out.2.2.2.1;go_wp2;clear y0;go_loopg [15] (xI sets).length (fun q i wr=>∃j:Nat,q=(xI sets).length-j∧j<=(xI sets).length∧i=.int .i64 (j:Int)∧AwIs wr (w2.heap.size+2) (w2.heap.size+1) (qR sets j)∧Keep (w2.heap.size+2) (w2.heap.size+1) w4 wr)
 case atStart=>exact⟨0,rfl,lX,rfl,by unfold qR;rw[List.take_zero];exact A4.out.1,⟨rfl,rfl,lQ,fun _ _ _=>rfl⟩⟩
 case round=>
  obtain⟨j,hgk,hj,rfl,hA,hkp⟩:=hrel;have HA:Hid (gk=(xI sets).length-j∧AwIs wr (w2.heap.size+2) (w2.heap.size+1) (qR sets j)∧Keep (w2.heap.size+2) (w2.heap.size+1) w4 wr∧Grew w wr):=⟨hgk,hA,hkp,A4.out.2.1.trans (hkp.lower (by omega) (by omega))⟩
  by_cases hj2:j<(xI sets).length
  ·have i1:(j:Int)<((xI sets).length:Int):=by omega
   obtain⟨g,rfl,hg,hc⟩:=A4.out.2.2.2.2 j hj2;have yl:wr.cell? ⟨g,j,none⟩=some (.int .i64 ((xI sets).getD j 0)):=(cell?_of_block (hkp.block g (by omega) (by omega))).trans hc;have HPS:=vl <| zBS sets j hj2;have hsz:=HSZ.out j hj;clear hgk hkp hc;generalize (xI sets).getD j 0=low at *;generalize hbn:(xI sets).length=bn at *;obtain⟨x,hx⟩:∃x,qK sets low=x:=⟨_,rfl⟩
   obtain⟨a,ha⟩:∃a,qR sets j=a:=⟨_,rfl⟩
   rw[ha] at HPS hsz hA HA;have hse:=zES a x;have HY:Hid ((a.seen x).turns (a.look x)=true->qR sets (j+1)={a.seen x with lows:=(a.seen x).lows++[low],letters:=(a.seen x).letters++[(a.look x:Int)]}):=fun h=>by
    rw[HPS.out];have:=Ar.step_yes sets a low (by rw[hx];exact h);rw[hx] at this;exact this
   have HNO:Hid ((a.seen x).turns (a.look x)=false->qR sets (j+1)=a.seen x):=fun h=>by
    rw[HPS.out];have:=Ar.step_no sets a low (by rw[hx];exact h);rw[hx] at this;exact this
   have HSC2:Hid (∀w',Grew w w'->Calls prog 169 #[v,.int .i64 low] w' fun e w2=>e=.returned (.int .i64 (x:Nat))∧Grew w' w2):=fun w' h=>by rw[<-hx];exact HSC.out w' low h
   have HLC:Hid (∀w',AwIs w' (w2.heap.size+2) (w2.heap.size+1) a->_):=fun w' h=>zFd w' _ _ a h (by omega) x;have hb1:(a.seen x).lows.length<=500000000000:=by rw[hse.1];omega
   have hb2:(a.seen x).letters.length<=500000000000:=by rw[hse.2.1,<-hsz.1];omega
   clear hse hsz;have hlw:w2.heap.size+2<=wr.heap.size:=by
    obtain⟨_,_,_,h⟩:=hA;exact h.lt
   clear ha hx hA;by_cases hl0:(a.seen x).letters.length=0
   ·have HT:=vl <| HY.out (by unfold Ar.turns;rw[hl0];rfl)
    have HLN:=vl hl0;clear hl0;go_wp2_with (first|(go_at_call 169;refine(HSC2.out _ HA.out.2.2.2).mono ?_;rintro e w5 ⟨rfl,hk5⟩)|(go_at_call 168;refine(HLC.out _ (HA.out.2.1.grown hk5)).mono ?_;rintro e w6 ⟨rfl,⟨lv,tv,sv,hA6⟩,hk6⟩;obtain⟨q0,q1,q2,qf⟩:=hA6.cells;obtain⟨al,cl,rfl⟩:=hA6.lows.form;obtain⟨at_,ct,htv⟩:=hA6.letters.form;rw[HLN.out] at htv;subst htv;have HA6:Hid (Aw w6 (w2.heap.size+2) (w2.heap.size+1) (.slice al (a.seen x).lows.length cl) (.slice at_ 0 ct) sv (a.seen x)∧Keep (w2.heap.size+2) (w2.heap.size+1) w4 w6):=⟨hA6,(HA.out.2.2.1.trans (hk5.lower (by omega) (by omega))).trans hk6⟩;have hl6:=hA6.lt;have OL6:w6.ownsRow (w2.heap.size+2) 3 1 (.slice al (a.seen x).lows.length cl) (a.seen x).lows.length ((a.seen x).lows.map fun x=>.int .i64 x):=hA6.lows;clear hA6 hk6 hk5 qf q2)|(at_builtin;refine wpList_append_lies _ rfl _ _ 45 rfl (w2.heap.size+2) 3 i0 (.int .i64 0) 1 8 underlying45 hi0 hz0 hz1 hz2 rfl (by decide) _ _ _ rfl (OT7.alloc _) ⟨w7.heap.size,0,none⟩ 1 1 [.int .i64 (a.look x:Int)] rfl rfl (zBg _ [.int .i64 (a.look x:Int)] _ _ (zC _ _ _)) (by intro u hu;simp at hu;subst hu;rfl) (by decide) (by unfold maxLen;omega) (by omega) (by simp[zC];omega) _ rfl ?_;intro g2 cap2 w8 hown2 hgrow2 hat2 hlt3;have hPB2:w8.heap[w2.heap.size+1]? =(w7.setCell ⟨w2.heap.size+1,0,none⟩ (.slice (some ⟨gg,0,none⟩) ((a.seen x).lows.length+1) cap)).heap[w2.heap.size+1]? :=(hgrow2.block _ (by simp[zC];omega) (fun e=>by have:=(OT7.lt _ e.symm).1;omega)).trans (lG _ _ _ (by rw[zC];omega));have t2:w8.cell? ⟨w2.heap.size+1,1,none⟩=some (.slice at_ 0 ct):=(cell?_of_block hPB2).trans t1;have g1:w8.frozen? ⟨w2.heap.size+1,1,none⟩=false:=(frozen?_of_block hPB2).trans f1)|(at_builtin;refine wpList_append_lies _ rfl _ _ 45 rfl (w2.heap.size+2) 3 i0 (.int .i64 0) 1 8 underlying45 hi0 hz0 hz1 hz2 rfl (by decide) _ _ _ rfl (OL6.alloc _) ⟨w6.heap.size,0,none⟩ 1 1 [.int .i64 low] rfl rfl (cell_one_new _ _ _) (by intro u hu;simp at hu;subst hu;rfl) (by decide) (by unfold maxLen;omega) (by omega) (by simp;omega) _ rfl ?_;intro gg cap w7 hown hgrow hat hlt2;have hPB:w7.heap[w2.heap.size+1]? =w6.heap[w2.heap.size+1]? :=(hgrow.block _ (by simp;omega) (fun e=>by have:=(OL6.lt _ e.symm).1;omega)).trans (lG _ _ _ (by omega));have t0:w7.cell? ⟨w2.heap.size+1,0,none⟩=some (.slice al (a.seen x).lows.length cl):=(cell?_of_block hPB).trans q0;have g0:w7.frozen? ⟨w2.heap.size+1,0,none⟩=false:=(frozen?_of_block hPB).trans (HA6.out.1.cells.2.2.2 0);have A7:=Aw.lows_app HA6.out.1 hown hgrow (by rcases hat with ha|ha;exact .inl ha;right;rw[ha];simp);have t1:(w7.setCell ⟨w2.heap.size+1,0,none⟩ (.slice (some ⟨gg,0,none⟩) ((a.seen x).lows.length+1) cap)).cell? ⟨w2.heap.size+1,1,none⟩=some (.slice at_ 0 ct):=A7.1.cells.2.1;have OT7:(w7.setCell ⟨w2.heap.size+1,0,none⟩ (.slice (some ⟨gg,0,none⟩) ((a.seen x).lows.length+1) cap)).ownsRow (w2.heap.size+2) 3 1 (.slice at_ 0 ct) 0 ((a.seen x).letters.map fun x=>.int .i64 x):=(by have h:=A7.1.letters;unfold OwnI at h;rw[show ({a.seen x with lows:=(a.seen x).lows++[low]}:Ar).letters=(a.seen x).letters from rfl,HLN.out] at h;exact h);have hl7:w2.heap.size+2<=w7.heap.size:=lY hl6 (lY (by simp) hgrow.size);have f1:(w7.setCell ⟨w2.heap.size+1,0,none⟩ (.slice (some ⟨gg,0,none⟩) ((a.seen x).lows.length+1) cap)).frozen? ⟨w2.heap.size+1,1,none⟩=false:=A7.1.cells.2.2.2 1))
    have A8:Hid (AwIs (w8.setCell ⟨w2.heap.size+1,1,none⟩ (.slice (some ⟨g2,0,none⟩) (0+1) cap2)) (w2.heap.size+2) (w2.heap.size+1) (qR sets (j+1))∧Keep (w2.heap.size+2) (w2.heap.size+1) w4 (w8.setCell ⟨w2.heap.size+1,1,none⟩ (.slice (some ⟨g2,0,none⟩) (0+1) cap2))):=by
     have hown3:w8.ownsRow (w2.heap.size+2) 3 1 (.slice (some ⟨g2,0,none⟩) ((a.seen x).letters.length+1) cap2) ((a.seen x).letters.length+1) (((a.seen x).letters.map fun x=>.int .i64 x)++[.int .i64 (a.look x:Int)]):=by rw[HLN.out];exact hown2
     have h:=Aw.letters_app A7.1 (g:=g2) (cap:=cap2) (x:=(a.look x:Int)) hown3 hgrow2 (by
      rcases hat2 with ha|ha
      ·exact .inl ha
      ·right;rw[ha];simp[zC])
     rw[show ({a.seen x with lows:=(a.seen x).lows++[low]}:Ar).letters=(a.seen x).letters from rfl,HLN.out] at h;rw[HT.out];exact⟨⟨_,_,_,h.1⟩,(HA6.out.2.trans A7.2).trans h.2⟩
    go_roundg (bn-(j+1))
    case measure=>rw[HA.out.1];omega
    case rel=>exact⟨j+1,rfl,by omega,by go_num,A8.out.1,A8.out.2⟩
   ·obtain⟨k,hk⟩:∃k,(a.seen x).letters.length=k+1:=⟨(a.seen x).letters.length-1,by omega⟩
    have HLN:=vl hk;obtain⟨t,htt⟩:∃t,(a.seen x).letters.getD k 0=t:=⟨_,rfl⟩
    have HTV:=vl htt;have htn:(a.seen x).turns (a.look x)=(t != (a.look x:Int)):=by
     unfold Ar.turns;rw[hk,<-htt];rfl
    have hkb:k<=500000000000:=by omega
    clear hl0 hk htt hb2;cases hcc:(t != (a.look x:Int)) with
    |true=>
     have HT:=vl <| HY.out (by rw[htn,hcc]);clear htn;go_wp2_with (first|(go_at_call 169;refine(HSC2.out _ HA.out.2.2.2).mono ?_;rintro e w5 ⟨rfl,hk5⟩)|(go_at_call 168;refine(HLC.out _ (HA.out.2.1.grown hk5)).mono ?_;rintro e w6 ⟨rfl,⟨lv,tv,sv,hA6⟩,hk6⟩;obtain⟨q0,q1,q2,qf⟩:=hA6.cells;obtain⟨al,cl,rfl⟩:=hA6.lows.form;obtain⟨at_,ct,htv⟩:=hA6.letters.form;rw[HLN.out] at htv;subst htv;obtain⟨gt,rfl⟩:=hA6.letters.some (by rw[HLN.out];omega);have ql:w6.cell? ⟨gt,k,none⟩=some (.int .i64 t):=(by rw[<-HTV.out];exact hA6.letters.cell k (by rw[HLN.out];omega));have HA6:Hid (Aw w6 (w2.heap.size+2) (w2.heap.size+1) (.slice al (a.seen x).lows.length cl) (.slice (some ⟨gt,0,none⟩) (k+1) ct) sv (a.seen x)∧Keep (w2.heap.size+2) (w2.heap.size+1) w4 w6):=⟨hA6,(HA.out.2.2.1.trans (hk5.lower (by omega) (by omega))).trans hk6⟩;have hl6:=hA6.lt;have OL6:w6.ownsRow (w2.heap.size+2) 3 1 (.slice al (a.seen x).lows.length cl) (a.seen x).lows.length ((a.seen x).lows.map fun x=>.int .i64 x):=hA6.lows;clear hA6 hk6 hk5 qf q2)|(at_builtin;refine wpList_append_lies _ rfl _ _ 45 rfl (w2.heap.size+2) 3 i0 (.int .i64 0) 1 8 underlying45 hi0 hz0 hz1 hz2 rfl (by decide) _ _ _ rfl (OT7.alloc _) ⟨w7.heap.size,0,none⟩ 1 1 [.int .i64 (a.look x:Int)] rfl rfl (zBg _ [.int .i64 (a.look x:Int)] _ _ (zC _ _ _)) (by intro u hu;simp at hu;subst hu;rfl) (by decide) (by unfold maxLen;omega) (by omega) (by simp[zC];omega) _ rfl ?_;intro g2 cap2 w8 hown2 hgrow2 hat2 hlt3;have hPB2:w8.heap[w2.heap.size+1]? =(w7.setCell ⟨w2.heap.size+1,0,none⟩ (.slice (some ⟨gg,0,none⟩) ((a.seen x).lows.length+1) cap)).heap[w2.heap.size+1]? :=(hgrow2.block _ (by simp[zC];omega) (fun e=>by have:=(OT7.lt _ e.symm).1;omega)).trans (lG _ _ _ (by rw[zC];omega));have t2:w8.cell? ⟨w2.heap.size+1,1,none⟩=some (.slice (some ⟨gt,0,none⟩) (k+1) ct):=(cell?_of_block hPB2).trans t1;have g1:w8.frozen? ⟨w2.heap.size+1,1,none⟩=false:=(frozen?_of_block hPB2).trans f1)|(at_builtin;refine wpList_append_lies _ rfl _ _ 45 rfl (w2.heap.size+2) 3 i0 (.int .i64 0) 1 8 underlying45 hi0 hz0 hz1 hz2 rfl (by decide) _ _ _ rfl (OL6.alloc _) ⟨w6.heap.size,0,none⟩ 1 1 [.int .i64 low] rfl rfl (cell_one_new _ _ _) (by intro u hu;simp at hu;subst hu;rfl) (by decide) (by unfold maxLen;omega) (by omega) (by simp;omega) _ rfl ?_;intro gg cap w7 hown hgrow hat hlt2;have hPB:w7.heap[w2.heap.size+1]? =w6.heap[w2.heap.size+1]? :=(hgrow.block _ (by simp;omega) (fun e=>by have:=(OL6.lt _ e.symm).1;omega)).trans (lG _ _ _ (by omega));have t0:w7.cell? ⟨w2.heap.size+1,0,none⟩=some (.slice al (a.seen x).lows.length cl):=(cell?_of_block hPB).trans q0;have g0:w7.frozen? ⟨w2.heap.size+1,0,none⟩=false:=(frozen?_of_block hPB).trans (HA6.out.1.cells.2.2.2 0);have A7:=Aw.lows_app HA6.out.1 hown hgrow (by rcases hat with ha|ha;exact .inl ha;right;rw[ha];simp);have t1:(w7.setCell ⟨w2.heap.size+1,0,none⟩ (.slice (some ⟨gg,0,none⟩) ((a.seen x).lows.length+1) cap)).cell? ⟨w2.heap.size+1,1,none⟩=some (.slice (some ⟨gt,0,none⟩) (k+1) ct):=A7.1.cells.2.1;have OT7:(w7.setCell ⟨w2.heap.size+1,0,none⟩ (.slice (some ⟨gg,0,none⟩) ((a.seen x).lows.length+1) cap)).ownsRow (w2.heap.size+2) 3 1 (.slice (some ⟨gt,0,none⟩) (k+1) ct) (k+1) ((a.seen x).letters.map fun x=>.int .i64 x):=(by have h:=A7.1.letters;unfold OwnI at h;rw[show ({a.seen x with lows:=(a.seen x).lows++[low]}:Ar).letters=(a.seen x).letters from rfl,HLN.out] at h;exact h);have hl7:w2.heap.size+2<=w7.heap.size:=lY hl6 (lY (by simp) hgrow.size);have f1:(w7.setCell ⟨w2.heap.size+1,0,none⟩ (.slice (some ⟨gg,0,none⟩) ((a.seen x).lows.length+1) cap)).frozen? ⟨w2.heap.size+1,1,none⟩=false:=A7.1.cells.2.2.2 1))
     have A8:Hid (AwIs (w8.setCell ⟨w2.heap.size+1,1,none⟩ (.slice (some ⟨g2,0,none⟩) (k+1+1) cap2)) (w2.heap.size+2) (w2.heap.size+1) (qR sets (j+1))∧Keep (w2.heap.size+2) (w2.heap.size+1) w4 (w8.setCell ⟨w2.heap.size+1,1,none⟩ (.slice (some ⟨g2,0,none⟩) (k+1+1) cap2))):=by
      have hown3:w8.ownsRow (w2.heap.size+2) 3 1 (.slice (some ⟨g2,0,none⟩) ((a.seen x).letters.length+1) cap2) ((a.seen x).letters.length+1) (((a.seen x).letters.map fun x=>.int .i64 x)++[.int .i64 (a.look x:Int)]):=by rw[HLN.out];exact hown2
      have h:=Aw.letters_app A7.1 (g:=g2) (cap:=cap2) (x:=(a.look x:Int)) hown3 hgrow2 (by
       rcases hat2 with ha|ha
       ·exact .inl ha
       ·right;rw[ha];simp[zC])
      rw[show ({a.seen x with lows:=(a.seen x).lows++[low]}:Ar).letters=(a.seen x).letters from rfl,HLN.out] at h;rw[HT.out];exact⟨⟨_,_,_,h.1⟩,(HA6.out.2.trans A7.2).trans h.2⟩
     go_roundg (bn-(j+1))
     case measure=>rw[HA.out.1];omega
     case rel=>exact⟨j+1,rfl,by omega,by go_num,A8.out.1,A8.out.2⟩
    |false=>
     have HT:=vl <| HNO.out (by rw[htn,hcc]);clear htn;go_wp2_with (first|(go_at_call 169;refine(HSC2.out _ HA.out.2.2.2).mono ?_;rintro e w5 ⟨rfl,hk5⟩)|(go_at_call 168;refine(HLC.out _ (HA.out.2.1.grown hk5)).mono ?_;rintro e w6 ⟨rfl,⟨lv,tv,sv,hA6⟩,hk6⟩;obtain⟨q0,q1,q2,qf⟩:=hA6.cells;obtain⟨al,cl,rfl⟩:=hA6.lows.form;obtain⟨at_,ct,htv⟩:=hA6.letters.form;rw[HLN.out] at htv;subst htv;obtain⟨gt,rfl⟩:=hA6.letters.some (by rw[HLN.out];omega);have ql:w6.cell? ⟨gt,k,none⟩=some (.int .i64 t):=(by rw[<-HTV.out];exact hA6.letters.cell k (by rw[HLN.out];omega));have HA6:Hid (Aw w6 (w2.heap.size+2) (w2.heap.size+1) (.slice al (a.seen x).lows.length cl) (.slice (some ⟨gt,0,none⟩) (k+1) ct) sv (a.seen x)∧Keep (w2.heap.size+2) (w2.heap.size+1) w4 w6):=⟨hA6,(HA.out.2.2.1.trans (hk5.lower (by omega) (by omega))).trans hk6⟩;have hl6:=hA6.lt;have OL6:w6.ownsRow (w2.heap.size+2) 3 1 (.slice al (a.seen x).lows.length cl) (a.seen x).lows.length ((a.seen x).lows.map fun x=>.int .i64 x):=hA6.lows;clear hA6 hk6 hk5 qf q2))
     go_roundg (bn-(j+1))
     case measure=>rw[HA.out.1];omega
     case rel=>exact⟨j+1,rfl,by omega,by go_num,by rw[HT.out];exact⟨_,_,_,HA6.out.1⟩,HA6.out.2⟩
  ·have i1:((xI sets).length:Int)<=(j:Int):=by omega
   have e:=zE7 sets j (by omega);rw[e] at hA;obtain⟨lv,tv,sv,h⟩:=hA;obtain⟨q0,q1,q2,-⟩:=h.cells;obtain⟨al,cl,rfl⟩:=h.lows.form;obtain⟨at_,ct,rfl⟩:=h.letters.form;obtain⟨as_,cs,rfl⟩:=h.sets.form;have hres:wr.heap[w.heap.size]? =some (.cells #[.slice none 0 0,.slice none 0 0,.slice none 0 0] 172):=(hkp.block _ (by omega) (by omega)).trans A4.out.2.2.1;have x0:wr.cell? ⟨w.heap.size,0,none⟩=some (.slice none 0 0):=by unfold cell?;rw[hres];rfl
   have x1:wr.cell? ⟨w.heap.size,1,none⟩=some (.slice none 0 0):=by unfold cell?;rw[hres];rfl
   have x2:wr.cell? ⟨w.heap.size,2,none⟩=some (.slice none 0 0):=by unfold cell?;rw[hres];rfl
   have xf:∀i,wr.frozen? ⟨w.heap.size,i,none⟩=false:=fun i=>by unfold frozen?;rw[hres];simp
   have xf0:=xf 0;have xf1:=xf 1;have xf2:=xf 2;have HZ:Hid (Aw wr (w2.heap.size+2) (w2.heap.size+1) (.slice al (xY sets).lows.length cl) (.slice at_ (xY sets).letters.length ct) (.slice as_ (xY sets).sets.length cs) (xY sets)∧Grew w wr):=⟨h,HA.out.2.2.2⟩
   clear h hgk hkp hres xf e;go_wp2;refine bodyPost_ret (v:=.agg #[.slice al (xY sets).lows.length cl,.slice at_ (xY sets).letters.length ct,.slice as_ (xY sets).sets.length cs]) (by simp[results,results127,go_sem, *]) rfl ⟨_,_,_,rfl,⟨zAF (zX (zX (zX HZ.out.1.lows (by omega)) (by omega)) (by omega)),zAF (zX (zX (zX HZ.out.1.letters (by omega)) (by omega)) (by omega)),zAF (zX (zX (zX HZ.out.1.sets (by omega)) (by omega)) (by omega))⟩,?_⟩;exact((HZ.out.2.trans (zN _ _ _ _ lQ)).trans (zN _ _ _ _ lQ)).trans (zN _ _ _ _ lQ)
theorem zLE (a b:List Int)(hl:a.length=b.length)(h:∀i,i<a.length->a.getD i 0=b.getD i 0):a=b:=by
 apply List.ext_getElem hl;intro i h1 h2;have:=h i h1;rw[lW,lV h1,lW,lV h2] at this;exact this
theorem zIg (w:World)(va vb:Value)(a b:List Int)(hA:Ints w (In w) va a)(hB:Ints w (In w) vb b)(hl:a.length<=1000000000000):
  Calls prog 132 #[va,vb] w fun e w'=>e=.returned (.bool (decide (a=b)))∧Grew w w':=by
 obtain⟨aa,ca,rfl,_,_,hac⟩:=hA;obtain⟨ab,cb,rfl,_,_,hbc⟩:=hB;have HAC:=vl hac;have HBC:=vl hbc;by_cases hne:a.length=b.length
 ·have HEQ:Hid ((∀i,i<a.length->a.getD i 0=b.getD i 0)->a=b):=fun h=>zLE a b hne h
  have HNE:Hid (∀i,a.getD i 0≠b.getD i 0->a≠b):=fun i h e=>h (by rw[e]);rw[<-hne] at HBC ⊢;have hne2:((a.length:Int) != (b.length:Int))=false:=by simp[hne]
  go_in;go_wp2;go_loopg [13] a.length (fun q i wr=>∃j:Nat,q=a.length-j∧j<=a.length∧i=.int .i64 (j:Int)∧(∀i,i<j->a.getD i 0=b.getD i 0)∧Grew w wr)
  case atStart=>exact⟨0,rfl,lX,rfl,fun i hi=>by omega,⟨rfl,rfl,lQ,fun _ _ _=>rfl⟩⟩
  case round=>
   obtain⟨j,hgk,hj,rfl,hsame,hkp⟩:=hrel;have HA:Hid (gk=a.length-j∧(∀i,i<j->a.getD i 0=b.getD i 0)∧Grew w wr):=⟨hgk,hsame,hkp⟩
   by_cases hj2:j<a.length
   ·have i1:(j:Int)<(a.length:Int):=by omega
    obtain⟨b1,o1,rfl,hb1,c1⟩:=HAC.out j hj2;obtain⟨b2,o2,rfl,hb2,c2⟩:=HBC.out j hj2;have y1:=zA c1 hb1 hkp;have y2:=zA c2 hb2 hkp;have HN1:=vl <| HNE.out j;have HS1:Hid (a.getD j 0=b.getD j 0->∀i,i<j+1->a.getD i 0=b.getD i 0):=fun h i hi=>by
     by_cases e:i=j
     ·rw[e];exact h
     ·exact HA.out.2.1 i (by omega)
    generalize a.getD j 0=x at *;generalize b.getD j 0=y at *;by_cases hxy:x=y
    ·have HS2:=vl <| HS1.out hxy
     have hc:(x != y)=false:=by simp[hxy]
     go_wp2;go_quiet (fail);go_wp2;go_roundg (a.length-(j+1))
     case measure=>rw[HA.out.1];omega
     case rel=>exact⟨j+1,rfl,by omega,by go_num,HS2.out,HA.out.2.2.trans (Keep.alike (w':=wr.drewN nq) ⟨rfl,rfl,rfl⟩)⟩
    ·have HN2:=vl <| HN1.out hxy
     have hc:(x != y)=true:=by simp[hxy]
     go_wp2;go_quiet (fail);go_wp2;go_ret;exact⟨by rw[decide_eq_false HN2.out];rfl,HA.out.2.2.trans (Keep.alike (w':=wr.drewN nq) ⟨rfl,rfl,rfl⟩)⟩
   ·have i1:(a.length:Int)<=(j:Int):=by omega
    have HZ:=vl <| HEQ.out fun i hi=>hsame i (by omega);go_wp2;go_ret;exact⟨by rw[decide_eq_true HZ.out];rfl,HA.out.2.2⟩
 ·have HZ:Hid (a≠b):=fun e=>hne (by rw[e])
  have hc:((a.length:Int) != (b.length:Int))=true:=by simp;omega
  go_in;go_wp2;go_ret;exact⟨by rw[decide_eq_false HZ.out];rfl,⟨rfl,rfl,lQ,fun _ _ _=>rfl⟩⟩
theorem zBY (w:World)(step:Nat)(h:step=1∨step=64∨step=4096):
  Calls prog 176 #[.int .i64 step] w fun e w'=>e=.returned (.int .i64 (if step=64 then 2048 else if step=4096 then 65536 else 0))∧w'=w:=by
 rcases h with rfl|rfl|rfl
 all_goals
  go_in;go_wp2;go_ret;exact⟨rfl,rfl⟩
def qT (rules:List Nat)(set:Nat):Int:=if rules.findIdx (fun r=>set&&&r != 0)<rules.length then(rules.findIdx (fun r=>set&&&r != 0):Int) else -1
theorem zMm (rules:List Nat)(set j:Nat)(hj:j<rules.length)(h:set&&&rules.getD j 0≠0)(hn:∀i,i<j->set&&&rules.getD i 0=0):qT rules set=j:=by
 have e:rules.findIdx (fun r=>set&&&r != 0)=j:=by
  rw[List.findIdx_eq hj];rw[lW,lV hj] at h;refine⟨by simpa using h,fun i hi=>?_⟩;have:=hn i hi;rw[lW,lV (by omega)] at this;simpa using this
 unfold qT;rw[e,if_pos hj]
theorem zKp (rules:List Nat)(set:Nat)(hn:∀i,i<rules.length->set&&&rules.getD i 0=0):qT rules set=-1:=by
 have e:rules.findIdx (fun r=>set&&&r != 0)=rules.length:=by
  rw[List.findIdx_eq_length];intro y hy;obtain⟨i,hi,rfl⟩:=List.getElem_of_mem hy;have:=hn i hi;rw[lW,lV hi] at this;simpa using this
 unfold qT;rw[e,if_neg (Nat.lt_irrefl _)]
theorem zIU (rules:List Nat)(set:Nat):-1<=qT rules set∧qT rules set<rules.length:=by
 unfold qT;split <;> omega
theorem zBo (w:World)(p q:Nat)(rv:Value)(rules:List Nat)(hp:w.cell? ⟨p,0,none⟩=some (.pointer (some ⟨q,0,none⟩)))(hq:w.cell? ⟨q,4,none⟩=some rv)(hR:Ints w (In w) rv (rules.map fun(x:Nat)=>(x:Int)))(hl:rules.length<=8)(hr:∀r∈rules,r<16777216)(set:Nat)(hs:set<16777216):
  Calls prog 93 #[.pointer (some ⟨p,0,none⟩),.int .i64 set] w fun e w'=>e=.returned (.int .i64 (qT rules set))∧w'=w:=by
 obtain⟨ar,cr,hrv,_,_,hrc⟩:=hR;rw[kV] at hrv;subst hrv;have HRC:Hid (∀i,i<rules.length->∃b o,ar=some ⟨b,o,none⟩∧w.cell? ⟨b,o+i,none⟩=some (.int .i64 ((rules.getD i 0:Nat):Int))∧rules.getD i 0<16777216):=by
  intro i hi;obtain⟨b,o,h1,_,h2⟩:=hrc i (by rw[kV];exact hi);refine⟨b,o,h1,?_,hr _ (zR _ i 0 hi)⟩;rw[lW,gJ,lV hi] at h2;rw[lW,lV hi];exact h2
 have H1:Hid (∀j,j<rules.length->set&&&rules.getD j 0≠0->(∀i,i<j->set&&&rules.getD i 0=0)->qT rules set=j):=fun j=>zMm rules set j;have H2:=vl <| zKp rules set;go_in;go_wp2;go_loopg [15] rules.length (fun k i wr=>∃j:Nat,k=rules.length-j∧j<=rules.length∧i=.int .i64 (j:Int)∧(∀i,i<j->set&&&rules.getD i 0=0)∧wr=w)
 case atStart=>exact⟨0,rfl,lX,rfl,fun i hi=>by omega,rfl⟩
 case round=>
  obtain⟨j,hgk,hj,rfl,hno,hw⟩:=hrel;subst hw;have HB:Hid (gk=rules.length-j∧∀i,i<j->set&&&rules.getD i 0=0):=⟨hgk,hno⟩
  by_cases hj2:j<rules.length
  ·have i1:(j:Int)<(rules.length:Int):=by omega
   obtain⟨b,o,rfl,hc,hlt⟩:=HRC.out j hj2;have HL3:Hid (set&&&rules.getD j 0≠0->qT rules set=j):=fun h=>H1.out j hj2 h HB.out.2;have HN3:Hid (set&&&rules.getD j 0=0->∀i,i<j+1->set&&&rules.getD i 0=0):=fun h i hi=>by
    by_cases e:i=j
    ·rw[e];exact h
    ·exact HB.out.2 i (by omega)
   generalize rules.getD j 0=r at *;have hand:bits .and .i64 (set:Int) (r:Int)=((set&&&r:Nat):Int):=yZ _ _ (by omega) (by omega);by_cases hy:set&&&r=0
   ·have HR:=vl <| HN3.out hy
    rw[hy] at hand;have hand2:=hand;go_wp2;go_roundg (rules.length-(j+1))
    case measure=>rw[HB.out.1];omega
    case rel=>exact⟨j+1,rfl,by omega,by go_num,HR.out,rfl⟩
   ·have HR:=vl <| HL3.out hy
    have hc2:((bits .and .i64 (set:Int) (r:Int)) != 0)=true:=by rw[hand];simp;exact hy
    go_wp2;go_ret;exact⟨by rw[HR.out];rfl,rfl⟩
  ·have i1:(rules.length:Int)<=(j:Int):=by omega
   have HR:=vl <| H2.out fun i hi=>hno i (by omega);go_wp2;go_ret;exact⟨by rw[HR.out];rfl,rfl⟩
def xH (rules:List Nat)(a b tail:Nat):Bool:=a&&&tail != b&&&tail&&(qT rules (a&&&tail) != qT rules (b&&&tail))
theorem zHa (w:World)(p q:Nat)(rv:Value)(rules:List Nat)(hp:w.cell? ⟨p,0,none⟩=some (.pointer (some ⟨q,0,none⟩)))(hq:w.cell? ⟨q,4,none⟩=some rv)(hR:Ints w (In w) rv (rules.map fun(x:Nat)=>(x:Int)))(hl:rules.length<=8)(hr:∀r∈rules,r<16777216)(a b tail:Nat)(ha:a<16777216)(hb:b<16777216)(ht:tail<16777216):
  Calls prog 174 #[.pointer (some ⟨p,0,none⟩),.int .i64 a,.int .i64 b,.int .i64 tail] w fun e w'=>e=.returned (.bool (xH rules a b tail))∧Grew w w':=by
 have hx:bits .and .i64 (a:Int) (tail:Int)=((a&&&tail:Nat):Int):=yZ _ _ (by omega) (by omega);have hy:bits .and .i64 (b:Int) (tail:Int)=((b&&&tail:Nat):Int):=yZ _ _ (by omega) (by omega);have hxl:a&&&tail<16777216:=Nat.lt_of_le_of_lt Nat.and_le_left ha;have hyl:b&&&tail<16777216:=Nat.lt_of_le_of_lt Nat.and_le_left hb;have HV:Hid (xH rules a b tail=(a&&&tail != b&&&tail&&(qT rules (a&&&tail) != qT rules (b&&&tail)))):=rfl;have HC1:=vl <| zBo w p q rv rules hp hq hR hl hr _ hxl;have HC2:=vl <| zBo w p q rv rules hp hq hR hl hr _ hyl;generalize a&&&tail=x at *;generalize b&&&tail=y at *;by_cases hxy:x=y
 ·have HZ:Hid (xH rules a b tail=false):=by show _=_;rw[HV.out,hxy];simp
  have hc:((x:Int)==(y:Int))=true:=by simp[hxy]
  go_in;go_wp2;go_ret;exact⟨by rw[HZ.out];rfl,⟨rfl,rfl,lQ,fun _ _ _=>rfl⟩⟩
 ·have HZ:Hid (xH rules a b tail=(qT rules x != qT rules y)):=by
   show _=_;rw[HV.out,show(x != y)=true by simp[hxy]];rfl
  have hc:((x:Int)==(y:Int))=false:=by simp;omega
  generalize qT rules x=rx at *;generalize qT rules y=ry at *;go_in;go_wp2_with (first|(go_at_call 93;first|(have m2:=mark1;refine HC2.out.mono ?_;rintro e w3 ⟨rfl,rfl⟩)|(refine HC1.out.mono ?_;rintro e w2 ⟨rfl,rfl⟩;have mark1:True:=trivial)))
  go_ret;exact⟨by rw[HZ.out];rfl,⟨rfl,rfl,lQ,fun _ _ _=>rfl⟩⟩
structure So (w:World)(p q:Nat)(rv:Value)(rules:List Nat):Prop where
 net:w.cell? ⟨p,0,none⟩=some (.pointer (some ⟨q,0,none⟩))
 rcell:w.cell? ⟨q,4,none⟩=some rv
 at_:Ints w (In w) rv (rules.map fun(x:Nat)=>(x:Int))
 eight:rules.length<=8
 small:∀r∈rules,r<16777216
 lp:p<w.heap.size
 lq:q<w.heap.size
theorem So.grown {w w':World}{p q:Nat}{rv:Value}{rules:List Nat}(h:So w p q rv rules)(hk:Grew w w'):So w' p q rv rules:=
 ⟨zA h.net h.lp hk,zA h.rcell h.lq hk,h.at_.grown hk,h.eight,h.small,lZ h.lp hk.size,lZ h.lq hk.size⟩
theorem So.differ {w:World}{p q:Nat}{rv:Value}{rules:List Nat}(h:So w p q rv rules)(a b tail:Nat)(ha:a<16777216)(hb:b<16777216)(ht:tail<16777216):
  Calls prog 174 #[.pointer (some ⟨p,0,none⟩),.int .i64 a,.int .i64 b,.int .i64 tail] w fun e w'=>e=.returned (.bool (xH rules a b tail))∧Grew w w':=zHa w p q rv rules h.net h.rcell h.at_ h.eight h.small a b tail ha hb ht
def jM (rules marks:List Nat)(a b:Nat):Bool:=!(marks.any fun t=>xH rules a b t)
theorem zDJ (w:World)(p q:Nat)(rv mv:Value)(rules marks:List Nat)(hS:So w p q rv rules)(hm:w.cell? ⟨p,7,none⟩=some mv)(hM:Ints w (In w) mv (marks.map fun(x:Nat)=>(x:Int)))(hl:marks.length<=1000000000000)(hr:∀r∈marks,r<16777216)(a b:Nat)(ha:a<16777216)(hb:b<16777216):
  Calls prog 173 #[.pointer (some ⟨p,0,none⟩),.int .i64 a,.int .i64 b] w fun e w'=>e=.returned (.bool (jM rules marks a b))∧Grew w w':=by
 obtain⟨ar,cr,hrv,_,_,hrc⟩:=hM;rw[kV] at hrv;subst hrv;have HRC:Hid (∀i,i<marks.length->∃b o,ar=some ⟨b,o,none⟩∧In w b∧w.cell? ⟨b,o+i,none⟩=some (.int .i64 ((marks.getD i 0:Nat):Int))∧marks.getD i 0<16777216):=by
  intro i hi;obtain⟨b,o,h1,h0,h2⟩:=hrc i (by rw[kV];exact hi);refine⟨b,o,h1,h0,?_,hr _ (zR _ i 0 hi)⟩;rw[lW,gJ,lV hi] at h2;rw[lW,lV hi];exact h2
 have HS:=vl hS;have H1:Hid (∀j,j<marks.length->xH rules a b (marks.getD j 0)=true->jM rules marks a b=false):=fun j hj h=>by
  show(!_)=false;rw[zL5 marks _ 0 j hj h];rfl
 have H2:Hid ((∀i,i<marks.length->xH rules a b (marks.getD i 0)=false)->jM rules marks a b=true):=fun h=>by
  show(!_)=true;rw[zIz marks _ 0 h];rfl
 go_in;go_wp2;go_loopg [14] marks.length (fun k i wr=>∃j:Nat,k=marks.length-j∧j<=marks.length∧i=.int .i64 (j:Int)∧(∀i,i<j->xH rules a b (marks.getD i 0)=false)∧Grew w wr)
 case atStart=>exact⟨0,rfl,lX,rfl,fun i hi=>by omega,⟨rfl,rfl,lQ,fun _ _ _=>rfl⟩⟩
 case round=>
  obtain⟨j,hgk,hj,rfl,hno,hkp⟩:=hrel;have HB:Hid (gk=marks.length-j∧(∀i,i<j->xH rules a b (marks.getD i 0)=false)∧Grew w wr):=⟨hgk,hno,hkp⟩
  by_cases hj2:j<marks.length
  ·have i1:(j:Int)<(marks.length:Int):=by omega
   obtain⟨b1,o1,rfl,hb1,hc,hlt⟩:=HRC.out j hj2;have y1:=zA hc hb1 hkp;have HL3:=vl <| H1.out j hj2;have HN3:Hid (xH rules a b (marks.getD j 0)=false->∀i,i<j+1->xH rules a b (marks.getD i 0)=false):=fun h i hi=>by
    by_cases e:i=j
    ·rw[e];exact h
    ·exact HB.out.2.1 i (by omega)
   have HD:Hid (∀t:Nat,t<16777216->Calls prog 174 #[.pointer (some ⟨p,0,none⟩),.int .i64 a,.int .i64 b,.int .i64 t] wr fun e w'=>e=.returned (.bool (xH rules a b t))∧Grew w w'):=fun t ht=>by
    refine((HS.out.grown HB.out.2.2).differ a b t ha hb ht).mono ?_;rintro e w2 ⟨rfl,hk2⟩;exact⟨rfl,HB.out.2.2.trans (hk2.lower HB.out.2.2.size HB.out.2.2.size)⟩
   generalize marks.getD j 0=r at *;have HD2:=HD.out r hlt;cases hd:xH rules a b r with
   |false=>
    rw[hd] at HD2;have HR:=vl <| HN3.out hd;have HD3:=vl HD2;go_wp2_with (first|(go_at_call 174;refine HD3.out.mono ?_;rintro e w5 ⟨rfl,hk5⟩))
    go_roundg (marks.length-(j+1))
    case measure=>rw[HB.out.1];omega
    case rel=>exact⟨j+1,rfl,by omega,by go_num,HR.out,hk5⟩
   |true=>
    rw[hd] at HD2;have HR:=vl <| HL3.out hd;have HD3:=vl HD2;go_wp2_with (first|(go_at_call 174;refine HD3.out.mono ?_;rintro e w5 ⟨rfl,hk5⟩))
    go_ret;exact⟨by rw[HR.out];rfl,hk5⟩
  ·have i1:(marks.length:Int)<=(j:Int):=by omega
   have HR:=vl <| H2.out fun i hi=>hno i (by omega);go_wp2;go_ret;exact⟨by rw[HR.out];rfl,HB.out.2.2⟩
def I32s (w:World)(S:Nat->Prop)(v:Value)(l:List Nat):Prop:=
 ∃ao cap,v=.slice ao l.length cap∧l.length<=cap∧cap<=maxLen∧∀i,i<l.length->∃b o,ao=some ⟨b,o,none⟩∧S b∧w.cell? ⟨b,o+i,none⟩=some (.int .i32 ((l.getD i 0:Nat):Int))
theorem I32s.keep {w w':World}{S:Nat->Prop}{v:Value}{l:List Nat}(h:I32s w S v l)(e:∀b,S b->w'.heap[b]? =w.heap[b]?):I32s w' S v l:=by
 obtain⟨ao,cap,hv,h1,h2,h3⟩:=h;refine⟨ao,cap,hv,h1,h2,fun i hi=>?_⟩;obtain⟨b,o,ha,hb,hc⟩:=h3 i hi;exact⟨b,o,ha,hb,(cell?_of_block (e b hb)).trans hc⟩
theorem I32s.mono {w:World}{S S':Nat->Prop}{v:Value}{l:List Nat}(h:I32s w S v l)(e:∀b,S b->S' b):I32s w S' v l:=by
 obtain⟨ao,cap,hv,h1,h2,h3⟩:=h;refine⟨ao,cap,hv,h1,h2,fun i hi=>?_⟩;obtain⟨b,o,ha,hb,hc⟩:=h3 i hi;exact⟨b,o,ha,e b hb,hc⟩
def zAz (rules tails:List Nat)(a b:Nat):Int:=if a=b then -1 else if tails.findIdx (fun t=>xH rules a b t)<tails.length then(tails.getD (tails.findIdx fun t=>xH rules a b t) 0:Int) else -1
theorem zDk (l:List Nat)(p:Nat->Bool)(j:Nat)(hj:j<l.length)(h:p (l.getD j 0)=true)(hn:∀i,i<j->p (l.getD i 0)=false):l.findIdx p=j:=by
 rw[List.findIdx_eq hj];rw[lW,lV hj] at h;refine⟨by simpa using h,fun i hi=>?_⟩;have:=hn i hi;rw[lW,lV (by omega)] at this;simpa using this
theorem zBb (l:List Nat)(p:Nat->Bool)(hn:∀i,i<l.length->p (l.getD i 0)=false):l.findIdx p=l.length:=by
 rw[List.findIdx_eq_length];intro y hy;obtain⟨i,hi,rfl⟩:=List.getElem_of_mem hy;have:=hn i hi;rw[lW,lV hi] at this;simpa using this
theorem zMg (rules tails:List Nat)(a b j:Nat)(hab:a≠b)(hj:j<tails.length)(h:xH rules a b (tails.getD j 0)=true)(hn:∀i,i<j->xH rules a b (tails.getD i 0)=false):zAz rules tails a b=(tails.getD j 0:Nat):=by
 unfold zAz;rw[if_neg hab,zDk tails _ j hj h hn,if_pos hj]
theorem zKg (rules tails:List Nat)(a b:Nat)(hn:∀i,i<tails.length->xH rules a b (tails.getD i 0)=false):zAz rules tails a b=-1:=by
 unfold zAz;rw[zBb tails _ hn,if_neg (Nat.lt_irrefl _)];split <;> rfl
theorem zIO (rules tails:List Nat)(a b:Nat)(ht:∀t∈tails,t<16777216):zAz rules tails a b=-1∨∃t:Nat,zAz rules tails a b=t∧t<16777216:=by
 unfold zAz;by_cases h:a=b
 ·rw[if_pos h];exact .inl rfl
 ·rw[if_neg h]
  by_cases h2:tails.findIdx (fun t=>xH rules a b t)<tails.length
  ·rw[if_pos h2]
   exact .inr ⟨_,rfl,ht _ (zR _ _ 0 h2)⟩
  ·rw[if_neg h2];exact .inl rfl
theorem zC1 (w:World)(p q:Nat)(rv mv:Value)(rules marks:List Nat)(hS:So w p q rv rules)(hm:w.cell? ⟨p,5,none⟩=some mv)(hM:I32s w (In w) mv marks)(hl:marks.length<=1000000000000)(hr:∀r∈marks,r<16777216)(a b:Nat)(ha:a<16777216)(hb:b<16777216):
  Calls prog 131 #[.pointer (some ⟨p,0,none⟩),.int .i64 a,.int .i64 b] w fun e w'=>e=.returned (.int .i64 (zAz rules marks a b))∧Grew w w':=by
 by_cases hab:a=b
 ·have HZ:Hid (zAz rules marks a b=-1):=by unfold zAz;rw[if_pos hab];exact rfl
  have hc:((a:Int)==(b:Int))=true:=by simp[hab]
  go_in;go_wp2;go_ret;exact⟨by rw[HZ.out];rfl,⟨rfl,rfl,lQ,fun _ _ _=>rfl⟩⟩
 have hc0:((a:Int)==(b:Int))=false:=by simp;omega
 obtain⟨ar,cr,rfl,_,_,hrc⟩:=hM;have HRC:Hid (∀i,i<marks.length->∃b o,ar=some ⟨b,o,none⟩∧In w b∧w.cell? ⟨b,o+i,none⟩=some (.int .i32 ((marks.getD i 0:Nat):Int))∧marks.getD i 0<16777216):=by
  intro i hi;obtain⟨b,o,h1,h0,h2⟩:=hrc i hi;exact⟨b,o,h1,h0,h2,hr _ (zR _ i 0 hi)⟩
 have HS:=vl hS;have H1:Hid (∀j,j<marks.length->xH rules a b (marks.getD j 0)=true->(∀i,i<j->xH rules a b (marks.getD i 0)=false)->zAz rules marks a b=(marks.getD j 0:Nat)):=fun j hj h hn=>zMg rules marks a b j hab hj h hn;have H2:Hid ((∀i,i<marks.length->xH rules a b (marks.getD i 0)=false)->zAz rules marks a b=-1):=fun h=>zKg rules marks a b h;go_in;go_wp2;go_loopg [17] marks.length (fun k i wr=>∃j:Nat,k=marks.length-j∧j<=marks.length∧i=.int .i64 (j:Int)∧(∀i,i<j->xH rules a b (marks.getD i 0)=false)∧Grew w wr)
 case atStart=>exact⟨0,rfl,lX,rfl,fun i hi=>by omega,⟨rfl,rfl,lQ,fun _ _ _=>rfl⟩⟩
 case round=>
  obtain⟨j,hgk,hj,rfl,hno,hkp⟩:=hrel;have HB:Hid (gk=marks.length-j∧(∀i,i<j->xH rules a b (marks.getD i 0)=false)∧Grew w wr):=⟨hgk,hno,hkp⟩
  by_cases hj2:j<marks.length
  ·have i1:(j:Int)<(marks.length:Int):=by omega
   obtain⟨b1,o1,rfl,hb1,hc,hlt⟩:=HRC.out j hj2;have y1:=zA hc hb1 hkp;have HL3:Hid (xH rules a b (marks.getD j 0)=true->zAz rules marks a b=(marks.getD j 0:Nat)):=fun h=>H1.out j hj2 h HB.out.2.1;have HN3:Hid (xH rules a b (marks.getD j 0)=false->∀i,i<j+1->xH rules a b (marks.getD i 0)=false):=fun h i hi=>by
    by_cases e:i=j
    ·rw[e];exact h
    ·exact HB.out.2.1 i (by omega)
   have HD:Hid (∀t:Nat,t<16777216->Calls prog 174 #[.pointer (some ⟨p,0,none⟩),.int .i64 a,.int .i64 b,.int .i64 t] wr fun e w'=>e=.returned (.bool (xH rules a b t))∧Grew w w'):=fun t ht=>by
    refine((HS.out.grown HB.out.2.2).differ a b t ha hb ht).mono ?_;rintro e w2 ⟨rfl,hk2⟩;exact⟨rfl,HB.out.2.2.trans (hk2.lower HB.out.2.2.size HB.out.2.2.size)⟩
   generalize marks.getD j 0=r at *;have HD2:=HD.out r hlt;cases hd:xH rules a b r with
   |false=>
    rw[hd] at HD2;have HR:=vl <| HN3.out hd;have HD3:=vl HD2;go_wp2_with (first|(go_at_call 174;refine HD3.out.mono ?_;rintro e w5 ⟨rfl,hk5⟩))
    go_roundg (marks.length-(j+1))
    case measure=>rw[HB.out.1];omega
    case rel=>exact⟨j+1,rfl,by omega,by go_num,HR.out,hk5⟩
   |true=>
    rw[hd] at HD2;have HR:=vl <| HL3.out hd;have HD3:=vl HD2;go_wp2_with (first|(go_at_call 174;refine HD3.out.mono ?_;rintro e w5 ⟨rfl,hk5⟩))
    go_ret;exact⟨by rw[HR.out];rfl,hk5⟩
  ·have i1:(marks.length:Int)<=(j:Int):=by omega
   have HR:=vl <| H2.out fun i hi=>hno i (by omega);go_wp2;go_ret;exact⟨by rw[HR.out];rfl,HB.out.2.2⟩
def zAt (rules marks found:List Nat)(set:Nat):Nat:=found.findIdx fun o=>jM rules marks set o
theorem zHs (rules marks found:List Nat)(set:Nat):zAt rules marks found set<=found.length:=List.findIdx_le_length
theorem zEJ (w:World)(p q:Nat)(rv mv fv:Value)(rules marks found:List Nat)(hS:So w p q rv rules)(hm:w.cell? ⟨p,7,none⟩=some mv)(hM:Ints w (In w) mv (marks.map fun(x:Nat)=>(x:Int)))(hl:marks.length<=1000000000000)(hr:∀r∈marks,r<16777216)(hf:w.cell? ⟨p,6,none⟩=some fv)(hF:Ints w (In w) fv (found.map fun(x:Nat)=>(x:Int)))(hl2:found.length<=1000000000000)(hr2:∀r∈found,r<16777216)(a:Nat)(ha:a<16777216):
  Calls prog 130 #[.pointer (some ⟨p,0,none⟩),.int .i64 a] w fun e w'=>e=.returned (.int .i64 (zAt rules marks found a))∧Grew w w':=by
 have hF':=hF;obtain⟨ar,cr,hrv,_,_,hrc⟩:=hF;rw[kV] at hrv;subst hrv;have HRC:Hid (∀i,i<found.length->∃b o,ar=some ⟨b,o,none⟩∧In w b∧w.cell? ⟨b,o+i,none⟩=some (.int .i64 ((found.getD i 0:Nat):Int))∧found.getD i 0<16777216):=by
  intro i hi;obtain⟨b,o,h1,h0,h2⟩:=hrc i (by rw[kV];exact hi);refine⟨b,o,h1,h0,?_,hr2 _ (zR _ i 0 hi)⟩;rw[lW,gJ,lV hi] at h2;rw[lW,lV hi];exact h2
 have hpl:=hS.lp;have HAC:Hid (∀wr,Grew w wr->∀b:Nat,b<16777216->Calls prog 173 #[.pointer (some ⟨p,0,none⟩),.int .i64 a,.int .i64 b] wr fun e w'=>e=.returned (.bool (jM rules marks a b))∧Grew w w'):=fun wr hk b hb=>by
  refine(zDJ wr p q rv mv rules marks (hS.grown hk) (zA hm hpl hk) (hM.grown hk) hl hr a b ha hb).mono ?_;rintro e w2 ⟨rfl,hk2⟩;exact⟨rfl,hk.trans (hk2.lower hk.size hk.size)⟩
 have H1:Hid (∀j,j<found.length->jM rules marks a (found.getD j 0)=true->(∀i,i<j->jM rules marks a (found.getD i 0)=false)->zAt rules marks found a=j):=fun j hj h hn=>zDk found _ j hj h hn;have H2:Hid ((∀i,i<found.length->jM rules marks a (found.getD i 0)=false)->zAt rules marks found a=found.length):=fun h=>zBb found _ h;go_in;go_wp2;go_loopg [12] found.length (fun k i wr=>∃j:Nat,k=found.length-j∧j<=found.length∧i=.int .i64 (j:Int)∧(∀i,i<j->jM rules marks a (found.getD i 0)=false)∧Grew w wr)
 case atStart=>exact⟨0,rfl,lX,rfl,fun i hi=>by omega,⟨rfl,rfl,lQ,fun _ _ _=>rfl⟩⟩
 case round=>
  obtain⟨j,hgk,hj,rfl,hno,hkp⟩:=hrel;have HB:Hid (gk=found.length-j∧(∀i,i<j->jM rules marks a (found.getD i 0)=false)∧Grew w wr):=⟨hgk,hno,hkp⟩
  by_cases hj2:j<found.length
  ·have i1:(j:Int)<(found.length:Int):=by omega
   obtain⟨b1,o1,rfl,hb1,hc,hlt⟩:=HRC.out j hj2;have y1:=zA hc hb1 hkp;have HL3:Hid (jM rules marks a (found.getD j 0)=true->zAt rules marks found a=j):=fun h=>H1.out j hj2 h HB.out.2.1;have HN3:Hid (jM rules marks a (found.getD j 0)=false->∀i,i<j+1->jM rules marks a (found.getD i 0)=false):=fun h i hi=>by
    by_cases e:i=j
    ·rw[e];exact h
    ·exact HB.out.2.1 i (by omega)
   have HD:=vl <| HAC.out wr hkp;generalize found.getD j 0=r at *;have HD2:=HD.out r hlt;cases hd:jM rules marks a r with
   |false=>
    rw[hd] at HD2;have HR:=vl <| HN3.out hd;have HD3:=vl HD2;go_wp2_with (first|(go_at_call 173;refine HD3.out.mono ?_;rintro e w5 ⟨rfl,hk5⟩))
    go_roundg (found.length-(j+1))
    case measure=>rw[HB.out.1];omega
    case rel=>exact⟨j+1,rfl,by omega,by go_num,HR.out,hk5⟩
   |true=>
    rw[hd] at HD2;have HR:=vl <| HL3.out hd;have HD3:=vl HD2;go_wp2_with (first|(go_at_call 173;refine HD3.out.mono ?_;rintro e w5 ⟨rfl,hk5⟩))
    go_ret;exact⟨by rw[HR.out];rfl,hk5⟩
  ·have i1:(found.length:Int)<=(j:Int):=by omega
   have y9:=zA hf hpl hkp;have HR:=vl <| H2.out fun i hi=>hno i (by omega);go_wp2;go_ret;exact⟨by rw[HR.out];rfl,HB.out.2.2⟩
end Go.Proofs.YtbjcfkdnjaiclaaGreat
