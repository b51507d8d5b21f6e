import Derived.Deep.RegionHeld3
import Derived.Test.YtbjcfkdnjaiclaaGreatA0
import Derived.Test.YtbjcfkdnjaiclaaGreatA7
/- Parts of the proof. -/
set_option linter.unusedVariables false
set_option linter.unusedSimpArgs false
set_option maxHeartbeats 4000000
set_option maxRecDepth 100000
namespace Go.Proofs.YtbjcfkdnjaiclaaGreat
open Go.RowKit Go.Proofs.Tryz Go.World
open Go.Value (int slice bool pointer string agg tuple)
open Go.IntKind (i64)
open Go.Ending (returned)
theorem zGF (s t:ByteArray)(r:Rx):r.take s t={r with at_:=if zJ s r.at_ t then r.at_+t.size else r.at_}:=by
 cases h:zJ s r.at_ t with
 |true=>rw[zHz h];rfl
 |false=>rw[zJY h];rfl
structure Cw (w w':World)(b:Nat)(s:ByteArray)(dv:Value)(r:Rx)(pos:Nat)(L:List (Int×Int))(o:Bool):Prop where
 set:zOo w' (w.heap.size+2) (w.heap.size+1) L o
 box:w'.heap[w.heap.size]? =some (.cells #[slice none 0 0,bool false] 161)
 rx:RxAt w' b s dv {r with at_:=pos}
 keep:Keep w.heap.size b w w'
theorem vL (w w2:World)(b:Nat)(s:ByteArray)(dv:Value)(r:Rx)(x y u:Value)(o:Bool)(hb:b<w.heap.size)(hB:w2.heap[w.heap.size]? =some (.cells #[x,y] 161))(h:RxAt w2 b s dv r)(hk:Keep w.heap.size b w w2):
  ∃w3,w3=(w2.setCell ⟨w.heap.size,0,none⟩ u).setCell ⟨w.heap.size,1,none⟩ (bool o)∧w3.cell? ⟨w.heap.size,0,none⟩=some u∧w3.cell? ⟨w.heap.size,1,none⟩=some (bool o)∧Hid (RxAt w3 b s dv r∧Keep w.heap.size b w w3∧∀l,RangesIn (fun i=>w.heap.size<i) w2 u l->RangesIn (fun i=>w.heap.size<=i) w3 u l):=by
 have h2:((w2.setCell ⟨w.heap.size,0,none⟩ u).setCell ⟨w.heap.size,1,none⟩ (bool o)).heap[w.heap.size]? =some (.cells #[u,bool o] 161):=by
  simp[setCell,lU,hB]
 have hne:∀i,i≠w.heap.size->((w2.setCell ⟨w.heap.size,0,none⟩ u).setCell ⟨w.heap.size,1,none⟩ (bool o)).heap[i]? =w2.heap[i]? :=fun i hi2=>by
  simp[setCell,lU,Ne.symm hi2]
 refine⟨_,rfl,?_,?_,RxAt.of_block h (hne b (by omega)),hk.trans ⟨rfl,rfl,by simp[World.setCell],fun k h1 _=>hne k (by omega)⟩,fun l hl=>RangesIn.mono (X:=fun i=>w.heap.size<i) (hl.go ⟨rfl,rfl,by simp[World.setCell],fun i _ hx=>hne i (Nat.ne_of_gt hx)⟩) (fun i _ hx=>Nat.le_of_lt hx)⟩
 ·unfold cell?;rw[h2];rfl
 ·unfold cell?;rw[h2];rfl
theorem zIt (w:World)(b:Nat)(s:ByteArray)(dv:Value)(r:Rx)(h:RxAt w b s dv r):
  ∃w3,w3=(((w.alloc (.cells #[slice none 0 0,bool false] 161)).setCell ⟨b,2,none⟩ (int i64 ((r.at_:Int)+1))).alloc (.cells #[slice none 0 0,bool false] 161))∧Cw w w3 b s dv r (r.at_+1) [] false∧w.heap.size+2<=w3.heap.size∧w3.heap[w.heap.size+1]? =some (.cells #[slice none 0 0,bool false] 161):=by
 have hlb:=h.lt;have s1:(w.alloc (.cells #[slice none 0 0,bool false] 161)).heap.size=w.heap.size+1:=by simp
 have b1:=gJ w (.cells #[slice none 0 0,bool false] 161);have h1:RxAt (w.alloc (.cells #[slice none 0 0,bool false] 161)) b s dv r:=RxAt.of_block h (lG _ _ _ hlb);have h2:=h1.setAt (r.at_+1);rw[show ((r.at_+1:Nat):Int)=(r.at_:Int)+1 by omega] at h2;have k1:Keep w.heap.size b w (w.alloc (.cells #[slice none 0 0,bool false] 161)):=kZ _ _ lQ;generalize (w.alloc (.cells #[slice none 0 0,bool false] 161))=w1 at *;have b2:(w1.setCell ⟨b,2,none⟩ (int i64 ((r.at_:Int)+1))).heap[w.heap.size]? =some (.cells #[slice none 0 0,bool false] 161):=(lJ _ _ _ _ (by show w.heap.size≠b;omega)).trans b1;have s2:(w1.setCell ⟨b,2,none⟩ (int i64 ((r.at_:Int)+1))).heap.size=w.heap.size+1:=by rw[zC];exact s1
 have k2:Keep w.heap.size b w (w1.setCell ⟨b,2,none⟩ (int i64 ((r.at_:Int)+1))):=k1.trans (Keep.set _ _ _);generalize (w1.setCell ⟨b,2,none⟩ (int i64 ((r.at_:Int)+1)))=w2 at *;have b3:=gJ w2 (.cells #[slice none 0 0,bool false] 161);rw[s2] at b3;refine⟨_,rfl,⟨⟨slice none 0 0,b3,ownsRow_nil _ _ _ _,by omega,by simp;omega⟩,(lG _ _ _ (by omega)).trans b2,RxAt.of_block h2 (lG _ _ _ (by omega)),k2.trans (kZ _ _ (by omega))⟩,by simp;omega,b3⟩
theorem zEc (w:World)(b:Nat)(s:ByteArray)(dv:Value)(r:Rx)(h:RxAt w b s dv r)(hs:s.size<=1048576)(ha:r.at_<s.size):
  Calls prog 208 #[pointer (some ⟨b,0,none⟩)] w (zAp w b s dv r (zBW s r.at_)):=by
 have hlb:=h.lt;obtain⟨i0,hi0,hz0,hz1,hz2⟩:=info_parts zDJ;obtain⟨w3,hw3,hC3,hs3,hb3⟩:=zIt w b s dv r h;have HB3:=vl hb3;obtain⟨o,ho⟩:∃o,o=zJ s (r.at_+1) ⟨#[94]⟩:=⟨_,rfl⟩
 obtain⟨p0,hp0⟩:∃p0,p0=(if zJ s (r.at_+1) ⟨#[94]⟩ then r.at_+2 else r.at_+1):=⟨_,rfl⟩
 have hpl:p0<=s.size:=by
  rw[hp0];split
  ·rename_i e
   have:=vC e;have e4:(⟨#[94]⟩:ByteArray).size=1:=rfl;omega
  ·omega
 obtain⟨G,hG⟩:∃G,G=zAT s (s.size+1) p0 []:=⟨_,rfl⟩
 have HG:Hid (zBW s r.at_=G.map fun g=>(⟨g.1,o⟩,g.2)):=by
  show _=_;unfold zBW;rw[hG,ho,hp0]
 have HTK:Hid (Ca 189 #[pointer (some ⟨b,0,none⟩),string ⟨#[94]⟩] w3 fun e w'=>e=returned (bool o)∧RxAt w' b s dv {r with at_:=p0}∧∀H,Keep H b w3 w'):=by
  have:=jH w3 b s dv {r with at_:=r.at_+1} hC3.rx hs (by show r.at_+1<=_;omega) ⟨#[94]⟩ (by decide);rw[zGF] at this;rw[hp0,ho];exact this
 have HG0:=vl hG;have HC3:=vl hC3;obtain⟨-,-,c2,-,-,cf⟩:=h.cells;have cf2:=cf 2;rw[HG.out];clear hp0 ho hG cf HG h hC3 hb3;have HLB:=vl hlb;have c2b:(w.alloc (.cells #[slice none 0 0,bool false] 161)).cell? ⟨b,2,none⟩=some (int i64 (r.at_:Int)):=(dX _ _ _ hlb).trans c2;have cf2b:(w.alloc (.cells #[slice none 0 0,bool false] 161)).frozen? ⟨b,2,none⟩=false:=(frozen?_alloc_past _ _ _ hlb).trans cf2;clear hlb c2 cf2;go_in;apply wp_cut;intro K0 J;go_wp2;apply J.out;clear J;apply wp_cut;intro K0 J;go_wp2;apply J.out;clear J;apply wp_cut;intro K0 J;go_wp2;apply J.out;clear J;rw[<-hw3];clear hw3;apply wp_cut;intro K0 J;go_wp2_with (first|(go_at_call 189;refine HTK.out.mono ?_;rintro e w4 ⟨rfl,hR4,hk4⟩;have hB4:w4.heap[w.heap.size+1]? =some (.cells #[slice none 0 0,bool false] 161):=((hk4 w3.heap.size).block _ (by omega) (by have:=HLB.out;omega)).trans HB3.out;have x4:w4.cell? ⟨w.heap.size+1,1,none⟩=some (bool false):=(by unfold cell?;rw[hB4];rfl);have fz1:w4.frozen? ⟨w.heap.size+1,1,none⟩=false:=(by unfold frozen?;rw[hB4];rfl);have HB4:=vl hB4;clear hB4))
 apply J.out;clear J;obtain⟨w5,hw5,H5⟩:∃w5,w5=w4.setCell ⟨w.heap.size+1,1,none⟩ (bool o)∧Hid (Cw w w5 b s dv r p0 [] o):=by
  have hb:=HLB.out;have hk:=hk4 w3.heap.size;have b4:=HB4.out;refine⟨_,rfl,⟨⟨slice none 0 0,⟨by simp[setCell,lU,b4],ownsRow_nil _ _ _ _,by omega,by rw[zC];have:=hk.size;omega⟩⟩,(lJ _ _ _ _ (by show w.heap.size≠w.heap.size+1;omega)).trans ((hk.block _ (by omega) (by omega)).trans HC3.out.box),RxAt.of_block hR4 (lJ _ _ _ _ (by show b≠w.heap.size+1;omega)),HC3.out.keep.trans ((hk4 _).trans ⟨rfl,rfl,by rw[zC];omega,fun k h1 _=>lJ _ _ _ _ (by show k≠w.heap.size+1;omega)⟩)⟩⟩
 rw[<-hw5];clear hw5 hR4 hk4 fz1 x4 HC3 HTK hs3 c2b cf2b HB3 HB4;refine wp_block ?_;go_loopg [6] (s.size+1) (fun q v wr=>∃f pos L,q=f∧pos<=s.size∧s.size+1-pos<=f∧zAT s f pos L=G∧Cw w wr b s dv r pos L o∧L.length<=pos)
 case atStart=>exact⟨s.size+1,p0,[],rfl,hpl,by omega,HG0.out.symm,H5.out,lX⟩
 case round=>
  obtain⟨f,pos,L,hgk,hpos,hf,hGo,hC,hL⟩:=hrel;cases f with
  |zero=>omega
  |succ f=>
  obtain⟨m1,m2,m3,m4,m5,m6⟩:=zJ9 s pos;have HM:=vl <| zG0 wr b s dv {r with at_:=pos} hC.rx hs (by show pos<=_;omega) (by show(xE s pos).at_<=_;have:=(zEP s pos).1;omega);have hGo2:(if (yI s pos).ok then(if zJ s (yI s pos).at_ ⟨#[93]⟩ then some (L++[((yI s pos).low,(yI s pos).high)],(yI s pos).at_+1) else zAT s f (yI s pos).at_ (L++[((yI s pos).low,(yI s pos).high)])) else none)=G:=hGo;clear hGo;obtain⟨sv,hRw⟩:=hC.set;obtain⟨asv,csv,hsv⟩:=zG hRw.own;subst hsv;have HC:Hid (Cw w wr b s dv r pos L o∧Rw wr (w.heap.size+2) (w.heap.size+1) (slice asv L.length csv) L o∧gk=f+1):=⟨hC,hRw,hgk⟩
  clear hC hRw hgk;generalize yI s pos=m at *;obtain⟨lo,hi,ok,at1⟩:=m;have m1b:at1<=pos+30:=m1;have M2:=vl m2;have HGo:=vl hGo2;have HM2:=vl HM.out;clear m1 m2 m3 m4 m5 m6 hGo2 HM;have hwr:w.heap.size+2<=wr.heap.size:=HC.out.2.1.lt;refine wp_block ?_;apply wp_cut;intro K1 HK1;go_wp2_with (first|(go_at_call 215;refine HM2.out.mono ?_;rintro e wm ⟨rfl,hRm,hkm⟩))
  apply HK1.out;clear HK1 HM2;obtain⟨wa,hwa,hRa,HBa,HKa,hsa,HXa,hxa⟩:∃wa,wa=wm.alloc (.cells #[int i64 lo,int i64 hi] 255)∧Rw wa (w.heap.size+2) (w.heap.size+1) (slice asv L.length csv) L o∧Hid (wa.heap[wm.heap.size]? =some (.cells #[int i64 lo,int i64 hi] 255))∧Hid (Keep wr.heap.size b wr wa)∧wm.heap.size+1<=wa.heap.size∧RxAt wa b s dv {r with at_:=at1}∧wr.heap.size<=wm.heap.size:=by
   have hb:=HLB.out;have hz:=hkm.size;have hrm:Rw wm (w.heap.size+2) (w.heap.size+1) (slice asv L.length csv) L o:=HC.out.2.1.keep hkm (.inl (by omega)) (by omega);refine⟨_,rfl,hrm.keep (kZ (b:=wm.heap.size) _ _ lQ) (.inr rfl) (by omega),gJ _ _,hkm.trans (kZ _ _ hz),by simp,RxAt.of_block hRm (lG _ _ _ (by omega)),hz⟩
  rw[<-hwa];clear hwa hRm hkm;have hb:=HLB.out;have hBx:wa.heap[w.heap.size]? =some (.cells #[slice none 0 0,bool false] 161):=(HKa.out.block _ (by omega) (by omega)).trans HC.out.1.box;have HBx:Hid (wa.heap[w.heap.size]? =some (.cells #[slice none 0 0,bool false] 161)∧Keep w.heap.size b w wa):=⟨hBx,HC.out.1.keep.trans ⟨HKa.out.os,HKa.out.output,HKa.out.size,fun k h1 h2=>HKa.out.block k (by omega) h2⟩⟩
  clear hBx hb;cases ok with
  |false=>
   have HGn:=vl HGo.out.symm;obtain⟨w7,hw7,z0,z1,HZ⟩:=vL w wa b s dv {r with at_:=at1} _ _ (slice none 0 0) false HLB.out HBx.out.1 HXa HBx.out.2;have q0:wa.cell? ⟨w.heap.size,0,none⟩=some (slice none 0 0):=by unfold cell?;rw[HBx.out.1];rfl
   have q1:wa.cell? ⟨w.heap.size,1,none⟩=some (bool false):=by unfold cell?;rw[HBx.out.1];rfl
   have g0:wa.frozen? ⟨w.heap.size,0,none⟩=false:=by unfold frozen?;rw[HBx.out.1];rfl
   have g1:wa.frozen? ⟨w.heap.size,1,none⟩=false:=by unfold frozen?;rw[HBx.out.1];rfl
   rw[HGn.out];clear HXa hRa hsa hxa hwr HGo HGn;go_wp2;rw[<-hw7];refine dZ (v:=tuple #[agg #[slice none 0 0,bool false],bool false]) (by simp[results,results208,go_sem,z0,z1]) rfl ?_;exact⟨HZ.out.2.1,none,0,0,false,at1,rfl,HZ.out.1⟩
  |true=>
   have M3:=M2.out rfl;have HGo2:=vl HGo.out;clear HGo M2;apply wp_cut;intro K1 HK1;go_wp2;apply HK1.out;clear HK1;obtain⟨x0,-,xf⟩:=hRa.cells;have xf0:=xf 0;have OW:wa.ownsRow (w.heap.size+2) 255 2 (slice asv L.length csv) L.length (yW L):=hRa.own;have hlt1:w.heap.size+1<wa.heap.size:=by omega
   have HNP:=vl <| zM hRa.own hRa.blk (by decide);have c0:wa.cell? ⟨wm.heap.size,0,none⟩=some (int i64 lo):=by unfold cell?;rw[HBa.out];rfl
   have c1:wa.cell? ⟨wm.heap.size,1,none⟩=some (int i64 hi):=by unfold cell?;rw[HBa.out];rfl
   have HRa:=vl hRa;have HXA:=vl HXa;clear xf hRa HXa;apply wp_cut;intro K1 HK1;go_wp2_with (first|(at_builtin;refine wpList_append_lies _ rfl _ _ 159 rfl (w.heap.size+2) 255 i0 (agg #[int i64 0,int i64 0]) 2 16 underlying159 hi0 hz0 hz1 hz2 rfl (by decide) _ _ _ rfl (OW.alloc _) ⟨wa.heap.size,0,none⟩ 1 1 [int i64 lo,int i64 hi] rfl rfl (news_of_block (cs:=#[int i64 lo,int i64 hi]) (t:=255) (fr:=(0,0)) (gJ wa _)) (by simp[Value.oneCell']) (by decide) (by unfold maxLen;omega) (by omega) (by simp;omega) _ rfl ?_;intro gg cap w2 hown hgrow hat hlt;have hPB:=hgrow.block (w.heap.size+1) (by simp;omega) HNP.out;have x0b:w2.cell? ⟨w.heap.size+1,0,none⟩=some (slice asv L.length csv):=(gG hPB).trans ((dX _ _ _ hlt1).trans x0);have xf0b:w2.frozen? ⟨w.heap.size+1,0,none⟩=false:=(dQ hPB).trans ((frozen?_alloc_past _ _ _ hlt1).trans xf0)))
   apply HK1.out;clear HK1;obtain⟨w6,hw6,HR6⟩:∃w6,w6=w2.setCell ⟨w.heap.size+1,0,none⟩ (slice (some ⟨gg,0,none⟩) (L.length+1) cap)∧Hid (Rw w6 (w.heap.size+2) (w.heap.size+1) (slice (some ⟨gg,0,none⟩) (L.length+1) cap) (L++[(lo,hi)]) o∧KeepO (w.heap.size+1) (slice asv L.length csv) (slice (some ⟨gg,0,none⟩) (L.length+1) cap) wa w6):=⟨_,rfl,HRa.out.app rfl hown hgrow (by rcases hat with ha|ha;exact .inl ha;right;rw[ha];simp)⟩
   rw[<-hw6];clear hw6 hown hgrow hat hlt hPB x0b xf0b OW HNP hlt1 c0 c1 x0 xf0;have HK6:=vl <| HR6.out.2.keep HRa.out.own HRa.out.lt;have HX6:Hid (RxAt w6 b s dv {r with at_:=at1}∧w6.heap[w.heap.size]? =some (.cells #[slice none 0 0,bool false] 161)∧Keep w.heap.size b w w6∧w.heap.size+2<=w6.heap.size):=by
    have hb:=HLB.out;refine⟨RxAt.of_block HXA.out (HK6.out.block b (by omega) (by omega)),(HK6.out.block _ (by omega) (by omega)).trans HBx.out.1,HBx.out.2.trans ⟨HK6.out.os,HK6.out.output,HK6.out.size,fun k h1 _=>HK6.out.block k (by omega) (by omega)⟩,HR6.out.1.lt⟩
   clear HXA HBx HKa HBa hsa hxa hwr;cases ht:zJ s at1 ⟨#[93]⟩ with
   |true=>
    rw[ht] at HGo2;have HG9:=vl HGo2.out.symm;have HT9:Hid (Ca 189 #[pointer (some ⟨b,0,none⟩),string ⟨#[93]⟩] w6 fun e w'=>e=returned (bool true)∧RxAt w' b s dv {r with at_:=at1+1}∧∀H,Keep H b w6 w'):=by
     have:=jH w6 b s dv {r with at_:=at1} HX6.out.1 hs (by show at1<=_;omega) ⟨#[93]⟩ (by decide);rw[zGF] at this;have e1:zJ s ({r with at_:=at1}:Rx).at_ ⟨#[93]⟩=true:=ht;rw[e1] at this;exact this
    rw[HG9.out];clear ht HGo2 HG9;have hp6:=HX6.out.2.2.2;have HST:Hid (∀w8,(∀H,Keep H b w6 w8)->RxAt w8 b s dv {r with at_:=at1+1}->w8.cell? ⟨w.heap.size+1,0,none⟩=some (slice (some ⟨gg,0,none⟩) (L.length+1) cap)∧w8.cell? ⟨w.heap.size+1,1,none⟩=some (bool o)∧w8.cell? ⟨w.heap.size,0,none⟩=some (slice none 0 0)∧w8.cell? ⟨w.heap.size,1,none⟩=some (bool false)∧w8.frozen? ⟨w.heap.size,0,none⟩=false∧w8.frozen? ⟨w.heap.size,1,none⟩=false∧∃w7,w7=(w8.setCell ⟨w.heap.size,0,none⟩ (slice (some ⟨gg,0,none⟩) (L.length+1) cap)).setCell ⟨w.heap.size,1,none⟩ (bool o)∧w7.cell? ⟨w.heap.size,0,none⟩=some (slice (some ⟨gg,0,none⟩) (L.length+1) cap)∧w7.cell? ⟨w.heap.size,1,none⟩=some (bool o)∧Hid (RxAt w7 b s dv {r with at_:=at1+1}∧Keep w.heap.size b w w7∧RangesIn (fun i=>w.heap.size<=i) w7 (slice (some ⟨gg,0,none⟩) (L.length+1) cap) (L++[(lo,hi)]))):=fun w8 hk8 hR8=>by
     have hb:=HLB.out;have hB8:w8.heap[w.heap.size]? =some (.cells #[slice none 0 0,bool false] 161):=((hk8 (w.heap.size+1)).block _ (by omega) (by omega)).trans HX6.out.2.1;have hR9:Rw w8 (w.heap.size+2) (w.heap.size+1) (slice (some ⟨gg,0,none⟩) (L.length+1) cap) (L++[(lo,hi)]) o:=HR6.out.1.keep (hk8 _) (.inl (by omega)) (by omega);obtain⟨d0,d1,-⟩:=hR9.cells;obtain⟨w7,hw7,z0,z1,HZ⟩:=vL w w8 b s dv {r with at_:=at1+1} _ _ (slice (some ⟨gg,0,none⟩) (L.length+1) cap) o hb hB8 hR8 (HX6.out.2.2.1.trans (hk8 _));refine⟨d0,d1,?_,?_,?_,?_,w7,hw7,z0,z1,HZ.out.1,HZ.out.2.1,HZ.out.2.2 _ (hR9.in.mono fun i _ hi=>by omega)⟩
     all_goals first|(unfold cell?;rw[hB8];rfl)|(unfold frozen?;rw[hB8];rfl)
    clear hp6 HR6 HK6;go_wp2_with (first|(go_at_call 189;refine HT9.out.mono ?_;rintro e w8 ⟨rfl,hR8,hk8⟩;obtain⟨d0,d1,q0,q1,g0,g1,w7,hw7,z0,z1,HZ⟩:=HST.out w8 hk8 hR8))
    rw[<-hw7];refine dZ (v:=tuple #[agg #[slice (some ⟨gg,0,none⟩) (L.length+1) cap,bool o],bool true]) (by simp[results,results208,go_sem,z0,z1]) rfl ?_;exact⟨HZ.out.2.1,_,rfl,HZ.out.2.2,HZ.out.1⟩
   |false=>
    rw[ht] at HGo2;have HG9:=vl HGo2.out;have HT9:Hid (Ca 189 #[pointer (some ⟨b,0,none⟩),string ⟨#[93]⟩] w6 fun e w'=>e=returned (bool false)∧RxAt w' b s dv {r with at_:=at1}∧∀H,Keep H b w6 w'):=by
     have:=jH w6 b s dv {r with at_:=at1} HX6.out.1 hs (by show at1<=_;omega) ⟨#[93]⟩ (by decide);rw[zGF] at this;have e1:zJ s ({r with at_:=at1}:Rx).at_ ⟨#[93]⟩=false:=ht;rw[e1] at this;exact this
    clear ht HGo2;go_wp2_with (first|(go_at_call 189;refine HT9.out.mono ?_;rintro e w8 ⟨rfl,hR8,hk8⟩))
    have hb:=HLB.out;have hp6:=HX6.out.2.2.2;go_roundg f
    case measure=>rw[HC.out.2.2];omega
    case rel=>exact⟨f,at1,L++[(lo,hi)],rfl,M3.2,by omega,HG9.out,⟨⟨_,HR6.out.1.keep (hk8 _) (.inl (by omega)) (by omega)⟩,((hk8 (w.heap.size+1)).block _ (by omega) (by omega)).trans HX6.out.2.1,hR8,HX6.out.2.2.1.trans (hk8 _)⟩,by simp;omega⟩
section
theorem TreeAt.deeper {w:World}:∀d b t,TreeAt w d b t->TreeAt w (d+1) b t
 |0,_,_,h=>False.elim h
 |d+1,b,t,h=>by
  obtain⟨hl,rv,pv,h1,h2,ao,cap,hv,h3,h4,h5⟩:=h;refine⟨hl,rv,pv,h1,h2,ao,cap,hv,h3,h4,fun i hi=>?_⟩;obtain⟨g,o,p,ha,hg,hc,ht⟩:=h5 i hi;exact⟨g,o,p,ha,hg,hc,TreeAt.deeper d p _ ht⟩
theorem TreeAt.deep {w:World}{d e b:Nat}{t:Tr}(h:TreeAt w d b t)(he:d<=e):TreeAt w e b t:=by
 induction he with
 |refl=>exact h
 |step _ ih=>exact TreeAt.deeper _ _ _ ih
def TreeIn (X:Nat->Prop)(w:World)(d b:Nat)(t:Tr):Prop:=∀w2,Agree X w w2->TreeAt w2 d b t
section
variable {X Y:Nat->Prop} {w w2:World} {d e b:Nat} {t:Tr}
theorem TreeIn.at (h:TreeIn X w d b t):TreeAt w d b t:=h w (Agree.refl X w)
theorem TreeIn.go (h:TreeIn X w d b t)(a:Agree X w w2):TreeIn X w2 d b t:=fun w3 h3=>h w3 (a.trans h3)
theorem TreeIn.mono (h:TreeIn X w d b t)(hx:∀i,i<w.heap.size->X i->Y i):TreeIn Y w d b t:=fun w3 h3=>h w3 (h3.mono hx)
theorem TreeIn.deep (h:TreeIn X w d b t)(he:d<=e):TreeIn X w e b t:=fun w3 h3=>(h w3 h3).deep he
theorem TreeIn.step (h:TreeIn X w d b t)(a:Agree X w w2)(hx:∀i,i<w.heap.size->X i->Y i):TreeIn Y w2 d b t:=fun w3 h3=>h w3 ⟨h3.os.trans a.os,h3.output.trans a.output,lY a.size h3.size,fun i hi hxi=>(h3.block i (lZ hi a.size) (hx i hi hxi)).trans (a.block i hi hxi)⟩
theorem zJ7 {rv:Value}{ao:Option Addr}{cap:Nat}(hb:w.heap[b]? =some (.cells #[int i64 (t.kind:Int),rv,bool t.set.others,slice ao t.parts.length cap,int i64 (t.least:Int),int i64 (t.most:Int),bool t.endless,int i64 (t.chars:Int)] 165))(hx:X b)(hr:RangesIn X w rv t.set.ranges)
  (h3:t.parts.length<=cap∧t.parts.length<=1000000000000∧t.least<=1000∧t.most<=1000) (h4:cap<=maxLen) (hp:∀i,i<t.parts.length->∃g o p,ao=some ⟨g,o,none⟩∧In w g∧X g∧w.cell? ⟨g,o+i,none⟩=some (pointer (some ⟨p,0,none⟩))∧TreeIn X w d p (t.parts.getD i Tr.none)):TreeIn X w (d+1) b t:=fun w2 a=>by
 have hl:=(kQ.1 hb).1;refine⟨lZ hl a.size,rv,_,(a.block b hl hx).trans hb,hr w2 a,ao,cap,rfl,h3,h4,fun i hi=>?_⟩;obtain⟨g,o,p,ha,hg,hxg,hc,ht⟩:=hp i hi;exact⟨g,o,p,ha,lZ hg a.size,(gG (a.block g hg hxg)).trans hc,ht w2 a⟩
theorem zG4 {rv:Value}{t:Tr}(hb:w.heap[b]? =some (.cells #[int i64 (t.kind:Int),rv,bool t.set.others,slice none 0 0,int i64 (t.least:Int),int i64 (t.most:Int),bool t.endless,int i64 (t.chars:Int)] 165))(hx:X b)(hr:RangesIn X w rv t.set.ranges)(h0:t.parts=[])(h3:t.least<=1000∧t.most<=1000):TreeIn X w (d+1) b t:=by
 have e:t.parts.length=0:=by rw[h0];rfl
 refine zJ7 (ao:=none) (cap:=0) (by rw[e];exact hb) hx hr ⟨by omega,by omega,h3.1,h3.2⟩ (by unfold maxLen;omega) fun i hi=>by omega
theorem zIn (hb:w.heap[b]? =some (.cells #[int i64 0,slice none 0 0,bool false,slice none 0 0,int i64 0,int i64 0,bool false,int i64 0] 165))(hx:X b):TreeIn X w (d+1) b Tr.none:=zG4 (t:=Tr.none) hb hx (zJf X w) rfl ⟨by decide,by decide⟩
end
def zGY (c:Cs):Tr:=⟨1,c,[],0,0,false,1⟩
def Tr.add (t u:Tr):Tr:={t with parts:=t.parts++[u],chars:=xI (t.chars+u.chars)}
def Tr.plain (t:Tr):Tr:=if t.chars=0 then Tr.none else t
def xU (ps:List Nat):List Value:=ps.map fun p=>pointer (some ⟨p,0,none⟩)
structure Tw (w:World)(Y:Nat->Prop)(H p d:Nat)(sv:Value)(ps:List Nat)(t:Tr):Prop where
 blk:w.heap[p]? =some (.cells #[int i64 (t.kind:Int),slice none 0 0,bool false,sv,int i64 (t.least:Int),int i64 (t.most:Int),bool t.endless,int i64 (t.chars:Int)] 165)
 set:t.set=⟨[],false⟩
 own:w.ownsRow H 158 1 sv t.parts.length (xU ps)
 len:ps.length=t.parts.length
 parts:∀i,i<t.parts.length->TreeIn (fun j=>Y j∧j≠p∧some j≠sv.ownBlock) w d (ps.getD i 0) (t.parts.getD i Tr.none)
 pH:p<H
 lt:H<=w.heap.size
 small:t.parts.length<=10000000∧t.least<=1000∧t.most<=1000∧t.chars<=25
section
variable {w w2:World} {Y:Nat->Prop} {H p d e b:Nat} {sv:Value} {ps:List Nat} {t u:Tr}
theorem Tw.cells (h:Tw w Y H p d sv ps t):w.cell? ⟨p,3,none⟩=some sv∧w.cell? ⟨p,7,none⟩=some (int i64 (t.chars:Int))∧∀i,w.frozen? ⟨p,i,none⟩=false:=by
 refine⟨?_,?_,fun i=>?_⟩
 all_goals first|(unfold cell?;rw[h.blk];rfl)|(unfold frozen?;rw[h.blk];simp)
theorem Tw.deep (h:Tw w Y H p d sv ps t)(he:d<=e):Tw w Y H p e sv ps t:=⟨h.blk,h.set,h.own,h.len,fun i hi=>(h.parts i hi).deep he,h.pH,h.lt,h.small⟩
theorem Tw.keep (h:Tw w Y H p d sv ps t)(hk:Keep w.heap.size b w w2)(hb:b<H∨b=w.heap.size)(hbp:b≠p)(hY:b<w.heap.size->¬Y b):Tw w2 Y H p d sv ps t:=by
 have h1:=h.pH;have h2:=h.lt;refine⟨(hk.block p (by omega) (Ne.symm hbp)).trans h.blk,h.set,zD h.own fun g hg hgl _=>hk.block g hgl (by omega),h.len,fun i hi=>(h.parts i hi).go (hk.agree fun j hj hx=>⟨hj,fun e=>hY (by omega) (e ▸ hx.1)⟩),h1,lY h2 hk.size,h.small⟩
theorem Tw.in (h:Tw w Y H p d sv ps t)(hp:Y p)(hg:∀j,H<=j->Y j):TreeIn Y w (d+1) p t:=by
 obtain⟨ao,cap,hsv⟩:=zG h.own;subst hsv;have hbl:=h.blk;have hs1:t.set.ranges=[]:=by rw[h.set]
 have hs2:t.set.others=false:=by rw[h.set]
 obtain⟨k1,k2,k3,-⟩:=h.small;rcases h.own.2 with⟨hv,h0⟩|⟨g,cap2,cur,hv,hH,hh,h1,h2,h3,h4⟩
 ·injection hv with e1 e2 e3
  subst e1 e3;have e5:=List.length_eq_zero_iff.1 h0;refine zG4 (rv:=slice none 0 0) (by rw[hs2,<-h0];rw[h0] at hbl ⊢;exact hbl) hp (by rw[hs1];exact zJf Y w) e5 ⟨k2,k3⟩
 ·injection hv with e1 e2 e3
  subst e1 e3;refine zJ7 (rv:=slice none 0 0) (by rw[hs2];exact hbl) hp (by rw[hs1];exact zJf Y w) ⟨h1,by omega,k2,k3⟩ h2 fun i hi=>?_;have hg2:=h.own.lt g rfl;refine⟨g,0,ps.getD i 0,rfl,hg2.2,hg g hH,?_,(h.parts i hi).mono fun j _ hx=>hx.1⟩;have hi2:i<ps.length:=by rw[h.len];exact hi
  have hc:=h.own.cells (g:=g) rfl i (pointer (some ⟨ps.getD i 0,0,none⟩)) (by unfold xU;rw[gU,lV hi2,lW,lV hi2];rfl);rw[Addr.add_lit] at hc;exact hc
theorem Tw.setChars (h:Tw w Y H p d sv ps t)(n:Nat)(hn:n<=25):Tw (w.setCell ⟨p,7,none⟩ (int i64 (n:Int))) Y H p d sv ps {t with chars:=n}:=by
 have hpH:=h.pH;refine⟨?_,h.set,zX h.own hpH,h.len,fun i hi=>(h.parts i hi).go ⟨rfl,rfl,by rw[zC];omega,fun j hj hx=>lJ _ _ _ _ hx.2.1⟩,hpH,by rw[zC];exact h.lt,⟨h.small.1,h.small.2.1,h.small.2.2.1,hn⟩⟩;simp[setCell,lU,h.blk]
theorem Tw.app {ob:Obj}{g cap m q:Nat}(h:Tw w Y H p d sv ps t)(hm:m=t.parts.length)(hml:m<10000000)(hu:TreeIn (fun j=>Y j∧j≠p∧some j≠sv.ownBlock) w d q u)(hown:w2.ownsRow H 158 1 (slice (some ⟨g,0,none⟩) (m+1) cap) (m+1) (xU ps++[pointer (some ⟨q,0,none⟩)]))(hg:(w.alloc ob).grownBy w2 sv.ownBlock)(hat:sv.ownBlock=some g∨w.heap.size<=g):
  Tw (w2.setCell ⟨p,3,none⟩ (slice (some ⟨g,0,none⟩) (m+1) cap)) Y H p d (slice (some ⟨g,0,none⟩) (m+1) cap) (ps++[q]) {t with parts:=t.parts++[u]}∧KeepO p sv (slice (some ⟨g,0,none⟩) (m+1) cap) w (w2.setCell ⟨p,3,none⟩ (slice (some ⟨g,0,none⟩) (m+1) cap)):=by
 subst hm;have hpH:=h.pH;have hlt:=h.lt;have hbl:∀j,j<H->w2.heap[j]? =w.heap[j]? :=fun j hj=>(hg.block j (by simp;omega) fun e=>by have:=(h.own.lt j e.symm).1;omega).trans (lG _ _ _ (by omega));have hb:=(hbl p hpH).trans h.blk;have hsz:w.heap.size<=w2.heap.size:=lY (by simp) hg.size;have hKO:KeepO p sv (slice (some ⟨g,0,none⟩) (t.parts.length+1) cap) w (w2.setCell ⟨p,3,none⟩ (slice (some ⟨g,0,none⟩) (t.parts.length+1) cap)):=⟨hg.os,hg.output,by rw[zC];exact hsz,fun k h1 h2 h3=>⟨(lJ _ _ _ _ h2).trans ((hg.block k (by simp;omega) h3).trans (lG _ _ _ h1)),fun e=>by
  have e2:k=g:=by simpa[Value.ownBlock] using e
  rcases hat with ha|ha
  ·exact h3 (by rw[ha,e2])
  ·omega⟩⟩
 have hst:∀q2 t2,TreeIn (fun j=>Y j∧j≠p∧some j≠sv.ownBlock) w d q2 t2->TreeIn (fun j=>Y j∧j≠p∧some j≠(Value.slice (some ⟨g,0,none⟩) (t.parts.length+1) cap).ownBlock) (w2.setCell ⟨p,3,none⟩ (slice (some ⟨g,0,none⟩) (t.parts.length+1) cap)) d q2 t2:=fun q2 t2 h2=>h2.step ⟨hKO.os,hKO.output,hKO.size,fun i hi hx=>(hKO.block i hi hx.2.1 hx.2.2).1⟩ fun i hi hx=>⟨hx.1,hx.2.1,(hKO.block i hi hx.2.1 hx.2.2).2⟩
 refine⟨⟨?_,h.set,?_,?_,fun i hi=>?_,hpH,by rw[zC];omega,?_⟩,hKO⟩
 ·simp[setCell,lU,hb]
 ·have e1:({t with parts:=t.parts++[u]}:Tr).parts.length=t.parts.length+1:=by simp
  have e2:xU (ps++[q])=xU ps++[pointer (some ⟨q,0,none⟩)]:=by simp[xU]
  rw[e1,e2];exact zX hown hpH
 ·simp[h.len]
 ·have hi2:i<t.parts.length+1:=by simpa using hi
  show TreeIn _ _ d ((ps++[q]).getD i 0) ((t.parts++[u]).getD i Tr.none);by_cases hi3:i<t.parts.length
  ·have e1:(ps++[q]).getD i 0=ps.getD i 0:=by rw[lW,lW,kW (by rw[h.len];exact hi3)]
   have e2:(t.parts++[u]).getD i Tr.none=t.parts.getD i Tr.none:=by rw[lW,lW,kW hi3]
   rw[e1,e2];exact hst _ _ (h.parts i hi3)
  ·have e:i=t.parts.length:=by omega
   subst e;have e1:(ps++[q]).getD t.parts.length 0=q:=by rw[<-h.len];simp
   have e2:(t.parts++[u]).getD t.parts.length Tr.none=u:=by simp
   rw[e1,e2];exact hst _ _ hu
 ·obtain⟨a,b,c,dd⟩:=h.small
  refine⟨?_,b,c,dd⟩;show(t.parts++[u]).length<=10000000;simp;omega
end
end
section
theorem zBI (a:UInt8):(⟨#[a]⟩:ByteArray).size=1:=rfl
def jG (s:ByteArray)(p:Nat):Option (Cs×Nat):=
 if byt s p=91 then zBW s p
 else if byt s p=92 then(if (zAJ s (p+1)).ok then some (zH8 (zAJ s (p+1)).num,(zAJ s (p+1)).at_) else none)
 else if byt s p=46 then some (zOh,p+1)
 else if zAG (byt s p) then some (zH8 (byt s p:Nat),p+1) else none
structure Tm where
 least:Nat
 most:Nat
 endless:Bool
def Tm.copies (o:Tm):Nat:=if o.endless then(if o.least=0 then 1 else o.least) else o.most
def zBa (s:ByteArray)(p:Nat):Option (Tm×Nat):=
 if xY (byt s (p+1)) then
  if zJ s (p+2) ⟨#[125]⟩ then some (⟨byt s (p+1)-48,byt s (p+1)-48,false⟩,p+3)
  else if zJ s (p+2) ⟨#[44]⟩ then
   if zJ s (p+3) ⟨#[125]⟩ then some (⟨byt s (p+1)-48,0,true⟩,p+4)
   else if xY (byt s (p+3))&&decide (byt s (p+1)<=byt s (p+3)) then(if zJ s (p+4) ⟨#[125]⟩ then some (⟨byt s (p+1)-48,byt s (p+3)-48,false⟩,p+5) else none)
   else none
  else none
 else none
def zDK (s:ByteArray)(p:Nat):Option (Tm×Nat):=if zJ s p ⟨#[42]⟩ then some (⟨0,0,true⟩,p+1) else if zJ s p ⟨#[43]⟩ then some (⟨1,0,true⟩,p+1) else if zJ s p ⟨#[63]⟩ then some (⟨0,1,false⟩,p+1) else zBa s p
def braced (n:ByteArray):ByteArray:=⟨#[123]⟩++n++⟨#[125]⟩
def zCp (s:ByteArray)(p:Nat):List (ByteArray×Tr)->Option (Tr×Nat)
 |[]=>none
 |d::ds=>if zJ s p (braced d.1) then some (d.2,p+(braced d.1).size) else zCp s p ds
abbrev Reads:=Nat->Bool->Option (Tr×Nat)
def brM (s:ByteArray)(k:Nat)(sub:Reads)(p:Nat)(both:Bool):Option (Tr×Nat):=
 if k=0 then none else if zJ s p ⟨#[40,41]⟩ then some (Tr.none,p+2) else
 match sub (if zJ s p ⟨#[40,105,58]⟩ then p+3 else p+1) (zJ s p ⟨#[40,105,58]⟩||both) with
 |none=>none
 |some (t,q)=>if zJ s q ⟨#[41]⟩ then some (t,q+1) else none
def zKq (both:Bool)(c:Cs):Cs:=if both then⟨qC c.ranges,c.others⟩ else c
def zDl (s:ByteArray)(defs:List (ByteArray×Tr))(k:Nat)(sub:Reads)(p:Nat)(both:Bool):Option (Tr×Nat):=if byt s p=40 then brM s k sub p both else if byt s p=123 then zCp s p defs else(jG s p).map fun c=>(zGY (zKq both c.1),c.2)
def zBv (t:Tr)(o:Tm):Tr:=Tr.plain ⟨4,⟨[],false⟩,[t],o.least,o.most,o.endless,xI (t.chars*o.copies)⟩
def zBf (s:ByteArray):Nat->Nat->Tr->Option (Tr×Nat)
 |0,_,_=>none
 |f+1,p,t=>if zAP s p then(match zDK s p with
  |none=>none
  |some (o,q)=>zBf s f q (zBv t o)) else some (t,p)
def zDr (s:ByteArray)(defs:List (ByteArray×Tr))(k:Nat)(sub:Reads)(p:Nat)(both:Bool):Option (Tr×Nat):=
 match zDl s defs k sub p both with
 |none=>none
 |some (t,q)=>zBf s (s.size+1) q t
def zBy (s:ByteArray)(thing:Nat->Option (Tr×Nat)):Nat->Nat->Tr->Option (Tr×Nat)
 |0,_,_=>none
 |f+1,p,t=>match thing p with
  |none=>none
  |some (u,q)=>if zBD s q then some ((t.add u).plain,q) else zBy s thing f q (t.add u)
def zC5 (kind:Nat):Tr:=⟨kind,⟨[],false⟩,[],0,0,false,0⟩
def zOx (s:ByteArray)(defs:List (ByteArray×Tr))(k:Nat)(sub:Reads)(p:Nat)(both:Bool):Option (Tr×Nat):=zBy s (fun q=>zDr s defs k sub q both) (s.size+1) p (zC5 2)
def zAn (s:ByteArray)(row:Nat->Option (Tr×Nat)):Nat->Nat->Tr->Option (Tr×Nat)
 |0,_,_=>none
 |f+1,p,t=>match row p with
  |none=>none
  |some (u,q)=>if zJ s q ⟨#[124]⟩ then zAn s row f (q+1) (t.add u) else some ((t.add u).plain,q)
def zME (s:ByteArray)(defs:List (ByteArray×Tr))(k:Nat)(sub:Reads)(p:Nat)(both:Bool):Option (Tr×Nat):=zAn s (fun q=>zOx s defs k sub q both) (s.size+1) p (zC5 3)
def zBr (s:ByteArray)(defs:List (ByteArray×Tr)):Nat->Reads
 |0=>zME s defs 0 fun _ _=>none
 |k+1=>zME s defs (k+1) (zBr s defs k)
def vO (s:ByteArray)(defs:List (ByteArray×Tr)):Option Tr:=
 match zBr s defs 8 0 false with
 |none=>none
 |some (t,q)=>if q=s.size then some t else none
theorem zDR (n:Nat):xI n<=25:=by unfold xI;split <;> omega
theorem zJO (a b:Nat):xI (xI a+xI b)=xI (a+b):=by
 unfold xI;by_cases h1:24<a <;> by_cases h2:24<b <;> by_cases h3:24<a+b <;> simp only[h1,h2,h3,if_true,if_false] <;> first|omega|(split <;> omega)
theorem zJN (a k:Nat):xI (xI a*k)=xI (a*k):=by
 rcases Nat.eq_zero_or_pos k with h|h
 ·subst h;rfl
 ·unfold xI
  by_cases h1:24<a
  ·have h2:=Nat.mul_le_mul_left a h
   have h3:=Nat.mul_le_mul_left 25 h;rw[if_pos h1,if_pos (by omega),if_pos (by omega)]
  ·rw[if_neg h1]
theorem zIr (f g:Tr->Nat)(parts:List Tr)(h:∀u∈parts,f u=g u)(j:Nat)(hj:j<=parts.length):zW f parts j=zW g parts j:=by
 induction j with
 |zero=>rfl
 |succ j ih=>
  show zW f parts j+f (parts.getD j Tr.none)=zW g parts j+g (parts.getD j Tr.none);have hm:parts.getD j Tr.none∈parts:=by
   rw[lW,lV (by omega:j<parts.length)];exact List.getElem_mem _
  rw[ih (by omega),h _ hm]
theorem zLx (f:Tr->Nat)(parts:List Tr)(u:Tr)(j:Nat)(hj:j<=parts.length):zW f (parts++[u]) j=zW f parts j:=by
 induction j with
 |zero=>rfl
 |succ j ih=>
  show zW f (parts++[u]) j+f ((parts++[u]).getD j Tr.none)=zW f parts j+f (parts.getD j Tr.none);rw[ih (by omega),lW,lW,kW (by omega)]
def zLP (c:Cs):Prop:=c.ranges.length<=10000000∧∀r∈c.ranges,-100<=r.1∧r.1<=20000000∧-100<=r.2∧r.2<=20000000
def TrOk:Nat->Tr->Prop
 |0,_=>False
 |d+1,t=>zLP t.set∧(∀u∈t.parts,TrOk d u)∧t.chars=xI (yQ (d+1) t)
theorem zGv:∀d t,TrOk d t->yQ (d+1) t=yQ d t
 |0,_,h=>False.elim h
 |d+1,t,h=>by
  have e:=zIr _ _ _ (fun u hu=>zGv d u (h.2.1 u hu)) _ lQ;show(if t.kind=1 then 1 else if t.kind=2∨t.kind=3 then zW (yQ (d+1)) t.parts t.parts.length else if t.kind=4 then t.copies*zW (yQ (d+1)) t.parts t.parts.length else 0)=(if t.kind=1 then 1 else if t.kind=2∨t.kind=3 then zW (yQ d) t.parts t.parts.length else if t.kind=4 then t.copies*zW (yQ d) t.parts t.parts.length else 0);rw[e]
theorem TrOk.deeper:∀d t,TrOk d t->TrOk (d+1) t
 |0,_,h=>False.elim h
 |d+1,t,h=>⟨h.1,fun u hu=>TrOk.deeper d u (h.2.1 u hu),by rw[zGv (d+1) t h];exact h.2.2⟩
theorem TrOk.deep {d e:Nat}{t:Tr}(h:TrOk d t)(he:d<=e):TrOk e t:=by
 induction he with
 |refl=>exact h
 |step _ ih=>exact TrOk.deeper _ _ ih
theorem TrOk.few {d:Nat}{t:Tr}(h:TrOk d t):t.chars<=25:=by
 cases d with
 |zero=>exact False.elim h
 |succ d=>rw[h.2.2];exact zDR _
theorem TrOk.chars {d:Nat}{t:Tr}(h:TrOk d t):t.chars=xI (yQ d t):=by
 cases d with
 |zero=>exact False.elim h
 |succ d=>exact h.2.2
theorem zE5 (o:Bool):zLP ⟨[],o⟩:=⟨by show 0<=_;omega,fun r hr=>by cases hr⟩
theorem zJ6 (d:Nat):TrOk (d+1) Tr.none:=⟨zE5 false,fun u hu=>(by cases hu),rfl⟩
theorem zN5 (d:Nat)(c:Cs)(h:zLP c):TrOk (d+1) (zGY c):=⟨h,fun u hu=>(by cases hu),rfl⟩
theorem zE3 {d:Nat}{t:Tr}(h:TrOk d t):TrOk d t.plain:=by
 cases d with
 |zero=>exact False.elim h
 |succ d=>
  unfold Tr.plain;split
  ·exact zJ6 d
  ·exact h
theorem zIJ {d:Nat}{t:Tr}(o:Tm)(h:TrOk d t):TrOk (d+1) (zBv t o):=by
 refine zE3 ⟨zE5 false,fun u hu=>?_,?_⟩
 ·rw[kY.1 hu];exact h
 ·show xI (t.chars*o.copies)=xI (o.copies*(0+yQ d t))
  rw[h.chars,zJN,Nat.zero_add,Nat.mul_comm]
theorem zGZ (d k:Nat)(hk:k=2∨k=3):TrOk (d+1) (zC5 k):=by
 refine⟨zE5 false,fun u hu=>(by cases hu),?_⟩;rcases hk with e|e <;> subst e <;> rfl
theorem zHl {d:Nat}{t u:Tr}(h:TrOk (d+1) t)(hk:t.kind=2∨t.kind=3)(hu:TrOk d u):TrOk (d+1) (t.add u):=by
 refine⟨h.1,fun v hv=>?_,?_⟩
 ·rcases kU.1 hv with h1|h1
  ·exact h.2.1 v h1
  ·rw[kY.1 h1];exact hu
 ·have h1:t.kind≠1:=by omega
  have e1:yQ (d+1) t=zW (yQ d) t.parts t.parts.length:=by
   show(if t.kind=1 then _ else if t.kind=2∨t.kind=3 then _ else _)=_;rw[if_neg h1,if_pos hk]
  have e2:yQ (d+1) (t.add u)=zW (yQ d) (t.parts++[u]) (t.parts++[u]).length:=by
   show(if t.kind=1 then _ else if t.kind=2∨t.kind=3 then _ else _)=_;rw[if_neg h1,if_pos hk];rfl
  have e3:(t.parts++[u]).length=t.parts.length+1:=by simp
  have e4:(t.parts++[u]).getD t.parts.length Tr.none=u:=by simp
  show xI (t.chars+u.chars)=xI (yQ (d+1) (t.add u));rw[e2,e3];show _=xI (zW (yQ d) (t.parts++[u]) t.parts.length+yQ d ((t.parts++[u]).getD t.parts.length Tr.none));rw[e4,zLx _ _ _ _ lQ,h.2.2,hu.chars,zJO,e1]
theorem zDn {t u:Tr}(hk:t.kind=2∨t.kind=3):(t.add u).kind=2∨(t.add u).kind=3:=hk
theorem zFu (s:ByteArray):∀f p l l' q,zAT s f p l=some (l',q)->(∀r∈l,-100<=r.1∧r.1<=20000000∧-100<=r.2∧r.2<=20000000)->p<q∧q<=s.size∧l'.length<=l.length+(q-p)∧∀r∈l',-100<=r.1∧r.1<=20000000∧-100<=r.2∧r.2<=20000000
 |0,_,_,_,_,h,_=>by cases h
 |f+1,p,l,l',q,h,hl=>by
  obtain⟨m1,m2,m3,m4,m5,m6⟩:=zJ9 s p;have hl2:∀r∈l++[((yI s p).low,(yI s p).high)],-100<=r.1∧r.1<=20000000∧-100<=r.2∧r.2<=20000000:=fun r hr=>by
   rcases kU.1 hr with h1|h1
   ·exact hl r h1
   ·rw[kY.1 h1]
    show -100<=(yI s p).low∧(yI s p).low<=20000000∧-100<=(yI s p).high∧(yI s p).high<=20000000;omega
  have h2:(if (yI s p).ok then(if zJ s (yI s p).at_ ⟨#[93]⟩ then some (l++[((yI s p).low,(yI s p).high)],(yI s p).at_+1) else zAT s f (yI s p).at_ (l++[((yI s p).low,(yI s p).high)])) else none)=some (l',q):=h;by_cases hk:(yI s p).ok=true
  ·rw[if_pos hk] at h2
   have m7:=m2 hk;by_cases ht:zJ s (yI s p).at_ ⟨#[93]⟩=true
   ·rw[if_pos ht] at h2
    have e:=hU h2;have e1:l++[((yI s p).low,(yI s p).high)]=l':=congrArg Prod.fst e;have e2:(yI s p).at_+1=q:=congrArg Prod.snd e;have h5:=vC ht;rw[zBI] at h5;refine⟨by omega,by omega,?_,by rw[<-e1];exact hl2⟩;rw[<-e1,kX];show l.length+1<=_;omega
   ·rw[if_neg ht] at h2
    obtain⟨a,b,c,dd⟩:=zFu s f _ _ l' q h2 hl2;refine⟨by omega,b,?_,dd⟩;rw[kX] at c;have e9:[((yI s p).low,(yI s p).high)].length=1:=rfl;omega
  ·rw[if_neg hk] at h2
   cases h2
theorem zMc (n:Int)(h:0<=n∧n<=16777216):zLP (zH8 n):=⟨by show 1<=_;omega,fun r hr=>by rw[kY.1 hr];show -100<=n∧n<=20000000∧-100<=n∧n<=20000000;omega⟩
def zMV (c:Cs):Prop:=c.ranges.length<=3000000∧∀r∈c.ranges,-100<=r.1∧r.1<=20000000∧-100<=r.2∧r.2<=20000000
theorem zCX (s:ByteArray)(hs:s.size<=1048576)(p:Nat)(c:Cs)(q:Nat)(h:jG s p=some (c,q)):p<q∧q<=s.size∧zMV c:=by
 have one1:∀n:Int,0<=n∧n<=16777216->zMV (zH8 n):=fun n hn=>⟨by show 1<=_;omega,(zMc n hn).2⟩
 have hb:=zAo s p;unfold jG at h;split at h
 ·unfold zBW at h
  cases hg:zAT s (s.size+1) (if zJ s (p+1) ⟨#[94]⟩ then p+2 else p+1) [] with
  |none=>rw[hg] at h;cases h
  |some g=>
   obtain⟨l',q'⟩:=g;rw[hg] at h;have e:=hU h;have e1:(⟨l',zJ s (p+1) ⟨#[94]⟩⟩:Cs)=c:=congrArg Prod.fst e;have e2:q'=q:=congrArg Prod.snd e;obtain⟨a,b,cc,dd⟩:=zFu s _ _ _ l' q' hg (fun r hr=>by cases hr);have e0:([]:List (Int×Int)).length=0:=rfl;have a2:p+1<=(if zJ s (p+1) ⟨#[94]⟩ then p+2 else p+1):=by split <;> omega
   refine⟨by omega,by omega,?_⟩;rw[<-e1];exact⟨by show l'.length<=_;omega,dd⟩
 split at h
 ·obtain⟨a,b,cc,dd⟩:=zKm s (p+1)
  split at h
  ·rename_i hk
   have e:=hU h;have e1:zH8 (zAJ s (p+1)).num=c:=congrArg Prod.fst e;have e2:(zAJ s (p+1)).at_=q:=congrArg Prod.snd e;have:=b hk;exact⟨by omega,by omega,by rw[<-e1];exact one1 _ ⟨cc,dd⟩⟩
  ·cases h
 split at h
 ·rename_i e46
  have hin:p<s.size:=zBX (by omega);have e:=hU h;have e1:zOh=c:=congrArg Prod.fst e;have e2:p+1=q:=congrArg Prod.snd e;refine⟨by omega,by omega,?_⟩;rw[<-e1];exact⟨by show 1<=_;omega,fun r hr=>by rw[kY.1 hr];decide⟩
 split at h
 ·rename_i hk
  have hin:=zBX fun e=>by rw[e] at hk;exact absurd hk (by decide)
  have e:=hU h;have e1:zH8 (byt s p:Nat)=c:=congrArg Prod.fst e;have e2:p+1=q:=congrArg Prod.snd e;exact⟨by omega,by omega,by rw[<-e1];exact one1 _ ⟨by omega,by omega⟩⟩
 ·cases h
theorem zIb (r:Int×Int)(first last far:Int)(hf:0<=first)(hl:last<=200)(hfa:-100<=far∧far<=100):∀x∈yV r first last far,-100<=x.1∧x.1<=20000000∧-100<=x.2∧x.2<=20000000:=fun x hx=>by
 unfold yV at hx;by_cases hle:(if first<r.1 then r.1 else first)<=(if r.2<last then r.2 else last)
 ·rw[if_pos hle] at hx
  rw[kY.1 hx];show -100<=(if first<r.1 then r.1 else first)+far∧(if first<r.1 then r.1 else first)+far<=20000000∧-100<=(if r.2<last then r.2 else last)+far∧(if r.2<last then r.2 else last)+far<=20000000;have h1:first<=(if first<r.1 then r.1 else first):=by split <;> omega
  have h2:(if r.2<last then r.2 else last)<=last:=by split <;> omega
  omega
 ·rw[if_neg hle] at hx
  cases hx
theorem zMK (both:Bool)(c:Cs)(h:zMV c):zLP (zKq both c):=by
 unfold zKq;split
 ·have hb:=zGx c.ranges
  refine⟨?_,fun x hx=>?_⟩
  ·show(qC c.ranges).length<=10000000
   have:=h.1;omega
  ·have hx2:=hx
   unfold qC at hx2;obtain⟨r,hr,hxr⟩:=List.mem_flatMap.1 hx2;unfold zIx at hxr;rcases List.mem_cons.1 hxr with h1|h1
   ·rw[h1];exact h.2 r hr
   rcases kU.1 h1 with h2|h2
   ·exact zIb r 65 90 32 (by decide) (by decide) ⟨by decide,by decide⟩ x h2
   ·exact zIb r 97 122 (-32) (by decide) (by decide) ⟨by decide,by decide⟩ x h2
 ·exact⟨lY h.1 (by omega),h.2⟩
theorem zG8 (s:ByteArray)(p:Nat)(o:Tm)(q:Nat)(h:zDK s p=some (o,q)):p<q∧q<=s.size∧o.least<=300∧o.most<=300:=by
 have fin:∀(o':Tm) (q' i:Nat) (x:UInt8),zJ s i ⟨#[x]⟩=true->some (o',q')=some (o,q)->q'=i+1->p<=i->o'.least<=300->o'.most<=300->p<q∧q<=s.size∧o.least<=300∧o.most<=300:=fun o' q' i x ht e hq hi h1 h2=>by
  have e:=hU e;have e1:o'=o:=congrArg Prod.fst e;have e2:q'=q:=congrArg Prod.snd e;have h5:=vC ht;rw[zBI] at h5;subst e1 e2;exact⟨by omega,by omega,h1,h2⟩
 have hb1:=zAo s (p+1);have hb3:=zAo s (p+3);unfold zDK at h;split at h
 ·rename_i ht;exact fin _ _ p _ ht h rfl (by omega) (by show 0<=300;omega) (by show 0<=300;omega)
 split at h
 ·rename_i ht;exact fin _ _ p _ ht h rfl (by omega) (by show 1<=300;omega) (by show 0<=300;omega)
 split at h
 ·rename_i ht;exact fin _ _ p _ ht h rfl (by omega) (by show 0<=300;omega) (by show 1<=300;omega)
 unfold zBa at h;split at h
 ·split at h
  ·rename_i ht;exact fin _ _ (p+2) _ ht h rfl (by omega) (by show byt s (p+1)-48<=300;omega) (by show byt s (p+1)-48<=300;omega)
  split at h
  ·split at h
   ·rename_i ht;exact fin _ _ (p+3) _ ht h rfl (by omega) (by show byt s (p+1)-48<=300;omega) (by show 0<=300;omega)
   split at h
   ·split at h
    ·rename_i ht;exact fin _ _ (p+4) _ ht h rfl (by omega) (by show byt s (p+1)-48<=300;omega) (by show byt s (p+3)-48<=300;omega)
    ·cases h
   ·cases h
  ·cases h
 ·cases h
theorem zEJ (s:ByteArray)(D:Nat):∀f p t u q,zBf s f p t=some (u,q)->p<=s.size->TrOk (D+4*p) t->p<=q∧q<=s.size∧TrOk (D+4*q) u
 |0,_,_,_,_,h,_,_=>by cases h
 |f+1,p,t,u,q,h,hp,ht=>by
  have h2:(if zAP s p then(match zDK s p with|none=>none|some (o,q)=>zBf s f q (zBv t o)) else some (t,p))=some (u,q):=h;split at h2
  ·cases hh:zDK s p with
   |none=>rw[hh] at h2;cases h2
   |some g=>
    obtain⟨o,q1⟩:=g;rw[hh] at h2;obtain⟨a,b,-,-⟩:=zG8 s p o q1 hh;obtain⟨c,d,e⟩:=zEJ s D f q1 (zBv t o) u q h2 b ((zIJ o ht).deep (by omega));exact⟨by omega,d,e⟩
  ·have e:=hU h2
   have e1:t=u:=congrArg Prod.fst e;have e2:p=q:=congrArg Prod.snd e;subst e1 e2;exact⟨lQ,hp,ht⟩
def zB2 (s:ByteArray)(D:Nat)(f:Nat->Option (Tr×Nat)):Prop:=∀p t q,f p=some (t,q)->p<q∧q<=s.size∧TrOk (D+4*q) t
theorem zHR (s:ByteArray)(D:Nat)(thing:Nat->Option (Tr×Nat))(ht:zB2 s D thing):∀f p t u q,zBy s thing f p t=some (u,q)->(t.kind=2∨t.kind=3)->TrOk (D+1+4*p) t->p<q∧q<=s.size∧TrOk (D+1+4*q) u
 |0,_,_,_,_,h,_,_=>by cases h
 |f+1,p,t,u,q,h,hk,hT=>by
  have h2:(match thing p with|none=>none|some (u,q)=>if zBD s q then some ((t.add u).plain,q) else zBy s thing f q (t.add u))=some (u,q):=h;cases hh:thing p with
  |none=>rw[hh] at h2;cases h2
  |some g=>
   obtain⟨v,q1⟩:=g;rw[hh] at h2;obtain⟨a,b,c⟩:=ht p v q1 hh;have hA:TrOk (D+1+4*q1) (t.add v):=by
    rw[show D+1+4*q1=D+4*q1+1 by omega];exact zHl (hT.deep (by omega)) hk c
   have h3:(if zBD s q1 then some ((t.add v).plain,q1) else zBy s thing f q1 (t.add v))=some (u,q):=h2;split at h3
   ·have e:=hU h3
    have e1:(t.add v).plain=u:=congrArg Prod.fst e;have e2:q1=q:=congrArg Prod.snd e;subst e1 e2;exact⟨a,b,zE3 hA⟩
   ·obtain⟨c1,c2,c3⟩:=zHR s D thing ht f q1 (t.add v) u q h3 (zDn hk) hA
    exact⟨by omega,c2,c3⟩
theorem zGs (s:ByteArray)(D:Nat)(row:Nat->Option (Tr×Nat))(ht:zB2 s D row):∀f p t u q,zAn s row f p t=some (u,q)->(t.kind=2∨t.kind=3)->TrOk (D+1+4*p) t->p<q∧q<=s.size∧TrOk (D+1+4*q) u
 |0,_,_,_,_,h,_,_=>by cases h
 |f+1,p,t,u,q,h,hk,hT=>by
  have h2:(match row p with|none=>none|some (u,q)=>if zJ s q ⟨#[124]⟩ then zAn s row f (q+1) (t.add u) else some ((t.add u).plain,q))=some (u,q):=h;cases hh:row p with
  |none=>rw[hh] at h2;cases h2
  |some g=>
   obtain⟨v,q1⟩:=g;rw[hh] at h2;obtain⟨a,b,c⟩:=ht p v q1 hh;have hA:TrOk (D+1+4*q1) (t.add v):=by
    rw[show D+1+4*q1=D+4*q1+1 by omega];exact zHl (hT.deep (by omega)) hk c
   have h3:(if zJ s q1 ⟨#[124]⟩ then zAn s row f (q1+1) (t.add v) else some ((t.add v).plain,q1))=some (u,q):=h2;split at h3
   ·obtain⟨c1,c2,c3⟩:=zGs s D row ht f (q1+1) (t.add v) u q h3 (zDn hk) (hA.deep (by omega))
    exact⟨by omega,c2,c3⟩
   ·have e:=hU h3
    have e1:(t.add v).plain=u:=congrArg Prod.fst e;have e2:q1=q:=congrArg Prod.snd e;subst e1 e2;exact⟨a,b,zE3 hA⟩
def zA0 (D:Nat)(defs:List (ByteArray×Tr)):Prop:=∀d∈defs,TrOk D d.2
theorem zBY (n:ByteArray):(braced n).size=n.size+2:=by
 unfold braced;rw[ByteArray.size_append,ByteArray.size_append,zBI,zBI];omega
theorem zIa (s:ByteArray)(D p:Nat):∀defs t q,zA0 D defs->zCp s p defs=some (t,q)->p<q∧q<=s.size∧TrOk D t
 |[],_,_,_,h=>by cases h
 |d::ds,t,q,hd,h=>by
  have h2:(if zJ s p (braced d.1) then some (d.2,p+(braced d.1).size) else zCp s p ds)=some (t,q):=h;split at h2
  ·rename_i ht
   have e:=hU h2;have e1:d.2=t:=congrArg Prod.fst e;have e2:p+(braced d.1).size=q:=congrArg Prod.snd e;have h5:=vC ht;have h6:=zBY d.1;subst e1;exact⟨by omega,by omega,hd d gW⟩
  ·exact zIa s D p ds t q (fun x hx=>hd x (List.mem_cons_of_mem _ hx)) h2
section
variable {s:ByteArray} {D:Nat} {defs:List (ByteArray×Tr)} {k:Nat} {sub:Reads}
theorem zOj (hsub:∀both,zB2 s (D+2) fun p=>sub p both)(both:Bool):zB2 s D fun p=>brM s k sub p both:=fun p t q h=>by
 have h2:brM s k sub p both=some (t,q):=h;unfold brM at h2;split at h2
 ·cases h2
 split at h2
 ·rename_i ht
  have h5:=vC ht;have e5:(⟨#[40,41]⟩:ByteArray).size=2:=rfl;have e:=hU h2;have e1:Tr.none=t:=congrArg Prod.fst e;have e2:p+2=q:=congrArg Prod.snd e;subst e1 e2;exact⟨by omega,by omega,by rw[show D+4*(p+2)=D+4*p+7+1 by omega];exact zJ6 _⟩
 ·have hp:p+1<=(if zJ s p ⟨#[40,105,58]⟩ then p+3 else p+1):=by split <;> omega
  generalize (if zJ s p ⟨#[40,105,58]⟩ then p+3 else p+1)=p1 at *;generalize (zJ s p ⟨#[40,105,58]⟩||both)=bb at *;cases hh:sub p1 bb with
  |none=>rw[hh] at h2;cases h2
  |some g=>
   obtain⟨v,q1⟩:=g;rw[hh] at h2;obtain⟨a,b,c⟩:=hsub bb p1 v q1 hh;have h3:(if zJ s q1 ⟨#[41]⟩ then some (v,q1+1) else none)=some (t,q):=h2;split at h3
   ·rename_i ht
    have h5:=vC ht;rw[zBI] at h5;have e:=hU h3;have e1:v=t:=congrArg Prod.fst e;have e2:q1+1=q:=congrArg Prod.snd e;subst e1 e2;exact⟨by omega,by omega,c.deep (by omega)⟩
   ·cases h3
theorem zFA (hs:s.size<=1048576)(hd:zA0 D defs)(hsub:∀both,zB2 s (D+2) fun p=>sub p both)(both:Bool):zB2 s D fun p=>zDl s defs k sub p both:=fun p t q h=>by
 have h2:zDl s defs k sub p both=some (t,q):=h;unfold zDl at h2;split at h2
 ·exact zOj hsub both p t q h2
 split at h2
 ·obtain⟨a,b,c⟩:=zIa s D p defs t q hd h2
  exact⟨a,b,c.deep (by omega)⟩
 ·cases hh:jG s p with
  |none=>rw[hh] at h2;cases h2
  |some g=>
   obtain⟨c,q1⟩:=g;rw[hh] at h2;have e:=hU h2;have e1:zGY (zKq both c)=t:=congrArg Prod.fst e;have e2:q1=q:=congrArg Prod.snd e;obtain⟨a,b,cc⟩:=zCX s hs p c q1 hh;subst e1 e2;exact⟨a,b,by rw[show D+4*q1=D+4*q1-1+1 by omega];exact zN5 _ _ (zMK both c cc)⟩
theorem zDq (hs:s.size<=1048576)(hd:zA0 D defs)(hsub:∀both,zB2 s (D+2) fun p=>sub p both)(both:Bool):zB2 s D fun p=>zDr s defs k sub p both:=fun p t q h=>by
 have h2:zDr s defs k sub p both=some (t,q):=h;unfold zDr at h2;cases hh:zDl s defs k sub p both with
 |none=>rw[hh] at h2;cases h2
 |some g=>
  obtain⟨v,q1⟩:=g;rw[hh] at h2;obtain⟨a,b,c⟩:=zFA hs hd hsub both p v q1 hh;obtain⟨a2,b2,c2⟩:=zEJ s D _ q1 v t q h2 b c;exact⟨by omega,b2,c2⟩
theorem zGN (hs:s.size<=1048576)(hd:zA0 D defs)(hsub:∀both,zB2 s (D+2) fun p=>sub p both)(both:Bool):zB2 s (D+1) fun p=>zOx s defs k sub p both:=fun p t q h=>zHR s D _ (zDq hs hd hsub both) _ p (zC5 2) t q h (.inl rfl) (by rw[show D+1+4*p=D+4*p+1 by omega];exact zGZ _ 2 (.inl rfl))
theorem zIp (hs:s.size<=1048576)(hd:zA0 D defs)(hsub:∀both,zB2 s (D+2) fun p=>sub p both)(both:Bool):zB2 s (D+2) fun p=>zME s defs k sub p both:=fun p t q h=>zGs s (D+1) _ (zGN hs hd hsub both) _ p (zC5 3) t q h (.inr rfl) (by rw[show D+1+1+4*p=D+4*p+1+1 by omega];exact zGZ _ 3 (.inr rfl))
theorem zAa (hs:s.size<=1048576)(hd:zA0 D defs):∀k both,zB2 s (D+2) fun p=>zBr s defs k p both
 |0,both=>zIp hs hd (fun _ p t q h=>by cases h) both
 |k+1,both=>zIp hs hd (zAa hs hd k) both
end
end
section
variable (w:World) (b:Nat) (s:ByteArray) (dv:Value) (r:Rx) (h:RxAt w b s dv r)
theorem zM5 {w w2:World}{b:Nat}(hb:b<w.heap.size)(hk:Keep (w.heap.size+1) b (w.alloc (.cells #[slice none 0 0,bool false] 161)) w2):w2.heap[w.heap.size]? =some (.cells #[slice none 0 0,bool false] 161)∧w2.cell? ⟨w.heap.size,0,none⟩=some (slice none 0 0)∧w2.cell? ⟨w.heap.size,1,none⟩=some (bool false)∧w2.frozen? ⟨w.heap.size,0,none⟩=false∧w2.frozen? ⟨w.heap.size,1,none⟩=false∧Keep w.heap.size b w w2:=by
 have h1:=gJ w (.cells #[slice none 0 0,bool false] 161);have h2:=(hk.block w.heap.size (by omega) (by omega)).trans h1;refine⟨h2,?_,?_,?_,?_,(kZ (H:=w.heap.size) (b:=b) _ _ lQ).trans ⟨hk.os,hk.output,hk.size,fun k h1 h2=>hk.block k (by omega) h2⟩⟩
 all_goals first|(unfold cell?;rw[h2];rfl)|(unfold frozen?;rw[h2];simp)
theorem zMM {w1:World}{b:Nat}{s:ByteArray}{dv:Value}{r:Rx}(h1:RxAt w1 b s dv r):∃w2,w2=w1.setCell ⟨b,2,none⟩ (int i64 ((r.at_:Int)+1))∧RxAt w2 b s dv {r with at_:=r.at_+1}∧(∀H,Keep H b w1 w2)∧w1.cell? ⟨b,2,none⟩=some (int i64 (r.at_:Int))∧w1.frozen? ⟨b,2,none⟩=false:=
 ⟨_,rfl,h1.setAt (r.at_+1),fun H=>Keep.set _ _ _,h1.cells.2.2.1,h1.cells.2.2.2.2.2 2⟩
theorem jT {w:World}{b:Nat}{s:ByteArray}{dv:Value}{r:Rx}(h:RxAt w b s dv r)(hs:s.size<=1048576)(ha:r.at_<=s.size):∃w1,w1=w.alloc (.cells #[slice none 0 0,bool false] 161)∧RxAt w1 b s dv r∧Hid (∀w2,Keep (w.heap.size+1) b w1 w2->w2.heap[w.heap.size]? =some (.cells #[slice none 0 0,bool false] 161)∧w2.cell? ⟨w.heap.size,0,none⟩=some (slice none 0 0)∧w2.cell? ⟨w.heap.size,1,none⟩=some (bool false)∧w2.frozen? ⟨w.heap.size,0,none⟩=false∧w2.frozen? ⟨w.heap.size,1,none⟩=false∧Keep w.heap.size b w w2)∧Hid (w1.heap.size=w.heap.size+1)∧Hid (b<w.heap.size)∧Hid (Calls prog 200 #[pointer (some ⟨b,0,none⟩),int i64 0] w1 fun e w'=>e=returned (int .u8 (byt s r.at_:Nat))∧w'=w1):=
 have h1:=RxAt.of_block h (lG _ _ _ h.lt)
 ⟨_,rfl,h1,fun w2 hk=>zM5 h.lt hk,by show _=_;simp,h.lt,(zGV hs (by omega)).out _ h1⟩
theorem zN2 (h:RxAt w b s dv r)(hs:s.size<=1048576)(ha:r.at_<=s.size)(hc:byt s r.at_=91)(hm:zBW s r.at_=none):
  Calls prog 203 #[pointer (some ⟨b,0,none⟩)] w (zAp w b s dv r (jG s r.at_)):=by
 obtain⟨w1,hw1,h1,HK1,HZ1,HLB,HP0⟩:=jT h hs ha;have HA:Hid (jG s r.at_=none):=by show _=_;unfold jG;rw[if_pos hc,hm]
 have HCL:=vl (zEc w1 b s dv r h1 hs (zBX (by omega)));rw[hm] at HCL;rw[HA.out];rw[hc] at HP0;go_in;apply wp_cut;intro K0 J;go_wp2;apply J.out;rw[<-hw1];clear hw1;go_wp2_with (first|(go_at_call 200;refine HP0.out.mono ?_;rintro e w9 ⟨rfl,hw9⟩;have hw8:=hw9.symm;subst hw8)|(go_at_call 208;refine HCL.out.mono ?_;rintro e w2 ⟨hk2,v,n,cc,o,q,rfl,hR2⟩;have HRR:=vl hR2;obtain⟨hB,c0,c1,f0,f1,hkk⟩:=HK1.out w2 (by rw[<-HZ1.out];exact hk2);obtain⟨w7,hw7,z0,z1,HZ⟩:=vL w w2 b s dv {r with at_:=q} _ _ (slice v n cc) (o) HLB.out hB HRR.out hkk;clear hB hkk))
 rw[<-hw7];refine dZ (v:=tuple #[agg #[slice v n cc,bool (o)],bool false]) (by simp[results,results203,go_sem,z0,z1]) rfl ?_;exact⟨HZ.out.2.1,v,n,cc,o,q,rfl,HZ.out.1⟩
theorem zN1 (h:RxAt w b s dv r)(hs:s.size<=1048576)(ha:r.at_<=s.size)(hc:byt s r.at_=91)(c:Cs)(q:Nat)(hm:zBW s r.at_=some (c,q)):
  Calls prog 203 #[pointer (some ⟨b,0,none⟩)] w (zAp w b s dv r (jG s r.at_)):=by
 obtain⟨w1,hw1,h1,HK1,HZ1,HLB,HP0⟩:=jT h hs ha;have HA:Hid (jG s r.at_=some (c,q)):=by show _=_;unfold jG;rw[if_pos hc,hm]
 have HCL:=vl (zEc w1 b s dv r h1 hs (zBX (by omega)));rw[hm] at HCL;rw[HA.out];rw[hc] at HP0;go_in;apply wp_cut;intro K0 J;go_wp2;apply J.out;clear J;rw[<-hw1];clear hw1;go_wp2_with (first|(go_at_call 200;refine HP0.out.mono ?_;rintro e w9 ⟨rfl,hw9⟩;have hw8:=hw9.symm;subst hw8)|(go_at_call 208;refine HCL.out.mono ?_;rintro e w2 ⟨hk2,u,rfl,hu2,hR2⟩;obtain⟨ao,cap,hu,-⟩:=hu2.at;subst hu;have HRR:=vl hR2;have HRI:Hid (RangesIn (fun i=>w.heap.size<i) w2 (slice ao c.ranges.length cap) c.ranges):=hu2.mono (fun i _ hi=>by have:=HZ1.out;omega);obtain⟨hB,c0,c1,f0,f1,hkk⟩:=HK1.out w2 (by rw[<-HZ1.out];exact hk2);obtain⟨w7,hw7,z0,z1,HZ⟩:=vL w w2 b s dv {r with at_:=q} _ _ (slice ao c.ranges.length cap) (c.others) HLB.out hB HRR.out hkk;clear hB hkk))
 rw[<-hw7];refine dZ (v:=tuple #[agg #[slice ao c.ranges.length cap,bool (c.others)],bool true]) (by simp[results,results203,go_sem,z0,z1]) rfl ?_;exact⟨HZ.out.2.1,_,rfl,HZ.out.2.2 _ HRI.out,HZ.out.1⟩
theorem zNZ (h:RxAt w b s dv r)(hs:s.size<=1048576)(ha:r.at_<=s.size)(hc:byt s r.at_=92)(es:Sg)(hes:zAJ s (r.at_+1)=es)(hok:es.ok=true):
  Calls prog 203 #[pointer (some ⟨b,0,none⟩)] w (zAp w b s dv r (jG s r.at_)):=by
 obtain⟨w1,hw1,h1,HK1,HZ1,HLB,HP0⟩:=jT h hs ha;have HA:Hid (jG s r.at_=some (zH8 es.num,es.at_)):=by show _=_;unfold jG;rw[if_neg (by omega),if_pos hc,hes,hok];rfl
 have HES:=vl (zBq w1 b s dv r h1 hs (by omega));rw[hes,hok] at HES;rw[HA.out];rw[hc] at HP0;clear HA hc hes hok;clear h h1;go_in;apply wp_cut;intro K0 J;go_wp2;apply J.out;clear J;rw[<-hw1];clear hw1;go_wp2_with (first|(go_at_call 200;refine HP0.out.mono ?_;rintro e w9 ⟨rfl,hw9⟩;have hw8:=hw9.symm;subst hw8)|(go_at_call 209;refine HES.out.mono ?_;rintro e w2 ⟨rfl,hR2,hk2⟩)|(go_at_call 210;refine(zDy w2 es.num).mono ?_;rintro e w3 ⟨u,rfl,⟨g,hg,rfl,hgb⟩,hk3⟩;have hs2:=(hk2 0).size;have hb2:b<w2.heap.size:=hR2.lt;have HRR:=vl <| RxAt.of_block hR2 (hk3.block b hb2 (by omega));have HRI:Hid (RangesIn (fun i=>w.heap.size<i) w3 (slice (some ⟨g,0,none⟩) 1 1) [(es.num,es.num)]):=zGX hgb (by have:=HZ1.out;omega);obtain⟨hB,c0,c1,f0,f1,hkk⟩:=HK1.out w3 ((hk2 _).trans ⟨hk3.os,hk3.output,hk3.size,fun k h1 _=>hk3.block k (by have:=HZ1.out;omega) (by have:=HZ1.out;omega)⟩);obtain⟨w7,hw7,z0,z1,HZ⟩:=vL w w3 b s dv {r with at_:=es.at_} _ _ (slice (some ⟨g,0,none⟩) 1 1) (false) HLB.out hB HRR.out hkk;clear hB hkk;clear hs2 hb2 hg))
 rw[<-hw7];refine dZ (v:=tuple #[agg #[slice (some ⟨g,0,none⟩) 1 1,bool (false)],bool true]) (by simp[results,results203,go_sem,z0,z1]) rfl ?_;exact⟨HZ.out.2.1,_,rfl,HZ.out.2.2 _ HRI.out,HZ.out.1⟩
theorem zN0 (h:RxAt w b s dv r)(hs:s.size<=1048576)(ha:r.at_<=s.size)(hc:byt s r.at_=92)(es:Sg)(hes:zAJ s (r.at_+1)=es)(hok:es.ok=false):
  Calls prog 203 #[pointer (some ⟨b,0,none⟩)] w (zAp w b s dv r (jG s r.at_)):=by
 obtain⟨w1,hw1,h1,HK1,HZ1,HLB,HP0⟩:=jT h hs ha;have HA:Hid (jG s r.at_=none):=by show _=_;unfold jG;rw[if_neg (by omega),if_pos hc,hes,hok];rfl
 have HES:=vl (zBq w1 b s dv r h1 hs (by omega));rw[hes,hok] at HES;rw[HA.out];rw[hc] at HP0;go_in;apply wp_cut;intro K0 J;go_wp2;apply J.out;clear J;rw[<-hw1];clear hw1;go_wp2_with (first|(go_at_call 200;refine HP0.out.mono ?_;rintro e w9 ⟨rfl,hw9⟩;have hw8:=hw9.symm;subst hw8)|(go_at_call 209;refine HES.out.mono ?_;rintro e w2 ⟨rfl,hR2,hk2⟩)|(go_at_call 210;refine(zDy w2 es.num).mono ?_;rintro e w3 ⟨u,rfl,⟨g,hg,rfl,hgb⟩,hk3⟩;have hs2:=(hk2 0).size;have hb2:b<w2.heap.size:=hR2.lt;have HRR:=vl <| RxAt.of_block hR2 (hk3.block b hb2 (by omega));have HRI:=vl <| zGX hgb (by have:=HZ1.out;omega);obtain⟨hB,c0,c1,f0,f1,hkk⟩:=HK1.out w3 ((hk2 _).trans ⟨hk3.os,hk3.output,hk3.size,fun k h1 _=>hk3.block k (by have:=HZ1.out;omega) (by have:=HZ1.out;omega)⟩);obtain⟨w7,hw7,z0,z1,HZ⟩:=vL w w3 b s dv {r with at_:=es.at_} _ _ (slice (some ⟨g,0,none⟩) 1 1) (false) HLB.out hB HRR.out hkk;clear hB hkk;clear hs2 hb2 hg))
 rw[<-hw7];refine dZ (v:=tuple #[agg #[slice (some ⟨g,0,none⟩) 1 1,bool (false)],bool false]) (by simp[results,results203,go_sem,z0,z1]) rfl ?_;exact⟨HZ.out.2.1,some ⟨g,0,none⟩,1,1,false,es.at_,rfl,HZ.out.1⟩
theorem zOw (h:RxAt w b s dv r)(hs:s.size<=1048576)(ha:r.at_<=s.size)(hc:byt s r.at_=46):
  Calls prog 203 #[pointer (some ⟨b,0,none⟩)] w (zAp w b s dv r (jG s r.at_)):=by
 obtain⟨w1,hw1,h1,HK1,HZ1,HLB,HP0⟩:=jT h hs ha;have HA:Hid (jG s r.at_=some (zOh,r.at_+1)):=by show _=_;unfold jG;rw[if_neg (by omega),if_neg (by omega),if_pos hc]
 rw[HA.out];obtain⟨w2,hw2,hR2,hk2,c2,cf2⟩:=zMM h1;rw[hc] at HP0;clear hc;clear HA;clear h h1;go_in;apply wp_cut;intro K0 J;go_wp2;apply J.out;clear J;rw[<-hw1];clear hw1;go_wp2_with (first|(go_at_call 200;refine HP0.out.mono ?_;rintro e w9 ⟨rfl,hw9⟩;have hw8:=hw9.symm;subst hw8)|(rw [<-hw2];go_at_call 211;refine(zLp w2).mono ?_;rintro e w3 ⟨u,rfl,⟨g,hg,rfl,hgb⟩,hk3⟩;have hs2:=(hk2 0).size;have hb2:b<w2.heap.size:=hR2.lt;have HRR:=vl <| RxAt.of_block hR2 (hk3.block b hb2 (by omega));have HRI:Hid (RangesIn (fun i=>w.heap.size<i) w3 (slice (some ⟨g,0,none⟩) 1 1) [(10,10)]):=zGX hgb (by have:=HZ1.out;omega);obtain⟨hB,c0,c1,f0,f1,hkk⟩:=HK1.out w3 ((hk2 _).trans ⟨hk3.os,hk3.output,hk3.size,fun k h1 _=>hk3.block k (by have:=HZ1.out;omega) (by have:=HZ1.out;omega)⟩);obtain⟨w7,hw7,z0,z1,HZ⟩:=vL w w3 b s dv {r with at_:=r.at_+1} _ _ (slice (some ⟨g,0,none⟩) 1 1) (true) HLB.out hB HRR.out hkk;clear hB hkk;clear hs2 hb2 hg))
 rw[<-hw7];refine dZ (v:=tuple #[agg #[slice (some ⟨g,0,none⟩) 1 1,bool (true)],bool true]) (by simp[results,results203,go_sem,z0,z1]) rfl ?_;exact⟨HZ.out.2.1,_,rfl,HZ.out.2.2 _ HRI.out,HZ.out.1⟩
theorem zOu (h:RxAt w b s dv r)(hs:s.size<=1048576)(ha:r.at_<=s.size)(c:Nat)(hcc:byt s r.at_=c)(n1:c≠91)(n2:c≠92)(n3:c≠46)(hp:zAG c=true):
  Calls prog 203 #[pointer (some ⟨b,0,none⟩)] w (zAp w b s dv r (jG s r.at_)):=by
 obtain⟨w1,hw1,h1,HK1,HZ1,HLB,HP0⟩:=jT h hs ha;have HA:Hid (jG s r.at_=some (zH8 (c:Nat),r.at_+1)):=by show _=_;unfold jG;rw[hcc,if_neg n1,if_neg n2,if_neg n3,if_pos hp]
 rw[HA.out];obtain⟨w2,hw2,hR2,hk2,c2,cf2⟩:=zMM h1;have hcl:=zAo s r.at_;rw[hcc] at HP0 hcl;have HIP:=vl fun w=>zCs w c;rw[hp] at HIP;have e1:((c:Int)==91)=false:=by rw[hJ];omega
 have e2:((c:Int)==92)=false:=by rw[hJ];omega
 have e3:((c:Int)==46)=false:=by rw[hJ];omega
 clear hcc n1 n2 n3 hp;clear HA;clear h h1;go_in;apply wp_cut;intro K0 J;go_wp2;apply J.out;clear J;rw[<-hw1];clear hw1;go_wp2_with (first|(go_at_call 200;refine HP0.out.mono ?_;rintro e w9 ⟨rfl,hw9⟩;have hw8:=hw9.symm;subst hw8)|(go_at_call 212;refine(HIP.out _).mono ?_;rintro e w9 ⟨rfl,hw9⟩;have hw8:=hw9.symm;subst hw8)|(rw [<-hw2];go_at_call 210;refine(zDy w2 (c:Int)).mono ?_;rintro e w3 ⟨u,rfl,⟨g,hg,rfl,hgb⟩,hk3⟩;have hs2:=(hk2 0).size;have hb2:b<w2.heap.size:=hR2.lt;have HRR:=vl <| RxAt.of_block hR2 (hk3.block b hb2 (by omega));have HRI:Hid (RangesIn (fun i=>w.heap.size<i) w3 (slice (some ⟨g,0,none⟩) 1 1) [((c:Int),(c:Int))]):=zGX hgb (by have:=HZ1.out;omega);obtain⟨hB,c0,c1,f0,f1,hkk⟩:=HK1.out w3 ((hk2 _).trans ⟨hk3.os,hk3.output,hk3.size,fun k h1 _=>hk3.block k (by have:=HZ1.out;omega) (by have:=HZ1.out;omega)⟩);obtain⟨w7,hw7,z0,z1,HZ⟩:=vL w w3 b s dv {r with at_:=r.at_+1} _ _ (slice (some ⟨g,0,none⟩) 1 1) (false) HLB.out hB HRR.out hkk;clear hB hkk;clear hs2 hb2 hg))
 rw[<-hw7];refine dZ (v:=tuple #[agg #[slice (some ⟨g,0,none⟩) 1 1,bool (false)],bool true]) (by simp[results,results203,go_sem,z0,z1]) rfl ?_;exact⟨HZ.out.2.1,_,rfl,HZ.out.2.2 _ HRI.out,HZ.out.1⟩
theorem zOv (h:RxAt w b s dv r)(hs:s.size<=1048576)(ha:r.at_<=s.size)(c:Nat)(hcc:byt s r.at_=c)(n1:c≠91)(n2:c≠92)(n3:c≠46)(hp:zAG c=false):
  Calls prog 203 #[pointer (some ⟨b,0,none⟩)] w (zAp w b s dv r (jG s r.at_)):=by
 obtain⟨w1,hw1,h1,HK1,HZ1,HLB,HP0⟩:=jT h hs ha;have HA:Hid (jG s r.at_=none):=by show _=_;unfold jG;rw[hcc,if_neg n1,if_neg n2,if_neg n3,if_neg (by rw[hp];decide)]
 rw[HA.out];have hcl:=zAo s r.at_;rw[hcc] at HP0 hcl;have HIP:=vl fun w=>zCs w c;rw[hp] at HIP;have e1:((c:Int)==91)=false:=by rw[hJ];omega
 have e2:((c:Int)==92)=false:=by rw[hJ];omega
 have e3:((c:Int)==46)=false:=by rw[hJ];omega
 have HRR:=vl h1;obtain⟨hB,c0,c1,f0,f1,hkk⟩:=HK1.out w1 (Keep.refl _ _ _);obtain⟨w7,hw7,z0,z1,HZ⟩:=vL w w1 b s dv r _ _ (slice none 0 0) false HLB.out hB HRR.out hkk;go_in;apply wp_cut;intro K0 J;go_wp2;apply J.out;clear J;rw[<-hw1];clear hw1;go_wp2_with (first|(go_at_call 200;refine HP0.out.mono ?_;rintro e w9 ⟨rfl,hw9⟩;have hw8:=hw9.symm;subst hw8)|(go_at_call 212;refine(HIP.out _).mono ?_;rintro e w9 ⟨rfl,hw9⟩;have hw8:=hw9.symm;subst hw8))
 rw[<-hw7];refine dZ (v:=tuple #[agg #[slice none 0 0,bool (false)],bool false]) (by simp[results,results203,go_sem,z0,z1]) rfl ?_;exact⟨HZ.out.2.1,none,0,0,false,r.at_,rfl,HZ.out.1⟩
theorem zDu (h:RxAt w b s dv r)(hs:s.size<=1048576)(ha:r.at_<=s.size):
  Calls prog 203 #[pointer (some ⟨b,0,none⟩)] w (zAp w b s dv r (jG s r.at_)):=by
 by_cases h1:byt s r.at_=91
 ·cases hm:zBW s r.at_ with
  |none=>exact zN2 w b s dv r h hs ha h1 hm
  |some g=>
   obtain⟨c,q⟩:=g;exact zN1 w b s dv r h hs ha h1 c q hm
 by_cases h2:byt s r.at_=92
 ·cases hok:(zAJ s (r.at_+1)).ok with
  |true=>exact zNZ w b s dv r h hs ha h2 _ rfl hok
  |false=>exact zN0 w b s dv r h hs ha h2 _ rfl hok
 by_cases h3:byt s r.at_=46
 ·exact zOw w b s dv r h hs ha h3
 cases hp:zAG (byt s r.at_) with
 |true=>exact zOu w b s dv r h hs ha _ rfl h1 h2 h3 hp
 |false=>exact zOv w b s dv r h hs ha _ rfl h1 h2 h3 hp
end
section
variable {w0 w:World} {b x n:Nat} {s:ByteArray} {dv:Value} {r:Rx}
def zMR (w:World)(b:Nat)(s:ByteArray)(dv:Value)(r:Rx)(a:Option (Tm×Nat))(e:Ending)(w':World):Prop:=
 Keep w.heap.size b w w'∧match a with
 |none=>∃q,e=returned (tuple #[agg #[int i64 0,int i64 0,bool false],bool false])∧RxAt w' b s dv {r with at_:=q}
 |some (o,q)=>e=returned (tuple #[agg #[int i64 (o.least:Int),int i64 (o.most:Int),bool o.endless],bool true])∧RxAt w' b s dv {r with at_:=q}
theorem yY (w w2:World)(b:Nat)(s:ByteArray)(dv:Value)(r:Rx)(n m:Int)(o:Bool)(hb:b<w.heap.size)(hB:Hid (Keep w.heap.size b w w2∧w2.heap[w.heap.size]? =some (.cells #[int i64 0,int i64 0,bool false] 163)))(h:RxAt w2 b s dv r):
  ∃w3,w3=((w2.setCell ⟨w.heap.size,0,none⟩ (int i64 n)).setCell ⟨w.heap.size,1,none⟩ (int i64 m)).setCell ⟨w.heap.size,2,none⟩ (bool o)∧w3.cell? ⟨w.heap.size,0,none⟩=some (int i64 n)∧w3.cell? ⟨w.heap.size,1,none⟩=some (int i64 m)∧w3.cell? ⟨w.heap.size,2,none⟩=some (bool o)∧Hid (RxAt w3 b s dv r∧Keep w.heap.size b w w3):=by
 have h2:(((w2.setCell ⟨w.heap.size,0,none⟩ (int i64 n)).setCell ⟨w.heap.size,1,none⟩ (int i64 m)).setCell ⟨w.heap.size,2,none⟩ (bool o)).heap[w.heap.size]? =some (.cells #[int i64 n,int i64 m,bool o] 163):=by
  simp[setCell,lU,hB.out.2]
 have hne:∀i,i≠w.heap.size->(((w2.setCell ⟨w.heap.size,0,none⟩ (int i64 n)).setCell ⟨w.heap.size,1,none⟩ (int i64 m)).setCell ⟨w.heap.size,2,none⟩ (bool o)).heap[i]? =w2.heap[i]? :=fun i hi2=>by
  simp[setCell,lU,Ne.symm hi2]
 refine⟨_,rfl,?_,?_,?_,RxAt.of_block h (hne b (by omega)),hB.out.1.trans ⟨rfl,rfl,by simp[World.setCell],fun k h1 _=>hne k (by omega)⟩⟩
 all_goals (unfold cell?;rw[h2];rfl)
theorem zKD {w w2:World}{b:Nat}(hb:b<w.heap.size)(hk:Keep (w.heap.size+1) b (w.alloc (.cells #[int i64 0,int i64 0,bool false] 163)) w2):Hid (Keep w.heap.size b w w2∧w2.heap[w.heap.size]? =some (.cells #[int i64 0,int i64 0,bool false] 163))∧w2.cell? ⟨w.heap.size,0,none⟩=some (int i64 0)∧w2.cell? ⟨w.heap.size,1,none⟩=some (int i64 0)∧w2.cell? ⟨w.heap.size,2,none⟩=some (bool false)∧w2.frozen? ⟨w.heap.size,0,none⟩=false∧w2.frozen? ⟨w.heap.size,1,none⟩=false∧w2.frozen? ⟨w.heap.size,2,none⟩=false:=by
 have h1:=gJ w (.cells #[int i64 0,int i64 0,bool false] 163);have h2:=(hk.block w.heap.size (by omega) (by omega)).trans h1;refine⟨⟨(kZ (H:=w.heap.size) (b:=b) _ _ lQ).trans ⟨hk.os,hk.output,hk.size,fun k h1 h2=>hk.block k (by omega) h2⟩,h2⟩,?_,?_,?_,?_,?_,?_⟩
 all_goals first|(unfold cell?;rw[h2];rfl)|(unfold frozen?;rw[h2];simp)
theorem zCJ {c:Nat}(h:xY c=true):zAZ c=((c-48:Nat):Int)∧48<=c∧c<=52:=by
 have h1:48<=c:=by
  unfold xY xF at h;rw[Bool.and_eq_true,Bool.and_eq_true] at h;exact of_decide_eq_true h.1.1
 have h2:c<=52:=by
  unfold xY at h;rw[Bool.and_eq_true] at h;exact of_decide_eq_true h.2
 exact⟨by unfold zAZ;rw[if_pos h];omega,h1,h2⟩
theorem zOG (hv:xY (byt s x)=true)(hn:Hid (byt s x-48=n))(h:RxAt w b s dv {r with at_:=x})(hk:∀H,Keep H b w0 w)(hs:s.size<=1048576)(ha:x<=2000000):
  Calls prog 214 #[pointer (some ⟨b,0,none⟩)] w fun e w'=>e=returned (int i64 (n:Int))∧RxAt w' b s dv {r with at_:=x+1}∧∀H,Keep H b w0 w':=by
 refine(zEb w b s dv {r with at_:=x} h hs ha).mono ?_;rintro e w' ⟨rfl,h1,h2⟩;refine⟨by rw[(zCJ hv).1,<-hn.out],?_,fun H=>(hk H).trans (h2 H)⟩;have e:(({r with at_:=x}:Rx).on (xY (byt s x)))={r with at_:=x+1}:=by rw[hv];rfl
 rw[<-e];exact h1
theorem zOH (hv:xY (byt s x)=false)(h:RxAt w b s dv {r with at_:=x})(hk:∀H,Keep H b w0 w)(hs:s.size<=1048576)(ha:x<=2000000):
  Calls prog 214 #[pointer (some ⟨b,0,none⟩)] w fun e w'=>e=returned (int i64 (-1))∧RxAt w' b s dv {r with at_:=x}∧∀H,Keep H b w0 w':=by
 refine(zEb w b s dv {r with at_:=x} h hs ha).mono ?_;rintro e w' ⟨rfl,h1,h2⟩;refine⟨by unfold zAZ;rw[if_neg (by rw[hv];decide)],?_,fun H=>(hk H).trans (h2 H)⟩;have e:(({r with at_:=x}:Rx).on (xY (byt s x)))={r with at_:=x}:=by rw[hv];rfl
 rw[<-e];exact h1
theorem zDV (h:RxAt w b s dv r):∃w1,w1=w.alloc (.cells #[int i64 0,int i64 0,bool false] 163)∧RxAt w1 b s dv {r with at_:=r.at_}∧Hid (∀w2,Keep (w.heap.size+1) b w1 w2->Hid (Keep w.heap.size b w w2∧w2.heap[w.heap.size]? =some (.cells #[int i64 0,int i64 0,bool false] 163))∧w2.cell? ⟨w.heap.size,0,none⟩=some (int i64 0)∧w2.cell? ⟨w.heap.size,1,none⟩=some (int i64 0)∧w2.cell? ⟨w.heap.size,2,none⟩=some (bool false)∧w2.frozen? ⟨w.heap.size,0,none⟩=false∧w2.frozen? ⟨w.heap.size,1,none⟩=false∧w2.frozen? ⟨w.heap.size,2,none⟩=false)∧Hid (w1.heap.size=w.heap.size+1)∧Hid (b<w.heap.size):=⟨_,rfl,RxAt.of_block h (lG _ _ _ h.lt),fun w2 hk=>zKD h.lt hk,by show _=_;simp,h.lt⟩
theorem zKB {w1:World}{b:Nat}{s:ByteArray}{dv:Value}{r:Rx}(h1:RxAt w1 b s dv {r with at_:=r.at_}):∃w2,w2=w1.setCell ⟨b,2,none⟩ (int i64 ((r.at_:Int)+1))∧RxAt w2 b s dv {r with at_:=r.at_+1}∧(∀H,Keep H b w1 w2)∧w1.cell? ⟨b,2,none⟩=some (int i64 (r.at_:Int))∧w1.frozen? ⟨b,2,none⟩=false:=
 ⟨_,rfl,h1.setAt (r.at_+1),fun H=>Keep.set _ _ _,h1.cells.2.2.1,h1.cells.2.2.2.2.2 2⟩
theorem zFY (w:World)(b:Nat)(s:ByteArray)(dv:Value)(r:Rx)(h:RxAt w b s dv r)(hs:s.size<=1048576)(ha:r.at_<=s.size):
  Calls prog 207 #[pointer (some ⟨b,0,none⟩)] w (zMR w b s dv r (zBa s r.at_)):=by
 obtain⟨w1,hw1,h1,HK1,HZ1,HLB⟩:=zDV h;obtain⟨w2,hw2,hR,hk,cc2,cf2⟩:=zKB h1;clear h h1;go_in;apply wp_cut;intro K0 J;go_wp2;apply J.out;clear J;rw[<-hw1];clear hw1;apply wp_cut;intro K0 J;go_wp2;apply J.out;clear J;rw[<-hw2];clear hw2 cc2 cf2;obtain⟨v,hwv⟩:∃v,v=w2:=⟨_,rfl⟩
 rw[<-hwv] at hR hk ⊢;clear hwv;unfold zBa;obtain⟨n,hn⟩:∃n,byt s (r.at_+1)-48=n:=⟨_,rfl⟩
 obtain⟨m,hm⟩:∃m,byt s (r.at_+3)-48=m:=⟨_,rfl⟩
 rw[hn,hm];have q0:=zAo s (r.at_+1);rcases h1:xY (byt s (r.at_+1)) with _|_;rotate_left;have q1:=(zCJ h1).2;have n4:n<=4:=by omega
 rw[if_pos rfl];rcases h2:zJ s (r.at_+2) ⟨#[125]⟩ with _|_;rw[if_neg (by decide)];rcases h3:zJ s (r.at_+2) ⟨#[44]⟩ with _|_;rotate_left;rw[if_pos rfl];rcases h4:zJ s (r.at_+3) ⟨#[125]⟩ with _|_;rw[if_neg (by decide)];rcases h5:xY (byt s (r.at_+3)) with _|_;rotate_left;have q2:=(zCJ h5).2;have m4:m<=4:=by omega
 rcases h6:decide (byt s (r.at_+1)<=byt s (r.at_+3)) with _|_;rotate_left;rw[if_pos (show (true&&true)=true from rfl)];rcases h7:zJ s (r.at_+4) ⟨#[125]⟩ with _|_
 all_goals
  try have h66:(n:Int)<=(m:Int):=by have:=of_decide_eq_true h6;omega
  try have h66:(m:Int)<(n:Int):=by have:=of_decide_eq_false h6;omega
  have HN:=vl hn;have HM:=vl hm;clear hn hm q0
  try clear q1
  try clear q2
  try clear h6
  go_wp2_with ((first|(go_at_call 189;(first|refine(zNT (by assumption) hR hk hs (by omega)).mono ?_|refine(zNS (by assumption) hR hk hs (by omega)).mono ?_))|(go_at_call 214;(first|refine(zOH (by assumption) hR hk hs (by omega)).mono ?_|refine(zOG (by assumption) (by assumption) hR hk hs (by omega)).mono ?_)));rintro e v ⟨rfl,hR,hk⟩;obtain⟨HB,c0,c1,c2,f0,f1,f2⟩:=HK1.out v (hk _))
  first
  |(obtain ⟨w7,hw7,z0,z1,z2,HZ⟩:=yY w v b s dv _ 0 0 false HLB.out HB hR;rw[<-hw7];refine dZ (v:=tuple #[agg #[int i64 0,int i64 0,bool false],bool false]) (by simp[results,results207,go_sem,z0,z1,z2]) rfl ?_;exact⟨HZ.out.2,_,rfl,HZ.out.1⟩)
  |(obtain ⟨w7,hw7,z0,z1,z2,HZ⟩:=yY w v b s dv _ n n false HLB.out HB hR;rw[<-hw7];refine dZ (v:=tuple #[agg #[int i64 n,int i64 n,bool false],bool true]) (by simp[results,results207,go_sem,z0,z1,z2]) rfl ?_;exact⟨HZ.out.2,rfl,HZ.out.1⟩)
  |(obtain ⟨w7,hw7,z0,z1,z2,HZ⟩:=yY w v b s dv _ n 0 true HLB.out HB hR;rw[<-hw7];refine dZ (v:=tuple #[agg #[int i64 n,int i64 0,bool true],bool true]) (by simp[results,results207,go_sem,z0,z1,z2]) rfl ?_;exact⟨HZ.out.2,rfl,HZ.out.1⟩)
  |(obtain ⟨w7,hw7,z0,z1,z2,HZ⟩:=yY w v b s dv _ n m false HLB.out HB hR;rw[<-hw7];refine dZ (v:=tuple #[agg #[int i64 n,int i64 m,bool false],bool true]) (by simp[results,results207,go_sem,z0,z1,z2]) rfl ?_;exact⟨HZ.out.2,rfl,HZ.out.1⟩)
theorem zFk (w:World)(b:Nat)(s:ByteArray)(dv:Value)(r:Rx)(h:RxAt w b s dv r)(hs:s.size<=1048576)(ha:r.at_<=s.size):
  Calls prog 198 #[pointer (some ⟨b,0,none⟩)] w (zMR w b s dv r (zDK s r.at_)):=by
 have HCD:Hid (∀w,RxAt w b s dv r->Ca 207 #[pointer (some ⟨b,0,none⟩)] w (zMR w b s dv r (zBa s r.at_))):=fun w h=>zFY w b s dv r h hs ha;obtain⟨v,hw1,hR,HK1,HZ1,HLB⟩:=zDV h;have hk:∀H,Keep H b v v:=fun H=>⟨rfl,rfl,lQ,fun k _ _=>rfl⟩
 clear h;go_in;apply wp_cut;intro K0 J;go_wp2;apply J.out;clear J;rw[<-hw1];clear hw1;unfold zDK;obtain⟨v0,hv0⟩:∃v0,v0=v:=⟨_,rfl⟩
 rw[<-hv0] at HK1 HZ1;have hk:∀H,Keep H b v0 v:=by rw[hv0];exact hk
 clear hv0;rcases h1:zJ s r.at_ ⟨#[42]⟩ with _|_;rcases h2:zJ s r.at_ ⟨#[43]⟩ with _|_;rcases h3:zJ s r.at_ ⟨#[63]⟩ with _|_;rw[if_neg (by decide),if_neg (by decide),if_neg (by decide)];have hcd:∃a,zBa s r.at_=a:=⟨_,rfl⟩
 obtain⟨a,hcd⟩:=hcd;rw[hcd] at HCD ⊢;clear hcd;rcases a with _|⟨o,q⟩
 all_goals
  go_wp2_with (first|(go_at_call 189;(first|refine(zNT (by assumption) hR hk hs (by omega)).mono ?_|refine(zNS (by assumption) hR hk hs (by omega)).mono ?_);rintro e v ⟨rfl,hR,hk⟩;obtain⟨HB,c0,c1,c2,f0,f1,f2⟩:=HK1.out v (hk _))|(go_at_call 207;refine(HCD.out v hR).mono ?_;(first|rintro e v4 ⟨hk4,q,rfl,hR⟩|rintro e v4 ⟨hk4,rfl,hR⟩);obtain⟨HB,c0,c1,c2,f0,f1,f2⟩:=HK1.out v4 ((hk _).trans ⟨hk4.os,hk4.output,hk4.size,fun k h1 h2=>hk4.block k (by have:=HZ1.out;have:=(hk 0).size;omega) h2⟩)))
  first
  |(obtain ⟨w7,hw7,z0,z1,z2,HZ⟩:=yY w v4 b s dv _ 0 0 false HLB.out HB hR;rw[<-hw7];refine dZ (v:=tuple #[agg #[int i64 0,int i64 0,bool false],bool false]) (by simp[results,results198,go_sem,z0,z1,z2]) rfl ?_;exact⟨HZ.out.2,_,rfl,HZ.out.1⟩)
  |(obtain ⟨w7,hw7,z0,z1,z2,HZ⟩:=yY w v4 b s dv _ o.least o.most o.endless HLB.out HB hR;rw[<-hw7];refine dZ (v:=tuple #[agg #[int i64 o.least,int i64 o.most,bool o.endless],bool true]) (by simp[results,results198,go_sem,z0,z1,z2]) rfl ?_;exact⟨HZ.out.2,rfl,HZ.out.1⟩)
  |(obtain ⟨w7,hw7,z0,z1,z2,HZ⟩:=yY w v b s dv _ 0 0 true HLB.out HB hR;rw[<-hw7];refine dZ (v:=tuple #[agg #[int i64 0,int i64 0,bool true],bool true]) (by simp[results,results198,go_sem,z0,z1,z2]) rfl ?_;exact⟨HZ.out.2,rfl,HZ.out.1⟩)
  |(obtain ⟨w7,hw7,z0,z1,z2,HZ⟩:=yY w v b s dv _ 1 0 true HLB.out HB hR;rw[<-hw7];refine dZ (v:=tuple #[agg #[int i64 1,int i64 0,bool true],bool true]) (by simp[results,results198,go_sem,z0,z1,z2]) rfl ?_;exact⟨HZ.out.2,rfl,HZ.out.1⟩)
  |(obtain ⟨w7,hw7,z0,z1,z2,HZ⟩:=yY w v b s dv _ 0 1 false HLB.out HB hR;rw[<-hw7];refine dZ (v:=tuple #[agg #[int i64 0,int i64 1,bool false],bool true]) (by simp[results,results198,go_sem,z0,z1,z2]) rfl ?_;exact⟨HZ.out.2,rfl,HZ.out.1⟩)
end
theorem zFP (w:World)(X:Nat->Prop)(u:Value)(c:Cs)(h:RangesIn X w u c.ranges):
  Calls prog 205 #[agg #[u,bool c.others]] w fun e w'=>∃p,e=returned (pointer (some ⟨p,0,none⟩))∧(∀d,TreeIn (fun i=>(X i∧i<w.heap.size)∨w.heap.size<=i) w' (d+1) p (zGY c))∧Grew w w':=by
 obtain⟨ao,cap,rfl,-⟩:=h.at
 obtain⟨w2,hw2,HB,HK⟩:∃w2,w2=(w.alloc (Obj.cells #[slice ao c.ranges.length cap,bool c.others] 161)).alloc (Obj.cells #[int i64 1,slice ao c.ranges.length cap,bool c.others,slice none 0 0,int i64 0,int i64 0,bool false,int i64 1] 165)∧Hid (∀d,TreeIn (fun i=>(X i∧i<w.heap.size)∨w.heap.size<=i) w2 (d+1) (w.heap.size+1) (zGY c))∧Hid (Grew w w2):=by
  have s1:(w.alloc (Obj.cells #[slice ao c.ranges.length cap,bool c.others] 161)).heap.size=w.heap.size+1:=by simp
  have h2:=gJ (w.alloc (Obj.cells #[slice ao c.ranges.length cap,bool c.others] 161)) (Obj.cells #[int i64 1,slice ao c.ranges.length cap,bool c.others,slice none 0 0,int i64 0,int i64 0,bool false,int i64 1] 165);rw[s1] at h2;have hk:Grew w ((w.alloc (Obj.cells #[slice ao c.ranges.length cap,bool c.others] 161)).alloc (Obj.cells #[int i64 1,slice ao c.ranges.length cap,bool c.others,slice none 0 0,int i64 0,int i64 0,bool false,int i64 1] 165)):=(kZ _ _ lQ).trans (kZ _ _ (by rw[s1];omega));have hr:RangesIn (fun i=>(X i∧i<w.heap.size)∨w.heap.size<=i) ((w.alloc (Obj.cells #[slice ao c.ranges.length cap,bool c.others] 161)).alloc (Obj.cells #[int i64 1,slice ao c.ranges.length cap,bool c.others,slice none 0 0,int i64 0,int i64 0,bool false,int i64 1] 165)) (slice ao c.ranges.length cap) c.ranges:=fun w3 a=>h w3 ⟨a.os.trans hk.os,a.output.trans hk.output,lY hk.size a.size,fun i hi hx=>(a.block i (lZ hi hk.size) (.inl ⟨hx,hi⟩)).trans (hk.block i hi (by omega))⟩;exact⟨_,rfl,fun d=>zG4 (t:=zGY c) h2 (.inr (by omega)) hr rfl ⟨by show 0<=1000;omega,by show 0<=1000;omega⟩,hk⟩
 go_in;go_wp2;rw[<-hw2];go_ret;exact⟨_,rfl,HB.out,HK.out⟩
theorem zD2 (w:World)(X:Nat->Prop)(d p:Nat)(t:Tr)(h:TreeIn X w d p t):
  Calls prog 190 #[pointer (some ⟨p,0,none⟩)] w fun e w'=>∃p',e=returned (pointer (some ⟨p',0,none⟩))∧TreeIn (fun i=>(X i∧i<w.heap.size)∨w.heap.size<=i) w' d p' t.plain∧Grew w w':=by
 cases d with
 |zero=>exact False.elim h.at
 |succ d=>
 have c7:w.cell? ⟨p,7,none⟩=some (int i64 (t.chars:Int)):=by
  obtain⟨-,rv,pv,hb,-⟩:=h.at
  unfold cell?;rw[hb];rfl
 have HT:=vl h;by_cases h0:t.chars=0
 ·have HP:Hid (t.plain=Tr.none):=by show _=_;unfold Tr.plain;rw[if_pos h0]
  rw[h0] at c7;have c7b:=c7;go_in;go_wp2;go_ret;refine⟨_,rfl,?_,kZ _ _ lQ⟩;rw[HP.out];exact zIn (gJ _ _) (.inr lQ)
 ·have HP:Hid (t.plain=t):=by show _=_;unfold Tr.plain;rw[if_neg h0]
  have e0:((t.chars:Int)==0)=false:=by rw[hJ];omega
  go_in;go_wp2;go_ret;exact⟨_,rfl,by rw[HP.out];exact HT.out.mono fun i hi hx=>.inl ⟨hx,hi⟩,Keep.refl _ _ _⟩
theorem zDI:(prog.info? 158).map (fun i=>(i.zero,i.size,i.bytes))=some (some (pointer none),1,8):=by kernel_rfl
theorem TreeIn.chars {X:Nat->Prop}{w:World}{d p:Nat}{t:Tr}(h:TreeIn X w d p t):w.cell? ⟨p,7,none⟩=some (int i64 (t.chars:Int)):=by
 cases d with
 |zero=>exact False.elim h.at
 |succ d=>
  obtain⟨-,rv,pv,hb,-⟩:=h.at
  unfold cell?;rw[hb];rfl
theorem zF1 (w:World)(Y:Nat->Prop)(H p d:Nat)(sv:Value)(ps:List Nat)(t:Tr)(h:Tw w Y H p d sv ps t)(q:Nat)(u:Tr)(hu:TreeIn (fun j=>Y j∧j≠p∧some j≠sv.ownBlock) w d q u)(hc:u.chars<=25)(hl:t.parts.length<9000000):
  Calls prog 188 #[pointer (some ⟨p,0,none⟩),pointer (some ⟨q,0,none⟩)] w fun e w'=>e=returned (tuple #[])∧∃sv' ps',Tw w' Y H p d sv' ps' (t.add u)∧KeepO p sv sv' w w':=by
 obtain⟨i0,hi0,hz0,hz1,hz2⟩:=info_parts zDI;obtain⟨ao,cap0,hsv⟩:=zG h.own;subst hsv;obtain⟨x3,x7,xf⟩:=h.cells;have xf3:=xf 3;have OW:w.ownsRow H 158 1 (slice ao t.parts.length cap0) t.parts.length (xU ps):=h.own;have hlt:p<w.heap.size:=lZ h.pH h.lt;have hHw:H<=w.heap.size:=h.lt;have HNP:=vl <| zM h.own h.blk (by decide);have hsm:=h.small.2.2.2;have HT:=vl h;have HU:=vl hu;have HWR:Hid (IntKind.i64.wrap ((t.chars:Int)+(u.chars:Int))=(t.chars:Int)+(u.chars:Int)):=zAL _ (by omega) (by omega);have HBD:Hid (∀w,Ca 195 #[int i64 (IntKind.i64.wrap ((t.chars:Int)+(u.chars:Int)))] w fun e w'=>e=returned (int i64 (xI (t.chars+u.chars):Int))∧w'=w):=fun w=>by
  have:=zCy w (t.chars+u.chars);rw[show ((t.chars+u.chars:Nat):Int)=(t.chars:Int)+(u.chars:Int) by omega] at this;rw[HWR.out];exact this
 clear xf h hu x7;go_in;apply wp_cut;intro K0 J;go_wp2_with (first|(at_builtin;refine wpList_append_lies _ rfl _ _ 118 rfl (H) 158 i0 (pointer none) 1 8 underlying118 hi0 hz0 hz1 hz2 rfl (by decide) _ _ _ rfl (OW.alloc _) ⟨w.heap.size,0,none⟩ 1 1 [pointer (some ⟨q,0,none⟩)] rfl rfl (cell_one_new _ _ _) (by intro u hu;simp at hu;subst hu;rfl) (by decide) (by unfold maxLen;omega) (by omega) (by simp;omega) _ rfl ?_;intro gg cap w2 hown hgrow hat hlt2;have hPB:=hgrow.block p (by simp;omega) HNP.out;have x3b:w2.cell? ⟨p,3,none⟩=some (slice ao t.parts.length cap0):=(gG hPB).trans ((dX _ _ _ hlt).trans x3);have xf3b:w2.frozen? ⟨p,3,none⟩=false:=(dQ hPB).trans ((frozen?_alloc_past _ _ _ hlt).trans xf3)))
 apply J.out;clear J;obtain⟨w3,hw3,H3⟩:∃w3,w3=w2.setCell ⟨p,3,none⟩ (slice (some ⟨gg,0,none⟩) (t.parts.length+1) cap)∧Hid (Tw w3 Y H p d (slice (some ⟨gg,0,none⟩) (t.parts.length+1) cap) (ps++[q]) {t with parts:=t.parts++[u]}∧KeepO p (slice ao t.parts.length cap0) (slice (some ⟨gg,0,none⟩) (t.parts.length+1) cap) w w3):=⟨_,rfl,HT.out.app rfl (by omega) HU.out hown hgrow (by rcases hat with ha|ha;exact .inl ha;right;rw[ha];simp)⟩
 rw[<-hw3];clear hw3 hown hgrow hat hlt2 hPB x3b xf3b OW HNP x3 xf3;have x7:w3.cell? ⟨p,7,none⟩=some (int i64 (t.chars:Int)):=H3.out.1.cells.2.1;have xf7:w3.frozen? ⟨p,7,none⟩=false:=H3.out.1.cells.2.2 7;have y7:w3.cell? ⟨q,7,none⟩=some (int i64 (u.chars:Int)):=by
  have h1:=H3.out.1.parts t.parts.length (by simp);have e1:(ps++[q]).getD t.parts.length 0=q:=by rw[<-HT.out.len];simp
  have e2:(t.parts++[u]).getD t.parts.length Tr.none=u:=by simp
  have h2:TreeIn _ w3 d ((ps++[q]).getD t.parts.length 0) ((t.parts++[u]).getD t.parts.length Tr.none):=h1;rw[e1,e2] at h2;exact h2.chars
 have HN:Hid (∀i,Tw ((w3.setCell ⟨p,7,none⟩ (int i64 (xI (t.chars+u.chars):Int))).drewN i) Y H p d (slice (some ⟨gg,0,none⟩) (t.parts.length+1) cap) (ps++[q]) (t.add u)∧KeepO p (slice ao t.parts.length cap0) (slice (some ⟨gg,0,none⟩) (t.parts.length+1) cap) w ((w3.setCell ⟨p,7,none⟩ (int i64 (xI (t.chars+u.chars):Int))).drewN i)):=fun i=>by
  have h1:=H3.out.1.setChars (xI (t.chars+u.chars)) (zDR _);have h2:KeepO p (slice (some ⟨gg,0,none⟩) (t.parts.length+1) cap) (slice (some ⟨gg,0,none⟩) (t.parts.length+1) cap) w3 (w3.setCell ⟨p,7,none⟩ (int i64 (xI (t.chars+u.chars):Int))):=⟨rfl,rfl,by rw[zC];omega,fun k _ h2 h3=>⟨lJ _ _ _ _ h2,h3⟩⟩
  have h3:=H3.out.2.trans h2;exact⟨⟨h1.blk,h1.set,zD h1.own fun g _ _ _=>rfl,h1.len,fun i hi=>(h1.parts i hi).go ⟨rfl,rfl,lQ,fun _ _ _=>rfl⟩,h1.pH,h1.lt,h1.small⟩,⟨h3.os,h3.output,h3.size,h3.block⟩⟩
 clear H3 HT HU hsm;go_region_with ((go_at_call 195;go_must ((refine (HBD.out _).mono ?_;rintro e w5 ⟨rfl,rfl⟩))))
 all_goals
  go_end0;exact⟨rfl,_,_,HN.out _⟩
theorem zIK (w:World)(X:Nat->Prop)(d p:Nat)(t:Tr)(h:TreeIn X w d p t)(hc:t.chars<=25)(o:Tm)(ho:o.least<=300∧o.most<=300):
  Calls prog 199 #[pointer (some ⟨p,0,none⟩),agg #[int i64 (o.least:Int),int i64 (o.most:Int),bool o.endless]] w fun e w'=>∃p',e=returned (pointer (some ⟨p',0,none⟩))∧TreeIn (fun i=>(X i∧i<w.heap.size)∨w.heap.size<=i) w' (d+1) p' (zBv t o)∧Grew w w':=by
 obtain⟨i0,hi0,hz0,hz1,hz2⟩:=info_parts zDI;have hC:o.copies<=301:=by
  unfold Tm.copies;split
  ·split <;> omega
  ·omega
 obtain⟨w1,hw1,y0,y1,y2,K1⟩:∃w1,w1=w.alloc (.cells #[int i64 (o.least:Int),int i64 (o.most:Int),bool o.endless] 163)∧w1.cell? ⟨w.heap.size,0,none⟩=some (int i64 (o.least:Int))∧w1.cell? ⟨w.heap.size,1,none⟩=some (int i64 (o.most:Int))∧w1.cell? ⟨w.heap.size,2,none⟩=some (bool o.endless)∧Hid (Grew w w1∧w1.heap.size=w.heap.size+1):=by
  have hb:=gJ w (.cells #[int i64 (o.least:Int),int i64 (o.most:Int),bool o.endless] 163);refine⟨_,rfl,?_,?_,?_,kZ _ _ lQ,by simp⟩
  all_goals (unfold cell?;rw[hb];rfl)
 have hpl:p<w.heap.size:=by
  cases d with
  |zero=>exact False.elim h.at
  |succ d=>exact h.at.1
 have y7:w1.cell? ⟨p,7,none⟩=some (int i64 (t.chars:Int)):=(gG (K1.out.1.block p hpl (by omega))).trans h.chars;have HCP:Hid (∀w',Grew w1 w'->Ca 165 #[agg #[int i64 (o.least:Int),int i64 (o.most:Int),bool o.endless]] w' fun x w2=>x=returned (int i64 (o.copies:Int))∧Grew w1 w2∧w2.cell? ⟨w.heap.size,0,none⟩=some (int i64 (o.least:Int))∧w2.cell? ⟨w.heap.size,1,none⟩=some (int i64 (o.most:Int))∧w2.cell? ⟨w.heap.size,2,none⟩=some (bool o.endless)∧w2.cell? ⟨p,7,none⟩=some (int i64 (t.chars:Int))):=fun w' hk=>by
  refine(zDg w' o.least o.most o.endless).mono ?_;rintro x w2 ⟨rfl,hk2⟩;have hs:=K1.out.2;have hk3:Grew w1 w2:=hk.trans (hk2.lower hk.size hk.size);exact⟨rfl,hk3,zA y0 (by show w.heap.size<w1.heap.size;omega) hk3,zA y1 (by show w.heap.size<w1.heap.size;omega) hk3,zA y2 (by show w.heap.size<w1.heap.size;omega) hk3,zA y7 (by show p<w1.heap.size;omega) hk3⟩
 have hm0:(0:Int)<=(t.chars:Int)*(o.copies:Int):=Int.mul_nonneg (by omega) (by omega);have hm1:(t.chars:Int)*(o.copies:Int)<=25*301:=by
  rw[<-Int.natCast_mul];have:=Nat.mul_le_mul hc hC;omega
 have HWR:Hid (IntKind.i64.wrap ((t.chars:Int)*(o.copies:Int))=(t.chars:Int)*(o.copies:Int)):=zAL _ (by omega) (by omega);have HBD:Hid (∀w,Ca 195 #[int i64 (IntKind.i64.wrap ((t.chars:Int)*(o.copies:Int)))] w fun e w'=>e=returned (int i64 (xI (t.chars*o.copies):Int))∧w'=w):=fun w=>by
  have:=zCy w (t.chars*o.copies);rw[show ((t.chars*o.copies:Nat):Int)=(t.chars:Int)*(o.copies:Int) by rw[Int.natCast_mul]] at this;rw[HWR.out];exact this
 have HA:Hid (zBv t o=Tr.plain ⟨4,⟨[],false⟩,[t],o.least,o.most,o.endless,xI (t.chars*o.copies)⟩):=rfl;have HBL:Hid (xI (t.chars*o.copies)<=25):=zDR _;have HT:=vl h;clear h hC;generalize xI (t.chars*o.copies)=bn at *;generalize o.copies=C at *;generalize zBv t o=ag at *;go_in;apply wp_cut;intro K0 J;go_wp2;apply J.out;clear J;rw[<-hw1];clear hw1 hpl;apply wp_cut;intro K0 J;go_region_held3 (fun w'=>w'.cell? ⟨w.heap.size,0,none⟩=some (int i64 (o.least:Int))∧w'.cell? ⟨w.heap.size,1,none⟩=some (int i64 (o.most:Int))∧w'.cell? ⟨w.heap.size,2,none⟩=some (bool o.endless)∧w'.cell? ⟨p,7,none⟩=some (int i64 (t.chars:Int))) (first|exact⟨z0,z1,z2,z3⟩|go_keep) (first|(go_at_call 165;go_must ((refine (HCP.out w1.drew (Keep.alike (w':=w1.drew) ⟨rfl,rfl,rfl⟩)).mono ?_;rintro x w3 ⟨rfl,hk3,z0,z1,z2,z3⟩)))|(go_at_call 195;go_must ((refine (HBD.out _).mono ?_;rintro x w4 ⟨rfl,hw4⟩;have hw5:=hw4.symm;subst hw5))));show K0 _ _;apply J.out;clear J;have HY:Hid (Grew w w3∧w.heap.size+1<=w3.heap.size):=⟨K1.out.1.trans (hk3.lower K1.out.1.size K1.out.1.size),by have:=K1.out.2;have:=hk3.size;omega⟩
 obtain⟨P,hP⟩:∃P,P=w3.heap.size:=⟨_,rfl⟩
 obtain⟨w4,hw4,H4,HK4⟩:∃w4,w4=w3.alloc (.cells #[int i64 4,slice none 0 0,bool false,slice none 0 0,int i64 (o.least:Int),int i64 (o.most:Int),bool o.endless,int i64 (bn:Int)] 165)∧Tw w4 (fun i=>(X i∧i<w.heap.size)∨w.heap.size<=i) (P+1) P d (slice none 0 0) [] ⟨4,⟨[],false⟩,[],o.least,o.most,o.endless,bn⟩∧Hid (Grew w w4∧TreeIn (fun j=>((X j∧j<w.heap.size)∨w.heap.size<=j)∧j≠P∧some j≠(Value.slice none 0 0).ownBlock) w4 d p t∧w.heap.size+1<=P):=by
  have hk4:Grew w (w3.alloc (.cells #[int i64 4,slice none 0 0,bool false,slice none 0 0,int i64 (o.least:Int),int i64 (o.most:Int),bool o.endless,int i64 (bn:Int)] 165)):=HY.out.1.trans (kZ _ _ (by have:=HY.out.2;omega));have hb:=gJ w3 (.cells #[int i64 4,slice none 0 0,bool false,slice none 0 0,int i64 (o.least:Int),int i64 (o.most:Int),bool o.endless,int i64 (bn:Int)] 165);rw[<-hP] at hb;have h5:=HY.out.2;refine⟨_,rfl,⟨hb,rfl,ownsRow_nil _ _ _ _,rfl,fun i hi=>absurd hi (Nat.not_lt_zero _),by omega,by rw[hP];simp,⟨by show 0<=_;omega,by show o.least<=_;omega,by show o.most<=_;omega,HBL.out⟩⟩,hk4,?_,by rw[hP];exact h5⟩;exact HT.out.step (hk4.agree fun i hi _=>⟨hi,by omega⟩) fun i hi hx=>⟨.inl ⟨hx,hi⟩,by omega,by simp[Value.ownBlock]⟩
 rw[<-hP,<-hw4];have HP:=vl hP;clear hw4 hP HT hk3 HY K1 HCP HBD HWR z0 z1 z2 z3 y0 y1 y2 y7;obtain⟨x3,-,xf⟩:=H4.cells;have xf3:=xf 3;have OW:w4.ownsRow (P+1) 158 1 (slice none 0 0) 0 (xU []):=H4.own;have hlt:P<w4.heap.size:=H4.lt;have HT4:=vl H4;clear H4 xf HP;apply wp_cut;intro K0 J;go_wp2_with (first|(at_builtin;refine wpList_append_lies _ rfl _ _ 118 rfl (P+1) 158 i0 (pointer none) 1 8 underlying118 hi0 hz0 hz1 hz2 rfl (by decide) _ _ _ rfl (OW.alloc _) ⟨w4.heap.size,0,none⟩ 1 1 [pointer (some ⟨p,0,none⟩)] rfl rfl (cell_one_new _ _ _) (by intro u hu;simp at hu;subst hu;rfl) (by decide) (by unfold maxLen;omega) (by omega) (by simp;omega) _ rfl ?_;intro gg cap w5 hown hgrow hat hlt2;have hPB:=hgrow.block P (by simp;omega) (by intro e;cases e);have x3b:w5.cell? ⟨P,3,none⟩=some (slice none 0 0):=(gG hPB).trans ((dX _ _ _ hlt).trans x3);have xf3b:w5.frozen? ⟨P,3,none⟩=false:=(dQ hPB).trans ((frozen?_alloc_past _ _ _ hlt).trans xf3)))
 apply J.out;clear J;obtain⟨w6,hw6,H6⟩:∃w6,w6=w5.setCell ⟨P,3,none⟩ (slice (some ⟨gg,0,none⟩) 1 cap)∧Hid (Tw w6 (fun i=>(X i∧i<w.heap.size)∨w.heap.size<=i) (P+1) P d (slice (some ⟨gg,0,none⟩) 1 cap) [p] ⟨4,⟨[],false⟩,[t],o.least,o.most,o.endless,bn⟩∧KeepO P (slice none 0 0) (slice (some ⟨gg,0,none⟩) 1 cap) w4 w6):=⟨_,rfl,HT4.out.app (m:=0) (q:=p) (u:=t) rfl (by omega) HK4.out.2.1 hown hgrow (by rcases hat with ha|ha;exact .inl ha;right;rw[ha];simp)⟩
 rw[<-hw6];clear hw6 hown hgrow hat hlt2 hPB x3b xf3b OW x3 xf3;have HPL:Hid (Ca 190 #[pointer (some ⟨P,0,none⟩)] w6 fun e w'=>∃p',e=returned (pointer (some ⟨p',0,none⟩))∧TreeIn (fun i=>(X i∧i<w.heap.size)∨w.heap.size<=i) w' (d+1) p' ag∧Grew w w'):=by
  have hP:=HK4.out.2.2;have h4:=HK4.out.1;have hk6:Keep (P+1) P w4 w6:=H6.out.2.keep HT4.out.own HT4.out.lt;refine(zD2 w6 _ (d+1) P _ (H6.out.1.in (.inr (by omega)) fun j hj=>.inr (by omega))).mono ?_;rintro e w7 ⟨p',rfl,ht,hk7⟩;have hs6:=hk6.size;have hs4:=h4.size;refine⟨p',rfl,?_,h4.trans (Keep.trans (w':=w6) ⟨hk6.os,hk6.output,hk6.size,fun k h1 _=>hk6.block k (by omega) (by omega)⟩ (hk7.lower (by omega) (by omega)))⟩;rw[HA.out];exact ht.mono fun i _ hx=>by
   rcases hx with hx|hx
   ·exact hx.1
   ·exact .inr (by omega)
 clear H6 HT4 HK4 HA;go_wp2_with (first|(go_at_call 190;refine HPL.out.mono ?_;rintro e w7 ⟨p',rfl,ht7,hk7⟩))
 go_ret;exact⟨p',rfl,ht7,hk7⟩
def DefsIn (b:Nat)(X:Nat->Prop)(w:World)(D:Nat)(v:Value)(l:List (ByteArray×Tr)):Prop:=
 ∃ao cap,v=slice ao l.length cap∧l.length<=cap∧cap<=maxLen∧∀i,i<l.length->∃g o p,ao=some ⟨g,o,none⟩∧In w g∧g<b∧w.cell? ⟨g,o+i*2,none⟩=some (string (l.getD i (⟨#[]⟩,Tr.none)).1)∧w.cell? ⟨g,o+i*2+1,none⟩=some (pointer (some ⟨p,0,none⟩))∧TreeIn X w D p (l.getD i (⟨#[]⟩,Tr.none)).2∧(l.getD i (⟨#[]⟩,Tr.none)).1.size<=100000
theorem DefsIn.go {b:Nat}{X:Nat->Prop}{w w2:World}{D:Nat}{v:Value}{l:List (ByteArray×Tr)}(h:DefsIn b X w D v l)(hH:∀i,X i->i<b)(a:Agree (·<b) w w2):DefsIn b X w2 D v l:=by
 obtain⟨ao,cap,hv,h1,h2,h3⟩:=h;refine⟨ao,cap,hv,h1,h2,fun i hi=>?_⟩;obtain⟨g,o,p,ha,hg,hx,c0,c1,ht,hs⟩:=h3 i hi;have e:=a.block g hg hx;exact⟨g,o,p,ha,lZ hg a.size,hx,(gG e).trans c0,(gG e).trans c1,ht.go (a.mono fun i _ hx=>hH i hx),hs⟩
def TrAns (w:World)(X:Nat->Prop)(b:Nat)(s:ByteArray)(dv:Value)(r:Rx)(D:Nat)(a:Option (Tr×Nat))(e:Ending)(w':World):Prop:=
 Keep w.heap.size b w w'∧match a with
 |none=>∃v q,e=returned (tuple #[pointer v,bool false])∧RxAt w' b s dv {r with at_:=q}
 |some (t,q)=>∃p,e=returned (tuple #[pointer (some ⟨p,0,none⟩),bool true])∧TreeIn (fun i=>X i∨w.heap.size<=i) w' (D+4*q) p t∧RxAt w' b s dv {r with at_:=q}
theorem zJj (s:ByteArray)(p:Nat)(l:List (ByteArray×Tr))(j:Nat)(h:j<l.length):zCp s p (l.drop j)=if zJ s p (braced (l.getD j (⟨#[]⟩,Tr.none)).1) then some ((l.getD j (⟨#[]⟩,Tr.none)).2,p+(braced (l.getD j (⟨#[]⟩,Tr.none)).1).size) else zCp s p (l.drop (j+1)):=by
 rw[List.drop_eq_getElem_cons h,lW,lV h];rfl
theorem zJi (w:World)(X:Nat->Prop)(b:Nat)(s:ByteArray)(dv:Value)(r:Rx)(h:RxAt w b s dv r)(hs:s.size<=1048576)(ha:r.at_<=s.size)(D:Nat)(defs:List (ByteArray×Tr))(hD:DefsIn b X w D dv defs)(hH:∀i,X i->i<b)(hlen:defs.length<=1000000):
  Calls prog 202 #[pointer (some ⟨b,0,none⟩)] w (TrAns w X b s dv r D (zCp s r.at_ defs)):=by
 have hlb:=h.lt;obtain⟨ao,cap,rfl,hcap,hcap2,hd⟩:=hD;have HD:=vl hd;obtain⟨-,c1,-,-,-,-⟩:=h.cells;have HR:=vl h;have HLB:=vl hlb;obtain⟨G,hG⟩:∃G,G=zCp s r.at_ defs:=⟨_,rfl⟩
 have HG:=vl hG.symm;rw[<-hG];go_in;go_wp2;go_loopg [11] defs.length (fun q i wr=>∃j:Nat,q=defs.length-j∧j<=defs.length∧i=int i64 (j:Int)∧zCp s r.at_ (defs.drop j)=G∧RxAt wr b s (slice ao defs.length cap) r∧Keep w.heap.size b w wr)
 case atStart=>exact⟨0,rfl,lX,rfl,HG.out,HR.out,Keep.refl _ _ _⟩
 case round=>
  obtain⟨j,hgk,hj,rfl,hGj,hR,hk⟩:=hrel;have HA:Hid (gk=defs.length-j∧RxAt wr b s (slice ao defs.length cap) r∧Keep w.heap.size b w wr):=⟨hgk,hR,hk⟩
  by_cases hj2:j<defs.length
  ·have i1:(j:Int)<(defs.length:Int):=by omega
   obtain⟨g,o,p,rfl,hg,hgH,d0,d1,ht,hsz⟩:=HD.out j hj2;have hb:=HLB.out;have eb:wr.heap[g]? =w.heap[g]? :=hk.block g hg (kJ hgH);have y0:=(gG eb).trans d0;have y1:=(gG eb).trans d1;have HGj:Hid ((if zJ s r.at_ (braced (defs.getD j (⟨#[]⟩,Tr.none)).1) then some ((defs.getD j (⟨#[]⟩,Tr.none)).2,r.at_+(braced (defs.getD j (⟨#[]⟩,Tr.none)).1).size) else zCp s r.at_ (defs.drop (j+1)))=G):=by
    show _=_;rw[<-zJj s r.at_ defs j hj2];exact hGj
   have HT:=vl <| ht.go (hk.agree fun i hi hx=>⟨hi,kJ (hH i hx)⟩);generalize defs.getD j (⟨#[]⟩,Tr.none)=nt at *;obtain⟨nm,tr⟩:=nt;simp only at y0 y1 hsz;have HTK:Hid (∀w2 v,zJ s r.at_ (braced nm)=v->RxAt w2 b s (slice (some ⟨g,o,none⟩) defs.length cap) r->Ca 189 #[pointer (some ⟨b,0,none⟩),string (⟨#[123]⟩++nm++⟨#[125]⟩)] w2 fun e w'=>e=returned (bool v)∧RxAt w' b s (slice (some ⟨g,o,none⟩) defs.length cap) {r with at_:=if v then r.at_+(braced nm).size else r.at_}∧∀H,Keep H b w2 w'):=fun w2 v hv h2=>zAb (r:=r) (x:=r.at_) (braced nm) hs (by omega) (by rw[zBY];omega) hv rfl h2;have hbs:=zBY nm;have HBN:Hid (braced nm=⟨#[123]⟩++nm++⟨#[125]⟩):=rfl;have hwz:w.heap.size<=wr.heap.size:=HA.out.2.2.size;obtain⟨wa,hwa,HRa,z0,z1,HKa⟩:∃wa,wa=wr.alloc (.cells #[string nm,pointer (some ⟨p,0,none⟩)] 233)∧Hid (RxAt wa b s (slice (some ⟨g,o,none⟩) defs.length cap) r∧TreeIn (fun i=>X i∨w.heap.size<=i) wa D p tr)∧wa.cell? ⟨wr.heap.size,0,none⟩=some (string nm)∧wa.cell? ⟨wr.heap.size,1,none⟩=some (pointer (some ⟨p,0,none⟩))∧Hid (Keep w.heap.size b w wa):=by
    have hb2:=gJ wr (.cells #[string nm,pointer (some ⟨p,0,none⟩)] 233);refine⟨_,rfl,⟨RxAt.of_block HA.out.2.1 (lG _ _ _ (by omega)),HT.out.step ((kZ (H:=wr.heap.size) (b:=b) _ _ lQ).agree fun i hi hx=>⟨hi,kJ (hH i hx)⟩) fun i _ hx=>.inl hx⟩,?_,?_,HA.out.2.2.trans (kZ _ _ hwz)⟩
    ·unfold cell?;rw[hb2];rfl
    ·unfold cell?;rw[hb2];rfl
   apply wp_cut;intro K1 HK1;go_wp2;apply HK1.out;apply wp_cut;intro K1 HK1;go_wp2;apply HK1.out;apply wp_cut;intro KB HKB;refine wp_block ?_;apply wp_cut;intro K1 HK1;go_wp2;apply HK1.out;clear HK1;rw[<-hwa];clear hwa y0 y1;have h1z:((⟨#[123]⟩:ByteArray)).size=1:=rfl;have h2z:((⟨#[125]⟩:ByteArray)).size=1:=rfl;clear hcap hcap2 hbs HBN;cases ht:zJ s r.at_ (braced nm) with
   |true=>
    have HT1:=HTK.out wa true ht HRa.out.1;have HT2:=vl HT1;rw[ht] at HGj;have HG2:=vl HGj.out.symm;rw[HG2.out];have hb:=HLB.out;have HZ:Hid (∀w4,(∀H,Keep H b wa w4)->TreeIn (fun i=>X i∨w.heap.size<=i) w4 (D+4*(r.at_+(braced nm).size)) p tr∧Keep w.heap.size b w w4∧w4.cell? ⟨wr.heap.size,1,none⟩=some (pointer (some ⟨p,0,none⟩))):=fun w4 hk4=>by
     refine⟨((HRa.out.2.go ((hk4 wa.heap.size).agree fun i hi hx=>⟨hi,by rcases hx with hx|hx;exact kJ (hH i hx);omega⟩))).deep (by omega),HKa.out.trans (hk4 _),?_⟩;exact(gG ((hk4 (wr.heap.size+1)).block wr.heap.size (by omega) (by omega))).trans z1
    generalize (braced nm).size=bs at *;clear ht HT1 HTK HGj HG2 hb;go_wp2_with (first|(go_at_call 189;refine HT2.out.mono ?_;rintro e w4 ⟨rfl,hR4,hk4⟩;obtain⟨t4,k4,y1⟩:=HZ.out w4 hk4))
    refine dZ (results_tmp2 rfl _ _ _) rfl ?_;exact⟨k4,p,rfl,t4,hR4⟩
   |false=>
    have HT1:=HTK.out wa false ht HRa.out.1;have HT2:=vl HT1;rw[ht] at HGj;have HG2:=vl HGj.out;clear ht HT1 HTK HGj;go_wp2_with (first|(go_at_call 189;refine HT2.out.mono ?_;rintro e w4 ⟨rfl,hR4,hk4⟩))
    apply HKB.out;clear HKB;go_wp2;go_roundg (defs.length-(j+1))
    case measure=>rw[HA.out.1];omega
    case rel=>exact⟨j+1,rfl,by omega,by go_num,HG2.out,hR4,HKa.out.trans (hk4 _)⟩
  ·have i1:(defs.length:Int)<=(j:Int):=by omega
   have HG2:Hid (G=none):=by
    show _=_;rw[<-hGj,List.drop_eq_nil_of_le (by omega)];rfl
   clear hgk hR hk hcap hcap2 hGj;go_wp2;rw[HG2.out];refine dZ (results_tmp2 rfl _ _ _) rfl ?_;exact⟨HA.out.2.2,none,r.at_,rfl,HA.out.2.1⟩
section
variable (X:Nat->Prop) (b:Nat) (s:ByteArray) (dv:Value)
def zAw (fn:Nat)(X:Nat->Prop)(b:Nat)(s:ByteArray)(dv:Value)(D0:Nat)(defs:List (ByteArray×Tr))(D k:Nat)(M:Reads):Prop:=
 ∀w r,RxAt w b s dv r->DefsIn b X w D0 dv defs->r.depth+k=8->r.at_<=s.size->Calls prog fn #[pointer (some ⟨b,0,none⟩)] w (TrAns w X b s dv r D (M r.at_ r.both))
theorem zIC {X Y:Nat->Prop}{b:Nat}{s:ByteArray}{dv:Value}{w wa:World}{r:Rx}{D q:Nat}{u:Value}{c:Cs}(hb:b<w.heap.size)(hq:0<q)(hR:RxAt wa b s dv {r with at_:=q})(hr:RangesIn Y wa u c.ranges)(hY:∀i,Y i->w.heap.size<=i)(hk:Keep w.heap.size b w wa):Hid (Calls prog 205 #[agg #[u,bool c.others]] wa fun e w'=>∃p,e=returned (pointer (some ⟨p,0,none⟩))∧TreeIn (fun i=>X i∨w.heap.size<=i) w' (D+4*q) p (zGY c)∧RxAt w' b s dv {r with at_:=q}∧Keep w.heap.size b w w'):=by
 have hz:=hk.size;refine(zFP wa _ _ c hr).mono ?_;rintro e w4 ⟨p,rfl,ht,hk4⟩;refine⟨p,rfl,?_,RxAt.of_block hR (hk4.block b (by omega) (by omega)),hk.trans (hk4.lower (by omega) (by omega))⟩;have:=ht (D+4*q-1);rw[show D+4*q-1+1=D+4*q by omega] at this;exact this.mono fun i _ hx=>by
  rcases hx with hx|hx
  ·exact .inr (hY i hx.1)
  ·exact .inr (by omega)
theorem zOl (hs:s.size<=1048576)(D:Nat)(w:World)(r:Rx)(h:RxAt w b s dv r)(ha:r.at_<=s.size)(n1:byt s r.at_≠40)(n2:byt s r.at_≠123)(hm:jG s r.at_=none):
  Calls prog 196 #[pointer (some ⟨b,0,none⟩)] w (TrAns w X b s dv r D none):=by
 have HP0:=vl <| qF w b s dv r h hs (by omega) 0 (by omega);have HST:Hid (Ca 203 #[pointer (some ⟨b,0,none⟩)] w (zAp w b s dv r none)):=by have:=zDu w b s dv r h hs ha;rw[hm] at this;exact this
 have HLB:=vl h.lt;generalize byt s r.at_=c0 at *;have e1:((c0:Int)==40)=false:=by rw[hJ];omega
 have e2:((c0:Int)==123)=false:=by rw[hJ];omega
 go_in;go_wp2_with (first|(go_at_call 200;refine HP0.out.mono ?_;rintro e w9 ⟨rfl,hw9⟩;have hw8:=hw9.symm;subst hw8)|(go_at_call 203;refine HST.out.mono ?_;rintro e w2 ⟨hk2,v,n,cc,o,q,rfl,hR2⟩))
 refine dZ (results_tmp2 rfl _ _ _) rfl ?_;have hb:=HLB.out;have hz:=hk2.size;refine⟨hk2.trans (kZ _ _ hz),none,q,rfl,RxAt.of_block hR2 (lG _ _ _ (by omega))⟩
theorem zOk (hs:s.size<=1048576)(D:Nat)(w:World)(r:Rx)(h:RxAt w b s dv r)(ha:r.at_<=s.size)(n1:byt s r.at_≠40)(n2:byt s r.at_≠123)(c:Cs)(q:Nat)(hm:jG s r.at_=some (c,q))(hbo:r.both=false):
  Calls prog 196 #[pointer (some ⟨b,0,none⟩)] w (TrAns w X b s dv r D (some (zGY c,q))):=by
 have HP0:=vl <| qF w b s dv r h hs (by omega) 0 (by omega);have HST:Hid (Ca 203 #[pointer (some ⟨b,0,none⟩)] w (zAp w b s dv r (some (c,q)))):=by have:=zDu w b s dv r h hs ha;rw[hm] at this;exact this
 have HLB:Hid (b<w.heap.size∧0<q∧c.ranges.length<=3000000):=⟨h.lt,by have:=(zCX s hs _ _ _ hm).1;omega,(zCX s hs _ _ _ hm).2.2.1⟩
 generalize byt s r.at_=c0 at *;have e1:((c0:Int)==40)=false:=by rw[hJ];omega
 have e2:((c0:Int)==123)=false:=by rw[hJ];omega
 have HBO:=vl hbo;go_in;apply wp_cut;intro K0 J;go_wp2;apply J.out;apply wp_cut;intro K0 J;go_wp2_with (first|(go_at_call 200;refine HP0.out.mono ?_;rintro e w9 ⟨rfl,hw9⟩;have hw8:=hw9.symm;subst hw8))
 apply J.out;apply wp_cut;intro K0 J;go_wp2_with (first|(go_at_call 203;refine HST.out.mono ?_;rintro e w2 ⟨hk2,u,rfl,hu,hR2⟩;obtain⟨ao,cap,hv,-⟩:=hu.at;subst hv))
 apply J.out;obtain⟨wa,hwa,z0,z1,c4,HA⟩:∃wa,wa=w2.alloc (.cells #[slice ao c.ranges.length cap,bool c.others] 161)∧wa.cell? ⟨w2.heap.size,0,none⟩=some (slice ao c.ranges.length cap)∧wa.cell? ⟨w2.heap.size,1,none⟩=some (bool c.others)∧wa.cell? ⟨b,4,none⟩=some (bool false)∧Hid (RxAt wa b s dv {r with at_:=q}∧RangesIn (fun i=>w.heap.size<=i∧i≠w2.heap.size) wa (slice ao c.ranges.length cap) c.ranges∧Keep w.heap.size b w wa∧wa.heap.size=w2.heap.size+1∧w.heap.size<=w2.heap.size∧wa.heap[w2.heap.size]? =some (.cells #[slice ao c.ranges.length cap,bool c.others] 161)):=by
  have hb:=HLB.out.1;have hz:=hk2.size;have hn:=gJ w2 (.cells #[slice ao c.ranges.length cap,bool c.others] 161);have hR:RxAt (w2.alloc (.cells #[slice ao c.ranges.length cap,bool c.others] 161)) b s dv {r with at_:=q}:=RxAt.of_block hR2 (lG _ _ _ (by omega));refine⟨_,rfl,?_,?_,?_,hR,fun w3 a=>hu w3 ⟨a.os,a.output,lY (by simp) a.size,fun i hi hx=>(a.block i (by simp;omega) ⟨hx,by omega⟩).trans (lG _ _ _ hi)⟩,hk2.trans (kZ _ _ hz),by simp,hz,hn⟩
  ·unfold cell?;rw[hn];rfl
  ·unfold cell?;rw[hn];rfl
  ·have:=hR.cells.2.2.2.2.1
   rw[<-HBO.out];exact this
 rw[<-hwa];clear hwa hk2 hu hR2;obtain⟨B,hB⟩:∃B,B=w2.heap.size:=⟨_,rfl⟩
 rw[<-hB] at z0 z1 HA ⊢;clear hB;apply wp_cut;intro K0 J;go_wp2;apply J.out;clear J;have HOT:=zIC (X:=X) (D:=D) HLB.out.1 HLB.out.2.1 HA.out.1 HA.out.2.1 (fun i h=>h.1) HA.out.2.2.1;clear HA;go_wp2_with (first|(go_at_call 205;refine HOT.out.mono ?_;rintro e w4 ⟨p,rfl,ht4,hR4,hk4⟩))
 refine dZ (results_tmp2 rfl _ _ _) rfl ?_;exact⟨hk4,p,rfl,ht4,hR4⟩
theorem zOm (hs:s.size<=1048576)(D:Nat)(w:World)(r:Rx)(h:RxAt w b s dv r)(ha:r.at_<=s.size)(n1:byt s r.at_≠40)(n2:byt s r.at_≠123)(c:Cs)(q:Nat)(hm:jG s r.at_=some (c,q))(hbo:r.both=true):
  Calls prog 196 #[pointer (some ⟨b,0,none⟩)] w (TrAns w X b s dv r D (some (zGY ⟨qC c.ranges,c.others⟩,q))):=by
 have HP0:=vl <| qF w b s dv r h hs (by omega) 0 (by omega);have HST:Hid (Ca 203 #[pointer (some ⟨b,0,none⟩)] w (zAp w b s dv r (some (c,q)))):=by have:=zDu w b s dv r h hs ha;rw[hm] at this;exact this
 have HLB:Hid (b<w.heap.size∧0<q∧c.ranges.length<=3000000):=⟨h.lt,by have:=(zCX s hs _ _ _ hm).1;omega,(zCX s hs _ _ _ hm).2.2.1⟩
 generalize byt s r.at_=c0 at *;have e1:((c0:Int)==40)=false:=by rw[hJ];omega
 have e2:((c0:Int)==123)=false:=by rw[hJ];omega
 have HBO:=vl hbo;go_in;apply wp_cut;intro K0 J;go_wp2;apply J.out;apply wp_cut;intro K0 J;go_wp2_with (first|(go_at_call 200;refine HP0.out.mono ?_;rintro e w9 ⟨rfl,hw9⟩;have hw8:=hw9.symm;subst hw8))
 apply J.out;clear J;apply wp_cut;intro K0 J;go_wp2_with (first|(go_at_call 203;refine HST.out.mono ?_;rintro e w2 ⟨hk2,u,rfl,hu,hR2⟩;obtain⟨ao,cap,hv,-⟩:=hu.at;subst hv))
 apply J.out;clear J;obtain⟨wa,hwa,z0,z1,c4,HA⟩:∃wa,wa=w2.alloc (.cells #[slice ao c.ranges.length cap,bool c.others] 161)∧wa.cell? ⟨w2.heap.size,0,none⟩=some (slice ao c.ranges.length cap)∧wa.cell? ⟨w2.heap.size,1,none⟩=some (bool c.others)∧wa.cell? ⟨b,4,none⟩=some (bool true)∧Hid (RxAt wa b s dv {r with at_:=q}∧RangesIn (fun i=>w.heap.size<=i∧i≠w2.heap.size) wa (slice ao c.ranges.length cap) c.ranges∧Keep w.heap.size b w wa∧wa.heap.size=w2.heap.size+1∧w.heap.size<=w2.heap.size∧wa.heap[w2.heap.size]? =some (.cells #[slice ao c.ranges.length cap,bool c.others] 161)):=by
  have hb:=HLB.out.1;have hz:=hk2.size;have hn:=gJ w2 (.cells #[slice ao c.ranges.length cap,bool c.others] 161);have hR:RxAt (w2.alloc (.cells #[slice ao c.ranges.length cap,bool c.others] 161)) b s dv {r with at_:=q}:=RxAt.of_block hR2 (lG _ _ _ (by omega));refine⟨_,rfl,?_,?_,?_,hR,fun w3 a=>hu w3 ⟨a.os,a.output,lY (by simp) a.size,fun i hi hx=>(a.block i (by simp;omega) ⟨hx,by omega⟩).trans (lG _ _ _ hi)⟩,hk2.trans (kZ _ _ hz),by simp,hz,hn⟩
  ·unfold cell?;rw[hn];rfl
  ·unfold cell?;rw[hn];rfl
  ·have:=hR.cells.2.2.2.2.1
   rw[<-HBO.out];exact this
 rw[<-hwa];clear hwa hk2 hu hR2;obtain⟨B,hB⟩:∃B,B=w2.heap.size:=⟨_,rfl⟩
 rw[<-hB] at z0 z1 HA ⊢;clear hB;apply wp_cut;intro K0 J;go_wp2;apply J.out;clear J;have HBC:=vl <| zEp wa _ c.ranges c.others HA.out.2.1.at (by have:=HLB.out.2.2;omega)
 apply wp_cut;intro K0 J;go_wp2_with (first|(go_at_call 204;refine HBC.out.mono ?_;rintro e w5 ⟨u5,rfl,hu5,hk5⟩;obtain⟨ao5,cap5,hv5,-⟩:=hu5.at;subst hv5;have hB5:=(hk5.block B (by have:=HA.out.2.2.2.1;omega) (by have:=HA.out.2.2.2.1;omega)).trans HA.out.2.2.2.2.2;have q0:w5.cell? ⟨B,0,none⟩=some (slice ao c.ranges.length cap):=(by unfold cell?;rw[hB5];rfl);have q1:w5.cell? ⟨B,1,none⟩=some (bool c.others):=(by unfold cell?;rw[hB5];rfl);have g0:w5.frozen? ⟨B,0,none⟩=false:=(by unfold frozen?;rw[hB5];rfl);have g1:w5.frozen? ⟨B,1,none⟩=false:=(by unfold frozen?;rw[hB5];rfl);have HB5:=vl hB5;clear hB5))
 apply J.out;clear J;obtain⟨w6,hw6,y0,y1,H6⟩:∃w6,w6=(w5.setCell ⟨B,0,none⟩ (slice ao5 (qC c.ranges).length cap5)).setCell ⟨B,1,none⟩ (bool c.others)∧w6.cell? ⟨B,0,none⟩=some (slice ao5 (qC c.ranges).length cap5)∧w6.cell? ⟨B,1,none⟩=some (bool c.others)∧Hid (RxAt w6 b s dv {r with at_:=q}∧RangesIn (fun i=>w.heap.size<=i) w6 (slice ao5 (qC c.ranges).length cap5) (qC c.ranges)∧Keep w.heap.size b w w6∧w.heap.size<=w6.heap.size):=by
  obtain⟨hR,hr,hk,hsz,hw2,hBB⟩:=HA.out;have hb:=HLB.out.1;have h2:((w5.setCell ⟨B,0,none⟩ (slice ao5 (qC c.ranges).length cap5)).setCell ⟨B,1,none⟩ (bool c.others)).heap[B]? =some (.cells #[slice ao5 (qC c.ranges).length cap5,bool c.others] 161):=by
   simp[setCell,lU,HB5.out]
  have hne:∀i,i≠B->((w5.setCell ⟨B,0,none⟩ (slice ao5 (qC c.ranges).length cap5)).setCell ⟨B,1,none⟩ (bool c.others)).heap[i]? =w5.heap[i]? :=fun i hi2=>by
   simp[setCell,lU,Ne.symm hi2]
  have hs5:=hk5.size;have hs6:((w5.setCell ⟨B,0,none⟩ (slice ao5 (qC c.ranges).length cap5)).setCell ⟨B,1,none⟩ (bool c.others)).heap.size=w5.heap.size:=by simp[World.setCell]
  refine⟨_,rfl,?_,?_,RxAt.of_block hR ((hne b (by omega)).trans (hk5.block b (by omega) (by omega))),RangesIn.mono (X:=fun i=>wa.heap.size<=i) (hu5.go ⟨rfl,rfl,by rw[hs6];omega,fun i _ hx=>hne i (by omega)⟩) (fun i _ hx=>by omega),(hk.trans (hk5.lower (by omega) (by omega))).trans ⟨rfl,rfl,by rw[hs6];omega,fun k h1 _=>hne k (by omega)⟩,by rw[hs6];omega⟩
  ·unfold cell?;rw[h2];rfl
  ·unfold cell?;rw[h2];rfl
 rw[<-hw6];clear hw6 hu5 hk5 q0 q1 g0 g1 z0 z1;have HOT:=zIC (X:=X) (D:=D) (c:=⟨qC c.ranges,c.others⟩) HLB.out.1 HLB.out.2.1 H6.out.1 H6.out.2.1 (fun i h=>h) H6.out.2.2.1;clear HA H6 HBC HB5;generalize qC c.ranges=L at *;go_wp2_with (first|(go_at_call 205;refine HOT.out.mono ?_;rintro e w4 ⟨p,rfl,ht4,hR4,hk4⟩))
 refine dZ (results_tmp2 rfl _ _ _) rfl ?_;exact⟨hk4,p,rfl,ht4,hR4⟩
theorem TrAns.any {w w':World}{X:Nat->Prop}{b:Nat}{s:ByteArray}{dv:Value}{r:Rx}{D:Nat}{a:Option (Tr×Nat)}{e:Ending}(h:TrAns w X b s dv r D a e w'):∃(v:Option Addr) (q:Nat) (k:Bool),e=returned (tuple #[pointer v,bool k])∧RxAt w' b s dv {r with at_:=q}∧Hid (Keep w.heap.size b w w'∧(k=false∧a=none∨k=true∧∃p t,v=some ⟨p,0,none⟩∧a=some (t,q)∧TreeIn (fun i=>X i∨w.heap.size<=i) w' (D+4*q) p t)):=by
 cases a with
 |none=>
  obtain⟨hk,v,q,rfl,hR⟩:=h;exact⟨v,q,false,rfl,hR,hk,.inl ⟨rfl,rfl⟩⟩
 |some g=>
  obtain⟨t,q⟩:=g;obtain⟨hk,p,rfl,ht,hR⟩:=h;exact⟨_,q,true,rfl,hR,hk,.inr ⟨rfl,p,t,rfl,rfl,ht⟩⟩
theorem zNE (hs:s.size<=1048576)(D:Nat)(w:World)(r:Rx)(h:RxAt w b s dv r)(ha:r.at_<=s.size)(hc:byt s r.at_=40)(a:Option (Tr×Nat))(hB:Calls prog 201 #[pointer (some ⟨b,0,none⟩)] w (TrAns w X b s dv r D a)):
  Calls prog 196 #[pointer (some ⟨b,0,none⟩)] w (TrAns w X b s dv r D a):=by
 have HP1:=vl ((zGV hs (by omega)).out w h);rw[hc] at HP1;have HBR:=vl hB;go_in;go_wp2_with (first|(go_at_call 200;refine HP1.out.mono ?_;rintro e w9 ⟨rfl,hw9⟩;have hw8:=hw9.symm;subst hw8)|(go_at_call 201;refine HBR.out.mono ?_;rintro e w2 hx;obtain⟨v,q,k,rfl,-,-⟩:=TrAns.any hx))
 refine dZ (results_tmp2 rfl _ _ _) rfl ?_;exact hx
theorem zND (hs:s.size<=1048576)(D:Nat)(w:World)(r:Rx)(h:RxAt w b s dv r)(ha:r.at_<=s.size)(hc:byt s r.at_=123)(a:Option (Tr×Nat))(hB:Calls prog 202 #[pointer (some ⟨b,0,none⟩)] w (TrAns w X b s dv r D a)):
  Calls prog 196 #[pointer (some ⟨b,0,none⟩)] w (TrAns w X b s dv r D a):=by
 have HP1:=vl ((zGV hs (by omega)).out w h);rw[hc] at HP1;have HBR:=vl hB;go_in;go_wp2_with (first|(go_at_call 200;refine HP1.out.mono ?_;rintro e w9 ⟨rfl,hw9⟩;have hw8:=hw9.symm;subst hw8)|(go_at_call 202;refine HBR.out.mono ?_;rintro e w2 hx;obtain⟨v,q,k,rfl,-,-⟩:=TrAns.any hx))
 refine dZ (results_tmp2 rfl _ _ _) rfl ?_;exact hx
theorem zFz (hs:s.size<=1048576)(hH:∀i,X i->i<b)(D:Nat)(defs:List (ByteArray×Tr))(hlen:defs.length<=1000000)(k:Nat)(sub:Reads)(hbr:∀w r,RxAt w b s dv r->DefsIn b X w D dv defs->r.depth+k=8->r.at_<=s.size->byt s r.at_=40->Calls prog 201 #[pointer (some ⟨b,0,none⟩)] w (TrAns w X b s dv r D (brM s k sub r.at_ r.both))):
  zAw 196 X b s dv D defs D k (zDl s defs k sub):=fun w r h hD hk ha=>by
 unfold zDl;by_cases h1:byt s r.at_=40
 ·rw[if_pos h1]
  exact zNE X b s dv hs D w r h ha h1 _ (hbr w r h hD hk ha h1)
 rw[if_neg h1];by_cases h2:byt s r.at_=123
 ·rw[if_pos h2]
  exact zND X b s dv hs D w r h ha h2 _ (zJi w X b s dv r h hs ha D defs hD hH hlen)
 rw[if_neg h2];cases hm:jG s r.at_ with
 |none=>exact zOl X b s dv hs D w r h ha h1 h2 hm
 |some g=>
  obtain⟨c,q⟩:=g;cases hb:r.both with
  |false=>exact zOk X b s dv hs D w r h ha h1 h2 c q hm hb
  |true=>exact zOm X b s dv hs D w r h ha h1 h2 c q hm hb
end
end Go.Proofs.YtbjcfkdnjaiclaaGreat
