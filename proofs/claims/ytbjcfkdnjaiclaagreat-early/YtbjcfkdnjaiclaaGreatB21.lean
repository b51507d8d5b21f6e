import Derived.Test.YtbjcfkdnjaiclaaGreatB0
import Derived.Test.YtbjcfkdnjaiclaaGreatB20
/- Parts of the proof. -/
set_option linter.unusedVariables false
set_option linter.unusedSimpArgs false
set_option maxHeartbeats 4000000
set_option maxRecDepth 100000
namespace Go.Proofs.YtbjcfkdnjaiclaaGreat
open Go.RowKit Go.Proofs.Tryz Go.World
theorem zGz (s t:ByteArray)(r:Rx):r.take s t={r with at_:=if zI s r.at_ t then r.at_+t.size else r.at_}:=by
 cases h:zI s r.at_ t with
 |true=>rw[zHw h];rfl
 |false=>rw[zJC h];rfl
structure Cw (w w':World)(b:Nat)(s:ByteArray)(dv:Value)(r:Rx)(pos:Nat)(L:List (Int×Int))(o:Bool):Prop where
 set:zNy w' (w.heap.size+2) (w.heap.size+1) L o
 box:w'.heap[w.heap.size]? =some (.cells #[.slice none 0 0,.bool false] 161)
 rx:RxAt w' b s dv {r with at_:=pos}
 keep:Keep w.heap.size b w w'
theorem vE (w w2:World)(b:Nat)(s:ByteArray)(dv:Value)(r:Rx)(x y u:Value)(o:Bool)(hb:b<w.heap.size)(hB:w2.heap[w.heap.size]? =some (.cells #[x,y] 161))(h:RxAt w2 b s dv r)(hk:Keep w.heap.size b w w2):
  ∃w3,w3=(w2.setCell ⟨w.heap.size,0,none⟩ u).setCell ⟨w.heap.size,1,none⟩ (.bool o)∧w3.cell? ⟨w.heap.size,0,none⟩=some u∧w3.cell? ⟨w.heap.size,1,none⟩=some (.bool o)∧Hid (RxAt w3 b s dv r∧Keep w.heap.size b w w3∧∀l,RangesIn (fun i=>w.heap.size<i) w2 u l->RangesIn (fun i=>w.heap.size<=i) w3 u l):=by
 have h2:((w2.setCell ⟨w.heap.size,0,none⟩ u).setCell ⟨w.heap.size,1,none⟩ (.bool o)).heap[w.heap.size]? =some (.cells #[u,.bool o] 161):=by
  simp[setCell,lU,hB]
 have hne:∀i,i≠w.heap.size->((w2.setCell ⟨w.heap.size,0,none⟩ u).setCell ⟨w.heap.size,1,none⟩ (.bool o)).heap[i]? =w2.heap[i]? :=fun i hi2=>by
  simp[setCell,lU,Ne.symm hi2]
 refine⟨_,rfl,?_,?_,RxAt.of_block h (hne b (by omega)),hk.trans ⟨rfl,rfl,by simp[World.setCell],fun k h1 _=>hne k (by omega)⟩,fun l hl=>RangesIn.mono (X:=fun i=>w.heap.size<i) (hl.go ⟨rfl,rfl,by simp[World.setCell],fun i _ hx=>hne i (Nat.ne_of_gt hx)⟩) (fun i _ hx=>Nat.le_of_lt hx)⟩
 ·unfold cell?;rw[h2];rfl
 ·unfold cell?;rw[h2];rfl
theorem zIp (w:World)(b:Nat)(s:ByteArray)(dv:Value)(r:Rx)(h:RxAt w b s dv r):
  ∃w3,w3=(((w.alloc (.cells #[.slice none 0 0,.bool false] 161)).setCell ⟨b,2,none⟩ (.int .i64 ((r.at_:Int)+1))).alloc (.cells #[.slice none 0 0,.bool false] 161))∧Cw w w3 b s dv r (r.at_+1) [] false∧w.heap.size+2<=w3.heap.size∧w3.heap[w.heap.size+1]? =some (.cells #[.slice none 0 0,.bool false] 161):=by
 have hlb:=h.lt;have s1:(w.alloc (.cells #[.slice none 0 0,.bool false] 161)).heap.size=w.heap.size+1:=by simp
 have b1:=gG w (.cells #[.slice none 0 0,.bool false] 161);have h1:RxAt (w.alloc (.cells #[.slice none 0 0,.bool false] 161)) b s dv r:=RxAt.of_block h (lG _ _ _ hlb);have h2:=h1.setAt (r.at_+1);rw[show ((r.at_+1:Nat):Int)=(r.at_:Int)+1 by omega] at h2;have k1:Keep w.heap.size b w (w.alloc (.cells #[.slice none 0 0,.bool false] 161)):=kZ _ _ lQ;generalize (w.alloc (.cells #[.slice none 0 0,.bool false] 161))=w1 at *;have b2:(w1.setCell ⟨b,2,none⟩ (.int .i64 ((r.at_:Int)+1))).heap[w.heap.size]? =some (.cells #[.slice none 0 0,.bool false] 161):=(lJ _ _ _ _ (by show w.heap.size≠b;omega)).trans b1;have s2:(w1.setCell ⟨b,2,none⟩ (.int .i64 ((r.at_:Int)+1))).heap.size=w.heap.size+1:=by rw[zC];exact s1
 have k2:Keep w.heap.size b w (w1.setCell ⟨b,2,none⟩ (.int .i64 ((r.at_:Int)+1))):=k1.trans (Keep.set _ _ _);generalize (w1.setCell ⟨b,2,none⟩ (.int .i64 ((r.at_:Int)+1)))=w2 at *;have b3:=gG w2 (.cells #[.slice none 0 0,.bool false] 161);rw[s2] at b3;refine⟨_,rfl,⟨⟨.slice none 0 0,b3,ownsRow_nil _ _ _ _,by omega,by simp;omega⟩,(lG _ _ _ (by omega)).trans b2,RxAt.of_block h2 (lG _ _ _ (by omega)),k2.trans (kZ _ _ (by omega))⟩,by simp;omega,b3⟩
theorem zEm (w:World)(b:Nat)(s:ByteArray)(dv:Value)(r:Rx)(h:RxAt w b s dv r)(hs:s.size<=1048576)(ha:r.at_<s.size):
  Calls prog 208 #[.pointer (some ⟨b,0,none⟩)] w (zAm w b s dv r (zB5 s r.at_)):=by
 have hlb:=h.lt;obtain⟨i0,hi0,hz0,hz1,hz2⟩:=info_parts zDS;obtain⟨w3,hw3,hC3,hs3,hb3⟩:=zIp w b s dv r h;have HB3:=vl hb3;obtain⟨o,ho⟩:∃o,o=zI s (r.at_+1) ⟨#[94]⟩:=⟨_,rfl⟩
 obtain⟨p0,hp0⟩:∃p0,p0=(if zI s (r.at_+1) ⟨#[94]⟩ then r.at_+2 else r.at_+1):=⟨_,rfl⟩
 have hpl:p0<=s.size:=by
  rw[hp0];split
  ·rename_i e
   have:=qV e;have e4:(⟨#[94]⟩:ByteArray).size=1:=rfl;omega
  ·omega
 obtain⟨G,hG⟩:∃G,G=zAY s (s.size+1) p0 []:=⟨_,rfl⟩
 have HG:Hid (zB5 s r.at_=G.map fun g=>(⟨g.1,o⟩,g.2)):=by
  show _=_;unfold zB5;rw[hG,ho,hp0]
 have HTK:Hid (Calls prog 189 #[.pointer (some ⟨b,0,none⟩),.string ⟨#[94]⟩] w3 fun e w'=>e=.returned (.bool o)∧RxAt w' b s dv {r with at_:=p0}∧∀H,Keep H b w3 w'):=by
  have:=jF w3 b s dv {r with at_:=r.at_+1} hC3.rx hs (by show r.at_+1<=_;omega) ⟨#[94]⟩ (by decide);rw[zGz] at this;rw[hp0,ho];exact this
 have HG0:=vl hG;have HC3:=vl hC3;obtain⟨-,-,c2,-,-,cf⟩:=h.cells;have cf2:=cf 2;rw[HG.out];clear hp0 ho hG cf HG h hC3 hb3;have HLB:=vl hlb;have c2b:(w.alloc (.cells #[.slice none 0 0,.bool false] 161)).cell? ⟨b,2,none⟩=some (.int .i64 (r.at_:Int)):=(cell?_alloc_past _ _ _ hlb).trans c2;have cf2b:(w.alloc (.cells #[.slice none 0 0,.bool false] 161)).frozen? ⟨b,2,none⟩=false:=(frozen?_alloc_past _ _ _ hlb).trans cf2;clear hlb c2 cf2;go_in;apply wp_cut;intro K0 J;go_wp2;apply J.out;clear J;apply wp_cut;intro K0 J;go_wp2;apply J.out;clear J;apply wp_cut;intro K0 J;go_wp2;apply J.out;clear J;rw[<-hw3];clear hw3;apply wp_cut;intro K0 J;go_wp2_with (first|(go_at_call 189;refine HTK.out.mono ?_;rintro e w4 ⟨rfl,hR4,hk4⟩;have hB4:w4.heap[w.heap.size+1]? =some (.cells #[.slice none 0 0,.bool false] 161):=((hk4 w3.heap.size).block _ (by omega) (by have:=HLB.out;omega)).trans HB3.out;have x4:w4.cell? ⟨w.heap.size+1,1,none⟩=some (.bool false):=(by unfold cell?;rw[hB4];rfl);have fz1:w4.frozen? ⟨w.heap.size+1,1,none⟩=false:=(by unfold frozen?;rw[hB4];rfl);have HB4:=vl hB4;clear hB4))
 apply J.out;clear J;obtain⟨w5,hw5,H5⟩:∃w5,w5=w4.setCell ⟨w.heap.size+1,1,none⟩ (.bool o)∧Hid (Cw w w5 b s dv r p0 [] o):=by
  have hb:=HLB.out;have hk:=hk4 w3.heap.size;have b4:=HB4.out;refine⟨_,rfl,⟨⟨.slice none 0 0,⟨by simp[setCell,lU,b4],ownsRow_nil _ _ _ _,by omega,by rw[zC];have:=hk.size;omega⟩⟩,(lJ _ _ _ _ (by show w.heap.size≠w.heap.size+1;omega)).trans ((hk.block _ (by omega) (by omega)).trans HC3.out.box),RxAt.of_block hR4 (lJ _ _ _ _ (by show b≠w.heap.size+1;omega)),HC3.out.keep.trans ((hk4 _).trans ⟨rfl,rfl,by rw[zC];omega,fun k h1 _=>lJ _ _ _ _ (by show k≠w.heap.size+1;omega)⟩)⟩⟩
 rw[<-hw5];clear hw5 hR4 hk4 fz1 x4 HC3 HTK hs3 c2b cf2b HB3 HB4;refine wp_block ?_;go_loopg [6] (s.size+1) (fun q v wr=>∃f pos L,q=f∧pos<=s.size∧s.size+1-pos<=f∧zAY s f pos L=G∧Cw w wr b s dv r pos L o∧L.length<=pos)
 case atStart=>exact⟨s.size+1,p0,[],rfl,hpl,by omega,HG0.out.symm,H5.out,lX⟩
 case round=>
  obtain⟨f,pos,L,hgk,hpos,hf,hGo,hC,hL⟩:=hrel;cases f with
  |zero=>omega
  |succ f=>
  obtain⟨m1,m2,m3,m4,m5,m6⟩:=zJM s pos;have HM:=vl <| zGX wr b s dv {r with at_:=pos} hC.rx hs (by show pos<=_;omega) (by show(xE s pos).at_<=_;have:=(zER s pos).1;omega);have hGo2:(if (yE s pos).ok then(if zI s (yE s pos).at_ ⟨#[93]⟩ then some (L++[((yE s pos).low,(yE s pos).high)],(yE s pos).at_+1) else zAY s f (yE s pos).at_ (L++[((yE s pos).low,(yE s pos).high)])) else none)=G:=hGo;clear hGo;obtain⟨sv,hRw⟩:=hC.set;obtain⟨asv,csv,hsv⟩:=zE hRw.own;subst hsv;have HC:Hid (Cw w wr b s dv r pos L o∧Rw wr (w.heap.size+2) (w.heap.size+1) (.slice asv L.length csv) L o∧gk=f+1):=⟨hC,hRw,hgk⟩
  clear hC hRw hgk;generalize yE s pos=m at *;obtain⟨lo,hi,ok,at1⟩:=m;have m1b:at1<=pos+30:=m1;have M2:=vl m2;have HGo:=vl hGo2;have HM2:=vl HM.out;clear m1 m2 m3 m4 m5 m6 hGo2 HM;have hwr:w.heap.size+2<=wr.heap.size:=HC.out.2.1.lt;refine wp_block ?_;apply wp_cut;intro K1 HK1;go_wp2_with (first|(go_at_call 215;refine HM2.out.mono ?_;rintro e wm ⟨rfl,hRm,hkm⟩))
  apply HK1.out;clear HK1 HM2;obtain⟨wa,hwa,hRa,HBa,HKa,hsa,HXa,hxa⟩:∃wa,wa=wm.alloc (.cells #[.int .i64 lo,.int .i64 hi] 255)∧Rw wa (w.heap.size+2) (w.heap.size+1) (.slice asv L.length csv) L o∧Hid (wa.heap[wm.heap.size]? =some (.cells #[.int .i64 lo,.int .i64 hi] 255))∧Hid (Keep wr.heap.size b wr wa)∧wm.heap.size+1<=wa.heap.size∧RxAt wa b s dv {r with at_:=at1}∧wr.heap.size<=wm.heap.size:=by
   have hb:=HLB.out;have hz:=hkm.size;have hrm:Rw wm (w.heap.size+2) (w.heap.size+1) (.slice asv L.length csv) L o:=HC.out.2.1.keep hkm (.inl (by omega)) (by omega);refine⟨_,rfl,hrm.keep (kZ (b:=wm.heap.size) _ _ lQ) (.inr rfl) (by omega),gG _ _,hkm.trans (kZ _ _ hz),by simp,RxAt.of_block hRm (lG _ _ _ (by omega)),hz⟩
  rw[<-hwa];clear hwa hRm hkm;have hb:=HLB.out;have hBx:wa.heap[w.heap.size]? =some (.cells #[.slice none 0 0,.bool false] 161):=(HKa.out.block _ (by omega) (by omega)).trans HC.out.1.box;have HBx:Hid (wa.heap[w.heap.size]? =some (.cells #[.slice none 0 0,.bool false] 161)∧Keep w.heap.size b w wa):=⟨hBx,HC.out.1.keep.trans ⟨HKa.out.os,HKa.out.output,HKa.out.size,fun k h1 h2=>HKa.out.block k (by omega) h2⟩⟩
  clear hBx hb;cases ok with
  |false=>
   have HGn:=vl HGo.out.symm;obtain⟨w7,hw7,z0,z1,HZ⟩:=vE w wa b s dv {r with at_:=at1} _ _ (.slice none 0 0) false HLB.out HBx.out.1 HXa HBx.out.2;have q0:wa.cell? ⟨w.heap.size,0,none⟩=some (.slice none 0 0):=by unfold cell?;rw[HBx.out.1];rfl
   have q1:wa.cell? ⟨w.heap.size,1,none⟩=some (.bool false):=by unfold cell?;rw[HBx.out.1];rfl
   have g0:wa.frozen? ⟨w.heap.size,0,none⟩=false:=by unfold frozen?;rw[HBx.out.1];rfl
   have g1:wa.frozen? ⟨w.heap.size,1,none⟩=false:=by unfold frozen?;rw[HBx.out.1];rfl
   rw[HGn.out];clear HXa hRa hsa hxa hwr HGo HGn;go_wp2;rw[<-hw7];refine bodyPost_ret (v:=.tuple #[.agg #[.slice none 0 0,.bool false],.bool false]) (by simp[results,results208,go_sem,z0,z1]) rfl ?_;exact⟨HZ.out.2.1,none,0,0,false,at1,rfl,HZ.out.1⟩
  |true=>
   have M3:=M2.out rfl;have HGo2:=vl HGo.out;clear HGo M2;apply wp_cut;intro K1 HK1;go_wp2;apply HK1.out;clear HK1;obtain⟨x0,-,xf⟩:=hRa.cells;have xf0:=xf 0;have OW:wa.ownsRow (w.heap.size+2) 255 2 (.slice asv L.length csv) L.length (yU L):=hRa.own;have hlt1:w.heap.size+1<wa.heap.size:=by omega
   have HNP:=vl <| zL hRa.own hRa.blk (by decide);have c0:wa.cell? ⟨wm.heap.size,0,none⟩=some (.int .i64 lo):=by unfold cell?;rw[HBa.out];rfl
   have c1:wa.cell? ⟨wm.heap.size,1,none⟩=some (.int .i64 hi):=by unfold cell?;rw[HBa.out];rfl
   have HRa:=vl hRa;have HXA:=vl HXa;clear xf hRa HXa;apply wp_cut;intro K1 HK1;go_wp2_with (first|(at_builtin;refine wpList_append_lies _ rfl _ _ 159 rfl (w.heap.size+2) 255 i0 (.agg #[.int .i64 0,.int .i64 0]) 2 16 underlying159 hi0 hz0 hz1 hz2 rfl (by decide) _ _ _ rfl (OW.alloc _) ⟨wa.heap.size,0,none⟩ 1 1 [.int .i64 lo,.int .i64 hi] rfl rfl (news_of_block (cs:=#[.int .i64 lo,.int .i64 hi]) (t:=255) (fr:=(0,0)) (gG wa _)) (by simp[Value.oneCell']) (by decide) (by unfold maxLen;omega) (by omega) (by simp;omega) _ rfl ?_;intro gg cap w2 hown hgrow hat hlt;have hPB:=hgrow.block (w.heap.size+1) (by simp;omega) HNP.out;have x0b:w2.cell? ⟨w.heap.size+1,0,none⟩=some (.slice asv L.length csv):=(cell?_of_block hPB).trans ((cell?_alloc_past _ _ _ hlt1).trans x0);have xf0b:w2.frozen? ⟨w.heap.size+1,0,none⟩=false:=(frozen?_of_block hPB).trans ((frozen?_alloc_past _ _ _ hlt1).trans xf0)))
   apply HK1.out;clear HK1;obtain⟨w6,hw6,HR6⟩:∃w6,w6=w2.setCell ⟨w.heap.size+1,0,none⟩ (.slice (some ⟨gg,0,none⟩) (L.length+1) cap)∧Hid (Rw w6 (w.heap.size+2) (w.heap.size+1) (.slice (some ⟨gg,0,none⟩) (L.length+1) cap) (L++[(lo,hi)]) o∧KeepO (w.heap.size+1) (.slice asv L.length csv) (.slice (some ⟨gg,0,none⟩) (L.length+1) cap) wa w6):=⟨_,rfl,HRa.out.app rfl hown hgrow (by rcases hat with ha|ha;exact .inl ha;right;rw[ha];simp)⟩
   rw[<-hw6];clear hw6 hown hgrow hat hlt hPB x0b xf0b OW HNP hlt1 c0 c1 x0 xf0;have HK6:=vl <| HR6.out.2.keep HRa.out.own HRa.out.lt;have HX6:Hid (RxAt w6 b s dv {r with at_:=at1}∧w6.heap[w.heap.size]? =some (.cells #[.slice none 0 0,.bool false] 161)∧Keep w.heap.size b w w6∧w.heap.size+2<=w6.heap.size):=by
    have hb:=HLB.out;refine⟨RxAt.of_block HXA.out (HK6.out.block b (by omega) (by omega)),(HK6.out.block _ (by omega) (by omega)).trans HBx.out.1,HBx.out.2.trans ⟨HK6.out.os,HK6.out.output,HK6.out.size,fun k h1 _=>HK6.out.block k (by omega) (by omega)⟩,HR6.out.1.lt⟩
   clear HXA HBx HKa HBa hsa hxa hwr;cases ht:zI s at1 ⟨#[93]⟩ with
   |true=>
    rw[ht] at HGo2;have HG9:=vl HGo2.out.symm;have HT9:Hid (Calls prog 189 #[.pointer (some ⟨b,0,none⟩),.string ⟨#[93]⟩] w6 fun e w'=>e=.returned (.bool true)∧RxAt w' b s dv {r with at_:=at1+1}∧∀H,Keep H b w6 w'):=by
     have:=jF w6 b s dv {r with at_:=at1} HX6.out.1 hs (by show at1<=_;omega) ⟨#[93]⟩ (by decide);rw[zGz] at this;have e1:zI s ({r with at_:=at1}:Rx).at_ ⟨#[93]⟩=true:=ht;rw[e1] at this;exact this
    rw[HG9.out];clear ht HGo2 HG9;have hp6:=HX6.out.2.2.2;have HST:Hid (∀w8,(∀H,Keep H b w6 w8)->RxAt w8 b s dv {r with at_:=at1+1}->w8.cell? ⟨w.heap.size+1,0,none⟩=some (.slice (some ⟨gg,0,none⟩) (L.length+1) cap)∧w8.cell? ⟨w.heap.size+1,1,none⟩=some (.bool o)∧w8.cell? ⟨w.heap.size,0,none⟩=some (.slice none 0 0)∧w8.cell? ⟨w.heap.size,1,none⟩=some (.bool false)∧w8.frozen? ⟨w.heap.size,0,none⟩=false∧w8.frozen? ⟨w.heap.size,1,none⟩=false∧∃w7,w7=(w8.setCell ⟨w.heap.size,0,none⟩ (.slice (some ⟨gg,0,none⟩) (L.length+1) cap)).setCell ⟨w.heap.size,1,none⟩ (.bool o)∧w7.cell? ⟨w.heap.size,0,none⟩=some (.slice (some ⟨gg,0,none⟩) (L.length+1) cap)∧w7.cell? ⟨w.heap.size,1,none⟩=some (.bool o)∧Hid (RxAt w7 b s dv {r with at_:=at1+1}∧Keep w.heap.size b w w7∧RangesIn (fun i=>w.heap.size<=i) w7 (.slice (some ⟨gg,0,none⟩) (L.length+1) cap) (L++[(lo,hi)]))):=fun w8 hk8 hR8=>by
     have hb:=HLB.out;have hB8:w8.heap[w.heap.size]? =some (.cells #[.slice none 0 0,.bool false] 161):=((hk8 (w.heap.size+1)).block _ (by omega) (by omega)).trans HX6.out.2.1;have hR9:Rw w8 (w.heap.size+2) (w.heap.size+1) (.slice (some ⟨gg,0,none⟩) (L.length+1) cap) (L++[(lo,hi)]) o:=HR6.out.1.keep (hk8 _) (.inl (by omega)) (by omega);obtain⟨d0,d1,-⟩:=hR9.cells;obtain⟨w7,hw7,z0,z1,HZ⟩:=vE w w8 b s dv {r with at_:=at1+1} _ _ (.slice (some ⟨gg,0,none⟩) (L.length+1) cap) o hb hB8 hR8 (HX6.out.2.2.1.trans (hk8 _));refine⟨d0,d1,?_,?_,?_,?_,w7,hw7,z0,z1,HZ.out.1,HZ.out.2.1,HZ.out.2.2 _ (hR9.in.mono fun i _ hi=>by omega)⟩
     all_goals first|(unfold cell?;rw[hB8];rfl)|(unfold frozen?;rw[hB8];rfl)
    clear hp6 HR6 HK6;go_wp2_with (first|(go_at_call 189;refine HT9.out.mono ?_;rintro e w8 ⟨rfl,hR8,hk8⟩;obtain⟨d0,d1,q0,q1,g0,g1,w7,hw7,z0,z1,HZ⟩:=HST.out w8 hk8 hR8))
    rw[<-hw7];refine bodyPost_ret (v:=.tuple #[.agg #[.slice (some ⟨gg,0,none⟩) (L.length+1) cap,.bool o],.bool true]) (by simp[results,results208,go_sem,z0,z1]) rfl ?_;exact⟨HZ.out.2.1,_,rfl,HZ.out.2.2,HZ.out.1⟩
   |false=>
    rw[ht] at HGo2;have HG9:=vl HGo2.out;have HT9:Hid (Calls prog 189 #[.pointer (some ⟨b,0,none⟩),.string ⟨#[93]⟩] w6 fun e w'=>e=.returned (.bool false)∧RxAt w' b s dv {r with at_:=at1}∧∀H,Keep H b w6 w'):=by
     have:=jF w6 b s dv {r with at_:=at1} HX6.out.1 hs (by show at1<=_;omega) ⟨#[93]⟩ (by decide);rw[zGz] at this;have e1:zI s ({r with at_:=at1}:Rx).at_ ⟨#[93]⟩=false:=ht;rw[e1] at this;exact this
    clear ht HGo2;go_wp2_with (first|(go_at_call 189;refine HT9.out.mono ?_;rintro e w8 ⟨rfl,hR8,hk8⟩))
    have hb:=HLB.out;have hp6:=HX6.out.2.2.2;go_roundg f
    case measure=>rw[HC.out.2.2];omega
    case rel=>exact⟨f,at1,L++[(lo,hi)],rfl,M3.2,by omega,HG9.out,⟨⟨_,HR6.out.1.keep (hk8 _) (.inl (by omega)) (by omega)⟩,((hk8 (w.heap.size+1)).block _ (by omega) (by omega)).trans HX6.out.2.1,hR8,HX6.out.2.2.1.trans (hk8 _)⟩,by simp;omega⟩
section
theorem TreeAt.deeper {w:World}:∀d b t,TreeAt w d b t->TreeAt w (d+1) b t
 |0,_,_,h=>False.elim h
 |d+1,b,t,h=>by
  obtain⟨hl,rv,pv,h1,h2,ao,cap,hv,h3,h4,h5⟩:=h;refine⟨hl,rv,pv,h1,h2,ao,cap,hv,h3,h4,fun i hi=>?_⟩;obtain⟨g,o,p,ha,hg,hc,ht⟩:=h5 i hi;exact⟨g,o,p,ha,hg,hc,TreeAt.deeper d p _ ht⟩
theorem TreeAt.deep {w:World}{d e b:Nat}{t:Tr}(h:TreeAt w d b t)(he:d<=e):TreeAt w e b t:=by
 induction he with
 |refl=>exact h
 |step _ ih=>exact TreeAt.deeper _ _ _ ih
def TreeIn (X:Nat->Prop)(w:World)(d b:Nat)(t:Tr):Prop:=∀w2,Agree X w w2->TreeAt w2 d b t
section
variable {X Y:Nat->Prop} {w w2:World} {d e b:Nat} {t:Tr}
theorem TreeIn.at (h:TreeIn X w d b t):TreeAt w d b t:=h w (Agree.refl X w)
theorem TreeIn.go (h:TreeIn X w d b t)(a:Agree X w w2):TreeIn X w2 d b t:=fun w3 h3=>h w3 (a.trans h3)
theorem TreeIn.mono (h:TreeIn X w d b t)(hx:∀i,i<w.heap.size->X i->Y i):TreeIn Y w d b t:=fun w3 h3=>h w3 (h3.mono hx)
theorem TreeIn.deep (h:TreeIn X w d b t)(he:d<=e):TreeIn X w e b t:=fun w3 h3=>(h w3 h3).deep he
theorem TreeIn.step (h:TreeIn X w d b t)(a:Agree X w w2)(hx:∀i,i<w.heap.size->X i->Y i):TreeIn Y w2 d b t:=fun w3 h3=>h w3 ⟨h3.os.trans a.os,h3.output.trans a.output,lY a.size h3.size,fun i hi hxi=>(h3.block i (lZ hi a.size) (hx i hi hxi)).trans (a.block i hi hxi)⟩
theorem zJL {rv:Value}{ao:Option Addr}{cap:Nat}(hb:w.heap[b]? =some (.cells #[.int .i64 (t.kind:Int),rv,.bool t.set.others,.slice ao t.parts.length cap,.int .i64 (t.least:Int),.int .i64 (t.most:Int),.bool t.endless,.int .i64 (t.chars:Int)] 165))(hx:X b)(hr:RangesIn X w rv t.set.ranges)
  (h3:t.parts.length<=cap∧t.parts.length<=1000000000000∧t.least<=1000∧t.most<=1000) (h4:cap<=maxLen) (hp:∀i,i<t.parts.length->∃g o p,ao=some ⟨g,o,none⟩∧In w g∧X g∧w.cell? ⟨g,o+i,none⟩=some (.pointer (some ⟨p,0,none⟩))∧TreeIn X w d p (t.parts.getD i Tr.none)):TreeIn X w (d+1) b t:=fun w2 a=>by
 have hl:=(kQ.1 hb).1;refine⟨lZ hl a.size,rv,_,(a.block b hl hx).trans hb,hr w2 a,ao,cap,rfl,h3,h4,fun i hi=>?_⟩;obtain⟨g,o,p,ha,hg,hxg,hc,ht⟩:=hp i hi;exact⟨g,o,p,ha,lZ hg a.size,(cell?_of_block (a.block g hg hxg)).trans hc,ht w2 a⟩
theorem zG0 {rv:Value}{t:Tr}(hb:w.heap[b]? =some (.cells #[.int .i64 (t.kind:Int),rv,.bool t.set.others,.slice none 0 0,.int .i64 (t.least:Int),.int .i64 (t.most:Int),.bool t.endless,.int .i64 (t.chars:Int)] 165))(hx:X b)(hr:RangesIn X w rv t.set.ranges)(h0:t.parts=[])(h3:t.least<=1000∧t.most<=1000):TreeIn X w (d+1) b t:=by
 have e:t.parts.length=0:=by rw[h0];rfl
 refine zJL (ao:=none) (cap:=0) (by rw[e];exact hb) hx hr ⟨by omega,by omega,h3.1,h3.2⟩ (by unfold maxLen;omega) fun i hi=>by omega
theorem zIh (hb:w.heap[b]? =some (.cells #[.int .i64 0,.slice none 0 0,.bool false,.slice none 0 0,.int .i64 0,.int .i64 0,.bool false,.int .i64 0] 165))(hx:X b):TreeIn X w (d+1) b Tr.none:=zG0 (t:=Tr.none) hb hx (zI4 X w) rfl ⟨by decide,by decide⟩
end
def zGU (c:Cs):Tr:=⟨1,c,[],0,0,false,1⟩
def Tr.add (t u:Tr):Tr:={t with parts:=t.parts++[u],chars:=xJ (t.chars+u.chars)}
def Tr.plain (t:Tr):Tr:=if t.chars=0 then Tr.none else t
def xT (ps:List Nat):List Value:=ps.map fun p=>.pointer (some ⟨p,0,none⟩)
structure Tw (w:World)(Y:Nat->Prop)(H p d:Nat)(sv:Value)(ps:List Nat)(t:Tr):Prop where
 blk:w.heap[p]? =some (.cells #[.int .i64 (t.kind:Int),.slice none 0 0,.bool false,sv,.int .i64 (t.least:Int),.int .i64 (t.most:Int),.bool t.endless,.int .i64 (t.chars:Int)] 165)
 set:t.set=⟨[],false⟩
 own:w.ownsRow H 158 1 sv t.parts.length (xT ps)
 len:ps.length=t.parts.length
 parts:∀i,i<t.parts.length->TreeIn (fun j=>Y j∧j≠p∧some j≠sv.ownBlock) w d (ps.getD i 0) (t.parts.getD i Tr.none)
 pH:p<H
 lt:H<=w.heap.size
 small:t.parts.length<=10000000∧t.least<=1000∧t.most<=1000∧t.chars<=25
section
variable {w w2:World} {Y:Nat->Prop} {H p d e b:Nat} {sv:Value} {ps:List Nat} {t u:Tr}
theorem Tw.cells (h:Tw w Y H p d sv ps t):w.cell? ⟨p,3,none⟩=some sv∧w.cell? ⟨p,7,none⟩=some (.int .i64 (t.chars:Int))∧∀i,w.frozen? ⟨p,i,none⟩=false:=by
 refine⟨?_,?_,fun i=>?_⟩
 all_goals first|(unfold cell?;rw[h.blk];rfl)|(unfold frozen?;rw[h.blk];simp)
theorem Tw.deep (h:Tw w Y H p d sv ps t)(he:d<=e):Tw w Y H p e sv ps t:=⟨h.blk,h.set,h.own,h.len,fun i hi=>(h.parts i hi).deep he,h.pH,h.lt,h.small⟩
theorem Tw.keep (h:Tw w Y H p d sv ps t)(hk:Keep w.heap.size b w w2)(hb:b<H∨b=w.heap.size)(hbp:b≠p)(hY:b<w.heap.size->¬Y b):Tw w2 Y H p d sv ps t:=by
 have h1:=h.pH;have h2:=h.lt;refine⟨(hk.block p (by omega) (Ne.symm hbp)).trans h.blk,h.set,zD h.own fun g hg hgl _=>hk.block g hgl (by omega),h.len,fun i hi=>(h.parts i hi).go (hk.agree fun j hj hx=>⟨hj,fun e=>hY (by omega) (e ▸ hx.1)⟩),h1,lY h2 hk.size,h.small⟩
theorem Tw.in (h:Tw w Y H p d sv ps t)(hp:Y p)(hg:∀j,H<=j->Y j):TreeIn Y w (d+1) p t:=by
 obtain⟨ao,cap,hsv⟩:=zE h.own;subst hsv;have hbl:=h.blk;have hs1:t.set.ranges=[]:=by rw[h.set]
 have hs2:t.set.others=false:=by rw[h.set]
 obtain⟨k1,k2,k3,-⟩:=h.small;rcases h.own.2 with⟨hv,h0⟩|⟨g,cap2,cur,hv,hH,hh,h1,h2,h3,h4⟩
 ·injection hv with e1 e2 e3
  subst e1 e3;have e5:=List.length_eq_zero_iff.1 h0;refine zG0 (rv:=.slice none 0 0) (by rw[hs2,<-h0];rw[h0] at hbl ⊢;exact hbl) hp (by rw[hs1];exact zI4 Y w) e5 ⟨k2,k3⟩
 ·injection hv with e1 e2 e3
  subst e1 e3;refine zJL (rv:=.slice none 0 0) (by rw[hs2];exact hbl) hp (by rw[hs1];exact zI4 Y w) ⟨h1,by omega,k2,k3⟩ h2 fun i hi=>?_;have hg2:=h.own.lt g rfl;refine⟨g,0,ps.getD i 0,rfl,hg2.2,hg g hH,?_,(h.parts i hi).mono fun j _ hx=>hx.1⟩;have hi2:i<ps.length:=by rw[h.len];exact hi
  have hc:=h.own.cells (g:=g) rfl i (.pointer (some ⟨ps.getD i 0,0,none⟩)) (by unfold xT;rw[gJ,lV hi2,lW,lV hi2];rfl);rw[Addr.add_lit] at hc;exact hc
theorem Tw.setChars (h:Tw w Y H p d sv ps t)(n:Nat)(hn:n<=25):Tw (w.setCell ⟨p,7,none⟩ (.int .i64 (n:Int))) Y H p d sv ps {t with chars:=n}:=by
 have hpH:=h.pH;refine⟨?_,h.set,zX h.own hpH,h.len,fun i hi=>(h.parts i hi).go ⟨rfl,rfl,by rw[zC];omega,fun j hj hx=>lJ _ _ _ _ hx.2.1⟩,hpH,by rw[zC];exact h.lt,⟨h.small.1,h.small.2.1,h.small.2.2.1,hn⟩⟩;simp[setCell,lU,h.blk]
theorem Tw.app {ob:Obj}{g cap m q:Nat}(h:Tw w Y H p d sv ps t)(hm:m=t.parts.length)(hml:m<10000000)(hu:TreeIn (fun j=>Y j∧j≠p∧some j≠sv.ownBlock) w d q u)(hown:w2.ownsRow H 158 1 (.slice (some ⟨g,0,none⟩) (m+1) cap) (m+1) (xT ps++[.pointer (some ⟨q,0,none⟩)]))(hg:(w.alloc ob).grownBy w2 sv.ownBlock)(hat:sv.ownBlock=some g∨w.heap.size<=g):
  Tw (w2.setCell ⟨p,3,none⟩ (.slice (some ⟨g,0,none⟩) (m+1) cap)) Y H p d (.slice (some ⟨g,0,none⟩) (m+1) cap) (ps++[q]) {t with parts:=t.parts++[u]}∧KeepO p sv (.slice (some ⟨g,0,none⟩) (m+1) cap) w (w2.setCell ⟨p,3,none⟩ (.slice (some ⟨g,0,none⟩) (m+1) cap)):=by
 subst hm;have hpH:=h.pH;have hlt:=h.lt;have hbl:∀j,j<H->w2.heap[j]? =w.heap[j]? :=fun j hj=>(hg.block j (by simp;omega) fun e=>by have:=(h.own.lt j e.symm).1;omega).trans (lG _ _ _ (by omega));have hb:=(hbl p hpH).trans h.blk;have hsz:w.heap.size<=w2.heap.size:=lY (by simp) hg.size;have hKO:KeepO p sv (.slice (some ⟨g,0,none⟩) (t.parts.length+1) cap) w (w2.setCell ⟨p,3,none⟩ (.slice (some ⟨g,0,none⟩) (t.parts.length+1) cap)):=⟨hg.os,hg.output,by rw[zC];exact hsz,fun k h1 h2 h3=>⟨(lJ _ _ _ _ h2).trans ((hg.block k (by simp;omega) h3).trans (lG _ _ _ h1)),fun e=>by
  have e2:k=g:=by simpa[Value.ownBlock] using e
  rcases hat with ha|ha
  ·exact h3 (by rw[ha,e2])
  ·omega⟩⟩
 have hst:∀q2 t2,TreeIn (fun j=>Y j∧j≠p∧some j≠sv.ownBlock) w d q2 t2->TreeIn (fun j=>Y j∧j≠p∧some j≠(Value.slice (some ⟨g,0,none⟩) (t.parts.length+1) cap).ownBlock) (w2.setCell ⟨p,3,none⟩ (.slice (some ⟨g,0,none⟩) (t.parts.length+1) cap)) d q2 t2:=fun q2 t2 h2=>h2.step ⟨hKO.os,hKO.output,hKO.size,fun i hi hx=>(hKO.block i hi hx.2.1 hx.2.2).1⟩ fun i hi hx=>⟨hx.1,hx.2.1,(hKO.block i hi hx.2.1 hx.2.2).2⟩
 refine⟨⟨?_,h.set,?_,?_,fun i hi=>?_,hpH,by rw[zC];omega,?_⟩,hKO⟩
 ·simp[setCell,lU,hb]
 ·have e1:({t with parts:=t.parts++[u]}:Tr).parts.length=t.parts.length+1:=by simp
  have e2:xT (ps++[q])=xT ps++[.pointer (some ⟨q,0,none⟩)]:=by simp[xT]
  rw[e1,e2];exact zX hown hpH
 ·simp[h.len]
 ·have hi2:i<t.parts.length+1:=by simpa using hi
  show TreeIn _ _ d ((ps++[q]).getD i 0) ((t.parts++[u]).getD i Tr.none);by_cases hi3:i<t.parts.length
  ·have e1:(ps++[q]).getD i 0=ps.getD i 0:=by rw[lW,lW,kW (by rw[h.len];exact hi3)]
   have e2:(t.parts++[u]).getD i Tr.none=t.parts.getD i Tr.none:=by rw[lW,lW,kW hi3]
   rw[e1,e2];exact hst _ _ (h.parts i hi3)
  ·have e:i=t.parts.length:=by omega
   subst e;have e1:(ps++[q]).getD t.parts.length 0=q:=by rw[<-h.len];simp
   have e2:(t.parts++[u]).getD t.parts.length Tr.none=u:=by simp
   rw[e1,e2];exact hst _ _ hu
 ·obtain⟨a,b,c,dd⟩:=h.small
  refine⟨?_,b,c,dd⟩;show(t.parts++[u]).length<=10000000;simp;omega
end
end
section
theorem zBO (a:UInt8):(⟨#[a]⟩:ByteArray).size=1:=rfl
def jD (s:ByteArray)(p:Nat):Option (Cs×Nat):=
 if byt s p=91 then zB5 s p
 else if byt s p=92 then(if (zAM s (p+1)).ok then some (zH3 (zAM s (p+1)).num,(zAM s (p+1)).at_) else none)
 else if byt s p=46 then some (zNr,p+1)
 else if zAJ (byt s p) then some (zH3 (byt s p:Nat),p+1) else none
structure Tm where
 least:Nat
 most:Nat
 endless:Bool
def Tm.copies (o:Tm):Nat:=if o.endless then(if o.least=0 then 1 else o.least) else o.most
def zBf (s:ByteArray)(p:Nat):Option (Tm×Nat):=
 if xX (byt s (p+1)) then
  if zI s (p+2) ⟨#[125]⟩ then some (⟨byt s (p+1)-48,byt s (p+1)-48,false⟩,p+3)
  else if zI s (p+2) ⟨#[44]⟩ then
   if zI s (p+3) ⟨#[125]⟩ then some (⟨byt s (p+1)-48,0,true⟩,p+4)
   else if xX (byt s (p+3))&&decide (byt s (p+1)<=byt s (p+3)) then(if zI s (p+4) ⟨#[125]⟩ then some (⟨byt s (p+1)-48,byt s (p+3)-48,false⟩,p+5) else none)
   else none
  else none
 else none
def zDT (s:ByteArray)(p:Nat):Option (Tm×Nat):=if zI s p ⟨#[42]⟩ then some (⟨0,0,true⟩,p+1) else if zI s p ⟨#[43]⟩ then some (⟨1,0,true⟩,p+1) else if zI s p ⟨#[63]⟩ then some (⟨0,1,false⟩,p+1) else zBf s p
def braced (n:ByteArray):ByteArray:=⟨#[123]⟩++n++⟨#[125]⟩
def zCt (s:ByteArray)(p:Nat):List (ByteArray×Tr)->Option (Tr×Nat)
 |[]=>none
 |d::ds=>if zI s p (braced d.1) then some (d.2,p+(braced d.1).size) else zCt s p ds
abbrev Reads:=Nat->Bool->Option (Tr×Nat)
def brM (s:ByteArray)(k:Nat)(sub:Reads)(p:Nat)(both:Bool):Option (Tr×Nat):=
 if k=0 then none else if zI s p ⟨#[40,41]⟩ then some (Tr.none,p+2) else
 match sub (if zI s p ⟨#[40,105,58]⟩ then p+3 else p+1) (zI s p ⟨#[40,105,58]⟩||both) with
 |none=>none
 |some (t,q)=>if zI s q ⟨#[41]⟩ then some (t,q+1) else none
def zJZ (both:Bool)(c:Cs):Cs:=if both then⟨qB c.ranges,c.others⟩ else c
def zDs (s:ByteArray)(defs:List (ByteArray×Tr))(k:Nat)(sub:Reads)(p:Nat)(both:Bool):Option (Tr×Nat):=if byt s p=40 then brM s k sub p both else if byt s p=123 then zCt s p defs else(jD s p).map fun c=>(zGU (zJZ both c.1),c.2)
def zBy (t:Tr)(o:Tm):Tr:=Tr.plain ⟨4,⟨[],false⟩,[t],o.least,o.most,o.endless,xJ (t.chars*o.copies)⟩
def zBj (s:ByteArray):Nat->Nat->Tr->Option (Tr×Nat)
 |0,_,_=>none
 |f+1,p,t=>if zAU s p then(match zDT s p with
  |none=>none
  |some (o,q)=>zBj s f q (zBy t o)) else some (t,p)
def zDA (s:ByteArray)(defs:List (ByteArray×Tr))(k:Nat)(sub:Reads)(p:Nat)(both:Bool):Option (Tr×Nat):=
 match zDs s defs k sub p both with
 |none=>none
 |some (t,q)=>zBj s (s.size+1) q t
def zBB (s:ByteArray)(thing:Nat->Option (Tr×Nat)):Nat->Nat->Tr->Option (Tr×Nat)
 |0,_,_=>none
 |f+1,p,t=>match thing p with
  |none=>none
  |some (u,q)=>if zBI s q then some ((t.add u).plain,q) else zBB s thing f q (t.add u)
def zDc (kind:Nat):Tr:=⟨kind,⟨[],false⟩,[],0,0,false,0⟩
def zNG (s:ByteArray)(defs:List (ByteArray×Tr))(k:Nat)(sub:Reads)(p:Nat)(both:Bool):Option (Tr×Nat):=zBB s (fun q=>zDA s defs k sub q both) (s.size+1) p (zDc 2)
def zAk (s:ByteArray)(row:Nat->Option (Tr×Nat)):Nat->Nat->Tr->Option (Tr×Nat)
 |0,_,_=>none
 |f+1,p,t=>match row p with
  |none=>none
  |some (u,q)=>if zI s q ⟨#[124]⟩ then zAk s row f (q+1) (t.add u) else some ((t.add u).plain,q)
def zLV (s:ByteArray)(defs:List (ByteArray×Tr))(k:Nat)(sub:Reads)(p:Nat)(both:Bool):Option (Tr×Nat):=zAk s (fun q=>zNG s defs k sub q both) (s.size+1) p (zDc 3)
def zBv (s:ByteArray)(defs:List (ByteArray×Tr)):Nat->Reads
 |0=>zLV s defs 0 fun _ _=>none
 |k+1=>zLV s defs (k+1) (zBv s defs k)
def vH (s:ByteArray)(defs:List (ByteArray×Tr)):Option Tr:=
 match zBv s defs 8 0 false with
 |none=>none
 |some (t,q)=>if q=s.size then some t else none
theorem zDY (n:Nat):xJ n<=25:=by unfold xJ;split <;> omega
theorem zJv (a b:Nat):xJ (xJ a+xJ b)=xJ (a+b):=by
 unfold xJ;by_cases h1:24<a <;> by_cases h2:24<b <;> by_cases h3:24<a+b <;> simp only[h1,h2,h3,if_true,if_false] <;> first|omega|(split <;> omega)
theorem zJu (a k:Nat):xJ (xJ a*k)=xJ (a*k):=by
 rcases Nat.eq_zero_or_pos k with h|h
 ·subst h;rfl
 ·unfold xJ
  by_cases h1:24<a
  ·have h2:=Nat.mul_le_mul_left a h
   have h3:=Nat.mul_le_mul_left 25 h;rw[if_pos h1,if_pos (by omega),if_pos (by omega)]
  ·rw[if_neg h1]
theorem zIn (f g:Tr->Nat)(parts:List Tr)(h:∀u∈parts,f u=g u)(j:Nat)(hj:j<=parts.length):zW f parts j=zW g parts j:=by
 induction j with
 |zero=>rfl
 |succ j ih=>
  show zW f parts j+f (parts.getD j Tr.none)=zW g parts j+g (parts.getD j Tr.none);have hm:parts.getD j Tr.none∈parts:=by
   rw[lW,lV (by omega:j<parts.length)];exact List.getElem_mem _
  rw[ih (by omega),h _ hm]
theorem zK5 (f:Tr->Nat)(parts:List Tr)(u:Tr)(j:Nat)(hj:j<=parts.length):zW f (parts++[u]) j=zW f parts j:=by
 induction j with
 |zero=>rfl
 |succ j ih=>
  show zW f (parts++[u]) j+f ((parts++[u]).getD j Tr.none)=zW f parts j+f (parts.getD j Tr.none);rw[ih (by omega),lW,lW,kW (by omega)]
def zLf (c:Cs):Prop:=c.ranges.length<=10000000∧∀r∈c.ranges,-100<=r.1∧r.1<=20000000∧-100<=r.2∧r.2<=20000000
def TrOk:Nat->Tr->Prop
 |0,_=>False
 |d+1,t=>zLf t.set∧(∀u∈t.parts,TrOk d u)∧t.chars=xJ (yN (d+1) t)
theorem zGs:∀d t,TrOk d t->yN (d+1) t=yN d t
 |0,_,h=>False.elim h
 |d+1,t,h=>by
  have e:=zIn _ _ _ (fun u hu=>zGs d u (h.2.1 u hu)) _ lQ;show(if t.kind=1 then 1 else if t.kind=2∨t.kind=3 then zW (yN (d+1)) t.parts t.parts.length else if t.kind=4 then t.copies*zW (yN (d+1)) t.parts t.parts.length else 0)=(if t.kind=1 then 1 else if t.kind=2∨t.kind=3 then zW (yN d) t.parts t.parts.length else if t.kind=4 then t.copies*zW (yN d) t.parts t.parts.length else 0);rw[e]
theorem TrOk.deeper:∀d t,TrOk d t->TrOk (d+1) t
 |0,_,h=>False.elim h
 |d+1,t,h=>⟨h.1,fun u hu=>TrOk.deeper d u (h.2.1 u hu),by rw[zGs (d+1) t h];exact h.2.2⟩
theorem TrOk.deep {d e:Nat}{t:Tr}(h:TrOk d t)(he:d<=e):TrOk e t:=by
 induction he with
 |refl=>exact h
 |step _ ih=>exact TrOk.deeper _ _ ih
theorem TrOk.few {d:Nat}{t:Tr}(h:TrOk d t):t.chars<=25:=by
 cases d with
 |zero=>exact False.elim h
 |succ d=>rw[h.2.2];exact zDY _
theorem TrOk.chars {d:Nat}{t:Tr}(h:TrOk d t):t.chars=xJ (yN d t):=by
 cases d with
 |zero=>exact False.elim h
 |succ d=>exact h.2.2
theorem zE8 (o:Bool):zLf ⟨[],o⟩:=⟨by show 0<=_;omega,fun r hr=>by cases hr⟩
theorem zJK (d:Nat):TrOk (d+1) Tr.none:=⟨zE8 false,fun u hu=>(by cases hu),rfl⟩
theorem zNh (d:Nat)(c:Cs)(h:zLf c):TrOk (d+1) (zGU c):=⟨h,fun u hu=>(by cases hu),rfl⟩
theorem zE5 {d:Nat}{t:Tr}(h:TrOk d t):TrOk d t.plain:=by
 cases d with
 |zero=>exact False.elim h
 |succ d=>
  unfold Tr.plain;split
  ·exact zJK d
  ·exact h
theorem zIB {d:Nat}{t:Tr}(o:Tm)(h:TrOk d t):TrOk (d+1) (zBy t o):=by
 refine zE5 ⟨zE8 false,fun u hu=>?_,?_⟩
 ·rw[kY.1 hu];exact h
 ·show xJ (t.chars*o.copies)=xJ (o.copies*(0+yN d t))
  rw[h.chars,zJu,Nat.zero_add,Nat.mul_comm]
theorem zGW (d k:Nat)(hk:k=2∨k=3):TrOk (d+1) (zDc k):=by
 refine⟨zE8 false,fun u hu=>(by cases hu),?_⟩;rcases hk with e|e <;> subst e <;> rfl
theorem zHi {d:Nat}{t u:Tr}(h:TrOk (d+1) t)(hk:t.kind=2∨t.kind=3)(hu:TrOk d u):TrOk (d+1) (t.add u):=by
 refine⟨h.1,fun v hv=>?_,?_⟩
 ·rcases kU.1 hv with h1|h1
  ·exact h.2.1 v h1
  ·rw[kY.1 h1];exact hu
 ·have h1:t.kind≠1:=by omega
  have e1:yN (d+1) t=zW (yN d) t.parts t.parts.length:=by
   show(if t.kind=1 then _ else if t.kind=2∨t.kind=3 then _ else _)=_;rw[if_neg h1,if_pos hk]
  have e2:yN (d+1) (t.add u)=zW (yN d) (t.parts++[u]) (t.parts++[u]).length:=by
   show(if t.kind=1 then _ else if t.kind=2∨t.kind=3 then _ else _)=_;rw[if_neg h1,if_pos hk];rfl
  have e3:(t.parts++[u]).length=t.parts.length+1:=by simp
  have e4:(t.parts++[u]).getD t.parts.length Tr.none=u:=by simp
  show xJ (t.chars+u.chars)=xJ (yN (d+1) (t.add u));rw[e2,e3];show _=xJ (zW (yN d) (t.parts++[u]) t.parts.length+yN d ((t.parts++[u]).getD t.parts.length Tr.none));rw[e4,zK5 _ _ _ _ lQ,h.2.2,hu.chars,zJv,e1]
theorem zDv {t u:Tr}(hk:t.kind=2∨t.kind=3):(t.add u).kind=2∨(t.add u).kind=3:=hk
theorem zFy (s:ByteArray):∀f p l l' q,zAY s f p l=some (l',q)->(∀r∈l,-100<=r.1∧r.1<=20000000∧-100<=r.2∧r.2<=20000000)->p<q∧q<=s.size∧l'.length<=l.length+(q-p)∧∀r∈l',-100<=r.1∧r.1<=20000000∧-100<=r.2∧r.2<=20000000
 |0,_,_,_,_,h,_=>by cases h
 |f+1,p,l,l',q,h,hl=>by
  obtain⟨m1,m2,m3,m4,m5,m6⟩:=zJM s p;have hl2:∀r∈l++[((yE s p).low,(yE s p).high)],-100<=r.1∧r.1<=20000000∧-100<=r.2∧r.2<=20000000:=fun r hr=>by
   rcases kU.1 hr with h1|h1
   ·exact hl r h1
   ·rw[kY.1 h1]
    show -100<=(yE s p).low∧(yE s p).low<=20000000∧-100<=(yE s p).high∧(yE s p).high<=20000000;omega
  have h2:(if (yE s p).ok then(if zI s (yE s p).at_ ⟨#[93]⟩ then some (l++[((yE s p).low,(yE s p).high)],(yE s p).at_+1) else zAY s f (yE s p).at_ (l++[((yE s p).low,(yE s p).high)])) else none)=some (l',q):=h;by_cases hk:(yE s p).ok=true
  ·rw[if_pos hk] at h2
   have m7:=m2 hk;by_cases ht:zI s (yE s p).at_ ⟨#[93]⟩=true
   ·rw[if_pos ht] at h2
    have e:=hU h2;have e1:l++[((yE s p).low,(yE s p).high)]=l':=congrArg Prod.fst e;have e2:(yE s p).at_+1=q:=congrArg Prod.snd e;have h5:=qV ht;rw[zBO] at h5;refine⟨by omega,by omega,?_,by rw[<-e1];exact hl2⟩;rw[<-e1,kX];show l.length+1<=_;omega
   ·rw[if_neg ht] at h2
    obtain⟨a,b,c,dd⟩:=zFy s f _ _ l' q h2 hl2;refine⟨by omega,b,?_,dd⟩;rw[kX] at c;have e9:[((yE s p).low,(yE s p).high)].length=1:=rfl;omega
  ·rw[if_neg hk] at h2
   cases h2
theorem zLw (n:Int)(h:0<=n∧n<=16777216):zLf (zH3 n):=⟨by show 1<=_;omega,fun r hr=>by rw[kY.1 hr];show -100<=n∧n<=20000000∧-100<=n∧n<=20000000;omega⟩
def zMc (c:Cs):Prop:=c.ranges.length<=3000000∧∀r∈c.ranges,-100<=r.1∧r.1<=20000000∧-100<=r.2∧r.2<=20000000
theorem zC3 (s:ByteArray)(hs:s.size<=1048576)(p:Nat)(c:Cs)(q:Nat)(h:jD s p=some (c,q)):p<q∧q<=s.size∧zMc c:=by
 have one1:∀n:Int,0<=n∧n<=16777216->zMc (zH3 n):=fun n hn=>⟨by show 1<=_;omega,(zLw n hn).2⟩
 have hb:=zAl s p;unfold jD at h;split at h
 ·unfold zB5 at h
  cases hg:zAY s (s.size+1) (if zI s (p+1) ⟨#[94]⟩ then p+2 else p+1) [] with
  |none=>rw[hg] at h;cases h
  |some g=>
   obtain⟨l',q'⟩:=g;rw[hg] at h;have e:=hU h;have e1:(⟨l',zI s (p+1) ⟨#[94]⟩⟩:Cs)=c:=congrArg Prod.fst e;have e2:q'=q:=congrArg Prod.snd e;obtain⟨a,b,cc,dd⟩:=zFy s _ _ _ l' q' hg (fun r hr=>by cases hr);have e0:([]:List (Int×Int)).length=0:=rfl;have a2:p+1<=(if zI s (p+1) ⟨#[94]⟩ then p+2 else p+1):=by split <;> omega
   refine⟨by omega,by omega,?_⟩;rw[<-e1];exact⟨by show l'.length<=_;omega,dd⟩
 split at h
 ·obtain⟨a,b,cc,dd⟩:=zJX s (p+1)
  split at h
  ·rename_i hk
   have e:=hU h;have e1:zH3 (zAM s (p+1)).num=c:=congrArg Prod.fst e;have e2:(zAM s (p+1)).at_=q:=congrArg Prod.snd e;have:=b hk;exact⟨by omega,by omega,by rw[<-e1];exact one1 _ ⟨cc,dd⟩⟩
  ·cases h
 split at h
 ·rename_i e46
  have hin:p<s.size:=zB6 (by omega);have e:=hU h;have e1:zNr=c:=congrArg Prod.fst e;have e2:p+1=q:=congrArg Prod.snd e;refine⟨by omega,by omega,?_⟩;rw[<-e1];exact⟨by show 1<=_;omega,fun r hr=>by rw[kY.1 hr];decide⟩
 split at h
 ·rename_i hk
  have hin:=zB6 fun e=>by rw[e] at hk;exact absurd hk (by decide)
  have e:=hU h;have e1:zH3 (byt s p:Nat)=c:=congrArg Prod.fst e;have e2:p+1=q:=congrArg Prod.snd e;exact⟨by omega,by omega,by rw[<-e1];exact one1 _ ⟨by omega,by omega⟩⟩
 ·cases h
theorem zH6 (r:Int×Int)(first last far:Int)(hf:0<=first)(hl:last<=200)(hfa:-100<=far∧far<=100):∀x∈yT r first last far,-100<=x.1∧x.1<=20000000∧-100<=x.2∧x.2<=20000000:=fun x hx=>by
 unfold yT at hx;by_cases hle:(if first<r.1 then r.1 else first)<=(if r.2<last then r.2 else last)
 ·rw[if_pos hle] at hx
  rw[kY.1 hx];show -100<=(if first<r.1 then r.1 else first)+far∧(if first<r.1 then r.1 else first)+far<=20000000∧-100<=(if r.2<last then r.2 else last)+far∧(if r.2<last then r.2 else last)+far<=20000000;have h1:first<=(if first<r.1 then r.1 else first):=by split <;> omega
  have h2:(if r.2<last then r.2 else last)<=last:=by split <;> omega
  omega
 ·rw[if_neg hle] at hx
  cases hx
theorem zL1 (both:Bool)(c:Cs)(h:zMc c):zLf (zJZ both c):=by
 unfold zJZ;split
 ·have hb:=zGu c.ranges
  refine⟨?_,fun x hx=>?_⟩
  ·show(qB c.ranges).length<=10000000
   have:=h.1;omega
  ·have hx2:=hx
   unfold qB at hx2;obtain⟨r,hr,hxr⟩:=List.mem_flatMap.1 hx2;unfold zIs at hxr;rcases List.mem_cons.1 hxr with h1|h1
   ·rw[h1];exact h.2 r hr
   rcases kU.1 h1 with h2|h2
   ·exact zH6 r 65 90 32 (by decide) (by decide) ⟨by decide,by decide⟩ x h2
   ·exact zH6 r 97 122 (-32) (by decide) (by decide) ⟨by decide,by decide⟩ x h2
 ·exact⟨lY h.1 (by omega),h.2⟩
theorem zG4 (s:ByteArray)(p:Nat)(o:Tm)(q:Nat)(h:zDT s p=some (o,q)):p<q∧q<=s.size∧o.least<=300∧o.most<=300:=by
 have fin:∀(o':Tm) (q' i:Nat) (x:UInt8),zI s i ⟨#[x]⟩=true->some (o',q')=some (o,q)->q'=i+1->p<=i->o'.least<=300->o'.most<=300->p<q∧q<=s.size∧o.least<=300∧o.most<=300:=fun o' q' i x ht e hq hi h1 h2=>by
  have e:=hU e;have e1:o'=o:=congrArg Prod.fst e;have e2:q'=q:=congrArg Prod.snd e;have h5:=qV ht;rw[zBO] at h5;subst e1 e2;exact⟨by omega,by omega,h1,h2⟩
 have hb1:=zAl s (p+1);have hb3:=zAl s (p+3);unfold zDT at h;split at h
 ·rename_i ht;exact fin _ _ p _ ht h rfl (by omega) (by show 0<=300;omega) (by show 0<=300;omega)
 split at h
 ·rename_i ht;exact fin _ _ p _ ht h rfl (by omega) (by show 1<=300;omega) (by show 0<=300;omega)
 split at h
 ·rename_i ht;exact fin _ _ p _ ht h rfl (by omega) (by show 0<=300;omega) (by show 1<=300;omega)
 unfold zBf at h;split at h
 ·split at h
  ·rename_i ht;exact fin _ _ (p+2) _ ht h rfl (by omega) (by show byt s (p+1)-48<=300;omega) (by show byt s (p+1)-48<=300;omega)
  split at h
  ·split at h
   ·rename_i ht;exact fin _ _ (p+3) _ ht h rfl (by omega) (by show byt s (p+1)-48<=300;omega) (by show 0<=300;omega)
   split at h
   ·split at h
    ·rename_i ht;exact fin _ _ (p+4) _ ht h rfl (by omega) (by show byt s (p+1)-48<=300;omega) (by show byt s (p+3)-48<=300;omega)
    ·cases h
   ·cases h
  ·cases h
 ·cases h
theorem zEL (s:ByteArray)(D:Nat):∀f p t u q,zBj s f p t=some (u,q)->p<=s.size->TrOk (D+4*p) t->p<=q∧q<=s.size∧TrOk (D+4*q) u
 |0,_,_,_,_,h,_,_=>by cases h
 |f+1,p,t,u,q,h,hp,ht=>by
  have h2:(if zAU s p then(match zDT s p with|none=>none|some (o,q)=>zBj s f q (zBy t o)) else some (t,p))=some (u,q):=h;split at h2
  ·cases hh:zDT s p with
   |none=>rw[hh] at h2;cases h2
   |some g=>
    obtain⟨o,q1⟩:=g;rw[hh] at h2;obtain⟨a,b,-,-⟩:=zG4 s p o q1 hh;obtain⟨c,d,e⟩:=zEL s D f q1 (zBy t o) u q h2 b ((zIB o ht).deep (by omega));exact⟨by omega,d,e⟩
  ·have e:=hU h2
   have e1:t=u:=congrArg Prod.fst e;have e2:p=q:=congrArg Prod.snd e;subst e1 e2;exact⟨lQ,hp,ht⟩
def zCb (s:ByteArray)(D:Nat)(f:Nat->Option (Tr×Nat)):Prop:=∀p t q,f p=some (t,q)->p<q∧q<=s.size∧TrOk (D+4*q) t
theorem zHJ (s:ByteArray)(D:Nat)(thing:Nat->Option (Tr×Nat))(ht:zCb s D thing):∀f p t u q,zBB s thing f p t=some (u,q)->(t.kind=2∨t.kind=3)->TrOk (D+1+4*p) t->p<q∧q<=s.size∧TrOk (D+1+4*q) u
 |0,_,_,_,_,h,_,_=>by cases h
 |f+1,p,t,u,q,h,hk,hT=>by
  have h2:(match thing p with|none=>none|some (u,q)=>if zBI s q then some ((t.add u).plain,q) else zBB s thing f q (t.add u))=some (u,q):=h;cases hh:thing p with
  |none=>rw[hh] at h2;cases h2
  |some g=>
   obtain⟨v,q1⟩:=g;rw[hh] at h2;obtain⟨a,b,c⟩:=ht p v q1 hh;have hA:TrOk (D+1+4*q1) (t.add v):=by
    rw[show D+1+4*q1=D+4*q1+1 by omega];exact zHi (hT.deep (by omega)) hk c
   have h3:(if zBI s q1 then some ((t.add v).plain,q1) else zBB s thing f q1 (t.add v))=some (u,q):=h2;split at h3
   ·have e:=hU h3
    have e1:(t.add v).plain=u:=congrArg Prod.fst e;have e2:q1=q:=congrArg Prod.snd e;subst e1 e2;exact⟨a,b,zE5 hA⟩
   ·obtain⟨c1,c2,c3⟩:=zHJ s D thing ht f q1 (t.add v) u q h3 (zDv hk) hA
    exact⟨by omega,c2,c3⟩
theorem zGr (s:ByteArray)(D:Nat)(row:Nat->Option (Tr×Nat))(ht:zCb s D row):∀f p t u q,zAk s row f p t=some (u,q)->(t.kind=2∨t.kind=3)->TrOk (D+1+4*p) t->p<q∧q<=s.size∧TrOk (D+1+4*q) u
 |0,_,_,_,_,h,_,_=>by cases h
 |f+1,p,t,u,q,h,hk,hT=>by
  have h2:(match row p with|none=>none|some (u,q)=>if zI s q ⟨#[124]⟩ then zAk s row f (q+1) (t.add u) else some ((t.add u).plain,q))=some (u,q):=h;cases hh:row p with
  |none=>rw[hh] at h2;cases h2
  |some g=>
   obtain⟨v,q1⟩:=g;rw[hh] at h2;obtain⟨a,b,c⟩:=ht p v q1 hh;have hA:TrOk (D+1+4*q1) (t.add v):=by
    rw[show D+1+4*q1=D+4*q1+1 by omega];exact zHi (hT.deep (by omega)) hk c
   have h3:(if zI s q1 ⟨#[124]⟩ then zAk s row f (q1+1) (t.add v) else some ((t.add v).plain,q1))=some (u,q):=h2;split at h3
   ·obtain⟨c1,c2,c3⟩:=zGr s D row ht f (q1+1) (t.add v) u q h3 (zDv hk) (hA.deep (by omega))
    exact⟨by omega,c2,c3⟩
   ·have e:=hU h3
    have e1:(t.add v).plain=u:=congrArg Prod.fst e;have e2:q1=q:=congrArg Prod.snd e;subst e1 e2;exact⟨a,b,zE5 hA⟩
def zA5 (D:Nat)(defs:List (ByteArray×Tr)):Prop:=∀d∈defs,TrOk D d.2
theorem zB7 (n:ByteArray):(braced n).size=n.size+2:=by
 unfold braced;rw[ByteArray.size_append,ByteArray.size_append,zBO,zBO];omega
theorem zH5 (s:ByteArray)(D p:Nat):∀defs t q,zA5 D defs->zCt s p defs=some (t,q)->p<q∧q<=s.size∧TrOk D t
 |[],_,_,_,h=>by cases h
 |d::ds,t,q,hd,h=>by
  have h2:(if zI s p (braced d.1) then some (d.2,p+(braced d.1).size) else zCt s p ds)=some (t,q):=h;split at h2
  ·rename_i ht
   have e:=hU h2;have e1:d.2=t:=congrArg Prod.fst e;have e2:p+(braced d.1).size=q:=congrArg Prod.snd e;have h5:=qV ht;have h6:=zB7 d.1;subst e1;exact⟨by omega,by omega,hd d gV⟩
  ·exact zH5 s D p ds t q (fun x hx=>hd x (List.mem_cons_of_mem _ hx)) h2
section
variable {s:ByteArray} {D:Nat} {defs:List (ByteArray×Tr)} {k:Nat} {sub:Reads}
theorem zNt (hsub:∀both,zCb s (D+2) fun p=>sub p both)(both:Bool):zCb s D fun p=>brM s k sub p both:=fun p t q h=>by
 have h2:brM s k sub p both=some (t,q):=h;unfold brM at h2;split at h2
 ·cases h2
 split at h2
 ·rename_i ht
  have h5:=qV ht;have e5:(⟨#[40,41]⟩:ByteArray).size=2:=rfl;have e:=hU h2;have e1:Tr.none=t:=congrArg Prod.fst e;have e2:p+2=q:=congrArg Prod.snd e;subst e1 e2;exact⟨by omega,by omega,by rw[show D+4*(p+2)=D+4*p+7+1 by omega];exact zJK _⟩
 ·have hp:p+1<=(if zI s p ⟨#[40,105,58]⟩ then p+3 else p+1):=by split <;> omega
  generalize (if zI s p ⟨#[40,105,58]⟩ then p+3 else p+1)=p1 at *;generalize (zI s p ⟨#[40,105,58]⟩||both)=bb at *;cases hh:sub p1 bb with
  |none=>rw[hh] at h2;cases h2
  |some g=>
   obtain⟨v,q1⟩:=g;rw[hh] at h2;obtain⟨a,b,c⟩:=hsub bb p1 v q1 hh;have h3:(if zI s q1 ⟨#[41]⟩ then some (v,q1+1) else none)=some (t,q):=h2;split at h3
   ·rename_i ht
    have h5:=qV ht;rw[zBO] at h5;have e:=hU h3;have e1:v=t:=congrArg Prod.fst e;have e2:q1+1=q:=congrArg Prod.snd e;subst e1 e2;exact⟨by omega,by omega,c.deep (by omega)⟩
   ·cases h3
theorem zFD (hs:s.size<=1048576)(hd:zA5 D defs)(hsub:∀both,zCb s (D+2) fun p=>sub p both)(both:Bool):zCb s D fun p=>zDs s defs k sub p both:=fun p t q h=>by
 have h2:zDs s defs k sub p both=some (t,q):=h;unfold zDs at h2;split at h2
 ·exact zNt hsub both p t q h2
 split at h2
 ·obtain⟨a,b,c⟩:=zH5 s D p defs t q hd h2
  exact⟨a,b,c.deep (by omega)⟩
 ·cases hh:jD s p with
  |none=>rw[hh] at h2;cases h2
  |some g=>
   obtain⟨c,q1⟩:=g;rw[hh] at h2;have e:=hU h2;have e1:zGU (zJZ both c)=t:=congrArg Prod.fst e;have e2:q1=q:=congrArg Prod.snd e;obtain⟨a,b,cc⟩:=zC3 s hs p c q1 hh;subst e1 e2;exact⟨a,b,by rw[show D+4*q1=D+4*q1-1+1 by omega];exact zNh _ _ (zL1 both c cc)⟩
theorem zDz (hs:s.size<=1048576)(hd:zA5 D defs)(hsub:∀both,zCb s (D+2) fun p=>sub p both)(both:Bool):zCb s D fun p=>zDA s defs k sub p both:=fun p t q h=>by
 have h2:zDA s defs k sub p both=some (t,q):=h;unfold zDA at h2;cases hh:zDs s defs k sub p both with
 |none=>rw[hh] at h2;cases h2
 |some g=>
  obtain⟨v,q1⟩:=g;rw[hh] at h2;obtain⟨a,b,c⟩:=zFD hs hd hsub both p v q1 hh;obtain⟨a2,b2,c2⟩:=zEL s D _ q1 v t q h2 b c;exact⟨by omega,b2,c2⟩
theorem zGH (hs:s.size<=1048576)(hd:zA5 D defs)(hsub:∀both,zCb s (D+2) fun p=>sub p both)(both:Bool):zCb s (D+1) fun p=>zNG s defs k sub p both:=fun p t q h=>zHJ s D _ (zDz hs hd hsub both) _ p (zDc 2) t q h (.inl rfl) (by rw[show D+1+4*p=D+4*p+1 by omega];exact zGW _ 2 (.inl rfl))
theorem zIj (hs:s.size<=1048576)(hd:zA5 D defs)(hsub:∀both,zCb s (D+2) fun p=>sub p both)(both:Bool):zCb s (D+2) fun p=>zLV s defs k sub p both:=fun p t q h=>zGr s (D+1) _ (zGH hs hd hsub both) _ p (zDc 3) t q h (.inr rfl) (by rw[show D+1+1+4*p=D+4*p+1+1 by omega];exact zGW _ 3 (.inr rfl))
theorem jV (hs:s.size<=1048576)(hd:zA5 D defs):∀k both,zCb s (D+2) fun p=>zBv s defs k p both
 |0,both=>zIj hs hd (fun _ p t q h=>by cases h) both
 |k+1,both=>zIj hs hd (jV hs hd k) both
end
end
end Go.Proofs.YtbjcfkdnjaiclaaGreat
