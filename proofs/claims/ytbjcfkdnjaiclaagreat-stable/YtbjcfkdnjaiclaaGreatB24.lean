import Derived.Test.YtbjcfkdnjaiclaaGreatB0
import Derived.Test.YtbjcfkdnjaiclaaGreatB23
/- Parts of the proof, in order. -/
set_option linter.unusedVariables false
set_option linter.unusedSimpArgs false
set_option maxHeartbeats 4000000
set_option maxRecDepth 100000
namespace Go.Proofs.YtbjcfkdnjaiclaaGreat
open Go.RowKit Go.Proofs.Tryz Go.World
def zH9 (r:Int×Int):List (Int×Int):=r::(yS r 65 90 32++yS r 97 122 (-32))
def qA (l:List (Int×Int)):List (Int×Int):=l.flatMap zH9
theorem zDy (r:Int×Int)(a b c:Int):(yS r a b c).length<=1:=by
 have h:∀(p:Prop) [Decidable p] (x:Int×Int),(if p then[x] else[]).length<=1:=by intro p _ x;split <;> simp
 exact h _ _
theorem zGi (l:List (Int×Int)):(qA l).length<=3*l.length:=by
 induction l with
 |nil=>exact Nat.zero_le _
 |cons r l ih=>
  have h1:=zDy r 65 90 32;have h2:=zDy r 97 122 (-32);have e:qA (r::l)=zH9 r++qA l:=rfl;rw[e,List.length_append];unfold zH9;simp only[List.length_cons,List.length_append];omega
theorem zJd (l:List (Int×Int))(j:Nat)(hj:j<l.length):qA (l.take (j+1))=((qA (l.take j)++[l.getD j (0,0)])++yS (l.getD j (0,0)) 65 90 32)++yS (l.getD j (0,0)) 97 122 (-32):=by
 have e:l.take (j+1)=l.take j++[l.getD j (0,0)]:=by rw[List.take_add_one,List.getElem?_eq_getElem hj,List.getD_eq_getElem?_getD,List.getElem?_eq_getElem hj];rfl
 rw[e];unfold qA;rw[List.flatMap_append];simp[zH9]
theorem zEm (w:World)(u:Value)(l:List (Int×Int))(o:Bool)(h:RangesAt w u l)(hl:l.length<=10000000):
  Calls prog 204 #[.agg #[u,.bool o]] w fun e w'=>∃u',e=.returned (.agg #[u',.bool o])∧RangesIn (fun i=>w.heap.size<=i) w' u' (qA l)∧Grew w w':=by
 obtain⟨i0,hi0,hz0,hz1,hz2⟩:=info_parts zDI;obtain⟨ao,cap,rfl,_,_,hrc⟩:=h;have HRC:=vl hrc;obtain⟨w3,hw3,HN3,y0,y1,HB3,HK3⟩:∃w3,w3=((w.alloc (.cells #[.slice ao l.length cap,.bool o] 161)).alloc (.cells #[.slice none 0 0,.bool false] 161)).alloc (.cells #[.slice none 0 0,.bool o] 161)∧Hid (Rw w3 (w.heap.size+3) (w.heap.size+1+1) (.slice none 0 0) [] o)∧w3.cell? ⟨w.heap.size,0,none⟩=some (.slice ao l.length cap)∧w3.cell? ⟨w.heap.size,1,none⟩=some (.bool o)∧Hid (w3.heap[w.heap.size+1]? =some (.cells #[.slice none 0 0,.bool false] 161))∧Hid (Grew w w3):=by
  have s1:(w.alloc (.cells #[.slice ao l.length cap,.bool o] 161)).heap.size=w.heap.size+1:=by simp
  have s2:((w.alloc (.cells #[.slice ao l.length cap,.bool o] 161)).alloc (.cells #[.slice none 0 0,.bool false] 161)).heap.size=w.heap.size+1+1:=by simp
  have b1:=heap_alloc_new w (.cells #[.slice ao l.length cap,.bool o] 161);have b2:=heap_alloc_new (w.alloc (.cells #[.slice ao l.length cap,.bool o] 161)) (.cells #[.slice none 0 0,.bool false] 161);rw[s1] at b2;have b3:=heap_alloc_new ((w.alloc (.cells #[.slice ao l.length cap,.bool o] 161)).alloc (.cells #[.slice none 0 0,.bool false] 161)) (.cells #[.slice none 0 0,.bool o] 161);rw[s2] at b3;have b1':=(Below.heap_alloc ((w.alloc (.cells #[.slice ao l.length cap,.bool o] 161)).alloc (.cells #[.slice none 0 0,.bool false] 161)) (.cells #[.slice none 0 0,.bool o] 161) w.heap.size (by rw[s2];omega)).trans ((Below.heap_alloc _ _ _ (by rw[s1];omega)).trans b1);have b2':=(Below.heap_alloc ((w.alloc (.cells #[.slice ao l.length cap,.bool o] 161)).alloc (.cells #[.slice none 0 0,.bool false] 161)) (.cells #[.slice none 0 0,.bool o] 161) (w.heap.size+1) (by rw[s2];omega)).trans b2;refine⟨_,rfl,⟨b3,ownsRow_nil _ _ _ _,by omega,by simp⟩,?_,?_,b2',((Keep.alloc _ _ (Nat.le_refl _)).trans (Keep.alloc _ _ (by rw[s1];omega))).trans (Keep.alloc _ _ (by rw[s2];omega))⟩
  ·unfold cell?;rw[b1'];rfl
  ·unfold cell?;rw[b1'];rfl
 go_in;refine wp_cut ?_;intro K0 HK0;go_wp2;refine HK0.out _ _ ?_;refine wp_cut ?_;intro K0 HK0;go_wp2;refine HK0.out _ _ ?_;clear HK0;rw[<-hw3];clear hw3;go_wp2;clear y0 y1;go_loopg [12] l.length (fun q i wr=>∃j:Nat,q=l.length-j∧j<=l.length∧i=.int .i64 (j:Int)∧zM4 wr (w.heap.size+3) (w.heap.size+1+1) (qA (l.take j)) o∧Keep (w.heap.size+3) (w.heap.size+1+1) w3 wr)
 case atStart=>exact⟨0,rfl,Nat.zero_le _,rfl,⟨_,by rw[List.take_zero];exact HN3.out⟩,Keep.refl _ _ _⟩
 case round=>
  obtain⟨j,hgk,hj,rfl,⟨sv,hR⟩,hk⟩:=hrel;have HA:Hid (gk=l.length-j∧Rw wr (w.heap.size+3) (w.heap.size+1+1) sv (qA (l.take j)) o∧Keep (w.heap.size+3) (w.heap.size+1+1) w3 wr):=⟨hgk,hR,hk⟩
  by_cases hj2:j<l.length
  ·have i1:(j:Int)<(l.length:Int):=by omega
   obtain⟨b,o2,rfl,hb,d0,d1⟩:=HRC.out j hj2;have hlt3:=HK3.out.size;have hbl:b<w.heap.size:=hb;have eb:wr.heap[b]? =w.heap[b]? :=(hk.block b (by omega) (by omega)).trans (HK3.out.block b hbl (by omega));have y0:=(cell?_of_block eb).trans d0;have y1:=(cell?_of_block eb).trans d1;have HBT:=vl <| zJd l j hj2;have hLn:(qA (l.take j)).length<=30000000:=by
    have h1:=zGi (l.take j);rw[List.length_take] at h1;omega
   clear d0 d1 eb hgk hk hR;generalize l.getD j (0,0)=r at *;generalize hL:qA (l.take j)=L at *;clear hL;obtain⟨lo,hi⟩:=r;simp only at y0 y1;obtain⟨asv,csv,hsv⟩:=zE HA.out.2.1.own;subst hsv;obtain⟨wa,hwa,hRa,HBa,HKa,hsa⟩:∃wa,wa=wr.alloc (.cells #[.int .i64 lo,.int .i64 hi] 255)∧Rw wa (w.heap.size+3) (w.heap.size+1+1) (.slice asv L.length csv) L o∧Hid (wa.heap[wr.heap.size]? =some (.cells #[.int .i64 lo,.int .i64 hi] 255)∧some wr.heap.size≠(Value.slice asv L.length csv).ownBlock)∧Hid (Keep (w.heap.size+3) (w.heap.size+1+1) wr wa)∧wr.heap.size+1<=wa.heap.size:=by
    have hlt:=HA.out.2.1.lt;refine⟨_,rfl,HA.out.2.1.keep (Keep.alloc (b:=wr.heap.size) _ _ (Nat.le_refl _)) (.inr rfl) (by omega),⟨heap_alloc_new _ _,fun e=>by have:=(HA.out.2.1.own.lt _ e.symm).2;omega⟩,Keep.alloc _ _ hlt,by simp⟩
   have hwr:w.heap.size+3<=wr.heap.size:=HA.out.2.1.lt;refine wp_cut ?_;intro K0 HK0;go_wp2;refine HK0.out _ _ ?_;clear HK0;refine wp_cut ?_;intro K0 HK0;go_wp2;refine HK0.out _ _ ?_;clear HK0;refine wp_cut ?_;intro KB HKB;refine wp_block ?_;refine wp_cut ?_;intro K0 HK0;go_wp2;refine HK0.out _ _ ?_;clear HK0;rw[<-hwa];clear hwa y0 y1;obtain⟨x0,-,xf⟩:=hRa.cells;have xf0:=xf 0;have OW:wa.ownsRow (w.heap.size+3) 255 2 (.slice asv L.length csv) L.length (yT L):=hRa.own;have hlt1:w.heap.size+1+1<wa.heap.size:=by omega
   have HNP:=vl <| zL hRa.own hRa.blk (by decide);have c0:wa.cell? ⟨wr.heap.size,0,none⟩=some (.int .i64 lo):=by unfold cell?;rw[HBa.out.1];rfl
   have c1:wa.cell? ⟨wr.heap.size,1,none⟩=some (.int .i64 hi):=by unfold cell?;rw[HBa.out.1];rfl
   have HRa:=vl hRa;clear xf hRa;refine wp_cut ?_;intro K0 HK0;go_wp2_with (first|(at_builtin;refine wpList_append_lies _ rfl _ _ 159 rfl (w.heap.size+3) 255 i0 (.agg #[.int .i64 0,.int .i64 0]) 2 16 underlying159 hi0 hz0 hz1 hz2 rfl (by decide) _ _ _ rfl (OW.alloc _) ⟨wa.heap.size,0,none⟩ 1 1 [.int .i64 lo,.int .i64 hi] rfl rfl (news_of_block (cs:=#[.int .i64 lo,.int .i64 hi]) (t:=255) (fr:=(0,0)) (heap_alloc_new wa _)) (by simp[Value.oneCell']) (by decide) (by unfold maxLen;omega) (by omega) (by simp;omega) _ rfl ?_;intro gg cap w2 hown hgrow hat hlt;have hPB:=hgrow.block (w.heap.size+1+1) (by simp;omega) HNP.out;have x0b:w2.cell? ⟨w.heap.size+1+1,0,none⟩=some (.slice asv L.length csv):=(cell?_of_block hPB).trans ((cell?_alloc_past _ _ _ hlt1).trans x0);have xf0b:w2.frozen? ⟨w.heap.size+1+1,0,none⟩=false:=(frozen?_of_block hPB).trans ((frozen?_alloc_past _ _ _ hlt1).trans xf0)))
   refine HK0.out _ _ ?_;clear HK0;obtain⟨w4,hw4,HR4⟩:∃w4,w4=w2.setCell ⟨w.heap.size+1+1,0,none⟩ (.slice (some ⟨gg,0,none⟩) (L.length+1) cap)∧Hid (Rw w4 (w.heap.size+3) (w.heap.size+1+1) (.slice (some ⟨gg,0,none⟩) (L.length+1) cap) (L++[(lo,hi)]) o∧KeepO (w.heap.size+1+1) (.slice asv L.length csv) (.slice (some ⟨gg,0,none⟩) (L.length+1) cap) wa w4):=⟨_,rfl,HRa.out.app rfl hown hgrow (by rcases hat with ha|ha;exact .inl ha;right;rw[ha];simp)⟩
   rw[<-hw4];clear hw4 hown hgrow hat hlt hPB x0b xf0b OW HNP hlt1;generalize (Value.slice (some ⟨gg,0,none⟩) (L.length+1) cap)=sv4 at *;obtain⟨f1,f2⟩:=HR4.out.2.block wr.heap.size (by omega) (by omega) HBa.out.2;have HB4:Hid (w4.heap[wr.heap.size]? =some (.cells #[.int .i64 lo,.int .i64 hi] 255)∧some wr.heap.size≠sv4.ownBlock):=⟨f1.trans HBa.out.1,f2⟩
   have z0:w4.cell? ⟨wr.heap.size,0,none⟩=some (.int .i64 lo):=by unfold cell?;rw[HB4.out.1];rfl
   have z1:w4.cell? ⟨wr.heap.size,1,none⟩=some (.int .i64 hi):=by unfold cell?;rw[HB4.out.1];rfl
   clear f1 f2 c0 c1 x0 xf0;have HC1:=vl <| zB2 w4 _ _ sv4 _ o HR4.out.1 (by simp;omega) lo hi 65 90 32 (by omega) (by omega) (by omega);refine wp_cut ?_;intro K0 HK0;go_wp2_with (first|(go_at_call 213;refine HC1.out.mono ?_;rintro e w5 ⟨rfl,sv5,hR5,hk5⟩))
   refine HK0.out _ _ ?_;clear HK0;have hs4:=HR4.out.2.size;obtain⟨f1,f2⟩:=hk5.block wr.heap.size (by omega) (by omega) HB4.out.2;have v0:w5.cell? ⟨wr.heap.size,0,none⟩=some (.int .i64 lo):=by unfold cell?;rw[f1,HB4.out.1];rfl
   have v1:w5.cell? ⟨wr.heap.size,1,none⟩=some (.int .i64 hi):=by unfold cell?;rw[f1,HB4.out.1];rfl
   have HR5:Hid (Rw w5 (w.heap.size+3) (w.heap.size+1+1) sv5 ((L++[(lo,hi)])++yS (lo,hi) 65 90 32) o∧KeepO (w.heap.size+1+1) sv4 sv5 w4 w5):=⟨hR5,hk5⟩
   have HC2:=vl <| zB2 w5 _ _ sv5 _ o hR5 (by have:=zDy (lo,hi) 65 90 32;simp;omega) lo hi 97 122 (-32) (by omega) (by omega) (by omega);clear f1 f2 hR5 hk5 z0 z1;go_wp2_with (first|(go_at_call 213;refine HC2.out.mono ?_;rintro e w6 ⟨rfl,sv6,hR6,hk6⟩))
   refine HKB.out _ _ ?_;clear HKB;have HR6:Hid (zM4 w6 (w.heap.size+3) (w.heap.size+1+1) (qA (l.take (j+1))) o∧Keep (w.heap.size+3) (w.heap.size+1+1) w3 w6):=⟨⟨sv6,by rw[HBT.out];exact hR6⟩,HA.out.2.2.trans (HKa.out.trans (((HR4.out.2.trans HR5.out.2).trans hk6).keep HRa.out.own HRa.out.lt))⟩
   clear hR6 hk6 v0 v1;go_wp2;go_roundg (l.length-(j+1))
   case measure=>rw[HA.out.1];omega
   case rel=>exact⟨j+1,rfl,by omega,by go_num,HR6.out⟩
  ·have i1:(l.length:Int)<=(j:Int):=by omega
   have e:j=l.length:=by omega
   subst e;obtain⟨c0,c1,-⟩:=hR.cells;obtain⟨asv,csv,hsv⟩:=zE hR.own;subst hsv;have HF:=vl hR.in;have hbq:wr.heap[w.heap.size+1]? =some (.cells #[.slice none 0 0,.bool false] 161):=(hk.block _ (by omega) (by omega)).trans HB3.out;have q0:wr.cell? ⟨w.heap.size+1,0,none⟩=some (.slice none 0 0):=by unfold cell?;rw[hbq];rfl
   have q1:wr.cell? ⟨w.heap.size+1,1,none⟩=some (.bool false):=by unfold cell?;rw[hbq];rfl
   have g0:wr.frozen? ⟨w.heap.size+1,0,none⟩=false:=by unfold frozen?;rw[hbq];rfl
   have g1:wr.frozen? ⟨w.heap.size+1,1,none⟩=false:=by unfold frozen?;rw[hbq];rfl
   have HLL:Hid (qA (l.take l.length)=qA l):=by show _=_;rw[List.take_length]
   generalize qA (l.take l.length)=L at *;obtain⟨w9,hw9,r0,r1,H9⟩:∃w9,w9=(wr.setCell ⟨w.heap.size+1,0,none⟩ (.slice asv L.length csv)).setCell ⟨w.heap.size+1,1,none⟩ (.bool o)∧w9.cell? ⟨w.heap.size+1,0,none⟩=some (.slice asv L.length csv)∧w9.cell? ⟨w.heap.size+1,1,none⟩=some (.bool o)∧Hid (RangesIn (fun i=>w.heap.size<=i) w9 (.slice asv L.length csv) L∧Grew w w9):=by
    have h2:((wr.setCell ⟨w.heap.size+1,0,none⟩ (.slice asv L.length csv)).setCell ⟨w.heap.size+1,1,none⟩ (.bool o)).heap[w.heap.size+1]? =some (.cells #[.slice asv L.length csv,.bool o] 161):=by
     simp[setCell,Array.getElem?_modify,hbq]
    have hne:∀i,i≠w.heap.size+1->((wr.setCell ⟨w.heap.size+1,0,none⟩ (.slice asv L.length csv)).setCell ⟨w.heap.size+1,1,none⟩ (.bool o)).heap[i]? =wr.heap[i]? :=fun i hi2=>by
     simp[setCell,Array.getElem?_modify,Ne.symm hi2]
    refine⟨_,rfl,?_,?_,?_,?_⟩
    ·unfold cell?;rw[h2];rfl
    ·unfold cell?;rw[h2];rfl
    ·have ag:Agree (fun i=>w.heap.size+3<=i) wr ((wr.setCell ⟨w.heap.size+1,0,none⟩ (.slice asv L.length csv)).setCell ⟨w.heap.size+1,1,none⟩ (.bool o)):=⟨rfl,rfl,by simp[World.setCell],fun i _ hx=>hne i (by omega)⟩
     exact(HF.out.go ag).mono (fun i _ hx=>by omega)
    ·exact(HK3.out.trans ⟨hk.os,hk.output,hk.size,fun k hk1 _=>hk.block k (by omega) (by omega)⟩).trans ⟨rfl,rfl,by simp[World.setCell],fun k h1 _=>hne k (by omega)⟩
   clear hgk hR hk hbq HF;go_wp2;rw[<-hw9];refine bodyPost_ret (v:=.agg #[.slice asv L.length csv,.bool o]) (by simp[results,results204,go_sem,r0,r1]) rfl ?_;exact⟨_,rfl,by rw[<-HLL.out];exact H9.out.1,H9.out.2⟩
theorem qU {s t:ByteArray}{i:Nat}(h:zI s i t=true):i+t.size<=s.size:=by
 unfold zI at h;rw[Bool.and_eq_true] at h;exact of_decide_eq_true h.1
theorem zBZ {s:ByteArray}{i:Nat}(h:byt s i≠0):i<s.size:=by
 rcases Nat.lt_or_ge i s.size with h1|h1
 ·exact h1
 ·exact absurd (zJH s i h1) h
theorem zKp:vT 0<0:=by decide
theorem zJF (s:ByteArray)(i most:Nat)(h:0<yF s i most):i+yF s i most<=s.size:=by
 obtain⟨k,hk⟩:∃k,yF s i most=k+1:=⟨yF s i most-1,by omega⟩
 have hle:=zEr s i most;have h1:¬vT (byt s (i+k))<0:=by
  have h2:k<(List.range most).findIdx fun j=>decide (vT (byt s (i+j))<0):=by
   show k<yF s i most;omega
  have h3:=List.not_of_lt_findIdx h2;rw[List.getElem_range] at h3;exact of_decide_eq_false h3
 have h4:=zBZ (fun e=>h1 (by rw[e];exact zKp));omega
theorem zJD (s:ByteArray)(p k:Nat)(h:k<=6):zAK s p k<=16777216:=Nat.le_of_lt (Nat.lt_of_lt_of_le (zJC s p k) (Nat.pow_le_pow_right (by omega) (by omega:k<=6)))
theorem zMe (s:ByteArray)(p:Nat):(zGR s p).at_<=p+2∧((zGR s p).ok=true->p<(zGR s p).at_∧(zGR s p).at_<=s.size)∧0<=(zGR s p).num∧(zGR s p).num<=16777216:=by
 have h1:=zEr s p 2;have h2:=zJF s p 2;have h3:=zJD s p (yF s p 2) (by omega);unfold zGR;refine⟨by show p+yF s p 2<=p+2;omega,fun e=>?_,by show(0:Int)<=(zAK s p (yF s p 2):Nat);omega,by show((zAK s p (yF s p 2):Nat):Int)<=16777216;omega⟩;have e2:yF s p 2=2:=by simpa using e
 show p<p+yF s p 2∧p+yF s p 2<=s.size;omega
theorem zLP (s:ByteArray)(p:Nat):(zGk s p).at_<=p+7∧((zGk s p).ok=true->p<(zGk s p).at_∧(zGk s p).at_<=s.size)∧0<=(zGk s p).num∧(zGk s p).num<=16777216:=by
 have h1:=zEr s p 6;have h2:=zJF s p 6;have h3:=zJD s p (yF s p 6) h1;unfold zGk;refine⟨?_,fun e=>?_,by show(0:Int)<=(zAK s p (yF s p 6):Nat);omega,by show((zAK s p (yF s p 6):Nat):Int)<=16777216;omega⟩
 ·show(if zI s (p+yF s p 6) ⟨#[125]⟩ then p+yF s p 6+1 else p+yF s p 6)<=p+7
  split <;> omega
 ·have e2:zI s (p+yF s p 6) ⟨#[125]⟩=true:=by
   have e3:=e;rw[Bool.and_eq_true,Bool.and_eq_true] at e3;exact e3.1.1
  show p<(if zI s (p+yF s p 6) ⟨#[125]⟩ then p+yF s p 6+1 else p+yF s p 6)∧(if zI s (p+yF s p 6) ⟨#[125]⟩ then p+yF s p 6+1 else p+yF s p 6)<=s.size;rw[if_pos e2];have:=qU e2;have e4:(⟨#[125]⟩:ByteArray).size=1:=rfl;omega
theorem zJG (s:ByteArray)(p:Nat):(zAJ s p).at_<=p+10∧((zAJ s p).ok=true->p<(zAJ s p).at_∧(zAJ s p).at_<=s.size)∧0<=(zAJ s p).num∧(zAJ s p).num<=16777216:=by
 unfold zAJ;split
 ·rename_i h
  have:=qU h;have e4:(⟨#[110]⟩:ByteArray).size=1:=rfl;exact⟨by show p+1<=_;omega,fun _=>⟨by show p<p+1;omega,by show p+1<=_;omega⟩,by show(0:Int)<=10;omega,by show(10:Int)<=16777216;omega⟩
 split
 ·rename_i h
  have:=qU h;have e4:(⟨#[116]⟩:ByteArray).size=1:=rfl;exact⟨by show p+1<=_;omega,fun _=>⟨by show p<p+1;omega,by show p+1<=_;omega⟩,by show(0:Int)<=9;omega,by show(9:Int)<=16777216;omega⟩
 split
 ·obtain⟨a,b,c,d⟩:=zMe s (p+1)
  exact⟨by omega,fun e=>by have:=b e;omega,c,d⟩
 split
 ·obtain⟨a,b,c,d⟩:=zLP s (p+2)
  exact⟨by omega,fun e=>by have:=b e;omega,c,d⟩
 have hl:=zAi s p;split
 ·exact⟨by show p<=_;omega,fun e=>(by cases e),by show(0:Int)<=0;omega,by show(0:Int)<=16777216;omega⟩
 ·rename_i h
  have h0:byt s p≠0:=fun e=>h (by rw[e];decide);have:=zBZ h0;refine⟨by show p+1<=_;omega,fun _=>⟨by show p<p+1;omega,by show p+1<=_;omega⟩,?_,?_⟩
  ·show(0:Int)<=(byt s p:Nat);omega
  ·show((byt s p:Nat):Int)<=16777216;omega
theorem zEI (s:ByteArray)(p:Nat):(xE s p).at_<=p+11∧((xE s p).ok=true->p<(xE s p).at_∧(xE s p).at_<=s.size)∧0<=(xE s p).num∧(xE s p).num<=16777216:=by
 unfold xE;split
 ·obtain⟨a,b,c,d⟩:=zJG s (p+1)
  exact⟨by omega,fun e=>by have:=b e;omega,c,d⟩
 have hl:=zAi s p;split
 ·exact⟨by show p<=_;omega,fun e=>(by cases e),by show(0:Int)<=0;omega,by show(0:Int)<=16777216;omega⟩
 ·rename_i h
  have h0:byt s p≠0:=fun e=>h (by rw[e];decide);have:=zBZ h0;refine⟨by show p+1<=_;omega,fun _=>⟨by show p<p+1;omega,by show p+1<=_;omega⟩,?_,?_⟩
  ·show(0:Int)<=(byt s p:Nat);omega
  ·show((byt s p:Nat):Int)<=16777216;omega
theorem zJv (s:ByteArray)(p:Nat):(yE s p).at_<=p+30∧((yE s p).ok=true->p<(yE s p).at_∧(yE s p).at_<=s.size)∧0<=(yE s p).low∧(yE s p).low<=16777216∧0<=(yE s p).high∧(yE s p).high<=16777216:=by
 obtain⟨a,b,c,d⟩:=zEI s p;unfold yE;split
 ·rename_i h
  rw[Bool.and_eq_true] at h;obtain⟨a2,b2,c2,d2⟩:=zEI s ((xE s p).at_+1);have b1:=b h.1;refine⟨?_,fun e=>?_,c,d,c2,d2⟩
  ·show(xE s ((xE s p).at_+1)).at_<=p+30
   omega
  ·have e3:((xE s ((xE s p).at_+1)).ok&&decide ((xE s p).num<=(xE s ((xE s p).at_+1)).num))=true:=e
   rw[Bool.and_eq_true] at e3;have:=b2 e3.1;show p<(xE s ((xE s p).at_+1)).at_∧(xE s ((xE s p).at_+1)).at_<=s.size;omega
 ·exact⟨by show(xE s p).at_<=p+30;omega,b,c,d,c,d⟩
def zAT (s:ByteArray):Nat->Nat->List (Int×Int)->Option (List (Int×Int)×Nat)
 |0,_,_=>none
 |f+1,p,l=>if(yE s p).ok then(if zI s (yE s p).at_ ⟨#[93]⟩ then some (l++[((yE s p).low,(yE s p).high)],(yE s p).at_+1) else zAT s f (yE s p).at_ (l++[((yE s p).low,(yE s p).high)])) else none
def zBY (s:ByteArray)(p:Nat):Option (Cs×Nat):=(zAT s (s.size+1) (if zI s (p+1) ⟨#[94]⟩ then p+2 else p+1) []).map fun g=>(⟨g.1,zI s (p+1) ⟨#[94]⟩⟩,g.2)
def zAj (w:World)(b:Nat)(s:ByteArray)(dv:Value)(r:Rx)(a:Option (Cs×Nat))(e:Ending)(w':World):Prop:=
 Keep w.heap.size b w w'∧match a with
 |none=>∃v n c o q,e=.returned (.tuple #[.agg #[.slice v n c,.bool o],.bool false])∧RxAt w' b s dv {r with at_:=q}
 |some (c,q)=>∃u,e=.returned (.tuple #[.agg #[u,.bool c.others],.bool true])∧RangesIn (fun i=>w.heap.size<=i) w' u c.ranges∧RxAt w' b s dv {r with at_:=q}
theorem zGn (s t:ByteArray)(r:Rx):r.take s t={r with at_:=if zI s r.at_ t then r.at_+t.size else r.at_}:=by
 cases h:zI s r.at_ t with
 |true=>rw[zHh h];rfl
 |false=>rw[zJj h];rfl
structure Cw (w w':World)(b:Nat)(s:ByteArray)(dv:Value)(r:Rx)(pos:Nat)(L:List (Int×Int))(o:Bool):Prop where
 set:zM4 w' (w.heap.size+2) (w.heap.size+1) L o
 box:w'.heap[w.heap.size]? =some (.cells #[.slice none 0 0,.bool false] 161)
 rx:RxAt w' b s dv {r with at_:=pos}
 keep:Keep w.heap.size b w w'
theorem vD (w w2:World)(b:Nat)(s:ByteArray)(dv:Value)(r:Rx)(x y u:Value)(o:Bool)(hb:b<w.heap.size)(hB:w2.heap[w.heap.size]? =some (.cells #[x,y] 161))(h:RxAt w2 b s dv r)(hk:Keep w.heap.size b w w2):
  ∃w3,w3=(w2.setCell ⟨w.heap.size,0,none⟩ u).setCell ⟨w.heap.size,1,none⟩ (.bool o)∧w3.cell? ⟨w.heap.size,0,none⟩=some u∧w3.cell? ⟨w.heap.size,1,none⟩=some (.bool o)∧Hid (RxAt w3 b s dv r∧Keep w.heap.size b w w3∧∀l,RangesIn (fun i=>w.heap.size<i) w2 u l->RangesIn (fun i=>w.heap.size<=i) w3 u l):=by
 have h2:((w2.setCell ⟨w.heap.size,0,none⟩ u).setCell ⟨w.heap.size,1,none⟩ (.bool o)).heap[w.heap.size]? =some (.cells #[u,.bool o] 161):=by
  simp[setCell,Array.getElem?_modify,hB]
 have hne:∀i,i≠w.heap.size->((w2.setCell ⟨w.heap.size,0,none⟩ u).setCell ⟨w.heap.size,1,none⟩ (.bool o)).heap[i]? =w2.heap[i]? :=fun i hi2=>by
  simp[setCell,Array.getElem?_modify,Ne.symm hi2]
 refine⟨_,rfl,?_,?_,RxAt.of_block h (hne b (by omega)),hk.trans ⟨rfl,rfl,by simp[World.setCell],fun k h1 _=>hne k (by omega)⟩,fun l hl=>RangesIn.mono (X:=fun i=>w.heap.size<i) (hl.go ⟨rfl,rfl,by simp[World.setCell],fun i _ hx=>hne i (Nat.ne_of_gt hx)⟩) (fun i _ hx=>Nat.le_of_lt hx)⟩
 ·unfold cell?;rw[h2];rfl
 ·unfold cell?;rw[h2];rfl
theorem zH6 (w:World)(b:Nat)(s:ByteArray)(dv:Value)(r:Rx)(h:RxAt w b s dv r):
  ∃w3,w3=(((w.alloc (.cells #[.slice none 0 0,.bool false] 161)).setCell ⟨b,2,none⟩ (.int .i64 ((r.at_:Int)+1))).alloc (.cells #[.slice none 0 0,.bool false] 161))∧Cw w w3 b s dv r (r.at_+1) [] false∧w.heap.size+2<=w3.heap.size∧w3.heap[w.heap.size+1]? =some (.cells #[.slice none 0 0,.bool false] 161):=by
 have hlb:=h.lt;have s1:(w.alloc (.cells #[.slice none 0 0,.bool false] 161)).heap.size=w.heap.size+1:=by simp
 have b1:=heap_alloc_new w (.cells #[.slice none 0 0,.bool false] 161);have h1:RxAt (w.alloc (.cells #[.slice none 0 0,.bool false] 161)) b s dv r:=RxAt.of_block h (Below.heap_alloc _ _ _ hlb);have h2:=h1.setAt (r.at_+1);rw[show ((r.at_+1:Nat):Int)=(r.at_:Int)+1 by omega] at h2;have k1:Keep w.heap.size b w (w.alloc (.cells #[.slice none 0 0,.bool false] 161)):=Keep.alloc _ _ (Nat.le_refl _);generalize (w.alloc (.cells #[.slice none 0 0,.bool false] 161))=w1 at *;have b2:(w1.setCell ⟨b,2,none⟩ (.int .i64 ((r.at_:Int)+1))).heap[w.heap.size]? =some (.cells #[.slice none 0 0,.bool false] 161):=(Below.heap_setCell _ _ _ _ (by show w.heap.size≠b;omega)).trans b1;have s2:(w1.setCell ⟨b,2,none⟩ (.int .i64 ((r.at_:Int)+1))).heap.size=w.heap.size+1:=by rw[zC];exact s1
 have k2:Keep w.heap.size b w (w1.setCell ⟨b,2,none⟩ (.int .i64 ((r.at_:Int)+1))):=k1.trans (Keep.set _ _ _);generalize (w1.setCell ⟨b,2,none⟩ (.int .i64 ((r.at_:Int)+1)))=w2 at *;have b3:=heap_alloc_new w2 (.cells #[.slice none 0 0,.bool false] 161);rw[s2] at b3;refine⟨_,rfl,⟨⟨.slice none 0 0,b3,ownsRow_nil _ _ _ _,by omega,by simp;omega⟩,(Below.heap_alloc _ _ _ (by omega)).trans b2,RxAt.of_block h2 (Below.heap_alloc _ _ _ (by omega)),k2.trans (Keep.alloc _ _ (by omega))⟩,by simp;omega,b3⟩
theorem zD9 (w:World)(b:Nat)(s:ByteArray)(dv:Value)(r:Rx)(h:RxAt w b s dv r)(hs:s.size<=1048576)(ha:r.at_<s.size):
  Calls prog 208 #[.pointer (some ⟨b,0,none⟩)] w (zAj w b s dv r (zBY s r.at_)):=by
 have hlb:=h.lt;obtain⟨i0,hi0,hz0,hz1,hz2⟩:=info_parts zDI;obtain⟨w3,hw3,hC3,hs3,hb3⟩:=zH6 w b s dv r h;have HB3:=vl hb3;obtain⟨o,ho⟩:∃o,o=zI s (r.at_+1) ⟨#[94]⟩:=⟨_,rfl⟩
 obtain⟨p0,hp0⟩:∃p0,p0=(if zI s (r.at_+1) ⟨#[94]⟩ then r.at_+2 else r.at_+1):=⟨_,rfl⟩
 have hpl:p0<=s.size:=by
  rw[hp0];split
  ·rename_i e
   have:=qU e;have e4:(⟨#[94]⟩:ByteArray).size=1:=rfl;omega
  ·omega
 obtain⟨G,hG⟩:∃G,G=zAT s (s.size+1) p0 []:=⟨_,rfl⟩
 have HG:Hid (zBY s r.at_=G.map fun g=>(⟨g.1,o⟩,g.2)):=by
  show _=_;unfold zBY;rw[hG,ho,hp0]
 have HTK:Hid (Calls prog 189 #[.pointer (some ⟨b,0,none⟩),.string ⟨#[94]⟩] w3 fun e w'=>e=.returned (.bool o)∧RxAt w' b s dv {r with at_:=p0}∧∀H,Keep H b w3 w'):=by
  have:=jB w3 b s dv {r with at_:=r.at_+1} hC3.rx hs (by show r.at_+1<=_;omega) ⟨#[94]⟩ (by decide);rw[zGn] at this;rw[hp0,ho];exact this
 have HG0:=vl hG;have HC3:=vl hC3;obtain⟨-,-,c2,-,-,cf⟩:=h.cells;have cf2:=cf 2;rw[HG.out];clear hp0 ho hG cf HG h hC3 hb3;have HLB:=vl hlb;have c2b:(w.alloc (.cells #[.slice none 0 0,.bool false] 161)).cell? ⟨b,2,none⟩=some (.int .i64 (r.at_:Int)):=(cell?_alloc_past _ _ _ hlb).trans c2;have cf2b:(w.alloc (.cells #[.slice none 0 0,.bool false] 161)).frozen? ⟨b,2,none⟩=false:=(frozen?_alloc_past _ _ _ hlb).trans cf2;clear hlb c2 cf2;go_in;refine wp_cut ?_;intro K0 HK0;go_wp2;refine HK0.out _ _ ?_;clear HK0;refine wp_cut ?_;intro K0 HK0;go_wp2;refine HK0.out _ _ ?_;clear HK0;refine wp_cut ?_;intro K0 HK0;go_wp2;refine HK0.out _ _ ?_;clear HK0;rw[<-hw3];clear hw3;refine wp_cut ?_;intro K0 HK0;go_wp2_with (first|(go_at_call 189;refine HTK.out.mono ?_;rintro e w4 ⟨rfl,hR4,hk4⟩;have hB4:w4.heap[w.heap.size+1]? =some (.cells #[.slice none 0 0,.bool false] 161):=((hk4 w3.heap.size).block _ (by omega) (by have:=HLB.out;omega)).trans HB3.out;have x4:w4.cell? ⟨w.heap.size+1,1,none⟩=some (.bool false):=(by unfold cell?;rw[hB4];rfl);have fz1:w4.frozen? ⟨w.heap.size+1,1,none⟩=false:=(by unfold frozen?;rw[hB4];rfl);have HB4:=vl hB4;clear hB4))
 refine HK0.out _ _ ?_;clear HK0;obtain⟨w5,hw5,H5⟩:∃w5,w5=w4.setCell ⟨w.heap.size+1,1,none⟩ (.bool o)∧Hid (Cw w w5 b s dv r p0 [] o):=by
  have hb:=HLB.out;have hk:=hk4 w3.heap.size;have b4:=HB4.out;refine⟨_,rfl,⟨⟨.slice none 0 0,⟨by simp[setCell,Array.getElem?_modify,b4],ownsRow_nil _ _ _ _,by omega,by rw[zC];have:=hk.size;omega⟩⟩,(Below.heap_setCell _ _ _ _ (by show w.heap.size≠w.heap.size+1;omega)).trans ((hk.block _ (by omega) (by omega)).trans HC3.out.box),RxAt.of_block hR4 (Below.heap_setCell _ _ _ _ (by show b≠w.heap.size+1;omega)),HC3.out.keep.trans ((hk4 _).trans ⟨rfl,rfl,by rw[zC];omega,fun k h1 _=>Below.heap_setCell _ _ _ _ (by show k≠w.heap.size+1;omega)⟩)⟩⟩
 rw[<-hw5];clear hw5 hR4 hk4 fz1 x4 HC3 HTK hs3 c2b cf2b HB3 HB4;refine wp_block ?_;go_loopg [6] (s.size+1) (fun q v wr=>∃f pos L,q=f∧pos<=s.size∧s.size+1-pos<=f∧zAT s f pos L=G∧Cw w wr b s dv r pos L o∧L.length<=pos)
 case atStart=>exact⟨s.size+1,p0,[],rfl,hpl,by omega,HG0.out.symm,H5.out,Nat.zero_le _⟩
 case round=>
  obtain⟨f,pos,L,hgk,hpos,hf,hGo,hC,hL⟩:=hrel;cases f with
  |zero=>omega
  |succ f=>
  obtain⟨m1,m2,m3,m4,m5,m6⟩:=zJv s pos;have HM:=vl <| zGJ wr b s dv {r with at_:=pos} hC.rx hs (by show pos<=_;omega) (by show(xE s pos).at_<=_;have:=(zEI s pos).1;omega);have hGo2:(if (yE s pos).ok then(if zI s (yE s pos).at_ ⟨#[93]⟩ then some (L++[((yE s pos).low,(yE s pos).high)],(yE s pos).at_+1) else zAT s f (yE s pos).at_ (L++[((yE s pos).low,(yE s pos).high)])) else none)=G:=hGo;clear hGo;obtain⟨sv,hRw⟩:=hC.set;obtain⟨asv,csv,hsv⟩:=zE hRw.own;subst hsv;have HC:Hid (Cw w wr b s dv r pos L o∧Rw wr (w.heap.size+2) (w.heap.size+1) (.slice asv L.length csv) L o∧gk=f+1):=⟨hC,hRw,hgk⟩
  clear hC hRw hgk;generalize yE s pos=m at *;obtain⟨lo,hi,ok,at1⟩:=m;have m1b:at1<=pos+30:=m1;have M2:=vl m2;have HGo:=vl hGo2;have HM2:=vl HM.out;clear m1 m2 m3 m4 m5 m6 hGo2 HM;have hwr:w.heap.size+2<=wr.heap.size:=HC.out.2.1.lt;refine wp_block ?_;refine wp_cut ?_;intro K1 HK1;go_wp2_with (first|(go_at_call 215;refine HM2.out.mono ?_;rintro e wm ⟨rfl,hRm,hkm⟩))
  refine HK1.out _ _ ?_;clear HK1 HM2;obtain⟨wa,hwa,hRa,HBa,HKa,hsa,HXa,hxa⟩:∃wa,wa=wm.alloc (.cells #[.int .i64 lo,.int .i64 hi] 255)∧Rw wa (w.heap.size+2) (w.heap.size+1) (.slice asv L.length csv) L o∧Hid (wa.heap[wm.heap.size]? =some (.cells #[.int .i64 lo,.int .i64 hi] 255))∧Hid (Keep wr.heap.size b wr wa)∧wm.heap.size+1<=wa.heap.size∧RxAt wa b s dv {r with at_:=at1}∧wr.heap.size<=wm.heap.size:=by
   have hb:=HLB.out;have hz:=hkm.size;have hrm:Rw wm (w.heap.size+2) (w.heap.size+1) (.slice asv L.length csv) L o:=HC.out.2.1.keep hkm (.inl (by omega)) (by omega);refine⟨_,rfl,hrm.keep (Keep.alloc (b:=wm.heap.size) _ _ (Nat.le_refl _)) (.inr rfl) (by omega),heap_alloc_new _ _,hkm.trans (Keep.alloc _ _ hz),by simp,RxAt.of_block hRm (Below.heap_alloc _ _ _ (by omega)),hz⟩
  rw[<-hwa];clear hwa hRm hkm;have hb:=HLB.out;have hBx:wa.heap[w.heap.size]? =some (.cells #[.slice none 0 0,.bool false] 161):=(HKa.out.block _ (by omega) (by omega)).trans HC.out.1.box;have HBx:Hid (wa.heap[w.heap.size]? =some (.cells #[.slice none 0 0,.bool false] 161)∧Keep w.heap.size b w wa):=⟨hBx,HC.out.1.keep.trans ⟨HKa.out.os,HKa.out.output,HKa.out.size,fun k h1 h2=>HKa.out.block k (by omega) h2⟩⟩
  clear hBx hb;cases ok with
  |false=>
   have HGn:=vl HGo.out.symm;obtain⟨w7,hw7,z0,z1,HZ⟩:=vD w wa b s dv {r with at_:=at1} _ _ (.slice none 0 0) false HLB.out HBx.out.1 HXa HBx.out.2;have q0:wa.cell? ⟨w.heap.size,0,none⟩=some (.slice none 0 0):=by unfold cell?;rw[HBx.out.1];rfl
   have q1:wa.cell? ⟨w.heap.size,1,none⟩=some (.bool false):=by unfold cell?;rw[HBx.out.1];rfl
   have g0:wa.frozen? ⟨w.heap.size,0,none⟩=false:=by unfold frozen?;rw[HBx.out.1];rfl
   have g1:wa.frozen? ⟨w.heap.size,1,none⟩=false:=by unfold frozen?;rw[HBx.out.1];rfl
   rw[HGn.out];clear HXa hRa hsa hxa hwr HGo HGn;go_wp2;rw[<-hw7];refine bodyPost_ret (v:=.tuple #[.agg #[.slice none 0 0,.bool false],.bool false]) (by simp[results,results208,go_sem,z0,z1]) rfl ?_;exact⟨HZ.out.2.1,none,0,0,false,at1,rfl,HZ.out.1⟩
  |true=>
   have M3:=M2.out rfl;have HGo2:=vl HGo.out;clear HGo M2;refine wp_cut ?_;intro K1 HK1;go_wp2;refine HK1.out _ _ ?_;clear HK1;obtain⟨x0,-,xf⟩:=hRa.cells;have xf0:=xf 0;have OW:wa.ownsRow (w.heap.size+2) 255 2 (.slice asv L.length csv) L.length (yT L):=hRa.own;have hlt1:w.heap.size+1<wa.heap.size:=by omega
   have HNP:=vl <| zL hRa.own hRa.blk (by decide);have c0:wa.cell? ⟨wm.heap.size,0,none⟩=some (.int .i64 lo):=by unfold cell?;rw[HBa.out];rfl
   have c1:wa.cell? ⟨wm.heap.size,1,none⟩=some (.int .i64 hi):=by unfold cell?;rw[HBa.out];rfl
   have HRa:=vl hRa;have HXA:=vl HXa;clear xf hRa HXa;refine wp_cut ?_;intro K1 HK1;go_wp2_with (first|(at_builtin;refine wpList_append_lies _ rfl _ _ 159 rfl (w.heap.size+2) 255 i0 (.agg #[.int .i64 0,.int .i64 0]) 2 16 underlying159 hi0 hz0 hz1 hz2 rfl (by decide) _ _ _ rfl (OW.alloc _) ⟨wa.heap.size,0,none⟩ 1 1 [.int .i64 lo,.int .i64 hi] rfl rfl (news_of_block (cs:=#[.int .i64 lo,.int .i64 hi]) (t:=255) (fr:=(0,0)) (heap_alloc_new wa _)) (by simp[Value.oneCell']) (by decide) (by unfold maxLen;omega) (by omega) (by simp;omega) _ rfl ?_;intro gg cap w2 hown hgrow hat hlt;have hPB:=hgrow.block (w.heap.size+1) (by simp;omega) HNP.out;have x0b:w2.cell? ⟨w.heap.size+1,0,none⟩=some (.slice asv L.length csv):=(cell?_of_block hPB).trans ((cell?_alloc_past _ _ _ hlt1).trans x0);have xf0b:w2.frozen? ⟨w.heap.size+1,0,none⟩=false:=(frozen?_of_block hPB).trans ((frozen?_alloc_past _ _ _ hlt1).trans xf0)))
   refine HK1.out _ _ ?_;clear HK1;obtain⟨w6,hw6,HR6⟩:∃w6,w6=w2.setCell ⟨w.heap.size+1,0,none⟩ (.slice (some ⟨gg,0,none⟩) (L.length+1) cap)∧Hid (Rw w6 (w.heap.size+2) (w.heap.size+1) (.slice (some ⟨gg,0,none⟩) (L.length+1) cap) (L++[(lo,hi)]) o∧KeepO (w.heap.size+1) (.slice asv L.length csv) (.slice (some ⟨gg,0,none⟩) (L.length+1) cap) wa w6):=⟨_,rfl,HRa.out.app rfl hown hgrow (by rcases hat with ha|ha;exact .inl ha;right;rw[ha];simp)⟩
   rw[<-hw6];clear hw6 hown hgrow hat hlt hPB x0b xf0b OW HNP hlt1 c0 c1 x0 xf0;have HK6:=vl <| HR6.out.2.keep HRa.out.own HRa.out.lt;have HX6:Hid (RxAt w6 b s dv {r with at_:=at1}∧w6.heap[w.heap.size]? =some (.cells #[.slice none 0 0,.bool false] 161)∧Keep w.heap.size b w w6∧w.heap.size+2<=w6.heap.size):=by
    have hb:=HLB.out;refine⟨RxAt.of_block HXA.out (HK6.out.block b (by omega) (by omega)),(HK6.out.block _ (by omega) (by omega)).trans HBx.out.1,HBx.out.2.trans ⟨HK6.out.os,HK6.out.output,HK6.out.size,fun k h1 _=>HK6.out.block k (by omega) (by omega)⟩,HR6.out.1.lt⟩
   clear HXA HBx HKa HBa hsa hxa hwr;cases ht:zI s at1 ⟨#[93]⟩ with
   |true=>
    rw[ht] at HGo2;have HG9:=vl HGo2.out.symm;have HT9:Hid (Calls prog 189 #[.pointer (some ⟨b,0,none⟩),.string ⟨#[93]⟩] w6 fun e w'=>e=.returned (.bool true)∧RxAt w' b s dv {r with at_:=at1+1}∧∀H,Keep H b w6 w'):=by
     have:=jB w6 b s dv {r with at_:=at1} HX6.out.1 hs (by show at1<=_;omega) ⟨#[93]⟩ (by decide);rw[zGn] at this;have e1:zI s ({r with at_:=at1}:Rx).at_ ⟨#[93]⟩=true:=ht;rw[e1] at this;exact this
    rw[HG9.out];clear ht HGo2 HG9;have hp6:=HX6.out.2.2.2;have HST:Hid (∀w8,(∀H,Keep H b w6 w8)->RxAt w8 b s dv {r with at_:=at1+1}->w8.cell? ⟨w.heap.size+1,0,none⟩=some (.slice (some ⟨gg,0,none⟩) (L.length+1) cap)∧w8.cell? ⟨w.heap.size+1,1,none⟩=some (.bool o)∧w8.cell? ⟨w.heap.size,0,none⟩=some (.slice none 0 0)∧w8.cell? ⟨w.heap.size,1,none⟩=some (.bool false)∧w8.frozen? ⟨w.heap.size,0,none⟩=false∧w8.frozen? ⟨w.heap.size,1,none⟩=false∧∃w7,w7=(w8.setCell ⟨w.heap.size,0,none⟩ (.slice (some ⟨gg,0,none⟩) (L.length+1) cap)).setCell ⟨w.heap.size,1,none⟩ (.bool o)∧w7.cell? ⟨w.heap.size,0,none⟩=some (.slice (some ⟨gg,0,none⟩) (L.length+1) cap)∧w7.cell? ⟨w.heap.size,1,none⟩=some (.bool o)∧Hid (RxAt w7 b s dv {r with at_:=at1+1}∧Keep w.heap.size b w w7∧RangesIn (fun i=>w.heap.size<=i) w7 (.slice (some ⟨gg,0,none⟩) (L.length+1) cap) (L++[(lo,hi)]))):=fun w8 hk8 hR8=>by
     have hb:=HLB.out;have hB8:w8.heap[w.heap.size]? =some (.cells #[.slice none 0 0,.bool false] 161):=((hk8 (w.heap.size+1)).block _ (by omega) (by omega)).trans HX6.out.2.1;have hR9:Rw w8 (w.heap.size+2) (w.heap.size+1) (.slice (some ⟨gg,0,none⟩) (L.length+1) cap) (L++[(lo,hi)]) o:=HR6.out.1.keep (hk8 _) (.inl (by omega)) (by omega);obtain⟨d0,d1,-⟩:=hR9.cells;obtain⟨w7,hw7,z0,z1,HZ⟩:=vD w w8 b s dv {r with at_:=at1+1} _ _ (.slice (some ⟨gg,0,none⟩) (L.length+1) cap) o hb hB8 hR8 (HX6.out.2.2.1.trans (hk8 _));refine⟨d0,d1,?_,?_,?_,?_,w7,hw7,z0,z1,HZ.out.1,HZ.out.2.1,HZ.out.2.2 _ (hR9.in.mono fun i _ hi=>by omega)⟩
     all_goals first|(unfold cell?;rw[hB8];rfl)|(unfold frozen?;rw[hB8];rfl)
    clear hp6 HR6 HK6;go_wp2_with (first|(go_at_call 189;refine HT9.out.mono ?_;rintro e w8 ⟨rfl,hR8,hk8⟩;obtain⟨d0,d1,q0,q1,g0,g1,w7,hw7,z0,z1,HZ⟩:=HST.out w8 hk8 hR8))
    rw[<-hw7];refine bodyPost_ret (v:=.tuple #[.agg #[.slice (some ⟨gg,0,none⟩) (L.length+1) cap,.bool o],.bool true]) (by simp[results,results208,go_sem,z0,z1]) rfl ?_;exact⟨HZ.out.2.1,_,rfl,HZ.out.2.2,HZ.out.1⟩
   |false=>
    rw[ht] at HGo2;have HG9:=vl HGo2.out;have HT9:Hid (Calls prog 189 #[.pointer (some ⟨b,0,none⟩),.string ⟨#[93]⟩] w6 fun e w'=>e=.returned (.bool false)∧RxAt w' b s dv {r with at_:=at1}∧∀H,Keep H b w6 w'):=by
     have:=jB w6 b s dv {r with at_:=at1} HX6.out.1 hs (by show at1<=_;omega) ⟨#[93]⟩ (by decide);rw[zGn] at this;have e1:zI s ({r with at_:=at1}:Rx).at_ ⟨#[93]⟩=false:=ht;rw[e1] at this;exact this
    clear ht HGo2;go_wp2_with (first|(go_at_call 189;refine HT9.out.mono ?_;rintro e w8 ⟨rfl,hR8,hk8⟩))
    have hb:=HLB.out;have hp6:=HX6.out.2.2.2;go_roundg f
    case measure=>rw[HC.out.2.2];omega
    case rel=>exact⟨f,at1,L++[(lo,hi)],rfl,M3.2,by omega,HG9.out,⟨⟨_,HR6.out.1.keep (hk8 _) (.inl (by omega)) (by omega)⟩,((hk8 (w.heap.size+1)).block _ (by omega) (by omega)).trans HX6.out.2.1,hR8,HX6.out.2.2.1.trans (hk8 _)⟩,by simp;omega⟩
end Go.Proofs.YtbjcfkdnjaiclaaGreat
