import Derived.Test.YtbjcfkdnjaiclaaGreatB0
import Derived.Test.YtbjcfkdnjaiclaaGreatB11
/- Parts of the proof, in order. -/
set_option linter.unusedVariables false
set_option linter.unusedSimpArgs false
set_option maxHeartbeats 4000000
set_option maxRecDepth 100000
namespace Go.Proofs.YtbjcfkdnjaiclaaGreat
open Go.RowKit Go.Proofs.Tryz Go.World
structure Nt where
 sets:List Cs
 follow:List Nat
 first:Nat
 ends:Nat
 rules:List Nat
 empty:List Bool
structure Nt.Ok (n:Nt):Prop where
 len:n.sets.length<=24
 fl:n.follow.length=n.sets.length
 fs:∀x∈n.follow,x<2^n.sets.length
 first:n.first<2^n.sets.length
 ends:n.ends<2^n.sets.length
 eight:n.rules.length<=8
 rs:∀x∈n.rules,x<2^n.sets.length
theorem Nt.Ok.top {n:Nt}(h:n.Ok):2^n.sets.length<=16777216:=(Nat.pow_le_pow_right (by omega) h.len:2^n.sets.length<=2^24)
structure NetAt (w:World)(q:Nat)(n:Nt)(sv fv rv ev:Value):Prop where
 lq:q<w.heap.size
 c0:w.cell? ⟨q,0,none⟩=some sv
 c1:w.cell? ⟨q,1,none⟩=some fv
 c2:w.cell? ⟨q,2,none⟩=some (.int .i64 (n.first:Int))
 c3:w.cell? ⟨q,3,none⟩=some (.int .i64 (n.ends:Int))
 c4:w.cell? ⟨q,4,none⟩=some rv
 c5:w.cell? ⟨q,5,none⟩=some ev
 sets:SetsAt w sv n.sets
 follow:Ints w (In w) fv (ints n.follow)
 rules:Ints w (In w) rv (ints n.rules)
 empty:Bools w (In w) ev n.empty
theorem NetAt.grown {w w2:World}{q:Nat}{n:Nt}{sv fv rv ev:Value}(h:NetAt w q n sv fv rv ev)(hk:Grew w w2):NetAt w2 q n sv fv rv ev:=
 ⟨Nat.lt_of_lt_of_le h.lq hk.size,zA h.c0 h.lq hk,zA h.c1 h.lq hk,zA h.c2 h.lq hk,zA h.c3 h.lq hk,zA h.c4 h.lq hk,zA h.c5 h.lq hk,h.sets.grown hk,h.follow.grown hk,h.rules.grown hk,h.empty.grown hk⟩
def Nt.back (n:Nt):Nat->Nat:=spF (zCh n.follow) n.follow.length
def Nt.tails (n:Nt)(ls:List Nat):List Nat:=zMF n.back ls n.ends
theorem Nt.back_lt {n:Nt}(h:n.Ok)(i:Nat):n.back i<2^n.sets.length:=by
 refine zLT _ _ (fun x hx=>?_) _ _;obtain⟨q,hq,rfl⟩:=List.mem_map.1 hx;have:=zBc (fun p=>(n.follow.getD p 0).testBit q) n.follow.length;rw[h.fl] at this;show yR n.follow n.follow.length q<_;rw[h.fl];exact this
theorem Nt.tails_once {n:Nt}(h:n.Ok)(ls:List Nat):Once (2^n.sets.length) (n.tails ls):=
 zGo (zHp _ _ (Nt.back_lt h)) ls _ _ _ ⟨by simp,fun x hx=>by rw[List.mem_singleton.1 hx];exact h.ends⟩
theorem Once.top {n:Nt}(h:n.Ok){l:List Nat}(hl:Once (2^n.sets.length) l):l.length<=16777216∧∀x∈l,x<16777216:=
 ⟨Nat.le_trans (zLc _ _ hl) h.top,fun x hx=>Nat.lt_of_lt_of_le (hl.lt x hx) h.top⟩
theorem zHL {w:World}{H:Nat}{v:Value}{l:List Nat}(h:w.ownsRow H 21 1 v l.length (l.map fun(x:Nat)=>.int .i32 (x:Int))):I32s w (In w) v l:=by
 rcases h.2 with⟨hv,h0⟩|⟨g,cap,cur,hv,hg,hh,h1,h2,h3,h4⟩
 ·exact⟨none,0,by rw[hv,h0],by omega,by unfold maxLen;omega,fun i hi=>by omega⟩
 ·refine⟨some ⟨g,0,none⟩,cap,hv,h1,h2,fun i hi=>⟨g,0,rfl,(h.lt g (by rw[hv];rfl)).2,?_⟩⟩
  have hc:=h.cells (g:=g) (by rw[hv];rfl) i (.int .i32 ((l.getD i 0:Nat):Int)) (by
   rw[List.getElem?_map,List.getElem?_eq_getElem hi,List.getD_eq_getElem?_getD,List.getElem?_eq_getElem hi];rfl)
  rw[Addr.add_lit] at hc;exact hc
theorem zMb:(prog.info? 21).map (fun i=>(i.zero,i.size,i.bytes))=some (some (.int .i32 0),1,4):=by kernel_rfl
theorem zLa (w:World)(H x:Nat)(hH:H<=w.heap.size):(w.alloc (.cells #[.int .i32 (x:Int)] 21)).ownsRow H 21 1 (.slice (some ⟨w.heap.size,0,none⟩) 1 1) ([x]:List Nat).length (([x]:List Nat).map fun(x:Nat)=>.int .i32 (x:Int)):=
 ⟨rfl,.inr ⟨w.heap.size,1,_,rfl,hH,heap_alloc_new w _,Nat.le_refl _,by unfold maxLen;omega,rfl,rfl⟩⟩
theorem zFy (w:World)(q:Nat)(n:Nt)(sv fv rv ev:Value)(hN:NetAt w q n sv fv rv ev)(ok:n.Ok)(lv:Value)(ls:List Nat)(hL:Ints w (In w) lv (ints ls))(hll:ls.length<=1000000000000)(hls:∀x∈ls,x<16777216):
  Calls prog 129 #[.pointer (some ⟨q,0,none⟩),lv] w fun e w'=>∃u,e=.returned u∧I32s w' (In w') u (n.tails ls)∧Grew w w':=by
 obtain⟨i0,hi0,hz0,hz1,hz2⟩:=info_parts zMb;obtain⟨asv,csv,rfl,-⟩:=id hN.sets;obtain⟨al,cl,rfl,-⟩:=id hL;have hlen:=ok.len;have htop:=ok.top;have hends:=ok.ends;have x0:=hN.c0;have x1:=hN.c1;have x3:=hN.c3;have HN:=vl hN;have HOK:Hid n.Ok:=ok;have HT:Hid (∀w2,w2=w->Calls prog 170 #[fv] w2 fun e w'=>∃u,e=.returned u∧Ints w' (In w') u (ints (zCh n.follow))∧Grew w w'):=by
  rintro w2 rfl;exact zGl w2 fv n.follow HN.out.follow (by rw[ok.fl];exact hlen) fun x hx=>Nat.lt_of_lt_of_le (ok.fs x hx) htop
 have HSp:Hid (∀w1 u,Ints w1 (In w1) u (ints (zCh n.follow))->Grew w w1->Calls prog 128 #[u] w1 fun e w'=>e=.returned (.pointer (some ⟨w1.heap.size,0,none⟩))∧SpAt w' w1.heap.size n.back∧Grew w w'):=fun w1 u hu hk=>by
  refine(zBv w1 u (zCh n.follow) hu (by rw[zDo,ok.fl];exact hlen) fun x hx=>?_).mono ?_
  ·obtain⟨q,hq,rfl⟩:=List.mem_map.1 hx
   exact zHf _ _ _ (by rw[ok.fl];exact hlen)
  ·rintro e w2 ⟨rfl,h1,h2⟩
   rw[zDo] at h1;exact⟨rfl,h1,hk.trans (h2.lower hk.size hk.size)⟩
 have HSe:Hid (∀w2 f,SpAt w2 f n.back->Grew w w2->Calls prog 171 #[.int .i64 (n.sets.length:Int)] w2 fun e w'=>∃p,e=.returned (.pointer (some ⟨p,0,none⟩))∧SeIs w' w.heap.size p (vL n.sets.length) (fun _=>false)∧SpAt w' f n.back∧Grew w w'):=fun w2 f hf hk=>by
  refine(zFH w2 n.sets.length hlen).mono ?_;rintro e w3 ⟨p,rfl,hp,⟨g,cap,hs⟩,hk3⟩;exact⟨p,rfl,⟨g,cap,hs.blk,hs.row.mono hk.size⟩,hf.keep (hk3.block f hf.lt (Nat.ne_of_lt hf.lt)),hk.trans (hk3.lower hk.size hk.size)⟩
 have hsn:∀x:Nat,x<2^n.sets.length->x<64*vL n.sets.length:=fun x hx=>by unfold vL;omega
 have hsn2:vL n.sets.length<=1000000:=by unfold vL;omega
 have HAd:Hid (∀w3 p f m u l,Tt w w3 f p (vL n.sets.length) n.back u l m->∀x:Nat,x<2^n.sets.length->Calls prog 172 #[.pointer (some ⟨p,0,none⟩),.int .i64 (x:Int)] w3 fun e w'=>e=.returned (.bool (!m x))∧Tt w w' f p (vL n.sets.length) n.back u l (fun y=>y==x||m y)):=fun w3 p f m u l ht x hx=>by
  refine(zFB w3 w.heap.size p (vL n.sets.length) m ht.se hsn2 x (hsn x hx)).mono ?_;rintro e w4 ⟨rfl,h1,h2⟩;exact⟨rfl,ht.add h2 h1⟩
 have HOf:Hid (∀w3 p f m u l,Tt w w3 f p (vL n.sets.length) n.back u l m->∀x:Nat,x<16777216->Calls prog 92 #[.pointer (some ⟨f,0,none⟩),.int .i64 (x:Int)] w3 fun e w'=>e=.returned (.int .i64 ((zAn n.back x:Nat):Int))∧Tt w w' f p (vL n.sets.length) n.back u l m):=fun w3 p f m u l ht x hx=>by
  refine(zBF w3 f n.back ht.sp (fun i=>Nat.lt_of_lt_of_le (Nt.back_lt HOK.out i) htop) x hx).mono ?_;rintro e w4 ⟨rfl,h1⟩;exact⟨rfl,ht.grown h1⟩
 have HLC:Hid (∀i,i<ls.length->∃b o,al=some ⟨b,o,none⟩∧In w b∧w.cell? ⟨b,o+i,none⟩=some (.int .i64 ((ls.getD i 0:Nat):Int))∧ls.getD i 0<16777216):=by
  obtain⟨al',cl',hv,_,_,h3⟩:=hL;injection hv with e1 _ _;subst e1;intro i hi;obtain⟨b,o,h1,h0,h2⟩:=h3 i (by rw[zM];exact hi);rw[vA] at h2;exact⟨b,o,h1,h0,h2,hls _ (zR _ i 0 hi)⟩
 have HON:Hid (∀l,Once (2^n.sets.length) l->l.length<=16777216∧∀x∈l,x<16777216):=fun l hl=>Once.top HOK.out hl;have HBL:=vl <| zHp _ _ (Nt.back_lt HOK.out);have HE1:Hid (Once (2^n.sets.length) [n.ends]):=⟨by simp,fun x hx=>by rw[List.mem_singleton.1 hx];exact hends⟩
 have HTT:Hid (n.tails ls=jC n.back ls 16777216 0 [n.ends]):=rfl;rw[zM];have hew:n.ends<16777216:=by omega
 clear hN ok hL hls;go_in;go_wp2_with (first|(go_at_call 170;refine(HT.out _ rfl).mono ?_;rintro e w1 ⟨u,rfl,hu,hk1⟩;have HU:=vl hu;clear hu)|(go_at_call 128;refine(HSp.out w1 u HU.out hk1).mono ?_;rintro e w2 ⟨rfl,hs2,hk2⟩;have y0:=(HN.out.grown hk2).c0;clear hk1)|(go_at_call 171;refine(HSe.out w2 w1.heap.size hs2 hk2).mono ?_;rintro e w3 ⟨p,rfl,he3,hs3,hk3⟩;have y3:=(HN.out.grown hk3).c3;have T3:Tt w w3 w1.heap.size p (vL n.sets.length) n.back (.slice none 0 0) [] (fun _=>false):=⟨hs3,he3,ownsRow_nil _ _ _ _,hk3⟩;clear y0 hk2 hs2)|(go_at_call 172;refine(HAd.out w3 p w1.heap.size _ _ _ T3 n.ends hends).mono ?_;rintro e w4 ⟨rfl,T4⟩;have y4:=(HN.out.grown T4.keep).c3;clear y3))
 have T5:Hid (Tt w (w4.alloc (Obj.cells #[Value.int IntKind.i32 (n.ends:Int)] 21)) w1.heap.size p (vL n.sets.length) n.back (.slice (some ⟨w4.heap.size,0,none⟩) 1 1) [n.ends] (fun y=>[n.ends].contains y)):=by
  have h:=T4.grown (Keep.alloc w4 (Obj.cells #[Value.int IntKind.i32 (n.ends:Int)] 21) (Nat.le_refl _));refine⟨h.sp,?_,zLa w4 w.heap.size n.ends T4.keep.size,h.keep⟩;have e:(fun y=>[n.ends].contains y)=fun y=>y==n.ends||false:=by funext y;by_cases e:y=n.ends <;> simp[e]
  rw[e];exact h.se
 clear T4 T3 hs3 he3 hk3 y4;generalize w1.heap.size=f at *;generalize vL n.sets.length=N at *;go_loopg [7,8] 16777216 (fun k u i wr=>∃(j:Nat) (l:List Nat),k=16777216-j∧j<=l.length∧i=.int .i64 (j:Int)∧Tt w wr f p N n.back u l (fun y=>l.contains y)∧Once (2^n.sets.length) l∧jC n.back ls 16777216 0 [n.ends]=jC n.back ls (16777216-j) j l)
 case atStart=>exact⟨0,[n.ends],rfl,Nat.zero_le _,rfl,T5.out,HE1.out,rfl⟩
 case round=>
  obtain⟨j,l,hgk,hj,rfl,ht,hon,hgo⟩:=hrel;have HA:Hid (gk=16777216-j∧Tt w wr f p N n.back u7 l (fun y=>l.contains y)∧Once (2^n.sets.length) l∧jC n.back ls 16777216 0 [n.ends]=jC n.back ls (16777216-j) j l):=⟨hgk,ht,hon,hgo⟩
  obtain⟨ao,cap,hu7⟩:=zE ht.own;have hl24:=(HON.out l hon).1;by_cases hj2:j<l.length
  ·have i1:(j:Int)<(l.length:Int):=by omega
   have HG2:Hid (jC n.back ls 16777216 0 [n.ends]=jC n.back ls (16777216-(j+1)) (j+1) (zA5 n.back ls (l.getD j 0) l ls.length)):=by
    show _=_;rw[hgo,show 16777216-j=(16777216-(j+1))+1 by omega];show(if j<l.length then _ else _)=_;rw[if_pos hj2]
   have HP:Hid (∀k,l.length<=(zA5 n.back ls (l.getD j 0) l k).length∧(zA5 n.back ls (l.getD j 0) l k).getD j 0=l.getD j 0∧Once (2^n.sets.length) (zA5 n.back ls (l.getD j 0) l k)):=fun k=>⟨(zHX _ _ _ _ k).1,(zHX _ _ _ _ k).2 j hj2,zGb HBL.out ls _ hon k⟩
   have hxl:=(HON.out l hon).2 _ (zR l j 0 hj2);subst hu7;clear hgk ht hon hgo T5;generalize hxx:l.getD j 0=x at *;clear hxx;go_wp2;go_loopg [7,44] ls.length (fun k u i wr=>∃t:Nat,k=ls.length-t∧t<=ls.length∧i=.int .i64 (t:Int)∧Tt w wr f p N n.back u (zA5 n.back ls x l t) (fun y=>(zA5 n.back ls x l t).contains y))
   case atStart=>exact⟨0,rfl,Nat.zero_le _,rfl,HA.out.2.1⟩
   case round=>
    obtain⟨t,hgk,ht,rfl,hT⟩:=hrel;have HB:Hid (gk=ls.length-t∧Tt w wr f p N n.back u7 (zA5 n.back ls x l t) (fun y=>(zA5 n.back ls x l t).contains y)):=⟨hgk,hT⟩
    by_cases ht2:t<ls.length
    ·have i2:(t:Int)<(ls.length:Int):=by omega
     obtain⟨b1,o1,rfl,hb1,hc1,hlt1⟩:=HLC.out t ht2;have y1:wr.cell? ⟨b1,o1+t,none⟩=some (.int .i64 ((ls.getD t 0:Nat):Int)):=zA hc1 hb1 hT.keep;obtain⟨hp1,hp2,hp3⟩:=HP.out t;obtain⟨ao2,cap2,hu2,hcap2,hml2,hcs⟩:=zHL hT.own;obtain⟨b2,o2,rfl,hb2,hc2⟩:=hcs j (by omega);rw[hp2] at hc2;have i3:(j:Int)<((zA5 n.back ls x l t).length:Int):=by omega
     have HNx:Hid (zA5 n.back ls x l (t+1)=zG4 (zA5 n.back ls x l t) (zAn n.back (x&&&ls.getD t 0))):=rfl;have hl3:=(HON.out _ hp3).1;clear hgk hT hc1 hcs HP hp2 hp3;generalize zA5 n.back ls x l t=L at *;generalize ls.getD t 0=r at *;have hand:bits .and .i64 (x:Int) (r:Int)=((x&&&r:Nat):Int):=yY _ _ (by omega) (by omega);have hal:x&&&r<16777216:=Nat.lt_of_le_of_lt Nat.and_le_left hxl;generalize x&&&r=y at *;have hyl:=HBL.out y;have HOf2:=vl <| HOf.out wr p f _ _ _ HB.out.2 y hal;generalize zAn n.back y=z at *;have hz24:z<16777216:=by omega
     subst hu2;cases hcz:L.contains z with
     |true=>
      have HAd2:Hid (∀w5,Tt w w5 f p N n.back (.slice (some ⟨b2,o2,none⟩) L.length cap2) L (fun y=>L.contains y)->Calls prog 172 #[.pointer (some ⟨p,0,none⟩),.int .i64 (z:Int)] w5 fun e w'=>e=.returned (.bool false)∧Tt w w' f p N n.back (.slice (some ⟨b2,o2,none⟩) L.length cap2) L (fun y=>y==z||L.contains y)):=fun w5 h5=>by
       have:=HAd.out w5 p f _ _ _ h5 z hyl;rw[hcz] at this;exact this
      have HX:Hid (zA5 n.back ls x l (t+1)=L∧(fun y=>y==z||L.contains y)=fun y=>L.contains y):=⟨by rw[HNx.out];unfold zG4;rw[if_pos hcz],by
       funext y
       by_cases e:y=z
       ·rw[e,hcz];simp
       ·rw[show (y==z)=false by simp[e]];rfl⟩
      clear hcz;go_wp2_with (first|(go_at_call 92;refine HOf2.out.mono ?_;rintro e w5 ⟨rfl,T6⟩)|(go_at_call 172;refine(HAd2.out w5 T6).mono ?_;rintro e w6 ⟨rfl,T7⟩))
      go_roundg (ls.length-(t+1))
      case measure=>rw[HB.out.1];omega
      case rel=>
       rw[HX.out.2] at T7;exact⟨t+1,rfl,by omega,by go_num,by rw[HX.out.1];exact T7⟩
     |false=>
      have HAd2:Hid (∀w5,Tt w w5 f p N n.back (.slice (some ⟨b2,o2,none⟩) L.length cap2) L (fun y=>L.contains y)->Calls prog 172 #[.pointer (some ⟨p,0,none⟩),.int .i64 (z:Int)] w5 fun e w'=>e=.returned (.bool true)∧Tt w w' f p N n.back (.slice (some ⟨b2,o2,none⟩) L.length cap2) L (fun y=>y==z||L.contains y)):=fun w5 h5=>by
       have:=HAd.out w5 p f _ _ _ h5 z hyl;rw[hcz] at this;exact this
      have HX:Hid (zA5 n.back ls x l (t+1)=L++[z]∧(fun y=>y==z||L.contains y)=fun y=>(L++[z]).contains y):=⟨by rw[HNx.out];unfold zG4;rw[if_neg (by rw[hcz];decide)],by
       funext y
       rw[List.contains_append];by_cases e:y=z
       ·simp[e]
       ·simp[e]⟩
      clear hcz;go_wp2_with (first|(go_at_call 92;refine HOf2.out.mono ?_;rintro e w5 ⟨rfl,T6⟩)|(go_at_call 172;refine(HAd2.out w5 T6).mono ?_;rintro e w6 ⟨rfl,T7⟩;have OR:=T7.own;have hsz6:=T7.keep.size)|(at_builtin;refine wpList_append_lies _ rfl _ _ 174 rfl (w.heap.size) 21 i0 (.int .i32 0) 1 4 underlying174 hi0 hz0 hz1 hz2 rfl (by decide) _ _ _ rfl (OR.alloc _) ⟨w6.heap.size,0,none⟩ 1 1 [.int .i32 (z:Int)] rfl rfl (cell_one_new _ _ _) (by intro u hu;simp at hu;subst hu;rfl) (by decide) (by unfold maxLen;omega) (by omega) (by simp;omega) _ rfl ?_;intro gg cap3 w7 hown hgrow hat hlt3;have T8:=T7.app hown hgrow))
      go_roundg (ls.length-(t+1))
      case measure=>rw[HB.out.1];omega
      case rel=>
       rw[HX.out.2] at T8;exact⟨t+1,rfl,by omega,by go_num,by rw[HX.out.1];exact T8⟩
    ·have i2:(ls.length:Int)<=(t:Int):=by omega
     have e:t=ls.length:=by omega
     subst e;have HZ:=HP.out ls.length;clear hgk hT;go_wp2;go_roundg (16777216-(j+1))
     case measure=>rw[HA.out.1];omega
     case rel=>exact⟨j+1,_,rfl,by omega,by go_num,HB.out.2,HZ.2.2,HG2.out⟩
  ·have i1:(l.length:Int)<=(j:Int):=by omega
   have HZ:Hid (n.tails ls=l):=by
    show _=_;rw[HTT.out,hgo];cases 16777216-j with
    |zero=>rfl
    |succ k=>
     show(if j<l.length then _ else _)=_;rw[if_neg hj2]
   subst hu7;clear hgk ht hon hgo T5;go_wp2;go_ret;exact⟨_,rfl,by rw[HZ.out];exact zHL HA.out.2.1.own,HA.out.2.1.keep⟩
section
structure Ar.Good (a:Ar)(k:Nat):Prop where
 sets:∀x∈a.sets,0<=x∧x<((2^k:Nat):Int)
 letters:∀x∈a.letters,0<=x∧x<(a.sets.length:Int)
 lens:a.lows.length=a.letters.length
theorem Ar.look_lt (a:Ar)(x:Int):a.look x<(a.seen x).sets.length:=by
 unfold Ar.seen;split
 ·assumption
 ·have:a.look x<=a.sets.length:=List.findIdx_le_length
  simp;omega
theorem Ar.seen_good {a:Ar}{k:Nat}(h:a.Good k)(x:Int)(hx:0<=x∧x<((2^k:Nat):Int)):(a.seen x).Good k:=by
 unfold Ar.seen;split
 ·exact h
 ·refine⟨fun y hy=>?_,fun y hy=>?_,h.lens⟩
  ·rcases List.mem_append.1 hy with h1|h1
   ·exact h.sets y h1
   ·rw[List.mem_singleton.1 h1];exact hx
  ·have:=h.letters y hy
   simp;omega
theorem Ar.step_good (sets:List Cs){a:Ar}(h:a.Good sets.length)(low:Int):(a.step sets low).Good sets.length∧0<(a.step sets low).lows.length:=by
 have hb:=zBc (zAH sets low) sets.length;have hs:(0:Int)<=(qJ sets low:Nat)∧((qJ sets low:Nat):Int)<((2^sets.length:Nat):Int):=by
  unfold qJ;omega
 have h2:=Ar.seen_good h _ hs;have h3:=a.look_lt (qJ sets low:Nat);unfold Ar.step;split
 ·refine⟨⟨h2.sets,fun y hy=>?_,?_⟩,by simp⟩
  ·rcases List.mem_append.1 hy with h1|h1
   ·exact h2.letters y h1
   ·rw[List.mem_singleton.1 h1]
    exact⟨by omega,by show _<(((a.seen _).sets.length:Nat):Int);omega⟩
  ·have:=h2.lens
   simp;omega
 ·rename_i hn
  refine⟨h2,?_⟩;have h4:=h2.lens;apply Nat.pos_of_ne_zero;intro e;apply hn;unfold Ar.turns;rw[show (a.seen (qJ sets low)).letters.length=0 by omega];rfl
theorem zHJ (sets:List Cs)(j:Nat)(hj:j<=(xI sets).length):(qQ sets j).Good sets.length∧(0<j->0<(qQ sets j).lows.length):=by
 induction j with
 |zero=>exact⟨⟨fun x hx=>absurd hx (List.not_mem_nil),fun x hx=>absurd hx (List.not_mem_nil),rfl⟩,fun h=>absurd h (Nat.lt_irrefl _)⟩
 |succ j ih=>
  have h:=Ar.step_good sets (ih (by omega)).1 ((xI sets).getD j 0);rw[zBK sets j (by omega)];exact⟨h.1,fun _=>h.2⟩
theorem zKM (sets:List Cs):(xI sets).length=4+2*yC sets:=zFo sets _
theorem zBk (sets:List Cs):(xY sets).Good sets.length∧0<(xY sets).lows.length∧(xY sets).lows.length<=4+2*yC sets∧(xY sets).sets.length<=4+2*yC sets:=by
 have h:=zHJ sets (xI sets).length (Nat.le_refl _);have h2:=zC3 sets (xI sets).length (Nat.le_refl _);rw[zEX sets _ (Nat.le_refl _)] at h h2;have:=zKM sets;exact⟨h.1,h.2 (by omega),by omega,by omega⟩
def Ar.setsN (a:Ar):List Nat:=a.sets.map Int.toNat
theorem Ar.setsN_ints {a:Ar}{k:Nat}(h:a.Good k):a.sets=ints a.setsN:=by
 unfold ints Ar.setsN;rw[List.map_map]
 conv=>lhs;rw[<-List.map_id a.sets]
 apply List.map_congr_left;intro x hx;have:=h.sets x hx;show x=((x.toNat:Nat):Int);omega
theorem Ar.setsN_lt {a:Ar}{k:Nat}(h:a.Good k):∀x∈a.setsN,x<2^k:=by
 intro x hx;obtain⟨y,hy,rfl⟩:=List.mem_map.1 hx;have:=h.sets y hy;omega
theorem Ar.setsN_len (a:Ar):a.setsN.length=a.sets.length:=List.length_map ..
def Nt.areas (n:Nt):Ar:=xY n.sets
def Nt.letters (n:Nt):List Nat:=n.areas.setsN
def Nt.ahead (n:Nt):Nat->Nat:=spF n.follow n.follow.length
structure Nm (w w':World)(q b:Nat)(n:Nt)(sv fv rv ev lv tv av:Value):Prop where
 net:NetAt w' q n sv fv rv ev
 blk:w'.heap[b]? =some (.cells #[lv,tv,av] 172)
 ar:ArAt w' lv tv av n.areas
 keep:Grew w w'
section
variable {w w1 w2:World} {q b:Nat} {n:Nt} {sv fv rv ev lv tv av:Value}
theorem Nm.grown (h:Nm w w1 q b n sv fv rv ev lv tv av)(hk:Grew w1 w2):Nm w w2 q b n sv fv rv ev lv tv av:=by
 have hl:=(Array.getElem?_eq_some_iff.1 h.blk).1;exact⟨h.net.grown hk,(hk.block b hl (Nat.ne_of_lt hl)).trans h.blk,h.ar.grown hk,h.keep.trans (hk.lower h.keep.size h.keep.size)⟩
theorem Nm.drew (h:Nm w w1 q b n sv fv rv ev lv tv av):Nm w w1.drew q b n sv fv rv ev lv tv av:=h.grown (Keep.drew _)
theorem Nm.cells (h:Nm w w1 q b n sv fv rv ev lv tv av):w1.cell? ⟨b,0,none⟩=some lv∧w1.cell? ⟨b,1,none⟩=some tv∧w1.cell? ⟨b,2,none⟩=some av:=by
 refine⟨?_,?_,?_⟩
 all_goals (unfold cell?;rw[h.blk];rfl)
end
end
structure Nt.Fits (n:Nt):Prop where
 few:yC n.sets<=10000000000
 small:∀s∈n.sets,s.Small
theorem zEf (w:World)(q:Nat)(n:Nt)(sv fv rv ev:Value)(hN:NetAt w q n sv fv rv ev)(ok:n.Ok)(fit:n.Fits):
  Calls prog 90 #[.pointer (some ⟨q,0,none⟩)] w fun e w'=>∃p s,e=.returned (.pointer (some ⟨p,0,none⟩))∧(s.rules=n.rules∧s.tails=n.tails n.letters∧s.sets=n.letters∧s.q=q)∧SoAt w' (fun g=>g<w'.heap.size∧g≠p) p s ⟨[],[]⟩ (.slice none 0 0) (.slice none 0 0)∧ArAt w' s.lv s.tv s.sv n.areas∧SpAt w' s.f n.ahead∧s.f≠p∧w.heap.size<=p∧Grew w w':=by
 have hlen:=ok.len;have htop:=ok.top;have x0:=hN.c0;have HN:=vl hN;have HOK:Hid n.Ok:=ok;have hfew:=fit.few;have HP:Hid (Calls prog 127 #[sv] w fun e w'=>∃lv tv sv,e=.returned (.agg #[lv,tv,sv])∧ArAt w' lv tv sv (xY n.sets)∧Grew w w'):=zIG w sv n.sets hN.sets hlen (by omega) fit.small;have HG:Hid (n.areas.Good n.sets.length):=(zBk n.sets).1;have hal:n.areas.sets.length<=1000000000000:=by have:=(zBk n.sets).2.2.2;show(xY n.sets).sets.length<=_;omega
 have HSp:Hid (∀b lv tv av w1,Nm w w1 q b n sv fv rv ev lv tv av->Calls prog 128 #[fv] w1 fun e w'=>∃f,e=.returned (.pointer (some ⟨f,0,none⟩))∧SpAt w' f n.ahead∧f≠b∧Nm w w' q b n sv fv rv ev lv tv av∧Grew w1 w'):=fun b lv tv av w1 hm=>by
  refine(zBv w1 fv n.follow hm.net.follow (by rw[HOK.out.fl];exact hlen) fun x hx=>Nat.lt_of_lt_of_le (HOK.out.fs x hx) htop).mono ?_;rintro e w2 ⟨rfl,h1,h2⟩;have hl:=(Array.getElem?_eq_some_iff.1 hm.blk).1;exact⟨_,rfl,h1,by omega,hm.grown h2,h2⟩
 have HTl:Hid (∀b lv tv av w1,Nm w w1 q b n sv fv rv ev lv tv av->Calls prog 129 #[.pointer (some ⟨q,0,none⟩),av] w1 fun e w'=>∃u,e=.returned u∧I32s w' (In w') u (n.tails n.letters)∧Nm w w' q b n sv fv rv ev lv tv av∧Grew w1 w'):=fun b lv tv av w1 hm=>by
  have hs:=hm.ar.sets;rw[Ar.setsN_ints HG.out] at hs;refine(zFy w1 q n sv fv rv ev hm.net HOK.out av n.letters hs (by show n.areas.setsN.length<=_;rw[Ar.setsN_len];exact hal) fun x hx=>Nat.lt_of_lt_of_le (Ar.setsN_lt HG.out x hx) htop).mono ?_;rintro e w2 ⟨u,rfl,h1,h2⟩;exact⟨u,rfl,h1,hm.grown h2,h2⟩
 clear hN ok fit;go_in;go_wp2_with (first|(go_at_call 127;refine HP.out.mono ?_;rintro e w1 ⟨lv,tv,av,rfl,ha1,hk1⟩;obtain⟨al,cl,rfl,-⟩:=id ha1.lows;obtain⟨at_,ct,rfl,-⟩:=id ha1.letters;obtain⟨as_,cs,rfl,-⟩:=id ha1.sets;have HA1:Hid (ArAt w1 (.slice al (xY n.sets).lows.length cl) (.slice at_ (xY n.sets).letters.length ct) (.slice as_ (xY n.sets).sets.length cs) (xY n.sets)∧Grew w w1):=⟨ha1,hk1⟩;clear ha1))
 obtain⟨w2,hw2,HM⟩:∃w2,w2=w1.alloc (Obj.cells #[Value.slice al (xY n.sets).lows.length cl,Value.slice at_ (xY n.sets).letters.length ct,Value.slice as_ (xY n.sets).sets.length cs] 172)∧Hid (Nm w w2 q w1.heap.size n sv fv rv ev (.slice al (xY n.sets).lows.length cl) (.slice at_ (xY n.sets).letters.length ct) (.slice as_ (xY n.sets).sets.length cs)):=by
  have hk2:=Keep.alloc (b:=w1.heap.size) w1 (Obj.cells #[Value.slice al (xY n.sets).lows.length cl,Value.slice at_ (xY n.sets).letters.length ct,Value.slice as_ (xY n.sets).sets.length cs] 172) (Nat.le_refl _);have hk3:=HA1.out.2.trans (hk2.lower (c:=w.heap.size) HA1.out.2.size HA1.out.2.size);exact⟨_,rfl,⟨HN.out.grown hk3,heap_alloc_new _ _,HA1.out.1.grown hk2,hk3⟩⟩
 rw[<-hw2];have hwl:w.heap.size<=w1.heap.size:=HA1.out.2.size;clear hw2 HA1 hk1 x0 HP;obtain⟨y0,y1,y2⟩:=HM.out.cells;have y3:=HM.out.net.c1;generalize w1.heap.size=b at *;generalize (xY n.sets).lows.length=l0 at *;generalize (xY n.sets).letters.length=l1 at *;generalize (xY n.sets).sets.length=l2 at *;go_region_held3 (fun w'=>w'.cell? ⟨b,0,none⟩=some (.slice al l0 cl)∧w'.cell? ⟨b,1,none⟩=some (.slice at_ l1 ct)∧w'.cell? ⟨b,2,none⟩=some (.slice as_ l2 cs)∧w'.cell? ⟨q,1,none⟩=some fv) (first|exact⟨z0,z1,z2,z3⟩|go_keep) (first|(go_at_call 128;go_must ((refine (HSp.out _ _ _ _ _ (by first|exact hmT|exact HM.out.drew)).mono ?_;rintro e wS ⟨f,rfl,hsp,hfb,hmS,hkS⟩;obtain⟨z0,z1,z2⟩:=hmS.cells;have z3:=hmS.net.c1)))|(go_at_call 129;go_must ((refine (HTl.out _ _ _ _ _ (by first|exact hmS|exact HM.out.drew)).mono ?_;rintro e wT ⟨tl,rfl,htl,hmT,hkT⟩;obtain⟨atl,ctl,rfl,-⟩:=id htl;obtain⟨z0,z1,z2⟩:=hmT.cells;have z3:=hmT.net.c1))));have HF:Hid (SpAt wT f n.ahead∧Nm w wT q b n sv fv rv ev (.slice al l0 cl) (.slice at_ l1 ct) (.slice as_ l2 cs)∧I32s wT (In wT) (.slice atl (n.tails n.letters).length ctl) (n.tails n.letters)):=⟨hsp.keep (hkT.block f hsp.lt (Nat.ne_of_lt hsp.lt)),hmT,htl⟩
 clear hsp hmS hkS hmT hkT htl;go_wp2;go_ret;obtain⟨hsp,hm,htl⟩:=HF.out;have hka:=Keep.alloc (b:=wT.heap.size) wT (Obj.cells #[Value.pointer (some ⟨q,0,none⟩),Value.slice al l0 cl,Value.slice at_ l1 ct,Value.slice as_ l2 cs,Value.pointer (some ⟨f,0,none⟩),Value.slice atl (n.tails n.letters).length ctl,Value.slice none 0 0,Value.slice none 0 0] 176) (Nat.le_refl _);have hin:∀g,In wT g->g<(wT.alloc (Obj.cells #[Value.pointer (some ⟨q,0,none⟩),Value.slice al l0 cl,Value.slice at_ l1 ct,Value.slice as_ l2 cs,Value.pointer (some ⟨f,0,none⟩),Value.slice atl (n.tails n.letters).length ctl,Value.slice none 0 0,Value.slice none 0 0] 176)).heap.size∧g≠wT.heap.size:=fun g hg=>by
  have:g<wT.heap.size:=hg;simp;omega
 have e:∀g,In wT g->(wT.alloc (Obj.cells #[Value.pointer (some ⟨q,0,none⟩),Value.slice al l0 cl,Value.slice at_ l1 ct,Value.slice as_ l2 cs,Value.pointer (some ⟨f,0,none⟩),Value.slice atl (n.tails n.letters).length ctl,Value.slice none 0 0,Value.slice none 0 0] 176)).heap[g]? =wT.heap[g]? :=fun g hg=>Below.heap_alloc _ _ _ hg;have hon:=Once.top HOK.out (Nt.tails_once HOK.out n.letters);have hm2:=hm.grown hka;have hss:=hm.ar.sets;rw[Ar.setsN_ints HG.out] at hss;refine⟨wT.heap.size,⟨n.rules,n.tails n.letters,n.letters,q,f,.slice al l0 cl,.slice at_ l1 ct,.slice as_ l2 cs,.slice atl (n.tails n.letters).length ctl,rv⟩,rfl,⟨rfl,rfl,rfl,rfl⟩,?_,hm2.ar,hsp.keep (e f hsp.lt),Nat.ne_of_lt hsp.lt,hm.keep.size,hm2.keep⟩;exact⟨heap_alloc_new _ _,OwnI.nil _ _,OwnI.nil _ _,fun g hg=>(by cases hg),fun g _ hg=>(by cases hg),fun g _ hg=>(by cases hg),fun h=>h.2 rfl,fun g hg=>hg.1,by simp,(cell?_of_block (e q hm.net.lq)).trans hm.net.c4,hin q hm.net.lq,(hm.net.rules.keep e).mono hin,HOK.out.eight,fun r hr=>Nat.lt_of_lt_of_le (HOK.out.rs r hr) htop,(htl.keep e).mono hin,hon.2,hon.1,(hss.keep e).mono hin,fun x hx=>Nat.lt_of_lt_of_le (Ar.setsN_lt HG.out x hx) htop,fun x hx=>absurd hx List.not_mem_nil,fun x hx=>absurd hx List.not_mem_nil⟩
def zBw (rows:List (List Int))(rules:List Int)(next:List Int)(i:Nat):Bool:=rules.getD i 0== -1&&decide (rows.getD i []=next)
def zAl (rows:List (List Int))(rules:List Int)(next:List Int):Nat:=(List.range rows.length).findIdx (zBw rows rules next)
theorem qK (n j:Nat)(hj:j<n):(List.range n).getD j 0=j:=by
 rw[List.getD_eq_getElem?_getD,List.getElem?_range hj];rfl
theorem zL6 (rows:List (List Int))(rules next:List Int)(j:Nat)(hj:j<rows.length)(h:zBw rows rules next j=true)(hn:∀i,i<j->zBw rows rules next i=false):zAl rows rules next=j:=
 zDd _ _ j (by rw[List.length_range];exact hj) (by rw[qK _ _ hj];exact h) fun i hi=>by rw[qK _ _ (by omega)];exact hn i hi
theorem zKl (rows:List (List Int))(rules next:List Int)(hn:∀i,i<rows.length->zBw rows rules next i=false):zAl rows rules next=rows.length:=by
 have h:=zA6 (List.range rows.length) (zBw rows rules next) fun i hi=>by
  rw[List.length_range] at hi;rw[qK _ _ hi];exact hn i hi
 rw[List.length_range] at h;exact h
theorem zJw (rows:List (List Int))(rules next:List Int):zAl rows rules next<=rows.length:=by
 have h:(List.range rows.length).findIdx (zBw rows rules next)<=(List.range rows.length).length:=List.findIdx_le_length;rw[List.length_range] at h;exact h
theorem zIT (w:World)(kb:Nat)(nv rv tv:Value)(rows:List (List Int))(rules next:List Int)(hl:kb<w.heap.size)(h3:w.cell? ⟨kb,3,none⟩=some nv)(h4:w.cell? ⟨kb,4,none⟩=some rv)(hN:IntRows w (In w) nv rows)(hR:Ints w (In w) rv rules)(hrl:rules.length=rows.length)(hrn:rows.length<=1000000000000)(hT:Ints w (In w) tv next)(hlen:∀r∈rows,r.length<=1000000000000):
  Calls prog 95 #[.pointer (some ⟨kb,0,none⟩),tv] w fun e w'=>e=.returned (.int .i64 ((zAl rows rules next:Nat):Int))∧Grew w w':=by
 obtain⟨an,cn,rfl,_,_,hnc⟩:=hN;obtain⟨ar,cr,rfl,_,_,hrc⟩:=hR;rw[hrl] at h4 hrc;have HN:=vl hnc;have HR:=vl hrc;have HE:Hid (∀wr u i,i<rows.length->Grew w wr->Ints w (In w) u (rows.getD i [])->Calls prog 132 #[u,tv] wr fun e w'=>e=.returned (.bool (decide (rows.getD i []=next)))∧Grew w w'):=fun wr u i hi hk hu=>by
  refine(zH0 wr u tv _ next (hu.grown hk) (hT.grown hk) (hlen _ (zR _ _ _ hi))).mono ?_;rintro e w2 ⟨rfl,hk2⟩;exact⟨rfl,hk.trans (hk2.lower hk.size hk.size)⟩
 have H1:=vl <| zL6 rows rules next
 have H2:=vl <| zKl rows rules next
 go_in;go_wp2;go_loopg [12] rows.length (fun k i wr=>∃j:Nat,k=rows.length-j∧j<=rows.length∧i=.int .i64 (j:Int)∧(∀i,i<j->zBw rows rules next i=false)∧Grew w wr)
 case atStart=>exact⟨0,rfl,Nat.zero_le _,rfl,fun i hi=>by omega,⟨rfl,rfl,Nat.le_refl _,fun _ _ _=>rfl⟩⟩
 case round=>
  obtain⟨j,hgk,hj,rfl,hno,hkp⟩:=hrel;have HB:Hid (gk=rows.length-j∧(∀i,i<j->zBw rows rules next i=false)∧Grew w wr):=⟨hgk,hno,hkp⟩
  have x3:=zA h3 hl hkp;have x4:=zA h4 hl hkp;by_cases hj2:j<rows.length
  ·have i1:(j:Int)<(rows.length:Int):=by omega
   obtain⟨b1,o1,u,rfl,hb1,hc1,hu⟩:=HN.out j hj2;obtain⟨b2,o2,rfl,hb2,hc2⟩:=HR.out j hj2;obtain⟨au,cu,hu2,-⟩:=id hu;have y1:=zA hc1 hb1 hkp;have y2:=zA hc2 hb2 hkp;have HC:=vl <| HE.out wr u j hj2 hkp hu;have HV:Hid (zBw rows rules next j=(rules.getD j 0== -1&&decide (rows.getD j []=next))):=rfl;have HL3:Hid (zBw rows rules next j=true->zAl rows rules next=j):=fun h=>H1.out j hj2 h HB.out.2.1;have HN3:Hid (zBw rows rules next j=false->∀i,i<j+1->zBw rows rules next i=false):=fun h i hi=>by
    by_cases e:i=j
    ·rw[e];exact h
    ·exact HB.out.2.1 i (by omega)
   generalize (rows.getD j []).length=ul at *;subst hu2;generalize decide (rows.getD j []=next)=d at *;generalize rules.getD j 0=r at *;by_cases hr:r=-1
   ·subst hr
    cases d with
    |true=>
     have HR2:=vl <| HL3.out (by rw[HV.out];rfl);go_wp2_with (first|(go_at_call 132;refine HC.out.mono ?_;rintro e w5 ⟨rfl,hk5⟩))
     go_ret;exact⟨by rw[HR2.out];rfl,hk5⟩
    |false=>
     have HR2:=vl <| HN3.out (by rw[HV.out];rfl);go_wp2_with (first|(go_at_call 132;refine HC.out.mono ?_;rintro e w5 ⟨rfl,hk5⟩))
     go_roundg (rows.length-(j+1))
     case measure=>rw[HB.out.1];omega
     case rel=>exact⟨j+1,rfl,by omega,by go_num,HR2.out,hk5⟩
   ·have hc:(r== -1)=false:=by simp[hr]
    have HR2:=vl <| HN3.out (by rw[HV.out,hc];rfl);go_wp2;go_roundg (rows.length-(j+1))
    case measure=>rw[HB.out.1];omega
    case rel=>exact⟨j+1,rfl,by omega,by go_num,HR2.out,HB.out.2.2⟩
  ·have i1:(rows.length:Int)<=(j:Int):=by omega
   have HR2:=vl <| H2.out fun i hi=>hno i (by omega);go_wp2;go_ret;exact⟨by rw[HR2.out];rfl,HB.out.2.2⟩
section
theorem SoY.set {w:World}{X Y:Nat->Prop}{p b i:Nat}{s:Sq}{d:Sf}{x:Value}(h:SoY w X Y p s d)(hb:Y b)(hx:¬X b):SoY (w.setCell ⟨b,i,none⟩ x) X Y p s d:=by
 obtain⟨fv,mv,h,hY⟩:=h;obtain⟨hbl,hbp,hbf,hbm⟩:=hY b hb;have e:∀k,k≠b->(w.setCell ⟨b,i,none⟩ x).heap[k]? =w.heap[k]? :=fun k hk=>Below.heap_setCell _ _ _ _ hk;have eX:∀k,X k->(w.setCell ⟨b,i,none⟩ x).heap[k]? =w.heap[k]? :=fun k hk=>e k fun e2=>hx (e2 ▸ hk);exact⟨fv,mv,⟨(e p (Ne.symm hbp)).trans h.blk,zD h.own1 fun k _ _ hk=>e k fun e2=>hbf (by rw[hk,e2]),zD h.own2 fun k _ _ hk=>e k fun e2=>hbm (by rw[hk,e2]),h.ne,h.xf,h.xm,h.xp,fun g hg=>by rw[zC];exact h.xl g hg,by rw[zC];exact h.lp,(cell?_of_block (eX _ h.xq)).trans h.net,h.xq,h.rls.keep eX,h.eight,h.rsm,h.tls.keep eX,h.tsm,h.tlen,h.sts.keep eX,h.ssm,h.fsm,h.msm⟩,fun g hg=>by rw[zC];exact hY g hg⟩
structure Kw (w1 w:World)(H p kb:Nat)(Z:Nat->Prop)(s:Sq)(d:Sf)(lv tv sv nv rv u8:Value)(us:Nat->Value)(rows:List (List Nat))(rules:List Int)(start:List Nat)(st dd:Int):Prop where
 blk:w.heap[kb]? =some (.cells #[lv,tv,sv,nv,rv,.int .i64 st,.int .i64 dd] 178)
 nOwn:Row w H 45 nv rows.length us
 each:∀i,i<rows.length->Ints w Z (us i) (ints (rows.getD i []))
 rOwn:OwnI w H rv rules
 stA:Ints w Z u8 (ints start)
 zr:∀g,Z g->some g≠rv.ownBlock
 zn:∀g,Z g->some g≠nv.ownBlock
 zk:∀g,Z g->g≠kb
 zH:∀g,Z g->H<=g
 so:SoY w (fun g=>g<H∧g≠p) (fun g=>Z g∨g=kb∨some g=nv.ownBlock∨some g=rv.ownBlock) p s d
 kbH:H<=kb
 keep:KeepX (fun g=>g<H∧g≠p) w1 w
section
variable {w1 w w2:World} {H p kb:Nat} {Z:Nat->Prop} {s:Sq} {d d':Sf} {lv tv sv nv rv u8 u:Value} {us:Nat->Value} {rows:List (List Nat)} {rules:List Int} {start l:List Nat} {st dd:Int}
theorem Kw.zl (h:Kw w1 w H p kb Z s d lv tv sv nv rv u8 us rows rules start st dd):∀g,Z g->g<w.heap.size:=by
 obtain⟨fv,mv,_,hY⟩:=h.so;exact fun g hg=>(hY g (.inl hg)).1
theorem Kw.kl (h:Kw w1 w H p kb Z s d lv tv sv nv rv u8 us rows rules start st dd):kb<w.heap.size:=(Array.getElem?_eq_some_iff.1 h.blk).1
theorem Kw.cells (h:Kw w1 w H p kb Z s d lv tv sv nv rv u8 us rows rules start st dd):w.cell? ⟨kb,3,none⟩=some nv∧w.cell? ⟨kb,4,none⟩=some rv∧w.cell? ⟨kb,5,none⟩=some (.int .i64 st)∧w.cell? ⟨kb,6,none⟩=some (.int .i64 dd)∧∀i,w.frozen? ⟨kb,i,none⟩=false:=by
 refine⟨?_,?_,?_,?_,fun i=>?_⟩
 all_goals first|(unfold cell?;rw[h.blk];rfl)|(unfold frozen?;rw[h.blk];simp)
theorem Kw.nbox (h:Kw w1 w H p kb Z s d lv tv sv nv rv u8 us rows rules start st dd):some kb≠nv.ownBlock∧some kb≠rv.ownBlock:=⟨zL h.nOwn h.blk (by decide),zL h.rOwn h.blk (by decide)⟩
theorem Kw.call {Z':Nat->Prop}(h:Kw w1 w H p kb Z s d lv tv sv nv rv u8 us rows rules start st dd)(hk:KeepX (fun g=>(g<H∧g≠p)∨(Z g∨g=kb∨some g=nv.ownBlock∨some g=rv.ownBlock)) w w2)(hZ:∀g,Z g->Z' g)(hZ2:∀g,Z' g->Z g∨w.heap.size<=g)(hs:SoY w2 (fun g=>g<H∧g≠p) (fun g=>Z' g∨g=kb∨some g=nv.ownBlock∨some g=rv.ownBlock) p s d'):Kw w1 w2 H p kb Z' s d' lv tv sv nv rv u8 us rows rules start st dd:=by
 have eZ:∀b,Z b->w2.heap[b]? =w.heap[b]? :=fun b hb=>hk.block b (.inr (.inl hb));have hH:=Nat.le_trans h.kbH (Nat.le_of_lt h.kl);refine⟨(hk.block kb (.inr (.inr (.inl rfl)))).trans h.blk,zD h.nOwn fun g _ _ hg=>hk.block g (.inr (.inr (.inr (.inl hg.symm)))),fun i hi=>((h.each i hi).keep eZ).mono hZ,zD h.rOwn fun g _ _ hg=>hk.block g (.inr (.inr (.inr (.inr hg.symm)))),(h.stA.keep eZ).mono hZ,fun g hg=>?_,fun g hg=>?_,fun g hg=>?_,fun g hg=>?_,hs,h.kbH,h.keep.trans (hk.mono fun k hk=>.inl hk)⟩
 ·rcases hZ2 g hg with h1|h1
  ·exact h.zr g h1
  ·intro e;have:=(h.rOwn.lt g e.symm).2;omega
 ·rcases hZ2 g hg with h1|h1
  ·exact h.zn g h1
  ·intro e;have:=(h.nOwn.lt g e.symm).2;omega
 ·rcases hZ2 g hg with h1|h1
  ·exact h.zk g h1
  ·have:=h.kl;omega
 ·rcases hZ2 g hg with h1|h1
  ·exact h.zH g h1
  ·omega
theorem Kw.grown (h:Kw w1 w H p kb Z s d lv tv sv nv rv u8 us rows rules start st dd)(hk:Grew w w2):Kw w1 w2 H p kb Z s d lv tv sv nv rv u8 us rows rules start st dd:=by
 obtain⟨fv,mv,hs,hY⟩:=id h.so;refine h.call (hk.kx fun k hk2=>?_) (fun _ h=>h) (fun _ h=>.inl h) (h.so.grown hk fun g hg=>⟨Nat.lt_of_lt_of_le (hY g hg).1 hk.size,.inl hg⟩);have:=hk2.elim (hs.xl k) fun e=>(hY k e).1;omega
theorem Kw.setC {i:Nat}{x:Value}{st' dd':Int}(h:Kw w1 w H p kb Z s d lv tv sv nv rv u8 us rows rules start st dd)(hb:(w.setCell ⟨kb,i,none⟩ x).heap[kb]? =some (.cells #[lv,tv,sv,nv,rv,.int .i64 st',.int .i64 dd'] 178)):Kw w1 (w.setCell ⟨kb,i,none⟩ x) H p kb Z s d lv tv sv nv rv u8 us rows rules start st' dd':=by
 have e:∀k,k≠kb->(w.setCell ⟨kb,i,none⟩ x).heap[k]? =w.heap[k]? :=fun k hk=>Below.heap_setCell _ _ _ _ hk;have hnb:=h.nbox;have hkH:=h.kbH;exact⟨hb,zD h.nOwn fun g _ _ hg=>e g fun e2=>hnb.1 (by rw[hg,e2]),fun i hi=>(h.each i hi).keep fun b hb=>e b (h.zk b hb),zD h.rOwn fun g _ _ hg=>e g fun e2=>hnb.2 (by rw[hg,e2]),h.stA.keep fun b hb=>e b (h.zk b hb),h.zr,h.zn,h.zk,h.zH,h.so.set (.inr (.inl rfl)) (fun e2=>by omega),h.kbH,h.keep.trans ⟨rfl,rfl,by rw[zC];exact Nat.le_refl _,fun k hk=>e k (by omega)⟩⟩
theorem Kw.setStart (h:Kw w1 w H p kb Z s d lv tv sv nv rv u8 us rows rules start st dd)(x:Int):Kw w1 (w.setCell ⟨kb,5,none⟩ (.int .i64 x)) H p kb Z s d lv tv sv nv rv u8 us rows rules start x dd:=h.setC (by simp[setCell,Array.getElem?_modify,h.blk])
theorem Kw.setDead (h:Kw w1 w H p kb Z s d lv tv sv nv rv u8 us rows rules start st dd)(x:Int):Kw w1 (w.setCell ⟨kb,6,none⟩ (.int .i64 x)) H p kb Z s d lv tv sv nv rv u8 us rows rules start st x:=h.setC (by simp[setCell,Array.getElem?_modify,h.blk])
theorem Kw.start_of (h:Kw w1 w H p kb Z s d lv tv sv nv rv u8 us rows rules start st dd)(hu:Ints w Z u (ints l)):Kw w1 w H p kb Z s d lv tv sv nv rv u us rows rules l st dd:={h with stA:=hu}
theorem Kw.snocN {o:Obj}{g cap m:Nat}(h:Kw w1 w H p kb Z s d lv tv sv nv rv u8 us rows rules start st dd)(hm:m=rows.length)(hu:Ints w Z u (ints l))(hown:w2.ownsRow H 45 1 (.slice (some ⟨g,0,none⟩) (m+1) cap) (m+1) ((List.range m).map us++[u]))(hg:(w.alloc o).grownBy w2 nv.ownBlock)(hat:nv.ownBlock=some g∨w.heap.size<=g):
  Kw w1 (w2.setCell ⟨kb,3,none⟩ (.slice (some ⟨g,0,none⟩) (m+1) cap)) H p kb Z s d lv tv sv (.slice (some ⟨g,0,none⟩) (m+1) cap) rv u8 (fun i=>if i=m then u else us i) (rows++[l]) rules start st dd:=by
 subst hm;have hkl:=h.kl;have hkH:=h.kbH;have hnb:=h.nbox;have hbl:∀j,j<w.heap.size->some j≠nv.ownBlock->w2.heap[j]? =w.heap[j]? :=fun j hj hf=>(hg.block j (by simp;omega) hf).trans (Below.heap_alloc _ _ _ (by omega));have hb:=(hbl kb hkl hnb.1).trans h.blk;have hsz:w.heap.size<=w2.heap.size:=Nat.le_trans (by simp) hg.size;have e:∀k,k≠kb->(w2.setCell ⟨kb,3,none⟩ (.slice (some ⟨g,0,none⟩) (rows.length+1) cap)).heap[k]? =w2.heap[k]? :=fun k hk=>Below.heap_setCell _ _ _ _ hk;have eZ:∀k,Z k->(w2.setCell ⟨kb,3,none⟩ (.slice (some ⟨g,0,none⟩) (rows.length+1) cap)).heap[k]? =w.heap[k]? :=fun k hk=>(e k (h.zk k hk)).trans (hbl k (h.zl k hk) (h.zn k hk));have hkg:kb≠g:=fun e2=>by
  rcases hat with ha|ha
  ·exact hnb.1 (by rw[ha,e2])
  ·omega
 have hR2:=zP hg h.rOwn fun k hk=>xM h.rOwn h.nOwn (by decide) hk;have hgl:=(hown.lt g rfl).2;have hso:SoY w2 (fun g=>g<H∧g≠p) (fun k=>Z k∨k=kb∨some k=(Value.slice (some ⟨g,0,none⟩) (rows.length+1) cap).ownBlock∨some k=rv.ownBlock) p s d:=by
  refine h.so.app (v:=nv) (fun k hk=>⟨.inr (.inr (.inl hk)),fun e2=>by have:=(h.nOwn.lt k hk.symm).1;omega⟩) hg hat hgl fun k hk=>?_;rcases hk with h1|h1|h1|h1
  ·exact .inl (.inl h1)
  ·exact .inl (.inr (.inl h1))
  ·exact .inr (by simpa[Value.ownBlock] using h1)
  ·exact .inl (.inr (.inr (.inr h1)))
 refine⟨by simp[setCell,Array.getElem?_modify,hb],?_,fun i hi=>?_,zD hR2 fun k _ _ hk=>e k fun e2=>hnb.2 (by rw[hk,e2]),h.stA.keep eZ,h.zr,fun k hk e2=>?_,h.zk,h.zH,hso.set (.inr (.inl rfl)) (fun e2=>by omega),h.kbH,h.keep.trans ⟨hg.os,hg.output,by rw[zC];exact hsz,fun k hk=>(e k (by omega)).trans (hbl k (by omega) fun e2=>by have:=(h.nOwn.lt k e2.symm).1;omega)⟩⟩
 ·have h2:Row w2 H 45 (.slice (some ⟨g,0,none⟩) (rows.length+1) cap) (rows.length+1) (fun i=>if i=rows.length then u else us i):=by
   unfold Row;rw[jO];rw[show (List.range rows.length).map (fun i=>if i=rows.length then u else us i)=(List.range rows.length).map us from List.map_congr_left fun i hi=>by rw[if_neg (by have:=List.mem_range.1 hi;omega)]];rw[if_pos rfl];exact hown
  have e3:(rows++[l]).length=rows.length+1:=by simp
  rw[e3];exact zD h2 fun k _ _ hk=>e k fun e2=>by
   have:g=k:=by simpa[Value.ownBlock] using hk
   omega
 ·by_cases e3:i=rows.length
  ·subst e3
   rw[if_pos rfl,List.getD_eq_getElem?_getD,List.getElem?_append_right (Nat.le_refl _),Nat.sub_self];exact hu.keep eZ
  ·have hi2:i<rows.length:=by simp at hi;omega
   rw[if_neg e3,List.getD_eq_getElem?_getD,List.getElem?_append_left hi2,<-List.getD_eq_getElem?_getD];exact(h.each i hi2).keep eZ
 ·have e4:k=g:=by simpa[Value.ownBlock] using e2
  subst e4;rcases hat with ha|ha
  ·exact h.zn k hk ha.symm
  ·have:=h.zl k hk;omega
theorem Kw.snocR {o:Obj}{g cap m:Nat}{x:Int}(h:Kw w1 w H p kb Z s d lv tv sv nv rv u8 us rows rules start st dd)(hm:m=rules.length)(hown:w2.ownsRow H 3 1 (.slice (some ⟨g,0,none⟩) (m+1) cap) (m+1) ((rules.map fun x=>.int .i64 x)++[.int .i64 x]))(hg:(w.alloc o).grownBy w2 rv.ownBlock)(hat:rv.ownBlock=some g∨w.heap.size<=g):
  Kw w1 (w2.setCell ⟨kb,4,none⟩ (.slice (some ⟨g,0,none⟩) (m+1) cap)) H p kb Z s d lv tv sv nv (.slice (some ⟨g,0,none⟩) (m+1) cap) u8 us rows (rules++[x]) start st dd:=by
 subst hm;have hkl:=h.kl;have hkH:=h.kbH;have hnb:=h.nbox;have hbl:∀j,j<w.heap.size->some j≠rv.ownBlock->w2.heap[j]? =w.heap[j]? :=fun j hj hf=>(hg.block j (by simp;omega) hf).trans (Below.heap_alloc _ _ _ (by omega));have hb:=(hbl kb hkl hnb.2).trans h.blk;have hsz:w.heap.size<=w2.heap.size:=Nat.le_trans (by simp) hg.size;have e:∀k,k≠kb->(w2.setCell ⟨kb,4,none⟩ (.slice (some ⟨g,0,none⟩) (rules.length+1) cap)).heap[k]? =w2.heap[k]? :=fun k hk=>Below.heap_setCell _ _ _ _ hk;have eZ:∀k,Z k->(w2.setCell ⟨kb,4,none⟩ (.slice (some ⟨g,0,none⟩) (rules.length+1) cap)).heap[k]? =w.heap[k]? :=fun k hk=>(e k (h.zk k hk)).trans (hbl k (h.zl k hk) (h.zr k hk));have hkg:kb≠g:=fun e2=>by
  rcases hat with ha|ha
  ·exact hnb.2 (by rw[ha,e2])
  ·omega
 have hN2:=zP hg h.nOwn fun k hk=>xM h.nOwn h.rOwn (by decide) hk;have hgl:=(hown.lt g rfl).2;have hso:SoY w2 (fun g=>g<H∧g≠p) (fun k=>Z k∨k=kb∨some k=nv.ownBlock∨some k=(Value.slice (some ⟨g,0,none⟩) (rules.length+1) cap).ownBlock) p s d:=by
  refine h.so.app (v:=rv) (fun k hk=>⟨.inr (.inr (.inr hk)),fun e2=>by have:=(h.rOwn.lt k hk.symm).1;omega⟩) hg hat hgl fun k hk=>?_;rcases hk with h1|h1|h1|h1
  ·exact .inl (.inl h1)
  ·exact .inl (.inr (.inl h1))
  ·exact .inl (.inr (.inr (.inl h1)))
  ·exact .inr (by simpa[Value.ownBlock] using h1)
 refine⟨by simp[setCell,Array.getElem?_modify,hb],zD hN2 fun k _ _ hk=>e k fun e2=>hnb.1 (by rw[hk,e2]),fun i hi=>(h.each i hi).keep eZ,?_,h.stA.keep eZ,fun k hk e2=>?_,h.zn,h.zk,h.zH,hso.set (.inr (.inl rfl)) (fun e2=>by omega),h.kbH,h.keep.trans ⟨hg.os,hg.output,by rw[zC];exact hsz,fun k hk=>(e k (by omega)).trans (hbl k (by omega) fun e2=>by have:=(h.rOwn.lt k e2.symm).1;omega)⟩⟩
 ·exact zD (OwnI.snoc hown) fun k _ _ hk=>e k fun e2=>by
   have:g=k:=by simpa[Value.ownBlock] using hk
   omega
 ·have e4:k=g:=by simpa[Value.ownBlock] using e2
  subst e4;rcases hat with ha|ha
  ·exact h.zr k hk ha.symm
  ·have:=h.zl k hk;omega
end
end
end Go.Proofs.YtbjcfkdnjaiclaaGreat
