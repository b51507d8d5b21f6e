import Derived.Test.YtbjcfkdnjaiclaaGreatB0
import Derived.Test.YtbjcfkdnjaiclaaGreatB3
/- Parts of the proof, in order. -/
set_option linter.unusedVariables false
set_option linter.unusedSimpArgs false
set_option maxHeartbeats 4000000
set_option maxRecDepth 100000
namespace Go.Proofs.YtbjcfkdnjaiclaaGreat
open Go.RowKit Go.Proofs.Tryz Go.World
theorem OwnI.row {w:World}{H:Nat}{v:Value}{l:List Int}(h:OwnI w H v l)(n:Nat)(hn:l.length=n)(f:Nat->Int)(hf:∀i,i<n->l.getD i 0=f i):Row w H 3 v n fun i=>.int .i64 (f i):=by
 unfold Row;subst hn;have e:(List.range l.length).map (fun i=>Value.int .i64 (f i))=l.map fun x=>.int .i64 x:=by
  apply List.ext_getElem?;intro i;rw[List.getElem?_map,List.getElem?_map];by_cases hi:i<l.length
  ·rw[List.getElem?_range hi,List.getElem?_eq_getElem hi]
   simp only[Option.map_some];rw[<-hf i hi,List.getD_eq_getElem?_getD,List.getElem?_eq_getElem hi];rfl
  ·rw[List.getElem?_eq_none (by simpa using hi),List.getElem?_eq_none (by omega)]
   rfl
 rw[e];exact h
theorem Gt.memB {w:World}{H p:Nat}{c:Tc}{ms:List Sm}{acts pushed:List Int}{hold:Nat}(h:Gt w H p c (zB ms 256).1 acts pushed (zS (zB ms 256).1 ms ms.length).starts (zS (zB ms 256).1 ms ms.length).ends (zS (zB ms 256).1 ms ms.length).next)(hok:ModesOk ms)
  (ha:∀i,i<acts.length->0<=acts.getD i 0) (hpl:pushed.length=acts.length) (hp:∀i,i<pushed.length->0<=pushed.getD i 0)
  (c0:c.stream=.bool false) (c1:c.ahead=.int .i64 (0:Nat)) (c2:c.hold=.int .i64 (hold:Nat)) (c7:c.count=.int .i64 ((zB ms 256).2:Nat)) (c11:c.rows=.int .i64 (0:Nat)) (c12:c.longer=.slice none 0 0):MemB w H p c (xL ms acts pushed hold):=by
 obtain⟨s1,s2,s3,s4⟩:=zAF (zB ms 256).1 ms hok ms.length (Nat.le_refl _);obtain⟨b1,b2,b3⟩:=zBS ms hok ms.length (Nat.le_refl _);obtain⟨rv,n1,n2⟩:=h.next
 refine⟨h.tp,c0,c1,c2,c7,c11,h.starts.row _ s1 _ fun i hi=>?_,h.acts.1.row _ rfl _ fun i hi=>?_,h.pushed.1.row _ hpl _ fun i hi=>?_,h.kinds.1.row _ (qZ ms 256).1 _ fun i hi=>?_,⟨rv,?_,fun i hi=>(n2 i (by rw[s2];exact hi)).1.row _ ?_ _ fun k hk=>?_⟩,h.ends.row _ s3 _ fun i hi=>rfl,?_,h.HH⟩
 ·have:=b1 _ (zR _ i 0 (by omega))
  show _=(((zS (zB ms 256).1 ms ms.length).starts.getD i 0).toNat:Int);omega
 ·have:=ha i hi
  show _=((acts.getD i 0).toNat:Int);omega
 ·have hi':i<acts.length:=hi
  have:=hp i (by omega);show _=((pushed.getD i 0).toNat:Int);omega
 ·have:=zDE ms 256 i hi
  show _=(((zB ms 256).1.getD i 0).toNat:Int);omega
 ·have h:=n1
  rw[s2] at h;exact h
 ·exact(b3 _ (zR _ i [] (by rw[s2];exact hi))).1
 ·have hi':i<zO ms ms.length:=hi
  have hr:=b3 _ (zR _ i [] (by omega));have hk':k<(zB ms 256).2:=hk;have hx:=hr.2 _ (zR _ k 0 (by omega));show _=((((zS (zB ms 256).1 ms ms.length).next.getD i []).getD k 0).toNat:Int);omega
 ·rw[c12]
  exact ownsRow_nil _ _ _ _
def zAv (ms:List Sm)(acts pushed:List Int)(hold n:Nat):Tb:=(((xL ms acts pushed hold).first.itr n)).looking 0
theorem ModesOk.fit {ms:List Sm}(h:ModesOk ms)(i:Nat)(hi:i<ms.length):ms[i].Fit∧ms[i].next.length<=200:=by
 have h1:=qI ms (i+1) ms.length hi;have h2:=h.states;have e:ms.getD i ⟨[],[],0,[]⟩=ms[i]:=by rw[List.getD_eq_getElem?_getD,List.getElem?_eq_getElem hi];rfl
 rw[zO,e] at h1;have h3:=zBi ms (i+1) ms.length hi;have h4:=h.rules8;rw[zQ,e] at h3;have h5:=h.start i hi;refine⟨⟨fun j hj=>?_,fun j hj=>?_,h5.1,by omega⟩,by omega⟩
 ·obtain⟨w1,w2⟩:=h.wide i hi _ (zR ms[i].next j [] hj)
  exact⟨w1,fun b hb=>by have:=w2 b hb;omega⟩
 ·have:=(h.rules i hi).2 _ (zR ms[i].rules j 0 hj)
  omega
def Made (w w':World)(e:Ending)(ms:List Sm)(acts pushed:List Int)(hold:Nat):Prop:=
 ∃p H c n,e=.returned (.pointer (some ⟨p,0,none⟩))∧w.heap.size<=p∧w.heap.size<=H∧Mem w' H p c (zAv ms acts pushed hold n)∧(((xL ms acts pushed hold).first.itr n).spreadTo (zO ms ms.length)).2=false∧Grew w w'
theorem zNg (w0 w:World)(p:Nat)(c:Tc)(ms:List Sm)(acts pushed:List Int)(hold:Nat)(hG:Gt w w0.heap.size p c (zB ms 256).1 acts pushed (zS (zB ms 256).1 ms ms.length).starts (zS (zB ms 256).1 ms ms.length).ends (zS (zB ms 256).1 ms ms.length).next)(hok:ModesOk ms)(hp0:w0.heap.size<=p)
  (hal:acts.length=zQ ms ms.length) (ha:∀i,i<acts.length->0<=acts.getD i 0) (hpl:pushed.length=acts.length) (hp:∀i,i<pushed.length->0<=pushed.getD i 0)
  (c0:c.stream=.bool false) (c1:c.ahead=.int .i64 (0:Nat)) (c2:c.hold=.int .i64 (hold:Nat)) (c7:c.count=.int .i64 ((zB ms 256).2:Nat)) (c10:c.live=.slice none 0 0) (c11:c.rows=.int .i64 (0:Nat)) (c12:c.longer=.slice none 0 0) (hK:Keep w0.heap.size p w0 w)
  {u0 u1 u2 u3 u4 u5 u6 u7 u8 u9 u10 u12 u13 u14 u15 u16 u17 u18 u19 u20 u21 u22 u23 u24 u25 u26 u27 u28 u29 u30 u31 u32 u33 u34 u35 u36 u37 u38 u39 u40 u41 u42 u43 u44 u45 u46 u47 u48 u49 u50 u51 u52 u53 u54 u55 u56 u57 u58 u59 u60 u61 u62 u63 u64:Value}:
  Code.wp prog (yQ 7 ((f45.body).getD .skip)) (bodyPost prog f45 fun e w'=>Made w0 w' e ms acts pushed hold)
   ⟨(u0::u1::u2::u3::u4::u5::u6::u7::u8::u9::u10:: .pointer (some ⟨p,0,none⟩)::u12::u13::u14::u15::u16::u17::u18::u19::u20::u21::u22::u23::u24::u25::u26::u27::u28::u29::u30::u31::u32::u33::u34::u35::u36::u37::u38::u39::u40::u41::u42::u43::u44::u45::u46::u47::u48::u49::u50::u51::u52::u53::u54::u55::u56::u57::u58::u59::u60::u61::u62::u63::u64::[]).toArray,[]⟩ w:=by
 conv=>arg 2;whnf
 have hokN:=zCx ms acts pushed hold hok hal;have hn1:1<=(xL ms acts pushed hold).nst:=by
  have h1:=qI ms 1 ms.length hok.one;have h2:=hok.states1 0 hok.one;have e:ms.getD 0 ⟨[],[],0,[]⟩=ms[0]'hok.one:=by rw[List.getD_eq_getElem?_getD,List.getElem?_eq_getElem hok.one];rfl
  have h3:zO ms 1=0+(ms.getD 0 ⟨[],[],0,[]⟩).next.length:=rfl
  rw[e] at h3;show 1<=zO ms ms.length;omega
 have hc1:1<=(xL ms acts pushed hold).count:=zCG ms 256 (by decide);have HF:Hid (Calls prog 65 #[.pointer (some ⟨p,0,none⟩)] w fun e w'=>e=.returned (.tuple #[])∧∃v n,Mem w' w0.heap.size p {c with live:=v} ((xL ms acts pushed hold).first.itr n)∧(((xL ms acts pushed hold).first.itr n).spreadTo (xL ms acts pushed hold).nst).2=false∧Keep w0.heap.size p w w'):=
  zFe w w0.heap.size p c (xL ms acts pushed hold) (hG.memB hok ha hpl hp c0 c1 c2 c7 c11 c12) c10 hokN hn1 hc1
 have HKP:Hid (Keep w0.heap.size p w0 w):=hK;have HOK:Hid ((xL ms acts pushed hold).OkN):=hokN;clear hG hok hal ha hpl hp c0 c1 c2 c7 c10 c11 c12 hK hokN;go_wp2_with fail;refine HF.out.mono ?_;rintro e w1 ⟨rfl,v,n,hM1,hsp,hk1⟩;have A1:Hid (Mem w1 w0.heap.size p {c with live:=v} ((xL ms acts pushed hold).first.itr n)∧(((xL ms acts pushed hold).first.itr n).spreadTo (xL ms acts pushed hold).nst).2=false∧Keep w0.heap.size p w0 w1):=⟨hM1,hsp,HKP.out.trans hk1⟩
 clear hM1 hsp hk1 HF;have HS:Hid (Calls prog 66 #[.pointer (some ⟨p,0,none⟩),.int .i64 (0:Nat)] w1 fun e w'=>e=.returned (.tuple #[])∧∃c',Mem w' w0.heap.size p c' (((xL ms acts pushed hold).first.itr n).looking 0)∧Keep w0.heap.size p w1 w'):=
  (zBH w1 w0.heap.size p _ _ A1.out.1 (zIW (t:=(xL ms acts pushed hold).first) (HOK.out.withLive _) n) (by rw[zGO];exact hn1) (by rw[zA3];exact hc1) 0 (by decide) (by rw[zBC];decide)).mono (by
   rintro e w' ⟨h1,c',h2,h3⟩;exact⟨h1,c',h2,⟨h3.os,h3.output,h3.size,fun k k1 k2=>h3.block k (Nat.lt_of_lt_of_le k1 A1.out.1.HH) k2⟩⟩)
 go_wp2_with fail;refine HS.out.mono ?_;rintro e w2 ⟨rfl,c',hM2,hk2⟩;have A2:Hid (Mem w2 w0.heap.size p c' (((xL ms acts pushed hold).first.itr n).looking 0)∧Keep w0.heap.size p w0 w2):=⟨hM2,A1.out.2.2.trans hk2⟩
 clear hM2 hk2 HS;go_wp2_with fail;go_ret;exact⟨p,w0.heap.size,c',n,rfl,hp0,Nat.le_refl _,A2.out.1,A1.out.2.1,A2.out.2.lower (Nat.le_refl _) hp0⟩
theorem zNh (w0 w:World)(S:Nat->Prop)(p:Nat)(c:Tc)(ms:List Sm)(acts pushed:List Int)(hold:Nat)(mv:Value)(hM:ModesAt w0 S mv ms)(hS:∀k,S k->k<w0.heap.size)(hG:Gt w w0.heap.size p c (zB ms 256).1 acts pushed [] [] [])(hok:ModesOk ms)(hp0:w0.heap.size<=p)
  (hal:acts.length=zQ ms ms.length) (ha:∀i,i<acts.length->0<=acts.getD i 0) (hpl:pushed.length=acts.length) (hp:∀i,i<pushed.length->0<=pushed.getD i 0)
  (c0:c.stream=.bool false) (c1:c.ahead=.int .i64 (0:Nat)) (c2:c.hold=.int .i64 (hold:Nat)) (c7:c.count=.int .i64 ((zB ms 256).2:Nat)) (c10:c.live=.slice none 0 0) (c11:c.rows=.int .i64 (0:Nat)) (c12:c.longer=.slice none 0 0) (hK:Keep w0.heap.size p w0 w)
  {u1 u2 u3 u4 u5 u6 u7 u8 u9 u10 u12 u13 u14 u15 u16 u17 u18 u19 u20 u21 u22 u23 u24 u25 u26 u27 u28 u29 u30 u31 u32 u33 u34 u35 u36 u37 u38 u39 u40 u41 u42 u43 u44 u45 u46 u47 u48 u49 u50 u51 u52 u53 u54 u55 u56 u57 u58 u59 u60 u61 u62 u63 u64:Value}:
  Code.wp prog (yQ 5 ((f45.body).getD .skip)) (bodyPost prog f45 fun e w'=>Made w0 w' e ms acts pushed hold)
   ⟨(mv::u1::u2::u3::u4::u5::u6::u7::u8::u9::u10:: .pointer (some ⟨p,0,none⟩)::u12::u13::u14::u15::u16::u17::u18::u19::u20::u21::u22::u23::u24::u25::u26::u27::u28::u29::u30::u31::u32::u33::u34::u35::u36::u37::u38::u39::u40::u41::u42::u43::u44::u45::u46::u47::u48::u49::u50::u51::u52::u53::u54::u55::u56::u57::u58::u59::u60::u61::u62::u63::u64::[]).toArray,[]⟩ w:=by
 conv=>arg 2;whnf
 obtain⟨ma,mc,rfl,hmc,hmm,hcell⟩:=hM;have HC:Hid (∀i (hi:i<ms.length),∃b o u0 u1 u3,ma=some ⟨b,o,none⟩∧S b∧w0.cell? ⟨b,o+i*4,none⟩=some u0∧w0.cell? ⟨b,o+i*4+1,none⟩=some u1∧w0.cell? ⟨b,o+i*4+2,none⟩=some (.int .i64 ms[i].start)∧w0.cell? ⟨b,o+i*4+3,none⟩=some u3∧IntRows w0 S u0 ms[i].next∧Ints w0 S u1 ms[i].rules∧Bools w0 S u3 ms[i].empty):=hcell;have HG:Hid (Gt w w0.heap.size p c (zB ms 256).1 acts pushed [] [] []∧Keep w0.heap.size p w0 w):=⟨hG,hK⟩
 have HL:Hid (∀(c':Tc) (w':World),Gt w' w0.heap.size p c' (zB ms 256).1 acts pushed (zS (zB ms 256).1 ms ms.length).starts (zS (zB ms 256).1 ms ms.length).ends (zS (zB ms 256).1 ms ms.length).next->Keep w0.heap.size p w0 w'->c'={c with starts:=c'.starts,next:=c'.next,ends:=c'.ends}->∀{u0 u1 u2 u3 u4 u5 u6 u7 u8 u9 u10 u12 u13 u14 u15 u16 u17 u18 u19 u20 u21 u22 u23 u24 u25 u26 u27 u28 u29 u30 u31 u32 u33 u34 u35 u36 u37 u38 u39 u40 u41 u42 u43 u44 u45 u46 u47 u48 u49 u50 u51 u52 u53 u54 u55 u56 u57 u58 u59 u60 u61 u62 u63 u64:Value},Code.wp prog (yQ 7 ((f45.body).getD .skip)) (bodyPost prog f45 fun e w'=>Made w0 w' e ms acts pushed hold) ⟨(u0::u1::u2::u3::u4::u5::u6::u7::u8::u9::u10:: .pointer (some ⟨p,0,none⟩)::u12::u13::u14::u15::u16::u17::u18::u19::u20::u21::u22::u23::u24::u25::u26::u27::u28::u29::u30::u31::u32::u33::u34::u35::u36::u37::u38::u39::u40::u41::u42::u43::u44::u45::u46::u47::u48::u49::u50::u51::u52::u53::u54::u55::u56::u57::u58::u59::u60::u61::u62::u63::u64::[]).toArray,[]⟩ w'):=by
  intro c' w' hg hk hc;intros
  exact zNg w0 w' p c' ms acts pushed hold hg hok hp0 hal ha hpl hp (by rw[hc];exact c0) (by rw[hc];exact c1) (by rw[hc];exact c2) (by rw[hc];exact c7) (by rw[hc];exact c10) (by rw[hc];exact c11) (by rw[hc];exact c12) hk
 have HOK:Hid (ModesOk ms):=hok;have h3:=hok.three;clear hcell hG hK hok hal ha hpl hp c0 c1 c2 c7 c10 c11 c12;refine wp_seq_k ?_;intro K0 hK0;have HK0:Hid (∀a w,_->K0 a w):=hK0;clear hK0;go_wp2_with fail;refine HK0.out _ _ ?_;clear HK0;refine wp_seq_k ?_;intro K1 hK1;have HK1:Hid (∀a w,_->K1 a w):=hK1;clear hK1;go_wp2_with fail;go_loopg [12,45] ms.length (fun q ru i wr=>∃(j:Nat) (cj:Tc),q=ms.length-j∧j<=ms.length∧i=.int .i64 (j:Int)∧ru=.int .i64 ((zQ ms j:Nat):Int)∧Gt wr w0.heap.size p cj (zB ms 256).1 acts pushed (zS (zB ms 256).1 ms j).starts (zS (zB ms 256).1 ms j).ends (zS (zB ms 256).1 ms j).next∧Turn w0.heap.size p w c wr cj)
 case atStart=>exact⟨0,c,rfl,Nat.zero_le _,rfl,rfl,HG.out.1,Turn.refl _ _ _ _⟩
 case round=>
  obtain⟨j,cj,hgk,hj,rfl,rfl,hGj,hTj⟩:=hrel;have HA:Hid (gk=ms.length-j∧Gt wr w0.heap.size p cj (zB ms 256).1 acts pushed (zS (zB ms 256).1 ms j).starts (zS (zB ms 256).1 ms j).ends (zS (zB ms 256).1 ms j).next∧Turn w0.heap.size p w c wr cj):=⟨hgk,hGj,hTj⟩
  have hru8:zQ ms j<=8:=Nat.le_trans (zBi ms j ms.length hj) HOK.out.rules8;by_cases hj2:j<ms.length
  ·have i1:(j:Int)<(ms.length:Int):=by omega
   obtain⟨bb,o,v0,v1,v3,rfl,hSb,d0,d1,d2,d3,e0,e1,e3⟩:=HC.out j hj2;have kb:∀x,S x->wr.heap[x]? =w0.heap[x]? :=fun x hx=>by
    have:=hS x hx;exact(hTj.keep.block x this (by omega)).trans (HG.out.2.block x this (by omega))
   have kk:∀i,wr.cell? ⟨bb,i,none⟩=w0.cell? ⟨bb,i,none⟩:=fun i=>cell?_of_block (kb bb hSb);have z0:wr.cell? ⟨bb,o+j*4,none⟩=some v0:=(kk _).trans d0;have z1:wr.cell? ⟨bb,o+j*4+1,none⟩=some v1:=(kk _).trans d1;have z2:wr.cell? ⟨bb,o+j*4+2,none⟩=some (.int .i64 ms[j].start):=(kk _).trans d2;have z3:wr.cell? ⟨bb,o+j*4+3,none⟩=some v3:=(kk _).trans d3;obtain⟨s1,s2,s3,s4⟩:=zAF (zB ms 256).1 ms HOK.out j hj;have hst:=qI ms (j+1) ms.length hj2;have hs200:=HOK.out.states;have eg:ms.getD j ⟨[],[],0,[]⟩=ms[j]:=by rw[List.getD_eq_getElem?_getD,List.getElem?_eq_getElem hj2];rfl
   have hst2:zO ms j+ms[j].next.length<=200:=by
    rw[zO,eg] at hst;omega
   have hrl:=(HOK.out.rules j hj2).1;have hel8:zQ ms j+ms[j].empty.length<=8:=by
    have h1:=zBi ms (j+1) ms.length hj2;have h2:=HOK.out.rules8;rw[zQ,eg] at h1;omega
   have HADD:Hid (∀wz,Grew wr wz->Calls prog 64 #[.pointer (some ⟨p,0,none⟩),.agg #[v0,v1,.int .i64 ms[j].start],.int .i64 ((zQ ms j:Nat):Int)] wz fun e w'=>e=.returned (.tuple #[])∧∃c',Gt w' w0.heap.size p c' (zB ms 256).1 acts pushed (zS (zB ms 256).1 ms (j+1)).starts (zS (zB ms 256).1 ms (j+1)).ends (zS (zB ms 256).1 ms (j+1)).next∧Turn w0.heap.size p wr cj w' c'∧∀k,wr.heap.size<=k->k<wz.heap.size->w'.heap[k]? =wz.heap[k]?):=by
    intro wz hkz;have hkb:∀x,S x->wz.heap[x]? =w0.heap[x]? :=fun x hx=>(hkz.block x (Nat.lt_of_lt_of_le (hS x hx) hGj.HH) (by have:=hS x hx;have:=hGj.HH;omega)).trans (kb x hx);have h:=zFU wz w0.heap.size p cj (zB ms 256).1 acts pushed _ _ _ (hGj.grown hkz) ms[j] v0 v1 S (e0.keep hkb) (e1.keep hkb) (fun k hk=>⟨hS k hk,by have:=hS k hk;omega⟩) (zQ ms j) (HOK.out.fit j hj2).1 hru8 (qZ ms 256).1 (by rw[s2];exact hst2) (by rw[s3,hrl];exact hst2) (by rw[s1];omega);refine h.mono ?_;rintro e w' ⟨he,c',hg',ht'⟩;refine⟨he,c',?_,(Turn.grown hkz hGj.HH).trans ht',fun k h1 h2=>(ht'.rest k (Nat.le_trans hGj.HH h1) ⟨h2,fun e=>by have:=hGj.tp.lt;omega,fun e=>by have:=(hGj.starts.lt k e.symm).2;omega,fun e=>?_,fun e=>by have:=(hGj.ends.lt k e.symm).2;omega⟩).1⟩
    ·rw[zS,eg,s4]
     exact hg'
    ·obtain⟨_,hq,_⟩:=hGj.next
     have:=(hq.lt k e.symm).2;omega
   have HRT:Hid (zQ ms (j+1)=zQ ms j+ms[j].empty.length):=by show _=_;rw[zQ,eg]
   have hszr:w0.heap.size<=wr.heap.size:=hGj.HH;obtain⟨a0,q0,ee0,_⟩:=e0;obtain⟨a1,q1,ee1,_⟩:=e1;obtain⟨a3,q3,ee3,_⟩:=e3;subst ee0 ee1 ee3;clear hgk hGj hTj kb kk d0 d1 d2 d3 s1 s2 s3 s4 hst hs200 eg hrl;generalize ms[j].next.length=ln at *
   generalize ms[j].rules.length=lr at *;generalize ms[j].empty.length=le at *;generalize ms[j].start=st at *;generalize zQ ms j=rj at *;go_wp2_with fail;refine(HADD.out _ (Keep.alloc _ _ (Nat.le_refl _))).mono ?_;rintro e w2 ⟨rfl,c',hg2,ht2,hfr⟩;have yb:w2.cell? ⟨wr.heap.size,3,none⟩=some (.slice a3 le q3):=by
    rw[World.cell?_of_block (hfr wr.heap.size (Nat.le_refl _) (by simp))];unfold cell?;rw[heap_alloc_new wr _];rfl
   have A2:Hid (Gt w2 w0.heap.size p c' (zB ms 256).1 acts pushed (zS (zB ms 256).1 ms (j+1)).starts (zS (zB ms 256).1 ms (j+1)).ends (zS (zB ms 256).1 ms (j+1)).next∧Turn w0.heap.size p w c w2 c'):=⟨hg2,HA.out.2.2.trans ht2⟩
   clear hg2 ht2 hfr HADD z0 z1 z2 z3;go_wp2_with fail;go_roundg (ms.length-(j+1))
   case measure=>rw[HA.out.1];omega
   case rel=>exact⟨j+1,c',rfl,by omega,by go_num,by rw[HRT.out];go_num,A2.out.1,A2.out.2⟩
  ·have hje:j=ms.length:=by omega
   have i1:(ms.length:Int)<=(j:Int):=by omega
   have HZ:Hid (Gt wr w0.heap.size p cj (zB ms 256).1 acts pushed (zS (zB ms 256).1 ms ms.length).starts (zS (zB ms 256).1 ms ms.length).ends (zS (zB ms 256).1 ms ms.length).next∧Keep w0.heap.size p w0 wr∧cj={c with starts:=cj.starts,next:=cj.next,ends:=cj.ends}):=by
    rw[<-hje];refine⟨?_,HG.out.2.trans hTj.keep,hTj.same⟩;rw[hje] at hGj ⊢;exact hGj
   clear hgk hGj hTj hje;go_wp2_with fail;refine HK1.out _ _ ?_;exact HL.out cj wr HZ.out.1 HZ.out.2.1 HZ.out.2.2
theorem zIQ (w:World)(S:Nat->Prop)(mv av pv:Value)(ms:List Sm)(acts pushed:List Int)(hold:Nat)(hM:ModesAt w S mv ms)(hA:Ints w S av acts)(hP:Ints w S pv pushed)(hS:∀k,S k->k<w.heap.size)(hok:ModesOk ms)(hal:acts.length=zQ ms ms.length)(hpl:pushed.length=acts.length)(ha:∀i,i<acts.length->0<=acts.getD i 0)(hp:∀i,i<pushed.length->0<=pushed.getD i 0):
  Calls prog 45 #[mv,av,pv,.int .i64 hold] w fun e w'=>Made w w' e ms acts pushed hold:=by
 have HM:Hid (ModesAt w S mv ms∧Ints w S av acts∧Ints w S pv pushed):=⟨hM,hA,hP⟩
 have hwide:Wide ms:=fun m hm row hr=>by
  obtain⟨i,hi,rfl⟩:=List.getElem_of_mem hm;exact(hok.wide i hi row hr).1
 have h200:∀m∈ms,m.next.length<=200:=fun m hm=>by
  obtain⟨i,hi,rfl⟩:=List.getElem_of_mem hm;have h1:=qI ms (i+1) ms.length hi;have h2:=hok.states;have e:ms.getD i ⟨[],[],0,[]⟩=ms[i]:=by rw[List.getD_eq_getElem?_getD,List.getElem?_eq_getElem hi];rfl
  rw[zO,e] at h1;omega
 have HK:=zFK w S mv ms hM hS hwide hok.three h200;have HK2:Hid (Calls prog 63 #[mv] w fun e w'=>∃u,e=.returned (.tuple #[u,.int .i64 ((zB ms 256).2:Nat)])∧OwnI w' w.heap.size u (zB ms 256).1∧Grew w w'):=HK;obtain⟨ma,mc,rfl,_⟩:=hM;obtain⟨ba,oa,ca,rfl,hSa,_,_,hca⟩:=hA.block (by rw[hal];exact hok.rules1);obtain⟨bp,op,cp,rfl,hSp,_,_,hcp⟩:=hP.block (by rw[hpl,hal];exact hok.rules1);have hal8:acts.length<=8:=by rw[hal];exact hok.rules8
 have hal1:1<=acts.length:=by rw[hal];exact hok.rules1
 have hpl8:pushed.length<=8:=by omega
 have hpl1:1<=pushed.length:=by omega
 obtain⟨i0,hi0,hz0,hz1,hz2⟩:=info_parts yH;have HCA:Hid (∀j u,(acts.map fun x=>Value.int .i64 x)[j]? =some u->w.cell? ((⟨ba,oa,none⟩:Addr).add j)=some u):=by
  intro j u hu;rw[List.getElem?_map] at hu;obtain⟨x,hx,rfl⟩:=Option.map_eq_some_iff.1 hu;have hj:=(List.getElem?_eq_some_iff.1 hx).1;rw[Addr.add_lit,hca j hj,List.getD_eq_getElem?_getD,hx];rfl
 have HCP:Hid (∀j u,(pushed.map fun x=>Value.int .i64 x)[j]? =some u->w.cell? ((⟨bp,op,none⟩:Addr).add j)=some u):=by
  intro j u hu;rw[List.getElem?_map] at hu;obtain⟨x,hx,rfl⟩:=Option.map_eq_some_iff.1 hu;have hj:=(List.getElem?_eq_some_iff.1 hx).1;rw[Addr.add_lit,hcp j hj,List.getD_eq_getElem?_getD,hx];rfl
 have hba:=hS ba hSa;have hbp:=hS bp hSp;clear hca hcp;have HAL:Hid (acts.length=zQ ms ms.length∧pushed.length=acts.length):=⟨hal,hpl⟩
 have HOK:Hid (ModesOk ms):=hok;clear HK hal hpl hA hP hok hwide h200;go_enter func45,ntmps45
 refine wp_seq_k ?_;intro K0 hK0;have HK0:Hid (∀a w,_->K0 a w):=hK0;clear hK0;go_wp2_with fail;refine HK0.out _ _ ?_;clear HK0;refine wp_seq_k ?_;intro K1 hK1;have HK1:Hid (∀a w,_->K1 a w):=hK1;clear hK1;go_wp2_with fail;refine HK2.out.mono ?_;rintro e w1 ⟨u,rfl,ho1,hk1⟩;obtain⟨au,cu,hu⟩:=ho1.form;subst hu;have O1:Hid (OwnI w1 w.heap.size (.slice au (zB ms 256).1.length cu) (zB ms 256).1∧Grew w w1):=⟨ho1,hk1⟩
 clear ho1 hk1 HK2;go_wp2_with fail;refine HK1.out _ _ ?_;clear HK1;refine wp_seq_k ?_;intro K2 hK2;have HK2:Hid (∀a w,_->K2 a w):=hK2;clear hK2;go_wp2_with fail;refine HK2.out _ _ ?_;clear HK2;obtain⟨w2,hw2,A2⟩:∃w2,w2=w1.alloc (.cells #[.bool false,.int .i64 0,.int .i64 hold,.slice none 0 0,.slice none 0 0,.slice none 0 0,.slice au (zB ms 256).1.length cu,.int .i64 ((zB ms 256).2:Nat),.slice none 0 0,.slice none 0 0,.slice none 0 0,.int .i64 0,.slice none 0 0] 90)∧
   Hid (xA w2 w1.heap.size ⟨.bool false,.int .i64 0,.int .i64 hold,.slice none 0 0,.slice none 0 0,.slice none 0 0,.slice au (zB ms 256).1.length cu,.int .i64 ((zB ms 256).2:Nat),.slice none 0 0,.slice none 0 0,.slice none 0 0,.int .i64 0,.slice none 0 0⟩∧OwnI w2 w.heap.size (.slice au (zB ms 256).1.length cu) (zB ms 256).1∧Keep w.heap.size w1.heap.size w w2):=
  ⟨_,rfl,heap_alloc_new w1 _,zJ O1.out.1 (Keep.alloc _ _ (Nat.le_refl _)),O1.out.2.lower (Nat.le_refl _) (Nat.le_refl _) |>.trans (Keep.alloc _ _ O1.out.2.size)⟩
 rw[<-hw2];have hs2:w1.heap.size<w2.heap.size:=by rw[hw2];simp
 have hs1:=O1.out.2.size;clear hw2;refine wp_seq_k ?_;intro K3 hK3;have HK3:Hid (∀a w,_->K3 a w):=hK3;clear hK3;have y4:=A2.out.1.get_acts;have z4:=A2.out.1.fz 4;have hs2':w.heap.size<=w2.heap.size:=by omega
 have HX2:Hid (∀j u,(acts.map fun x=>Value.int .i64 x)[j]? =some u->w2.cell? ((⟨ba,oa,none⟩:Addr).add j)=some u):=fun j u hu=>by
  have h:=HCA.out j u hu;rw[Addr.add_lit] at h ⊢;exact(cell?_of_block (A2.out.2.2.block ba hba (by omega))).trans h
 go_wp2_with (first|(at_builtin;refine wpList_append_lies _ rfl _ _ 45 rfl w.heap.size 3 i0 (.int .i64 0) 1 8 underlying45 hi0 hz0 hz1 hz2 rfl (by decide) (.slice none 0 0) 0 [] rfl (ownsRow_nil _ _ _ _) ⟨ba,oa,none⟩ acts.length ca (acts.map fun x=>.int .i64 x) rfl (by simp) HX2.out (by intro u hu;obtain⟨x,_,rfl⟩:=List.mem_map.1 hu;rfl) (by omega) (by unfold maxLen;omega) (by omega) hs2' w2.heap.size rfl ?_;intro ga capa w3 hown hgrow hat hlt3;have hPB:=hgrow.block w1.heap.size hs2 (by simp[Value.ownBlock]);have y4':w3.cell? ⟨w1.heap.size,4,none⟩=some (.slice none 0 0):=(cell?_of_block hPB).trans y4;have z4':w3.frozen? ⟨w1.heap.size,4,none⟩=false:=(frozen?_of_block hPB).trans z4))
 obtain⟨w4,hw4,A4⟩:∃w4,w4=w3.setCell ⟨w1.heap.size,4,none⟩ (.slice (some ⟨ga,0,none⟩) acts.length capa)∧
   Hid (xA w4 w1.heap.size ⟨.bool false,.int .i64 0,.int .i64 hold,.slice none 0 0,.slice (some ⟨ga,0,none⟩) acts.length capa,.slice none 0 0,.slice au (zB ms 256).1.length cu,.int .i64 ((zB ms 256).2:Nat),.slice none 0 0,.slice none 0 0,.slice none 0 0,.int .i64 0,.slice none 0 0⟩∧OwnI w4 w.heap.size (.slice au (zB ms 256).1.length cu) (zB ms 256).1∧OwnI w4 w.heap.size (.slice (some ⟨ga,0,none⟩) acts.length capa) acts∧Keep w.heap.size w1.heap.size w w4):=by
  have hT3:=A2.out.1.of_block hPB;have hoA:OwnI w3 w.heap.size (.slice (some ⟨ga,0,none⟩) acts.length capa) acts:=by
   have h:=hown;rw[Nat.zero_add,List.nil_append] at h;exact h
  have hk3:Grew w2 w3:=⟨hgrow.os,hgrow.output,hgrow.size,fun k hk _=>hgrow.block k hk (by simp[Value.ownBlock])⟩
  have hoK:=zJ A2.out.2.1 hk3;refine⟨_,rfl,hT3.set_acts _,zD hoK fun k _ _ hk=>Below.heap_setCell _ _ _ _ (fun e=>vK hT3 hoK (by decide) (by rw[hk];exact congrArg some e.symm)),zD hoA fun k _ _ hk=>Below.heap_setCell _ _ _ _ (fun e=>vK hT3 hoA (by decide) (by rw[hk];exact congrArg some e.symm)),(A2.out.2.2.trans (hk3.lower (by omega) (by omega))).trans (Keep.set _ _ _)⟩
 rw[<-hw4];have hs4:w1.heap.size<w4.heap.size:=by rw[hw4,zC];exact Nat.lt_of_lt_of_le hs2 hgrow.size
 clear hw4 hown hgrow hat hPB y4' z4' y4 z4 A2 HX2;refine HK3.out _ _ ?_;clear HK3;refine wp_seq_k ?_;intro K4 hK4;have HK4:Hid (∀a w,_->K4 a w):=hK4;clear hK4;have y5:=A4.out.1.get_pushed;have z5:=A4.out.1.fz 5;have hs4':w.heap.size<=w4.heap.size:=by omega
 have HX4:Hid (∀j u,(pushed.map fun x=>Value.int .i64 x)[j]? =some u->w4.cell? ((⟨bp,op,none⟩:Addr).add j)=some u):=fun j u hu=>by
  have h:=HCP.out j u hu;rw[Addr.add_lit] at h ⊢;exact(cell?_of_block (A4.out.2.2.2.block bp hbp (by omega))).trans h
 go_wp2_with (first|(at_builtin;refine wpList_append_lies _ rfl _ _ 45 rfl w.heap.size 3 i0 (.int .i64 0) 1 8 underlying45 hi0 hz0 hz1 hz2 rfl (by decide) (.slice none 0 0) 0 [] rfl (ownsRow_nil _ _ _ _) ⟨bp,op,none⟩ pushed.length cp (pushed.map fun x=>.int .i64 x) rfl (by simp) HX4.out (by intro u hu;obtain⟨x,_,rfl⟩:=List.mem_map.1 hu;rfl) (by omega) (by unfold maxLen;omega) (by omega) hs4' w4.heap.size rfl ?_;intro gp capp w5 hown hgrow hat hlt5;have hPB:=hgrow.block w1.heap.size hs4 (by simp[Value.ownBlock]);have y5':w5.cell? ⟨w1.heap.size,5,none⟩=some (.slice none 0 0):=(cell?_of_block hPB).trans y5;have z5':w5.frozen? ⟨w1.heap.size,5,none⟩=false:=(frozen?_of_block hPB).trans z5))
 obtain⟨w6,hw6,A6⟩:∃w6,w6=w5.setCell ⟨w1.heap.size,5,none⟩ (.slice (some ⟨gp,0,none⟩) pushed.length capp)∧
   Hid (Gt w6 w.heap.size w1.heap.size ⟨.bool false,.int .i64 0,.int .i64 hold,.slice none 0 0,.slice (some ⟨ga,0,none⟩) acts.length capa,.slice (some ⟨gp,0,none⟩) pushed.length capp,.slice au (zB ms 256).1.length cu,.int .i64 ((zB ms 256).2:Nat),.slice none 0 0,.slice none 0 0,.slice none 0 0,.int .i64 0,.slice none 0 0⟩ (zB ms 256).1 acts pushed [] [] []∧Keep w.heap.size w1.heap.size w w6):=by
  have hT5:=A4.out.1.of_block hPB;have hoP:OwnI w5 w.heap.size (.slice (some ⟨gp,0,none⟩) pushed.length capp) pushed:=by
   have h:=hown;rw[Nat.zero_add,List.nil_append] at h;exact h
  have hk5:Grew w4 w5:=⟨hgrow.os,hgrow.output,hgrow.size,fun k hk _=>hgrow.block k hk (by simp[Value.ownBlock])⟩
  have hoK:=zJ A4.out.2.1 hk5;have hoA:=zJ A4.out.2.2.1 hk5;have fin:∀{v l},OwnI w5 w.heap.size v l->Fin (w5.setCell ⟨w1.heap.size,5,none⟩ (.slice (some ⟨gp,0,none⟩) pushed.length capp)) (Rest (w5.setCell ⟨w1.heap.size,5,none⟩ (.slice (some ⟨gp,0,none⟩) pushed.length capp)) w1.heap.size ⟨.bool false,.int .i64 0,.int .i64 hold,.slice none 0 0,.slice (some ⟨ga,0,none⟩) acts.length capa,.slice (some ⟨gp,0,none⟩) pushed.length capp,.slice au (zB ms 256).1.length cu,.int .i64 ((zB ms 256).2:Nat),.slice none 0 0,.slice none 0 0,.slice none 0 0,.int .i64 0,.slice none 0 0⟩) w.heap.size v l:=fun ho=>
   ⟨zD ho fun k _ _ hk=>Below.heap_setCell _ _ _ _ (fun e=>vK hT5 ho (by decide) (by rw[hk];exact congrArg some e.symm)),fun g hg=>⟨by rw[zC];exact(World.ownsRow.lt ho g hg).2,fun e=>vK hT5 ho (by decide) (by rw[hg,e]),by simp[Value.ownBlock],by simp[Value.ownBlock],by simp[Value.ownBlock]⟩⟩
  refine⟨_,rfl,⟨hT5.set_pushed _,OwnI.nil _ _,OwnI.nil _ _,⟨fun _=>.slice none 0 0,ownsRow_nil _ _ _ _,fun i hi=>by simp at hi⟩,fin hoK,fin hoA,fin hoP,by rw[zC];exact Nat.le_trans hs4' hgrow.size,fun g hg=>by simp[Value.ownBlock] at hg⟩,(A4.out.2.2.2.trans (hk5.lower (by omega) (by omega))).trans (Keep.set _ _ _)⟩
 rw[<-hw6];clear hw6 hown hgrow hat hPB y5' z5' y5 z5 A4 HX4;refine HK4.out _ _ ?_;clear HK4;exact zNh w w6 S w1.heap.size _ ms acts pushed hold _ HM.out.1 hS A6.out.1 HOK.out hs1 HAL.out.1 ha HAL.out.2 hp rfl rfl rfl rfl rfl rfl rfl A6.out.2
def In (w:World)(k:Nat):Prop:=k<w.heap.size
theorem Ints.grown {w w':World}{v:Value}{l:List Int}(h:Ints w (In w) v l)(hk:Grew w w'):Ints w' (In w') v l:=
 (h.keep fun b hb=>hk.block b hb (Nat.ne_of_lt hb)).mono fun _ hb=>Nat.lt_of_lt_of_le hb hk.size
theorem Bools.grown {w w':World}{v:Value}{l:List Bool}(h:Bools w (In w) v l)(hk:Grew w w'):Bools w' (In w') v l:=
 (h.keep fun b hb=>hk.block b hb (Nat.ne_of_lt hb)).mono fun _ hb=>Nat.lt_of_lt_of_le hb hk.size
theorem IntRows.grown {w w':World}{v:Value}{l:List (List Int)}(h:IntRows w (In w) v l)(hk:Grew w w'):IntRows w' (In w') v l:=
 (h.keep fun b hb=>hk.block b hb (Nat.ne_of_lt hb)).mono fun _ hb=>Nat.lt_of_lt_of_le hb hk.size
theorem BoolsAt.grown {w w':World}{v:Value}{n:Nat}{f:Nat->Bool}(h:BoolsAt w (In w) v n f)(hk:Grew w w'):BoolsAt w' (In w') v n f:=by
 obtain⟨b,o,cap,hb,r⟩:=h.keep fun b hb=>hk.block b hb (Nat.ne_of_lt hb);exact⟨b,o,cap,Nat.lt_of_lt_of_le hb hk.size,r⟩
theorem OwnF.at {w:World}{H n:Nat}{v:Value}{f:Nat->Bool}(h:OwnF w H v n f)(hn:0<n):BoolsAt w (In w) v n f:=by
 obtain⟨g,cap,hv,h1,h2,h3,h4,h5,_⟩:=Row.get h hn;exact⟨g,0,cap,h2,hv,h3,h4,fun i hi=>by rw[Nat.zero_add];exact h5 i hi⟩
theorem zA {w w':World}{b i:Nat}{x:Value}(h:w.cell? ⟨b,i,none⟩=some x)(hb:b<w.heap.size)(hk:Grew w w'):w'.cell? ⟨b,i,none⟩=some x:=(cell?_of_block (hk.block b hb (by omega))).trans h
structure TblAt (w:World)(nv rv:Value)(m:Sm):Prop where
 next:IntRows w (In w) nv m.next
 rules:Ints w (In w) rv m.rules
theorem TblAt.grown {w w':World}{nv rv:Value}{m:Sm}(h:TblAt w nv rv m)(hk:Grew w w'):TblAt w' nv rv m:=⟨h.next.grown hk,h.rules.grown hk⟩
structure Sm.Tbl (m:Sm):Prop where
 one:1<=m.next.length
 most:m.next.length<=200
 rules:m.rules.length=m.next.length
 rows:∀i,i<m.next.length->(m.next.getD i []).length=256
 to:∀i b,i<m.next.length->b<256->0<=(m.next.getD i []).getD b 0∧(m.next.getD i []).getD b 0<m.next.length
def zCf (m:Sm)(s:Nat):Bool:=m.rules.getD s 0 != -1
def zBN (s:Nat):Bool:=(s:Int) != 0
def zBM (one:Nat)(s:Nat):Bool:=(s:Int)==(one:Int)
def qT (a b:Nat->Bool)(s:Nat):Bool:=a s&& !b s
theorem zCT (w:World)(nv rv:Value)(m:Sm)(hT:TblAt w nv rv m)(hm:m.Tbl):
  Calls prog 140 #[.agg #[nv,rv,.int .i64 m.start]] w fun e w'=>∃u,e=.returned u∧OwnF w' w.heap.size u (m.rules.length) (zCf m)∧Grew w w':=by
 obtain⟨i0,hi0,hz0,hz1,hz2⟩:=info_parts qO;have HM:=vl hT;obtain⟨an,cn,rfl,hcn,hmn,hnc⟩:=hT.next
 obtain⟨ar,cr,rfl,hcr,hmr,hrc⟩:=hT.rules;have HR:=vl hrc;have HL:=vl hm.rules;have h200:m.rules.length<=200:=by rw[HL.out];exact hm.most
 go_in;go_wp2;go_loopg [3,9] (m.rules.length) (fun q lst i wr=>∃j:Nat,q=m.rules.length-j∧j<=m.rules.length∧i=.int .i64 (j:Int)∧OwnF wr w.heap.size lst j (zCf m)∧Grew w wr)
 case atStart=>exact⟨0,rfl,Nat.zero_le _,rfl,OwnF.nil _ _ _,Keep.alloc _ _ (Nat.le_refl _)⟩
 case round=>
  obtain⟨j,hgk,hj,rfl,ho,hkp⟩:=hrel;have HA:Hid (gk=m.rules.length-j∧Grew w wr):=⟨hgk,hkp⟩
  obtain⟨ao,cap,hv⟩:=ho.form;subst hv;have hszr:=hkp.size;have OR:=vl ho;by_cases hj2:j<m.rules.length
  ·have i1:(j:Int)<((m.rules.length:Nat):Int):=by omega
   obtain⟨b,o,rfl,hb,hc⟩:=HR.out j hj2;have yr:=zA hc hb hkp;have HV:Hid (zCf m j=(m.rules.getD j 0 != -1)):=rfl;generalize m.rules.getD j 0=x at *;go_wp2_with (first|(at_builtin;refine wpList_append_lies _ rfl _ _ 28 rfl (w.heap.size) 4 i0 (.bool false) 1 1 underlying28 hi0 hz0 hz1 hz2 rfl (by decide) _ _ _ rfl (OR.out.alloc _) ⟨wr.heap.size,0,none⟩ 1 1 [.bool (x != -1)] rfl rfl (cell_one_new _ _ _) (by intro u hu;simp at hu;subst hu;rfl) (by decide) (by unfold maxLen;omega) (by omega) (by simp;omega) _ rfl ?_;intro gg cap2 w2 hown hgrow hat hlt2;have hB:=xO OR.out hgrow hszr))
   have O2:Hid (OwnF w2 w.heap.size (.slice (some ⟨gg,0,none⟩) (j+1) cap2) (j+1) (zCf m)∧Grew w w2):=⟨OwnF.snoc hown HV.out,HA.out.2.trans (xN hB)⟩
   go_wp2;go_roundg (m.rules.length-(j+1))
   case measure=>rw[HA.out.1];omega
   case rel=>exact⟨j+1,rfl,by omega,by go_num,O2.out.1,O2.out.2⟩
  ·have hje:j=m.rules.length:=by omega
   have i1:((m.rules.length:Nat):Int)<=(j:Int):=by omega
   have HZ:Hid (OwnF wr w.heap.size (.slice ao j cap) (m.rules.length) (zCf m)):=by rw[hje] at ho ⊢;exact ho
   go_wp2;go_ret;exact⟨_,rfl,HZ.out,HA.out.2⟩
theorem zGK (w:World)(nv rv:Value)(m:Sm)(hT:TblAt w nv rv m)(hm:m.Tbl):
  Calls prog 144 #[.agg #[nv,rv,.int .i64 m.start]] w fun e w'=>∃u,e=.returned u∧OwnF w' w.heap.size u (m.next.length) (zBN)∧Grew w w':=by
 obtain⟨i0,hi0,hz0,hz1,hz2⟩:=info_parts qO;have HM:=vl hT;obtain⟨an,cn,rfl,hcn,hmn,hnc⟩:=hT.next
 obtain⟨ar,cr,rfl,hcr,hmr,hrc⟩:=hT.rules;have h200:=hm.most;go_in;go_wp2;go_loopg [3,8] (m.next.length) (fun q lst i wr=>∃j:Nat,q=m.next.length-j∧j<=m.next.length∧i=.int .i64 (j:Int)∧OwnF wr w.heap.size lst j (zBN)∧Grew w wr)
 case atStart=>exact⟨0,rfl,Nat.zero_le _,rfl,OwnF.nil _ _ _,Keep.alloc _ _ (Nat.le_refl _)⟩
 case round=>
  obtain⟨j,hgk,hj,rfl,ho,hkp⟩:=hrel;have HA:Hid (gk=m.next.length-j∧Grew w wr):=⟨hgk,hkp⟩
  obtain⟨ao,cap,hv⟩:=ho.form;subst hv;have hszr:=hkp.size;have OR:=vl ho;by_cases hj2:j<m.next.length
  ·have i1:(j:Int)<((m.next.length:Nat):Int):=by omega
   have HV:Hid (zBN j=((j:Int) != 0)):=rfl;go_wp2_with (first|(at_builtin;refine wpList_append_lies _ rfl _ _ 28 rfl (w.heap.size) 4 i0 (.bool false) 1 1 underlying28 hi0 hz0 hz1 hz2 rfl (by decide) _ _ _ rfl (OR.out.alloc _) ⟨wr.heap.size,0,none⟩ 1 1 [.bool ((j:Int) != 0)] rfl rfl (cell_one_new _ _ _) (by intro u hu;simp at hu;subst hu;rfl) (by decide) (by unfold maxLen;omega) (by omega) (by simp;omega) _ rfl ?_;intro gg cap2 w2 hown hgrow hat hlt2;have hB:=xO OR.out hgrow hszr))
   have O2:Hid (OwnF w2 w.heap.size (.slice (some ⟨gg,0,none⟩) (j+1) cap2) (j+1) (zBN)∧Grew w w2):=⟨OwnF.snoc hown HV.out,HA.out.2.trans (xN hB)⟩
   go_wp2;go_roundg (m.next.length-(j+1))
   case measure=>rw[HA.out.1];omega
   case rel=>exact⟨j+1,rfl,by omega,by go_num,O2.out.1,O2.out.2⟩
  ·have hje:j=m.next.length:=by omega
   have i1:((m.next.length:Nat):Int)<=(j:Int):=by omega
   have HZ:Hid (OwnF wr w.heap.size (.slice ao j cap) (m.next.length) (zBN)):=by rw[hje] at ho ⊢;exact ho
   go_wp2;go_ret;exact⟨_,rfl,HZ.out,HA.out.2⟩
theorem zII (w:World)(nv rv:Value)(m:Sm)(hT:TblAt w nv rv m)(hm:m.Tbl)(one:Nat):
  Calls prog 148 #[.agg #[nv,rv,.int .i64 m.start],.int .i64 one] w fun e w'=>∃u,e=.returned u∧OwnF w' w.heap.size u (m.next.length) (zBM one)∧Grew w w':=by
 obtain⟨i0,hi0,hz0,hz1,hz2⟩:=info_parts qO;have HM:=vl hT;obtain⟨an,cn,rfl,hcn,hmn,hnc⟩:=hT.next
 obtain⟨ar,cr,rfl,hcr,hmr,hrc⟩:=hT.rules;have h200:=hm.most;go_in;go_wp2;go_loopg [5,10] (m.next.length) (fun q lst i wr=>∃j:Nat,q=m.next.length-j∧j<=m.next.length∧i=.int .i64 (j:Int)∧OwnF wr w.heap.size lst j (zBM one)∧Grew w wr)
 case atStart=>exact⟨0,rfl,Nat.zero_le _,rfl,OwnF.nil _ _ _,Keep.alloc _ _ (Nat.le_refl _)⟩
 case round=>
  obtain⟨j,hgk,hj,rfl,ho,hkp⟩:=hrel;have HA:Hid (gk=m.next.length-j∧Grew w wr):=⟨hgk,hkp⟩
  obtain⟨ao,cap,hv⟩:=ho.form;subst hv;have hszr:=hkp.size;have OR:=vl ho;by_cases hj2:j<m.next.length
  ·have i1:(j:Int)<((m.next.length:Nat):Int):=by omega
   have HV:Hid (zBM one j=((j:Int)==(one:Int))):=rfl;go_wp2_with (first|(at_builtin;refine wpList_append_lies _ rfl _ _ 28 rfl (w.heap.size) 4 i0 (.bool false) 1 1 underlying28 hi0 hz0 hz1 hz2 rfl (by decide) _ _ _ rfl (OR.out.alloc _) ⟨wr.heap.size,0,none⟩ 1 1 [.bool ((j:Int)==(one:Int))] rfl rfl (cell_one_new _ _ _) (by intro u hu;simp at hu;subst hu;rfl) (by decide) (by unfold maxLen;omega) (by omega) (by simp;omega) _ rfl ?_;intro gg cap2 w2 hown hgrow hat hlt2;have hB:=xO OR.out hgrow hszr))
   have O2:Hid (OwnF w2 w.heap.size (.slice (some ⟨gg,0,none⟩) (j+1) cap2) (j+1) (zBM one)∧Grew w w2):=⟨OwnF.snoc hown HV.out,HA.out.2.trans (xN hB)⟩
   go_wp2;go_roundg (m.next.length-(j+1))
   case measure=>rw[HA.out.1];omega
   case rel=>exact⟨j+1,rfl,by omega,by go_num,O2.out.1,O2.out.2⟩
  ·have hje:j=m.next.length:=by omega
   have i1:((m.next.length:Nat):Int)<=(j:Int):=by omega
   have HZ:Hid (OwnF wr w.heap.size (.slice ao j cap) (m.next.length) (zBM one)):=by rw[hje] at ho ⊢;exact ho
   go_wp2;go_ret;exact⟨_,rfl,HZ.out,HA.out.2⟩
theorem zCg (w:World)(va vb:Value)(n:Nat)(fa fb:Nat->Bool)(hA:BoolsAt w (In w) va n fa)(hB:BoolsAt w (In w) vb n fb)(hn:n<=200):
  Calls prog 143 #[va,vb] w fun e w'=>∃u,e=.returned u∧OwnF w' w.heap.size u (n) (qT fa fb)∧Grew w w':=by
 obtain⟨i0,hi0,hz0,hz1,hz2⟩:=info_parts qO;obtain⟨ba,oa,ca,hba,rfl,_,_,hca⟩:=hA;obtain⟨bb,ob,cb,hbb,rfl,_,_,hcb⟩:=hB;have HCA:=vl hca;have HCB:=vl hcb;go_in;go_wp2;go_loopg [5,10] (n) (fun q lst i wr=>∃j:Nat,q=n-j∧j<=n∧i=.int .i64 (j:Int)∧OwnF wr w.heap.size lst j (qT fa fb)∧Grew w wr)
 case atStart=>exact⟨0,rfl,Nat.zero_le _,rfl,OwnF.nil _ _ _,Keep.refl _ _ _⟩
 case round=>
  obtain⟨j,hgk,hj,rfl,ho,hkp⟩:=hrel;have HA:Hid (gk=n-j∧Grew w wr):=⟨hgk,hkp⟩
  obtain⟨ao,cap,hv⟩:=ho.form;subst hv;have hszr:=hkp.size;have OR:=vl ho;by_cases hj2:j<n
  ·have i1:(j:Int)<((n:Nat):Int):=by omega
   have ya:=zA (HCA.out j hj2) hba hkp;have yb:=zA (HCB.out j hj2) hbb hkp;have HV:Hid (qT fa fb j=(fa j&& !fb j)):=rfl;generalize fa j=xa at *;generalize fb j=xb at *;cases xa with
   |true=>
    go_wp2_with (first|(at_builtin;refine wpList_append_lies _ rfl _ _ 28 rfl (w.heap.size) 4 i0 (.bool false) 1 1 underlying28 hi0 hz0 hz1 hz2 rfl (by decide) _ _ _ rfl (OR.out.alloc _) ⟨wr.heap.size,0,none⟩ 1 1 [.bool (!xb)] rfl rfl (cell_one_new _ _ _) (by intro u hu;simp at hu;subst hu;rfl) (by decide) (by unfold maxLen;omega) (by omega) (by simp;omega) _ rfl ?_;intro gg cap2 w2 hown hgrow hat hlt2;have hB:=xO OR.out hgrow hszr))
    have O2:Hid (OwnF w2 w.heap.size (.slice (some ⟨gg,0,none⟩) (j+1) cap2) (j+1) (qT fa fb)∧Grew w w2):=⟨OwnF.snoc hown HV.out,HA.out.2.trans (xN hB)⟩
    go_wp2;go_roundg (n-(j+1))
    case measure=>rw[HA.out.1];omega
    case rel=>exact⟨j+1,rfl,by omega,by go_num,O2.out.1,O2.out.2⟩
   |false=>
    go_wp2_with (first|(at_builtin;refine wpList_append_lies _ rfl _ _ 28 rfl (w.heap.size) 4 i0 (.bool false) 1 1 underlying28 hi0 hz0 hz1 hz2 rfl (by decide) _ _ _ rfl (OR.out.alloc _) ⟨wr.heap.size,0,none⟩ 1 1 [.bool (false)] rfl rfl (cell_one_new _ _ _) (by intro u hu;simp at hu;subst hu;rfl) (by decide) (by unfold maxLen;omega) (by omega) (by simp;omega) _ rfl ?_;intro gg cap2 w2 hown hgrow hat hlt2;have hB:=xO OR.out hgrow hszr))
    have O2:Hid (OwnF w2 w.heap.size (.slice (some ⟨gg,0,none⟩) (j+1) cap2) (j+1) (qT fa fb)∧Grew w w2):=⟨OwnF.snoc hown HV.out,HA.out.2.trans (xN hB)⟩
    go_wp2;go_roundg (n-(j+1))
    case measure=>rw[HA.out.1];omega
    case rel=>exact⟨j+1,rfl,by omega,by go_num,O2.out.1,O2.out.2⟩
  ·have hje:j=n:=by omega
   have i1:((n:Nat):Int)<=(j:Int):=by omega
   have HZ:Hid (OwnF wr w.heap.size (.slice ao j cap) (n) (qT fa fb)):=by rw[hje] at ho ⊢;exact ho
   go_wp2;go_ret;exact⟨_,rfl,HZ.out,HA.out.2⟩
end Go.Proofs.YtbjcfkdnjaiclaaGreat
