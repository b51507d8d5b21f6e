import Derived.Deep.DrawnRows
import Derived.Deep.RegionLaw
import Derived.Test.YtbjcfkdnjaiclaaGreatE0
import Derived.Test.YtbjcfkdnjaiclaaGreatE6
/- Parts of the proof. -/
set_option linter.unusedVariables false
set_option linter.unusedSimpArgs false
set_option maxHeartbeats 4000000
set_option maxRecDepth 100000
namespace Go.Proofs.YtbjcfkdnjaiclaaGreat
open Go.RowKit Go.Proofs.Tryz Go.World
open Go.Value (int slice bool pointer string agg tuple)
open Go.IntKind (i64)
open Go.Ending (returned)
theorem zDc (w:World)(l m:Nat)(e:Bool):
  Calls prog 165 #[agg #[int i64 (l:Int),int i64 (m:Int),bool e]] w fun x w'=>x=returned (int i64 (((if e then(if l=0 then 1 else l) else m:Nat)):Int))∧Grew w w':=by
 cases e with
 |false=>
  go_in;go_wp2;go_ret;exact⟨rfl,kZ _ _ lQ⟩
 |true=>
  by_cases h:l=0
  ·subst h
   go_in;go_wp2;go_ret;exact⟨rfl,kZ _ _ lQ⟩
  ·have hc:((l:Int)==0)=false:=by rw[hJ];omega
   go_in;go_wp2;go_ret;exact⟨rfl,kZ _ _ lQ⟩
theorem zE7 (w0:World)(nb d:Nat)(sub:Lay)(cnt:Tr->Nat)(hs:zBY w0 nb d sub cnt)(hy:Lays sub cnt)(w:World)(n:Nt)(b:Nat)(t:Tr)(h:NwIs w0 w nb n)(hg:n.Good)(ht:TreeAt w0 (d+1) b t)(hl:n.sets.length+t.copies*zW cnt t.parts t.parts.length<=24)(hpl:t.parts.length<=1000000000000)(hcp:t.copies<=1000000000000)(hls:t.least<=1000000000000):
  Calls prog 126 #[pointer (some ⟨nb,0,none⟩),pointer (some ⟨b,0,none⟩)] w fun e w'=>e=returned (xS sub n t t.copies).2.val∧NwIs w0 w' nb (xS sub n t t.copies).1∧StayS w w':=by
 have HTR:=vl ht;obtain⟨hbl,rv,pv,hb,-⟩:=id ht;have HTM0:Hid (∀wr n2,NwIs w0 wr nb n2->wr.cell? ⟨b,4,none⟩=some (int i64 (t.least:Int))∧wr.cell? ⟨b,5,none⟩=some (int i64 (t.most:Int))∧wr.cell? ⟨b,6,none⟩=some (bool t.endless)):=by
  rintro wr n2 ⟨_,_,_,_,_,hN⟩;have hk:=hN.keep;have hb2:=(hk.block b hbl (kJ hbl)).trans hb;refine⟨?_,?_,?_⟩
  all_goals (unfold cell?;rw[hb2];rfl)
 have HTM:Hid (∀wr n2,NwIs w0 wr nb n2->wr.cell? ⟨b,6,none⟩=some (bool t.endless)∧wr.cell? ⟨b,4,none⟩=some (int i64 (t.least:Int))):=fun wr n2 hN=>⟨(HTM0.out wr n2 hN).2.2,(HTM0.out wr n2 hN).1⟩
 have HCP:Hid (∀w2,Ca 165 #[agg #[int i64 (t.least:Int),int i64 (t.most:Int),bool t.endless]] w2 fun x w'=>x=returned (int i64 (t.copies:Int))∧Grew w2 w'):=fun w2=>zDc w2 t.least t.most t.endless;have hm:∀j,j<=t.copies->n.sets.length+j*zW cnt t.parts t.parts.length<=24:=fun j hj=>lY (Nat.add_le_add_left (Nat.mul_le_mul_right _ hj) _) hl;obtain⟨RT,hRT⟩:∃RT,RT=xS sub n t:=⟨_,rfl⟩
 have HRT:Hid (RT 0=(n,⟨0,0,true⟩)∧(∀j,RT (j+1)=((jM t j (rowTo sub (RT j).1 t.parts t.parts.length)).link (RT j).2.last (zAC t j (rowTo sub (RT j).1 t.parts t.parts.length)).first,(RT j).2.then (zAC t j (rowTo sub (RT j).1 t.parts t.parts.length))))∧(∀j,j<=t.copies->(RT j).1.Good∧(RT j).2.Small 24)∧(∀j,j<t.copies->(RT j).1.sets.length+zW cnt t.parts t.parts.length<=24∧(rowTo sub (RT j).1 t.parts t.parts.length).1.Good∧(rowTo sub (RT j).1 t.parts t.parts.length).2.Small 24∧(rowTo sub (RT j).1 t.parts t.parts.length).2.first<2^(rowTo sub (RT j).1 t.parts t.parts.length).1.sets.length)∧RT t.copies=xS sub n t t.copies):=by
  rw[hRT];refine⟨rfl,fun j=>rfl,fun j hj=>?_,fun j hj=>?_,rfl⟩
  ·have:=zBr hy hg t j (hm j hj)
   exact⟨this.1,this.2.2.up (hm j hj)⟩
  ·have h1:=zBr hy hg t j (hm j (by omega))
   have h2:=hm (j+1) hj;rw[Nat.add_mul,Nat.one_mul] at h2;have h3:=zAy hy h1.1 t.parts t.parts.length (by rw[h1.2.1];omega);exact⟨by rw[h1.2.1];omega,h3.1,h3.2.2.up (by rw[h1.2.1];omega),by rw[h3.2.1];exact h3.2.2.first⟩
 have HROW:Hid (∀wr n2,NwIs w0 wr nb n2->n2.Good->n2.sets.length+zW cnt t.parts t.parts.length<=24->Ca 124 #[pointer (some ⟨nb,0,none⟩),pointer (some ⟨b,0,none⟩)] wr fun e w'=>e=returned (rowTo sub n2 t.parts t.parts.length).2.val∧NwIs w0 w' nb (rowTo sub n2 t.parts t.parts.length).1∧StayS wr w'):=fun wr n2 hN hG hc=>zC4 w0 nb d sub cnt hs hy wr n2 b t hN hG HTR.out hc hpl;obtain⟨w1,hw1,HA1⟩:∃w1,w1=(w.alloc (.cells #[int i64 0,int i64 0,bool false] 167)).alloc (.cells #[int i64 0,int i64 0,bool true] 167)∧Hid (Al w0 w w1 nb n ⟨0,0,true⟩):=⟨_,rfl,Al.start h ⟨0,0,true⟩⟩
 generalize hRE:xS sub n t t.copies=RE at *;generalize hcpp:t.copies=cp at *;have HCPP:=vl hcpp;clear hRE hRT hb hs hy hl h hg ht hm hcpp;go_in;apply wp_cut;intro K0 J;go_wp2;apply J.out;clear J;apply wp_cut;intro K0 J;go_wp2;apply J.out;clear J;rw[<-hw1];clear hw1;obtain⟨y4,y5,y6⟩:=HTM0.out w1 n HA1.out.net;go_wp2_with (first|(go_at_call 165;refine(HCP.out _).mono ?_;rintro e w2 ⟨rfl,hk2⟩;have HA2:=vl <| HA1.out.grown hk2;clear hk2))
 clear y4 y5 y6;go_loopg [7] cp (fun q i wr=>∃j:Nat,q=cp-j∧j<=cp∧i=int i64 (j:Int)∧Al w0 w wr nb (RT j).1 (RT j).2)
 case atStart=>exact⟨0,rfl,lX,rfl,by rw[HRT.out.1];exact HA2.out⟩
 case round=>
  obtain⟨j,hgk,hj,rfl,hA⟩:=hrel;have HB:Hid (gk=cp-j∧Al w0 w wr nb (RT j).1 (RT j).2):=⟨hgk,hA⟩
  by_cases hj2:j<cp
  ·have i1:(j:Int)<(cp:Int):=by omega
   obtain⟨b1,b2,b3,b4⟩:=HRT.out.2.2.2.1 j hj2;obtain⟨g1,g2⟩:=HRT.out.2.2.1 j hj;have HC0:=HROW.out wr (RT j).1 hA.net g1 b1;have HN2:Hid (RT (j+1)=((jM t j (rowTo sub (RT j).1 t.parts t.parts.length)).link (RT j).2.last (zAC t j (rowTo sub (RT j).1 t.parts t.parts.length)).first,(RT j).2.then (zAC t j (rowTo sub (RT j).1 t.parts t.parts.length)))):=HRT.out.2.1 j;have HA:Hid (Al w0 w wr nb (RT j).1 (RT j).2):=hA;clear hgk hA b1;generalize (RT j).1=nj at *;generalize (RT j).2=sj at *;generalize rowTo sub nj t.parts t.parts.length=q at *;obtain⟨q1,⟨qf,ql,qe⟩⟩:=q;obtain⟨af,al,ae⟩:=sj;have b2':q1.Good:=b2;have b3':(Sn.mk qf ql qe).Small 24:=b3;have b4':qf<2^q1.sets.length:=b4;have b5:=zB9 b2' ql qf b4';have HC2:Hid (Ca 124 #[pointer (some ⟨nb,0,none⟩),pointer (some ⟨b,0,none⟩)] wr fun e w'=>e=returned (agg #[int i64 (qf:Int),int i64 (ql:Int),bool qe])∧NwIs w0 w' nb q1∧StayS wr w'):=HC0;have HLK:Hid (∀w6,NwIs w0 w6 nb q1->Ca 166 #[pointer (some ⟨nb,0,none⟩),int i64 (ql:Int),int i64 (qf:Int)] w6 fun e w'=>e=returned (tuple #[])∧NwIs w0 w' nb (q1.link ql qf)∧StayS w6 w'):=fun w6 h6=>zE2 w0 w6 nb q1 h6 (by rw[b2'.same];exact b2'.len) b2'.top ql qf b3'.last b3'.first
   have HTA:Hid (∀w6,NwIs w0 w6 nb q1->∀x:Bool,Ca 164 #[pointer (some ⟨nb,0,none⟩),agg #[int i64 (af:Int),int i64 (al:Int),bool ae],agg #[int i64 (qf:Int),int i64 (ql:Int),bool x]] w6 fun e w'=>e=returned ((Sn.mk af al ae).then ⟨qf,ql,x⟩).val∧NwIs w0 w' nb (q1.link al qf)∧StayS w6 w'):=fun w6 h6 x=>zCv w0 w6 nb q1 h6 (by rw[b2'.same];exact b2'.len) b2'.top ⟨af,al,ae⟩ ⟨qf,ql,x⟩ g2 ⟨b3'.first,b3'.last⟩;have HTB:Hid (∀w6,NwIs w0 w6 nb (q1.link ql qf)->∀x:Bool,Ca 164 #[pointer (some ⟨nb,0,none⟩),agg #[int i64 (af:Int),int i64 (al:Int),bool ae],agg #[int i64 (qf:Int),int i64 (ql:Int),bool x]] w6 fun e w'=>e=returned ((Sn.mk af al ae).then ⟨qf,ql,x⟩).val∧NwIs w0 w' nb ((q1.link ql qf).link al qf)∧StayS w6 w'):=fun w6 h6 x=>zCv w0 w6 nb _ h6 (by rw[b5.1.same];exact b5.1.len) b5.1.top ⟨af,al,ae⟩ ⟨qf,ql,x⟩ g2 ⟨b3'.first,b3'.last⟩;have HW6:Hid (∀w5,Al w0 w w5 nb q1 ⟨af,al,ae⟩->∀x:Bool,w.heap.size+1<w5.heap.size∧Al w0 w (w5.alloc (Obj.cells #[int i64 (qf:Int),int i64 (ql:Int),bool x] 167)) nb q1 ⟨af,al,ae⟩∧(w5.alloc (Obj.cells #[int i64 (qf:Int),int i64 (ql:Int),bool x] 167)).heap[w5.heap.size]? =some (.cells #[int i64 (qf:Int),int i64 (ql:Int),bool x] 167)):=fun w5 h5 x=>⟨(kQ.1 h5.all).1,h5.grown (kZ w5 _ lQ),gU w5 _⟩
   have HST:Hid (∀(w7:World) (b8:Nat),w.heap.size+1<b8->Al w0 w w7 nb (q1.link ql qf) ⟨af,al,ae⟩->w7.heap[b8]? =some (.cells #[int i64 (qf:Int),int i64 (ql:Int),bool qe] 167)->Al w0 w (w7.setCell ⟨b8,2,none⟩ (bool true)) nb (q1.link ql qf) ⟨af,al,ae⟩∧(w7.setCell ⟨b8,2,none⟩ (bool true)).heap[b8]? =some (.cells #[int i64 (qf:Int),int i64 (ql:Int),bool true] 167)):=by
    intro w7 b8 hb8 h7 hb7;have e:∀k,k≠b8->(w7.setCell ⟨b8,2,none⟩ (bool true)).heap[k]? =w7.heap[k]? :=fun k hk=>lJ _ _ _ _ hk;have ho:=h7.old;exact⟨⟨h7.net.setSpan hb7 (by omega),(e _ (by omega)).trans h7.res,(e _ (by omega)).trans h7.all,jD h7.stay (by omega),h7.old⟩,by simp[setCell,lU,hb7]⟩
   have HCQ:=HCPP.out;clear HC0 b2 b3 b4 b2' b3' b4' b5 g1 g2;have hcases:(t.endless=false∨(t.endless=true∧(j+1==t.copies)=false)∨(t.endless=true∧(j+1==t.copies)=true)):=by
    cases t.endless
    ·exact .inl rfl
    ·cases h:(j+1==t.copies)
     ·exact .inr (.inl ⟨rfl,rfl⟩)
     ·exact .inr (.inr ⟨rfl,rfl⟩)
   rcases hcases with hen|⟨hen,hq⟩|⟨hen,hq⟩
   all_goals (by_cases hle:t.least<=j)
   ·have HN3:Hid (RT (j+1)=(q1.link al qf,(Sn.mk af al ae).then ⟨qf,ql,true⟩)):=by
     show RT (j+1)=_;rw[HN2.out];unfold jM zAC;rw[if_neg (by rw[hen];simp),if_pos hle]
    have HTH:Hid (∀w6,NwIs w0 w6 nb q1->Ca 164 #[pointer (some ⟨nb,0,none⟩),agg #[int i64 (af:Int),int i64 (al:Int),bool ae],agg #[int i64 (qf:Int),int i64 (ql:Int),bool true]] w6 fun e w'=>e=returned (agg #[int i64 (((Sn.mk af al ae).then ⟨qf,ql,true⟩).first:Int),int i64 (((Sn.mk af al ae).then ⟨qf,ql,true⟩).last:Int),bool ((Sn.mk af al ae).then ⟨qf,ql,true⟩).empty])∧NwIs w0 w' nb (q1.link al qf)∧StayS w6 w'):=fun w6 h6=>HTA.out w6 h6 true;have i2:(j:Int)>=(t.least:Int):=by omega
    have hq:True:=trivial;have hen0:Hid (t.endless=false):=hen;clear HN2 HTA HTB hle hq hen;generalize (Sn.mk af al ae).then ⟨qf,ql,true⟩=s9 at *
    go_wp2_with (first|(go_at_call 124;refine HC2.out.mono ?_;rintro e w5 ⟨rfl,hN5,hS5⟩;have A5:=HA.out.call hN5 hS5;obtain⟨v6,v4⟩:=HTM.out w5 _ hN5;rw[hen0.out] at v6;obtain⟨hlt5,A6,hb8⟩:=HW6.out w5 A5 qe;obtain⟨d0,d1,d2,-⟩:=zI (s:=⟨qf,ql,qe⟩) hb8;obtain⟨u6,u4⟩:=HTM.out (w5.alloc (Obj.cells #[int i64 (qf:Int),int i64 (ql:Int),bool qe] 167)) _ A6.net;rw[hen0.out] at u6;obtain⟨-,A6t,hb8t⟩:=HW6.out w5 A5 true;obtain⟨m0,m1,m2,-⟩:=zI (s:=⟨qf,ql,true⟩) hb8t;obtain⟨c0,c1,c2,-⟩:=zI A6t.all;have HAW:Hid (Al w0 w (w5.alloc (Obj.cells #[int i64 (qf:Int),int i64 (ql:Int),bool true] 167)) nb q1 ⟨af,al,ae⟩):=A6t;clear A6t hb8t;clear A5 A6 hN5 hS5 hb8 hlt5)|(go_at_call 164;refine(HTH.out _ HAW.out.net).mono ?_;rintro e w9 ⟨rfl,hN9,hS9⟩;have A9:=HAW.out.call hN9 hS9;obtain⟨e0,e1,e2,ef⟩:=zI A9.all;have f0:=ef 0;have f1:=ef 1;have f2:=ef 2;have HA10:Hid (Al w0 w (World.span w9 (w.heap.size+1) s9) nb (q1.link al qf) s9):=A9.setAll s9;clear A9 hN9 hS9 ef))
    go_roundg (cp-(j+1))
    case measure=>rw[HB.out.1];omega
    case rel=>exact⟨j+1,rfl,by omega,by go_num,by rw[HN3.out];exact HA10.out⟩
   ·have HN3:Hid (RT (j+1)=(q1.link al qf,(Sn.mk af al ae).then ⟨qf,ql,qe⟩)):=by
     show RT (j+1)=_;rw[HN2.out];unfold jM zAC;rw[if_neg (by rw[hen];simp),if_neg hle]
    have HTH:Hid (∀w6,NwIs w0 w6 nb q1->Ca 164 #[pointer (some ⟨nb,0,none⟩),agg #[int i64 (af:Int),int i64 (al:Int),bool ae],agg #[int i64 (qf:Int),int i64 (ql:Int),bool qe]] w6 fun e w'=>e=returned (agg #[int i64 (((Sn.mk af al ae).then ⟨qf,ql,qe⟩).first:Int),int i64 (((Sn.mk af al ae).then ⟨qf,ql,qe⟩).last:Int),bool ((Sn.mk af al ae).then ⟨qf,ql,qe⟩).empty])∧NwIs w0 w' nb (q1.link al qf)∧StayS w6 w'):=fun w6 h6=>HTA.out w6 h6 qe;have i2:(j:Int)<(t.least:Int):=by omega
    have hq:True:=trivial;have hen0:Hid (t.endless=false):=hen;clear HN2 HTA HTB hle hq hen;generalize (Sn.mk af al ae).then ⟨qf,ql,qe⟩=s9 at *
    go_wp2_with (first|(go_at_call 124;refine HC2.out.mono ?_;rintro e w5 ⟨rfl,hN5,hS5⟩;have A5:=HA.out.call hN5 hS5;obtain⟨v6,v4⟩:=HTM.out w5 _ hN5;rw[hen0.out] at v6;obtain⟨hlt5,A6,hb8⟩:=HW6.out w5 A5 qe;obtain⟨d0,d1,d2,-⟩:=zI (s:=⟨qf,ql,qe⟩) hb8;obtain⟨u6,u4⟩:=HTM.out (w5.alloc (Obj.cells #[int i64 (qf:Int),int i64 (ql:Int),bool qe] 167)) _ A6.net;rw[hen0.out] at u6;obtain⟨c0,c1,c2,-⟩:=zI A6.all;have HAW:Hid (Al w0 w (w5.alloc (Obj.cells #[int i64 (qf:Int),int i64 (ql:Int),bool qe] 167)) nb q1 ⟨af,al,ae⟩):=A6;clear A5 A6 hN5 hS5 hb8 hlt5)|(go_at_call 164;refine(HTH.out _ HAW.out.net).mono ?_;rintro e w9 ⟨rfl,hN9,hS9⟩;have A9:=HAW.out.call hN9 hS9;obtain⟨e0,e1,e2,ef⟩:=zI A9.all;have f0:=ef 0;have f1:=ef 1;have f2:=ef 2;have HA10:Hid (Al w0 w (World.span w9 (w.heap.size+1) s9) nb (q1.link al qf) s9):=A9.setAll s9;clear A9 hN9 hS9 ef))
    go_roundg (cp-(j+1))
    case measure=>rw[HB.out.1];omega
    case rel=>exact⟨j+1,rfl,by omega,by go_num,by rw[HN3.out];exact HA10.out⟩
   ·have HN3:Hid (RT (j+1)=(q1.link al qf,(Sn.mk af al ae).then ⟨qf,ql,true⟩)):=by
     show RT (j+1)=_;rw[HN2.out];unfold jM zAC;rw[if_neg (by rw[hen,hq];simp),if_pos hle]
    have HTH:Hid (∀w6,NwIs w0 w6 nb q1->Ca 164 #[pointer (some ⟨nb,0,none⟩),agg #[int i64 (af:Int),int i64 (al:Int),bool ae],agg #[int i64 (qf:Int),int i64 (ql:Int),bool true]] w6 fun e w'=>e=returned (agg #[int i64 (((Sn.mk af al ae).then ⟨qf,ql,true⟩).first:Int),int i64 (((Sn.mk af al ae).then ⟨qf,ql,true⟩).last:Int),bool ((Sn.mk af al ae).then ⟨qf,ql,true⟩).empty])∧NwIs w0 w' nb (q1.link al qf)∧StayS w6 w'):=fun w6 h6=>HTA.out w6 h6 true;have i2:(j:Int)>=(t.least:Int):=by omega
    have hceq:((j:Int)==(cp:Int)-1)=false:=by rw[hJ];have:=hJ.1 hq;omega
    have hen0:Hid (t.endless=true):=hen;clear HN2 HTA HTB hle hq hen;generalize (Sn.mk af al ae).then ⟨qf,ql,true⟩=s9 at *
    go_wp2_with (first|(go_at_call 124;refine HC2.out.mono ?_;rintro e w5 ⟨rfl,hN5,hS5⟩;have A5:=HA.out.call hN5 hS5;obtain⟨v6,v4⟩:=HTM.out w5 _ hN5;rw[hen0.out] at v6;obtain⟨hlt5,A6,hb8⟩:=HW6.out w5 A5 qe;obtain⟨d0,d1,d2,-⟩:=zI (s:=⟨qf,ql,qe⟩) hb8;obtain⟨u6,u4⟩:=HTM.out (w5.alloc (Obj.cells #[int i64 (qf:Int),int i64 (ql:Int),bool qe] 167)) _ A6.net;rw[hen0.out] at u6;obtain⟨-,A6t,hb8t⟩:=HW6.out w5 A5 true;obtain⟨m0,m1,m2,-⟩:=zI (s:=⟨qf,ql,true⟩) hb8t;obtain⟨c0,c1,c2,-⟩:=zI A6t.all;have HAW:Hid (Al w0 w (w5.alloc (Obj.cells #[int i64 (qf:Int),int i64 (ql:Int),bool true] 167)) nb q1 ⟨af,al,ae⟩):=A6t;clear A6t hb8t;clear A5 A6 hN5 hS5 hb8 hlt5)|(go_at_call 164;refine(HTH.out _ HAW.out.net).mono ?_;rintro e w9 ⟨rfl,hN9,hS9⟩;have A9:=HAW.out.call hN9 hS9;obtain⟨e0,e1,e2,ef⟩:=zI A9.all;have f0:=ef 0;have f1:=ef 1;have f2:=ef 2;have HA10:Hid (Al w0 w (World.span w9 (w.heap.size+1) s9) nb (q1.link al qf) s9):=A9.setAll s9;clear A9 hN9 hS9 ef))
    go_roundg (cp-(j+1))
    case measure=>rw[HB.out.1];omega
    case rel=>exact⟨j+1,rfl,by omega,by go_num,by rw[HN3.out];exact HA10.out⟩
   ·have HN3:Hid (RT (j+1)=(q1.link al qf,(Sn.mk af al ae).then ⟨qf,ql,qe⟩)):=by
     show RT (j+1)=_;rw[HN2.out];unfold jM zAC;rw[if_neg (by rw[hen,hq];simp),if_neg hle]
    have HTH:Hid (∀w6,NwIs w0 w6 nb q1->Ca 164 #[pointer (some ⟨nb,0,none⟩),agg #[int i64 (af:Int),int i64 (al:Int),bool ae],agg #[int i64 (qf:Int),int i64 (ql:Int),bool qe]] w6 fun e w'=>e=returned (agg #[int i64 (((Sn.mk af al ae).then ⟨qf,ql,qe⟩).first:Int),int i64 (((Sn.mk af al ae).then ⟨qf,ql,qe⟩).last:Int),bool ((Sn.mk af al ae).then ⟨qf,ql,qe⟩).empty])∧NwIs w0 w' nb (q1.link al qf)∧StayS w6 w'):=fun w6 h6=>HTA.out w6 h6 qe;have i2:(j:Int)<(t.least:Int):=by omega
    have hceq:((j:Int)==(cp:Int)-1)=false:=by rw[hJ];have:=hJ.1 hq;omega
    have hen0:Hid (t.endless=true):=hen;clear HN2 HTA HTB hle hq hen;generalize (Sn.mk af al ae).then ⟨qf,ql,qe⟩=s9 at *
    go_wp2_with (first|(go_at_call 124;refine HC2.out.mono ?_;rintro e w5 ⟨rfl,hN5,hS5⟩;have A5:=HA.out.call hN5 hS5;obtain⟨v6,v4⟩:=HTM.out w5 _ hN5;rw[hen0.out] at v6;obtain⟨hlt5,A6,hb8⟩:=HW6.out w5 A5 qe;obtain⟨d0,d1,d2,-⟩:=zI (s:=⟨qf,ql,qe⟩) hb8;obtain⟨u6,u4⟩:=HTM.out (w5.alloc (Obj.cells #[int i64 (qf:Int),int i64 (ql:Int),bool qe] 167)) _ A6.net;rw[hen0.out] at u6;obtain⟨c0,c1,c2,-⟩:=zI A6.all;have HAW:Hid (Al w0 w (w5.alloc (Obj.cells #[int i64 (qf:Int),int i64 (ql:Int),bool qe] 167)) nb q1 ⟨af,al,ae⟩):=A6;clear A5 A6 hN5 hS5 hb8 hlt5)|(go_at_call 164;refine(HTH.out _ HAW.out.net).mono ?_;rintro e w9 ⟨rfl,hN9,hS9⟩;have A9:=HAW.out.call hN9 hS9;obtain⟨e0,e1,e2,ef⟩:=zI A9.all;have f0:=ef 0;have f1:=ef 1;have f2:=ef 2;have HA10:Hid (Al w0 w (World.span w9 (w.heap.size+1) s9) nb (q1.link al qf) s9):=A9.setAll s9;clear A9 hN9 hS9 ef))
    go_roundg (cp-(j+1))
    case measure=>rw[HB.out.1];omega
    case rel=>exact⟨j+1,rfl,by omega,by go_num,by rw[HN3.out];exact HA10.out⟩
   ·have HN3:Hid (RT (j+1)=((q1.link ql qf).link al qf,(Sn.mk af al ae).then ⟨qf,ql,true⟩)):=by
     show RT (j+1)=_;rw[HN2.out];unfold jM zAC;rw[if_pos (by rw[hen,hq];rfl),if_pos hle]
    have HTH:Hid (∀w6,NwIs w0 w6 nb (q1.link ql qf)->Ca 164 #[pointer (some ⟨nb,0,none⟩),agg #[int i64 (af:Int),int i64 (al:Int),bool ae],agg #[int i64 (qf:Int),int i64 (ql:Int),bool true]] w6 fun e w'=>e=returned (agg #[int i64 (((Sn.mk af al ae).then ⟨qf,ql,true⟩).first:Int),int i64 (((Sn.mk af al ae).then ⟨qf,ql,true⟩).last:Int),bool ((Sn.mk af al ae).then ⟨qf,ql,true⟩).empty])∧NwIs w0 w' nb ((q1.link ql qf).link al qf)∧StayS w6 w'):=fun w6 h6=>HTB.out w6 h6 true;have i2:(j:Int)>=(t.least:Int):=by omega
    have hceq:((j:Int)==(cp:Int)-1)=true:=by rw[beq_iff_eq];have:=beq_iff_eq.1 hq;omega
    have hen0:Hid (t.endless=true):=hen;clear HN2 HTA HTB hle hq hen;generalize (Sn.mk af al ae).then ⟨qf,ql,true⟩=s9 at *
    go_wp2_with (first|(go_at_call 124;refine HC2.out.mono ?_;rintro e w5 ⟨rfl,hN5,hS5⟩;have A5:=HA.out.call hN5 hS5;obtain⟨v6,v4⟩:=HTM.out w5 _ hN5;rw[hen0.out] at v6;obtain⟨hlt5,A6,hb8⟩:=HW6.out w5 A5 qe;obtain⟨d0,d1,d2,-⟩:=zI (s:=⟨qf,ql,qe⟩) hb8;obtain⟨u6,u4⟩:=HTM.out (w5.alloc (Obj.cells #[int i64 (qf:Int),int i64 (ql:Int),bool qe] 167)) _ A6.net;rw[hen0.out] at u6;have HA6:Hid (Al w0 w (w5.alloc (Obj.cells #[int i64 (qf:Int),int i64 (ql:Int),bool qe] 167)) nb q1 ⟨af,al,ae⟩):=A6;have HB8:Hid ((w5.alloc (Obj.cells #[int i64 (qf:Int),int i64 (ql:Int),bool qe] 167)).heap[w5.heap.size]? =some (.cells #[int i64 (qf:Int),int i64 (ql:Int),bool qe] 167)):=hb8;have HLT5:Hid (w.heap.size+1<w5.heap.size):=hlt5;clear A5 A6 hN5 hS5 hb8 hlt5)|(go_at_call 166;refine(HLK.out (w5.alloc (Obj.cells #[int i64 (qf:Int),int i64 (ql:Int),bool qe] 167)) HA6.out.net).mono ?_;rintro e w7 ⟨rfl,hN7,hS7⟩;have A7:=HA6.out.call hN7 hS7;have hb7:=hS7 _ _ HB8.out;obtain⟨t6,t4⟩:=HTM.out w7 _ hN7;obtain⟨m0,m1,m2,mf⟩:=zI (s:=⟨qf,ql,qe⟩) hb7;have mf2:=mf 2;obtain⟨A8,hb9⟩:=HST.out w7 w5.heap.size HLT5.out A7 hb7;obtain⟨n0,n1,n2,-⟩:=zI (s:=⟨qf,ql,true⟩) hb9;obtain⟨c0,c1,c2,-⟩:=zI A8.all;have HAW:Hid (Al w0 w (w7.setCell ⟨w5.heap.size,2,none⟩ (bool true)) nb (q1.link ql qf) ⟨af,al,ae⟩):=A8;clear A8 hb9;clear A7 hN7 hS7 hb7 mf)|(go_at_call 164;refine(HTH.out _ HAW.out.net).mono ?_;rintro e w9 ⟨rfl,hN9,hS9⟩;have A9:=HAW.out.call hN9 hS9;obtain⟨e0,e1,e2,ef⟩:=zI A9.all;have f0:=ef 0;have f1:=ef 1;have f2:=ef 2;have HA10:Hid (Al w0 w (World.span w9 (w.heap.size+1) s9) nb ((q1.link ql qf).link al qf) s9):=A9.setAll s9;clear A9 hN9 hS9 ef))
    go_roundg (cp-(j+1))
    case measure=>rw[HB.out.1];omega
    case rel=>exact⟨j+1,rfl,by omega,by go_num,by rw[HN3.out];exact HA10.out⟩
   ·have HN3:Hid (RT (j+1)=((q1.link ql qf).link al qf,(Sn.mk af al ae).then ⟨qf,ql,qe⟩)):=by
     show RT (j+1)=_;rw[HN2.out];unfold jM zAC;rw[if_pos (by rw[hen,hq];rfl),if_neg hle]
    have HTH:Hid (∀w6,NwIs w0 w6 nb (q1.link ql qf)->Ca 164 #[pointer (some ⟨nb,0,none⟩),agg #[int i64 (af:Int),int i64 (al:Int),bool ae],agg #[int i64 (qf:Int),int i64 (ql:Int),bool qe]] w6 fun e w'=>e=returned (agg #[int i64 (((Sn.mk af al ae).then ⟨qf,ql,qe⟩).first:Int),int i64 (((Sn.mk af al ae).then ⟨qf,ql,qe⟩).last:Int),bool ((Sn.mk af al ae).then ⟨qf,ql,qe⟩).empty])∧NwIs w0 w' nb ((q1.link ql qf).link al qf)∧StayS w6 w'):=fun w6 h6=>HTB.out w6 h6 qe;have i2:(j:Int)<(t.least:Int):=by omega
    have hceq:((j:Int)==(cp:Int)-1)=true:=by rw[beq_iff_eq];have:=beq_iff_eq.1 hq;omega
    have hen0:Hid (t.endless=true):=hen;clear HN2 HTA HTB hle hq hen;generalize (Sn.mk af al ae).then ⟨qf,ql,qe⟩=s9 at *
    go_wp2_with (first|(go_at_call 124;refine HC2.out.mono ?_;rintro e w5 ⟨rfl,hN5,hS5⟩;have A5:=HA.out.call hN5 hS5;obtain⟨v6,v4⟩:=HTM.out w5 _ hN5;rw[hen0.out] at v6;obtain⟨hlt5,A6,hb8⟩:=HW6.out w5 A5 qe;obtain⟨d0,d1,d2,-⟩:=zI (s:=⟨qf,ql,qe⟩) hb8;obtain⟨u6,u4⟩:=HTM.out (w5.alloc (Obj.cells #[int i64 (qf:Int),int i64 (ql:Int),bool qe] 167)) _ A6.net;rw[hen0.out] at u6;have HA6:Hid (Al w0 w (w5.alloc (Obj.cells #[int i64 (qf:Int),int i64 (ql:Int),bool qe] 167)) nb q1 ⟨af,al,ae⟩):=A6;have HB8:Hid ((w5.alloc (Obj.cells #[int i64 (qf:Int),int i64 (ql:Int),bool qe] 167)).heap[w5.heap.size]? =some (.cells #[int i64 (qf:Int),int i64 (ql:Int),bool qe] 167)):=hb8;have HLT5:Hid (w.heap.size+1<w5.heap.size):=hlt5;clear A5 A6 hN5 hS5 hb8 hlt5)|(go_at_call 166;refine(HLK.out (w5.alloc (Obj.cells #[int i64 (qf:Int),int i64 (ql:Int),bool qe] 167)) HA6.out.net).mono ?_;rintro e w7 ⟨rfl,hN7,hS7⟩;have A7:=HA6.out.call hN7 hS7;have hb7:=hS7 _ _ HB8.out;obtain⟨t6,t4⟩:=HTM.out w7 _ hN7;obtain⟨m0,m1,m2,mf⟩:=zI (s:=⟨qf,ql,qe⟩) hb7;have mf2:=mf 2;obtain⟨c0,c1,c2,-⟩:=zI A7.all;have HAW:Hid (Al w0 w w7 nb (q1.link ql qf) ⟨af,al,ae⟩):=A7;clear A7 hN7 hS7 hb7 mf)|(go_at_call 164;refine(HTH.out _ HAW.out.net).mono ?_;rintro e w9 ⟨rfl,hN9,hS9⟩;have A9:=HAW.out.call hN9 hS9;obtain⟨e0,e1,e2,ef⟩:=zI A9.all;have f0:=ef 0;have f1:=ef 1;have f2:=ef 2;have HA10:Hid (Al w0 w (World.span w9 (w.heap.size+1) s9) nb ((q1.link ql qf).link al qf) s9):=A9.setAll s9;clear A9 hN9 hS9 ef))
    go_roundg (cp-(j+1))
    case measure=>rw[HB.out.1];omega
    case rel=>exact⟨j+1,rfl,by omega,by go_num,by rw[HN3.out];exact HA10.out⟩
  ·have i1:(cp:Int)<=(j:Int):=by omega
   have e:j=cp:=by omega
   subst e;rw[HRT.out.2.2.2.2] at hA;obtain⟨c0,c1,c2,-⟩:=zI hA.all;obtain⟨r0,r1,r2,rf⟩:=zI hA.res;have f0:=rf 0;have f1:=rf 1;have f2:=rf 2;have HF:Hid (Al w0 w wr nb RE.1 RE.2):=hA;clear hgk hA rf;go_wp2;obtain⟨w9,hw9,K9,z0,z1,z2⟩:∃w9,w9=((wr.setCell ⟨w.heap.size,0,none⟩ (int i64 (RE.2.first:Int))).setCell ⟨w.heap.size,1,none⟩ (int i64 (RE.2.last:Int))).setCell ⟨w.heap.size,2,none⟩ (bool RE.2.empty)∧Hid (NwIs w0 w9 nb RE.1∧StayS w w9)∧w9.cell? ⟨w.heap.size,0,none⟩=some (int i64 (RE.2.first:Int))∧w9.cell? ⟨w.heap.size,1,none⟩=some (int i64 (RE.2.last:Int))∧w9.cell? ⟨w.heap.size,2,none⟩=some (bool RE.2.empty):=by
    obtain⟨h1,h2,h3,h4,h5⟩:=HF.out.fin RE.2;exact⟨_,rfl,⟨h1,h2⟩,h3,h4,h5⟩
   rw[<-hw9];clear hw9;refine bodyPost_ret (v:=agg #[int i64 (RE.2.first:Int),int i64 (RE.2.last:Int),bool RE.2.empty]) (by simp[results,results126,go_sem,z0,z1,z2]) rfl ?_;exact⟨rfl,K9.out.1,K9.out.2⟩
theorem zLo (t:Tr):t.copies<=t.least+t.most+1:=by
 unfold Tr.copies;split
 ·split <;> omega
 ·omega
theorem zEB (w0:World)(nb:Nat):∀d,zBY w0 nb d (xC d) (yP d)
 |0=>fun w n b t _ _ h _=>h.elim
 |d+1=>by
  have ih:=zEB w0 nb d;intro w n b t h hg ht hl;have HT:=vl ht;obtain⟨hbl,rv,pv,hb,hrange,ao,cap,rfl,⟨_,hb1,hb2,hb3⟩,_,_⟩:=ht;obtain⟨ra,rc,hrv,-⟩:=id hrange;subst hrv;obtain⟨w1,hw1,HR1⟩:∃w1,w1=w.alloc (.cells #[int i64 0,int i64 0,bool false] 167)∧Hid (NwIs w0 w1 nb n∧w1.heap[w.heap.size]? =some (.cells (Sn.mk 0 0 false).cells 167)∧StayS w w1∧w0.heap.size<=w.heap.size):=by
   have k1:=kZ (b:=w.heap.size) w (.cells #[int i64 0,int i64 0,bool false] 167) lQ;exact⟨_,rfl,h.grown k1,gU _ _,k1.stayS,by obtain⟨_,_,_,_,_,h⟩:=h;exact h.keep.size⟩
  have hk0:Grew w0 w1:=by obtain⟨_,_,_,_,_,h⟩:=HR1.out.1;exact h.keep
  have hb4:=(hk0.block b hbl (kJ hbl)).trans hb;have y0:w1.cell? ⟨b,0,none⟩=some (int i64 (t.kind:Int)):=by unfold cell?;rw[hb4];rfl
  have y1:w1.cell? ⟨b,1,none⟩=some (slice ra t.set.ranges.length rc):=by unfold cell?;rw[hb4];rfl
  have y2:w1.cell? ⟨b,2,none⟩=some (bool t.set.others):=by unfold cell?;rw[hb4];rfl
  have HFIN:Hid (∀w5,NwIs w0 w5 nb (xC (d+1) n t).1->StayS w1 w5->∃w9,w9=((w5.setCell ⟨w.heap.size,0,none⟩ (int i64 ((xC (d+1) n t).2.first:Int))).setCell ⟨w.heap.size,1,none⟩ (int i64 ((xC (d+1) n t).2.last:Int))).setCell ⟨w.heap.size,2,none⟩ (bool (xC (d+1) n t).2.empty)∧Hid (NwIs w0 w9 nb (xC (d+1) n t).1∧StayS w w9)∧w9.cell? ⟨w.heap.size,0,none⟩=some (int i64 ((xC (d+1) n t).2.first:Int))∧w9.cell? ⟨w.heap.size,1,none⟩=some (int i64 ((xC (d+1) n t).2.last:Int))∧w9.cell? ⟨w.heap.size,2,none⟩=some (bool (xC (d+1) n t).2.empty)):=by
   intro w5 hN5 hS5;obtain⟨h1,h2,h3⟩:=zEI (s':=(xC (d+1) n t).2) (hS5 _ _ HR1.out.2.1);obtain⟨c0,c1,c2,_⟩:=zI h1;exact⟨_,rfl,⟨h3 _ _ _ hN5 HR1.out.2.2.2,fun k c hk=>by
    have hl:=(kQ.1 hk).1;exact(h2 k (by omega)).trans (hS5 _ _ (HR1.out.2.2.1 k c hk))⟩,c0,c1,c2⟩
  go_in;apply wp_cut;intro K0 J;go_wp2;apply J.out;rw[<-hw1];clear hw1;by_cases hk1:t.kind=1
  ·have HE:Hid (xC (d+1) n t=(n.place t.set,n.spot)):=by show xC (d+1) n t=_;unfold xC;rw[if_pos hk1]
   have HCALL:=vl <| zHX w0 w1 nb n HR1.out.1 hg.len (by rw[hg.same];exact hg.len) _ t.set hrange;have HC2:Hid (Ca 123 #[pointer (some ⟨nb,0,none⟩),agg #[slice ra t.set.ranges.length rc,bool t.set.others]] w1 fun e w'=>e=returned (agg #[int i64 ((xC (d+1) n t).2.first:Int),int i64 ((xC (d+1) n t).2.last:Int),bool (xC (d+1) n t).2.empty])∧NwIs w0 w' nb (xC (d+1) n t).1∧StayS w1 w'):=by
    show Calls _ _ _ _ _;rw[HE.out];exact HCALL.out
   clear HE HCALL;have d1:((t.kind:Int)==1)=true:=by rw[beq_iff_eq];omega
   generalize xC (d+1) n t=RE at *;clear hk1;go_wp2_with (first|(go_at_call 123;refine HC2.out.mono ?_;rintro e w5 ⟨rfl,hN5,hS5⟩;obtain⟨r0,r1,r2,rf⟩:=zI (s:=⟨0,0,false⟩) (hS5 _ _ HR1.out.2.1);have f0:=rf 0;have f1:=rf 1;have f2:=rf 2;clear rf))
   obtain⟨w9,hw9,K9,z0,z1,z2⟩:=HFIN.out w5 hN5 hS5;rw[<-hw9];clear hw9;refine bodyPost_ret (v:=agg #[int i64 (RE.2.first:Int),int i64 (RE.2.last:Int),bool RE.2.empty]) (by simp[results,results89,go_sem,z0,z1,z2]) rfl ?_;exact⟨rfl,K9.out.1,K9.out.2⟩
  by_cases hk2:t.kind=2
  ·have HE:Hid (xC (d+1) n t=rowTo (xC d) n t.parts t.parts.length):=by show xC (d+1) n t=_;unfold xC;rw[if_neg hk1,if_pos hk2]
   have HCALL:=vl <| zC4 w0 nb d (xC d) (yP d) ih (jQ d) w1 n b t HR1.out.1 hg HT.out (by unfold yP at hl;rw[if_neg hk1,if_pos (Or.inl hk2)] at hl;exact hl) hb1;have HC2:Hid (Ca 124 #[pointer (some ⟨nb,0,none⟩),pointer (some ⟨b,0,none⟩)] w1 fun e w'=>e=returned (agg #[int i64 ((xC (d+1) n t).2.first:Int),int i64 ((xC (d+1) n t).2.last:Int),bool (xC (d+1) n t).2.empty])∧NwIs w0 w' nb (xC (d+1) n t).1∧StayS w1 w'):=by
    show Calls _ _ _ _ _;rw[HE.out];exact HCALL.out
   clear HE HCALL;have d1:((t.kind:Int)==1)=false:=by rw[hJ];omega
   have d2:((t.kind:Int)==2)=true:=by rw[beq_iff_eq];omega
   generalize xC (d+1) n t=RE at *;clear hk1 hk2;go_wp2_with (first|(go_at_call 124;refine HC2.out.mono ?_;rintro e w5 ⟨rfl,hN5,hS5⟩;obtain⟨r0,r1,r2,rf⟩:=zI (s:=⟨0,0,false⟩) (hS5 _ _ HR1.out.2.1);have f0:=rf 0;have f1:=rf 1;have f2:=rf 2;clear rf))
   obtain⟨w9,hw9,K9,z0,z1,z2⟩:=HFIN.out w5 hN5 hS5;rw[<-hw9];clear hw9;refine bodyPost_ret (v:=agg #[int i64 (RE.2.first:Int),int i64 (RE.2.last:Int),bool RE.2.empty]) (by simp[results,results89,go_sem,z0,z1,z2]) rfl ?_;exact⟨rfl,K9.out.1,K9.out.2⟩
  by_cases hk3:t.kind=3
  ·have HE:Hid (xC (d+1) n t=vV (xC d) n t.parts t.parts.length):=by show xC (d+1) n t=_;unfold xC;rw[if_neg hk1,if_neg hk2,if_pos hk3]
   have HCALL:=vl <| zEd w0 nb d (xC d) (yP d) ih (jQ d) w1 n b t HR1.out.1 hg HT.out (by unfold yP at hl;rw[if_neg hk1,if_pos (Or.inr hk3)] at hl;exact hl) hb1;have HC2:Hid (Ca 125 #[pointer (some ⟨nb,0,none⟩),pointer (some ⟨b,0,none⟩)] w1 fun e w'=>e=returned (agg #[int i64 ((xC (d+1) n t).2.first:Int),int i64 ((xC (d+1) n t).2.last:Int),bool (xC (d+1) n t).2.empty])∧NwIs w0 w' nb (xC (d+1) n t).1∧StayS w1 w'):=by
    show Calls _ _ _ _ _;rw[HE.out];exact HCALL.out
   clear HE HCALL;have d1:((t.kind:Int)==1)=false:=by rw[hJ];omega
   have d2:((t.kind:Int)==2)=false:=by rw[hJ];omega
   have d3:((t.kind:Int)==3)=true:=by rw[beq_iff_eq];omega
   generalize xC (d+1) n t=RE at *;clear hk1 hk2 hk3;go_wp2_with (first|(go_at_call 125;refine HC2.out.mono ?_;rintro e w5 ⟨rfl,hN5,hS5⟩;obtain⟨r0,r1,r2,rf⟩:=zI (s:=⟨0,0,false⟩) (hS5 _ _ HR1.out.2.1);have f0:=rf 0;have f1:=rf 1;have f2:=rf 2;clear rf))
   obtain⟨w9,hw9,K9,z0,z1,z2⟩:=HFIN.out w5 hN5 hS5;rw[<-hw9];clear hw9;refine bodyPost_ret (v:=agg #[int i64 (RE.2.first:Int),int i64 (RE.2.last:Int),bool RE.2.empty]) (by simp[results,results89,go_sem,z0,z1,z2]) rfl ?_;exact⟨rfl,K9.out.1,K9.out.2⟩
  by_cases hk4:t.kind=4
  ·have HE:Hid (xC (d+1) n t=xS (xC d) n t t.copies):=by show xC (d+1) n t=_;unfold xC;rw[if_neg hk1,if_neg hk2,if_neg hk3,if_pos hk4]
   have HCALL:=vl <| zE7 w0 nb d (xC d) (yP d) ih (jQ d) w1 n b t HR1.out.1 hg HT.out (by unfold yP at hl;rw[if_neg hk1,if_neg (by omega),if_pos hk4] at hl;exact hl) hb1 (by have:=zLo t;omega) (by omega);have HC2:Hid (Ca 126 #[pointer (some ⟨nb,0,none⟩),pointer (some ⟨b,0,none⟩)] w1 fun e w'=>e=returned (agg #[int i64 ((xC (d+1) n t).2.first:Int),int i64 ((xC (d+1) n t).2.last:Int),bool (xC (d+1) n t).2.empty])∧NwIs w0 w' nb (xC (d+1) n t).1∧StayS w1 w'):=by
    show Calls _ _ _ _ _;rw[HE.out];exact HCALL.out
   clear HE HCALL;have d1:((t.kind:Int)==1)=false:=by rw[hJ];omega
   have d2:((t.kind:Int)==2)=false:=by rw[hJ];omega
   have d3:((t.kind:Int)==3)=false:=by rw[hJ];omega
   have d4:((t.kind:Int)==4)=true:=by rw[beq_iff_eq];omega
   generalize xC (d+1) n t=RE at *;clear hk1 hk2 hk3 hk4;go_wp2_with (first|(go_at_call 126;refine HC2.out.mono ?_;rintro e w5 ⟨rfl,hN5,hS5⟩;obtain⟨r0,r1,r2,rf⟩:=zI (s:=⟨0,0,false⟩) (hS5 _ _ HR1.out.2.1);have f0:=rf 0;have f1:=rf 1;have f2:=rf 2;clear rf))
   obtain⟨w9,hw9,K9,z0,z1,z2⟩:=HFIN.out w5 hN5 hS5;rw[<-hw9];clear hw9;refine bodyPost_ret (v:=agg #[int i64 (RE.2.first:Int),int i64 (RE.2.last:Int),bool RE.2.empty]) (by simp[results,results89,go_sem,z0,z1,z2]) rfl ?_;exact⟨rfl,K9.out.1,K9.out.2⟩
  ·have HE:Hid (xC (d+1) n t=(n,⟨0,0,true⟩)):=by show xC (d+1) n t=_;unfold xC;rw[if_neg hk1,if_neg hk2,if_neg hk3,if_neg hk4]
   rw[HE.out] at HFIN ⊢;have d1:((t.kind:Int)==1)=false:=by rw[hJ];omega
   have d2:((t.kind:Int)==2)=false:=by rw[hJ];omega
   have d3:((t.kind:Int)==3)=false:=by rw[hJ];omega
   have d4:((t.kind:Int)==4)=false:=by rw[hJ];omega
   obtain⟨r0,r1,r2,rf⟩:=zI (s:=⟨0,0,false⟩) HR1.out.2.1;have f0:=rf 0;have f1:=rf 1;have f2:=rf 2;clear hk1 hk2 hk3 hk4 rf;go_wp2;obtain⟨w9,hw9,K9,z0,z1,z2⟩:=HFIN.out w1 HR1.out.1 (StayS.refl _);have hw9':w9=((w1.setCell ⟨w.heap.size,0,none⟩ (int i64 0)).setCell ⟨w.heap.size,1,none⟩ (int i64 0)).setCell ⟨w.heap.size,2,none⟩ (bool true):=hw9;have z0':w9.cell? ⟨w.heap.size,0,none⟩=some (int i64 0):=z0;have z1':w9.cell? ⟨w.heap.size,1,none⟩=some (int i64 0):=z1;have z2':w9.cell? ⟨w.heap.size,2,none⟩=some (bool true):=z2;rw[<-hw9'];clear hw9 hw9';refine bodyPost_ret (v:=agg #[int i64 0,int i64 0,bool true]) (by simp[results,results89,go_sem,z0',z1',z2']) rfl ?_;exact⟨rfl,K9.out.1,K9.out.2⟩
section
section
variable {w0 w w2:World} {nb:Nat} {n:Nt} {sv fv rv ev:Value} {ps:List (Value×Bool)}
theorem Nw.addRule {o:Obj}{g cap m x:Nat}(h:Nw w0 w nb n sv fv rv ev ps)(hm:m=n.rules.length)(hown:w2.ownsRow w0.heap.size 3 1 (slice (some ⟨g,0,none⟩) (m+1) cap) (m+1) (((ints n.rules).map fun x=>int i64 x)++[int i64 (x:Int)]))(hg:(w.alloc o).grownBy w2 rv.ownBlock)(hat:rv.ownBlock=some g∨w.heap.size<=g):
  Nw w0 (w2.setCell ⟨nb,4,none⟩ (slice (some ⟨g,0,none⟩) (m+1) cap)) nb {n with rules:=n.rules++[x]} sv fv (slice (some ⟨g,0,none⟩) (m+1) cap) ev ps∧StayS w (w2.setCell ⟨nb,4,none⟩ (slice (some ⟨g,0,none⟩) (m+1) cap)):=by
 subst hm;have hbx:=h.box;have hlt:=h.lt;have hbl:∀j,j<w.heap.size->some j≠rv.ownBlock->w2.heap[j]? =w.heap[j]? :=fun j hj hf=>(hg.block j (by simp;omega) hf).trans (lG _ _ _ (by omega));have hsz:w.heap.size<=w2.heap.size:=lY (by simp) hg.size;have hb:=(hbl nb hlt hbx.2.2.1).trans h.blk;have e:∀k,k≠nb->(w2.setCell ⟨nb,4,none⟩ (slice (some ⟨g,0,none⟩) (n.rules.length+1) cap)).heap[k]? =w2.heap[k]? :=fun k hk=>lJ _ _ _ _ hk;have hs2:=zR hg h.sOwn fun k hk=>xM h.sOwn h.rOwn (by decide) hk;have hf2:=zR hg h.fOwn h.fr;have he2:=zR hg h.eOwn fun k hk=>xM h.eOwn h.rOwn (by decide) hk;have hgm:nb≠g:=fun e2=>by
  rcases hat with ha|ha
  ·exact hbx.2.2.1 (by rw[ha,e2])
  ·omega
 have hO1:OwnI w2 w0.heap.size (slice (some ⟨g,0,none⟩) (n.rules.length+1) cap) (ints (n.rules++[x])):=by
  rw[zA3];have:=zN n.rules;have h2:=OwnI.snoc (l:=ints n.rules) (x:=(x:Int)) (by rw[this];exact hown);rw[this] at h2;exact h2
 refine⟨⟨by simp[setCell,lU,hb],zD hs2 fun k _ _ hk=>e k fun e2=>hbx.1 (by rw[hk,e2]),h.plen,h.each,zD hf2 fun k _ _ hk=>e k fun e2=>hbx.2.1 (by rw[hk,e2]),zD hO1 fun k _ _ hk=>e k fun e2=>?_,zD he2 fun k _ _ hk=>e k fun e2=>hbx.2.2.2 (by rw[hk,e2]),zCc (yV h.fOwn (fun g hg e=>h.fr g e.symm hg.symm) hat),h.nH,h.keep.trans ⟨hg.os,hg.output,by rw[zC];exact hsz,fun k hk _=>(e k (by have:=h.nH;omega)).trans (hbl k (by have:=h.keep.size;omega) fun e2=>by have:=(h.rOwn.lt k e2.symm).1;omega)⟩⟩,fun k cc hk=>?_⟩
 ·have:g=k:=by simpa[Value.ownBlock] using hk
  omega
 ·have hl:=(kQ.1 hk).1
  have hkm:k≠nb:=fun e2=>by
   rw[e2,h.blk] at hk;injection hk with hk;injection hk with _ hk;exact absurd hk (by decide)
  exact(e k hkm).trans ((hbl k hl (zM h.rOwn hk (by decide))).trans hk)
theorem Nw.addEmpty {o:Obj}{g cap m:Nat}{x:Bool}(h:Nw w0 w nb n sv fv rv ev ps)(hm:m=n.empty.length)(hown:w2.ownsRow w0.heap.size 4 1 (slice (some ⟨g,0,none⟩) (m+1) cap) (m+1) ((n.empty.map fun x=>bool x)++[bool x]))(hg:(w.alloc o).grownBy w2 ev.ownBlock)(hat:ev.ownBlock=some g∨w.heap.size<=g):
  Nw w0 (w2.setCell ⟨nb,5,none⟩ (slice (some ⟨g,0,none⟩) (m+1) cap)) nb {n with empty:=n.empty++[x]} sv fv rv (slice (some ⟨g,0,none⟩) (m+1) cap) ps∧StayS w (w2.setCell ⟨nb,5,none⟩ (slice (some ⟨g,0,none⟩) (m+1) cap)):=by
 subst hm;have hbx:=h.box;have hlt:=h.lt;have hbl:∀j,j<w.heap.size->some j≠ev.ownBlock->w2.heap[j]? =w.heap[j]? :=fun j hj hf=>(hg.block j (by simp;omega) hf).trans (lG _ _ _ (by omega));have hsz:w.heap.size<=w2.heap.size:=lY (by simp) hg.size;have hb:=(hbl nb hlt hbx.2.2.2).trans h.blk;have e:∀k,k≠nb->(w2.setCell ⟨nb,5,none⟩ (slice (some ⟨g,0,none⟩) (n.empty.length+1) cap)).heap[k]? =w2.heap[k]? :=fun k hk=>lJ _ _ _ _ hk;have hs2:=zR hg h.sOwn fun k hk=>xM h.sOwn h.eOwn (by decide) hk;have hf2:=zR hg h.fOwn fun k hk=>xM h.fOwn h.eOwn (by decide) hk;have hr2:=zR hg h.rOwn fun k hk=>xM h.rOwn h.eOwn (by decide) hk;have hgm:nb≠g:=fun e2=>by
  rcases hat with ha|ha
  ·exact hbx.2.2.2 (by rw[ha,e2])
  ·omega
 have hO1:=OwnB.snoc hown;refine⟨⟨by simp[setCell,lU,hb],zD hs2 fun k _ _ hk=>e k fun e2=>hbx.1 (by rw[hk,e2]),h.plen,h.each,zD hf2 fun k _ _ hk=>e k fun e2=>hbx.2.1 (by rw[hk,e2]),zD hr2 fun k _ _ hk=>e k fun e2=>hbx.2.2.1 (by rw[hk,e2]),zD hO1 fun k _ _ hk=>e k fun e2=>?_,h.fr,h.nH,h.keep.trans ⟨hg.os,hg.output,by rw[zC];exact hsz,fun k hk _=>(e k (by have:=h.nH;omega)).trans (hbl k (by have:=h.keep.size;omega) fun e2=>by have:=(h.eOwn.lt k e2.symm).1;omega)⟩⟩,fun k cc hk=>?_⟩
 ·have:g=k:=by simpa[Value.ownBlock] using hk
  omega
 ·have hl:=(kQ.1 hk).1
  have hkm:k≠nb:=fun e2=>by
   rw[e2,h.blk] at hk;injection hk with hk;injection hk with _ hk;exact absurd hk (by decide)
  exact(e k hkm).trans ((hbl k hl (zM h.eOwn hk (by decide))).trans hk)
theorem Nw.setNet {i:Nat}{x:Value}{n2:Nt}(h:Nw w0 w nb n sv fv rv ev ps)(hs:n2.sets=n.sets)(hf:n2.follow=n.follow)(hr:n2.rules=n.rules)(he:n2.empty=n.empty)(hb:(w.setCell ⟨nb,i,none⟩ x).heap[nb]? =some (.cells #[sv,fv,int i64 (n2.first:Int),int i64 (n2.ends:Int),rv,ev] 132)):Nw w0 (w.setCell ⟨nb,i,none⟩ x) nb n2 sv fv rv ev ps∧StayS w (w.setCell ⟨nb,i,none⟩ x):=by
 have e:∀k,k≠nb->(w.setCell ⟨nb,i,none⟩ x).heap[k]? =w.heap[k]? :=fun k hk=>lJ _ _ _ _ hk;have hbx:=h.box;refine⟨⟨hb,by rw[hs];exact zD h.sOwn fun k _ _ hk=>e k fun e2=>hbx.1 (by rw[hk,e2]),by rw[hs];exact h.plen,by rw[hs];exact h.each,by rw[hf];exact zD h.fOwn fun k _ _ hk=>e k fun e2=>hbx.2.1 (by rw[hk,e2]),by rw[hr];exact zD h.rOwn fun k _ _ hk=>e k fun e2=>hbx.2.2.1 (by rw[hk,e2]),by rw[he];exact zD h.eOwn fun k _ _ hk=>e k fun e2=>hbx.2.2.2 (by rw[hk,e2]),h.fr,h.nH,h.keep.trans (zO _ _ _ _ h.nH)⟩,fun k c hk=>(e k fun e2=>?_).trans hk⟩;rw[e2,h.blk] at hk;injection hk with hk;injection hk with _ hk;exact absurd hk (by decide)
theorem Nw.setFirst (h:Nw w0 w nb n sv fv rv ev ps)(x:Nat):Nw w0 (w.setCell ⟨nb,2,none⟩ (int i64 (x:Int))) nb {n with first:=x} sv fv rv ev ps∧StayS w (w.setCell ⟨nb,2,none⟩ (int i64 (x:Int))):=h.setNet rfl rfl rfl rfl (by simp[setCell,lU,h.blk])
theorem Nw.setEnds (h:Nw w0 w nb n sv fv rv ev ps)(x:Nat):Nw w0 (w.setCell ⟨nb,3,none⟩ (int i64 (x:Int))) nb {n with ends:=x} sv fv rv ev ps∧StayS w (w.setCell ⟨nb,3,none⟩ (int i64 (x:Int))):=h.setNet rfl rfl rfl rfl (by simp[setCell,lU,h.blk])
end
def Nt.blank:Nt:=⟨[],[],0,0,[],[]⟩
def zLT (before:Nat)(q:Nt×Sn):Nt:={q.1 with first:=q.1.first|||q.2.first,ends:=q.1.ends|||q.2.last,rules:=q.1.rules++[2^q.1.sets.length-2^before],empty:=q.1.empty++[q.2.empty]}
def xJ (d:Nat)(rules:List Tr):Nat->Nt
 |0=>Nt.blank
 |j+1=>zLT (xJ d rules j).sets.length (xC d (xJ d rules j) (rules.getD j Tr.none))
theorem Nw.begin (w:World):Nw w (w.alloc (.cells #[slice none 0 0,slice none 0 0,int i64 0,int i64 0,slice none 0 0,slice none 0 0] 132)) w.heap.size Nt.blank (slice none 0 0) (slice none 0 0) (slice none 0 0) (slice none 0 0) []:=
 ⟨gU _ _,ownsRow_nil _ _ _ _,rfl,fun i hi=>absurd hi (Nat.not_lt_zero _),OwnI.nil _ _,OwnI.nil _ _,ownsRow_nil _ _ _ _,fun g hg=>(by cases hg),lQ,kZ _ _ lQ⟩
theorem zAB (d:Nat)(rules:List Tr)(j:Nat)(hl:zW (yP d) rules j<=24):(xJ d rules j).Good∧(xJ d rules j).sets.length=zW (yP d) rules j:=by
 induction j with
 |zero=>exact⟨⟨lX,rfl,fun x hx=>absurd hx List.not_mem_nil⟩,rfl⟩
 |succ j ih=>
  have hl2:zW (yP d) rules j+yP d (rules.getD j Tr.none)<=24:=hl;obtain⟨h1,h2⟩:=ih (by omega);obtain⟨g1,g2,g3⟩:=jQ d (xJ d rules j) (rules.getD j Tr.none) h1 (by omega);exact⟨⟨g1.len,g1.same,g1.fol⟩,by show(xC d (xJ d rules j) (rules.getD j Tr.none)).1.sets.length=zW (yP d) rules j+_;omega⟩
end
def Nt.Same (a b:Nt):Prop:=a.first=b.first∧a.ends=b.ends∧a.rules=b.rules∧a.empty=b.empty
theorem Nt.Same.refl (a:Nt):a.Same a:=⟨rfl,rfl,rfl,rfl⟩
theorem Nt.Same.trans {a b c:Nt}(h:a.Same b)(h':b.Same c):a.Same c:=⟨h.1.trans h'.1,h.2.1.trans h'.2.1,h.2.2.1.trans h'.2.2.1,h.2.2.2.trans h'.2.2.2⟩
theorem zDy (n:Nt)(a b:Nat):(n.link a b).Same n:=by
 have:=zBN n a b n.follow.length;exact⟨this.2.2.2.1,this.2.2.2.2,this.2.1,this.2.2.1⟩
def Still (sub:Lay):Prop:=∀n t,(sub n t).1.Same n
theorem zDU {sub:Lay}(h:Still sub)(n:Nt)(parts:List Tr)(j:Nat):(rowTo sub n parts j).1.Same n:=by
 induction j with
 |zero=>exact Nt.Same.refl _
 |succ j ih=>exact((zDy _ _ _).trans (h _ _)).trans ih
theorem zHb {sub:Lay}(h:Still sub)(n:Nt)(parts:List Tr)(j:Nat):(vV sub n parts j).1.Same n:=by
 induction j with
 |zero=>exact Nt.Same.refl _
 |succ j ih=>exact(h _ _).trans ih
theorem zJl (t:Tr)(j:Nat)(q:Nt×Sn):(jM t j q).Same q.1:=by
 unfold jM;split
 ·exact zDy _ _ _
 ·exact Nt.Same.refl _
theorem zFW {sub:Lay}(h:Still sub)(n:Nt)(t:Tr)(j:Nat):(xS sub n t j).1.Same n:=by
 induction j with
 |zero=>exact Nt.Same.refl _
 |succ j ih=>exact(((zDy _ _ _).trans (zJl _ _ _)).trans (zDU h _ _ _)).trans ih
theorem zE6 (d:Nat):Still (xC d):=by
 induction d with
 |zero=>exact fun n t=>Nt.Same.refl _
 |succ d ih=>
  intro n t;unfold xC;split
  ·exact⟨rfl,rfl,rfl,rfl⟩
  ·split
   ·exact zDU ih _ _ _
   ·split
    ·exact zHb ih _ _ _
    ·split
     ·exact zFW ih _ _ _
     ·exact Nt.Same.refl _
structure Nt.Laid (n:Nt)(j:Nat):Prop where
 first:n.first<2^n.sets.length
 ends:n.ends<2^n.sets.length
 rules:∀x∈n.rules,x<2^n.sets.length
 rlen:n.rules.length=j
 elen:n.empty.length=j
theorem zBk (d:Nat)(rules:List Tr)(j:Nat)(hl:zW (yP d) rules j<=24):(xJ d rules j).Laid j:=by
 induction j with
 |zero=>exact⟨(by decide:0<2^0),(by decide:0<2^0),fun x hx=>absurd hx List.not_mem_nil,rfl,rfl⟩
 |succ j ih=>
  have hl2:zW (yP d) rules j+yP d (rules.getD j Tr.none)<=24:=hl;obtain⟨h1,h2⟩:=zAB d rules j (by omega);have h3:=ih (by omega);obtain⟨g1,g2,g3⟩:=jQ d (xJ d rules j) (rules.getD j Tr.none) h1 (by omega);obtain⟨s1,s2,s3,s4⟩:=zE6 d (xJ d rules j) (rules.getD j Tr.none);rw[<-g2] at g3;have hp:2^(xJ d rules j).sets.length<=2^(xC d (xJ d rules j) (rules.getD j Tr.none)).1.sets.length:=kG (by omega) (by omega);have hp0:0<2^(xJ d rules j).sets.length:=Nat.pow_pos (by omega);refine⟨Nat.or_lt_two_pow (by rw[s1];exact lZ h3.first hp) g3.first,Nat.or_lt_two_pow (by rw[s2];exact lZ h3.ends hp) g3.last,fun x hx=>?_,?_,?_⟩
  ·show x<2^(xC d (xJ d rules j) (rules.getD j Tr.none)).1.sets.length
   have hx2:=hx;rcases kU.1 hx2 with h4|h4
   ·rw[s3] at h4
    exact lZ (h3.rules x h4) hp
   ·rw[kY.1 h4]
    omega
  ·show((xC d (xJ d rules j) (rules.getD j Tr.none)).1.rules++[_]).length=j+1
   rw[s3,kX,h3.rlen];rfl
  ·show((xC d (xJ d rules j) (rules.getD j Tr.none)).1.empty++[_]).length=j+1
   rw[s4,kX,h3.elen];rfl
theorem zN4 (d:Nat)(rules:List Tr)(hl:zW (yP d) rules rules.length<=24)(h8:rules.length<=8):(xJ d rules rules.length).Ok:=by
 have h1:=zAB d rules rules.length hl;have h2:=zBk d rules rules.length hl;exact⟨h1.1.len,h1.1.same,h1.1.fol,h2.first,h2.ends,by rw[h2.rlen];exact h8,h2.rules⟩
theorem Nw.netAt {w0 w:World}{nb:Nat}{n:Nt}{sv fv rv ev:Value}{ps:List (Value×Bool)}(h:Nw w0 w nb n sv fv rv ev ps):NetAt w nb n sv fv rv ev:=by
 obtain⟨c0,c1,c2,c3,c4,c5,_⟩:=h.cells;refine⟨h.lt,c0,c1,c2,c3,c4,c5,?_,zAA h.fOwn,zAA h.rOwn,zGa h.eOwn fun g hg=>(h.eOwn.lt g hg).2⟩;have hgi:∀i,i<n.sets.length->RangesAt w (ps.getD i (undef,false)).1 (n.sets.getD i ⟨[],false⟩).ranges:=fun i hi=>(h.each i hi).1.grown h.keep;rcases h.sOwn.2 with⟨hv,h0⟩|⟨g,cap,cur,hv,hH,hh,h1,h2,h3,h4⟩
 ·exact⟨none,0,by rw[hv,h0],by omega,by unfold maxLen;omega,fun i hi=>by omega⟩
 ·have hgl:=(h.sOwn.lt g (by rw[hv];rfl)).2
  refine⟨some ⟨g,0,none⟩,cap,hv,h1,h2,fun i hi=>⟨g,0,(ps.getD i (undef,false)).1,rfl,hgl,?_,?_,hgi i hi⟩⟩
  ·have:=h.sOwn.cells (g:=g) (by rw[hv];rfl) (i*2) _ (zDQ ps i (by rw[h.plen];exact hi)).1
   rw[Addr.add_lit] at this;rw[Nat.zero_add] at this ⊢;exact this
  ·have:=h.sOwn.cells (g:=g) (by rw[hv];rfl) (i*2+1) _ (zDQ ps i (by rw[h.plen];exact hi)).2
   rw[Addr.add_lit,(h.each i hi).2] at this;rw[Nat.zero_add] at this ⊢;exact this
section
attribute [local go_sem ↓] Go.wp_at_zero Go.wp_at_succ
def zKl (w:World)(d:Nat)(v:Value)(l:List Tr):Prop:=∃ao cap,v=slice ao l.length cap∧l.length<=cap∧cap<=maxLen∧∀i,i<l.length->∃g o p,ao=some ⟨g,o,none⟩∧In w g∧w.cell? ⟨g,o+i,none⟩=some (pointer (some ⟨p,0,none⟩))∧TreeAt w d p (l.getD i Tr.none)
theorem zK0 (w:World)(d:Nat)(v:Value)(rules:List Tr)(hT:zKl w d v rules)(h8:rules.length<=8)(hl:zW (yP d) rules rules.length<=24):
  Calls prog 60 #[v] w fun e w'=>∃nb,e=returned (pointer (some ⟨nb,0,none⟩))∧NwIs w w' nb (xJ d rules rules.length):=by
 obtain⟨i0,hi0,hz0,hz1,hz2⟩:=info_parts yJ;obtain⟨ib,hib,hb0,hb1,hb2⟩:=info_parts qU;obtain⟨ao,cap,rfl,_,_,hpc⟩:=hT;have HPT:Hid (∀wr n2,NwIs w wr w.heap.size n2->∀i,i<rules.length->∃g o p,ao=some ⟨g,o,none⟩∧wr.cell? ⟨g,o+i,none⟩=some (pointer (some ⟨p,0,none⟩))∧TreeAt w d p (rules.getD i Tr.none)):=by
  rintro wr n2 ⟨_,_,_,_,_,hN⟩ i hi;obtain⟨g,o,p,ha,hgi,hc,hti⟩:=hpc i hi;exact⟨g,o,p,ha,zA hc hgi hN.keep,hti⟩
 obtain⟨w1,hw1,HN1⟩:∃w1,w1=w.alloc (.cells #[slice none 0 0,slice none 0 0,int i64 0,int i64 0,slice none 0 0,slice none 0 0] 132)∧Hid (NwIs w w1 w.heap.size Nt.blank):=⟨_,rfl,_,_,_,_,_,Nw.begin w⟩
 have HTC:Hid (zBY w w.heap.size d (xC d) (yP d)):=zEB w w.heap.size d;obtain⟨LT,hLT⟩:∃LT,LT=xJ d rules:=⟨_,rfl⟩
 have HLT:Hid (LT 0=Nt.blank∧(∀j,LT (j+1)=zLT (LT j).sets.length (xC d (LT j) (rules.getD j Tr.none)))∧(∀j,j<=rules.length->(LT j).Good∧(LT j).Laid j)∧(∀j,j<rules.length->(LT j).sets.length+yP d (rules.getD j Tr.none)<=24∧(xC d (LT j) (rules.getD j Tr.none)).1.Good∧(xC d (LT j) (rules.getD j Tr.none)).2.Small 24∧(xC d (LT j) (rules.getD j Tr.none)).1.first<16777216∧(xC d (LT j) (rules.getD j Tr.none)).1.ends<16777216∧(xC d (LT j) (rules.getD j Tr.none)).1.rules.length=j∧(xC d (LT j) (rules.getD j Tr.none)).1.empty.length=j)∧LT rules.length=xJ d rules rules.length∧∀j,j<rules.length->(LT j).sets.length<=(xC d (LT j) (rules.getD j Tr.none)).1.sets.length):=by
  rw[hLT];have hm:∀j,j<=rules.length->zW (yP d) rules j<=24:=fun j hj=>lY (zCF _ rules j _ hj) hl;refine⟨rfl,fun j=>rfl,fun j hj=>⟨(zAB d rules j (hm j hj)).1,zBk d rules j (hm j hj)⟩,fun j hj=>?_,rfl,fun j hj=>?_⟩;rotate_left
  ·have h1:=zAB d rules j (hm j (by omega))
   have h2:zW (yP d) rules j+yP d (rules.getD j Tr.none)<=24:=hm (j+1) hj;have h3:=jQ d (xJ d rules j) (rules.getD j Tr.none) h1.1 (by omega);omega
  have h1:=zAB d rules j (hm j (by omega));have h2:zW (yP d) rules j+yP d (rules.getD j Tr.none)<=24:=hm (j+1) hj;have h3:=jQ d (xJ d rules j) (rules.getD j Tr.none) h1.1 (by omega);obtain⟨s1,s2,s3,s4⟩:=zE6 d (xJ d rules j) (rules.getD j Tr.none);have h4:=zBk d rules j (hm j (by omega));have hp:2^(xJ d rules j).sets.length<=2^24:=kG (by omega) h1.1.len;exact⟨by omega,h3.1,h3.2.2.up (by omega),by rw[s1];exact lZ h4.first hp,by rw[s2];exact lZ h4.ends hp,by rw[s3];exact h4.rlen,by rw[s4];exact h4.elen⟩
 have HNC:Hid (∀wr n2,NwIs w wr w.heap.size n2->∃sa sc,wr.cell? ⟨w.heap.size,0,none⟩=some (slice sa n2.sets.length sc)):=by
  rintro wr n2 ⟨sv,_,_,_,_,hN⟩;obtain⟨sa,sc,hsv⟩:=zG hN.sOwn;exact⟨sa,sc,by rw[<-hsv];exact hN.cells.1⟩
 generalize xJ d rules rules.length=LE at *;clear hLT hl hpc;go_enter func60,ntmps60
 refine wp_seq_k ?_;intro K0 hK0;have J:Hid (∀a w,_->K0 a w):=hK0;clear hK0;go_wp2_with fail;apply J.out;clear J;refine wp_seq_k ?_;intro K0 hK0;have J:Hid (∀a w,_->K0 a w):=hK0;clear hK0;go_wp2_with fail;apply J.out;clear J;rw[<-hw1];clear hw1;go_wp2_with fail;go_loopg [12] rules.length (fun q i wr=>∃j:Nat,q=rules.length-j∧j<=rules.length∧i=int i64 (j:Int)∧NwIs w wr w.heap.size (LT j))
 case atStart=>exact⟨0,rfl,lX,rfl,by rw[HLT.out.1];exact HN1.out⟩
 case round=>
  obtain⟨j,hgk,hj,rfl,hN⟩:=hrel;have HB:Hid (gk=rules.length-j∧NwIs w wr w.heap.size (LT j)):=⟨hgk,hN⟩
  by_cases hj2:j<rules.length
  ·have i1:(j:Int)<(rules.length:Int):=by omega
   obtain⟨g,o,p,rfl,hc,hti⟩:=HPT.out wr _ hN j hj2;obtain⟨b1,b2,b3,b4,b5,b6,b7⟩:=HLT.out.2.2.2.1 j hj2;obtain⟨g1,g2⟩:=HLT.out.2.2.1 j hj;have HC0:=HTC.out wr (LT j) p (rules.getD j Tr.none) hN g1 hti b1;have HNX:Hid (LT (j+1)=zLT (LT j).sets.length (xC d (LT j) (rules.getD j Tr.none))):=HLT.out.2.1 j;obtain⟨sa,sc,y0⟩:=HNC.out wr _ hN;have hBL:=g1.len;have hBq0:(LT j).sets.length<=(xC d (LT j) (rules.getD j Tr.none)).1.sets.length:=HLT.out.2.2.2.2.2 j hj2;clear hgk hN hti b1 g1 g2;generalize (LT j).sets.length=B at *;generalize xC d (LT j) (rules.getD j Tr.none)=q at *;obtain⟨q1,⟨qf,ql,qe⟩⟩:=q;have b2':q1.sets.length<=24:=b2.len;have l3:qf<16777216:=b3.first
   have l4:ql<16777216:=b3.last;have b4':q1.first<16777216:=b4
   have b5':q1.ends<16777216:=b5;have b6':q1.rules.length=j:=b6;have b7':q1.empty.length=j:=b7;have HC:Hid (Ca 89 #[pointer (some ⟨w.heap.size,0,none⟩),pointer (some ⟨p,0,none⟩)] wr fun e w'=>e=returned (agg #[int i64 (qf:Int),int i64 (ql:Int),bool qe])∧NwIs w w' w.heap.size q1∧StayS wr w'):=HC0;have HNX2:Hid (LT (j+1)={q1 with first:=q1.first|||qf,ends:=q1.ends|||ql,rules:=q1.rules++[2^q1.sets.length-2^B],empty:=q1.empty++[qe]}):=HNX.out;clear HC0 HNX b2 b3 b4 b5 b6 b7;go_wp2_with (first|(go_at_call 89;refine HC.out.mono ?_;rintro e w5 ⟨rfl,⟨sv,fv,rv,ev,ps,hN5⟩,hS5⟩;have HN5:Hid (Nw w w5 w.heap.size q1 sv fv rv ev ps):=hN5;clear hN5 hS5))
   obtain⟨w6,hw6,HN6,HB6⟩:∃w6,w6=w5.alloc (.cells #[int i64 (qf:Int),int i64 (ql:Int),bool qe] 167)∧Hid (Nw w w6 w.heap.size q1 sv fv rv ev ps)∧Hid (w6.heap[w5.heap.size]? =some (.cells (Sn.mk qf ql qe).cells 167)):=⟨_,rfl,HN5.out.grown (kZ _ _ lQ),gU _ _⟩
   rw[<-hw6];clear hw6 HN5 y0 hc;generalize w5.heap.size=b8 at *;obtain⟨c0,c1,c2,c3,c4,c5,cf⟩:=HN6.out.cells;obtain⟨d0,d1,d2,-⟩:=zI HB6.out;have cf2:=cf 2;have hor1:bits .or i64 (q1.first:Int) (qf:Int)=((q1.first|||qf:Nat):Int):=yM _ _ (by omega) (by omega);have hor2:bits .or i64 (q1.ends:Int) (ql:Int)=((q1.ends|||ql:Nat):Int):=yM _ _ (by omega) (by omega);clear cf;go_region;obtain⟨w7,hw7,HN7,HB7⟩:∃w7,w7=(w6.setCell ⟨w.heap.size,2,none⟩ (int i64 ((q1.first|||qf:Nat):Int))).drew∧Hid (Nw w w7 w.heap.size {q1 with first:=q1.first|||qf} sv fv rv ev ps)∧Hid (w7.heap[b8]? =some (.cells (Sn.mk qf ql qe).cells 167)):=by
    have h:=HN6.out.setFirst (q1.first|||qf);exact⟨_,rfl,h.1.grown (Keep.drew _),h.2 _ _ HB6.out⟩
   rw[<-hw7];clear hw7 c0 c1 c2 c3 c4 c5 d0 d1 d2 cf2 HN6 HB6;obtain⟨c0,c1,c2,c3,c4,c5,cf⟩:=HN7.out.cells;obtain⟨d0,d1,d2,-⟩:=zI HB7.out;have cf3:=cf 3;clear cf;go_wp2_with fail;go_region;obtain⟨w8,hw8,HN8,HB8⟩:∃w8,w8=(w7.setCell ⟨w.heap.size,3,none⟩ (int i64 ((q1.ends|||ql:Nat):Int))).drew∧Hid (Nw w w8 w.heap.size {q1 with first:=q1.first|||qf,ends:=q1.ends|||ql} sv fv rv ev ps)∧Hid (w8.heap[b8]? =some (.cells (Sn.mk qf ql qe).cells 167)):=by
    have h:=HN7.out.setEnds (q1.ends|||ql);exact⟨_,rfl,h.1.grown (Keep.drew _),h.2 _ _ HB7.out⟩
   rw[<-hw8];clear hw8 c0 c1 c2 c3 c4 c5 d0 d1 d2 cf3 HN7 HB7 hor1 hor2;go_wp2_with fail;have hpl:q1.sets.length<=24:=b2';have hBq:B<=q1.sets.length:=hBq0;obtain⟨P1,hP1e⟩:∃P1:Nat,P1=2^q1.sets.length:=⟨_,rfl⟩
   obtain⟨P2,hP2e⟩:∃P2:Nat,P2=2^B:=⟨_,rfl⟩
   have hP1:P1<=16777216:=by rw[hP1e];exact(kG (by omega) hpl:2^q1.sets.length<=2^24)
   have hP2:P2<=16777216:=by rw[hP2e];exact(kG (by omega) hBL:2^B<=2^24)
   have hP3:P2<=P1:=by rw[hP1e,hP2e];exact kG (by omega) hBq
   obtain⟨R,hR⟩:∃R:Nat,R=P1-P2:=⟨_,rfl⟩
   have hR1:(P1:Int)-(P2:Int)=(R:Int):=by omega
   have hR0:R<16777217:=by omega
   have HR:Hid (R=P1-P2):=hR;have HX:Hid ((IntKind.i64.wrap (IntKind.i64.wrap ((2:Int)^q1.sets.length)-IntKind.i64.wrap ((2:Int)^B)))=(R:Int)):=by
    show _=_;have e1:((2:Int)^q1.sets.length)=(P1:Int):=by rw[hP1e];simp
    have e2:((2:Int)^B)=(P2:Int):=by rw[hP2e];simp
    rw[e1,e2,zAI (P1:Int) (by omega) (by omega),zAI (P2:Int) (by omega) (by omega),hR1];exact zAI _ (by omega) (by omega)
   have HPP:Hid (P1=2^q1.sets.length∧P2=2^B):=⟨hP1e,hP2e⟩
   clear hP1e hP2e;obtain⟨sa2,sc2,hsv⟩:=zG HN8.out.sOwn;obtain⟨ra,rc,hrv⟩:=HN8.out.rOwn.form;obtain⟨ea,ec,hev⟩:=zG HN8.out.eOwn;rw[zN] at hrv;have hrv2:rv=slice ra j rc:=by rw[hrv];show Value.slice ra q1.rules.length rc=_;rw[b6']
   have hev2:ev=slice ea j ec:=by rw[hev];show Value.slice ea q1.empty.length ec=_;rw[b7']
   have hsv2:sv=slice sa2 q1.sets.length sc2:=hsv;clear hsv hrv hev;subst hsv2 hrv2 hev2;obtain⟨c0,-,-,-,c4,c5,cf⟩:=HN8.out.cells;have cf4:=cf 4;have hlt:=HN8.out.lt;have hH8:w.heap.size<=w8.heap.size:=HN8.out.keep.size;have HNP:Hid (some w.heap.size≠(Value.slice ra j rc).ownBlock):=HN8.out.box.2.2.1;have OW:w8.ownsRow w.heap.size 3 1 (slice ra j rc) j ((ints q1.rules).map fun x=>int i64 x):=by
    have:=HN8.out.rOwn;unfold OwnI at this;rw[zN] at this;have h2:w8.ownsRow w.heap.size 3 1 (slice ra j rc) q1.rules.length ((ints q1.rules).map fun x=>int i64 x):=this;rw[b6'] at h2;exact h2
   obtain⟨d0,d1,d2,-⟩:=zI HB8.out;clear cf hR hP1 hP2 hP3 hBq hBq0 hR1;go_region_law ((refine step_append_lies _ (by rfl) (.tmp 46) (.tmp 56) 45 (by rfl) w.heap.size 3 i0 _ 1 8 underlying45 hi0 hz0 hz1 hz2 rfl (by decide) (slice ra j rc) j ((ints q1.rules).map fun x=>int i64 x) (by simp[Act.eval,Act.put]) ((OW.alloc _).drew) ⟨w8.heap.size,0,none⟩ 1 1 [int i64 (IntKind.i64.wrap (IntKind.i64.wrap ((2:Int)^q1.sets.length)-IntKind.i64.wrap ((2:Int)^B)))] (by simp[Act.eval,Act.put]) (by rfl) (news_of_block (cs:=#[int i64 (IntKind.i64.wrap (IntKind.i64.wrap ((2:Int)^q1.sets.length)-IntKind.i64.wrap ((2:Int)^B)))]) (t:=3) (fr:=(0,0)) (gU w8 _)) (by simp[Value.oneCell']) (by decide) (by unfold maxLen;omega) (by omega) (by simp;omega) (w8.heap.size+1) (by simp) ?_;intro gg cap2 w9 hown hgrow hat hlt9;have hPB:=hgrow.block w.heap.size (by simp;omega) HNP.out;have c4b:w9.cell? ⟨w.heap.size,4,none⟩=some (slice ra j rc):=(cell?_of_block hPB).trans ((cell?_alloc_past _ _ _ hlt).trans c4);have cf4b:w9.frozen? ⟨w.heap.size,4,none⟩=false:=(frozen?_of_block hPB).trans ((frozen?_alloc_past _ _ _ hlt).trans cf4)))
   all_goals
    rw[HX.out] at hown;have HN9:Hid (Nw w (w9.setCell ⟨w.heap.size,4,none⟩ (slice (some ⟨gg,0,none⟩) (j+1) cap2)) w.heap.size {q1 with first:=q1.first|||qf,ends:=q1.ends|||ql,rules:=q1.rules++[R]} (slice sa2 q1.sets.length sc2) fv (slice (some ⟨gg,0,none⟩) (j+1) cap2) (slice ea j ec) ps∧StayS w8.drew (w9.setCell ⟨w.heap.size,4,none⟩ (slice (some ⟨gg,0,none⟩) (j+1) cap2))):=(HN8.out.grown (Keep.drew _)).addRule (o:=Obj.cells #[int i64 (IntKind.i64.wrap (IntKind.i64.wrap ((2:Int)^q1.sets.length)-IntKind.i64.wrap ((2:Int)^B)))] 3) b6'.symm hown hgrow (by
     rcases hat with ha|ha
     ·exact .inl ha
     ·right;show w8.heap.size<=gg;omega)
    have HB9:Hid ((w9.setCell ⟨w.heap.size,4,none⟩ (slice (some ⟨gg,0,none⟩) (j+1) cap2)).heap[b8]? =some (.cells (Sn.mk qf ql qe).cells 167)):=HN9.out.2 _ _ HB8.out;clear hown hgrow hat hlt9 hPB c4b cf4b OW c0 c4 c5 cf4 d0 d1 d2 HX HN8 HB8 HNP;generalize w9.setCell ⟨w.heap.size,4,none⟩ (slice (some ⟨gg,0,none⟩) (j+1) cap2)=w10 at *;obtain⟨-,-,-,-,-,c5,cf⟩:=HN9.out.1.cells;have cf5:=cf 5;have hlt10:=HN9.out.1.lt;have hH10:w.heap.size<=w10.heap.size:=HN9.out.1.keep.size;have HNE:Hid (some w.heap.size≠(Value.slice ea j ec).ownBlock):=HN9.out.1.box.2.2.2;have OE:w10.ownsRow w.heap.size 4 1 (slice ea j ec) j (q1.empty.map fun x=>bool x):=by
     have:=HN9.out.1.eOwn;unfold OwnB at this;have h2:w10.ownsRow w.heap.size 4 1 (slice ea j ec) q1.empty.length (q1.empty.map fun x=>bool x):=this;rw[b7'] at h2;exact h2
    obtain⟨d0,d1,d2,-⟩:=zI HB9.out;clear cf;go_wp2_with fail;go_region_law ((refine step_append_lies _ (by rfl) (.tmp 64) (.tmp 67) 28 (by rfl) w.heap.size 4 ib _ 1 1 underlying28 hib hb0 hb1 hb2 rfl (by decide) (slice ea j ec) j (q1.empty.map fun x=>bool x) (by simp[Act.eval,Act.put]) ((OE.alloc _).drew) ⟨w10.heap.size,0,none⟩ 1 1 [bool qe] (by simp[Act.eval,Act.put]) (by rfl) (news_of_block (cs:=#[bool qe]) (t:=4) (fr:=(0,0)) (gU w10 _)) (by simp[Value.oneCell']) (by decide) (by unfold maxLen;omega) (by omega) (by simp;omega) (w10.heap.size+1) (by simp) ?_;intro g5 cap5 w11 hown5 hgrow5 hat5 hlt11;have hPB5:=hgrow5.block w.heap.size (by simp;omega) HNE.out;have c5b:w11.cell? ⟨w.heap.size,5,none⟩=some (slice ea j ec):=(cell?_of_block hPB5).trans ((cell?_alloc_past _ _ _ hlt10).trans c5);have cf5b:w11.frozen? ⟨w.heap.size,5,none⟩=false:=(frozen?_of_block hPB5).trans ((frozen?_alloc_past _ _ _ hlt10).trans cf5)))
    all_goals
     have HN12:Hid (NwIs w (w11.setCell ⟨w.heap.size,5,none⟩ (slice (some ⟨g5,0,none⟩) (j+1) cap5)) w.heap.size (LT (j+1))):=by
      have h:=(HN9.out.1.grown (Keep.drew _)).addEmpty (o:=Obj.cells #[bool qe] 4) b7'.symm hown5 hgrow5 (by
       rcases hat5 with ha|ha
       ·exact .inl ha
       ·right;show w10.heap.size<=g5;omega)
      show NwIs _ _ _ (LT (j+1));rw[HNX2.out,<-HPP.out.1,<-HPP.out.2,<-HR.out];exact⟨_,_,_,_,_,h.1⟩
     clear hown5 hgrow5 hat5 hlt11 hPB5 c5b cf5b OE c5 cf5 d0 d1 d2;go_wp2_with fail;go_roundg (rules.length-(j+1))
     case measure=>rw[HB.out.1];omega
     case rel=>exact⟨j+1,rfl,by omega,by go_num,HN12.out⟩
  ·have i1:(rules.length:Int)<=(j:Int):=by omega
   have e:j=rules.length:=by omega
   subst e;rw[HLT.out.2.2.2.2.1] at hN;clear hgk;go_wp2_with fail;go_ret;exact⟨_,rfl,hN⟩
end
def xE (c:Nat):Bool:=decide (48<=c)&&decide (c<=57)
def zCb (c:Nat):Bool:=(decide (97<=c)&&decide (c<=122))||(decide (65<=c)&&decide (c<=90))
def isPrintedB (c:Nat):Bool:=decide (32<=c)&&decide (c<=126)
theorem jY (w:World)(c:Nat):Calls prog 206 #[int .u8 (c:Int)] w fun e w'=>e=returned (bool (xE c))∧w'=w:=by
 have hv:xE c=(decide (48<=c)&&decide (c<=57)):=rfl;rcases(show c<48∨(48<=c∧c<=57)∨(48<=c∧57<c) by omega) with h|⟨h,h2⟩|⟨h,h2⟩
 all_goals
  have HV:=vl hv;clear hv
  try have i1:(c:Int)<48:=by omega
  try have i1:(c:Int)>=48:=by omega
  try have i2:(c:Int)<=57:=by omega
  try have i2:57<(c:Int):=by omega
  go_in;go_wp2;go_ret;exact⟨by rw[HV.out];first|(simp;done)|(simp;omega)|(simp;rw[Bool.eq_iff_iff];simp;omega),rfl⟩
theorem zBz (w:World)(c:Nat):Calls prog 218 #[int .u8 (c:Int)] w fun e w'=>e=returned (bool (isPrintedB c))∧w'=w:=by
 have hv:isPrintedB c=(decide (32<=c)&&decide (c<=126)):=rfl;rcases(show c<32∨(32<=c∧c<=126)∨(32<=c∧126<c) by omega) with h|⟨h,h2⟩|⟨h,h2⟩
 all_goals
  have HV:=vl hv;clear hv
  try have i1:(c:Int)<32:=by omega
  try have i1:(c:Int)>=32:=by omega
  try have i2:(c:Int)<=126:=by omega
  try have i2:126<(c:Int):=by omega
  go_in;go_wp2;go_ret;exact⟨by rw[HV.out];first|(simp;done)|(simp;omega)|(simp;rw[Bool.eq_iff_iff];simp;omega),rfl⟩
theorem zFa (w:World)(c:Nat):Calls prog 217 #[int .u8 (c:Int)] w fun e w'=>e=returned (bool (zCb c))∧w'=w:=by
 have hc:(c<65)∨(65<=c∧c<=90)∨(90<c∧c<97)∨(97<=c∧c<=122)∨(122<c):=by omega
 have hv:zCb c=((decide (97<=c)&&decide (c<=122))||(decide (65<=c)&&decide (c<=90))):=rfl;rcases hc with h|h|h|h|h
 all_goals
  have HV:=vl hv;clear hv
  try have i0:(c:Int)<97:=by omega
  try have i0:(c:Int)>=97:=by omega
  try have i1:(c:Int)<65:=by omega
  try have i1:(c:Int)>=65:=by omega
  try have i2:(c:Int)<=90:=by omega
  try have i2:90<(c:Int):=by omega
  try have i3:(c:Int)<=122:=by omega
  try have i3:122<(c:Int):=by omega
  go_in;go_wp2;go_ret;exact⟨by rw[HV.out];first|(simp;done)|(simp;omega)|(simp;rw[Bool.eq_iff_iff];simp;omega),rfl⟩
def zAD (c:Nat):Bool:=!(c==92||c==124||c==40||c==41||c==91||c==93||c==123||c==125||c==42||c==43||c==63||c==46)&&isPrintedB c
theorem zCo (w:World)(c:Nat):Calls prog 212 #[int .u8 (c:Int)] w fun e w'=>e=returned (bool (zAD c))∧w'=w:=by
 have HP:Hid (∀w,Ca 218 #[int .u8 (c:Int)] w fun e w'=>e=returned (bool (isPrintedB c))∧w'=w):=fun w=>zBz w c;by_cases hq:c=92∨c=124∨c=40∨c=41∨c=91∨c=93∨c=123∨c=125∨c=42∨c=43∨c=63∨c=46
 ·rcases hq with rfl|rfl|rfl|rfl|rfl|rfl|rfl|rfl|rfl|rfl|rfl|rfl
  all_goals
   go_in;go_wp2;go_ret;exact⟨rfl,rfl⟩
 obtain⟨h0,h1,h2,h3,h4,h5,h6,h7,h8,h9,h10,h11⟩:¬c=92∧¬c=124∧¬c=40∧¬c=41∧¬c=91∧¬c=93∧¬c=123∧¬c=125∧¬c=42∧¬c=43∧¬c=63∧¬c=46:=by omega
 have HV:Hid (zAD c=isPrintedB c):=by
  show _=_;unfold zAD;simp[h0,h1,h2,h3,h4,h5,h6,h7,h8,h9,h10,h11]
 have e0:((c:Int)==92)=false:=by rw[hJ];omega
 have e1:((c:Int)==124)=false:=by rw[hJ];omega
 have e2:((c:Int)==40)=false:=by rw[hJ];omega
 have e3:((c:Int)==41)=false:=by rw[hJ];omega
 have e4:((c:Int)==91)=false:=by rw[hJ];omega
 have e5:((c:Int)==93)=false:=by rw[hJ];omega
 have e6:((c:Int)==123)=false:=by rw[hJ];omega
 have e7:((c:Int)==125)=false:=by rw[hJ];omega
 have e8:((c:Int)==42)=false:=by rw[hJ];omega
 have e9:((c:Int)==43)=false:=by rw[hJ];omega
 have e10:((c:Int)==63)=false:=by rw[hJ];omega
 have e11:((c:Int)==46)=false:=by rw[hJ];omega
 generalize isPrintedB c=b at *;go_in;go_wp2_with (first|(go_at_call 218;refine(HP.out _).mono ?_;rintro e w9 ⟨rfl,hw9⟩;have hw8:=hw9.symm;subst hw8))
 go_ret;exact⟨by rw[HV.out];rfl,rfl⟩
def vU (c:Nat):Int:=if xE c then(c:Int)-48 else if 97<=c∧c<=102 then(c:Int)-87 else -1
theorem zFf (w:World)(c:Nat)(h8:c<256):Calls prog 220 #[int .u8 (c:Int)] w fun e w'=>e=returned (int i64 (vU c))∧w'=w:=by
 have HP0:Hid (∀w,Ca 206 #[int .u8 (c:Int)] w fun e w'=>e=returned (bool (xE c))∧w'=w):=fun w=>jY w c;by_cases hd:48<=c∧c<=57
 ·have hdb:xE c=true:=by unfold xE;simp;omega
  rw[hdb] at HP0;have HP:=vl HP0.out;have HV:Hid (vU c=(c:Int)-48):=by show _=_;unfold vU;rw[if_pos hdb]
  have hw:IntKind.u8.wrap ((c:Int)-48)=(c:Int)-48:=by rw[IntKind.wrap_u8];omega
  go_in;go_wp2_with (first|(go_at_call 206;refine(HP.out _).mono ?_;rintro e w9 ⟨rfl,hw9⟩;have hw8:=hw9.symm;subst hw8))
  go_ret;exact⟨by rw[HV.out];first|rfl|(simp [hw];done)|(simp;omega),rfl⟩
 ·have hdb:xE c=false:=by unfold xE;simp;omega
  rw[hdb] at HP0;have HP:=vl HP0.out;by_cases hh:97<=c∧c<=102
  ·have HV:Hid (vU c=(c:Int)-87):=by show _=_;unfold vU;rw[if_neg (by rw[hdb];decide),if_pos hh]
   have i1:(c:Int)>=97:=by omega
   have i2:(c:Int)<=102:=by omega
   have hw:IntKind.u8.wrap ((c:Int)-97)=(c:Int)-97:=by rw[IntKind.wrap_u8];omega
   go_in;go_wp2_with (first|(go_at_call 206;refine(HP.out _).mono ?_;rintro e w9 ⟨rfl,hw9⟩;have hw8:=hw9.symm;subst hw8))
   go_ret;exact⟨by rw[HV.out];first|rfl|(simp [hw];done)|(simp;omega),rfl⟩
  ·have HV:Hid (vU c=-1):=by show _=_;unfold vU;rw[if_neg (by rw[hdb];decide),if_neg hh]
   by_cases h97:97<=c
   ·have i1:(c:Int)>=97:=by omega
    have i2:102<(c:Int):=by omega
    go_in;go_wp2_with (first|(go_at_call 206;refine(HP.out _).mono ?_;rintro e w9 ⟨rfl,hw9⟩;have hw8:=hw9.symm;subst hw8))
    go_ret;exact⟨by rw[HV.out];rfl,rfl⟩
   ·have i1:(c:Int)<97:=by omega
    go_in;go_wp2_with (first|(go_at_call 206;refine(HP.out _).mono ?_;rintro e w9 ⟨rfl,hw9⟩;have hw8:=hw9.symm;subst hw8))
    go_ret;exact⟨by rw[HV.out];rfl,rfl⟩
def yZ (c:Nat):Bool:=decide (97<=c)&&decide (c<=122)
theorem zCn (w:World)(c:Nat):Calls prog 181 #[int .u8 (c:Int)] w fun e w'=>e=returned (bool (yZ c))∧w'=w:=by
 by_cases h1:97<=c
 ·by_cases h2:c<=122
  ·have HV:Hid (yZ c=true):=by show _=_;unfold yZ;rw[decide_eq_true h1,decide_eq_true h2];rfl
   have i1:(c:Int)>=97:=by omega
   have i2:(c:Int)<=122:=by omega
   go_in;go_wp2;go_ret;exact⟨by rw[HV.out];first|rfl|(simp;done)|(simp;omega),rfl⟩
  ·have HV:Hid (yZ c=false):=by show _=_;unfold yZ;rw[decide_eq_true h1,decide_eq_false h2];rfl
   have i1:(c:Int)>=97:=by omega
   have i2:122<(c:Int):=by omega
   go_in;go_wp2;go_ret;exact⟨by rw[HV.out];first|rfl|(simp;done)|(simp;omega),rfl⟩
 ·have HV:Hid (yZ c=false):=by show _=_;unfold yZ;rw[decide_eq_false h1];rfl
  have i1:(c:Int)<97:=by omega
  go_in;go_wp2;go_ret;exact⟨by rw[HV.out];first|rfl|(simp;done)|(simp;omega),rfl⟩
def zHd (s:ByteArray)(c:Nat):Nat:=(List.range s.size).findIdx fun i=>byt s i==c
theorem zNv (s:ByteArray)(c j:Nat)(hj:j<s.size)(h:byt s j=c)(hn:∀i,i<j->byt s i≠c):zHd s c=j:=
 zC7 _ _ j (by rw[List.length_range];exact hj) (by rw[qQ _ _ hj];exact beq_iff_eq.2 h) fun k hk=>by rw[qQ _ _ (by omega)];exact hJ.2 (hn k hk)
theorem zLm (s:ByteArray)(c:Nat)(hn:∀i,i<s.size->byt s i≠c):zHd s c=s.size:=by
 have h:=zA5 (List.range s.size) (fun i=>byt s i==c) fun k hk=>by
  rw[List.length_range] at hk;rw[qQ _ _ hk];exact hJ.2 (hn k hk)
 rw[List.length_range] at h;exact h
def jU (s:ByteArray)(c:Nat):Bool:=decide (zHd s c<s.size)
def yN (s:ByteArray)(c:Nat):ByteArray:=if jU s c then s.extract 0 (zHd s c) else s
def qH (s:ByteArray)(c:Nat):ByteArray:=if jU s c then s.extract (zHd s c+1) s.size else⟨#[]⟩
theorem zCe (w:World)(s:ByteArray)(hs:s.size<=1048576)(c:Nat):
  Calls prog 86 #[string s,int .u8 (c:Int)] w fun e w'=>e=returned (tuple #[string (yN s c),string (qH s c),bool (jU s c)])∧Grew w w':=by
 have H1:Hid (∀j,j<s.size->byt s j=c->(∀i,i<j->byt s i≠c)->zHd s c=j):=fun j=>zNv s c j;have H2:=vl <| zLm s c;have HV:Hid (∀j,zHd s c=j->j<s.size->(jU s c=true∧yN s c=s.extract 0 j∧qH s c=s.extract (j+1) s.size)):=fun j e hj=>by
  have h1:jU s c=true:=by unfold jU;rw[e];exact decide_eq_true hj
  exact⟨h1,by unfold yN;rw[if_pos h1,e],by unfold qH;rw[if_pos h1,e]⟩
 have HN:Hid (zHd s c=s.size->(jU s c=false∧yN s c=s∧qH s c=⟨#[]⟩)):=fun e=>by
  have h1:jU s c=false:=by unfold jU;rw[e];exact decide_eq_false (by omega)
  exact⟨h1,by unfold yN;rw[if_neg (by rw[h1];decide)],by unfold qH;rw[if_neg (by rw[h1];decide)]⟩
 generalize jU s c=K at *;generalize yN s c=A at *;generalize qH s c=B at *;go_in;go_wp2;go_loopg [7] s.size (fun q i wr=>∃j:Nat,q=s.size-j∧j<=s.size∧i=int i64 (j:Int)∧(∀k,k<j->byt s k≠c)∧wr=w)
 case atStart=>exact⟨0,rfl,lX,rfl,fun k hk=>by omega,rfl⟩
 case round=>
  obtain⟨j,hgk,hj,rfl,hno,rfl⟩:=hrel;have HA:Hid (gk=s.size-j∧(∀k,k<j->byt s k≠c)):=⟨hgk,hno⟩
  by_cases hj2:j<s.size
  ·have i1:(j:Int)<(s.size:Int):=by omega
   have i0:¬(j:Int)<0:=by omega
   have hbe:=zFs s j hj2;clear hgk hno;by_cases hc:byt s j=c
   ·have HC:=vl <| HV.out j (H1.out j hj2 hc HA.out.2) hj2
    have ec:((byt s j:Int)==(c:Int))=true:=by rw[hc];exact beq_self_eq_true _
    have i3:(0:Int)<=(j:Int):=by omega
    have i4:(j:Int)<=(s.size:Int):=by omega
    have i5:(0:Int)<=(j:Int)+1:=by omega
    have i6:(j:Int)+1<=(s.size:Int):=by omega
    have HTN:Hid (((j:Int)+1).toNat=j+1):=by show _=_;omega
    generalize byt s j=x at *;go_wp2;go_quiet (fail);go_wp2;refine bodyPost_ret (v:=tuple #[string (s.extract 0 j),string (s.extract (j+1) s.size),bool true]) (by simp[results,results86,go_sem]) rfl ?_;exact⟨by rw[HC.out.1,HC.out.2.1,HC.out.2.2],Keep.alike (w':=wr.drewN nq) ⟨rfl,rfl,rfl⟩⟩
   ·have ec:((byt s j:Int)==(c:Int))=false:=by rw[hJ];omega
    have HNO:Hid (∀k,k<j+1->byt s k≠c):=fun k hk=>by
     by_cases e:k=j
     ·rw[e];exact hc
     ·exact HA.out.2 k (by omega)
    clear hc;generalize byt s j=x at *;go_wp2;go_roundg (s.size-(j+1))
    case measure=>rw[HA.out.1];omega
    case rel=>exact⟨j+1,rfl,by omega,by go_num,HNO.out,rfl⟩
  ·have i1:(s.size:Int)<=(j:Int):=by omega
   have HC:=vl <| HN.out (H2.out fun k hk=>hno k (by omega));clear hgk hno;go_wp2;refine bodyPost_ret (v:=tuple #[string s,string ⟨#[]⟩,bool false]) (by simp[results,results86,go_sem]) rfl ?_;exact⟨by rw[HC.out.1,HC.out.2.1,HC.out.2.2],Keep.refl _ _ _⟩
theorem zAp (s:ByteArray):s.toList.isEmpty=decide (s.size=0):=by
 rw[ByteArray.toList_eq];have e:s.size=s.data.toList.length:=rfl;cases h:s.data.toList with
 |nil=>rw[e,h];rfl
 |cons a l=>rw[e,h];rfl
def vS (c:Nat):Bool:=yZ c||xE c
def xF (s:ByteArray):Bool:=decide (0<s.size)&&(decide (s.size<=6)&&(yZ (byt s 0)&&decide (∀i,i<s.size->i=0∨vS (byt s i)=true)))
theorem vI (w:World)(s:ByteArray)(hs:s.size<=1048576):Calls prog 160 #[string s] w fun e w'=>e=returned (bool (xF s))∧w'=w:=by
 have hE:=zAp s;by_cases h0:s.size=0
 ·have HV:Hid (xF s=false):=by show _=_;unfold xF;rw[decide_eq_false (show¬0<s.size by omega),Bool.false_and]
  rw[decide_eq_true h0] at hE;go_in;go_wp2;go_ret;exact⟨by rw[HV.out];rfl,rfl⟩
 rw[decide_eq_false h0] at hE;by_cases h6:6<s.size
 ·have HV:Hid (xF s=false):=by show _=_;unfold xF;rw[decide_eq_false (show¬s.size<=6 by omega),Bool.false_and,Bool.and_false]
  have i6:6<(s.size:Int):=by omega
  go_in;go_wp2;go_ret;exact⟨by rw[HV.out];rfl,rfl⟩
 have i6:(s.size:Int)<=6:=by omega
 have hz:0<s.size:=by omega
 have i0:(0:Int)<(s.size:Int):=by omega
 have hb0:=zFs s 0 hz;have HV0:Hid (xF s=(yZ (byt s 0)&&decide (∀i,i<s.size->i=0∨vS (byt s i)=true))):=by show _=_;unfold xF;rw[decide_eq_true hz,decide_eq_true (show s.size<=6 by omega),Bool.true_and,Bool.true_and]
 have HS0:Hid (∀w,Ca 181 #[int .u8 (byt s 0:Nat)] w fun e w'=>e=returned (bool (yZ (byt s 0)))∧w'=w):=fun w=>zCn w (byt s 0);cases hsm:yZ (byt s 0) with
 |false=>
  have HV:Hid (xF s=false):=by show _=_;rw[HV0.out,hsm,Bool.false_and]
  rw[hsm] at HS0;have HS1:=vl HS0;generalize byt s 0=c0 at *;go_in;go_wp2_with (first|(go_at_call 181;refine(HS1.out _).mono ?_;rintro e w9 ⟨rfl,hw9⟩;have hw8:=hw9.symm;subst hw8))
  go_ret;exact⟨by rw[HV.out];rfl,rfl⟩
 |true=>
  have HV:Hid (xF s=decide (∀i,i<s.size->i=0∨vS (byt s i)=true)):=by show _=_;rw[HV0.out,hsm,Bool.true_and]
  rw[hsm] at HS0;have HS1:=vl HS0;generalize xF s=V at *;go_in;apply wp_cut;intro K0 J;go_wp2;apply J.out;generalize byt s 0=c0 at hb0 HS1;apply wp_cut;intro K0 J;go_wp2_with (first|(go_at_call 181;refine(HS1.out _).mono ?_;rintro e w9 ⟨rfl,hw9⟩;have hw8:=hw9.symm;subst hw8))
  apply J.out;go_wp2;go_loopg [3] (s.size-1) (fun q i wr=>∃j:Nat,q=s.size-j∧1<=j∧j<=s.size∧i=int i64 (j:Int)∧(∀k,k<j->k=0∨vS (byt s k)=true)∧wr=w)
  case atStart=>exact⟨1,rfl,lQ,hz,rfl,fun k hk=>.inl (by omega),rfl⟩
  case round=>
   obtain⟨j,hgk,hj1,hj,rfl,hno,rfl⟩:=hrel;have HA:Hid (gk=s.size-j∧(∀k,k<j->k=0∨vS (byt s k)=true)):=⟨hgk,hno⟩
   by_cases hj2:j<s.size
   ·have i1:(j:Int)<(s.size:Int):=by omega
    have i2:¬(j:Int)<0:=by omega
    have hbe:=zFs s j hj2;have HSJ:Hid (∀w,Ca 181 #[int .u8 (byt s j:Nat)] w fun e w'=>e=returned (bool (yZ (byt s j)))∧w'=w):=fun w=>zCn w (byt s j);have HNO:Hid (vS (byt s j)=true->∀k,k<j+1->k=0∨vS (byt s k)=true):=fun h k hk=>by
     by_cases e:k=j
     ·rw[e];exact .inr h
     ·exact HA.out.2 k (by omega)
    have HNV:Hid (vS (byt s j)=false->V=false):=fun h=>by
     rw[HV.out];exact decide_eq_false fun hh=>by
      rcases hh j hj2 with h1|h1
      ·omega
      ·rw[h] at h1;cases h1
    generalize byt s j=c at *;cases hsj:yZ c with
    |true=>
     rw[hsj] at HSJ;have HSK:=vl HSJ;have HN2:=HNO.out (by unfold vS;rw[hsj];rfl);go_wp2_with (first|(go_at_call 181;refine(HSK.out _).mono ?_;rintro e w9 ⟨rfl,hw9⟩;have hw8:=hw9.symm;subst hw8))
     go_roundg (s.size-(j+1))
     case measure=>rw[HA.out.1];omega
     case rel=>exact⟨j+1,rfl,by omega,by omega,by go_num,HN2,rfl⟩
    |false=>
     rw[hsj] at HSJ;have HSK:=vl HSJ;by_cases c1:c<48
     ·have d1:(c:Int)<48:=by omega
      have HN2:=vl <| HNV.out (by unfold vS xE;rw[hsj,decide_eq_false (show¬48<=c by omega)];rfl);go_wp2_with (first|(go_at_call 181;refine(HSK.out _).mono ?_;rintro e w9 ⟨rfl,hw9⟩;have hw8:=hw9.symm;subst hw8))
      go_ret;exact⟨by rw[HN2.out];rfl,rfl⟩
     by_cases c2:57<c
     ·have d1:¬(c:Int)<48:=by omega
      have d2:57<(c:Int):=by omega
      have HN2:=vl <| HNV.out (by unfold vS xE;rw[hsj,decide_eq_false (show¬c<=57 by omega),Bool.and_false];rfl);go_wp2_with (first|(go_at_call 181;refine(HSK.out _).mono ?_;rintro e w9 ⟨rfl,hw9⟩;have hw8:=hw9.symm;subst hw8))
      go_ret;exact⟨by rw[HN2.out];rfl,rfl⟩
     ·have d1:¬(c:Int)<48:=by omega
      have d2:¬57<(c:Int):=by omega
      have HN2:=HNO.out (by unfold vS xE;rw[hsj,decide_eq_true (show 48<=c by omega),decide_eq_true (show c<=57 by omega)];rfl);go_wp2_with (first|(go_at_call 181;refine(HSK.out _).mono ?_;rintro e w9 ⟨rfl,hw9⟩;have hw8:=hw9.symm;subst hw8))
      go_roundg (s.size-(j+1))
      case measure=>rw[HA.out.1];omega
      case rel=>exact⟨j+1,rfl,by omega,by omega,by go_num,HN2,rfl⟩
   ·have i1:(s.size:Int)<=(j:Int):=by omega
    have HN2:Hid (V=true):=by
     show _=_;rw[HV.out];exact decide_eq_true fun i hi=>hno i (by omega)
    go_wp2;go_ret;exact⟨by rw[HN2.out];rfl,rfl⟩
structure Ac where
 act:Nat
 name:ByteArray
 ok:Bool
def eqS (a b:ByteArray):Bool:=a.toList==b.toList
def zHW (s:ByteArray):Ac:=if byt s 0=62&&xF (s.extract 1 s.size) then⟨2,s.extract 1 s.size,true⟩ else⟨0,⟨#[]⟩,false⟩
def zAY (s:ByteArray):Ac:=if s.size=0 then⟨0,⟨#[]⟩,false⟩ else if eqS s ⟨#[46]⟩ then⟨0,⟨#[]⟩,true⟩ else if eqS s ⟨#[45]⟩ then⟨1,⟨#[]⟩,true⟩ else if eqS s ⟨#[60]⟩ then⟨3,⟨#[]⟩,true⟩ else zHW s
theorem zCh (w:World)(s:ByteArray)(hs:s.size<=1048576):Calls prog 163 #[string s] w fun e w'=>e=returned (tuple #[int i64 ((zAY s).act:Int),string (zAY s).name,bool (zAY s).ok])∧Grew w w':=by
 have hE:=zAp s;have h46:(⟨#[46]⟩:ByteArray).toList=[46]:=by rw[ByteArray.toList_eq]
 have h45:(⟨#[45]⟩:ByteArray).toList=[45]:=by rw[ByteArray.toList_eq]
 have h60:(⟨#[60]⟩:ByteArray).toList=[60]:=by rw[ByteArray.toList_eq]
 by_cases h0:s.size=0
 ·have HV:Hid (zAY s=⟨0,⟨#[]⟩,false⟩):=by show _=_;unfold zAY;rw[if_pos h0]
  rw[decide_eq_true h0] at hE;rw[HV.out];go_in;go_wp2;refine bodyPost_ret (v:=tuple #[int i64 0,string ⟨#[]⟩,bool false]) (by simp[results,results163,go_sem]) rfl ?_;exact⟨rfl,Keep.refl _ _ _⟩
 rw[decide_eq_false h0] at hE;have HV0:Hid (zAY s=if eqS s ⟨#[46]⟩ then⟨0,⟨#[]⟩,true⟩ else if eqS s ⟨#[45]⟩ then⟨1,⟨#[]⟩,true⟩ else if eqS s ⟨#[60]⟩ then⟨3,⟨#[]⟩,true⟩ else zHW s):=by show _=_;unfold zAY;rw[if_neg h0]
 cases e1:eqS s ⟨#[46]⟩ with
 |true=>
  have HV:Hid (zAY s=⟨0,⟨#[]⟩,true⟩):=by show _=_;rw[HV0.out,e1];rfl
  have e2:(s.toList==[46])=true:=by rw[<-h46];exact e1
  rw[HV.out];go_in;go_wp2;refine bodyPost_ret (v:=tuple #[int i64 0,string ⟨#[]⟩,bool true]) (by simp[results,results163,go_sem]) rfl ?_;exact⟨rfl,Keep.refl _ _ _⟩
 |false=>
 have f1:(s.toList==[46])=false:=by rw[<-h46];exact e1
 rw[e1] at HV0;cases e2:eqS s ⟨#[45]⟩ with
 |true=>
  have HV:Hid (zAY s=⟨1,⟨#[]⟩,true⟩):=by show _=_;rw[HV0.out,e2];rfl
  have g2:(s.toList==[45])=true:=by rw[<-h45];exact e2
  rw[HV.out];go_in;go_wp2;refine bodyPost_ret (v:=tuple #[int i64 1,string ⟨#[]⟩,bool true]) (by simp[results,results163,go_sem]) rfl ?_;exact⟨rfl,Keep.refl _ _ _⟩
 |false=>
 have f2:(s.toList==[45])=false:=by rw[<-h45];exact e2
 rw[e2] at HV0;cases e3:eqS s ⟨#[60]⟩ with
 |true=>
  have HV:Hid (zAY s=⟨3,⟨#[]⟩,true⟩):=by show _=_;rw[HV0.out,e3];rfl
  have g3:(s.toList==[60])=true:=by rw[<-h60];exact e3
  rw[HV.out];go_in;go_wp2;refine bodyPost_ret (v:=tuple #[int i64 3,string ⟨#[]⟩,bool true]) (by simp[results,results163,go_sem]) rfl ?_;exact⟨rfl,Keep.refl _ _ _⟩
 |false=>
 have f3:(s.toList==[60])=false:=by rw[<-h60];exact e3
 rw[e3] at HV0;have HV1:=vl HV0.out;have hz:0<s.size:=by omega
 have i0:(0:Int)<(s.size:Int):=by omega
 have i1:(1:Int)<=(s.size:Int):=by omega
 have hb0:=zFs s 0 hz;have HVP:Hid (zHW s=if byt s 0=62&&xF (s.extract 1 s.size) then⟨2,s.extract 1 s.size,true⟩ else⟨0,⟨#[]⟩,false⟩):=rfl;have HNM:Hid (∀w,Ca 160 #[string (s.extract 1 s.size)] w fun e w'=>e=returned (bool (xF (s.extract 1 s.size)))∧w'=w):=fun w=>vI w _ (by rw[ByteArray.size_extract];omega);rw[HV1.out];generalize xF (s.extract 1 s.size)=nb at *;generalize zHW s=pa at *;generalize byt s 0=c at *;by_cases hc:c=62
 ·subst hc
  cases nb with
  |true=>
   have HV:=vl HVP.out;rw[HV.out];go_in;go_wp2_with (first|(go_at_call 160;refine(HNM.out _).mono ?_;rintro e w9 ⟨rfl,hw9⟩;have hw8:=hw9.symm;subst hw8))
   go_quiet (fail);go_wp2;refine bodyPost_ret (v:=tuple #[int i64 2,string (s.extract 1 s.size),bool true]) (by simp[results,results163,go_sem]) rfl ?_;exact⟨rfl,Keep.alike (w':=w.drewN nq) ⟨rfl,rfl,rfl⟩⟩
  |false=>
   have HV:=vl HVP.out;rw[HV.out];go_in;go_wp2_with (first|(go_at_call 160;refine(HNM.out _).mono ?_;rintro e w9 ⟨rfl,hw9⟩;have hw8:=hw9.symm;subst hw8))
   refine bodyPost_ret (v:=tuple #[int i64 0,string ⟨#[]⟩,bool false]) (by simp[results,results163,go_sem]) rfl ?_;exact⟨rfl,Keep.refl _ _ _⟩
 ·have HV:Hid (pa=⟨0,⟨#[]⟩,false⟩):=by show _=_;rw[HVP.out,decide_eq_false hc];rfl
  have ec:((c:Int) != 62)=true:=by simp;omega
  rw[HV.out];go_in;go_wp2;refine bodyPost_ret (v:=tuple #[int i64 0,string ⟨#[]⟩,bool false]) (by simp[results,results163,go_sem]) rfl ?_;exact⟨rfl,Keep.refl _ _ _⟩
section
structure Rx where
 at_:Nat
 depth:Nat
 both:Bool
def RxAt (w:World)(b:Nat)(s:ByteArray)(dv:Value)(r:Rx):Prop:=w.heap[b]? =some (.cells #[string s,dv,int i64 (r.at_:Int),int i64 (r.depth:Int),bool r.both] 252)
namespace RxAt
variable {w w':World} {b:Nat} {s:ByteArray} {dv:Value} {r:Rx}
theorem lt (h:RxAt w b s dv r):b<w.heap.size:=(kQ.1 h).1
theorem cells (h:RxAt w b s dv r):w.cell? ⟨b,0,none⟩=some (string s)∧w.cell? ⟨b,1,none⟩=some dv∧w.cell? ⟨b,2,none⟩=some (int i64 (r.at_:Int))∧w.cell? ⟨b,3,none⟩=some (int i64 (r.depth:Int))∧w.cell? ⟨b,4,none⟩=some (bool r.both)∧∀i,w.frozen? ⟨b,i,none⟩=false:=by
 unfold RxAt at h;refine⟨?_,?_,?_,?_,?_,fun i=>?_⟩
 all_goals first|(unfold cell?;rw[h];rfl)|(unfold frozen?;rw[h];simp)
theorem of_block (h:RxAt w b s dv r)(e:w'.heap[b]? =w.heap[b]?):RxAt w' b s dv r:=e.trans h
theorem setAt (h:RxAt w b s dv r)(q:Nat):RxAt (w.setCell ⟨b,2,none⟩ (int i64 (q:Int))) b s dv {r with at_:=q}:=by
 unfold RxAt at *;simp[setCell,lU,h]
end RxAt
theorem qE (w:World)(b:Nat)(s:ByteArray)(dv:Value)(r:Rx)(h:RxAt w b s dv r)(hs:s.size<=1048576)(ha:r.at_<=2000000)(k:Nat)(hk:k<=1):
  Calls prog 200 #[pointer (some ⟨b,0,none⟩),int i64 (k:Int)] w fun e w'=>e=returned (int .u8 (byt s (r.at_+k):Nat))∧w'=w:=by
 obtain⟨c0,-,c2,-,-,-⟩:=h.cells;by_cases hi:r.at_+k<s.size
 ·have HV:Hid (byt s (r.at_+k)=byt s (r.at_+k)):=rfl
  have i0:¬((r.at_:Int)+(k:Int)<0):=by omega
  have i1:(r.at_:Int)+(k:Int)<(s.size:Int):=by omega
  go_in;go_wp2;go_ret;exact⟨by rw[<-zFs s _ hi];rfl,rfl⟩
 ·have HV:Hid (byt s (r.at_+k)=0):=zKg s _ (by omega)
  have i0:¬((r.at_:Int)+(k:Int)<0):=by omega
  have i1:(s.size:Int)<=(r.at_:Int)+(k:Int):=by omega
  go_in;go_wp2;go_ret;exact⟨by rw[HV.out];rfl,rfl⟩
def zJ (s:ByteArray)(i:Nat)(t:ByteArray):Bool:=decide (i+t.size<=s.size)&&((s.extract i (i+t.size)).toList==t.toList)
def Rx.take (r:Rx)(s t:ByteArray):Rx:=if zJ s r.at_ t then{r with at_:=r.at_+t.size} else r
theorem jB (w:World)(b:Nat)(s:ByteArray)(dv:Value)(r:Rx)(h:RxAt w b s dv r)(hs:s.size<=1048576)(ha:r.at_<=2000000)(t:ByteArray)(ht:t.size<=1000000):
  Calls prog 189 #[pointer (some ⟨b,0,none⟩),string t] w fun e w'=>e=returned (bool (zJ s r.at_ t))∧RxAt w' b s dv (r.take s t)∧∀H,Keep H b w w':=by
 obtain⟨c0,-,c2,-,-,cf⟩:=h.cells;have cf2:=cf 2;have HR:=vl h;have htn:((r.at_:Int)+(t.size:Int)).toNat=r.at_+t.size:=by omega
 by_cases hi:r.at_+t.size<=s.size
 ·have i0:¬((s.size:Int)<(r.at_:Int)+(t.size:Int)):=by omega
  have i1:(r.at_:Int)+(t.size:Int)<=(s.size:Int):=by omega
  have i2:(0:Int)<=(r.at_:Int):=by omega
  have i3:(r.at_:Int)<=(r.at_:Int)+(t.size:Int):=by omega
  cases hc:((s.extract r.at_ (r.at_+t.size)).toList==t.toList) with
  |true=>
   have htb:zJ s r.at_ t=true:=by unfold zJ;rw[decide_eq_true hi,hc];rfl
   have HV:Hid (zJ s r.at_ t=true∧r.take s t={r with at_:=r.at_+t.size}):=⟨htb,by unfold Rx.take;rw[if_pos htb]⟩
   have hce:((s.extract r.at_ ((r.at_:Int)+(t.size:Int)).toNat).toList==t.toList)=true:=by rw[htn];exact hc
   go_in;go_wp2;go_quiet (fail);go_wp2;go_ret;refine⟨by rw[HV.out.1];rfl,?_,fun H=>Keep.drewSet w _ _ _⟩;rw[HV.out.2];have h2:=(RxAt.of_block (w':=w.drewN nq) HR.out rfl).setAt (r.at_+t.size);rw[show ((r.at_+t.size:Nat):Int)=(r.at_:Int)+(t.size:Int) by omega] at h2;exact h2
  |false=>
   have htb:zJ s r.at_ t=false:=by unfold zJ;rw[decide_eq_true hi,hc];rfl
   have HV:Hid (zJ s r.at_ t=false∧r.take s t=r):=⟨htb,by unfold Rx.take;rw[if_neg (by rw[htb];decide)]⟩
   have hce:((s.extract r.at_ ((r.at_:Int)+(t.size:Int)).toNat).toList==t.toList)=false:=by rw[htn];exact hc
   go_in;go_wp2;go_quiet (fail);go_wp2;go_ret;exact⟨by rw[HV.out.1];rfl,by rw[HV.out.2];exact RxAt.of_block HR.out rfl,fun H=>Keep.alike (w':=w.drewN nq) ⟨rfl,rfl,rfl⟩⟩
 ·have htb:zJ s r.at_ t=false:=by unfold zJ;rw[decide_eq_false hi];rfl
  have HV:Hid (zJ s r.at_ t=false∧r.take s t=r):=⟨htb,by unfold Rx.take;rw[if_neg (by rw[htb];decide)]⟩
  have i1:(s.size:Int)<(r.at_:Int)+(t.size:Int):=by omega
  go_in;go_wp2;go_quiet (fail);go_wp2;go_ret;exact⟨by rw[HV.out.1];rfl,by rw[HV.out.2];exact RxAt.of_block HR.out rfl,fun H=>Keep.alike (w':=w.drewN nq) ⟨rfl,rfl,rfl⟩⟩
end
def xX (c:Nat):Bool:=xE c&&decide (c<=52)
def zAX (c:Nat):Int:=if xX c then(c:Int)-48 else -1
def Rx.on (r:Rx)(k:Bool):Rx:=if k then{r with at_:=r.at_+1} else r
theorem zD4 (w:World)(b:Nat)(s:ByteArray)(dv:Value)(r:Rx)(h:RxAt w b s dv r)(hs:s.size<=1048576)(ha:r.at_<=2000000):
  Calls prog 214 #[pointer (some ⟨b,0,none⟩)] w fun e w'=>e=returned (int i64 (zAX (byt s r.at_)))∧RxAt w' b s dv (r.on (xX (byt s r.at_)))∧∀H,Keep H b w w':=by
 obtain⟨-,-,c2,-,-,cf⟩:=h.cells;have cf2:=cf 2;have HR:=vl h;have HPK:=vl <| qE w b s dv r h hs ha 0 (by omega);have hlt:=zAm s r.at_;generalize byt s r.at_=c at *;have HDG0:Hid (∀w,Ca 206 #[int .u8 (c:Int)] w fun e w'=>e=returned (bool (xE c))∧w'=w):=fun w=>jY w c;cases hd:xE c with
 |false=>
  have hk:xX c=false:=by unfold xX;rw[hd];rfl
  have HV:Hid (zAX c=-1∧r.on (xX c)=r):=⟨by unfold zAX;rw[if_neg (by rw[hk];decide)],by unfold Rx.on;rw[if_neg (by rw[hk];decide)]⟩
  rw[hd] at HDG0;have HDG:=vl HDG0.out;go_in;go_wp2_with (first|(go_at_call 200;refine HPK.out.mono ?_;rintro e w9 ⟨rfl,hw9⟩;have hw8:=hw9.symm;subst hw8)|(go_at_call 206;refine(HDG.out _).mono ?_;rintro e w9 ⟨rfl,hw9⟩;have hw8:=hw9.symm;subst hw8))
  go_ret;exact⟨by rw[HV.out.1];rfl,by rw[HV.out.2];exact HR.out,fun H=>Keep.refl _ _ _⟩
 |true=>
  have hr:48<=c∧c<=57:=by unfold xE at hd;simpa using hd
  rw[hd] at HDG0;have HDG:=vl HDG0.out;have hw:IntKind.u8.wrap ((c:Int)-48)=(c:Int)-48:=by rw[IntKind.wrap_u8];omega
  by_cases h4:c<=52
  ·have hk:xX c=true:=by unfold xX;rw[hd,decide_eq_true h4];rfl
   have HV:Hid (zAX c=(c:Int)-48∧r.on (xX c)={r with at_:=r.at_+1}):=⟨by unfold zAX;rw[if_pos hk],by unfold Rx.on;rw[if_pos hk]⟩
   have i1:(c:Int)-48<=4:=by omega
   go_in;go_wp2_with (first|(go_at_call 200;refine HPK.out.mono ?_;rintro e w9 ⟨rfl,hw9⟩;have hw8:=hw9.symm;subst hw8)|(go_at_call 206;refine(HDG.out _).mono ?_;rintro e w9 ⟨rfl,hw9⟩;have hw8:=hw9.symm;subst hw8))
   go_ret;refine⟨by rw[HV.out.1];first|rfl|(simp [hw];done)|(simp;omega),?_,fun H=>Keep.set _ _ _⟩;rw[HV.out.2];have h2:=HR.out.setAt (r.at_+1);rw[show ((r.at_+1:Nat):Int)=(r.at_:Int)+1 by omega] at h2;exact h2
  ·have hk:xX c=false:=by unfold xX;rw[hd,decide_eq_false h4];rfl
   have HV:Hid (zAX c=-1∧r.on (xX c)=r):=⟨by unfold zAX;rw[if_neg (by rw[hk];decide)],by unfold Rx.on;rw[if_neg (by rw[hk];decide)]⟩
   have i1:4<(c:Int)-48:=by omega
   go_in;go_wp2_with (first|(go_at_call 200;refine HPK.out.mono ?_;rintro e w9 ⟨rfl,hw9⟩;have hw8:=hw9.symm;subst hw8)|(go_at_call 206;refine(HDG.out _).mono ?_;rintro e w9 ⟨rfl,hw9⟩;have hw8:=hw9.symm;subst hw8))
   go_ret;exact⟨by rw[HV.out.1];rfl,by rw[HV.out.2];exact HR.out,fun H=>Keep.refl _ _ _⟩
def zBA (s:ByteArray)(i:Nat):Bool:=decide (s.size<=i)||(byt s i==124||byt s i==41)
theorem zFH (w:World)(b:Nat)(s:ByteArray)(dv:Value)(r:Rx)(h:RxAt w b s dv r)(hs:s.size<=1048576)(ha:r.at_<=2000000):
  Calls prog 194 #[pointer (some ⟨b,0,none⟩)] w fun e w'=>e=returned (bool (zBA s r.at_))∧∀H c,Keep H c w w':=by
 obtain⟨c0,-,c2,-,-,-⟩:=h.cells;by_cases hi:s.size<=r.at_
 ·have HV:Hid (zBA s r.at_=true):=by show _=_;unfold zBA;rw[decide_eq_true hi];rfl
  have i1:(r.at_:Int)>=(s.size:Int):=by omega
  go_in;go_wp2;go_quiet (fail);go_wp2;go_ret;exact⟨by rw[HV.out];rfl,fun H c=>Keep.alike (w':=w.drewN nq) ⟨rfl,rfl,rfl⟩⟩
 ·have HV:Hid (zBA s r.at_=(byt s r.at_==124||byt s r.at_==41)):=by show _=_;unfold zBA;rw[decide_eq_false hi];rfl
  have i1:(r.at_:Int)<(s.size:Int):=by omega
  have HPK:Hid (∀nq,Ca 200 #[pointer (some ⟨b,0,none⟩),int i64 0] (w.drewN nq) fun e w'=>e=returned (int .u8 (byt s r.at_:Nat))∧w'=w.drewN nq):=fun nq=>qE (w.drewN nq) b s dv r (RxAt.of_block h rfl) hs ha 0 (by omega);generalize byt s r.at_=c at *;by_cases h1:c=124
  ·subst h1
   go_in;go_wp2;go_quiet (fail);go_wp2_with (first|(go_at_call 200;refine(HPK.out _).mono ?_;rintro e w9 ⟨rfl,hw9⟩))
   go_ret;exact⟨by rw[HV.out];rfl,fun H c=>Keep.alike (w':=w.drewN nq) ⟨rfl,rfl,rfl⟩⟩
  ·have d1:((c:Int)==124)=false:=by rw[hJ];omega
   have e1:(c==124)=false:=by rw[hJ];exact h1
   have HV2:Hid (zBA s r.at_=((c:Int)==41)):=by
    show _=_;rw[HV.out,e1,Bool.false_or];by_cases h2:c=41
    ·rw[h2];rfl
    ·rw[show (c==41)=false by rw[hJ];exact h2,show((c:Int)==41)=false by rw[hJ];omega]
   go_in;go_wp2;go_quiet (fail);go_wp2_with (first|(go_at_call 200;refine(HPK.out _).mono ?_;rintro e w9 ⟨rfl,hw9⟩))
   go_ret;exact⟨by rw[HV2.out];rfl,fun H c=>Keep.alike (w':=w.drewN nq) ⟨rfl,rfl,rfl⟩⟩
def zAH (s:ByteArray)(i:Nat):Nat->Nat
 |0=>0
 |j+1=>zAH s i j*16+(vU (byt s (i+j))).toNat
def yH (s:ByteArray)(i most:Nat):Nat:=(List.range most).findIdx fun j=>decide (vU (byt s (i+j))<0)
theorem zKc (c:Nat):vU c<16∧-1<=vU c:=by
 unfold vU;by_cases h:xE c=true
 ·have hr:48<=c∧c<=57:=by unfold xE at h;simpa using h
  rw[if_pos h];omega
 ·rw[if_neg h]
  split <;> omega
theorem zKa (s:ByteArray)(i j:Nat):zAH s i j<16^j:=by
 induction j with
 |zero=>exact Nat.one_pos
 |succ j ih=>
  have:=(zKc (byt s (i+j))).1;show zAH s i j*16+(vU (byt s (i+j))).toNat<16^(j+1);rw[Nat.pow_succ];omega
theorem zNl (s:ByteArray)(i most j:Nat)(hj:j<most)(h:vU (byt s (i+j))<0)(hn:∀k,k<j->0<=vU (byt s (i+k))):yH s i most=j:=
 zC7 _ _ j (by rw[List.length_range];exact hj) (by rw[qQ _ _ hj];exact decide_eq_true h) fun k hk=>by rw[qQ _ _ (by omega)];exact decide_eq_false (by have:=hn k hk;omega)
theorem zMl (s:ByteArray)(i most:Nat)(hn:∀k,k<most->0<=vU (byt s (i+k))):yH s i most=most:=by
 have h:=zA5 (List.range most) (fun j=>decide (vU (byt s (i+j))<0)) fun k hk=>by
  rw[List.length_range] at hk;rw[qQ _ _ hk];exact decide_eq_false (by have:=hn k hk;omega)
 rw[List.length_range] at h;exact h
theorem zK2 (w:World)(b:Nat)(s:ByteArray)(dv:Value)(r:Rx)(h:RxAt w b s dv r)(hs:s.size<=1048576)(ha:r.at_<=1900000)(most:Nat)(hm:most<=6):
  Calls prog 216 #[pointer (some ⟨b,0,none⟩),int i64 (most:Int)] w fun e w'=>e=returned (tuple #[int i64 (zAH s r.at_ (yH s r.at_ most):Nat),int i64 (yH s r.at_ most:Nat)])∧RxAt w' b s dv {r with at_:=r.at_+yH s r.at_ most}∧∀H,Keep H b w w':=by
 have HR0:=vl h;have HB1:Hid (∀j,j<=most->zAH s r.at_ j<=16777216):=fun j hj=>Nat.le_of_lt (lZ (zKa s r.at_ j) (kG (by omega) (by omega:j<=6)));have H1:Hid (∀j,j<most->vU (byt s (r.at_+j))<0->(∀k,k<j->0<=vU (byt s (r.at_+k)))->yH s r.at_ most=j):=fun j=>zNl s r.at_ most j;have H2:=vl <| zMl s r.at_ most;have HNS:Hid (∀j,zAH s r.at_ (j+1)=zAH s r.at_ j*16+(vU (byt s (r.at_+j))).toNat):=fun j=>rfl;have HN0:Hid (zAH s r.at_ 0=0):=rfl;generalize hHN:zAH s r.at_=HN at *;go_in;go_wp2;go_loopg [6,7] most (fun q n i wr=>∃j:Nat,q=most-j∧j<=most∧n=int i64 (HN j:Int)∧i=int i64 (j:Int)∧(∀k,k<j->0<=vU (byt s (r.at_+k)))∧RxAt wr b s dv {r with at_:=r.at_+j}∧∀H,Keep H b w wr)
 case atStart=>exact⟨0,rfl,lX,by rw[HN0.out];rfl,rfl,fun k hk=>by omega,HR0.out,fun H=>Keep.refl _ _ _⟩
 case round=>
  obtain⟨j,hgk,hj,rfl,rfl,hno,hR,hkp⟩:=hrel;have HB:Hid (gk=most-j∧(∀k,k<j->0<=vU (byt s (r.at_+k)))∧RxAt wr b s dv {r with at_:=r.at_+j}∧∀H,Keep H b w wr):=⟨hgk,hno,hR,hkp⟩
  by_cases hj2:j<most
  ·have i1:(j:Int)<(most:Int):=by omega
   have HPK0:=qE wr b s dv {r with at_:=r.at_+j} hR hs (by show r.at_+j<=2000000;omega) 0 (by omega);have HPK:=vl HPK0;have HHX:Hid (∀w2,Ca 220 #[int .u8 (byt s (r.at_+j):Nat)] w2 fun e w'=>e=returned (int i64 (vU (byt s (r.at_+j))))∧w'=w2):=fun w2=>zFf w2 _ (zAm s _);obtain⟨-,-,c2,-,-,cf⟩:=hR.cells;have c2':=c2;have cf2:=cf 2;have hrange:=zKc (byt s (r.at_+j));have HS3:Hid (vU (byt s (r.at_+j))<0->yH s r.at_ most=j):=fun h=>H1.out j hj2 h HB.out.2.1;have HN3:Hid (0<=vU (byt s (r.at_+j))->∀k,k<j+1->0<=vU (byt s (r.at_+k))):=fun h k hk=>by
    by_cases e:k=j
    ·rw[e];exact h
    ·exact HB.out.2.1 k (by omega)
   have HNX:=vl <| HNS.out j;have hnl:=HB1.out j (by omega);have HSA:=vl <| hR.setAt (r.at_+(j+1));generalize vU (byt s (r.at_+j))=d at *;generalize byt s (r.at_+j)=c at *;by_cases hd:d<0
   ·have HC:=vl <| HS3.out hd
    go_wp2_with (first|(go_at_call 200;refine HPK.out.mono ?_;rintro e w9 ⟨rfl,hw9⟩;have hw8:=hw9.symm;subst hw8)|(go_at_call 220;refine(HHX.out _).mono ?_;rintro e w9 ⟨rfl,hw9⟩;have hw8:=hw9.symm;subst hw8))
    refine bodyPost_ret (results_tmp2 rfl _ _ _) rfl ?_;exact⟨by rw[HC.out];rfl,by rw[HC.out];exact HB.out.2.2.1,HB.out.2.2.2⟩
   ·have HNO:=vl <| HN3.out (by omega)
    have i2:0<=d:=by omega
    have HEQ:Hid ((HN (j+1):Int)=(HN j:Int)*16+d):=by show _=_;rw[HNX.out];omega
    have c3:wr.cell? ⟨b,2,none⟩=some (int i64 ((r.at_:Int)+(j:Int))):=by rw[c2'];congr 2
    have HE2:Hid (((r.at_+(j+1):Nat):Int)=(r.at_:Int)+(j:Int)+1):=by show _=_;omega
    rw[HE2.out] at HSA;generalize HN j=nn at *;go_wp2_with (first|(go_at_call 200;refine HPK.out.mono ?_;rintro e w9 ⟨rfl,hw9⟩;have hw8:=hw9.symm;subst hw8)|(go_at_call 220;refine(HHX.out _).mono ?_;rintro e w9 ⟨rfl,hw9⟩;have hw8:=hw9.symm;subst hw8))
    go_roundg (most-(j+1))
    case measure=>rw[HB.out.1];omega
    case rel=>exact⟨j+1,rfl,by omega,by rw[HEQ.out],by go_num,HNO.out,HSA.out,fun H=>(HB.out.2.2.2 H).trans (Keep.set _ _ _)⟩
  ·have i1:(most:Int)<=(j:Int):=by omega
   have e:j=most:=by omega
   have HC:=vl <| H2.out fun k hk=>hno k (by omega);subst e;go_wp2;refine bodyPost_ret (results_tmp2 rfl _ _ _) rfl ?_;exact⟨by rw[HC.out];rfl,by rw[HC.out];exact HB.out.2.2.1,HB.out.2.2.2⟩
def zAN (s:ByteArray)(i:Nat):Bool:=byt s i==42||byt s i==43||byt s i==63||(byt s i==123&&xE (byt s (i+1)))
theorem zDA (w:World)(b:Nat)(s:ByteArray)(dv:Value)(r:Rx)(h:RxAt w b s dv r)(hs:s.size<=1048576)(ha:r.at_<=2000000):
  Calls prog 197 #[pointer (some ⟨b,0,none⟩)] w fun e w'=>e=returned (bool (zAN s r.at_))∧w'=w:=by
 have HP0:=vl <| qE w b s dv r h hs ha 0 (by omega);have HP1:=vl <| qE w b s dv r h hs ha 1 (by omega);have HD:Hid (∀w2,Ca 206 #[int .u8 (byt s (r.at_+1):Nat)] w2 fun e w'=>e=returned (bool (xE (byt s (r.at_+1))))∧w'=w2):=fun w2=>jY w2 _;have HV:Hid (zAN s r.at_=(byt s r.at_==42||byt s r.at_==43||byt s r.at_==63||(byt s r.at_==123&&xE (byt s (r.at_+1))))):=rfl;generalize xE (byt s (r.at_+1))=dg at *;generalize byt s (r.at_+1)=c1 at *;generalize byt s r.at_=c at *;by_cases h1:c=42
 ·subst h1
  go_in;go_wp2_with (first|(go_at_call 200;refine HP0.out.mono ?_;rintro e w9 ⟨rfl,hw9⟩;have hw8:=hw9.symm;subst hw8))
  go_ret;exact⟨by rw[HV.out];rfl,rfl⟩
 by_cases h2:c=43
 ·subst h2
  go_in;go_wp2_with (first|(go_at_call 200;refine HP0.out.mono ?_;rintro e w9 ⟨rfl,hw9⟩;have hw8:=hw9.symm;subst hw8))
  go_ret;exact⟨by rw[HV.out];rfl,rfl⟩
 by_cases h3:c=63
 ·subst h3
  go_in;go_wp2_with (first|(go_at_call 200;refine HP0.out.mono ?_;rintro e w9 ⟨rfl,hw9⟩;have hw8:=hw9.symm;subst hw8))
  go_ret;exact⟨by rw[HV.out];rfl,rfl⟩
 by_cases h4:c=123
 ·subst h4
  have HV2:Hid (zAN s r.at_=dg):=by show _=_;rw[HV.out];rfl
  go_in;go_wp2_with (first|(go_at_call 200;first|(have m2:=mark1;refine HP1.out.mono ?_;rintro e w9 ⟨rfl,hw9⟩;have hw8:=hw9.symm;subst hw8)|(refine HP0.out.mono ?_;rintro e w9 ⟨rfl,hw9⟩;have hw8:=hw9.symm;subst hw8;have mark1:=trivial))|(go_at_call 206;refine(HD.out _).mono ?_;rintro e w9 ⟨rfl,hw9⟩;have hw8:=hw9.symm;subst hw8))
  go_ret;exact⟨by rw[HV2.out];rfl,rfl⟩
 ·have HV2:Hid (zAN s r.at_=false):=by
   show _=_;rw[HV.out,show(c==42)=false by rw[hJ];exact h1,show(c==43)=false by rw[hJ];exact h2,show(c==63)=false by rw[hJ];exact h3,show(c==123)=false by rw[hJ];exact h4];rfl
  have e1:((c:Int)==42)=false:=by rw[hJ];omega
  have e2:((c:Int)==43)=false:=by rw[hJ];omega
  have e3:((c:Int)==63)=false:=by rw[hJ];omega
  have e4:((c:Int)==123)=false:=by rw[hJ];omega
  go_in;go_wp2_with (first|(go_at_call 200;refine HP0.out.mono ?_;rintro e w9 ⟨rfl,hw9⟩;have hw8:=hw9.symm;subst hw8))
  go_ret;exact⟨by rw[HV2.out];rfl,rfl⟩
def zH3 (c:Int):Cs:=⟨[(c,c)],false⟩
def zOc:Cs:=⟨[(10,10)],true⟩
theorem zKR (w:World)(c:Int)(b:Nat)(h:w.heap[b]? =some (.cells #[int i64 c,int i64 c] 255)):RangesAt w (slice (some ⟨b,0,none⟩) 1 1) [(c,c)]:=by
 have hl:=(kQ.1 h).1;refine⟨_,1,rfl,lQ,by unfold maxLen;omega,fun i hi=>?_⟩;have e:i=0:=by simp at hi;omega
 subst e;refine⟨b,0,rfl,hl,?_,?_⟩
 ·unfold cell?;rw[h];rfl
 ·unfold cell?;rw[h];rfl
theorem zDt (w:World)(c:Int):
  Calls prog 210 #[int i64 c] w fun e w'=>∃u,e=returned (agg #[u,bool false])∧(∃g,w.heap.size<=g∧u=slice (some ⟨g,0,none⟩) 1 1∧w'.heap[g]? =some (.cells #[int i64 c,int i64 c] 255))∧Grew w w':=by
 obtain⟨w2,hw2,z0,z1,HB,HK⟩:∃w2,w2=(w.alloc (Obj.cells #[slice (some ⟨w.heap.size+1,0,none⟩) 1 1,bool false] 161)).alloc (Obj.cells #[int i64 c,int i64 c] 255)∧w2.cell? ⟨w.heap.size,0,none⟩=some (slice (some ⟨w.heap.size+1,0,none⟩) 1 1)∧w2.cell? ⟨w.heap.size,1,none⟩=some (bool false)∧Hid (w2.heap[w.heap.size+1]? =some (.cells #[int i64 c,int i64 c] 255))∧Hid (Grew w w2):=by
  have s1:(w.alloc (Obj.cells #[slice (some ⟨w.heap.size+1,0,none⟩) 1 1,bool false] 161)).heap.size=w.heap.size+1:=by simp
  have h1:((w.alloc (Obj.cells #[slice (some ⟨w.heap.size+1,0,none⟩) 1 1,bool false] 161)).alloc (Obj.cells #[int i64 c,int i64 c] 255)).heap[w.heap.size]? =some (Obj.cells #[slice (some ⟨w.heap.size+1,0,none⟩) 1 1,bool false] 161):=(lG _ _ _ (by rw[s1];omega)).trans (gU _ _);have h2:=gU (w.alloc (Obj.cells #[slice (some ⟨w.heap.size+1,0,none⟩) 1 1,bool false] 161)) (Obj.cells #[int i64 c,int i64 c] 255);rw[s1] at h2;refine⟨_,rfl,?_,?_,h2,(kZ _ _ lQ).trans (kZ _ _ (by rw[s1];omega))⟩
  ·unfold cell?;rw[h1];rfl
  ·unfold cell?;rw[h1];rfl
 go_in;go_wp2;rw[<-hw2];refine bodyPost_ret (v:=agg #[slice (some ⟨w.heap.size+1,0,none⟩) 1 1,bool false]) (by simp[results,results210,go_sem,z0,z1]) rfl ?_;exact⟨_,rfl,⟨_,by omega,rfl,HB.out⟩,HK.out⟩
theorem zLi (w:World):
  Calls prog 211 #[] w fun e w'=>∃u,e=returned (agg #[u,bool true])∧(∃g,w.heap.size<=g∧u=slice (some ⟨g,0,none⟩) 1 1∧w'.heap[g]? =some (.cells #[int i64 10,int i64 10] 255))∧Grew w w':=by
 obtain⟨w2,hw2,z0,z1,HB,HK⟩:∃w2,w2=(w.alloc (Obj.cells #[slice (some ⟨w.heap.size+1,0,none⟩) 1 1,bool true] 161)).alloc (Obj.cells #[int i64 10,int i64 10] 255)∧w2.cell? ⟨w.heap.size,0,none⟩=some (slice (some ⟨w.heap.size+1,0,none⟩) 1 1)∧w2.cell? ⟨w.heap.size,1,none⟩=some (bool true)∧Hid (w2.heap[w.heap.size+1]? =some (.cells #[int i64 10,int i64 10] 255))∧Hid (Grew w w2):=by
  have s1:(w.alloc (Obj.cells #[slice (some ⟨w.heap.size+1,0,none⟩) 1 1,bool true] 161)).heap.size=w.heap.size+1:=by simp
  have h1:((w.alloc (Obj.cells #[slice (some ⟨w.heap.size+1,0,none⟩) 1 1,bool true] 161)).alloc (Obj.cells #[int i64 10,int i64 10] 255)).heap[w.heap.size]? =some (Obj.cells #[slice (some ⟨w.heap.size+1,0,none⟩) 1 1,bool true] 161):=(lG _ _ _ (by rw[s1];omega)).trans (gU _ _);have h2:=gU (w.alloc (Obj.cells #[slice (some ⟨w.heap.size+1,0,none⟩) 1 1,bool true] 161)) (Obj.cells #[int i64 10,int i64 10] 255);rw[s1] at h2;refine⟨_,rfl,?_,?_,h2,(kZ _ _ lQ).trans (kZ _ _ (by rw[s1];omega))⟩
  ·unfold cell?;rw[h1];rfl
  ·unfold cell?;rw[h1];rfl
 go_in;go_wp2;rw[<-hw2];refine bodyPost_ret (v:=agg #[slice (some ⟨w.heap.size+1,0,none⟩) 1 1,bool true]) (by simp[results,results211,go_sem,z0,z1]) rfl ?_;exact⟨_,rfl,⟨_,by omega,rfl,HB.out⟩,HK.out⟩
def xI (n:Nat):Nat:=if 24<n then 25 else n
theorem zCu (w:World)(n:Nat):Calls prog 195 #[int i64 (n:Int)] w fun e w'=>e=returned (int i64 (xI n:Int))∧w'=w:=by
 by_cases h:24<n
 ·have HV:Hid (xI n=25):=by show _=_;unfold xI;rw[if_pos h]
  have i1:(n:Int)>24:=by omega
  go_in;go_wp2;go_ret;exact⟨by rw[HV.out];rfl,rfl⟩
 ·have HV:Hid (xI n=n):=by show _=_;unfold xI;rw[if_neg h]
  have i1:(n:Int)<=24:=by omega
  go_in;go_wp2;go_ret;exact⟨by rw[HV.out];rfl,rfl⟩
theorem zHw {s t:ByteArray}{r:Rx}(h:zJ s r.at_ t=true):r.take s t={r with at_:=r.at_+t.size}:=by unfold Rx.take;rw[if_pos h]
theorem zJS {s t:ByteArray}{r:Rx}(h:zJ s r.at_ t=false):r.take s t=r:=by unfold Rx.take;rw[if_neg (by rw[h];decide)]
theorem zNP {w0 w:World}{b:Nat}{s t:ByteArray}{dv:Value}{r:Rx}(hv:zJ s r.at_ t=true)(h:RxAt w b s dv r)(hk:∀H,Keep H b w0 w)(hs:s.size<=1048576)(ha:r.at_<=2000000)(ht:t.size<=1000000):
  Calls prog 189 #[pointer (some ⟨b,0,none⟩),string t] w fun e w'=>e=returned (bool true)∧RxAt w' b s dv {r with at_:=r.at_+t.size}∧∀H,Keep H b w0 w':=by
 refine(jB w b s dv r h hs ha t ht).mono ?_;rintro e w' ⟨rfl,h1,h2⟩;rw[zHw hv] at h1;exact⟨by rw[hv],h1,fun H=>(hk H).trans (h2 H)⟩
theorem zNQ {w0 w:World}{b:Nat}{s t:ByteArray}{dv:Value}{r:Rx}(hv:zJ s r.at_ t=false)(h:RxAt w b s dv r)(hk:∀H,Keep H b w0 w)(hs:s.size<=1048576)(ha:r.at_<=2000000)(ht:t.size<=1000000):
  Calls prog 189 #[pointer (some ⟨b,0,none⟩),string t] w fun e w'=>e=returned (bool false)∧RxAt w' b s dv r∧∀H,Keep H b w0 w':=by
 refine(jB w b s dv r h hs ha t ht).mono ?_;rintro e w' ⟨rfl,h1,h2⟩;rw[zJS hv] at h1;exact⟨by rw[hv],h1,fun H=>(hk H).trans (h2 H)⟩
theorem zIW {b:Nat}{s:ByteArray}{dv:Value}{r:Rx}{x y:Nat}{v:Bool}{t:ByteArray}(hv:zJ s x t=v)(hs:s.size<=1048576)(hx:x<=2000000)(ht:t.size<=1000000)(hy:y=if v then x+t.size else x):Hid (∀w,RxAt w b s dv {r with at_:=x}->Calls prog 189 #[pointer (some ⟨b,0,none⟩),string t] w fun e w'=>e=returned (bool v)∧RxAt w' b s dv {r with at_:=y}∧∀H,Keep H b w w'):=fun w h=>by
 subst hy;cases v with
 |true=>exact zNP (r:={r with at_:=x}) hv h (fun H=>Keep.refl _ _ _) hs hx ht
 |false=>exact zNQ (r:={r with at_:=x}) hv h (fun H=>Keep.refl _ _ _) hs hx ht
theorem jV {w:World}{b:Nat}{s:ByteArray}{dv:Value}{r:Rx}{x y:Nat}{v:Bool}(t:ByteArray)(hs:s.size<=1048576)(hx:x<=2000000)(ht:t.size<=1000000)(hv:zJ s x t=v)(hy:y=if v then x+t.size else x)(h:RxAt w b s dv {r with at_:=x}):
  Calls prog 189 #[pointer (some ⟨b,0,none⟩),string t] w fun e w'=>e=returned (bool v)∧RxAt w' b s dv {r with at_:=y}∧∀H,Keep H b w w':=(zIW hv hs hx ht hy).out w h
theorem zNN {w0 w:World}{b x:Nat}{s:ByteArray}{c:UInt8}{dv:Value}{r:Rx}(hv:zJ s x ⟨#[c]⟩=true)(h:RxAt w b s dv {r with at_:=x})(hk:∀H,Keep H b w0 w)(hs:s.size<=1048576)(ha:x<=2000000):
  Calls prog 189 #[pointer (some ⟨b,0,none⟩),string ⟨#[c]⟩] w fun e w'=>e=returned (bool true)∧RxAt w' b s dv {r with at_:=x+1}∧∀H,Keep H b w0 w':=zNP (r:={r with at_:=x}) hv h hk hs ha (by show 1<=1000000;decide)
theorem zNO {w0 w:World}{b x:Nat}{s:ByteArray}{c:UInt8}{dv:Value}{r:Rx}(hv:zJ s x ⟨#[c]⟩=false)(h:RxAt w b s dv {r with at_:=x})(hk:∀H,Keep H b w0 w)(hs:s.size<=1048576)(ha:x<=2000000):
  Calls prog 189 #[pointer (some ⟨b,0,none⟩),string ⟨#[c]⟩] w fun e w'=>e=returned (bool false)∧RxAt w' b s dv {r with at_:=x}∧∀H,Keep H b w0 w':=zNQ (r:={r with at_:=x}) hv h hk hs ha (by show 1<=1000000;decide)
theorem zEo (s:ByteArray)(p m:Nat):yH s p m<=m:=by
 have h:(List.range m).findIdx (fun j=>decide (vU (byt s (p+j))<0))<=(List.range m).length:=List.findIdx_le_length;rw[List.length_range] at h;exact h
theorem zNH {b:Nat}{s:ByteArray}{dv:Value}{r:Rx}(x m:Nat)(hs:s.size<=1048576)(hx:x<=1900000)(hm:m<=6):Hid (∀w,RxAt w b s dv {r with at_:=x}->Calls prog 216 #[pointer (some ⟨b,0,none⟩),int i64 (m:Int)] w fun e w'=>e=returned (tuple #[int i64 (zAH s x (yH s x m):Nat),int i64 (yH s x m:Nat)])∧RxAt w' b s dv {r with at_:=x+yH s x m}∧∀H,Keep H b w w'):=fun w h=>zK2 w b s dv _ h hs hx m hm
theorem zGS {b:Nat}{s:ByteArray}{dv:Value}{r:Rx}(hs:s.size<=1048576)(ha:r.at_<=2000000):Hid (∀w,RxAt w b s dv r->Calls prog 200 #[pointer (some ⟨b,0,none⟩),int i64 0] w fun e w'=>e=returned (int .u8 (byt s r.at_:Nat))∧w'=w):=fun w h=>qE w b s dv r h hs ha 0 (by omega)
theorem zNS {b:Nat}{s:ByteArray}{dv:Value}{r:Rx}:Hid (∀w,RxAt w b s dv r->RxAt (w.setCell ⟨b,2,none⟩ (int i64 ((r.at_:Int)+1))) b s dv {r with at_:=r.at_+1}):=fun w h=>h.setAt (r.at_+1)
theorem zMC {w:World}{b:Nat}{s:ByteArray}{dv:Value}{r:Rx}(h:RxAt w b s dv r):∃r1 w0,r1.at_=r.at_+1∧w0=w.setCell ⟨b,2,none⟩ (int i64 ((r.at_:Int)+1))∧RxAt w0 b s dv r1∧(∀H,Keep H b w w0)∧Hid (∀q:Nat,({r1 with at_:=q}:Rx)={r with at_:=q})∧w.cell? ⟨b,2,none⟩=some (int i64 (r.at_:Int))∧w.frozen? ⟨b,2,none⟩=false:=by
 have h2:=h.setAt (r.at_+1);rw[show ((r.at_+1:Nat):Int)=(r.at_:Int)+1 by omega] at h2;exact⟨_,_,rfl,rfl,h2,fun H=>Keep.set _ _ _,fun q=>rfl,h.cells.2.2.1,h.cells.2.2.2.2.2 2⟩
structure Sg where
 num:Int
 ok:Bool
 at_:Nat
def zG6 (s:ByteArray)(p:Nat):Sg:=⟨(zAH s p (yH s p 2):Nat),yH s p 2==2,p+yH s p 2⟩
def zGz (s:ByteArray)(p:Nat):Sg:=⟨(zAH s p (yH s p 6):Nat),zJ s (p+yH s p 6) ⟨#[125]⟩&&decide (0<yH s p 6)&&zDB (zAH s p (yH s p 6):Nat),if zJ s (p+yH s p 6) ⟨#[125]⟩ then p+yH s p 6+1 else p+yH s p 6⟩
def zKj (c:Nat):Bool:=decide (c<33)||decide (126<c)||xE c||zCb c
def zAG (s:ByteArray)(p:Nat):Sg:=if zJ s p ⟨#[110]⟩ then⟨10,true,p+1⟩ else if zJ s p ⟨#[116]⟩ then⟨9,true,p+1⟩ else if zJ s p ⟨#[120]⟩ then zG6 s (p+1) else if zJ s p ⟨#[117,123]⟩ then zGz s (p+2) else if zKj (byt s p) then⟨0,false,p⟩ else⟨(byt s p:Nat),true,p+1⟩
theorem zBn (w:World)(b:Nat)(s:ByteArray)(dv:Value)(r:Rx)(h:RxAt w b s dv r)(hs:s.size<=1048576)(ha:r.at_<=1800000):
  Calls prog 209 #[pointer (some ⟨b,0,none⟩)] w fun e w'=>e=returned (tuple #[int i64 (zAG s (r.at_+1)).num,bool (zAG s (r.at_+1)).ok])∧RxAt w' b s dv {r with at_:=(zAG s (r.at_+1)).at_}∧∀H,Keep H b w w':=by
 obtain⟨r1,w0,hat1,hw0,hR,hk,HFR,c2,cf2⟩:=zMC h;have ha1:r1.at_<=2000000:=by omega
 have ha2:r1.at_+8<=2000000:=by omega
 obtain⟨es,hes⟩:∃es,es=zAG s (r.at_+1):=⟨_,rfl⟩
 rw[<-hes];rw[<-hat1] at hes;unfold zAG zG6 zGz zKj at hes;have HV:=vl hes;have HX2:=zNH (b:=b) (dv:=dv) (r:=r1) (r1.at_+1) 2 hs (by omega) (by omega);have HX6:=zNH (b:=b) (dv:=dv) (r:=r1) (r1.at_+2) 6 hs (by omega) (by omega);have hk6:=zEo s (r1.at_+2) 6;have HIS:=vl fun w=>zE8 w ((zAH s (r1.at_+2) (yH s (r1.at_+2) 6):Nat):Int);have HP:=zGS (b:=b) (dv:=dv) (r:=r1) hs ha1;have HS:=zNS (b:=b) (s:=s) (dv:=dv) (r:=r1);have hcl:=zAm s r1.at_;have HDG:=vl fun w=>jY w (byt s r1.at_);have HLT:=vl fun w=>zFa w (byt s r1.at_);clear h hes hat1;generalize zDB ((zAH s (r1.at_+2) (yH s (r1.at_+2) 6):Nat):Int)=ic at *;generalize zAH s (r1.at_+2) (yH s (r1.at_+2) 6)=n6 at *;generalize yH s (r1.at_+2) 6=k6 at *;generalize zAH s (r1.at_+1) (yH s (r1.at_+1) 2)=n2 at *;generalize yH s (r1.at_+1) 2=k2 at *;generalize byt s r1.at_=c at *;have HB:Hid (((k2:Int)==2)=(k2==2)):=by
  show _=_;by_cases e:k2=2
  ·rw[e];rfl
  ·rw[show (k2==2)=false by rw[hJ];exact e,hJ];omega
 go_in;apply wp_cut;intro K0 J;go_wp2;apply J.out;clear J;apply wp_cut;intro K0 J;go_wp2;apply J.out;clear J;rw[<-hw0];clear hw0 c2 cf2;rcases hn:zJ s r1.at_ ⟨#[110]⟩ with _|_;rcases ht:zJ s r1.at_ ⟨#[116]⟩ with _|_;rcases hx:zJ s r1.at_ ⟨#[120]⟩ with _|_;rcases hu:zJ s r1.at_ ⟨#[117,123]⟩ with _|_;rcases Nat.lt_or_ge c 33 with q1|q1;rotate_left;rcases Nat.lt_or_ge 126 c with q2|q2;rotate_left;rcases hdg:xE c with _|_;rcases hlt:zCb c with _|_;rotate_left 3;rcases hc:zJ s (r1.at_+2+k6) ⟨#[125]⟩ with _|_;rotate_left;rcases Nat.lt_or_ge 0 k6 with q6|q6
 all_goals
  try rw[hn] at HV
  try rw[ht] at HV
  try rw[hx] at HV
  try rw[hu] at HV
  try rw[hc] at HV
  try rw[decide_eq_true q6] at HV
  try rw[decide_eq_false (Nat.not_lt.2 q6)] at HV
  try rw[decide_eq_true q1] at HV
  try rw[decide_eq_false (Nat.not_lt.2 q1)] at HV
  try rw[decide_eq_true q2] at HV
  try rw[decide_eq_false (Nat.not_lt.2 q2)] at HV
  try rw[hdg] at HV HDG
  try rw[hlt] at HV HLT
  try clear hdg
  try clear hlt
  try have i6:(k6:Int)>0:=by omega
  try have i6:(k6:Int)<=0:=by omega
  try have i1:(c:Int)<33:=by omega
  try have i1:33<=(c:Int):=by omega
  try have i2:126<(c:Int):=by omega
  try have i2:(c:Int)<=126:=by omega
  go_wp2_with (first|(go_at_call 189;(first|refine(zNQ (by assumption) hR hk hs (by first|exact ha1|(show r1.at_+2+k6<=2000000;omega)) (by decide)).mono ?_|refine(zNP (by assumption) hR hk hs (by first|exact ha1|(show r1.at_+2+k6<=2000000;omega)) (by decide)).mono ?_);rintro e v ⟨rfl,hR,hk⟩)|(go_at_call 216;(first|refine(HX2.out v hR).mono ?_|refine(HX6.out v hR).mono ?_);rintro e v ⟨rfl,hR,hk2⟩;replace hk:=fun H=>(hk H).trans (hk2 H))|(go_at_call 200;refine(HP.out v hR).mono ?_;rintro e w9 ⟨rfl,hw9⟩;have hw8:=hw9.symm;subst hw8;obtain⟨-,-,c2,-,-,cf⟩:=hR.cells;have cf2:=cf 2;clear cf)|(go_at_call 191;refine(HIS.out _).mono ?_;rintro e w9 ⟨rfl,hw9⟩;have hw8:=hw9.symm;subst hw8)|(go_at_call 206;refine(HDG.out _).mono ?_;rintro e w9 ⟨rfl,hw9⟩;have hw8:=hw9.symm;subst hw8)|(go_at_call 217;refine(HLT.out _).mono ?_;rintro e w9 ⟨rfl,hw9⟩;have hw8:=hw9.symm;subst hw8))
  refine bodyPost_ret (results_tmp2 rfl _ _ _) rfl ?_
  first
  |exact⟨by rw[HV.out];rfl,by rw[HV.out,<-HFR.out];exact hR,fun H=>hk H⟩
  |exact⟨by rw[HV.out,HB.out];rfl,by rw[HV.out,<-HFR.out];exact hR,fun H=>hk H⟩
  |exact⟨by rw[HV.out];first|rfl|(simp;done),by rw[HV.out,<-HFR.out];exact HS.out _ hR,fun H=>(hk H).trans (Keep.set _ _ _)⟩
end Go.Proofs.YtbjcfkdnjaiclaaGreat
