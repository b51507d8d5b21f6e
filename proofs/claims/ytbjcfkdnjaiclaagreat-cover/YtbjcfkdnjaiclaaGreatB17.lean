import Derived.Test.YtbjcfkdnjaiclaaGreatB0
import Derived.Test.YtbjcfkdnjaiclaaGreatB16
/- Parts of the proof. -/
set_option linter.unusedVariables false
set_option linter.unusedSimpArgs false
set_option maxHeartbeats 4000000
set_option maxRecDepth 100000
namespace Go.Proofs.YtbjcfkdnjaiclaaGreat
open Go.RowKit Go.Proofs.Tryz Go.World
theorem zDo (w:World)(l m:Nat)(e:Bool):
  Calls prog 165 #[.agg #[.int .i64 (l:Int),.int .i64 (m:Int),.bool e]] w fun x w'=>x=.returned (.int .i64 (((if e then(if l=0 then 1 else l) else m:Nat)):Int))∧Grew w w':=by
 cases e with
 |false=>
  go_in;go_wp2;go_ret;exact⟨rfl,kZ _ _ lQ⟩
 |true=>
  by_cases h:l=0
  ·subst h
   go_in;go_wp2;go_ret;exact⟨rfl,kZ _ _ lQ⟩
  ·have hc:((l:Int)==0)=false:=by rw[gQ];omega
   go_in;go_wp2;go_ret;exact⟨rfl,kZ _ _ lQ⟩
theorem zFf (w0:World)(nb d:Nat)(sub:Lay)(cnt:Tr->Nat)(hs:zCa w0 nb d sub cnt)(hy:Lays sub cnt)(w:World)(n:Nt)(b:Nat)(t:Tr)(h:NwIs w0 w nb n)(hg:n.Good)(ht:TreeAt w0 (d+1) b t)(hl:n.sets.length+t.copies*zW cnt t.parts t.parts.length<=24)(hpl:t.parts.length<=1000000000000)(hcp:t.copies<=1000000000000)(hls:t.least<=1000000000000):
  Calls prog 126 #[.pointer (some ⟨nb,0,none⟩),.pointer (some ⟨b,0,none⟩)] w fun e w'=>e=.returned (xS sub n t t.copies).2.val∧NwIs w0 w' nb (xS sub n t t.copies).1∧StayS w w':=by
 have HTR:=vl ht;obtain⟨hbl,rv,pv,hb,-⟩:=id ht;have HTM0:Hid (∀wr n2,NwIs w0 wr nb n2->wr.cell? ⟨b,4,none⟩=some (.int .i64 (t.least:Int))∧wr.cell? ⟨b,5,none⟩=some (.int .i64 (t.most:Int))∧wr.cell? ⟨b,6,none⟩=some (.bool t.endless)):=by
  rintro wr n2 ⟨_,_,_,_,_,hN⟩;have hk:=hN.keep;have hb2:=(hk.block b hbl (kJ hbl)).trans hb;refine⟨?_,?_,?_⟩
  all_goals (unfold cell?;rw[hb2];rfl)
 have HTM:Hid (∀wr n2,NwIs w0 wr nb n2->wr.cell? ⟨b,6,none⟩=some (.bool t.endless)∧wr.cell? ⟨b,4,none⟩=some (.int .i64 (t.least:Int))):=fun wr n2 hN=>⟨(HTM0.out wr n2 hN).2.2,(HTM0.out wr n2 hN).1⟩
 have HCP:Hid (∀w2,Calls prog 165 #[.agg #[.int .i64 (t.least:Int),.int .i64 (t.most:Int),.bool t.endless]] w2 fun x w'=>x=.returned (.int .i64 (t.copies:Int))∧Grew w2 w'):=fun w2=>zDo w2 t.least t.most t.endless;have hm:∀j,j<=t.copies->n.sets.length+j*zW cnt t.parts t.parts.length<=24:=fun j hj=>lY (Nat.add_le_add_left (Nat.mul_le_mul_right _ hj) _) hl;obtain⟨RT,hRT⟩:∃RT,RT=xS sub n t:=⟨_,rfl⟩
 have HRT:Hid (RT 0=(n,⟨0,0,true⟩)∧(∀j,RT (j+1)=((jP t j (rowTo sub (RT j).1 t.parts t.parts.length)).link (RT j).2.last (zAH t j (rowTo sub (RT j).1 t.parts t.parts.length)).first,(RT j).2.then (zAH t j (rowTo sub (RT j).1 t.parts t.parts.length))))∧(∀j,j<=t.copies->(RT j).1.Good∧(RT j).2.Small 24)∧(∀j,j<t.copies->(RT j).1.sets.length+zW cnt t.parts t.parts.length<=24∧(rowTo sub (RT j).1 t.parts t.parts.length).1.Good∧(rowTo sub (RT j).1 t.parts t.parts.length).2.Small 24∧(rowTo sub (RT j).1 t.parts t.parts.length).2.first<2^(rowTo sub (RT j).1 t.parts t.parts.length).1.sets.length)∧RT t.copies=xS sub n t t.copies):=by
  rw[hRT];refine⟨rfl,fun j=>rfl,fun j hj=>?_,fun j hj=>?_,rfl⟩
  ·have:=zBx hy hg t j (hm j hj)
   exact⟨this.1,this.2.2.up (hm j hj)⟩
  ·have h1:=zBx hy hg t j (hm j (by omega))
   have h2:=hm (j+1) hj;rw[Nat.add_mul,Nat.one_mul] at h2;have h3:=zAD hy h1.1 t.parts t.parts.length (by rw[h1.2.1];omega);exact⟨by rw[h1.2.1];omega,h3.1,h3.2.2.up (by rw[h1.2.1];omega),by rw[h3.2.1];exact h3.2.2.first⟩
 have HROW:Hid (∀wr n2,NwIs w0 wr nb n2->n2.Good->n2.sets.length+zW cnt t.parts t.parts.length<=24->Calls prog 124 #[.pointer (some ⟨nb,0,none⟩),.pointer (some ⟨b,0,none⟩)] wr fun e w'=>e=.returned (rowTo sub n2 t.parts t.parts.length).2.val∧NwIs w0 w' nb (rowTo sub n2 t.parts t.parts.length).1∧StayS wr w'):=fun wr n2 hN hG hc=>zDg w0 nb d sub cnt hs hy wr n2 b t hN hG HTR.out hc hpl;obtain⟨w1,hw1,HA1⟩:∃w1,w1=(w.alloc (.cells #[.int .i64 0,.int .i64 0,.bool false] 167)).alloc (.cells #[.int .i64 0,.int .i64 0,.bool true] 167)∧Hid (Al w0 w w1 nb n ⟨0,0,true⟩):=⟨_,rfl,Al.start h ⟨0,0,true⟩⟩
 generalize hRE:xS sub n t t.copies=RE at *;generalize hcpp:t.copies=cp at *;have HCPP:=vl hcpp;clear hRE hRT hb hs hy hl h hg ht hm hcpp;go_in;apply wp_cut;intro K0 J;go_wp2;apply J.out;clear J;apply wp_cut;intro K0 J;go_wp2;apply J.out;clear J;rw[<-hw1];clear hw1;obtain⟨y4,y5,y6⟩:=HTM0.out w1 n HA1.out.net;go_wp2_with (first|(go_at_call 165;refine(HCP.out _).mono ?_;rintro e w2 ⟨rfl,hk2⟩;have HA2:=vl <| HA1.out.grown hk2;clear hk2))
 clear y4 y5 y6;go_loopg [7] cp (fun q i wr=>∃j:Nat,q=cp-j∧j<=cp∧i=.int .i64 (j:Int)∧Al w0 w wr nb (RT j).1 (RT j).2)
 case atStart=>exact⟨0,rfl,lX,rfl,by rw[HRT.out.1];exact HA2.out⟩
 case round=>
  obtain⟨j,hgk,hj,rfl,hA⟩:=hrel;have HB:Hid (gk=cp-j∧Al w0 w wr nb (RT j).1 (RT j).2):=⟨hgk,hA⟩
  by_cases hj2:j<cp
  ·have i1:(j:Int)<(cp:Int):=by omega
   obtain⟨b1,b2,b3,b4⟩:=HRT.out.2.2.2.1 j hj2;obtain⟨g1,g2⟩:=HRT.out.2.2.1 j hj;have HC0:=HROW.out wr (RT j).1 hA.net g1 b1;have HN2:Hid (RT (j+1)=((jP t j (rowTo sub (RT j).1 t.parts t.parts.length)).link (RT j).2.last (zAH t j (rowTo sub (RT j).1 t.parts t.parts.length)).first,(RT j).2.then (zAH t j (rowTo sub (RT j).1 t.parts t.parts.length)))):=HRT.out.2.1 j;have HA:Hid (Al w0 w wr nb (RT j).1 (RT j).2):=hA;clear hgk hA b1;generalize (RT j).1=nj at *;generalize (RT j).2=sj at *;generalize rowTo sub nj t.parts t.parts.length=q at *;obtain⟨q1,⟨qf,ql,qe⟩⟩:=q;obtain⟨af,al,ae⟩:=sj;have b2':q1.Good:=b2;have b3':(Sn.mk qf ql qe).Small 24:=b3;have b4':qf<2^q1.sets.length:=b4;have b5:=zCg b2' ql qf b4';have HC2:Hid (Calls prog 124 #[.pointer (some ⟨nb,0,none⟩),.pointer (some ⟨b,0,none⟩)] wr fun e w'=>e=.returned (.agg #[.int .i64 (qf:Int),.int .i64 (ql:Int),.bool qe])∧NwIs w0 w' nb q1∧StayS wr w'):=HC0;have HLK:Hid (∀w6,NwIs w0 w6 nb q1->Calls prog 166 #[.pointer (some ⟨nb,0,none⟩),.int .i64 (ql:Int),.int .i64 (qf:Int)] w6 fun e w'=>e=.returned (.tuple #[])∧NwIs w0 w' nb (q1.link ql qf)∧StayS w6 w'):=fun w6 h6=>zFb w0 w6 nb q1 h6 (by rw[b2'.same];exact b2'.len) b2'.top ql qf b3'.last b3'.first
   have HTA:Hid (∀w6,NwIs w0 w6 nb q1->∀x:Bool,Calls prog 164 #[.pointer (some ⟨nb,0,none⟩),.agg #[.int .i64 (af:Int),.int .i64 (al:Int),.bool ae],.agg #[.int .i64 (qf:Int),.int .i64 (ql:Int),.bool x]] w6 fun e w'=>e=.returned ((Sn.mk af al ae).then ⟨qf,ql,x⟩).val∧NwIs w0 w' nb (q1.link al qf)∧StayS w6 w'):=fun w6 h6 x=>zCD w0 w6 nb q1 h6 (by rw[b2'.same];exact b2'.len) b2'.top ⟨af,al,ae⟩ ⟨qf,ql,x⟩ g2 ⟨b3'.first,b3'.last⟩;have HTB:Hid (∀w6,NwIs w0 w6 nb (q1.link ql qf)->∀x:Bool,Calls prog 164 #[.pointer (some ⟨nb,0,none⟩),.agg #[.int .i64 (af:Int),.int .i64 (al:Int),.bool ae],.agg #[.int .i64 (qf:Int),.int .i64 (ql:Int),.bool x]] w6 fun e w'=>e=.returned ((Sn.mk af al ae).then ⟨qf,ql,x⟩).val∧NwIs w0 w' nb ((q1.link ql qf).link al qf)∧StayS w6 w'):=fun w6 h6 x=>zCD w0 w6 nb _ h6 (by rw[b5.1.same];exact b5.1.len) b5.1.top ⟨af,al,ae⟩ ⟨qf,ql,x⟩ g2 ⟨b3'.first,b3'.last⟩;have HW6:Hid (∀w5,Al w0 w w5 nb q1 ⟨af,al,ae⟩->∀x:Bool,w.heap.size+1<w5.heap.size∧Al w0 w (w5.alloc (Obj.cells #[.int .i64 (qf:Int),.int .i64 (ql:Int),.bool x] 167)) nb q1 ⟨af,al,ae⟩∧(w5.alloc (Obj.cells #[.int .i64 (qf:Int),.int .i64 (ql:Int),.bool x] 167)).heap[w5.heap.size]? =some (.cells #[.int .i64 (qf:Int),.int .i64 (ql:Int),.bool x] 167)):=fun w5 h5 x=>⟨(kQ.1 h5.all).1,h5.grown (kZ w5 _ lQ),gG w5 _⟩
   have HST:Hid (∀(w7:World) (b8:Nat),w.heap.size+1<b8->Al w0 w w7 nb (q1.link ql qf) ⟨af,al,ae⟩->w7.heap[b8]? =some (.cells #[.int .i64 (qf:Int),.int .i64 (ql:Int),.bool qe] 167)->Al w0 w (w7.setCell ⟨b8,2,none⟩ (.bool true)) nb (q1.link ql qf) ⟨af,al,ae⟩∧(w7.setCell ⟨b8,2,none⟩ (.bool true)).heap[b8]? =some (.cells #[.int .i64 (qf:Int),.int .i64 (ql:Int),.bool true] 167)):=by
    intro w7 b8 hb8 h7 hb7;have e:∀k,k≠b8->(w7.setCell ⟨b8,2,none⟩ (.bool true)).heap[k]? =w7.heap[k]? :=fun k hk=>lJ _ _ _ _ hk;have ho:=h7.old;exact⟨⟨h7.net.setSpan hb7 (by omega),(e _ (by omega)).trans h7.res,(e _ (by omega)).trans h7.all,jH h7.stay (by omega),h7.old⟩,by simp[setCell,lU,hb7]⟩
   have HCQ:=HCPP.out;clear HC0 b2 b3 b4 b2' b3' b4' b5 g1 g2;have hcases:(t.endless=false∨(t.endless=true∧(j+1==t.copies)=false)∨(t.endless=true∧(j+1==t.copies)=true)):=by
    cases t.endless
    ·exact .inl rfl
    ·cases h:(j+1==t.copies)
     ·exact .inr (.inl ⟨rfl,rfl⟩)
     ·exact .inr (.inr ⟨rfl,rfl⟩)
   rcases hcases with hen|⟨hen,hq⟩|⟨hen,hq⟩
   all_goals (by_cases hle:t.least<=j)
   ·have HN3:Hid (RT (j+1)=(q1.link al qf,(Sn.mk af al ae).then ⟨qf,ql,true⟩)):=by
     show RT (j+1)=_;rw[HN2.out];unfold jP zAH;rw[if_neg (by rw[hen];simp),if_pos hle]
    have HTH:Hid (∀w6,NwIs w0 w6 nb q1->Calls prog 164 #[.pointer (some ⟨nb,0,none⟩),.agg #[.int .i64 (af:Int),.int .i64 (al:Int),.bool ae],.agg #[.int .i64 (qf:Int),.int .i64 (ql:Int),.bool true]] w6 fun e w'=>e=.returned (.agg #[.int .i64 (((Sn.mk af al ae).then ⟨qf,ql,true⟩).first:Int),.int .i64 (((Sn.mk af al ae).then ⟨qf,ql,true⟩).last:Int),.bool ((Sn.mk af al ae).then ⟨qf,ql,true⟩).empty])∧NwIs w0 w' nb (q1.link al qf)∧StayS w6 w'):=fun w6 h6=>HTA.out w6 h6 true;have i2:(j:Int)>=(t.least:Int):=by omega
    have hq:True:=trivial;have hen0:Hid (t.endless=false):=hen;clear HN2 HTA HTB hle hq hen;generalize (Sn.mk af al ae).then ⟨qf,ql,true⟩=s9 at *
    go_wp2_with (first|(go_at_call 124;refine HC2.out.mono ?_;rintro e w5 ⟨rfl,hN5,hS5⟩;have A5:=HA.out.call hN5 hS5;obtain⟨v6,v4⟩:=HTM.out w5 _ hN5;rw[hen0.out] at v6;obtain⟨hlt5,A6,hb8⟩:=HW6.out w5 A5 qe;obtain⟨d0,d1,d2,-⟩:=zF (s:=⟨qf,ql,qe⟩) hb8;obtain⟨u6,u4⟩:=HTM.out (w5.alloc (Obj.cells #[.int .i64 (qf:Int),.int .i64 (ql:Int),.bool qe] 167)) _ A6.net;rw[hen0.out] at u6;obtain⟨-,A6t,hb8t⟩:=HW6.out w5 A5 true;obtain⟨m0,m1,m2,-⟩:=zF (s:=⟨qf,ql,true⟩) hb8t;obtain⟨c0,c1,c2,-⟩:=zF A6t.all;have HAW:Hid (Al w0 w (w5.alloc (Obj.cells #[.int .i64 (qf:Int),.int .i64 (ql:Int),.bool true] 167)) nb q1 ⟨af,al,ae⟩):=A6t;clear A6t hb8t;clear A5 A6 hN5 hS5 hb8 hlt5)|(go_at_call 164;refine(HTH.out _ HAW.out.net).mono ?_;rintro e w9 ⟨rfl,hN9,hS9⟩;have A9:=HAW.out.call hN9 hS9;obtain⟨e0,e1,e2,ef⟩:=zF A9.all;have f0:=ef 0;have f1:=ef 1;have f2:=ef 2;have HA10:Hid (Al w0 w (World.span w9 (w.heap.size+1) s9) nb (q1.link al qf) s9):=A9.setAll s9;clear A9 hN9 hS9 ef))
    go_roundg (cp-(j+1))
    case measure=>rw[HB.out.1];omega
    case rel=>exact⟨j+1,rfl,by omega,by go_num,by rw[HN3.out];exact HA10.out⟩
   ·have HN3:Hid (RT (j+1)=(q1.link al qf,(Sn.mk af al ae).then ⟨qf,ql,qe⟩)):=by
     show RT (j+1)=_;rw[HN2.out];unfold jP zAH;rw[if_neg (by rw[hen];simp),if_neg hle]
    have HTH:Hid (∀w6,NwIs w0 w6 nb q1->Calls prog 164 #[.pointer (some ⟨nb,0,none⟩),.agg #[.int .i64 (af:Int),.int .i64 (al:Int),.bool ae],.agg #[.int .i64 (qf:Int),.int .i64 (ql:Int),.bool qe]] w6 fun e w'=>e=.returned (.agg #[.int .i64 (((Sn.mk af al ae).then ⟨qf,ql,qe⟩).first:Int),.int .i64 (((Sn.mk af al ae).then ⟨qf,ql,qe⟩).last:Int),.bool ((Sn.mk af al ae).then ⟨qf,ql,qe⟩).empty])∧NwIs w0 w' nb (q1.link al qf)∧StayS w6 w'):=fun w6 h6=>HTA.out w6 h6 qe;have i2:(j:Int)<(t.least:Int):=by omega
    have hq:True:=trivial;have hen0:Hid (t.endless=false):=hen;clear HN2 HTA HTB hle hq hen;generalize (Sn.mk af al ae).then ⟨qf,ql,qe⟩=s9 at *
    go_wp2_with (first|(go_at_call 124;refine HC2.out.mono ?_;rintro e w5 ⟨rfl,hN5,hS5⟩;have A5:=HA.out.call hN5 hS5;obtain⟨v6,v4⟩:=HTM.out w5 _ hN5;rw[hen0.out] at v6;obtain⟨hlt5,A6,hb8⟩:=HW6.out w5 A5 qe;obtain⟨d0,d1,d2,-⟩:=zF (s:=⟨qf,ql,qe⟩) hb8;obtain⟨u6,u4⟩:=HTM.out (w5.alloc (Obj.cells #[.int .i64 (qf:Int),.int .i64 (ql:Int),.bool qe] 167)) _ A6.net;rw[hen0.out] at u6;obtain⟨c0,c1,c2,-⟩:=zF A6.all;have HAW:Hid (Al w0 w (w5.alloc (Obj.cells #[.int .i64 (qf:Int),.int .i64 (ql:Int),.bool qe] 167)) nb q1 ⟨af,al,ae⟩):=A6;clear A5 A6 hN5 hS5 hb8 hlt5)|(go_at_call 164;refine(HTH.out _ HAW.out.net).mono ?_;rintro e w9 ⟨rfl,hN9,hS9⟩;have A9:=HAW.out.call hN9 hS9;obtain⟨e0,e1,e2,ef⟩:=zF A9.all;have f0:=ef 0;have f1:=ef 1;have f2:=ef 2;have HA10:Hid (Al w0 w (World.span w9 (w.heap.size+1) s9) nb (q1.link al qf) s9):=A9.setAll s9;clear A9 hN9 hS9 ef))
    go_roundg (cp-(j+1))
    case measure=>rw[HB.out.1];omega
    case rel=>exact⟨j+1,rfl,by omega,by go_num,by rw[HN3.out];exact HA10.out⟩
   ·have HN3:Hid (RT (j+1)=(q1.link al qf,(Sn.mk af al ae).then ⟨qf,ql,true⟩)):=by
     show RT (j+1)=_;rw[HN2.out];unfold jP zAH;rw[if_neg (by rw[hen,hq];simp),if_pos hle]
    have HTH:Hid (∀w6,NwIs w0 w6 nb q1->Calls prog 164 #[.pointer (some ⟨nb,0,none⟩),.agg #[.int .i64 (af:Int),.int .i64 (al:Int),.bool ae],.agg #[.int .i64 (qf:Int),.int .i64 (ql:Int),.bool true]] w6 fun e w'=>e=.returned (.agg #[.int .i64 (((Sn.mk af al ae).then ⟨qf,ql,true⟩).first:Int),.int .i64 (((Sn.mk af al ae).then ⟨qf,ql,true⟩).last:Int),.bool ((Sn.mk af al ae).then ⟨qf,ql,true⟩).empty])∧NwIs w0 w' nb (q1.link al qf)∧StayS w6 w'):=fun w6 h6=>HTA.out w6 h6 true;have i2:(j:Int)>=(t.least:Int):=by omega
    have hceq:((j:Int)==(cp:Int)-1)=false:=by rw[gQ];have:=gQ.1 hq;omega
    have hen0:Hid (t.endless=true):=hen;clear HN2 HTA HTB hle hq hen;generalize (Sn.mk af al ae).then ⟨qf,ql,true⟩=s9 at *
    go_wp2_with (first|(go_at_call 124;refine HC2.out.mono ?_;rintro e w5 ⟨rfl,hN5,hS5⟩;have A5:=HA.out.call hN5 hS5;obtain⟨v6,v4⟩:=HTM.out w5 _ hN5;rw[hen0.out] at v6;obtain⟨hlt5,A6,hb8⟩:=HW6.out w5 A5 qe;obtain⟨d0,d1,d2,-⟩:=zF (s:=⟨qf,ql,qe⟩) hb8;obtain⟨u6,u4⟩:=HTM.out (w5.alloc (Obj.cells #[.int .i64 (qf:Int),.int .i64 (ql:Int),.bool qe] 167)) _ A6.net;rw[hen0.out] at u6;obtain⟨-,A6t,hb8t⟩:=HW6.out w5 A5 true;obtain⟨m0,m1,m2,-⟩:=zF (s:=⟨qf,ql,true⟩) hb8t;obtain⟨c0,c1,c2,-⟩:=zF A6t.all;have HAW:Hid (Al w0 w (w5.alloc (Obj.cells #[.int .i64 (qf:Int),.int .i64 (ql:Int),.bool true] 167)) nb q1 ⟨af,al,ae⟩):=A6t;clear A6t hb8t;clear A5 A6 hN5 hS5 hb8 hlt5)|(go_at_call 164;refine(HTH.out _ HAW.out.net).mono ?_;rintro e w9 ⟨rfl,hN9,hS9⟩;have A9:=HAW.out.call hN9 hS9;obtain⟨e0,e1,e2,ef⟩:=zF A9.all;have f0:=ef 0;have f1:=ef 1;have f2:=ef 2;have HA10:Hid (Al w0 w (World.span w9 (w.heap.size+1) s9) nb (q1.link al qf) s9):=A9.setAll s9;clear A9 hN9 hS9 ef))
    go_roundg (cp-(j+1))
    case measure=>rw[HB.out.1];omega
    case rel=>exact⟨j+1,rfl,by omega,by go_num,by rw[HN3.out];exact HA10.out⟩
   ·have HN3:Hid (RT (j+1)=(q1.link al qf,(Sn.mk af al ae).then ⟨qf,ql,qe⟩)):=by
     show RT (j+1)=_;rw[HN2.out];unfold jP zAH;rw[if_neg (by rw[hen,hq];simp),if_neg hle]
    have HTH:Hid (∀w6,NwIs w0 w6 nb q1->Calls prog 164 #[.pointer (some ⟨nb,0,none⟩),.agg #[.int .i64 (af:Int),.int .i64 (al:Int),.bool ae],.agg #[.int .i64 (qf:Int),.int .i64 (ql:Int),.bool qe]] w6 fun e w'=>e=.returned (.agg #[.int .i64 (((Sn.mk af al ae).then ⟨qf,ql,qe⟩).first:Int),.int .i64 (((Sn.mk af al ae).then ⟨qf,ql,qe⟩).last:Int),.bool ((Sn.mk af al ae).then ⟨qf,ql,qe⟩).empty])∧NwIs w0 w' nb (q1.link al qf)∧StayS w6 w'):=fun w6 h6=>HTA.out w6 h6 qe;have i2:(j:Int)<(t.least:Int):=by omega
    have hceq:((j:Int)==(cp:Int)-1)=false:=by rw[gQ];have:=gQ.1 hq;omega
    have hen0:Hid (t.endless=true):=hen;clear HN2 HTA HTB hle hq hen;generalize (Sn.mk af al ae).then ⟨qf,ql,qe⟩=s9 at *
    go_wp2_with (first|(go_at_call 124;refine HC2.out.mono ?_;rintro e w5 ⟨rfl,hN5,hS5⟩;have A5:=HA.out.call hN5 hS5;obtain⟨v6,v4⟩:=HTM.out w5 _ hN5;rw[hen0.out] at v6;obtain⟨hlt5,A6,hb8⟩:=HW6.out w5 A5 qe;obtain⟨d0,d1,d2,-⟩:=zF (s:=⟨qf,ql,qe⟩) hb8;obtain⟨u6,u4⟩:=HTM.out (w5.alloc (Obj.cells #[.int .i64 (qf:Int),.int .i64 (ql:Int),.bool qe] 167)) _ A6.net;rw[hen0.out] at u6;obtain⟨c0,c1,c2,-⟩:=zF A6.all;have HAW:Hid (Al w0 w (w5.alloc (Obj.cells #[.int .i64 (qf:Int),.int .i64 (ql:Int),.bool qe] 167)) nb q1 ⟨af,al,ae⟩):=A6;clear A5 A6 hN5 hS5 hb8 hlt5)|(go_at_call 164;refine(HTH.out _ HAW.out.net).mono ?_;rintro e w9 ⟨rfl,hN9,hS9⟩;have A9:=HAW.out.call hN9 hS9;obtain⟨e0,e1,e2,ef⟩:=zF A9.all;have f0:=ef 0;have f1:=ef 1;have f2:=ef 2;have HA10:Hid (Al w0 w (World.span w9 (w.heap.size+1) s9) nb (q1.link al qf) s9):=A9.setAll s9;clear A9 hN9 hS9 ef))
    go_roundg (cp-(j+1))
    case measure=>rw[HB.out.1];omega
    case rel=>exact⟨j+1,rfl,by omega,by go_num,by rw[HN3.out];exact HA10.out⟩
   ·have HN3:Hid (RT (j+1)=((q1.link ql qf).link al qf,(Sn.mk af al ae).then ⟨qf,ql,true⟩)):=by
     show RT (j+1)=_;rw[HN2.out];unfold jP zAH;rw[if_pos (by rw[hen,hq];rfl),if_pos hle]
    have HTH:Hid (∀w6,NwIs w0 w6 nb (q1.link ql qf)->Calls prog 164 #[.pointer (some ⟨nb,0,none⟩),.agg #[.int .i64 (af:Int),.int .i64 (al:Int),.bool ae],.agg #[.int .i64 (qf:Int),.int .i64 (ql:Int),.bool true]] w6 fun e w'=>e=.returned (.agg #[.int .i64 (((Sn.mk af al ae).then ⟨qf,ql,true⟩).first:Int),.int .i64 (((Sn.mk af al ae).then ⟨qf,ql,true⟩).last:Int),.bool ((Sn.mk af al ae).then ⟨qf,ql,true⟩).empty])∧NwIs w0 w' nb ((q1.link ql qf).link al qf)∧StayS w6 w'):=fun w6 h6=>HTB.out w6 h6 true;have i2:(j:Int)>=(t.least:Int):=by omega
    have hceq:((j:Int)==(cp:Int)-1)=true:=by rw[beq_iff_eq];have:=beq_iff_eq.1 hq;omega
    have hen0:Hid (t.endless=true):=hen;clear HN2 HTA HTB hle hq hen;generalize (Sn.mk af al ae).then ⟨qf,ql,true⟩=s9 at *
    go_wp2_with (first|(go_at_call 124;refine HC2.out.mono ?_;rintro e w5 ⟨rfl,hN5,hS5⟩;have A5:=HA.out.call hN5 hS5;obtain⟨v6,v4⟩:=HTM.out w5 _ hN5;rw[hen0.out] at v6;obtain⟨hlt5,A6,hb8⟩:=HW6.out w5 A5 qe;obtain⟨d0,d1,d2,-⟩:=zF (s:=⟨qf,ql,qe⟩) hb8;obtain⟨u6,u4⟩:=HTM.out (w5.alloc (Obj.cells #[.int .i64 (qf:Int),.int .i64 (ql:Int),.bool qe] 167)) _ A6.net;rw[hen0.out] at u6;have HA6:Hid (Al w0 w (w5.alloc (Obj.cells #[.int .i64 (qf:Int),.int .i64 (ql:Int),.bool qe] 167)) nb q1 ⟨af,al,ae⟩):=A6;have HB8:Hid ((w5.alloc (Obj.cells #[.int .i64 (qf:Int),.int .i64 (ql:Int),.bool qe] 167)).heap[w5.heap.size]? =some (.cells #[.int .i64 (qf:Int),.int .i64 (ql:Int),.bool qe] 167)):=hb8;have HLT5:Hid (w.heap.size+1<w5.heap.size):=hlt5;clear A5 A6 hN5 hS5 hb8 hlt5)|(go_at_call 166;refine(HLK.out (w5.alloc (Obj.cells #[.int .i64 (qf:Int),.int .i64 (ql:Int),.bool qe] 167)) HA6.out.net).mono ?_;rintro e w7 ⟨rfl,hN7,hS7⟩;have A7:=HA6.out.call hN7 hS7;have hb7:=hS7 _ _ HB8.out;obtain⟨t6,t4⟩:=HTM.out w7 _ hN7;obtain⟨m0,m1,m2,mf⟩:=zF (s:=⟨qf,ql,qe⟩) hb7;have mf2:=mf 2;obtain⟨A8,hb9⟩:=HST.out w7 w5.heap.size HLT5.out A7 hb7;obtain⟨n0,n1,n2,-⟩:=zF (s:=⟨qf,ql,true⟩) hb9;obtain⟨c0,c1,c2,-⟩:=zF A8.all;have HAW:Hid (Al w0 w (w7.setCell ⟨w5.heap.size,2,none⟩ (.bool true)) nb (q1.link ql qf) ⟨af,al,ae⟩):=A8;clear A8 hb9;clear A7 hN7 hS7 hb7 mf)|(go_at_call 164;refine(HTH.out _ HAW.out.net).mono ?_;rintro e w9 ⟨rfl,hN9,hS9⟩;have A9:=HAW.out.call hN9 hS9;obtain⟨e0,e1,e2,ef⟩:=zF A9.all;have f0:=ef 0;have f1:=ef 1;have f2:=ef 2;have HA10:Hid (Al w0 w (World.span w9 (w.heap.size+1) s9) nb ((q1.link ql qf).link al qf) s9):=A9.setAll s9;clear A9 hN9 hS9 ef))
    go_roundg (cp-(j+1))
    case measure=>rw[HB.out.1];omega
    case rel=>exact⟨j+1,rfl,by omega,by go_num,by rw[HN3.out];exact HA10.out⟩
   ·have HN3:Hid (RT (j+1)=((q1.link ql qf).link al qf,(Sn.mk af al ae).then ⟨qf,ql,qe⟩)):=by
     show RT (j+1)=_;rw[HN2.out];unfold jP zAH;rw[if_pos (by rw[hen,hq];rfl),if_neg hle]
    have HTH:Hid (∀w6,NwIs w0 w6 nb (q1.link ql qf)->Calls prog 164 #[.pointer (some ⟨nb,0,none⟩),.agg #[.int .i64 (af:Int),.int .i64 (al:Int),.bool ae],.agg #[.int .i64 (qf:Int),.int .i64 (ql:Int),.bool qe]] w6 fun e w'=>e=.returned (.agg #[.int .i64 (((Sn.mk af al ae).then ⟨qf,ql,qe⟩).first:Int),.int .i64 (((Sn.mk af al ae).then ⟨qf,ql,qe⟩).last:Int),.bool ((Sn.mk af al ae).then ⟨qf,ql,qe⟩).empty])∧NwIs w0 w' nb ((q1.link ql qf).link al qf)∧StayS w6 w'):=fun w6 h6=>HTB.out w6 h6 qe;have i2:(j:Int)<(t.least:Int):=by omega
    have hceq:((j:Int)==(cp:Int)-1)=true:=by rw[beq_iff_eq];have:=beq_iff_eq.1 hq;omega
    have hen0:Hid (t.endless=true):=hen;clear HN2 HTA HTB hle hq hen;generalize (Sn.mk af al ae).then ⟨qf,ql,qe⟩=s9 at *
    go_wp2_with (first|(go_at_call 124;refine HC2.out.mono ?_;rintro e w5 ⟨rfl,hN5,hS5⟩;have A5:=HA.out.call hN5 hS5;obtain⟨v6,v4⟩:=HTM.out w5 _ hN5;rw[hen0.out] at v6;obtain⟨hlt5,A6,hb8⟩:=HW6.out w5 A5 qe;obtain⟨d0,d1,d2,-⟩:=zF (s:=⟨qf,ql,qe⟩) hb8;obtain⟨u6,u4⟩:=HTM.out (w5.alloc (Obj.cells #[.int .i64 (qf:Int),.int .i64 (ql:Int),.bool qe] 167)) _ A6.net;rw[hen0.out] at u6;have HA6:Hid (Al w0 w (w5.alloc (Obj.cells #[.int .i64 (qf:Int),.int .i64 (ql:Int),.bool qe] 167)) nb q1 ⟨af,al,ae⟩):=A6;have HB8:Hid ((w5.alloc (Obj.cells #[.int .i64 (qf:Int),.int .i64 (ql:Int),.bool qe] 167)).heap[w5.heap.size]? =some (.cells #[.int .i64 (qf:Int),.int .i64 (ql:Int),.bool qe] 167)):=hb8;have HLT5:Hid (w.heap.size+1<w5.heap.size):=hlt5;clear A5 A6 hN5 hS5 hb8 hlt5)|(go_at_call 166;refine(HLK.out (w5.alloc (Obj.cells #[.int .i64 (qf:Int),.int .i64 (ql:Int),.bool qe] 167)) HA6.out.net).mono ?_;rintro e w7 ⟨rfl,hN7,hS7⟩;have A7:=HA6.out.call hN7 hS7;have hb7:=hS7 _ _ HB8.out;obtain⟨t6,t4⟩:=HTM.out w7 _ hN7;obtain⟨m0,m1,m2,mf⟩:=zF (s:=⟨qf,ql,qe⟩) hb7;have mf2:=mf 2;obtain⟨c0,c1,c2,-⟩:=zF A7.all;have HAW:Hid (Al w0 w w7 nb (q1.link ql qf) ⟨af,al,ae⟩):=A7;clear A7 hN7 hS7 hb7 mf)|(go_at_call 164;refine(HTH.out _ HAW.out.net).mono ?_;rintro e w9 ⟨rfl,hN9,hS9⟩;have A9:=HAW.out.call hN9 hS9;obtain⟨e0,e1,e2,ef⟩:=zF A9.all;have f0:=ef 0;have f1:=ef 1;have f2:=ef 2;have HA10:Hid (Al w0 w (World.span w9 (w.heap.size+1) s9) nb ((q1.link ql qf).link al qf) s9):=A9.setAll s9;clear A9 hN9 hS9 ef))
    go_roundg (cp-(j+1))
    case measure=>rw[HB.out.1];omega
    case rel=>exact⟨j+1,rfl,by omega,by go_num,by rw[HN3.out];exact HA10.out⟩
  ·have i1:(cp:Int)<=(j:Int):=by omega
   have e:j=cp:=by omega
   subst e;rw[HRT.out.2.2.2.2] at hA;obtain⟨c0,c1,c2,-⟩:=zF hA.all;obtain⟨r0,r1,r2,rf⟩:=zF hA.res;have f0:=rf 0;have f1:=rf 1;have f2:=rf 2;have HF:Hid (Al w0 w wr nb RE.1 RE.2):=hA;clear hgk hA rf;go_wp2;obtain⟨w9,hw9,K9,z0,z1,z2⟩:∃w9,w9=((wr.setCell ⟨w.heap.size,0,none⟩ (.int .i64 (RE.2.first:Int))).setCell ⟨w.heap.size,1,none⟩ (.int .i64 (RE.2.last:Int))).setCell ⟨w.heap.size,2,none⟩ (.bool RE.2.empty)∧Hid (NwIs w0 w9 nb RE.1∧StayS w w9)∧w9.cell? ⟨w.heap.size,0,none⟩=some (.int .i64 (RE.2.first:Int))∧w9.cell? ⟨w.heap.size,1,none⟩=some (.int .i64 (RE.2.last:Int))∧w9.cell? ⟨w.heap.size,2,none⟩=some (.bool RE.2.empty):=by
    obtain⟨h1,h2,h3,h4,h5⟩:=HF.out.fin RE.2;exact⟨_,rfl,⟨h1,h2⟩,h3,h4,h5⟩
   rw[<-hw9];clear hw9;refine bodyPost_ret (v:=.agg #[.int .i64 (RE.2.first:Int),.int .i64 (RE.2.last:Int),.bool RE.2.empty]) (by simp[results,results126,go_sem,z0,z1,z2]) rfl ?_;exact⟨rfl,K9.out.1,K9.out.2⟩
theorem zK3 (t:Tr):t.copies<=t.least+t.most+1:=by
 unfold Tr.copies;split
 ·split <;> omega
 ·omega
theorem zEK (w0:World)(nb:Nat):∀d,zCa w0 nb d (xC d) (yN d)
 |0=>fun w n b t _ _ h _=>h.elim
 |d+1=>by
  have ih:=zEK w0 nb d;intro w n b t h hg ht hl;have HT:=vl ht;obtain⟨hbl,rv,pv,hb,hrange,ao,cap,rfl,⟨_,hb1,hb2,hb3⟩,_,_⟩:=ht;obtain⟨ra,rc,hrv,-⟩:=id hrange;subst hrv;obtain⟨w1,hw1,HR1⟩:∃w1,w1=w.alloc (.cells #[.int .i64 0,.int .i64 0,.bool false] 167)∧Hid (NwIs w0 w1 nb n∧w1.heap[w.heap.size]? =some (.cells (Sn.mk 0 0 false).cells 167)∧StayS w w1∧w0.heap.size<=w.heap.size):=by
   have k1:=kZ (b:=w.heap.size) w (.cells #[.int .i64 0,.int .i64 0,.bool false] 167) lQ;exact⟨_,rfl,h.grown k1,gG _ _,k1.stayS,by obtain⟨_,_,_,_,_,h⟩:=h;exact h.keep.size⟩
  have hk0:Grew w0 w1:=by obtain⟨_,_,_,_,_,h⟩:=HR1.out.1;exact h.keep
  have hb4:=(hk0.block b hbl (kJ hbl)).trans hb;have y0:w1.cell? ⟨b,0,none⟩=some (.int .i64 (t.kind:Int)):=by unfold cell?;rw[hb4];rfl
  have y1:w1.cell? ⟨b,1,none⟩=some (.slice ra t.set.ranges.length rc):=by unfold cell?;rw[hb4];rfl
  have y2:w1.cell? ⟨b,2,none⟩=some (.bool t.set.others):=by unfold cell?;rw[hb4];rfl
  have HFIN:Hid (∀w5,NwIs w0 w5 nb (xC (d+1) n t).1->StayS w1 w5->∃w9,w9=((w5.setCell ⟨w.heap.size,0,none⟩ (.int .i64 ((xC (d+1) n t).2.first:Int))).setCell ⟨w.heap.size,1,none⟩ (.int .i64 ((xC (d+1) n t).2.last:Int))).setCell ⟨w.heap.size,2,none⟩ (.bool (xC (d+1) n t).2.empty)∧Hid (NwIs w0 w9 nb (xC (d+1) n t).1∧StayS w w9)∧w9.cell? ⟨w.heap.size,0,none⟩=some (.int .i64 ((xC (d+1) n t).2.first:Int))∧w9.cell? ⟨w.heap.size,1,none⟩=some (.int .i64 ((xC (d+1) n t).2.last:Int))∧w9.cell? ⟨w.heap.size,2,none⟩=some (.bool (xC (d+1) n t).2.empty)):=by
   intro w5 hN5 hS5;obtain⟨h1,h2,h3⟩:=zEQ (s':=(xC (d+1) n t).2) (hS5 _ _ HR1.out.2.1);obtain⟨c0,c1,c2,_⟩:=zF h1;exact⟨_,rfl,⟨h3 _ _ _ hN5 HR1.out.2.2.2,fun k c hk=>by
    have hl:=(kQ.1 hk).1;exact(h2 k (by omega)).trans (hS5 _ _ (HR1.out.2.2.1 k c hk))⟩,c0,c1,c2⟩
  go_in;apply wp_cut;intro K0 J;go_wp2;apply J.out;rw[<-hw1];clear hw1;by_cases hk1:t.kind=1
  ·have HE:Hid (xC (d+1) n t=(n.place t.set,n.spot)):=by show xC (d+1) n t=_;unfold xC;rw[if_pos hk1]
   have HCALL:=vl <| zHX w0 w1 nb n HR1.out.1 hg.len (by rw[hg.same];exact hg.len) _ t.set hrange;have HC2:Hid (Calls prog 123 #[.pointer (some ⟨nb,0,none⟩),.agg #[.slice ra t.set.ranges.length rc,.bool t.set.others]] w1 fun e w'=>e=.returned (.agg #[.int .i64 ((xC (d+1) n t).2.first:Int),.int .i64 ((xC (d+1) n t).2.last:Int),.bool (xC (d+1) n t).2.empty])∧NwIs w0 w' nb (xC (d+1) n t).1∧StayS w1 w'):=by
    show Calls _ _ _ _ _;rw[HE.out];exact HCALL.out
   clear HE HCALL;have d1:((t.kind:Int)==1)=true:=by rw[beq_iff_eq];omega
   generalize xC (d+1) n t=RE at *;clear hk1;go_wp2_with (first|(go_at_call 123;refine HC2.out.mono ?_;rintro e w5 ⟨rfl,hN5,hS5⟩;obtain⟨r0,r1,r2,rf⟩:=zF (s:=⟨0,0,false⟩) (hS5 _ _ HR1.out.2.1);have f0:=rf 0;have f1:=rf 1;have f2:=rf 2;clear rf))
   obtain⟨w9,hw9,K9,z0,z1,z2⟩:=HFIN.out w5 hN5 hS5;rw[<-hw9];clear hw9;refine bodyPost_ret (v:=.agg #[.int .i64 (RE.2.first:Int),.int .i64 (RE.2.last:Int),.bool RE.2.empty]) (by simp[results,results89,go_sem,z0,z1,z2]) rfl ?_;exact⟨rfl,K9.out.1,K9.out.2⟩
  by_cases hk2:t.kind=2
  ·have HE:Hid (xC (d+1) n t=rowTo (xC d) n t.parts t.parts.length):=by show xC (d+1) n t=_;unfold xC;rw[if_neg hk1,if_pos hk2]
   have HCALL:=vl <| zDg w0 nb d (xC d) (yN d) ih (jU d) w1 n b t HR1.out.1 hg HT.out (by unfold yN at hl;rw[if_neg hk1,if_pos (Or.inl hk2)] at hl;exact hl) hb1;have HC2:Hid (Calls prog 124 #[.pointer (some ⟨nb,0,none⟩),.pointer (some ⟨b,0,none⟩)] w1 fun e w'=>e=.returned (.agg #[.int .i64 ((xC (d+1) n t).2.first:Int),.int .i64 ((xC (d+1) n t).2.last:Int),.bool (xC (d+1) n t).2.empty])∧NwIs w0 w' nb (xC (d+1) n t).1∧StayS w1 w'):=by
    show Calls _ _ _ _ _;rw[HE.out];exact HCALL.out
   clear HE HCALL;have d1:((t.kind:Int)==1)=false:=by rw[gQ];omega
   have d2:((t.kind:Int)==2)=true:=by rw[beq_iff_eq];omega
   generalize xC (d+1) n t=RE at *;clear hk1 hk2;go_wp2_with (first|(go_at_call 124;refine HC2.out.mono ?_;rintro e w5 ⟨rfl,hN5,hS5⟩;obtain⟨r0,r1,r2,rf⟩:=zF (s:=⟨0,0,false⟩) (hS5 _ _ HR1.out.2.1);have f0:=rf 0;have f1:=rf 1;have f2:=rf 2;clear rf))
   obtain⟨w9,hw9,K9,z0,z1,z2⟩:=HFIN.out w5 hN5 hS5;rw[<-hw9];clear hw9;refine bodyPost_ret (v:=.agg #[.int .i64 (RE.2.first:Int),.int .i64 (RE.2.last:Int),.bool RE.2.empty]) (by simp[results,results89,go_sem,z0,z1,z2]) rfl ?_;exact⟨rfl,K9.out.1,K9.out.2⟩
  by_cases hk3:t.kind=3
  ·have HE:Hid (xC (d+1) n t=vY (xC d) n t.parts t.parts.length):=by show xC (d+1) n t=_;unfold xC;rw[if_neg hk1,if_neg hk2,if_pos hk3]
   have HCALL:=vl <| zEs w0 nb d (xC d) (yN d) ih (jU d) w1 n b t HR1.out.1 hg HT.out (by unfold yN at hl;rw[if_neg hk1,if_pos (Or.inr hk3)] at hl;exact hl) hb1;have HC2:Hid (Calls prog 125 #[.pointer (some ⟨nb,0,none⟩),.pointer (some ⟨b,0,none⟩)] w1 fun e w'=>e=.returned (.agg #[.int .i64 ((xC (d+1) n t).2.first:Int),.int .i64 ((xC (d+1) n t).2.last:Int),.bool (xC (d+1) n t).2.empty])∧NwIs w0 w' nb (xC (d+1) n t).1∧StayS w1 w'):=by
    show Calls _ _ _ _ _;rw[HE.out];exact HCALL.out
   clear HE HCALL;have d1:((t.kind:Int)==1)=false:=by rw[gQ];omega
   have d2:((t.kind:Int)==2)=false:=by rw[gQ];omega
   have d3:((t.kind:Int)==3)=true:=by rw[beq_iff_eq];omega
   generalize xC (d+1) n t=RE at *;clear hk1 hk2 hk3;go_wp2_with (first|(go_at_call 125;refine HC2.out.mono ?_;rintro e w5 ⟨rfl,hN5,hS5⟩;obtain⟨r0,r1,r2,rf⟩:=zF (s:=⟨0,0,false⟩) (hS5 _ _ HR1.out.2.1);have f0:=rf 0;have f1:=rf 1;have f2:=rf 2;clear rf))
   obtain⟨w9,hw9,K9,z0,z1,z2⟩:=HFIN.out w5 hN5 hS5;rw[<-hw9];clear hw9;refine bodyPost_ret (v:=.agg #[.int .i64 (RE.2.first:Int),.int .i64 (RE.2.last:Int),.bool RE.2.empty]) (by simp[results,results89,go_sem,z0,z1,z2]) rfl ?_;exact⟨rfl,K9.out.1,K9.out.2⟩
  by_cases hk4:t.kind=4
  ·have HE:Hid (xC (d+1) n t=xS (xC d) n t t.copies):=by show xC (d+1) n t=_;unfold xC;rw[if_neg hk1,if_neg hk2,if_neg hk3,if_pos hk4]
   have HCALL:=vl <| zFf w0 nb d (xC d) (yN d) ih (jU d) w1 n b t HR1.out.1 hg HT.out (by unfold yN at hl;rw[if_neg hk1,if_neg (by omega),if_pos hk4] at hl;exact hl) hb1 (by have:=zK3 t;omega) (by omega);have HC2:Hid (Calls prog 126 #[.pointer (some ⟨nb,0,none⟩),.pointer (some ⟨b,0,none⟩)] w1 fun e w'=>e=.returned (.agg #[.int .i64 ((xC (d+1) n t).2.first:Int),.int .i64 ((xC (d+1) n t).2.last:Int),.bool (xC (d+1) n t).2.empty])∧NwIs w0 w' nb (xC (d+1) n t).1∧StayS w1 w'):=by
    show Calls _ _ _ _ _;rw[HE.out];exact HCALL.out
   clear HE HCALL;have d1:((t.kind:Int)==1)=false:=by rw[gQ];omega
   have d2:((t.kind:Int)==2)=false:=by rw[gQ];omega
   have d3:((t.kind:Int)==3)=false:=by rw[gQ];omega
   have d4:((t.kind:Int)==4)=true:=by rw[beq_iff_eq];omega
   generalize xC (d+1) n t=RE at *;clear hk1 hk2 hk3 hk4;go_wp2_with (first|(go_at_call 126;refine HC2.out.mono ?_;rintro e w5 ⟨rfl,hN5,hS5⟩;obtain⟨r0,r1,r2,rf⟩:=zF (s:=⟨0,0,false⟩) (hS5 _ _ HR1.out.2.1);have f0:=rf 0;have f1:=rf 1;have f2:=rf 2;clear rf))
   obtain⟨w9,hw9,K9,z0,z1,z2⟩:=HFIN.out w5 hN5 hS5;rw[<-hw9];clear hw9;refine bodyPost_ret (v:=.agg #[.int .i64 (RE.2.first:Int),.int .i64 (RE.2.last:Int),.bool RE.2.empty]) (by simp[results,results89,go_sem,z0,z1,z2]) rfl ?_;exact⟨rfl,K9.out.1,K9.out.2⟩
  ·have HE:Hid (xC (d+1) n t=(n,⟨0,0,true⟩)):=by show xC (d+1) n t=_;unfold xC;rw[if_neg hk1,if_neg hk2,if_neg hk3,if_neg hk4]
   rw[HE.out] at HFIN ⊢;have d1:((t.kind:Int)==1)=false:=by rw[gQ];omega
   have d2:((t.kind:Int)==2)=false:=by rw[gQ];omega
   have d3:((t.kind:Int)==3)=false:=by rw[gQ];omega
   have d4:((t.kind:Int)==4)=false:=by rw[gQ];omega
   obtain⟨r0,r1,r2,rf⟩:=zF (s:=⟨0,0,false⟩) HR1.out.2.1;have f0:=rf 0;have f1:=rf 1;have f2:=rf 2;clear hk1 hk2 hk3 hk4 rf;go_wp2;obtain⟨w9,hw9,K9,z0,z1,z2⟩:=HFIN.out w1 HR1.out.1 (StayS.refl _);have hw9':w9=((w1.setCell ⟨w.heap.size,0,none⟩ (.int .i64 0)).setCell ⟨w.heap.size,1,none⟩ (.int .i64 0)).setCell ⟨w.heap.size,2,none⟩ (.bool true):=hw9;have z0':w9.cell? ⟨w.heap.size,0,none⟩=some (.int .i64 0):=z0;have z1':w9.cell? ⟨w.heap.size,1,none⟩=some (.int .i64 0):=z1;have z2':w9.cell? ⟨w.heap.size,2,none⟩=some (.bool true):=z2;rw[<-hw9'];clear hw9 hw9';refine bodyPost_ret (v:=.agg #[.int .i64 0,.int .i64 0,.bool true]) (by simp[results,results89,go_sem,z0',z1',z2']) rfl ?_;exact⟨rfl,K9.out.1,K9.out.2⟩
section
section
variable {w0 w w2:World} {nb:Nat} {n:Nt} {sv fv rv ev:Value} {ps:List (Value×Bool)}
theorem Nw.addRule {o:Obj}{g cap m x:Nat}(h:Nw w0 w nb n sv fv rv ev ps)(hm:m=n.rules.length)(hown:w2.ownsRow w0.heap.size 3 1 (.slice (some ⟨g,0,none⟩) (m+1) cap) (m+1) (((ints n.rules).map fun x=>.int .i64 x)++[.int .i64 (x:Int)]))(hg:(w.alloc o).grownBy w2 rv.ownBlock)(hat:rv.ownBlock=some g∨w.heap.size<=g):
  Nw w0 (w2.setCell ⟨nb,4,none⟩ (.slice (some ⟨g,0,none⟩) (m+1) cap)) nb {n with rules:=n.rules++[x]} sv fv (.slice (some ⟨g,0,none⟩) (m+1) cap) ev ps∧StayS w (w2.setCell ⟨nb,4,none⟩ (.slice (some ⟨g,0,none⟩) (m+1) cap)):=by
 subst hm;have hbx:=h.box;have hlt:=h.lt;have hbl:∀j,j<w.heap.size->some j≠rv.ownBlock->w2.heap[j]? =w.heap[j]? :=fun j hj hf=>(hg.block j (by simp;omega) hf).trans (lG _ _ _ (by omega));have hsz:w.heap.size<=w2.heap.size:=lY (by simp) hg.size;have hb:=(hbl nb hlt hbx.2.2.1).trans h.blk;have e:∀k,k≠nb->(w2.setCell ⟨nb,4,none⟩ (.slice (some ⟨g,0,none⟩) (n.rules.length+1) cap)).heap[k]? =w2.heap[k]? :=fun k hk=>lJ _ _ _ _ hk;have hs2:=zP hg h.sOwn fun k hk=>xM h.sOwn h.rOwn (by decide) hk;have hf2:=zP hg h.fOwn h.fr;have he2:=zP hg h.eOwn fun k hk=>xM h.eOwn h.rOwn (by decide) hk;have hgm:nb≠g:=fun e2=>by
  rcases hat with ha|ha
  ·exact hbx.2.2.1 (by rw[ha,e2])
  ·omega
 have hO1:OwnI w2 w0.heap.size (.slice (some ⟨g,0,none⟩) (n.rules.length+1) cap) (ints (n.rules++[x])):=by
  rw[zA9];have:=zM n.rules;have h2:=OwnI.snoc (l:=ints n.rules) (x:=(x:Int)) (by rw[this];exact hown);rw[this] at h2;exact h2
 refine⟨⟨by simp[setCell,lU,hb],zD hs2 fun k _ _ hk=>e k fun e2=>hbx.1 (by rw[hk,e2]),h.plen,h.each,zD hf2 fun k _ _ hk=>e k fun e2=>hbx.2.1 (by rw[hk,e2]),zD hO1 fun k _ _ hk=>e k fun e2=>?_,zD he2 fun k _ _ hk=>e k fun e2=>hbx.2.2.2 (by rw[hk,e2]),zCj (yV h.fOwn (fun g hg e=>h.fr g e.symm hg.symm) hat),h.nH,h.keep.trans ⟨hg.os,hg.output,by rw[zC];exact hsz,fun k hk _=>(e k (by have:=h.nH;omega)).trans (hbl k (by have:=h.keep.size;omega) fun e2=>by have:=(h.rOwn.lt k e2.symm).1;omega)⟩⟩,fun k cc hk=>?_⟩
 ·have:g=k:=by simpa[Value.ownBlock] using hk
  omega
 ·have hl:=(kQ.1 hk).1
  have hkm:k≠nb:=fun e2=>by
   rw[e2,h.blk] at hk;injection hk with hk;injection hk with _ hk;exact absurd hk (by decide)
  exact(e k hkm).trans ((hbl k hl (zL h.rOwn hk (by decide))).trans hk)
theorem Nw.addEmpty {o:Obj}{g cap m:Nat}{x:Bool}(h:Nw w0 w nb n sv fv rv ev ps)(hm:m=n.empty.length)(hown:w2.ownsRow w0.heap.size 4 1 (.slice (some ⟨g,0,none⟩) (m+1) cap) (m+1) ((n.empty.map fun x=>.bool x)++[.bool x]))(hg:(w.alloc o).grownBy w2 ev.ownBlock)(hat:ev.ownBlock=some g∨w.heap.size<=g):
  Nw w0 (w2.setCell ⟨nb,5,none⟩ (.slice (some ⟨g,0,none⟩) (m+1) cap)) nb {n with empty:=n.empty++[x]} sv fv rv (.slice (some ⟨g,0,none⟩) (m+1) cap) ps∧StayS w (w2.setCell ⟨nb,5,none⟩ (.slice (some ⟨g,0,none⟩) (m+1) cap)):=by
 subst hm;have hbx:=h.box;have hlt:=h.lt;have hbl:∀j,j<w.heap.size->some j≠ev.ownBlock->w2.heap[j]? =w.heap[j]? :=fun j hj hf=>(hg.block j (by simp;omega) hf).trans (lG _ _ _ (by omega));have hsz:w.heap.size<=w2.heap.size:=lY (by simp) hg.size;have hb:=(hbl nb hlt hbx.2.2.2).trans h.blk;have e:∀k,k≠nb->(w2.setCell ⟨nb,5,none⟩ (.slice (some ⟨g,0,none⟩) (n.empty.length+1) cap)).heap[k]? =w2.heap[k]? :=fun k hk=>lJ _ _ _ _ hk;have hs2:=zP hg h.sOwn fun k hk=>xM h.sOwn h.eOwn (by decide) hk;have hf2:=zP hg h.fOwn fun k hk=>xM h.fOwn h.eOwn (by decide) hk;have hr2:=zP hg h.rOwn fun k hk=>xM h.rOwn h.eOwn (by decide) hk;have hgm:nb≠g:=fun e2=>by
  rcases hat with ha|ha
  ·exact hbx.2.2.2 (by rw[ha,e2])
  ·omega
 have hO1:=OwnB.snoc hown;refine⟨⟨by simp[setCell,lU,hb],zD hs2 fun k _ _ hk=>e k fun e2=>hbx.1 (by rw[hk,e2]),h.plen,h.each,zD hf2 fun k _ _ hk=>e k fun e2=>hbx.2.1 (by rw[hk,e2]),zD hr2 fun k _ _ hk=>e k fun e2=>hbx.2.2.1 (by rw[hk,e2]),zD hO1 fun k _ _ hk=>e k fun e2=>?_,h.fr,h.nH,h.keep.trans ⟨hg.os,hg.output,by rw[zC];exact hsz,fun k hk _=>(e k (by have:=h.nH;omega)).trans (hbl k (by have:=h.keep.size;omega) fun e2=>by have:=(h.eOwn.lt k e2.symm).1;omega)⟩⟩,fun k cc hk=>?_⟩
 ·have:g=k:=by simpa[Value.ownBlock] using hk
  omega
 ·have hl:=(kQ.1 hk).1
  have hkm:k≠nb:=fun e2=>by
   rw[e2,h.blk] at hk;injection hk with hk;injection hk with _ hk;exact absurd hk (by decide)
  exact(e k hkm).trans ((hbl k hl (zL h.eOwn hk (by decide))).trans hk)
theorem Nw.setNet {i:Nat}{x:Value}{n2:Nt}(h:Nw w0 w nb n sv fv rv ev ps)(hs:n2.sets=n.sets)(hf:n2.follow=n.follow)(hr:n2.rules=n.rules)(he:n2.empty=n.empty)(hb:(w.setCell ⟨nb,i,none⟩ x).heap[nb]? =some (.cells #[sv,fv,.int .i64 (n2.first:Int),.int .i64 (n2.ends:Int),rv,ev] 132)):Nw w0 (w.setCell ⟨nb,i,none⟩ x) nb n2 sv fv rv ev ps∧StayS w (w.setCell ⟨nb,i,none⟩ x):=by
 have e:∀k,k≠nb->(w.setCell ⟨nb,i,none⟩ x).heap[k]? =w.heap[k]? :=fun k hk=>lJ _ _ _ _ hk;have hbx:=h.box;refine⟨⟨hb,by rw[hs];exact zD h.sOwn fun k _ _ hk=>e k fun e2=>hbx.1 (by rw[hk,e2]),by rw[hs];exact h.plen,by rw[hs];exact h.each,by rw[hf];exact zD h.fOwn fun k _ _ hk=>e k fun e2=>hbx.2.1 (by rw[hk,e2]),by rw[hr];exact zD h.rOwn fun k _ _ hk=>e k fun e2=>hbx.2.2.1 (by rw[hk,e2]),by rw[he];exact zD h.eOwn fun k _ _ hk=>e k fun e2=>hbx.2.2.2 (by rw[hk,e2]),h.fr,h.nH,h.keep.trans (zN _ _ _ _ h.nH)⟩,fun k c hk=>(e k fun e2=>?_).trans hk⟩;rw[e2,h.blk] at hk;injection hk with hk;injection hk with _ hk;exact absurd hk (by decide)
theorem Nw.setFirst (h:Nw w0 w nb n sv fv rv ev ps)(x:Nat):Nw w0 (w.setCell ⟨nb,2,none⟩ (.int .i64 (x:Int))) nb {n with first:=x} sv fv rv ev ps∧StayS w (w.setCell ⟨nb,2,none⟩ (.int .i64 (x:Int))):=h.setNet rfl rfl rfl rfl (by simp[setCell,lU,h.blk])
theorem Nw.setEnds (h:Nw w0 w nb n sv fv rv ev ps)(x:Nat):Nw w0 (w.setCell ⟨nb,3,none⟩ (.int .i64 (x:Int))) nb {n with ends:=x} sv fv rv ev ps∧StayS w (w.setCell ⟨nb,3,none⟩ (.int .i64 (x:Int))):=h.setNet rfl rfl rfl rfl (by simp[setCell,lU,h.blk])
end
def Nt.blank:Nt:=⟨[],[],0,0,[],[]⟩
def zLm (before:Nat)(q:Nt×Sn):Nt:={q.1 with first:=q.1.first|||q.2.first,ends:=q.1.ends|||q.2.last,rules:=q.1.rules++[2^q.1.sets.length-2^before],empty:=q.1.empty++[q.2.empty]}
def xK (d:Nat)(rules:List Tr):Nat->Nt
 |0=>Nt.blank
 |j+1=>zLm (xK d rules j).sets.length (xC d (xK d rules j) (rules.getD j Tr.none))
theorem Nw.begin (w:World):Nw w (w.alloc (.cells #[.slice none 0 0,.slice none 0 0,.int .i64 0,.int .i64 0,.slice none 0 0,.slice none 0 0] 132)) w.heap.size Nt.blank (.slice none 0 0) (.slice none 0 0) (.slice none 0 0) (.slice none 0 0) []:=
 ⟨gG _ _,ownsRow_nil _ _ _ _,rfl,fun i hi=>absurd hi (Nat.not_lt_zero _),OwnI.nil _ _,OwnI.nil _ _,ownsRow_nil _ _ _ _,fun g hg=>(by cases hg),lQ,kZ _ _ lQ⟩
theorem zAG (d:Nat)(rules:List Tr)(j:Nat)(hl:zW (yN d) rules j<=24):(xK d rules j).Good∧(xK d rules j).sets.length=zW (yN d) rules j:=by
 induction j with
 |zero=>exact⟨⟨lX,rfl,fun x hx=>absurd hx List.not_mem_nil⟩,rfl⟩
 |succ j ih=>
  have hl2:zW (yN d) rules j+yN d (rules.getD j Tr.none)<=24:=hl;obtain⟨h1,h2⟩:=ih (by omega);obtain⟨g1,g2,g3⟩:=jU d (xK d rules j) (rules.getD j Tr.none) h1 (by omega);exact⟨⟨g1.len,g1.same,g1.fol⟩,by show(xC d (xK d rules j) (rules.getD j Tr.none)).1.sets.length=zW (yN d) rules j+_;omega⟩
end
def Nt.Same (a b:Nt):Prop:=a.first=b.first∧a.ends=b.ends∧a.rules=b.rules∧a.empty=b.empty
theorem Nt.Same.refl (a:Nt):a.Same a:=⟨rfl,rfl,rfl,rfl⟩
theorem Nt.Same.trans {a b c:Nt}(h:a.Same b)(h':b.Same c):a.Same c:=⟨h.1.trans h'.1,h.2.1.trans h'.2.1,h.2.2.1.trans h'.2.2.1,h.2.2.2.trans h'.2.2.2⟩
theorem zDN (n:Nt)(a b:Nat):(n.link a b).Same n:=by
 have:=zBW n a b n.follow.length;exact⟨this.2.2.2.1,this.2.2.2.2,this.2.1,this.2.2.1⟩
def Still (sub:Lay):Prop:=∀n t,(sub n t).1.Same n
theorem zD9 {sub:Lay}(h:Still sub)(n:Nt)(parts:List Tr)(j:Nat):(rowTo sub n parts j).1.Same n:=by
 induction j with
 |zero=>exact Nt.Same.refl _
 |succ j ih=>exact((zDN _ _ _).trans (h _ _)).trans ih
theorem zG8 {sub:Lay}(h:Still sub)(n:Nt)(parts:List Tr)(j:Nat):(vY sub n parts j).1.Same n:=by
 induction j with
 |zero=>exact Nt.Same.refl _
 |succ j ih=>exact(h _ _).trans ih
theorem zJb (t:Tr)(j:Nat)(q:Nt×Sn):(jP t j q).Same q.1:=by
 unfold jP;split
 ·exact zDN _ _ _
 ·exact Nt.Same.refl _
theorem zF4 {sub:Lay}(h:Still sub)(n:Nt)(t:Tr)(j:Nat):(xS sub n t j).1.Same n:=by
 induction j with
 |zero=>exact Nt.Same.refl _
 |succ j ih=>exact(((zDN _ _ _).trans (zJb _ _ _)).trans (zD9 h _ _ _)).trans ih
theorem zFe (d:Nat):Still (xC d):=by
 induction d with
 |zero=>exact fun n t=>Nt.Same.refl _
 |succ d ih=>
  intro n t;unfold xC;split
  ·exact⟨rfl,rfl,rfl,rfl⟩
  ·split
   ·exact zD9 ih _ _ _
   ·split
    ·exact zG8 ih _ _ _
    ·split
     ·exact zF4 ih _ _ _
     ·exact Nt.Same.refl _
structure Nt.Laid (n:Nt)(j:Nat):Prop where
 first:n.first<2^n.sets.length
 ends:n.ends<2^n.sets.length
 rules:∀x∈n.rules,x<2^n.sets.length
 rlen:n.rules.length=j
 elen:n.empty.length=j
theorem zBq (d:Nat)(rules:List Tr)(j:Nat)(hl:zW (yN d) rules j<=24):(xK d rules j).Laid j:=by
 induction j with
 |zero=>exact⟨(by decide:0<2^0),(by decide:0<2^0),fun x hx=>absurd hx List.not_mem_nil,rfl,rfl⟩
 |succ j ih=>
  have hl2:zW (yN d) rules j+yN d (rules.getD j Tr.none)<=24:=hl;obtain⟨h1,h2⟩:=zAG d rules j (by omega);have h3:=ih (by omega);obtain⟨g1,g2,g3⟩:=jU d (xK d rules j) (rules.getD j Tr.none) h1 (by omega);obtain⟨s1,s2,s3,s4⟩:=zFe d (xK d rules j) (rules.getD j Tr.none);rw[<-g2] at g3;have hp:2^(xK d rules j).sets.length<=2^(xC d (xK d rules j) (rules.getD j Tr.none)).1.sets.length:=kG (by omega) (by omega);have hp0:0<2^(xK d rules j).sets.length:=Nat.pow_pos (by omega);refine⟨Nat.or_lt_two_pow (by rw[s1];exact lZ h3.first hp) g3.first,Nat.or_lt_two_pow (by rw[s2];exact lZ h3.ends hp) g3.last,fun x hx=>?_,?_,?_⟩
  ·show x<2^(xC d (xK d rules j) (rules.getD j Tr.none)).1.sets.length
   have hx2:=hx;rcases kU.1 hx2 with h4|h4
   ·rw[s3] at h4
    exact lZ (h3.rules x h4) hp
   ·rw[kY.1 h4]
    omega
  ·show((xC d (xK d rules j) (rules.getD j Tr.none)).1.rules++[_]).length=j+1
   rw[s3,kX,h3.rlen];rfl
  ·show((xC d (xK d rules j) (rules.getD j Tr.none)).1.empty++[_]).length=j+1
   rw[s4,kX,h3.elen];rfl
theorem zNj (d:Nat)(rules:List Tr)(hl:zW (yN d) rules rules.length<=24)(h8:rules.length<=8):(xK d rules rules.length).Ok:=by
 have h1:=zAG d rules rules.length hl;have h2:=zBq d rules rules.length hl;exact⟨h1.1.len,h1.1.same,h1.1.fol,h2.first,h2.ends,by rw[h2.rlen];exact h8,h2.rules⟩
theorem Nw.netAt {w0 w:World}{nb:Nat}{n:Nt}{sv fv rv ev:Value}{ps:List (Value×Bool)}(h:Nw w0 w nb n sv fv rv ev ps):NetAt w nb n sv fv rv ev:=by
 obtain⟨c0,c1,c2,c3,c4,c5,_⟩:=h.cells;refine⟨h.lt,c0,c1,c2,c3,c4,c5,?_,zAF h.fOwn,zAF h.rOwn,zGg h.eOwn fun g hg=>(h.eOwn.lt g hg).2⟩;have hgi:∀i,i<n.sets.length->RangesAt w (ps.getD i (undef,false)).1 (n.sets.getD i ⟨[],false⟩).ranges:=fun i hi=>(h.each i hi).1.grown h.keep;rcases h.sOwn.2 with⟨hv,h0⟩|⟨g,cap,cur,hv,hH,hh,h1,h2,h3,h4⟩
 ·exact⟨none,0,by rw[hv,h0],by omega,by unfold maxLen;omega,fun i hi=>by omega⟩
 ·have hgl:=(h.sOwn.lt g (by rw[hv];rfl)).2
  refine⟨some ⟨g,0,none⟩,cap,hv,h1,h2,fun i hi=>⟨g,0,(ps.getD i (undef,false)).1,rfl,hgl,?_,?_,hgi i hi⟩⟩
  ·have:=h.sOwn.cells (g:=g) (by rw[hv];rfl) (i*2) _ (zD6 ps i (by rw[h.plen];exact hi)).1
   rw[Addr.add_lit] at this;rw[Nat.zero_add] at this ⊢;exact this
  ·have:=h.sOwn.cells (g:=g) (by rw[hv];rfl) (i*2+1) _ (zD6 ps i (by rw[h.plen];exact hi)).2
   rw[Addr.add_lit,(h.each i hi).2] at this;rw[Nat.zero_add] at this ⊢;exact this
end Go.Proofs.YtbjcfkdnjaiclaaGreat
