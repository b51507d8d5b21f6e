import Derived.Deep.LoopGhost
import Derived.Test.YtbjcfkdnjaiclaaGreatB0
import Derived.Test.YtbjcfkdnjaiclaaGreatB33
import Derived.Test.YtbjcfkdnjaiclaaGreatB34
/- Cover: tokens come in order, none of nothing, each with the line and the column where it begins, and there is one end, the last event; for every specification and text (up to 65536 bytes, as the statement itself says). -/
set_option linter.unusedVariables false
set_option linter.unusedSimpArgs false
set_option maxHeartbeats 4000000
set_option maxRecDepth 100000
namespace Go.Proofs.YtbjcfkdnjaiclaaGreat
open Go.RowKit Go.Proofs.Tryz Go.World
theorem zLZ (s:ByteArray)(j:Nat):byt s j=(nats s).getD j 0:=by
 unfold byt nats;rw[lW,lW,gJ];cases s.data.toList[j]? <;> rfl
theorem zH7 (w:World)(s:ByteArray)(hs:s.size<=65536)(a b:Nat)(hab:a<=b)(hb:b<=s.size):Calls prog 33 #[.string (s.extract a b),.int .i64 (lnT (nats s) a:Nat),.int .i64 (clT (nats s) a:Nat)] w fun e w'=>e=.returned (.tuple #[.int .i64 (lnT (nats s) b:Nat),.int .i64 (clT (nats s) b:Nat)])∧w'=w:=by
 obtain⟨T,hT⟩:∃T,T=s.extract a b:=⟨_,rfl⟩
 have hz:T.size=b-a:=by rw[hT,ByteArray.size_extract];omega
 have HB:Hid (∀j,j<T.size->lnT (nats s) (a+(j+1))=vI (byt T j) (lnT (nats s) (a+j))∧clT (nats s) (a+(j+1))=zAN (byt T j) (clT (nats s) (a+j))):=fun j hj=>by
  rw[zLZ T j,hT,zCf s a b j hb (by omega)];exact⟨rfl,rfl⟩
 have HL:=vl (zLD (nats s));have HC:=vl (zLY (nats s));have HE:Hid (b=a+T.size):=by show _=_;omega
 rw[<-hT,HE.out];generalize lnT (nats s)=f at *;generalize clT (nats s)=g at *;have hT2:T.size<=65536:=by omega
 have ha:a<=65536:=by omega
 clear hT hz HE hb hab hs;go_in;go_wp2;go_loopg [1,2,8] T.size (fun q l c i wr=>∃j:Nat,q=T.size-j∧j<=T.size∧l=.int .i64 (f (a+j):Nat)∧c=.int .i64 (g (a+j):Nat)∧i=.int .i64 (j:Int)∧wr=w)
 case atStart=>exact⟨0,rfl,lX,rfl,rfl,rfl,rfl⟩
 case round=>
  obtain⟨j,hgk,hj,rfl,rfl,rfl,rfl⟩:=hrel;have HG:=vl hgk;clear hgk;have l1:=(HL.out (a+j)).2;have l2:=(HC.out (a+j)).2;by_cases hj2:j<T.size
  ·have i1:(j:Int)<(T.size:Int):=by omega
   have hbe:=zDX T j hj2;have HN:=vl (HB.out j hj2);generalize f (a+j)=l at *;generalize g (a+j)=c at *;by_cases h10:byt T j=10
   ·have ec:((byt T j:Int)==10)=true:=by rw[h10];rfl
    have HN2:Hid (f (a+(j+1))=l+1∧g (a+(j+1))=1):=by have:=HN.out;rw[h10] at this;exact this
    clear HN h10;generalize byt T j=x at *;go_wp2;go_roundg (T.size-(j+1))
    case measure=>rw[HG.out];omega
    case rel=>exact⟨j+1,rfl,by omega,by rw[HN2.out.1];go_num,by rw[HN2.out.2];go_num,by go_num,rfl⟩
   ·have ec:((byt T j:Int)==10)=false:=by rw[gQ];omega
    have HN2:Hid (f (a+(j+1))=l∧g (a+(j+1))=c+1):=by have:=HN.out;unfold vI zAN at this;rw[if_neg h10,if_neg h10] at this;exact this
    clear HN h10;generalize byt T j=x at *;go_wp2;go_roundg (T.size-(j+1))
    case measure=>rw[HG.out];omega
    case rel=>exact⟨j+1,rfl,by omega,by rw[HN2.out.1],by rw[HN2.out.2];go_num,by go_num,rfl⟩
  ·have i1:¬(j:Int)<(T.size:Int):=by omega
   have he:j=T.size:=by omega
   subst he;go_wp2;refine bodyPost_ret (results_tmp2 rfl _ _ _) rfl ?_;exact⟨rfl,rfl⟩
theorem zJs (t:Tb)(ft:t.Fine)(p:Nat)(s:ByteArray):∃C:Nat->Nat->Prop,C 0 0∧∀i a,C i a->i<(t.events p s).length->∃(k rl:Int) (f g:Nat),(t.events p s).getD i ⟨0,0,0,0,0,0⟩=⟨k,rl,f,g,lnT (nats s) f,clT (nats s) f⟩∧a<=f∧g<=s.size∧C (i+1) g∧(i+1=(t.events p s).length∧2<=k∧k<=6∧f=g∧(k=2->f=s.size)∨i+1<(t.events p s).length∧k=1∧f<g):=by
 obtain⟨es,k,f,hE,hT,hf,hk⟩:=zFu t ft p s;rw[hE];have hl:∀x:Ev,(es++[x]).length=es.length+1:=fun x=>by rw[kX];rfl
 refine⟨fun i a=>i<=es.length∧Told (nats s) a f (es.drop i)∨i=es.length+1,.inl ⟨lX,hT⟩,fun i a hC hi=>?_⟩;rw[hl] at hi;rw[hl];obtain⟨h1,h2⟩:=hC.resolve_right (by omega);by_cases h3:i<es.length
 ·rw[List.drop_eq_getElem_cons h3] at h2
  obtain⟨f',g',k1,k2,k3,k4,k5,k6,k7,k8⟩:=h2;have:=k8.le;refine⟨1,es[i].rule,f',g',?_,k6,by omega,.inl ⟨h3,k8⟩,.inr ⟨by omega,rfl,k7⟩⟩;rw[lW,kW h3,lV h3,Option.getD_some];generalize es[i]=e at *;obtain⟨a1,a2,a3,a4,a5,a6⟩:=e;simp only at k1 k2 k3 k4 k5;rw[k1,k2,k3,k4,k5]
 ·have hi2:i=es.length:=by omega
  subst hi2;rw[List.drop_length] at h2;refine⟨k,0,f,f,?_,h2,hf,.inr rfl,.inl ⟨rfl,by omega,by omega,rfl,fun e=>by omega⟩⟩;rw[lW,gX lQ,Nat.sub_self];rfl
theorem zIm (w:World)(S:Nat->Prop)(L p:Nat)(t:Tb)(hL:LexAt w S L p t)(ft:t.Fine)(s:ByteArray)(hs:s.size<=65536):Calls prog 19 #[.pointer (some ⟨L,0,none⟩),.string s] w fun e w'=>e=.returned (.bool true)∧Grew w w':=by
 have HSC:=vl <| zBQ hL ft s (by omega);have hE0:=List.length_pos_iff.2 (t.events_some ft p s);obtain⟨C,hC0,hC⟩:=zJs t ft p s;have HC:=vl hC;have HM:Hid (∀w2 X a b,a<=b->b<=s.size->X=s.extract a b->Calls prog 33 #[.string X,.int .i64 (lnT (nats s) a:Nat),.int .i64 (clT (nats s) a:Nat)] w2 fun e w'=>e=.returned (.tuple #[.int .i64 (lnT (nats s) b:Nat),.int .i64 (clT (nats s) b:Nat)])∧w'=w2):=fun w2 X a b h1 h2 h3=>by rw[h3];exact zH7 w2 s hs a b h1 h2
 have hl0:lnT (nats s) 0=1:=rfl;have hc0:clT (nats s) 0=1:=rfl;have HL:=vl (zLD (nats s));have HCL:=vl (zLY (nats s));generalize t.events p s=E at *;generalize lnT (nats s)=ln at *;generalize clT (nats s)=cl at *;clear hL ft hC;go_in;apply wp_cut;intro K0 J;go_wp2;apply J.out;clear J;apply wp_cut;intro K0 J;go_wp2_with (first|(go_at_call 27;refine HSC.out.mono ?_;rintro e w1 ⟨v,rfl,he1,hk1⟩))
 apply J.out;clear J HSC;obtain⟨ao,cap,rfl,h1,h2,hat⟩:=he1;have HAT:=vl hat
 have HK1:=vl hk1;have hm:E.length<=9223372036854775807:=by unfold maxLen at h2;omega
 clear hat hk1;generalize hN:E.length=N at *;have HN:=vl hN;clear hN;go_wp2;go_loopg [6,7,8,9] N (fun q at_ l c i wr=>∃j a:Nat,q=N-j∧j<=N∧a<=s.size∧C j a∧at_=.int .i64 (a:Int)∧l=.int .i64 (ln a:Nat)∧c=.int .i64 (cl a:Nat)∧i=.int .i64 (j:Int)∧Grew w wr∧Grew w1 wr)
 case atStart=>exact⟨0,0,rfl,lX,lX,hC0,rfl,by rw[hl0];rfl,by rw[hc0];rfl,rfl,HK1.out,Keep.refl _ _ _⟩
 case round=>
  obtain⟨j,a,hgk,hj,ha,hCa,rfl,rfl,rfl,rfl,hkw,hk1⟩:=hrel;have HA:=vl (And.intro hgk (And.intro hkw hk1));clear hgk hkw;by_cases hj2:j<N
  ·have i1:(j:Int)<(N:Int):=by omega
   obtain⟨b1,rfl,hb1,c1⟩:=HAT.out j hj2;obtain⟨k,rl,f,g,hev,haf,hgs,hCg,hcase⟩:=HC.out j a hCa hj2;rw[hev] at c1;have y0:wr.cell? ⟨b1,j*6,none⟩=some (.int .i64 k):=zA (c1 0 _ rfl) hb1 hk1;have y1:wr.cell? ⟨b1,j*6+1,none⟩=some (.int .i64 rl):=zA (c1 1 _ rfl) hb1 hk1;have y2:wr.cell? ⟨b1,j*6+2,none⟩=some (.int .i64 (f:Int)):=zA (c1 2 _ rfl) hb1 hk1;have y3:wr.cell? ⟨b1,j*6+3,none⟩=some (.int .i64 (g:Int)):=zA (c1 3 _ rfl) hb1 hk1;have y4:wr.cell? ⟨b1,j*6+4,none⟩=some (.int .i64 (ln f:Nat)):=zA (c1 4 _ rfl) hb1 hk1;have y5:wr.cell? ⟨b1,j*6+5,none⟩=some (.int .i64 (cl f:Nat)):=zA (c1 5 _ rfl) hb1 hk1;clear c1 hev hk1 hCa HC HAT;have HCG:=vl hCg;clear hCg;have q1:¬((f:Int)<(a:Int)):=by omega
   have q2:¬((g:Int)<(f:Int)):=by omega
   have q3:¬((s.size:Int)<(g:Int)):=by omega
   have q4:(a:Int)<=(f:Int):=by omega
   have q5:(f:Int)<=(g:Int):=by omega
   have q6:(f:Int)<=(s.size:Int):=by omega
   have q7:(g:Int)<=(s.size:Int):=by omega
   have f1:=(HL.out f).2;have f2:=(HCL.out f).2;rcases hcase with⟨e1,e2,e3,rfl,e5⟩|⟨e1,rfl,e3⟩
   ·have p1:(k==1)=false:=by rw[gQ];omega
    have p2:((j:Int)==(N:Int)-1)=true:=by rw[beq_iff_eq];omega
    have p3:¬(k<1):=by omega
    have p4:¬(6<k):=by omega
    have p5:¬((f:Int)<(f:Int)):=by omega
    have HG:Hid (k=2->f=s.size):=e5;clear e5;rcases hk2:(k==2) with _|_
    ·go_wp2_with (first|(go_at_call 33;have m2:=mark1;refine(HM.out _ _ f f (by omega) (by omega) (by simp)).mono ?_;rintro e w4 ⟨rfl,hw4⟩;have hw8:=hw4.symm;subst hw8)|(go_at_call 33;refine(HM.out _ _ a f (by omega) (by omega) rfl).mono ?_;rintro e w4 ⟨rfl,hw4⟩;have hw8:=hw4.symm;subst hw8;have mark1:True:=trivial))
     go_roundg (N-(j+1))
     case measure=>rw[HA.out.1];omega
     case rel=>exact⟨j+1,f,rfl,by omega,hgs,HCG.out,rfl,rfl,rfl,by go_num,HA.out.2.1.trans (kZ _ _ HA.out.2.1.size),HA.out.2.2.trans (kZ _ _ HA.out.2.2.size)⟩
    ·have p6:((f:Int)==(s.size:Int))=true:=by rw[beq_iff_eq] at hk2 ⊢;rw[HG.out hk2]
     go_wp2_with (first|(go_at_call 33;have m2:=mark1;refine(HM.out _ _ f f (by omega) (by omega) (by simp)).mono ?_;rintro e w4 ⟨rfl,hw4⟩;have hw8:=hw4.symm;subst hw8)|(go_at_call 33;refine(HM.out _ _ a f (by omega) (by omega) rfl).mono ?_;rintro e w4 ⟨rfl,hw4⟩;have hw8:=hw4.symm;subst hw8;have mark1:True:=trivial))
     go_roundg (N-(j+1))
     case measure=>rw[HA.out.1];omega
     case rel=>exact⟨j+1,f,rfl,by omega,hgs,HCG.out,rfl,rfl,rfl,by go_num,HA.out.2.1.trans (kZ _ _ HA.out.2.1.size),HA.out.2.2.trans (kZ _ _ HA.out.2.2.size)⟩
   ·have p2:((j:Int)==(N:Int)-1)=false:=by rw[gQ];omega
    have p5:(f:Int)<(g:Int):=by omega
    go_wp2_with (first|(go_at_call 33;have m2:=mark1;refine(HM.out _ _ f g (by omega) (by omega) (by simp)).mono ?_;rintro e w4 ⟨rfl,hw4⟩;have hw8:=hw4.symm;subst hw8)|(go_at_call 33;refine(HM.out _ _ a f (by omega) (by omega) rfl).mono ?_;rintro e w4 ⟨rfl,hw4⟩;have hw8:=hw4.symm;subst hw8;have mark1:True:=trivial))
    go_roundg (N-(j+1))
    case measure=>rw[HA.out.1];omega
    case rel=>exact⟨j+1,g,rfl,by omega,hgs,HCG.out,rfl,rfl,rfl,by go_num,HA.out.2.1.trans (kZ _ _ HA.out.2.1.size),HA.out.2.2.trans (kZ _ _ HA.out.2.2.size)⟩
  ·have i1:¬(j:Int)<(N:Int):=by omega
   have i2:(0:Int)<(N:Int):=by omega
   go_wp2;refine bodyPost_ret (results_tmp rfl _ _ _) rfl ?_;exact⟨rfl,HA.out.2.1⟩
theorem zK1 (w:World)(s d:ByteArray):Calls prog 6 #[.string s,.string d] w fun e w'=>e=.returned (.bool true)∧Grew w w':=by
 rcases zDZ w s d with HB|⟨y,hl,hs,hd,HB⟩
 ·have HBG:=vl HB
  clear HB;go_in;go_wp2_with (first|(go_at_call 14;refine HBG.out.mono ?_;rintro e w1 ⟨rfl,hk1⟩))
  refine bodyPost_ret (results_tmp rfl _ _ _) rfl ?_;exact⟨rfl,hk1⟩
 have HBG:=vl HB;have HOF:Hid (∀w2,Calls prog 16 #[.string s,.int .i64 64,.bool false] w2 fun e w'=>Grew w2 w'∧∃L m0 m1 m2 s0 s1 s2 v0 v1 v2 AH ST LN,e=.returned (.tuple #[.pointer (some ⟨L,0,none⟩),.agg #[.slice m0 m1 m2,.slice s0 s1 s2,.slice v0 v1 v2,.int .i64 AH,.bool ST,.int .i64 LN]])∧Hid (∀w3,Grew w' w3->Calls prog 19 #[.pointer (some ⟨L,0,none⟩),.string d] w3 fun e w4=>e=.returned (.bool true)∧Grew w3 w4)):=fun w2=>by
  refine(zDb w2 s (by omega) 64 (by omega) (by omega) false).mono ?_;rintro e w' ⟨hk,x,m0,m1,m2,s0,s1,s2,v0,v1,v2,AH,ST,LN,rfl,hq⟩;unfold OfQ at hq;rw[hl] at hq;obtain⟨L,t,rfl,-,-,hL⟩:=hq;refine⟨hk,L,m0,m1,m2,s0,s1,s2,v0,v1,v2,AH,ST,LN,rfl,fun w3 hk3=>?_⟩;obtain⟨S,p,hA,-⟩:=hL.at_;exact zIm w3 S L p t (hA.grown hk3) hL.fine d hd
 clear HB hl;go_in;apply wp_cut;intro K0 J;go_wp2;apply J.out;clear J;apply wp_cut;intro K0 J;go_wp2_with (first|(go_at_call 14;refine HBG.out.mono ?_;rintro e w1 ⟨rfl,hk1⟩))
 apply J.out;clear J;apply wp_cut;intro K0 J;go_wp2;apply J.out;clear J;apply wp_cut;intro K0 J;go_wp2_with (first|(go_at_call 16;refine(HOF.out _).mono ?_;rintro e w2 ⟨hk2,L,m0,m1,m2,s0,s1,s2,v0,v1,v2,AH,ST,LN,rfl,HS1⟩))
 apply J.out;clear J;obtain⟨w3,hw3,HW3⟩:∃w3,w3=w2.alloc (.cells #[.slice m0 m1 m2,.slice s0 s1 s2,.slice v0 v1 v2,.int .i64 AH,.bool ST,.int .i64 LN] 30)∧Hid (Grew w w3∧Grew w2 w3):=⟨_,rfl,(hk1.trans (hk2.lower hk1.size hk1.size)).trans (kZ _ _ (lY hk1.size hk2.size)),kZ _ _ lQ⟩
 have HC1:=vl (HS1.out w3 HW3.out.2);rw[<-hw3];clear hw3 hk2 hk1 HBG HS1 HOF;go_wp2_with (first|(go_at_call 19;refine HC1.out.mono ?_;rintro e w4 ⟨rfl,hk4⟩))
 refine bodyPost_ret (results_tmp rfl _ _ _) rfl ?_;exact⟨rfl,HW3.out.1.trans (hk4.lower HW3.out.1.size HW3.out.1.size)⟩
section
open Go.ChangeShapes Go.WideShapes Go.ChangeAt Go.RowKit
open Go.ChangeMaps (open_string shut_string)
theorem zHc (os:Os)(started:os.Started)(H:Type)(enc:TypeId×Value->H):
  ReturnsInHanded {} checked os 6 .any (Rows.coverSpec.pre6 enc prog f6 Rows.coverRow.domain false) (Rows.coverSpec.post enc prog f6 false true false false):=by
 refine returnsInHanded_of_change (C:=checked) own started (by kernel_rfl) func6
  (ChangeSpec.witness6 (enc:=enc) (C:=checked) false ⟨#[],#[.string ⟨#[]⟩,.string ⟨#[]⟩],[]⟩ 8 (by kernel_rfl) (by kernel_rfl) (by kernel_rfl) (by kernel_rfl)) ?_
 intro W base args ds gs before hval0 hW _ _;have hval:=hval0;have hW':=hW;obtain⟨p,q,hA0,hV,rfl,hfz,hnd⟩:=hW;have hA:=hA0;rw[params6] at hA hval;obtain⟨v0,vs0,d0,ds0,p0,q0,hargs,rfl,rfl,h0,r0⟩:=trodAll_cons hA;obtain⟨v1,vs1,d1,ds1,p1,q1,rfl,rfl,rfl,h1,r1⟩:=trodAll_cons r0;obtain⟨rfl,rfl,rfl⟩:=trodAll_nil r1;have hargs2:args=#[v0,v1]:=by cases args;simp_all
 subst hargs2;obtain⟨rfl,rfl⟩:=trodVars_none hV;obtain⟨a0,rfl,rfl,rfl,w0⟩:=open_string underlying9 (hval 0 9 v0 rfl rfl) h0;obtain⟨a1,rfl,rfl,rfl,w1⟩:=open_string underlying9 (hval 1 9 v1 rfl rfl) h1;simp only[List.append_nil] at hW';refine(zK1 W a0 a1).mono fun e W' ⟨he,hk⟩=>?_;subst he;exact⟨_,rfl,zCJ hW' (fun _ _ _=>trodAll_mk1 (shut_bool underlying4 _)) (fun sp=>zAR (shut_string underlying9 w0) (zAR (shut_string underlying9 w1) (trodAll_mk0))) (fun _=>rfl)
  (hk.frame _) (ok_one (by kernel_rfl) rfl (okWide_bool_mk underlying4 _))⟩
theorem cover_holds:Rows.CoverSaid:=
 OpenClaim.holds_of_wide 6 f6 rfl rfl rfl rfl rfl rfl rfl ⟨rfl,rfl,rfl,rfl,rfl⟩ rfl rfl rfl rfl rfl (by kernel_rfl) func6 (by kernel_rfl)
  (of_decide_eq_true (by kernel_rfl)) (by unfold Func.isWrapper;first|(rw [if_pos (by decide +kernel)];kernel_rfl)|(rw [if_neg (by decide +kernel)];exact⟨rfl,rfl⟩))
  (fun os started H enc _=>zHc os started H enc)
end
end Go.Proofs.YtbjcfkdnjaiclaaGreat
