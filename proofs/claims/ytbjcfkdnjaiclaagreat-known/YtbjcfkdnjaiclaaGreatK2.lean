import Derived.Deep.DrawnRows
import Derived.Deep.LoopGhost
import Derived.Deep.RegionLaw
import Derived.Deep.RegionWith
import Derived.Laws.IdiomStrings
import Derived.Laws.MakeOwn
import Derived.Laws.OwnMore
import Derived.StillTactics
import Derived.Test.YtbjcfkdnjaiclaaGreatK0
import Derived.Test.YtbjcfkdnjaiclaaGreatK1
/- Parts of the proof. -/
set_option linter.unusedVariables false
set_option linter.unusedSimpArgs false
set_option maxHeartbeats 4000000
set_option maxRecDepth 100000
namespace Go.Proofs.YtbjcfkdnjaiclaaGreat
open Go.RowKit Go.Proofs.Tryz Go.World
open Go.Value (int slice bool pointer string agg tuple)
open Go.IntKind (i64)
open Go.Ending (returned)
section
attribute [local go_sem ↓] Go.wp_at_zero Go.wp_at_succ
def yB (rules:Nat)(r:Int):Int:=if r=-1 then r else r+rules
theorem zO8 (J w:World)(H p K:Nat)(c0 c:Tc)(kinds acts pushed starts ends:List Int)(next:List (List Int))(P:Gt w H p c kinds acts pushed starts ends next)(aj rv ak:Value)(S:Nat->Prop)(a:List Int)(al:w.heap[K]? =some (.cells #[aj,rv,ak] 127))(am:Ints w S rv a)(an:∀k,S k->k<H/\k≠p)(ao:Turn H p J c0 w c)
  (rules:Nat) (aK:rules<=8) (aL:ends.length+a.length<=200) (ap:∀i,i<a.length->-1<=a.getD i 0/\a.getD i 0<=8)
  {u1 u3 u5 u6 u7 u8 u9 u10 u11 u12 u13 u14 u15 u16 u17 u18 u19 u20 u21 u22 u23 u24 u25 u26 u27 u28 u29 u30 u31 u32 u33 u34 u35 u36 u37 u38 u39 u40 u41 u42 u43 u44 u45 u46 u47 u48 u49 u50 u51 u52 u53 u54 u55 u56 u57 u58 u59 u60 u61 u62 u63 u64 u65 u66 u67 u68 u69 u70 u71 u72:Value}:
  Code.wp prog (yT 4 ((f64.body).getD .skip)) (bodyPost prog f64 λe w'=>e=returned (tuple #[])/\∃d,Gt w' H p d kinds acts pushed starts (ends++a.map (yB rules)) next/\Turn H p J c0 w' d)
   ⟨(pX p::u1::iX rules::u3::pX K::u5::u6::u7::u8::u9::u10::u11::u12::u13::u14::u15::u16::u17::u18::u19::u20::u21::u22::u23::u24::u25::u26::u27::u28::u29::u30::u31::u32::u33::u34::u35::u36::u37::u38::u39::u40::u41::u42::u43::u44::u45::u46::u47::u48::u49::u50::u51::u52::u53::u54::u55::u56::u57::u58::u59::u60::u61::u62::u63::u64::u65::u66::u67::u68::u69::u70::u71::u72::[]).toArray,[]⟩ w:=by
 conv=>arg 2;whnf
 obtain⟨Q,R,T,U,V⟩:=info_parts yL;obtain⟨aq,au,rfl,aM,aN,av⟩:=am;have aw:=vl av;have W:Hid (Gt w H p c kinds acts pushed starts ends next/\Turn H p J c0 w c):=⟨P,ao⟩
 have ax:=vl ap;have aO:cX w K 1=some (slice aq a.length au):=by simp[World.cell?,al]
 have aP:=P.HH;go_wp2;go_loopg [53] a.length (λq i wr=>∃(j:Nat) (l:Tc),q=a.length-j/\j<=a.length/\i=iX (j:Int)/\Gt wr H p l kinds acts pushed starts (ends++(a.take j).map (yB rules)) next/\Turn H p w c wr l)
 case atStart=>exact⟨0,c,rfl,lX,rfl,by rw[List.take_zero,List.map_nil,dX];exact W.1,Turn.refl _ _ _ _⟩
 case round=>
  obtain⟨j,l,X,aQ,rfl,b,L⟩:=hrel;have v:Hid (gk=a.length-j/\Gt wr H p l kinds acts pushed starts (ends++(a.take j).map (yB rules)) next/\Turn H p w c wr l):=⟨X,b,L⟩
  by_cases B:j<a.length
  ·have ay:(j:Int)<(a.length:Int):=by omega
   obtain⟨Y,aR,rfl,az,aA⟩:=aw j B;obtain⟨s1,s2⟩:=an Y az;have aS:=(gW (L.keep.block Y s1 s2)).trans aA;obtain⟨m,o,C⟩:=b.ends.form;have aa:cX wr p 9=some (slice m (ends++(a.take j).map (yB rules)).length o):=by rw[<-C];exact b.tp.get_ends
   have ab:=b.tp.fz 9;have aB:Hid (ends++(a.take (j+1)).map (yB rules)=(ends++(a.take j).map (yB rules))++[yB rules (a.getD j 0)]):=by
    show _=_;rw[List.take_succ_eq_append_getElem B,List.map_append,gX,lW,lV B];rfl
   have aT:(ends++(a.take j).map (yB rules)).length<=200:=by
    rw[kX,kV,List.length_take];omega
   have ac:Hid (wr.ownsRow H 3 1 (slice m (ends++(a.take j).map (yB rules)).length o) (ends++(a.take j).map (yB rules)).length ((ends++(a.take j).map (yB rules)).map λx=>iX x)):=by have:=b.ends;rw[C] at this;exact this
   have ad:=vl C;have aU:=b.HH;have D:=b.tp.lt;have aC:some p≠Value.ownBlock (slice m (ends++(a.take j).map (yB rules)).length o):=by rw[<-C];exact vO b.tp b.ends.raw (by decide)
   have af:=vl aC;obtain⟨aV,b2⟩:=ax j B;generalize aW:ends++(a.take j).map (yB rules)=le at *;generalize a.getD j 0=x at *;have fin:∀(w2:World) (g cap:Nat) (y:Int),y=yB rules x->w2.ownsRow H 3 1 (slice (qX g) (le.length+1) cap) (le.length+1) ((le.map λx=>iX x)++[iX y])->(wr.alloc (.cells #[iX y] 3)).grownBy w2 (Value.ownBlock (slice m le.length o))->(Value.ownBlock (slice m le.length o)=some g\/g=(wr.alloc (.cells #[iX y] 3)).heap.size)->
     ∃d,Gt (w2.setCell ⟨p,9,none⟩ (slice (qX g) (le.length+1) cap)) H p d kinds acts pushed starts (ends++(a.take (j+1)).map (yB rules)) next/\Turn H p w c (w2.setCell ⟨p,9,none⟩ (slice (qX g) (le.length+1) cap)) d:=by
    intro w2 g cap y aD aE E z;have f:=Gt.ends_app v.2.1 (w2:=w2) (g:=g) (cap:=cap) (x:=y) (OwnI.snoc aE) (λk aF aG=>(E.block k (by simp;omega) (by rw[<-ad.out];exact aG)).trans (lG _ _ _ aF)) (lY (by simp) E.size) ⟨E.os,E.output⟩ (by
     rw[ad.out];rcases z with z|z
     ·exact .inl z
     ·right;rw[z];simp)
    rw[aB.out,<-aD];exact⟨_,f.1,v.2.2.trans f.2⟩
   have ag:=vl fin;by_cases r:x=-1
   ·have aH:(x != -1)=false:=by simp[r]
    have M:Hid (x=yB rules x):=by show _=_;rw[yB,if_pos r]
    clear r;go_wp2_with (first|(at_builtin;refine wpList_append_lies _ rfl _ _ 45 rfl (H) 3 Q (iX 0) 1 8 underlying45 R T U V rfl (by decide) _ _ _ rfl (ac.alloc _) ⟨wr.heap.size,0,none⟩ 1 1 [iX x] rfl rfl (cell_one_new _ _ _) (by intro u A;simp at A;subst A;rfl) (by decide) (by unfold maxLen;omega) (by omega) (by simp;omega) _ rfl ?_;intro N cap w2 F s G aI;have t:=s.block p (by simp;omega) af;have ah:=(gW t).trans ((gU _ _ _ D).trans aa);have ai:=(gV t).trans ((frozen?_alloc_past _ _ _ D).trans ab);have I:=ag w2 N cap x M F s G))
    have O:Hid _:=I;go_wp2;go_roundg (a.length-(j+1))
    case measure=>rw[v.out.1];omega
    case rel=>exact O.elim λd f=>⟨j+1,d,rfl,by omega,by go_num,f⟩
   ·have aH:(x != -1)=true:=by simpa using r
    have M:Hid (x+rules=yB rules x):=by show _=_;rw[yB,if_neg r]
    clear r;go_wp2_with (first|(at_builtin;refine wpList_append_lies _ rfl _ _ 45 rfl (H) 3 Q (iX 0) 1 8 underlying45 R T U V rfl (by decide) _ _ _ rfl (ac.alloc _) ⟨wr.heap.size,0,none⟩ 1 1 [iX (x+(rules:Int))] rfl rfl (cell_one_new _ _ _) (by intro u A;simp at A;subst A;rfl) (by decide) (by unfold maxLen;omega) (by omega) (by simp;omega) _ rfl ?_;intro N cap w2 F s G aI;have t:=s.block p (by simp;omega) af;have ah:cX w2 p 9=some (slice m le.length o):=(gW t).trans ((gU _ _ _ D).trans aa);have ai:w2.frozen? ⟨p,9,none⟩=false:=(gV t).trans ((frozen?_alloc_past _ _ _ D).trans ab);have I:=ag w2 N cap (x+(rules:Int)) M F s G))
    have O:Hid _:=I;clear I F s G t ah ai;go_wp2_with fail;go_roundg (a.length-(j+1))
    case measure=>rw[v.out.1];omega
    case rel=>exact O.elim λd f=>⟨j+1,d,rfl,by omega,by go_num,f⟩
  ·have ay:(a.length:Int)<=(j:Int):=by omega
   have aJ:Hid (Gt wr H p l kinds acts pushed starts (ends++a.map (yB rules)) next):=by
    have f:=b;rw[List.take_of_length_le (by omega)] at f;exact f
   clear X b L;go_wp2_with fail;go_end0;exact⟨rfl,l,aJ,W.2.trans v.2.2⟩
end
section
attribute [local go_sem ↓] Go.wp_at_zero Go.wp_at_succ
theorem zO9 (J w:World)(H p x:Nat)(c0 c:Tc)(kinds acts pushed starts ends:List Int)(next:List (List Int))(ab:Gt w H p c kinds acts pushed starts ends next)(aq rv O:Value)(S:Nat->Prop)(s:List Int)(d:List (List Int))(ac:w.heap[x]? =some (.cells #[aq,rv,O] 127))(ad:H<=x/\Rest w p c x)(aM:IntRows w S aq d)(ar:Ints w S rv s)(A:∀k,S k->k<H/\k≠p)(au:Turn H p J c0 w c)
  (rules first:Nat) (aN:rules<=8) (aO:ends.length+s.length<=200) (av:∀i,i<s.length->-1<=s.getD i 0/\s.getD i 0<=8)
  (aP:first<=200) (bu:next.length+d.length<=200) (m:kinds.length=256) (aw:∀i,i<d.length->(d.getD i []).length=256/\∀b,b<256->0<=(d.getD i []).getD b 0/\(d.getD i []).getD b 0<=200)
  {u1 u3 u5 u7 u8 u9 u10 u11 u12 u13 u14 u15 u16 u17 u18 u19 u20 u21 u22 u23 u24 u25 u26 u27 u28 u29 u30 u31 u32 u33 u34 u35 u36 u37 u38 u39 u40 u41 u42 u43 u44 u45 u46 u47 u48 u49 u50 u51 u52 u53 u54 u55 u56 u57 u58 u59 u60 u61 u62 u63 u64 u65 u66 u67 u68 u69 u70 u71 u72:Value}:
  Code.wp prog (yT 3 ((f64.body).getD .skip)) (bodyPost prog f64 λe w'=>e=returned (tuple #[])/\∃B,Gt w' H p B kinds acts pushed starts (ends++s.map (yB rules)) (next++d.map λrow=>zR kinds row first 256)/\Turn H p J c0 w' B)
   ⟨(pX p::u1::iX rules::u3::pX x::u5::iX first::u7::u8::u9::u10::u11::u12::u13::u14::u15::u16::u17::u18::u19::u20::u21::u22::u23::u24::u25::u26::u27::u28::u29::u30::u31::u32::u33::u34::u35::u36::u37::u38::u39::u40::u41::u42::u43::u44::u45::u46::u47::u48::u49::u50::u51::u52::u53::u54::u55::u56::u57::u58::u59::u60::u61::u62::u63::u64::u65::u66::u67::u68::u69::u70::u71::u72::[]).toArray,[]⟩ w:=by
 conv=>arg 2;whnf
 refine wp_seq_k ?_;intro aQ hK0;have aR:Hid (∀a w,_->aQ a w):=hK0;clear hK0;obtain⟨aS,aT,aU,aV,aW⟩:=info_parts zFh;obtain⟨P,af,rfl,bv,bw,ax⟩:=aM;have ay:Hid (∀i,i<d.length->∃b o u,P=some ⟨b,o,none⟩/\S b/\cX w b (o+i)=some u/\Ints w S u (d.getD i [])):=ax;have L:Hid (Gt w H p c kinds acts pushed starts ends next/\Turn H p J c0 w c/\Ints w S rv s/\w.heap[x]? =some (.cells #[slice P d.length af,rv,O] 127)/\Rest w p c x):=⟨ab,au,ar,ac,ad.2⟩
 have aX:Hid (∀i,i<d.length->(d.getD i []).length=256/\∀b,b<256->0<=(d.getD i []).getD b 0/\(d.getD i []).getD b 0<=200):=aw;have aY:Hid (∀i,i<s.length->-1<=s.getD i 0/\s.getD i 0<=8):=av;have aZ:Hid (kinds.length=256):=m;have a0:cX w x 0=some (slice P d.length af):=by simp[World.cell?,ac]
 have bz:=ab.HH;have a2:=ad.1;clear ax ab ac au av ar ad m aw;go_wp2_with fail;clear a0;go_loopg [32] d.length (λq i wr=>∃(j:Nat) (f:Tc),q=d.length-j/\j<=d.length/\i=iX (j:Int)/\Gt wr H p f kinds acts pushed starts ends (next++(d.take j).map λrow=>zR kinds row first 256)/\Turn H p w c wr f)
 case atStart=>exact⟨0,c,rfl,lX,rfl,by rw[List.take_zero,List.map_nil,dX];exact L.1,Turn.refl _ _ _ _⟩
 case round=>
  obtain⟨j,f,ag,bA,rfl,v,z⟩:=hrel;have M:Hid (gk=d.length-j/\Gt wr H p f kinds acts pushed starts ends (next++(d.take j).map λrow=>zR kinds row first 256)/\Turn H p w c wr f):=⟨ag,v,z⟩
  by_cases N:j<d.length
  ·have a3:(j:Int)<(d.length:Int):=by omega
   obtain⟨ah,a4,u,rfl,a5,D,a6⟩:=ay j N;obtain⟨s1,s2⟩:=A ah a5;obtain⟨bB,bC,ai,_⟩:=a6;have aj:=aX j N;have a7:cX wr ah (a4+j)=some u:=(gW (z.keep.block ah s1 s2)).trans D;rw[ai] at a7;have az:Ints wr S u (d.getD j []):=(ay j N).elim λb l=>l.elim λo l=>l.elim λbD l=>by
    obtain⟨C,bE,a8,a9⟩:=l;injection C with C;injection C with ba bb;subst ba bb;rw[a8] at D;injection D with D;subst D;exact a9.keep λk m=>z.keep.block k (A k m).1 (A k m).2
   obtain⟨Q,R,aA⟩:=v.next
   obtain⟨E,F,T⟩:=zI R;have bc:cX wr p 8=some (slice E (next++(d.take j).map λrow=>zR kinds row first 256).length F):=by rw[<-T];exact v.tp.get_next
   have bd:=v.tp.fz 8;have aB:=v.tp.get_kinds;have G:p<wr.heap.size:=v.tp.lt;have be:Hid (some p≠Value.ownBlock f.next):=vO v.tp R (by decide);have U:H<=wr.heap.size:=v.HH;have bf:Hid ((next++(d.take (j+1)).map λrow=>zR kinds row first 256)=(next++(d.take j).map λrow=>zR kinds row first 256)++[zR kinds (d.getD j []) first 256]):=by
    show _=_;rw[List.take_succ_eq_append_getElem N,List.map_append,gX,lW,lV N];rfl
   have bF:(next++(d.take j).map λrow=>zR kinds row first 256).length<=200:=by
    rw[kX,kV,List.length_take];omega
   have aC:Hid (∀y,y.Alike wr->Ca 99 #[pX p,u,iX first] y λe w'=>∃u,e=returned u/\OwnI w' y.heap.size u (zR kinds (d.getD j []) first 256)/\Grew y w'):=by
    intro y V;have ak:∀k:Nat,y.heap[k]? =wr.heap[k]? :=λk=>by rw[V.1]
    exact zHn y (λk=>k<y.heap.size) p f.kinds u kinds (d.getD j []) first ((gW (ak p)).trans aB) (by rw[V.1];exact G) (λk l=>l) ((v.kinds.ints.keep λk _=>ak k).mono λk m=>by rw[V.1];exact m.1) ((az.keep λk _=>ak k).mono λk m=>by rw[V.1];exact lZ (A k m).1 U) aZ aj.1 aP aj.2
   rw[ai] at aC;have aD:Hid (wr.ownsRow H 45 1 (slice E (next++(d.take j).map λrow=>zR kinds row first 256).length F) (next++(d.take j).map λrow=>zR kinds row first 256).length ((List.range (next++(d.take j).map λrow=>zR kinds row first 256).length).map Q)):=by have:=R;rw[T] at this;exact this
   have W:Hid (f.next=slice E (next++(d.take j).map λrow=>zR kinds row first 256).length F):=T;have bg:Hid (∀i,i<(next++(d.take j).map λrow=>zR kinds row first 256).length->Fin wr (Rest wr p f) H (Q i) ((next++(d.take j).map λrow=>zR kinds row first 256).getD i [])):=aA;clear ag v z T D R aA az ai aB aj;generalize bh:(next++(d.take j).map λrow=>zR kinds row first 256)=le at *;clear bh;generalize d.getD j []=row at *;generalize zR kinds row first 256=X at *
   go_wp2_with fail;go_region_law ((first
    |(refine step_append_lies _ (by rfl) (.tmp 40) (.tmp 45) 88 (by rfl) H 45 aS _ 1 24 underlying88 aT aU aV aW rfl (by decide) (slice E le.length F) le.length ((List.range le.length).map Q) (by simp[Act.eval,Act.put]) (aE.alloc _) ⟨w1.heap.size,0,none⟩ 1 1 [slice al X.length c1] (by simp[Act.eval,Act.put]) (by rfl) (news_of_block (cs:=#[slice al X.length c1]) (t:=45) (fr:=(0,0)) (gY w1 _)) (by simp[Value.oneCell']) (by decide) (by unfold maxLen;omega) (by omega) (by simp;omega) (w1.heap.size+1) (by simp) ?_;intro am cap w2 aF I aG bG;have ao:=I.block p (by simp;omega) (by rw[<-W.out];exact be);have bi:cX w2 p 8=some (slice E le.length F):=(gW ao).trans ((gU _ _ _ aH).trans aI);have bj:w2.frozen? ⟨p,8,none⟩=false:=(gV ao).trans ((frozen?_alloc_past _ _ _ aH).trans aJ))
    |(go_simp;go_at_call 99;refine(aC _ ?_).mono ?_;exact⟨rfl,rfl,rfl⟩;rintro e w1 ⟨bH,rfl,Y,r⟩;obtain⟨al,c1,bl⟩:=Y.form;subst bl;have aI:cX w1 p 8=some (slice E le.length F):=(gW (r.block p G (by exact kJ G))).trans bc;have aJ:w1.frozen? ⟨p,8,none⟩=false:=(gV (r.block p G (by exact kJ G))).trans bd;have bI:H<=w1.heap.size:=lY U r.size;have aH:p<w1.heap.size:=lZ G r.size;have aE:=zL (w:=wr) (w':=w1) aD ⟨r.os,r.output,r.size,r.block⟩)))
   all_goals
    have ap:Grew wr w1:=⟨r.os,r.output,r.size,r.block⟩
    have bm:Hid (∃B,Gt (w2.setCell ⟨p,8,none⟩ (slice (qX am) (le.length+1) cap)) H p B kinds acts pushed starts ends (next++(d.take (j+1)).map λrow=>zR kinds row first 256)/\Turn H p w c (w2.setCell ⟨p,8,none⟩ (slice (qX am) (le.length+1) cap)) B):=by
     have aK:Turn H p wr f w1 f:=Turn.grown ap U;have bn:∀k,f.next.ownBlock=some k->k<wr.heap.size:=λk m=>(aD.lt k (by rw[<-W.out];exact m)).2
     have bo:Fin w1 (Rest w1 p f) H (slice al X.length c1) X:=by
      refine⟨vF Y U,λg bp=>?_⟩;have aL:=Y.lt g bp;have bJ:wr.heap.size<=g:=aL.1;refine⟨aL.2,λe=>by omega,λe=>?_,λe=>?_,λe=>?_⟩
      ·have:=(M.2.1.starts.lt g e.symm).2;omega
      ·have:=bn g e.symm;omega
      ·have:=(M.2.1.ends.lt g e.symm).2;omega
     have l:=Gt.next_app (M.2.1.grown ap) Q (λi bq=>(bg i bq).keep aK.rest) bo (w2:=w2) (g:=am) (cap:=cap) aF (λk bs bt=>(I.block k (by simp;omega) (by rw[<-W.out];exact bt)).trans (lG _ _ _ bs)) (lY (by simp) I.size) ⟨I.os,I.output⟩ (by
      rw[W.out];rcases aG with C|C
      ·exact .inl C
      ·right;rw[C];omega)
     rw[bf.out];exact⟨_,l.1,(M.2.2.trans aK).trans l.2⟩
    clear aF I aG ao aI aJ bi bj r ap aE Y;go_wp2_with fail;go_roundg (d.length-(j+1))
    case measure=>rw[M.out.1];omega
    case rel=>exact bm.elim λB l=>⟨j+1,B,rfl,by omega,by go_num,l⟩
  ·have a3:(d.length:Int)<=(j:Int):=by omega
   have aa:Hid (Gt wr H p f kinds acts pushed starts ends (next++d.map λrow=>zR kinds row first 256)/\wr.heap[x]? =some (.cells #[slice P d.length af,rv,O] 127)/\Ints wr S rv s/\Turn H p J c0 wr f):=by
    have l:=v;rw[List.take_of_length_le (by omega)] at l;exact⟨l,((z.rest x a2 L.2.2.2.2).1).trans L.2.2.2.1,L.2.2.1.keep λk m=>z.keep.block k (A k m).1 (A k m).2,L.2.1.trans z⟩
   clear ag v z;go_wp2_with fail;apply aR.out;exact zO8 J wr H p x c0 f kinds acts pushed starts ends _ aa.1 _ rv O S s aa.2.1 aa.2.2.1 A aa.2.2.2 rules aN aO aY
end
section
attribute [local go_sem ↓] Go.wp_at_zero Go.wp_at_succ
theorem zAP (x:Int)(a:-4611686018427387904<=x)(b:x<=4611686018427387904):IntKind.i64.wrap x=x:=by
 simp[IntKind.wrap,IntKind.signed,IntKind.bits];omega
structure Sm.Fit (m:Sm):Prop where
 rows:∀i,i<m.next.length->(m.next.getD i []).length=256/\∀b,b<256->0<=(m.next.getD i []).getD b 0/\(m.next.getD i []).getD b 0<=200
 rules:∀i,i<m.rules.length->-1<=m.rules.getD i 0/\m.rules.getD i 0<=8
 start0:0<=m.start
 start:m.start<=200
theorem zF4 (w:World)(H p:Nat)(c:Tc)(kinds acts pushed starts ends:List Int)(next:List (List Int))(i:Gt w H p c kinds acts pushed starts ends next)(m:Sm)(r rv:Value)(S:Nat->Prop)(D:IntRows w S r m.next)(E:Ints w S rv m.rules)(l:∀k,S k->k<H/\k≠p)
  (rules:Nat) (s:m.Fit) (T:rules<=8) (b:kinds.length=256) (U:next.length+m.next.length<=200) (V:ends.length+m.rules.length<=200) (aC:starts.length<=3):
  Calls prog 64 #[pX p,agg #[r,rv,iX m.start],iX rules] w λe w'=>e=returned (tuple #[])/\∃d,Gt w' H p d kinds acts pushed (starts++[(next.length:Int)+m.start]) (ends++m.rules.map (yB rules)) (next++m.next.map λrow=>zR kinds row next.length 256)/\Turn H p w c w' d:=by
 obtain⟨W,X,Y,aa,ab⟩:=info_parts yL;have j:Hid (Gt w H p c kinds acts pushed starts ends next/\IntRows w S r m.next/\Ints w S rv m.rules):=⟨i,D,E⟩
 obtain⟨F,G,rfl,aD,aE,_⟩:=D;obtain⟨I,J,rfl,aF,aG,_⟩:=E;have ac:=i.tp.lt;have o:=i.HH;obtain⟨aH,ad,_⟩:=i.next
 obtain⟨ae,af,ag⟩:=zI ad;obtain⟨as_,cs,ah⟩:=i.starts.form;have K:cX w p 8=some (slice ae next.length af):=by rw[<-ag];exact i.tp.get_next
 have q:=vl ah;have ai:=vl b;have aI:=s.start0;have aJ:=s.start;have L:Hid m.Fit:=s;go_in;apply wp_cut;intro aK aj;go_wp2;apply aj.out;apply wp_cut;intro aL ak;obtain⟨w1,u,a⟩:∃w1,w1=w.alloc (.cells #[slice F m.next.length G,slice I m.rules.length J,iX m.start] 127)/\Hid (w1.heap[w.heap.size]? =some (.cells #[slice F m.next.length G,slice I m.rules.length J,iX m.start] 127)/\Gt w1 H p c kinds acts pushed starts ends next/\Grew w w1):=⟨_,rfl,gY w _,j.1.grown (kZ _ _ lQ),kZ _ _ lQ⟩
 have M:w1.heap.size=w.heap.size+1:=by rw[u];simp
 have al:=vl M;have aM:H<=w1.heap.size:=by omega
 have N:p<w1.heap.size:=by omega
 rw[<-u];have aN:=(gW (a.2.2.block p ac (by omega))).trans K;clear K u M;go_wp2;apply ak.out;apply wp_cut;intro aO am;have y3:cX w1 p 3=some (slice as_ starts.length cs):=by rw[<-q.out];exact a.2.1.tp.get_starts
 have O:=a.2.1.tp.fz 3;have ao:cX w1 w.heap.size 2=some (iX m.start):=by simp[World.cell?,a.out.1]
 have ap:w.heap.size<w1.heap.size:=by rw[al.out];omega
 have v:w1.ownsRow H 3 1 (slice as_ starts.length cs) starts.length (starts.map λx=>iX x):=by have:=a.2.1.starts;rw[q.out] at this;exact this
 have aP:next.length<=200:=by omega
 have P:=vl <| vO a.2.1.tp v (by decide);go_wp2;go_region_law ((refine step_append_lies _ (by rfl) (.tmp 20) (.tmp 25) 45 (by rfl) H 3 W _ 1 8 underlying45 X Y aa ab rfl (by decide) (slice as_ starts.length cs) starts.length (starts.map λx=>iX x) (by simp[Act.eval,Act.put]) ((v.alloc _).drew) ⟨w1.heap.size,0,none⟩ 1 1 [iX (IntKind.i64.wrap ((next.length:Int)+m.start))] (by simp[Act.eval,Act.put]) (by rfl) (news_of_block (cs:=#[iX (IntKind.i64.wrap ((next.length:Int)+m.start))]) (t:=3) (fr:=(0,0)) (gY w1 _)) (by simp[Value.oneCell']) (by decide) (by unfold maxLen;omega) (by omega) (by simp;omega) (w1.heap.size+1) (by simp) ?_;intro y cap w2 z f Q aQ;have aq:=(gW (f.block p (by simp;omega) P)).trans ((gU _ _ _ N).trans y3);have au:=(gV (f.block p (by simp;omega) P)).trans ((frozen?_alloc_past _ _ _ N).trans O)))
 all_goals
  have av:Hid (∃d,(Gt (w2.setCell ⟨p,3,none⟩ (slice (qX y) (starts.length+1) cap)) H p d kinds acts pushed (starts++[(next.length:Int)+m.start]) ends next/\Turn H p w1 c (w2.setCell ⟨p,3,none⟩ (slice (qX y) (starts.length+1) cap)) d)):=by
   rw[zAP ((next.length:Int)+m.start) (by omega) (by omega)] at z;have aw:=Gt.starts_app a.2.1 (w2:=w2) (g:=y) (cap:=cap) (x:=(next.length:Int)+m.start) (OwnI.snoc z) (λk ax ay=>(f.block k (by simp;omega) (by rw[<-q.out];exact ay)).trans (lG _ _ _ ax)) (lY (by simp) f.size) ⟨f.os,f.output⟩ (by
    rw[q.out];rcases Q with A|A
    ·exact .inl A
    ·right;rw[A];omega)
   exact⟨_,aw⟩
  clear z f Q aq au y3 O ao v;go_wp2_with fail;apply am.out;obtain⟨d,az,B⟩:=av;have aA:Turn H p w c w1 c:=Turn.grown a.2.2 o;have C:=aA.trans B;have R:Rest w1 p c w.heap.size:=by
   refine⟨ap,λe=>by omega,λe=>?_,λe=>?_,λe=>?_⟩
   ·have:=(j.1.starts.lt _ e.symm).2;omega
   ·obtain⟨_,aB,_⟩:=j.1.next
    have:=(aB.lt _ e.symm).2;omega
   ·have:=(j.1.ends.lt _ e.symm).2;omega
  exact zO9 w _ H p w.heap.size c d kinds acts pushed _ ends next az _ _ _ S m.rules m.next (((B.rest _ o R).1).trans a.1) ⟨o,(B.rest _ o R).2⟩ (j.2.1.keep λk b=>C.keep.block k (l k b).1 (l k b).2) (j.2.2.keep λk b=>C.keep.block k (l k b).1 (l k b).2) l C rules next.length T V L.rules (by omega) U ai L.rows
end
theorem zD6 (p:Nat)(w:World)(S:Nat->Prop)(t:Tb)(c:TabAt w S p t)(ok:t.Ok)(a s:Nat)(d:a<t.rows)(l:s<t.nst):
  Calls prog 155 #[pX p,iX a,iX s] w λe w'=>e=returned (bool (t.longer a s))/\w'=w:=by
 obtain⟨_,m,b,o,cap,q,rfl,r,u,v⟩:=c.c8;obtain⟨_,y,f,g,z,A,rfl,B,C,h⟩:=c.c12;have D:a*t.nst+s<8*t.nlong:=by
  have i:(a+1)*t.nst<=t.rows*t.nst:=Nat.mul_le_mul_right _ d;have E:=ok.long;rw[Nat.add_mul] at i;omega
 have F:cX w f (g+(a*t.nst+s)/8)=some (int .u8 (t.long ((a*t.nst+s)/8):Nat)):=h _ (by omega);have j:=ok.longB ((a*t.nst+s)/8) (by omega);have G:=ok.rows;have b2:=ok.nst;have k:Hid (t.longer a s=decide (t.long ((a*t.nst+s)/8)/2^((a*t.nst+s)%8)%2=1)):=rfl;have H:a*t.nst<=600000:=lY (Nat.mul_le_mul (show a<=3000 by omega) b2) (by decide);generalize t.longer a s=I at *;generalize t.long ((a*t.nst+s)/8)=x at *;generalize t.nst=n at *;generalize t.nlong=J at *;have K:(a:Int)*(n:Int)<=600000:=by
  have e:(a:Int)*(n:Int)=((a*n:Nat):Int):=by simp
  rw[e];omega
 have L:0<=(a:Int)*(n:Int):=by
  have e:(a:Int)*(n:Int)=((a*n:Nat):Int):=by simp
  rw[e];omega
 go_in;go_wp2;go_ret;exact⟨zKQ (by rw[k.out];exact zK1 x _ j),rfl⟩
structure TabN (w:World)(S:Nat->Prop)(p:Nat)(t:Tb):Prop where
 safe:S p
 c7:w.cell? ⟨p,7,none⟩=some (int i64 t.count)
 c8:∃v,w.cell? ⟨p,8,none⟩=some v/\RowsAt w S v t.nst t.count λi k=>t.next i k
 c9:∃v,w.cell? ⟨p,9,none⟩=some v/\IntsAt w S v t.nst λi=>t.ends i
theorem TabN.keep {w w':World}{S:Nat->Prop}{p:Nat}{t:Tb}(d:TabN w S p t)(e:∀b,S b->w'.heap[b]? =w.heap[b]?):TabN w' S p t:=by
 have c:∀i,cX w' p i=cX w p i:=λi=>gW (e p d.safe);refine⟨d.safe,(c _).trans d.c7,?_,?_⟩
 ·obtain⟨v,a,b⟩:=d.c8;exact⟨v,(c _).trans a,b.keep e⟩
 ·obtain⟨v,a,b⟩:=d.c9;exact⟨v,(c _).trans a,b.keep e⟩
theorem zCK (p:Nat)(w:World)(S:Nat->Prop)(t:Tb)(a:TabN w S p t):
  Calls prog 118 #[pX p] w λe w'=>e=returned (iX t.count)/\w'=w:=by
 have b:=a.c7;generalize t.count=m at *;go_in;go_wp2;go_ret;exact⟨rfl,rfl⟩
def Tb.willEnd (t:Tb)(s d:Nat)(rest:Nat->Bool):Bool:=if d=t.count then false else(t.ends (t.next s d) != -1)||rest (t.next s d)
theorem zFJ (p:Nat)(w:World)(S:Nat->Prop)(t:Tb)(g:TabN w S p t)(ok:t.OkN)(s a:Nat)(l:s<t.nst)(E:a<=t.count)(b o cap:Nat)(c:Nat->Bool)(j:∀i,i<t.nst->w.cell? ⟨b,o+i,none⟩=some (bool (c i))):
  Calls prog 139 #[pX p,iX s,iX a,slice (some ⟨b,o,none⟩) t.nst cap] w λe w'=>e=returned (bool (t.willEnd s a c))/\w'=w:=by
 have k:=vl g;have F:=vl j;by_cases h:a=t.count
 ·have A:((a:Int)==(t.count:Int))=true:=by simp[h]
  have f:Hid (t.willEnd s a c=false):=if_pos h;go_in;go_wp2_with fail;refine(zCK p w S t k).mono ?_;rintro e w1 ⟨rfl,rfl⟩;go_wp2;go_ret;exact⟨qT f.symm,rfl⟩
 ·have A:((a:Int)==(t.count:Int))=false:=by rw[hZ];omega
  have m:a<t.count:=by omega
  have f:Hid (t.willEnd s a c=((t.ends (t.next s a) != -1)||c (t.next s a))):=if_neg h;obtain⟨_,G,H,I,J,K,rfl,L,M,q⟩:=g.c8;obtain⟨u,N,b2,B,O,P,rfl,Q,R,r⟩:=q s l;obtain⟨_,T,C,D,U,V,rfl,W,X,v⟩:=g.c9;have y:=ok.next s a l m
  have Y:cX w b2 (B+a)=some (iX (t.next s a:Nat)):=r a m;have aa:cX w C (D+t.next s a)=some (iX (t.ends (t.next s a))):=v _ y;have ab:cX w b (o+t.next s a)=some (bool (c (t.next s a))):=j _ y;clear q r v g j ok h;generalize t.next s a=to at *
  generalize t.ends to=x at *;generalize c to=ac at *;generalize t.nst=n at *;have ad:(s:Int)<(n:Int):=by omega
  have ae:(a:Int)<(t.count:Int):=by omega
  have af:(to:Int)<(n:Int):=by omega
  cases z:(x != -1) with
  |true=>
   rw[z] at f;go_enter func139,ntmps139
   go_wp2_with fail;refine(zCK p w S t k).mono ?_;rintro e w1 ⟨rfl,rfl⟩;go_wp2_with fail;go_ret;exact⟨qT f.symm,rfl⟩
  |false=>
   rw[z] at f;go_enter func139,ntmps139
   go_wp2_with fail;refine(zCK p w S t k).mono ?_;rintro e w1 ⟨rfl,rfl⟩;go_wp2_with fail;go_ret;exact⟨qT f.symm,rfl⟩
def OwnF (w:World)(H:Nat)(v:Value)(n:Nat)(f:Nat->Bool):Prop:=w.ownsRow H 4 1 v n ((List.range n).map λi=>bool (f i))
theorem OwnF.nil (w:World)(H:Nat)(f:Nat->Bool):OwnF w H (slice none 0 0) 0 f:=ownsRow_nil _ _ _ _
theorem OwnF.snoc {w:World}{H g cap n:Nat}{f:Nat->Bool}{x:Bool}(a:w.ownsRow H 4 1 (slice (qX g) (n+1) cap) (n+1) ((List.range n).map (λi=>bool (f i))++[bool x]))(b:f n=x):OwnF w H (slice (qX g) (n+1) cap) (n+1) f:=by
 unfold OwnF;rw[jV,b];exact a
theorem OwnF.form {w:World}{H n:Nat}{v:Value}{f:Nat->Bool}(a:OwnF w H v n f):∃ao cap,v=slice ao n cap:=zI a
def Tb.more (t:Tb)(k:Nat)(l:Nat->Bool)(x:Nat):Bool:=t.willEnd (x%t.nst) (x/(k*t.nst)) λto=>l (x%(k*t.nst)/t.nst*t.nst+to)
theorem zJ8 (t:Tb)(k:Nat)(l:Nat->Bool)(a i s:Nat)(m:i<k)(b:s<t.nst):t.more k l (a*(k*t.nst)+i*t.nst+s)=t.willEnd s a λto=>l (i*t.nst+to):=by
 have e:0<t.nst:=by omega
 have c:i*t.nst+s<k*t.nst:=by
  have:=Nat.mul_le_mul_right t.nst (show i+1<=k by omega);rw[Nat.add_mul] at this;omega
 have f:(a*(k*t.nst)+i*t.nst+s)%t.nst=s:=by
  rw[Nat.add_assoc,Nat.mul_comm k,<-Nat.mul_assoc,Nat.mul_comm a,Nat.mul_assoc,Nat.mul_comm i,<-Nat.add_assoc,<-Nat.mul_add,Nat.mul_add_mod];exact Nat.mod_eq_of_lt b
 have g:(a*(k*t.nst)+i*t.nst+s)/(k*t.nst)=a:=by
  rw[Nat.add_assoc,Nat.mul_comm a,Nat.mul_add_div (by omega),Nat.div_eq_of_lt c];omega
 have h:(a*(k*t.nst)+i*t.nst+s)%(k*t.nst)=i*t.nst+s:=by
  rw[Nat.add_assoc,Nat.mul_comm a,Nat.mul_add_mod,Nat.mod_eq_of_lt c]
 have j:(i*t.nst+s)/t.nst=i:=by
  rw[Nat.mul_comm i,Nat.mul_add_div e,Nat.div_eq_of_lt b];omega
 unfold Tb.more;rw[f,g,h,j]
theorem zCT (p:Nat)(w:World)(S:Nat->Prop)(t:Tb)(F:TabN w S p t)(I:∀k,S k->k<w.heap.size)(ok:t.OkN)(af:1<=t.nst)(k:Nat)(ag:1<=k)(l:Nat->Bool)(b o cap:Nat)(ah:S b)(ai:∀i,i<k*t.nst->w.cell? ⟨b,o+i,none⟩=some (bool (l i)))(aR:k*t.nst<=cap)(aS:cap<=maxLen)(aT:(t.count+1)*(k*t.nst)<=800000):
  Calls prog 102 #[pX p,slice (some ⟨b,o,none⟩) (k*t.nst) cap] w λe w'=>∃u,e=returned u/\OwnF w' w.heap.size u ((t.count+1)*(k*t.nst)) (t.more k l)/\Grew w w':=by
 obtain⟨aj,ak,al,am,an⟩:=info_parts qU;have ap:=vl F;have aq:=vl ai;have J:=I p F.safe;have ar:=I b ah;have au:=F.c7;obtain⟨_,P,av,aw,ax,aU,rfl,aV,aW,_⟩:=F.c8;have ay:Hid (∀a i s,i<k->s<t.nst->t.more k l (a*(k*t.nst)+i*t.nst+s)=t.willEnd s a λto=>l (i*t.nst+to)):=λa i s=>zJ8 t k l a i s;have aX:Hid (k*t.nst=k*t.nst):=rfl;have aY:=ok.count;have aZ:=ok.nst;have az:Hid t.OkN:=ok;have a0:=Nat.mul_pos ag af;generalize aA:k*t.nst=c at *;generalize a1:t.more k l=f at *;generalize aB:t.nst=n at *;generalize aC:t.count=cnt at *;have Q:=vl aA;have L:=vl aB;have aD:=vl aC;have a2:c<=800000:=by
  have:=Nat.mul_le_mul_right c (show 1<=cnt+1 by omega);omega
 go_in;go_wp2;go_loopg [5,6] (cnt+1) (λq B i wr=>∃a D:Nat,q=cnt+1-a/\a<=cnt+1/\i=iX (a:Int)/\D=a*c/\OwnF wr w.heap.size B D f/\Grew w wr)
 case atStart=>exact⟨0,0,rfl,lX,rfl,(Nat.zero_mul _).symm,OwnF.nil _ _ _,Keep.refl _ _ _⟩
 case round=>
  obtain⟨a,D,v,a3,rfl,G,g,j⟩:=hrel;have y:Hid (gk=cnt+1-a/\D=a*c/\OwnF wr w.heap.size u5 D f/\Grew w wr):=⟨v,G,g,j⟩
  have a4:=(gW (j.block p J (by omega))).trans au;obtain⟨ao,z,C⟩:=g.form;subst C;by_cases aE:a<=cnt
  ·have aF:(a:Int)<=(cnt:Int):=by omega
   have a5:D+c<=(cnt+1)*c:=by
    have:=Nat.mul_le_mul_right c (show a+1<=cnt+1 by omega);rw[Nat.add_mul] at this;omega
   clear v G g j;go_wp2;go_loopg [5,7] k (λq B i wr=>∃r fr:Nat,q=k-r/\r<=k/\i=iX (fr:Int)/\fr=r*n/\OwnF wr w.heap.size B (D+fr) f/\Grew w wr)
   case atStart=>exact⟨0,0,rfl,lX,rfl,(Nat.zero_mul _).symm,y.2.2.1,y.2.2.2⟩
   case round=>
    obtain⟨r,fr,v,a6,rfl,H,g,j⟩:=hrel;have A:Hid (gk=k-r/\fr=r*n/\OwnF wr w.heap.size u5 (D+fr) f/\Grew w wr):=⟨v,H,g,j⟩
    have R:=(gW (j.block p J (by omega))).trans P;obtain⟨ao,z,C⟩:=g.form;subst C;by_cases aG:r<k
    ·have M:fr+n<=c:=by
      have:=Nat.mul_le_mul_right n (show r+1<=k by omega);rw[Nat.add_mul,Q.out] at this;omega
     have aH:(fr:Int)<(c:Int):=by omega
     have a7:(fr:Int)+(n:Int)<=(c:Int):=by omega
     have a8:(c:Int)<=(cap:Int):=by omega
     clear v H g j;go_wp2_with fail;rw[Nat.add_sub_cancel_left];clear R;go_loopg [5,44] n (λq B i wr=>∃s:Nat,q=n-s/\s<=n/\i=iX (s:Int)/\OwnF wr w.heap.size B (D+fr+s) f/\Grew w wr)
     case atStart=>exact⟨0,rfl,lX,rfl,A.2.2.1,A.2.2.2⟩
     case round=>
      obtain⟨s,v,a9,rfl,g,j⟩:=hrel;have N:Hid (gk=n-s/\Grew w wr):=⟨v,j⟩
      obtain⟨ao,z,C⟩:=g.form;subst C;have aI:w.heap.size<=wr.heap.size:=j.size;have T:Hid (wr.ownsRow w.heap.size 4 1 (slice ao (D+fr+s) z) (D+fr+s) ((List.range (D+fr+s)).map λi=>bool (f i))):=g;by_cases U:s<n
      ·have aJ:(s:Int)<(n:Int):=by omega
       have aK:Hid (Ca 139 #[pX p,iX s,iX a,slice (some ⟨b,o+fr,none⟩) n (cap-fr)] wr λe w'=>e=returned (bool (t.willEnd s a λto=>l (fr+to)))/\w'=wr):=by
        have V:∀x,x<w.heap.size->wr.heap[x]? =w.heap[x]? :=λx O=>j.block x O (by omega);have m:=zFJ p wr S t (ap.keep λx O=>V x (I x O)) az s a (by rw[L.out];exact U) (by rw[aD.out];exact aE) b (o+fr) (cap-fr) (λto=>l (fr+to)) (by
         intro i aL;rw[L.out] at aL;rw[World.cell?_of_block (V b ar),Nat.add_assoc];exact aq (fr+i) (by omega))
        rw[L.out] at m;exact m
       have aM:Hid (f (D+fr+s)=t.willEnd s a λto=>l (fr+to)):=by
        have m:=ay a r s aG U;rw[<-y.out.2.1,<-A.out.2.1] at m;exact m
       clear v g j;generalize (t.willEnd s a λto=>l (fr+to))=x at *;go_wp2_with fail;refine aK.mono ?_;rintro e w1 ⟨rfl,rfl⟩;go_wp2_with (first|(at_builtin;refine wpList_append_lies _ rfl _ _ 28 rfl (w.heap.size) 4 aj (bool false) 1 1 underlying28 ak al am an rfl (by decide) _ _ _ rfl (T.alloc _) ⟨w1.heap.size,0,none⟩ 1 1 [bool x] rfl rfl (cell_one_new _ _ _) (by intro u W;simp at W;subst W;rfl) (by decide) (by unfold maxLen;omega) (by omega) (by simp;omega) _ rfl ?_;intro aN aO w2 X Y ba bb;have aa:=xQ T Y aI))
       have ab:Hid (OwnF w2 w.heap.size (slice (qX aN) (D+fr+s+1) aO) (D+fr+s+1) f/\Grew w w2):=⟨OwnF.snoc X aM,N.2.trans (xP aa)⟩
       clear X Y aa;go_wp2_with fail;go_roundg (n-(s+1))
       case measure=>rw[N.out.1];omega
       case rel=>exact⟨s+1,rfl,by omega,by go_num,ab.1,ab.2⟩
      ·have aJ:(n:Int)<=(s:Int):=by omega
       have ac:s=n:=by omega
       have E:Hid (OwnF wr w.heap.size (slice ao (D+fr+s) z) (D+(fr+n)) f):=by
        have m:=g;rw[ac] at m ⊢;rw[Nat.add_assoc] at m;rw[Nat.add_assoc];exact m
       have aP:Hid (fr+n=(r+1)*n):=by show _=_;rw[A.out.2.1,Nat.add_mul];omega
       have R:cX wr p 8=some (slice (some ⟨av,aw,none⟩) n ax):=(gW (j.block p J (by omega))).trans P;clear v g j ac;go_wp2_with fail;go_roundg (k-(r+1))
       case measure=>rw[A.out.1];omega
       case rel=>exact⟨r+1,fr+n,rfl,by omega,by go_num,aP,E,N.2⟩
    ·have ad:r=k:=by omega
     have M:fr=c:=by rw[H,ad];exact Q
     have aH:(c:Int)<=(fr:Int):=by omega
     have E:Hid (OwnF wr w.heap.size (slice ao (D+fr) z) (D+c) f):=by
      have m:=g;rw[M] at m ⊢;exact m
     have aQ:Hid (D+c=(a+1)*c):=by show _=_;rw[y.out.2.1,Nat.add_mul];omega
     clear v H g j M ad;go_wp2_with fail;go_roundg (cnt+1-(a+1))
     case measure=>rw[y.out.1];omega
     case rel=>exact⟨a+1,D+c,rfl,by omega,by go_num,aQ,E,A.2.2.2⟩
  ·have ae:a=cnt+1:=by omega
   have aF:(cnt:Int)<(a:Int):=by omega
   have E:Hid (OwnF wr w.heap.size (slice ao D z) ((cnt+1)*c) f):=by
    have m:=g;rw[G,ae] at m ⊢;exact m
   clear v G g j ae;go_wp2_with fail;go_ret;exact⟨_,rfl,E,y.2.2.2⟩
theorem zP {H:Nat}(w:World)(g i:Nat)(x:Value)(a:H<=g):Keep H H w (w.setCell ⟨g,i,none⟩ x):=⟨rfl,rfl,by simp[World.setCell],λk b _=>lJ _ _ _ _ (by show k≠g;omega)⟩
theorem zAk (a:Value)(c:a.cells=#[a])(n:Nat):(madeCells a.cells n).toList=(List.range n).map λ_=>a:=by
 rw[c,toList_madeCells_one];exact(List.eq_replicate_iff.2 ⟨by simp,by intro b d;obtain⟨_,_,e⟩:=List.mem_map.1 d;exact e.symm⟩).symm
def xN (f:Nat->Bool):Nat->Nat->Nat
 |0,_=>0
 |i+1,j=>if f i=true/\j=i/8 then xN f i j+2^(i%8) else xN f i j
theorem zH8 (f:Nat->Bool)(i j:Nat)(b:i<=8*j):xN f i j=0:=by
 induction i with
 |zero=>rfl
 |succ i a=>rw[xN,if_neg (by omega),a (by omega)]
theorem zDz (f:Nat->Bool)(i j:Nat)(d:8*j<=i)(g:i<=8*j+8):xN f i j<2^(i-8*j):=by
 induction i with
 |zero=>simp[xN]
 |succ i a=>
  by_cases e:8*j=i+1
  ·rw[zH8 f (i+1) j (by omega)]
   exact Nat.pow_pos (by decide)
  ·have k:=a (by omega) (by omega)
   have b:i%8=i-8*j:=by omega
   have c:i+1-8*j=(i-8*j)+1:=by omega
   rw[xN,c,Nat.pow_succ];split
   ·rw[b];omega
   ·omega
theorem zD4 (f:Nat->Bool)(i j:Nat):xN f i j<256:=by
 induction i with
 |zero=>simp[xN]
 |succ i a=>
  rw[xN];split
  ·rename_i d
   have b:=zDz f i j (by omega) (by omega);have c:i%8=i-8*j:=by omega
   rw[<-c] at b;have e:2^(i%8)<=2^7:=kG (by decide) (by omega);omega
  ·exact a
theorem zM6 (f:Nat->Bool)(i:Nat):bits BinOp.or IntKind.u8 (xN f i (i/8):Nat) ((2^(i%8):Nat):Int)=((xN f i (i/8)+2^(i%8):Nat):Int):=by
 have b:=zD4 f i (i/8);have e:2^(i%8)<=2^7:=kG (by decide) (by omega);have a:=zDz f i (i/8) (by omega) (by omega);have c:i%8=i-8*(i/8):=by omega
 rw[<-c] at a;rw[u8_or_nat _ _ b (by omega),Nat.or_comm]
 congr 1
 rw[Nat.add_comm];have d:=Nat.two_pow_add_eq_or_of_lt a 1;simpa using d.symm
theorem zL0 (f:Nat->Bool)(i:Nat):bits BinOp.or IntKind.u8 (xN f i (i/8):Nat) ((2:Int)^(i%8)%256)=((xN f i (i/8)+2^(i%8):Nat):Int):=by
 rw[<-zM6];have b:2^(i%8)<=2^7:=kG (by decide) (by omega);have e:((2:Int)^(i%8)%256)=((2^(i%8):Nat):Int):=by
  have a:((2^(i%8):Nat):Int)=(2:Int)^(i%8):=by simp
  rw[<-a];generalize 2^(i%8)=c at *;omega
 rw[e]
theorem zGY (w:World)(b o cap n:Nat)(f:Nat->Bool)(z:∀i,i<n->w.cell? ⟨b,o+i,none⟩=some (bool (f i)))(A:b<w.heap.size)(V:1<=n)(W:n<=800000):
  Calls prog 103 #[slice (some ⟨b,o,none⟩) n cap] w λe w'=>∃u,e=returned u/\Row w' w.heap.size 5 u ((n+7)/8) (λj=>int .u8 (xN f n j:Nat))/\Grew w w':=by
 obtain⟨B,C,D,E,F⟩:=info_parts zN9;have G:=vl z;obtain⟨w1,H,I,d⟩:=run_makeSlice_full (P:=prog) w w.heap.size 68 5 B _ 1 underlying68 C D E i64 i64 ((n+7)/8) (by omega) (by rw[F];omega) (by unfold maxLen;omega) lQ;have J:(((n+7)/8:Nat):Int)=((n:Int)+7)/8:=by omega
 rw[J] at H;have s:Hid (Row w1 w.heap.size 5 (slice (qX w.heap.size) ((n+7)/8) ((n+7)/8)) ((n+7)/8) (λj=>int .u8 (xN f 0 j:Nat))/\Grew w w1):=by
  refine⟨?_,⟨d.os,d.output,d.size,λk K _=>d.block k K (by simp)⟩⟩;have l:=I;rw[Nat.mul_one,zAk _ rfl] at l;exact l
 go_in;go_wp2;go_loopg [13] n (λq i wr=>∃j:Nat,q=n-j/\j<=n/\i=iX (j:Int)/\Row wr w.heap.size 5 (slice (qX w.heap.size) ((n+7)/8) ((n+7)/8)) ((n+7)/8) (λk=>int .u8 (xN f j k:Nat))/\Grew w wr)
 case atStart=>exact⟨0,rfl,lX,rfl,s.1,s.2⟩
 case round=>
  obtain⟨j,L,X,rfl,m,t⟩:=hrel;have a:Hid (gk=n-j/\Row wr w.heap.size 5 (slice (qX w.heap.size) ((n+7)/8) ((n+7)/8)) ((n+7)/8) (λk=>int .u8 (xN f j k:Nat))/\Grew w wr):=⟨L,m,t⟩
  by_cases M:j<n
  ·have N:(j:Int)<(n:Int):=by omega
   have v:=(gW (t.block b A (by omega))).trans (G j M);obtain⟨g,Y,O,aa,ab,ac,ad,Q,R⟩:=m.get (by omega);have S:g=w.heap.size:=by injection O with c _ _;injection c with c;injection c with c;exact c.symm
   subst S;have ae:=Q (j/8) (by omega);have af:=R (j/8);have T:=vl <| zL0 f j;have x:Hid (∀k,xN f (j+1) k=if f j=true/\k=j/8 then xN f j k+2^(j%8) else xN f j k):=λk=>rfl;cases p:f j with
   |true=>
    rw[p] at v;have r:Hid (∀k,xN f (j+1) k=if k=j/8 then xN f j k+2^(j%8) else xN f j k):=by
     intro k;rw[x.out k,p];simp
    have ag:(j:Int)/8<((n:Int)+7)/8:=by omega
    have ah:(0:Int)<=(j:Int)/8:=by omega
    go_wp2;go_region;go_wp2;go_roundg (n-(j+1))
    case measure=>rw[a.out.1];omega
    case rel=>
     refine⟨j+1,rfl,by omega,by go_num,?_,a.2.2.trans (Keep.trans (zP _ _ _ _ lQ) (Keep.drew _))⟩;have l:=a.2.1.set (j/8) (int .u8 (bits BinOp.or IntKind.u8 (xN f j (j/8):Nat) ((2:Int)^(j%8)%256)));refine Row.congr (w:=(wr.setCell ⟨w.heap.size,j/8,none⟩ (int .u8 (bits BinOp.or IntKind.u8 (xN f j (j/8):Nat) ((2:Int)^(j%8)%256)))).drew) l λk _=>?_;rw[r.out k,T.out];by_cases e:k=j/8
     ·subst e;simp
     ·simp[e]
   |false=>
    rw[p] at v;have r:Hid (∀k,xN f (j+1) k=xN f j k):=by
     intro k;rw[x.out k,p];simp
    go_wp2;go_roundg (n-(j+1))
    case measure=>rw[a.out.1];omega
    case rel=>exact⟨j+1,rfl,by omega,by go_num,a.2.1.congr λk _=>by rw[r.out k],a.2.2⟩
  ·have y:j=n:=by omega
   have N:(n:Int)<=(j:Int):=by omega
   have U:Hid (Row wr w.heap.size 5 (slice (qX w.heap.size) ((n+7)/8) ((n+7)/8)) ((n+7)/8) (λk=>int .u8 (xN f n k:Nat))):=by rw[<-y];rw[y] at m ⊢;exact m
   go_wp2;go_ret;exact⟨_,rfl,U,a.2.2⟩
theorem zLK (a k:Nat):1<=zG a k:=by
 induction k with
 |zero=>exact lQ
 |succ k b=>
  rw[zG];split
  ·exact Nat.mul_le_mul b (by omega:1<=a+1)
  ·exact b
def Mem.blocks (w:World)(H b:Nat)(k:Nat):Prop:=k=b\/(H<=k/\k<w.heap.size)
theorem Row.intsAt {w:World}{H b:Nat}{e:TypeId}{v:Value}{n:Nat}{f:Nat->Int}(a:Row w H e v n λi=>iX (f i))(c:0<n):IntsAt w (Mem.blocks w H b) v n f:=by
 obtain⟨g,cap,d,j,k,l,m,o,_⟩:=a.get c;exact⟨g,0,cap,.inr ⟨j,k⟩,d,l,m,λi p=>by rw[Nat.zero_add];exact o i p⟩
theorem Row.boolsAt {w:World}{H b:Nat}{e:TypeId}{v:Value}{n:Nat}{f:Nat->Bool}(a:Row w H e v n λi=>bool (f i))(c:0<n):BoolsAt w (Mem.blocks w H b) v n f:=by
 obtain⟨g,cap,d,j,k,l,m,o,_⟩:=a.get c;exact⟨g,0,cap,.inr ⟨j,k⟩,d,l,m,λi p=>by rw[Nat.zero_add];exact o i p⟩
theorem Row.bytesAt {w:World}{H b:Nat}{e:TypeId}{v:Value}{n:Nat}{f:Nat->Nat}(a:Row w H e v n λi=>int .u8 (f i:Nat))(c:0<n):BytesAt w (Mem.blocks w H b) v n f:=by
 obtain⟨g,cap,d,j,k,l,m,o,_⟩:=a.get c;exact⟨g,0,cap,.inr ⟨j,k⟩,d,l,m,λi p=>by rw[Nat.zero_add];exact o i p⟩
theorem Mem.tabAt {w:World}{H b:Nat}{c:Tc}{t:Tb}(d:Mem w H b c t)(l:1<=t.nmode)(f:1<=t.nrule)(e:1<=t.nst)(m:1<=t.count)(o:1<=t.nlong):TabAt w (Mem.blocks w H b) b t:=by
 have a:=d.tp;obtain⟨rv,p,q⟩:=d.next
 have r:RowsAt w (Mem.blocks w H b) c.next t.nst t.count λi k=>t.next i k:=by
  obtain⟨g,cap,s,u,v,x,y,z,_⟩:=p.get e;exact⟨g,0,cap,.inr ⟨u,v⟩,s,x,y,λi j=>⟨rv i,by rw[Nat.zero_add];exact z i j,(q i j).intsAt m⟩⟩
 refine⟨.inl rfl,?_,?_,?_,⟨_,?_,d.starts.intsAt l⟩,⟨_,?_,d.acts.intsAt f⟩,⟨_,?_,d.pushed.intsAt f⟩,⟨_,?_,d.kinds.intsAt (by decide)⟩,?_,⟨_,?_,r⟩,⟨_,?_,d.ends.intsAt e⟩,⟨_,?_,d.live.boolsAt e⟩,?_,⟨_,?_,d.longer.bytesAt o⟩⟩
 ·rw[a.get_stream,d.stream]
 ·rw[a.get_ahead,d.ahead]
 ·rw[a.get_hold,d.hold]
 ·unfold xB at a;simp[World.cell?,a]
 ·unfold xB at a;simp[World.cell?,a]
 ·unfold xB at a;simp[World.cell?,a]
 ·unfold xB at a;simp[World.cell?,a]
 ·unfold xB at a;simp[World.cell?,a,d.count]
 ·unfold xB at a;simp[World.cell?,a]
 ·unfold xB at a;simp[World.cell?,a]
 ·unfold xB at a;simp[World.cell?,a]
 ·unfold xB at a;simp[World.cell?,a,d.rows]
 ·unfold xB at a;simp[World.cell?,a]
structure Tb.Fine (t:Tb):Prop where
 ok:t.Ok
 nst:1<=t.nst
 count:1<=t.count
 long1:1<=t.nlong
 long2:t.nlong<=75000
 rule1:1<=t.nrule
 rule2:t.nrule<=8
 mode2:t.nmode<=3
 act:∀i,i<t.nrule->t.act i<4
structure LexAt (w:World)(S:Nat->Prop)(x p:Nat)(t:Tb):Prop where
 cell:w.cell? ⟨x,0,none⟩=some (pointer (some ⟨p,0,none⟩))
 lt:x<w.heap.size
 tab:TabAt w S p t
 safe:∀k,S k->k<w.heap.size
theorem LexAt.keep {w w':World}{S:Nat->Prop}{x p:Nat}{t:Tb}(a:LexAt w S x p t)(e:∀k,k<w.heap.size->w'.heap[k]? =w.heap[k]?)(c:w.heap.size<=w'.heap.size):LexAt w' S x p t:=
 ⟨(gW (e x a.lt)).trans a.cell,lZ a.lt c,a.tab.keep λk b=>e k (a.safe k b),λk b=>lZ (a.safe k b) c⟩
theorem LexAt.grown {w w':World}{S:Nat->Prop}{x p:Nat}{t:Tb}(a:LexAt w S x p t)(e:Grew w w'):LexAt w' S x p t:=a.keep (λk b=>e.block k b (by omega)) e.size
end Go.Proofs.YtbjcfkdnjaiclaaGreat
