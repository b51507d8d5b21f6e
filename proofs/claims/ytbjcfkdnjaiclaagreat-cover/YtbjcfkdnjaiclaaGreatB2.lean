import Derived.Deep.DrawnRows
import Derived.Deep.LoopGhost
import Derived.Deep.RegionLaw
import Derived.Deep.RegionWith
import Derived.Laws.IdiomStrings
import Derived.Laws.MakeOwn
import Derived.Laws.OwnMore
import Derived.StillTactics
import Derived.Test.YtbjcfkdnjaiclaaGreatB0
import Derived.Test.YtbjcfkdnjaiclaaGreatB1
/- Parts of the proof. -/
set_option linter.unusedVariables false
set_option linter.unusedSimpArgs false
set_option maxHeartbeats 4000000
set_option maxRecDepth 100000
namespace Go.Proofs.YtbjcfkdnjaiclaaGreat
open Go.RowKit Go.Proofs.Tryz Go.World
section
attribute [local go_sem ↓] Go.wp_at_zero Go.wp_at_succ
def yP (rules:Nat)(r:Int):Int:=if r=-1 then r else r+rules
theorem zNS (w0 w:World)(H p bx:Nat)(c0 c:Tc)(kinds acts pushed starts ends:List Int)(next:List (List Int))(hG:Gt w H p c kinds acts pushed starts ends next)(nv rv st:Value)(S:Nat->Prop)(rl:List Int)(hbx:w.heap[bx]? =some (.cells #[nv,rv,st] 127))(hR:Ints w S rv rl)(hS:∀k,S k->k<H∧k≠p)(hT:Turn H p w0 c0 w c)
  (rules:Nat) (hr8:rules<=8) (hel:ends.length+rl.length<=200) (hrb:∀i,i<rl.length->-1<=rl.getD i 0∧rl.getD i 0<=8)
  {u1 u3 u5 u6 u7 u8 u9 u10 u11 u12 u13 u14 u15 u16 u17 u18 u19 u20 u21 u22 u23 u24 u25 u26 u27 u28 u29 u30 u31 u32 u33 u34 u35 u36 u37 u38 u39 u40 u41 u42 u43 u44 u45 u46 u47 u48 u49 u50 u51 u52 u53 u54 u55 u56 u57 u58 u59 u60 u61 u62 u63 u64 u65 u66 u67 u68 u69 u70 u71 u72:Value}:
  Code.wp prog (yQ 4 ((f64.body).getD .skip)) (bodyPost prog f64 fun e w'=>e=.returned (.tuple #[])∧∃c',Gt w' H p c' kinds acts pushed starts (ends++rl.map (yP rules)) next∧Turn H p w0 c0 w' c')
   ⟨(.pointer (some ⟨p,0,none⟩)::u1:: .int .i64 rules::u3:: .pointer (some ⟨bx,0,none⟩)::u5::u6::u7::u8::u9::u10::u11::u12::u13::u14::u15::u16::u17::u18::u19::u20::u21::u22::u23::u24::u25::u26::u27::u28::u29::u30::u31::u32::u33::u34::u35::u36::u37::u38::u39::u40::u41::u42::u43::u44::u45::u46::u47::u48::u49::u50::u51::u52::u53::u54::u55::u56::u57::u58::u59::u60::u61::u62::u63::u64::u65::u66::u67::u68::u69::u70::u71::u72::[]).toArray,[]⟩ w:=by
 conv=>arg 2;whnf
 obtain⟨i0,hi0,hz0,hz1,hz2⟩:=info_parts yH;obtain⟨ar,cr,rfl,hcr,hmr,hRc⟩:=hR;have HR:=vl hRc;have HG:Hid (Gt w H p c kinds acts pushed starts ends next∧Turn H p w0 c0 w c):=⟨hG,hT⟩
 have HB:=vl hrb;have yb:w.cell? ⟨bx,1,none⟩=some (.slice ar rl.length cr):=by simp[World.cell?,hbx]
 have hHH:=hG.HH;go_wp2;go_loopg [53] rl.length (fun q i wr=>∃(j:Nat) (cj:Tc),q=rl.length-j∧j<=rl.length∧i=.int .i64 (j:Int)∧Gt wr H p cj kinds acts pushed starts (ends++(rl.take j).map (yP rules)) next∧Turn H p w c wr cj)
 case atStart=>exact⟨0,c,rfl,lX,rfl,by rw[List.take_zero,List.map_nil,List.append_nil];exact HG.out.1,Turn.refl _ _ _ _⟩
 case round=>
  obtain⟨j,cj,hgk,hj,rfl,hGj,hTj⟩:=hrel;have HA:Hid (gk=rl.length-j∧Gt wr H p cj kinds acts pushed starts (ends++(rl.take j).map (yP rules)) next∧Turn H p w c wr cj):=⟨hgk,hGj,hTj⟩
  by_cases hj2:j<rl.length
  ·have i1:(j:Int)<(rl.length:Int):=by omega
   obtain⟨br,orr,rfl,hSr,hcell⟩:=HR.out j hj2;obtain⟨s1,s2⟩:=hS br hSr;have yr:=(cell?_of_block (hTj.keep.block br s1 s2)).trans hcell;obtain⟨ae,ce,hef⟩:=hGj.ends.form;have y9:wr.cell? ⟨p,9,none⟩=some (.slice ae (ends++(rl.take j).map (yP rules)).length ce):=by rw[<-hef];exact hGj.tp.get_ends
   have z9:=hGj.tp.fz 9;have HL:Hid (ends++(rl.take (j+1)).map (yP rules)=(ends++(rl.take j).map (yP rules))++[yP rules (rl.getD j 0)]):=by
    show _=_;rw[List.take_succ_eq_append_getElem hj2,List.map_append,gU,lW,lV hj2];rfl
   have hlen:(ends++(rl.take j).map (yP rules)).length<=200:=by
    rw[kX,kV,List.length_take];omega
   have OR:Hid (wr.ownsRow H 3 1 (.slice ae (ends++(rl.take j).map (yP rules)).length ce) (ends++(rl.take j).map (yP rules)).length ((ends++(rl.take j).map (yP rules)).map fun x=>.int .i64 x)):=by have:=hGj.ends;rw[hef] at this;exact this
   have HEF:=vl hef;have hszr:=hGj.HH;have lpr:=hGj.tp.lt;have hnp:some p≠Value.ownBlock (.slice ae (ends++(rl.take j).map (yP rules)).length ce):=by rw[<-hef];exact vM hGj.tp hGj.ends.raw (by decide)
   have HNP:=vl hnp;obtain⟨b1,b2⟩:=HB.out j hj2;generalize hle:ends++(rl.take j).map (yP rules)=le at *;generalize rl.getD j 0=x at *;have fin:∀(w2:World) (g cap:Nat) (y:Int),y=yP rules x->w2.ownsRow H 3 1 (.slice (some ⟨g,0,none⟩) (le.length+1) cap) (le.length+1) ((le.map fun x=>.int .i64 x)++[.int .i64 y])->(wr.alloc (.cells #[.int .i64 y] 3)).grownBy w2 (Value.ownBlock (.slice ae le.length ce))->(Value.ownBlock (.slice ae le.length ce)=some g∨g=(wr.alloc (.cells #[.int .i64 y] 3)).heap.size)->
     ∃c',Gt (w2.setCell ⟨p,9,none⟩ (.slice (some ⟨g,0,none⟩) (le.length+1) cap)) H p c' kinds acts pushed starts (ends++(rl.take (j+1)).map (yP rules)) next∧Turn H p w c (w2.setCell ⟨p,9,none⟩ (.slice (some ⟨g,0,none⟩) (le.length+1) cap)) c':=by
    intro w2 g cap y hy ho hg ha;have h:=Gt.ends_app HA.out.2.1 (w2:=w2) (g:=g) (cap:=cap) (x:=y) (OwnI.snoc ho) (fun k h1 h2=>(hg.block k (by simp;omega) (by rw[<-HEF.out];exact h2)).trans (lG _ _ _ h1)) (lY (by simp) hg.size) ⟨hg.os,hg.output⟩ (by
     rw[HEF.out];rcases ha with ha|ha
     ·exact .inl ha
     ·right;rw[ha];simp)
    rw[HL.out,<-hy];exact⟨_,h.1,HA.out.2.2.trans h.2⟩
   have FN:=vl fin;by_cases hx:x=-1
   ·have hx1:(x != -1)=false:=by simp[hx]
    have HX:Hid (x=yP rules x):=by show _=_;rw[yP,if_pos hx]
    clear hx;go_wp2_with (first|(at_builtin;refine wpList_append_lies _ rfl _ _ 45 rfl (H) 3 i0 (.int .i64 0) 1 8 underlying45 hi0 hz0 hz1 hz2 rfl (by decide) _ _ _ rfl (OR.out.alloc _) ⟨wr.heap.size,0,none⟩ 1 1 [.int .i64 x] rfl rfl (cell_one_new _ _ _) (by intro u hu;simp at hu;subst hu;rfl) (by decide) (by unfold maxLen;omega) (by omega) (by simp;omega) _ rfl ?_;intro gg cap w2 hown hgrow hat hlt2;have hPB:=hgrow.block p (by simp;omega) HNP.out;have y9':=(cell?_of_block hPB).trans ((cell?_alloc_past _ _ _ lpr).trans y9);have z9':=(frozen?_of_block hPB).trans ((frozen?_alloc_past _ _ _ lpr).trans z9);have HF:=FN.out w2 gg cap x HX.out hown hgrow hat))
    have HF2:Hid _:=HF;go_wp2;go_roundg (rl.length-(j+1))
    case measure=>rw[HA.out.1];omega
    case rel=>exact HF2.out.elim fun c' h=>⟨j+1,c',rfl,by omega,by go_num,h⟩
   ·have hx1:(x != -1)=true:=by simpa using hx
    have HX:Hid (x+rules=yP rules x):=by show _=_;rw[yP,if_neg hx]
    clear hx;go_wp2_with (first|(at_builtin;refine wpList_append_lies _ rfl _ _ 45 rfl (H) 3 i0 (.int .i64 0) 1 8 underlying45 hi0 hz0 hz1 hz2 rfl (by decide) _ _ _ rfl (OR.out.alloc _) ⟨wr.heap.size,0,none⟩ 1 1 [.int .i64 (x+(rules:Int))] rfl rfl (cell_one_new _ _ _) (by intro u hu;simp at hu;subst hu;rfl) (by decide) (by unfold maxLen;omega) (by omega) (by simp;omega) _ rfl ?_;intro gg cap w2 hown hgrow hat hlt2;have hPB:=hgrow.block p (by simp;omega) HNP.out;have y9':w2.cell? ⟨p,9,none⟩=some (.slice ae le.length ce):=(cell?_of_block hPB).trans ((cell?_alloc_past _ _ _ lpr).trans y9);have z9':w2.frozen? ⟨p,9,none⟩=false:=(frozen?_of_block hPB).trans ((frozen?_alloc_past _ _ _ lpr).trans z9);have HF:=FN.out w2 gg cap (x+(rules:Int)) HX.out hown hgrow hat))
    have HF2:Hid _:=HF;clear HF hown hgrow hat hPB y9' z9';go_wp2_with fail;go_roundg (rl.length-(j+1))
    case measure=>rw[HA.out.1];omega
    case rel=>exact HF2.out.elim fun c' h=>⟨j+1,c',rfl,by omega,by go_num,h⟩
  ·have i1:(rl.length:Int)<=(j:Int):=by omega
   have HZ:Hid (Gt wr H p cj kinds acts pushed starts (ends++rl.map (yP rules)) next):=by
    have h:=hGj;rw[List.take_of_length_le (by omega)] at h;exact h
   clear hgk hGj hTj;go_wp2_with fail;go_end0;exact⟨rfl,cj,HZ.out,HG.out.2.trans HA.out.2.2⟩
end
section
attribute [local go_sem ↓] Go.wp_at_zero Go.wp_at_succ
theorem zNT (w0 w:World)(H p bx:Nat)(c0 c:Tc)(kinds acts pushed starts ends:List Int)(next:List (List Int))(hG:Gt w H p c kinds acts pushed starts ends next)(nv rv st:Value)(S:Nat->Prop)(rl:List Int)(nx:List (List Int))(hbx:w.heap[bx]? =some (.cells #[nv,rv,st] 127))(hbr:H<=bx∧Rest w p c bx)(hN:IntRows w S nv nx)(hR:Ints w S rv rl)(hS:∀k,S k->k<H∧k≠p)(hT:Turn H p w0 c0 w c)
  (rules first:Nat) (hr8:rules<=8) (hel:ends.length+rl.length<=200) (hrb:∀i,i<rl.length->-1<=rl.getD i 0∧rl.getD i 0<=8)
  (hf:first<=200) (hnl:next.length+nx.length<=200) (hk:kinds.length=256) (hw:∀i,i<nx.length->(nx.getD i []).length=256∧∀b,b<256->0<=(nx.getD i []).getD b 0∧(nx.getD i []).getD b 0<=200)
  {u1 u3 u5 u7 u8 u9 u10 u11 u12 u13 u14 u15 u16 u17 u18 u19 u20 u21 u22 u23 u24 u25 u26 u27 u28 u29 u30 u31 u32 u33 u34 u35 u36 u37 u38 u39 u40 u41 u42 u43 u44 u45 u46 u47 u48 u49 u50 u51 u52 u53 u54 u55 u56 u57 u58 u59 u60 u61 u62 u63 u64 u65 u66 u67 u68 u69 u70 u71 u72:Value}:
  Code.wp prog (yQ 3 ((f64.body).getD .skip)) (bodyPost prog f64 fun e w'=>e=.returned (.tuple #[])∧∃c',Gt w' H p c' kinds acts pushed starts (ends++rl.map (yP rules)) (next++nx.map fun row=>zT kinds row first 256)∧Turn H p w0 c0 w' c')
   ⟨(.pointer (some ⟨p,0,none⟩)::u1:: .int .i64 rules::u3:: .pointer (some ⟨bx,0,none⟩)::u5:: .int .i64 first::u7::u8::u9::u10::u11::u12::u13::u14::u15::u16::u17::u18::u19::u20::u21::u22::u23::u24::u25::u26::u27::u28::u29::u30::u31::u32::u33::u34::u35::u36::u37::u38::u39::u40::u41::u42::u43::u44::u45::u46::u47::u48::u49::u50::u51::u52::u53::u54::u55::u56::u57::u58::u59::u60::u61::u62::u63::u64::u65::u66::u67::u68::u69::u70::u71::u72::[]).toArray,[]⟩ w:=by
 conv=>arg 2;whnf
 refine wp_seq_k ?_;intro K hK0;have HK:Hid (∀a w,_->K a w):=hK0;clear hK0;obtain⟨i0,hi0,hz0,hz1,hz2⟩:=info_parts zFk;obtain⟨an,cn,rfl,hcn,hmn,hNc⟩:=hN;have HN:Hid (∀i,i<nx.length->∃b o u,an=some ⟨b,o,none⟩∧S b∧w.cell? ⟨b,o+i,none⟩=some u∧Ints w S u (nx.getD i [])):=hNc;have HG:Hid (Gt w H p c kinds acts pushed starts ends next∧Turn H p w0 c0 w c∧Ints w S rv rl∧w.heap[bx]? =some (.cells #[.slice an nx.length cn,rv,st] 127)∧Rest w p c bx):=⟨hG,hT,hR,hbx,hbr.2⟩
 have HW:Hid (∀i,i<nx.length->(nx.getD i []).length=256∧∀b,b<256->0<=(nx.getD i []).getD b 0∧(nx.getD i []).getD b 0<=200):=hw;have HRB:Hid (∀i,i<rl.length->-1<=rl.getD i 0∧rl.getD i 0<=8):=hrb;have HKL:Hid (kinds.length=256):=hk;have yb:w.cell? ⟨bx,0,none⟩=some (.slice an nx.length cn):=by simp[World.cell?,hbx]
 have hHH:=hG.HH;have hbH:=hbr.1;clear hNc hG hbx hT hrb hR hbr hk hw;go_wp2_with fail;clear yb;go_loopg [32] nx.length (fun q i wr=>∃(j:Nat) (cj:Tc),q=nx.length-j∧j<=nx.length∧i=.int .i64 (j:Int)∧Gt wr H p cj kinds acts pushed starts ends (next++(nx.take j).map fun row=>zT kinds row first 256)∧Turn H p w c wr cj)
 case atStart=>exact⟨0,c,rfl,lX,rfl,by rw[List.take_zero,List.map_nil,List.append_nil];exact HG.out.1,Turn.refl _ _ _ _⟩
 case round=>
  obtain⟨j,cj,hgk,hj,rfl,hGj,hTj⟩:=hrel;have HA:Hid (gk=nx.length-j∧Gt wr H p cj kinds acts pushed starts ends (next++(nx.take j).map fun row=>zT kinds row first 256)∧Turn H p w c wr cj):=⟨hgk,hGj,hTj⟩
  by_cases hj2:j<nx.length
  ·have i1:(j:Int)<(nx.length:Int):=by omega
   obtain⟨br,orr,u,rfl,hSr,hcell,hrow⟩:=HN.out j hj2;obtain⟨s1,s2⟩:=hS br hSr;obtain⟨aro,crw,e0,_⟩:=hrow;have hrw:=HW.out j hj2;have yr:wr.cell? ⟨br,orr+j,none⟩=some u:=(cell?_of_block (hTj.keep.block br s1 s2)).trans hcell;rw[e0] at yr;have hrow2:Ints wr S u (nx.getD j []):=(HN.out j hj2).elim fun b h=>h.elim fun o h=>h.elim fun u' h=>by
    obtain⟨ha,hb,hc,hd⟩:=h;injection ha with ha;injection ha with e1 e2;subst e1 e2;rw[hc] at hcell;injection hcell with hcell;subst hcell;exact hd.keep fun k hk=>hTj.keep.block k (hS k hk).1 (hS k hk).2
   obtain⟨rw0,hn1,hn2⟩:=hGj.next
   obtain⟨ae,ce,hef⟩:=zE hn1;have y8:wr.cell? ⟨p,8,none⟩=some (.slice ae (next++(nx.take j).map fun row=>zT kinds row first 256).length ce):=by rw[<-hef];exact hGj.tp.get_next
   have z8:=hGj.tp.fz 8;have y6:=hGj.tp.get_kinds;have lp:p<wr.heap.size:=hGj.tp.lt;have HNP:Hid (some p≠Value.ownBlock cj.next):=vM hGj.tp hn1 (by decide);have hszr:H<=wr.heap.size:=hGj.HH;have HL:Hid ((next++(nx.take (j+1)).map fun row=>zT kinds row first 256)=(next++(nx.take j).map fun row=>zT kinds row first 256)++[zT kinds (nx.getD j []) first 256]):=by
    show _=_;rw[List.take_succ_eq_append_getElem hj2,List.map_append,gU,lW,lV hj2];rfl
   have hlen:(next++(nx.take j).map fun row=>zT kinds row first 256).length<=200:=by
    rw[kX,kV,List.length_take];omega
   have HC:Hid (∀wz,wz.Alike wr->Calls prog 99 #[.pointer (some ⟨p,0,none⟩),u,.int .i64 first] wz fun e w'=>∃u,e=.returned u∧OwnI w' wz.heap.size u (zT kinds (nx.getD j []) first 256)∧Grew wz w'):=by
    intro wz hz;have hkz:∀k:Nat,wz.heap[k]? =wr.heap[k]? :=fun k=>by rw[hz.1]
    exact zHg wz (fun k=>k<wz.heap.size) p cj.kinds u kinds (nx.getD j []) first ((cell?_of_block (hkz p)).trans y6) (by rw[hz.1];exact lp) (fun k h=>h) ((hGj.kinds.ints.keep fun k _=>hkz k).mono fun k hk=>by rw[hz.1];exact hk.1) ((hrow2.keep fun k _=>hkz k).mono fun k hk=>by rw[hz.1];exact lZ (hS k hk).1 hszr) HKL.out hrw.1 hf hrw.2
   rw[e0] at HC;have OR:Hid (wr.ownsRow H 45 1 (.slice ae (next++(nx.take j).map fun row=>zT kinds row first 256).length ce) (next++(nx.take j).map fun row=>zT kinds row first 256).length ((List.range (next++(nx.take j).map fun row=>zT kinds row first 256).length).map rw0)):=by have:=hn1;rw[hef] at this;exact this
   have HEF:Hid (cj.next=.slice ae (next++(nx.take j).map fun row=>zT kinds row first 256).length ce):=hef;have HN2:Hid (∀i,i<(next++(nx.take j).map fun row=>zT kinds row first 256).length->Fin wr (Rest wr p cj) H (rw0 i) ((next++(nx.take j).map fun row=>zT kinds row first 256).getD i [])):=hn2;clear hgk hGj hTj hef hcell hn1 hn2 hrow2 e0 y6 hrw;generalize hle:(next++(nx.take j).map fun row=>zT kinds row first 256)=le at *;clear hle;generalize nx.getD j []=row at *;generalize zT kinds row first 256=bk at *
   go_wp2_with fail;go_region_law ((first
    |(refine step_append_lies _ (by rfl) (.tmp 40) (.tmp 45) 88 (by rfl) H 45 i0 _ 1 24 underlying88 hi0 hz0 hz1 hz2 rfl (by decide) (.slice ae le.length ce) le.length ((List.range le.length).map rw0) (by simp[Act.eval,Act.put]) (OW.alloc _) ⟨w1.heap.size,0,none⟩ 1 1 [.slice a1 bk.length c1] (by simp[Act.eval,Act.put]) (by rfl) (news_of_block (cs:=#[.slice a1 bk.length c1]) (t:=45) (fr:=(0,0)) (gG w1 _)) (by simp[Value.oneCell']) (by decide) (by unfold maxLen;omega) (by omega) (by simp;omega) (w1.heap.size+1) (by simp) ?_;intro gg cap w2 hown hgrow hat hlt;have hPB:=hgrow.block p (by simp;omega) (by rw[<-HEF.out];exact HNP.out);have y8b:w2.cell? ⟨p,8,none⟩=some (.slice ae le.length ce):=(cell?_of_block hPB).trans ((cell?_alloc_past _ _ _ lp1).trans y8a);have z8b:w2.frozen? ⟨p,8,none⟩=false:=(frozen?_of_block hPB).trans ((frozen?_alloc_past _ _ _ lp1).trans z8a))
    |(go_simp;go_at_call 99;refine(HC.out _ ?_).mono ?_;exact⟨rfl,rfl,rfl⟩;rintro e w1 ⟨ux,rfl,ho1,hk1⟩;obtain⟨a1,c1,hv1⟩:=ho1.form;subst hv1;have y8a:w1.cell? ⟨p,8,none⟩=some (.slice ae le.length ce):=(cell?_of_block (hk1.block p lp (by exact kJ lp))).trans y8;have z8a:w1.frozen? ⟨p,8,none⟩=false:=(frozen?_of_block (hk1.block p lp (by exact kJ lp))).trans z8;have hsz1:H<=w1.heap.size:=lY hszr hk1.size;have lp1:p<w1.heap.size:=lZ lp hk1.size;have OW:=zJ (w:=wr) (w':=w1) OR.out ⟨hk1.os,hk1.output,hk1.size,hk1.block⟩)))
   all_goals
    have hk1':Grew wr w1:=⟨hk1.os,hk1.output,hk1.size,hk1.block⟩
    have HF:Hid (∃c',Gt (w2.setCell ⟨p,8,none⟩ (.slice (some ⟨gg,0,none⟩) (le.length+1) cap)) H p c' kinds acts pushed starts ends (next++(nx.take (j+1)).map fun row=>zT kinds row first 256)∧Turn H p w c (w2.setCell ⟨p,8,none⟩ (.slice (some ⟨gg,0,none⟩) (le.length+1) cap)) c'):=by
     have hT1:Turn H p wr cj w1 cj:=Turn.grown hk1' hszr;have hnb:∀k,cj.next.ownBlock=some k->k<wr.heap.size:=fun k hk=>(OR.out.lt k (by rw[<-HEF.out];exact hk)).2
     have hfu:Fin w1 (Rest w1 p cj) H (.slice a1 bk.length c1) bk:=by
      refine⟨qX ho1 hszr,fun g hg=>?_⟩;have hl:=ho1.lt g hg;have hl1:wr.heap.size<=g:=hl.1;refine⟨hl.2,fun e=>by omega,fun e=>?_,fun e=>?_,fun e=>?_⟩
      ·have:=(HA.out.2.1.starts.lt g e.symm).2;omega
      ·have:=hnb g e.symm;omega
      ·have:=(HA.out.2.1.ends.lt g e.symm).2;omega
     have h:=Gt.next_app (HA.out.2.1.grown hk1') rw0 (fun i hi=>(HN2.out i hi).keep hT1.rest) hfu (w2:=w2) (g:=gg) (cap:=cap) hown (fun k h1 h2=>(hgrow.block k (by simp;omega) (by rw[<-HEF.out];exact h2)).trans (lG _ _ _ h1)) (lY (by simp) hgrow.size) ⟨hgrow.os,hgrow.output⟩ (by
      rw[HEF.out];rcases hat with ha|ha
      ·exact .inl ha
      ·right;rw[ha];omega)
     rw[HL.out];exact⟨_,h.1,(HA.out.2.2.trans hT1).trans h.2⟩
    clear hown hgrow hat hPB y8a z8a y8b z8b hk1 hk1' OW ho1;go_wp2_with fail;go_roundg (nx.length-(j+1))
    case measure=>rw[HA.out.1];omega
    case rel=>exact HF.out.elim fun c' h=>⟨j+1,c',rfl,by omega,by go_num,h⟩
  ·have i1:(nx.length:Int)<=(j:Int):=by omega
   have HZ:Hid (Gt wr H p cj kinds acts pushed starts ends (next++nx.map fun row=>zT kinds row first 256)∧wr.heap[bx]? =some (.cells #[.slice an nx.length cn,rv,st] 127)∧Ints wr S rv rl∧Turn H p w0 c0 wr cj):=by
    have h:=hGj;rw[List.take_of_length_le (by omega)] at h;exact⟨h,((hTj.rest bx hbH HG.out.2.2.2.2).1).trans HG.out.2.2.2.1,HG.out.2.2.1.keep fun k hk=>hTj.keep.block k (hS k hk).1 (hS k hk).2,HG.out.2.1.trans hTj⟩
   clear hgk hGj hTj;go_wp2_with fail;apply HK.out;exact zNS w0 wr H p bx c0 cj kinds acts pushed starts ends _ HZ.out.1 _ rv st S rl HZ.out.2.1 HZ.out.2.2.1 hS HZ.out.2.2.2 rules hr8 hel HRB.out
end
section
attribute [local go_sem ↓] Go.wp_at_zero Go.wp_at_succ
theorem zAQ (x:Int)(h1:-4611686018427387904<=x)(h2:x<=4611686018427387904):IntKind.i64.wrap x=x:=by
 simp[IntKind.wrap,IntKind.signed,IntKind.bits];omega
structure Sm.Fit (m:Sm):Prop where
 rows:∀i,i<m.next.length->(m.next.getD i []).length=256∧∀b,b<256->0<=(m.next.getD i []).getD b 0∧(m.next.getD i []).getD b 0<=200
 rules:∀i,i<m.rules.length->-1<=m.rules.getD i 0∧m.rules.getD i 0<=8
 start0:0<=m.start
 start:m.start<=200
theorem zF6 (w:World)(H p:Nat)(c:Tc)(kinds acts pushed starts ends:List Int)(next:List (List Int))(hG:Gt w H p c kinds acts pushed starts ends next)(m:Sm)(nv rv:Value)(S:Nat->Prop)(hN:IntRows w S nv m.next)(hR:Ints w S rv m.rules)(hS:∀k,S k->k<H∧k≠p)
  (rules:Nat) (hm:m.Fit) (hr8:rules<=8) (hk:kinds.length=256) (hnl:next.length+m.next.length<=200) (hel:ends.length+m.rules.length<=200) (hsl:starts.length<=3):
  Calls prog 64 #[.pointer (some ⟨p,0,none⟩),.agg #[nv,rv,.int .i64 m.start],.int .i64 rules] w fun e w'=>e=.returned (.tuple #[])∧∃c',Gt w' H p c' kinds acts pushed (starts++[(next.length:Int)+m.start]) (ends++m.rules.map (yP rules)) (next++m.next.map fun row=>zT kinds row next.length 256)∧Turn H p w c w' c':=by
 obtain⟨i0,hi0,hz0,hz1,hz2⟩:=info_parts yH;have HG:Hid (Gt w H p c kinds acts pushed starts ends next∧IntRows w S nv m.next∧Ints w S rv m.rules):=⟨hG,hN,hR⟩
 obtain⟨an,cn,rfl,hcn,hmn,_⟩:=hN;obtain⟨ar,cr,rfl,hcr,hmr,_⟩:=hR;have lp:=hG.tp.lt;have hHH:=hG.HH;obtain⟨rw0,hn1,_⟩:=hG.next
 obtain⟨ann,cnn,hnf⟩:=zE hn1;obtain⟨as_,cs,hsf⟩:=hG.starts.form;have y8:w.cell? ⟨p,8,none⟩=some (.slice ann next.length cnn):=by rw[<-hnf];exact hG.tp.get_next
 have HSF:=vl hsf;have HKL:=vl hk;have hs0:=hm.start0;have hs1:=hm.start;have HM:Hid m.Fit:=hm;go_in;apply wp_cut;intro K0 J;go_wp2;apply J.out;apply wp_cut;intro K1 HK1;obtain⟨w1,hw1,A1⟩:∃w1,w1=w.alloc (.cells #[.slice an m.next.length cn,.slice ar m.rules.length cr,.int .i64 m.start] 127)∧Hid (w1.heap[w.heap.size]? =some (.cells #[.slice an m.next.length cn,.slice ar m.rules.length cr,.int .i64 m.start] 127)∧Gt w1 H p c kinds acts pushed starts ends next∧Grew w w1):=⟨_,rfl,gG w _,HG.out.1.grown (kZ _ _ lQ),kZ _ _ lQ⟩
 have hs1z:w1.heap.size=w.heap.size+1:=by rw[hw1];simp
 have HSZ:=vl hs1z;have hszr:H<=w1.heap.size:=by omega
 have lp1:p<w1.heap.size:=by omega
 rw[<-hw1];have x8:=(cell?_of_block (A1.out.2.2.block p lp (by omega))).trans y8;clear y8 hw1 hs1z;go_wp2;apply HK1.out;apply wp_cut;intro K2 HK2;have y3:w1.cell? ⟨p,3,none⟩=some (.slice as_ starts.length cs):=by rw[<-HSF.out];exact A1.out.2.1.tp.get_starts
 have z3:=A1.out.2.1.tp.fz 3;have yb:w1.cell? ⟨w.heap.size,2,none⟩=some (.int .i64 m.start):=by simp[World.cell?,A1.out.1]
 have lb:w.heap.size<w1.heap.size:=by rw[HSZ.out];omega
 have OW:w1.ownsRow H 3 1 (.slice as_ starts.length cs) starts.length (starts.map fun x=>.int .i64 x):=by have:=A1.out.2.1.starts;rw[HSF.out] at this;exact this
 have hn200:next.length<=200:=by omega
 have HNP:=vl <| vM A1.out.2.1.tp OW (by decide);go_wp2;go_region_law ((refine step_append_lies _ (by rfl) (.tmp 20) (.tmp 25) 45 (by rfl) H 3 i0 _ 1 8 underlying45 hi0 hz0 hz1 hz2 rfl (by decide) (.slice as_ starts.length cs) starts.length (starts.map fun x=>.int .i64 x) (by simp[Act.eval,Act.put]) ((OW.alloc _).drew) ⟨w1.heap.size,0,none⟩ 1 1 [.int .i64 (IntKind.i64.wrap ((next.length:Int)+m.start))] (by simp[Act.eval,Act.put]) (by rfl) (news_of_block (cs:=#[.int .i64 (IntKind.i64.wrap ((next.length:Int)+m.start))]) (t:=3) (fr:=(0,0)) (gG w1 _)) (by simp[Value.oneCell']) (by decide) (by unfold maxLen;omega) (by omega) (by simp;omega) (w1.heap.size+1) (by simp) ?_;intro gg cap w2 hown hgrow hat hlt;have y3b:=(cell?_of_block (hgrow.block p (by simp;omega) HNP.out)).trans ((cell?_alloc_past _ _ _ lp1).trans y3);have z3b:=(frozen?_of_block (hgrow.block p (by simp;omega) HNP.out)).trans ((frozen?_alloc_past _ _ _ lp1).trans z3)))
 all_goals
  have HF:Hid (∃c',(Gt (w2.setCell ⟨p,3,none⟩ (.slice (some ⟨gg,0,none⟩) (starts.length+1) cap)) H p c' kinds acts pushed (starts++[(next.length:Int)+m.start]) ends next∧Turn H p w1 c (w2.setCell ⟨p,3,none⟩ (.slice (some ⟨gg,0,none⟩) (starts.length+1) cap)) c')):=by
   rw[zAQ ((next.length:Int)+m.start) (by omega) (by omega)] at hown;have h:=Gt.starts_app A1.out.2.1 (w2:=w2) (g:=gg) (cap:=cap) (x:=(next.length:Int)+m.start) (OwnI.snoc hown) (fun k h1 h2=>(hgrow.block k (by simp;omega) (by rw[<-HSF.out];exact h2)).trans (lG _ _ _ h1)) (lY (by simp) hgrow.size) ⟨hgrow.os,hgrow.output⟩ (by
    rw[HSF.out];rcases hat with ha|ha
    ·exact .inl ha
    ·right;rw[ha];omega)
   exact⟨_,h⟩
  clear hown hgrow hat y3b z3b y3 z3 yb OW;go_wp2_with fail;apply HK2.out;obtain⟨c',hG2,hT2⟩:=HF.out;have hT0:Turn H p w c w1 c:=Turn.grown A1.out.2.2 hHH;have hTT:=hT0.trans hT2;have hrb:Rest w1 p c w.heap.size:=by
   refine⟨lb,fun e=>by omega,fun e=>?_,fun e=>?_,fun e=>?_⟩
   ·have:=(HG.out.1.starts.lt _ e.symm).2;omega
   ·obtain⟨_,hq,_⟩:=HG.out.1.next
    have:=(hq.lt _ e.symm).2;omega
   ·have:=(HG.out.1.ends.lt _ e.symm).2;omega
  exact zNT w _ H p w.heap.size c c' kinds acts pushed _ ends next hG2 _ _ _ S m.rules m.next (((hT2.rest _ hHH hrb).1).trans A1.out.1) ⟨hHH,(hT2.rest _ hHH hrb).2⟩ (HG.out.2.1.keep fun k hk=>hTT.keep.block k (hS k hk).1 (hS k hk).2) (HG.out.2.2.keep fun k hk=>hTT.keep.block k (hS k hk).1 (hS k hk).2) hS hTT rules next.length hr8 hel HM.out.rules (by omega) hnl HKL.out HM.out.rows
end
theorem zEf (p:Nat)(w:World)(S:Nat->Prop)(t:Tb)(hT:TabAt w S p t)(ok:t.Ok)(a s:Nat)(ha:a<t.rows)(hs:s<t.nst):
  Calls prog 155 #[.pointer (some ⟨p,0,none⟩),.int .i64 a,.int .i64 s] w fun e w'=>e=.returned (.bool (t.longer a s))∧w'=w:=by
 obtain⟨_,h8,b,o,cap,hb,rfl,hcap,hml,hN⟩:=hT.c8;obtain⟨_,h12,b3,o3,cap3,hb3,rfl,hcap3,hml3,hL⟩:=hT.c12;have hm:a*t.nst+s<8*t.nlong:=by
  have h1:(a+1)*t.nst<=t.rows*t.nst:=Nat.mul_le_mul_right _ ha;have h2:=ok.long;rw[Nat.add_mul] at h1;omega
 have hx:w.cell? ⟨b3,o3+(a*t.nst+s)/8,none⟩=some (.int .u8 (t.long ((a*t.nst+s)/8):Nat)):=hL _ (by omega);have hxb:=ok.longB ((a*t.nst+s)/8) (by omega);have b1:=ok.rows;have b2:=ok.nst;have HF:Hid (t.longer a s=decide (t.long ((a*t.nst+s)/8)/2^((a*t.nst+s)%8)%2=1)):=rfl;have hp:a*t.nst<=600000:=lY (Nat.mul_le_mul (show a<=3000 by omega) b2) (by decide);generalize t.longer a s=res at *;generalize t.long ((a*t.nst+s)/8)=x at *;generalize t.nst=n at *;generalize t.nlong=nl at *;have p1:(a:Int)*(n:Int)<=600000:=by
  have e:(a:Int)*(n:Int)=((a*n:Nat):Int):=by simp
  rw[e];omega
 have p2:0<=(a:Int)*(n:Int):=by
  have e:(a:Int)*(n:Int)=((a*n:Nat):Int):=by simp
  rw[e];omega
 go_in;go_wp2;go_ret;exact⟨zKq (by rw[HF.out];exact zKA x _ hxb),rfl⟩
structure TabN (w:World)(S:Nat->Prop)(p:Nat)(t:Tb):Prop where
 safe:S p
 c7:w.cell? ⟨p,7,none⟩=some (.int .i64 t.count)
 c8:∃v,w.cell? ⟨p,8,none⟩=some v∧RowsAt w S v t.nst t.count fun i k=>t.next i k
 c9:∃v,w.cell? ⟨p,9,none⟩=some v∧IntsAt w S v t.nst fun i=>t.ends i
theorem TabN.keep {w w':World}{S:Nat->Prop}{p:Nat}{t:Tb}(h:TabN w S p t)(e:∀b,S b->w'.heap[b]? =w.heap[b]?):TabN w' S p t:=by
 have c:∀i,w'.cell? ⟨p,i,none⟩=w.cell? ⟨p,i,none⟩:=fun i=>cell?_of_block (e p h.safe);refine⟨h.safe,(c _).trans h.c7,?_,?_⟩
 ·obtain⟨v,a,b⟩:=h.c8;exact⟨v,(c _).trans a,b.keep e⟩
 ·obtain⟨v,a,b⟩:=h.c9;exact⟨v,(c _).trans a,b.keep e⟩
theorem zCR (p:Nat)(w:World)(S:Nat->Prop)(t:Tb)(hT:TabN w S p t):
  Calls prog 118 #[.pointer (some ⟨p,0,none⟩)] w fun e w'=>e=.returned (.int .i64 t.count)∧w'=w:=by
 have h:=hT.c7;generalize t.count=m at *;go_in;go_wp2;go_ret;exact⟨rfl,rfl⟩
def Tb.willEnd (t:Tb)(s d:Nat)(rest:Nat->Bool):Bool:=if d=t.count then false else(t.ends (t.next s d) != -1)||rest (t.next s d)
theorem zFK (p:Nat)(w:World)(S:Nat->Prop)(t:Tb)(hT:TabN w S p t)(ok:t.OkN)(s d:Nat)(hs:s<t.nst)(hd:d<=t.count)(b o cap:Nat)(rest:Nat->Bool)(hr:∀i,i<t.nst->w.cell? ⟨b,o+i,none⟩=some (.bool (rest i))):
  Calls prog 139 #[.pointer (some ⟨p,0,none⟩),.int .i64 s,.int .i64 d,.slice (some ⟨b,o,none⟩) t.nst cap] w fun e w'=>e=.returned (.bool (t.willEnd s d rest))∧w'=w:=by
 have HT:=vl hT;have HR:=vl hr;by_cases hdc:d=t.count
 ·have h1:((d:Int)==(t.count:Int))=true:=by simp[hdc]
  have HV:Hid (t.willEnd s d rest=false):=if_pos hdc;go_in;go_wp2_with fail;refine(zCR p w S t HT.out).mono ?_;rintro e w1 ⟨rfl,rfl⟩;go_wp2;go_ret;exact⟨qO HV.out.symm,rfl⟩
 ·have h1:((d:Int)==(t.count:Int))=false:=by rw[gQ];omega
  have hdl:d<t.count:=by omega
  have HV:Hid (t.willEnd s d rest=((t.ends (t.next s d) != -1)||rest (t.next s d))):=if_neg hdc;obtain⟨_,h8,b8,o8,cap8,hb8,rfl,hcap8,hml8,hN⟩:=hT.c8;obtain⟨u,hu,b2,o2,cap2,hb2,rfl,hcap2,hml2,hrow⟩:=hN s hs;obtain⟨_,h9,b9,o9,cap9,hb9,rfl,hcap9,hml9,hE⟩:=hT.c9;have hnx:=ok.next s d hs hdl
  have yn:w.cell? ⟨b2,o2+d,none⟩=some (.int .i64 (t.next s d:Nat)):=hrow d hdl;have ye:w.cell? ⟨b9,o9+t.next s d,none⟩=some (.int .i64 (t.ends (t.next s d))):=hE _ hnx;have yr:w.cell? ⟨b,o+t.next s d,none⟩=some (.bool (rest (t.next s d))):=hr _ hnx;clear hN hrow hE hT hr ok hdc;generalize t.next s d=to at *
  generalize t.ends to=x at *;generalize rest to=rb at *;generalize t.nst=n at *;have i1:(s:Int)<(n:Int):=by omega
  have i2:(d:Int)<(t.count:Int):=by omega
  have i3:(to:Int)<(n:Int):=by omega
  cases hx:(x != -1) with
  |true=>
   rw[hx] at HV;go_enter func139,ntmps139
   go_wp2_with fail;refine(zCR p w S t HT.out).mono ?_;rintro e w1 ⟨rfl,rfl⟩;go_wp2_with fail;go_ret;exact⟨qO HV.out.symm,rfl⟩
  |false=>
   rw[hx] at HV;go_enter func139,ntmps139
   go_wp2_with fail;refine(zCR p w S t HT.out).mono ?_;rintro e w1 ⟨rfl,rfl⟩;go_wp2_with fail;go_ret;exact⟨qO HV.out.symm,rfl⟩
def OwnF (w:World)(H:Nat)(v:Value)(n:Nat)(f:Nat->Bool):Prop:=w.ownsRow H 4 1 v n ((List.range n).map fun i=>.bool (f i))
theorem OwnF.nil (w:World)(H:Nat)(f:Nat->Bool):OwnF w H (.slice none 0 0) 0 f:=ownsRow_nil _ _ _ _
theorem OwnF.snoc {w:World}{H g cap n:Nat}{f:Nat->Bool}{x:Bool}(h:w.ownsRow H 4 1 (.slice (some ⟨g,0,none⟩) (n+1) cap) (n+1) ((List.range n).map (fun i=>.bool (f i))++[.bool x]))(hx:f n=x):OwnF w H (.slice (some ⟨g,0,none⟩) (n+1) cap) (n+1) f:=by
 unfold OwnF;rw[jS,hx];exact h
theorem OwnF.form {w:World}{H n:Nat}{v:Value}{f:Nat->Bool}(h:OwnF w H v n f):∃ao cap,v=.slice ao n cap:=zE h
def Tb.more (t:Tb)(k:Nat)(l:Nat->Bool)(x:Nat):Bool:=t.willEnd (x%t.nst) (x/(k*t.nst)) fun to=>l (x%(k*t.nst)/t.nst*t.nst+to)
theorem zMu (t:Tb)(k:Nat)(l:Nat->Bool)(d i s:Nat)(hi:i<k)(hs:s<t.nst):t.more k l (d*(k*t.nst)+i*t.nst+s)=t.willEnd s d fun to=>l (i*t.nst+to):=by
 have hn:0<t.nst:=by omega
 have h1:i*t.nst+s<k*t.nst:=by
  have:=Nat.mul_le_mul_right t.nst (show i+1<=k by omega);rw[Nat.add_mul] at this;omega
 have e1:(d*(k*t.nst)+i*t.nst+s)%t.nst=s:=by
  rw[Nat.add_assoc,Nat.mul_comm k,<-Nat.mul_assoc,Nat.mul_comm d,Nat.mul_assoc,Nat.mul_comm i,<-Nat.add_assoc,<-Nat.mul_add,Nat.mul_add_mod];exact Nat.mod_eq_of_lt hs
 have e2:(d*(k*t.nst)+i*t.nst+s)/(k*t.nst)=d:=by
  rw[Nat.add_assoc,Nat.mul_comm d,Nat.mul_add_div (by omega),Nat.div_eq_of_lt h1];omega
 have e3:(d*(k*t.nst)+i*t.nst+s)%(k*t.nst)=i*t.nst+s:=by
  rw[Nat.add_assoc,Nat.mul_comm d,Nat.mul_add_mod,Nat.mod_eq_of_lt h1]
 have e4:(i*t.nst+s)/t.nst=i:=by
  rw[Nat.mul_comm i,Nat.mul_add_div hn,Nat.div_eq_of_lt hs];omega
 unfold Tb.more;rw[e1,e2,e3,e4]
theorem zCZ (p:Nat)(w:World)(S:Nat->Prop)(t:Tb)(hT:TabN w S p t)(hS:∀k,S k->k<w.heap.size)(ok:t.OkN)(hn1:1<=t.nst)(k:Nat)(hk1:1<=k)(l:Nat->Bool)(b o cap:Nat)(hSb:S b)(hl:∀i,i<k*t.nst->w.cell? ⟨b,o+i,none⟩=some (.bool (l i)))(hcap:k*t.nst<=cap)(hcm:cap<=maxLen)(hbig:(t.count+1)*(k*t.nst)<=800000):
  Calls prog 102 #[.pointer (some ⟨p,0,none⟩),.slice (some ⟨b,o,none⟩) (k*t.nst) cap] w fun e w'=>∃u,e=.returned u∧OwnF w' w.heap.size u ((t.count+1)*(k*t.nst)) (t.more k l)∧Grew w w':=by
 obtain⟨i0,hi0,hz0,hz1,hz2⟩:=info_parts qP;have HT:=vl hT;have HL:=vl hl;have hlp:=hS p hT.safe;have hlb:=hS b hSb;have x7:=hT.c7;obtain⟨_,x8,b8,o8,cap8,hb8,rfl,hcap8,hml8,_⟩:=hT.c8;have HAT:Hid (∀d i s,i<k->s<t.nst->t.more k l (d*(k*t.nst)+i*t.nst+s)=t.willEnd s d fun to=>l (i*t.nst+to)):=fun d i s=>zMu t k l d i s;have HKN:Hid (k*t.nst=k*t.nst):=rfl;have hcb:=ok.count;have hnb:=ok.nst;have OKN:Hid t.OkN:=ok;have hKpos:=Nat.mul_pos hk1 hn1;generalize hKK:k*t.nst=K at *;generalize hff:t.more k l=f at *;generalize hnn:t.nst=n at *;generalize hcc:t.count=cnt at *;have HKK:=vl hKK;have HNN:=vl hnn;have HCC:=vl hcc;have hKb:K<=800000:=by
  have:=Nat.mul_le_mul_right K (show 1<=cnt+1 by omega);omega
 go_in;go_wp2;go_loopg [5,6] (cnt+1) (fun q mo i wr=>∃d D:Nat,q=cnt+1-d∧d<=cnt+1∧i=.int .i64 (d:Int)∧D=d*K∧OwnF wr w.heap.size mo D f∧Grew w wr)
 case atStart=>exact⟨0,0,rfl,lX,rfl,(Nat.zero_mul _).symm,OwnF.nil _ _ _,Keep.refl _ _ _⟩
 case round=>
  obtain⟨d,D,hgk,hd,rfl,hD,ho,hkp⟩:=hrel;have HA:Hid (gk=cnt+1-d∧D=d*K∧OwnF wr w.heap.size u5 D f∧Grew w wr):=⟨hgk,hD,ho,hkp⟩
  have y7:=(cell?_of_block (hkp.block p hlp (by omega))).trans x7;obtain⟨ao,cp,hv⟩:=ho.form;subst hv;by_cases hd2:d<=cnt
  ·have i1:(d:Int)<=(cnt:Int):=by omega
   have hDb:D+K<=(cnt+1)*K:=by
    have:=Nat.mul_le_mul_right K (show d+1<=cnt+1 by omega);rw[Nat.add_mul] at this;omega
   clear hgk hD ho hkp;go_wp2;go_loopg [5,7] k (fun q mo i wr=>∃ii fr:Nat,q=k-ii∧ii<=k∧i=.int .i64 (fr:Int)∧fr=ii*n∧OwnF wr w.heap.size mo (D+fr) f∧Grew w wr)
   case atStart=>exact⟨0,0,rfl,lX,rfl,(Nat.zero_mul _).symm,HA.out.2.2.1,HA.out.2.2.2⟩
   case round=>
    obtain⟨ii,fr,hgk,hii,rfl,hfr,ho,hkp⟩:=hrel;have HB:Hid (gk=k-ii∧fr=ii*n∧OwnF wr w.heap.size u5 (D+fr) f∧Grew w wr):=⟨hgk,hfr,ho,hkp⟩
    have y8:=(cell?_of_block (hkp.block p hlp (by omega))).trans x8;obtain⟨ao,cp,hv⟩:=ho.form;subst hv;by_cases hi2:ii<k
    ·have hfK:fr+n<=K:=by
      have:=Nat.mul_le_mul_right n (show ii+1<=k by omega);rw[Nat.add_mul,HKK.out] at this;omega
     have i2:(fr:Int)<(K:Int):=by omega
     have i3:(fr:Int)+(n:Int)<=(K:Int):=by omega
     have i4:(K:Int)<=(cap:Int):=by omega
     clear hgk hfr ho hkp;go_wp2_with fail;rw[Nat.add_sub_cancel_left];clear y8;go_loopg [5,44] n (fun q mo i wr=>∃s:Nat,q=n-s∧s<=n∧i=.int .i64 (s:Int)∧OwnF wr w.heap.size mo (D+fr+s) f∧Grew w wr)
     case atStart=>exact⟨0,rfl,lX,rfl,HB.out.2.2.1,HB.out.2.2.2⟩
     case round=>
      obtain⟨s,hgk,hs,rfl,ho,hkp⟩:=hrel;have HE:Hid (gk=n-s∧Grew w wr):=⟨hgk,hkp⟩
      obtain⟨ao,cp,hv⟩:=ho.form;subst hv;have hszr:w.heap.size<=wr.heap.size:=hkp.size;have OR:Hid (wr.ownsRow w.heap.size 4 1 (.slice ao (D+fr+s) cp) (D+fr+s) ((List.range (D+fr+s)).map fun i=>.bool (f i))):=ho;by_cases hs2:s<n
      ·have i5:(s:Int)<(n:Int):=by omega
       have HC:Hid (Calls prog 139 #[.pointer (some ⟨p,0,none⟩),.int .i64 s,.int .i64 d,.slice (some ⟨b,o+fr,none⟩) n (cap-fr)] wr fun e w'=>e=.returned (.bool (t.willEnd s d fun to=>l (fr+to)))∧w'=wr):=by
        have hkb:∀x,x<w.heap.size->wr.heap[x]? =w.heap[x]? :=fun x hx=>hkp.block x hx (by omega);have h:=zFK p wr S t (HT.out.keep fun x hx=>hkb x (hS x hx)) OKN.out s d (by rw[HNN.out];exact hs2) (by rw[HCC.out];exact hd2) b (o+fr) (cap-fr) (fun to=>l (fr+to)) (by
         intro i hi;rw[HNN.out] at hi;rw[World.cell?_of_block (hkb b hlb),Nat.add_assoc];exact HL.out (fr+i) (by omega))
        rw[HNN.out] at h;exact h
       have HV:Hid (f (D+fr+s)=t.willEnd s d fun to=>l (fr+to)):=by
        have h:=HAT.out d ii s hi2 hs2;rw[<-HA.out.2.1,<-HB.out.2.1] at h;exact h
       clear hgk ho hkp;generalize (t.willEnd s d fun to=>l (fr+to))=x at *;go_wp2_with fail;refine HC.out.mono ?_;rintro e w1 ⟨rfl,rfl⟩;go_wp2_with (first|(at_builtin;refine wpList_append_lies _ rfl _ _ 28 rfl (w.heap.size) 4 i0 (.bool false) 1 1 underlying28 hi0 hz0 hz1 hz2 rfl (by decide) _ _ _ rfl (OR.out.alloc _) ⟨w1.heap.size,0,none⟩ 1 1 [.bool x] rfl rfl (cell_one_new _ _ _) (by intro u hu;simp at hu;subst hu;rfl) (by decide) (by unfold maxLen;omega) (by omega) (by simp;omega) _ rfl ?_;intro gg cap2 w2 hown hgrow hat hlt2;have hB:=xP OR.out hgrow hszr))
       have O2:Hid (OwnF w2 w.heap.size (.slice (some ⟨gg,0,none⟩) (D+fr+s+1) cap2) (D+fr+s+1) f∧Grew w w2):=⟨OwnF.snoc hown HV.out,HE.out.2.trans (xN hB)⟩
       clear hown hgrow hB;go_wp2_with fail;go_roundg (n-(s+1))
       case measure=>rw[HE.out.1];omega
       case rel=>exact⟨s+1,rfl,by omega,by go_num,O2.out.1,O2.out.2⟩
      ·have i5:(n:Int)<=(s:Int):=by omega
       have hsn:s=n:=by omega
       have HZ:Hid (OwnF wr w.heap.size (.slice ao (D+fr+s) cp) (D+(fr+n)) f):=by
        have h:=ho;rw[hsn] at h ⊢;rw[Nat.add_assoc] at h;rw[Nat.add_assoc];exact h
       have HFR:Hid (fr+n=(ii+1)*n):=by show _=_;rw[HB.out.2.1,Nat.add_mul];omega
       have y8:wr.cell? ⟨p,8,none⟩=some (.slice (some ⟨b8,o8,none⟩) n cap8):=(cell?_of_block (hkp.block p hlp (by omega))).trans x8;clear hgk ho hkp hsn;go_wp2_with fail;go_roundg (k-(ii+1))
       case measure=>rw[HB.out.1];omega
       case rel=>exact⟨ii+1,fr+n,rfl,by omega,by go_num,HFR.out,HZ.out,HE.out.2⟩
    ·have hik:ii=k:=by omega
     have hfK:fr=K:=by rw[hfr,hik];exact HKK.out
     have i2:(K:Int)<=(fr:Int):=by omega
     have HZ:Hid (OwnF wr w.heap.size (.slice ao (D+fr) cp) (D+K) f):=by
      have h:=ho;rw[hfK] at h ⊢;exact h
     have HD2:Hid (D+K=(d+1)*K):=by show _=_;rw[HA.out.2.1,Nat.add_mul];omega
     clear hgk hfr ho hkp hfK hik;go_wp2_with fail;go_roundg (cnt+1-(d+1))
     case measure=>rw[HA.out.1];omega
     case rel=>exact⟨d+1,D+K,rfl,by omega,by go_num,HD2.out,HZ.out,HB.out.2.2.2⟩
  ·have hdc:d=cnt+1:=by omega
   have i1:(cnt:Int)<(d:Int):=by omega
   have HZ:Hid (OwnF wr w.heap.size (.slice ao D cp) ((cnt+1)*K) f):=by
    have h:=ho;rw[hD,hdc] at h ⊢;exact h
   clear hgk hD ho hkp hdc;go_wp2_with fail;go_ret;exact⟨_,rfl,HZ.out,HA.out.2.2.2⟩
theorem zN {H:Nat}(w:World)(g i:Nat)(x:Value)(hg:H<=g):Keep H H w (w.setCell ⟨g,i,none⟩ x):=⟨rfl,rfl,by simp[World.setCell],fun k h1 _=>lJ _ _ _ _ (by show k≠g;omega)⟩
theorem zAd (z:Value)(hz:z.cells=#[z])(n:Nat):(madeCells z.cells n).toList=(List.range n).map fun _=>z:=by
 rw[hz,toList_madeCells_one];exact(List.eq_replicate_iff.2 ⟨by simp,by intro b hb;obtain⟨_,_,h⟩:=List.mem_map.1 hb;exact h.symm⟩).symm
def xQ (f:Nat->Bool):Nat->Nat->Nat
 |0,_=>0
 |i+1,j=>if f i=true∧j=i/8 then xQ f i j+2^(i%8) else xQ f i j
theorem zHZ (f:Nat->Bool)(i j:Nat)(h:i<=8*j):xQ f i j=0:=by
 induction i with
 |zero=>rfl
 |succ i ih=>rw[xQ,if_neg (by omega),ih (by omega)]
theorem zGe (f:Nat->Bool)(i j:Nat)(h1:8*j<=i)(h2:i<=8*j+8):xQ f i j<2^(i-8*j):=by
 induction i with
 |zero=>simp[xQ]
 |succ i ih=>
  by_cases e:8*j=i+1
  ·rw[zHZ f (i+1) j (by omega)]
   exact Nat.pow_pos (by decide)
  ·have h:=ih (by omega) (by omega)
   have e1:i%8=i-8*j:=by omega
   have e2:i+1-8*j=(i-8*j)+1:=by omega
   rw[xQ,e2,Nat.pow_succ];split
   ·rw[e1];omega
   ·omega
theorem zEd (f:Nat->Bool)(i j:Nat):xQ f i j<256:=by
 induction i with
 |zero=>simp[xQ]
 |succ i ih=>
  rw[xQ];split
  ·rename_i h
   have h3:=zGe f i j (by omega) (by omega);have e1:i%8=i-8*j:=by omega
   rw[<-e1] at h3;have h4:2^(i%8)<=2^7:=kG (by decide) (by omega);omega
  ·exact ih
theorem zMo (f:Nat->Bool)(i:Nat):bits BinOp.or IntKind.u8 (xQ f i (i/8):Nat) ((2^(i%8):Nat):Int)=((xQ f i (i/8)+2^(i%8):Nat):Int):=by
 have h1:=zEd f i (i/8);have h2:2^(i%8)<=2^7:=kG (by decide) (by omega);have h3:=zGe f i (i/8) (by omega) (by omega);have e1:i%8=i-8*(i/8):=by omega
 rw[<-e1] at h3;rw[u8_or_nat _ _ h1 (by omega),Nat.or_comm]
 congr 1
 rw[Nat.add_comm];have h:=Nat.two_pow_add_eq_or_of_lt h3 1;simpa using h.symm
theorem zLr (f:Nat->Bool)(i:Nat):bits BinOp.or IntKind.u8 (xQ f i (i/8):Nat) ((2:Int)^(i%8)%256)=((xQ f i (i/8)+2^(i%8):Nat):Int):=by
 rw[<-zMo];have h2:2^(i%8)<=2^7:=kG (by decide) (by omega);have e:((2:Int)^(i%8)%256)=((2^(i%8):Nat):Int):=by
  have e1:((2^(i%8):Nat):Int)=(2:Int)^(i%8):=by simp
  rw[<-e1];generalize 2^(i%8)=z at *;omega
 rw[e]
theorem zGR (w:World)(b o cap n:Nat)(f:Nat->Bool)(hl:∀i,i<n->w.cell? ⟨b,o+i,none⟩=some (.bool (f i)))(hb:b<w.heap.size)(hn1:1<=n)(hn:n<=800000):
  Calls prog 103 #[.slice (some ⟨b,o,none⟩) n cap] w fun e w'=>∃u,e=.returned u∧Row w' w.heap.size 5 u ((n+7)/8) (fun j=>.int .u8 (xQ f n j:Nat))∧Grew w w':=by
 obtain⟨i0,hi0,hz0,hz1,hz2⟩:=info_parts zNl;have HL:=vl hl;obtain⟨w1,hmk,ho1,hg1⟩:=run_makeSlice_full (P:=prog) w w.heap.size 68 5 i0 _ 1 underlying68 hi0 hz0 hz1 .i64 .i64 ((n+7)/8) (by omega) (by rw[hz2];omega) (by unfold maxLen;omega) lQ;have ecast:(((n+7)/8:Nat):Int)=((n:Int)+7)/8:=by omega
 rw[ecast] at hmk;have HO1:Hid (Row w1 w.heap.size 5 (.slice (some ⟨w.heap.size,0,none⟩) ((n+7)/8) ((n+7)/8)) ((n+7)/8) (fun j=>.int .u8 (xQ f 0 j:Nat))∧Grew w w1):=by
  refine⟨?_,⟨hg1.os,hg1.output,hg1.size,fun k hk _=>hg1.block k hk (by simp)⟩⟩;have h:=ho1;rw[Nat.mul_one,zAd _ rfl] at h;exact h
 go_in;go_wp2;go_loopg [13] n (fun q i wr=>∃j:Nat,q=n-j∧j<=n∧i=.int .i64 (j:Int)∧Row wr w.heap.size 5 (.slice (some ⟨w.heap.size,0,none⟩) ((n+7)/8) ((n+7)/8)) ((n+7)/8) (fun k=>.int .u8 (xQ f j k:Nat))∧Grew w wr)
 case atStart=>exact⟨0,rfl,lX,rfl,HO1.out.1,HO1.out.2⟩
 case round=>
  obtain⟨j,hgk,hj,rfl,ho,hkp⟩:=hrel;have HA:Hid (gk=n-j∧Row wr w.heap.size 5 (.slice (some ⟨w.heap.size,0,none⟩) ((n+7)/8) ((n+7)/8)) ((n+7)/8) (fun k=>.int .u8 (xQ f j k:Nat))∧Grew w wr):=⟨hgk,ho,hkp⟩
  by_cases hj2:j<n
  ·have i1:(j:Int)<(n:Int):=by omega
   have yl:=(cell?_of_block (hkp.block b hb (by omega))).trans (HL.out j hj2);obtain⟨g,cp,hv,g1,g2,g3,g4,g5,g6⟩:=ho.get (by omega);have eg:g=w.heap.size:=by injection hv with e1 _ _;injection e1 with e1;injection e1 with e1;exact e1.symm
   subst eg;have yb:=g5 (j/8) (by omega);have zb:=g6 (j/8);have HOB:=vl <| zLr f j;have HN:Hid (∀k,xQ f (j+1) k=if f j=true∧k=j/8 then xQ f j k+2^(j%8) else xQ f j k):=fun k=>rfl;cases hf:f j with
   |true=>
    rw[hf] at yl;have HX:Hid (∀k,xQ f (j+1) k=if k=j/8 then xQ f j k+2^(j%8) else xQ f j k):=by
     intro k;rw[HN.out k,hf];simp
    have i2:(j:Int)/8<((n:Int)+7)/8:=by omega
    have i3:(0:Int)<=(j:Int)/8:=by omega
    go_wp2;go_region;go_wp2;go_roundg (n-(j+1))
    case measure=>rw[HA.out.1];omega
    case rel=>
     refine⟨j+1,rfl,by omega,by go_num,?_,HA.out.2.2.trans (Keep.trans (zN _ _ _ _ lQ) (Keep.drew _))⟩;have h:=HA.out.2.1.set (j/8) (.int .u8 (bits BinOp.or IntKind.u8 (xQ f j (j/8):Nat) ((2:Int)^(j%8)%256)));refine Row.congr (w:=(wr.setCell ⟨w.heap.size,j/8,none⟩ (.int .u8 (bits BinOp.or IntKind.u8 (xQ f j (j/8):Nat) ((2:Int)^(j%8)%256)))).drew) h fun k _=>?_;rw[HX.out k,HOB.out];by_cases e:k=j/8
     ·subst e;simp
     ·simp[e]
   |false=>
    rw[hf] at yl;have HX:Hid (∀k,xQ f (j+1) k=xQ f j k):=by
     intro k;rw[HN.out k,hf];simp
    go_wp2;go_roundg (n-(j+1))
    case measure=>rw[HA.out.1];omega
    case rel=>exact⟨j+1,rfl,by omega,by go_num,HA.out.2.1.congr fun k _=>by rw[HX.out k],HA.out.2.2⟩
  ·have hjn:j=n:=by omega
   have i1:(n:Int)<=(j:Int):=by omega
   have HZ:Hid (Row wr w.heap.size 5 (.slice (some ⟨w.heap.size,0,none⟩) ((n+7)/8) ((n+7)/8)) ((n+7)/8) (fun k=>.int .u8 (xQ f n k:Nat))):=by rw[<-hjn];rw[hjn] at ho ⊢;exact ho
   go_wp2;go_ret;exact⟨_,rfl,HZ.out,HA.out.2.2⟩
theorem zLg (ki k:Nat):1<=zG ki k:=by
 induction k with
 |zero=>exact lQ
 |succ k ih=>
  rw[zG];split
  ·exact Nat.mul_le_mul ih (by omega:1<=ki+1)
  ·exact ih
def Mem.blocks (w:World)(H b:Nat)(k:Nat):Prop:=k=b∨(H<=k∧k<w.heap.size)
theorem Row.intsAt {w:World}{H b:Nat}{e:TypeId}{v:Value}{n:Nat}{f:Nat->Int}(h:Row w H e v n fun i=>.int .i64 (f i))(hn:0<n):IntsAt w (Mem.blocks w H b) v n f:=by
 obtain⟨g,cap,hv,h1,h2,h3,h4,h5,_⟩:=h.get hn;exact⟨g,0,cap,.inr ⟨h1,h2⟩,hv,h3,h4,fun i hi=>by rw[Nat.zero_add];exact h5 i hi⟩
theorem Row.boolsAt {w:World}{H b:Nat}{e:TypeId}{v:Value}{n:Nat}{f:Nat->Bool}(h:Row w H e v n fun i=>.bool (f i))(hn:0<n):BoolsAt w (Mem.blocks w H b) v n f:=by
 obtain⟨g,cap,hv,h1,h2,h3,h4,h5,_⟩:=h.get hn;exact⟨g,0,cap,.inr ⟨h1,h2⟩,hv,h3,h4,fun i hi=>by rw[Nat.zero_add];exact h5 i hi⟩
theorem Row.bytesAt {w:World}{H b:Nat}{e:TypeId}{v:Value}{n:Nat}{f:Nat->Nat}(h:Row w H e v n fun i=>.int .u8 (f i:Nat))(hn:0<n):BytesAt w (Mem.blocks w H b) v n f:=by
 obtain⟨g,cap,hv,h1,h2,h3,h4,h5,_⟩:=h.get hn;exact⟨g,0,cap,.inr ⟨h1,h2⟩,hv,h3,h4,fun i hi=>by rw[Nat.zero_add];exact h5 i hi⟩
theorem Mem.tabAt {w:World}{H b:Nat}{c:Tc}{t:Tb}(h:Mem w H b c t)(h1:1<=t.nmode)(h2:1<=t.nrule)(h3:1<=t.nst)(h4:1<=t.count)(h5:1<=t.nlong):TabAt w (Mem.blocks w H b) b t:=by
 have hb:=h.tp;obtain⟨rv,n1,n2⟩:=h.next
 have c8:RowsAt w (Mem.blocks w H b) c.next t.nst t.count fun i k=>t.next i k:=by
  obtain⟨g,cap,hv,g1,g2,g3,g4,g5,_⟩:=n1.get h3;exact⟨g,0,cap,.inr ⟨g1,g2⟩,hv,g3,g4,fun i hi=>⟨rv i,by rw[Nat.zero_add];exact g5 i hi,(n2 i hi).intsAt h4⟩⟩
 refine⟨.inl rfl,?_,?_,?_,⟨_,?_,h.starts.intsAt h1⟩,⟨_,?_,h.acts.intsAt h2⟩,⟨_,?_,h.pushed.intsAt h2⟩,⟨_,?_,h.kinds.intsAt (by decide)⟩,?_,⟨_,?_,c8⟩,⟨_,?_,h.ends.intsAt h3⟩,⟨_,?_,h.live.boolsAt h3⟩,?_,⟨_,?_,h.longer.bytesAt h5⟩⟩
 ·rw[hb.get_stream,h.stream]
 ·rw[hb.get_ahead,h.ahead]
 ·rw[hb.get_hold,h.hold]
 ·unfold xB at hb;simp[World.cell?,hb]
 ·unfold xB at hb;simp[World.cell?,hb]
 ·unfold xB at hb;simp[World.cell?,hb]
 ·unfold xB at hb;simp[World.cell?,hb]
 ·unfold xB at hb;simp[World.cell?,hb,h.count]
 ·unfold xB at hb;simp[World.cell?,hb]
 ·unfold xB at hb;simp[World.cell?,hb]
 ·unfold xB at hb;simp[World.cell?,hb]
 ·unfold xB at hb;simp[World.cell?,hb,h.rows]
 ·unfold xB at hb;simp[World.cell?,hb]
structure Tb.Fine (t:Tb):Prop where
 ok:t.Ok
 nst:1<=t.nst
 count:1<=t.count
 long1:1<=t.nlong
 long2:t.nlong<=75000
 rule1:1<=t.nrule
 rule2:t.nrule<=8
 mode2:t.nmode<=3
 act:∀i,i<t.nrule->t.act i<4
structure LexAt (w:World)(S:Nat->Prop)(x p:Nat)(t:Tb):Prop where
 cell:w.cell? ⟨x,0,none⟩=some (.pointer (some ⟨p,0,none⟩))
 lt:x<w.heap.size
 tab:TabAt w S p t
 safe:∀k,S k->k<w.heap.size
theorem LexAt.keep {w w':World}{S:Nat->Prop}{x p:Nat}{t:Tb}(h:LexAt w S x p t)(e:∀k,k<w.heap.size->w'.heap[k]? =w.heap[k]?)(hs:w.heap.size<=w'.heap.size):LexAt w' S x p t:=
 ⟨(cell?_of_block (e x h.lt)).trans h.cell,lZ h.lt hs,h.tab.keep fun k hk=>e k (h.safe k hk),fun k hk=>lZ (h.safe k hk) hs⟩
theorem LexAt.grown {w w':World}{S:Nat->Prop}{x p:Nat}{t:Tb}(h:LexAt w S x p t)(e:Grew w w'):LexAt w' S x p t:=h.keep (fun k hk=>e.block k hk (by omega)) e.size
end Go.Proofs.YtbjcfkdnjaiclaaGreat
