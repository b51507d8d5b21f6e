import Derived.Test.YtbjcfkdnjaiclaaGreatB0
/- Parts of the proof. -/
set_option linter.unusedVariables false
set_option linter.unusedSimpArgs false
set_option maxHeartbeats 4000000
set_option maxRecDepth 100000
namespace Go.Proofs.YtbjcfkdnjaiclaaGreat
open Go.RowKit Go.Proofs.Tryz Go.World
structure MemB (w:World)(H b:Nat)(c:Tc)(t:Tb):Prop where
 tp:xB w b c
 stream:c.stream=.bool t.stream
 ahead:c.ahead=.int .i64 t.ahead
 hold:c.hold=.int .i64 t.hold
 count:c.count=.int .i64 t.count
 rows:c.rows=.int .i64 t.rows
 starts:Row w H 3 c.starts t.nmode fun i=>.int .i64 (t.start i:Nat)
 acts:Row w H 3 c.acts t.nrule fun i=>.int .i64 (t.act i:Nat)
 pushed:Row w H 3 c.pushed t.nrule fun i=>.int .i64 (t.push i:Nat)
 kinds:Row w H 3 c.kinds 256 fun i=>.int .i64 (t.kind i:Nat)
 next:∃rv,Row w H 45 c.next t.nst rv∧∀i,i<t.nst->Row w H 3 (rv i) t.count fun k=>.int .i64 (t.next i k:Nat)
 ends:Row w H 3 c.ends t.nst fun i=>.int .i64 (t.ends i)
 longer:Row w H 5 c.longer t.nlong fun i=>.int .u8 (t.long i:Nat)
 HH:H<=w.heap.size
theorem MemB.withLive {w w':World}{H b:Nat}{c:Tc}{t:Tb}{v:Value}(h:MemB w H b c t)(hk:Keep w.heap.size b w w')(ht:xB w' b {c with live:=v}):MemB w' H b {c with live:=v} t:=by
 have k:∀{e v n f},e≠90->Row w H e v n f->Row w' H e v n f:=fun he r=>r.blk fun g _ h2 hg=>hk.block g h2 (zGG h.tp r he hg);obtain⟨rv,n1,n2⟩:=h.next
 exact⟨ht,h.stream,h.ahead,h.hold,h.count,h.rows,k (by decide) h.starts,k (by decide) h.acts,k (by decide) h.pushed,k (by decide) h.kinds,⟨rv,k (by decide) n1,fun i hi=>k (by decide) (n2 i hi)⟩,k (by decide) h.ends,k (by decide) h.longer,lY h.HH hk.size⟩
theorem MemB.mem {w:World}{H b:Nat}{c:Tc}{t:Tb}(h:MemB w H b c t)(f:Nat->Bool)(hl:Row w H 4 c.live t.nst fun i=>.bool (f i)):Mem w H b c {t with live:=f}:=
 ⟨h.tp,h.stream,h.ahead,h.hold,h.count,h.rows,h.starts,h.acts,h.pushed,h.kinds,h.next,h.ends,hl,h.longer,h.HH⟩
def zEk (live:Nat->Bool):Nat->Nat
 |0=>0
 |n+1=>zEk live n+if live n then 0 else 1
def Tb.deadTo (t:Tb)(n:Nat):Nat:=zEk t.live n
theorem zLW (live:Nat->Bool)(s:Nat)(hs:live s=false)(n:Nat):zEk (fun j=>if j=s then true else live j) n+(if s<n then 1 else 0)=zEk live n:=by
 induction n with
 |zero=>rfl
 |succ n ih=>
  simp only[zEk];generalize zEk (fun j=>if j=s then true else live j) n=A at *;generalize zEk live n=B at *;by_cases e:n=s
  ·subst e
   simp[hs] at *;omega
  ·by_cases h:s<n
   ·simp[e,h,show s<n+1 by omega] at *
    omega
   ·simp[e,h,show¬s<n+1 by omega] at *
    omega
theorem zHB (t:Tb)(s:Nat)(hs:s<=t.nst):(t.spreadTo s).1.deadTo t.nst+(if (t.spreadTo s).2 then 1 else 0)<=t.deadTo t.nst:=by
 induction s with
 |zero=>exact lQ
 |succ s ih=>
  have ih:=ih (by omega);cases h1:(t.spreadTo s).1.live s with
  |true=>rw[zAc t s (.inl h1)];exact ih
  |false=>
   cases h2:(t.spreadTo s).1.anyTo s t.count with
   |false=>rw[zAc t s (.inr h2)];exact ih
   |true=>
    rw[zBm t s h1 h2];have h3:=zLW (t.spreadTo s).1.live s h1 t.nst;rw[if_pos (by omega)] at h3;show zEk (fun j=>if j=s then true else(t.spreadTo s).1.live j) t.nst+(if true=true then 1 else 0)<=_;rw[if_pos rfl,h3];exact lY (Nat.le_add_right _ _) ih
theorem zHz (t:Tb)(s:Nat)(h:(t.spreadTo s).2=false):(t.spreadTo s).1=t:=by
 induction s with
 |zero=>rfl
 |succ s ih=>
  cases h1:(t.spreadTo s).1.live s with
  |true=>rw[zAc t s (.inl h1)] at h ⊢;exact ih h
  |false=>
   cases h2:(t.spreadTo s).1.anyTo s t.count with
   |false=>rw[zAc t s (.inr h2)] at h ⊢;exact ih h
   |true=>rw[zBm t s h1 h2] at h;cases h
def Tb.itr (t:Tb):Nat->Tb
 |0=>t
 |n+1=>((t.itr n).spreadTo t.nst).1
theorem zHq {t u:Tb}(h:u={t with live:=u.live})(f:Nat->Bool):({u with live:=f}:Tb)={t with live:=f}:=by rw[h]
theorem zDh (t:Tb)(n:Nat):t.itr n={t with live:=(t.itr n).live}:=by
 induction n with
 |zero=>rfl
 |succ n ih=>exact(jY (t.itr n) t.nst).trans (zHq ih _)
theorem zG2 (t:Tb)(n:Nat):(t.itr n).nst=t.nst:=by rw[zDh]
theorem zA8 (t:Tb)(n:Nat):(t.itr n).count=t.count:=by rw[zDh]
theorem zJf {t:Tb}(ok:t.OkN)(n:Nat):(t.itr n).OkN:=by rw[zDh];exact ok.withLive _
def Tb.first (t:Tb):Tb:={t with live:=fun s=>t.ends s != -1}
theorem zFp (w:World)(H b:Nat)(c:Tc)(t:Tb)(hM:MemB w H b c t)(hl:c.live=.slice none 0 0)(ok:t.OkN)(hn:1<=t.nst)(hc:1<=t.count):
  Calls prog 65 #[.pointer (some ⟨b,0,none⟩)] w fun e w'=>e=.returned (.tuple #[])∧∃v n,Mem w' H b {c with live:=v} (t.first.itr n)∧((t.first.itr n).spreadTo t.nst).2=false∧Keep H b w w':=by
 obtain⟨i0,hi0,hz0,hz1,hz2⟩:=info_parts qP;obtain⟨ge,cape,he,he1,he2,he3,he4,he5,he6⟩:=hM.ends.get hn;have y9:w.cell? ⟨b,9,none⟩=some (.slice (some ⟨ge,0,none⟩) t.nst cape):=by rw[<-he];exact hM.tp.get_ends
 have HM:=vl hM;have HE:=vl he5;have HEN:=vl ok.ends;have hnb:=ok.nst;have hbH:=hM.tp.lt;have hgb:=zGG hM.tp hM.ends (by decide) (by rw[he];rfl);have hHH:=hM.HH;generalize hnst:t.nst=n at *;have HN:=vl hnst;go_in;apply wp_cut;intro K HK;go_wp2;go_loopg [9] n (fun q i wr=>∃(j:Nat) (v:Value),q=n-j∧j<=n∧i=.int .i64 (j:Int)∧Row wr w.heap.size 4 v j (fun s=>.bool (t.ends s != -1))∧xB wr b {c with live:=v}∧Keep w.heap.size b w wr)
 case atStart=>exact⟨0,.slice none 0 0,rfl,lX,rfl,ownsRow_nil _ _ _ _,(by rw[<-hl];exact HM.out.tp),Keep.refl _ _ _⟩
 case round=>
  obtain⟨j,v,hgk,hj,rfl,ho,hT,hk⟩:=hrel;have hsz1:=hk.size;by_cases hj2:j<n
  ·have i1:(j:Int)<(n:Int):=by omega
   have z1:=(cell?_of_block (hk.block ge he2 hgb)).trans (HE.out j hj2);have t1:=hT.get_live;have AA:Hid (gk=n-j∧Keep w.heap.size b w wr):=⟨hgk,hk⟩
   have O1:=vl ho;have T1:=vl hT;have HX:Hid (∃x,x=t.ends j):=⟨_,rfl⟩
   obtain⟨x,hx⟩:=HX.out;have HX:=vl hx;rw[<-hx] at z1;clear hgk ho hT hk hx;go_wp2_with (first|(at_builtin;refine wpList_append_lies _ rfl _ _ 28 rfl w.heap.size 4 i0 (.bool false) 1 1 underlying28 hi0 hz0 hz1 hz2 rfl (by decide) _ _ _ rfl (O1.out.alloc _) ⟨wr.heap.size,0,none⟩ 1 1 [.bool (x != -1)] rfl rfl (cell_one_new _ _ _) (by intro u hu;simp at hu;subst hu;rfl) (by decide) (by unfold maxLen;omega) (by omega) (by simp;omega) _ rfl ?_;intro gg cap w2 hown hgrow hat hlt2;have hB:=xP O1.out hgrow hsz1;have q1:=(T1.out.of_block (hB.block b (by omega))).get_live;have q2:=(T1.out.of_block (hB.block b (by omega))).fz 10))
   have T2:=T1.out.of_block (hB.block b (by omega));have O2:w2.ownsRow w.heap.size 4 1 (.slice (some ⟨gg,0,none⟩) (j+1) cap) (j+1) ((List.range (j+1)).map fun s=>.bool (t.ends s != -1)):=by
    rw[jS,<-HX.out];exact hown
   go_roundg (n-(j+1))
   case measure=>rw[AA.out.1];omega
   case rel=>exact⟨j+1,_,rfl,by omega,congrArg (Value.int IntKind.i64) (by omega),zLs O2 (fun _=>Keep.set _ _ _) (by omega),T2.set_live _,(AA.out.2.trans (xN hB)).trans (Keep.set _ _ _)⟩
  ·have hjn:j=n:=by omega
   have i1:(n:Int)<=(j:Int):=by omega
   have M1:Hid (Mem wr H b {c with live:=v} t.first):=by
    refine(HM.out.withLive hk hT).mem _ ?_;show Row wr H 4 v t.nst _;rw[HN.out,<-hjn];exact ho.mono hHH
   have K1:=vl hk;clear hgk ho hT hk hjn;go_wp2_with fail;apply HK.out;clear HK;have HOK:=zJf (t:=t.first) (ok.withLive _);have HNS:=zG2 t.first
   have HCT:=zA8 t.first
   go_wp2_with fail;go_loopg [] (t.first.deadTo n) (fun q wq=>∃m:Nat,q=(t.first.itr m).deadTo n∧Mem wq H b {c with live:=v} (t.first.itr m)∧Keep H b w wq)
   case atStart=>exact⟨0,rfl,M1.out,⟨K1.out.os,K1.out.output,K1.out.size,fun k hk=>K1.out.block k (by omega)⟩⟩
   case round=>
    obtain⟨m,hgk2,hMm,hKm⟩:=hrel;have hnm:(t.first.itr m).nst=n:=by rw[HNS];exact HN.out
    have hsp:=zDD wr H b _ (t.first.itr m) hMm (HOK m) (by rw[hnm];exact hn) (by rw[HCT];exact hc);have hsd:=zHB (t.first.itr m) (t.first.itr m).nst lQ;rw[hnm] at hsp hsd;have A2:Hid (gk=(t.first.itr m).deadTo n∧Mem wr H b {c with live:=v} (t.first.itr m)∧Keep H b w wr):=⟨hgk2,hMm,hKm⟩
    have HIT:Hid (t.first.itr (m+1)=((t.first.itr m).spreadTo n).1):=by show _=_;rw[<-HN.out];rfl
    have HSD:Hid (((t.first.itr m).spreadTo n).1.deadTo n+(if ((t.first.itr m).spreadTo n).2 then 1 else 0)<=(t.first.itr m).deadTo n):=hsd;have HSP:Hid (Calls _ _ _ _ _):=hsp;clear hgk2 hMm hKm hsp hsd hnm HOK HNS HCT;go_wp2_with fail;refine Calls.mono HSP.out ?_;rintro e w2 ⟨rfl,hM2,hB2⟩;have A3:Hid (Mem w2 H b {c with live:=v} ((t.first.itr m).spreadTo n).1∧Below H wr w2):=⟨hM2,hB2⟩
    clear hM2 hB2 HSP;cases hbb:((t.first.itr m).spreadTo n).2 with
    |true=>
     have hs2:=HSD.out;rw[hbb,if_pos rfl,<-HIT.out] at hs2;have HS2:Hid ((t.first.itr (m+1)).deadTo n+1<=(t.first.itr m).deadTo n):=hs2;clear hbb HSD hs2;go_wp2_with fail;go_roundg ((t.first.itr (m+1)).deadTo n)
     case measure=>rw[A2.out.1];exact HS2.out
     case rel=>exact⟨m+1,rfl,by rw[HIT.out];exact A3.out.1,A2.out.2.2.trans ⟨A3.out.2.os,A3.out.2.output,A3.out.2.size,fun k hk _=>A3.out.2.block k hk⟩⟩
    |false=>
     have HBB:Hid (((t.first.itr m).spreadTo n).2=false):=hbb;clear hbb;go_wp2_with fail;go_end0;refine⟨rfl,v,m,?_,HBB.out,A2.out.2.2.trans ⟨A3.out.2.os,A3.out.2.output,A3.out.2.size,fun k hk _=>A3.out.2.block k hk⟩⟩;have h:=A3.out.1;rw[zHz _ _ HBB.out] at h;exact h
section
theorem Keep.lower {H b G c:Nat}{w w':World}(h:Keep H b w w')(hG:G<=H)(hb:G<=b):Keep G c w w':=⟨h.os,h.output,h.size,fun k hk _=>h.block k (by omega) (by omega)⟩
def Ints (w:World)(S:Nat->Prop)(v:Value)(l:List Int):Prop:=
 ∃ao cap,v=.slice ao l.length cap∧l.length<=cap∧cap<=maxLen∧∀i,i<l.length->∃b o,ao=some ⟨b,o,none⟩∧S b∧w.cell? ⟨b,o+i,none⟩=some (.int .i64 (l.getD i 0))
def Bools (w:World)(S:Nat->Prop)(v:Value)(l:List Bool):Prop:=
 ∃ao cap,v=.slice ao l.length cap∧l.length<=cap∧cap<=maxLen∧∀i,i<l.length->∃b o,ao=some ⟨b,o,none⟩∧S b∧w.cell? ⟨b,o+i,none⟩=some (.bool (l.getD i false))
def IntRows (w:World)(S:Nat->Prop)(v:Value)(l:List (List Int)):Prop:=
 ∃ao cap,v=.slice ao l.length cap∧l.length<=cap∧cap<=maxLen∧∀i,i<l.length->∃b o u,ao=some ⟨b,o,none⟩∧S b∧w.cell? ⟨b,o+i,none⟩=some u∧Ints w S u (l.getD i [])
section
variable {w w':World} {S S':Nat->Prop} {v:Value}
theorem Ints.keep {l:List Int}(h:Ints w S v l)(e:∀b,S b->w'.heap[b]? =w.heap[b]?):Ints w' S v l:=by
 obtain⟨ao,cap,hv,h1,h2,h3⟩:=h;refine⟨ao,cap,hv,h1,h2,fun i hi=>?_⟩;obtain⟨b,o,ha,hb,hc⟩:=h3 i hi;exact⟨b,o,ha,hb,(cell?_of_block (e b hb)).trans hc⟩
theorem Ints.mono {l:List Int}(h:Ints w S v l)(e:∀b,S b->S' b):Ints w S' v l:=by
 obtain⟨ao,cap,hv,h1,h2,h3⟩:=h;refine⟨ao,cap,hv,h1,h2,fun i hi=>?_⟩;obtain⟨b,o,ha,hb,hc⟩:=h3 i hi;exact⟨b,o,ha,e b hb,hc⟩
theorem Bools.keep {l:List Bool}(h:Bools w S v l)(e:∀b,S b->w'.heap[b]? =w.heap[b]?):Bools w' S v l:=by
 obtain⟨ao,cap,hv,h1,h2,h3⟩:=h;refine⟨ao,cap,hv,h1,h2,fun i hi=>?_⟩;obtain⟨b,o,ha,hb,hc⟩:=h3 i hi;exact⟨b,o,ha,hb,(cell?_of_block (e b hb)).trans hc⟩
theorem Bools.mono {l:List Bool}(h:Bools w S v l)(e:∀b,S b->S' b):Bools w S' v l:=by
 obtain⟨ao,cap,hv,h1,h2,h3⟩:=h;refine⟨ao,cap,hv,h1,h2,fun i hi=>?_⟩;obtain⟨b,o,ha,hb,hc⟩:=h3 i hi;exact⟨b,o,ha,e b hb,hc⟩
theorem IntRows.keep {l:List (List Int)}(h:IntRows w S v l)(e:∀b,S b->w'.heap[b]? =w.heap[b]?):IntRows w' S v l:=by
 obtain⟨ao,cap,hv,h1,h2,h3⟩:=h;refine⟨ao,cap,hv,h1,h2,fun i hi=>?_⟩;obtain⟨b,o,u,ha,hb,hc,hd⟩:=h3 i hi;exact⟨b,o,u,ha,hb,(cell?_of_block (e b hb)).trans hc,hd.keep e⟩
theorem IntRows.mono {l:List (List Int)}(h:IntRows w S v l)(e:∀b,S b->S' b):IntRows w S' v l:=by
 obtain⟨ao,cap,hv,h1,h2,h3⟩:=h;refine⟨ao,cap,hv,h1,h2,fun i hi=>?_⟩;obtain⟨b,o,u,ha,hb,hc,hd⟩:=h3 i hi;exact⟨b,o,u,ha,e b hb,hc,hd.mono e⟩
theorem zBT {H:Nat}{e:TypeId}{l:List Int}(h:w.ownsRow H e 1 v l.length (l.map fun x=>.int .i64 x))(hS:∀g,v.ownBlock=some g->S g):Ints w S v l:=by
 rcases h.2 with⟨hv,h0⟩|⟨g,cap,cur,hv,hg,hh,h1,h2,h3,h4⟩
 ·refine⟨none,0,by rw[hv,h0],by omega,by unfold maxLen;omega,fun i hi=>by omega⟩
 ·refine⟨some ⟨g,0,none⟩,cap,hv,h1,h2,fun i hi=>⟨g,0,rfl,hS g (by rw[hv];rfl),?_⟩⟩
  have hc:=h.cells (g:=g) (by rw[hv];rfl) i (.int .i64 (l.getD i 0)) (by
   rw[gJ,lV hi,lW,lV hi];rfl)
  rw[Addr.add_lit] at hc;exact hc
theorem zGg {H:Nat}{e:TypeId}{l:List Bool}(h:w.ownsRow H e 1 v l.length (l.map fun x=>.bool x))(hS:∀g,v.ownBlock=some g->S g):Bools w S v l:=by
 rcases h.2 with⟨hv,h0⟩|⟨g,cap,cur,hv,hg,hh,h1,h2,h3,h4⟩
 ·refine⟨none,0,by rw[hv,h0],by omega,by unfold maxLen;omega,fun i hi=>by omega⟩
 ·refine⟨some ⟨g,0,none⟩,cap,hv,h1,h2,fun i hi=>⟨g,0,rfl,hS g (by rw[hv];rfl),?_⟩⟩
  have hc:=h.cells (g:=g) (by rw[hv];rfl) i (.bool (l.getD i false)) (by
   rw[gJ,lV hi,lW,lV hi];rfl)
  rw[Addr.add_lit] at hc;exact hc
end
theorem Ints.block {w:World}{S:Nat->Prop}{v:Value}{l:List Int}(h:Ints w S v l)(hn:0<l.length):∃b o cap,v=.slice (some ⟨b,o,none⟩) l.length cap∧S b∧l.length<=cap∧cap<=maxLen∧∀i,i<l.length->w.cell? ⟨b,o+i,none⟩=some (.int .i64 (l.getD i 0)):=by
 obtain⟨ao,cap,hv,h1,h2,h3⟩:=h;obtain⟨b,o,ha,hb,_⟩:=h3 0 hn;refine⟨b,o,cap,by rw[hv,ha],hb,h1,h2,fun i hi=>?_⟩;obtain⟨b',o',ha',_,hc⟩:=h3 i hi;rw[ha] at ha';injection ha' with ha';injection ha' with e1 e2;subst e1 e2;exact hc
theorem IntRows.block {w:World}{S:Nat->Prop}{v:Value}{l:List (List Int)}(h:IntRows w S v l)(hn:0<l.length):∃b o cap,v=.slice (some ⟨b,o,none⟩) l.length cap∧S b∧l.length<=cap∧cap<=maxLen∧∀i,i<l.length->∃u,w.cell? ⟨b,o+i,none⟩=some u∧Ints w S u (l.getD i []):=by
 obtain⟨ao,cap,hv,h1,h2,h3⟩:=h;obtain⟨b,o,_,ha,hb,_⟩:=h3 0 hn;refine⟨b,o,cap,by rw[hv,ha],hb,h1,h2,fun i hi=>?_⟩;obtain⟨b',o',u,ha',_,hc⟩:=h3 i hi;rw[ha] at ha';injection ha' with ha';injection ha' with e1 e2;subst e1 e2;exact⟨u,hc⟩
structure Sm where
 next:List (List Int)
 rules:List Int
 start:Int
 empty:List Bool
def ModesAt (w:World)(S:Nat->Prop)(v:Value)(ms:List Sm):Prop:=
 ∃ao cap,v=.slice ao ms.length cap∧ms.length<=cap∧cap<=maxLen∧∀i (hi:i<ms.length),∃b o u0 u1 u3,ao=some ⟨b,o,none⟩∧S b∧
  w.cell? ⟨b,o+i*4,none⟩=some u0∧w.cell? ⟨b,o+i*4+1,none⟩=some u1∧w.cell? ⟨b,o+i*4+2,none⟩=some (.int .i64 ms[i].start)∧w.cell? ⟨b,o+i*4+3,none⟩=some u3∧
  IntRows w S u0 ms[i].next∧Ints w S u1 ms[i].rules∧Bools w S u3 ms[i].empty
theorem ModesAt.keep {w w':World}{S:Nat->Prop}{v:Value}{ms:List Sm}(h:ModesAt w S v ms)(e:∀b,S b->w'.heap[b]? =w.heap[b]?):ModesAt w' S v ms:=by
 obtain⟨ao,cap,hv,h1,h2,h3⟩:=h;refine⟨ao,cap,hv,h1,h2,fun i hi=>?_⟩;obtain⟨b,o,u0,u1,u3,ha,hb,c0,c1,c2,c3,d0,d1,d3⟩:=h3 i hi;have k:∀j,w'.cell? ⟨b,j,none⟩=w.cell? ⟨b,j,none⟩:=fun j=>cell?_of_block (e b hb);exact⟨b,o,u0,u1,u3,ha,hb,(k _).trans c0,(k _).trans c1,(k _).trans c2,(k _).trans c3,d0.keep e,d1.keep e,d3.keep e⟩
end
def vO (a b:Nat)(row:List Int):Bool:=row.getD a 0==row.getD b 0
def jT (a b:Nat)(m:Sm):Bool:=m.next.all (vO a b)
def zBZ (ms:List Sm)(a b:Nat):Bool:=ms.all (jT a b)
def Wide (ms:List Sm):Prop:=∀m∈ms,∀row∈m.next,row.length=256
theorem zEr (w:World)(S:Nat->Prop)(v:Value)(ms:List Sm)(hM:ModesAt w S v ms)(hS:∀k,S k->k<w.heap.size)(hw:Wide ms)(hn:ms.length<=3)(hr:∀m∈ms,m.next.length<=200)(a b:Nat)(ha:a<256)(hb:b<256):
  Calls prog 137 #[v,.int .i64 a,.int .i64 b] w fun e w'=>e=.returned (.bool (zBZ ms a b))∧Grew w w':=by
 obtain⟨ao,cap,rfl,hcap,hml,hcell⟩:=hM;have HC:=vl hcell;go_in;go_wp2;go_loopg [13] ms.length (fun q i wr=>∃j:Nat,q=ms.length-j∧j<=ms.length∧i=.int .i64 (j:Int)∧(ms.take j).all (jT a b)=true∧Grew w wr)
 case atStart=>exact⟨0,rfl,lX,rfl,rfl,Keep.refl _ _ _⟩
 case round=>
  obtain⟨j,hgk,hj,rfl,hall,hk⟩:=hrel;have HA:Hid (gk=ms.length-j∧(ms.take j).all (jT a b)=true∧Grew w wr):=⟨hgk,hall,hk⟩
  by_cases hj2:j<ms.length
  ·have i1:(j:Int)<(ms.length:Int):=by omega
   obtain⟨bb,o,u0,u1,u3,rfl,hSb,c0,c1,c2,c3,d0,d1,d3⟩:=HC.out j hj2;have kk:∀i,wr.cell? ⟨bb,i,none⟩=w.cell? ⟨bb,i,none⟩:=fun i=>cell?_of_block (hk.block bb (hS bb hSb) (by have:=hS bb hSb;omega));have z0:=(kk _).trans c0;have z1:=(kk _).trans c1;have z2:=(kk _).trans c2;have z3:=(kk _).trans c3;have HK:=vl hk;obtain⟨a0,p0,e0,g0,m0,h0⟩:=d0;obtain⟨a1,p1,e1,_⟩:=d1;obtain⟨a3,p3,e3,_⟩:=d3;subst e0 e1 e3;have HD:=vl h0;have hlen:=hr _ (List.getElem_mem hj2);have HW:=vl <| hw _ (List.getElem_mem hj2);have HT:Hid ((ms.take (j+1)).all (jT a b)=((ms.take j).all (jT a b)&&ms[j].next.all (vO a b))):=by
    show _=_;rw[List.take_succ_eq_append_getElem hj2,List.all_append];simp[jT]
   generalize hrs:ms[j].next=rows at *
   generalize ms[j].start=st at *;generalize ms[j].rules=rl at *;generalize ms[j].empty=em at *;go_wp2;obtain⟨w1,hw1,K1⟩:∃w1,w1=wr.alloc (.cells #[.slice a0 rows.length p0,.slice a1 rl.length p1,.int .i64 st,.slice a3 em.length p3] 134)∧Hid (Grew w w1):=⟨_,rfl,HK.out.trans (kZ _ _ HK.out.size)⟩
   rw[<-hw1];go_loopg [21] rows.length (fun q i wx=>∃k:Nat,q=rows.length-k∧k<=rows.length∧i=.int .i64 (k:Int)∧(rows.take k).all (vO a b)=true∧Grew w wx)
   case atStart=>exact⟨0,rfl,lX,rfl,rfl,K1.out⟩
   case round=>
    obtain⟨k,hgk,hk1,rfl,hall,hkx⟩:=hrel;have HB:Hid (gk=rows.length-k∧(rows.take k).all (vO a b)=true∧Grew w wr):=⟨hgk,hall,hkx⟩
    by_cases hk2:k<rows.length
    ·have i2:(k:Int)<(rows.length:Int):=by omega
     obtain⟨bq,oq,u,rfl,hSq,cq,dq⟩:=HD.out k hk2;have hrl:(rows.getD k []).length=256:=by
      rw[lW,lV hk2];exact HW.out _ (List.getElem_mem hk2)
     obtain⟨br,orr,pr,rfl,hSr,_,_,hcc⟩:=dq.block (by omega);have kk:∀x i,S x->wr.cell? ⟨x,i,none⟩=w.cell? ⟨x,i,none⟩:=fun x i hx=>cell?_of_block (hkx.block x (hS x hx) (by have:=hS x hx;omega));have z0:wr.cell? ⟨bq,oq+k,none⟩=some (.slice (some ⟨br,orr,none⟩) 256 pr):=by rw[kk _ _ hSq,cq,hrl]
     have z1:wr.cell? ⟨br,orr+a,none⟩=some (.int .i64 ((rows.getD k []).getD a 0)):=by rw[kk _ _ hSr,hcc a (by omega)]
     have z2:wr.cell? ⟨br,orr+b,none⟩=some (.int .i64 ((rows.getD k []).getD b 0)):=by rw[kk _ _ hSr,hcc b (by omega)]
     have HS2:Hid ((rows.take (k+1)).all (vO a b)=((rows.take k).all (vO a b)&&((rows.getD k []).getD a 0==(rows.getD k []).getD b 0))):=by
      show _=_;rw[List.take_succ_eq_append_getElem hk2,List.all_append,lW (l:=rows),lV hk2];simp[vO]
     have HS3:Hid (((rows.getD k []).getD a 0==(rows.getD k []).getD b 0)=false->rows.all (vO a b)=false):=by
      intro hx;rw[List.all_eq_false];refine⟨rows[k],List.getElem_mem hk2,?_⟩;rw[lW (l:=rows),lV hk2] at hx;simpa[vO] using hx
     have i3:(a:Int)<256:=by omega
     have i4:(b:Int)<256:=by omega
     generalize (rows.getD k []).getD a 0=xa at *;generalize (rows.getD k []).getD b 0=xb at *;by_cases hx:xa=xb
     ·have hx1:(xa != xb)=false:=by simp[hx]
      have HX:Hid ((rows.take (k+1)).all (vO a b)=true):=by show _=_;rw[HS2.out,HB.out.2.1,hx];simp
      go_wp2;go_quiet (fail);go_wp2;go_roundg (rows.length-(k+1))
      case measure=>rw[HB.out.1];omega
      case rel=>exact⟨k+1,rfl,by omega,by go_num,HX.out,HB.out.2.2.trans (Keep.alike (w':=wr.drewN nq) ⟨rfl,rfl,rfl⟩)⟩
     ·have hx1:(xa != xb)=true:=by simpa using hx
      have HX:=vl <| HS3.out (by simpa using hx);have HY:Hid (zBZ ms a b=false):=by
       show _=_;unfold zBZ;rw[<-List.take_append_drop (j+1) ms,List.all_append,HT.out,HX.out];simp
      go_wp2;go_quiet (fail);go_wp2;go_ret;exact⟨qO HY.out.symm,HB.out.2.2.trans (Keep.alike (w':=wr.drewN nq) ⟨rfl,rfl,rfl⟩)⟩
    ·have i2:(rows.length:Int)<=(k:Int):=by omega
     have HX:Hid ((ms.take (j+1)).all (jT a b)=true):=by
      show _=_;rw[HT.out,HA.out.2.1,<-List.take_of_length_le (l:=rows) (i:=k) (by omega),HB.out.2.1];rfl
     go_wp2;go_roundg (ms.length-(j+1))
     case measure=>rw[HA.out.1];omega
     case rel=>exact⟨j+1,rfl,by omega,by go_num,HX.out,HB.out.2.2⟩
  ·have i1:(ms.length:Int)<=(j:Int):=by omega
   have HY:Hid (zBZ ms a b=true):=by
    show _=_;unfold zBZ;rw[<-List.take_of_length_le (l:=ms) (i:=j) (by omega)];exact HA.out.2.1
   go_wp2;go_ret;exact⟨qO HY.out.symm,HA.out.2.2⟩
def OwnI (w:World)(H:Nat)(v:Value)(l:List Int):Prop:=w.ownsRow H 3 1 v l.length (l.map fun x=>.int .i64 x)
theorem OwnI.snoc {w:World}{H g cap:Nat}{l:List Int}{x:Int}(h:w.ownsRow H 3 1 (.slice (some ⟨g,0,none⟩) (l.length+1) cap) (l.length+1) (l.map (fun x=>.int .i64 x)++[.int .i64 x])):OwnI w H (.slice (some ⟨g,0,none⟩) (l.length+1) cap) (l++[x]):=by
 unfold OwnI;rw[kX,List.map_append];exact h
theorem OwnI.raw {w:World}{H:Nat}{v:Value}{l:List Int}(h:OwnI w H v l):w.ownsRow H 3 1 v l.length (l.map fun x=>.int .i64 x):=h
theorem OwnI.nil (w:World)(H:Nat):OwnI w H (.slice none 0 0) []:=ownsRow_nil _ _ _ _
theorem OwnI.form {w:World}{H:Nat}{v:Value}{l:List Int}(h:OwnI w H v l):∃ao cap,v=.slice ao l.length cap:=zE h
theorem zJ {w w':World}{H e z n:Nat}{v:Value}{xs:List Value}(h:w.ownsRow H e z v n xs)(hk:Grew w w'):w'.ownsRow H e z v n xs:=by
 refine⟨h.1,h.2.imp id ?_⟩;rintro⟨g,cap,cur,hv,hg,hh,rest⟩;have hlt:=(kQ.1 hh).1;exact⟨g,cap,cur,hv,hg,(hk.block g hlt (by omega)).trans hh,rest⟩
theorem OwnI.cell {w:World}{H g cap n:Nat}{l:List Int}(h:OwnI w H (.slice (some ⟨g,0,none⟩) n cap) l)(i:Nat)(hi:i<l.length):w.cell? ⟨g,i,none⟩=some (.int .i64 (l.getD i 0)):=by
 have hc:=World.ownsRow.cells h (g:=g) rfl i (.int .i64 (l.getD i 0)) (by
  rw[gJ,lV hi,lW,lV hi];rfl)
 rw[Addr.add_lit,Nat.zero_add] at hc;exact hc
def vX (ms:List Sm)(b:Nat):Nat:=(List.range b).findIdx fun a=>zBZ ms a b
theorem zGp (ms:List Sm)(b:Nat):vX ms b<=b:=by
 have h:=List.findIdx_le_length (xs:=List.range b) (p:=fun a=>zBZ ms a b);rw[List.length_range] at h;exact h
theorem zDV (w:World)(S:Nat->Prop)(v:Value)(ms:List Sm)(hM:ModesAt w S v ms)(hS:∀k,S k->k<w.heap.size)(hw:Wide ms)(hn:ms.length<=3)(hr:∀m∈ms,m.next.length<=200)(b:Nat)(hb:b<256):
  Calls prog 98 #[v,.int .i64 b] w fun e w'=>e=.returned (.int .i64 (vX ms b:Nat))∧Grew w w':=by
 have HM:=vl hM;go_in;go_wp2;go_loopg [5] b (fun q i wr=>∃j:Nat,q=b-j∧j<=b∧i=.int .i64 (j:Int)∧(∀a,a<j->zBZ ms a b=false)∧Grew w wr)
 case atStart=>exact⟨0,rfl,lX,rfl,fun a ha=>by omega,Keep.refl _ _ _⟩
 case round=>
  obtain⟨j,hgk,hj,rfl,hall,hk⟩:=hrel;have HA:Hid (gk=b-j∧(∀a,a<j->zBZ ms a b=false)∧Grew w wr):=⟨hgk,hall,hk⟩
  by_cases hj2:j<b
  ·have i1:(j:Int)<(b:Int):=by omega
   go_wp2_with fail;refine(zEr wr S v ms (HM.out.keep fun k hk=>HA.out.2.2.block k (hS k hk) (by have:=hS k hk;omega)) (fun k hk=>lZ (hS k hk) HA.out.2.2.size) hw hn hr j b (by omega) hb).mono ?_;rintro e w1 ⟨rfl,hk1⟩;have K1:=vl <| HA.out.2.2.trans (hk1.lower HA.out.2.2.size HA.out.2.2.size);cases hl:zBZ ms j b with
   |true=>
    have HF:Hid (vX ms b=j):=by
     show _=_;unfold vX;rw[List.findIdx_eq (by simpa using hj2)];refine⟨by simpa using hl,fun a ha=>by simpa using HA.out.2.1 a (by simpa using ha)⟩
    go_wp2;go_ret;exact⟨zAT (by rw[HF.out]),K1.out⟩
   |false=>
    have HL:=vl hl;go_wp2;go_roundg (b-(j+1))
    case measure=>rw[HA.out.1];omega
    case rel=>exact⟨j+1,rfl,by omega,by go_num,fun a ha=>by(by_cases e:a=j;exact e ▸ HL.out;exact HA.out.2.1 a (by omega)),K1.out⟩
  ·have i1:(b:Int)<=(j:Int):=by omega
   have HF:Hid (vX ms b=b):=by
    show _=_;unfold vX;have h:=List.findIdx_eq_length (xs:=List.range b) (p:=fun a=>zBZ ms a b);rw[List.length_range] at h;refine h.2 fun a ha=>?_;simpa using HA.out.2.1 a (by have:=List.mem_range.1 ha;omega)
   go_wp2;go_ret;exact⟨zAT (by rw[HF.out]),HA.out.2.2⟩
def zB (ms:List Sm):Nat->List Int×Nat
 |0=>([],0)
 |b+1=>if vX ms b<b then((zB ms b).1++[(zB ms b).1.getD (vX ms b) 0],(zB ms b).2) else((zB ms b).1++[((zB ms b).2:Int)],(zB ms b).2+1)
theorem vA (ms:List Sm)(b:Nat):(zB ms b).1.length=b∧(zB ms b).2<=b:=by
 induction b with
 |zero=>exact⟨rfl,lQ⟩
 |succ b ih=>
  rw[zB];split
  ·exact⟨by simp[ih.1],by show(zB ms b).2<=b+1;omega⟩
  ·exact⟨by simp[ih.1],by show(zB ms b).2+1<=b+1;omega⟩
theorem zFW (w:World)(S:Nat->Prop)(v:Value)(ms:List Sm)(hM:ModesAt w S v ms)(hS:∀k,S k->k<w.heap.size)(hw:Wide ms)(hn:ms.length<=3)(hr:∀m∈ms,m.next.length<=200):
  Calls prog 63 #[v] w fun e w'=>∃u,e=.returned (.tuple #[u,.int .i64 ((zB ms 256).2:Nat)])∧OwnI w' w.heap.size u (zB ms 256).1∧Grew w w':=by
 obtain⟨i0,hi0,hz0,hz1,hz2⟩:=info_parts yH;have HM:=vl hM;go_in;go_wp2;go_loopg [4,5,6] 256 (fun q lst cnt i wr=>∃j:Nat,q=256-j∧j<=256∧i=.int .i64 (j:Int)∧cnt=.int .i64 ((zB ms j).2:Nat)∧OwnI wr w.heap.size lst (zB ms j).1∧Grew w wr)
 case atStart=>exact⟨0,rfl,lX,rfl,rfl,OwnI.nil _ _,Keep.refl _ _ _⟩
 case round=>
  obtain⟨j,hgk,hj,rfl,rfl,ho,hk⟩:=hrel;have HA:Hid (gk=256-j∧OwnI wr w.heap.size u4 (zB ms j).1∧Grew w wr):=⟨hgk,ho,hk⟩
  have hkl:=vA ms j;obtain⟨ao,cap,hv⟩:=ho.form;subst hv;by_cases hj2:j<256
  ·have i1:(j:Int)<256:=by omega
   go_wp2_with fail;refine(zDV wr S v ms (HM.out.keep fun k hk=>HA.out.2.2.block k (hS k hk) (by have:=hS k hk;omega)) (fun k hk=>lZ (hS k hk) HA.out.2.2.size) hw hn hr j hj2).mono ?_;rintro e w1 ⟨rfl,hk1⟩;have K1:=vl <| HA.out.2.2.trans (hk1.lower HA.out.2.2.size HA.out.2.2.size);have O1:Hid (OwnI w1 w.heap.size (.slice ao (zB ms j).1.length cap) (zB ms j).1):=zJ HA.out.2.1 hk1;have hsz1:=K1.out.size;have HKM:Hid (zB ms (j+1)=if vX ms j<j then((zB ms j).1++[(zB ms j).1.getD (vX ms j) 0],(zB ms j).2) else((zB ms j).1++[((zB ms j).2:Int)],(zB ms j).2+1)):=rfl;have hfl:=zGp ms j;generalize vX ms j=f at *;generalize (zB ms j).1=l at *;generalize (zB ms j).2=cnt at *;obtain⟨hle,hl2'⟩:=hkl;have hl1a:l.length<=j:=by omega
   have hl1b:j<=l.length:=by omega
   clear hle;have OR:=vl O1.out;by_cases hf:f<j
   ·have i2:(f:Int)<(j:Int):=by omega
    have HX:Hid (zB ms (j+1)=(l++[l.getD f 0],cnt)):=by show _=_;rw[HKM.out,if_pos hf]
    have hne:ao≠none:=by
     intro e;rcases O1.out.2 with⟨h,h0⟩|⟨g,_,_,h,_⟩
     ·have h0':=h0
      omega
     ·rw[e] at h;cases h
    obtain⟨g,rfl⟩:∃g,ao=some ⟨g,0,none⟩:=by
     rcases O1.out.2 with⟨h,h0⟩|⟨g,_,_,h,_⟩
     ·injection h with h _ _
      exact absurd h hne
     ·injection h with h _ _
      exact⟨g,h⟩
    have y0:=O1.out.cell f (by show f<l.length;omega);have i3:(f:Int)<(l.length:Int):=by omega
    generalize l.getD f 0=x at *;go_wp2_with (first|(at_builtin;refine wpList_append_lies _ rfl _ _ 45 rfl (w.heap.size) 3 i0 (.int .i64 0) 1 8 underlying45 hi0 hz0 hz1 hz2 rfl (by decide) _ _ _ rfl (OR.out.alloc _) ⟨w1.heap.size,0,none⟩ 1 1 [.int .i64 x] rfl rfl (cell_one_new _ _ _) (by intro u hu;simp at hu;subst hu;rfl) (by decide) (by unfold maxLen;omega) (by omega) (by simp;omega) _ rfl ?_;intro gg cap w2 hown hgrow hat hlt2;have hB:=xP OR.out hgrow hsz1))
    have O2:Hid (OwnI w2 w.heap.size (.slice (some ⟨gg,0,none⟩) (l.length+1) cap) (l++[x])∧Grew w w2):=⟨OwnI.snoc hown,K1.out.trans (xN hB)⟩
    go_wp2;go_roundg (256-(j+1))
    case measure=>rw[HA.out.1];omega
    case rel=>exact⟨j+1,rfl,by omega,by go_num,by rw[HX.out],by rw[HX.out];exact O2.out.1,O2.out.2⟩
   ·have i2:(j:Int)<=(f:Int):=by omega
    have HX:Hid (zB ms (j+1)=(l++[(cnt:Int)],cnt+1)):=by show _=_;rw[HKM.out,if_neg hf]
    go_wp2_with (first|(at_builtin;refine wpList_append_lies _ rfl _ _ 45 rfl (w.heap.size) 3 i0 (.int .i64 0) 1 8 underlying45 hi0 hz0 hz1 hz2 rfl (by decide) _ _ _ rfl (OR.out.alloc _) ⟨w1.heap.size,0,none⟩ 1 1 [.int .i64 (cnt:Int)] rfl rfl (cell_one_new _ _ _) (by intro u hu;simp at hu;subst hu;rfl) (by decide) (by unfold maxLen;omega) (by omega) (by simp;omega) _ rfl ?_;intro gg cap w2 hown hgrow hat hlt2;have hB:=xP OR.out hgrow hsz1))
    have O2:Hid (OwnI w2 w.heap.size (.slice (some ⟨gg,0,none⟩) (l.length+1) cap) (l++[(cnt:Int)])∧Grew w w2):=⟨OwnI.snoc hown,K1.out.trans (xN hB)⟩
    go_wp2;go_roundg (256-(j+1))
    case measure=>rw[HA.out.1];omega
    case rel=>exact⟨j+1,rfl,by omega,by go_num,by rw[HX.out];go_num,by rw[HX.out];exact O2.out.1,O2.out.2⟩
  ·have hj3:j=256:=by omega
   have i1:(256:Int)<=(j:Int):=by omega
   have HZ:Hid (zB ms j=zB ms 256):=by show _=_;rw[hj3]
   go_wp2;go_ret2
   refine⟨.slice ao (zB ms j).1.length cap,congrArg (fun n:Nat=>Ending.returned (.tuple #[.slice ao (zB ms j).1.length cap,.int .i64 (n:Int)])) (congrArg Prod.snd HZ.out),?_,HA.out.2.2⟩;rw[<-HZ.out];exact HA.out.2.1
def zT (kinds row:List Int)(first:Int):Nat->List Int
 |0=>[]
 |b+1=>if kinds.getD b 0=((zT kinds row first b).length:Int) then zT kinds row first b++[first+row.getD b 0] else zT kinds row first b
theorem zIq (kinds row:List Int)(first:Int)(b:Nat):(zT kinds row first b).length<=b:=by
 induction b with
 |zero=>exact lQ
 |succ b ih=>
  rw[zT];split
  ·simp;omega
  ·omega
theorem zHg (w:World)(S:Nat->Prop)(p:Nat)(kv rv:Value)(kinds row:List Int)(first:Nat)(hp:w.cell? ⟨p,6,none⟩=some kv)(hpS:p<w.heap.size)(hS:∀k,S k->k<w.heap.size)(hK:Ints w S kv kinds)(hR:Ints w S rv row)(hk:kinds.length=256)(hr:row.length=256)(hf:first<=200)(hb:∀i,i<256->0<=row.getD i 0∧row.getD i 0<=200):
  Calls prog 99 #[.pointer (some ⟨p,0,none⟩),rv,.int .i64 first] w fun e w'=>∃u,e=.returned u∧OwnI w' w.heap.size u (zT kinds row first 256)∧Grew w w':=by
 obtain⟨i0,hi0,hz0,hz1,hz2⟩:=info_parts yH;obtain⟨bk,ok,ck,rfl,hSk,_,_,hck⟩:=hK.block (by omega);obtain⟨br,orr,cr,rfl,hSr,_,_,hcr⟩:=hR.block (by omega);rw[hk] at hp hck;rw[hr] at hcr ⊢;have HCK:=vl hck;have HCR:=vl hcr;have hbk:=hS bk hSk;have hbr:=hS br hSr;have HB:=vl hb;go_in;go_wp2;go_loopg [7,12] 256 (fun q lst i wr=>∃j:Nat,q=256-j∧j<=256∧i=.int .i64 (j:Int)∧OwnI wr w.heap.size lst (zT kinds row first j)∧Grew w wr)
 case atStart=>exact⟨0,rfl,lX,rfl,OwnI.nil _ _,Keep.refl _ _ _⟩
 case round=>
  obtain⟨j,hgk,hj,rfl,ho,hkp⟩:=hrel;have HA:Hid (gk=256-j∧Grew w wr):=⟨hgk,hkp⟩
  have hln:=zIq kinds row first j
  obtain⟨ao,cap,hv⟩:=ho.form;subst hv;have hszr:=hkp.size;have OR:=vl ho;by_cases hj2:j<256
  ·have i1:(j:Int)<256:=by omega
   have y6:=(cell?_of_block (hkp.block p hpS (by omega))).trans hp;have yk:=(cell?_of_block (hkp.block bk hbk (by omega))).trans (HCK.out j hj2);have yr:=(cell?_of_block (hkp.block br hbr (by omega))).trans (HCR.out j hj2);obtain⟨hb1,hb2⟩:=HB.out j hj2;have HM:Hid (zT kinds row first (j+1)=if kinds.getD j 0=((zT kinds row first j).length:Int) then zT kinds row first j++[first+row.getD j 0] else zT kinds row first j):=rfl;generalize zT kinds row first j=l at *
   generalize kinds.getD j 0=kd at *;generalize row.getD j 0=x at *;by_cases he:kd=(l.length:Int)
   ·have he1:(kd==(l.length:Int))=true:=by simpa using he
    have HX:Hid (zT kinds row first (j+1)=l++[first+x]):=by show _=_;rw[HM.out,if_pos he]
    go_wp2_with (first|(at_builtin;refine wpList_append_lies _ rfl _ _ 45 rfl (w.heap.size) 3 i0 (.int .i64 0) 1 8 underlying45 hi0 hz0 hz1 hz2 rfl (by decide) _ _ _ rfl (OR.out.alloc _) ⟨wr.heap.size,0,none⟩ 1 1 [.int .i64 ((first:Int)+x)] rfl rfl (cell_one_new _ _ _) (by intro u hu;simp at hu;subst hu;rfl) (by decide) (by unfold maxLen;omega) (by omega) (by simp;omega) _ rfl ?_;intro gg cap w2 hown hgrow hat hlt2;have hB:=xP OR.out hgrow hszr))
    have O2:Hid (OwnI w2 w.heap.size (.slice (some ⟨gg,0,none⟩) (l.length+1) cap) (l++[(first:Int)+x])∧Grew w w2):=⟨OwnI.snoc hown,HA.out.2.trans (xN hB)⟩
    go_wp2;go_roundg (256-(j+1))
    case measure=>rw[HA.out.1];omega
    case rel=>exact⟨j+1,rfl,by omega,by go_num,by rw[HX.out];exact O2.out.1,O2.out.2⟩
   ·have he1:(kd==(l.length:Int))=false:=by simpa using he
    have HX:Hid (zT kinds row first (j+1)=l):=by show _=_;rw[HM.out,if_neg he]
    go_wp2;go_roundg (256-(j+1))
    case measure=>rw[HA.out.1];omega
    case rel=>exact⟨j+1,rfl,by omega,by go_num,by rw[HX.out];exact OR.out,HA.out.2⟩
  ·have hj3:j=256:=by omega
   have i1:(256:Int)<=(j:Int):=by omega
   have HZ:Hid (zT kinds row first j=zT kinds row first 256):=by show _=_;rw[hj3]
   generalize zT kinds row first j=l at *
   go_wp2;go_ret;exact⟨_,rfl,by rw[<-HZ.out];exact OR.out,HA.out.2⟩
def Rest (w:World)(p:Nat)(c:Tc)(k:Nat):Prop:=k<w.heap.size∧k≠p∧some k≠c.starts.ownBlock∧some k≠c.next.ownBlock∧some k≠c.ends.ownBlock
def Fin (w:World)(S:Nat->Prop)(H:Nat)(v:Value)(l:List Int):Prop:=OwnI w H v l∧∀g,v.ownBlock=some g->S g
theorem Fin.keep {w w':World}{S S':Nat->Prop}{H:Nat}{v:Value}{l:List Int}(h:Fin w S H v l)(e:∀k,H<=k->S k->w'.heap[k]? =w.heap[k]?∧S' k):Fin w' S' H v l:=
 ⟨zD h.1 fun g h1 _ hg=>(e g h1 (h.2 g hg)).1,fun g hg=>(e g (h.1.lt g hg).1 (h.2 g hg)).2⟩
theorem Fin.ints {w:World}{S:Nat->Prop}{H:Nat}{v:Value}{l:List Int}(h:Fin w S H v l):Ints w S v l:=zBT h.1 h.2
structure Gt (w:World)(H p:Nat)(c:Tc)(kinds acts pushed starts ends:List Int)(next:List (List Int)):Prop where
 tp:xB w p c
 starts:OwnI w H c.starts starts
 ends:OwnI w H c.ends ends
 next:∃rv:Nat->Value,w.ownsRow H 45 1 c.next next.length ((List.range next.length).map rv)∧∀i,i<next.length->Fin w (Rest w p c) H (rv i) (next.getD i [])
 kinds:Fin w (Rest w p c) H c.kinds kinds
 acts:Fin w (Rest w p c) H c.acts acts
 pushed:Fin w (Rest w p c) H c.pushed pushed
 HH:H<=w.heap.size
 sep:∀g,c.starts.ownBlock=some g->c.ends.ownBlock≠some g
theorem Gt.grown {w w':World}{H p:Nat}{c:Tc}{kinds acts pushed starts ends:List Int}{next:List (List Int)}(h:Gt w H p c kinds acts pushed starts ends next)(hk:Grew w w'):Gt w' H p c kinds acts pushed starts ends next:=by
 have hHH:=h.HH;have hp:=h.tp.lt;have hb:∀k,k<w.heap.size->w'.heap[k]? =w.heap[k]? :=fun k h1=>hk.block k h1 (by omega);have hrest:∀k,H<=k->Rest w p c k->w'.heap[k]? =w.heap[k]?∧Rest w' p c k:=fun k _ hr=>⟨hb k hr.1,lZ hr.1 hk.size,hr.2⟩
 obtain⟨rv,hn1,hn2⟩:=h.next
 exact⟨h.tp.of_block (hb p hp),zD h.starts fun k _ h2 _=>hb k h2,zD h.ends fun k _ h2 _=>hb k h2,⟨rv,zD hn1 fun k _ h2 _=>hb k h2,fun i hi=>(hn2 i hi).keep hrest⟩,h.kinds.keep hrest,h.acts.keep hrest,h.pushed.keep hrest,lY hHH hk.size,h.sep⟩
structure Turn (H p:Nat)(w:World)(c:Tc)(w':World)(c':Tc):Prop where
 rest:∀k,H<=k->Rest w p c k->w'.heap[k]? =w.heap[k]?∧Rest w' p c' k
 keep:Keep H p w w'
 same:c'={c with starts:=c'.starts,next:=c'.next,ends:=c'.ends}
theorem Turn.refl (H p:Nat)(w:World)(c:Tc):Turn H p w c w c:=⟨fun _ _ h=>⟨rfl,h⟩,Keep.refl _ _ _,rfl⟩
theorem Turn.trans {H p:Nat}{w w' w'':World}{c c' c'':Tc}(h:Turn H p w c w' c')(k:Turn H p w' c' w'' c''):Turn H p w c w'' c'':=
 ⟨fun i hi hr=>⟨((k.rest i hi (h.rest i hi hr).2).1).trans (h.rest i hi hr).1,(k.rest i hi (h.rest i hi hr).2).2⟩,h.keep.trans k.keep,k.same.trans (by rw[h.same])⟩
theorem Turn.grown {H p:Nat}{w w':World}{c:Tc}(hk:Grew w w')(hH:H<=w.heap.size):Turn H p w c w' c:=
 ⟨fun k _ hr=>⟨hk.block k hr.1 (by have:=hr.1;omega),lZ hr.1 hk.size,hr.2⟩,hk.lower hH hH,rfl⟩
theorem xM {w:World}{H e e' z z' n m:Nat}{v u:Value}{xs ys:List Value}(h:w.ownsRow H e z v n xs)(h':w.ownsRow H e' z' u m ys)(hef:e≠e'){g:Nat}(hg:v.ownBlock=some g):some g≠u.ownBlock:=fun he=>zGf h h' hef hg he.symm
theorem vM {w:World}{H b e z n:Nat}{c:Tc}{v:Value}{xs:List Value}(ht:xB w b c)(h:w.ownsRow H e z v n xs)(he:e≠90):some b≠v.ownBlock:=by
 intro hg;rcases h.2 with⟨hv,_⟩|⟨g1,_,cur,hv,_,hh,_⟩
 ·rw[hv] at hg;cases hg
 ·rw[hv] at hg
  have e1:b=g1:=by simpa[Value.ownBlock] using hg
  subst e1;unfold xB at ht;rw[hh] at ht;injection ht with ht;injection ht with _ h2 _;exact he h2
theorem zC (w:World)(a:Addr)(v:Value):(w.setCell a v).heap.size=w.heap.size:=by simp[World.setCell]
theorem Gt.starts_app {w w2:World}{H p g cap:Nat}{c:Tc}{kinds acts pushed starts ends:List Int}{next:List (List Int)}{x:Int}(h:Gt w H p c kinds acts pushed starts ends next)
  (hown:OwnI w2 H (.slice (some ⟨g,0,none⟩) (starts.length+1) cap) (starts++[x])) (hgrow:∀k,k<w.heap.size->some k≠c.starts.ownBlock->w2.heap[k]? =w.heap[k]?) (hsz:w.heap.size<=w2.heap.size) (hos:w2.os=w.os∧w2.output=w.output) (hat:c.starts.ownBlock=some g∨w.heap.size<=g):
  Gt (w2.setCell ⟨p,3,none⟩ (.slice (some ⟨g,0,none⟩) (starts.length+1) cap)) H p {c with starts:=.slice (some ⟨g,0,none⟩) (starts.length+1) cap} kinds acts pushed (starts++[x]) ends next∧Turn H p w c (w2.setCell ⟨p,3,none⟩ (.slice (some ⟨g,0,none⟩) (starts.length+1) cap)) {c with starts:=.slice (some ⟨g,0,none⟩) (starts.length+1) cap}:=by
 have hp:=h.tp.lt;have hHH:=h.HH;obtain⟨rv0,hn1,hn20⟩:=h.next
 have hown':=hown.raw;have hpb:=hgrow p hp (vM h.tp h.starts.raw (by decide));have hgp:g≠p:=fun e=>by
  subst e;exact vM (h.tp.of_block hpb) hown' (by decide) rfl
 have hb:∀k,k≠p->(w2.setCell ⟨p,3,none⟩ (.slice (some ⟨g,0,none⟩) (starts.length+1) cap)).heap[k]? =w2.heap[k]? :=fun k hk=>lJ _ _ _ _ hk;have hrest:∀k,H<=k->Rest w p c k->(w2.setCell ⟨p,3,none⟩ (.slice (some ⟨g,0,none⟩) (starts.length+1) cap)).heap[k]? =w.heap[k]?∧Rest (w2.setCell ⟨p,3,none⟩ (.slice (some ⟨g,0,none⟩) (starts.length+1) cap)) p {c with starts:=.slice (some ⟨g,0,none⟩) (starts.length+1) cap} k:=by
  rintro k hk ⟨h1,hkp,h2,h3,h4⟩;refine⟨(hb k hkp).trans (hgrow k h1 h2),by rw[zC];omega,hkp,?_,h3,h4⟩;intro e;have e':k=g:=by simpa[Value.ownBlock] using e
  subst e';rcases hat with ha|ha
  ·exact h2 ha.symm
  ·omega
 have other:∀{e z n v xs},w.ownsRow H e z v n xs->e≠90->(∀k,v.ownBlock=some k->some k≠c.starts.ownBlock)->(w2.setCell ⟨p,3,none⟩ (.slice (some ⟨g,0,none⟩) (starts.length+1) cap)).ownsRow H e z v n xs:=fun ho he hne=>zD ho fun k _ h2 hk=>(hb k (fun ek=>vM h.tp ho he (by rw[hk,ek]))).trans (hgrow k h2 (hne k hk));have mine:=zD (w':=(w2.setCell ⟨p,3,none⟩ (.slice (some ⟨g,0,none⟩) (starts.length+1) cap))) hown' fun k _ _ hk=>hb k (fun ek=>hgp (by have e':g=k:=(by simpa[Value.ownBlock] using hk);rw[e',ek]));refine⟨?_,hrest,⟨hos.1,hos.2,by rw[zC];exact hsz,fun k h1 h2=>(hb k h2).trans (hgrow k (by omega) fun e=>by have:=(h.starts.raw.lt k e.symm).1;omega)⟩,rfl⟩;refine⟨(h.tp.of_block hpb).set_starts _,?_,other h.ends (by decide) fun k hk e=>h.sep k e.symm hk,⟨rv0,other hn1 (by decide) fun k hk=>xM hn1 h.starts.raw (by decide) hk,fun i hi=>(hn20 i hi).keep hrest⟩,h.kinds.keep hrest,h.acts.keep hrest,h.pushed.keep hrest,by rw[zC];omega,?_⟩
 ·exact mine
 intro k hk;have e':g=k:=by simpa[Value.ownBlock] using hk
 subst e';intro he;rcases hat with ha|ha
 ·exact h.sep g ha he
 ·have:=(h.ends.lt g he).2
  omega
theorem Gt.ends_app {w w2:World}{H p g cap:Nat}{c:Tc}{kinds acts pushed starts ends:List Int}{next:List (List Int)}{x:Int}(h:Gt w H p c kinds acts pushed starts ends next)
  (hown:OwnI w2 H (.slice (some ⟨g,0,none⟩) (ends.length+1) cap) (ends++[x])) (hgrow:∀k,k<w.heap.size->some k≠c.ends.ownBlock->w2.heap[k]? =w.heap[k]?) (hsz:w.heap.size<=w2.heap.size) (hos:w2.os=w.os∧w2.output=w.output) (hat:c.ends.ownBlock=some g∨w.heap.size<=g):
  Gt (w2.setCell ⟨p,9,none⟩ (.slice (some ⟨g,0,none⟩) (ends.length+1) cap)) H p {c with ends:=.slice (some ⟨g,0,none⟩) (ends.length+1) cap} kinds acts pushed starts (ends++[x]) next∧Turn H p w c (w2.setCell ⟨p,9,none⟩ (.slice (some ⟨g,0,none⟩) (ends.length+1) cap)) {c with ends:=.slice (some ⟨g,0,none⟩) (ends.length+1) cap}:=by
 have hp:=h.tp.lt;have hHH:=h.HH;obtain⟨rv0,hn1,hn20⟩:=h.next
 have hown':=hown.raw;have hpb:=hgrow p hp (vM h.tp h.ends.raw (by decide));have hgp:g≠p:=fun e=>by
  subst e;exact vM (h.tp.of_block hpb) hown' (by decide) rfl
 have hb:∀k,k≠p->(w2.setCell ⟨p,9,none⟩ (.slice (some ⟨g,0,none⟩) (ends.length+1) cap)).heap[k]? =w2.heap[k]? :=fun k hk=>lJ _ _ _ _ hk;have hrest:∀k,H<=k->Rest w p c k->(w2.setCell ⟨p,9,none⟩ (.slice (some ⟨g,0,none⟩) (ends.length+1) cap)).heap[k]? =w.heap[k]?∧Rest (w2.setCell ⟨p,9,none⟩ (.slice (some ⟨g,0,none⟩) (ends.length+1) cap)) p {c with ends:=.slice (some ⟨g,0,none⟩) (ends.length+1) cap} k:=by
  rintro k hk ⟨h1,hkp,h2,h3,h4⟩;refine⟨(hb k hkp).trans (hgrow k h1 h4),by rw[zC];omega,hkp,h2,h3,?_⟩;intro e;have e':k=g:=by simpa[Value.ownBlock] using e
  subst e';rcases hat with ha|ha
  ·exact h4 ha.symm
  ·omega
 have other:∀{e z n v xs},w.ownsRow H e z v n xs->e≠90->(∀k,v.ownBlock=some k->some k≠c.ends.ownBlock)->(w2.setCell ⟨p,9,none⟩ (.slice (some ⟨g,0,none⟩) (ends.length+1) cap)).ownsRow H e z v n xs:=fun ho he hne=>zD ho fun k _ h2 hk=>(hb k (fun ek=>vM h.tp ho he (by rw[hk,ek]))).trans (hgrow k h2 (hne k hk));have mine:=zD (w':=(w2.setCell ⟨p,9,none⟩ (.slice (some ⟨g,0,none⟩) (ends.length+1) cap))) hown' fun k _ _ hk=>hb k (fun ek=>hgp (by have e':g=k:=(by simpa[Value.ownBlock] using hk);rw[e',ek]));refine⟨?_,hrest,⟨hos.1,hos.2,by rw[zC];exact hsz,fun k h1 h2=>(hb k h2).trans (hgrow k (by omega) fun e=>by have:=(h.ends.raw.lt k e.symm).1;omega)⟩,rfl⟩;refine⟨(h.tp.of_block hpb).set_ends _,other h.starts (by decide) fun k hk e=>h.sep k hk e.symm,?_,⟨rv0,other hn1 (by decide) fun k hk=>xM hn1 h.ends.raw (by decide) hk,fun i hi=>(hn20 i hi).keep hrest⟩,h.kinds.keep hrest,h.acts.keep hrest,h.pushed.keep hrest,by rw[zC];omega,?_⟩
 ·exact mine
 intro k hk he;have e':g=k:=by simpa[Value.ownBlock] using he
 subst e';rcases hat with ha|ha
 ·exact h.sep g hk ha
 ·have:=(h.starts.lt g hk).2
  omega
theorem Gt.next_app {w w2:World}{H p g cap:Nat}{c:Tc}{kinds acts pushed starts ends:List Int}{next:List (List Int)}{u:Value}{l:List Int}(h:Gt w H p c kinds acts pushed starts ends next)
  (rv:Nat->Value) (hn2:∀i,i<next.length->Fin w (Rest w p c) H (rv i) (next.getD i [])) (hu:Fin w (Rest w p c) H u l) (hown:w2.ownsRow H 45 1 (.slice (some ⟨g,0,none⟩) (next.length+1) cap) (next.length+1) ((List.range next.length).map rv++[u])) (hgrow:∀k,k<w.heap.size->some k≠c.next.ownBlock->w2.heap[k]? =w.heap[k]?) (hsz:w.heap.size<=w2.heap.size) (hos:w2.os=w.os∧w2.output=w.output) (hat:c.next.ownBlock=some g∨w.heap.size<=g):
  Gt (w2.setCell ⟨p,8,none⟩ (.slice (some ⟨g,0,none⟩) (next.length+1) cap)) H p {c with next:=.slice (some ⟨g,0,none⟩) (next.length+1) cap} kinds acts pushed starts ends (next++[l])∧Turn H p w c (w2.setCell ⟨p,8,none⟩ (.slice (some ⟨g,0,none⟩) (next.length+1) cap)) {c with next:=.slice (some ⟨g,0,none⟩) (next.length+1) cap}:=by
 have hp:=h.tp.lt;have hHH:=h.HH;obtain⟨rv0,hn1,hn20⟩:=h.next
 have hown':=hown;have hpb:=hgrow p hp (vM h.tp hn1 (by decide));have hgp:g≠p:=fun e=>by
  subst e;exact vM (h.tp.of_block hpb) hown' (by decide) rfl
 have hb:∀k,k≠p->(w2.setCell ⟨p,8,none⟩ (.slice (some ⟨g,0,none⟩) (next.length+1) cap)).heap[k]? =w2.heap[k]? :=fun k hk=>lJ _ _ _ _ hk;have hrest:∀k,H<=k->Rest w p c k->(w2.setCell ⟨p,8,none⟩ (.slice (some ⟨g,0,none⟩) (next.length+1) cap)).heap[k]? =w.heap[k]?∧Rest (w2.setCell ⟨p,8,none⟩ (.slice (some ⟨g,0,none⟩) (next.length+1) cap)) p {c with next:=.slice (some ⟨g,0,none⟩) (next.length+1) cap} k:=by
  rintro k hk ⟨h1,hkp,h2,h3,h4⟩;refine⟨(hb k hkp).trans (hgrow k h1 h3),by rw[zC];omega,hkp,h2,?_,h4⟩;intro e;have e':k=g:=by simpa[Value.ownBlock] using e
  subst e';rcases hat with ha|ha
  ·exact h3 ha.symm
  ·omega
 have other:∀{e z n v xs},w.ownsRow H e z v n xs->e≠90->(∀k,v.ownBlock=some k->some k≠c.next.ownBlock)->(w2.setCell ⟨p,8,none⟩ (.slice (some ⟨g,0,none⟩) (next.length+1) cap)).ownsRow H e z v n xs:=fun ho he hne=>zD ho fun k _ h2 hk=>(hb k (fun ek=>vM h.tp ho he (by rw[hk,ek]))).trans (hgrow k h2 (hne k hk));have mine:=zD hown' fun k _ _ hk=>hb k (fun ek=>hgp (by have e':g=k:=(by simpa[Value.ownBlock] using hk);rw[e',ek]));refine⟨?_,hrest,⟨hos.1,hos.2,by rw[zC];exact hsz,fun k h1 h2=>(hb k h2).trans (hgrow k (by omega) fun e=>by have:=(hn1.lt k e.symm).1;omega)⟩,rfl⟩;refine⟨(h.tp.of_block hpb).set_next _,other h.starts.raw (by decide) fun k hk=>xM h.starts.raw hn1 (by decide) hk,other h.ends.raw (by decide) fun k hk=>xM h.ends.raw hn1 (by decide) hk,⟨fun i=>if i=next.length then u else rv i,?_,?_⟩,h.kinds.keep hrest,h.acts.keep hrest,h.pushed.keep hrest,by rw[zC];omega,h.sep⟩
 ·have e:(List.range (next++[l]).length).map (fun i=>if i=next.length then u else rv i)=(List.range next.length).map rv++[u]:=by
   rw[kX,List.length_singleton,jS,if_pos rfl]
   congr 1
   exact List.map_congr_left fun i hi=>if_neg (by have:=List.mem_range.1 hi;omega)
  rw[e,kX];exact mine
 ·intro i hi
  rw[kX,List.length_singleton] at hi;by_cases e:i=next.length
  ·subst e
   simp only[if_true];have e2:(next++[l]).getD next.length []=l:=by simp
   rw[e2];exact hu.keep hrest
  ·show Fin _ _ _ (if i=next.length then u else rv i) _
   rw[if_neg e];have e2:(next++[l]).getD i []=next.getD i []:=by
    rw[lW,kW (by omega),<-lW]
   rw[e2];exact(hn2 i (by omega)).keep hrest
end Go.Proofs.YtbjcfkdnjaiclaaGreat
