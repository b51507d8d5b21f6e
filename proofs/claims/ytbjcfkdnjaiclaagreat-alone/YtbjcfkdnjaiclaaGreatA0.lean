import Derived.BigQuiet
import Derived.Deep.AppendLies
import Derived.Deep.DrawnRows
import Derived.Deep.LoopGhost
import Derived.Deep.OwnRows
import Derived.Deep.QuietTactic
import Derived.Deep.RegionLaw
import Derived.Deep.RegionWith
import Derived.KernelRfl
import Derived.Laws.Bits64
import Derived.Laws.BitsAllLaws
import Derived.Laws.BitsLemmas
import Derived.Laws.Pointers
import Derived.OwnWalk
import Derived.StillTactics
import Derived.Test.YtbjcfkdnjaiclaaGreatProg
import Derived.WalkKit
import Derived.WalkLawsBesides
import Derived.WalkSpells
/- Parts of the proof. -/
set_option linter.unusedVariables false
set_option linter.unusedSimpArgs false
set_option maxHeartbeats 4000000
set_option maxRecDepth 100000
namespace Go.Proofs.YtbjcfkdnjaiclaaGreat
open Go.RowKit Go.Proofs.Tryz Go.World
open Go.Value (int slice bool pointer string agg tuple)
open Go.IntKind (i64)
open Go.Ending (returned)
theorem vl {p:Prop}(h:p):Hid p:=h
theorem wp_cut {P:Program}{Q:Exit->Act->World->Prop}{a:Act}{w:World}{x y:Code}(h:∀K:Act->World->Prop,Hid (∀a w,y.wp P Q a w->K a w)->x.wp P (Exit.then K Q) a w):(Code.seq x y).wp P Q a w:=wp_seq_k h
theorem lQ{n:Nat}:n<=n:=n.le_refl
theorem lX{n:Nat}:0<=n:=n.zero_le
theorem lZ{n m k:Nat}(h:n<m)(g:m<=k):n<k:=Nat.lt_of_lt_of_le h g
theorem lY{n m k:Nat}(h:n<=m)(g:m<=k):n<=k:=Nat.le_trans h g
theorem lW.{u}{α:Type u}{l:List α}{i:Nat}{a:α}:l.getD i a=l[i]?.getD a:=List.getD_eq_getElem?_getD
theorem lV.{u}{α:Type u}{l:List α}{i:Nat}(h:i<l.length):l[i]? =some l[i]:=List.getElem?_eq_getElem h
theorem lU.{u}{α:Type u}{s:Array α}{i:Nat}{f:α->α}{j:Nat}:(s.modify i f)[j]? =if i=j then s[j]?.map f else s[j]?:=Array.getElem?_modify
theorem kQ.{u}{α:Type u}{i:Nat}{b:α}{s:Array α}:s[i]? =some b↔∃h:i<s.size,s[i]=b:=Array.getElem?_eq_some_iff
theorem kX.{u}{α:Type u}{a bs:List α}:(a++bs).length=a.length+bs.length:=List.length_append
theorem kY.{u}{α:Type u}{a b:α}:a∈[b]↔a=b:=List.mem_singleton
theorem kW.{u}{α:Type u}{l m:List α}{i:Nat}(h:i<l.length):(l++m)[i]? =l[i]?:=List.getElem?_append_left h
theorem kV.{u,v}{α:Type u}{β:Type v}{l:List α}(f:α->β):(l.map f).length=l.length:=List.length_map f
theorem kU.{u}{α:Type u}{a:α}{s t:List α}:a∈s++t↔a∈s∨a∈t:=List.mem_append
theorem kJ{a b:Nat}(h:a<b):a≠b:=Nat.ne_of_lt h
theorem kG{n:Nat}(h:n>0){i j:Nat}(g:i<=j):n^i<=n^j:=Nat.pow_le_pow_right h g
theorem hU.{u}{α:Type u}{a b:α}(h:some a=some b):a=b:=Option.some.inj h
theorem hJ.{u}{α:Type u}[BEq α][LawfulBEq α]{a b:α}:(a==b)=false↔a≠b:=beq_eq_false_iff_ne
theorem gQ.{u}{α:Type u}{l m:List α}{i:Nat}(h:l.length<=i):(l++m)[i]? =m[i-l.length]?:=List.getElem?_append_right h
theorem gX(n m:Nat):n+m-n=m:=Nat.add_sub_cancel_left n m
theorem gZ.{u}{α:Type u}{a:α}{l:List α}:(a::l).length=l.length+1:=List.length_cons
theorem gY(x:Nat){y:Nat}(h:y>0):x%y<y:=Nat.mod_lt x h
theorem gW.{u}{α:Type u}{a:α}{l:List α}:a∈a::l:=List.mem_cons_self
theorem gV.{u}{α:Type u}(a b c:List α):a++b++c=a++(b++c):=List.append_assoc a b c
theorem gU.{u,v}{α:Type u}{β:Type v}{f:α->β}{l:List α}{i:Nat}:(l.map f)[i]? =l[i]?.map f:=List.getElem?_map
theorem dY{p:Prop}[Decidable p](h:¬p):decide p=false:=decide_eq_false h
theorem dW{p:Prop}[Decidable p](h:p):decide p=true:=decide_eq_true h
theorem dV.{u}{α:Type u}(a:List α):a++[]=a:=List.append_nil a
section
structure Rs where
 tp:Nat
 opn:Bool
 stack:Nat->Nat
 depth:Nat
 bAt:Nat
 bLine:Nat
 bCol:Nat
 state:Nat
 byte:Nat->Nat
 first:Nat
 count:Nat
 hAt:Nat
 hLine:Nat
 hCol:Nat
 ahead:Nat
 taken:Nat
 length:Nat
 rule:Int
def Rs.cells (r:Rs)(v0:Value)(j:Nat):Value:=
 if j=0 then pointer (some ⟨r.tp,0,none⟩) else
 if j=1 then bool r.opn else
 if j=2 then v0 else
 if j=3 then int i64 (r.stack 0) else
 if j=4 then int i64 (r.stack 1) else
 if j=5 then int i64 (r.stack 2) else
 if j=6 then int i64 (r.stack 3) else
 if j=7 then int i64 r.depth else
 if j=8 then int i64 r.bAt else
 if j=9 then int i64 r.bLine else
 if j=10 then int i64 r.bCol else
 if j=11 then int i64 r.state else
 if j=76 then int i64 r.first else
 if j=77 then int i64 r.count else
 if j=78 then int i64 r.hAt else
 if j=79 then int i64 r.hLine else
 if j=80 then int i64 r.hCol else
 if j=81 then int i64 r.ahead else
 if j=82 then int i64 r.taken else
 if j=83 then int i64 r.length else
 if j=84 then int i64 r.rule else
 int .u8 (r.byte (j-12))
def zL (w:World)(b:Nat)(r:Rs)(v0:Value):Prop:=∃t,w.rowIs b t 85 (r.cells v0)
theorem Rs.cells_byte (r:Rs)(v0:Value)(i:Nat)(h:i<64):r.cells v0 (12+i)=int .u8 (r.byte i):=by
 unfold Rs.cells
 repeat rw[if_neg (by omega)]
 rw[gX]
theorem Rs.cells_stack (r:Rs)(v0:Value)(i:Nat)(h:i<4):r.cells v0 (3+i)=int i64 (r.stack i):=by
 match i,h with
 |0,_=>rfl
 |1,_=>rfl
 |2,_=>rfl
 |3,_=>rfl
namespace zL
variable {w w':World} {b:Nat} {r r':Rs} {v0 v1:Value}
theorem cell (h:zL w b r v0)(i:Nat)(hi:i<85):w.cell? ⟨b,i,none⟩=some (r.cells v0 i):=h.elim fun _ h=>h.cell hi
theorem frozen (h:zL w b r v0)(i:Nat):w.frozen? ⟨b,i,none⟩=false:=h.elim fun _ h=>h.frozen i
theorem lt (h:zL w b r v0):b<w.heap.size:=h.elim fun _ h=>h.lt
theorem of_block (h:zL w b r v0)(e:w'.heap[b]? =w.heap[b]?):zL w' b r v0:=h.elim fun t h=>⟨t,h.of_block e⟩
theorem alike (h:zL w b r v0)(e:w'.Alike w):zL w' b r v0:=h.of_block (by rw[e.1])
theorem below (h:zL w b r v0)(e:Below w.heap.size w w'):zL w' b r v0:=h.of_block (e.block b h.lt)
theorem drew (h:zL w b r v0):zL w.drew b r v0:=h
theorem set (h:zL w b r v0)(i:Nat)(v:Value)(e:∀j,j<85->(if j=i then v else r.cells v0 j)=r'.cells v1 j):zL (w.setCell ⟨b,i,none⟩ v) b r' v1:=
 h.elim fun t h=>⟨t,(h.set i v).congr e⟩
theorem setc (h:zL w b r v0)(i:Nat){v:Value}(h1:r'.cells v1 i=v)(h2:∀j,j≠i->r'.cells v1 j=r.cells v0 j):zL (w.setCell ⟨b,i,none⟩ v) b r' v1:=h.set i v fun j _=>by
 by_cases e:j=i
 ·rw[if_pos e,e,h1]
 ·rw[if_neg e,h2 j e]
theorem set_opn (h:zL w b r v0)(v:Bool):zL (w.setCell ⟨b,1,none⟩ (bool v)) b {r with opn:=v} v0:=
 h.setc 1 rfl fun j e=>by simp[Rs.cells,e]
theorem get_opn (h:zL w b r v0):w.cell? ⟨b,1,none⟩=some (bool r.opn):=h.cell 1 (by decide)
theorem set_told (h:zL w b r v0)(v:Value):zL (w.setCell ⟨b,2,none⟩ (v)) b r v:=
 h.setc 2 rfl fun j e=>by simp[Rs.cells,e]
theorem get_told (h:zL w b r v0):w.cell? ⟨b,2,none⟩=some v0:=h.cell 2 (by decide)
theorem set_depth (h:zL w b r v0)(v:Nat):zL (w.setCell ⟨b,7,none⟩ (int i64 (v:Int))) b {r with depth:=v} v0:=
 h.setc 7 rfl fun j e=>by simp[Rs.cells,e]
theorem get_depth (h:zL w b r v0):w.cell? ⟨b,7,none⟩=some (int i64 (r.depth:Int)):=h.cell 7 (by decide)
theorem set_bAt (h:zL w b r v0)(v:Nat):zL (w.setCell ⟨b,8,none⟩ (int i64 (v:Int))) b {r with bAt:=v} v0:=
 h.setc 8 rfl fun j e=>by simp[Rs.cells,e]
theorem get_bAt (h:zL w b r v0):w.cell? ⟨b,8,none⟩=some (int i64 (r.bAt:Int)):=h.cell 8 (by decide)
theorem set_bLine (h:zL w b r v0)(v:Nat):zL (w.setCell ⟨b,9,none⟩ (int i64 (v:Int))) b {r with bLine:=v} v0:=
 h.setc 9 rfl fun j e=>by simp[Rs.cells,e]
theorem get_bLine (h:zL w b r v0):w.cell? ⟨b,9,none⟩=some (int i64 (r.bLine:Int)):=h.cell 9 (by decide)
theorem set_bCol (h:zL w b r v0)(v:Nat):zL (w.setCell ⟨b,10,none⟩ (int i64 (v:Int))) b {r with bCol:=v} v0:=
 h.setc 10 rfl fun j e=>by simp[Rs.cells,e]
theorem get_bCol (h:zL w b r v0):w.cell? ⟨b,10,none⟩=some (int i64 (r.bCol:Int)):=h.cell 10 (by decide)
theorem set_state (h:zL w b r v0)(v:Nat):zL (w.setCell ⟨b,11,none⟩ (int i64 (v:Int))) b {r with state:=v} v0:=
 h.setc 11 rfl fun j e=>by simp[Rs.cells,e]
theorem get_state (h:zL w b r v0):w.cell? ⟨b,11,none⟩=some (int i64 (r.state:Int)):=h.cell 11 (by decide)
theorem set_first (h:zL w b r v0)(v:Nat):zL (w.setCell ⟨b,76,none⟩ (int i64 (v:Int))) b {r with first:=v} v0:=
 h.setc 76 rfl fun j e=>by simp[Rs.cells,e]
theorem get_first (h:zL w b r v0):w.cell? ⟨b,76,none⟩=some (int i64 (r.first:Int)):=h.cell 76 (by decide)
theorem set_count (h:zL w b r v0)(v:Nat):zL (w.setCell ⟨b,77,none⟩ (int i64 (v:Int))) b {r with count:=v} v0:=
 h.setc 77 rfl fun j e=>by simp[Rs.cells,e]
theorem get_count (h:zL w b r v0):w.cell? ⟨b,77,none⟩=some (int i64 (r.count:Int)):=h.cell 77 (by decide)
theorem set_hAt (h:zL w b r v0)(v:Nat):zL (w.setCell ⟨b,78,none⟩ (int i64 (v:Int))) b {r with hAt:=v} v0:=
 h.setc 78 rfl fun j e=>by simp[Rs.cells,e]
theorem get_hAt (h:zL w b r v0):w.cell? ⟨b,78,none⟩=some (int i64 (r.hAt:Int)):=h.cell 78 (by decide)
theorem set_hLine (h:zL w b r v0)(v:Nat):zL (w.setCell ⟨b,79,none⟩ (int i64 (v:Int))) b {r with hLine:=v} v0:=
 h.setc 79 rfl fun j e=>by simp[Rs.cells,e]
theorem get_hLine (h:zL w b r v0):w.cell? ⟨b,79,none⟩=some (int i64 (r.hLine:Int)):=h.cell 79 (by decide)
theorem set_hCol (h:zL w b r v0)(v:Nat):zL (w.setCell ⟨b,80,none⟩ (int i64 (v:Int))) b {r with hCol:=v} v0:=
 h.setc 80 rfl fun j e=>by simp[Rs.cells,e]
theorem get_hCol (h:zL w b r v0):w.cell? ⟨b,80,none⟩=some (int i64 (r.hCol:Int)):=h.cell 80 (by decide)
theorem set_ahead (h:zL w b r v0)(v:Nat):zL (w.setCell ⟨b,81,none⟩ (int i64 (v:Int))) b {r with ahead:=v} v0:=
 h.setc 81 rfl fun j e=>by simp[Rs.cells,e]
theorem get_ahead (h:zL w b r v0):w.cell? ⟨b,81,none⟩=some (int i64 (r.ahead:Int)):=h.cell 81 (by decide)
theorem set_taken (h:zL w b r v0)(v:Nat):zL (w.setCell ⟨b,82,none⟩ (int i64 (v:Int))) b {r with taken:=v} v0:=
 h.setc 82 rfl fun j e=>by simp[Rs.cells,e]
theorem get_taken (h:zL w b r v0):w.cell? ⟨b,82,none⟩=some (int i64 (r.taken:Int)):=h.cell 82 (by decide)
theorem set_length (h:zL w b r v0)(v:Nat):zL (w.setCell ⟨b,83,none⟩ (int i64 (v:Int))) b {r with length:=v} v0:=
 h.setc 83 rfl fun j e=>by simp[Rs.cells,e]
theorem get_length (h:zL w b r v0):w.cell? ⟨b,83,none⟩=some (int i64 (r.length:Int)):=h.cell 83 (by decide)
theorem set_rule (h:zL w b r v0)(v:Int):zL (w.setCell ⟨b,84,none⟩ (int i64 v)) b {r with rule:=v} v0:=
 h.setc 84 rfl fun j e=>by simp[Rs.cells,e]
theorem get_rule (h:zL w b r v0):w.cell? ⟨b,84,none⟩=some (int i64 r.rule):=h.cell 84 (by decide)
theorem get_tp (h:zL w b r v0):w.cell? ⟨b,0,none⟩=some (pointer (some ⟨r.tp,0,none⟩)):=h.cell 0 (by decide)
theorem get_byte (h:zL w b r v0)(i:Nat)(hi:i<64):w.cell? ⟨b,12+i,none⟩=some (int .u8 (r.byte i)):=by
 rw[h.cell _ (by omega),Rs.cells_byte _ _ _ hi]
theorem get_stack (h:zL w b r v0)(i:Nat)(hi:i<4):w.cell? ⟨b,3+i,none⟩=some (int i64 (r.stack i)):=by
 rw[h.cell _ (by omega),Rs.cells_stack _ _ _ hi]
theorem set_byte (h:zL w b r v0)(i v:Nat)(hi:i<64):zL (w.setCell ⟨b,12+i,none⟩ (int .u8 v)) b {r with byte:=fun j=>if j=i then v else r.byte j} v0:=
 h.set (12+i) _ fun j hj=>by
  by_cases e:j=12+i
  ·subst e;rw[if_pos rfl,Rs.cells_byte _ _ _ hi];simp
  ·rw[if_neg e]
   unfold Rs.cells;by_cases h1:12<=j∧j<76
   ·repeat rw[if_neg (by omega)]
    show _=Value.int .u8 ((if j-12=i then v else r.byte (j-12):Nat):Int);rw[if_neg (by omega)]
   ·by_cases h2:j<12
    ·match j,h2 with
     |0,_=>rfl
     |1,_=>rfl
     |2,_=>rfl
     |3,_=>rfl
     |4,_=>rfl
     |5,_=>rfl
     |6,_=>rfl
     |7,_=>rfl
     |8,_=>rfl
     |9,_=>rfl
     |10,_=>rfl
     |11,_=>rfl
    ·simp[show¬j-12=i by omega]
theorem set_stack (h:zL w b r v0)(i v:Nat)(hi:i<4):zL (w.setCell ⟨b,3+i,none⟩ (int i64 v)) b {r with stack:=fun j=>if j=i then v else r.stack j} v0:=
 h.set (3+i) _ fun j hj=>by
  match i,hi with
  |0,_=>by_cases e:j=3 <;> simp[Rs.cells,e]
  |1,_=>by_cases e:j=4 <;> simp[Rs.cells,e]
  |2,_=>by_cases e:j=5 <;> simp[Rs.cells,e]
  |3,_=>by_cases e:j=6 <;> simp[Rs.cells,e]
end zL
structure Keep (H b:Nat)(w w':World):Prop where
 os:w'.os=w.os
 output:w'.output=w.output
 size:w.heap.size<=w'.heap.size
 block:∀k,k<H->k≠b->w'.heap[k]? =w.heap[k]?
abbrev Grew (w w':World):Prop:=Keep w.heap.size w.heap.size w w'
namespace Keep
variable {H b:Nat} {w w' w'':World}
theorem refl (H b:Nat)(w:World):Keep H b w w:=⟨rfl,rfl,lQ,fun _ _ _=>rfl⟩
theorem trans (h:Keep H b w w')(k:Keep H b w' w''):Keep H b w w'':=
 ⟨k.os.trans h.os,k.output.trans h.output,lY h.size k.size,fun i h1 h2=>(k.block i h1 h2).trans (h.block i h1 h2)⟩
theorem set (w:World)(i:Nat)(v:Value):Keep H b w (w.setCell ⟨b,i,none⟩ v):=
 ⟨rfl,rfl,by simp[World.setCell],fun k _ h2=>Below.heap_setCell _ _ _ _ h2⟩
theorem alloc (w:World)(o:Obj)(h:H<=w.heap.size):Keep H b w (w.alloc o):=
 ⟨rfl,rfl,by simp,fun k h1 _=>Below.heap_alloc _ _ _ (by omega)⟩
theorem drew (w:World):Keep H b w w.drew:=⟨rfl,rfl,lQ,fun _ _ _=>rfl⟩
theorem alike (h:w'.Alike w):Keep H b w w':=⟨h.2.1,h.2.2,by rw[h.1];exact lQ,fun k _ _=>by rw[h.1]⟩
theorem below (h:Below w.heap.size w w')(hH:H<=w.heap.size):Keep H b w w':=⟨h.os,h.output,h.size,fun k h1 _=>h.block k (by omega)⟩
theorem grown {row:Option Nat}(hg:w.grownBy w' row)(hH:H<=w.heap.size)(hr:∀k,row=some k->H<=k):Keep H b w w':=
 ⟨hg.os,hg.output,hg.size,fun k h1 _=>hg.block k (by omega) (fun e=>by have:=hr k e.symm;omega)⟩
end Keep
theorem lJ(w:World)(a:Addr)(u:Value)(k:Nat)(h:k≠a.block):(w.setCell a u).heap[k]? =w.heap[k]?:=Below.heap_setCell w a u k h
theorem lG(w:World)(o:Obj)(k:Nat)(h:k<w.heap.size):(w.alloc o).heap[k]? =w.heap[k]?:=Below.heap_alloc w o k h
theorem kZ{H b:Nat}(w:World)(o:Obj)(h:H<=w.heap.size):Keep H b w (w.alloc o):=Keep.alloc w o h
theorem gJ(w:World)(o:Obj):(w.alloc o).heap[w.heap.size]? =some o:=heap_alloc_new w o
theorem gG{w v:World}{a:Addr}(h:v.heap[a.block]? =w.heap[a.block]?):v.cell? a=w.cell? a:=cell?_of_block h
theorem dQ{w v:World}{a:Addr}(h:v.heap[a.block]? =w.heap[a.block]?):v.frozen? a=w.frozen? a:=frozen?_of_block h
theorem dX{w:World}(o:Obj)(n i:Nat)(h:n<w.heap.size):(w.alloc o).cell? ⟨n,i,none⟩=w.cell? ⟨n,i,none⟩:=cell?_alloc_past o n i h
theorem dZ{P:Program}{fn:Func}{R:Ending->World->Prop}{a:Act}{w:World}{v:Value}(h:Sem.run P (results fn a.tmps) w=.ok v w)(g:a.defers=[])(k:R (returned v) w):bodyPost P fn R .ret a w:=bodyPost_ret h g k
end
theorem w64 (n:Int)(h0:-9223372036854775808<=n)(h1:n<9223372036854775808):wrap64 n=n:=by unfold wrap64;omega
theorem zBS (n:Int)(h0:0<=n)(h1:n<9223372036854775808):IntKind.i64.wrap n=n:=by rw[IntKind.wrap_i64];omega
theorem qB (a b:Nat)(ha:a<9223372036854775808)(hb:b<9223372036854775808):bits .and i64 (a:Int) (b:Int)=((a&&&b:Nat):Int):=
 (bits_nat i64 63 (by decide) (fun n h0 h1=>zBS n h0 (by simpa using h1)) a b (by simpa using ha) (by simpa using hb)).1
theorem zD7 (a:Nat)(ha:a<9223372036854775808):bits .and i64 (a:Int) 1=((a%2:Nat):Int):=by
 have h:=qB a 1 ha (by decide);rw[show ((1:Nat):Int)=1 from rfl] at h;rw[h,Nat.and_one_is_mod]
theorem zBs (a k:Nat):((a:Int)/2^k)=((a/2^k:Nat):Int):=by simp
theorem zAO {k:IntKind}{a b:Int}(h:a=b):Ending.returned (int k a)=returned (int k b):=by rw[h]
theorem zKE (s:ByteArray)(k:Nat)(h:k<s.size):s.data.toList.take (k+1)=s.data.toList.take k++[s[k]]:=by
 rw[List.take_succ_eq_append_getElem (by simpa using h)];rfl
theorem qS {a b:Bool}(h:a=b):Ending.returned (bool a)=returned (bool b):=by rw[h]
def yS:Nat->Code->Code
 |n+1,.seq _ b=>yS n b
 |_,c=>c
def byt (s:ByteArray)(i:Nat):Nat:=(s.data.toList.getD i 0).toNat
theorem zAo (s:ByteArray)(i:Nat):byt s i<256:=UInt8.toNat_lt _
theorem zDQ (s:ByteArray)(i:Nat)(h:i<s.size):s[i].toNat=byt s i:=by
 have h':i<s.data.toList.length:=by simpa using h
 unfold byt;rw[lW,lV h'];rfl
def zF (kinds:Nat):Nat->Nat
 |0=>1
 |k+1=>if zF kinds k<=3000 then zF kinds k*(kinds+1) else zF kinds k
theorem zF4 (kinds:Nat)(hk:kinds<=256)(k:Nat):zF kinds k<=771000:=by
 cases k with
 |zero=>simp[zF]
 |succ k=>
  induction k with
  |zero=>simp[zF];omega
  |succ k ih=>
   rw[zF];split
   ·rename_i h
    calc zF kinds (k+1)*(kinds+1)<=3000*257:=Nat.mul_le_mul h (by omega)
     _=771000:=by decide
   ·exact ih
theorem zDT (kinds k m:Nat)(h:3000<zF kinds k)(hm:k<=m):zF kinds m=zF kinds k:=by
 induction m with
 |zero=>rw[show k=0 by omega]
 |succ m ih=>
  by_cases e:k=m+1
  ·rw[e]
  ·have:=ih (by omega)
   rw[zF,if_neg (by omega)];exact this
theorem zKx (ways kinds:Nat)(h:ways*(kinds+1)<=771000):Value.int IntKind.i64 (wrap64 ((ways:Int)*((kinds:Int)+1)))=Value.int IntKind.i64 ((ways*(kinds+1):Nat):Int):=by
 have e:((ways:Int)*((kinds:Int)+1))=((ways*(kinds+1):Nat):Int):=by simp
 rw[e,w64 _ (by omega) (by omega)]
section
namespace RdAt
variable {w w':World} {b p:Nat} {s:ByteArray} {k:Bool}
end RdAt
theorem zJ2 {a b:Nat}(h:a=b):Ending.returned (int i64 (a:Int))=returned (int i64 (b:Int)):=by rw[h]
theorem Keep.drewSet {H b:Nat}(w:World)(n i:Nat)(v:Value):Keep H b w ((w.drewN n).setCell ⟨b,i,none⟩ v):=Keep.trans (w':=w.drewN n) (Keep.alike ⟨rfl,rfl,rfl⟩) (Keep.set _ _ _)
theorem zKp (s:ByteArray)(i:Nat)(h:s.size<=i):byt s i=0:=by
 have h':s.data.toList.length<=i:=by simpa using h
 unfold byt;rw[lW,List.getElem?_eq_none h'];rfl
end
theorem zEU (kinds ahead:Nat)(w:World)(hk:kinds<=256)(ha:ahead<=255):
  Calls prog 101 #[int i64 kinds,int i64 ahead] w fun e w'=>e=returned (int i64 (zF kinds ahead:Nat))∧w'=w:=by
 go_in;go_wp2;go_loop [5,6] (fun r i=>∃k:Nat,k<=ahead∧i=int i64 k∧r=int i64 (zF kinds k:Nat)) (fun _ i=>ahead-(intOf i).toNat)
 case atStart=>exact⟨0,lX,rfl,rfl⟩
 case round=>
  obtain⟨k,hka,rfl,rfl⟩:=hrel;have hw:=zF4 kinds hk k;have hw1:=zF4 kinds hk (k+1);by_cases hlt:k<ahead
  ·have i1:(k:Int)<(ahead:Int):=by omega
   by_cases hm:zF kinds k<=3000
   ·have i2:(zF kinds k:Int)<=3000:=by omega
    have HS:Hid (zF kinds (k+1)=zF kinds k*(kinds+1)):=by show _=_;rw[zF,if_pos hm]
    have hp:zF kinds k*(kinds+1)<=771000:=by rw[<-HS.out];exact hw1
    generalize zF kinds k=m at *;have HM:=zKx m kinds hp;go_wp2;refine⟨⟨k+1,by omega,by go_num,?_⟩,by simp[intOf];omega⟩;rw[HS.out];exact HM
   ·have i2:(3000:Int)<(zF kinds k:Int):=by omega
    have HS:=vl <| zDT kinds k ahead (by omega) (by omega);generalize zF kinds k=m at *;go_wp2;go_ret;exact⟨zJ2 HS.out.symm,rfl⟩
  ·have i1:(ahead:Int)<=(k:Int):=by omega
   have HS:Hid (k=ahead):=by show _=_;omega
   go_wp2;go_ret;exact⟨zJ2 (by rw[HS.out]),rfl⟩
section
namespace Kept
variable {H a b:Nat} {w w' w'':World}
end Kept
structure Tc where
 stream:Value
 ahead:Value
 hold:Value
 starts:Value
 acts:Value
 pushed:Value
 kinds:Value
 count:Value
 next:Value
 ends:Value
 live:Value
 rows:Value
 longer:Value
def xA (w:World)(b:Nat)(c:Tc):Prop:=
 w.heap[b]? =some (.cells #[c.stream,c.ahead,c.hold,c.starts,c.acts,c.pushed,c.kinds,c.count,c.next,c.ends,c.live,c.rows,c.longer] 90)
namespace xA
variable {w w':World} {b:Nat} {c:Tc}
theorem lt (h:xA w b c):b<w.heap.size:=(kQ.1 h).1
theorem fz (h:xA w b c)(i:Nat):w.frozen? ⟨b,i,none⟩=false:=by unfold xA at h;simp[World.frozen?,h]
theorem of_block (h:xA w b c)(e:w'.heap[b]? =w.heap[b]?):xA w' b c:=e.trans h
theorem get_stream (h:xA w b c):w.cell? ⟨b,0,none⟩=some c.stream:=by unfold xA at h;simp[World.cell?,h]
theorem set_stream (h:xA w b c)(v:Value):xA (w.setCell ⟨b,0,none⟩ v) b {c with stream:=v}:=by unfold xA at *;simp[setCell,lU,h]
theorem get_ahead (h:xA w b c):w.cell? ⟨b,1,none⟩=some c.ahead:=by unfold xA at h;simp[World.cell?,h]
theorem set_ahead (h:xA w b c)(v:Value):xA (w.setCell ⟨b,1,none⟩ v) b {c with ahead:=v}:=by unfold xA at *;simp[setCell,lU,h]
theorem get_hold (h:xA w b c):w.cell? ⟨b,2,none⟩=some c.hold:=by unfold xA at h;simp[World.cell?,h]
theorem get_starts (h:xA w b c):w.cell? ⟨b,3,none⟩=some c.starts:=by unfold xA at h;simp[World.cell?,h]
theorem set_starts (h:xA w b c)(v:Value):xA (w.setCell ⟨b,3,none⟩ v) b {c with starts:=v}:=by unfold xA at *;simp[setCell,lU,h]
theorem get_acts (h:xA w b c):w.cell? ⟨b,4,none⟩=some c.acts:=by unfold xA at h;simp[World.cell?,h]
theorem set_acts (h:xA w b c)(v:Value):xA (w.setCell ⟨b,4,none⟩ v) b {c with acts:=v}:=by unfold xA at *;simp[setCell,lU,h]
theorem get_pushed (h:xA w b c):w.cell? ⟨b,5,none⟩=some c.pushed:=by unfold xA at h;simp[World.cell?,h]
theorem set_pushed (h:xA w b c)(v:Value):xA (w.setCell ⟨b,5,none⟩ v) b {c with pushed:=v}:=by unfold xA at *;simp[setCell,lU,h]
theorem get_kinds (h:xA w b c):w.cell? ⟨b,6,none⟩=some c.kinds:=by unfold xA at h;simp[World.cell?,h]
theorem get_count (h:xA w b c):w.cell? ⟨b,7,none⟩=some c.count:=by unfold xA at h;simp[World.cell?,h]
theorem get_next (h:xA w b c):w.cell? ⟨b,8,none⟩=some c.next:=by unfold xA at h;simp[World.cell?,h]
theorem set_next (h:xA w b c)(v:Value):xA (w.setCell ⟨b,8,none⟩ v) b {c with next:=v}:=by unfold xA at *;simp[setCell,lU,h]
theorem get_ends (h:xA w b c):w.cell? ⟨b,9,none⟩=some c.ends:=by unfold xA at h;simp[World.cell?,h]
theorem set_ends (h:xA w b c)(v:Value):xA (w.setCell ⟨b,9,none⟩ v) b {c with ends:=v}:=by unfold xA at *;simp[setCell,lU,h]
theorem get_live (h:xA w b c):w.cell? ⟨b,10,none⟩=some c.live:=by unfold xA at h;simp[World.cell?,h]
theorem set_live (h:xA w b c)(v:Value):xA (w.setCell ⟨b,10,none⟩ v) b {c with live:=v}:=by unfold xA at *;simp[setCell,lU,h]
theorem get_rows (h:xA w b c):w.cell? ⟨b,11,none⟩=some c.rows:=by unfold xA at h;simp[World.cell?,h]
theorem set_rows (h:xA w b c)(v:Value):xA (w.setCell ⟨b,11,none⟩ v) b {c with rows:=v}:=by unfold xA at *;simp[setCell,lU,h]
theorem get_longer (h:xA w b c):w.cell? ⟨b,12,none⟩=some c.longer:=by unfold xA at h;simp[World.cell?,h]
theorem set_longer (h:xA w b c)(v:Value):xA (w.setCell ⟨b,12,none⟩ v) b {c with longer:=v}:=by unfold xA at *;simp[setCell,lU,h]
end xA
namespace Rt
variable {H a b:Nat} {w0 w w':World} {s:ByteArray} {p p':Nat} {k k':Bool} {c c':Tc} {L:List (Nat×Obj)}
end Rt
end
theorem yL:(prog.info? 3).map (fun i=>(i.zero,i.size,i.bytes))=some (some (int i64 0),1,8):=by kernel_rfl
theorem zOa:(prog.info? 5).map (fun i=>(i.zero,i.size,i.bytes))=some (some (int .u8 0),1,1):=by kernel_rfl
theorem qU:(prog.info? 4).map (fun i=>(i.zero,i.size,i.bytes))=some (some (bool false),1,1):=by kernel_rfl
theorem zFj:(prog.info? 45).map (fun i=>(i.zero,i.size,i.bytes))=some (some (slice none 0 0),1,24):=by kernel_rfl
theorem zL8 {w w':World}{H a:Nat}{e:TypeId}{size:Nat}{v:Value}{n:Nat}{xs:List Value}(h:w.ownsRow H e size v n xs)(hk:∀H,Keep H a w w')(ha:a<H):w'.ownsRow H e size v n xs:=by
 refine⟨h.1,h.2.imp id ?_⟩;rintro⟨g,cap,cur,hv,hg,hh,rest⟩;have hlt:=(kQ.1 hh).1;exact⟨g,cap,cur,hv,hg,((hk w.heap.size).block g hlt (by omega)).trans hh,rest⟩
theorem xQ {w1 w2:World}{o:Obj}{H:Nat}{v:Value}{e:TypeId}{size n:Nat}{xs:List Value}(ho:w1.ownsRow H e size v n xs)(hg:(w1.alloc o).grownBy w2 v.ownBlock)(hH:H<=w1.heap.size):Below H w1 w2:=
 ((Below.refl H w1).alloc hH o).trans ⟨hg.os,hg.tape,hg.output,hg.size,fun k hk=>hg.block k (by simp;omega) fun e=>by have:=(ho.lt k e.symm).1;omega⟩
theorem xO {H a:Nat}{w w':World}(h:Below H w w'):Keep H a w w':=⟨h.os,h.output,h.size,fun k hk _=>h.block k hk⟩
theorem jU {α:Type}(f:Nat->α)(j:Nat):(List.range (j+1)).map f=(List.range j).map f++[f j]:=by rw[List.range_succ,List.map_append];rfl
theorem vF {w:World}{H G:Nat}{e:TypeId}{size:Nat}{v:Value}{n:Nat}{xs:List Value}(h:w.ownsRow H e size v n xs)(hG:G<=H):w.ownsRow G e size v n xs:=by
 refine⟨h.1,h.2.imp id ?_⟩;rintro⟨g,cap,cur,hv,hg,hh,rest⟩;exact⟨g,cap,cur,hv,lY hG hg,hh,rest⟩
theorem zD {w w':World}{H:Nat}{e:TypeId}{size:Nat}{v:Value}{n:Nat}{xs:List Value}(h:w.ownsRow H e size v n xs)(hb:∀g,H<=g->g<w.heap.size->v.ownBlock=some g->w'.heap[g]? =w.heap[g]?):w'.ownsRow H e size v n xs:=by
 refine⟨h.1,h.2.imp id ?_⟩;rintro⟨g,cap,cur,hv,hg,hh,rest⟩;have hlt:=(kQ.1 hh).1;exact⟨g,cap,cur,hv,hg,(hb g hg hlt (by rw[hv];rfl)).trans hh,rest⟩
theorem zG {w:World}{H:Nat}{e:TypeId}{size:Nat}{v:Value}{n:Nat}{xs:List Value}(h:w.ownsRow H e size v n xs):∃ao cap,v=slice ao n cap:=by
 rcases h.2 with⟨hv,hn⟩|⟨g,cap,_,hv,_⟩
 ·exact⟨none,0,by rw[hv,hn]⟩
 ·exact⟨_,cap,hv⟩
theorem zGc {w:World}{H G:Nat}{e f:TypeId}{size size':Nat}{v u:Value}{n m:Nat}{xs ys:List Value}(h:w.ownsRow H e size v n xs)(h':w.ownsRow G f size' u m ys)(hef:e≠f){g:Nat}(hg:v.ownBlock=some g):u.ownBlock≠some g:=by
 intro hu;rcases h.2 with⟨hv,_⟩|⟨g1,_,cur,hv,_,hh,_⟩
 ·rw[hv] at hg;cases hg
 ·rcases h'.2 with⟨hv',_⟩|⟨g2,_,cur',hv',_,hh',_⟩
  ·rw[hv'] at hu;cases hu
  ·rw[hv] at hg
   rw[hv'] at hu;have e1:g1=g:=by simpa[Value.ownBlock] using hg
   have e2:g2=g:=by simpa[Value.ownBlock] using hu
   subst e1 e2;rw[hh] at hh';injection hh' with hh';injection hh' with _ h2 _;exact hef h2
section
theorem zL4 {k:IntKind}{a b:Int}(h:a=b):Ending.returned (int k a)=returned (int k b):=by rw[h]
theorem zKQ {a b:Bool}(h:a=b):Ending.returned (bool a)=returned (bool b):=by rw[h]
def IntsAt (w:World)(S:Nat->Prop)(v:Value)(n:Nat)(f:Nat->Int):Prop:=
 ∃b o cap,S b∧v=slice (some ⟨b,o,none⟩) n cap∧n<=cap∧cap<=maxLen∧∀i,i<n->w.cell? ⟨b,o+i,none⟩=some (int i64 (f i))
def BytesAt (w:World)(S:Nat->Prop)(v:Value)(n:Nat)(f:Nat->Nat):Prop:=
 ∃b o cap,S b∧v=slice (some ⟨b,o,none⟩) n cap∧n<=cap∧cap<=maxLen∧∀i,i<n->w.cell? ⟨b,o+i,none⟩=some (int .u8 (f i))
def BoolsAt (w:World)(S:Nat->Prop)(v:Value)(n:Nat)(f:Nat->Bool):Prop:=
 ∃b o cap,S b∧v=slice (some ⟨b,o,none⟩) n cap∧n<=cap∧cap<=maxLen∧∀i,i<n->w.cell? ⟨b,o+i,none⟩=some (bool (f i))
def RowsAt (w:World)(S:Nat->Prop)(v:Value)(n m:Nat)(f:Nat->Nat->Int):Prop:=
 ∃b o cap,S b∧v=slice (some ⟨b,o,none⟩) n cap∧n<=cap∧cap<=maxLen∧∀i,i<n->∃u,w.cell? ⟨b,o+i,none⟩=some u∧IntsAt w S u m (f i)
section
variable {w w':World} {S:Nat->Prop} {v:Value} {n m:Nat}
theorem IntsAt.keep {f:Nat->Int}(h:IntsAt w S v n f)(e:∀b,S b->w'.heap[b]? =w.heap[b]?):IntsAt w' S v n f:=by
 obtain⟨b,o,cap,hb,rfl,h1,h2,h3⟩:=h;exact⟨b,o,cap,hb,rfl,h1,h2,fun i hi=>(gG (e b hb)).trans (h3 i hi)⟩
theorem BytesAt.keep {f:Nat->Nat}(h:BytesAt w S v n f)(e:∀b,S b->w'.heap[b]? =w.heap[b]?):BytesAt w' S v n f:=by
 obtain⟨b,o,cap,hb,rfl,h1,h2,h3⟩:=h;exact⟨b,o,cap,hb,rfl,h1,h2,fun i hi=>(gG (e b hb)).trans (h3 i hi)⟩
theorem BoolsAt.keep {f:Nat->Bool}(h:BoolsAt w S v n f)(e:∀b,S b->w'.heap[b]? =w.heap[b]?):BoolsAt w' S v n f:=by
 obtain⟨b,o,cap,hb,rfl,h1,h2,h3⟩:=h;exact⟨b,o,cap,hb,rfl,h1,h2,fun i hi=>(gG (e b hb)).trans (h3 i hi)⟩
theorem RowsAt.keep {f:Nat->Nat->Int}(h:RowsAt w S v n m f)(e:∀b,S b->w'.heap[b]? =w.heap[b]?):RowsAt w' S v n m f:=by
 obtain⟨b,o,cap,hb,rfl,h1,h2,h3⟩:=h;refine⟨b,o,cap,hb,rfl,h1,h2,fun i hi=>?_⟩;obtain⟨u,hu,hr⟩:=h3 i hi;exact⟨u,(gG (e b hb)).trans hu,hr.keep e⟩
end
structure Tb where
 stream:Bool
 ahead:Nat
 hold:Nat
 count:Nat
 rows:Nat
 nst:Nat
 nmode:Nat
 nrule:Nat
 nlong:Nat
 start:Nat->Nat
 act:Nat->Nat
 push:Nat->Nat
 kind:Nat->Nat
 next:Nat->Nat->Nat
 ends:Nat->Int
 live:Nat->Bool
 long:Nat->Nat
structure Tb.Ok (t:Tb):Prop where
 ahead:t.ahead<64
 hold0:1<=t.hold
 hold:t.hold<=64
 count:t.count<=256
 rows0:1<=t.rows
 rows:t.rows<=3000
 nst:t.nst<=200
 nmode:1<=t.nmode
 long:t.rows*t.nst<=8*t.nlong
 start:∀i,i<t.nmode->t.start i<t.nst
 push:∀i,i<t.nrule->t.push i<t.nmode
 kind:∀c,c<256->t.kind c<t.count
 next:∀s k,s<t.nst->k<t.count->t.next s k<t.nst
 ends:∀s,s<t.nst->-1<=t.ends s∧t.ends s<t.nrule
 longB:∀i,i<t.nlong->t.long i<256
structure TabAt (w:World)(S:Nat->Prop)(p:Nat)(t:Tb):Prop where
 safe:S p
 c0:w.cell? ⟨p,0,none⟩=some (bool t.stream)
 c1:w.cell? ⟨p,1,none⟩=some (int i64 t.ahead)
 c2:w.cell? ⟨p,2,none⟩=some (int i64 t.hold)
 c3:∃v,w.cell? ⟨p,3,none⟩=some v∧IntsAt w S v t.nmode fun i=>t.start i
 c4:∃v,w.cell? ⟨p,4,none⟩=some v∧IntsAt w S v t.nrule fun i=>t.act i
 c5:∃v,w.cell? ⟨p,5,none⟩=some v∧IntsAt w S v t.nrule fun i=>t.push i
 c6:∃v,w.cell? ⟨p,6,none⟩=some v∧IntsAt w S v 256 fun i=>t.kind i
 c7:w.cell? ⟨p,7,none⟩=some (int i64 t.count)
 c8:∃v,w.cell? ⟨p,8,none⟩=some v∧RowsAt w S v t.nst t.count fun i k=>t.next i k
 c9:∃v,w.cell? ⟨p,9,none⟩=some v∧IntsAt w S v t.nst fun i=>t.ends i
 c10:∃v,w.cell? ⟨p,10,none⟩=some v∧BoolsAt w S v t.nst fun i=>t.live i
 c11:w.cell? ⟨p,11,none⟩=some (int i64 t.rows)
 c12:∃v,w.cell? ⟨p,12,none⟩=some v∧BytesAt w S v t.nlong fun i=>t.long i
theorem TabAt.keep {w w':World}{S:Nat->Prop}{p:Nat}{t:Tb}(h:TabAt w S p t)(e:∀b,S b->w'.heap[b]? =w.heap[b]?):TabAt w' S p t:=by
 have c:∀i,w'.cell? ⟨p,i,none⟩=w.cell? ⟨p,i,none⟩:=fun i=>gG (e p h.safe);refine⟨h.safe,(c _).trans h.c0,(c _).trans h.c1,(c _).trans h.c2,?_,?_,?_,?_,(c _).trans h.c7,?_,?_,?_,(c _).trans h.c11,?_⟩
 ·obtain⟨v,a,b⟩:=h.c3;exact⟨v,(c _).trans a,b.keep e⟩
 ·obtain⟨v,a,b⟩:=h.c4;exact⟨v,(c _).trans a,b.keep e⟩
 ·obtain⟨v,a,b⟩:=h.c5;exact⟨v,(c _).trans a,b.keep e⟩
 ·obtain⟨v,a,b⟩:=h.c6;exact⟨v,(c _).trans a,b.keep e⟩
 ·obtain⟨v,a,b⟩:=h.c8;exact⟨v,(c _).trans a,b.keep e⟩
 ·obtain⟨v,a,b⟩:=h.c9;exact⟨v,(c _).trans a,b.keep e⟩
 ·obtain⟨v,a,b⟩:=h.c10;exact⟨v,(c _).trans a,b.keep e⟩
 ·obtain⟨v,a,b⟩:=h.c12;exact⟨v,(c _).trans a,b.keep e⟩
theorem zEM (p:Nat)(w:World)(S:Nat->Prop)(t:Tb)(hT:TabAt w S p t)(ok:t.Ok)(s c:Nat)(hs:s<t.nst)(hc:c<256):
  Calls prog 154 #[pointer (some ⟨p,0,none⟩),int i64 s,int .u8 c] w fun e w'=>e=returned (int i64 (t.next s (t.kind c)))∧w'.Alike w:=by
 obtain⟨_,h8,b,o,cap,hb,rfl,hcap,hml,hN⟩:=hT.c8;obtain⟨u,hu,b2,o2,cap2,hb2,rfl,hcap2,hml2,hrow⟩:=hN s hs;obtain⟨_,h6,b3,o3,cap3,hb3,rfl,hcap3,hml3,hkind⟩:=hT.c6;have hkc:w.cell? ⟨b3,o3+c,none⟩=some (int i64 (t.kind c:Nat)):=hkind c hc;have hkm:=ok.kind c hc;have hnk:w.cell? ⟨b2,o2+t.kind c,none⟩=some (int i64 (t.next s (t.kind c):Nat)):=hrow (t.kind c) hkm;clear hN hrow hkind hT ok;generalize t.kind c=k at *;generalize t.next s k=x at *
 generalize t.nst=n at *;generalize t.count=m at *;have i1:(s:Int)<(n:Int):=by omega
 have i2:(k:Int)<(m:Int):=by omega
 have i3:(c:Int)<256:=by omega
 go_in;go_wp2;go_quiet (fail);go_wp2;go_ret;exact⟨rfl,rfl,rfl,rfl⟩
theorem zLn (p:Nat)(w:World)(S:Nat->Prop)(t:Tb)(hT:TabAt w S p t):
  Calls prog 118 #[pointer (some ⟨p,0,none⟩)] w fun e w'=>e=returned (int i64 t.count)∧w'.Alike w:=by
 have h:=hT.c7;generalize t.count=m at *;go_in;go_wp2;go_ret;exact⟨rfl,rfl,rfl,rfl⟩
def Tb.further (t:Tb)(a d:Nat):Nat:=(a*(t.count+1)+d)%t.rows
theorem zAY (p:Nat)(w:World)(S:Nat->Prop)(t:Tb)(hT:TabAt w S p t)(ok:t.Ok)(a d:Nat)(ha:a<3000)(hd:d<=256):
  Calls prog 108 #[pointer (some ⟨p,0,none⟩),int i64 a,int i64 d] w fun e w'=>e=returned (int i64 (t.further a d))∧w'.Alike w:=by
 have h7:=hT.c7;have h11:=hT.c11;have b1:=ok.count;have b2:=ok.rows0;have b3:=ok.rows;have HF:Hid (t.further a d=(a*(t.count+1)+d)%t.rows):=rfl;generalize t.further a d=x at *;generalize t.count=m at *;generalize t.rows=n at *;have p1:(a:Int)*((m:Int)+1)<=771000:=by
  have h:a*(m+1)<=771000:=lY (Nat.mul_le_mul (show a<=3000 by omega) (show m+1<=257 by omega)) (by decide);have e:(a:Int)*((m:Int)+1)=((a*(m+1):Nat):Int):=by simp
  rw[e];omega
 have p2:0<=(a:Int)*((m:Int)+1):=by
  have e:(a:Int)*((m:Int)+1)=((a*(m+1):Nat):Int):=by simp
  rw[e];omega
 have hn0:((n:Int)==0)=false:=by rw[hJ];omega
 go_in;go_wp2;go_quiet (fail);go_wp2;go_ret;exact⟨zL4 (by rw[HF.out];simp),rfl,rfl,rfl⟩
def Tb.longer (t:Tb)(a s:Nat):Bool:=decide (t.long ((a*t.nst+s)/8)/2^((a*t.nst+s)%8)%2=1)
theorem zK2 (x k:Nat)(hx:x<256):(bits BinOp.and IntKind.u8 ((x:Int)/2^k) 1==1)=decide (x/2^k%2=1):=by
 have h1:x/2^k<=x:=Nat.div_le_self _ _;have h:=u8_and_nat (x/2^k) 1 (by omega) (by decide);rw[zBs];rw[show ((1:Nat):Int)=1 from rfl] at h;rw[h,Nat.and_one_is_mod,Bool.eq_iff_iff];simp only[beq_iff_eq,decide_eq_true_eq];omega
abbrev Ca:=Calls prog
end
section
def Row (w:World)(H:Nat)(e:TypeId)(v:Value)(n:Nat)(f:Nat->Value):Prop:=w.ownsRow H e 1 v n ((List.range n).map f)
section
variable {w w':World} {H:Nat} {e e':TypeId} {v u:Value} {n m:Nat} {f f':Nat->Value}
theorem Row.get (h:Row w H e v n f)(hn:0<n):∃g cap,v=slice (some ⟨g,0,none⟩) n cap∧H<=g∧g<w.heap.size∧n<=cap∧cap<=maxLen∧(∀i,i<n->w.cell? ⟨g,i,none⟩=some (f i))∧(∀i,w.frozen? ⟨g,i,none⟩=false):=by
 rcases h.2 with⟨_,h0⟩|⟨g,cap,cur,hv,hb,hg,h1,h2,h3,h4⟩
 ·omega
 ·refine⟨g,cap,hv,hb,(kQ.1 hg).1,h1,h2,fun i hi=>?_,fun i=>by simp[World.frozen?,hg]⟩
  have e1:(cur.toList.take (n*1))[i]? =some (f i):=by rw[h4];simp[hi]
  rw[List.getElem?_take,if_pos (by omega)] at e1;simp[World.cell?,hg];simpa using e1
theorem Row.congr (h:Row w H e v n f)(hf:∀i,i<n->f i=f' i):Row w H e v n f':=by
 unfold Row at *;rw[<-List.map_congr_left fun i hi=>hf i (List.mem_range.1 hi)];exact h
theorem Row.set {g cap:Nat}(h:Row w H e (slice (some ⟨g,0,none⟩) n cap) n f)(i:Nat)(x:Value):Row (w.setCell ⟨g,i,none⟩ x) H e (slice (some ⟨g,0,none⟩) n cap) n (fun j=>if j=i then x else f j):=by
 refine⟨by simp,?_⟩;rcases h.2 with⟨hv,_⟩|⟨g',cap',cur,hv,hb,hg,h1,h2,h3,h4⟩
 ·cases hv
 ·injection hv with ha _ hc
  injection ha with ha;injection ha with hgg;subst hgg hc;refine .inr ⟨g,cap,cur.setIfInBounds i x,rfl,hb,?_,h1,h2,by simpa using h3,?_⟩
  ·simp[setCell,lU,hg]
  ·apply List.ext_getElem?
   intro j;have e1:(cur.toList.take (n*1))[j]? =((List.range n).map f)[j]? :=by rw[h4]
   rw[List.getElem?_take] at e1 ⊢;by_cases hj:j<n
   ·rw[if_pos (by omega)] at e1 ⊢
    simp[hj] at e1;have hjc:j<cur.size:=by omega
    simp[Array.getElem?_setIfInBounds,hj];by_cases hji:i=j
    ·subst hji
     simp[hjc]
    ·simp[hji,Ne.symm hji]
     simpa using e1
   ·rw[if_neg (by omega)]
    simp[hj]
theorem Row.blk (h:Row w H e v n f)(hb:∀g,H<=g->g<w.heap.size->v.ownBlock=some g->w'.heap[g]? =w.heap[g]?):Row w' H e v n f:=zD h hb
theorem Row.setOther {g i cap:Nat}{x:Value}(h:Row w H e v n f)(h':Row w H e' (slice (some ⟨g,0,none⟩) m cap) m f')(hne:e≠e'):Row (w.setCell ⟨g,i,none⟩ x) H e v n f:=
 h.blk fun k _ _ hk=>lJ _ _ _ _ (fun hkg=>zGc h h' hne hk (by rw[show k=g from hkg];rfl))
theorem Row.mono {G:Nat}(h:Row w H e v n f)(hG:G<=H):Row w G e v n f:=vF h hG
end
theorem zGM {w:World}{H b:Nat}{c:Tc}{e:TypeId}{v:Value}{n:Nat}{f:Nat->Value}(ht:xA w b c)(h:Row w H e v n f)(he:e≠90){g:Nat}(hg:v.ownBlock=some g):g≠b:=by
 intro eb;subst eb;rcases h.2 with⟨hv,_⟩|⟨g1,_,cur,hv,_,hh,_⟩
 ·rw[hv] at hg;cases hg
 ·rw[hv] at hg
  have e1:g1=g:=by simpa[Value.ownBlock] using hg
  subst e1;unfold xA at ht;rw[hh] at ht;injection ht with ht;injection ht with _ h2 _;exact he h2
structure Mem (w:World)(H b:Nat)(c:Tc)(t:Tb):Prop where
 tp:xA w b c
 stream:c.stream=bool t.stream
 ahead:c.ahead=int i64 t.ahead
 hold:c.hold=int i64 t.hold
 count:c.count=int i64 t.count
 rows:c.rows=int i64 t.rows
 starts:Row w H 3 c.starts t.nmode fun i=>int i64 (t.start i:Nat)
 acts:Row w H 3 c.acts t.nrule fun i=>int i64 (t.act i:Nat)
 pushed:Row w H 3 c.pushed t.nrule fun i=>int i64 (t.push i:Nat)
 kinds:Row w H 3 c.kinds 256 fun i=>int i64 (t.kind i:Nat)
 next:∃rv,Row w H 45 c.next t.nst rv∧∀i,i<t.nst->Row w H 3 (rv i) t.count fun k=>int i64 (t.next i k:Nat)
 ends:Row w H 3 c.ends t.nst fun i=>int i64 (t.ends i)
 live:Row w H 4 c.live t.nst fun i=>bool (t.live i)
 longer:Row w H 5 c.longer t.nlong fun i=>int .u8 (t.long i:Nat)
 HH:H<=w.heap.size
theorem Mem.keep {w w':World}{H b:Nat}{c:Tc}{t:Tb}(h:Mem w H b c t)(hb:w'.heap[b]? =w.heap[b]?)(hk:∀k,H<=k->k<w.heap.size->w'.heap[k]? =w.heap[k]?)(hs:w.heap.size<=w'.heap.size):Mem w' H b c t:=by
 have k:∀{e v n f},Row w H e v n f->Row w' H e v n f:=fun r=>r.blk fun g h1 h2 _=>hk g h1 h2;obtain⟨rv,n1,n2⟩:=h.next
 exact⟨h.tp.of_block hb,h.stream,h.ahead,h.hold,h.count,h.rows,k h.starts,k h.acts,k h.pushed,k h.kinds,⟨rv,k n1,fun i hi=>k (n2 i hi)⟩,k h.ends,k h.live,k h.longer,lY h.HH hs⟩
theorem Mem.setLive {w:World}{H b g cap:Nat}{c:Tc}{t:Tb}(h:Mem w H b c t)(hg:c.live=slice (some ⟨g,0,none⟩) t.nst cap)(i:Nat)(hgH:H<=g):Mem (w.setCell ⟨g,i,none⟩ (bool true)) H b c {t with live:=fun j=>if j=i then true else t.live j}:=by
 have hl:=h.live;rw[hg] at hl;obtain⟨rv,n1,n2⟩:=h.next
 refine⟨h.tp.of_block (lJ _ _ _ _ (zGM h.tp hl (by decide) rfl).symm),h.stream,h.ahead,h.hold,h.count,h.rows,h.starts.setOther hl (by decide),h.acts.setOther hl (by decide),h.pushed.setOther hl (by decide),h.kinds.setOther hl (by decide),⟨rv,n1.setOther hl (by decide),fun i hi=>(n2 i hi).setOther hl (by decide)⟩,h.ends.setOther hl (by decide),?_,h.longer.setOther hl (by decide),by simpa[World.setCell] using h.HH⟩;rw[hg];refine(hl.set i (bool true)).congr fun j _=>?_;show(if j=i then Value.bool true else Value.bool (t.live j))=Value.bool (if j=i then true else t.live j);by_cases e:j=i <;> simp[e]
structure Tb.OkN (t:Tb):Prop where
 count:t.count<=256
 nst:t.nst<=200
 next:∀s k,s<t.nst->k<t.count->t.next s k<t.nst
 ends:∀s,s<t.nst->-1<=t.ends s∧t.ends s<t.nrule
def Tb.anyTo (t:Tb)(s:Nat):Nat->Bool
 |0=>false
 |k+1=>t.anyTo s k||t.live (t.next s k)
theorem zLG (t:Tb)(s k n:Nat)(h:k<=n)(ha:t.anyTo s k=true):t.anyTo s n=true:=by
 induction n with
 |zero=>rw[show k=0 by omega] at ha;exact ha
 |succ n ih=>
  by_cases e:k=n+1
  ·rw[<-e];exact ha
  ·rw[Tb.anyTo,ih (by omega)];rfl
theorem zCw (w:World)(H b:Nat)(c:Tc)(t:Tb)(hM:Mem w H b c t)(ok:t.OkN)(s:Nat)(hs:s<t.nst)(hc:1<=t.count)(rv:Value)(hr:Row w H 3 rv t.count fun k=>int i64 (t.next s k:Nat)):
  Calls prog 138 #[pointer (some ⟨b,0,none⟩),rv] w fun e w'=>e=returned (bool (t.anyTo s t.count))∧w'=w:=by
 obtain⟨g,cap,rfl,hg1,hg2,hg3,hg4,hg5,hg6⟩:=hr.get hc;obtain⟨gl,capl,hl,hl1,hl2,hl3,hl4,hl5,hl6⟩:=hM.live.get (Nat.lt_of_le_of_lt lX hs);have y10:w.cell? ⟨b,10,none⟩=some (slice (some ⟨gl,0,none⟩) t.nst capl):=by rw[<-hl];exact hM.tp.get_live
 have HN:Hid (∀k,k<t.count->t.next s k<t.nst):=fun k hk=>ok.next s k hs hk
 have HG:=vl hg5;have HLV:=vl hl5;have hcb:=ok.count;have hnb:=ok.nst;clear hM ok hr hg5 hl5 hg6 hl6;generalize hcnt:t.count=n at *;go_in;go_wp2;go_loop [9] (fun i=>∃j:Nat,j<=n∧i=int i64 j∧t.anyTo s j=false) (fun i=>n-(intOf i).toNat)
 case atStart=>exact⟨0,lX,rfl,rfl⟩
 case round=>
  obtain⟨j,hj,rfl,hany⟩:=hrel;have HA:=vl hany;by_cases hj2:j<n
  ·have i1:(j:Int)<(n:Int):=by omega
   have y1:=HG.out j hj2;have hx:=HN.out j hj2;have y2:=HLV.out _ hx;have i2:(t.next s j:Int)<(t.nst:Int):=by omega
   have HL:Hid (t.anyTo s (j+1)=(t.anyTo s j||t.live (t.next s j))):=rfl;generalize t.next s j=x at *
   generalize hlv:t.live x=lv at *;have HLX:Hid (t.anyTo s (j+1)=lv):=by show _=_;rw[HL.out,HA.out];rfl
   cases lv with
   |true=>
    go_wp2;go_ret;exact⟨qS (zLG t s (j+1) n (by omega) HLX.out).symm,rfl⟩
   |false=>
    go_wp2;exact⟨⟨j+1,by omega,by go_num,HLX.out⟩,by simp[intOf];omega⟩
  ·have hjn:j=n:=by omega
   have i1:(n:Int)<=(j:Int):=by omega
   have HJ:Hid (t.anyTo s n=false):=by rw[<-hjn];exact HA.out
   go_wp2;go_ret;exact⟨qS HJ.out.symm,rfl⟩
end
theorem Tb.OkN.withLive {t:Tb}(ok:t.OkN)(f:Nat->Bool):({t with live:=f}).OkN:=⟨ok.count,ok.nst,ok.next,ok.ends⟩
def Tb.spreadTo (t:Tb):Nat->Tb×Bool
 |0=>(t,false)
 |s+1=>if !(t.spreadTo s).1.live s&&(t.spreadTo s).1.anyTo s t.count then({(t.spreadTo s).1 with live:=fun j=>if j=s then true else(t.spreadTo s).1.live j},true) else t.spreadTo s
theorem zBj (t:Tb)(s:Nat)(h1:(t.spreadTo s).1.live s=false)(h2:(t.spreadTo s).1.anyTo s t.count=true):t.spreadTo (s+1)=({(t.spreadTo s).1 with live:=fun j=>if j=s then true else(t.spreadTo s).1.live j},true):=by
 rw[Tb.spreadTo,h1,h2];rfl
theorem zAg (t:Tb)(s:Nat)(h:(t.spreadTo s).1.live s=true∨(t.spreadTo s).1.anyTo s t.count=false):t.spreadTo (s+1)=t.spreadTo s:=by
 rw[Tb.spreadTo];rcases h with h|h <;> rw[h] <;> simp
theorem zAc (t:Tb)(s:Nat):(t.spreadTo s).1={t with live:=(t.spreadTo s).1.live}:=by
 induction s with
 |zero=>rfl
 |succ s ih=>
  rw[Tb.spreadTo];split
  ·show({(t.spreadTo s).1 with live:=_}:Tb)=_
   rw[ih]
  ·exact ih
theorem zBi (t:Tb)(s:Nat):(t.spreadTo s).1.nst=t.nst:=by rw[zAc]
theorem zGI (t:Tb)(s:Nat):(t.spreadTo s).1.count=t.count:=by rw[zAc]
theorem zKI {t:Tb}(ok:t.OkN)(s:Nat):(t.spreadTo s).1.OkN:=by rw[zAc];exact ok.withLive _
theorem zDt (w:World)(H b:Nat)(c:Tc)(t:Tb)(hM:Mem w H b c t)(ok:t.OkN)(hn:1<=t.nst)(hc:1<=t.count):
  Calls prog 100 #[pointer (some ⟨b,0,none⟩)] w fun e w'=>e=returned (bool (t.spreadTo t.nst).2)∧Mem w' H b c (t.spreadTo t.nst).1∧Below H w w':=by
 obtain⟨rv,hnx,hrv⟩:=hM.next
 obtain⟨g,cap,hg,hg1,hg2,hg3,hg4,hg5,hg6⟩:=hnx.get hn;obtain⟨gl,capl,hl,hl1,hl2,hl3,hl4,hl5,hl6⟩:=hM.live.get hn;have y8:w.cell? ⟨b,8,none⟩=some (slice (some ⟨g,0,none⟩) t.nst cap):=by rw[<-hg];exact hM.tp.get_next
 have HM:=vl hM;have HGL:=vl hl;have HG:=vl hg;have hnb:=ok.nst;generalize hnst:t.nst=n at *;have HN:=vl hnst;go_in;go_wp2;go_loopg [3,11] n (fun q more i wr=>∃j:Nat,q=n-j∧j<=n∧i=int i64 (j:Int)∧more=bool (t.spreadTo j).2∧Mem wr H b c (t.spreadTo j).1∧Below H w wr)
 case atStart=>exact⟨0,rfl,lX,rfl,rfl,HM.out,Below.refl _ _⟩
 case round=>
  obtain⟨j,hgk,hj,rfl,rfl,hMr,hB⟩:=hrel;have AA:Hid (gk=n-j∧Mem wr H b c (t.spreadTo j).1∧Below H w wr):=⟨hgk,hMr,hB⟩
  by_cases hj2:j<n
  ·have i1:(j:Int)<(n:Int):=by omega
   obtain⟨rv,hnx,hrv⟩:=hMr.next
   rw[HG.out,zBi,HN.out] at hnx;obtain⟨g',cap',e0,_,_,_,_,hcell,_⟩:=hnx.get hn;have eg:g'=g:=by injection e0 with e1 _ _;injection e1 with e1;injection e1 with e1;exact e1.symm
   subst eg;have z1:=hcell j hj2;have hlv:=hMr.live;rw[HGL.out,zBi,HN.out] at hlv;obtain⟨gl',capl',e0,_,_,_,_,hcelll,hfz⟩:=hlv.get hn;have el:gl'=gl:=by injection e0 with e1 _ _;injection e1 with e1;injection e1 with e1;exact e1.symm
   subst el;have z2:=hcelll j hj2;have z3:=hfz j;have z4:wr.cell? ⟨b,10,none⟩=some (slice (some ⟨gl',0,none⟩) n capl):=by rw[<-HGL.out];exact hMr.tp.get_live
   have hrow:=hrv j (by rw[zBi,HN.out];exact hj2);obtain⟨ao,cp,hrs⟩:=zG hrow;have HROW:=vl hrow;rw[hrs] at z1;have HRS:=vl hrs;have HY:=vl <| zBj t j;have HZ:=vl <| zAg t j;have HOK:=zKI ok j;have hcc:=zGI t j;have hnn:(t.spreadTo j).1.nst=n:=by rw[zBi,HN.out]
   clear hgk hMr hB hcell hcelll hfz hrow hrs hnx hrv hlv e0;generalize hts:t.spreadTo j=ts at *;cases hlive:ts.1.live j with
   |true=>
    rw[hlive] at z2;have HT:=vl <| HZ.out (.inl hlive);go_wp2;go_roundg (n-(j+1))
    case measure=>rw[AA.out.1];omega
    case rel=>exact⟨j+1,rfl,by omega,congrArg (Value.int IntKind.i64) (by omega),by rw[HT.out],by rw[HT.out];exact AA.out.2.1,AA.out.2.2⟩
   |false=>
    rw[hlive] at z2;cases hany:ts.1.anyTo j t.count with
    |true=>
     have HT:=vl <| HY.out hlive hany;have HA:Hid (ts.1.anyTo j ts.1.count=true):=by show _=_;rw[hcc];exact hany
     have HRW:Hid (Row wr H 3 (slice ao t.count cp) ts.1.count fun k=>int i64 (ts.1.next j k:Nat)):=by show Row _ _ _ _ _ _;rw[<-hcc,<-HRS.out];exact HROW.out
     have hjn:j<ts.1.nst:=by rw[hnn];exact hj2
     have hc1:1<=ts.1.count:=by rw[hcc];exact hc
     have HGX:Hid (c.live=slice (some ⟨gl',0,none⟩) ts.1.nst capl):=by show _=_;rw[hnn];exact HGL.out
     clear hlive hany hts HROW HRS hnn;rw[hcc] at z1;clear hcc;go_wp2_with fail;refine(zCw wr H b c ts.1 AA.out.2.1 HOK j hjn hc1 _ HRW.out).mono ?_;rintro e w1 ⟨rfl,rfl⟩;rw[HA.out];clear hjn hc1 HOK;go_wp2_with fail;go_roundg (n-(j+1))
     case measure=>rw[AA.out.1];omega
     case rel=>
      refine⟨j+1,rfl,by omega,congrArg (Value.int IntKind.i64) (by omega),by rw[HT.out],?_,AA.out.2.2.trans ?_⟩
      ·rw[HT.out]
       exact AA.out.2.1.setLive HGX.out j hl1
      ·exact⟨rfl,rfl,rfl,by simp[World.setCell],fun k hk=>lJ _ _ _ _ (by show k≠gl';omega)⟩
    |false=>
     have HT:Hid (t.spreadTo (j+1)=ts):=HZ.out (.inr hany);have HA:Hid (ts.1.anyTo j ts.1.count=false):=by show _=_;rw[hcc];exact hany
     have HRW:Hid (Row wr H 3 (slice ao t.count cp) ts.1.count fun k=>int i64 (ts.1.next j k:Nat)):=by show Row _ _ _ _ _ _;rw[<-hcc,<-HRS.out];exact HROW.out
     have hjn:j<ts.1.nst:=by rw[hnn];exact hj2
     have hc1:1<=ts.1.count:=by rw[hcc];exact hc
     have HGX:Hid (c.live=slice (some ⟨gl',0,none⟩) ts.1.nst capl):=by show _=_;rw[hnn];exact HGL.out
     clear hlive hany hts HROW HRS hnn;rw[hcc] at z1;clear hcc;go_wp2_with fail;refine(zCw wr H b c ts.1 AA.out.2.1 HOK j hjn hc1 _ HRW.out).mono ?_;rintro e w1 ⟨rfl,rfl⟩;rw[HA.out];clear hjn hc1 HOK;go_wp2_with fail;go_roundg (n-(j+1))
     case measure=>rw[AA.out.1];omega
     case rel=>exact⟨j+1,rfl,by omega,congrArg (Value.int IntKind.i64) (by omega),by rw[HT.out],by rw[HT.out];exact AA.out.2.1,AA.out.2.2⟩
  ·have hjn:j=n:=by omega
   have i1:(n:Int)<=(j:Int):=by omega
   rw[hjn] at AA;clear hgk hMr hB;have HJ:Hid ((t.spreadTo j).2=(t.spreadTo n).2):=by show _=_;rw[hjn]
   clear hjn;generalize (t.spreadTo j).2=bb at *;go_wp2_with fail;go_ret;exact⟨qS HJ.out,AA.out.2.1,AA.out.2.2⟩
structure MemB (w:World)(H b:Nat)(c:Tc)(t:Tb):Prop where
 tp:xA w b c
 stream:c.stream=bool t.stream
 ahead:c.ahead=int i64 t.ahead
 hold:c.hold=int i64 t.hold
 count:c.count=int i64 t.count
 rows:c.rows=int i64 t.rows
 starts:Row w H 3 c.starts t.nmode fun i=>int i64 (t.start i:Nat)
 acts:Row w H 3 c.acts t.nrule fun i=>int i64 (t.act i:Nat)
 pushed:Row w H 3 c.pushed t.nrule fun i=>int i64 (t.push i:Nat)
 kinds:Row w H 3 c.kinds 256 fun i=>int i64 (t.kind i:Nat)
 next:∃rv,Row w H 45 c.next t.nst rv∧∀i,i<t.nst->Row w H 3 (rv i) t.count fun k=>int i64 (t.next i k:Nat)
 ends:Row w H 3 c.ends t.nst fun i=>int i64 (t.ends i)
 longer:Row w H 5 c.longer t.nlong fun i=>int .u8 (t.long i:Nat)
 HH:H<=w.heap.size
theorem MemB.withLive {w w':World}{H b:Nat}{c:Tc}{t:Tb}{v:Value}(h:MemB w H b c t)(hk:Keep w.heap.size b w w')(ht:xA w' b {c with live:=v}):MemB w' H b {c with live:=v} t:=by
 have k:∀{e v n f},e≠90->Row w H e v n f->Row w' H e v n f:=fun he r=>r.blk fun g _ h2 hg=>hk.block g h2 (zGM h.tp r he hg);obtain⟨rv,n1,n2⟩:=h.next
 exact⟨ht,h.stream,h.ahead,h.hold,h.count,h.rows,k (by decide) h.starts,k (by decide) h.acts,k (by decide) h.pushed,k (by decide) h.kinds,⟨rv,k (by decide) n1,fun i hi=>k (by decide) (n2 i hi)⟩,k (by decide) h.ends,k (by decide) h.longer,lY h.HH hk.size⟩
theorem MemB.mem {w:World}{H b:Nat}{c:Tc}{t:Tb}(h:MemB w H b c t)(f:Nat->Bool)(hl:Row w H 4 c.live t.nst fun i=>bool (f i)):Mem w H b c {t with live:=f}:=
 ⟨h.tp,h.stream,h.ahead,h.hold,h.count,h.rows,h.starts,h.acts,h.pushed,h.kinds,h.next,h.ends,hl,h.longer,h.HH⟩
def zEa (live:Nat->Bool):Nat->Nat
 |0=>0
 |n+1=>zEa live n+if live n then 0 else 1
def Tb.deadTo (t:Tb)(n:Nat):Nat:=zEa t.live n
theorem zMG (live:Nat->Bool)(s:Nat)(hs:live s=false)(n:Nat):zEa (fun j=>if j=s then true else live j) n+(if s<n then 1 else 0)=zEa live n:=by
 induction n with
 |zero=>rfl
 |succ n ih=>
  simp only[zEa];generalize zEa (fun j=>if j=s then true else live j) n=A at *;generalize zEa live n=B at *;by_cases e:n=s
  ·subst e
   simp[hs] at *;omega
  ·by_cases h:s<n
   ·simp[e,h,show s<n+1 by omega] at *
    omega
   ·simp[e,h,show¬s<n+1 by omega] at *
    omega
theorem zHG (t:Tb)(s:Nat)(hs:s<=t.nst):(t.spreadTo s).1.deadTo t.nst+(if (t.spreadTo s).2 then 1 else 0)<=t.deadTo t.nst:=by
 induction s with
 |zero=>exact lQ
 |succ s ih=>
  have ih:=ih (by omega);cases h1:(t.spreadTo s).1.live s with
  |true=>rw[zAg t s (.inl h1)];exact ih
  |false=>
   cases h2:(t.spreadTo s).1.anyTo s t.count with
   |false=>rw[zAg t s (.inr h2)];exact ih
   |true=>
    rw[zBj t s h1 h2];have h3:=zMG (t.spreadTo s).1.live s h1 t.nst;rw[if_pos (by omega)] at h3;show zEa (fun j=>if j=s then true else(t.spreadTo s).1.live j) t.nst+(if true=true then 1 else 0)<=_;rw[if_pos rfl,h3];exact lY (Nat.le_add_right _ _) ih
theorem zHD (t:Tb)(s:Nat)(h:(t.spreadTo s).2=false):(t.spreadTo s).1=t:=by
 induction s with
 |zero=>rfl
 |succ s ih=>
  cases h1:(t.spreadTo s).1.live s with
  |true=>rw[zAg t s (.inl h1)] at h ⊢;exact ih h
  |false=>
   cases h2:(t.spreadTo s).1.anyTo s t.count with
   |false=>rw[zAg t s (.inr h2)] at h ⊢;exact ih h
   |true=>rw[zBj t s h1 h2] at h;cases h
def Tb.itr (t:Tb):Nat->Tb
 |0=>t
 |n+1=>((t.itr n).spreadTo t.nst).1
theorem zHt {t u:Tb}(h:u={t with live:=u.live})(f:Nat->Bool):({u with live:=f}:Tb)={t with live:=f}:=by rw[h]
theorem vU (t:Tb)(n:Nat):t.itr n={t with live:=(t.itr n).live}:=by
 induction n with
 |zero=>rfl
 |succ n ih=>exact(zAc (t.itr n) t.nst).trans (zHt ih _)
theorem zG6 (t:Tb)(n:Nat):(t.itr n).nst=t.nst:=by rw[vU]
theorem zA5 (t:Tb)(n:Nat):(t.itr n).count=t.count:=by rw[vU]
theorem zJs {t:Tb}(ok:t.OkN)(n:Nat):(t.itr n).OkN:=by rw[vU];exact ok.withLive _
def Tb.first (t:Tb):Tb:={t with live:=fun s=>t.ends s != -1}
theorem zFo (w:World)(H b:Nat)(c:Tc)(t:Tb)(hM:MemB w H b c t)(hl:c.live=slice none 0 0)(ok:t.OkN)(hn:1<=t.nst)(hc:1<=t.count):
  Calls prog 65 #[pointer (some ⟨b,0,none⟩)] w fun e w'=>e=returned (tuple #[])∧∃v n,Mem w' H b {c with live:=v} (t.first.itr n)∧((t.first.itr n).spreadTo t.nst).2=false∧Keep H b w w':=by
 obtain⟨i0,hi0,hz0,hz1,hz2⟩:=info_parts qU;obtain⟨ge,cape,he,he1,he2,he3,he4,he5,he6⟩:=hM.ends.get hn;have y9:w.cell? ⟨b,9,none⟩=some (slice (some ⟨ge,0,none⟩) t.nst cape):=by rw[<-he];exact hM.tp.get_ends
 have HM:=vl hM;have HE:=vl he5;have HEN:=vl ok.ends;have hnb:=ok.nst;have hbH:=hM.tp.lt;have hgb:=zGM hM.tp hM.ends (by decide) (by rw[he];rfl);have hHH:=hM.HH;generalize hnst:t.nst=n at *;have HN:=vl hnst;go_in;apply wp_cut;intro K HK;go_wp2;go_loopg [9] n (fun q i wr=>∃(j:Nat) (v:Value),q=n-j∧j<=n∧i=int i64 (j:Int)∧Row wr w.heap.size 4 v j (fun s=>bool (t.ends s != -1))∧xA wr b {c with live:=v}∧Keep w.heap.size b w wr)
 case atStart=>exact⟨0,slice none 0 0,rfl,lX,rfl,ownsRow_nil _ _ _ _,(by rw[<-hl];exact HM.out.tp),Keep.refl _ _ _⟩
 case round=>
  obtain⟨j,v,hgk,hj,rfl,ho,hT,hk⟩:=hrel;have hsz1:=hk.size;by_cases hj2:j<n
  ·have i1:(j:Int)<(n:Int):=by omega
   have z1:=(gG (hk.block ge he2 hgb)).trans (HE.out j hj2);have t1:=hT.get_live;have AA:Hid (gk=n-j∧Keep w.heap.size b w wr):=⟨hgk,hk⟩
   have O1:=vl ho;have T1:=vl hT;have HX:Hid (∃x,x=t.ends j):=⟨_,rfl⟩
   obtain⟨x,hx⟩:=HX.out;have HX:=vl hx;rw[<-hx] at z1;clear hgk ho hT hk hx;go_wp2_with (first|(at_builtin;refine wpList_append_lies _ rfl _ _ 28 rfl w.heap.size 4 i0 (bool false) 1 1 underlying28 hi0 hz0 hz1 hz2 rfl (by decide) _ _ _ rfl (O1.out.alloc _) ⟨wr.heap.size,0,none⟩ 1 1 [bool (x != -1)] rfl rfl (cell_one_new _ _ _) (by intro u hu;simp at hu;subst hu;rfl) (by decide) (by unfold maxLen;omega) (by omega) (by simp;omega) _ rfl ?_;intro gg cap w2 hown hgrow hat hlt2;have hB:=xQ O1.out hgrow hsz1;have q1:=(T1.out.of_block (hB.block b (by omega))).get_live;have q2:=(T1.out.of_block (hB.block b (by omega))).fz 10))
   have T2:=T1.out.of_block (hB.block b (by omega));have O2:w2.ownsRow w.heap.size 4 1 (slice (some ⟨gg,0,none⟩) (j+1) cap) (j+1) ((List.range (j+1)).map fun s=>bool (t.ends s != -1)):=by
    rw[jU,<-HX.out];exact hown
   go_roundg (n-(j+1))
   case measure=>rw[AA.out.1];omega
   case rel=>exact⟨j+1,_,rfl,by omega,congrArg (Value.int IntKind.i64) (by omega),zL8 O2 (fun _=>Keep.set _ _ _) (by omega),T2.set_live _,(AA.out.2.trans (xO hB)).trans (Keep.set _ _ _)⟩
  ·have hjn:j=n:=by omega
   have i1:(n:Int)<=(j:Int):=by omega
   have M1:Hid (Mem wr H b {c with live:=v} t.first):=by
    refine(HM.out.withLive hk hT).mem _ ?_;show Row wr H 4 v t.nst _;rw[HN.out,<-hjn];exact ho.mono hHH
   have K1:=vl hk;clear hgk ho hT hk hjn;go_wp2_with fail;apply HK.out;clear HK;have HOK:=zJs (t:=t.first) (ok.withLive _);have HNS:=zG6 t.first
   have HCT:=zA5 t.first
   go_wp2_with fail;go_loopg [] (t.first.deadTo n) (fun q wq=>∃m:Nat,q=(t.first.itr m).deadTo n∧Mem wq H b {c with live:=v} (t.first.itr m)∧Keep H b w wq)
   case atStart=>exact⟨0,rfl,M1.out,⟨K1.out.os,K1.out.output,K1.out.size,fun k hk=>K1.out.block k (by omega)⟩⟩
   case round=>
    obtain⟨m,hgk2,hMm,hKm⟩:=hrel;have hnm:(t.first.itr m).nst=n:=by rw[HNS];exact HN.out
    have hsp:=zDt wr H b _ (t.first.itr m) hMm (HOK m) (by rw[hnm];exact hn) (by rw[HCT];exact hc);have hsd:=zHG (t.first.itr m) (t.first.itr m).nst lQ;rw[hnm] at hsp hsd;have A2:Hid (gk=(t.first.itr m).deadTo n∧Mem wr H b {c with live:=v} (t.first.itr m)∧Keep H b w wr):=⟨hgk2,hMm,hKm⟩
    have HIT:Hid (t.first.itr (m+1)=((t.first.itr m).spreadTo n).1):=by show _=_;rw[<-HN.out];rfl
    have HSD:Hid (((t.first.itr m).spreadTo n).1.deadTo n+(if ((t.first.itr m).spreadTo n).2 then 1 else 0)<=(t.first.itr m).deadTo n):=hsd;have HSP:Hid (Calls _ _ _ _ _):=hsp;clear hgk2 hMm hKm hsp hsd hnm HOK HNS HCT;go_wp2_with fail;refine Calls.mono HSP.out ?_;rintro e w2 ⟨rfl,hM2,hB2⟩;have A3:Hid (Mem w2 H b {c with live:=v} ((t.first.itr m).spreadTo n).1∧Below H wr w2):=⟨hM2,hB2⟩
    clear hM2 hB2 HSP;cases hbb:((t.first.itr m).spreadTo n).2 with
    |true=>
     have hs2:=HSD.out;rw[hbb,if_pos rfl,<-HIT.out] at hs2;have HS2:Hid ((t.first.itr (m+1)).deadTo n+1<=(t.first.itr m).deadTo n):=hs2;clear hbb HSD hs2;go_wp2_with fail;go_roundg ((t.first.itr (m+1)).deadTo n)
     case measure=>rw[A2.out.1];exact HS2.out
     case rel=>exact⟨m+1,rfl,by rw[HIT.out];exact A3.out.1,A2.out.2.2.trans ⟨A3.out.2.os,A3.out.2.output,A3.out.2.size,fun k hk _=>A3.out.2.block k hk⟩⟩
    |false=>
     have HBB:Hid (((t.first.itr m).spreadTo n).2=false):=hbb;clear hbb;go_wp2_with fail;go_end0;refine⟨rfl,v,m,?_,HBB.out,A2.out.2.2.trans ⟨A3.out.2.os,A3.out.2.output,A3.out.2.size,fun k hk _=>A3.out.2.block k hk⟩⟩;have h:=A3.out.1;rw[zHD _ _ HBB.out] at h;exact h
section
theorem Keep.lower {H b G c:Nat}{w w':World}(h:Keep H b w w')(hG:G<=H)(hb:G<=b):Keep G c w w':=⟨h.os,h.output,h.size,fun k hk _=>h.block k (by omega) (by omega)⟩
def Ints (w:World)(S:Nat->Prop)(v:Value)(l:List Int):Prop:=
 ∃ao cap,v=slice ao l.length cap∧l.length<=cap∧cap<=maxLen∧∀i,i<l.length->∃b o,ao=some ⟨b,o,none⟩∧S b∧w.cell? ⟨b,o+i,none⟩=some (int i64 (l.getD i 0))
def Bools (w:World)(S:Nat->Prop)(v:Value)(l:List Bool):Prop:=
 ∃ao cap,v=slice ao l.length cap∧l.length<=cap∧cap<=maxLen∧∀i,i<l.length->∃b o,ao=some ⟨b,o,none⟩∧S b∧w.cell? ⟨b,o+i,none⟩=some (bool (l.getD i false))
def IntRows (w:World)(S:Nat->Prop)(v:Value)(l:List (List Int)):Prop:=
 ∃ao cap,v=slice ao l.length cap∧l.length<=cap∧cap<=maxLen∧∀i,i<l.length->∃b o u,ao=some ⟨b,o,none⟩∧S b∧w.cell? ⟨b,o+i,none⟩=some u∧Ints w S u (l.getD i [])
section
variable {w w':World} {S S':Nat->Prop} {v:Value}
theorem Ints.keep {l:List Int}(h:Ints w S v l)(e:∀b,S b->w'.heap[b]? =w.heap[b]?):Ints w' S v l:=by
 obtain⟨ao,cap,hv,h1,h2,h3⟩:=h;refine⟨ao,cap,hv,h1,h2,fun i hi=>?_⟩;obtain⟨b,o,ha,hb,hc⟩:=h3 i hi;exact⟨b,o,ha,hb,(gG (e b hb)).trans hc⟩
theorem Ints.mono {l:List Int}(h:Ints w S v l)(e:∀b,S b->S' b):Ints w S' v l:=by
 obtain⟨ao,cap,hv,h1,h2,h3⟩:=h;refine⟨ao,cap,hv,h1,h2,fun i hi=>?_⟩;obtain⟨b,o,ha,hb,hc⟩:=h3 i hi;exact⟨b,o,ha,e b hb,hc⟩
theorem Bools.keep {l:List Bool}(h:Bools w S v l)(e:∀b,S b->w'.heap[b]? =w.heap[b]?):Bools w' S v l:=by
 obtain⟨ao,cap,hv,h1,h2,h3⟩:=h;refine⟨ao,cap,hv,h1,h2,fun i hi=>?_⟩;obtain⟨b,o,ha,hb,hc⟩:=h3 i hi;exact⟨b,o,ha,hb,(gG (e b hb)).trans hc⟩
theorem Bools.mono {l:List Bool}(h:Bools w S v l)(e:∀b,S b->S' b):Bools w S' v l:=by
 obtain⟨ao,cap,hv,h1,h2,h3⟩:=h;refine⟨ao,cap,hv,h1,h2,fun i hi=>?_⟩;obtain⟨b,o,ha,hb,hc⟩:=h3 i hi;exact⟨b,o,ha,e b hb,hc⟩
theorem IntRows.keep {l:List (List Int)}(h:IntRows w S v l)(e:∀b,S b->w'.heap[b]? =w.heap[b]?):IntRows w' S v l:=by
 obtain⟨ao,cap,hv,h1,h2,h3⟩:=h;refine⟨ao,cap,hv,h1,h2,fun i hi=>?_⟩;obtain⟨b,o,u,ha,hb,hc,hd⟩:=h3 i hi;exact⟨b,o,u,ha,hb,(gG (e b hb)).trans hc,hd.keep e⟩
theorem IntRows.mono {l:List (List Int)}(h:IntRows w S v l)(e:∀b,S b->S' b):IntRows w S' v l:=by
 obtain⟨ao,cap,hv,h1,h2,h3⟩:=h;refine⟨ao,cap,hv,h1,h2,fun i hi=>?_⟩;obtain⟨b,o,u,ha,hb,hc,hd⟩:=h3 i hi;exact⟨b,o,u,ha,e b hb,hc,hd.mono e⟩
theorem zBM {H:Nat}{e:TypeId}{l:List Int}(h:w.ownsRow H e 1 v l.length (l.map fun x=>int i64 x))(hS:∀g,v.ownBlock=some g->S g):Ints w S v l:=by
 rcases h.2 with⟨hv,h0⟩|⟨g,cap,cur,hv,hg,hh,h1,h2,h3,h4⟩
 ·refine⟨none,0,by rw[hv,h0],by omega,by unfold maxLen;omega,fun i hi=>by omega⟩
 ·refine⟨some ⟨g,0,none⟩,cap,hv,h1,h2,fun i hi=>⟨g,0,rfl,hS g (by rw[hv];rfl),?_⟩⟩
  have hc:=h.cells (g:=g) (by rw[hv];rfl) i (int i64 (l.getD i 0)) (by
   rw[gU,lV hi,lW,lV hi];rfl)
  rw[Addr.add_lit] at hc;exact hc
theorem zGd {H:Nat}{e:TypeId}{l:List Bool}(h:w.ownsRow H e 1 v l.length (l.map fun x=>bool x))(hS:∀g,v.ownBlock=some g->S g):Bools w S v l:=by
 rcases h.2 with⟨hv,h0⟩|⟨g,cap,cur,hv,hg,hh,h1,h2,h3,h4⟩
 ·refine⟨none,0,by rw[hv,h0],by omega,by unfold maxLen;omega,fun i hi=>by omega⟩
 ·refine⟨some ⟨g,0,none⟩,cap,hv,h1,h2,fun i hi=>⟨g,0,rfl,hS g (by rw[hv];rfl),?_⟩⟩
  have hc:=h.cells (g:=g) (by rw[hv];rfl) i (bool (l.getD i false)) (by
   rw[gU,lV hi,lW,lV hi];rfl)
  rw[Addr.add_lit] at hc;exact hc
end
theorem Ints.block {w:World}{S:Nat->Prop}{v:Value}{l:List Int}(h:Ints w S v l)(hn:0<l.length):∃b o cap,v=slice (some ⟨b,o,none⟩) l.length cap∧S b∧l.length<=cap∧cap<=maxLen∧∀i,i<l.length->w.cell? ⟨b,o+i,none⟩=some (int i64 (l.getD i 0)):=by
 obtain⟨ao,cap,hv,h1,h2,h3⟩:=h;obtain⟨b,o,ha,hb,_⟩:=h3 0 hn;refine⟨b,o,cap,by rw[hv,ha],hb,h1,h2,fun i hi=>?_⟩;obtain⟨b',o',ha',_,hc⟩:=h3 i hi;rw[ha] at ha';injection ha' with ha';injection ha' with e1 e2;subst e1 e2;exact hc
theorem IntRows.block {w:World}{S:Nat->Prop}{v:Value}{l:List (List Int)}(h:IntRows w S v l)(hn:0<l.length):∃b o cap,v=slice (some ⟨b,o,none⟩) l.length cap∧S b∧l.length<=cap∧cap<=maxLen∧∀i,i<l.length->∃u,w.cell? ⟨b,o+i,none⟩=some u∧Ints w S u (l.getD i []):=by
 obtain⟨ao,cap,hv,h1,h2,h3⟩:=h;obtain⟨b,o,_,ha,hb,_⟩:=h3 0 hn;refine⟨b,o,cap,by rw[hv,ha],hb,h1,h2,fun i hi=>?_⟩;obtain⟨b',o',u,ha',_,hc⟩:=h3 i hi;rw[ha] at ha';injection ha' with ha';injection ha' with e1 e2;subst e1 e2;exact⟨u,hc⟩
structure Sm where
 next:List (List Int)
 rules:List Int
 start:Int
 empty:List Bool
def ModesAt (w:World)(S:Nat->Prop)(v:Value)(ms:List Sm):Prop:=
 ∃ao cap,v=slice ao ms.length cap∧ms.length<=cap∧cap<=maxLen∧∀i (hi:i<ms.length),∃b o u0 u1 u3,ao=some ⟨b,o,none⟩∧S b∧
  w.cell? ⟨b,o+i*4,none⟩=some u0∧w.cell? ⟨b,o+i*4+1,none⟩=some u1∧w.cell? ⟨b,o+i*4+2,none⟩=some (int i64 ms[i].start)∧w.cell? ⟨b,o+i*4+3,none⟩=some u3∧
  IntRows w S u0 ms[i].next∧Ints w S u1 ms[i].rules∧Bools w S u3 ms[i].empty
theorem ModesAt.keep {w w':World}{S:Nat->Prop}{v:Value}{ms:List Sm}(h:ModesAt w S v ms)(e:∀b,S b->w'.heap[b]? =w.heap[b]?):ModesAt w' S v ms:=by
 obtain⟨ao,cap,hv,h1,h2,h3⟩:=h;refine⟨ao,cap,hv,h1,h2,fun i hi=>?_⟩;obtain⟨b,o,u0,u1,u3,ha,hb,c0,c1,c2,c3,d0,d1,d3⟩:=h3 i hi;have k:∀j,w'.cell? ⟨b,j,none⟩=w.cell? ⟨b,j,none⟩:=fun j=>gG (e b hb);exact⟨b,o,u0,u1,u3,ha,hb,(k _).trans c0,(k _).trans c1,(k _).trans c2,(k _).trans c3,d0.keep e,d1.keep e,d3.keep e⟩
end
def vT (a b:Nat)(row:List Int):Bool:=row.getD a 0==row.getD b 0
def jV (a b:Nat)(m:Sm):Bool:=m.next.all (vT a b)
def zBB (ms:List Sm)(a b:Nat):Bool:=ms.all (jV a b)
def Wide (ms:List Sm):Prop:=∀m∈ms,∀row∈m.next,row.length=256
theorem zEj (w:World)(S:Nat->Prop)(v:Value)(ms:List Sm)(hM:ModesAt w S v ms)(hS:∀k,S k->k<w.heap.size)(hw:Wide ms)(hn:ms.length<=3)(hr:∀m∈ms,m.next.length<=200)(a b:Nat)(ha:a<256)(hb:b<256):
  Calls prog 137 #[v,int i64 a,int i64 b] w fun e w'=>e=returned (bool (zBB ms a b))∧Grew w w':=by
 obtain⟨ao,cap,rfl,hcap,hml,hcell⟩:=hM;have HC:=vl hcell;go_in;go_wp2;go_loopg [13] ms.length (fun q i wr=>∃j:Nat,q=ms.length-j∧j<=ms.length∧i=int i64 (j:Int)∧(ms.take j).all (jV a b)=true∧Grew w wr)
 case atStart=>exact⟨0,rfl,lX,rfl,rfl,Keep.refl _ _ _⟩
 case round=>
  obtain⟨j,hgk,hj,rfl,hall,hk⟩:=hrel;have HA:Hid (gk=ms.length-j∧(ms.take j).all (jV a b)=true∧Grew w wr):=⟨hgk,hall,hk⟩
  by_cases hj2:j<ms.length
  ·have i1:(j:Int)<(ms.length:Int):=by omega
   obtain⟨bb,o,u0,u1,u3,rfl,hSb,c0,c1,c2,c3,d0,d1,d3⟩:=HC.out j hj2;have kk:∀i,wr.cell? ⟨bb,i,none⟩=w.cell? ⟨bb,i,none⟩:=fun i=>gG (hk.block bb (hS bb hSb) (by have:=hS bb hSb;omega));have z0:=(kk _).trans c0;have z1:=(kk _).trans c1;have z2:=(kk _).trans c2;have z3:=(kk _).trans c3;have HK:=vl hk;obtain⟨a0,p0,e0,g0,m0,h0⟩:=d0;obtain⟨a1,p1,e1,_⟩:=d1;obtain⟨a3,p3,e3,_⟩:=d3;subst e0 e1 e3;have HD:=vl h0;have hlen:=hr _ (List.getElem_mem hj2);have HW:=vl <| hw _ (List.getElem_mem hj2);have HT:Hid ((ms.take (j+1)).all (jV a b)=((ms.take j).all (jV a b)&&ms[j].next.all (vT a b))):=by
    show _=_;rw[List.take_succ_eq_append_getElem hj2,List.all_append];simp[jV]
   generalize hrs:ms[j].next=rows at *
   generalize ms[j].start=st at *;generalize ms[j].rules=rl at *;generalize ms[j].empty=em at *;go_wp2;obtain⟨w1,hw1,K1⟩:∃w1,w1=wr.alloc (.cells #[slice a0 rows.length p0,slice a1 rl.length p1,int i64 st,slice a3 em.length p3] 134)∧Hid (Grew w w1):=⟨_,rfl,HK.out.trans (kZ _ _ HK.out.size)⟩
   rw[<-hw1];go_loopg [21] rows.length (fun q i wx=>∃k:Nat,q=rows.length-k∧k<=rows.length∧i=int i64 (k:Int)∧(rows.take k).all (vT a b)=true∧Grew w wx)
   case atStart=>exact⟨0,rfl,lX,rfl,rfl,K1.out⟩
   case round=>
    obtain⟨k,hgk,hk1,rfl,hall,hkx⟩:=hrel;have HB:Hid (gk=rows.length-k∧(rows.take k).all (vT a b)=true∧Grew w wr):=⟨hgk,hall,hkx⟩
    by_cases hk2:k<rows.length
    ·have i2:(k:Int)<(rows.length:Int):=by omega
     obtain⟨bq,oq,u,rfl,hSq,cq,dq⟩:=HD.out k hk2;have hrl:(rows.getD k []).length=256:=by
      rw[lW,lV hk2];exact HW.out _ (List.getElem_mem hk2)
     obtain⟨br,orr,pr,rfl,hSr,_,_,hcc⟩:=dq.block (by omega);have kk:∀x i,S x->wr.cell? ⟨x,i,none⟩=w.cell? ⟨x,i,none⟩:=fun x i hx=>gG (hkx.block x (hS x hx) (by have:=hS x hx;omega));have z0:wr.cell? ⟨bq,oq+k,none⟩=some (slice (some ⟨br,orr,none⟩) 256 pr):=by rw[kk _ _ hSq,cq,hrl]
     have z1:wr.cell? ⟨br,orr+a,none⟩=some (int i64 ((rows.getD k []).getD a 0)):=by rw[kk _ _ hSr,hcc a (by omega)]
     have z2:wr.cell? ⟨br,orr+b,none⟩=some (int i64 ((rows.getD k []).getD b 0)):=by rw[kk _ _ hSr,hcc b (by omega)]
     have HS2:Hid ((rows.take (k+1)).all (vT a b)=((rows.take k).all (vT a b)&&((rows.getD k []).getD a 0==(rows.getD k []).getD b 0))):=by
      show _=_;rw[List.take_succ_eq_append_getElem hk2,List.all_append,lW (l:=rows),lV hk2];simp[vT]
     have HS3:Hid (((rows.getD k []).getD a 0==(rows.getD k []).getD b 0)=false->rows.all (vT a b)=false):=by
      intro hx;rw[List.all_eq_false];refine⟨rows[k],List.getElem_mem hk2,?_⟩;rw[lW (l:=rows),lV hk2] at hx;simpa[vT] using hx
     have i3:(a:Int)<256:=by omega
     have i4:(b:Int)<256:=by omega
     generalize (rows.getD k []).getD a 0=xa at *;generalize (rows.getD k []).getD b 0=xb at *;by_cases hx:xa=xb
     ·have hx1:(xa != xb)=false:=by simp[hx]
      have HX:Hid ((rows.take (k+1)).all (vT a b)=true):=by show _=_;rw[HS2.out,HB.out.2.1,hx];simp
      go_wp2;go_quiet (fail);go_wp2;go_roundg (rows.length-(k+1))
      case measure=>rw[HB.out.1];omega
      case rel=>exact⟨k+1,rfl,by omega,by go_num,HX.out,HB.out.2.2.trans (Keep.alike (w':=wr.drewN nq) ⟨rfl,rfl,rfl⟩)⟩
     ·have hx1:(xa != xb)=true:=by simpa using hx
      have HX:=vl <| HS3.out (by simpa using hx);have HY:Hid (zBB ms a b=false):=by
       show _=_;unfold zBB;rw[<-List.take_append_drop (j+1) ms,List.all_append,HT.out,HX.out];simp
      go_wp2;go_quiet (fail);go_wp2;go_ret;exact⟨qS HY.out.symm,HB.out.2.2.trans (Keep.alike (w':=wr.drewN nq) ⟨rfl,rfl,rfl⟩)⟩
    ·have i2:(rows.length:Int)<=(k:Int):=by omega
     have HX:Hid ((ms.take (j+1)).all (jV a b)=true):=by
      show _=_;rw[HT.out,HA.out.2.1,<-List.take_of_length_le (l:=rows) (i:=k) (by omega),HB.out.2.1];rfl
     go_wp2;go_roundg (ms.length-(j+1))
     case measure=>rw[HA.out.1];omega
     case rel=>exact⟨j+1,rfl,by omega,by go_num,HX.out,HB.out.2.2⟩
  ·have i1:(ms.length:Int)<=(j:Int):=by omega
   have HY:Hid (zBB ms a b=true):=by
    show _=_;unfold zBB;rw[<-List.take_of_length_le (l:=ms) (i:=j) (by omega)];exact HA.out.2.1
   go_wp2;go_ret;exact⟨qS HY.out.symm,HA.out.2.2⟩
def OwnI (w:World)(H:Nat)(v:Value)(l:List Int):Prop:=w.ownsRow H 3 1 v l.length (l.map fun x=>int i64 x)
theorem OwnI.snoc {w:World}{H g cap:Nat}{l:List Int}{x:Int}(h:w.ownsRow H 3 1 (slice (some ⟨g,0,none⟩) (l.length+1) cap) (l.length+1) (l.map (fun x=>int i64 x)++[int i64 x])):OwnI w H (slice (some ⟨g,0,none⟩) (l.length+1) cap) (l++[x]):=by
 unfold OwnI;rw[kX,List.map_append];exact h
theorem OwnI.raw {w:World}{H:Nat}{v:Value}{l:List Int}(h:OwnI w H v l):w.ownsRow H 3 1 v l.length (l.map fun x=>int i64 x):=h
theorem OwnI.nil (w:World)(H:Nat):OwnI w H (slice none 0 0) []:=ownsRow_nil _ _ _ _
theorem OwnI.form {w:World}{H:Nat}{v:Value}{l:List Int}(h:OwnI w H v l):∃ao cap,v=slice ao l.length cap:=zG h
theorem zK {w w':World}{H e z n:Nat}{v:Value}{xs:List Value}(h:w.ownsRow H e z v n xs)(hk:Grew w w'):w'.ownsRow H e z v n xs:=by
 refine⟨h.1,h.2.imp id ?_⟩;rintro⟨g,cap,cur,hv,hg,hh,rest⟩;have hlt:=(kQ.1 hh).1;exact⟨g,cap,cur,hv,hg,(hk.block g hlt (by omega)).trans hh,rest⟩
theorem OwnI.cell {w:World}{H g cap n:Nat}{l:List Int}(h:OwnI w H (slice (some ⟨g,0,none⟩) n cap) l)(i:Nat)(hi:i<l.length):w.cell? ⟨g,i,none⟩=some (int i64 (l.getD i 0)):=by
 have hc:=World.ownsRow.cells h (g:=g) rfl i (int i64 (l.getD i 0)) (by
  rw[gU,lV hi,lW,lV hi];rfl)
 rw[Addr.add_lit,Nat.zero_add] at hc;exact hc
def qN (ms:List Sm)(b:Nat):Nat:=(List.range b).findIdx fun a=>zBB ms a b
theorem zGq (ms:List Sm)(b:Nat):qN ms b<=b:=by
 have h:=List.findIdx_le_length (xs:=List.range b) (p:=fun a=>zBB ms a b);rw[List.length_range] at h;exact h
theorem zDN (w:World)(S:Nat->Prop)(v:Value)(ms:List Sm)(hM:ModesAt w S v ms)(hS:∀k,S k->k<w.heap.size)(hw:Wide ms)(hn:ms.length<=3)(hr:∀m∈ms,m.next.length<=200)(b:Nat)(hb:b<256):
  Calls prog 98 #[v,int i64 b] w fun e w'=>e=returned (int i64 (qN ms b:Nat))∧Grew w w':=by
 have HM:=vl hM;go_in;go_wp2;go_loopg [5] b (fun q i wr=>∃j:Nat,q=b-j∧j<=b∧i=int i64 (j:Int)∧(∀a,a<j->zBB ms a b=false)∧Grew w wr)
 case atStart=>exact⟨0,rfl,lX,rfl,fun a ha=>by omega,Keep.refl _ _ _⟩
 case round=>
  obtain⟨j,hgk,hj,rfl,hall,hk⟩:=hrel;have HA:Hid (gk=b-j∧(∀a,a<j->zBB ms a b=false)∧Grew w wr):=⟨hgk,hall,hk⟩
  by_cases hj2:j<b
  ·have i1:(j:Int)<(b:Int):=by omega
   go_wp2_with fail;refine(zEj wr S v ms (HM.out.keep fun k hk=>HA.out.2.2.block k (hS k hk) (by have:=hS k hk;omega)) (fun k hk=>lZ (hS k hk) HA.out.2.2.size) hw hn hr j b (by omega) hb).mono ?_;rintro e w1 ⟨rfl,hk1⟩;have K1:=vl <| HA.out.2.2.trans (hk1.lower HA.out.2.2.size HA.out.2.2.size);cases hl:zBB ms j b with
   |true=>
    have HF:Hid (qN ms b=j):=by
     show _=_;unfold qN;rw[List.findIdx_eq (by simpa using hj2)];refine⟨by simpa using hl,fun a ha=>by simpa using HA.out.2.1 a (by simpa using ha)⟩
    go_wp2;go_ret;exact⟨zAO (by rw[HF.out]),K1.out⟩
   |false=>
    have HL:=vl hl;go_wp2;go_roundg (b-(j+1))
    case measure=>rw[HA.out.1];omega
    case rel=>exact⟨j+1,rfl,by omega,by go_num,fun a ha=>by(by_cases e:a=j;exact e ▸ HL.out;exact HA.out.2.1 a (by omega)),K1.out⟩
  ·have i1:(b:Int)<=(j:Int):=by omega
   have HF:Hid (qN ms b=b):=by
    show _=_;unfold qN;have h:=List.findIdx_eq_length (xs:=List.range b) (p:=fun a=>zBB ms a b);rw[List.length_range] at h;refine h.2 fun a ha=>?_;simpa using HA.out.2.1 a (by have:=List.mem_range.1 ha;omega)
   go_wp2;go_ret;exact⟨zAO (by rw[HF.out]),HA.out.2.2⟩
def zB (ms:List Sm):Nat->List Int×Nat
 |0=>([],0)
 |b+1=>if qN ms b<b then((zB ms b).1++[(zB ms b).1.getD (qN ms b) 0],(zB ms b).2) else((zB ms b).1++[((zB ms b).2:Int)],(zB ms b).2+1)
theorem qG (ms:List Sm)(b:Nat):(zB ms b).1.length=b∧(zB ms b).2<=b:=by
 induction b with
 |zero=>exact⟨rfl,lQ⟩
 |succ b ih=>
  rw[zB];split
  ·exact⟨by simp[ih.1],by show(zB ms b).2<=b+1;omega⟩
  ·exact⟨by simp[ih.1],by show(zB ms b).2+1<=b+1;omega⟩
theorem zFT (w:World)(S:Nat->Prop)(v:Value)(ms:List Sm)(hM:ModesAt w S v ms)(hS:∀k,S k->k<w.heap.size)(hw:Wide ms)(hn:ms.length<=3)(hr:∀m∈ms,m.next.length<=200):
  Calls prog 63 #[v] w fun e w'=>∃u,e=returned (tuple #[u,int i64 ((zB ms 256).2:Nat)])∧OwnI w' w.heap.size u (zB ms 256).1∧Grew w w':=by
 obtain⟨i0,hi0,hz0,hz1,hz2⟩:=info_parts yL;have HM:=vl hM;go_in;go_wp2;go_loopg [4,5,6] 256 (fun q lst cnt i wr=>∃j:Nat,q=256-j∧j<=256∧i=int i64 (j:Int)∧cnt=int i64 ((zB ms j).2:Nat)∧OwnI wr w.heap.size lst (zB ms j).1∧Grew w wr)
 case atStart=>exact⟨0,rfl,lX,rfl,rfl,OwnI.nil _ _,Keep.refl _ _ _⟩
 case round=>
  obtain⟨j,hgk,hj,rfl,rfl,ho,hk⟩:=hrel;have HA:Hid (gk=256-j∧OwnI wr w.heap.size u4 (zB ms j).1∧Grew w wr):=⟨hgk,ho,hk⟩
  have hkl:=qG ms j;obtain⟨ao,cap,hv⟩:=ho.form;subst hv;by_cases hj2:j<256
  ·have i1:(j:Int)<256:=by omega
   go_wp2_with fail;refine(zDN wr S v ms (HM.out.keep fun k hk=>HA.out.2.2.block k (hS k hk) (by have:=hS k hk;omega)) (fun k hk=>lZ (hS k hk) HA.out.2.2.size) hw hn hr j hj2).mono ?_;rintro e w1 ⟨rfl,hk1⟩;have K1:=vl <| HA.out.2.2.trans (hk1.lower HA.out.2.2.size HA.out.2.2.size);have O1:Hid (OwnI w1 w.heap.size (slice ao (zB ms j).1.length cap) (zB ms j).1):=zK HA.out.2.1 hk1;have hsz1:=K1.out.size;have HKM:Hid (zB ms (j+1)=if qN ms j<j then((zB ms j).1++[(zB ms j).1.getD (qN ms j) 0],(zB ms j).2) else((zB ms j).1++[((zB ms j).2:Int)],(zB ms j).2+1)):=rfl;have hfl:=zGq ms j;generalize qN ms j=f at *;generalize (zB ms j).1=l at *;generalize (zB ms j).2=cnt at *;obtain⟨hle,hl2'⟩:=hkl;have hl1a:l.length<=j:=by omega
   have hl1b:j<=l.length:=by omega
   clear hle;have OR:=vl O1.out;by_cases hf:f<j
   ·have i2:(f:Int)<(j:Int):=by omega
    have HX:Hid (zB ms (j+1)=(l++[l.getD f 0],cnt)):=by show _=_;rw[HKM.out,if_pos hf]
    have hne:ao≠none:=by
     intro e;rcases O1.out.2 with⟨h,h0⟩|⟨g,_,_,h,_⟩
     ·have h0':=h0
      omega
     ·rw[e] at h;cases h
    obtain⟨g,rfl⟩:∃g,ao=some ⟨g,0,none⟩:=by
     rcases O1.out.2 with⟨h,h0⟩|⟨g,_,_,h,_⟩
     ·injection h with h _ _
      exact absurd h hne
     ·injection h with h _ _
      exact⟨g,h⟩
    have y0:=O1.out.cell f (by show f<l.length;omega);have i3:(f:Int)<(l.length:Int):=by omega
    generalize l.getD f 0=x at *;go_wp2_with (first|(at_builtin;refine wpList_append_lies _ rfl _ _ 45 rfl (w.heap.size) 3 i0 (int i64 0) 1 8 underlying45 hi0 hz0 hz1 hz2 rfl (by decide) _ _ _ rfl (OR.out.alloc _) ⟨w1.heap.size,0,none⟩ 1 1 [int i64 x] rfl rfl (cell_one_new _ _ _) (by intro u hu;simp at hu;subst hu;rfl) (by decide) (by unfold maxLen;omega) (by omega) (by simp;omega) _ rfl ?_;intro gg cap w2 hown hgrow hat hlt2;have hB:=xQ OR.out hgrow hsz1))
    have O2:Hid (OwnI w2 w.heap.size (slice (some ⟨gg,0,none⟩) (l.length+1) cap) (l++[x])∧Grew w w2):=⟨OwnI.snoc hown,K1.out.trans (xO hB)⟩
    go_wp2;go_roundg (256-(j+1))
    case measure=>rw[HA.out.1];omega
    case rel=>exact⟨j+1,rfl,by omega,by go_num,by rw[HX.out],by rw[HX.out];exact O2.out.1,O2.out.2⟩
   ·have i2:(j:Int)<=(f:Int):=by omega
    have HX:Hid (zB ms (j+1)=(l++[(cnt:Int)],cnt+1)):=by show _=_;rw[HKM.out,if_neg hf]
    go_wp2_with (first|(at_builtin;refine wpList_append_lies _ rfl _ _ 45 rfl (w.heap.size) 3 i0 (int i64 0) 1 8 underlying45 hi0 hz0 hz1 hz2 rfl (by decide) _ _ _ rfl (OR.out.alloc _) ⟨w1.heap.size,0,none⟩ 1 1 [int i64 (cnt:Int)] rfl rfl (cell_one_new _ _ _) (by intro u hu;simp at hu;subst hu;rfl) (by decide) (by unfold maxLen;omega) (by omega) (by simp;omega) _ rfl ?_;intro gg cap w2 hown hgrow hat hlt2;have hB:=xQ OR.out hgrow hsz1))
    have O2:Hid (OwnI w2 w.heap.size (slice (some ⟨gg,0,none⟩) (l.length+1) cap) (l++[(cnt:Int)])∧Grew w w2):=⟨OwnI.snoc hown,K1.out.trans (xO hB)⟩
    go_wp2;go_roundg (256-(j+1))
    case measure=>rw[HA.out.1];omega
    case rel=>exact⟨j+1,rfl,by omega,by go_num,by rw[HX.out];go_num,by rw[HX.out];exact O2.out.1,O2.out.2⟩
  ·have hj3:j=256:=by omega
   have i1:(256:Int)<=(j:Int):=by omega
   have HZ:Hid (zB ms j=zB ms 256):=by show _=_;rw[hj3]
   go_wp2;go_ret2
   refine⟨slice ao (zB ms j).1.length cap,congrArg (fun n:Nat=>Ending.returned (tuple #[slice ao (zB ms j).1.length cap,int i64 (n:Int)])) (congrArg Prod.snd HZ.out),?_,HA.out.2.2⟩;rw[<-HZ.out];exact HA.out.2.1
def zP (kinds row:List Int)(first:Int):Nat->List Int
 |0=>[]
 |b+1=>if kinds.getD b 0=((zP kinds row first b).length:Int) then zP kinds row first b++[first+row.getD b 0] else zP kinds row first b
theorem zIv (kinds row:List Int)(first:Int)(b:Nat):(zP kinds row first b).length<=b:=by
 induction b with
 |zero=>exact lQ
 |succ b ih=>
  rw[zP];split
  ·simp;omega
  ·omega
theorem zHi (w:World)(S:Nat->Prop)(p:Nat)(kv rv:Value)(kinds row:List Int)(first:Nat)(hp:w.cell? ⟨p,6,none⟩=some kv)(hpS:p<w.heap.size)(hS:∀k,S k->k<w.heap.size)(hK:Ints w S kv kinds)(hR:Ints w S rv row)(hk:kinds.length=256)(hr:row.length=256)(hf:first<=200)(hb:∀i,i<256->0<=row.getD i 0∧row.getD i 0<=200):
  Calls prog 99 #[pointer (some ⟨p,0,none⟩),rv,int i64 first] w fun e w'=>∃u,e=returned u∧OwnI w' w.heap.size u (zP kinds row first 256)∧Grew w w':=by
 obtain⟨i0,hi0,hz0,hz1,hz2⟩:=info_parts yL;obtain⟨bk,ok,ck,rfl,hSk,_,_,hck⟩:=hK.block (by omega);obtain⟨br,orr,cr,rfl,hSr,_,_,hcr⟩:=hR.block (by omega);rw[hk] at hp hck;rw[hr] at hcr ⊢;have HCK:=vl hck;have HCR:=vl hcr;have hbk:=hS bk hSk;have hbr:=hS br hSr;have HB:=vl hb;go_in;go_wp2;go_loopg [7,12] 256 (fun q lst i wr=>∃j:Nat,q=256-j∧j<=256∧i=int i64 (j:Int)∧OwnI wr w.heap.size lst (zP kinds row first j)∧Grew w wr)
 case atStart=>exact⟨0,rfl,lX,rfl,OwnI.nil _ _,Keep.refl _ _ _⟩
 case round=>
  obtain⟨j,hgk,hj,rfl,ho,hkp⟩:=hrel;have HA:Hid (gk=256-j∧Grew w wr):=⟨hgk,hkp⟩
  have hln:=zIv kinds row first j
  obtain⟨ao,cap,hv⟩:=ho.form;subst hv;have hszr:=hkp.size;have OR:=vl ho;by_cases hj2:j<256
  ·have i1:(j:Int)<256:=by omega
   have y6:=(gG (hkp.block p hpS (by omega))).trans hp;have yk:=(gG (hkp.block bk hbk (by omega))).trans (HCK.out j hj2);have yr:=(gG (hkp.block br hbr (by omega))).trans (HCR.out j hj2);obtain⟨hb1,hb2⟩:=HB.out j hj2;have HM:Hid (zP kinds row first (j+1)=if kinds.getD j 0=((zP kinds row first j).length:Int) then zP kinds row first j++[first+row.getD j 0] else zP kinds row first j):=rfl;generalize zP kinds row first j=l at *
   generalize kinds.getD j 0=kd at *;generalize row.getD j 0=x at *;by_cases he:kd=(l.length:Int)
   ·have he1:(kd==(l.length:Int))=true:=by simpa using he
    have HX:Hid (zP kinds row first (j+1)=l++[first+x]):=by show _=_;rw[HM.out,if_pos he]
    go_wp2_with (first|(at_builtin;refine wpList_append_lies _ rfl _ _ 45 rfl (w.heap.size) 3 i0 (int i64 0) 1 8 underlying45 hi0 hz0 hz1 hz2 rfl (by decide) _ _ _ rfl (OR.out.alloc _) ⟨wr.heap.size,0,none⟩ 1 1 [int i64 ((first:Int)+x)] rfl rfl (cell_one_new _ _ _) (by intro u hu;simp at hu;subst hu;rfl) (by decide) (by unfold maxLen;omega) (by omega) (by simp;omega) _ rfl ?_;intro gg cap w2 hown hgrow hat hlt2;have hB:=xQ OR.out hgrow hszr))
    have O2:Hid (OwnI w2 w.heap.size (slice (some ⟨gg,0,none⟩) (l.length+1) cap) (l++[(first:Int)+x])∧Grew w w2):=⟨OwnI.snoc hown,HA.out.2.trans (xO hB)⟩
    go_wp2;go_roundg (256-(j+1))
    case measure=>rw[HA.out.1];omega
    case rel=>exact⟨j+1,rfl,by omega,by go_num,by rw[HX.out];exact O2.out.1,O2.out.2⟩
   ·have he1:(kd==(l.length:Int))=false:=by simpa using he
    have HX:Hid (zP kinds row first (j+1)=l):=by show _=_;rw[HM.out,if_neg he]
    go_wp2;go_roundg (256-(j+1))
    case measure=>rw[HA.out.1];omega
    case rel=>exact⟨j+1,rfl,by omega,by go_num,by rw[HX.out];exact OR.out,HA.out.2⟩
  ·have hj3:j=256:=by omega
   have i1:(256:Int)<=(j:Int):=by omega
   have HZ:Hid (zP kinds row first j=zP kinds row first 256):=by show _=_;rw[hj3]
   generalize zP kinds row first j=l at *
   go_wp2;go_ret;exact⟨_,rfl,by rw[<-HZ.out];exact OR.out,HA.out.2⟩
section
variable {w w2:World} {H p g cap:Nat} {c:Tc} {kinds acts pushed starts ends:List Int}
def Rest (w:World)(p:Nat)(c:Tc)(k:Nat):Prop:=k<w.heap.size∧k≠p∧some k≠c.starts.ownBlock∧some k≠c.next.ownBlock∧some k≠c.ends.ownBlock
def Fin (w:World)(S:Nat->Prop)(H:Nat)(v:Value)(l:List Int):Prop:=OwnI w H v l∧∀g,v.ownBlock=some g->S g
theorem Fin.keep {w w':World}{S S':Nat->Prop}{H:Nat}{v:Value}{l:List Int}(h:Fin w S H v l)(e:∀k,H<=k->S k->w'.heap[k]? =w.heap[k]?∧S' k):Fin w' S' H v l:=
 ⟨zD h.1 fun g h1 _ hg=>(e g h1 (h.2 g hg)).1,fun g hg=>(e g (h.1.lt g hg).1 (h.2 g hg)).2⟩
theorem Fin.ints {S:Nat->Prop}{H:Nat}{v:Value}{l:List Int}(h:Fin w S H v l):Ints w S v l:=zBM h.1 h.2
structure Gt (w:World)(H p:Nat)(c:Tc)(kinds acts pushed starts ends:List Int)(next:List (List Int)):Prop where
 tp:xA w p c
 starts:OwnI w H c.starts starts
 ends:OwnI w H c.ends ends
 next:∃rv:Nat->Value,w.ownsRow H 45 1 c.next next.length ((List.range next.length).map rv)∧∀i,i<next.length->Fin w (Rest w p c) H (rv i) (next.getD i [])
 kinds:Fin w (Rest w p c) H c.kinds kinds
 acts:Fin w (Rest w p c) H c.acts acts
 pushed:Fin w (Rest w p c) H c.pushed pushed
 HH:H<=w.heap.size
 sep:∀g,c.starts.ownBlock=some g->c.ends.ownBlock≠some g
theorem Gt.grown {w w':World}{H p:Nat}{c:Tc}{kinds acts pushed starts ends:List Int}{next:List (List Int)}(h:Gt w H p c kinds acts pushed starts ends next)(hk:Grew w w'):Gt w' H p c kinds acts pushed starts ends next:=by
 have hHH:=h.HH;have hp:=h.tp.lt;have hb:∀k,k<w.heap.size->w'.heap[k]? =w.heap[k]? :=fun k h1=>hk.block k h1 (by omega);have hrest:∀k,H<=k->Rest w p c k->w'.heap[k]? =w.heap[k]?∧Rest w' p c k:=fun k _ hr=>⟨hb k hr.1,lZ hr.1 hk.size,hr.2⟩
 obtain⟨rv,hn1,hn2⟩:=h.next
 exact⟨h.tp.of_block (hb p hp),zD h.starts fun k _ h2 _=>hb k h2,zD h.ends fun k _ h2 _=>hb k h2,⟨rv,zD hn1 fun k _ h2 _=>hb k h2,fun i hi=>(hn2 i hi).keep hrest⟩,h.kinds.keep hrest,h.acts.keep hrest,h.pushed.keep hrest,lY hHH hk.size,h.sep⟩
structure Turn (H p:Nat)(w:World)(c:Tc)(w':World)(c':Tc):Prop where
 rest:∀k,H<=k->Rest w p c k->w'.heap[k]? =w.heap[k]?∧Rest w' p c' k
 keep:Keep H p w w'
 same:c'={c with starts:=c'.starts,next:=c'.next,ends:=c'.ends}
theorem Turn.refl (H p:Nat)(w:World)(c:Tc):Turn H p w c w c:=⟨fun _ _ h=>⟨rfl,h⟩,Keep.refl _ _ _,rfl⟩
theorem Turn.trans {w w' w'':World}{c c' c'':Tc}(h:Turn H p w c w' c')(k:Turn H p w' c' w'' c''):Turn H p w c w'' c'':=
 ⟨fun i hi hr=>⟨((k.rest i hi (h.rest i hi hr).2).1).trans (h.rest i hi hr).1,(k.rest i hi (h.rest i hi hr).2).2⟩,h.keep.trans k.keep,k.same.trans (by rw[h.same])⟩
theorem Turn.grown {w w':World}{c:Tc}(hk:Grew w w')(hH:H<=w.heap.size):Turn H p w c w' c:=
 ⟨fun k _ hr=>⟨hk.block k hr.1 (by have:=hr.1;omega),lZ hr.1 hk.size,hr.2⟩,hk.lower hH hH,rfl⟩
theorem xN {H e e' z z' n m:Nat}{v u:Value}{xs ys:List Value}(h:w.ownsRow H e z v n xs)(h':w.ownsRow H e' z' u m ys)(hef:e≠e'){g:Nat}(hg:v.ownBlock=some g):some g≠u.ownBlock:=fun he=>zGc h h' hef hg he.symm
theorem vP {H b e z n:Nat}{c:Tc}{v:Value}{xs:List Value}(ht:xA w b c)(h:w.ownsRow H e z v n xs)(he:e≠90):some b≠v.ownBlock:=by
 intro hg;rcases h.2 with⟨hv,_⟩|⟨g1,_,cur,hv,_,hh,_⟩
 ·rw[hv] at hg;cases hg
 ·rw[hv] at hg
  have e1:b=g1:=by simpa[Value.ownBlock] using hg
  subst e1;unfold xA at ht;rw[hh] at ht;injection ht with ht;injection ht with _ h2 _;exact he h2
theorem zC (w:World)(a:Addr)(v:Value):(w.setCell a v).heap.size=w.heap.size:=by simp[World.setCell]
theorem Gt.starts_app {next:List (List Int)}{x:Int}(h:Gt w H p c kinds acts pushed starts ends next)
  (hown:OwnI w2 H (slice (some ⟨g,0,none⟩) (starts.length+1) cap) (starts++[x])) (hgrow:∀k,k<w.heap.size->some k≠c.starts.ownBlock->w2.heap[k]? =w.heap[k]?) (hsz:w.heap.size<=w2.heap.size) (hos:w2.os=w.os∧w2.output=w.output) (hat:c.starts.ownBlock=some g∨w.heap.size<=g):
  Gt (w2.setCell ⟨p,3,none⟩ (slice (some ⟨g,0,none⟩) (starts.length+1) cap)) H p {c with starts:=slice (some ⟨g,0,none⟩) (starts.length+1) cap} kinds acts pushed (starts++[x]) ends next∧Turn H p w c (w2.setCell ⟨p,3,none⟩ (slice (some ⟨g,0,none⟩) (starts.length+1) cap)) {c with starts:=slice (some ⟨g,0,none⟩) (starts.length+1) cap}:=by
 have hp:=h.tp.lt;have hHH:=h.HH;obtain⟨rv0,hn1,hn20⟩:=h.next
 have hown':=hown.raw;have hpb:=hgrow p hp (vP h.tp h.starts.raw (by decide));have hgp:g≠p:=fun e=>by
  subst e;exact vP (h.tp.of_block hpb) hown' (by decide) rfl
 have hb:∀k,k≠p->(w2.setCell ⟨p,3,none⟩ (slice (some ⟨g,0,none⟩) (starts.length+1) cap)).heap[k]? =w2.heap[k]? :=fun k hk=>lJ _ _ _ _ hk;have hrest:∀k,H<=k->Rest w p c k->(w2.setCell ⟨p,3,none⟩ (slice (some ⟨g,0,none⟩) (starts.length+1) cap)).heap[k]? =w.heap[k]?∧Rest (w2.setCell ⟨p,3,none⟩ (slice (some ⟨g,0,none⟩) (starts.length+1) cap)) p {c with starts:=slice (some ⟨g,0,none⟩) (starts.length+1) cap} k:=by
  rintro k hk ⟨h1,hkp,h2,h3,h4⟩;refine⟨(hb k hkp).trans (hgrow k h1 h2),by rw[zC];omega,hkp,?_,h3,h4⟩;intro e;have e':k=g:=by simpa[Value.ownBlock] using e
  subst e';rcases hat with ha|ha
  ·exact h2 ha.symm
  ·omega
 have other:∀{e z n v xs},w.ownsRow H e z v n xs->e≠90->(∀k,v.ownBlock=some k->some k≠c.starts.ownBlock)->(w2.setCell ⟨p,3,none⟩ (slice (some ⟨g,0,none⟩) (starts.length+1) cap)).ownsRow H e z v n xs:=fun ho he hne=>zD ho fun k _ h2 hk=>(hb k (fun ek=>vP h.tp ho he (by rw[hk,ek]))).trans (hgrow k h2 (hne k hk));have mine:=zD (w':=(w2.setCell ⟨p,3,none⟩ (slice (some ⟨g,0,none⟩) (starts.length+1) cap))) hown' fun k _ _ hk=>hb k (fun ek=>hgp (by have e':g=k:=(by simpa[Value.ownBlock] using hk);rw[e',ek]));refine⟨?_,hrest,⟨hos.1,hos.2,by rw[zC];exact hsz,fun k h1 h2=>(hb k h2).trans (hgrow k (by omega) fun e=>by have:=(h.starts.raw.lt k e.symm).1;omega)⟩,rfl⟩;refine⟨(h.tp.of_block hpb).set_starts _,?_,other h.ends (by decide) fun k hk e=>h.sep k e.symm hk,⟨rv0,other hn1 (by decide) fun k hk=>xN hn1 h.starts.raw (by decide) hk,fun i hi=>(hn20 i hi).keep hrest⟩,h.kinds.keep hrest,h.acts.keep hrest,h.pushed.keep hrest,by rw[zC];omega,?_⟩
 ·exact mine
 intro k hk;have e':g=k:=by simpa[Value.ownBlock] using hk
 subst e';intro he;rcases hat with ha|ha
 ·exact h.sep g ha he
 ·have:=(h.ends.lt g he).2
  omega
theorem Gt.ends_app {next:List (List Int)}{x:Int}(h:Gt w H p c kinds acts pushed starts ends next)
  (hown:OwnI w2 H (slice (some ⟨g,0,none⟩) (ends.length+1) cap) (ends++[x])) (hgrow:∀k,k<w.heap.size->some k≠c.ends.ownBlock->w2.heap[k]? =w.heap[k]?) (hsz:w.heap.size<=w2.heap.size) (hos:w2.os=w.os∧w2.output=w.output) (hat:c.ends.ownBlock=some g∨w.heap.size<=g):
  Gt (w2.setCell ⟨p,9,none⟩ (slice (some ⟨g,0,none⟩) (ends.length+1) cap)) H p {c with ends:=slice (some ⟨g,0,none⟩) (ends.length+1) cap} kinds acts pushed starts (ends++[x]) next∧Turn H p w c (w2.setCell ⟨p,9,none⟩ (slice (some ⟨g,0,none⟩) (ends.length+1) cap)) {c with ends:=slice (some ⟨g,0,none⟩) (ends.length+1) cap}:=by
 have hp:=h.tp.lt;have hHH:=h.HH;obtain⟨rv0,hn1,hn20⟩:=h.next
 have hown':=hown.raw;have hpb:=hgrow p hp (vP h.tp h.ends.raw (by decide));have hgp:g≠p:=fun e=>by
  subst e;exact vP (h.tp.of_block hpb) hown' (by decide) rfl
 have hb:∀k,k≠p->(w2.setCell ⟨p,9,none⟩ (slice (some ⟨g,0,none⟩) (ends.length+1) cap)).heap[k]? =w2.heap[k]? :=fun k hk=>lJ _ _ _ _ hk;have hrest:∀k,H<=k->Rest w p c k->(w2.setCell ⟨p,9,none⟩ (slice (some ⟨g,0,none⟩) (ends.length+1) cap)).heap[k]? =w.heap[k]?∧Rest (w2.setCell ⟨p,9,none⟩ (slice (some ⟨g,0,none⟩) (ends.length+1) cap)) p {c with ends:=slice (some ⟨g,0,none⟩) (ends.length+1) cap} k:=by
  rintro k hk ⟨h1,hkp,h2,h3,h4⟩;refine⟨(hb k hkp).trans (hgrow k h1 h4),by rw[zC];omega,hkp,h2,h3,?_⟩;intro e;have e':k=g:=by simpa[Value.ownBlock] using e
  subst e';rcases hat with ha|ha
  ·exact h4 ha.symm
  ·omega
 have other:∀{e z n v xs},w.ownsRow H e z v n xs->e≠90->(∀k,v.ownBlock=some k->some k≠c.ends.ownBlock)->(w2.setCell ⟨p,9,none⟩ (slice (some ⟨g,0,none⟩) (ends.length+1) cap)).ownsRow H e z v n xs:=fun ho he hne=>zD ho fun k _ h2 hk=>(hb k (fun ek=>vP h.tp ho he (by rw[hk,ek]))).trans (hgrow k h2 (hne k hk));have mine:=zD (w':=(w2.setCell ⟨p,9,none⟩ (slice (some ⟨g,0,none⟩) (ends.length+1) cap))) hown' fun k _ _ hk=>hb k (fun ek=>hgp (by have e':g=k:=(by simpa[Value.ownBlock] using hk);rw[e',ek]));refine⟨?_,hrest,⟨hos.1,hos.2,by rw[zC];exact hsz,fun k h1 h2=>(hb k h2).trans (hgrow k (by omega) fun e=>by have:=(h.ends.raw.lt k e.symm).1;omega)⟩,rfl⟩;refine⟨(h.tp.of_block hpb).set_ends _,other h.starts (by decide) fun k hk e=>h.sep k hk e.symm,?_,⟨rv0,other hn1 (by decide) fun k hk=>xN hn1 h.ends.raw (by decide) hk,fun i hi=>(hn20 i hi).keep hrest⟩,h.kinds.keep hrest,h.acts.keep hrest,h.pushed.keep hrest,by rw[zC];omega,?_⟩
 ·exact mine
 intro k hk he;have e':g=k:=by simpa[Value.ownBlock] using he
 subst e';rcases hat with ha|ha
 ·exact h.sep g hk ha
 ·have:=(h.starts.lt g hk).2
  omega
theorem Gt.next_app {next:List (List Int)}{u:Value}{l:List Int}(h:Gt w H p c kinds acts pushed starts ends next)
  (rv:Nat->Value) (hn2:∀i,i<next.length->Fin w (Rest w p c) H (rv i) (next.getD i [])) (hu:Fin w (Rest w p c) H u l) (hown:w2.ownsRow H 45 1 (slice (some ⟨g,0,none⟩) (next.length+1) cap) (next.length+1) ((List.range next.length).map rv++[u])) (hgrow:∀k,k<w.heap.size->some k≠c.next.ownBlock->w2.heap[k]? =w.heap[k]?) (hsz:w.heap.size<=w2.heap.size) (hos:w2.os=w.os∧w2.output=w.output) (hat:c.next.ownBlock=some g∨w.heap.size<=g):
  Gt (w2.setCell ⟨p,8,none⟩ (slice (some ⟨g,0,none⟩) (next.length+1) cap)) H p {c with next:=slice (some ⟨g,0,none⟩) (next.length+1) cap} kinds acts pushed starts ends (next++[l])∧Turn H p w c (w2.setCell ⟨p,8,none⟩ (slice (some ⟨g,0,none⟩) (next.length+1) cap)) {c with next:=slice (some ⟨g,0,none⟩) (next.length+1) cap}:=by
 have hp:=h.tp.lt;have hHH:=h.HH;obtain⟨rv0,hn1,hn20⟩:=h.next
 have hown':=hown;have hpb:=hgrow p hp (vP h.tp hn1 (by decide));have hgp:g≠p:=fun e=>by
  subst e;exact vP (h.tp.of_block hpb) hown' (by decide) rfl
 have hb:∀k,k≠p->(w2.setCell ⟨p,8,none⟩ (slice (some ⟨g,0,none⟩) (next.length+1) cap)).heap[k]? =w2.heap[k]? :=fun k hk=>lJ _ _ _ _ hk;have hrest:∀k,H<=k->Rest w p c k->(w2.setCell ⟨p,8,none⟩ (slice (some ⟨g,0,none⟩) (next.length+1) cap)).heap[k]? =w.heap[k]?∧Rest (w2.setCell ⟨p,8,none⟩ (slice (some ⟨g,0,none⟩) (next.length+1) cap)) p {c with next:=slice (some ⟨g,0,none⟩) (next.length+1) cap} k:=by
  rintro k hk ⟨h1,hkp,h2,h3,h4⟩;refine⟨(hb k hkp).trans (hgrow k h1 h3),by rw[zC];omega,hkp,h2,?_,h4⟩;intro e;have e':k=g:=by simpa[Value.ownBlock] using e
  subst e';rcases hat with ha|ha
  ·exact h3 ha.symm
  ·omega
 have other:∀{e z n v xs},w.ownsRow H e z v n xs->e≠90->(∀k,v.ownBlock=some k->some k≠c.next.ownBlock)->(w2.setCell ⟨p,8,none⟩ (slice (some ⟨g,0,none⟩) (next.length+1) cap)).ownsRow H e z v n xs:=fun ho he hne=>zD ho fun k _ h2 hk=>(hb k (fun ek=>vP h.tp ho he (by rw[hk,ek]))).trans (hgrow k h2 (hne k hk));have mine:=zD hown' fun k _ _ hk=>hb k (fun ek=>hgp (by have e':g=k:=(by simpa[Value.ownBlock] using hk);rw[e',ek]));refine⟨?_,hrest,⟨hos.1,hos.2,by rw[zC];exact hsz,fun k h1 h2=>(hb k h2).trans (hgrow k (by omega) fun e=>by have:=(hn1.lt k e.symm).1;omega)⟩,rfl⟩;refine⟨(h.tp.of_block hpb).set_next _,other h.starts.raw (by decide) fun k hk=>xN h.starts.raw hn1 (by decide) hk,other h.ends.raw (by decide) fun k hk=>xN h.ends.raw hn1 (by decide) hk,⟨fun i=>if i=next.length then u else rv i,?_,?_⟩,h.kinds.keep hrest,h.acts.keep hrest,h.pushed.keep hrest,by rw[zC];omega,h.sep⟩
 ·have e:(List.range (next++[l]).length).map (fun i=>if i=next.length then u else rv i)=(List.range next.length).map rv++[u]:=by
   rw[kX,List.length_singleton,jU,if_pos rfl]
   congr 1
   exact List.map_congr_left fun i hi=>if_neg (by have:=List.mem_range.1 hi;omega)
  rw[e,kX];exact mine
 ·intro i hi
  rw[kX,List.length_singleton] at hi;by_cases e:i=next.length
  ·subst e
   simp only[if_true];have e2:(next++[l]).getD next.length []=l:=by simp
   rw[e2];exact hu.keep hrest
  ·show Fin _ _ _ (if i=next.length then u else rv i) _
   rw[if_neg e];have e2:(next++[l]).getD i []=next.getD i []:=by
    rw[lW,kW (by omega),<-lW]
   rw[e2];exact(hn2 i (by omega)).keep hrest
end
section
attribute [local go_sem ↓] Go.wp_at_zero Go.wp_at_succ
def yH (rules:Nat)(r:Int):Int:=if r=-1 then r else r+rules
theorem zOK (w0 w:World)(H p bx:Nat)(c0 c:Tc)(kinds acts pushed starts ends:List Int)(next:List (List Int))(hG:Gt w H p c kinds acts pushed starts ends next)(nv rv st:Value)(S:Nat->Prop)(rl:List Int)(hbx:w.heap[bx]? =some (.cells #[nv,rv,st] 127))(hR:Ints w S rv rl)(hS:∀k,S k->k<H∧k≠p)(hT:Turn H p w0 c0 w c)
  (rules:Nat) (hr8:rules<=8) (hel:ends.length+rl.length<=200) (hrb:∀i,i<rl.length->-1<=rl.getD i 0∧rl.getD i 0<=8)
  {u1 u3 u5 u6 u7 u8 u9 u10 u11 u12 u13 u14 u15 u16 u17 u18 u19 u20 u21 u22 u23 u24 u25 u26 u27 u28 u29 u30 u31 u32 u33 u34 u35 u36 u37 u38 u39 u40 u41 u42 u43 u44 u45 u46 u47 u48 u49 u50 u51 u52 u53 u54 u55 u56 u57 u58 u59 u60 u61 u62 u63 u64 u65 u66 u67 u68 u69 u70 u71 u72:Value}:
  Code.wp prog (yS 4 ((f64.body).getD .skip)) (bodyPost prog f64 fun e w'=>e=returned (tuple #[])∧∃c',Gt w' H p c' kinds acts pushed starts (ends++rl.map (yH rules)) next∧Turn H p w0 c0 w' c')
   ⟨(pointer (some ⟨p,0,none⟩)::u1::int i64 rules::u3::pointer (some ⟨bx,0,none⟩)::u5::u6::u7::u8::u9::u10::u11::u12::u13::u14::u15::u16::u17::u18::u19::u20::u21::u22::u23::u24::u25::u26::u27::u28::u29::u30::u31::u32::u33::u34::u35::u36::u37::u38::u39::u40::u41::u42::u43::u44::u45::u46::u47::u48::u49::u50::u51::u52::u53::u54::u55::u56::u57::u58::u59::u60::u61::u62::u63::u64::u65::u66::u67::u68::u69::u70::u71::u72::[]).toArray,[]⟩ w:=by
 conv=>arg 2;whnf
 obtain⟨i0,hi0,hz0,hz1,hz2⟩:=info_parts yL;obtain⟨ar,cr,rfl,hcr,hmr,hRc⟩:=hR;have HR:=vl hRc;have HG:Hid (Gt w H p c kinds acts pushed starts ends next∧Turn H p w0 c0 w c):=⟨hG,hT⟩
 have HB:=vl hrb;have yb:w.cell? ⟨bx,1,none⟩=some (slice ar rl.length cr):=by simp[World.cell?,hbx]
 have hHH:=hG.HH;go_wp2;go_loopg [53] rl.length (fun q i wr=>∃(j:Nat) (cj:Tc),q=rl.length-j∧j<=rl.length∧i=int i64 (j:Int)∧Gt wr H p cj kinds acts pushed starts (ends++(rl.take j).map (yH rules)) next∧Turn H p w c wr cj)
 case atStart=>exact⟨0,c,rfl,lX,rfl,by rw[List.take_zero,List.map_nil,dV];exact HG.out.1,Turn.refl _ _ _ _⟩
 case round=>
  obtain⟨j,cj,hgk,hj,rfl,hGj,hTj⟩:=hrel;have HA:Hid (gk=rl.length-j∧Gt wr H p cj kinds acts pushed starts (ends++(rl.take j).map (yH rules)) next∧Turn H p w c wr cj):=⟨hgk,hGj,hTj⟩
  by_cases hj2:j<rl.length
  ·have i1:(j:Int)<(rl.length:Int):=by omega
   obtain⟨br,orr,rfl,hSr,hcell⟩:=HR.out j hj2;obtain⟨s1,s2⟩:=hS br hSr;have yr:=(gG (hTj.keep.block br s1 s2)).trans hcell;obtain⟨ae,ce,hef⟩:=hGj.ends.form;have y9:wr.cell? ⟨p,9,none⟩=some (slice ae (ends++(rl.take j).map (yH rules)).length ce):=by rw[<-hef];exact hGj.tp.get_ends
   have z9:=hGj.tp.fz 9;have HL:Hid (ends++(rl.take (j+1)).map (yH rules)=(ends++(rl.take j).map (yH rules))++[yH rules (rl.getD j 0)]):=by
    show _=_;rw[List.take_succ_eq_append_getElem hj2,List.map_append,gV,lW,lV hj2];rfl
   have hlen:(ends++(rl.take j).map (yH rules)).length<=200:=by
    rw[kX,kV,List.length_take];omega
   have OR:Hid (wr.ownsRow H 3 1 (slice ae (ends++(rl.take j).map (yH rules)).length ce) (ends++(rl.take j).map (yH rules)).length ((ends++(rl.take j).map (yH rules)).map fun x=>int i64 x)):=by have:=hGj.ends;rw[hef] at this;exact this
   have HEF:=vl hef;have hszr:=hGj.HH;have lpr:=hGj.tp.lt;have hnp:some p≠Value.ownBlock (slice ae (ends++(rl.take j).map (yH rules)).length ce):=by rw[<-hef];exact vP hGj.tp hGj.ends.raw (by decide)
   have HNP:=vl hnp;obtain⟨b1,b2⟩:=HB.out j hj2;generalize hle:ends++(rl.take j).map (yH rules)=le at *;generalize rl.getD j 0=x at *;have fin:∀(w2:World) (g cap:Nat) (y:Int),y=yH rules x->w2.ownsRow H 3 1 (slice (some ⟨g,0,none⟩) (le.length+1) cap) (le.length+1) ((le.map fun x=>int i64 x)++[int i64 y])->(wr.alloc (.cells #[int i64 y] 3)).grownBy w2 (Value.ownBlock (slice ae le.length ce))->(Value.ownBlock (slice ae le.length ce)=some g∨g=(wr.alloc (.cells #[int i64 y] 3)).heap.size)->
     ∃c',Gt (w2.setCell ⟨p,9,none⟩ (slice (some ⟨g,0,none⟩) (le.length+1) cap)) H p c' kinds acts pushed starts (ends++(rl.take (j+1)).map (yH rules)) next∧Turn H p w c (w2.setCell ⟨p,9,none⟩ (slice (some ⟨g,0,none⟩) (le.length+1) cap)) c':=by
    intro w2 g cap y hy ho hg ha;have h:=Gt.ends_app HA.out.2.1 (w2:=w2) (g:=g) (cap:=cap) (x:=y) (OwnI.snoc ho) (fun k h1 h2=>(hg.block k (by simp;omega) (by rw[<-HEF.out];exact h2)).trans (lG _ _ _ h1)) (lY (by simp) hg.size) ⟨hg.os,hg.output⟩ (by
     rw[HEF.out];rcases ha with ha|ha
     ·exact .inl ha
     ·right;rw[ha];simp)
    rw[HL.out,<-hy];exact⟨_,h.1,HA.out.2.2.trans h.2⟩
   have FN:=vl fin;by_cases hx:x=-1
   ·have hx1:(x != -1)=false:=by simp[hx]
    have HX:Hid (x=yH rules x):=by show _=_;rw[yH,if_pos hx]
    clear hx;go_wp2_with (first|(at_builtin;refine wpList_append_lies _ rfl _ _ 45 rfl (H) 3 i0 (int i64 0) 1 8 underlying45 hi0 hz0 hz1 hz2 rfl (by decide) _ _ _ rfl (OR.out.alloc _) ⟨wr.heap.size,0,none⟩ 1 1 [int i64 x] rfl rfl (cell_one_new _ _ _) (by intro u hu;simp at hu;subst hu;rfl) (by decide) (by unfold maxLen;omega) (by omega) (by simp;omega) _ rfl ?_;intro gg cap w2 hown hgrow hat hlt2;have hPB:=hgrow.block p (by simp;omega) HNP.out;have y9':=(gG hPB).trans ((dX _ _ _ lpr).trans y9);have z9':=(dQ hPB).trans ((frozen?_alloc_past _ _ _ lpr).trans z9);have HF:=FN.out w2 gg cap x HX.out hown hgrow hat))
    have HF2:Hid _:=HF;go_wp2;go_roundg (rl.length-(j+1))
    case measure=>rw[HA.out.1];omega
    case rel=>exact HF2.out.elim fun c' h=>⟨j+1,c',rfl,by omega,by go_num,h⟩
   ·have hx1:(x != -1)=true:=by simpa using hx
    have HX:Hid (x+rules=yH rules x):=by show _=_;rw[yH,if_neg hx]
    clear hx;go_wp2_with (first|(at_builtin;refine wpList_append_lies _ rfl _ _ 45 rfl (H) 3 i0 (int i64 0) 1 8 underlying45 hi0 hz0 hz1 hz2 rfl (by decide) _ _ _ rfl (OR.out.alloc _) ⟨wr.heap.size,0,none⟩ 1 1 [int i64 (x+(rules:Int))] rfl rfl (cell_one_new _ _ _) (by intro u hu;simp at hu;subst hu;rfl) (by decide) (by unfold maxLen;omega) (by omega) (by simp;omega) _ rfl ?_;intro gg cap w2 hown hgrow hat hlt2;have hPB:=hgrow.block p (by simp;omega) HNP.out;have y9':w2.cell? ⟨p,9,none⟩=some (slice ae le.length ce):=(gG hPB).trans ((dX _ _ _ lpr).trans y9);have z9':w2.frozen? ⟨p,9,none⟩=false:=(dQ hPB).trans ((frozen?_alloc_past _ _ _ lpr).trans z9);have HF:=FN.out w2 gg cap (x+(rules:Int)) HX.out hown hgrow hat))
    have HF2:Hid _:=HF;clear HF hown hgrow hat hPB y9' z9';go_wp2_with fail;go_roundg (rl.length-(j+1))
    case measure=>rw[HA.out.1];omega
    case rel=>exact HF2.out.elim fun c' h=>⟨j+1,c',rfl,by omega,by go_num,h⟩
  ·have i1:(rl.length:Int)<=(j:Int):=by omega
   have HZ:Hid (Gt wr H p cj kinds acts pushed starts (ends++rl.map (yH rules)) next):=by
    have h:=hGj;rw[List.take_of_length_le (by omega)] at h;exact h
   clear hgk hGj hTj;go_wp2_with fail;go_end0;exact⟨rfl,cj,HZ.out,HG.out.2.trans HA.out.2.2⟩
end
section
attribute [local go_sem ↓] Go.wp_at_zero Go.wp_at_succ
theorem zOL (w0 w:World)(H p bx:Nat)(c0 c:Tc)(kinds acts pushed starts ends:List Int)(next:List (List Int))(hG:Gt w H p c kinds acts pushed starts ends next)(nv rv st:Value)(S:Nat->Prop)(rl:List Int)(nx:List (List Int))(hbx:w.heap[bx]? =some (.cells #[nv,rv,st] 127))(hbr:H<=bx∧Rest w p c bx)(hN:IntRows w S nv nx)(hR:Ints w S rv rl)(hS:∀k,S k->k<H∧k≠p)(hT:Turn H p w0 c0 w c)
  (rules first:Nat) (hr8:rules<=8) (hel:ends.length+rl.length<=200) (hrb:∀i,i<rl.length->-1<=rl.getD i 0∧rl.getD i 0<=8)
  (hf:first<=200) (hnl:next.length+nx.length<=200) (hk:kinds.length=256) (hw:∀i,i<nx.length->(nx.getD i []).length=256∧∀b,b<256->0<=(nx.getD i []).getD b 0∧(nx.getD i []).getD b 0<=200)
  {u1 u3 u5 u7 u8 u9 u10 u11 u12 u13 u14 u15 u16 u17 u18 u19 u20 u21 u22 u23 u24 u25 u26 u27 u28 u29 u30 u31 u32 u33 u34 u35 u36 u37 u38 u39 u40 u41 u42 u43 u44 u45 u46 u47 u48 u49 u50 u51 u52 u53 u54 u55 u56 u57 u58 u59 u60 u61 u62 u63 u64 u65 u66 u67 u68 u69 u70 u71 u72:Value}:
  Code.wp prog (yS 3 ((f64.body).getD .skip)) (bodyPost prog f64 fun e w'=>e=returned (tuple #[])∧∃c',Gt w' H p c' kinds acts pushed starts (ends++rl.map (yH rules)) (next++nx.map fun row=>zP kinds row first 256)∧Turn H p w0 c0 w' c')
   ⟨(pointer (some ⟨p,0,none⟩)::u1::int i64 rules::u3::pointer (some ⟨bx,0,none⟩)::u5::int i64 first::u7::u8::u9::u10::u11::u12::u13::u14::u15::u16::u17::u18::u19::u20::u21::u22::u23::u24::u25::u26::u27::u28::u29::u30::u31::u32::u33::u34::u35::u36::u37::u38::u39::u40::u41::u42::u43::u44::u45::u46::u47::u48::u49::u50::u51::u52::u53::u54::u55::u56::u57::u58::u59::u60::u61::u62::u63::u64::u65::u66::u67::u68::u69::u70::u71::u72::[]).toArray,[]⟩ w:=by
 conv=>arg 2;whnf
 refine wp_seq_k ?_;intro K hK0;have HK:Hid (∀a w,_->K a w):=hK0;clear hK0;obtain⟨i0,hi0,hz0,hz1,hz2⟩:=info_parts zFj;obtain⟨an,cn,rfl,hcn,hmn,hNc⟩:=hN;have HN:Hid (∀i,i<nx.length->∃b o u,an=some ⟨b,o,none⟩∧S b∧w.cell? ⟨b,o+i,none⟩=some u∧Ints w S u (nx.getD i [])):=hNc;have HG:Hid (Gt w H p c kinds acts pushed starts ends next∧Turn H p w0 c0 w c∧Ints w S rv rl∧w.heap[bx]? =some (.cells #[slice an nx.length cn,rv,st] 127)∧Rest w p c bx):=⟨hG,hT,hR,hbx,hbr.2⟩
 have HW:Hid (∀i,i<nx.length->(nx.getD i []).length=256∧∀b,b<256->0<=(nx.getD i []).getD b 0∧(nx.getD i []).getD b 0<=200):=hw;have HRB:Hid (∀i,i<rl.length->-1<=rl.getD i 0∧rl.getD i 0<=8):=hrb;have HKL:Hid (kinds.length=256):=hk;have yb:w.cell? ⟨bx,0,none⟩=some (slice an nx.length cn):=by simp[World.cell?,hbx]
 have hHH:=hG.HH;have hbH:=hbr.1;clear hNc hG hbx hT hrb hR hbr hk hw;go_wp2_with fail;clear yb;go_loopg [32] nx.length (fun q i wr=>∃(j:Nat) (cj:Tc),q=nx.length-j∧j<=nx.length∧i=int i64 (j:Int)∧Gt wr H p cj kinds acts pushed starts ends (next++(nx.take j).map fun row=>zP kinds row first 256)∧Turn H p w c wr cj)
 case atStart=>exact⟨0,c,rfl,lX,rfl,by rw[List.take_zero,List.map_nil,dV];exact HG.out.1,Turn.refl _ _ _ _⟩
 case round=>
  obtain⟨j,cj,hgk,hj,rfl,hGj,hTj⟩:=hrel;have HA:Hid (gk=nx.length-j∧Gt wr H p cj kinds acts pushed starts ends (next++(nx.take j).map fun row=>zP kinds row first 256)∧Turn H p w c wr cj):=⟨hgk,hGj,hTj⟩
  by_cases hj2:j<nx.length
  ·have i1:(j:Int)<(nx.length:Int):=by omega
   obtain⟨br,orr,u,rfl,hSr,hcell,hrow⟩:=HN.out j hj2;obtain⟨s1,s2⟩:=hS br hSr;obtain⟨aro,crw,e0,_⟩:=hrow;have hrw:=HW.out j hj2;have yr:wr.cell? ⟨br,orr+j,none⟩=some u:=(gG (hTj.keep.block br s1 s2)).trans hcell;rw[e0] at yr;have hrow2:Ints wr S u (nx.getD j []):=(HN.out j hj2).elim fun b h=>h.elim fun o h=>h.elim fun u' h=>by
    obtain⟨ha,hb,hc,hd⟩:=h;injection ha with ha;injection ha with e1 e2;subst e1 e2;rw[hc] at hcell;injection hcell with hcell;subst hcell;exact hd.keep fun k hk=>hTj.keep.block k (hS k hk).1 (hS k hk).2
   obtain⟨rw0,hn1,hn2⟩:=hGj.next
   obtain⟨ae,ce,hef⟩:=zG hn1;have y8:wr.cell? ⟨p,8,none⟩=some (slice ae (next++(nx.take j).map fun row=>zP kinds row first 256).length ce):=by rw[<-hef];exact hGj.tp.get_next
   have z8:=hGj.tp.fz 8;have y6:=hGj.tp.get_kinds;have lp:p<wr.heap.size:=hGj.tp.lt;have HNP:Hid (some p≠Value.ownBlock cj.next):=vP hGj.tp hn1 (by decide);have hszr:H<=wr.heap.size:=hGj.HH;have HL:Hid ((next++(nx.take (j+1)).map fun row=>zP kinds row first 256)=(next++(nx.take j).map fun row=>zP kinds row first 256)++[zP kinds (nx.getD j []) first 256]):=by
    show _=_;rw[List.take_succ_eq_append_getElem hj2,List.map_append,gV,lW,lV hj2];rfl
   have hlen:(next++(nx.take j).map fun row=>zP kinds row first 256).length<=200:=by
    rw[kX,kV,List.length_take];omega
   have HC:Hid (∀wz,wz.Alike wr->Ca 99 #[pointer (some ⟨p,0,none⟩),u,int i64 first] wz fun e w'=>∃u,e=returned u∧OwnI w' wz.heap.size u (zP kinds (nx.getD j []) first 256)∧Grew wz w'):=by
    intro wz hz;have hkz:∀k:Nat,wz.heap[k]? =wr.heap[k]? :=fun k=>by rw[hz.1]
    exact zHi wz (fun k=>k<wz.heap.size) p cj.kinds u kinds (nx.getD j []) first ((gG (hkz p)).trans y6) (by rw[hz.1];exact lp) (fun k h=>h) ((hGj.kinds.ints.keep fun k _=>hkz k).mono fun k hk=>by rw[hz.1];exact hk.1) ((hrow2.keep fun k _=>hkz k).mono fun k hk=>by rw[hz.1];exact lZ (hS k hk).1 hszr) HKL.out hrw.1 hf hrw.2
   rw[e0] at HC;have OR:Hid (wr.ownsRow H 45 1 (slice ae (next++(nx.take j).map fun row=>zP kinds row first 256).length ce) (next++(nx.take j).map fun row=>zP kinds row first 256).length ((List.range (next++(nx.take j).map fun row=>zP kinds row first 256).length).map rw0)):=by have:=hn1;rw[hef] at this;exact this
   have HEF:Hid (cj.next=slice ae (next++(nx.take j).map fun row=>zP kinds row first 256).length ce):=hef;have HN2:Hid (∀i,i<(next++(nx.take j).map fun row=>zP kinds row first 256).length->Fin wr (Rest wr p cj) H (rw0 i) ((next++(nx.take j).map fun row=>zP kinds row first 256).getD i [])):=hn2;clear hgk hGj hTj hef hcell hn1 hn2 hrow2 e0 y6 hrw;generalize hle:(next++(nx.take j).map fun row=>zP kinds row first 256)=le at *;clear hle;generalize nx.getD j []=row at *;generalize zP kinds row first 256=bk at *
   go_wp2_with fail;go_region_law ((first
    |(refine step_append_lies _ (by rfl) (.tmp 40) (.tmp 45) 88 (by rfl) H 45 i0 _ 1 24 underlying88 hi0 hz0 hz1 hz2 rfl (by decide) (slice ae le.length ce) le.length ((List.range le.length).map rw0) (by simp[Act.eval,Act.put]) (OW.alloc _) ⟨w1.heap.size,0,none⟩ 1 1 [slice a1 bk.length c1] (by simp[Act.eval,Act.put]) (by rfl) (news_of_block (cs:=#[slice a1 bk.length c1]) (t:=45) (fr:=(0,0)) (gJ w1 _)) (by simp[Value.oneCell']) (by decide) (by unfold maxLen;omega) (by omega) (by simp;omega) (w1.heap.size+1) (by simp) ?_;intro gg cap w2 hown hgrow hat hlt;have hPB:=hgrow.block p (by simp;omega) (by rw[<-HEF.out];exact HNP.out);have y8b:w2.cell? ⟨p,8,none⟩=some (slice ae le.length ce):=(gG hPB).trans ((dX _ _ _ lp1).trans y8a);have z8b:w2.frozen? ⟨p,8,none⟩=false:=(dQ hPB).trans ((frozen?_alloc_past _ _ _ lp1).trans z8a))
    |(go_simp;go_at_call 99;refine(HC.out _ ?_).mono ?_;exact⟨rfl,rfl,rfl⟩;rintro e w1 ⟨ux,rfl,ho1,hk1⟩;obtain⟨a1,c1,hv1⟩:=ho1.form;subst hv1;have y8a:w1.cell? ⟨p,8,none⟩=some (slice ae le.length ce):=(gG (hk1.block p lp (by exact kJ lp))).trans y8;have z8a:w1.frozen? ⟨p,8,none⟩=false:=(dQ (hk1.block p lp (by exact kJ lp))).trans z8;have hsz1:H<=w1.heap.size:=lY hszr hk1.size;have lp1:p<w1.heap.size:=lZ lp hk1.size;have OW:=zK (w:=wr) (w':=w1) OR.out ⟨hk1.os,hk1.output,hk1.size,hk1.block⟩)))
   all_goals
    have hk1':Grew wr w1:=⟨hk1.os,hk1.output,hk1.size,hk1.block⟩
    have HF:Hid (∃c',Gt (w2.setCell ⟨p,8,none⟩ (slice (some ⟨gg,0,none⟩) (le.length+1) cap)) H p c' kinds acts pushed starts ends (next++(nx.take (j+1)).map fun row=>zP kinds row first 256)∧Turn H p w c (w2.setCell ⟨p,8,none⟩ (slice (some ⟨gg,0,none⟩) (le.length+1) cap)) c'):=by
     have hT1:Turn H p wr cj w1 cj:=Turn.grown hk1' hszr;have hnb:∀k,cj.next.ownBlock=some k->k<wr.heap.size:=fun k hk=>(OR.out.lt k (by rw[<-HEF.out];exact hk)).2
     have hfu:Fin w1 (Rest w1 p cj) H (slice a1 bk.length c1) bk:=by
      refine⟨vF ho1 hszr,fun g hg=>?_⟩;have hl:=ho1.lt g hg;have hl1:wr.heap.size<=g:=hl.1;refine⟨hl.2,fun e=>by omega,fun e=>?_,fun e=>?_,fun e=>?_⟩
      ·have:=(HA.out.2.1.starts.lt g e.symm).2;omega
      ·have:=hnb g e.symm;omega
      ·have:=(HA.out.2.1.ends.lt g e.symm).2;omega
     have h:=Gt.next_app (HA.out.2.1.grown hk1') rw0 (fun i hi=>(HN2.out i hi).keep hT1.rest) hfu (w2:=w2) (g:=gg) (cap:=cap) hown (fun k h1 h2=>(hgrow.block k (by simp;omega) (by rw[<-HEF.out];exact h2)).trans (lG _ _ _ h1)) (lY (by simp) hgrow.size) ⟨hgrow.os,hgrow.output⟩ (by
      rw[HEF.out];rcases hat with ha|ha
      ·exact .inl ha
      ·right;rw[ha];omega)
     rw[HL.out];exact⟨_,h.1,(HA.out.2.2.trans hT1).trans h.2⟩
    clear hown hgrow hat hPB y8a z8a y8b z8b hk1 hk1' OW ho1;go_wp2_with fail;go_roundg (nx.length-(j+1))
    case measure=>rw[HA.out.1];omega
    case rel=>exact HF.out.elim fun c' h=>⟨j+1,c',rfl,by omega,by go_num,h⟩
  ·have i1:(nx.length:Int)<=(j:Int):=by omega
   have HZ:Hid (Gt wr H p cj kinds acts pushed starts ends (next++nx.map fun row=>zP kinds row first 256)∧wr.heap[bx]? =some (.cells #[slice an nx.length cn,rv,st] 127)∧Ints wr S rv rl∧Turn H p w0 c0 wr cj):=by
    have h:=hGj;rw[List.take_of_length_le (by omega)] at h;exact⟨h,((hTj.rest bx hbH HG.out.2.2.2.2).1).trans HG.out.2.2.2.1,HG.out.2.2.1.keep fun k hk=>hTj.keep.block k (hS k hk).1 (hS k hk).2,HG.out.2.1.trans hTj⟩
   clear hgk hGj hTj;go_wp2_with fail;apply HK.out;exact zOK w0 wr H p bx c0 cj kinds acts pushed starts ends _ HZ.out.1 _ rv st S rl HZ.out.2.1 HZ.out.2.2.1 hS HZ.out.2.2.2 rules hr8 hel HRB.out
end
end Go.Proofs.YtbjcfkdnjaiclaaGreat
