import Derived.BigQuiet
import Derived.Deep.AppendLies
import Derived.Deep.LoopGhost
import Derived.Deep.OwnRows
import Derived.Deep.QuietTactic
import Derived.Deep.RegionWith
import Derived.KernelRfl
import Derived.Laws.Bits64
import Derived.Laws.BitsAllLaws
import Derived.Laws.BitsLemmas
import Derived.Laws.Pointers
import Derived.OwnWalk
import Derived.StillTactics
import Derived.Test.YtbjcfkdnjaiclaaGreatProg
import Derived.WalkKit
import Derived.WalkLawsBesides
import Derived.WalkSpells
/- Parts of the proof. -/
set_option linter.unusedVariables false
set_option linter.unusedSimpArgs false
set_option maxHeartbeats 4000000
set_option maxRecDepth 100000
namespace Go.Proofs.YtbjcfkdnjaiclaaGreat
open Go.RowKit Go.Proofs.Tryz Go.World
theorem vl {p:Prop}(h:p):Hid p:=h
theorem wp_cut {P:Program}{Q:Exit->Act->World->Prop}{a:Act}{w:World}{x y:Code}(h:∀K:Act->World->Prop,Hid (∀a w,y.wp P Q a w->K a w)->x.wp P (Exit.then K Q) a w):(Code.seq x y).wp P Q a w:=wp_seq_k h
theorem lQ{n:Nat}:n<=n:=n.le_refl
theorem lX{n:Nat}:0<=n:=n.zero_le
theorem lZ{n m k:Nat}(h:n<m)(g:m<=k):n<k:=Nat.lt_of_lt_of_le h g
theorem lY{n m k:Nat}(h:n<=m)(g:m<=k):n<=k:=Nat.le_trans h g
theorem lW.{u}{α:Type u}{l:List α}{i:Nat}{a:α}:l.getD i a=l[i]?.getD a:=List.getD_eq_getElem?_getD
theorem lV.{u}{α:Type u}{l:List α}{i:Nat}(h:i<l.length):l[i]? =some l[i]:=List.getElem?_eq_getElem h
theorem lU.{u}{α:Type u}{s:Array α}{i:Nat}{f:α->α}{j:Nat}:(s.modify i f)[j]? =if i=j then s[j]?.map f else s[j]?:=Array.getElem?_modify
theorem kQ.{u}{α:Type u}{i:Nat}{b:α}{s:Array α}:s[i]? =some b↔∃h:i<s.size,s[i]=b:=Array.getElem?_eq_some_iff
theorem kX.{u}{α:Type u}{a b:List α}:(a++b).length=a.length+b.length:=List.length_append
theorem kY.{u}{α:Type u}{a b:α}:a∈[b]↔a=b:=List.mem_singleton
theorem kW.{u}{α:Type u}{l m:List α}{i:Nat}(h:i<l.length):(l++m)[i]? =l[i]?:=List.getElem?_append_left h
theorem kV.{u,v}{α:Type u}{β:Type v}{l:List α}(f:α->β):(l.map f).length=l.length:=List.length_map f
theorem kU.{u}{α:Type u}{a:α}{s t:List α}:a∈s++t↔a∈s∨a∈t:=List.mem_append
theorem kJ{a b:Nat}(h:a<b):a≠b:=Nat.ne_of_lt h
theorem kG{n:Nat}(h:n>0){i j:Nat}(g:i<=j):n^i<=n^j:=Nat.pow_le_pow_right h g
theorem hU.{u}{α:Type u}{a b:α}(h:some a=some b):a=b:=Option.some.inj h
theorem gQ.{u}{α:Type u}[BEq α][LawfulBEq α]{a b:α}:(a==b)=false↔a≠b:=beq_eq_false_iff_ne
theorem gX.{u}{α:Type u}{l m:List α}{i:Nat}(h:l.length<=i):(l++m)[i]? =m[i-l.length]?:=List.getElem?_append_right h
theorem gZ{n m:Nat}(h:n<=m):n<=m.succ:=Nat.le_succ_of_le h
theorem gY.{u}{α:Type u}{a:α}{l:List α}:(a::l).length=l.length+1:=List.length_cons
theorem gW(x:Nat){y:Nat}(h:y>0):x%y<y:=Nat.mod_lt x h
theorem gV.{u}{α:Type u}{a:α}{l:List α}:a∈a::l:=List.mem_cons_self
theorem gU.{u}{α:Type u}(a b c:List α):a++b++c=a++(b++c):=List.append_assoc a b c
theorem gJ.{u,v}{α:Type u}{β:Type v}{f:α->β}{l:List α}{i:Nat}:(l.map f)[i]? =l[i]?.map f:=List.getElem?_map
section
structure Rs where
 tp:Nat
 opn:Bool
 stack:Nat->Nat
 depth:Nat
 bAt:Nat
 bLine:Nat
 bCol:Nat
 state:Nat
 byte:Nat->Nat
 first:Nat
 count:Nat
 hAt:Nat
 hLine:Nat
 hCol:Nat
 ahead:Nat
 taken:Nat
 length:Nat
 rule:Int
def Rs.cells (r:Rs)(v0:Value)(j:Nat):Value:=
 if j=0 then .pointer (some ⟨r.tp,0,none⟩) else
 if j=1 then .bool r.opn else
 if j=2 then v0 else
 if j=3 then .int .i64 (r.stack 0) else
 if j=4 then .int .i64 (r.stack 1) else
 if j=5 then .int .i64 (r.stack 2) else
 if j=6 then .int .i64 (r.stack 3) else
 if j=7 then .int .i64 r.depth else
 if j=8 then .int .i64 r.bAt else
 if j=9 then .int .i64 r.bLine else
 if j=10 then .int .i64 r.bCol else
 if j=11 then .int .i64 r.state else
 if j=76 then .int .i64 r.first else
 if j=77 then .int .i64 r.count else
 if j=78 then .int .i64 r.hAt else
 if j=79 then .int .i64 r.hLine else
 if j=80 then .int .i64 r.hCol else
 if j=81 then .int .i64 r.ahead else
 if j=82 then .int .i64 r.taken else
 if j=83 then .int .i64 r.length else
 if j=84 then .int .i64 r.rule else
 .int .u8 (r.byte (j-12))
def zK (w:World)(b:Nat)(r:Rs)(v0:Value):Prop:=∃t,w.rowIs b t 85 (r.cells v0)
theorem Rs.cells_byte (r:Rs)(v0:Value)(i:Nat)(h:i<64):r.cells v0 (12+i)=.int .u8 (r.byte i):=by
 unfold Rs.cells
 repeat rw[if_neg (by omega)]
 rw[Nat.add_sub_cancel_left]
theorem Rs.cells_stack (r:Rs)(v0:Value)(i:Nat)(h:i<4):r.cells v0 (3+i)=.int .i64 (r.stack i):=by
 match i,h with
 |0,_=>rfl
 |1,_=>rfl
 |2,_=>rfl
 |3,_=>rfl
namespace zK
variable {w w':World} {b:Nat} {r r':Rs} {v0 v1:Value}
theorem cell (h:zK w b r v0)(i:Nat)(hi:i<85):w.cell? ⟨b,i,none⟩=some (r.cells v0 i):=h.elim fun _ h=>h.cell hi
theorem frozen (h:zK w b r v0)(i:Nat):w.frozen? ⟨b,i,none⟩=false:=h.elim fun _ h=>h.frozen i
theorem lt (h:zK w b r v0):b<w.heap.size:=h.elim fun _ h=>h.lt
theorem of_block (h:zK w b r v0)(e:w'.heap[b]? =w.heap[b]?):zK w' b r v0:=h.elim fun t h=>⟨t,h.of_block e⟩
theorem alike (h:zK w b r v0)(e:w'.Alike w):zK w' b r v0:=h.of_block (by rw[e.1])
theorem below (h:zK w b r v0)(e:Below w.heap.size w w'):zK w' b r v0:=h.of_block (e.block b h.lt)
theorem drew (h:zK w b r v0):zK w.drew b r v0:=h
theorem set (h:zK w b r v0)(i:Nat)(v:Value)(e:∀j,j<85->(if j=i then v else r.cells v0 j)=r'.cells v1 j):zK (w.setCell ⟨b,i,none⟩ v) b r' v1:=
 h.elim fun t h=>⟨t,(h.set i v).congr e⟩
theorem set_opn (h:zK w b r v0)(v:Bool):zK (w.setCell ⟨b,1,none⟩ (.bool v)) b {r with opn:=v} v0:=
 h.set 1 _ fun j _=>by
  by_cases e:j=1
  ·subst e;rfl
  ·rw[if_neg e];simp[Rs.cells,e]
theorem get_opn (h:zK w b r v0):w.cell? ⟨b,1,none⟩=some (.bool r.opn):=h.cell 1 (by decide)
theorem set_told (h:zK w b r v0)(v:Value):zK (w.setCell ⟨b,2,none⟩ (v)) b r v:=
 h.set 2 _ fun j _=>by
  by_cases e:j=2
  ·subst e;rfl
  ·rw[if_neg e];simp[Rs.cells,e]
theorem get_told (h:zK w b r v0):w.cell? ⟨b,2,none⟩=some v0:=h.cell 2 (by decide)
theorem set_depth (h:zK w b r v0)(v:Nat):zK (w.setCell ⟨b,7,none⟩ (.int .i64 (v:Int))) b {r with depth:=v} v0:=
 h.set 7 _ fun j _=>by
  by_cases e:j=7
  ·subst e;rfl
  ·rw[if_neg e];simp[Rs.cells,e]
theorem get_depth (h:zK w b r v0):w.cell? ⟨b,7,none⟩=some (.int .i64 (r.depth:Int)):=h.cell 7 (by decide)
theorem set_bAt (h:zK w b r v0)(v:Nat):zK (w.setCell ⟨b,8,none⟩ (.int .i64 (v:Int))) b {r with bAt:=v} v0:=
 h.set 8 _ fun j _=>by
  by_cases e:j=8
  ·subst e;rfl
  ·rw[if_neg e];simp[Rs.cells,e]
theorem get_bAt (h:zK w b r v0):w.cell? ⟨b,8,none⟩=some (.int .i64 (r.bAt:Int)):=h.cell 8 (by decide)
theorem set_bLine (h:zK w b r v0)(v:Nat):zK (w.setCell ⟨b,9,none⟩ (.int .i64 (v:Int))) b {r with bLine:=v} v0:=
 h.set 9 _ fun j _=>by
  by_cases e:j=9
  ·subst e;rfl
  ·rw[if_neg e];simp[Rs.cells,e]
theorem get_bLine (h:zK w b r v0):w.cell? ⟨b,9,none⟩=some (.int .i64 (r.bLine:Int)):=h.cell 9 (by decide)
theorem set_bCol (h:zK w b r v0)(v:Nat):zK (w.setCell ⟨b,10,none⟩ (.int .i64 (v:Int))) b {r with bCol:=v} v0:=
 h.set 10 _ fun j _=>by
  by_cases e:j=10
  ·subst e;rfl
  ·rw[if_neg e];simp[Rs.cells,e]
theorem get_bCol (h:zK w b r v0):w.cell? ⟨b,10,none⟩=some (.int .i64 (r.bCol:Int)):=h.cell 10 (by decide)
theorem set_state (h:zK w b r v0)(v:Nat):zK (w.setCell ⟨b,11,none⟩ (.int .i64 (v:Int))) b {r with state:=v} v0:=
 h.set 11 _ fun j _=>by
  by_cases e:j=11
  ·subst e;rfl
  ·rw[if_neg e];simp[Rs.cells,e]
theorem get_state (h:zK w b r v0):w.cell? ⟨b,11,none⟩=some (.int .i64 (r.state:Int)):=h.cell 11 (by decide)
theorem set_first (h:zK w b r v0)(v:Nat):zK (w.setCell ⟨b,76,none⟩ (.int .i64 (v:Int))) b {r with first:=v} v0:=
 h.set 76 _ fun j _=>by
  by_cases e:j=76
  ·subst e;rfl
  ·rw[if_neg e];simp[Rs.cells,e]
theorem get_first (h:zK w b r v0):w.cell? ⟨b,76,none⟩=some (.int .i64 (r.first:Int)):=h.cell 76 (by decide)
theorem set_count (h:zK w b r v0)(v:Nat):zK (w.setCell ⟨b,77,none⟩ (.int .i64 (v:Int))) b {r with count:=v} v0:=
 h.set 77 _ fun j _=>by
  by_cases e:j=77
  ·subst e;rfl
  ·rw[if_neg e];simp[Rs.cells,e]
theorem get_count (h:zK w b r v0):w.cell? ⟨b,77,none⟩=some (.int .i64 (r.count:Int)):=h.cell 77 (by decide)
theorem set_hAt (h:zK w b r v0)(v:Nat):zK (w.setCell ⟨b,78,none⟩ (.int .i64 (v:Int))) b {r with hAt:=v} v0:=
 h.set 78 _ fun j _=>by
  by_cases e:j=78
  ·subst e;rfl
  ·rw[if_neg e];simp[Rs.cells,e]
theorem get_hAt (h:zK w b r v0):w.cell? ⟨b,78,none⟩=some (.int .i64 (r.hAt:Int)):=h.cell 78 (by decide)
theorem set_hLine (h:zK w b r v0)(v:Nat):zK (w.setCell ⟨b,79,none⟩ (.int .i64 (v:Int))) b {r with hLine:=v} v0:=
 h.set 79 _ fun j _=>by
  by_cases e:j=79
  ·subst e;rfl
  ·rw[if_neg e];simp[Rs.cells,e]
theorem get_hLine (h:zK w b r v0):w.cell? ⟨b,79,none⟩=some (.int .i64 (r.hLine:Int)):=h.cell 79 (by decide)
theorem set_hCol (h:zK w b r v0)(v:Nat):zK (w.setCell ⟨b,80,none⟩ (.int .i64 (v:Int))) b {r with hCol:=v} v0:=
 h.set 80 _ fun j _=>by
  by_cases e:j=80
  ·subst e;rfl
  ·rw[if_neg e];simp[Rs.cells,e]
theorem get_hCol (h:zK w b r v0):w.cell? ⟨b,80,none⟩=some (.int .i64 (r.hCol:Int)):=h.cell 80 (by decide)
theorem set_ahead (h:zK w b r v0)(v:Nat):zK (w.setCell ⟨b,81,none⟩ (.int .i64 (v:Int))) b {r with ahead:=v} v0:=
 h.set 81 _ fun j _=>by
  by_cases e:j=81
  ·subst e;rfl
  ·rw[if_neg e];simp[Rs.cells,e]
theorem get_ahead (h:zK w b r v0):w.cell? ⟨b,81,none⟩=some (.int .i64 (r.ahead:Int)):=h.cell 81 (by decide)
theorem set_taken (h:zK w b r v0)(v:Nat):zK (w.setCell ⟨b,82,none⟩ (.int .i64 (v:Int))) b {r with taken:=v} v0:=
 h.set 82 _ fun j _=>by
  by_cases e:j=82
  ·subst e;rfl
  ·rw[if_neg e];simp[Rs.cells,e]
theorem get_taken (h:zK w b r v0):w.cell? ⟨b,82,none⟩=some (.int .i64 (r.taken:Int)):=h.cell 82 (by decide)
theorem set_length (h:zK w b r v0)(v:Nat):zK (w.setCell ⟨b,83,none⟩ (.int .i64 (v:Int))) b {r with length:=v} v0:=
 h.set 83 _ fun j _=>by
  by_cases e:j=83
  ·subst e;rfl
  ·rw[if_neg e];simp[Rs.cells,e]
theorem get_length (h:zK w b r v0):w.cell? ⟨b,83,none⟩=some (.int .i64 (r.length:Int)):=h.cell 83 (by decide)
theorem set_rule (h:zK w b r v0)(v:Int):zK (w.setCell ⟨b,84,none⟩ (.int .i64 v)) b {r with rule:=v} v0:=
 h.set 84 _ fun j _=>by
  by_cases e:j=84
  ·subst e;rfl
  ·rw[if_neg e];simp[Rs.cells,e]
theorem get_rule (h:zK w b r v0):w.cell? ⟨b,84,none⟩=some (.int .i64 r.rule):=h.cell 84 (by decide)
theorem get_tp (h:zK w b r v0):w.cell? ⟨b,0,none⟩=some (.pointer (some ⟨r.tp,0,none⟩)):=h.cell 0 (by decide)
theorem get_byte (h:zK w b r v0)(i:Nat)(hi:i<64):w.cell? ⟨b,12+i,none⟩=some (.int .u8 (r.byte i)):=by
 rw[h.cell _ (by omega),Rs.cells_byte _ _ _ hi]
theorem get_stack (h:zK w b r v0)(i:Nat)(hi:i<4):w.cell? ⟨b,3+i,none⟩=some (.int .i64 (r.stack i)):=by
 rw[h.cell _ (by omega),Rs.cells_stack _ _ _ hi]
theorem set_byte (h:zK w b r v0)(i v:Nat)(hi:i<64):zK (w.setCell ⟨b,12+i,none⟩ (.int .u8 v)) b {r with byte:=fun j=>if j=i then v else r.byte j} v0:=
 h.set (12+i) _ fun j hj=>by
  by_cases e:j=12+i
  ·subst e;rw[if_pos rfl,Rs.cells_byte _ _ _ hi];simp
  ·rw[if_neg e]
   unfold Rs.cells;by_cases h1:12<=j∧j<76
   ·repeat rw[if_neg (by omega)]
    show _=Value.int .u8 ((if j-12=i then v else r.byte (j-12):Nat):Int);rw[if_neg (by omega)]
   ·by_cases h2:j<12
    ·match j,h2 with
     |0,_=>rfl
     |1,_=>rfl
     |2,_=>rfl
     |3,_=>rfl
     |4,_=>rfl
     |5,_=>rfl
     |6,_=>rfl
     |7,_=>rfl
     |8,_=>rfl
     |9,_=>rfl
     |10,_=>rfl
     |11,_=>rfl
    ·simp[show¬j-12=i by omega]
theorem set_stack (h:zK w b r v0)(i v:Nat)(hi:i<4):zK (w.setCell ⟨b,3+i,none⟩ (.int .i64 v)) b {r with stack:=fun j=>if j=i then v else r.stack j} v0:=
 h.set (3+i) _ fun j hj=>by
  match i,hi with
  |0,_=>by_cases e:j=3 <;> simp[Rs.cells,e]
  |1,_=>by_cases e:j=4 <;> simp[Rs.cells,e]
  |2,_=>by_cases e:j=5 <;> simp[Rs.cells,e]
  |3,_=>by_cases e:j=6 <;> simp[Rs.cells,e]
end zK
structure Keep (H b:Nat)(w w':World):Prop where
 os:w'.os=w.os
 output:w'.output=w.output
 size:w.heap.size<=w'.heap.size
 block:∀k,k<H->k≠b->w'.heap[k]? =w.heap[k]?
abbrev Grew (w w':World):Prop:=Keep w.heap.size w.heap.size w w'
namespace Keep
variable {H b:Nat} {w w' w'':World}
theorem refl (H b:Nat)(w:World):Keep H b w w:=⟨rfl,rfl,lQ,fun _ _ _=>rfl⟩
theorem trans (h:Keep H b w w')(k:Keep H b w' w''):Keep H b w w'':=
 ⟨k.os.trans h.os,k.output.trans h.output,lY h.size k.size,fun i h1 h2=>(k.block i h1 h2).trans (h.block i h1 h2)⟩
theorem set (w:World)(i:Nat)(v:Value):Keep H b w (w.setCell ⟨b,i,none⟩ v):=
 ⟨rfl,rfl,by simp[World.setCell],fun k _ h2=>Below.heap_setCell _ _ _ _ h2⟩
theorem alloc (w:World)(o:Obj)(h:H<=w.heap.size):Keep H b w (w.alloc o):=
 ⟨rfl,rfl,by simp,fun k h1 _=>Below.heap_alloc _ _ _ (by omega)⟩
theorem drew (w:World):Keep H b w w.drew:=⟨rfl,rfl,lQ,fun _ _ _=>rfl⟩
theorem alike (h:w'.Alike w):Keep H b w w':=⟨h.2.1,h.2.2,by rw[h.1];exact lQ,fun k _ _=>by rw[h.1]⟩
theorem below (h:Below w.heap.size w w')(hH:H<=w.heap.size):Keep H b w w':=⟨h.os,h.output,h.size,fun k h1 _=>h.block k (by omega)⟩
theorem grown {row:Option Nat}(hg:w.grownBy w' row)(hH:H<=w.heap.size)(hr:∀k,row=some k->H<=k):Keep H b w w':=
 ⟨hg.os,hg.output,hg.size,fun k h1 _=>hg.block k (by omega) (fun e=>by have:=hr k e.symm;omega)⟩
end Keep
theorem lJ(w:World)(a:Addr)(u:Value)(k:Nat)(h:k≠a.block):(w.setCell a u).heap[k]? =w.heap[k]?:=Below.heap_setCell w a u k h
theorem lG(w:World)(o:Obj)(k:Nat)(h:k<w.heap.size):(w.alloc o).heap[k]? =w.heap[k]?:=Below.heap_alloc w o k h
theorem kZ{H b:Nat}(w:World)(o:Obj)(h:H<=w.heap.size):Keep H b w (w.alloc o):=Keep.alloc w o h
theorem gG(w:World)(o:Obj):(w.alloc o).heap[w.heap.size]? =some o:=heap_alloc_new w o
end
theorem w64 (n:Int)(h0:-9223372036854775808<=n)(h1:n<9223372036854775808):wrap64 n=n:=by unfold wrap64;omega
theorem zB1 (n:Int)(h0:0<=n)(h1:n<9223372036854775808):IntKind.i64.wrap n=n:=by rw[IntKind.wrap_i64];omega
theorem yZ (a b:Nat)(ha:a<9223372036854775808)(hb:b<9223372036854775808):bits .and .i64 (a:Int) (b:Int)=((a&&&b:Nat):Int):=
 (bits_nat .i64 63 (by decide) (fun n h0 h1=>zB1 n h0 (by simpa using h1)) a b (by simpa using ha) (by simpa using hb)).1
theorem zEi (a:Nat)(ha:a<9223372036854775808):bits .and .i64 (a:Int) 1=((a%2:Nat):Int):=by
 have h:=yZ a 1 ha (by decide);rw[show ((1:Nat):Int)=1 from rfl] at h;rw[h,Nat.and_one_is_mod]
theorem zBw (a k:Nat):((a:Int)/2^k)=((a/2^k:Nat):Int):=by simp
theorem zAT {k:IntKind}{a b:Int}(h:a=b):Ending.returned (.int k a)=.returned (.int k b):=by rw[h]
theorem zKe (s:ByteArray)(k:Nat)(h:k<s.size):s.data.toList.take (k+1)=s.data.toList.take k++[s[k]]:=by
 rw[List.take_succ_eq_append_getElem (by simpa using h)];rfl
theorem qO {a b:Bool}(h:a=b):Ending.returned (.bool a)=.returned (.bool b):=by rw[h]
def yQ:Nat->Code->Code
 |n+1,.seq _ b=>yQ n b
 |_,c=>c
def byt (s:ByteArray)(i:Nat):Nat:=(s.data.toList.getD i 0).toNat
theorem zAl (s:ByteArray)(i:Nat):byt s i<256:=UInt8.toNat_lt _
theorem zDX (s:ByteArray)(i:Nat)(h:i<s.size):s[i].toNat=byt s i:=by
 have h':i<s.data.toList.length:=by simpa using h
 unfold byt;rw[lW,lV h'];rfl
def zG (kinds:Nat):Nat->Nat
 |0=>1
 |k+1=>if zG kinds k<=3000 then zG kinds k*(kinds+1) else zG kinds k
theorem zF7 (kinds:Nat)(hk:kinds<=256)(k:Nat):zG kinds k<=771000:=by
 cases k with
 |zero=>simp[zG]
 |succ k=>
  induction k with
  |zero=>simp[zG];omega
  |succ k ih=>
   rw[zG];split
   ·rename_i h
    calc zG kinds (k+1)*(kinds+1)<=3000*257:=Nat.mul_le_mul h (by omega)
     _=771000:=by decide
   ·exact ih
theorem zD1 (kinds k m:Nat)(h:3000<zG kinds k)(hm:k<=m):zG kinds m=zG kinds k:=by
 induction m with
 |zero=>rw[show k=0 by omega]
 |succ m ih=>
  by_cases e:k=m+1
  ·rw[e]
  ·have:=ih (by omega)
   rw[zG,if_neg (by omega)];exact this
theorem zJ7 (ways kinds:Nat)(h:ways*(kinds+1)<=771000):Value.int IntKind.i64 (wrap64 ((ways:Int)*((kinds:Int)+1)))=Value.int IntKind.i64 ((ways*(kinds+1):Nat):Int):=by
 have e:((ways:Int)*((kinds:Int)+1))=((ways*(kinds+1):Nat):Int):=by simp
 rw[e,w64 _ (by omega) (by omega)]
section
namespace RdAt
variable {w w':World} {b p:Nat} {s:ByteArray} {k:Bool}
end RdAt
theorem zJG {a b:Nat}(h:a=b):Ending.returned (.int .i64 (a:Int))=.returned (.int .i64 (b:Int)):=by rw[h]
theorem Keep.drewSet {H b:Nat}(w:World)(n i:Nat)(v:Value):Keep H b w ((w.drewN n).setCell ⟨b,i,none⟩ v):=Keep.trans (w':=w.drewN n) (Keep.alike ⟨rfl,rfl,rfl⟩) (Keep.set _ _ _)
theorem zJY (s:ByteArray)(i:Nat)(h:s.size<=i):byt s i=0:=by
 have h':s.data.toList.length<=i:=by simpa using h
 unfold byt;rw[lW,List.getElem?_eq_none h'];rfl
end
theorem zEW (kinds ahead:Nat)(w:World)(hk:kinds<=256)(ha:ahead<=255):
  Calls prog 101 #[.int .i64 kinds,.int .i64 ahead] w fun e w'=>e=.returned (.int .i64 (zG kinds ahead:Nat))∧w'=w:=by
 go_in;go_wp2;go_loop [5,6] (fun r i=>∃k:Nat,k<=ahead∧i=.int .i64 k∧r=.int .i64 (zG kinds k:Nat)) (fun _ i=>ahead-(intOf i).toNat)
 case atStart=>exact⟨0,lX,rfl,rfl⟩
 case round=>
  obtain⟨k,hka,rfl,rfl⟩:=hrel;have hw:=zF7 kinds hk k;have hw1:=zF7 kinds hk (k+1);by_cases hlt:k<ahead
  ·have i1:(k:Int)<(ahead:Int):=by omega
   by_cases hm:zG kinds k<=3000
   ·have i2:(zG kinds k:Int)<=3000:=by omega
    have HS:Hid (zG kinds (k+1)=zG kinds k*(kinds+1)):=by show _=_;rw[zG,if_pos hm]
    have hp:zG kinds k*(kinds+1)<=771000:=by rw[<-HS.out];exact hw1
    generalize zG kinds k=m at *;have HM:=zJ7 m kinds hp;go_wp2;refine⟨⟨k+1,by omega,by go_num,?_⟩,by simp[intOf];omega⟩;rw[HS.out];exact HM
   ·have i2:(3000:Int)<(zG kinds k:Int):=by omega
    have HS:=vl <| zD1 kinds k ahead (by omega) (by omega);generalize zG kinds k=m at *;go_wp2;go_ret;exact⟨zJG HS.out.symm,rfl⟩
  ·have i1:(ahead:Int)<=(k:Int):=by omega
   have HS:Hid (k=ahead):=by show _=_;omega
   go_wp2;go_ret;exact⟨zJG (by rw[HS.out]),rfl⟩
section
namespace Kept
variable {H a b:Nat} {w w' w'':World}
end Kept
structure Tc where
 stream:Value
 ahead:Value
 hold:Value
 starts:Value
 acts:Value
 pushed:Value
 kinds:Value
 count:Value
 next:Value
 ends:Value
 live:Value
 rows:Value
 longer:Value
def xB (w:World)(b:Nat)(c:Tc):Prop:=
 w.heap[b]? =some (.cells #[c.stream,c.ahead,c.hold,c.starts,c.acts,c.pushed,c.kinds,c.count,c.next,c.ends,c.live,c.rows,c.longer] 90)
namespace xB
variable {w w':World} {b:Nat} {c:Tc}
theorem lt (h:xB w b c):b<w.heap.size:=(kQ.1 h).1
theorem fz (h:xB w b c)(i:Nat):w.frozen? ⟨b,i,none⟩=false:=by unfold xB at h;simp[World.frozen?,h]
theorem of_block (h:xB w b c)(e:w'.heap[b]? =w.heap[b]?):xB w' b c:=e.trans h
theorem get_stream (h:xB w b c):w.cell? ⟨b,0,none⟩=some c.stream:=by unfold xB at h;simp[World.cell?,h]
theorem set_stream (h:xB w b c)(v:Value):xB (w.setCell ⟨b,0,none⟩ v) b {c with stream:=v}:=by unfold xB at *;simp[setCell,lU,h]
theorem get_ahead (h:xB w b c):w.cell? ⟨b,1,none⟩=some c.ahead:=by unfold xB at h;simp[World.cell?,h]
theorem set_ahead (h:xB w b c)(v:Value):xB (w.setCell ⟨b,1,none⟩ v) b {c with ahead:=v}:=by unfold xB at *;simp[setCell,lU,h]
theorem get_hold (h:xB w b c):w.cell? ⟨b,2,none⟩=some c.hold:=by unfold xB at h;simp[World.cell?,h]
theorem get_starts (h:xB w b c):w.cell? ⟨b,3,none⟩=some c.starts:=by unfold xB at h;simp[World.cell?,h]
theorem set_starts (h:xB w b c)(v:Value):xB (w.setCell ⟨b,3,none⟩ v) b {c with starts:=v}:=by unfold xB at *;simp[setCell,lU,h]
theorem get_acts (h:xB w b c):w.cell? ⟨b,4,none⟩=some c.acts:=by unfold xB at h;simp[World.cell?,h]
theorem set_acts (h:xB w b c)(v:Value):xB (w.setCell ⟨b,4,none⟩ v) b {c with acts:=v}:=by unfold xB at *;simp[setCell,lU,h]
theorem get_pushed (h:xB w b c):w.cell? ⟨b,5,none⟩=some c.pushed:=by unfold xB at h;simp[World.cell?,h]
theorem set_pushed (h:xB w b c)(v:Value):xB (w.setCell ⟨b,5,none⟩ v) b {c with pushed:=v}:=by unfold xB at *;simp[setCell,lU,h]
theorem get_kinds (h:xB w b c):w.cell? ⟨b,6,none⟩=some c.kinds:=by unfold xB at h;simp[World.cell?,h]
theorem get_count (h:xB w b c):w.cell? ⟨b,7,none⟩=some c.count:=by unfold xB at h;simp[World.cell?,h]
theorem get_next (h:xB w b c):w.cell? ⟨b,8,none⟩=some c.next:=by unfold xB at h;simp[World.cell?,h]
theorem set_next (h:xB w b c)(v:Value):xB (w.setCell ⟨b,8,none⟩ v) b {c with next:=v}:=by unfold xB at *;simp[setCell,lU,h]
theorem get_ends (h:xB w b c):w.cell? ⟨b,9,none⟩=some c.ends:=by unfold xB at h;simp[World.cell?,h]
theorem set_ends (h:xB w b c)(v:Value):xB (w.setCell ⟨b,9,none⟩ v) b {c with ends:=v}:=by unfold xB at *;simp[setCell,lU,h]
theorem get_live (h:xB w b c):w.cell? ⟨b,10,none⟩=some c.live:=by unfold xB at h;simp[World.cell?,h]
theorem set_live (h:xB w b c)(v:Value):xB (w.setCell ⟨b,10,none⟩ v) b {c with live:=v}:=by unfold xB at *;simp[setCell,lU,h]
theorem get_rows (h:xB w b c):w.cell? ⟨b,11,none⟩=some c.rows:=by unfold xB at h;simp[World.cell?,h]
theorem set_rows (h:xB w b c)(v:Value):xB (w.setCell ⟨b,11,none⟩ v) b {c with rows:=v}:=by unfold xB at *;simp[setCell,lU,h]
theorem get_longer (h:xB w b c):w.cell? ⟨b,12,none⟩=some c.longer:=by unfold xB at h;simp[World.cell?,h]
theorem set_longer (h:xB w b c)(v:Value):xB (w.setCell ⟨b,12,none⟩ v) b {c with longer:=v}:=by unfold xB at *;simp[setCell,lU,h]
end xB
namespace Rt
variable {H a b:Nat} {w0 w w':World} {s:ByteArray} {p p':Nat} {k k':Bool} {c c':Tc} {L:List (Nat×Obj)}
end Rt
end
theorem yH:(prog.info? 3).map (fun i=>(i.zero,i.size,i.bytes))=some (some (.int .i64 0),1,8):=by kernel_rfl
theorem zNl:(prog.info? 5).map (fun i=>(i.zero,i.size,i.bytes))=some (some (.int .u8 0),1,1):=by kernel_rfl
theorem qP:(prog.info? 4).map (fun i=>(i.zero,i.size,i.bytes))=some (some (.bool false),1,1):=by kernel_rfl
theorem zFk:(prog.info? 45).map (fun i=>(i.zero,i.size,i.bytes))=some (some (.slice none 0 0),1,24):=by kernel_rfl
theorem zLs {w w':World}{H a:Nat}{e:TypeId}{size:Nat}{v:Value}{n:Nat}{xs:List Value}(h:w.ownsRow H e size v n xs)(hk:∀H,Keep H a w w')(ha:a<H):w'.ownsRow H e size v n xs:=by
 refine⟨h.1,h.2.imp id ?_⟩;rintro⟨g,cap,cur,hv,hg,hh,rest⟩;have hlt:=(kQ.1 hh).1;exact⟨g,cap,cur,hv,hg,((hk w.heap.size).block g hlt (by omega)).trans hh,rest⟩
theorem xP {w1 w2:World}{o:Obj}{H:Nat}{v:Value}{e:TypeId}{size n:Nat}{xs:List Value}(ho:w1.ownsRow H e size v n xs)(hg:(w1.alloc o).grownBy w2 v.ownBlock)(hH:H<=w1.heap.size):Below H w1 w2:=
 ((Below.refl H w1).alloc hH o).trans ⟨hg.os,hg.tape,hg.output,hg.size,fun k hk=>hg.block k (by simp;omega) fun e=>by have:=(ho.lt k e.symm).1;omega⟩
theorem xN {H a:Nat}{w w':World}(h:Below H w w'):Keep H a w w':=⟨h.os,h.output,h.size,fun k hk _=>h.block k hk⟩
theorem jS {α:Type}(f:Nat->α)(j:Nat):(List.range (j+1)).map f=(List.range j).map f++[f j]:=by rw[List.range_succ,List.map_append];rfl
theorem qX {w:World}{H G:Nat}{e:TypeId}{size:Nat}{v:Value}{n:Nat}{xs:List Value}(h:w.ownsRow H e size v n xs)(hG:G<=H):w.ownsRow G e size v n xs:=by
 refine⟨h.1,h.2.imp id ?_⟩;rintro⟨g,cap,cur,hv,hg,hh,rest⟩;exact⟨g,cap,cur,hv,lY hG hg,hh,rest⟩
theorem zD {w w':World}{H:Nat}{e:TypeId}{size:Nat}{v:Value}{n:Nat}{xs:List Value}(h:w.ownsRow H e size v n xs)(hb:∀g,H<=g->g<w.heap.size->v.ownBlock=some g->w'.heap[g]? =w.heap[g]?):w'.ownsRow H e size v n xs:=by
 refine⟨h.1,h.2.imp id ?_⟩;rintro⟨g,cap,cur,hv,hg,hh,rest⟩;have hlt:=(kQ.1 hh).1;exact⟨g,cap,cur,hv,hg,(hb g hg hlt (by rw[hv];rfl)).trans hh,rest⟩
theorem zE {w:World}{H:Nat}{e:TypeId}{size:Nat}{v:Value}{n:Nat}{xs:List Value}(h:w.ownsRow H e size v n xs):∃ao cap,v=.slice ao n cap:=by
 rcases h.2 with⟨hv,hn⟩|⟨g,cap,_,hv,_⟩
 ·exact⟨none,0,by rw[hv,hn]⟩
 ·exact⟨_,cap,hv⟩
theorem zGf {w:World}{H G:Nat}{e f:TypeId}{size size':Nat}{v u:Value}{n m:Nat}{xs ys:List Value}(h:w.ownsRow H e size v n xs)(h':w.ownsRow G f size' u m ys)(hef:e≠f){g:Nat}(hg:v.ownBlock=some g):u.ownBlock≠some g:=by
 intro hu;rcases h.2 with⟨hv,_⟩|⟨g1,_,cur,hv,_,hh,_⟩
 ·rw[hv] at hg;cases hg
 ·rcases h'.2 with⟨hv',_⟩|⟨g2,_,cur',hv',_,hh',_⟩
  ·rw[hv'] at hu;cases hu
  ·rw[hv] at hg
   rw[hv'] at hu;have e1:g1=g:=by simpa[Value.ownBlock] using hg
   have e2:g2=g:=by simpa[Value.ownBlock] using hu
   subst e1 e2;rw[hh] at hh';injection hh' with hh';injection hh' with _ h2 _;exact hef h2
section
theorem zLq {k:IntKind}{a b:Int}(h:a=b):Ending.returned (.int k a)=.returned (.int k b):=by rw[h]
theorem zKq {a b:Bool}(h:a=b):Ending.returned (.bool a)=.returned (.bool b):=by rw[h]
def IntsAt (w:World)(S:Nat->Prop)(v:Value)(n:Nat)(f:Nat->Int):Prop:=
 ∃b o cap,S b∧v=.slice (some ⟨b,o,none⟩) n cap∧n<=cap∧cap<=maxLen∧∀i,i<n->w.cell? ⟨b,o+i,none⟩=some (.int .i64 (f i))
def BytesAt (w:World)(S:Nat->Prop)(v:Value)(n:Nat)(f:Nat->Nat):Prop:=
 ∃b o cap,S b∧v=.slice (some ⟨b,o,none⟩) n cap∧n<=cap∧cap<=maxLen∧∀i,i<n->w.cell? ⟨b,o+i,none⟩=some (.int .u8 (f i))
def BoolsAt (w:World)(S:Nat->Prop)(v:Value)(n:Nat)(f:Nat->Bool):Prop:=
 ∃b o cap,S b∧v=.slice (some ⟨b,o,none⟩) n cap∧n<=cap∧cap<=maxLen∧∀i,i<n->w.cell? ⟨b,o+i,none⟩=some (.bool (f i))
def RowsAt (w:World)(S:Nat->Prop)(v:Value)(n m:Nat)(f:Nat->Nat->Int):Prop:=
 ∃b o cap,S b∧v=.slice (some ⟨b,o,none⟩) n cap∧n<=cap∧cap<=maxLen∧∀i,i<n->∃u,w.cell? ⟨b,o+i,none⟩=some u∧IntsAt w S u m (f i)
section
variable {w w':World} {S:Nat->Prop} {v:Value} {n m:Nat}
theorem IntsAt.keep {f:Nat->Int}(h:IntsAt w S v n f)(e:∀b,S b->w'.heap[b]? =w.heap[b]?):IntsAt w' S v n f:=by
 obtain⟨b,o,cap,hb,rfl,h1,h2,h3⟩:=h;exact⟨b,o,cap,hb,rfl,h1,h2,fun i hi=>(cell?_of_block (e b hb)).trans (h3 i hi)⟩
theorem BytesAt.keep {f:Nat->Nat}(h:BytesAt w S v n f)(e:∀b,S b->w'.heap[b]? =w.heap[b]?):BytesAt w' S v n f:=by
 obtain⟨b,o,cap,hb,rfl,h1,h2,h3⟩:=h;exact⟨b,o,cap,hb,rfl,h1,h2,fun i hi=>(cell?_of_block (e b hb)).trans (h3 i hi)⟩
theorem BoolsAt.keep {f:Nat->Bool}(h:BoolsAt w S v n f)(e:∀b,S b->w'.heap[b]? =w.heap[b]?):BoolsAt w' S v n f:=by
 obtain⟨b,o,cap,hb,rfl,h1,h2,h3⟩:=h;exact⟨b,o,cap,hb,rfl,h1,h2,fun i hi=>(cell?_of_block (e b hb)).trans (h3 i hi)⟩
theorem RowsAt.keep {f:Nat->Nat->Int}(h:RowsAt w S v n m f)(e:∀b,S b->w'.heap[b]? =w.heap[b]?):RowsAt w' S v n m f:=by
 obtain⟨b,o,cap,hb,rfl,h1,h2,h3⟩:=h;refine⟨b,o,cap,hb,rfl,h1,h2,fun i hi=>?_⟩;obtain⟨u,hu,hr⟩:=h3 i hi;exact⟨u,(cell?_of_block (e b hb)).trans hu,hr.keep e⟩
end
structure Tb where
 stream:Bool
 ahead:Nat
 hold:Nat
 count:Nat
 rows:Nat
 nst:Nat
 nmode:Nat
 nrule:Nat
 nlong:Nat
 start:Nat->Nat
 act:Nat->Nat
 push:Nat->Nat
 kind:Nat->Nat
 next:Nat->Nat->Nat
 ends:Nat->Int
 live:Nat->Bool
 long:Nat->Nat
structure Tb.Ok (t:Tb):Prop where
 ahead:t.ahead<64
 hold0:1<=t.hold
 hold:t.hold<=64
 count:t.count<=256
 rows0:1<=t.rows
 rows:t.rows<=3000
 nst:t.nst<=200
 nmode:1<=t.nmode
 long:t.rows*t.nst<=8*t.nlong
 start:∀i,i<t.nmode->t.start i<t.nst
 push:∀i,i<t.nrule->t.push i<t.nmode
 kind:∀c,c<256->t.kind c<t.count
 next:∀s k,s<t.nst->k<t.count->t.next s k<t.nst
 ends:∀s,s<t.nst->-1<=t.ends s∧t.ends s<t.nrule
 longB:∀i,i<t.nlong->t.long i<256
structure TabAt (w:World)(S:Nat->Prop)(p:Nat)(t:Tb):Prop where
 safe:S p
 c0:w.cell? ⟨p,0,none⟩=some (.bool t.stream)
 c1:w.cell? ⟨p,1,none⟩=some (.int .i64 t.ahead)
 c2:w.cell? ⟨p,2,none⟩=some (.int .i64 t.hold)
 c3:∃v,w.cell? ⟨p,3,none⟩=some v∧IntsAt w S v t.nmode fun i=>t.start i
 c4:∃v,w.cell? ⟨p,4,none⟩=some v∧IntsAt w S v t.nrule fun i=>t.act i
 c5:∃v,w.cell? ⟨p,5,none⟩=some v∧IntsAt w S v t.nrule fun i=>t.push i
 c6:∃v,w.cell? ⟨p,6,none⟩=some v∧IntsAt w S v 256 fun i=>t.kind i
 c7:w.cell? ⟨p,7,none⟩=some (.int .i64 t.count)
 c8:∃v,w.cell? ⟨p,8,none⟩=some v∧RowsAt w S v t.nst t.count fun i k=>t.next i k
 c9:∃v,w.cell? ⟨p,9,none⟩=some v∧IntsAt w S v t.nst fun i=>t.ends i
 c10:∃v,w.cell? ⟨p,10,none⟩=some v∧BoolsAt w S v t.nst fun i=>t.live i
 c11:w.cell? ⟨p,11,none⟩=some (.int .i64 t.rows)
 c12:∃v,w.cell? ⟨p,12,none⟩=some v∧BytesAt w S v t.nlong fun i=>t.long i
theorem TabAt.keep {w w':World}{S:Nat->Prop}{p:Nat}{t:Tb}(h:TabAt w S p t)(e:∀b,S b->w'.heap[b]? =w.heap[b]?):TabAt w' S p t:=by
 have c:∀i,w'.cell? ⟨p,i,none⟩=w.cell? ⟨p,i,none⟩:=fun i=>cell?_of_block (e p h.safe);refine⟨h.safe,(c _).trans h.c0,(c _).trans h.c1,(c _).trans h.c2,?_,?_,?_,?_,(c _).trans h.c7,?_,?_,?_,(c _).trans h.c11,?_⟩
 ·obtain⟨v,a,b⟩:=h.c3;exact⟨v,(c _).trans a,b.keep e⟩
 ·obtain⟨v,a,b⟩:=h.c4;exact⟨v,(c _).trans a,b.keep e⟩
 ·obtain⟨v,a,b⟩:=h.c5;exact⟨v,(c _).trans a,b.keep e⟩
 ·obtain⟨v,a,b⟩:=h.c6;exact⟨v,(c _).trans a,b.keep e⟩
 ·obtain⟨v,a,b⟩:=h.c8;exact⟨v,(c _).trans a,b.keep e⟩
 ·obtain⟨v,a,b⟩:=h.c9;exact⟨v,(c _).trans a,b.keep e⟩
 ·obtain⟨v,a,b⟩:=h.c10;exact⟨v,(c _).trans a,b.keep e⟩
 ·obtain⟨v,a,b⟩:=h.c12;exact⟨v,(c _).trans a,b.keep e⟩
theorem zEO (p:Nat)(w:World)(S:Nat->Prop)(t:Tb)(hT:TabAt w S p t)(ok:t.Ok)(s c:Nat)(hs:s<t.nst)(hc:c<256):
  Calls prog 154 #[.pointer (some ⟨p,0,none⟩),.int .i64 s,.int .u8 c] w fun e w'=>e=.returned (.int .i64 (t.next s (t.kind c)))∧w'.Alike w:=by
 obtain⟨_,h8,b,o,cap,hb,rfl,hcap,hml,hN⟩:=hT.c8;obtain⟨u,hu,b2,o2,cap2,hb2,rfl,hcap2,hml2,hrow⟩:=hN s hs;obtain⟨_,h6,b3,o3,cap3,hb3,rfl,hcap3,hml3,hkind⟩:=hT.c6;have hkc:w.cell? ⟨b3,o3+c,none⟩=some (.int .i64 (t.kind c:Nat)):=hkind c hc;have hkm:=ok.kind c hc;have hnk:w.cell? ⟨b2,o2+t.kind c,none⟩=some (.int .i64 (t.next s (t.kind c):Nat)):=hrow (t.kind c) hkm;clear hN hrow hkind hT ok;generalize t.kind c=k at *;generalize t.next s k=x at *
 generalize t.nst=n at *;generalize t.count=m at *;have i1:(s:Int)<(n:Int):=by omega
 have i2:(k:Int)<(m:Int):=by omega
 have i3:(c:Int)<256:=by omega
 go_in;go_wp2;go_quiet (fail);go_wp2;go_ret;exact⟨rfl,rfl,rfl,rfl⟩
theorem zKU (p:Nat)(w:World)(S:Nat->Prop)(t:Tb)(hT:TabAt w S p t):
  Calls prog 118 #[.pointer (some ⟨p,0,none⟩)] w fun e w'=>e=.returned (.int .i64 t.count)∧w'.Alike w:=by
 have h:=hT.c7;generalize t.count=m at *;go_in;go_wp2;go_ret;exact⟨rfl,rfl,rfl,rfl⟩
def Tb.further (t:Tb)(a d:Nat):Nat:=(a*(t.count+1)+d)%t.rows
theorem zA2 (p:Nat)(w:World)(S:Nat->Prop)(t:Tb)(hT:TabAt w S p t)(ok:t.Ok)(a d:Nat)(ha:a<3000)(hd:d<=256):
  Calls prog 108 #[.pointer (some ⟨p,0,none⟩),.int .i64 a,.int .i64 d] w fun e w'=>e=.returned (.int .i64 (t.further a d))∧w'.Alike w:=by
 have h7:=hT.c7;have h11:=hT.c11;have b1:=ok.count;have b2:=ok.rows0;have b3:=ok.rows;have HF:Hid (t.further a d=(a*(t.count+1)+d)%t.rows):=rfl;generalize t.further a d=x at *;generalize t.count=m at *;generalize t.rows=n at *;have p1:(a:Int)*((m:Int)+1)<=771000:=by
  have h:a*(m+1)<=771000:=lY (Nat.mul_le_mul (show a<=3000 by omega) (show m+1<=257 by omega)) (by decide);have e:(a:Int)*((m:Int)+1)=((a*(m+1):Nat):Int):=by simp
  rw[e];omega
 have p2:0<=(a:Int)*((m:Int)+1):=by
  have e:(a:Int)*((m:Int)+1)=((a*(m+1):Nat):Int):=by simp
  rw[e];omega
 have hn0:((n:Int)==0)=false:=by rw[gQ];omega
 go_in;go_wp2;go_quiet (fail);go_wp2;go_ret;exact⟨zLq (by rw[HF.out];simp),rfl,rfl,rfl⟩
def Tb.longer (t:Tb)(a s:Nat):Bool:=decide (t.long ((a*t.nst+s)/8)/2^((a*t.nst+s)%8)%2=1)
theorem zKA (x k:Nat)(hx:x<256):(bits BinOp.and IntKind.u8 ((x:Int)/2^k) 1==1)=decide (x/2^k%2=1):=by
 have h1:x/2^k<=x:=Nat.div_le_self _ _;have h:=u8_and_nat (x/2^k) 1 (by omega) (by decide);rw[zBw];rw[show ((1:Nat):Int)=1 from rfl] at h;rw[h,Nat.and_one_is_mod,Bool.eq_iff_iff];simp only[beq_iff_eq,decide_eq_true_eq];omega
end
section
def Row (w:World)(H:Nat)(e:TypeId)(v:Value)(n:Nat)(f:Nat->Value):Prop:=w.ownsRow H e 1 v n ((List.range n).map f)
section
variable {w w':World} {H:Nat} {e e':TypeId} {v u:Value} {n m:Nat} {f f':Nat->Value}
theorem Row.get (h:Row w H e v n f)(hn:0<n):∃g cap,v=.slice (some ⟨g,0,none⟩) n cap∧H<=g∧g<w.heap.size∧n<=cap∧cap<=maxLen∧(∀i,i<n->w.cell? ⟨g,i,none⟩=some (f i))∧(∀i,w.frozen? ⟨g,i,none⟩=false):=by
 rcases h.2 with⟨_,h0⟩|⟨g,cap,cur,hv,hb,hg,h1,h2,h3,h4⟩
 ·omega
 ·refine⟨g,cap,hv,hb,(kQ.1 hg).1,h1,h2,fun i hi=>?_,fun i=>by simp[World.frozen?,hg]⟩
  have e1:(cur.toList.take (n*1))[i]? =some (f i):=by rw[h4];simp[hi]
  rw[List.getElem?_take,if_pos (by omega)] at e1;simp[World.cell?,hg];simpa using e1
theorem Row.congr (h:Row w H e v n f)(hf:∀i,i<n->f i=f' i):Row w H e v n f':=by
 unfold Row at *;rw[<-List.map_congr_left fun i hi=>hf i (List.mem_range.1 hi)];exact h
theorem Row.set {g cap:Nat}(h:Row w H e (.slice (some ⟨g,0,none⟩) n cap) n f)(i:Nat)(x:Value):Row (w.setCell ⟨g,i,none⟩ x) H e (.slice (some ⟨g,0,none⟩) n cap) n (fun j=>if j=i then x else f j):=by
 refine⟨by simp,?_⟩;rcases h.2 with⟨hv,_⟩|⟨g',cap',cur,hv,hb,hg,h1,h2,h3,h4⟩
 ·cases hv
 ·injection hv with ha _ hc
  injection ha with ha;injection ha with hgg;subst hgg hc;refine .inr ⟨g,cap,cur.setIfInBounds i x,rfl,hb,?_,h1,h2,by simpa using h3,?_⟩
  ·simp[setCell,lU,hg]
  ·apply List.ext_getElem?
   intro j;have e1:(cur.toList.take (n*1))[j]? =((List.range n).map f)[j]? :=by rw[h4]
   rw[List.getElem?_take] at e1 ⊢;by_cases hj:j<n
   ·rw[if_pos (by omega)] at e1 ⊢
    simp[hj] at e1;have hjc:j<cur.size:=by omega
    simp[Array.getElem?_setIfInBounds,hj];by_cases hji:i=j
    ·subst hji
     simp[hjc]
    ·simp[hji,Ne.symm hji]
     simpa using e1
   ·rw[if_neg (by omega)]
    simp[hj]
theorem Row.blk (h:Row w H e v n f)(hb:∀g,H<=g->g<w.heap.size->v.ownBlock=some g->w'.heap[g]? =w.heap[g]?):Row w' H e v n f:=zD h hb
theorem Row.setOther {g i cap:Nat}{x:Value}(h:Row w H e v n f)(h':Row w H e' (.slice (some ⟨g,0,none⟩) m cap) m f')(hne:e≠e'):Row (w.setCell ⟨g,i,none⟩ x) H e v n f:=
 h.blk fun k _ _ hk=>lJ _ _ _ _ (fun hkg=>zGf h h' hne hk (by rw[show k=g from hkg];rfl))
theorem Row.mono {G:Nat}(h:Row w H e v n f)(hG:G<=H):Row w G e v n f:=qX h hG
end
theorem zGG {w:World}{H b:Nat}{c:Tc}{e:TypeId}{v:Value}{n:Nat}{f:Nat->Value}(ht:xB w b c)(h:Row w H e v n f)(he:e≠90){g:Nat}(hg:v.ownBlock=some g):g≠b:=by
 intro eb;subst eb;rcases h.2 with⟨hv,_⟩|⟨g1,_,cur,hv,_,hh,_⟩
 ·rw[hv] at hg;cases hg
 ·rw[hv] at hg
  have e1:g1=g:=by simpa[Value.ownBlock] using hg
  subst e1;unfold xB at ht;rw[hh] at ht;injection ht with ht;injection ht with _ h2 _;exact he h2
structure Mem (w:World)(H b:Nat)(c:Tc)(t:Tb):Prop where
 tp:xB w b c
 stream:c.stream=.bool t.stream
 ahead:c.ahead=.int .i64 t.ahead
 hold:c.hold=.int .i64 t.hold
 count:c.count=.int .i64 t.count
 rows:c.rows=.int .i64 t.rows
 starts:Row w H 3 c.starts t.nmode fun i=>.int .i64 (t.start i:Nat)
 acts:Row w H 3 c.acts t.nrule fun i=>.int .i64 (t.act i:Nat)
 pushed:Row w H 3 c.pushed t.nrule fun i=>.int .i64 (t.push i:Nat)
 kinds:Row w H 3 c.kinds 256 fun i=>.int .i64 (t.kind i:Nat)
 next:∃rv,Row w H 45 c.next t.nst rv∧∀i,i<t.nst->Row w H 3 (rv i) t.count fun k=>.int .i64 (t.next i k:Nat)
 ends:Row w H 3 c.ends t.nst fun i=>.int .i64 (t.ends i)
 live:Row w H 4 c.live t.nst fun i=>.bool (t.live i)
 longer:Row w H 5 c.longer t.nlong fun i=>.int .u8 (t.long i:Nat)
 HH:H<=w.heap.size
theorem Mem.keep {w w':World}{H b:Nat}{c:Tc}{t:Tb}(h:Mem w H b c t)(hb:w'.heap[b]? =w.heap[b]?)(hk:∀k,H<=k->k<w.heap.size->w'.heap[k]? =w.heap[k]?)(hs:w.heap.size<=w'.heap.size):Mem w' H b c t:=by
 have k:∀{e v n f},Row w H e v n f->Row w' H e v n f:=fun r=>r.blk fun g h1 h2 _=>hk g h1 h2;obtain⟨rv,n1,n2⟩:=h.next
 exact⟨h.tp.of_block hb,h.stream,h.ahead,h.hold,h.count,h.rows,k h.starts,k h.acts,k h.pushed,k h.kinds,⟨rv,k n1,fun i hi=>k (n2 i hi)⟩,k h.ends,k h.live,k h.longer,lY h.HH hs⟩
theorem Mem.setLive {w:World}{H b g cap:Nat}{c:Tc}{t:Tb}(h:Mem w H b c t)(hg:c.live=.slice (some ⟨g,0,none⟩) t.nst cap)(i:Nat)(hgH:H<=g):Mem (w.setCell ⟨g,i,none⟩ (.bool true)) H b c {t with live:=fun j=>if j=i then true else t.live j}:=by
 have hl:=h.live;rw[hg] at hl;obtain⟨rv,n1,n2⟩:=h.next
 refine⟨h.tp.of_block (lJ _ _ _ _ (zGG h.tp hl (by decide) rfl).symm),h.stream,h.ahead,h.hold,h.count,h.rows,h.starts.setOther hl (by decide),h.acts.setOther hl (by decide),h.pushed.setOther hl (by decide),h.kinds.setOther hl (by decide),⟨rv,n1.setOther hl (by decide),fun i hi=>(n2 i hi).setOther hl (by decide)⟩,h.ends.setOther hl (by decide),?_,h.longer.setOther hl (by decide),by simpa[World.setCell] using h.HH⟩;rw[hg];refine(hl.set i (.bool true)).congr fun j _=>?_;show(if j=i then Value.bool true else Value.bool (t.live j))=Value.bool (if j=i then true else t.live j);by_cases e:j=i <;> simp[e]
structure Tb.OkN (t:Tb):Prop where
 count:t.count<=256
 nst:t.nst<=200
 next:∀s k,s<t.nst->k<t.count->t.next s k<t.nst
 ends:∀s,s<t.nst->-1<=t.ends s∧t.ends s<t.nrule
def Tb.anyTo (t:Tb)(s:Nat):Nat->Bool
 |0=>false
 |k+1=>t.anyTo s k||t.live (t.next s k)
theorem zLa (t:Tb)(s k n:Nat)(h:k<=n)(ha:t.anyTo s k=true):t.anyTo s n=true:=by
 induction n with
 |zero=>rw[show k=0 by omega] at ha;exact ha
 |succ n ih=>
  by_cases e:k=n+1
  ·rw[<-e];exact ha
  ·rw[Tb.anyTo,ih (by omega)];rfl
theorem zCA (w:World)(H b:Nat)(c:Tc)(t:Tb)(hM:Mem w H b c t)(ok:t.OkN)(s:Nat)(hs:s<t.nst)(hc:1<=t.count)(rv:Value)(hr:Row w H 3 rv t.count fun k=>.int .i64 (t.next s k:Nat)):
  Calls prog 138 #[.pointer (some ⟨b,0,none⟩),rv] w fun e w'=>e=.returned (.bool (t.anyTo s t.count))∧w'=w:=by
 obtain⟨g,cap,rfl,hg1,hg2,hg3,hg4,hg5,hg6⟩:=hr.get hc;obtain⟨gl,capl,hl,hl1,hl2,hl3,hl4,hl5,hl6⟩:=hM.live.get (Nat.lt_of_le_of_lt lX hs);have y10:w.cell? ⟨b,10,none⟩=some (.slice (some ⟨gl,0,none⟩) t.nst capl):=by rw[<-hl];exact hM.tp.get_live
 have HN:Hid (∀k,k<t.count->t.next s k<t.nst):=fun k hk=>ok.next s k hs hk
 have HG:=vl hg5;have HLV:=vl hl5;have hcb:=ok.count;have hnb:=ok.nst;clear hM ok hr hg5 hl5 hg6 hl6;generalize hcnt:t.count=n at *;go_in;go_wp2;go_loop [9] (fun i=>∃j:Nat,j<=n∧i=.int .i64 j∧t.anyTo s j=false) (fun i=>n-(intOf i).toNat)
 case atStart=>exact⟨0,lX,rfl,rfl⟩
 case round=>
  obtain⟨j,hj,rfl,hany⟩:=hrel;have HA:=vl hany;by_cases hj2:j<n
  ·have i1:(j:Int)<(n:Int):=by omega
   have y1:=HG.out j hj2;have hx:=HN.out j hj2;have y2:=HLV.out _ hx;have i2:(t.next s j:Int)<(t.nst:Int):=by omega
   have HL:Hid (t.anyTo s (j+1)=(t.anyTo s j||t.live (t.next s j))):=rfl;generalize t.next s j=x at *
   generalize hlv:t.live x=lv at *;have HLX:Hid (t.anyTo s (j+1)=lv):=by show _=_;rw[HL.out,HA.out];rfl
   cases lv with
   |true=>
    go_wp2;go_ret;exact⟨qO (zLa t s (j+1) n (by omega) HLX.out).symm,rfl⟩
   |false=>
    go_wp2;exact⟨⟨j+1,by omega,by go_num,HLX.out⟩,by simp[intOf];omega⟩
  ·have hjn:j=n:=by omega
   have i1:(n:Int)<=(j:Int):=by omega
   have HJ:Hid (t.anyTo s n=false):=by rw[<-hjn];exact HA.out
   go_wp2;go_ret;exact⟨qO HJ.out.symm,rfl⟩
end
theorem Tb.OkN.withLive {t:Tb}(ok:t.OkN)(f:Nat->Bool):({t with live:=f}).OkN:=⟨ok.count,ok.nst,ok.next,ok.ends⟩
def Tb.spreadTo (t:Tb):Nat->Tb×Bool
 |0=>(t,false)
 |s+1=>if !(t.spreadTo s).1.live s&&(t.spreadTo s).1.anyTo s t.count then({(t.spreadTo s).1 with live:=fun j=>if j=s then true else(t.spreadTo s).1.live j},true) else t.spreadTo s
theorem zBm (t:Tb)(s:Nat)(h1:(t.spreadTo s).1.live s=false)(h2:(t.spreadTo s).1.anyTo s t.count=true):t.spreadTo (s+1)=({(t.spreadTo s).1 with live:=fun j=>if j=s then true else(t.spreadTo s).1.live j},true):=by
 rw[Tb.spreadTo,h1,h2];rfl
theorem zAc (t:Tb)(s:Nat)(h:(t.spreadTo s).1.live s=true∨(t.spreadTo s).1.anyTo s t.count=false):t.spreadTo (s+1)=t.spreadTo s:=by
 rw[Tb.spreadTo];rcases h with h|h <;> rw[h] <;> simp
theorem jY (t:Tb)(s:Nat):(t.spreadTo s).1={t with live:=(t.spreadTo s).1.live}:=by
 induction s with
 |zero=>rfl
 |succ s ih=>
  rw[Tb.spreadTo];split
  ·show({(t.spreadTo s).1 with live:=_}:Tb)=_
   rw[ih]
  ·exact ih
theorem zBl (t:Tb)(s:Nat):(t.spreadTo s).1.nst=t.nst:=by rw[jY]
theorem zGC (t:Tb)(s:Nat):(t.spreadTo s).1.count=t.count:=by rw[jY]
theorem zKi {t:Tb}(ok:t.OkN)(s:Nat):(t.spreadTo s).1.OkN:=by rw[jY];exact ok.withLive _
theorem zDD (w:World)(H b:Nat)(c:Tc)(t:Tb)(hM:Mem w H b c t)(ok:t.OkN)(hn:1<=t.nst)(hc:1<=t.count):
  Calls prog 100 #[.pointer (some ⟨b,0,none⟩)] w fun e w'=>e=.returned (.bool (t.spreadTo t.nst).2)∧Mem w' H b c (t.spreadTo t.nst).1∧Below H w w':=by
 obtain⟨rv,hnx,hrv⟩:=hM.next
 obtain⟨g,cap,hg,hg1,hg2,hg3,hg4,hg5,hg6⟩:=hnx.get hn;obtain⟨gl,capl,hl,hl1,hl2,hl3,hl4,hl5,hl6⟩:=hM.live.get hn;have y8:w.cell? ⟨b,8,none⟩=some (.slice (some ⟨g,0,none⟩) t.nst cap):=by rw[<-hg];exact hM.tp.get_next
 have HM:=vl hM;have HGL:=vl hl;have HG:=vl hg;have hnb:=ok.nst;generalize hnst:t.nst=n at *;have HN:=vl hnst;go_in;go_wp2;go_loopg [3,11] n (fun q more i wr=>∃j:Nat,q=n-j∧j<=n∧i=.int .i64 (j:Int)∧more=.bool (t.spreadTo j).2∧Mem wr H b c (t.spreadTo j).1∧Below H w wr)
 case atStart=>exact⟨0,rfl,lX,rfl,rfl,HM.out,Below.refl _ _⟩
 case round=>
  obtain⟨j,hgk,hj,rfl,rfl,hMr,hB⟩:=hrel;have AA:Hid (gk=n-j∧Mem wr H b c (t.spreadTo j).1∧Below H w wr):=⟨hgk,hMr,hB⟩
  by_cases hj2:j<n
  ·have i1:(j:Int)<(n:Int):=by omega
   obtain⟨rv,hnx,hrv⟩:=hMr.next
   rw[HG.out,zBl,HN.out] at hnx;obtain⟨g',cap',e0,_,_,_,_,hcell,_⟩:=hnx.get hn;have eg:g'=g:=by injection e0 with e1 _ _;injection e1 with e1;injection e1 with e1;exact e1.symm
   subst eg;have z1:=hcell j hj2;have hlv:=hMr.live;rw[HGL.out,zBl,HN.out] at hlv;obtain⟨gl',capl',e0,_,_,_,_,hcelll,hfz⟩:=hlv.get hn;have el:gl'=gl:=by injection e0 with e1 _ _;injection e1 with e1;injection e1 with e1;exact e1.symm
   subst el;have z2:=hcelll j hj2;have z3:=hfz j;have z4:wr.cell? ⟨b,10,none⟩=some (.slice (some ⟨gl',0,none⟩) n capl):=by rw[<-HGL.out];exact hMr.tp.get_live
   have hrow:=hrv j (by rw[zBl,HN.out];exact hj2);obtain⟨ao,cp,hrs⟩:=zE hrow;have HROW:=vl hrow;rw[hrs] at z1;have HRS:=vl hrs;have HY:=vl <| zBm t j;have HZ:=vl <| zAc t j;have HOK:=zKi ok j;have hcc:=zGC t j;have hnn:(t.spreadTo j).1.nst=n:=by rw[zBl,HN.out]
   clear hgk hMr hB hcell hcelll hfz hrow hrs hnx hrv hlv e0;generalize hts:t.spreadTo j=ts at *;cases hlive:ts.1.live j with
   |true=>
    rw[hlive] at z2;have HT:=vl <| HZ.out (.inl hlive);go_wp2;go_roundg (n-(j+1))
    case measure=>rw[AA.out.1];omega
    case rel=>exact⟨j+1,rfl,by omega,congrArg (Value.int IntKind.i64) (by omega),by rw[HT.out],by rw[HT.out];exact AA.out.2.1,AA.out.2.2⟩
   |false=>
    rw[hlive] at z2;cases hany:ts.1.anyTo j t.count with
    |true=>
     have HT:=vl <| HY.out hlive hany;have HA:Hid (ts.1.anyTo j ts.1.count=true):=by show _=_;rw[hcc];exact hany
     have HRW:Hid (Row wr H 3 (.slice ao t.count cp) ts.1.count fun k=>.int .i64 (ts.1.next j k:Nat)):=by show Row _ _ _ _ _ _;rw[<-hcc,<-HRS.out];exact HROW.out
     have hjn:j<ts.1.nst:=by rw[hnn];exact hj2
     have hc1:1<=ts.1.count:=by rw[hcc];exact hc
     have HGX:Hid (c.live=.slice (some ⟨gl',0,none⟩) ts.1.nst capl):=by show _=_;rw[hnn];exact HGL.out
     clear hlive hany hts HROW HRS hnn;rw[hcc] at z1;clear hcc;go_wp2_with fail;refine(zCA wr H b c ts.1 AA.out.2.1 HOK j hjn hc1 _ HRW.out).mono ?_;rintro e w1 ⟨rfl,rfl⟩;rw[HA.out];clear hjn hc1 HOK;go_wp2_with fail;go_roundg (n-(j+1))
     case measure=>rw[AA.out.1];omega
     case rel=>
      refine⟨j+1,rfl,by omega,congrArg (Value.int IntKind.i64) (by omega),by rw[HT.out],?_,AA.out.2.2.trans ?_⟩
      ·rw[HT.out]
       exact AA.out.2.1.setLive HGX.out j hl1
      ·exact⟨rfl,rfl,rfl,by simp[World.setCell],fun k hk=>lJ _ _ _ _ (by show k≠gl';omega)⟩
    |false=>
     have HT:Hid (t.spreadTo (j+1)=ts):=HZ.out (.inr hany);have HA:Hid (ts.1.anyTo j ts.1.count=false):=by show _=_;rw[hcc];exact hany
     have HRW:Hid (Row wr H 3 (.slice ao t.count cp) ts.1.count fun k=>.int .i64 (ts.1.next j k:Nat)):=by show Row _ _ _ _ _ _;rw[<-hcc,<-HRS.out];exact HROW.out
     have hjn:j<ts.1.nst:=by rw[hnn];exact hj2
     have hc1:1<=ts.1.count:=by rw[hcc];exact hc
     have HGX:Hid (c.live=.slice (some ⟨gl',0,none⟩) ts.1.nst capl):=by show _=_;rw[hnn];exact HGL.out
     clear hlive hany hts HROW HRS hnn;rw[hcc] at z1;clear hcc;go_wp2_with fail;refine(zCA wr H b c ts.1 AA.out.2.1 HOK j hjn hc1 _ HRW.out).mono ?_;rintro e w1 ⟨rfl,rfl⟩;rw[HA.out];clear hjn hc1 HOK;go_wp2_with fail;go_roundg (n-(j+1))
     case measure=>rw[AA.out.1];omega
     case rel=>exact⟨j+1,rfl,by omega,congrArg (Value.int IntKind.i64) (by omega),by rw[HT.out],by rw[HT.out];exact AA.out.2.1,AA.out.2.2⟩
  ·have hjn:j=n:=by omega
   have i1:(n:Int)<=(j:Int):=by omega
   rw[hjn] at AA;clear hgk hMr hB;have HJ:Hid ((t.spreadTo j).2=(t.spreadTo n).2):=by show _=_;rw[hjn]
   clear hjn;generalize (t.spreadTo j).2=bb at *;go_wp2_with fail;go_ret;exact⟨qO HJ.out,AA.out.2.1,AA.out.2.2⟩
end Go.Proofs.YtbjcfkdnjaiclaaGreat
