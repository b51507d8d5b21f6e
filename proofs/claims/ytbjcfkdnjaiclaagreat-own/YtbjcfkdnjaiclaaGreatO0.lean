import Derived.BigQuiet
import Derived.Deep.AppendLies
import Derived.Deep.LoopGhost
import Derived.Deep.OwnRows
import Derived.Deep.QuietTactic
import Derived.Deep.RegionWith
import Derived.KernelRfl
import Derived.Laws.Bits64
import Derived.Laws.BitsAllLaws
import Derived.Laws.BitsLemmas
import Derived.Laws.Pointers
import Derived.OwnWalk
import Derived.StillTactics
import Derived.Test.YtbjcfkdnjaiclaaGreatProg
import Derived.WalkKit
import Derived.WalkLawsBesides
import Derived.WalkSpells
/- Parts of the proof. -/
set_option linter.unusedVariables false
set_option linter.unusedSimpArgs false
set_option maxHeartbeats 4000000
set_option maxRecDepth 100000
namespace Go.Proofs.YtbjcfkdnjaiclaaGreat
open Go.RowKit Go.Proofs.Tryz Go.World
open Go.Value (int slice bool pointer string agg tuple)
open Go.IntKind (i64)
open Go.Ending (returned)
abbrev iX (x:Int):Value:=int i64 x
abbrev qX (b:Nat):Option Addr:=some ⟨b,0,none⟩
abbrev pX (b:Nat):Value:=pointer (some ⟨b,0,none⟩)
abbrev cX (w:World)(b k:Nat):Option Value:=w.cell? ⟨b,k,none⟩
abbrev nX:Value:=slice none 0 0
abbrev zX:Value:=int i64 0
abbrev rX:Ending:=returned (tuple #[])
abbrev fX:Value:=bool false
abbrev tX:Value:=bool true
theorem vl {p:Prop}(h:p):Hid p:=h
theorem wp_cut {P:Program}{Q:Exit->Act->World->Prop}{a:Act}{w:World}{x y:Code}(h:∀K:Act->World->Prop,Hid (∀a w,y.wp P Q a w->K a w)->x.wp P (Exit.then K Q) a w):(Code.seq x y).wp P Q a w:=wp_seq_k h
theorem lQ{n:Nat}:n<=n:=n.le_refl
theorem lX{n:Nat}:0<=n:=n.zero_le
theorem lZ{n m k:Nat}(h:n<m)(g:m<=k):n<k:=Nat.lt_of_lt_of_le h g
theorem lY{n m k:Nat}(h:n<=m)(g:m<=k):n<=k:=Nat.le_trans h g
theorem lW.{u}{α:Type u}{l:List α}{i:Nat}{a:α}:l.getD i a=l[i]?.getD a:=List.getD_eq_getElem?_getD
theorem lV.{u}{α:Type u}{l:List α}{i:Nat}(h:i<l.length):l[i]? =some l[i]:=List.getElem?_eq_getElem h
theorem lU.{u}{α:Type u}{s:Array α}{i:Nat}{f:α->α}{j:Nat}:(s.modify i f)[j]? =if i=j then s[j]?.map f else s[j]?:=Array.getElem?_modify
theorem kQ.{u}{α:Type u}{i:Nat}{b:α}{s:Array α}:s[i]? =some b↔∃h:i<s.size,s[i]=b:=Array.getElem?_eq_some_iff
theorem kX.{u}{α:Type u}{a bs:List α}:(a++bs).length=a.length+bs.length:=List.length_append
theorem kY.{u}{α:Type u}{a b:α}:a∈[b]↔a=b:=List.mem_singleton
theorem kW.{u}{α:Type u}{l m:List α}{i:Nat}(h:i<l.length):(l++m)[i]? =l[i]?:=List.getElem?_append_left h
theorem kV.{u,v}{α:Type u}{β:Type v}{l:List α}(f:α->β):(l.map f).length=l.length:=List.length_map f
theorem kU.{u}{α:Type u}{a:α}{s t:List α}:a∈s++t↔a∈s∨a∈t:=List.mem_append
theorem kJ{a b:Nat}(h:a<b):a≠b:=Nat.ne_of_lt h
theorem kG{n:Nat}(h:n>0){i j:Nat}(g:i<=j):n^i<=n^j:=Nat.pow_le_pow_right h g
theorem hQ.{u}{α:Type u}{a b:α}(h:some a=some b):a=b:=Option.some.inj h
theorem hX.{u}{α:Type u}[BEq α][LawfulBEq α]{a b:α}:(a==b)=false↔a≠b:=beq_eq_false_iff_ne
theorem hZ.{u}{α:Type u}{l m:List α}{i:Nat}(h:l.length<=i):(l++m)[i]? =m[i-l.length]?:=List.getElem?_append_right h
theorem hY(n m:Nat):n+m-n=m:=Nat.add_sub_cancel_left n m
theorem hU.{u}{α:Type u}{a:α}{l:List α}:(a::l).length=l.length+1:=List.length_cons
theorem hJ(x:Nat){y:Nat}(h:y>0):x%y<y:=Nat.mod_lt x h
theorem gQ.{u}{α:Type u}{a:α}{l:List α}:a∈a::l:=List.mem_cons_self
theorem gX.{u}{α:Type u}(a b c:List α):a++b++c=a++(b++c):=List.append_assoc a b c
theorem gZ.{u,v}{α:Type u}{β:Type v}{f:α->β}{l:List α}{i:Nat}:(l.map f)[i]? =l[i]?.map f:=List.getElem?_map
theorem gG{p:Prop}[Decidable p](h:¬p):decide p=false:=decide_eq_false h
theorem dQ{p:Prop}[Decidable p](h:p):decide p=true:=decide_eq_true h
theorem dX.{u}{α:Type u}(a:List α):a++[]=a:=List.append_nil a
section
structure Rs where
 tp:Nat
 opn:Bool
 stack:Nat->Nat
 depth:Nat
 bAt:Nat
 bLine:Nat
 bCol:Nat
 state:Nat
 byte:Nat->Nat
 first:Nat
 count:Nat
 hAt:Nat
 hLine:Nat
 hCol:Nat
 ahead:Nat
 taken:Nat
 length:Nat
 rule:Int
def Rs.cells (r:Rs)(v0:Value)(j:Nat):Value:=
 if j=0 then pointer (some ⟨r.tp,0,none⟩) else
 if j=1 then bool r.opn else
 if j=2 then v0 else
 if j=3 then int i64 (r.stack 0) else
 if j=4 then int i64 (r.stack 1) else
 if j=5 then int i64 (r.stack 2) else
 if j=6 then int i64 (r.stack 3) else
 if j=7 then int i64 r.depth else
 if j=8 then int i64 r.bAt else
 if j=9 then int i64 r.bLine else
 if j=10 then int i64 r.bCol else
 if j=11 then int i64 r.state else
 if j=76 then int i64 r.first else
 if j=77 then int i64 r.count else
 if j=78 then int i64 r.hAt else
 if j=79 then int i64 r.hLine else
 if j=80 then int i64 r.hCol else
 if j=81 then int i64 r.ahead else
 if j=82 then int i64 r.taken else
 if j=83 then int i64 r.length else
 if j=84 then int i64 r.rule else
 int .u8 (r.byte (j-12))
def zN (w:World)(b:Nat)(r:Rs)(v0:Value):Prop:=∃t,w.rowIs b t 85 (r.cells v0)
theorem Rs.cells_byte (r:Rs)(v0:Value)(i:Nat)(a:i<64):r.cells v0 (12+i)=int .u8 (r.byte i):=by
 unfold Rs.cells
 repeat rw[if_neg (by omega)]
 rw[hY]
theorem Rs.cells_stack (r:Rs)(v0:Value)(i:Nat)(a:i<4):r.cells v0 (3+i)=iX (r.stack i):=by
 match i,a with
 |0,_=>rfl
 |1,_=>rfl
 |2,_=>rfl
 |3,_=>rfl
namespace zN
variable {w w':World} {b:Nat} {r r':Rs} {v0 v1:Value}
theorem cell (a:zN w b r v0)(i:Nat)(c:i<85):w.cell? ⟨b,i,none⟩=some (r.cells v0 i):=a.elim λ_ a=>a.cell c
theorem frozen (a:zN w b r v0)(i:Nat):w.frozen? ⟨b,i,none⟩=false:=a.elim λ_ a=>a.frozen i
theorem lt (a:zN w b r v0):b<w.heap.size:=a.elim λ_ a=>a.lt
theorem of_block (a:zN w b r v0)(e:w'.heap[b]? =w.heap[b]?):zN w' b r v0:=a.elim λt a=>⟨t,a.of_block e⟩
theorem alike (a:zN w b r v0)(e:w'.Alike w):zN w' b r v0:=a.of_block (by rw[e.1])
theorem below (a:zN w b r v0)(e:Below w.heap.size w w'):zN w' b r v0:=a.of_block (e.block b a.lt)
theorem drew (a:zN w b r v0):zN w.drew b r v0:=a
theorem set (a:zN w b r v0)(i:Nat)(v:Value)(e:∀j,j<85->(if j=i then v else r.cells v0 j)=r'.cells v1 j):zN (w.setCell ⟨b,i,none⟩ v) b r' v1:=
 a.elim λt a=>⟨t,(a.set i v).congr e⟩
theorem setc (a:zN w b r v0)(i:Nat){v:Value}(c:r'.cells v1 i=v)(d:∀j,j≠i->r'.cells v1 j=r.cells v0 j):zN (w.setCell ⟨b,i,none⟩ v) b r' v1:=a.set i v λj _=>by
 by_cases e:j=i
 ·rw[if_pos e,e,c]
 ·rw[if_neg e,d j e]
theorem set_opn (a:zN w b r v0)(v:Bool):zN (w.setCell ⟨b,1,none⟩ (bool v)) b {r with opn:=v} v0:=
 a.setc 1 rfl λj e=>by simp[Rs.cells,e]
theorem get_opn (a:zN w b r v0):w.cell? ⟨b,1,none⟩=some (bool r.opn):=a.cell 1 (by decide)
theorem set_told (a:zN w b r v0)(v:Value):zN (w.setCell ⟨b,2,none⟩ (v)) b r v:=
 a.setc 2 rfl λj e=>by simp[Rs.cells,e]
theorem get_told (a:zN w b r v0):w.cell? ⟨b,2,none⟩=some v0:=a.cell 2 (by decide)
theorem set_depth (a:zN w b r v0)(v:Nat):zN (w.setCell ⟨b,7,none⟩ (iX (v:Int))) b {r with depth:=v} v0:=
 a.setc 7 rfl λj e=>by simp[Rs.cells,e]
theorem get_depth (a:zN w b r v0):w.cell? ⟨b,7,none⟩=some (iX (r.depth:Int)):=a.cell 7 (by decide)
theorem set_bAt (a:zN w b r v0)(v:Nat):zN (w.setCell ⟨b,8,none⟩ (iX (v:Int))) b {r with bAt:=v} v0:=
 a.setc 8 rfl λj e=>by simp[Rs.cells,e]
theorem get_bAt (a:zN w b r v0):w.cell? ⟨b,8,none⟩=some (iX (r.bAt:Int)):=a.cell 8 (by decide)
theorem set_bLine (a:zN w b r v0)(v:Nat):zN (w.setCell ⟨b,9,none⟩ (iX (v:Int))) b {r with bLine:=v} v0:=
 a.setc 9 rfl λj e=>by simp[Rs.cells,e]
theorem get_bLine (a:zN w b r v0):w.cell? ⟨b,9,none⟩=some (iX (r.bLine:Int)):=a.cell 9 (by decide)
theorem set_bCol (a:zN w b r v0)(v:Nat):zN (w.setCell ⟨b,10,none⟩ (iX (v:Int))) b {r with bCol:=v} v0:=
 a.setc 10 rfl λj e=>by simp[Rs.cells,e]
theorem get_bCol (a:zN w b r v0):w.cell? ⟨b,10,none⟩=some (iX (r.bCol:Int)):=a.cell 10 (by decide)
theorem set_state (a:zN w b r v0)(v:Nat):zN (w.setCell ⟨b,11,none⟩ (iX (v:Int))) b {r with state:=v} v0:=
 a.setc 11 rfl λj e=>by simp[Rs.cells,e]
theorem get_state (a:zN w b r v0):w.cell? ⟨b,11,none⟩=some (iX (r.state:Int)):=a.cell 11 (by decide)
theorem set_first (a:zN w b r v0)(v:Nat):zN (w.setCell ⟨b,76,none⟩ (iX (v:Int))) b {r with first:=v} v0:=
 a.setc 76 rfl λj e=>by simp[Rs.cells,e]
theorem get_first (a:zN w b r v0):w.cell? ⟨b,76,none⟩=some (iX (r.first:Int)):=a.cell 76 (by decide)
theorem set_count (a:zN w b r v0)(v:Nat):zN (w.setCell ⟨b,77,none⟩ (iX (v:Int))) b {r with count:=v} v0:=
 a.setc 77 rfl λj e=>by simp[Rs.cells,e]
theorem get_count (a:zN w b r v0):w.cell? ⟨b,77,none⟩=some (iX (r.count:Int)):=a.cell 77 (by decide)
theorem set_hAt (a:zN w b r v0)(v:Nat):zN (w.setCell ⟨b,78,none⟩ (iX (v:Int))) b {r with hAt:=v} v0:=
 a.setc 78 rfl λj e=>by simp[Rs.cells,e]
theorem get_hAt (a:zN w b r v0):w.cell? ⟨b,78,none⟩=some (iX (r.hAt:Int)):=a.cell 78 (by decide)
theorem set_hLine (a:zN w b r v0)(v:Nat):zN (w.setCell ⟨b,79,none⟩ (iX (v:Int))) b {r with hLine:=v} v0:=
 a.setc 79 rfl λj e=>by simp[Rs.cells,e]
theorem get_hLine (a:zN w b r v0):w.cell? ⟨b,79,none⟩=some (iX (r.hLine:Int)):=a.cell 79 (by decide)
theorem set_hCol (a:zN w b r v0)(v:Nat):zN (w.setCell ⟨b,80,none⟩ (iX (v:Int))) b {r with hCol:=v} v0:=
 a.setc 80 rfl λj e=>by simp[Rs.cells,e]
theorem get_hCol (a:zN w b r v0):w.cell? ⟨b,80,none⟩=some (iX (r.hCol:Int)):=a.cell 80 (by decide)
theorem set_ahead (a:zN w b r v0)(v:Nat):zN (w.setCell ⟨b,81,none⟩ (iX (v:Int))) b {r with ahead:=v} v0:=
 a.setc 81 rfl λj e=>by simp[Rs.cells,e]
theorem get_ahead (a:zN w b r v0):w.cell? ⟨b,81,none⟩=some (iX (r.ahead:Int)):=a.cell 81 (by decide)
theorem set_taken (a:zN w b r v0)(v:Nat):zN (w.setCell ⟨b,82,none⟩ (iX (v:Int))) b {r with taken:=v} v0:=
 a.setc 82 rfl λj e=>by simp[Rs.cells,e]
theorem get_taken (a:zN w b r v0):w.cell? ⟨b,82,none⟩=some (iX (r.taken:Int)):=a.cell 82 (by decide)
theorem set_length (a:zN w b r v0)(v:Nat):zN (w.setCell ⟨b,83,none⟩ (iX (v:Int))) b {r with length:=v} v0:=
 a.setc 83 rfl λj e=>by simp[Rs.cells,e]
theorem get_length (a:zN w b r v0):w.cell? ⟨b,83,none⟩=some (iX (r.length:Int)):=a.cell 83 (by decide)
theorem set_rule (a:zN w b r v0)(v:Int):zN (w.setCell ⟨b,84,none⟩ (iX v)) b {r with rule:=v} v0:=
 a.setc 84 rfl λj e=>by simp[Rs.cells,e]
theorem get_rule (a:zN w b r v0):w.cell? ⟨b,84,none⟩=some (iX r.rule):=a.cell 84 (by decide)
theorem get_tp (a:zN w b r v0):w.cell? ⟨b,0,none⟩=some (pX r.tp):=a.cell 0 (by decide)
theorem get_byte (a:zN w b r v0)(i:Nat)(c:i<64):w.cell? ⟨b,12+i,none⟩=some (int .u8 (r.byte i)):=by
 rw[a.cell _ (by omega),Rs.cells_byte _ _ _ c]
theorem get_stack (a:zN w b r v0)(i:Nat)(c:i<4):w.cell? ⟨b,3+i,none⟩=some (iX (r.stack i)):=by
 rw[a.cell _ (by omega),Rs.cells_stack _ _ _ c]
theorem set_byte (a:zN w b r v0)(i v:Nat)(c:i<64):zN (w.setCell ⟨b,12+i,none⟩ (int .u8 v)) b {r with byte:=λj=>if j=i then v else r.byte j} v0:=
 a.set (12+i) _ λj f=>by
  by_cases e:j=12+i
  ·subst e;rw[if_pos rfl,Rs.cells_byte _ _ _ c];simp
  ·rw[if_neg e]
   unfold Rs.cells;by_cases g:12<=j/\j<76
   ·repeat rw[if_neg (by omega)]
    show _=Value.int .u8 ((if j-12=i then v else r.byte (j-12):Nat):Int);rw[if_neg (by omega)]
   ·by_cases d:j<12
    ·match j,d with
     |0,_=>rfl
     |1,_=>rfl
     |2,_=>rfl
     |3,_=>rfl
     |4,_=>rfl
     |5,_=>rfl
     |6,_=>rfl
     |7,_=>rfl
     |8,_=>rfl
     |9,_=>rfl
     |10,_=>rfl
     |11,_=>rfl
    ·simp[show¬j-12=i by omega]
theorem set_stack (a:zN w b r v0)(i v:Nat)(c:i<4):zN (w.setCell ⟨b,3+i,none⟩ (iX v)) b {r with stack:=λj=>if j=i then v else r.stack j} v0:=
 a.set (3+i) _ λj d=>by
  match i,c with
  |0,_=>by_cases e:j=3 <;> simp[Rs.cells,e]
  |1,_=>by_cases e:j=4 <;> simp[Rs.cells,e]
  |2,_=>by_cases e:j=5 <;> simp[Rs.cells,e]
  |3,_=>by_cases e:j=6 <;> simp[Rs.cells,e]
end zN
structure Keep (H b:Nat)(w w':World):Prop where
 os:w'.os=w.os
 output:w'.output=w.output
 size:w.heap.size<=w'.heap.size
 block:∀k,k<H->k≠b->w'.heap[k]? =w.heap[k]?
abbrev Grew (w w':World):Prop:=Keep w.heap.size w.heap.size w w'
namespace Keep
variable {H b:Nat} {w w' w'':World}
theorem refl (H b:Nat)(w:World):Keep H b w w:=⟨rfl,rfl,lQ,λ_ _ _=>rfl⟩
theorem trans (a:Keep H b w w')(k:Keep H b w' w''):Keep H b w w'':=
 ⟨k.os.trans a.os,k.output.trans a.output,lY a.size k.size,λi c d=>(k.block i c d).trans (a.block i c d)⟩
theorem set (w:World)(i:Nat)(v:Value):Keep H b w (w.setCell ⟨b,i,none⟩ v):=
 ⟨rfl,rfl,by simp[World.setCell],λk _ a=>Below.heap_setCell _ _ _ _ a⟩
theorem alloc (w:World)(o:Obj)(a:H<=w.heap.size):Keep H b w (w.alloc o):=
 ⟨rfl,rfl,by simp,λk c _=>Below.heap_alloc _ _ _ (by omega)⟩
theorem drew (w:World):Keep H b w w.drew:=⟨rfl,rfl,lQ,λ_ _ _=>rfl⟩
theorem alike (a:w'.Alike w):Keep H b w w':=⟨a.2.1,a.2.2,by rw[a.1];exact lQ,λk _ _=>by rw[a.1]⟩
theorem below (a:Below w.heap.size w w')(c:H<=w.heap.size):Keep H b w w':=⟨a.os,a.output,a.size,λk d _=>a.block k (by omega)⟩
theorem grown {row:Option Nat}(a:w.grownBy w' row)(d:H<=w.heap.size)(c:∀k,row=some k->H<=k):Keep H b w w':=
 ⟨a.os,a.output,a.size,λk f _=>a.block k (by omega) (λe=>by have:=c k e.symm;omega)⟩
end Keep
theorem lJ(w:World)(a:Addr)(u:Value)(k:Nat)(h:k≠a.block):(w.setCell a u).heap[k]? =w.heap[k]?:=Below.heap_setCell w a u k h
theorem lG(w:World)(o:Obj)(k:Nat)(h:k<w.heap.size):(w.alloc o).heap[k]? =w.heap[k]?:=Below.heap_alloc w o k h
theorem kZ{H b:Nat}(w:World)(o:Obj)(h:H<=w.heap.size):Keep H b w (w.alloc o):=Keep.alloc w o h
theorem gY(w:World)(o:Obj):(w.alloc o).heap[w.heap.size]? =some o:=heap_alloc_new w o
theorem gW{w v:World}{a:Addr}(h:v.heap[a.block]? =w.heap[a.block]?):v.cell? a=w.cell? a:=cell?_of_block h
theorem gV{w v:World}{a:Addr}(h:v.heap[a.block]? =w.heap[a.block]?):v.frozen? a=w.frozen? a:=frozen?_of_block h
theorem gU{w:World}(o:Obj)(n i:Nat)(h:n<w.heap.size):(w.alloc o).cell? ⟨n,i,none⟩=w.cell? ⟨n,i,none⟩:=cell?_alloc_past o n i h
theorem gJ{P:Program}{fn:Func}{R:Ending->World->Prop}{a:Act}{w:World}{v:Value}(h:Sem.run P (results fn a.tmps) w=.ok v w)(g:a.defers=[])(k:R (returned v) w):bodyPost P fn R .ret a w:=bodyPost_ret h g k
end
theorem w64 (n:Int)(a:-9223372036854775808<=n)(b:n<9223372036854775808):wrap64 n=n:=by unfold wrap64;omega
theorem zCh (n:Int)(a:0<=n)(b:n<9223372036854775808):IntKind.i64.wrap n=n:=by rw[IntKind.wrap_i64];omega
theorem qR (a b:Nat)(c:a<9223372036854775808)(d:b<9223372036854775808):bits .and i64 (a:Int) (b:Int)=((a&&&b:Nat):Int):=
 (bits_nat i64 63 (by decide) (λn e f=>zCh n e (by simpa using f)) a b (by simpa using c) (by simpa using d)).1
theorem zEM (a:Nat)(c:a<9223372036854775808):bits .and i64 (a:Int) 1=((a%2:Nat):Int):=by
 have b:=qR a 1 c (by decide);rw[show ((1:Nat):Int)=1 from rfl] at b;rw[b,Nat.and_one_is_mod]
theorem zBP (a k:Nat):((a:Int)/2^k)=((a/2^k:Nat):Int):=by simp
theorem zBb {k:IntKind}{a b:Int}(c:a=b):Ending.returned (int k a)=returned (int k b):=by rw[c]
theorem zL8 (s:ByteArray)(k:Nat)(a:k<s.size):s.data.toList.take (k+1)=s.data.toList.take k++[s[k]]:=by
 rw[List.take_succ_eq_append_getElem (by simpa using a)];rfl
theorem vK {a b:Bool}(c:a=b):Ending.returned (bool a)=returned (bool b):=by rw[c]
def qE:Nat->Code->Code
 |n+1,.seq _ b=>qE n b
 |_,c=>c
def byt (s:ByteArray)(i:Nat):Nat:=(s.data.toList.getD i 0).toNat
theorem zAK (s:ByteArray)(i:Nat):byt s i<256:=UInt8.toNat_lt _
theorem zCn (s:ByteArray)(i:Nat)(a:i<s.size):s[i].toNat=byt s i:=by
 have b:i<s.data.toList.length:=by simpa using a
 unfold byt;rw[lW,lV b];rfl
def zJ (kinds:Nat):Nat->Nat
 |0=>1
 |k+1=>if zJ kinds k<=3000 then zJ kinds k*(kinds+1) else zJ kinds k
theorem zGW (kinds:Nat)(c:kinds<=256)(k:Nat):zJ kinds k<=771000:=by
 cases k with
 |zero=>simp[zJ]
 |succ k=>
  induction k with
  |zero=>simp[zJ];omega
  |succ k a=>
   rw[zJ];split
   ·rename_i b
    calc zJ kinds (k+1)*(kinds+1)<=3000*257:=Nat.mul_le_mul b (by omega)
     _=771000:=by decide
   ·exact a
theorem zEw (kinds k m:Nat)(b:3000<zJ kinds k)(c:k<=m):zJ kinds m=zJ kinds k:=by
 induction m with
 |zero=>rw[show k=0 by omega]
 |succ m a=>
  by_cases e:k=m+1
  ·rw[e]
  ·have:=a (by omega)
   rw[zJ,if_neg (by omega)];exact this
theorem zL2 (a kinds:Nat)(b:a*(kinds+1)<=771000):Value.int IntKind.i64 (wrap64 ((a:Int)*((kinds:Int)+1)))=Value.int IntKind.i64 ((a*(kinds+1):Nat):Int):=by
 have e:((a:Int)*((kinds:Int)+1))=((a*(kinds+1):Nat):Int):=by simp
 rw[e,w64 _ (by omega) (by omega)]
section
namespace RdAt
variable {w w':World} {b p:Nat} {s:ByteArray} {k:Bool}
end RdAt
theorem zLu {a b:Nat}(c:a=b):Ending.returned (iX (a:Int))=returned (iX (b:Int)):=by rw[c]
theorem Keep.drewSet {H b:Nat}(w:World)(n i:Nat)(v:Value):Keep H b w ((w.drewN n).setCell ⟨b,i,none⟩ v):=Keep.trans (w':=w.drewN n) (Keep.alike ⟨rfl,rfl,rfl⟩) (Keep.set _ _ _)
theorem zLT (s:ByteArray)(i:Nat)(a:s.size<=i):byt s i=0:=by
 have c:s.data.toList.length<=i:=by simpa using a
 unfold byt;rw[lW,List.getElem?_eq_none c];rfl
end
theorem zFB (kinds ahead:Nat)(w:World)(b:kinds<=256)(l:ahead<=255):
  Calls prog 101 #[iX kinds,iX ahead] w λe w'=>e=returned (iX (zJ kinds ahead:Nat))/\w'=w:=by
 go_in;go_wp2;go_loop [5,6] (λr i=>∃k:Nat,k<=ahead/\i=iX k/\r=iX (zJ kinds k:Nat)) (λ_ i=>ahead-(intOf i).toNat)
 case atStart=>exact⟨0,lX,rfl,rfl⟩
 case round=>
  obtain⟨k,o,rfl,rfl⟩:=hrel;have p:=zGW kinds b k;have c:=zGW kinds b (k+1);by_cases q:k<ahead
  ·have d:(k:Int)<(ahead:Int):=by omega
   by_cases f:zJ kinds k<=3000
   ·have g:(zJ kinds k:Int)<=3000:=by omega
    have a:Hid (zJ kinds (k+1)=zJ kinds k*(kinds+1)):=by show _=_;rw[zJ,if_pos f]
    have h:zJ kinds k*(kinds+1)<=771000:=by rw[<-a.out];exact c
    generalize zJ kinds k=m at *;have j:=zL2 m kinds h;go_wp2;refine⟨⟨k+1,by omega,by go_num,?_⟩,by simp[intOf];omega⟩;rw[a.out];exact j
   ·have g:(3000:Int)<(zJ kinds k:Int):=by omega
    have a:=vl <| zEw kinds k ahead (by omega) (by omega);generalize zJ kinds k=m at *;go_wp2;go_ret;exact⟨zLu a.symm,rfl⟩
  ·have d:(ahead:Int)<=(k:Int):=by omega
   have a:Hid (k=ahead):=by show _=_;omega
   go_wp2;go_ret;exact⟨zLu (by rw[a.out]),rfl⟩
section
namespace Kept
variable {H a b:Nat} {w w' w'':World}
end Kept
structure Tc where
 stream:Value
 ahead:Value
 hold:Value
 starts:Value
 acts:Value
 pushed:Value
 kinds:Value
 count:Value
 next:Value
 ends:Value
 live:Value
 rows:Value
 longer:Value
def xH (w:World)(b:Nat)(c:Tc):Prop:=
 w.heap[b]? =some (.cells #[c.stream,c.ahead,c.hold,c.starts,c.acts,c.pushed,c.kinds,c.count,c.next,c.ends,c.live,c.rows,c.longer] 90)
namespace xH
variable {w w':World} {b:Nat} {c:Tc}
theorem lt (d:xH w b c):b<w.heap.size:=(kQ.1 d).1
theorem fz (d:xH w b c)(i:Nat):w.frozen? ⟨b,i,none⟩=false:=by unfold xH at d;simp[World.frozen?,d]
theorem of_block (d:xH w b c)(e:w'.heap[b]? =w.heap[b]?):xH w' b c:=e.trans d
theorem get_stream (d:xH w b c):w.cell? ⟨b,0,none⟩=some c.stream:=by unfold xH at d;simp[World.cell?,d]
theorem set_stream (d:xH w b c)(v:Value):xH (w.setCell ⟨b,0,none⟩ v) b {c with stream:=v}:=by unfold xH at *;simp[setCell,lU,d]
theorem get_ahead (d:xH w b c):w.cell? ⟨b,1,none⟩=some c.ahead:=by unfold xH at d;simp[World.cell?,d]
theorem set_ahead (d:xH w b c)(v:Value):xH (w.setCell ⟨b,1,none⟩ v) b {c with ahead:=v}:=by unfold xH at *;simp[setCell,lU,d]
theorem get_hold (d:xH w b c):w.cell? ⟨b,2,none⟩=some c.hold:=by unfold xH at d;simp[World.cell?,d]
theorem get_starts (d:xH w b c):w.cell? ⟨b,3,none⟩=some c.starts:=by unfold xH at d;simp[World.cell?,d]
theorem set_starts (d:xH w b c)(v:Value):xH (w.setCell ⟨b,3,none⟩ v) b {c with starts:=v}:=by unfold xH at *;simp[setCell,lU,d]
theorem get_acts (d:xH w b c):w.cell? ⟨b,4,none⟩=some c.acts:=by unfold xH at d;simp[World.cell?,d]
theorem set_acts (d:xH w b c)(v:Value):xH (w.setCell ⟨b,4,none⟩ v) b {c with acts:=v}:=by unfold xH at *;simp[setCell,lU,d]
theorem get_pushed (d:xH w b c):w.cell? ⟨b,5,none⟩=some c.pushed:=by unfold xH at d;simp[World.cell?,d]
theorem set_pushed (d:xH w b c)(v:Value):xH (w.setCell ⟨b,5,none⟩ v) b {c with pushed:=v}:=by unfold xH at *;simp[setCell,lU,d]
theorem get_kinds (d:xH w b c):w.cell? ⟨b,6,none⟩=some c.kinds:=by unfold xH at d;simp[World.cell?,d]
theorem get_count (d:xH w b c):w.cell? ⟨b,7,none⟩=some c.count:=by unfold xH at d;simp[World.cell?,d]
theorem get_next (d:xH w b c):w.cell? ⟨b,8,none⟩=some c.next:=by unfold xH at d;simp[World.cell?,d]
theorem set_next (d:xH w b c)(v:Value):xH (w.setCell ⟨b,8,none⟩ v) b {c with next:=v}:=by unfold xH at *;simp[setCell,lU,d]
theorem get_ends (d:xH w b c):w.cell? ⟨b,9,none⟩=some c.ends:=by unfold xH at d;simp[World.cell?,d]
theorem set_ends (d:xH w b c)(v:Value):xH (w.setCell ⟨b,9,none⟩ v) b {c with ends:=v}:=by unfold xH at *;simp[setCell,lU,d]
theorem get_live (d:xH w b c):w.cell? ⟨b,10,none⟩=some c.live:=by unfold xH at d;simp[World.cell?,d]
theorem set_live (d:xH w b c)(v:Value):xH (w.setCell ⟨b,10,none⟩ v) b {c with live:=v}:=by unfold xH at *;simp[setCell,lU,d]
theorem get_rows (d:xH w b c):w.cell? ⟨b,11,none⟩=some c.rows:=by unfold xH at d;simp[World.cell?,d]
theorem set_rows (d:xH w b c)(v:Value):xH (w.setCell ⟨b,11,none⟩ v) b {c with rows:=v}:=by unfold xH at *;simp[setCell,lU,d]
theorem get_longer (d:xH w b c):w.cell? ⟨b,12,none⟩=some c.longer:=by unfold xH at d;simp[World.cell?,d]
theorem set_longer (d:xH w b c)(v:Value):xH (w.setCell ⟨b,12,none⟩ v) b {c with longer:=v}:=by unfold xH at *;simp[setCell,lU,d]
end xH
namespace Rt
variable {H a b:Nat} {w0 w w':World} {s:ByteArray} {p p':Nat} {k k':Bool} {c c':Tc} {L:List (Nat×Obj)}
end Rt
end
theorem yW:(prog.info? 3).map (λi=>(i.zero,i.size,i.bytes))=some (some zX,1,8):=by kernel_rfl
theorem zQk:(prog.info? 5).map (λi=>(i.zero,i.size,i.bytes))=some (some (int .u8 0),1,1):=by kernel_rfl
theorem vL:(prog.info? 4).map (λi=>(i.zero,i.size,i.bytes))=some (some (bool false),1,1):=by kernel_rfl
theorem zF2:(prog.info? 45).map (λi=>(i.zero,i.size,i.bytes))=some (some nX,1,24):=by kernel_rfl
theorem zNP {w w':World}{H a:Nat}{e:TypeId}{b:Nat}{v:Value}{n:Nat}{xs:List Value}(c:w.ownsRow H e b v n xs)(f:∀H,Keep H a w w')(p:a<H):w'.ownsRow H e b v n xs:=by
 refine⟨c.1,c.2.imp id ?_⟩;rintro⟨g,cap,j,k,l,d,m⟩;have o:=(kQ.1 d).1;exact⟨g,cap,j,k,l,((f w.heap.size).block g o (by omega)).trans d,m⟩
theorem xU {w1 w2:World}{o:Obj}{H:Nat}{v:Value}{e:TypeId}{b n:Nat}{xs:List Value}(c:w1.ownsRow H e b v n xs)(a:(w1.alloc o).grownBy w2 v.ownBlock)(d:H<=w1.heap.size):Below H w1 w2:=
 ((Below.refl H w1).alloc d o).trans ⟨a.os,a.tape,a.output,a.size,λk f=>a.block k (by simp;omega) λe=>by have:=(c.lt k e.symm).1;omega⟩
theorem xS {H a:Nat}{w w':World}(b:Below H w w'):Keep H a w w':=⟨b.os,b.output,b.size,λk c _=>b.block k c⟩
theorem zAn {a:Type}(f:Nat->a)(j:Nat):(List.range (j+1)).map f=(List.range j).map f++[f j]:=by rw[List.range_succ,List.map_append];rfl
theorem vU {w:World}{H a:Nat}{e:TypeId}{b:Nat}{v:Value}{n:Nat}{xs:List Value}(c:w.ownsRow H e b v n xs)(d:a<=H):w.ownsRow a e b v n xs:=by
 refine⟨c.1,c.2.imp id ?_⟩;rintro⟨g,cap,f,j,k,l,m⟩;exact⟨g,cap,f,j,lY d k,l,m⟩
theorem zE {w w':World}{H:Nat}{e:TypeId}{a:Nat}{v:Value}{n:Nat}{xs:List Value}(b:w.ownsRow H e a v n xs)(j:∀g,H<=g->g<w.heap.size->v.ownBlock=some g->w'.heap[g]? =w.heap[g]?):w'.ownsRow H e a v n xs:=by
 refine⟨b.1,b.2.imp id ?_⟩;rintro⟨g,cap,k,c,d,f,l⟩;have m:=(kQ.1 f).1;exact⟨g,cap,k,c,d,(j g d m (by rw[c];rfl)).trans f,l⟩
theorem zF {w:World}{H:Nat}{e:TypeId}{b:Nat}{v:Value}{n:Nat}{xs:List Value}(c:w.ownsRow H e b v n xs):∃ao cap,v=slice ao n cap:=by
 rcases c.2 with⟨a,d⟩|⟨g,cap,_,a,_⟩
 ·exact⟨none,0,by rw[a,d]⟩
 ·exact⟨_,cap,a⟩
theorem zG5 {w:World}{H k:Nat}{e f:TypeId}{l o:Nat}{v u:Value}{n m:Nat}{xs p:List Value}(q:w.ownsRow H e l v n xs)(r:w.ownsRow k f o u m p)(s:e≠f){g:Nat}(a:v.ownBlock=some g):u.ownBlock≠some g:=by
 intro b;rcases q.2 with⟨d,_⟩|⟨t,_,C,d,_,x,_⟩
 ·rw[d] at a;cases a
 ·rcases r.2 with⟨j,_⟩|⟨y,_,D,j,_,c,_⟩
  ·rw[j] at b;cases b
  ·rw[d] at a
   rw[j] at b;have z:t=g:=by simpa[Value.ownBlock] using a
   have A:y=g:=by simpa[Value.ownBlock] using b
   subst z A;rw[x] at c;injection c with c;injection c with _ B _;exact s B
section
theorem zNG {k:IntKind}{a b:Int}(c:a=b):Ending.returned (int k a)=returned (int k b):=by rw[c]
theorem zMm {a b:Bool}(c:a=b):Ending.returned (bool a)=returned (bool b):=by rw[c]
def IntsAt (w:World)(S:Nat->Prop)(v:Value)(n:Nat)(f:Nat->Int):Prop:=
 ∃b o cap,S b/\v=slice (some ⟨b,o,none⟩) n cap/\n<=cap/\cap<=maxLen/\∀i,i<n->w.cell? ⟨b,o+i,none⟩=some (int i64 (f i))
def BytesAt (w:World)(S:Nat->Prop)(v:Value)(n:Nat)(f:Nat->Nat):Prop:=
 ∃b o cap,S b/\v=slice (some ⟨b,o,none⟩) n cap/\n<=cap/\cap<=maxLen/\∀i,i<n->w.cell? ⟨b,o+i,none⟩=some (int .u8 (f i))
def BoolsAt (w:World)(S:Nat->Prop)(v:Value)(n:Nat)(f:Nat->Bool):Prop:=
 ∃b o cap,S b/\v=slice (some ⟨b,o,none⟩) n cap/\n<=cap/\cap<=maxLen/\∀i,i<n->w.cell? ⟨b,o+i,none⟩=some (bool (f i))
def RowsAt (w:World)(S:Nat->Prop)(v:Value)(n m:Nat)(f:Nat->Nat->Int):Prop:=
 ∃b o cap,S b/\v=slice (some ⟨b,o,none⟩) n cap/\n<=cap/\cap<=maxLen/\∀i,i<n->∃u,w.cell? ⟨b,o+i,none⟩=some u/\IntsAt w S u m (f i)
section
variable {w w':World} {S:Nat->Prop} {v:Value} {n m:Nat}
theorem IntsAt.keep {f:Nat->Int}(c:IntsAt w S v n f)(e:∀b,S b->w'.heap[b]? =w.heap[b]?):IntsAt w' S v n f:=by
 obtain⟨b,o,cap,a,rfl,d,g,j⟩:=c;exact⟨b,o,cap,a,rfl,d,g,λi k=>(gW (e b a)).trans (j i k)⟩
theorem BytesAt.keep {f:Nat->Nat}(c:BytesAt w S v n f)(e:∀b,S b->w'.heap[b]? =w.heap[b]?):BytesAt w' S v n f:=by
 obtain⟨b,o,cap,a,rfl,d,g,j⟩:=c;exact⟨b,o,cap,a,rfl,d,g,λi k=>(gW (e b a)).trans (j i k)⟩
theorem BoolsAt.keep {f:Nat->Bool}(c:BoolsAt w S v n f)(e:∀b,S b->w'.heap[b]? =w.heap[b]?):BoolsAt w' S v n f:=by
 obtain⟨b,o,cap,a,rfl,d,g,j⟩:=c;exact⟨b,o,cap,a,rfl,d,g,λi k=>(gW (e b a)).trans (j i k)⟩
theorem RowsAt.keep {f:Nat->Nat->Int}(c:RowsAt w S v n m f)(e:∀b,S b->w'.heap[b]? =w.heap[b]?):RowsAt w' S v n m f:=by
 obtain⟨b,o,cap,a,rfl,d,g,j⟩:=c;refine⟨b,o,cap,a,rfl,d,g,λi k=>?_⟩;have ⟨u,l,p⟩:=j i k;exact⟨u,(gW (e b a)).trans l,p.keep e⟩
end
structure Tb where
 stream:Bool
 ahead:Nat
 hold:Nat
 count:Nat
 rows:Nat
 nst:Nat
 nmode:Nat
 nrule:Nat
 nlong:Nat
 start:Nat->Nat
 act:Nat->Nat
 push:Nat->Nat
 kind:Nat->Nat
 next:Nat->Nat->Nat
 ends:Nat->Int
 live:Nat->Bool
 long:Nat->Nat
structure Tb.Ok (t:Tb):Prop where
 ahead:t.ahead<64
 hold0:1<=t.hold
 hold:t.hold<=64
 count:t.count<=256
 rows0:1<=t.rows
 rows:t.rows<=3000
 nst:t.nst<=200
 nmode:1<=t.nmode
 long:t.rows*t.nst<=8*t.nlong
 start:∀i,i<t.nmode->t.start i<t.nst
 push:∀i,i<t.nrule->t.push i<t.nmode
 kind:∀c,c<256->t.kind c<t.count
 next:∀s k,s<t.nst->k<t.count->t.next s k<t.nst
 ends:∀s,s<t.nst->-1<=t.ends s/\t.ends s<t.nrule
 longB:∀i,i<t.nlong->t.long i<256
structure TabAt (w:World)(S:Nat->Prop)(p:Nat)(t:Tb):Prop where
 safe:S p
 c0:w.cell? ⟨p,0,none⟩=some (bool t.stream)
 c1:w.cell? ⟨p,1,none⟩=some (int i64 t.ahead)
 c2:w.cell? ⟨p,2,none⟩=some (int i64 t.hold)
 c3:∃v,w.cell? ⟨p,3,none⟩=some v/\IntsAt w S v t.nmode λi=>t.start i
 c4:∃v,w.cell? ⟨p,4,none⟩=some v/\IntsAt w S v t.nrule λi=>t.act i
 c5:∃v,w.cell? ⟨p,5,none⟩=some v/\IntsAt w S v t.nrule λi=>t.push i
 c6:∃v,w.cell? ⟨p,6,none⟩=some v/\IntsAt w S v 256 λi=>t.kind i
 c7:w.cell? ⟨p,7,none⟩=some (int i64 t.count)
 c8:∃v,w.cell? ⟨p,8,none⟩=some v/\RowsAt w S v t.nst t.count λi k=>t.next i k
 c9:∃v,w.cell? ⟨p,9,none⟩=some v/\IntsAt w S v t.nst λi=>t.ends i
 c10:∃v,w.cell? ⟨p,10,none⟩=some v/\BoolsAt w S v t.nst λi=>t.live i
 c11:w.cell? ⟨p,11,none⟩=some (int i64 t.rows)
 c12:∃v,w.cell? ⟨p,12,none⟩=some v/\BytesAt w S v t.nlong λi=>t.long i
theorem TabAt.keep {w w':World}{S:Nat->Prop}{p:Nat}{t:Tb}(d:TabAt w S p t)(e:∀b,S b->w'.heap[b]? =w.heap[b]?):TabAt w' S p t:=by
 have c:∀i,cX w' p i=cX w p i:=λi=>gW (e p d.safe);refine⟨d.safe,(c _).trans d.c0,(c _).trans d.c1,(c _).trans d.c2,?_,?_,?_,?_,(c _).trans d.c7,?_,?_,?_,(c _).trans d.c11,?_⟩
 ·have ⟨v,a,b⟩:=d.c3;exact⟨v,(c _).trans a,b.keep e⟩
 ·have ⟨v,a,b⟩:=d.c4;exact⟨v,(c _).trans a,b.keep e⟩
 ·have ⟨v,a,b⟩:=d.c5;exact⟨v,(c _).trans a,b.keep e⟩
 ·have ⟨v,a,b⟩:=d.c6;exact⟨v,(c _).trans a,b.keep e⟩
 ·have ⟨v,a,b⟩:=d.c8;exact⟨v,(c _).trans a,b.keep e⟩
 ·have ⟨v,a,b⟩:=d.c9;exact⟨v,(c _).trans a,b.keep e⟩
 ·have ⟨v,a,b⟩:=d.c10;exact⟨v,(c _).trans a,b.keep e⟩
 ·have ⟨v,a,b⟩:=d.c12;exact⟨v,(c _).trans a,b.keep e⟩
theorem zFr (p:Nat)(w:World)(S:Nat->Prop)(t:Tb)(a:TabAt w S p t)(ok:t.Ok)(s c:Nat)(j:s<t.nst)(d:c<256):
  Calls prog 154 #[pX p,iX s,int .u8 c] w λe w'=>e=returned (iX (t.next s (t.kind c)))/\w'.Alike w:=by
 obtain⟨_,z,b,o,cap,A,rfl,B,C,f⟩:=a.c8;obtain⟨u,D,b2,l,E,F,rfl,G,H,g⟩:=f s j;obtain⟨_,I,q,r,J,K,rfl,L,M,h⟩:=a.c6;have N:cX w q (r+c)=some (iX (t.kind c:Nat)):=h c d;have y:=ok.kind c d;have O:cX w b2 (l+t.kind c)=some (iX (t.next s (t.kind c):Nat)):=g (t.kind c) y;clear f g h a ok;generalize t.kind c=k at *;generalize t.next s k=x at *
 generalize t.nst=n at *;generalize t.count=m at *;have P:(s:Int)<(n:Int):=by omega
 have R:(k:Int)<(m:Int):=by omega
 have T:(c:Int)<256:=by omega
 go_in;go_wp2;go_quiet (fail);go_wp2;go_ret;exact⟨rfl,rfl,rfl,rfl⟩
theorem zM1 (p:Nat)(w:World)(S:Nat->Prop)(t:Tb)(a:TabAt w S p t):
  Calls prog 118 #[pX p] w λe w'=>e=returned (iX t.count)/\w'.Alike w:=by
 have b:=a.c7;generalize t.count=m at *;go_in;go_wp2;go_ret;exact⟨rfl,rfl,rfl,rfl⟩
def Tb.further (t:Tb)(a d:Nat):Nat:=(a*(t.count+1)+d)%t.rows
theorem zBl (p:Nat)(w:World)(S:Nat->Prop)(t:Tb)(c:TabAt w S p t)(ok:t.Ok)(a b:Nat)(g:a<3000)(j:b<=256):
  Calls prog 108 #[pX p,iX a,iX b] w λe w'=>e=returned (iX (t.further a b))/\w'.Alike w:=by
 have k:=c.c7;have l:=c.c11;have o:=ok.count;have b2:=ok.rows0;have q:=ok.rows;have f:Hid (t.further a b=(a*(t.count+1)+b)%t.rows):=rfl;generalize t.further a b=x at *;generalize t.count=m at *;generalize t.rows=n at *;have r:(a:Int)*((m:Int)+1)<=771000:=by
  have s:a*(m+1)<=771000:=lY (Nat.mul_le_mul (show a<=3000 by omega) (show m+1<=257 by omega)) (by decide);have e:(a:Int)*((m:Int)+1)=((a*(m+1):Nat):Int):=by simp
  rw[e];omega
 have u:0<=(a:Int)*((m:Int)+1):=by
  have e:(a:Int)*((m:Int)+1)=((a*(m+1):Nat):Int):=by simp
  rw[e];omega
 have y:((n:Int)==0)=false:=by rw[hX];omega
 go_in;go_wp2;go_quiet (fail);go_wp2;go_ret;exact⟨zNG (by rw[f.out];simp),rfl,rfl,rfl⟩
def Tb.longer (t:Tb)(a s:Nat):Bool:=decide (t.long ((a*t.nst+s)/8)/2^((a*t.nst+s)%8)%2=1)
theorem zMC (x k:Nat)(b:x<256):(bits BinOp.and IntKind.u8 ((x:Int)/2^k) 1==1)=decide (x/2^k%2=1):=by
 have c:x/2^k<=x:=Nat.div_le_self _ _;have a:=u8_and_nat (x/2^k) 1 (by omega) (by decide);rw[zBP];rw[show ((1:Nat):Int)=1 from rfl] at a;rw[a,Nat.and_one_is_mod,Bool.eq_iff_iff];simp only[beq_iff_eq,decide_eq_true_eq];omega
abbrev Ca:=Calls prog
end
section
def Row (w:World)(H:Nat)(e:TypeId)(v:Value)(n:Nat)(f:Nat->Value):Prop:=w.ownsRow H e 1 v n ((List.range n).map f)
section
variable {w w':World} {H:Nat} {e e':TypeId} {v u:Value} {n m:Nat} {f f':Nat->Value}
theorem Row.get (c:Row w H e v n f)(r:0<n):∃g cap,v=slice (qX g) n cap/\H<=g/\g<w.heap.size/\n<=cap/\cap<=maxLen/\(∀i,i<n->w.cell? ⟨g,i,none⟩=some (f i))/\(∀i,w.frozen? ⟨g,i,none⟩=false):=by
 rcases c.2 with⟨_,s⟩|⟨g,cap,d,j,k,a,l,o,t,p⟩
 ·omega
 ·refine⟨g,cap,j,k,(kQ.1 a).1,l,o,λi q=>?_,λi=>by simp[World.frozen?,a]⟩
  have b:(d.toList.take (n*1))[i]? =some (f i):=by rw[p];simp[q]
  rw[List.getElem?_take,if_pos (by omega)] at b;simp[World.cell?,a];simpa using b
theorem Row.congr (a:Row w H e v n f)(b:∀i,i<n->f i=f' i):Row w H e v n f':=by
 unfold Row at *;rw[<-List.map_congr_left λi c=>b i (List.mem_range.1 c)];exact a
theorem Row.set {g cap:Nat}(o:Row w H e (slice (qX g) n cap) n f)(i:Nat)(x:Value):Row (w.setCell ⟨g,i,none⟩ x) H e (slice (qX g) n cap) n (λj=>if j=i then x else f j):=by
 refine⟨by simp,?_⟩;rcases o.2 with⟨b,_⟩|⟨C,D,c,b,p,q,r,s,t,y⟩
 ·cases b
 ·injection b with d _ z
  injection d with d;injection d with A;subst A z;refine .inr ⟨g,cap,c.setIfInBounds i x,rfl,p,?_,r,s,by simpa using t,?_⟩
  ·simp[setCell,lU,q]
  ·apply List.ext_getElem?
   intro j;have a:(c.toList.take (n*1))[j]? =((List.range n).map f)[j]? :=by rw[y]
   rw[List.getElem?_take] at a ⊢;by_cases k:j<n
   ·rw[if_pos (by omega)] at a ⊢
    simp[k] at a;have B:j<c.size:=by omega
    simp[Array.getElem?_setIfInBounds,k];by_cases l:i=j
    ·subst l
     simp[B]
    ·simp[l,Ne.symm l]
     simpa using a
   ·rw[if_neg (by omega)]
    simp[k]
theorem Row.blk (a:Row w H e v n f)(b:∀g,H<=g->g<w.heap.size->v.ownBlock=some g->w'.heap[g]? =w.heap[g]?):Row w' H e v n f:=zE a b
theorem Row.setOther {g i cap:Nat}{x:Value}(a:Row w H e v n f)(b:Row w H e' (slice (qX g) m cap) m f')(c:e≠e'):Row (w.setCell ⟨g,i,none⟩ x) H e v n f:=
 a.blk λk _ _ d=>lJ _ _ _ _ (λj=>zG5 a b c d (by rw[show k=g from j];rfl))
theorem Row.mono {a:Nat}(b:Row w H e v n f)(c:a<=H):Row w a e v n f:=vU b c
end
theorem zHQ {w:World}{H b:Nat}{c:Tc}{e:TypeId}{v:Value}{n:Nat}{f:Nat->Value}(a:xH w b c)(k:Row w H e v n f)(l:e≠90){g:Nat}(d:v.ownBlock=some g):g≠b:=by
 intro o;subst o;rcases k.2 with⟨j,_⟩|⟨p,_,t,j,_,q,_⟩
 ·rw[j] at d;cases d
 ·rw[j] at d
  have r:p=g:=by simpa[Value.ownBlock] using d
  subst r;unfold xH at a;rw[q] at a;injection a with a;injection a with _ s _;exact l s
structure Mem (w:World)(H b:Nat)(c:Tc)(t:Tb):Prop where
 tp:xH w b c
 stream:c.stream=bool t.stream
 ahead:c.ahead=int i64 t.ahead
 hold:c.hold=int i64 t.hold
 count:c.count=int i64 t.count
 rows:c.rows=int i64 t.rows
 starts:Row w H 3 c.starts t.nmode λi=>int i64 (t.start i:Nat)
 acts:Row w H 3 c.acts t.nrule λi=>int i64 (t.act i:Nat)
 pushed:Row w H 3 c.pushed t.nrule λi=>int i64 (t.push i:Nat)
 kinds:Row w H 3 c.kinds 256 λi=>int i64 (t.kind i:Nat)
 next:∃rv,Row w H 45 c.next t.nst rv/\∀i,i<t.nst->Row w H 3 (rv i) t.count λk=>int i64 (t.next i k:Nat)
 ends:Row w H 3 c.ends t.nst λi=>int i64 (t.ends i)
 live:Row w H 4 c.live t.nst λi=>bool (t.live i)
 longer:Row w H 5 c.longer t.nlong λi=>int .u8 (t.long i:Nat)
 HH:H<=w.heap.size
theorem Mem.keep {w w':World}{H b:Nat}{c:Tc}{t:Tb}(a:Mem w H b c t)(d:w'.heap[b]? =w.heap[b]?)(j:∀k,H<=k->k<w.heap.size->w'.heap[k]? =w.heap[k]?)(l:w.heap.size<=w'.heap.size):Mem w' H b c t:=by
 have k:∀{e v n f},Row w H e v n f->Row w' H e v n f:=λr=>r.blk λg o p _=>j g o p;have ⟨rv,q,s⟩:=a.next
 exact⟨a.tp.of_block d,a.stream,a.ahead,a.hold,a.count,a.rows,k a.starts,k a.acts,k a.pushed,k a.kinds,⟨rv,k q,λi x=>k (s i x)⟩,k a.ends,k a.live,k a.longer,lY a.HH l⟩
theorem Mem.setLive {w:World}{H b g cap:Nat}{c:Tc}{t:Tb}(a:Mem w H b c t)(k:c.live=slice (qX g) t.nst cap)(i:Nat)(q:H<=g):Mem (w.setCell ⟨g,i,none⟩ (bool true)) H b c {t with live:=λj=>if j=i then true else t.live j}:=by
 have d:=a.live;rw[k] at d;have ⟨rv,l,o⟩:=a.next
 refine⟨a.tp.of_block (lJ _ _ _ _ (zHQ a.tp d (by decide) rfl).symm),a.stream,a.ahead,a.hold,a.count,a.rows,a.starts.setOther d (by decide),a.acts.setOther d (by decide),a.pushed.setOther d (by decide),a.kinds.setOther d (by decide),⟨rv,l.setOther d (by decide),λi p=>(o i p).setOther d (by decide)⟩,a.ends.setOther d (by decide),?_,a.longer.setOther d (by decide),by simpa[World.setCell] using a.HH⟩;rw[k];refine(d.set i tX).congr λj _=>?_;show(if j=i then tX else Value.bool (t.live j))=Value.bool (if j=i then true else t.live j);by_cases e:j=i <;> simp[e]
structure Tb.OkN (t:Tb):Prop where
 count:t.count<=256
 nst:t.nst<=200
 next:∀s k,s<t.nst->k<t.count->t.next s k<t.nst
 ends:∀s,s<t.nst->-1<=t.ends s/\t.ends s<t.nrule
def Tb.anyTo (t:Tb)(s:Nat):Nat->Bool
 |0=>false
 |k+1=>t.anyTo s k||t.live (t.next s k)
theorem zNi (t:Tb)(s k n:Nat)(c:k<=n)(a:t.anyTo s k=true):t.anyTo s n=true:=by
 induction n with
 |zero=>rw[show k=0 by omega] at a;exact a
 |succ n b=>
  by_cases e:k=n+1
  ·rw[<-e];exact a
  ·rw[Tb.anyTo,b (by omega)];rfl
theorem zC4 (w:World)(H b:Nat)(c:Tc)(t:Tb)(a:Mem w H b c t)(ok:t.OkN)(s:Nat)(d:s<t.nst)(y:1<=t.count)(rv:Value)(h:Row w H 3 rv t.count λk=>iX (t.next s k:Nat)):
  Calls prog 138 #[pX b,rv] w λe w'=>e=returned (bool (t.anyTo s t.count))/\w'=w:=by
 obtain⟨g,cap,rfl,O,P,R,S,l,z⟩:=h.get y;have ⟨gl,A,B,T,U,V,W,o,C⟩:=a.live.get (Nat.lt_of_le_of_lt lX d);have X:cX w b 10=some (slice (qX gl) t.nst A):=by rw[<-B];exact a.tp.get_live
 have D:Hid (∀k,k<t.count->t.next s k<t.nst):=λk E=>ok.next s k d E
 have F:=vl l;have G:=vl o;have Y:=ok.count;have aa:=ok.nst;clear a ok h l o z C;generalize ab:t.count=n at *;go_in;go_wp2;go_loop [9] (λi=>∃j:Nat,j<=n/\i=iX j/\t.anyTo s j=false) (λi=>n-(intOf i).toNat)
 case atStart=>exact⟨0,lX,rfl,rfl⟩
 case round=>
  obtain⟨j,ac,rfl,I⟩:=hrel;have p:=vl I;by_cases q:j<n
  ·have J:(j:Int)<(n:Int):=by omega
   have ad:=F j q;have K:=D j q;have ae:=G _ K;have af:(t.next s j:Int)<(t.nst:Int):=by omega
   have L:Hid (t.anyTo s (j+1)=(t.anyTo s j||t.live (t.next s j))):=rfl;generalize t.next s j=x at *
   generalize ag:t.live x=lv at *;have r:Hid (t.anyTo s (j+1)=lv):=by show _=_;rw[L.out,p.out];rfl
   cases lv with
   |true=>
    go_wp2;go_ret;exact⟨vK (zNi t s (j+1) n (by omega) r).symm,rfl⟩
   |false=>
    go_wp2;exact⟨⟨j+1,by omega,by go_num,r⟩,by simp[intOf];omega⟩
  ·have M:j=n:=by omega
   have J:(n:Int)<=(j:Int):=by omega
   have N:Hid (t.anyTo s n=false):=by rw[<-M];exact p
   go_wp2;go_ret;exact⟨vK N.symm,rfl⟩
end
theorem zEK (p:Nat)(w:World)(S:Nat->Prop)(t:Tb)(c:TabAt w S p t)(ok:t.Ok)(a s:Nat)(d:a<t.rows)(m:s<t.nst):
  Calls prog 155 #[pX p,iX a,iX s] w λe w'=>e=returned (bool (t.longer a s))/\w'=w:=by
 obtain⟨_,q,b,o,cap,r,rfl,u,v,y⟩:=c.c8;obtain⟨_,z,f,g,A,B,rfl,C,D,h⟩:=c.c12;have E:a*t.nst+s<8*t.nlong:=by
  have j:(a+1)*t.nst<=t.rows*t.nst:=Nat.mul_le_mul_right _ d;have F:=ok.long;rw[Nat.add_mul] at j;omega
 have G:cX w f (g+(a*t.nst+s)/8)=some (int .u8 (t.long ((a*t.nst+s)/8):Nat)):=h _ (by omega);have k:=ok.longB ((a*t.nst+s)/8) (by omega);have H:=ok.rows;have b2:=ok.nst;have l:Hid (t.longer a s=decide (t.long ((a*t.nst+s)/8)/2^((a*t.nst+s)%8)%2=1)):=rfl;have I:a*t.nst<=600000:=lY (Nat.mul_le_mul (show a<=3000 by omega) b2) (by decide);generalize t.longer a s=J at *;generalize t.long ((a*t.nst+s)/8)=x at *;generalize t.nst=n at *;generalize t.nlong=K at *;have L:(a:Int)*(n:Int)<=600000:=by
  have e:(a:Int)*(n:Int)=((a*n:Nat):Int):=by simp
  rw[e];omega
 have M:0<=(a:Int)*(n:Int):=by
  have e:(a:Int)*(n:Int)=((a*n:Nat):Int):=by simp
  rw[e];omega
 go_in;go_wp2;go_ret;exact⟨zMm (by rw[l.out];exact zMC x _ k),rfl⟩
end Go.Proofs.YtbjcfkdnjaiclaaGreat
