import Derived.BigQuiet
import Derived.Deep.AppendLies
import Derived.Deep.OwnRows
import Derived.Deep.QuietTactic
import Derived.Deep.RegionWith
import Derived.Laws.Bits64
import Derived.Laws.BitsLemmas
import Derived.Laws.Pointers
import Derived.OwnWalk
import Derived.StillTactics
import Derived.Test.YtbjcfkdnjaiclaaGreatProg
import Derived.WalkKit
import Derived.WalkLawsBesides
import Derived.WalkSpells
/- Parts of the proof. -/
set_option linter.unusedVariables false
set_option linter.unusedSimpArgs false
set_option maxHeartbeats 4000000
set_option maxRecDepth 100000
namespace Go.Proofs.YtbjcfkdnjaiclaaGreat
open Go.RowKit Go.Proofs.Tryz Go.World
open Go.Value (int slice bool pointer string agg tuple)
open Go.IntKind (i64)
open Go.Ending (returned)
abbrev iX (x:Int):Value:=int i64 x
abbrev qX (b:Nat):Option Addr:=some ⟨b,0,none⟩
abbrev pX (b:Nat):Value:=pointer (some ⟨b,0,none⟩)
abbrev cX (w:World)(b k:Nat):Option Value:=w.cell? ⟨b,k,none⟩
theorem vl {p:Prop}(a:p):Hid p:=a
theorem wp_cut {P:Program}{b:Exit->Act->World->Prop}{a:Act}{w:World}{x y:Code}(d:∀c:Act->World->Prop,Hid (∀a w,y.wp P b a w->c a w)->x.wp P (Exit.then c b) a w):(Code.seq x y).wp P b a w:=wp_seq_k d
theorem lQ{n:Nat}:n<=n:=n.le_refl
theorem lX{n:Nat}:0<=n:=n.zero_le
theorem lZ{n m k:Nat}(h:n<m)(g:m<=k):n<k:=Nat.lt_of_lt_of_le h g
theorem lY{n m k:Nat}(h:n<=m)(g:m<=k):n<=k:=Nat.le_trans h g
theorem lW.{u}{α:Type u}{l:List α}{i:Nat}{a:α}:l.getD i a=l[i]?.getD a:=List.getD_eq_getElem?_getD
theorem lV.{u}{α:Type u}{l:List α}{i:Nat}(h:i<l.length):l[i]? =some l[i]:=List.getElem?_eq_getElem h
theorem lU.{u}{α:Type u}{s:Array α}{i:Nat}{f:α->α}{j:Nat}:(s.modify i f)[j]? =if i=j then s[j]?.map f else s[j]?:=Array.getElem?_modify
theorem kQ.{u}{α:Type u}{i:Nat}{b:α}{s:Array α}:s[i]? =some b↔∃h:i<s.size,s[i]=b:=Array.getElem?_eq_some_iff
theorem kX.{u}{α:Type u}{a bs:List α}:(a++bs).length=a.length+bs.length:=List.length_append
theorem kY.{u}{α:Type u}{a b:α}:a∈[b]↔a=b:=List.mem_singleton
theorem kW.{u}{α:Type u}{l m:List α}{i:Nat}(h:i<l.length):(l++m)[i]? =l[i]?:=List.getElem?_append_left h
theorem kV.{u,v}{α:Type u}{β:Type v}{l:List α}(f:α->β):(l.map f).length=l.length:=List.length_map f
theorem kU.{u}{α:Type u}{a:α}{s t:List α}:a∈s++t↔a∈s∨a∈t:=List.mem_append
theorem kJ{a b:Nat}(h:a<b):a≠b:=Nat.ne_of_lt h
theorem kG{n:Nat}(h:n>0){i j:Nat}(g:i<=j):n^i<=n^j:=Nat.pow_le_pow_right h g
theorem hQ.{u}{α:Type u}{a b:α}(h:some a=some b):a=b:=Option.some.inj h
theorem hX.{u}{α:Type u}[BEq α][LawfulBEq α]{a b:α}:(a==b)=false↔a≠b:=beq_eq_false_iff_ne
theorem hZ.{u}{α:Type u}{l m:List α}{i:Nat}(h:l.length<=i):(l++m)[i]? =m[i-l.length]?:=List.getElem?_append_right h
theorem hY(x:Nat){y:Nat}(h:y>0):x%y<y:=Nat.mod_lt x h
theorem hU.{u}{α:Type u}{a:α}{l:List α}:a∈a::l:=List.mem_cons_self
theorem hJ.{u}{α:Type u}(a b c:List α):a++b++c=a++(b++c):=List.append_assoc a b c
theorem gQ.{u,v}{α:Type u}{β:Type v}{f:α->β}{l:List α}{i:Nat}:(l.map f)[i]? =l[i]?.map f:=List.getElem?_map
theorem gU{p:Prop}[Decidable p](h:¬p):decide p=false:=decide_eq_false h
theorem gJ{p:Prop}[Decidable p](h:p):decide p=true:=decide_eq_true h
theorem gG.{u}{α:Type u}(a:List α):a++[]=a:=List.append_nil a
section
structure Rs where
 tp:Nat
 opn:Bool
 stack:Nat->Nat
 depth:Nat
 bAt:Nat
 bLine:Nat
 bCol:Nat
 state:Nat
 byte:Nat->Nat
 first:Nat
 count:Nat
 hAt:Nat
 hLine:Nat
 hCol:Nat
 ahead:Nat
 taken:Nat
 length:Nat
 rule:Int
def Rs.cells (r:Rs)(v0:Value)(j:Nat):Value:=
 if j=0 then pointer (some ⟨r.tp,0,none⟩) else
 if j=1 then bool r.opn else
 if j=2 then v0 else
 if j=3 then int i64 (r.stack 0) else
 if j=4 then int i64 (r.stack 1) else
 if j=5 then int i64 (r.stack 2) else
 if j=6 then int i64 (r.stack 3) else
 if j=7 then int i64 r.depth else
 if j=8 then int i64 r.bAt else
 if j=9 then int i64 r.bLine else
 if j=10 then int i64 r.bCol else
 if j=11 then int i64 r.state else
 if j=76 then int i64 r.first else
 if j=77 then int i64 r.count else
 if j=78 then int i64 r.hAt else
 if j=79 then int i64 r.hLine else
 if j=80 then int i64 r.hCol else
 if j=81 then int i64 r.ahead else
 if j=82 then int i64 r.taken else
 if j=83 then int i64 r.length else
 if j=84 then int i64 r.rule else
 int .u8 (r.byte (j-12))
def zL (w:World)(b:Nat)(r:Rs)(v0:Value):Prop:=∃t,w.rowIs b t 85 (r.cells v0)
theorem Rs.cells_byte (r:Rs)(v0:Value)(i:Nat)(a:i<64):r.cells v0 (12+i)=int .u8 (r.byte i):=by
 unfold Rs.cells
 repeat rw[if_neg (by omega)]
 rw[Nat.add_sub_cancel_left]
theorem Rs.cells_stack (r:Rs)(v0:Value)(i:Nat)(a:i<4):r.cells v0 (3+i)=iX (r.stack i):=by
 match i,a with
 |0,_=>rfl
 |1,_=>rfl
 |2,_=>rfl
 |3,_=>rfl
namespace zL
variable {w w':World} {b:Nat} {r r':Rs} {v0 v1:Value}
theorem cell (a:zL w b r v0)(i:Nat)(c:i<85):w.cell? ⟨b,i,none⟩=some (r.cells v0 i):=a.elim λ_ a=>a.cell c
theorem frozen (a:zL w b r v0)(i:Nat):w.frozen? ⟨b,i,none⟩=false:=a.elim λ_ a=>a.frozen i
theorem lt (a:zL w b r v0):b<w.heap.size:=a.elim λ_ a=>a.lt
theorem of_block (a:zL w b r v0)(e:w'.heap[b]? =w.heap[b]?):zL w' b r v0:=a.elim λt a=>⟨t,a.of_block e⟩
theorem alike (a:zL w b r v0)(e:w'.Alike w):zL w' b r v0:=a.of_block (by rw[e.1])
theorem below (a:zL w b r v0)(e:Below w.heap.size w w'):zL w' b r v0:=a.of_block (e.block b a.lt)
theorem drew (a:zL w b r v0):zL w.drew b r v0:=a
theorem set (a:zL w b r v0)(i:Nat)(v:Value)(e:∀j,j<85->(if j=i then v else r.cells v0 j)=r'.cells v1 j):zL (w.setCell ⟨b,i,none⟩ v) b r' v1:=
 a.elim λt a=>⟨t,(a.set i v).congr e⟩
theorem setc (a:zL w b r v0)(i:Nat){v:Value}(c:r'.cells v1 i=v)(d:∀j,j≠i->r'.cells v1 j=r.cells v0 j):zL (w.setCell ⟨b,i,none⟩ v) b r' v1:=a.set i v λj _=>by
 by_cases e:j=i
 ·rw[if_pos e,e,c]
 ·rw[if_neg e,d j e]
theorem set_opn (a:zL w b r v0)(v:Bool):zL (w.setCell ⟨b,1,none⟩ (bool v)) b {r with opn:=v} v0:=
 a.setc 1 rfl λj e=>by simp[Rs.cells,e]
theorem get_opn (a:zL w b r v0):w.cell? ⟨b,1,none⟩=some (bool r.opn):=a.cell 1 (by decide)
theorem set_told (a:zL w b r v0)(v:Value):zL (w.setCell ⟨b,2,none⟩ (v)) b r v:=
 a.setc 2 rfl λj e=>by simp[Rs.cells,e]
theorem get_told (a:zL w b r v0):w.cell? ⟨b,2,none⟩=some v0:=a.cell 2 (by decide)
theorem set_depth (a:zL w b r v0)(v:Nat):zL (w.setCell ⟨b,7,none⟩ (iX (v:Int))) b {r with depth:=v} v0:=
 a.setc 7 rfl λj e=>by simp[Rs.cells,e]
theorem get_depth (a:zL w b r v0):w.cell? ⟨b,7,none⟩=some (iX (r.depth:Int)):=a.cell 7 (by decide)
theorem set_bAt (a:zL w b r v0)(v:Nat):zL (w.setCell ⟨b,8,none⟩ (iX (v:Int))) b {r with bAt:=v} v0:=
 a.setc 8 rfl λj e=>by simp[Rs.cells,e]
theorem get_bAt (a:zL w b r v0):w.cell? ⟨b,8,none⟩=some (iX (r.bAt:Int)):=a.cell 8 (by decide)
theorem set_bLine (a:zL w b r v0)(v:Nat):zL (w.setCell ⟨b,9,none⟩ (iX (v:Int))) b {r with bLine:=v} v0:=
 a.setc 9 rfl λj e=>by simp[Rs.cells,e]
theorem get_bLine (a:zL w b r v0):w.cell? ⟨b,9,none⟩=some (iX (r.bLine:Int)):=a.cell 9 (by decide)
theorem set_bCol (a:zL w b r v0)(v:Nat):zL (w.setCell ⟨b,10,none⟩ (iX (v:Int))) b {r with bCol:=v} v0:=
 a.setc 10 rfl λj e=>by simp[Rs.cells,e]
theorem get_bCol (a:zL w b r v0):w.cell? ⟨b,10,none⟩=some (iX (r.bCol:Int)):=a.cell 10 (by decide)
theorem set_state (a:zL w b r v0)(v:Nat):zL (w.setCell ⟨b,11,none⟩ (iX (v:Int))) b {r with state:=v} v0:=
 a.setc 11 rfl λj e=>by simp[Rs.cells,e]
theorem get_state (a:zL w b r v0):w.cell? ⟨b,11,none⟩=some (iX (r.state:Int)):=a.cell 11 (by decide)
theorem set_first (a:zL w b r v0)(v:Nat):zL (w.setCell ⟨b,76,none⟩ (iX (v:Int))) b {r with first:=v} v0:=
 a.setc 76 rfl λj e=>by simp[Rs.cells,e]
theorem get_first (a:zL w b r v0):w.cell? ⟨b,76,none⟩=some (iX (r.first:Int)):=a.cell 76 (by decide)
theorem set_count (a:zL w b r v0)(v:Nat):zL (w.setCell ⟨b,77,none⟩ (iX (v:Int))) b {r with count:=v} v0:=
 a.setc 77 rfl λj e=>by simp[Rs.cells,e]
theorem get_count (a:zL w b r v0):w.cell? ⟨b,77,none⟩=some (iX (r.count:Int)):=a.cell 77 (by decide)
theorem set_hAt (a:zL w b r v0)(v:Nat):zL (w.setCell ⟨b,78,none⟩ (iX (v:Int))) b {r with hAt:=v} v0:=
 a.setc 78 rfl λj e=>by simp[Rs.cells,e]
theorem get_hAt (a:zL w b r v0):w.cell? ⟨b,78,none⟩=some (iX (r.hAt:Int)):=a.cell 78 (by decide)
theorem set_hLine (a:zL w b r v0)(v:Nat):zL (w.setCell ⟨b,79,none⟩ (iX (v:Int))) b {r with hLine:=v} v0:=
 a.setc 79 rfl λj e=>by simp[Rs.cells,e]
theorem get_hLine (a:zL w b r v0):w.cell? ⟨b,79,none⟩=some (iX (r.hLine:Int)):=a.cell 79 (by decide)
theorem set_hCol (a:zL w b r v0)(v:Nat):zL (w.setCell ⟨b,80,none⟩ (iX (v:Int))) b {r with hCol:=v} v0:=
 a.setc 80 rfl λj e=>by simp[Rs.cells,e]
theorem get_hCol (a:zL w b r v0):w.cell? ⟨b,80,none⟩=some (iX (r.hCol:Int)):=a.cell 80 (by decide)
theorem set_ahead (a:zL w b r v0)(v:Nat):zL (w.setCell ⟨b,81,none⟩ (iX (v:Int))) b {r with ahead:=v} v0:=
 a.setc 81 rfl λj e=>by simp[Rs.cells,e]
theorem get_ahead (a:zL w b r v0):w.cell? ⟨b,81,none⟩=some (iX (r.ahead:Int)):=a.cell 81 (by decide)
theorem set_taken (a:zL w b r v0)(v:Nat):zL (w.setCell ⟨b,82,none⟩ (iX (v:Int))) b {r with taken:=v} v0:=
 a.setc 82 rfl λj e=>by simp[Rs.cells,e]
theorem get_taken (a:zL w b r v0):w.cell? ⟨b,82,none⟩=some (iX (r.taken:Int)):=a.cell 82 (by decide)
theorem set_length (a:zL w b r v0)(v:Nat):zL (w.setCell ⟨b,83,none⟩ (iX (v:Int))) b {r with length:=v} v0:=
 a.setc 83 rfl λj e=>by simp[Rs.cells,e]
theorem get_length (a:zL w b r v0):w.cell? ⟨b,83,none⟩=some (iX (r.length:Int)):=a.cell 83 (by decide)
theorem set_rule (a:zL w b r v0)(v:Int):zL (w.setCell ⟨b,84,none⟩ (iX v)) b {r with rule:=v} v0:=
 a.setc 84 rfl λj e=>by simp[Rs.cells,e]
theorem get_rule (a:zL w b r v0):w.cell? ⟨b,84,none⟩=some (iX r.rule):=a.cell 84 (by decide)
theorem get_tp (a:zL w b r v0):w.cell? ⟨b,0,none⟩=some (pX r.tp):=a.cell 0 (by decide)
theorem get_byte (a:zL w b r v0)(i:Nat)(c:i<64):w.cell? ⟨b,12+i,none⟩=some (int .u8 (r.byte i)):=by
 rw[a.cell _ (by omega),Rs.cells_byte _ _ _ c]
theorem get_stack (a:zL w b r v0)(i:Nat)(c:i<4):w.cell? ⟨b,3+i,none⟩=some (iX (r.stack i)):=by
 rw[a.cell _ (by omega),Rs.cells_stack _ _ _ c]
theorem set_byte (a:zL w b r v0)(i v:Nat)(c:i<64):zL (w.setCell ⟨b,12+i,none⟩ (int .u8 v)) b {r with byte:=λj=>if j=i then v else r.byte j} v0:=
 a.set (12+i) _ λj f=>by
  by_cases e:j=12+i
  ·subst e;rw[if_pos rfl,Rs.cells_byte _ _ _ c];simp
  ·rw[if_neg e]
   unfold Rs.cells;by_cases g:12<=j/\j<76
   ·repeat rw[if_neg (by omega)]
    show _=Value.int .u8 ((if j-12=i then v else r.byte (j-12):Nat):Int);rw[if_neg (by omega)]
   ·by_cases d:j<12
    ·match j,d with
     |0,_=>rfl
     |1,_=>rfl
     |2,_=>rfl
     |3,_=>rfl
     |4,_=>rfl
     |5,_=>rfl
     |6,_=>rfl
     |7,_=>rfl
     |8,_=>rfl
     |9,_=>rfl
     |10,_=>rfl
     |11,_=>rfl
    ·simp[show¬j-12=i by omega]
theorem set_stack (a:zL w b r v0)(i v:Nat)(c:i<4):zL (w.setCell ⟨b,3+i,none⟩ (iX v)) b {r with stack:=λj=>if j=i then v else r.stack j} v0:=
 a.set (3+i) _ λj d=>by
  match i,c with
  |0,_=>by_cases e:j=3 <;> simp[Rs.cells,e]
  |1,_=>by_cases e:j=4 <;> simp[Rs.cells,e]
  |2,_=>by_cases e:j=5 <;> simp[Rs.cells,e]
  |3,_=>by_cases e:j=6 <;> simp[Rs.cells,e]
end zL
structure Keep (H b:Nat)(w w':World):Prop where
 os:w'.os=w.os
 output:w'.output=w.output
 size:w.heap.size<=w'.heap.size
 block:∀k,k<H->k≠b->w'.heap[k]? =w.heap[k]?
abbrev Grew (w w':World):Prop:=Keep w.heap.size w.heap.size w w'
namespace Keep
variable {H b:Nat} {w w' w'':World}
theorem refl (H b:Nat)(w:World):Keep H b w w:=⟨rfl,rfl,lQ,λ_ _ _=>rfl⟩
theorem trans (a:Keep H b w w')(k:Keep H b w' w''):Keep H b w w'':=
 ⟨k.os.trans a.os,k.output.trans a.output,lY a.size k.size,λi c d=>(k.block i c d).trans (a.block i c d)⟩
theorem set (w:World)(i:Nat)(v:Value):Keep H b w (w.setCell ⟨b,i,none⟩ v):=
 ⟨rfl,rfl,by simp[World.setCell],λk _ a=>Below.heap_setCell _ _ _ _ a⟩
theorem alloc (w:World)(o:Obj)(a:H<=w.heap.size):Keep H b w (w.alloc o):=
 ⟨rfl,rfl,by simp,λk c _=>Below.heap_alloc _ _ _ (by omega)⟩
theorem drew (w:World):Keep H b w w.drew:=⟨rfl,rfl,lQ,λ_ _ _=>rfl⟩
theorem alike (a:w'.Alike w):Keep H b w w':=⟨a.2.1,a.2.2,by rw[a.1];exact lQ,λk _ _=>by rw[a.1]⟩
theorem below (a:Below w.heap.size w w')(c:H<=w.heap.size):Keep H b w w':=⟨a.os,a.output,a.size,λk d _=>a.block k (by omega)⟩
theorem grown {row:Option Nat}(a:w.grownBy w' row)(d:H<=w.heap.size)(c:∀k,row=some k->H<=k):Keep H b w w':=
 ⟨a.os,a.output,a.size,λk f _=>a.block k (by omega) (λe=>by have:=c k e.symm;omega)⟩
end Keep
theorem lJ(w:World)(a:Addr)(u:Value)(k:Nat)(h:k≠a.block):(w.setCell a u).heap[k]? =w.heap[k]?:=Below.heap_setCell w a u k h
theorem lG(w:World)(o:Obj)(k:Nat)(h:k<w.heap.size):(w.alloc o).heap[k]? =w.heap[k]?:=Below.heap_alloc w o k h
theorem kZ{H b:Nat}(w:World)(o:Obj)(h:H<=w.heap.size):Keep H b w (w.alloc o):=Keep.alloc w o h
theorem gX(w:World)(o:Obj):(w.alloc o).heap[w.heap.size]? =some o:=heap_alloc_new w o
theorem gZ{w v:World}{a:Addr}(h:v.heap[a.block]? =w.heap[a.block]?):v.cell? a=w.cell? a:=cell?_of_block h
theorem gY{w v:World}{a:Addr}(h:v.heap[a.block]? =w.heap[a.block]?):v.frozen? a=w.frozen? a:=frozen?_of_block h
theorem gW{w:World}(o:Obj)(n i:Nat)(h:n<w.heap.size):(w.alloc o).cell? ⟨n,i,none⟩=w.cell? ⟨n,i,none⟩:=cell?_alloc_past o n i h
theorem gV{P:Program}{fn:Func}{R:Ending->World->Prop}{a:Act}{w:World}{v:Value}(h:Sem.run P (results fn a.tmps) w=.ok v w)(g:a.defers=[])(k:R (returned v) w):bodyPost P fn R .ret a w:=bodyPost_ret h g k
end
theorem w64 (n:Int)(a:-9223372036854775808<=n)(b:n<9223372036854775808):wrap64 n=n:=by unfold wrap64;omega
theorem zCG (n:Int)(a:0<=n)(b:n<9223372036854775808):IntKind.i64.wrap n=n:=by rw[IntKind.wrap_i64];omega
theorem qT (a b:Nat)(c:a<9223372036854775808)(d:b<9223372036854775808):bits .and i64 (a:Int) (b:Int)=((a&&&b:Nat):Int):=
 (bits_nat i64 63 (by decide) (λn e f=>zCG n e (by simpa using f)) a b (by simpa using c) (by simpa using d)).1
theorem zFc (a:Nat)(c:a<9223372036854775808):bits .and i64 (a:Int) 1=((a%2:Nat):Int):=by
 have b:=qT a 1 c (by decide);rw[show ((1:Nat):Int)=1 from rfl] at b;rw[b,Nat.and_one_is_mod]
theorem zCe (a k:Nat):((a:Int)/2^k)=((a/2^k:Nat):Int):=by simp
theorem zAr {k:IntKind}{a b:Int}(c:a=b):Ending.returned (int k a)=returned (int k b):=by rw[c]
theorem zHc (s:ByteArray)(k:Nat)(a:k<s.size):s.data.toList.take (k+1)=s.data.toList.take k++[s[k]]:=by
 rw[List.take_succ_eq_append_getElem (by simpa using a)];rfl
def zKg (l:List UInt8):Nat:=l.foldl (λv b=>256*v+b.toNat) 0
def xC (v:Nat):Nat->Nat
 |0=>0
 |k+1=>2*xC v k+(v>>>k)%2
theorem zKx (v k:Nat):xC v k<2^k:=by
 induction k with
 |zero=>simp[xC]
 |succ k a=>simp only[xC,Nat.pow_succ];omega
theorem zHJ (v k:Nat)(a:k<=32):xC v k<4294967296:=by
 have b:=zKx v k;have c:2^k<=2^32:=kG (by omega) a;omega
def zLP (r b k:Nat):Nat:=
 if r/2147483648%2=b/2^k%2 then r*2%4294967296 else r*2%4294967296^^^79764919
def zBY (r b:Nat):Nat->Nat
 |0=>r
 |j+1=>zLP (zBY r b j) b (7-j)
def zPB (l:List UInt8):Nat:=l.foldl (λr c=>zBY r (xC c.toNat 8) 8) 4294967295
def zQs (l:List UInt8):Nat:=4294967295-xC (zPB l) 32
def zIF (s:ByteArray):Nat:=zKg s.data.toList
def zKJ (s:ByteArray):Nat:=zQs s.data.toList
theorem vC {a b:Bool}(c:a=b):Ending.returned (bool a)=returned (bool b):=by rw[c]
def xO:Nat->Code->Code
 |n+1,.seq _ b=>xO n b
 |_,c=>c
def byt (s:ByteArray)(i:Nat):Nat:=(s.data.toList.getD i 0).toNat
theorem vT (s:ByteArray)(i:Nat):byt s i<256:=UInt8.toNat_lt _
theorem zBG (s:ByteArray)(i:Nat)(a:i<s.size):s[i].toNat=byt s i:=by
 have b:i<s.data.toList.length:=by simpa using a
 unfold byt;rw[lW,lV b];rfl
def b2 (s:ByteArray)(i:Nat):Nat:=zIF (s.extract i (i+2))
def zF (kinds:Nat):Nat->Nat
 |0=>1
 |k+1=>if zF kinds k<=3000 then zF kinds k*(kinds+1) else zF kinds k
theorem zHb (kinds:Nat)(c:kinds<=256)(k:Nat):zF kinds k<=771000:=by
 cases k with
 |zero=>simp[zF]
 |succ k=>
  induction k with
  |zero=>simp[zF];omega
  |succ k a=>
   rw[zF];split
   ·rename_i b
    calc zF kinds (k+1)*(kinds+1)<=3000*257:=Nat.mul_le_mul b (by omega)
     _=771000:=by decide
   ·exact a
theorem zEW (kinds k m:Nat)(b:3000<zF kinds k)(c:k<=m):zF kinds m=zF kinds k:=by
 induction m with
 |zero=>rw[show k=0 by omega]
 |succ m a=>
  by_cases e:k=m+1
  ·rw[e]
  ·have:=a (by omega)
   rw[zF,if_neg (by omega)];exact this
theorem zMl (a kinds:Nat)(b:a*(kinds+1)<=771000):Value.int IntKind.i64 (wrap64 ((a:Int)*((kinds:Int)+1)))=Value.int IntKind.i64 ((a*(kinds+1):Nat):Int):=by
 have e:((a:Int)*((kinds:Int)+1))=((a*(kinds+1):Nat):Int):=by simp
 rw[e,w64 _ (by omega) (by omega)]
def zD7 (s:ByteArray)(at_:Nat):Nat->Nat
 |0=>0
 |j+1=>max (zD7 s at_ j) (byt s (at_+j)+1)
def zIb (s:ByteArray)(states k:Nat):Bool:=(List.range k).all λj=>decide (b2 s (13+2*j)<states)
def zH9 (s:ByteArray)(a modes k:Nat):Bool:=(List.range k).all λj=>decide (byt s (a+2*j)<4)&&decide (byt s (a+2*j+1)<modes)
def zId (s:ByteArray)(b k:Nat):Bool:=(List.range k).all λj=>decide (byt s (b+j)<=zD7 s b j)
def zK1 (s:ByteArray)(c states k:Nat):Bool:=(List.range k).all λj=>decide (b2 s (c+2*j)<states)
def zK2 (s:ByteArray)(d rules k:Nat):Bool:=(List.range k).all λj=>decide (byt s (d+j)<=rules)
def zOk (stream hold modes rules states kinds:Nat):Bool:=
 decide (0<modes/\modes<=3/\0<rules/\rules<=8/\0<states/\states<=200/\1<=kinds/\kinds<=256/\stream<=1/\1<=hold/\hold<=64)
def zLF (s:ByteArray)(modes rules states kinds ways:Nat):Bool:=
 let a:=13+2*modes
 let b:=a+2*rules
 let c:=b+256
 let d:=c+2*states*kinds
 let f:=d+states+(ways*states+7)/8
 zIb s states modes&&zH9 s a modes rules&&zId s b 256&&decide (zD7 s b 256=kinds)&&zK1 s c states (states*kinds)&&zK2 s d rules states&&
  (decide (ways*states%8=0)||decide (byt s (f-1)/2^(ways*states%8)=0))
def qL (modes rules states kinds ways:Nat):Nat:=13+2*modes+2*rules+256+2*states*kinds+states+(ways*states+7)/8
theorem zJy (a kinds b:Nat)(c:a<=200)(d:kinds<=256)(e:b<=3000):
  (2*(a:Int))*(kinds:Int)<=102400/\0<=(2*(a:Int))*(kinds:Int)/\(b:Int)*(a:Int)<=600000/\0<=(b:Int)*(a:Int):=by
 have h:2*a*kinds<=102400:=lY (Nat.mul_le_mul (show 2*a<=400 by omega) d) (by decide);have i:b*a<=600000:=lY (Nat.mul_le_mul e c) (by decide);have f:(2*(a:Int))*(kinds:Int)=((2*a*kinds:Nat):Int):=by simp
 have g:(b:Int)*(a:Int)=((b*a:Nat):Int):=by simp
 rw[f,g];exact⟨by omega,by omega,by omega,by omega⟩
theorem zNO (modes rules a kinds b:Nat):(13+2*(modes:Int)+2*(rules:Int)+256+2*(a:Int)*(kinds:Int)+(a:Int)+((b:Int)*(a:Int)+7)/8)=((qL modes rules a kinds b:Nat):Int):=by
 have c:(2*(a:Int))*(kinds:Int)=((2*a*kinds:Nat):Int):=by simp
 have d:(b:Int)*(a:Int)=((b*a:Nat):Int):=by simp
 rw[c,d];unfold qL;omega
def zAl (s:ByteArray):Bool:=
  decide (17<=s.size)&&(s.extract 0 2).toList==[76,88]&&zKJ (s.extract 0 (s.size-4))==zIF (s.extract (s.size-4) s.size)&&
  (let stream:=byt s 2
   let ahead:=byt s 3
   let hold:=byt s 4
   let modes:=b2 s 5
   let rules:=b2 s 7
   let states:=b2 s 9
   let kinds:=b2 s 11
   let ways:=zF kinds ahead
   zOk stream hold modes rules states kinds&&decide (ways<=3000)&&(decide (stream≠0)||decide (ahead=0))&&
     decide (qL modes rules states kinds ways=s.size-4)&&zLF s modes rules states kinds ways)
section
def xM (w:World)(b:Nat)(s:ByteArray)(p:Nat)(k:Bool):Prop:=
 w.heap[b]? =some (.cells #[string s,int i64 (min p s.size:Nat),bool k] 150)
namespace xM
variable {w w':World} {b p:Nat} {s:ByteArray} {k:Bool}
theorem lt (a:xM w b s p k):b<w.heap.size:=(kQ.1 a).1
theorem c0 (a:xM w b s p k):w.cell? ⟨b,0,none⟩=some (string s):=by unfold xM at a;simp[World.cell?,a]
theorem c1 (a:xM w b s p k):w.cell? ⟨b,1,none⟩=some (iX (min p s.size:Nat)):=by unfold xM at a;simp[World.cell?,a]
theorem c2 (a:xM w b s p k):w.cell? ⟨b,2,none⟩=some (bool k):=by unfold xM at a;simp[World.cell?,a]
theorem fz (a:xM w b s p k)(i:Nat):w.frozen? ⟨b,i,none⟩=false:=by unfold xM at a;simp[World.frozen?,a]
theorem of_block (a:xM w b s p k)(e:w'.heap[b]? =w.heap[b]?):xM w' b s p k:=e.trans a
theorem alike (a:xM w b s p k)(e:w'.Alike w):xM w' b s p k:=a.of_block (by rw[e.1])
theorem set1 (a:xM w b s p k)(q:Nat):xM (w.setCell ⟨b,1,none⟩ (iX (min q s.size:Nat))) b s q k:=by
 unfold xM at *;simp[setCell,lU,a]
theorem set2 (a:xM w b s p k)(q:Bool):xM (w.setCell ⟨b,2,none⟩ (bool q)) b s p q:=by
 unfold xM at *;simp[setCell,lU,a]
theorem to (a:xM w b s p k){q:Nat}{l:Bool}(e:min p s.size=min q s.size)(c:k=l):xM w b s q l:=by
 unfold xM at *;rw[a,e,c]
end xM
theorem zC2 {a b:Nat}(c:a=b):Ending.returned (iX (a:Int))=returned (iX (b:Int)):=by rw[c]
theorem Keep.drewSet {H b:Nat}(w:World)(n i:Nat)(v:Value):Keep H b w ((w.drewN n).setCell ⟨b,i,none⟩ v):=Keep.trans (w':=w.drewN n) (Keep.alike ⟨rfl,rfl,rfl⟩) (Keep.set _ _ _)
theorem zID (s:ByteArray)(i:Nat)(a:s.size<=i):byt s i=0:=by
 have c:s.data.toList.length<=i:=by simpa using a
 unfold byt;rw[lW,List.getElem?_eq_none c];rfl
theorem zH3 (b p:Nat)(s:ByteArray)(k:Bool)(w:World)(a:xM w b s p k)(l:s.size<=1048576):
  Calls prog 158 #[pX b] w λe w'=>
   e=returned (iX (byt s p:Nat))/\xM w' b s (p+1) (k&&decide (p<s.size))/\∀H,Keep H b w w':=by
 have g:=vl a;have m:=a.c0;have h:=a.c1;have o:=a.fz 1;have q:=a.fz 2;have r:=a.c2;by_cases c:p<s.size
 ·have d:min p s.size=p:=by omega
  rw[d] at h;have t:(p:Int)<(s.size:Int):=by omega
  have j:=vl <| zBG s p c;have u:=s[p].toNat_lt;have f:=vl c;go_in;go_wp2;go_quiet (fail);go_wp2;go_quiet (fail);go_wp2;go_ret;refine⟨?_,?_,λH=>?_⟩
  ·exact zC2 j
  ·have i:=g.set1 (p+1)
   rw[show ((min (p+1) s.size:Nat):Int)=(p:Int)+1 by omega] at i;exact i.to rfl (by simp[f.out])
  ·exact Keep.drewSet w _ _ _
 ·have d:min p s.size=s.size:=by omega
  rw[d] at h;have f:=vl c;go_in;go_wp2;go_quiet (fail);go_wp2;go_ret;refine⟨?_,?_,λH=>?_⟩
  ·show Ending.returned (iX 0)=_
   rw[zID s p (by omega)];rfl
  ·exact(g.set2 false).to (by omega) (by simp[f.out])
  ·exact Keep.drewSet w _ _ _
def within (n least most:Nat):Nat:=if least<=n/\n<=most then n else least
def inB (n least most:Nat):Bool:=decide (least<=n/\n<=most)
theorem zR {n a most:Nat}(c:a<=n/\n<=most):within n a most=n:=if_pos c
theorem zHa {n a most:Nat}(c:¬(a<=n/\n<=most)):within n a most=a:=if_neg c
theorem zPk {n a most:Nat}(c:a<=n/\n<=most):inB n a most=true:=gJ c
theorem zOi {n a most:Nat}(c:¬(a<=n/\n<=most)):inB n a most=false:=gU c
theorem zHm (b p:Nat)(s:ByteArray)(k:Bool)(w:World)(d:xM w b s p k)(n a most:Nat):
  Calls prog 159 #[pX b,iX n,iX a,iX most] w λe w'=>
   e=returned (iX (within n a most:Nat))/\xM w' b s p (k&&inB n a most)/\∀H,Keep H b w w':=by
 have f:=vl d;have i:=d.fz 2;have j:=d.c2;by_cases l:n<a
 ·have g:(n:Int)<(a:Int):=by omega
  have c:Hid (¬(a<=n/\n<=most)):=by show¬_;omega
  go_in;go_wp2;go_ret;exact⟨zC2 (zHa c).symm,(f.set2 false).to rfl (by rw[zOi c.out,Bool.and_false]),λH=>Keep.set w _ _⟩
 ·have g:(a:Int)<=(n:Int):=by omega
  by_cases m:most<n
  ·have h:(most:Int)<(n:Int):=by omega
   have c:Hid (¬(a<=n/\n<=most)):=by show¬_;omega
   go_in;go_wp2;go_ret;exact⟨zC2 (zHa c).symm,(f.set2 false).to rfl (by rw[zOi c.out,Bool.and_false]),λH=>Keep.set w _ _⟩
  ·have h:(n:Int)<=(most:Int):=by omega
   have c:Hid (a<=n/\n<=most):=by show _/\_;omega
   go_in;go_wp2;go_ret;exact⟨zC2 (zR c).symm,f.to rfl (by rw[zPk c.out,Bool.and_true]),λH=>Keep.refl _ _ _⟩
theorem zA8 (b p:Nat)(s:ByteArray)(k:Bool)(w:World)(c:xM w b s p k)(d:s.size<=1048576)(a most:Nat):
  Calls prog 113 #[pX b,iX a,iX most] w λe w'=>
   e=returned (iX (within (byt s p) a most:Nat))/\xM w' b s (p+1) (k&&decide (p<s.size)&&inB (byt s p) a most)/\∀H,Keep H b w w':=by
 have f:=vl c;go_in;go_wp2_with fail;refine(zH3 b p s k w f d).mono ?_;rintro e w1 ⟨rfl,g,h⟩;have i:=vl g;go_wp2_with fail;refine(zHm b (p+1) s _ w1 i (byt s p) a most).mono ?_;rintro e w2 ⟨rfl,j,l⟩;have m:=vl j;go_wp2;go_ret;exact⟨rfl,m,λH=>(h H).trans (l H)⟩
def xZ (s:ByteArray)(p:Nat):Nat:=256*byt s p+byt s (p+1)
theorem zEy (b p:Nat)(s:ByteArray)(k:Bool)(w:World)(f:xM w b s p k)(c:s.size<=1048576)(a most:Nat):
  Calls prog 114 #[pX b,iX a,iX most] w λe w'=>
   e=returned (iX (within (xZ s p) a most:Nat))/\xM w' b s (p+2) (k&&decide (p+1<s.size)&&inB (xZ s p) a most)/\∀H,Keep H b w w':=by
 have g:=vl f;go_in;go_wp2_with fail;refine(zH3 b p s k w g c).mono ?_;rintro e w1 ⟨rfl,h,i⟩;have j:=vl h;go_wp2_with fail;refine(zH3 b (p+1) s _ w1 j c).mono ?_;rintro e w2 ⟨rfl,l,m⟩;have o:Hid (xM w2 b s (p+2) (k&&decide (p+1<s.size))):=l.to rfl (by by_cases e:p+1<s.size <;> simp[e];intro;omega);have u:=vT s p;have b2:=vT s (p+1);have q:Hid (256*(byt s p:Int)+(byt s (p+1):Int)=(xZ s p:Nat)):=by show _=_;unfold xZ;omega
 go_wp2_with fail;rw[q.out];refine(zHm b (p+2) s _ w2 o (xZ s p) a most).mono ?_;rintro e v ⟨rfl,d,r⟩;have t:=vl d;clear d;go_wp2_with fail;go_ret;exact⟨rfl,t,λH=>((i H).trans (m H)).trans (r H)⟩
end
theorem zDz (kinds ahead:Nat)(w:World)(b:kinds<=256)(l:ahead<=255):
  Calls prog 101 #[iX kinds,iX ahead] w λe w'=>e=returned (iX (zF kinds ahead:Nat))/\w'=w:=by
 go_in;go_wp2;go_loop [5,6] (λr i=>∃k:Nat,k<=ahead/\i=iX k/\r=iX (zF kinds k:Nat)) (λ_ i=>ahead-(intOf i).toNat)
 case atStart=>exact⟨0,lX,rfl,rfl⟩
 case round=>
  obtain⟨k,o,rfl,rfl⟩:=hrel;have p:=zHb kinds b k;have c:=zHb kinds b (k+1);by_cases q:k<ahead
  ·have d:(k:Int)<(ahead:Int):=by omega
   by_cases f:zF kinds k<=3000
   ·have g:(zF kinds k:Int)<=3000:=by omega
    have a:Hid (zF kinds (k+1)=zF kinds k*(kinds+1)):=by show _=_;rw[zF,if_pos f]
    have h:zF kinds k*(kinds+1)<=771000:=by rw[<-a.out];exact c
    generalize zF kinds k=m at *;have j:=zMl m kinds h;go_wp2;refine⟨⟨k+1,by omega,by go_num,?_⟩,by simp[intOf];omega⟩;rw[a.out];exact j
   ·have g:(3000:Int)<(zF kinds k:Int):=by omega
    have a:=vl <| zEW kinds k ahead (by omega) (by omega);generalize zF kinds k=m at *;go_wp2;go_ret;exact⟨zC2 a.symm,rfl⟩
  ·have d:(ahead:Int)<=(k:Int):=by omega
   have a:Hid (k=ahead):=by show _=_;omega
   go_wp2;go_ret;exact⟨zC2 (by rw[a.out]),rfl⟩
theorem zIk (modes rules b kinds a:Nat)(w:World)(l:modes<=3)(m:rules<=8)(c:b<=200)(d:kinds<=256)(f:a<=3000):
  Calls prog 81 #[agg #[iX modes,iX rules,iX b,iX kinds,iX a]] w λe w'=>e=returned (iX (qL modes rules b kinds a+4:Nat))/\Below w.heap.size w w':=by
 obtain⟨o,p,g,i⟩:=zJy b kinds a c d f;have q:(b:Int)*(a:Int)<=600000:=by rw[Int.mul_comm];exact g
 have r:0<=(b:Int)*(a:Int):=by rw[Int.mul_comm];exact i
 have j:=vl <| zNO modes rules b kinds a;generalize qL modes rules b kinds a=n at *;go_in;go_wp2;go_ret;refine⟨zAr ?_,(Below.refl _ _).alloc lQ _⟩;have k:=j.out;rw[Int.mul_comm (a:Int)] at k;omega
section
structure Kept (H a b:Nat)(w w':World):Prop where
 os:w'.os=w.os
 output:w'.output=w.output
 size:w.heap.size<=w'.heap.size
 block:∀k,k<H->k≠a->k≠b->w'.heap[k]? =w.heap[k]?
namespace Kept
variable {H a b:Nat} {w w' w'':World}
theorem refl (H a b:Nat)(w:World):Kept H a b w w:=⟨rfl,rfl,lQ,λ_ _ _ _=>rfl⟩
theorem trans (d:Kept H a b w w')(k:Kept H a b w' w''):Kept H a b w w'':=
 ⟨k.os.trans d.os,k.output.trans d.output,lY d.size k.size,λi e f g=>(k.block i e f g).trans (d.block i e f g)⟩
theorem one (d:Keep H a w w'):Kept H a b w w':=⟨d.os,d.output,d.size,λk e f _=>d.block k e f⟩
theorem two (d:Keep H b w w'):Kept H a b w w':=⟨d.os,d.output,d.size,λk e _ f=>d.block k e f⟩
theorem mono {e:Nat}(d:Kept H a b w w')(f:e<=H):Kept e a b w w':=⟨d.os,d.output,d.size,λk g=>d.block k (by omega)⟩
theorem boxed (w:World)(g i:Nat)(x:Value)(d:H<=g):Kept H a b w (w.setCell ⟨g,i,none⟩ x):=
 ⟨rfl,rfl,by simp[World.setCell],λk e _ _=>lJ _ _ _ _ (by show k≠g;omega)⟩
end Kept
structure Tc where
 stream:Value
 ahead:Value
 hold:Value
 starts:Value
 acts:Value
 pushed:Value
 kinds:Value
 count:Value
 next:Value
 ends:Value
 live:Value
 rows:Value
 longer:Value
def zV (w:World)(b:Nat)(c:Tc):Prop:=
 w.heap[b]? =some (.cells #[c.stream,c.ahead,c.hold,c.starts,c.acts,c.pushed,c.kinds,c.count,c.next,c.ends,c.live,c.rows,c.longer] 90)
namespace zV
variable {w w':World} {b:Nat} {c:Tc}
theorem lt (d:zV w b c):b<w.heap.size:=(kQ.1 d).1
theorem fz (d:zV w b c)(i:Nat):w.frozen? ⟨b,i,none⟩=false:=by unfold zV at d;simp[World.frozen?,d]
theorem of_block (d:zV w b c)(e:w'.heap[b]? =w.heap[b]?):zV w' b c:=e.trans d
theorem get_stream (d:zV w b c):w.cell? ⟨b,0,none⟩=some c.stream:=by unfold zV at d;simp[World.cell?,d]
theorem set_stream (d:zV w b c)(v:Value):zV (w.setCell ⟨b,0,none⟩ v) b {c with stream:=v}:=by unfold zV at *;simp[setCell,lU,d]
theorem get_ahead (d:zV w b c):w.cell? ⟨b,1,none⟩=some c.ahead:=by unfold zV at d;simp[World.cell?,d]
theorem set_ahead (d:zV w b c)(v:Value):zV (w.setCell ⟨b,1,none⟩ v) b {c with ahead:=v}:=by unfold zV at *;simp[setCell,lU,d]
theorem get_hold (d:zV w b c):w.cell? ⟨b,2,none⟩=some c.hold:=by unfold zV at d;simp[World.cell?,d]
theorem set_hold (d:zV w b c)(v:Value):zV (w.setCell ⟨b,2,none⟩ v) b {c with hold:=v}:=by unfold zV at *;simp[setCell,lU,d]
theorem get_starts (d:zV w b c):w.cell? ⟨b,3,none⟩=some c.starts:=by unfold zV at d;simp[World.cell?,d]
theorem set_starts (d:zV w b c)(v:Value):zV (w.setCell ⟨b,3,none⟩ v) b {c with starts:=v}:=by unfold zV at *;simp[setCell,lU,d]
theorem get_acts (d:zV w b c):w.cell? ⟨b,4,none⟩=some c.acts:=by unfold zV at d;simp[World.cell?,d]
theorem set_acts (d:zV w b c)(v:Value):zV (w.setCell ⟨b,4,none⟩ v) b {c with acts:=v}:=by unfold zV at *;simp[setCell,lU,d]
theorem get_pushed (d:zV w b c):w.cell? ⟨b,5,none⟩=some c.pushed:=by unfold zV at d;simp[World.cell?,d]
theorem set_pushed (d:zV w b c)(v:Value):zV (w.setCell ⟨b,5,none⟩ v) b {c with pushed:=v}:=by unfold zV at *;simp[setCell,lU,d]
theorem get_kinds (d:zV w b c):w.cell? ⟨b,6,none⟩=some c.kinds:=by unfold zV at d;simp[World.cell?,d]
theorem set_kinds (d:zV w b c)(v:Value):zV (w.setCell ⟨b,6,none⟩ v) b {c with kinds:=v}:=by unfold zV at *;simp[setCell,lU,d]
theorem get_count (d:zV w b c):w.cell? ⟨b,7,none⟩=some c.count:=by unfold zV at d;simp[World.cell?,d]
theorem set_count (d:zV w b c)(v:Value):zV (w.setCell ⟨b,7,none⟩ v) b {c with count:=v}:=by unfold zV at *;simp[setCell,lU,d]
theorem get_next (d:zV w b c):w.cell? ⟨b,8,none⟩=some c.next:=by unfold zV at d;simp[World.cell?,d]
theorem set_next (d:zV w b c)(v:Value):zV (w.setCell ⟨b,8,none⟩ v) b {c with next:=v}:=by unfold zV at *;simp[setCell,lU,d]
theorem get_ends (d:zV w b c):w.cell? ⟨b,9,none⟩=some c.ends:=by unfold zV at d;simp[World.cell?,d]
theorem set_ends (d:zV w b c)(v:Value):zV (w.setCell ⟨b,9,none⟩ v) b {c with ends:=v}:=by unfold zV at *;simp[setCell,lU,d]
theorem get_live (d:zV w b c):w.cell? ⟨b,10,none⟩=some c.live:=by unfold zV at d;simp[World.cell?,d]
theorem set_live (d:zV w b c)(v:Value):zV (w.setCell ⟨b,10,none⟩ v) b {c with live:=v}:=by unfold zV at *;simp[setCell,lU,d]
theorem get_rows (d:zV w b c):w.cell? ⟨b,11,none⟩=some c.rows:=by unfold zV at d;simp[World.cell?,d]
theorem set_rows (d:zV w b c)(v:Value):zV (w.setCell ⟨b,11,none⟩ v) b {c with rows:=v}:=by unfold zV at *;simp[setCell,lU,d]
theorem get_longer (d:zV w b c):w.cell? ⟨b,12,none⟩=some c.longer:=by unfold zV at d;simp[World.cell?,d]
theorem set_longer (d:zV w b c)(v:Value):zV (w.setCell ⟨b,12,none⟩ v) b {c with longer:=v}:=by unfold zV at *;simp[setCell,lU,d]
end zV
structure Rt (H a b:Nat)(w0 w:World)(s:ByteArray)(p:Nat)(k:Bool)(c:Tc)(L:List (Nat×Obj)):Prop where
 rd:xM w a s p k
 tb:zV w b c
 own:∀x∈L,w.heap[x.1]? =some x.2/\H<=x.1
 kept:Kept H a b w0 w
 ab:a≠b
 aH:a<H
 bH:b<H
 HH:H<=w.heap.size
namespace Rt
variable {H a b:Nat} {w0 w w':World} {s:ByteArray} {p p':Nat} {k k':Bool} {c c':Tc} {L:List (Nat×Obj)}
theorem called (d:Rt H a b w0 w s p k c L)(g:xM w' a s p' k')(e:∀H,Keep H a w w'):Rt H a b w0 w' s p' k' c L:=
 ⟨g,d.tb.of_block ((e w.heap.size).block b d.tb.lt d.ab.symm),λx f=>⟨((e w.heap.size).block x.1 (kQ.1 (d.own x f).1).1 (by have:=(d.own x f).2;have:=d.aH;omega)).trans (d.own x f).1,(d.own x f).2⟩,d.kept.trans (.one (e H)),d.ab,d.aH,d.bH,lY d.HH (e H).size⟩
theorem stored (d:Rt H a b w0 w s p k c L)(i:Nat)(v:Value)(f:zV (w.setCell ⟨b,i,none⟩ v) b c'):Rt H a b w0 (w.setCell ⟨b,i,none⟩ v) s p k c' L:=
 ⟨d.rd.of_block (lJ _ _ _ _ d.ab),f,λx e=>⟨(lJ _ _ _ _ (by have:=(d.own x e).2;have:=d.bH;show x.1≠b;omega)).trans (d.own x e).1,(d.own x e).2⟩,d.kept.trans (.two (Keep.set _ _ _)),d.ab,d.aH,d.bH,by simpa[World.setCell] using d.HH⟩
theorem told (d:Rt H a b w0 w s p k c L)(v:Bool):Rt H a b w0 (w.setCell ⟨a,2,none⟩ (bool v)) s p v c L:=
 d.called (d.rd.set2 v) λ_=>Keep.set _ _ _
theorem alike (d:Rt H a b w0 w s p k c L)(e:w'.Alike w):Rt H a b w0 w' s p k c L:=
 d.called (d.rd.alike e) λ_=>Keep.alike e
theorem alloc (d:Rt H a b w0 w s p k c L)(o:Obj):Rt H a b w0 (w.alloc o) s p k c ((w.heap.size,o)::L):=
 ⟨d.rd.of_block (lG _ _ _ d.rd.lt),d.tb.of_block (lG _ _ _ d.tb.lt),λx e=>by
  rcases List.mem_cons.1 e with rfl|e
  ·exact⟨gX w o,d.HH⟩
  ·exact⟨(lG _ _ _ (kQ.1 (d.own x e).1).1).trans (d.own x e).1,(d.own x e).2⟩,d.kept.trans (.one (kZ _ _ d.HH)),d.ab,d.aH,d.bH,lY d.HH (by simp)⟩
theorem below (d:Rt H a b w0 w s p k c L)(e:Below w.heap.size w w'):Rt H a b w0 w' s p k c L:=
 ⟨d.rd.of_block (e.block _ d.rd.lt),d.tb.of_block (e.block _ d.tb.lt),λx f=>⟨(e.block _ (kQ.1 (d.own x f).1).1).trans (d.own x f).1,(d.own x f).2⟩,d.kept.trans (.one (Keep.below e d.HH)),d.ab,d.aH,d.bH,lY d.HH e.size⟩
theorem boxed {g:Nat}{o f:Obj}(d:Rt H a b w0 w s p k c ((g,o)::L))(i:Nat)(v:Value)(l:(w.setCell ⟨g,i,none⟩ v).heap[g]? =some f)(m:∀x∈L,x.1≠g):Rt H a b w0 (w.setCell ⟨g,i,none⟩ v) s p k c ((g,f)::L):=by
 have j:=(d.own (g,o) (hU)).2;have q:=j;refine⟨d.rd.of_block (lJ _ _ _ _ (by have:=d.aH;show a≠g;omega)),d.tb.of_block (lJ _ _ _ _ (by have:=d.bH;show b≠g;omega)),λx e=>?_,d.kept.trans (.boxed _ g i v q),d.ab,d.aH,d.bH,by simpa[World.setCell] using d.HH⟩;rcases List.mem_cons.1 e with rfl|e
 ·exact⟨l,j⟩
 ·have:=d.own x (List.mem_cons_of_mem _ e)
  exact⟨(lJ _ _ _ _ (m x e)).trans this.1,this.2⟩
end Rt
end
theorem Rt.drop {H a b:Nat}{e w:World}{s:ByteArray}{p:Nat}{k:Bool}{c:Tc}{f:List (Nat×Obj)}(d:Rt H a b e w s p k c f):Rt H a b e w s p k c []:=
 ⟨d.rd,d.tb,λx g=>absurd g (List.not_mem_nil),d.kept,d.ab,d.aH,d.bH,d.HH⟩
theorem Rt.boxN {H a b:Nat}{e w:World}{s:ByteArray}{p:Nat}{k:Bool}{c:Tc}(d:Rt H a b e w s p k c [])(g i:Nat)(v:Value)(f:H<=g):Rt H a b e (w.setCell ⟨g,i,none⟩ v) s p k c []:=
 ⟨d.rd.of_block (lJ _ _ _ _ (by have:=d.aH;show a≠g;omega)),d.tb.of_block (lJ _ _ _ _ (by have:=d.bH;show b≠g;omega)),λx j=>absurd j (List.not_mem_nil),d.kept.trans (.boxed _ g i v f),d.ab,d.aH,d.bH,by simpa[World.setCell] using d.HH⟩
theorem zX (n a most:Nat)(b:a<=most):within n a most<=most:=by unfold within;split <;> omega
theorem qG (n a most:Nat):a<=within n a most:=by unfold within;split <;> omega
def xH (s:ByteArray):Nat:=within (byt s 2) 0 1
def xL (s:ByteArray):Nat:=within (byt s 3) 0 255
def jG (s:ByteArray):Nat:=within (byt s 4) 1 64
def zW (s:ByteArray):Nat:=within (xZ s 5) 1 3
def xB (s:ByteArray):Nat:=within (xZ s 7) 1 8
def zG (s:ByteArray):Nat:=within (xZ s 9) 1 200
def zT (s:ByteArray):Nat:=within (xZ s 11) 1 256
def xV (s:ByteArray):Nat:=zF (zT s) (xL s)
def hK0 (s:ByteArray):Bool:=true&&decide (0<s.size)&&inB (byt s 0) 76 76
def hK1 (s:ByteArray):Bool:=hK0 s&&decide (1<s.size)&&inB (byt s 1) 88 88
def hK2 (s:ByteArray):Bool:=hK1 s&&decide (2<s.size)&&inB (byt s 2) 0 1
def hK3 (s:ByteArray):Bool:=hK2 s&&decide (3<s.size)&&inB (byt s 3) 0 255
def hK4 (s:ByteArray):Bool:=hK3 s&&decide (4<s.size)&&inB (byt s 4) 1 64
def hK5 (s:ByteArray):Bool:=hK4 s&&decide (6<s.size)&&inB (xZ s 5) 1 3
def hK6 (s:ByteArray):Bool:=hK5 s&&decide (8<s.size)&&inB (xZ s 7) 1 8
def hK7 (s:ByteArray):Bool:=hK6 s&&decide (10<s.size)&&inB (xZ s 9) 1 200
def hK8 (s:ByteArray):Bool:=hK7 s&&decide (12<s.size)&&inB (xZ s 11) 1 256
def qB (s:ByteArray):Bool:=hK8 s&&decide (xV s<=3000)&&(decide (xH s=1)||decide (xL s=0))
theorem zC9 (a b H g q:Nat)(w v:World)(s:ByteArray)(k:Bool)(c:Tc)(m0 m1 m2 h i:Nat)
  (d:Rt H a b w v s 13 k c ((q,.cells #[iX m0,iX m1,iX m2,iX h,iX i] 152)::(g,.cells #[iX 0,iX 0,iX 0,iX 0,iX 0] 152)::[])) (D:g≠q)
  {u2 u3 u6 u7 u8 u9 u10 u11 u12 u13 u14 u15 u16 u17 u18 u19 u20 u21 u22 u23 u24 u25 u26 u27 u28 u29 u30 u31 u32 u33 u34 u35 u36 u37 u38 u39 u40 u41 u42 u43 u44 u45 u46 u47 u48 u49 u50 u51 u52 u53 u54 u55 u56 u57 u58 u59 u60 u61 u62 u63 u64 u65 u66 u67 u68 u69 u70 u71 u72 u73 u74 u75 u76 u77:Value}:
  Code.wp prog (xO 13 ((f80.body).getD .skip)) (bodyPost prog f80 λe w'=>
   e=returned (agg #[iX m0,iX m1,iX m2,iX h,iX i])/\Rt H a b w w' s 13 k {c with count:=iX h,rows:=iX i} [])
   ⟨(pX a::pX b::u2::u3::pX g::pX q::u6::u7::u8::u9::u10::u11::u12::u13::u14::u15::u16::u17::u18::u19::u20::u21::u22::u23::u24::u25::u26::u27::u28::u29::u30::u31::u32::u33::u34::u35::u36::u37::u38::u39::u40::u41::u42::u43::u44::u45::u46::u47::u48::u49::u50::u51::u52::u53::u54::u55::u56::u57::u58::u59::u60::u61::u62::u63::u64::u65::u66::u67::u68::u69::u70::u71::u72::u73::u74::u75::u76::u77::[]).toArray,[]⟩ v:=by
 conv=>arg 2;whnf
 have o:=vl d;have j:=(d.own _ (hU)).1;have f:=(d.own _ (List.mem_cons_of_mem _ hU)).1;have p:cX v q 0=some (iX m0):=by simp[World.cell?,j]
 have r:cX v q 1=some (iX m1):=by simp[World.cell?,j]
 have t:cX v q 2=some (iX m2):=by simp[World.cell?,j]
 have u:cX v q 3=some (iX h):=by simp[World.cell?,j]
 have x:cX v q 4=some (iX i):=by simp[World.cell?,j]
 have y:cX v g 0=some (iX 0):=by simp[World.cell?,f]
 have z:cX v g 1=some (iX 0):=by simp[World.cell?,f]
 have A:cX v g 2=some (iX 0):=by simp[World.cell?,f]
 have y3:cX v g 3=some (iX 0):=by simp[World.cell?,f]
 have B:cX v g 4=some (iX 0):=by simp[World.cell?,f]
 have E:v.frozen? ⟨g,0,none⟩=false:=by simp[World.frozen?,f]
 have F:v.frozen? ⟨g,1,none⟩=false:=by simp[World.frozen?,f]
 have G:v.frozen? ⟨g,2,none⟩=false:=by simp[World.frozen?,f]
 have I:v.frozen? ⟨g,3,none⟩=false:=by simp[World.frozen?,f]
 have J:v.frozen? ⟨g,4,none⟩=false:=by simp[World.frozen?,f]
 have K:=d.tb.get_count;have L:=d.tb.get_rows;have M:=d.tb.fz 7;have N:=d.tb.fz 11;have O:q≠b:=by have m:=(d.own _ (hU)).2;have:=d.bH;omega
 have P:g≠b:=by have m:=(d.own _ (List.mem_cons_of_mem _ hU)).2;have:=d.bH;omega
 have Q:=d.tb.lt;have l:=(d.own _ (List.mem_cons_of_mem _ hU)).2;go_wp2;refine gV (v:=agg #[iX m0,iX m1,iX m2,iX h,iX i]) (by simp[results,results80,go_sem,y,z,A,y3,B,p,r,t,u,x]) rfl ⟨rfl,?_⟩;have m:=o.drop.stored 7 _ (o.tb.set_count (iX h));have C:=m.stored 11 _ (m.tb.set_rows (iX i));exact((((C.boxN g 0 _ l).boxN g 1 _ l).boxN g 2 _ l).boxN g 3 _ l).boxN g 4 _ l
theorem zLk (a b H:Nat)(w:World)(s:ByteArray)(c:Tc)(au:Rt H a b w w s 0 true c [])(o:s.size<=1048576):
  Calls prog 80 #[pX a,pX b] w λe w'=>
   e=returned (agg #[iX (zW s:Nat),iX (xB s:Nat),iX (zG s:Nat),iX (zT s:Nat),iX (xV s:Nat)])/\
   Rt H a b w w' s 13 (qB s) {c with stream:=bool (decide (xH s=1)),ahead:=iX (xL s:Nat),hold:=iX (jG s:Nat),count:=iX (zT s:Nat),rows:=iX (xV s:Nat)} []:=by
 have av:=vl au;go_in;go_wp2_with fail;obtain⟨v0,aw,aj⟩:∃v,v=w.alloc (.cells #[iX 0,iX 0,iX 0,iX 0,iX 0] 152)/\Hid (Rt H a b w v s 0 true c [(w.heap.size,.cells #[iX 0,iX 0,iX 0,iX 0,iX 0] 152)]):=⟨_,rfl,av.alloc _⟩
 rw[<-aw];generalize w.heap.size=g at *;refine(zA8 a 0 s (true) v0 aj.rd o 76 76).mono ?_;rintro e w1 ⟨rfl,h,i⟩;have ak:=vl <| aj.called h i;have T:=vl ak;clear ak;go_wp2_with fail;refine(zA8 a 1 s (hK0 s) w1 T.rd o 88 88).mono ?_;rintro e w2 ⟨rfl,h,i⟩;have al:Hid (Rt H a b w w2 s 2 (hK1 s) c [(g,.cells #[iX 0,iX 0,iX 0,iX 0,iX 0] 152)]):=T.called h i;clear h i T;have U:Hid (Rt H a b w w2 s 2 (hK1 s) c [(g,.cells #[iX 0,iX 0,iX 0,iX 0,iX 0] 152)]):=al;clear al;go_wp2_with fail;refine(zA8 a 2 s (hK1 s) w2 U.rd o 0 1).mono ?_;rintro e V ⟨rfl,h,i⟩;have F:Hid (Rt H a b w V s 3 (hK2 s) c [(g,.cells #[iX 0,iX 0,iX 0,iX 0,iX 0] 152)]):=U.called h i;clear h i U;have l:=F.tb.get_stream;have j:=F.tb.fz 0;have aI:xH s<=1:=zX (byt s 2) 0 1 (by decide);rw[show within (byt s 2) 0 1=xH s from rfl];have ax:((xH s:Int)==1)=decide (xH s=1):=by rw[Bool.eq_iff_iff];simp only[beq_iff_eq,decide_eq_true_eq];omega
 go_wp2_with fail;clear ax;obtain⟨am,f,W⟩:∃v,v=V.setCell ⟨b,0,none⟩ (bool (decide (xH s=1)))/\Hid (Rt H a b w v s 3 (hK2 s) {c with stream:=bool (decide (xH s=1))} [(g,.cells #[iX 0,iX 0,iX 0,iX 0,iX 0] 152)]):=⟨_,rfl,F.stored 0 _ (F.tb.set_stream _)⟩
 have D:am.heap.size=V.heap.size:=by rw[f];simp[World.setCell]
 rw[<-f];clear f F l j;refine(zA8 a 3 s (hK2 s) am W.rd o 0 255).mono ?_;rintro e X ⟨rfl,h,i⟩;have G:Hid (Rt H a b w X s 4 (hK3 s) {c with stream:=bool (decide (xH s=1))} [(g,.cells #[iX 0,iX 0,iX 0,iX 0,iX 0] 152)]):=W.called h i;clear h i W;have l:=G.tb.get_ahead;have j:=G.tb.fz 1;have ay:xL s<=255:=zX (byt s 3) 0 255 (by decide);rw[show within (byt s 3) 0 255=xL s from rfl];go_wp2_with fail;clear D;obtain⟨an,f,Y⟩:∃v,v=X.setCell ⟨b,1,none⟩ (iX (xL s:Nat))/\Hid (Rt H a b w v s 4 (hK3 s) {c with stream:=bool (decide (xH s=1)),ahead:=iX (xL s:Nat)} [(g,.cells #[iX 0,iX 0,iX 0,iX 0,iX 0] 152)]):=⟨_,rfl,G.stored 1 _ (G.tb.set_ahead _)⟩
 have D:an.heap.size=X.heap.size:=by rw[f];simp[World.setCell]
 rw[<-f];clear f G l j;refine(zA8 a 4 s (hK3 s) an Y.rd o 1 64).mono ?_;rintro e O ⟨rfl,h,i⟩;have I:Hid (Rt H a b w O s 5 (hK4 s) {c with stream:=bool (decide (xH s=1)),ahead:=iX (xL s:Nat)} [(g,.cells #[iX 0,iX 0,iX 0,iX 0,iX 0] 152)]):=Y.called h i;clear h i Y;have l:=I.tb.get_hold;have j:=I.tb.fz 2;have aJ:jG s<=64:=zX (byt s 4) 1 64 (by decide);rw[show within (byt s 4) 1 64=jG s from rfl];go_wp2_with fail;clear D;obtain⟨J,f,aa⟩:∃v,v=O.setCell ⟨b,2,none⟩ (iX (jG s:Nat))/\Hid (Rt H a b w v s 5 (hK4 s) {c with stream:=bool (decide (xH s=1)),ahead:=iX (xL s:Nat),hold:=iX (jG s:Nat)} [(g,.cells #[iX 0,iX 0,iX 0,iX 0,iX 0] 152)]):=⟨_,rfl,I.stored 2 _ (I.tb.set_hold _)⟩
 have D:J.heap.size=O.heap.size:=by rw[f];simp[World.setCell]
 rw[<-f];clear f I l j;obtain⟨az,ao,P⟩:∃v,v=(J.alloc (.cells #[iX 0,iX 0,iX 0,iX 0,iX 0] 152))/\Hid (Rt H a b w v s 5 (hK4 s) {c with stream:=bool (decide (xH s=1)),ahead:=iX (xL s:Nat),hold:=iX (jG s:Nat)} [(J.heap.size,.cells #[iX 0,iX 0,iX 0,iX 0,iX 0] 152),(g,.cells #[iX 0,iX 0,iX 0,iX 0,iX 0] 152)]):=⟨_,rfl,aa.alloc _⟩
 rw[<-ao];have m:g≠J.heap.size:=by have:=(aa.own _ (hU)).1;have:=(kQ.1 this).1;have e:g<J.heap.size:=this;omega
 rw[D] at P m;generalize O.heap.size=q at *;clear ao aa D;refine(zEy a 5 s (hK4 s) az P.rd o 1 3).mono ?_;rintro e K ⟨rfl,h,i⟩;have ab:Hid (Rt H a b w K s 7 (hK5 s) {c with stream:=bool (decide (xH s=1)),ahead:=iX (xL s:Nat),hold:=iX (jG s:Nat)} [(q,.cells #[iX 0,iX 0,iX 0,iX 0,iX 0] 152),(g,.cells #[iX 0,iX 0,iX 0,iX 0,iX 0] 152)]):=P.called h i;clear h i P;have d:K.heap[q]? =some (.cells #[iX 0,iX 0,iX 0,iX 0,iX 0] 152):=(ab.own _ (hU)).1;have l:cX K q 0=some (iX 0):=by simp[World.cell?,d]
 have j:K.frozen? ⟨q,0,none⟩=false:=by simp[World.frozen?,d]
 have aK:zW s<=3:=zX (xZ s 5) 1 3 (by decide);rw[show within (xZ s 5) 1 3=zW s from rfl];go_wp2_with fail;obtain⟨aA,f,ac⟩:∃v,v=K.setCell ⟨q,0,none⟩ (iX (zW s:Nat))/\Hid (Rt H a b w v s 7 (hK5 s) {c with stream:=bool (decide (xH s=1)),ahead:=iX (xL s:Nat),hold:=iX (jG s:Nat)} [(q,.cells #[iX (zW s:Nat),iX 0,iX 0,iX 0,iX 0] 152),(g,.cells #[iX 0,iX 0,iX 0,iX 0,iX 0] 152)]):=⟨_,rfl,ab.boxed 0 _ (by simp[setCell,lU,d]) (λx k=>by rw[kY] at k;rw[k];exact m)⟩
 rw[<-f];clear f ab l j d;refine(zEy a 7 s (hK5 s) aA ac.rd o 1 8).mono ?_;rintro e L ⟨rfl,h,i⟩;have ad:Hid (Rt H a b w L s 9 (hK6 s) {c with stream:=bool (decide (xH s=1)),ahead:=iX (xL s:Nat),hold:=iX (jG s:Nat)} [(q,.cells #[iX (zW s:Nat),iX 0,iX 0,iX 0,iX 0] 152),(g,.cells #[iX 0,iX 0,iX 0,iX 0,iX 0] 152)]):=ac.called h i;clear h i ac;have d:L.heap[q]? =some (.cells #[iX (zW s:Nat),iX 0,iX 0,iX 0,iX 0] 152):=(ad.own _ (hU)).1;have l:cX L q 1=some (iX 0):=by simp[World.cell?,d]
 have j:L.frozen? ⟨q,1,none⟩=false:=by simp[World.frozen?,d]
 have aL:xB s<=8:=zX (xZ s 7) 1 8 (by decide);rw[show within (xZ s 7) 1 8=xB s from rfl];go_wp2_with fail;obtain⟨aB,f,ae⟩:∃v,v=L.setCell ⟨q,1,none⟩ (iX (xB s:Nat))/\Hid (Rt H a b w v s 9 (hK6 s) {c with stream:=bool (decide (xH s=1)),ahead:=iX (xL s:Nat),hold:=iX (jG s:Nat)} [(q,.cells #[iX (zW s:Nat),iX (xB s:Nat),iX 0,iX 0,iX 0] 152),(g,.cells #[iX 0,iX 0,iX 0,iX 0,iX 0] 152)]):=⟨_,rfl,ad.boxed 1 _ (by simp[setCell,lU,d]) (λx k=>by rw[kY] at k;rw[k];exact m)⟩
 rw[<-f];clear f ad l j d;refine(zEy a 9 s (hK6 s) aB ae.rd o 1 200).mono ?_;rintro e M ⟨rfl,h,i⟩;have af:Hid (Rt H a b w M s 11 (hK7 s) {c with stream:=bool (decide (xH s=1)),ahead:=iX (xL s:Nat),hold:=iX (jG s:Nat)} [(q,.cells #[iX (zW s:Nat),iX (xB s:Nat),iX 0,iX 0,iX 0] 152),(g,.cells #[iX 0,iX 0,iX 0,iX 0,iX 0] 152)]):=ae.called h i;clear h i ae;have d:M.heap[q]? =some (.cells #[iX (zW s:Nat),iX (xB s:Nat),iX 0,iX 0,iX 0] 152):=(af.own _ (hU)).1;have l:cX M q 2=some (iX 0):=by simp[World.cell?,d]
 have j:M.frozen? ⟨q,2,none⟩=false:=by simp[World.frozen?,d]
 have aM:zG s<=200:=zX (xZ s 9) 1 200 (by decide);rw[show within (xZ s 9) 1 200=zG s from rfl];go_wp2_with fail;obtain⟨aC,f,ag⟩:∃v,v=M.setCell ⟨q,2,none⟩ (iX (zG s:Nat))/\Hid (Rt H a b w v s 11 (hK7 s) {c with stream:=bool (decide (xH s=1)),ahead:=iX (xL s:Nat),hold:=iX (jG s:Nat)} [(q,.cells #[iX (zW s:Nat),iX (xB s:Nat),iX (zG s:Nat),iX 0,iX 0] 152),(g,.cells #[iX 0,iX 0,iX 0,iX 0,iX 0] 152)]):=⟨_,rfl,af.boxed 2 _ (by simp[setCell,lU,d]) (λx k=>by rw[kY] at k;rw[k];exact m)⟩
 rw[<-f];clear f af l j d;refine(zEy a 11 s (hK7 s) aC ag.rd o 1 256).mono ?_;rintro e N ⟨rfl,h,i⟩;have ah:Hid (Rt H a b w N s 13 (hK8 s) {c with stream:=bool (decide (xH s=1)),ahead:=iX (xL s:Nat),hold:=iX (jG s:Nat)} [(q,.cells #[iX (zW s:Nat),iX (xB s:Nat),iX (zG s:Nat),iX 0,iX 0] 152),(g,.cells #[iX 0,iX 0,iX 0,iX 0,iX 0] 152)]):=ag.called h i;clear h i ag;have d:N.heap[q]? =some (.cells #[iX (zW s:Nat),iX (xB s:Nat),iX (zG s:Nat),iX 0,iX 0] 152):=(ah.own _ (hU)).1;have l:cX N q 3=some (iX 0):=by simp[World.cell?,d]
 have j:N.frozen? ⟨q,3,none⟩=false:=by simp[World.frozen?,d]
 have aD:zT s<=256:=zX (xZ s 11) 1 256 (by decide);rw[show within (xZ s 11) 1 256=zT s from rfl];go_wp2_with fail;obtain⟨E,f,Q⟩:∃v,v=N.setCell ⟨q,3,none⟩ (iX (zT s:Nat))/\Hid (Rt H a b w v s 13 (hK8 s) {c with stream:=bool (decide (xH s=1)),ahead:=iX (xL s:Nat),hold:=iX (jG s:Nat)} [(q,.cells #[iX (zW s:Nat),iX (xB s:Nat),iX (zG s:Nat),iX (zT s:Nat),iX 0] 152),(g,.cells #[iX 0,iX 0,iX 0,iX 0,iX 0] 152)]):=⟨_,rfl,ah.boxed 3 _ (by simp[setCell,lU,d]) (λx k=>by rw[kY] at k;rw[k];exact m)⟩
 rw[<-f];clear f ah l j d;have d:E.heap[q]? =some (.cells #[iX (zW s:Nat),iX (xB s:Nat),iX (zG s:Nat),iX (zT s:Nat),iX 0] 152):=(Q.own _ (hU)).1;have aE:cX E q 3=some (iX (zT s:Nat)):=by simp[World.cell?,d]
 have ap:cX E q 4=some (iX 0):=by simp[World.cell?,d]
 have aF:E.frozen? ⟨q,4,none⟩=false:=by simp[World.frozen?,d]
 have aq:cX E b 1=some (iX (xL s:Nat)):=Q.tb.get_ahead
 rename_i aG ar
 have R:Hid (∀a w,_->aG a w):=ar;clear ar;go_region_with ((go_at_call 101;go_must ((refine (zDz (zT s) (xL s) _ aD ay).mono ?_;rintro e aN ⟨rfl,rfl⟩))))
 all_goals
  rw[show zF (zT s) (xL s)=xV s from rfl];obtain⟨r,f,p⟩:∃v,v=(E.setCell ⟨q,4,none⟩ (iX (xV s:Nat))).drew/\Hid (Rt H a b w v s 13 (hK8 s) {c with stream:=bool (decide (xH s=1)),ahead:=iX (xL s:Nat),hold:=iX (jG s:Nat)} [(q,.cells #[iX (zW s:Nat),iX (xB s:Nat),iX (zG s:Nat),iX (zT s:Nat),iX (xV s:Nat)] 152),(g,.cells #[iX 0,iX 0,iX 0,iX 0,iX 0] 152)]):=⟨_,rfl,(Q.boxed 4 _ (by simp[setCell,lU,d]) (λx k=>by rw[kY] at k;rw[k];exact m)).alike ⟨rfl,rfl,rfl⟩⟩
  rw[<-f];clear f Q d aE ap aF aq;have d:r.heap[q]? =some (.cells #[iX (zW s:Nat),iX (xB s:Nat),iX (zG s:Nat),iX (zT s:Nat),iX (xV s:Nat)] 152):=(p.own _ (hU)).1;have ap:cX r q 4=some (iX (xV s:Nat)):=by simp[World.cell?,d]
  have xs:cX r b 0=some (bool (decide (xH s=1))):=p.tb.get_stream;have aq:cX r b 1=some (iX (xL s:Nat)):=p.tb.get_ahead;have aO:=p.rd.c2;have j:=p.rd.fz 2;clear d;by_cases y:xV s<=3000
  ·by_cases t:xH s=1
   ·have z:Hid (qB s=hK8 s):=by show _=_;unfold qB;rw[gJ y,gJ t];simp
    have ai:(xV s:Int)<=3000:=by omega
    have u:decide (xH s=1)=true:=gJ t;rw[u] at xs;clear y t u;apply R.out;refine wp_seq_k ?_;intro A hK2;have B:Hid (∀a w,_->A a w):=hK2;clear hK2;go_wp2_with fail;have C:Rt H a b w r s 13 (qB s) {c with stream:=bool (decide (xH s=1)),ahead:=iX (xL s:Nat),hold:=iX (jG s:Nat)} [(q,.cells #[iX (zW s:Nat),iX (xB s:Nat),iX (zG s:Nat),iX (zT s:Nat),iX (xV s:Nat)] 152),(g,.cells #[iX 0,iX 0,iX 0,iX 0,iX 0] 152)]:=by rw[z.out];exact p
    exact B _ _ (zC9 a b H g q w _ s (qB s) _ (zW s) (xB s) (zG s) (zT s) (xV s) C m)
   ·by_cases S:xL s=0
    ·have z:Hid (qB s=hK8 s):=by show _=_;unfold qB;rw[gJ y,gJ S];simp
     have ai:(xV s:Int)<=3000:=by omega
     have u:decide (xH s=1)=false:=gU t;have aH:(xL s:Int)<=0:=by omega
     rw[u] at xs;clear y t u S;apply R.out;refine wp_seq_k ?_;intro A hK2;have B:Hid (∀a w,_->A a w):=hK2;clear hK2;go_wp2_with fail;have C:Rt H a b w r s 13 (qB s) {c with stream:=bool (decide (xH s=1)),ahead:=iX (xL s:Nat),hold:=iX (jG s:Nat)} [(q,.cells #[iX (zW s:Nat),iX (xB s:Nat),iX (zG s:Nat),iX (zT s:Nat),iX (xV s:Nat)] 152),(g,.cells #[iX 0,iX 0,iX 0,iX 0,iX 0] 152)]:=by rw[z.out];exact p
     exact B _ _ (zC9 a b H g q w _ s (qB s) _ (zW s) (xB s) (zG s) (zT s) (xV s) C m)
    ·have z:Hid (qB s=false):=by show _=_;unfold qB;rw[gU t,gU S];simp
     have ai:(xV s:Int)<=3000:=by omega
     have u:decide (xH s=1)=false:=gU t;have aH:0<(xL s:Int):=by omega
     rw[u] at xs;clear y t u S;apply R.out;refine wp_seq_k ?_;intro A hK2;have B:Hid (∀a w,_->A a w):=hK2;clear hK2;go_wp2_with fail;have C:Rt H a b w (r.setCell ⟨a,2,none⟩ (bool false)) s 13 (qB s) {c with stream:=bool (decide (xH s=1)),ahead:=iX (xL s:Nat),hold:=iX (jG s:Nat)} [(q,.cells #[iX (zW s:Nat),iX (xB s:Nat),iX (zG s:Nat),iX (zT s:Nat),iX (xV s:Nat)] 152),(g,.cells #[iX 0,iX 0,iX 0,iX 0,iX 0] 152)]:=by rw[z.out];exact p.told false
     exact B _ _ (zC9 a b H g q w _ s (qB s) _ (zW s) (xB s) (zG s) (zT s) (xV s) C m)
  ·have z:Hid (qB s=false):=by show _=_;unfold qB;rw[gU y];simp
   have ai:3000<(xV s:Int):=by omega
   clear y;apply R.out;refine wp_seq_k ?_;intro A hK2;have B:Hid (∀a w,_->A a w):=hK2;clear hK2;go_wp2_with fail;have C:Rt H a b w (r.setCell ⟨a,2,none⟩ (bool false)) s 13 (qB s) {c with stream:=bool (decide (xH s=1)),ahead:=iX (xL s:Nat),hold:=iX (jG s:Nat)} [(q,.cells #[iX (zW s:Nat),iX (xB s:Nat),iX (zG s:Nat),iX (zT s:Nat),iX (xV s:Nat)] 152),(g,.cells #[iX 0,iX 0,iX 0,iX 0,iX 0] 152)]:=by rw[z.out];exact p.told false
   exact B _ _ (zC9 a b H g q w _ s (qB s) _ (zW s) (xB s) (zG s) (zT s) (xV s) C m)
end Go.Proofs.YtbjcfkdnjaiclaaGreat
