import Derived.BigQuiet
import Derived.Deep.AppendLies
import Derived.Deep.LoopGhost
import Derived.Deep.OwnRows
import Derived.Deep.QuietTactic
import Derived.Deep.RegionWith
import Derived.KernelRfl
import Derived.Laws.Bits64
import Derived.Laws.BitsAllLaws
import Derived.Laws.BitsLemmas
import Derived.Laws.Pointers
import Derived.OwnWalk
import Derived.StillTactics
import Derived.Test.YtbjcfkdnjaiclaaGreatProg
import Derived.WalkKit
import Derived.WalkLawsBesides
import Derived.WalkSpells
/- Parts of the proof. -/
set_option linter.unusedVariables false
set_option linter.unusedSimpArgs false
set_option maxHeartbeats 4000000
set_option maxRecDepth 100000
namespace Go.Proofs.YtbjcfkdnjaiclaaGreat
open Go.RowKit Go.Proofs.Tryz Go.World
open Go.Value (int slice bool pointer string agg tuple)
open Go.IntKind (i64)
open Go.Ending (returned)
abbrev iX (x:Int):Value:=int i64 x
abbrev qX (b:Nat):Option Addr:=some ⟨b,0,none⟩
abbrev pX (b:Nat):Value:=pointer (some ⟨b,0,none⟩)
abbrev cX (w:World)(b k:Nat):Option Value:=w.cell? ⟨b,k,none⟩
abbrev nX:Value:=slice none 0 0
abbrev zX:Value:=int i64 0
abbrev rX:Ending:=returned (tuple #[])
abbrev fX:Value:=bool false
abbrev tX:Value:=bool true
theorem vl {p:Prop}(h:p):Hid p:=h
theorem wp_cut {P:Program}{Q:Exit->Act->World->Prop}{a:Act}{w:World}{x y:Code}(h:∀K:Act->World->Prop,Hid (∀a w,y.wp P Q a w->K a w)->x.wp P (Exit.then K Q) a w):(Code.seq x y).wp P Q a w:=wp_seq_k h
theorem lQ{n:Nat}:n<=n:=n.le_refl
theorem lX{n:Nat}:0<=n:=n.zero_le
theorem lZ{n m k:Nat}(h:n<m)(g:m<=k):n<k:=Nat.lt_of_lt_of_le h g
theorem lY{n m k:Nat}(h:n<=m)(g:m<=k):n<=k:=Nat.le_trans h g
theorem lW.{u}{α:Type u}{l:List α}{i:Nat}{a:α}:l.getD i a=l[i]?.getD a:=List.getD_eq_getElem?_getD
theorem lV.{u}{α:Type u}{l:List α}{i:Nat}(h:i<l.length):l[i]? =some l[i]:=List.getElem?_eq_getElem h
theorem lU.{u}{α:Type u}{s:Array α}{i:Nat}{f:α->α}{j:Nat}:(s.modify i f)[j]? =if i=j then s[j]?.map f else s[j]?:=Array.getElem?_modify
theorem kQ.{u}{α:Type u}{i:Nat}{b:α}{s:Array α}:s[i]? =some b↔∃h:i<s.size,s[i]=b:=Array.getElem?_eq_some_iff
theorem kX.{u}{α:Type u}{a bs:List α}:(a++bs).length=a.length+bs.length:=List.length_append
theorem kY.{u}{α:Type u}{a b:α}:a∈[b]↔a=b:=List.mem_singleton
theorem kW.{u}{α:Type u}{l m:List α}{i:Nat}(h:i<l.length):(l++m)[i]? =l[i]?:=List.getElem?_append_left h
theorem kV.{u,v}{α:Type u}{β:Type v}{l:List α}(f:α->β):(l.map f).length=l.length:=List.length_map f
theorem kU.{u}{α:Type u}{a:α}{s t:List α}:a∈s++t↔a∈s∨a∈t:=List.mem_append
theorem kJ{a b:Nat}(h:a<b):a≠b:=Nat.ne_of_lt h
theorem kG{n:Nat}(h:n>0){i j:Nat}(g:i<=j):n^i<=n^j:=Nat.pow_le_pow_right h g
theorem hQ.{u}{α:Type u}{a b:α}(h:some a=some b):a=b:=Option.some.inj h
theorem hX.{u}{α:Type u}[BEq α][LawfulBEq α]{a b:α}:(a==b)=false↔a≠b:=beq_eq_false_iff_ne
theorem hZ.{u}{α:Type u}{l m:List α}{i:Nat}(h:l.length<=i):(l++m)[i]? =m[i-l.length]?:=List.getElem?_append_right h
theorem hY.{u}{α:Type u}{a:α}{l:List α}:(a::l).length=l.length+1:=List.length_cons
theorem hU(x:Nat){y:Nat}(h:y>0):x%y<y:=Nat.mod_lt x h
theorem hJ.{u}{α:Type u}{a:α}{l:List α}:a∈a::l:=List.mem_cons_self
theorem gQ.{u}{α:Type u}(a b c:List α):a++b++c=a++(b++c):=List.append_assoc a b c
theorem gX.{u,v}{α:Type u}{β:Type v}{f:α->β}{l:List α}{i:Nat}:(l.map f)[i]? =l[i]?.map f:=List.getElem?_map
theorem gJ{p:Prop}[Decidable p](h:¬p):decide p=false:=decide_eq_false h
theorem gG{p:Prop}[Decidable p](h:p):decide p=true:=decide_eq_true h
theorem dQ.{u}{α:Type u}(a:List α):a++[]=a:=List.append_nil a
section
structure Rs where
 tp:Nat
 opn:Bool
 stack:Nat->Nat
 depth:Nat
 bAt:Nat
 bLine:Nat
 bCol:Nat
 state:Nat
 byte:Nat->Nat
 first:Nat
 count:Nat
 hAt:Nat
 hLine:Nat
 hCol:Nat
 ahead:Nat
 taken:Nat
 length:Nat
 rule:Int
def Rs.cells (r:Rs)(v0:Value)(j:Nat):Value:=
 if j=0 then pointer (some ⟨r.tp,0,none⟩) else
 if j=1 then bool r.opn else
 if j=2 then v0 else
 if j=3 then int i64 (r.stack 0) else
 if j=4 then int i64 (r.stack 1) else
 if j=5 then int i64 (r.stack 2) else
 if j=6 then int i64 (r.stack 3) else
 if j=7 then int i64 r.depth else
 if j=8 then int i64 r.bAt else
 if j=9 then int i64 r.bLine else
 if j=10 then int i64 r.bCol else
 if j=11 then int i64 r.state else
 if j=76 then int i64 r.first else
 if j=77 then int i64 r.count else
 if j=78 then int i64 r.hAt else
 if j=79 then int i64 r.hLine else
 if j=80 then int i64 r.hCol else
 if j=81 then int i64 r.ahead else
 if j=82 then int i64 r.taken else
 if j=83 then int i64 r.length else
 if j=84 then int i64 r.rule else
 int .u8 (r.byte (j-12))
def zN (w:World)(b:Nat)(r:Rs)(v0:Value):Prop:=∃t,w.rowIs b t 85 (r.cells v0)
theorem Rs.cells_byte (r:Rs)(v0:Value)(i:Nat)(a:i<64):r.cells v0 (12+i)=int .u8 (r.byte i):=by
 unfold Rs.cells
 repeat rw[if_neg (by omega)]
 rw[Nat.add_sub_cancel_left]
theorem Rs.cells_stack (r:Rs)(v0:Value)(i:Nat)(a:i<4):r.cells v0 (3+i)=iX (r.stack i):=by
 match i,a with
 |0,_=>rfl
 |1,_=>rfl
 |2,_=>rfl
 |3,_=>rfl
namespace zN
variable {w w':World} {b:Nat} {r r':Rs} {v0 v1:Value}
theorem cell (a:zN w b r v0)(i:Nat)(c:i<85):w.cell? ⟨b,i,none⟩=some (r.cells v0 i):=a.elim λ_ a=>a.cell c
theorem frozen (a:zN w b r v0)(i:Nat):w.frozen? ⟨b,i,none⟩=false:=a.elim λ_ a=>a.frozen i
theorem lt (a:zN w b r v0):b<w.heap.size:=a.elim λ_ a=>a.lt
theorem of_block (a:zN w b r v0)(e:w'.heap[b]? =w.heap[b]?):zN w' b r v0:=a.elim λt a=>⟨t,a.of_block e⟩
theorem alike (a:zN w b r v0)(e:w'.Alike w):zN w' b r v0:=a.of_block (by rw[e.1])
theorem below (a:zN w b r v0)(e:Below w.heap.size w w'):zN w' b r v0:=a.of_block (e.block b a.lt)
theorem drew (a:zN w b r v0):zN w.drew b r v0:=a
theorem set (a:zN w b r v0)(i:Nat)(v:Value)(e:∀j,j<85->(if j=i then v else r.cells v0 j)=r'.cells v1 j):zN (w.setCell ⟨b,i,none⟩ v) b r' v1:=
 a.elim λt a=>⟨t,(a.set i v).congr e⟩
theorem setc (a:zN w b r v0)(i:Nat){v:Value}(c:r'.cells v1 i=v)(d:∀j,j≠i->r'.cells v1 j=r.cells v0 j):zN (w.setCell ⟨b,i,none⟩ v) b r' v1:=a.set i v λj _=>by
 by_cases e:j=i
 ·rw[if_pos e,e,c]
 ·rw[if_neg e,d j e]
theorem set_opn (a:zN w b r v0)(v:Bool):zN (w.setCell ⟨b,1,none⟩ (bool v)) b {r with opn:=v} v0:=
 a.setc 1 rfl λj e=>by simp[Rs.cells,e]
theorem get_opn (a:zN w b r v0):w.cell? ⟨b,1,none⟩=some (bool r.opn):=a.cell 1 (by decide)
theorem set_told (a:zN w b r v0)(v:Value):zN (w.setCell ⟨b,2,none⟩ (v)) b r v:=
 a.setc 2 rfl λj e=>by simp[Rs.cells,e]
theorem get_told (a:zN w b r v0):w.cell? ⟨b,2,none⟩=some v0:=a.cell 2 (by decide)
theorem set_depth (a:zN w b r v0)(v:Nat):zN (w.setCell ⟨b,7,none⟩ (iX (v:Int))) b {r with depth:=v} v0:=
 a.setc 7 rfl λj e=>by simp[Rs.cells,e]
theorem get_depth (a:zN w b r v0):w.cell? ⟨b,7,none⟩=some (iX (r.depth:Int)):=a.cell 7 (by decide)
theorem set_bAt (a:zN w b r v0)(v:Nat):zN (w.setCell ⟨b,8,none⟩ (iX (v:Int))) b {r with bAt:=v} v0:=
 a.setc 8 rfl λj e=>by simp[Rs.cells,e]
theorem get_bAt (a:zN w b r v0):w.cell? ⟨b,8,none⟩=some (iX (r.bAt:Int)):=a.cell 8 (by decide)
theorem set_bLine (a:zN w b r v0)(v:Nat):zN (w.setCell ⟨b,9,none⟩ (iX (v:Int))) b {r with bLine:=v} v0:=
 a.setc 9 rfl λj e=>by simp[Rs.cells,e]
theorem get_bLine (a:zN w b r v0):w.cell? ⟨b,9,none⟩=some (iX (r.bLine:Int)):=a.cell 9 (by decide)
theorem set_bCol (a:zN w b r v0)(v:Nat):zN (w.setCell ⟨b,10,none⟩ (iX (v:Int))) b {r with bCol:=v} v0:=
 a.setc 10 rfl λj e=>by simp[Rs.cells,e]
theorem get_bCol (a:zN w b r v0):w.cell? ⟨b,10,none⟩=some (iX (r.bCol:Int)):=a.cell 10 (by decide)
theorem set_state (a:zN w b r v0)(v:Nat):zN (w.setCell ⟨b,11,none⟩ (iX (v:Int))) b {r with state:=v} v0:=
 a.setc 11 rfl λj e=>by simp[Rs.cells,e]
theorem get_state (a:zN w b r v0):w.cell? ⟨b,11,none⟩=some (iX (r.state:Int)):=a.cell 11 (by decide)
theorem set_first (a:zN w b r v0)(v:Nat):zN (w.setCell ⟨b,76,none⟩ (iX (v:Int))) b {r with first:=v} v0:=
 a.setc 76 rfl λj e=>by simp[Rs.cells,e]
theorem get_first (a:zN w b r v0):w.cell? ⟨b,76,none⟩=some (iX (r.first:Int)):=a.cell 76 (by decide)
theorem set_count (a:zN w b r v0)(v:Nat):zN (w.setCell ⟨b,77,none⟩ (iX (v:Int))) b {r with count:=v} v0:=
 a.setc 77 rfl λj e=>by simp[Rs.cells,e]
theorem get_count (a:zN w b r v0):w.cell? ⟨b,77,none⟩=some (iX (r.count:Int)):=a.cell 77 (by decide)
theorem set_hAt (a:zN w b r v0)(v:Nat):zN (w.setCell ⟨b,78,none⟩ (iX (v:Int))) b {r with hAt:=v} v0:=
 a.setc 78 rfl λj e=>by simp[Rs.cells,e]
theorem get_hAt (a:zN w b r v0):w.cell? ⟨b,78,none⟩=some (iX (r.hAt:Int)):=a.cell 78 (by decide)
theorem set_hLine (a:zN w b r v0)(v:Nat):zN (w.setCell ⟨b,79,none⟩ (iX (v:Int))) b {r with hLine:=v} v0:=
 a.setc 79 rfl λj e=>by simp[Rs.cells,e]
theorem get_hLine (a:zN w b r v0):w.cell? ⟨b,79,none⟩=some (iX (r.hLine:Int)):=a.cell 79 (by decide)
theorem set_hCol (a:zN w b r v0)(v:Nat):zN (w.setCell ⟨b,80,none⟩ (iX (v:Int))) b {r with hCol:=v} v0:=
 a.setc 80 rfl λj e=>by simp[Rs.cells,e]
theorem get_hCol (a:zN w b r v0):w.cell? ⟨b,80,none⟩=some (iX (r.hCol:Int)):=a.cell 80 (by decide)
theorem set_ahead (a:zN w b r v0)(v:Nat):zN (w.setCell ⟨b,81,none⟩ (iX (v:Int))) b {r with ahead:=v} v0:=
 a.setc 81 rfl λj e=>by simp[Rs.cells,e]
theorem get_ahead (a:zN w b r v0):w.cell? ⟨b,81,none⟩=some (iX (r.ahead:Int)):=a.cell 81 (by decide)
theorem set_taken (a:zN w b r v0)(v:Nat):zN (w.setCell ⟨b,82,none⟩ (iX (v:Int))) b {r with taken:=v} v0:=
 a.setc 82 rfl λj e=>by simp[Rs.cells,e]
theorem get_taken (a:zN w b r v0):w.cell? ⟨b,82,none⟩=some (iX (r.taken:Int)):=a.cell 82 (by decide)
theorem set_length (a:zN w b r v0)(v:Nat):zN (w.setCell ⟨b,83,none⟩ (iX (v:Int))) b {r with length:=v} v0:=
 a.setc 83 rfl λj e=>by simp[Rs.cells,e]
theorem get_length (a:zN w b r v0):w.cell? ⟨b,83,none⟩=some (iX (r.length:Int)):=a.cell 83 (by decide)
theorem set_rule (a:zN w b r v0)(v:Int):zN (w.setCell ⟨b,84,none⟩ (iX v)) b {r with rule:=v} v0:=
 a.setc 84 rfl λj e=>by simp[Rs.cells,e]
theorem get_rule (a:zN w b r v0):w.cell? ⟨b,84,none⟩=some (iX r.rule):=a.cell 84 (by decide)
theorem get_tp (a:zN w b r v0):w.cell? ⟨b,0,none⟩=some (pX r.tp):=a.cell 0 (by decide)
theorem get_byte (a:zN w b r v0)(i:Nat)(c:i<64):w.cell? ⟨b,12+i,none⟩=some (int .u8 (r.byte i)):=by
 rw[a.cell _ (by omega),Rs.cells_byte _ _ _ c]
theorem get_stack (a:zN w b r v0)(i:Nat)(c:i<4):w.cell? ⟨b,3+i,none⟩=some (iX (r.stack i)):=by
 rw[a.cell _ (by omega),Rs.cells_stack _ _ _ c]
theorem set_byte (a:zN w b r v0)(i v:Nat)(c:i<64):zN (w.setCell ⟨b,12+i,none⟩ (int .u8 v)) b {r with byte:=λj=>if j=i then v else r.byte j} v0:=
 a.set (12+i) _ λj f=>by
  by_cases e:j=12+i
  ·subst e;rw[if_pos rfl,Rs.cells_byte _ _ _ c];simp
  ·rw[if_neg e]
   unfold Rs.cells;by_cases g:12<=j/\j<76
   ·repeat rw[if_neg (by omega)]
    show _=Value.int .u8 ((if j-12=i then v else r.byte (j-12):Nat):Int);rw[if_neg (by omega)]
   ·by_cases d:j<12
    ·match j,d with
     |0,_=>rfl
     |1,_=>rfl
     |2,_=>rfl
     |3,_=>rfl
     |4,_=>rfl
     |5,_=>rfl
     |6,_=>rfl
     |7,_=>rfl
     |8,_=>rfl
     |9,_=>rfl
     |10,_=>rfl
     |11,_=>rfl
    ·simp[show¬j-12=i by omega]
theorem set_stack (a:zN w b r v0)(i v:Nat)(c:i<4):zN (w.setCell ⟨b,3+i,none⟩ (iX v)) b {r with stack:=λj=>if j=i then v else r.stack j} v0:=
 a.set (3+i) _ λj d=>by
  match i,c with
  |0,_=>by_cases e:j=3 <;> simp[Rs.cells,e]
  |1,_=>by_cases e:j=4 <;> simp[Rs.cells,e]
  |2,_=>by_cases e:j=5 <;> simp[Rs.cells,e]
  |3,_=>by_cases e:j=6 <;> simp[Rs.cells,e]
end zN
structure Keep (H b:Nat)(w w':World):Prop where
 os:w'.os=w.os
 output:w'.output=w.output
 size:w.heap.size<=w'.heap.size
 block:∀k,k<H->k≠b->w'.heap[k]? =w.heap[k]?
abbrev Grew (w w':World):Prop:=Keep w.heap.size w.heap.size w w'
namespace Keep
variable {H b:Nat} {w w' w'':World}
theorem refl (H b:Nat)(w:World):Keep H b w w:=⟨rfl,rfl,lQ,λ_ _ _=>rfl⟩
theorem trans (a:Keep H b w w')(k:Keep H b w' w''):Keep H b w w'':=
 ⟨k.os.trans a.os,k.output.trans a.output,lY a.size k.size,λi c d=>(k.block i c d).trans (a.block i c d)⟩
theorem set (w:World)(i:Nat)(v:Value):Keep H b w (w.setCell ⟨b,i,none⟩ v):=
 ⟨rfl,rfl,by simp[World.setCell],λk _ a=>Below.heap_setCell _ _ _ _ a⟩
theorem alloc (w:World)(o:Obj)(a:H<=w.heap.size):Keep H b w (w.alloc o):=
 ⟨rfl,rfl,by simp,λk c _=>Below.heap_alloc _ _ _ (by omega)⟩
theorem drew (w:World):Keep H b w w.drew:=⟨rfl,rfl,lQ,λ_ _ _=>rfl⟩
theorem alike (a:w'.Alike w):Keep H b w w':=⟨a.2.1,a.2.2,by rw[a.1];exact lQ,λk _ _=>by rw[a.1]⟩
theorem below (a:Below w.heap.size w w')(c:H<=w.heap.size):Keep H b w w':=⟨a.os,a.output,a.size,λk d _=>a.block k (by omega)⟩
theorem grown {row:Option Nat}(a:w.grownBy w' row)(d:H<=w.heap.size)(c:∀k,row=some k->H<=k):Keep H b w w':=
 ⟨a.os,a.output,a.size,λk f _=>a.block k (by omega) (λe=>by have:=c k e.symm;omega)⟩
end Keep
theorem lJ(w:World)(a:Addr)(u:Value)(k:Nat)(h:k≠a.block):(w.setCell a u).heap[k]? =w.heap[k]?:=Below.heap_setCell w a u k h
theorem lG(w:World)(o:Obj)(k:Nat)(h:k<w.heap.size):(w.alloc o).heap[k]? =w.heap[k]?:=Below.heap_alloc w o k h
theorem kZ{H b:Nat}(w:World)(o:Obj)(h:H<=w.heap.size):Keep H b w (w.alloc o):=Keep.alloc w o h
theorem gZ(w:World)(o:Obj):(w.alloc o).heap[w.heap.size]? =some o:=heap_alloc_new w o
theorem gY{w v:World}{a:Addr}(h:v.heap[a.block]? =w.heap[a.block]?):v.cell? a=w.cell? a:=cell?_of_block h
theorem gW{w v:World}{a:Addr}(h:v.heap[a.block]? =w.heap[a.block]?):v.frozen? a=w.frozen? a:=frozen?_of_block h
theorem gV{w:World}(o:Obj)(n i:Nat)(h:n<w.heap.size):(w.alloc o).cell? ⟨n,i,none⟩=w.cell? ⟨n,i,none⟩:=cell?_alloc_past o n i h
theorem gU{P:Program}{fn:Func}{R:Ending->World->Prop}{a:Act}{w:World}{v:Value}(h:Sem.run P (results fn a.tmps) w=.ok v w)(g:a.defers=[])(k:R (returned v) w):bodyPost P fn R .ret a w:=bodyPost_ret h g k
end
theorem w64 (n:Int)(a:-9223372036854775808<=n)(b:n<9223372036854775808):wrap64 n=n:=by unfold wrap64;omega
theorem zBz (n:Int)(a:0<=n)(b:n<9223372036854775808):IntKind.i64.wrap n=n:=by rw[IntKind.wrap_i64];omega
theorem qY (a b:Nat)(c:a<9223372036854775808)(d:b<9223372036854775808):bits .and i64 (a:Int) (b:Int)=((a&&&b:Nat):Int):=
 (bits_nat i64 63 (by decide) (λn e f=>zBz n e (by simpa using f)) a b (by simpa using c) (by simpa using d)).1
theorem zCT (a b:Nat)(e:a<9223372036854775808)(f:b<9223372036854775808):bits .xor i64 (a:Int) (b:Int)=((a^^^b:Nat):Int):=by
 have g:a^^^b<2^63:=Nat.xor_lt_two_pow (by omega) (by omega);have c:(BitVec.ofInt 64 (a:Int)).toNat=a:=by
  rw[BitVec.ofInt_natCast,BitVec.toNat_ofNat];exact Nat.mod_eq_of_lt (by omega)
 have d:(BitVec.ofInt 64 (b:Int)).toNat=b:=by
  rw[BitVec.ofInt_natCast,BitVec.toNat_ofNat];exact Nat.mod_eq_of_lt (by omega)
 show IntKind.i64.wrap ((BitVec.ofInt 64 (a:Int)^^^BitVec.ofInt 64 (b:Int)).toNat:Int)=_;rw[BitVec.toNat_xor,c,d];exact zBz _ (by omega) (by omega)
theorem zFt (a:Nat)(c:a<9223372036854775808):bits .and i64 (a:Int) 1=((a%2:Nat):Int):=by
 have b:=qY a 1 c (by decide);rw[show ((1:Nat):Int)=1 from rfl] at b;rw[b,Nat.and_one_is_mod]
theorem zCl (a k:Nat):((a:Int)/2^k)=((a/2^k:Nat):Int):=by simp
theorem zAr {k:IntKind}{a b:Int}(c:a=b):Ending.returned (int k a)=returned (int k b):=by rw[c]
theorem zHs (s:ByteArray)(k:Nat)(a:k<s.size):s.data.toList.take (k+1)=s.data.toList.take k++[s[k]]:=by
 rw[List.take_succ_eq_append_getElem (by simpa using a)];rfl
def zKp (l:List UInt8):Nat:=l.foldl (λv b=>256*v+b.toNat) 0
def xC (v:Nat):Nat->Nat
 |0=>0
 |k+1=>2*xC v k+(v>>>k)%2
theorem zKG (v k:Nat):xC v k<2^k:=by
 induction k with
 |zero=>simp[xC]
 |succ k a=>simp only[xC,Nat.pow_succ];omega
theorem zHX (v k:Nat)(a:k<=32):xC v k<4294967296:=by
 have b:=zKG v k;have c:2^k<=2^32:=kG (by omega) a;omega
def zL2 (r b k:Nat):Nat:=
 if r/2147483648%2=b/2^k%2 then r*2%4294967296 else r*2%4294967296^^^79764919
def zB5 (r b:Nat):Nat->Nat
 |0=>r
 |j+1=>zL2 (zB5 r b j) b (7-j)
def zPG (l:List UInt8):Nat:=l.foldl (λr c=>zB5 r (xC c.toNat 8) 8) 4294967295
def zQx (l:List UInt8):Nat:=4294967295-xC (zPG l) 32
def zHm (s:ByteArray):Nat:=zKp s.data.toList
def zJi (s:ByteArray):Nat:=zQx s.data.toList
theorem vG {a b:Bool}(c:a=b):Ending.returned (bool a)=returned (bool b):=by rw[c]
def xO:Nat->Code->Code
 |n+1,.seq _ b=>xO n b
 |_,c=>c
def byt (s:ByteArray)(i:Nat):Nat:=(s.data.toList.getD i 0).toNat
theorem yQ (s:ByteArray)(i:Nat):byt s i<256:=UInt8.toNat_lt _
theorem zBK (s:ByteArray)(i:Nat)(a:i<s.size):s[i].toNat=byt s i:=by
 have b:i<s.data.toList.length:=by simpa using a
 unfold byt;rw[lW,lV b];rfl
def b2 (s:ByteArray)(i:Nat):Nat:=zHm (s.extract i (i+2))
def zG (kinds:Nat):Nat->Nat
 |0=>1
 |k+1=>if zG kinds k<=3000 then zG kinds k*(kinds+1) else zG kinds k
theorem zHr (kinds:Nat)(c:kinds<=256)(k:Nat):zG kinds k<=771000:=by
 cases k with
 |zero=>simp[zG]
 |succ k=>
  induction k with
  |zero=>simp[zG];omega
  |succ k a=>
   rw[zG];split
   ·rename_i b
    calc zG kinds (k+1)*(kinds+1)<=3000*257:=Nat.mul_le_mul b (by omega)
     _=771000:=by decide
   ·exact a
theorem zFd (kinds k m:Nat)(b:3000<zG kinds k)(c:k<=m):zG kinds m=zG kinds k:=by
 induction m with
 |zero=>rw[show k=0 by omega]
 |succ m a=>
  by_cases e:k=m+1
  ·rw[e]
  ·have:=a (by omega)
   rw[zG,if_neg (by omega)];exact this
theorem zMx (a kinds:Nat)(b:a*(kinds+1)<=771000):Value.int IntKind.i64 (wrap64 ((a:Int)*((kinds:Int)+1)))=Value.int IntKind.i64 ((a*(kinds+1):Nat):Int):=by
 have e:((a:Int)*((kinds:Int)+1))=((a*(kinds+1):Nat):Int):=by simp
 rw[e,w64 _ (by omega) (by omega)]
def zEl (s:ByteArray)(at_:Nat):Nat->Nat
 |0=>0
 |j+1=>max (zEl s at_ j) (byt s (at_+j)+1)
def zIo (s:ByteArray)(states k:Nat):Bool:=(List.range k).all λj=>decide (b2 s (13+2*j)<states)
def zIm (s:ByteArray)(a modes k:Nat):Bool:=(List.range k).all λj=>decide (byt s (a+2*j)<4)&&decide (byt s (a+2*j+1)<modes)
def zIq (s:ByteArray)(b k:Nat):Bool:=(List.range k).all λj=>decide (byt s (b+j)<=zEl s b j)
def zK7 (s:ByteArray)(c states k:Nat):Bool:=(List.range k).all λj=>decide (b2 s (c+2*j)<states)
def zK8 (s:ByteArray)(d rules k:Nat):Bool:=(List.range k).all λj=>decide (byt s (d+j)<=rules)
def zOj (stream hold modes rules states kinds:Nat):Bool:=
 decide (0<modes/\modes<=3/\0<rules/\rules<=8/\0<states/\states<=200/\1<=kinds/\kinds<=256/\stream<=1/\1<=hold/\hold<=64)
def zLS (s:ByteArray)(modes rules states kinds ways:Nat):Bool:=
 let a:=13+2*modes
 let b:=a+2*rules
 let c:=b+256
 let d:=c+2*states*kinds
 let f:=d+states+(ways*states+7)/8
 zIo s states modes&&zIm s a modes rules&&zIq s b 256&&decide (zEl s b 256=kinds)&&zK7 s c states (states*kinds)&&zK8 s d rules states&&
  (decide (ways*states%8=0)||decide (byt s (f-1)/2^(ways*states%8)=0))
def yS (modes rules states kinds ways:Nat):Nat:=13+2*modes+2*rules+256+2*states*kinds+states+(ways*states+7)/8
theorem zJK (a kinds b:Nat)(c:a<=200)(d:kinds<=256)(e:b<=3000):
  (2*(a:Int))*(kinds:Int)<=102400/\0<=(2*(a:Int))*(kinds:Int)/\(b:Int)*(a:Int)<=600000/\0<=(b:Int)*(a:Int):=by
 have h:2*a*kinds<=102400:=lY (Nat.mul_le_mul (show 2*a<=400 by omega) d) (by decide);have j:b*a<=600000:=lY (Nat.mul_le_mul e c) (by decide);have f:(2*(a:Int))*(kinds:Int)=((2*a*kinds:Nat):Int):=by simp
 have g:(b:Int)*(a:Int)=((b*a:Nat):Int):=by simp
 rw[f,g];exact⟨by omega,by omega,by omega,by omega⟩
theorem zNN (modes rules a kinds b:Nat):(13+2*(modes:Int)+2*(rules:Int)+256+2*(a:Int)*(kinds:Int)+(a:Int)+((b:Int)*(a:Int)+7)/8)=((yS modes rules a kinds b:Nat):Int):=by
 have c:(2*(a:Int))*(kinds:Int)=((2*a*kinds:Nat):Int):=by simp
 have d:(b:Int)*(a:Int)=((b*a:Nat):Int):=by simp
 rw[c,d];unfold yS;omega
def jP (s:ByteArray):Bool:=
  decide (17<=s.size)&&(s.extract 0 2).toList==[76,88]&&zJi (s.extract 0 (s.size-4))==zHm (s.extract (s.size-4) s.size)&&
  (let stream:=byt s 2
   let ahead:=byt s 3
   let hold:=byt s 4
   let modes:=b2 s 5
   let rules:=b2 s 7
   let states:=b2 s 9
   let kinds:=b2 s 11
   let ways:=zG kinds ahead
   zOj stream hold modes rules states kinds&&decide (ways<=3000)&&(decide (stream≠0)||decide (ahead=0))&&
     decide (yS modes rules states kinds ways=s.size-4)&&zLS s modes rules states kinds ways)
section
def xN (w:World)(b:Nat)(s:ByteArray)(p:Nat)(k:Bool):Prop:=
 w.heap[b]? =some (.cells #[string s,int i64 (min p s.size:Nat),bool k] 150)
namespace xN
variable {w w':World} {b p:Nat} {s:ByteArray} {k:Bool}
theorem lt (a:xN w b s p k):b<w.heap.size:=(kQ.1 a).1
theorem c0 (a:xN w b s p k):w.cell? ⟨b,0,none⟩=some (string s):=by unfold xN at a;simp[World.cell?,a]
theorem c1 (a:xN w b s p k):w.cell? ⟨b,1,none⟩=some (iX (min p s.size:Nat)):=by unfold xN at a;simp[World.cell?,a]
theorem c2 (a:xN w b s p k):w.cell? ⟨b,2,none⟩=some (bool k):=by unfold xN at a;simp[World.cell?,a]
theorem fz (a:xN w b s p k)(i:Nat):w.frozen? ⟨b,i,none⟩=false:=by unfold xN at a;simp[World.frozen?,a]
theorem of_block (a:xN w b s p k)(e:w'.heap[b]? =w.heap[b]?):xN w' b s p k:=e.trans a
theorem alike (a:xN w b s p k)(e:w'.Alike w):xN w' b s p k:=a.of_block (by rw[e.1])
theorem set1 (a:xN w b s p k)(q:Nat):xN (w.setCell ⟨b,1,none⟩ (iX (min q s.size:Nat))) b s q k:=by
 unfold xN at *;simp[setCell,lU,a]
theorem set2 (a:xN w b s p k)(q:Bool):xN (w.setCell ⟨b,2,none⟩ (bool q)) b s p q:=by
 unfold xN at *;simp[setCell,lU,a]
theorem to (a:xN w b s p k){q:Nat}{l:Bool}(e:min p s.size=min q s.size)(c:k=l):xN w b s q l:=by
 unfold xN at *;rw[a,e,c]
end xN
theorem zDe {a b:Nat}(c:a=b):Ending.returned (iX (a:Int))=returned (iX (b:Int)):=by rw[c]
theorem Keep.drewSet {H b:Nat}(w:World)(n i:Nat)(v:Value):Keep H b w ((w.drewN n).setCell ⟨b,i,none⟩ v):=Keep.trans (w':=w.drewN n) (Keep.alike ⟨rfl,rfl,rfl⟩) (Keep.set _ _ _)
theorem zIR (s:ByteArray)(i:Nat)(a:s.size<=i):byt s i=0:=by
 have c:s.data.toList.length<=i:=by simpa using a
 unfold byt;rw[lW,List.getElem?_eq_none c];rfl
theorem zIf (b p:Nat)(s:ByteArray)(k:Bool)(w:World)(a:xN w b s p k)(m:s.size<=1048576):
  Calls prog 158 #[pX b] w λe w'=>
   e=returned (iX (byt s p:Nat))/\xN w' b s (p+1) (k&&decide (p<s.size))/\∀H,Keep H b w w':=by
 have g:=vl a;have o:=a.c0;have h:=a.c1;have q:=a.fz 1;have r:=a.fz 2;have t:=a.c2;by_cases c:p<s.size
 ·have d:min p s.size=p:=by omega
  rw[d] at h;have u:(p:Int)<(s.size:Int):=by omega
  have l:=vl <| zBK s p c;have v:=s[p].toNat_lt;have f:=vl c;go_in;go_wp2;go_quiet (fail);go_wp2;go_quiet (fail);go_wp2;go_ret;refine⟨?_,?_,λH=>?_⟩
  ·exact zDe l
  ·have j:=g.set1 (p+1)
   rw[show ((min (p+1) s.size:Nat):Int)=(p:Int)+1 by omega] at j;exact j.to rfl (by simp[f.out])
  ·exact Keep.drewSet w _ _ _
 ·have d:min p s.size=s.size:=by omega
  rw[d] at h;have f:=vl c;go_in;go_wp2;go_quiet (fail);go_wp2;go_ret;refine⟨?_,?_,λH=>?_⟩
  ·show Ending.returned zX=_
   rw[zIR s p (by omega)];rfl
  ·exact(g.set2 false).to (by omega) (by simp[f.out])
  ·exact Keep.drewSet w _ _ _
def within (n least most:Nat):Nat:=if least<=n/\n<=most then n else least
def inB (n least most:Nat):Bool:=decide (least<=n/\n<=most)
theorem zL {n a most:Nat}(c:a<=n/\n<=most):within n a most=n:=if_pos c
theorem zHq {n a most:Nat}(c:¬(a<=n/\n<=most)):within n a most=a:=if_neg c
theorem zPo {n a most:Nat}(c:a<=n/\n<=most):inB n a most=true:=gG c
theorem zOg {n a most:Nat}(c:¬(a<=n/\n<=most)):inB n a most=false:=gJ c
theorem zHz (b p:Nat)(s:ByteArray)(k:Bool)(w:World)(d:xN w b s p k)(n a most:Nat):
  Calls prog 159 #[pX b,iX n,iX a,iX most] w λe w'=>
   e=returned (iX (within n a most:Nat))/\xN w' b s p (k&&inB n a most)/\∀H,Keep H b w w':=by
 have f:=vl d;have j:=d.fz 2;have l:=d.c2;by_cases m:n<a
 ·have g:(n:Int)<(a:Int):=by omega
  have c:Hid (¬(a<=n/\n<=most)):=by show¬_;omega
  go_in;go_wp2;go_ret;exact⟨zDe (zHq c).symm,(f.set2 false).to rfl (by rw[zOg c.out,Bool.and_false]),λH=>Keep.set w _ _⟩
 ·have g:(a:Int)<=(n:Int):=by omega
  by_cases o:most<n
  ·have h:(most:Int)<(n:Int):=by omega
   have c:Hid (¬(a<=n/\n<=most)):=by show¬_;omega
   go_in;go_wp2;go_ret;exact⟨zDe (zHq c).symm,(f.set2 false).to rfl (by rw[zOg c.out,Bool.and_false]),λH=>Keep.set w _ _⟩
  ·have h:(n:Int)<=(most:Int):=by omega
   have c:Hid (a<=n/\n<=most):=by show _/\_;omega
   go_in;go_wp2;go_ret;exact⟨zDe (zL c).symm,f.to rfl (by rw[zPo c.out,Bool.and_true]),λH=>Keep.refl _ _ _⟩
theorem zBb (b p:Nat)(s:ByteArray)(k:Bool)(w:World)(c:xN w b s p k)(d:s.size<=1048576)(a most:Nat):
  Calls prog 113 #[pX b,iX a,iX most] w λe w'=>
   e=returned (iX (within (byt s p) a most:Nat))/\xN w' b s (p+1) (k&&decide (p<s.size)&&inB (byt s p) a most)/\∀H,Keep H b w w':=by
 have f:=vl c;go_in;go_wp2_with fail;refine(zIf b p s k w f d).mono ?_;rintro e w1 ⟨rfl,g,h⟩;have j:=vl g;go_wp2_with fail;refine(zHz b (p+1) s _ w1 j (byt s p) a most).mono ?_;rintro e w2 ⟨rfl,l,m⟩;have o:=vl l;go_wp2;go_ret;exact⟨rfl,o,λH=>(h H).trans (m H)⟩
def xU (s:ByteArray)(p:Nat):Nat:=256*byt s p+byt s (p+1)
theorem zEP (b p:Nat)(s:ByteArray)(k:Bool)(w:World)(f:xN w b s p k)(c:s.size<=1048576)(a most:Nat):
  Calls prog 114 #[pX b,iX a,iX most] w λe w'=>
   e=returned (iX (within (xU s p) a most:Nat))/\xN w' b s (p+2) (k&&decide (p+1<s.size)&&inB (xU s p) a most)/\∀H,Keep H b w w':=by
 have g:=vl f;go_in;go_wp2_with fail;refine(zIf b p s k w g c).mono ?_;rintro e w1 ⟨rfl,h,j⟩;have l:=vl h;go_wp2_with fail;refine(zIf b (p+1) s _ w1 l c).mono ?_;rintro e w2 ⟨rfl,m,o⟩;have q:Hid (xN w2 b s (p+2) (k&&decide (p+1<s.size))):=m.to rfl (by by_cases e:p+1<s.size <;> simp[e];intro;omega);have v:=yQ s p;have b2:=yQ s (p+1);have r:Hid (256*(byt s p:Int)+(byt s (p+1):Int)=(xU s p:Nat)):=by show _=_;unfold xU;omega
 go_wp2_with fail;rw[r.out];refine(zHz b (p+2) s _ w2 q (xU s p) a most).mono ?_;rintro e x ⟨rfl,d,t⟩;have u:=vl d;clear d;go_wp2_with fail;go_ret;exact⟨rfl,u,λH=>((j H).trans (o H)).trans (t H)⟩
end
theorem zDK (kinds ahead:Nat)(w:World)(b:kinds<=256)(l:ahead<=255):
  Calls prog 101 #[iX kinds,iX ahead] w λe w'=>e=returned (iX (zG kinds ahead:Nat))/\w'=w:=by
 go_in;go_wp2;go_loop [5,6] (λr i=>∃k:Nat,k<=ahead/\i=iX k/\r=iX (zG kinds k:Nat)) (λ_ i=>ahead-(intOf i).toNat)
 case atStart=>exact⟨0,lX,rfl,rfl⟩
 case round=>
  obtain⟨k,o,rfl,rfl⟩:=hrel;have p:=zHr kinds b k;have c:=zHr kinds b (k+1);by_cases q:k<ahead
  ·have d:(k:Int)<(ahead:Int):=by omega
   by_cases f:zG kinds k<=3000
   ·have g:(zG kinds k:Int)<=3000:=by omega
    have a:Hid (zG kinds (k+1)=zG kinds k*(kinds+1)):=by show _=_;rw[zG,if_pos f]
    have h:zG kinds k*(kinds+1)<=771000:=by rw[<-a.out];exact c
    generalize zG kinds k=m at *;have j:=zMx m kinds h;go_wp2;refine⟨⟨k+1,by omega,by go_num,?_⟩,by simp[intOf];omega⟩;rw[a.out];exact j
   ·have g:(3000:Int)<(zG kinds k:Int):=by omega
    have a:=vl <| zFd kinds k ahead (by omega) (by omega);generalize zG kinds k=m at *;go_wp2;go_ret;exact⟨zDe a.symm,rfl⟩
  ·have d:(ahead:Int)<=(k:Int):=by omega
   have a:Hid (k=ahead):=by show _=_;omega
   go_wp2;go_ret;exact⟨zDe (by rw[a.out]),rfl⟩
theorem zIz (modes rules b kinds a:Nat)(w:World)(m:modes<=3)(o:rules<=8)(c:b<=200)(d:kinds<=256)(f:a<=3000):
  Calls prog 81 #[agg #[iX modes,iX rules,iX b,iX kinds,iX a]] w λe w'=>e=returned (iX (yS modes rules b kinds a+4:Nat))/\Below w.heap.size w w':=by
 have ⟨p,q,g,j⟩:=zJK b kinds a c d f;have r:(b:Int)*(a:Int)<=600000:=by rw[Int.mul_comm];exact g
 have s:0<=(b:Int)*(a:Int):=by rw[Int.mul_comm];exact j
 have k:=vl <| zNN modes rules b kinds a;generalize yS modes rules b kinds a=n at *;go_in;go_wp2;go_ret;refine⟨zAr ?_,(Below.refl _ _).alloc lQ _⟩;have l:=k.out;rw[Int.mul_comm (a:Int)] at l;omega
section
structure Kept (H a b:Nat)(w w':World):Prop where
 os:w'.os=w.os
 output:w'.output=w.output
 size:w.heap.size<=w'.heap.size
 block:∀k,k<H->k≠a->k≠b->w'.heap[k]? =w.heap[k]?
namespace Kept
variable {H a b:Nat} {w w' w'':World}
theorem refl (H a b:Nat)(w:World):Kept H a b w w:=⟨rfl,rfl,lQ,λ_ _ _ _=>rfl⟩
theorem trans (d:Kept H a b w w')(k:Kept H a b w' w''):Kept H a b w w'':=
 ⟨k.os.trans d.os,k.output.trans d.output,lY d.size k.size,λi e f g=>(k.block i e f g).trans (d.block i e f g)⟩
theorem one (d:Keep H a w w'):Kept H a b w w':=⟨d.os,d.output,d.size,λk e f _=>d.block k e f⟩
theorem two (d:Keep H b w w'):Kept H a b w w':=⟨d.os,d.output,d.size,λk e _ f=>d.block k e f⟩
theorem mono {e:Nat}(d:Kept H a b w w')(f:e<=H):Kept e a b w w':=⟨d.os,d.output,d.size,λk g=>d.block k (by omega)⟩
theorem boxed (w:World)(g i:Nat)(x:Value)(d:H<=g):Kept H a b w (w.setCell ⟨g,i,none⟩ x):=
 ⟨rfl,rfl,by simp[World.setCell],λk e _ _=>lJ _ _ _ _ (by show k≠g;omega)⟩
end Kept
structure Tc where
 stream:Value
 ahead:Value
 hold:Value
 starts:Value
 acts:Value
 pushed:Value
 kinds:Value
 count:Value
 next:Value
 ends:Value
 live:Value
 rows:Value
 longer:Value
def zW (w:World)(b:Nat)(c:Tc):Prop:=
 w.heap[b]? =some (.cells #[c.stream,c.ahead,c.hold,c.starts,c.acts,c.pushed,c.kinds,c.count,c.next,c.ends,c.live,c.rows,c.longer] 90)
namespace zW
variable {w w':World} {b:Nat} {c:Tc}
theorem lt (d:zW w b c):b<w.heap.size:=(kQ.1 d).1
theorem fz (d:zW w b c)(i:Nat):w.frozen? ⟨b,i,none⟩=false:=by unfold zW at d;simp[World.frozen?,d]
theorem of_block (d:zW w b c)(e:w'.heap[b]? =w.heap[b]?):zW w' b c:=e.trans d
theorem get_stream (d:zW w b c):w.cell? ⟨b,0,none⟩=some c.stream:=by unfold zW at d;simp[World.cell?,d]
theorem set_stream (d:zW w b c)(v:Value):zW (w.setCell ⟨b,0,none⟩ v) b {c with stream:=v}:=by unfold zW at *;simp[setCell,lU,d]
theorem get_ahead (d:zW w b c):w.cell? ⟨b,1,none⟩=some c.ahead:=by unfold zW at d;simp[World.cell?,d]
theorem set_ahead (d:zW w b c)(v:Value):zW (w.setCell ⟨b,1,none⟩ v) b {c with ahead:=v}:=by unfold zW at *;simp[setCell,lU,d]
theorem get_hold (d:zW w b c):w.cell? ⟨b,2,none⟩=some c.hold:=by unfold zW at d;simp[World.cell?,d]
theorem set_hold (d:zW w b c)(v:Value):zW (w.setCell ⟨b,2,none⟩ v) b {c with hold:=v}:=by unfold zW at *;simp[setCell,lU,d]
theorem get_starts (d:zW w b c):w.cell? ⟨b,3,none⟩=some c.starts:=by unfold zW at d;simp[World.cell?,d]
theorem set_starts (d:zW w b c)(v:Value):zW (w.setCell ⟨b,3,none⟩ v) b {c with starts:=v}:=by unfold zW at *;simp[setCell,lU,d]
theorem get_acts (d:zW w b c):w.cell? ⟨b,4,none⟩=some c.acts:=by unfold zW at d;simp[World.cell?,d]
theorem set_acts (d:zW w b c)(v:Value):zW (w.setCell ⟨b,4,none⟩ v) b {c with acts:=v}:=by unfold zW at *;simp[setCell,lU,d]
theorem get_pushed (d:zW w b c):w.cell? ⟨b,5,none⟩=some c.pushed:=by unfold zW at d;simp[World.cell?,d]
theorem set_pushed (d:zW w b c)(v:Value):zW (w.setCell ⟨b,5,none⟩ v) b {c with pushed:=v}:=by unfold zW at *;simp[setCell,lU,d]
theorem get_kinds (d:zW w b c):w.cell? ⟨b,6,none⟩=some c.kinds:=by unfold zW at d;simp[World.cell?,d]
theorem set_kinds (d:zW w b c)(v:Value):zW (w.setCell ⟨b,6,none⟩ v) b {c with kinds:=v}:=by unfold zW at *;simp[setCell,lU,d]
theorem get_count (d:zW w b c):w.cell? ⟨b,7,none⟩=some c.count:=by unfold zW at d;simp[World.cell?,d]
theorem set_count (d:zW w b c)(v:Value):zW (w.setCell ⟨b,7,none⟩ v) b {c with count:=v}:=by unfold zW at *;simp[setCell,lU,d]
theorem get_next (d:zW w b c):w.cell? ⟨b,8,none⟩=some c.next:=by unfold zW at d;simp[World.cell?,d]
theorem set_next (d:zW w b c)(v:Value):zW (w.setCell ⟨b,8,none⟩ v) b {c with next:=v}:=by unfold zW at *;simp[setCell,lU,d]
theorem get_ends (d:zW w b c):w.cell? ⟨b,9,none⟩=some c.ends:=by unfold zW at d;simp[World.cell?,d]
theorem set_ends (d:zW w b c)(v:Value):zW (w.setCell ⟨b,9,none⟩ v) b {c with ends:=v}:=by unfold zW at *;simp[setCell,lU,d]
theorem get_live (d:zW w b c):w.cell? ⟨b,10,none⟩=some c.live:=by unfold zW at d;simp[World.cell?,d]
theorem set_live (d:zW w b c)(v:Value):zW (w.setCell ⟨b,10,none⟩ v) b {c with live:=v}:=by unfold zW at *;simp[setCell,lU,d]
theorem get_rows (d:zW w b c):w.cell? ⟨b,11,none⟩=some c.rows:=by unfold zW at d;simp[World.cell?,d]
theorem set_rows (d:zW w b c)(v:Value):zW (w.setCell ⟨b,11,none⟩ v) b {c with rows:=v}:=by unfold zW at *;simp[setCell,lU,d]
theorem get_longer (d:zW w b c):w.cell? ⟨b,12,none⟩=some c.longer:=by unfold zW at d;simp[World.cell?,d]
theorem set_longer (d:zW w b c)(v:Value):zW (w.setCell ⟨b,12,none⟩ v) b {c with longer:=v}:=by unfold zW at *;simp[setCell,lU,d]
end zW
structure Rt (H a b:Nat)(w0 w:World)(s:ByteArray)(p:Nat)(k:Bool)(c:Tc)(L:List (Nat×Obj)):Prop where
 rd:xN w a s p k
 tb:zW w b c
 own:∀x∈L,w.heap[x.1]? =some x.2/\H<=x.1
 kept:Kept H a b w0 w
 ab:a≠b
 aH:a<H
 bH:b<H
 HH:H<=w.heap.size
namespace Rt
variable {H a b:Nat} {w0 w w':World} {s:ByteArray} {p p':Nat} {k k':Bool} {c c':Tc} {L:List (Nat×Obj)}
theorem called (d:Rt H a b w0 w s p k c L)(g:xN w' a s p' k')(e:∀H,Keep H a w w'):Rt H a b w0 w' s p' k' c L:=
 ⟨g,d.tb.of_block ((e w.heap.size).block b d.tb.lt d.ab.symm),λx f=>⟨((e w.heap.size).block x.1 (kQ.1 (d.own x f).1).1 (by have:=(d.own x f).2;have:=d.aH;omega)).trans (d.own x f).1,(d.own x f).2⟩,d.kept.trans (.one (e H)),d.ab,d.aH,d.bH,lY d.HH (e H).size⟩
theorem stored (d:Rt H a b w0 w s p k c L)(i:Nat)(v:Value)(f:zW (w.setCell ⟨b,i,none⟩ v) b c'):Rt H a b w0 (w.setCell ⟨b,i,none⟩ v) s p k c' L:=
 ⟨d.rd.of_block (lJ _ _ _ _ d.ab),f,λx e=>⟨(lJ _ _ _ _ (by have:=(d.own x e).2;have:=d.bH;show x.1≠b;omega)).trans (d.own x e).1,(d.own x e).2⟩,d.kept.trans (.two (Keep.set _ _ _)),d.ab,d.aH,d.bH,by simpa[World.setCell] using d.HH⟩
theorem told (d:Rt H a b w0 w s p k c L)(v:Bool):Rt H a b w0 (w.setCell ⟨a,2,none⟩ (bool v)) s p v c L:=
 d.called (d.rd.set2 v) λ_=>Keep.set _ _ _
theorem alike (d:Rt H a b w0 w s p k c L)(e:w'.Alike w):Rt H a b w0 w' s p k c L:=
 d.called (d.rd.alike e) λ_=>Keep.alike e
theorem alloc (d:Rt H a b w0 w s p k c L)(o:Obj):Rt H a b w0 (w.alloc o) s p k c ((w.heap.size,o)::L):=
 ⟨d.rd.of_block (lG _ _ _ d.rd.lt),d.tb.of_block (lG _ _ _ d.tb.lt),λx e=>by
  rcases List.mem_cons.1 e with rfl|e
  ·exact⟨gZ w o,d.HH⟩
  ·exact⟨(lG _ _ _ (kQ.1 (d.own x e).1).1).trans (d.own x e).1,(d.own x e).2⟩,d.kept.trans (.one (kZ _ _ d.HH)),d.ab,d.aH,d.bH,lY d.HH (by simp)⟩
theorem below (d:Rt H a b w0 w s p k c L)(e:Below w.heap.size w w'):Rt H a b w0 w' s p k c L:=
 ⟨d.rd.of_block (e.block _ d.rd.lt),d.tb.of_block (e.block _ d.tb.lt),λx f=>⟨(e.block _ (kQ.1 (d.own x f).1).1).trans (d.own x f).1,(d.own x f).2⟩,d.kept.trans (.one (Keep.below e d.HH)),d.ab,d.aH,d.bH,lY d.HH e.size⟩
theorem boxed {g:Nat}{o f:Obj}(d:Rt H a b w0 w s p k c ((g,o)::L))(i:Nat)(v:Value)(l:(w.setCell ⟨g,i,none⟩ v).heap[g]? =some f)(m:∀x∈L,x.1≠g):Rt H a b w0 (w.setCell ⟨g,i,none⟩ v) s p k c ((g,f)::L):=by
 have j:=(d.own (g,o) (hJ)).2;have q:=j;refine⟨d.rd.of_block (lJ _ _ _ _ (by have:=d.aH;show a≠g;omega)),d.tb.of_block (lJ _ _ _ _ (by have:=d.bH;show b≠g;omega)),λx e=>?_,d.kept.trans (.boxed _ g i v q),d.ab,d.aH,d.bH,by simpa[World.setCell] using d.HH⟩;rcases List.mem_cons.1 e with rfl|e
 ·exact⟨l,j⟩
 ·have:=d.own x (List.mem_cons_of_mem _ e)
  exact⟨(lJ _ _ _ _ (m x e)).trans this.1,this.2⟩
end Rt
end
theorem Rt.drop {H a b:Nat}{e w:World}{s:ByteArray}{p:Nat}{k:Bool}{c:Tc}{f:List (Nat×Obj)}(d:Rt H a b e w s p k c f):Rt H a b e w s p k c []:=
 ⟨d.rd,d.tb,λx g=>absurd g (List.not_mem_nil),d.kept,d.ab,d.aH,d.bH,d.HH⟩
theorem Rt.boxN {H a b:Nat}{e w:World}{s:ByteArray}{p:Nat}{k:Bool}{c:Tc}(d:Rt H a b e w s p k c [])(g i:Nat)(v:Value)(f:H<=g):Rt H a b e (w.setCell ⟨g,i,none⟩ v) s p k c []:=
 ⟨d.rd.of_block (lJ _ _ _ _ (by have:=d.aH;show a≠g;omega)),d.tb.of_block (lJ _ _ _ _ (by have:=d.bH;show b≠g;omega)),λx j=>absurd j (List.not_mem_nil),d.kept.trans (.boxed _ g i v f),d.ab,d.aH,d.bH,by simpa[World.setCell] using d.HH⟩
theorem zY (n a most:Nat)(b:a<=most):within n a most<=most:=by unfold within;split <;> omega
theorem qL (n a most:Nat):a<=within n a most:=by unfold within;split <;> omega
def xF (s:ByteArray):Nat:=within (byt s 2) 0 1
def xK (s:ByteArray):Nat:=within (byt s 3) 0 255
def vS (s:ByteArray):Nat:=within (byt s 4) 1 64
def zQ (s:ByteArray):Nat:=within (xU s 5) 1 3
def zT (s:ByteArray):Nat:=within (xU s 7) 1 8
def zE (s:ByteArray):Nat:=within (xU s 9) 1 200
def zJ (s:ByteArray):Nat:=within (xU s 11) 1 256
def xP (s:ByteArray):Nat:=zG (zJ s) (xK s)
def hK0 (s:ByteArray):Bool:=true&&decide (0<s.size)&&inB (byt s 0) 76 76
def hK1 (s:ByteArray):Bool:=hK0 s&&decide (1<s.size)&&inB (byt s 1) 88 88
def hK2 (s:ByteArray):Bool:=hK1 s&&decide (2<s.size)&&inB (byt s 2) 0 1
def hK3 (s:ByteArray):Bool:=hK2 s&&decide (3<s.size)&&inB (byt s 3) 0 255
def hK4 (s:ByteArray):Bool:=hK3 s&&decide (4<s.size)&&inB (byt s 4) 1 64
def hK5 (s:ByteArray):Bool:=hK4 s&&decide (6<s.size)&&inB (xU s 5) 1 3
def hK6 (s:ByteArray):Bool:=hK5 s&&decide (8<s.size)&&inB (xU s 7) 1 8
def hK7 (s:ByteArray):Bool:=hK6 s&&decide (10<s.size)&&inB (xU s 9) 1 200
def hK8 (s:ByteArray):Bool:=hK7 s&&decide (12<s.size)&&inB (xU s 11) 1 256
def yZ (s:ByteArray):Bool:=hK8 s&&decide (xP s<=3000)&&(decide (xF s=1)||decide (xK s=0))
theorem zDl (a b H g q:Nat)(w v:World)(s:ByteArray)(k:Bool)(c:Tc)(m0 m1 m2 h j:Nat)
  (d:Rt H a b w v s 13 k c ((q,.cells #[iX m0,iX m1,iX m2,iX h,iX j] 152)::(g,.cells #[zX,zX,zX,zX,zX] 152)::[])) (a5:g≠q)
  {r t u x y z A B C D E F G I J K L M N O P R S T U V W X Y aa ab ac ad ae af ag ah ai aj ak al am an ao ap aq ar au av aw ax ay az aA aB aC aD aE aF aG aH aI aJ aK aL aM aN aO aP aQ aR aS aT aU:Value}:
  Code.wp prog (xO 13 ((f80.body).getD .skip)) (bodyPost prog f80 λe w'=>
   e=returned (agg #[iX m0,iX m1,iX m2,iX h,iX j])/\Rt H a b w w' s 13 k {c with count:=iX h,rows:=iX j} [])
   ⟨(pX a::pX b::r::t::pX g::pX q::u::x::y::z::A::B::C::D::E::F::G::I::J::K::L::M::N::O::P::R::S::T::U::V::W::X::Y::aa::ab::ac::ad::ae::af::ag::ah::ai::aj::ak::al::am::an::ao::ap::aq::ar::au::av::aw::ax::ay::az::aA::aB::aC::aD::aE::aF::aG::aH::aI::aJ::aK::aL::aM::aN::aO::aP::aQ::aR::aS::aT::aU::[]).toArray,[]⟩ v:=by
 conv=>arg 2;whnf
 have p:=vl d;have l:=(d.own _ (hJ)).1;have f:=(d.own _ (List.mem_cons_of_mem _ hJ)).1;have aV:cX v q 0=some (iX m0):=by simp[World.cell?,l]
 have aW:cX v q 1=some (iX m1):=by simp[World.cell?,l]
 have aX:cX v q 2=some (iX m2):=by simp[World.cell?,l]
 have aY:cX v q 3=some (iX h):=by simp[World.cell?,l]
 have aZ:cX v q 4=some (iX j):=by simp[World.cell?,l]
 have a0:cX v g 0=some zX:=by simp[World.cell?,f]
 have a1:cX v g 1=some zX:=by simp[World.cell?,f]
 have a2:cX v g 2=some zX:=by simp[World.cell?,f]
 have y3:cX v g 3=some zX:=by simp[World.cell?,f]
 have a3:cX v g 4=some zX:=by simp[World.cell?,f]
 have a6:v.frozen? ⟨g,0,none⟩=false:=by simp[World.frozen?,f]
 have a7:v.frozen? ⟨g,1,none⟩=false:=by simp[World.frozen?,f]
 have a8:v.frozen? ⟨g,2,none⟩=false:=by simp[World.frozen?,f]
 have a9:v.frozen? ⟨g,3,none⟩=false:=by simp[World.frozen?,f]
 have ba:v.frozen? ⟨g,4,none⟩=false:=by simp[World.frozen?,f]
 have bb:=d.tb.get_count;have bc:=d.tb.get_rows;have bd:=d.tb.fz 7;have be:=d.tb.fz 11;have bf:q≠b:=by have o:=(d.own _ (hJ)).2;have:=d.bH;omega
 have bg:g≠b:=by have o:=(d.own _ (List.mem_cons_of_mem _ hJ)).2;have:=d.bH;omega
 have bh:=d.tb.lt;have m:=(d.own _ (List.mem_cons_of_mem _ hJ)).2;go_wp2;refine gU (v:=agg #[iX m0,iX m1,iX m2,iX h,iX j]) (by simp[results,results80,go_sem,a0,a1,a2,y3,a3,aV,aW,aX,aY,aZ]) rfl ⟨rfl,?_⟩;have o:=p.drop.stored 7 _ (p.tb.set_count (iX h));have a4:=o.stored 11 _ (o.tb.set_rows (iX j));exact((((a4.boxN g 0 _ m).boxN g 1 _ m).boxN g 2 _ m).boxN g 3 _ m).boxN g 4 _ m
theorem zLu (a b H:Nat)(w:World)(s:ByteArray)(c:Tc)(aw:Rt H a b w w s 0 true c [])(p:s.size<=1048576):
  Calls prog 80 #[pX a,pX b] w λe w'=>
   e=returned (agg #[iX (zQ s:Nat),iX (zT s:Nat),iX (zE s:Nat),iX (zJ s:Nat),iX (xP s:Nat)])/\
   Rt H a b w w' s 13 (yZ s) {c with stream:=bool (decide (xF s=1)),ahead:=iX (xK s:Nat),hold:=iX (vS s:Nat),count:=iX (zJ s:Nat),rows:=iX (xP s:Nat)} []:=by
 have ax:=vl aw;go_in;go_wp2_with fail;obtain⟨v0,ay,al⟩:∃v,v=w.alloc (.cells #[zX,zX,zX,zX,zX] 152)/\Hid (Rt H a b w v s 0 true c [(w.heap.size,.cells #[zX,zX,zX,zX,zX] 152)]):=⟨_,rfl,ax.alloc _⟩
 rw[<-ay];generalize w.heap.size=g at *;refine(zBb a 0 s (true) v0 al.rd p 76 76).mono ?_;rintro e w1 ⟨rfl,h,j⟩;have am:=vl <| al.called h j;have V:=vl am;clear am;go_wp2_with fail;refine(zBb a 1 s (hK0 s) w1 V.rd p 88 88).mono ?_;rintro e w2 ⟨rfl,h,j⟩;have an:Hid (Rt H a b w w2 s 2 (hK1 s) c [(g,.cells #[zX,zX,zX,zX,zX] 152)]):=V.called h j;clear h j V;have W:Hid (Rt H a b w w2 s 2 (hK1 s) c [(g,.cells #[zX,zX,zX,zX,zX] 152)]):=an;clear an;go_wp2_with fail;refine(zBb a 2 s (hK1 s) w2 W.rd p 0 1).mono ?_;rintro e X ⟨rfl,h,j⟩;have G:Hid (Rt H a b w X s 3 (hK2 s) c [(g,.cells #[zX,zX,zX,zX,zX] 152)]):=W.called h j;clear h j W;have m:=G.tb.get_stream;have k:=G.tb.fz 0;have aK:xF s<=1:=zY (byt s 2) 0 1 (by decide);rw[show within (byt s 2) 0 1=xF s from rfl];have az:((xF s:Int)==1)=decide (xF s=1):=by rw[Bool.eq_iff_iff];simp only[beq_iff_eq,decide_eq_true_eq];omega
 go_wp2_with fail;clear az;obtain⟨ao,f,Y⟩:∃v,v=X.setCell ⟨b,0,none⟩ (bool (decide (xF s=1)))/\Hid (Rt H a b w v s 3 (hK2 s) {c with stream:=bool (decide (xF s=1))} [(g,.cells #[zX,zX,zX,zX,zX] 152)]):=⟨_,rfl,G.stored 0 _ (G.tb.set_stream _)⟩
 have E:ao.heap.size=X.heap.size:=by rw[f];simp[World.setCell]
 rw[<-f];clear f G m k;refine(zBb a 3 s (hK2 s) ao Y.rd p 0 255).mono ?_;rintro e aa ⟨rfl,h,j⟩;have I:Hid (Rt H a b w aa s 4 (hK3 s) {c with stream:=bool (decide (xF s=1))} [(g,.cells #[zX,zX,zX,zX,zX] 152)]):=Y.called h j;clear h j Y;have m:=I.tb.get_ahead;have k:=I.tb.fz 1;have aA:xK s<=255:=zY (byt s 3) 0 255 (by decide);rw[show within (byt s 3) 0 255=xK s from rfl];go_wp2_with fail;clear E;obtain⟨ap,f,ab⟩:∃v,v=aa.setCell ⟨b,1,none⟩ (iX (xK s:Nat))/\Hid (Rt H a b w v s 4 (hK3 s) {c with stream:=bool (decide (xF s=1)),ahead:=iX (xK s:Nat)} [(g,.cells #[zX,zX,zX,zX,zX] 152)]):=⟨_,rfl,I.stored 1 _ (I.tb.set_ahead _)⟩
 have E:ap.heap.size=aa.heap.size:=by rw[f];simp[World.setCell]
 rw[<-f];clear f I m k;refine(zBb a 4 s (hK3 s) ap ab.rd p 1 64).mono ?_;rintro e P ⟨rfl,h,j⟩;have J:Hid (Rt H a b w P s 5 (hK4 s) {c with stream:=bool (decide (xF s=1)),ahead:=iX (xK s:Nat)} [(g,.cells #[zX,zX,zX,zX,zX] 152)]):=ab.called h j;clear h j ab;have m:=J.tb.get_hold;have k:=J.tb.fz 2;have aL:vS s<=64:=zY (byt s 4) 1 64 (by decide);rw[show within (byt s 4) 1 64=vS s from rfl];go_wp2_with fail;clear E;obtain⟨K,f,ac⟩:∃v,v=P.setCell ⟨b,2,none⟩ (iX (vS s:Nat))/\Hid (Rt H a b w v s 5 (hK4 s) {c with stream:=bool (decide (xF s=1)),ahead:=iX (xK s:Nat),hold:=iX (vS s:Nat)} [(g,.cells #[zX,zX,zX,zX,zX] 152)]):=⟨_,rfl,J.stored 2 _ (J.tb.set_hold _)⟩
 have E:K.heap.size=P.heap.size:=by rw[f];simp[World.setCell]
 rw[<-f];clear f J m k;obtain⟨aB,aq,R⟩:∃v,v=(K.alloc (.cells #[zX,zX,zX,zX,zX] 152))/\Hid (Rt H a b w v s 5 (hK4 s) {c with stream:=bool (decide (xF s=1)),ahead:=iX (xK s:Nat),hold:=iX (vS s:Nat)} [(K.heap.size,.cells #[zX,zX,zX,zX,zX] 152),(g,.cells #[zX,zX,zX,zX,zX] 152)]):=⟨_,rfl,ac.alloc _⟩
 rw[<-aq];have o:g≠K.heap.size:=by have:=(ac.own _ (hJ)).1;have:=(kQ.1 this).1;have e:g<K.heap.size:=this;omega
 rw[E] at R o;generalize P.heap.size=q at *;clear aq ac E;refine(zEP a 5 s (hK4 s) aB R.rd p 1 3).mono ?_;rintro e L ⟨rfl,h,j⟩;have ad:Hid (Rt H a b w L s 7 (hK5 s) {c with stream:=bool (decide (xF s=1)),ahead:=iX (xK s:Nat),hold:=iX (vS s:Nat)} [(q,.cells #[zX,zX,zX,zX,zX] 152),(g,.cells #[zX,zX,zX,zX,zX] 152)]):=R.called h j;clear h j R;have d:L.heap[q]? =some (.cells #[zX,zX,zX,zX,zX] 152):=(ad.own _ (hJ)).1;have m:cX L q 0=some zX:=by simp[World.cell?,d]
 have k:L.frozen? ⟨q,0,none⟩=false:=by simp[World.frozen?,d]
 have aM:zQ s<=3:=zY (xU s 5) 1 3 (by decide);rw[show within (xU s 5) 1 3=zQ s from rfl];go_wp2_with fail;obtain⟨aC,f,ae⟩:∃v,v=L.setCell ⟨q,0,none⟩ (iX (zQ s:Nat))/\Hid (Rt H a b w v s 7 (hK5 s) {c with stream:=bool (decide (xF s=1)),ahead:=iX (xK s:Nat),hold:=iX (vS s:Nat)} [(q,.cells #[iX (zQ s:Nat),zX,zX,zX,zX] 152),(g,.cells #[zX,zX,zX,zX,zX] 152)]):=⟨_,rfl,ad.boxed 0 _ (by simp[setCell,lU,d]) (λx l=>by rw[kY] at l;rw[l];exact o)⟩
 rw[<-f];clear f ad m k d;refine(zEP a 7 s (hK5 s) aC ae.rd p 1 8).mono ?_;rintro e M ⟨rfl,h,j⟩;have af:Hid (Rt H a b w M s 9 (hK6 s) {c with stream:=bool (decide (xF s=1)),ahead:=iX (xK s:Nat),hold:=iX (vS s:Nat)} [(q,.cells #[iX (zQ s:Nat),zX,zX,zX,zX] 152),(g,.cells #[zX,zX,zX,zX,zX] 152)]):=ae.called h j;clear h j ae;have d:M.heap[q]? =some (.cells #[iX (zQ s:Nat),zX,zX,zX,zX] 152):=(af.own _ (hJ)).1;have m:cX M q 1=some zX:=by simp[World.cell?,d]
 have k:M.frozen? ⟨q,1,none⟩=false:=by simp[World.frozen?,d]
 have aN:zT s<=8:=zY (xU s 7) 1 8 (by decide);rw[show within (xU s 7) 1 8=zT s from rfl];go_wp2_with fail;obtain⟨aD,f,ag⟩:∃v,v=M.setCell ⟨q,1,none⟩ (iX (zT s:Nat))/\Hid (Rt H a b w v s 9 (hK6 s) {c with stream:=bool (decide (xF s=1)),ahead:=iX (xK s:Nat),hold:=iX (vS s:Nat)} [(q,.cells #[iX (zQ s:Nat),iX (zT s:Nat),zX,zX,zX] 152),(g,.cells #[zX,zX,zX,zX,zX] 152)]):=⟨_,rfl,af.boxed 1 _ (by simp[setCell,lU,d]) (λx l=>by rw[kY] at l;rw[l];exact o)⟩
 rw[<-f];clear f af m k d;refine(zEP a 9 s (hK6 s) aD ag.rd p 1 200).mono ?_;rintro e N ⟨rfl,h,j⟩;have ah:Hid (Rt H a b w N s 11 (hK7 s) {c with stream:=bool (decide (xF s=1)),ahead:=iX (xK s:Nat),hold:=iX (vS s:Nat)} [(q,.cells #[iX (zQ s:Nat),iX (zT s:Nat),zX,zX,zX] 152),(g,.cells #[zX,zX,zX,zX,zX] 152)]):=ag.called h j;clear h j ag;have d:N.heap[q]? =some (.cells #[iX (zQ s:Nat),iX (zT s:Nat),zX,zX,zX] 152):=(ah.own _ (hJ)).1;have m:cX N q 2=some zX:=by simp[World.cell?,d]
 have k:N.frozen? ⟨q,2,none⟩=false:=by simp[World.frozen?,d]
 have aO:zE s<=200:=zY (xU s 9) 1 200 (by decide);rw[show within (xU s 9) 1 200=zE s from rfl];go_wp2_with fail;obtain⟨aE,f,ai⟩:∃v,v=N.setCell ⟨q,2,none⟩ (iX (zE s:Nat))/\Hid (Rt H a b w v s 11 (hK7 s) {c with stream:=bool (decide (xF s=1)),ahead:=iX (xK s:Nat),hold:=iX (vS s:Nat)} [(q,.cells #[iX (zQ s:Nat),iX (zT s:Nat),iX (zE s:Nat),zX,zX] 152),(g,.cells #[zX,zX,zX,zX,zX] 152)]):=⟨_,rfl,ah.boxed 2 _ (by simp[setCell,lU,d]) (λx l=>by rw[kY] at l;rw[l];exact o)⟩
 rw[<-f];clear f ah m k d;refine(zEP a 11 s (hK7 s) aE ai.rd p 1 256).mono ?_;rintro e O ⟨rfl,h,j⟩;have aj:Hid (Rt H a b w O s 13 (hK8 s) {c with stream:=bool (decide (xF s=1)),ahead:=iX (xK s:Nat),hold:=iX (vS s:Nat)} [(q,.cells #[iX (zQ s:Nat),iX (zT s:Nat),iX (zE s:Nat),zX,zX] 152),(g,.cells #[zX,zX,zX,zX,zX] 152)]):=ai.called h j;clear h j ai;have d:O.heap[q]? =some (.cells #[iX (zQ s:Nat),iX (zT s:Nat),iX (zE s:Nat),zX,zX] 152):=(aj.own _ (hJ)).1;have m:cX O q 3=some zX:=by simp[World.cell?,d]
 have k:O.frozen? ⟨q,3,none⟩=false:=by simp[World.frozen?,d]
 have aF:zJ s<=256:=zY (xU s 11) 1 256 (by decide);rw[show within (xU s 11) 1 256=zJ s from rfl];go_wp2_with fail;obtain⟨F,f,S⟩:∃v,v=O.setCell ⟨q,3,none⟩ (iX (zJ s:Nat))/\Hid (Rt H a b w v s 13 (hK8 s) {c with stream:=bool (decide (xF s=1)),ahead:=iX (xK s:Nat),hold:=iX (vS s:Nat)} [(q,.cells #[iX (zQ s:Nat),iX (zT s:Nat),iX (zE s:Nat),iX (zJ s:Nat),zX] 152),(g,.cells #[zX,zX,zX,zX,zX] 152)]):=⟨_,rfl,aj.boxed 3 _ (by simp[setCell,lU,d]) (λx l=>by rw[kY] at l;rw[l];exact o)⟩
 rw[<-f];clear f aj m k d;have d:F.heap[q]? =some (.cells #[iX (zQ s:Nat),iX (zT s:Nat),iX (zE s:Nat),iX (zJ s:Nat),zX] 152):=(S.own _ (hJ)).1;have aG:cX F q 3=some (iX (zJ s:Nat)):=by simp[World.cell?,d]
 have ar:cX F q 4=some zX:=by simp[World.cell?,d]
 have aH:F.frozen? ⟨q,4,none⟩=false:=by simp[World.frozen?,d]
 have au:cX F b 1=some (iX (xK s:Nat)):=S.tb.get_ahead
 rename_i aI av
 have T:Hid (∀a w,_->aI a w):=av;clear av;go_region_with ((go_at_call 101;go_must ((refine (zDK (zJ s) (xK s) _ aF aA).mono ?_;rintro e aP ⟨rfl,rfl⟩))))
 all_goals
  rw[show zG (zJ s) (xK s)=xP s from rfl];obtain⟨t,f,r⟩:∃v,v=(F.setCell ⟨q,4,none⟩ (iX (xP s:Nat))).drew/\Hid (Rt H a b w v s 13 (hK8 s) {c with stream:=bool (decide (xF s=1)),ahead:=iX (xK s:Nat),hold:=iX (vS s:Nat)} [(q,.cells #[iX (zQ s:Nat),iX (zT s:Nat),iX (zE s:Nat),iX (zJ s:Nat),iX (xP s:Nat)] 152),(g,.cells #[zX,zX,zX,zX,zX] 152)]):=⟨_,rfl,(S.boxed 4 _ (by simp[setCell,lU,d]) (λx l=>by rw[kY] at l;rw[l];exact o)).alike ⟨rfl,rfl,rfl⟩⟩
  rw[<-f];clear f S d aG ar aH au;have d:t.heap[q]? =some (.cells #[iX (zQ s:Nat),iX (zT s:Nat),iX (zE s:Nat),iX (zJ s:Nat),iX (xP s:Nat)] 152):=(r.own _ (hJ)).1;have ar:cX t q 4=some (iX (xP s:Nat)):=by simp[World.cell?,d]
  have xs:cX t b 0=some (bool (decide (xF s=1))):=r.tb.get_stream;have au:cX t b 1=some (iX (xK s:Nat)):=r.tb.get_ahead;have aQ:=r.rd.c2;have k:=r.rd.fz 2;clear d;by_cases z:xP s<=3000
  ·by_cases u:xF s=1
   ·have A:Hid (yZ s=hK8 s):=by show _=_;unfold yZ;rw[gG z,gG u];simp
    have ak:(xP s:Int)<=3000:=by omega
    have y:decide (xF s=1)=true:=gG u;rw[y] at xs;clear z u y;apply T.out;refine wp_seq_k ?_;intro B hK2;have C:Hid (∀a w,_->B a w):=hK2;clear hK2;go_wp2_with fail;have D:Rt H a b w t s 13 (yZ s) {c with stream:=bool (decide (xF s=1)),ahead:=iX (xK s:Nat),hold:=iX (vS s:Nat)} [(q,.cells #[iX (zQ s:Nat),iX (zT s:Nat),iX (zE s:Nat),iX (zJ s:Nat),iX (xP s:Nat)] 152),(g,.cells #[zX,zX,zX,zX,zX] 152)]:=by rw[A.out];exact r
    exact C _ _ (zDl a b H g q w _ s (yZ s) _ (zQ s) (zT s) (zE s) (zJ s) (xP s) D o)
   ·by_cases U:xK s=0
    ·have A:Hid (yZ s=hK8 s):=by show _=_;unfold yZ;rw[gG z,gG U];simp
     have ak:(xP s:Int)<=3000:=by omega
     have y:decide (xF s=1)=false:=gJ u;have aJ:(xK s:Int)<=0:=by omega
     rw[y] at xs;clear z u y U;apply T.out;refine wp_seq_k ?_;intro B hK2;have C:Hid (∀a w,_->B a w):=hK2;clear hK2;go_wp2_with fail;have D:Rt H a b w t s 13 (yZ s) {c with stream:=bool (decide (xF s=1)),ahead:=iX (xK s:Nat),hold:=iX (vS s:Nat)} [(q,.cells #[iX (zQ s:Nat),iX (zT s:Nat),iX (zE s:Nat),iX (zJ s:Nat),iX (xP s:Nat)] 152),(g,.cells #[zX,zX,zX,zX,zX] 152)]:=by rw[A.out];exact r
     exact C _ _ (zDl a b H g q w _ s (yZ s) _ (zQ s) (zT s) (zE s) (zJ s) (xP s) D o)
    ·have A:Hid (yZ s=false):=by show _=_;unfold yZ;rw[gJ u,gJ U];simp
     have ak:(xP s:Int)<=3000:=by omega
     have y:decide (xF s=1)=false:=gJ u;have aJ:0<(xK s:Int):=by omega
     rw[y] at xs;clear z u y U;apply T.out;refine wp_seq_k ?_;intro B hK2;have C:Hid (∀a w,_->B a w):=hK2;clear hK2;go_wp2_with fail;have D:Rt H a b w (t.setCell ⟨a,2,none⟩ fX) s 13 (yZ s) {c with stream:=bool (decide (xF s=1)),ahead:=iX (xK s:Nat),hold:=iX (vS s:Nat)} [(q,.cells #[iX (zQ s:Nat),iX (zT s:Nat),iX (zE s:Nat),iX (zJ s:Nat),iX (xP s:Nat)] 152),(g,.cells #[zX,zX,zX,zX,zX] 152)]:=by rw[A.out];exact r.told false
     exact C _ _ (zDl a b H g q w _ s (yZ s) _ (zQ s) (zT s) (zE s) (zJ s) (xP s) D o)
  ·have A:Hid (yZ s=false):=by show _=_;unfold yZ;rw[gJ z];simp
   have ak:3000<(xP s:Int):=by omega
   clear z;apply T.out;refine wp_seq_k ?_;intro B hK2;have C:Hid (∀a w,_->B a w):=hK2;clear hK2;go_wp2_with fail;have D:Rt H a b w (t.setCell ⟨a,2,none⟩ fX) s 13 (yZ s) {c with stream:=bool (decide (xF s=1)),ahead:=iX (xK s:Nat),hold:=iX (vS s:Nat)} [(q,.cells #[iX (zQ s:Nat),iX (zT s:Nat),iX (zE s:Nat),iX (zJ s:Nat),iX (xP s:Nat)] 152),(g,.cells #[zX,zX,zX,zX,zX] 152)]:=by rw[A.out];exact r.told false
   exact C _ _ (zDl a b H g q w _ s (yZ s) _ (zQ s) (zT s) (zE s) (zJ s) (xP s) D o)
theorem yG:(prog.info? 3).map (λi=>(i.zero,i.size,i.bytes))=some (some zX,1,8):=by kernel_rfl
theorem zIE:(prog.info? 5).map (λi=>(i.zero,i.size,i.bytes))=some (some (int .u8 0),1,1):=by kernel_rfl
theorem vR:(prog.info? 4).map (λi=>(i.zero,i.size,i.bytes))=some (some (bool false),1,1):=by kernel_rfl
theorem zEp:(prog.info? 45).map (λi=>(i.zero,i.size,i.bytes))=some (some nX,1,24):=by kernel_rfl
theorem xX {w w':World}{H a:Nat}{e:TypeId}{b:Nat}{v:Value}{n:Nat}{xs:List Value}(c:w.ownsRow H e b v n xs)(f:∀H,Keep H a w w')(p:a<H):w'.ownsRow H e b v n xs:=by
 refine⟨c.1,c.2.imp id ?_⟩;rintro⟨g,cap,j,k,l,d,m⟩;have o:=(kQ.1 d).1;exact⟨g,cap,j,k,l,((f w.heap.size).block g o (by omega)).trans d,m⟩
theorem xH {w1 w2:World}{o:Obj}{H:Nat}{v:Value}{e:TypeId}{b n:Nat}{xs:List Value}(c:w1.ownsRow H e b v n xs)(a:(w1.alloc o).grownBy w2 v.ownBlock)(d:H<=w1.heap.size):Below H w1 w2:=
 ((Below.refl H w1).alloc d o).trans ⟨a.os,a.tape,a.output,a.size,λk f=>a.block k (by simp;omega) λe=>by have:=(c.lt k e.symm).1;omega⟩
theorem xE {H a:Nat}{w w':World}(b:Below H w w'):Keep H a w w':=⟨b.os,b.output,b.size,λk c _=>b.block k c⟩
theorem xQ {a:Type}(f:Nat->a)(j:Nat):(List.range (j+1)).map f=(List.range j).map f++[f j]:=by rw[List.range_succ,List.map_append];rfl
def yX (s:ByteArray)(p:Nat):Nat->Nat
 |0=>0
 |i+1=>if within (byt s (p+i)) 0 (yX s p i)=yX s p i then yX s p i+1 else yX s p i
def zBj (s:ByteArray)(p i:Nat):Nat:=within (byt s (p+i)) 0 (yX s p i)
def vI (s:ByteArray)(p:Nat):Nat->Bool
 |0=>true
 |i+1=>vI s p i&&decide (p+i<s.size)&&inB (byt s (p+i)) 0 (yX s p i)
theorem zPb {x m f:Nat}(a:((x:Int)==(m:Int))=true)(e:f=if x=m then m+1 else m):Value.int IntKind.i64 ((m:Int)+1)=iX (f:Nat):=by
 rw[beq_iff_eq] at a;rw[e,if_pos (by omega)];rfl
theorem zP5 {x m f:Nat}(a:((x:Int)==(m:Int))=false)(e:f=if x=m then m+1 else m):Value.int IntKind.i64 (m:Int)=iX (f:Nat):=by
 rw[hX] at a;rw[e,if_neg (by omega)]
theorem zPc (s:ByteArray)(p i:Nat):yX s p i<=i:=by
 induction i with
 |zero=>exact lQ
 |succ i a=>simp only[yX];split <;> omega
theorem zJ7 (a p count:Nat)(s:ByteArray)(k:Bool)(w:World)(B:xN w a s p k)(I:s.size<=1048576)(ah:count<=256):
  Calls prog 115 #[pX a,iX count] w λe w'=>
   ∃v,e=returned v/\w'.ownsRow w.heap.size 3 1 v 256 ((List.range 256).map λi=>iX (zBj s p i:Nat))/\
   xN w' a s (p+256) (k&&vI s p 256&&decide (yX s p 256=count))/\Keep w.heap.size a w w':=by
 have ⟨J,K,L,M,N⟩:=info_parts yG;have t:=B.lt;have f:=vl B;go_in;go_wp2;go_loopg [5,6,7] 256 (λq O P i wr=>∃j:Nat,q=256-j/\j<=256/\i=iX (j:Int)/\P=iX (yX s p j:Nat)/\wr.ownsRow w.heap.size 3 1 O j ((List.range j).map λi=>iX (zBj s p i:Nat))/\xN wr a s (p+j) (k&&vI s p j)/\Keep w.heap.size a w wr)
 case atStart=>exact⟨0,rfl,lX,rfl,rfl,ownsRow_nil _ _ _ _,f.to rfl (by simp[vI]),Keep.refl _ _ _⟩
 case round=>
  obtain⟨j,y,ai,rfl,rfl,h,b,l⟩:=hrel;have aj:=zPc s p j;by_cases ak:j<256
  ·have R:(j:Int)<256:=by omega
   have z:Hid (gk=256-j/\xN wr a s (p+j) (k&&vI s p j)/\Keep w.heap.size a w wr):=⟨y,b,l⟩
   have o:=vl h;have c:Hid (yX s p (j+1)=if within (byt s (p+j)) 0 (yX s p j)=yX s p j then yX s p j+1 else yX s p j):=rfl;have S:Hid (zBj s p j=within (byt s (p+j)) 0 (yX s p j)):=rfl;have T:Hid (vI s p (j+1)=(vI s p j&&decide (p+j<s.size)&&inB (byt s (p+j)) 0 (yX s p j))):=rfl;go_wp2_with fail;refine(zBb a (p+j) s (k&&vI s p j) wr z.2.1 I 0 (yX s p j)).mono ?_;rintro e w1 ⟨rfl,U,C⟩;have V:=zY (byt s (p+j)) 0 (yX s p j) lX;have W:Hid (xN w1 a s (p+(j+1)) (k&&vI s p (j+1))):=by show xN _ _ _ _ _;rw[T.out];exact U.to rfl (by simp[Bool.and_assoc])
   have D:=vl <| xX o C t;have E:=vl <| z.2.2.trans (C _);have X:=E.size;rw[<-S.out] at V c ⊢;generalize Y:zBj s p j=x at *;have aa:=vl Y;generalize yX s p j=m at *;go_wp2_with (at_builtin;refine wpList_append_lies _ rfl _ _ 45 rfl w.heap.size 3 J zX 1 8 underlying45 K L M N rfl (by decide) _ _ _ rfl (D.alloc _) ⟨w1.heap.size,0,none⟩ 1 1 [iX (x:Int)] rfl rfl (cell_one_new _ _ _) (by intro u F;simp at F;subst F;rfl) (by decide) (by unfold maxLen;omega) (by omega) (by simp;omega) _ rfl ?_;intro g cap w2 ab ac al am)
   all_goals
    have G:=xH D ac X;have ad:=W.of_block (G.block a t);have ae:=E.trans (xE G);have af:w2.ownsRow w.heap.size 3 1 (slice (qX g) (j+1) cap) (j+1) ((List.range (j+1)).map λi=>iX (zBj s p i:Nat)):=by
     rw[xQ,aa.out];exact ab
    go_roundg (256-(j+1))
    case measure=>rw[z.out.1];omega
    case rel=>exact⟨j+1,rfl,by omega,congrArg (Value.int IntKind.i64) (by omega),by first|exact zPb ‹_› c|exact zP5 ‹_› c,af,ad,ae⟩
  ·have d:j=256:=by omega
   have R:(256:Int)<=(j:Int):=by omega
   have an:=b.c2;have ao:=b.fz 2;have o:Hid (wr.ownsRow w.heap.size 3 1 u5 256 ((List.range 256).map λi=>iX (zBj s p i:Nat))):=by rw[<-d];exact h
   have f:Hid (xN wr a s (p+256) (k&&vI s p 256)):=by rw[<-d];exact b
   have H:=vl l;have c:Hid (yX s p j=yX s p 256):=by show _=_;rw[d]
   by_cases r:yX s p j=count
   ·have ag:((yX s p j:Int) != (count:Int))=false:=by rw[bne_eq_false_iff_eq];omega
    have A:Hid (yX s p 256=count):=by rw[<-c.out];exact r
    clear b l h d y r;go_wp2;go_ret;exact⟨_,rfl,o,f.to rfl (by rw[gG A.out,Bool.and_true]),H⟩
   ·have ag:((yX s p j:Int) != (count:Int))=true:=by rw[bne_iff_ne];omega
    have A:Hid (¬yX s p 256=count):=by rw[<-c.out];exact r
    clear b l h d y r;go_wp2_with fail;go_ret;exact⟨_,rfl,xX o (λ_=>Keep.set _ _ _) t,(f.set2 false).to rfl (by rw[gJ A.out,Bool.and_false]),H.trans (Keep.set _ _ _)⟩
theorem yE {w:World}{H a:Nat}{e:TypeId}{b:Nat}{v:Value}{n:Nat}{xs:List Value}(c:w.ownsRow H e b v n xs)(d:a<=H):w.ownsRow a e b v n xs:=by
 refine⟨c.1,c.2.imp id ?_⟩;rintro⟨g,cap,f,j,k,l,m⟩;exact⟨g,cap,f,j,lY d k,l,m⟩
def toF (s:ByteArray)(p states i:Nat):Nat:=within (xU s (p+2*i)) 0 (states-1)
def toK (s:ByteArray)(p states:Nat):Nat->Bool
 |0=>true
 |i+1=>toK s p states i&&decide (p+2*i+1<s.size)&&inB (xU s (p+2*i)) 0 (states-1)
theorem zMO (a p:Nat)(s:ByteArray)(k:Bool)(w:World)(z:xN w a s p k)(E:s.size<=1048576)(m0 m1 b kinds h:Nat)(ag:1<=b)(ah:b<=200)(ai:kinds<=256):
  Calls prog 116 #[pX a,agg #[iX m0,iX m1,iX b,iX kinds,iX h]] w λe w'=>
   ∃v,e=returned v/\w'.ownsRow w.heap.size 3 1 v kinds ((List.range kinds).map λi=>iX (toF s p b i:Nat))/\
   xN w' a s (p+2*kinds) (k&&toK s p b kinds)/\Keep w.heap.size a w w':=by
 have ⟨F,G,H,I,J⟩:=info_parts yG;have K:=z.lt;have l:=vl z;go_in;go_wp2;go_loopg [5,6] kinds (λq L i wr=>∃j:Nat,q=kinds-j/\j<=kinds/\i=iX (j:Int)/\wr.ownsRow (w.heap.size+1) 3 1 L j ((List.range j).map λi=>iX (toF s p b i:Nat))/\xN wr a s (p+2*j) (k&&toK s p b j)/\Keep w.heap.size a w wr/\w.heap.size+1<=wr.heap.size/\wr.heap[w.heap.size]? =some (.cells #[iX m0,iX m1,iX b,iX kinds,iX h] 152))
 case atStart=>exact⟨0,rfl,lX,rfl,ownsRow_nil _ _ _ _,(l.of_block (lG _ _ _ K)).to rfl (by simp[toK]),kZ _ _ lQ,by simp,gZ w _⟩
 case round=>
  obtain⟨j,M,aj,rfl,m,o,r,N,t⟩:=hrel;have ak:cX wr w.heap.size 2=some (iX b):=by simp[World.cell?,t]
  have y3:cX wr w.heap.size 3=some (iX kinds):=by simp[World.cell?,t]
  by_cases al:j<kinds
  ·have O:(j:Int)<(kinds:Int):=by omega
   have d:Hid (gk=kinds-j/\xN wr a s (p+2*j) (k&&toK s p b j)/\Keep w.heap.size a w wr/\wr.heap[w.heap.size]? =some (.cells #[iX m0,iX m1,iX b,iX kinds,iX h] 152)):=⟨M,o,r,t⟩
   have y:=vl m;have P:Hid (toF s p b j=within (xU s (p+2*j)) 0 (b-1)):=rfl;have R:Hid (toK s p b (j+1)=(toK s p b j&&decide (p+2*j+1<s.size)&&inB (xU s (p+2*j)) 0 (b-1))):=rfl;have am:(b:Int)-1=((b-1:Nat):Int):=by omega
   have S:=zY (xU s (p+2*j)) 0 (b-1) lX;go_wp2_with fail;refine(zEP a (p+2*j) s (k&&toK s p b j) wr d.2.1 E 0 (b-1)).mono ?_;rintro e w1 ⟨rfl,T,f⟩;have U:Hid (xN w1 a s (p+2*(j+1)) (k&&toK s p b (j+1))):=by show xN _ _ _ _ _;rw[R.out];exact T.to rfl (by simp[Bool.and_assoc])
   have A:=vl <| xX y f (by omega);have V:=vl <| d.2.2.1.trans (f _);have W:=vl <| ((f (w.heap.size+1)).block _ (by omega) (by omega)).trans d.2.2.2;have B:=lY N (f 0).size;rw[<-P.out] at S ⊢;generalize X:toF s p b j=x at *;have Y:=vl X;go_wp2_with (at_builtin;refine wpList_append_lies _ rfl _ _ 45 rfl (w.heap.size+1) 3 F zX 1 8 underlying45 G H I J rfl (by decide) _ _ _ rfl (A.alloc _) ⟨w1.heap.size,0,none⟩ 1 1 [iX (x:Int)] rfl rfl (cell_one_new _ _ _) (by intro u C;simp at C;subst C;rfl) (by decide) (by unfold maxLen;omega) (by omega) (by simp;omega) _ rfl ?_;intro g cap w2 aa ab an ao)
   have c:=xH A ab B;have ac:=U.of_block (c.block a (by omega));have ad:=V.trans ⟨c.os,c.output,c.size,λk r _=>c.block k (by omega)⟩;have ae:w2.ownsRow (w.heap.size+1) 3 1 (slice (qX g) (j+1) cap) (j+1) ((List.range (j+1)).map λi=>iX (toF s p b i:Nat)):=by
    rw[xQ,Y.out];exact aa
   go_roundg (kinds-(j+1))
   case measure=>rw[d.out.1];omega
   case rel=>exact⟨j+1,rfl,by omega,congrArg (Value.int IntKind.i64) (by omega),ae,ac,ad,lY B c.size,(c.block _ (by omega)).trans W⟩
  ·have D:j=kinds:=by omega
   have O:(kinds:Int)<=(j:Int):=by omega
   have y:Hid (wr.ownsRow w.heap.size 3 1 u5 kinds ((List.range kinds).map λi=>iX (toF s p b i:Nat))):=by rw[D] at m;exact yE m (Nat.le_succ _)
   have l:Hid (xN wr a s (p+2*kinds) (k&&toK s p b kinds)):=by rw[D] at o;exact o
   have af:=vl r;go_wp2;go_ret;exact⟨_,rfl,y,l,af⟩
def jW (n j:Nat):Nat:=if n-8*j<8 then 2^(n-8*j)-1 else 255
def zDU (s:ByteArray)(p n j:Nat):Nat:=within (byt s (p+j)) 0 (jW n j)
def zBs (s:ByteArray)(p n:Nat):Nat->Bool
 |0=>true
 |j+1=>zBs s p n j&&decide (p+j<s.size)&&inB (byt s (p+j)) 0 (jW n j)
theorem zJ0 (n j:Nat):jW n j<=255:=by
 unfold jW;split
 ·rename_i a
  have:2^(n-8*j)<=2^8:=kG (by decide) (by omega);omega
 ·exact lQ
theorem zNO (c:Nat)(b:c<8):wrap64 (wrap64 ((2:Int)^c)-1)=((2^c-1:Nat):Int):=by
 have a:(2:Int)^c=((2^c:Nat):Int):=by simp
 have d:2^c<=2^8:=kG (by decide) (by omega);have e:=Nat.two_pow_pos c;rw[a];generalize 2^c=m at *;rw[w64 (m:Int) (by omega) (by omega),w64 _ (by omega) (by omega)];omega
theorem zLT (a p n:Nat)(s:ByteArray)(k:Bool)(w:World)(V:xN w a s p k)(W:s.size<=1048576)(an:n<=600000):
  Calls prog 117 #[pX a,iX n] w λe w'=>
   ∃v,e=returned v/\w'.ownsRow w.heap.size 5 1 v ((n+7)/8) ((List.range ((n+7)/8)).map λi=>int .u8 (zDU s p n i:Nat))/\
   xN w' a s (p+(n+7)/8) (k&&zBs s p n ((n+7)/8))/\Keep w.heap.size a w w':=by
 have ⟨X,Y,aa,ab,ac⟩:=info_parts zIE;have t:=V.lt;have E:=vl V;go_in;go_wp2;go_loopg [1,5] ((n+7)/8) (λq cnt af wr=>∃j:Nat,q=(n+7)/8-j/\j<=(n+7)/8/\cnt=iX ((n:Int)-8*(j:Int))/\wr.ownsRow w.heap.size 5 1 af j ((List.range j).map λi=>int .u8 (zDU s p n i:Nat))/\xN wr a s (p+j) (k&&zBs s p n j)/\Keep w.heap.size a w wr)
 case atStart=>exact⟨0,rfl,lX,by simp,ownsRow_nil _ _ _ _,E.to rfl (by simp[zBs]),Keep.refl _ _ _⟩
 case round=>
  obtain⟨j,ad,ao,rfl,y,z,F⟩:=hrel;by_cases G:8*j<n
  ·have ag:(0:Int)<(n:Int)-8*(j:Int):=by omega
   have b:Hid (gk=(n+7)/8-j/\xN wr a s (p+j) (k&&zBs s p n j)/\Keep w.heap.size a w wr):=⟨ad,z,F⟩
   have h:=vl y;have H:Hid (zDU s p n j=within (byt s (p+j)) 0 (jW n j)):=rfl;have I:Hid (zBs s p n (j+1)=(zBs s p n j&&decide (p+j<s.size)&&inB (byt s (p+j)) 0 (jW n j))):=rfl;have ae:=zY (byt s (p+j)) 0 (jW n j) lX;have ap:=zJ0 n j;obtain⟨c,A⟩:∃c:Nat,c=n-8*j:=⟨_,rfl⟩
   have J:(n:Int)-8*(j:Int)=(c:Int):=by omega
   rw[J] at *;have aq:0<c:=by omega
   have ar:(c:Int)<=600000:=by omega
   have d:Hid (c=n-8*j/\8*j<n):=⟨A,G⟩
   by_cases ah:c<8
   ·have ai:(c:Int)<8:=by omega
    have B:Hid (jW n j=2^c-1):=by show _=_;unfold jW;rw[if_pos (by omega),A]
    have K:=zNO c ah;clear A J G;rw[<-B.out] at K;go_wp2_with fail;rw[K];clear K;refine(zBb a (p+j) s (k&&zBs s p n j) wr b.2.1 W 0 (jW n j)).mono ?_;rintro e w1 ⟨rfl,C,f⟩;have L:Hid (xN w1 a s (p+(j+1)) (k&&zBs s p n (j+1))):=by show xN _ _ _ _ _;rw[I.out];exact C.to rfl (by simp[Bool.and_assoc])
    have l:=vl <| xX h f t;have m:=vl <| b.2.2.trans (f _);have M:=m.size;rw[<-H.out] at ae ⊢;generalize D:zDU s p n j=x at *;have N:=vl D;have aj:(x:Int)<256:=by omega
    go_wp2_with (at_builtin;refine wpList_append_lies _ rfl _ _ 68 rfl w.heap.size 5 X (int .u8 0) 1 1 underlying68 Y aa ab ac rfl (by decide) _ _ _ rfl (l.alloc _) ⟨w1.heap.size,0,none⟩ 1 1 [int .u8 (x:Int)] rfl rfl (cell_one_new _ _ _) (by intro u o;simp at o;subst o;rfl) (by decide) (by unfold maxLen;omega) (by omega) (by simp;omega) _ rfl ?_;intro g cap w2 O P ak al)
    have r:=xH l P M;have R:xN w2 a s (p+(j+1)) (k&&zBs s p n (j+1)):=L.of_block (r.block a t);have S:Keep w.heap.size a w w2:=m.trans (xE r);have T:w2.ownsRow w.heap.size 5 1 (slice (qX g) (j+1) cap) (j+1) ((List.range (j+1)).map λi=>int .u8 (zDU s p n i:Nat)):=by
     rw[xQ,N.out];exact O
    go_roundg ((n+7)/8-(j+1))
    case measure=>have:=d.out;rw[b.out.1];omega
    case rel=>exact⟨j+1,rfl,by have:=d.out;omega,congrArg (Value.int IntKind.i64) (by have:=d.out;omega),T,R,S⟩
   ·have ai:(8:Int)<=(c:Int):=by omega
    have B:Hid (jW n j=255):=by show _=_;unfold jW;rw[if_neg (by omega)]
    clear A J G;go_wp2_with fail;rw[show (255:Int)=((jW n j:Nat):Int) by rw[B.out];rfl];refine(zBb a (p+j) s (k&&zBs s p n j) wr b.2.1 W 0 (jW n j)).mono ?_;rintro e w1 ⟨rfl,C,f⟩;have L:Hid (xN w1 a s (p+(j+1)) (k&&zBs s p n (j+1))):=by show xN _ _ _ _ _;rw[I.out];exact C.to rfl (by simp[Bool.and_assoc])
    have l:Hid (w1.ownsRow w.heap.size 5 1 u5 j ((List.range j).map λi=>int .u8 (zDU s p n i:Nat))):=xX h f t;have m:Hid (Keep w.heap.size a w w1):=b.2.2.trans (f _);have M:w.heap.size<=w1.heap.size:=m.size;clear C f h I B;rw[<-H.out] at ae ⊢;clear H;generalize D:zDU s p n j=x at *;have N:Hid (zDU s p n j=x):=D;have aj:(x:Int)<256:=by omega
    clear D;go_wp2_with (at_builtin;refine wpList_append_lies _ rfl _ _ 68 rfl w.heap.size 5 X (int .u8 0) 1 1 underlying68 Y aa ab ac rfl (by decide) _ _ _ rfl (l.alloc _) ⟨w1.heap.size,0,none⟩ 1 1 [int .u8 (x:Int)] rfl rfl (cell_one_new _ _ _) (by intro u o;simp at o;subst o;rfl) (by decide) (by unfold maxLen;omega) (by omega) (by simp;omega) _ rfl ?_;intro g cap w2 O P ak al)
    have r:=xH l P M;have R:xN w2 a s (p+(j+1)) (k&&zBs s p n (j+1)):=L.of_block (r.block a t);have S:Keep w.heap.size a w w2:=m.trans (xE r);have T:w2.ownsRow w.heap.size 5 1 (slice (qX g) (j+1) cap) (j+1) ((List.range (j+1)).map λi=>int .u8 (zDU s p n i:Nat)):=by
     rw[xQ,N.out];exact O
    go_roundg ((n+7)/8-(j+1))
    case measure=>have:=d.out;rw[b.out.1];omega
    case rel=>exact⟨j+1,rfl,by have:=d.out;omega,congrArg (Value.int IntKind.i64) (by have:=d.out;omega),T,R,S⟩
  ·have U:j=(n+7)/8:=by omega
   have ag:(n:Int)-8*(j:Int)<=0:=by omega
   have h:Hid (wr.ownsRow w.heap.size 5 1 u5 ((n+7)/8) ((List.range ((n+7)/8)).map λi=>int .u8 (zDU s p n i:Nat))):=by rw[U] at y;exact y
   have E:Hid (xN wr a s (p+(n+7)/8) (k&&zBs s p n ((n+7)/8))):=by rw[U] at z;exact z
   have am:Hid (Keep w.heap.size a w wr):=F;clear z F y U ad;go_wp2_with fail;go_ret;exact⟨_,rfl,h,E,am⟩
section
variable (a b H g:Nat) (w:World) (s:ByteArray) (p:Nat) (k:Bool) (c:Tc) (modes rules d kinds f:Nat)
theorem zD {w w':World}{H:Nat}{e:TypeId}{a:Nat}{v:Value}{n:Nat}{xs:List Value}(b:w.ownsRow H e a v n xs)(j:∀g,H<=g->g<w.heap.size->v.ownBlock=some g->w'.heap[g]? =w.heap[g]?):w'.ownsRow H e a v n xs:=by
 refine⟨b.1,b.2.imp id ?_⟩;rintro⟨g,cap,k,c,d,f,l⟩;have m:=(kQ.1 f).1;exact⟨g,cap,k,c,d,(j g d m (by rw[c];rfl)).trans f,l⟩
theorem zBe {w w':World}{H a b:Nat}{e:TypeId}{c:Nat}{v:Value}{n:Nat}{xs:List Value}(d:w.ownsRow H e c v n xs)(f:Kept w.heap.size a b w w')(k:a<H)(l:b<H):w'.ownsRow H e c v n xs:=
 zD d λg m j _=>f.block g j (by omega) (by omega)
theorem zF {w:World}{H:Nat}{e:TypeId}{b:Nat}{v:Value}{n:Nat}{xs:List Value}(c:w.ownsRow H e b v n xs):∃ao cap,v=slice ao n cap:=by
 rcases c.2 with⟨a,d⟩|⟨g,cap,_,a,_⟩
 ·exact⟨none,0,by rw[a,d]⟩
 ·exact⟨_,cap,a⟩
theorem zDf {w:World}{H k:Nat}{e f:TypeId}{l o:Nat}{v u:Value}{n m:Nat}{xs p:List Value}(q:w.ownsRow H e l v n xs)(r:w.ownsRow k f o u m p)(s:e≠f){g:Nat}(a:v.ownBlock=some g):u.ownBlock≠some g:=by
 intro b;rcases q.2 with⟨d,_⟩|⟨t,_,C,d,_,x,_⟩
 ·rw[d] at a;cases a
 ·rcases r.2 with⟨j,_⟩|⟨y,_,D,j,_,c,_⟩
  ·rw[j] at b;cases b
  ·rw[d] at a
   rw[j] at b;have z:t=g:=by simpa[Value.ownBlock] using a
   have A:y=g:=by simpa[Value.ownBlock] using b
   subst z A;rw[x] at c;injection c with c;injection c with _ B _;exact s B
theorem qS {P:Program}{f:Func}{c:Code}{g j:Ending->World->Prop}{a:Act}{w:World}(b:c.wp P (bodyPost P f g) a w)(d:∀e w,g e w->j e w):c.wp P (bodyPost P f j) a w:=
 Code.wp_mono (λe a w q=>by
  cases e with
  |normal=>exact⟨q.1,q.2.imp λv b=>⟨b.1,d _ _ b.2⟩⟩
  |ret=>exact⟨q.1,q.2.imp λv b=>⟨b.1,d _ _ b.2⟩⟩
  |panic k=>exact⟨q.1,d _ _ q.2⟩
  |outgrown=>exact d _ _ q
  |_=>exact q.elim) b
def zE9 (s:ByteArray)(p rules i:Nat):Nat:=within (byt s (p+i)) 0 rules
def zCW (s:ByteArray)(p rules:Nat):Nat->Bool
 |0=>true
 |i+1=>zCW s p rules i&&decide (p+i<s.size)&&inB (byt s (p+i)) 0 rules
def zC4 (s:ByteArray)(p i:Nat):Nat:=within (byt s (p+2*i)) 0 3
def zAA (s:ByteArray)(p modes i:Nat):Nat:=within (byt s (p+2*i+1)) 0 (modes-1)
def zAz (s:ByteArray)(p modes:Nat):Nat->Bool
 |0=>true
 |i+1=>zAz s p modes i&&decide (p+2*i<s.size)&&inB (byt s (p+2*i)) 0 3&&decide (p+2*i+1<s.size)&&inB (byt s (p+2*i+1)) 0 (modes-1)
def zAN (s:ByteArray)(p states kinds:Nat):Nat->Bool
 |0=>true
 |i+1=>zAN s p states kinds i&&toK s (p+2*kinds*i) states kinds
def P6 (H a b:Nat)(s:ByteArray)(states ways:Nat)(w:World)(c:Tc)(p:Nat)(k:Bool):Prop:=
 ∃v,w.ownsRow H 5 1 v ((states*ways+7)/8) ((List.range ((states*ways+7)/8)).map λi=>int .u8 (zDU s p (states*ways) i:Nat))/\xN w a s (p+(states*ways+7)/8) (k&&zBs s p (states*ways) ((states*ways+7)/8))/\zW w b {c with longer:=v}
def P5 (H a b:Nat)(s:ByteArray)(rules states ways:Nat)(w:World)(c:Tc)(p:Nat)(k:Bool):Prop:=
 ∃v,w.ownsRow H 3 1 v states ((List.range states).map λi=>int i64 ((zE9 s p rules i:Nat)-1:Int))/\P6 H a b s states ways w {c with ends:=v} (p+states) (k&&zCW s p rules states)
def P4 (H a b:Nat)(s:ByteArray)(rules states kinds ways:Nat)(w:World)(c:Tc)(p:Nat)(k:Bool):Prop:=
 ∃(v:Value) (rv:Nat->Value),w.ownsRow H 45 1 v states ((List.range states).map rv)/\(∀i,i<states->w.ownsRow H 3 1 (rv i) kinds ((List.range kinds).map λj=>int i64 (toF s (p+2*kinds*i) states j:Nat)))/\
  P5 H a b s rules states ways w {c with next:=v} (p+2*kinds*states) (k&&zAN s p states kinds states)
def P3 (H a b:Nat)(s:ByteArray)(rules states kinds ways:Nat)(w:World)(c:Tc)(p:Nat)(k:Bool):Prop:=
 ∃v,w.ownsRow H 3 1 v 256 ((List.range 256).map λi=>int i64 (zBj s p i:Nat))/\P4 H a b s rules states kinds ways w {c with kinds:=v} (p+256) (k&&vI s p 256&&decide (yX s p 256=kinds))
def P2 (H a b:Nat)(s:ByteArray)(modes rules states kinds ways:Nat)(w:World)(c:Tc)(p:Nat)(k:Bool):Prop:=
 ∃v u,w.ownsRow H 3 1 v rules ((List.range rules).map λi=>int i64 (zC4 s p i:Nat))/\w.ownsRow H 3 1 u rules ((List.range rules).map λi=>int i64 (zAA s p modes i:Nat))/\
  P3 H a b s rules states kinds ways w {c with acts:=v,pushed:=u} (p+2*rules) (k&&zAz s p modes rules)
def P1 (H a b:Nat)(s:ByteArray)(modes rules states kinds ways:Nat)(w:World)(c:Tc)(p:Nat)(k:Bool):Prop:=
 ∃v,w.ownsRow H 3 1 v modes ((List.range modes).map λi=>int i64 (toF s p states i:Nat))/\P2 H a b s modes rules states kinds ways w {c with starts:=v} (p+2*modes) (k&&toK s p states modes)
theorem zQh
  (h:Rt H a b w w s p k c [(g,.cells #[iX modes,iX rules,iX d,iX kinds,iX f] 152)]) (u:s.size<=1048576) (bY:1<=modes/\modes<=3) (bZ:1<=rules/\rules<=8) (x:1<=d/\d<=200) (b0:1<=kinds/\kinds<=256) (y:f<=3000)
  {z B C D E F G I J K L M N O P R S T U V W X Y aa ac ad ae af ag ah ai aj ak al am an ap aq ar au av aw ax ay az aA aB aC aD aE aF aG aI aJ aK aL aM aN aO aP aQ aR aS aT aU aV aW aX aY aZ a0 a1 a2 a3 a4 a5 a6 a7 a8 a9 ba bb bc bd be bf bg bh bi bj bk bl bm bn bo bp bq br bs bt bu bv bw bx bz bA bB bC bD bE bF bG bI bJ bK bL bM bN bO bP bQ bR bS:Value}:
  Code.wp prog (xO 6 ((f83.body).getD .skip)) (bodyPost prog f83 λe w'=>
   e=rX/\P6 H a b s d f w' c p k/\Kept w.heap.size a b w w')
   ⟨(pX a::pX b::z::B::C::pX g::D::E::F::G::I::J::K::L::M::N::O::P::R::S::T::U::V::W::X::Y::aa::ac::ad::ae::af::ag::ah::ai::aj::ak::al::am::an::ap::aq::ar::au::av::aw::ax::ay::az::aA::aB::aC::aD::aE::aF::aG::aI::aJ::aK::aL::aM::aN::aO::aP::aQ::aR::aS::aT::aU::aV::aW::aX::aY::aZ::a0::a1::a2::a3::a4::a5::a6::a7::a8::a9::ba::bb::bc::bd::be::bf::bg::bh::bi::bj::bk::bl::bm::bn::bo::bp::bq::br::bs::bt::bu::bv::bw::bx::bz::bA::bB::bC::bD::bE::bF::bG::bI::bJ::bK::bL::bM::bN::bO::bP::bQ::bR::bS::[]).toArray,[]⟩ w:=by
 conv=>arg 2;whnf
 have r:=vl h;have m:=(h.own _ hJ).1;have b1:=(h.own _ hJ).2;have b3:=h.aH;have b4:=h.bH;have bT:=h.HH;have t:=h.ab;have b5:=(kQ.1 m).1;have b6:cX w g 2=some (iX d):=by simp[World.cell?,m]
 have b7:cX w g 4=some (iX f):=by simp[World.cell?,m]
 have bU:d*f<=600000:=lY (Nat.mul_le_mul x.2 y) (by decide);have b8:(d:Int)*(f:Int)<=600000:=by rw[<-Int.natCast_mul];omega
 have b9:0<=(d:Int)*(f:Int):=by rw[<-Int.natCast_mul];omega
 have bV:Hid ((d:Int)*(f:Int)=((d*f:Nat):Int)):=(Int.natCast_mul _ _).symm;go_wp2_with fail;rw[bV.out];refine(zLT a p (d*f) s k w r.rd u bU).mono ?_;rintro e w1 ⟨v,rfl,j,o,l⟩;obtain⟨ao,cap,rfl⟩:=zF j;have q:=r.tb.of_block (l.block b (by omega) t.symm);have ca:=q.get_longer;have cb:=q.fz 12;have bW:Hid (w1.ownsRow w.heap.size 5 1 (slice ao ((d*f+7)/8) cap) ((d*f+7)/8) ((List.range ((d*f+7)/8)).map λi=>int .u8 (zDU s p (d*f) i:Nat))/\xN w1 a s (p+(d*f+7)/8) (k&&zBs s p (d*f) ((d*f+7)/8))/\Keep w.heap.size a w w1/\zW w1 b c):=⟨j,o,l,q⟩
 go_wp2;go_end0;have ⟨j,o,l,bX⟩:=bW.out;refine⟨rfl,⟨_,yE (xX j (λ_=>Keep.set _ _ _) (by omega)) bT,o.of_block (lJ _ _ _ _ t),bX.set_longer _⟩,(Kept.one l).trans (.two (Keep.set _ _ _))⟩
theorem zQi (modes rules d kinds m:Nat)
  (h:Rt H a b w w s p k c [(g,.cells #[iX modes,iX rules,iX d,iX kinds,iX m] 152)]) (F:s.size<=1048576) (N:1<=modes/\modes<=3) (O:1<=rules/\rules<=8) (P:1<=d/\d<=200) (R:1<=kinds/\kinds<=256) (S:m<=3000) (T:c.ends=nX)
  {U V W X Y aa ac ad ae af ag ah ai aj ak al am an ao ap aq ar au av aw ax ay az aA aB aC aD aE aF aG aI aJ aK aL aM aN aO aP aQ aR aS aT aU aV aW aX aY aZ a0 a1 a2 a3 a4 a5 a6 a7 a8 a9 ba bb bc bd be bf bg bh bi bj bk bl bm bn bo bp bq br bs bt bu bv bw bx bz bA bB bC bD bE bF bG bI bJ bK bL bM bN bO bP bQ bR bS bT bU bV bW bX bY bZ b0 b1 b3 b4 b5 b6 b7 b8 b9 ca:Value}:
  Code.wp prog (xO 5 ((f83.body).getD .skip)) (bodyPost prog f83 λe w'=>
   e=rX/\P5 H a b s rules d m w' c p k/\Kept w.heap.size a b w w')
   ⟨(pX a::pX b::U::V::W::pX g::X::Y::aa::ac::ad::ae::af::ag::ah::ai::aj::ak::al::am::an::ao::ap::aq::ar::au::av::aw::ax::ay::az::aA::aB::aC::aD::aE::aF::aG::aI::aJ::aK::aL::aM::aN::aO::aP::aQ::aR::aS::aT::aU::aV::aW::aX::aY::aZ::a0::a1::a2::a3::a4::a5::a6::a7::a8::a9::ba::bb::bc::bd::be::bf::bg::bh::bi::bj::bk::bl::bm::bn::bo::bp::bq::br::bs::bt::bu::bv::bw::bx::bz::bA::bB::bC::bD::bE::bF::bG::bI::bJ::bK::bL::bM::bN::bO::bP::bQ::bR::bS::bT::bU::bV::bW::bX::bY::bZ::b0::b1::b3::b4::b5::b6::b7::b8::b9::ca::[]).toArray,[]⟩ w:=by
 conv=>arg 2;whnf
 have B:=vl h;have l:=(h.own _ hJ).1;have cb:=(h.own _ hJ).2;have cc:=h.aH;have cd:=h.bH;have ce:=h.HH;have C:=h.ab;have cf:=(kQ.1 l).1;have ⟨cg,ch,ci,cj,ck⟩:=info_parts yG;apply wp_cut;intro cH cl;go_wp2;go_loopg [13] d (λq i wr=>∃(j:Nat) (v:Value),q=d-j/\j<=d/\i=iX (j:Int)/\wr.ownsRow w.heap.size 3 1 v j ((List.range j).map λi=>iX ((zE9 s p rules i:Nat)-1:Int))/\xN wr a s (p+j) (k&&zCW s p rules j)/\zW wr b {c with ends:=v}/\Kept w.heap.size a b w wr)
 case atStart=>exact⟨0,nX,rfl,lX,rfl,ownsRow_nil _ _ _ _,B.rd.to rfl (by simp[zCW]),by rw[<-T];exact B.tb,Kept.refl _ _ _ _⟩
 case round=>
  obtain⟨j,v,G,cI,rfl,t,y,D,o⟩:=hrel;have l:=(o.block g cf (by omega) (by omega)).trans (B.own _ hJ).1;have cJ:cX wr g 1=some (iX rules):=by simp[World.cell?,l]
  have cK:cX wr g 2=some (iX d):=by simp[World.cell?,l]
  have cm:=o.size;by_cases cL:j<d
  ·have cn:(j:Int)<(d:Int):=by omega
   have f:Hid (gk=d-j/\xN wr a s (p+j) (k&&zCW s p rules j)/\Kept w.heap.size a b w wr/\zW wr b {c with ends:=v}/\wr.ownsRow w.heap.size 3 1 v j ((List.range j).map λi=>iX ((zE9 s p rules i:Nat)-1:Int))):=⟨G,y,o,D,t⟩
   have co:Hid (zE9 s p rules j=within (byt s (p+j)) 0 rules):=rfl;have cp:Hid (zCW s p rules (j+1)=(zCW s p rules j&&decide (p+j<s.size)&&inB (byt s (p+j)) 0 rules)):=rfl;have z:=zY (byt s (p+j)) 0 rules lX;clear G y o t D l;go_wp2_with fail;refine(zBb a (p+j) s (k&&zCW s p rules j) wr f.2.1 F 0 rules).mono ?_;rintro e w1 ⟨rfl,cq,E⟩;have cr:Hid (xN w1 a s (p+(j+1)) (k&&zCW s p rules (j+1))):=by show xN _ _ _ _ _;rw[cp.out];exact cq.to rfl (by simp[Bool.and_assoc])
   have I:=vl <| xX f.2.2.2.2 E (by omega);have J:=vl <| f.2.2.1.trans (.one (E _));have A:=vl <| f.2.2.2.1.of_block ((E w.heap.size).block b (by omega) C.symm);have cM:=A.get_ends;have ct:=J.size;rw[<-co.out] at z ⊢;generalize cu:zE9 s p rules j=x at *;have cw:=vl cu;go_wp2_with (at_builtin;refine wpList_append_lies _ rfl _ _ 45 rfl w.heap.size 3 cg zX 1 8 underlying45 ch ci cj ck rfl (by decide) _ _ _ rfl (I.alloc _) ⟨w1.heap.size,0,none⟩ 1 1 [iX ((x:Int)-1)] rfl rfl (cell_one_new _ _ _) (by intro u L;simp at L;subst L;rfl) (by decide) (by unfold maxLen;omega) (by omega) (by simp;omega) _ rfl ?_;intro cx cap w2 cy cz cN cO;have r:=xH I cz ct;have cP:=(A.of_block (r.block b (by omega))).get_ends;have q2:=(A.of_block (r.block b (by omega))).fz 9)
   have cA:=cr.of_block (r.block a (by omega));have cB:=J.trans (.one (xE r));have cC:=A.of_block (r.block b (by omega));have cD:w2.ownsRow w.heap.size 3 1 (slice (qX cx) (j+1) cap) (j+1) ((List.range (j+1)).map λi=>iX ((zE9 s p rules i:Nat)-1:Int)):=by
    rw[xQ,cw.out];exact cy
   go_roundg (d-(j+1))
   case measure=>rw[f.out.1];omega
   case rel=>exact⟨j+1,_,rfl,by omega,congrArg (Value.int IntKind.i64) (by omega),xX cD (λ_=>Keep.set _ _ _) (by omega),cA.of_block (lJ _ _ _ _ C),cC.set_ends _,cB.trans (.two (Keep.set _ _ _))⟩
  ·have cE:j=d:=by omega
   have cn:(d:Int)<=(j:Int):=by omega
   have f:Hid (xN wr a s (p+d) (k&&zCW s p rules d)/\Kept w.heap.size a b w wr/\zW wr b {c with ends:=v}/\wr.ownsRow w.heap.size 3 1 v d ((List.range d).map λi=>iX ((zE9 s p rules i:Nat)-1:Int))/\wr.heap[g]? =some (.cells #[iX modes,iX rules,iX d,iX kinds,iX m] 152)):=by rw[cE] at y t;exact⟨y,o,D,t,l⟩
   go_wp2;refine cl _ _ (qS (zQh a b H g wr s (p+d) (k&&zCW s p rules d) {c with ends:=v} modes rules d kinds m ⟨f.1,f.2.2.1,λx z=>by rw[kY] at z;rw[z];exact⟨f.2.2.2.2,cb⟩,Kept.refl _ _ _ _,C,cc,cd,by omega⟩ F N O P R S) ?_);rintro e w' ⟨cF,cG,M⟩;exact⟨cF,⟨v,zBe (yE f.2.2.2.1 ce) M (by omega) (by omega),cG⟩,f.2.1.trans (M.mono cm)⟩
end
theorem zQj (a b H g:Nat)(w:World)(s:ByteArray)(p:Nat)(k:Bool)(c:Tc)(modes rules d kinds r:Nat)
  (t:Rt H a b w w s p k c [(g,.cells #[iX modes,iX rules,iX d,iX kinds,iX r] 152)]) (P:s.size<=1048576) (af:1<=modes/\modes<=3) (ag:1<=rules/\rules<=8) (J:1<=d/\d<=200) (R:1<=kinds/\kinds<=256) (ah:r<=3000) (ai:c.next=nX) (aj:c.ends=nX)
  {ak al am an ap aq ar au av aw ax ay az aA aB aC aD aE aF aG aI aJ aK aL aM aN aO aP aQ aR aS aT aU aV aW aX aY aZ a0 a1 a2 a3 a4 a5 a6 a7 a8 a9 ba bb bc bd be bf bg bh bi bj bk bl bm bn bo bp bq br bs bt bu bv bw bx bz bA bB bC bD bE bF bG bI bJ bK bL bM bN bO bP bQ bR bS bT bU bV bW bX bY bZ b0 b1 b3 b4 b5 b6 b7 b8 b9 ca cb cc cd ce cf cg ch ci cj ck cl cm cn co cq:Value}:
  Code.wp prog (xO 4 ((f83.body).getD .skip)) (bodyPost prog f83 λe w'=>
   e=rX/\P4 H a b s rules d kinds r w' c p k/\Kept w.heap.size a b w w')
   ⟨(pX a::pX b::ak::al::am::pX g::an::ap::aq::ar::au::av::aw::ax::ay::az::aA::aB::aC::aD::aE::aF::aG::aI::aJ::aK::aL::aM::aN::aO::aP::aQ::aR::aS::aT::aU::aV::aW::aX::aY::aZ::a0::a1::a2::a3::a4::a5::a6::a7::a8::a9::ba::bb::bc::bd::be::bf::bg::bh::bi::bj::bk::bl::bm::bn::bo::bp::bq::br::bs::bt::bu::bv::bw::bx::bz::bA::bB::bC::bD::bE::bF::bG::bI::bJ::bK::bL::bM::bN::bO::bP::bQ::bR::bS::bT::bU::bV::bW::bX::bY::bZ::b0::b1::b3::b4::b5::b6::b7::b8::b9::ca::cb::cc::cd::ce::cf::cg::ch::ci::cj::ck::cl::cm::cn::co::cq::[]).toArray,[]⟩ w:=by
 conv=>arg 2;whnf
 have L:=vl t;have o:=(t.own _ hJ).1;have cr:=(t.own _ hJ).2;have ct:=t.aH;have cu:=t.bH;have S:=t.HH;have M:=t.ab;have cw:=(kQ.1 o).1;have ⟨cx,cy,cz,cA,cB⟩:=info_parts zEp;apply wp_cut;intro cT cC;go_wp2;go_loopg [11] d (λq i wr=>∃(j:Nat) (v:Value) (rv:Nat->Value),q=d-j/\j<=d/\i=iX (j:Int)/\wr.ownsRow w.heap.size 45 1 v j ((List.range j).map rv)/\(∀i,i<j->wr.ownsRow w.heap.size 3 1 (rv i) kinds ((List.range kinds).map λm=>iX (toF s (p+2*kinds*i) d m:Nat)))/\xN wr a s (p+2*kinds*j) (k&&zAN s p d kinds j)/\zW wr b {c with next:=v}/\Kept w.heap.size a b w wr)
 case atStart=>exact⟨0,nX,λ_=>undef,rfl,lX,rfl,ownsRow_nil _ _ _ _,λi l=>absurd l (Nat.not_lt_zero _),L.rd.to (by simp) (by simp[zAN]),by rw[<-ai];exact L.tb,Kept.refl _ _ _ _⟩
 case round=>
  obtain⟨j,v,rv,T,cU,rfl,C,D,E,N,A⟩:=hrel;have o:=(A.block g cw (by omega) (by omega)).trans (L.own _ hJ).1;have cV:cX wr g 0=some (iX modes):=by simp[World.cell?,o]
  have cW:cX wr g 1=some (iX rules):=by simp[World.cell?,o]
  have cY:cX wr g 2=some (iX d):=by simp[World.cell?,o]
  have y3:cX wr g 3=some (iX kinds):=by simp[World.cell?,o]
  have cZ:cX wr g 4=some (iX r):=by simp[World.cell?,o]
  have U:=A.size;by_cases c3:j<d
  ·have cD:(j:Int)<(d:Int):=by omega
   have h:Hid (gk=d-j/\xN wr a s (p+2*kinds*j) (k&&zAN s p d kinds j)/\Kept w.heap.size a b w wr/\zW wr b {c with next:=v}/\wr.ownsRow w.heap.size 45 1 v j ((List.range j).map rv)/\(∀i,i<j->wr.ownsRow w.heap.size 3 1 (rv i) kinds ((List.range kinds).map λm=>iX (toF s (p+2*kinds*i) d m:Nat)))):=⟨T,E,A,N,C,D⟩
   have cE:Hid (zAN s p d kinds (j+1)=(zAN s p d kinds j&&toK s (p+2*kinds*j) d kinds)):=rfl;have cF:Hid (p+2*kinds*(j+1)=p+2*kinds*j+2*kinds):=by show _=_;rw[Nat.mul_add,Nat.mul_one];omega
   clear T E A C N o D;go_wp2_with fail;refine(zMO a (p+2*kinds*j) s (k&&zAN s p d kinds j) wr h.2.1 P modes rules d kinds r J.1 J.2 R.2).mono ?_;rintro e w1 ⟨x,rfl,V,cG,y⟩;obtain⟨ao,F,rfl⟩:=zF V;have cH:Hid (xN w1 a s (p+2*kinds*(j+1)) (k&&zAN s p d kinds (j+1))):=by show xN _ _ _ _ _;rw[cE.out,cF.out,<-Bool.and_assoc];exact cG
   have G:=vl <| zD h.2.2.2.2.1 λf z q2 _=>y.block f q2 (by omega);have W:Hid (∀i,i<j->w1.ownsRow w.heap.size 3 1 (rv i) kinds ((List.range kinds).map λm=>iX (toF s (p+2*kinds*i) d m:Nat))):=λi l=>zD (h.2.2.2.2.2 i l) λf z q2 _=>y.block f q2 (by omega);have X:=vl <| yE V U;have Y:=vl <| h.2.2.1.trans ⟨y.os,y.output,y.size,λcI z q2 _=>y.block cI (by omega) q2⟩;have I:=vl <| h.2.2.2.1.of_block (y.block b (by omega) M.symm);have c4:=I.get_next;have cJ:=Y.size;go_wp2_with (at_builtin;refine wpList_append_lies _ rfl _ _ 88 rfl w.heap.size 45 cx nX 1 24 underlying88 cy cz cA cB rfl (by decide) _ _ _ rfl (G.alloc _) ⟨w1.heap.size,0,none⟩ 1 1 [slice ao kinds F] rfl rfl (cell_one_new _ _ _) (by intro u aa;simp at aa;subst aa;rfl) (by decide) (by unfold maxLen;omega) (by omega) (by simp;omega) _ rfl ?_;intro c5 cap w2 cK ac c6 c7;have B:=xH G ac cJ;have z:=(I.of_block (B.block b (by omega))).get_next;have q2:=(I.of_block (B.block b (by omega))).fz 8)
   have cL:=cH.of_block (B.block a (by omega));have cM:=Y.trans (.one (xE B));have cN:=I.of_block (B.block b (by omega));have ad:∀f,f<w1.heap.size->v.ownBlock≠some f->w2.heap[f]? =w1.heap[f]? :=λf z q2=>(ac.block f (by simp;omega) (Ne.symm q2)).trans (lG _ _ _ z);have cO:∀i,i<j->w2.ownsRow w.heap.size 3 1 (rv i) kinds ((List.range kinds).map λm=>iX (toF s (p+2*kinds*i) d m:Nat)):=λi l=>zD (W i l) λf z q2 q3=>ad f q2 (zDf (W i l) G (by decide) q3);have cP:=zD X λf z q2 q3=>ad f q2 (zDf X G (by decide) q3);go_roundg (d-(j+1))
   case measure=>rw[h.out.1];omega
   case rel=>
    refine⟨j+1,_,λi=>if i=j then slice ao kinds F else rv i,rfl,by omega,congrArg (Value.int IntKind.i64) (by omega),xX ?_ (λ_=>Keep.set _ _ _) (by omega),λi l=>xX ?_ (λ_=>Keep.set _ _ _) (show b<w.heap.size by omega),cL.of_block (lJ _ _ _ _ M),cN.set_next _,cM.trans (.two (Keep.set _ _ _))⟩
    ·rw[xQ,if_pos rfl,show(List.range j).map (λi=>if i=j then Value.slice ao kinds F else rv i)=(List.range j).map rv from List.map_congr_left λi l=>by rw[if_neg (by have:=List.mem_range.1 l;omega)]]
     exact cK
    ·show w2.ownsRow _ _ _ (if i=j then Value.slice ao kinds F else rv i) _ _
     by_cases e:i=j
     ·rw[if_pos e,e];exact cP
     ·rw[if_neg e];exact cO i (by omega)
  ·have cQ:j=d:=by omega
   have cD:(d:Int)<=(j:Int):=by omega
   have h:Hid (xN wr a s (p+2*kinds*d) (k&&zAN s p d kinds d)/\Kept w.heap.size a b w wr/\zW wr b {c with next:=v}/\wr.ownsRow w.heap.size 45 1 v d ((List.range d).map rv)/\wr.heap[g]? =some (.cells #[iX modes,iX rules,iX d,iX kinds,iX r] 152)/\∀i,i<d->wr.ownsRow w.heap.size 3 1 (rv i) kinds ((List.range kinds).map λm=>iX (toF s (p+2*kinds*i) d m:Nat))):=by rw[cQ] at E C D;exact⟨E,A,N,C,o,D⟩
   go_wp2;refine cC _ _ (qS (zQi a b H g wr s (p+2*kinds*d) (k&&zAN s p d kinds d) {c with next:=v} modes rules d kinds r ⟨h.1,h.2.2.1,λx ae=>by rw[kY] at ae;rw[ae];exact⟨h.2.2.2.2.1,cr⟩,Kept.refl _ _ _ _,M,ct,cu,by omega⟩ P af ag J R ah aj) ?_);rintro e w' ⟨cR,cS,O⟩;exact⟨cR,⟨v,rv,zBe (yE h.2.2.2.1 S) O (by omega) (by omega),λi l=>zBe (yE (h.2.2.2.2.2 i l) S) O (by omega) (by omega),cS⟩,h.2.1.trans (O.mono U)⟩
theorem zQk (a b H g:Nat)(w:World)(s:ByteArray)(p:Nat)(k:Bool)(c:Tc)(modes rules h kinds j:Nat)
  (d:Rt H a b w w s p k c [(g,.cells #[iX modes,iX rules,iX h,iX kinds,iX j] 152)]) (r:s.size<=1048576) (D:1<=modes/\modes<=3) (E:1<=rules/\rules<=8) (F:1<=h/\h<=200) (t:1<=kinds/\kinds<=256) (G:j<=3000) (I:c.next=nX) (J:c.ends=nX)
  {L M N O P R S T U V W X Y aa ac ad ae af ag ah ai aj ak al am an ap aq ar au av aw ax ay az aA aB aC aD aE aF aG aI aJ aK aL aM aN aO aP aQ aR aS aT aU aV aW aX aY aZ a0 a1 a2 a3 a4 a5 a6 a7 a8 a9 ba bb bc bd be bf bg bh bi bj bk bl bm bn bo bp bq br bs bt bu bv bw bx bz bA bB bC bD bE bF bG bI bJ bK bL bM bN bO bP bQ bR bS bT bU bV bW bX bY bZ b0 b1 b3:Value}:
  Code.wp prog (xO 3 ((f83.body).getD .skip)) (bodyPost prog f83 λe w'=>
   e=rX/\P3 H a b s rules h kinds j w' c p k/\Kept w.heap.size a b w w')
   ⟨(pX a::pX b::L::M::N::pX g::O::P::R::S::T::U::V::W::X::Y::aa::ac::ad::ae::af::ag::ah::ai::aj::ak::al::am::an::ap::aq::ar::au::av::aw::ax::ay::az::aA::aB::aC::aD::aE::aF::aG::aI::aJ::aK::aL::aM::aN::aO::aP::aQ::aR::aS::aT::aU::aV::aW::aX::aY::aZ::a0::a1::a2::a3::a4::a5::a6::a7::a8::a9::ba::bb::bc::bd::be::bf::bg::bh::bi::bj::bk::bl::bm::bn::bo::bp::bq::br::bs::bt::bu::bv::bw::bx::bz::bA::bB::bC::bD::bE::bF::bG::bI::bJ::bK::bL::bM::bN::bO::bP::bQ::bR::bS::bT::bU::bV::bW::bX::bY::bZ::b0::b1::b3::[]).toArray,[]⟩ w:=by
 conv=>arg 2;whnf
 have u:=vl d;have m:=(d.own _ hJ).1;have b4:=(d.own _ hJ).2;have b5:=d.aH;have b6:=d.bH;have b7:=d.HH;have o:=d.ab;have b8:=(kQ.1 m).1;have y3:cX w g 3=some (iX kinds):=by simp[World.cell?,m]
 have b9:=vl m;apply wp_cut;intro cf ca;go_wp2_with fail;refine(zJ7 a p kinds s k w u.rd r t.2).mono ?_;rintro e w1 ⟨v,rfl,y,cb,z⟩;obtain⟨ao,cap,rfl⟩:=zF y;have q:=u.tb.of_block (z.block b (by omega) o.symm);have cg:=q.get_kinds;have ch:=q.fz 6;have l:Hid (w1.ownsRow w.heap.size 3 1 (slice ao 256 cap) 256 ((List.range 256).map λi=>iX (zBj s p i:Nat))/\xN w1 a s (p+256) (k&&vI s p 256&&decide (yX s p 256=kinds))/\Keep w.heap.size a w w1/\zW w1 b c):=⟨y,cb,z,q⟩
 go_wp2;obtain⟨w2,cc,f⟩:∃w2,w2=w1.setCell ⟨b,6,none⟩ (slice ao 256 cap)/\Hid (w2.ownsRow w.heap.size 3 1 (slice ao 256 cap) 256 ((List.range 256).map λi=>iX (zBj s p i:Nat))/\xN w2 a s (p+256) (k&&vI s p 256&&decide (yX s p 256=kinds))/\Kept w.heap.size a b w w2/\zW w2 b {c with kinds:=slice ao 256 cap}/\w2.heap[g]? =some (.cells #[iX modes,iX rules,iX h,iX kinds,iX j] 152)):=
  ⟨_,rfl,xX l.1 (λ_=>Keep.set _ _ _) (by omega),l.2.1.of_block (lJ _ _ _ _ o),(Kept.one l.2.2.1).trans (.two (Keep.set _ _ _)),l.2.2.2.set_kinds _,((lJ _ _ _ _ (by show g≠b;omega)).trans (l.2.2.1.block g b8 (by omega))).trans b9⟩
 rw[<-cc];refine ca _ _ (qS (zQj a b H g w2 s (p+256) (k&&vI s p 256&&decide (yX s p 256=kinds)) {c with kinds:=slice ao 256 cap} modes rules h kinds j ⟨f.2.1,f.2.2.2.1,λx B=>by rw[kY] at B;rw[B];exact⟨f.2.2.2.2,b4⟩,Kept.refl _ _ _ _,o,b5,b6,by have:=f.2.2.1.size;omega⟩ r D E F t G I J) ?_);rintro e w' ⟨cd,ce,C⟩;exact⟨cd,⟨_,zBe (yE f.1 b7) C (by omega) (by omega),ce⟩,f.2.2.1.trans (C.mono f.2.2.1.size)⟩
theorem zGo {g a n cap:Nat}(b:(Value.slice (qX g) n cap).ownBlock=some a):g=a:=by simpa[Value.ownBlock] using b
theorem Tc.nil45 (c:Tc)(a:c.acts=nX)(b:c.pushed=nX):({c with acts:=nX,pushed:=nX}:Tc)=c:=by
 cases c
 simp only at a b;subst a b;rfl
theorem zQl (a b H g:Nat)(w:World)(s:ByteArray)(p:Nat)(k:Bool)(c:Tc)(modes rules z kinds B:Nat)
  (C:Rt H a b w w s p k c [(g,.cells #[iX modes,iX rules,iX z,iX kinds,iX B] 152)]) (af:s.size<=1048576) (D:1<=modes/\modes<=3) (aI:1<=rules/\rules<=8) (aJ:1<=z/\z<=200) (aK:1<=kinds/\kinds<=256) (aL:B<=3000) (aM:c.acts=nX) (aN:c.pushed=nX) (aO:c.next=nX) (aP:c.ends=nX)
  {aQ aR aS aT aU aV aW aX aY aZ a0 a1 a2 a3 a4 a5 a6 a7 a8 a9 ba bb bc bd be bf bg bh bi bj bk bl bm bn bo bp bq br bs bt bu bv bw bx bz bA bB bC bD bE bF bG bI bJ bK bL bM bN bO bP bQ bR bS bT bU bV bW bX bY bZ b0 b1 b3 b4 b5 b6 b7 b8 b9 ca cb cc cd ce cf cg ch ci cj ck cl cm cn co cp cq cr ct cu cw cx cy cz cA cB cC cD cE cF cG cH cI cJ cK cL cM cN cO cP cQ cR cS cT:Value}:
  Code.wp prog (xO 2 ((f83.body).getD .skip)) (bodyPost prog f83 λe w'=>
   e=rX/\P2 H a b s modes rules z kinds B w' c p k/\Kept w.heap.size a b w w')
   ⟨(pX a::pX b::aQ::aR::aS::pX g::aT::aU::aV::aW::aX::aY::aZ::a0::a1::a2::a3::a4::a5::a6::a7::a8::a9::ba::bb::bc::bd::be::bf::bg::bh::bi::bj::bk::bl::bm::bn::bo::bp::bq::br::bs::bt::bu::bv::bw::bx::bz::bA::bB::bC::bD::bE::bF::bG::bI::bJ::bK::bL::bM::bN::bO::bP::bQ::bR::bS::bT::bU::bV::bW::bX::bY::bZ::b0::b1::b3::b4::b5::b6::b7::b8::b9::ca::cb::cc::cd::ce::cf::cg::ch::ci::cj::ck::cl::cm::cn::co::cp::cq::cr::ct::cu::cw::cx::cy::cz::cA::cB::cC::cD::cE::cF::cG::cH::cI::cJ::cK::cL::cM::cN::cO::cP::cQ::cR::cS::cT::[]).toArray,[]⟩ w:=by
 conv=>arg 2;whnf
 have ag:=vl C;have E:=(C.own _ hJ).1;have cU:=(C.own _ hJ).2;have cV:=C.aH;have cW:=C.bH;have ap:=C.HH;have O:=C.ab;have ah:=(kQ.1 E).1;have ⟨aq,ar,au,av,aw⟩:=info_parts yG;apply wp_cut;intro dh cY;go_wp2;go_loopg [8] rules (λq i wr=>∃(j:Nat) (v u:Value),q=rules-j/\j<=rules/\i=iX (j:Int)/\wr.ownsRow w.heap.size 3 1 v j ((List.range j).map λi=>iX (zC4 s p i:Nat))/\wr.ownsRow w.heap.size 3 1 u j ((List.range j).map λi=>iX (zAA s p modes i:Nat))/\(∀d,v.ownBlock=some d->u.ownBlock≠some d)/\xN wr a s (p+2*j) (k&&zAz s p modes j)/\zW wr b {c with acts:=v,pushed:=u}/\Kept w.heap.size a b w wr)
 case atStart=>exact⟨0,nX,nX,rfl,lX,rfl,ownsRow_nil _ _ _ _,ownsRow_nil _ _ _ _,(λ_ e=>by cases e),ag.rd.to rfl (by simp[zAz]),(by rw[Tc.nil45 c aM aN];exact ag.tb),Kept.refl _ _ _ _⟩
 case round=>
  obtain⟨j,v,u,ai,di,rfl,P,R,aj,S,X,I⟩:=hrel;have E:=(I.block g ah (by omega) (by omega)).trans (ag.own _ hJ).1;have cZ:cX wr g 1=some (iX rules):=by simp[World.cell?,E]
  have c3:=I.size;by_cases dj:j<rules
  ·have c4:(j:Int)<(rules:Int):=by omega
   have f:Hid (gk=rules-j/\xN wr a s (p+2*j) (k&&zAz s p modes j)/\Kept w.heap.size a b w wr/\zW wr b {c with acts:=v,pushed:=u}/\wr.ownsRow w.heap.size 3 1 v j ((List.range j).map λi=>iX (zC4 s p i:Nat))/\wr.ownsRow w.heap.size 3 1 u j ((List.range j).map λi=>iX (zAA s p modes i:Nat))/\(∀d,v.ownBlock=some d->u.ownBlock≠some d)/\wr.heap[g]? =some (.cells #[iX modes,iX rules,iX z,iX kinds,iX B] 152)):=⟨ai,S,I,X,P,R,aj,E⟩
   have ax:Hid (zC4 s p j=within (byt s (p+2*j)) 0 3):=rfl;have ay:Hid (zAA s p modes j=within (byt s (p+2*j+1)) 0 (modes-1)):=rfl;have az:Hid (zAz s p modes (j+1)=(zAz s p modes j&&decide (p+2*j<s.size)&&inB (byt s (p+2*j)) 0 3&&decide (p+2*j+1<s.size)&&inB (byt s (p+2*j+1)) 0 (modes-1))):=rfl;have Y:=zY (byt s (p+2*j)) 0 3 lX;have c5:=zY (byt s (p+2*j+1)) 0 (modes-1) lX;clear ai S I P R aj X E;go_wp2_with fail;refine(zBb a (p+2*j) s (k&&zAz s p modes j) wr f.2.1 af 0 3).mono ?_;rintro e w1 ⟨rfl,T,m⟩;have aa:=vl T;have J:Hid (w1.ownsRow w.heap.size 3 1 v j ((List.range j).map λi=>iX (zC4 s p i:Nat))):=xX f.2.2.2.2.1 m (by omega);have L:Hid (w1.ownsRow w.heap.size 3 1 u j ((List.range j).map λi=>iX (zAA s p modes i:Nat))):=xX f.2.2.2.2.2.1 m (by omega);have M:Hid (Kept w.heap.size a b w w1):=f.2.2.1.trans (.one (m _));have r:Hid (zW w1 b {c with acts:=v,pushed:=u}):=f.2.2.2.1.of_block ((m w.heap.size).block b (by omega) O.symm);have aA:cX w1 b 4=some v:=r.get_acts;have ac:w.heap.size<=w1.heap.size:=M.size;have dk:(modes:Int)-1=((modes-1:Nat):Int):=by omega
   have aB:Hid (w1.heap[g]? =some (.cells #[iX modes,iX rules,iX z,iX kinds,iX B] 152)):=((m w.heap.size).block g ah (by omega)).trans f.2.2.2.2.2.2.2;have dl:g≠b:=by omega
   clear T m cZ;rw[<-ax.out] at Y ⊢;clear ax;generalize U:zC4 s p j=x at *;have aC:Hid (zC4 s p j=x):=U;clear U;go_wp2_with (at_builtin;refine wpList_append_lies _ rfl _ _ 45 rfl w.heap.size 3 aq zX 1 8 underlying45 ar au av aw rfl (by decide) _ _ _ rfl (J.alloc _) ⟨w1.heap.size,0,none⟩ 1 1 [iX (x:Int)] rfl rfl (cell_one_new _ _ _) (by intro u V;simp at V;subst V;rfl) (by decide) (by unfold maxLen;omega) (by omega) (by simp;omega) _ rfl ?_;intro o cap w2 ad N ae aD;have l:=xH J N ac;have A:=(r.of_block (l.block b (by omega))).get_acts;have q2:=(r.of_block (l.block b (by omega))).fz 4;have q3:cX w2 g 0=some (iX modes):=by have c6:=(l.block g ah).trans aB;simp[World.cell?,c6])
   obtain⟨c7,aE,F⟩:∃w',w'=w2.setCell ⟨b,4,none⟩ (slice (qX o) (j+1) cap)/\Hid (w'.ownsRow w.heap.size 3 1 (slice (qX o) (j+1) cap) (j+1) ((List.range (j+1)).map λi=>iX (zC4 s p i:Nat))/\w'.ownsRow w.heap.size 3 1 u j ((List.range j).map λi=>iX (zAA s p modes i:Nat))/\u.ownBlock≠some o/\xN w' a s (p+2*j+1) (k&&zAz s p modes j&&decide (p+2*j<s.size)&&inB (byt s (p+2*j)) 0 3)/\zW w' b {c with acts:=slice (qX o) (j+1) cap,pushed:=u}/\Kept w.heap.size a b w w'):=by
    have ak:Kept w.heap.size a b w w2:=M.trans (.one (xE l));have al:zW w2 b {c with acts:=v,pushed:=u}:=r.of_block (l.block b (by omega));have am:∀d,d<w1.heap.size->v.ownBlock≠some d->w2.heap[d]? =w1.heap[d]? :=λd A q2=>(N.block d (by simp;omega) (Ne.symm q2)).trans (lG _ _ _ A);have an:w2.ownsRow w.heap.size 3 1 u j ((List.range j).map λi=>iX (zAA s p modes i:Nat)):=zD L λd A q2 q3=>am d q2 (λe=>f.2.2.2.2.2.2.1 d e q3);refine⟨_,rfl,xX ?_ (λ_=>Keep.set _ _ _) (by omega),xX an (λ_=>Keep.set _ _ _) (by omega),λe=>?_,(aa.of_block (l.block a (by omega))).of_block (lJ _ _ _ _ O),al.set_acts _,ak.trans (.two (Keep.set _ _ _))⟩
    ·rw[xQ,aC.out];exact ad
    ·rcases ae with G|G
     ·exact f.2.2.2.2.2.2.1 o G e
     ·have D:=(L.lt o e).2
      rw[G] at D;simp at D;omega
   rw[<-aE];clear aE r aa M J L l ad N ae aD A q2 q3 aB aC aA;clear ac;refine(zBb a (p+2*j+1) s _ c7 F.2.2.2.1 af 0 (modes-1)).mono ?_;rintro e t ⟨rfl,T,m⟩;have aa:Hid (xN t a s (p+2*(j+1)) (k&&zAz s p modes (j+1))):=by show xN _ _ _ _ _;rw[az.out];exact T.to rfl (by simp[Bool.and_assoc])
   have J:Hid (t.ownsRow w.heap.size 3 1 (slice (qX o) (j+1) cap) (j+1) ((List.range (j+1)).map λi=>iX (zC4 s p i:Nat))):=xX F.1 m (by omega);have L:Hid (t.ownsRow w.heap.size 3 1 u j ((List.range j).map λi=>iX (zAA s p modes i:Nat))):=xX F.2.1 m (by omega);have M:Hid (Kept w.heap.size a b w t):=F.2.2.2.2.2.trans (.one (m _));have r:Hid (zW t b {c with acts:=slice (qX o) (j+1) cap,pushed:=u}):=F.2.2.2.2.1.of_block ((m w.heap.size).block b (by omega) O.symm);have aA:cX t b 5=some u:=r.get_pushed;have ac:w.heap.size<=t.heap.size:=M.size;have aF:=F.2.2.1;clear T m F az;rw[<-ay.out] at c5 ⊢;clear ay;generalize U:zAA s p modes j=y at *;have c8:Hid (zAA s p modes j=y):=U;clear U;go_wp2_with (at_builtin;refine wpList_append_lies _ rfl _ _ 45 rfl w.heap.size 3 aq zX 1 8 underlying45 ar au av aw rfl (by decide) _ _ _ rfl (L.alloc _) ⟨t.heap.size,0,none⟩ 1 1 [iX (y:Int)] rfl rfl (cell_one_new _ _ _) (by intro u V;simp at V;subst V;rfl) (by decide) (by unfold maxLen;omega) (by omega) (by simp;omega) _ rfl ?_;intro aG c9 W ad N ae aD;have l:=xH L N ac;have A:=(r.of_block (l.block b (by omega))).get_pushed;have q2:=(r.of_block (l.block b (by omega))).fz 5)
   have ak:Kept w.heap.size a b w W:=M.trans (.one (xE l));have al:zW W b {c with acts:=slice (qX o) (j+1) cap,pushed:=u}:=r.of_block (l.block b (by omega));have am:∀d,d<t.heap.size->u.ownBlock≠some d->W.heap[d]? =t.heap[d]? :=λd A q2=>(N.block d (by simp;omega) (Ne.symm q2)).trans (lG _ _ _ A);have da:W.ownsRow w.heap.size 3 1 (slice (qX o) (j+1) cap) (j+1) ((List.range (j+1)).map λi=>iX (zC4 s p i:Nat)):=zD J λd A q2 q3=>am d q2 (zGo q3 ▸ aF);have an:W.ownsRow w.heap.size 3 1 (slice (qX aG) (j+1) c9) (j+1) ((List.range (j+1)).map λi=>iX (zAA s p modes i:Nat)):=by
    rw[xQ,c8.out];exact ad
   have db:o≠aG:=by
    intro e;rcases ae with G|G
    ·exact aF (by rw[e];exact G)
    ·have D:=(J.lt o rfl).2
     rw[e,G] at D;simp at D;omega
   go_roundg (rules-(j+1))
   case measure=>rw[f.out.1];omega
   case rel=>exact⟨j+1,_,_,rfl,by omega,congrArg (Value.int IntKind.i64) (by omega),xX da (λ_=>Keep.set _ _ _) (by omega),xX an (λ_=>Keep.set _ _ _) (by omega),(λd dc dd=>db ((zGo dc).trans (zGo dd).symm)),(aa.of_block (l.block a (by omega))).of_block (lJ _ _ _ _ O),al.set_pushed _,ak.trans (.two (Keep.set _ _ _))⟩
  ·have de:j=rules:=by omega
   have c4:(rules:Int)<=(j:Int):=by omega
   have f:Hid (xN wr a s (p+2*rules) (k&&zAz s p modes rules)/\Kept w.heap.size a b w wr/\zW wr b {c with acts:=v,pushed:=u}/\wr.ownsRow w.heap.size 3 1 v rules ((List.range rules).map λi=>iX (zC4 s p i:Nat))/\wr.heap[g]? =some (.cells #[iX modes,iX rules,iX z,iX kinds,iX B] 152)/\wr.ownsRow w.heap.size 3 1 u rules ((List.range rules).map λi=>iX (zAA s p modes i:Nat))):=by rw[de] at S P R;exact⟨S,I,X,P,E,R⟩
   clear ai S I P X E R aj;go_wp2_with fail;refine cY _ _ (qS (zQk a b H g wr s (p+2*rules) (k&&zAz s p modes rules) {c with acts:=v,pushed:=u} modes rules z kinds B ⟨f.1,f.2.2.1,λx Y=>by rw[kY] at Y;rw[Y];exact⟨f.2.2.2.2.1,cU⟩,Kept.refl _ _ _ _,O,cV,cW,by omega⟩ af D aI aJ aK aL aO aP) ?_);rintro e w' ⟨df,dg,ao⟩;exact⟨df,⟨v,u,zBe (yE f.2.2.2.1 ap) ao (by omega) (by omega),zBe (yE f.2.2.2.2.2 ap) ao (by omega) (by omega),dg⟩,f.2.1.trans (ao.mono c3)⟩
theorem zQm (a b H g:Nat)(w:World)(s:ByteArray)(p:Nat)(k:Bool)(c:Tc)(modes rules d kinds m:Nat)
  (h:Rt H a b w w s p k c [(g,.cells #[iX modes,iX rules,iX d,iX kinds,iX m] 152)]) (F:s.size<=1048576) (N:1<=modes/\modes<=3) (O:1<=rules/\rules<=8) (P:1<=d/\d<=200) (R:1<=kinds/\kinds<=256) (S:m<=3000) (T:c.starts=nX) (U:c.acts=nX) (V:c.pushed=nX) (W:c.next=nX) (X:c.ends=nX)
  {Y aa ac ad ae af ag ah ai aj ak al am an ao ap aq ar au av aw ax ay az aA aB aC aD aE aF aG aI aJ aK aL aM aN aO aP aQ aR aS aT aU aV aW aX aY aZ a0 a1 a2 a3 a4 a5 a6 a7 a8 a9 ba bb bc bd be bf bg bh bi bj bk bl bm bn bo bp bq br bs bt bu bv bw bx bz bA bB bC bD bE bF bG bI bJ bK bL bM bN bO bP bQ bR bS bT bU bV bW bX bY bZ b0 b1 b3 b4 b5 b6 b7 b8 b9 ca cb cc cd ce:Value}:
  Code.wp prog (xO 1 ((f83.body).getD .skip)) (bodyPost prog f83 λe w'=>
   e=rX/\P1 H a b s modes rules d kinds m w' c p k/\Kept w.heap.size a b w w')
   ⟨(pX a::pX b::Y::aa::ac::pX g::ad::ae::af::ag::ah::ai::aj::ak::al::am::an::ao::ap::aq::ar::au::av::aw::ax::ay::az::aA::aB::aC::aD::aE::aF::aG::aI::aJ::aK::aL::aM::aN::aO::aP::aQ::aR::aS::aT::aU::aV::aW::aX::aY::aZ::a0::a1::a2::a3::a4::a5::a6::a7::a8::a9::ba::bb::bc::bd::be::bf::bg::bh::bi::bj::bk::bl::bm::bn::bo::bp::bq::br::bs::bt::bu::bv::bw::bx::bz::bA::bB::bC::bD::bE::bF::bG::bI::bJ::bK::bL::bM::bN::bO::bP::bQ::bR::bS::bT::bU::bV::bW::bX::bY::bZ::b0::b1::b3::b4::b5::b6::b7::b8::b9::ca::cb::cc::cd::ce::[]).toArray,[]⟩ w:=by
 conv=>arg 2;whnf
 have B:=vl h;have l:=(h.own _ hJ).1;have cf:=(h.own _ hJ).2;have cg:=h.aH;have ch:=h.bH;have ci:=h.HH;have C:=h.ab;have cj:=(kQ.1 l).1;have ⟨ck,cl,cm,cn,co⟩:=info_parts yG;apply wp_cut;intro cL cp;go_wp2;go_loopg [6] modes (λq i wr=>∃(j:Nat) (v:Value),q=modes-j/\j<=modes/\i=iX (j:Int)/\wr.ownsRow w.heap.size 3 1 v j ((List.range j).map λi=>iX (toF s p d i:Nat))/\xN wr a s (p+2*j) (k&&toK s p d j)/\zW wr b {c with starts:=v}/\Kept w.heap.size a b w wr)
 case atStart=>exact⟨0,nX,rfl,lX,rfl,ownsRow_nil _ _ _ _,B.rd.to rfl (by simp[toK]),(by rw[<-T];exact B.tb),Kept.refl _ _ _ _⟩
 case round=>
  obtain⟨j,v,G,cM,rfl,t,y,D,o⟩:=hrel;have l:=(o.block g cj (by omega) (by omega)).trans (B.own _ hJ).1;have cN:cX wr g 0=some (iX modes):=by simp[World.cell?,l]
  have cO:cX wr g 2=some (iX d):=by simp[World.cell?,l]
  have cq:=o.size;by_cases cP:j<modes
  ·have cr:(j:Int)<(modes:Int):=by omega
   have f:Hid (gk=modes-j/\xN wr a s (p+2*j) (k&&toK s p d j)/\Kept w.heap.size a b w wr/\zW wr b {c with starts:=v}/\wr.ownsRow w.heap.size 3 1 v j ((List.range j).map λi=>iX (toF s p d i:Nat))):=⟨G,y,o,D,t⟩
   have ct:Hid (toF s p d j=within (xU s (p+2*j)) 0 (d-1)):=rfl;have cu:Hid (toK s p d (j+1)=(toK s p d j&&decide (p+2*j+1<s.size)&&inB (xU s (p+2*j)) 0 (d-1))):=rfl;have z:=zY (xU s (p+2*j)) 0 (d-1) lX;have cQ:(d:Int)-1=((d-1:Nat):Int):=by omega
   clear G y o t D l;go_wp2_with fail;refine(zEP a (p+2*j) s (k&&toK s p d j) wr f.2.1 F 0 (d-1)).mono ?_;rintro e w1 ⟨rfl,cw,E⟩;have cx:Hid (xN w1 a s (p+2*(j+1)) (k&&toK s p d (j+1))):=by show xN _ _ _ _ _;rw[cu.out];exact cw.to rfl (by simp[Bool.and_assoc])
   have I:=vl <| xX f.2.2.2.2 E (by omega);have J:=vl <| f.2.2.1.trans (.one (E _));have A:=vl <| f.2.2.2.1.of_block ((E w.heap.size).block b (by omega) C.symm);have cR:=A.get_starts;have cy:=J.size;rw[<-ct.out] at z ⊢;generalize cz:toF s p d j=x at *;have cA:=vl cz;go_wp2_with (at_builtin;refine wpList_append_lies _ rfl _ _ 45 rfl w.heap.size 3 ck zX 1 8 underlying45 cl cm cn co rfl (by decide) _ _ _ rfl (I.alloc _) ⟨w1.heap.size,0,none⟩ 1 1 [iX (x:Int)] rfl rfl (cell_one_new _ _ _) (by intro u L;simp at L;subst L;rfl) (by decide) (by unfold maxLen;omega) (by omega) (by simp;omega) _ rfl ?_;intro cB cap w2 cC cD cS cT;have r:=xH I cD cy;have cU:=(A.of_block (r.block b (by omega))).get_starts;have q2:=(A.of_block (r.block b (by omega))).fz 3)
   have cE:=cx.of_block (r.block a (by omega));have cF:=J.trans (.one (xE r));have cG:=A.of_block (r.block b (by omega));have cH:w2.ownsRow w.heap.size 3 1 (slice (qX cB) (j+1) cap) (j+1) ((List.range (j+1)).map λi=>iX (toF s p d i:Nat)):=by
    rw[xQ,cA.out];exact cC
   go_roundg (modes-(j+1))
   case measure=>rw[f.out.1];omega
   case rel=>exact⟨j+1,_,rfl,by omega,congrArg (Value.int IntKind.i64) (by omega),xX cH (λ_=>Keep.set _ _ _) (by omega),cE.of_block (lJ _ _ _ _ C),cG.set_starts _,cF.trans (.two (Keep.set _ _ _))⟩
  ·have cI:j=modes:=by omega
   have cr:(modes:Int)<=(j:Int):=by omega
   have f:Hid (xN wr a s (p+2*modes) (k&&toK s p d modes)/\Kept w.heap.size a b w wr/\zW wr b {c with starts:=v}/\wr.ownsRow w.heap.size 3 1 v modes ((List.range modes).map λi=>iX (toF s p d i:Nat))/\wr.heap[g]? =some (.cells #[iX modes,iX rules,iX d,iX kinds,iX m] 152)):=by rw[cI] at y t;exact⟨y,o,D,t,l⟩
   go_wp2;refine cp _ _ (qS (zQl a b H g wr s (p+2*modes) (k&&toK s p d modes) {c with starts:=v} modes rules d kinds m ⟨f.1,f.2.2.1,λx z=>by rw[kY] at z;rw[z];exact⟨f.2.2.2.2,cf⟩,Kept.refl _ _ _ _,C,cg,ch,by omega⟩ F N O P R S U V W X) ?_);rintro e w' ⟨cJ,cK,M⟩;exact⟨cJ,⟨v,zBe (yE f.2.2.2.1 ci) M (by omega) (by omega),cK⟩,f.2.1.trans (M.mono cq)⟩
theorem zLR (a b H:Nat)(w:World)(s:ByteArray)(p:Nat)(k:Bool)(c:Tc)(modes rules f kinds g:Nat)
  (h:Rt H a b w w s p k c []) (j:s.size<=1048576) (l:1<=modes/\modes<=3) (m:1<=rules/\rules<=8) (o:1<=f/\f<=200) (q:1<=kinds/\kinds<=256) (r:g<=3000) (t:c.starts=nX) (u:c.acts=nX) (v:c.pushed=nX) (x:c.next=nX) (y:c.ends=nX):
  Calls prog 83 #[pX a,pX b,agg #[iX modes,iX rules,iX f,iX kinds,iX g]] w λe w'=>
   e=rX/\P1 H a b s modes rules f kinds g w' c p k/\Kept w.heap.size a b w w':=by
 have z:=vl h;go_in;apply wp_cut;intro E A;go_wp2;have d:=z.alloc (.cells #[iX modes,iX rules,iX f,iX kinds,iX g] 152);refine A _ _ (qS (zQm a b H w.heap.size _ s p k c modes rules f kinds g ⟨d.rd,d.tb,d.own,Kept.refl _ _ _ _,d.ab,d.aH,d.bH,d.HH⟩ j l m o q r t u v x y) ?_);rintro e w' ⟨B,C,D⟩;exact⟨B,C,(Kept.one (kZ _ _ lQ)).trans (D.mono (by simp))⟩
section
theorem zNV {k:IntKind}{a b:Int}(c:a=b):Ending.returned (int k a)=returned (int k b):=by rw[c]
theorem zMP {a b:Bool}(c:a=b):Ending.returned (bool a)=returned (bool b):=by rw[c]
def IntsAt (w:World)(S:Nat->Prop)(v:Value)(n:Nat)(f:Nat->Int):Prop:=
 ∃b o cap,S b/\v=slice (some ⟨b,o,none⟩) n cap/\n<=cap/\cap<=maxLen/\∀i,i<n->w.cell? ⟨b,o+i,none⟩=some (int i64 (f i))
def BytesAt (w:World)(S:Nat->Prop)(v:Value)(n:Nat)(f:Nat->Nat):Prop:=
 ∃b o cap,S b/\v=slice (some ⟨b,o,none⟩) n cap/\n<=cap/\cap<=maxLen/\∀i,i<n->w.cell? ⟨b,o+i,none⟩=some (int .u8 (f i))
def BoolsAt (w:World)(S:Nat->Prop)(v:Value)(n:Nat)(f:Nat->Bool):Prop:=
 ∃b o cap,S b/\v=slice (some ⟨b,o,none⟩) n cap/\n<=cap/\cap<=maxLen/\∀i,i<n->w.cell? ⟨b,o+i,none⟩=some (bool (f i))
def RowsAt (w:World)(S:Nat->Prop)(v:Value)(n m:Nat)(f:Nat->Nat->Int):Prop:=
 ∃b o cap,S b/\v=slice (some ⟨b,o,none⟩) n cap/\n<=cap/\cap<=maxLen/\∀i,i<n->∃u,w.cell? ⟨b,o+i,none⟩=some u/\IntsAt w S u m (f i)
section
variable {w w':World} {S:Nat->Prop} {v:Value} {n m:Nat}
theorem IntsAt.keep {f:Nat->Int}(c:IntsAt w S v n f)(e:∀b,S b->w'.heap[b]? =w.heap[b]?):IntsAt w' S v n f:=by
 obtain⟨b,o,cap,a,rfl,d,g,j⟩:=c;exact⟨b,o,cap,a,rfl,d,g,λi k=>(gY (e b a)).trans (j i k)⟩
theorem BytesAt.keep {f:Nat->Nat}(c:BytesAt w S v n f)(e:∀b,S b->w'.heap[b]? =w.heap[b]?):BytesAt w' S v n f:=by
 obtain⟨b,o,cap,a,rfl,d,g,j⟩:=c;exact⟨b,o,cap,a,rfl,d,g,λi k=>(gY (e b a)).trans (j i k)⟩
theorem BoolsAt.keep {f:Nat->Bool}(c:BoolsAt w S v n f)(e:∀b,S b->w'.heap[b]? =w.heap[b]?):BoolsAt w' S v n f:=by
 obtain⟨b,o,cap,a,rfl,d,g,j⟩:=c;exact⟨b,o,cap,a,rfl,d,g,λi k=>(gY (e b a)).trans (j i k)⟩
theorem RowsAt.keep {f:Nat->Nat->Int}(c:RowsAt w S v n m f)(e:∀b,S b->w'.heap[b]? =w.heap[b]?):RowsAt w' S v n m f:=by
 obtain⟨b,o,cap,a,rfl,d,g,j⟩:=c;refine⟨b,o,cap,a,rfl,d,g,λi k=>?_⟩;have ⟨u,l,p⟩:=j i k;exact⟨u,(gY (e b a)).trans l,p.keep e⟩
end
structure Tb where
 stream:Bool
 ahead:Nat
 hold:Nat
 count:Nat
 rows:Nat
 nst:Nat
 nmode:Nat
 nrule:Nat
 nlong:Nat
 start:Nat->Nat
 act:Nat->Nat
 push:Nat->Nat
 kind:Nat->Nat
 next:Nat->Nat->Nat
 ends:Nat->Int
 live:Nat->Bool
 long:Nat->Nat
structure Tb.Ok (t:Tb):Prop where
 ahead:t.ahead<64
 hold0:1<=t.hold
 hold:t.hold<=64
 count:t.count<=256
 rows0:1<=t.rows
 rows:t.rows<=3000
 nst:t.nst<=200
 nmode:1<=t.nmode
 long:t.rows*t.nst<=8*t.nlong
 start:∀i,i<t.nmode->t.start i<t.nst
 push:∀i,i<t.nrule->t.push i<t.nmode
 kind:∀c,c<256->t.kind c<t.count
 next:∀s k,s<t.nst->k<t.count->t.next s k<t.nst
 ends:∀s,s<t.nst->-1<=t.ends s/\t.ends s<t.nrule
 longB:∀i,i<t.nlong->t.long i<256
structure TabAt (w:World)(S:Nat->Prop)(p:Nat)(t:Tb):Prop where
 safe:S p
 c0:w.cell? ⟨p,0,none⟩=some (bool t.stream)
 c1:w.cell? ⟨p,1,none⟩=some (int i64 t.ahead)
 c2:w.cell? ⟨p,2,none⟩=some (int i64 t.hold)
 c3:∃v,w.cell? ⟨p,3,none⟩=some v/\IntsAt w S v t.nmode λi=>t.start i
 c4:∃v,w.cell? ⟨p,4,none⟩=some v/\IntsAt w S v t.nrule λi=>t.act i
 c5:∃v,w.cell? ⟨p,5,none⟩=some v/\IntsAt w S v t.nrule λi=>t.push i
 c6:∃v,w.cell? ⟨p,6,none⟩=some v/\IntsAt w S v 256 λi=>t.kind i
 c7:w.cell? ⟨p,7,none⟩=some (int i64 t.count)
 c8:∃v,w.cell? ⟨p,8,none⟩=some v/\RowsAt w S v t.nst t.count λi k=>t.next i k
 c9:∃v,w.cell? ⟨p,9,none⟩=some v/\IntsAt w S v t.nst λi=>t.ends i
 c10:∃v,w.cell? ⟨p,10,none⟩=some v/\BoolsAt w S v t.nst λi=>t.live i
 c11:w.cell? ⟨p,11,none⟩=some (int i64 t.rows)
 c12:∃v,w.cell? ⟨p,12,none⟩=some v/\BytesAt w S v t.nlong λi=>t.long i
theorem TabAt.keep {w w':World}{S:Nat->Prop}{p:Nat}{t:Tb}(d:TabAt w S p t)(e:∀b,S b->w'.heap[b]? =w.heap[b]?):TabAt w' S p t:=by
 have c:∀i,cX w' p i=cX w p i:=λi=>gY (e p d.safe);refine⟨d.safe,(c _).trans d.c0,(c _).trans d.c1,(c _).trans d.c2,?_,?_,?_,?_,(c _).trans d.c7,?_,?_,?_,(c _).trans d.c11,?_⟩
 ·have ⟨v,a,b⟩:=d.c3;exact⟨v,(c _).trans a,b.keep e⟩
 ·have ⟨v,a,b⟩:=d.c4;exact⟨v,(c _).trans a,b.keep e⟩
 ·have ⟨v,a,b⟩:=d.c5;exact⟨v,(c _).trans a,b.keep e⟩
 ·have ⟨v,a,b⟩:=d.c6;exact⟨v,(c _).trans a,b.keep e⟩
 ·have ⟨v,a,b⟩:=d.c8;exact⟨v,(c _).trans a,b.keep e⟩
 ·have ⟨v,a,b⟩:=d.c9;exact⟨v,(c _).trans a,b.keep e⟩
 ·have ⟨v,a,b⟩:=d.c10;exact⟨v,(c _).trans a,b.keep e⟩
 ·have ⟨v,a,b⟩:=d.c12;exact⟨v,(c _).trans a,b.keep e⟩
theorem zF7 (p:Nat)(w:World)(S:Nat->Prop)(t:Tb)(a:TabAt w S p t)(ok:t.Ok)(s c:Nat)(j:s<t.nst)(d:c<256):
  Calls prog 154 #[pX p,iX s,int .u8 c] w λe w'=>e=returned (iX (t.next s (t.kind c)))/\w'.Alike w:=by
 obtain⟨_,z,b,o,cap,A,rfl,B,C,f⟩:=a.c8;obtain⟨u,D,b2,l,E,F,rfl,G,H,g⟩:=f s j;obtain⟨_,I,q,r,J,K,rfl,L,M,h⟩:=a.c6;have N:cX w q (r+c)=some (iX (t.kind c:Nat)):=h c d;have y:=ok.kind c d;have O:cX w b2 (l+t.kind c)=some (iX (t.next s (t.kind c):Nat)):=g (t.kind c) y;clear f g h a ok;generalize t.kind c=k at *;generalize t.next s k=x at *
 generalize t.nst=n at *;generalize t.count=m at *;have P:(s:Int)<(n:Int):=by omega
 have R:(k:Int)<(m:Int):=by omega
 have T:(c:Int)<256:=by omega
 go_in;go_wp2;go_quiet (fail);go_wp2;go_ret;exact⟨rfl,rfl,rfl,rfl⟩
theorem zNj (p:Nat)(w:World)(S:Nat->Prop)(t:Tb)(a:TabAt w S p t):
  Calls prog 118 #[pX p] w λe w'=>e=returned (iX t.count)/\w'.Alike w:=by
 have b:=a.c7;generalize t.count=m at *;go_in;go_wp2;go_ret;exact⟨rfl,rfl,rfl,rfl⟩
def Tb.further (t:Tb)(a d:Nat):Nat:=(a*(t.count+1)+d)%t.rows
theorem zBI (p:Nat)(w:World)(S:Nat->Prop)(t:Tb)(c:TabAt w S p t)(ok:t.Ok)(a b:Nat)(g:a<3000)(j:b<=256):
  Calls prog 108 #[pX p,iX a,iX b] w λe w'=>e=returned (iX (t.further a b))/\w'.Alike w:=by
 have k:=c.c7;have l:=c.c11;have o:=ok.count;have b2:=ok.rows0;have q:=ok.rows;have f:Hid (t.further a b=(a*(t.count+1)+b)%t.rows):=rfl;generalize t.further a b=x at *;generalize t.count=m at *;generalize t.rows=n at *;have r:(a:Int)*((m:Int)+1)<=771000:=by
  have s:a*(m+1)<=771000:=lY (Nat.mul_le_mul (show a<=3000 by omega) (show m+1<=257 by omega)) (by decide);have e:(a:Int)*((m:Int)+1)=((a*(m+1):Nat):Int):=by simp
  rw[e];omega
 have u:0<=(a:Int)*((m:Int)+1):=by
  have e:(a:Int)*((m:Int)+1)=((a*(m+1):Nat):Int):=by simp
  rw[e];omega
 have y:((n:Int)==0)=false:=by rw[hX];omega
 go_in;go_wp2;go_quiet (fail);go_wp2;go_ret;exact⟨zNV (by rw[f.out];simp),rfl,rfl,rfl⟩
def Tb.longer (t:Tb)(a s:Nat):Bool:=decide (t.long ((a*t.nst+s)/8)/2^((a*t.nst+s)%8)%2=1)
theorem zM0 (x k:Nat)(b:x<256):(bits BinOp.and IntKind.u8 ((x:Int)/2^k) 1==1)=decide (x/2^k%2=1):=by
 have c:x/2^k<=x:=Nat.div_le_self _ _;have a:=u8_and_nat (x/2^k) 1 (by omega) (by decide);rw[zCl];rw[show ((1:Nat):Int)=1 from rfl] at a;rw[a,Nat.and_one_is_mod,Bool.eq_iff_iff];simp only[beq_iff_eq,decide_eq_true_eq];omega
abbrev Ca:=Calls prog
end
section
def Row (w:World)(H:Nat)(e:TypeId)(v:Value)(n:Nat)(f:Nat->Value):Prop:=w.ownsRow H e 1 v n ((List.range n).map f)
section
variable {w w':World} {H:Nat} {e e':TypeId} {v u:Value} {n m:Nat} {f f':Nat->Value}
theorem Row.get (c:Row w H e v n f)(r:0<n):∃g cap,v=slice (qX g) n cap/\H<=g/\g<w.heap.size/\n<=cap/\cap<=maxLen/\(∀i,i<n->w.cell? ⟨g,i,none⟩=some (f i))/\(∀i,w.frozen? ⟨g,i,none⟩=false):=by
 rcases c.2 with⟨_,s⟩|⟨g,cap,d,j,k,a,l,o,t,p⟩
 ·omega
 ·refine⟨g,cap,j,k,(kQ.1 a).1,l,o,λi q=>?_,λi=>by simp[World.frozen?,a]⟩
  have b:(d.toList.take (n*1))[i]? =some (f i):=by rw[p];simp[q]
  rw[List.getElem?_take,if_pos (by omega)] at b;simp[World.cell?,a];simpa using b
theorem Row.congr (a:Row w H e v n f)(b:∀i,i<n->f i=f' i):Row w H e v n f':=by
 unfold Row at *;rw[<-List.map_congr_left λi c=>b i (List.mem_range.1 c)];exact a
theorem Row.set {g cap:Nat}(o:Row w H e (slice (qX g) n cap) n f)(i:Nat)(x:Value):Row (w.setCell ⟨g,i,none⟩ x) H e (slice (qX g) n cap) n (λj=>if j=i then x else f j):=by
 refine⟨by simp,?_⟩;rcases o.2 with⟨b,_⟩|⟨C,D,c,b,p,q,r,s,t,y⟩
 ·cases b
 ·injection b with d _ z
  injection d with d;injection d with A;subst A z;refine .inr ⟨g,cap,c.setIfInBounds i x,rfl,p,?_,r,s,by simpa using t,?_⟩
  ·simp[setCell,lU,q]
  ·apply List.ext_getElem?
   intro j;have a:(c.toList.take (n*1))[j]? =((List.range n).map f)[j]? :=by rw[y]
   rw[List.getElem?_take] at a ⊢;by_cases k:j<n
   ·rw[if_pos (by omega)] at a ⊢
    simp[k] at a;have B:j<c.size:=by omega
    simp[Array.getElem?_setIfInBounds,k];by_cases l:i=j
    ·subst l
     simp[B]
    ·simp[l,Ne.symm l]
     simpa using a
   ·rw[if_neg (by omega)]
    simp[k]
theorem Row.blk (a:Row w H e v n f)(b:∀g,H<=g->g<w.heap.size->v.ownBlock=some g->w'.heap[g]? =w.heap[g]?):Row w' H e v n f:=zD a b
theorem Row.setOther {g i cap:Nat}{x:Value}(a:Row w H e v n f)(b:Row w H e' (slice (qX g) m cap) m f')(c:e≠e'):Row (w.setCell ⟨g,i,none⟩ x) H e v n f:=
 a.blk λk _ _ d=>lJ _ _ _ _ (λj=>zDf a b c d (by rw[show k=g from j];rfl))
theorem Row.mono {a:Nat}(b:Row w H e v n f)(c:a<=H):Row w a e v n f:=yE b c
end
theorem zH6 {w:World}{H b:Nat}{c:Tc}{e:TypeId}{v:Value}{n:Nat}{f:Nat->Value}(a:zW w b c)(k:Row w H e v n f)(l:e≠90){g:Nat}(d:v.ownBlock=some g):g≠b:=by
 intro o;subst o;rcases k.2 with⟨j,_⟩|⟨p,_,t,j,_,q,_⟩
 ·rw[j] at d;cases d
 ·rw[j] at d
  have r:p=g:=by simpa[Value.ownBlock] using d
  subst r;unfold zW at a;rw[q] at a;injection a with a;injection a with _ s _;exact l s
structure Mem (w:World)(H b:Nat)(c:Tc)(t:Tb):Prop where
 tp:zW w b c
 stream:c.stream=bool t.stream
 ahead:c.ahead=int i64 t.ahead
 hold:c.hold=int i64 t.hold
 count:c.count=int i64 t.count
 rows:c.rows=int i64 t.rows
 starts:Row w H 3 c.starts t.nmode λi=>int i64 (t.start i:Nat)
 acts:Row w H 3 c.acts t.nrule λi=>int i64 (t.act i:Nat)
 pushed:Row w H 3 c.pushed t.nrule λi=>int i64 (t.push i:Nat)
 kinds:Row w H 3 c.kinds 256 λi=>int i64 (t.kind i:Nat)
 next:∃rv,Row w H 45 c.next t.nst rv/\∀i,i<t.nst->Row w H 3 (rv i) t.count λk=>int i64 (t.next i k:Nat)
 ends:Row w H 3 c.ends t.nst λi=>int i64 (t.ends i)
 live:Row w H 4 c.live t.nst λi=>bool (t.live i)
 longer:Row w H 5 c.longer t.nlong λi=>int .u8 (t.long i:Nat)
 HH:H<=w.heap.size
theorem Mem.keep {w w':World}{H b:Nat}{c:Tc}{t:Tb}(a:Mem w H b c t)(d:w'.heap[b]? =w.heap[b]?)(j:∀k,H<=k->k<w.heap.size->w'.heap[k]? =w.heap[k]?)(l:w.heap.size<=w'.heap.size):Mem w' H b c t:=by
 have k:∀{e v n f},Row w H e v n f->Row w' H e v n f:=λr=>r.blk λg o p _=>j g o p;have ⟨rv,q,s⟩:=a.next
 exact⟨a.tp.of_block d,a.stream,a.ahead,a.hold,a.count,a.rows,k a.starts,k a.acts,k a.pushed,k a.kinds,⟨rv,k q,λi x=>k (s i x)⟩,k a.ends,k a.live,k a.longer,lY a.HH l⟩
theorem Mem.setLive {w:World}{H b g cap:Nat}{c:Tc}{t:Tb}(a:Mem w H b c t)(k:c.live=slice (qX g) t.nst cap)(i:Nat)(q:H<=g):Mem (w.setCell ⟨g,i,none⟩ (bool true)) H b c {t with live:=λj=>if j=i then true else t.live j}:=by
 have d:=a.live;rw[k] at d;have ⟨rv,l,o⟩:=a.next
 refine⟨a.tp.of_block (lJ _ _ _ _ (zH6 a.tp d (by decide) rfl).symm),a.stream,a.ahead,a.hold,a.count,a.rows,a.starts.setOther d (by decide),a.acts.setOther d (by decide),a.pushed.setOther d (by decide),a.kinds.setOther d (by decide),⟨rv,l.setOther d (by decide),λi p=>(o i p).setOther d (by decide)⟩,a.ends.setOther d (by decide),?_,a.longer.setOther d (by decide),by simpa[World.setCell] using a.HH⟩;rw[k];refine(d.set i tX).congr λj _=>?_;show(if j=i then tX else Value.bool (t.live j))=Value.bool (if j=i then true else t.live j);by_cases e:j=i <;> simp[e]
structure Tb.OkN (t:Tb):Prop where
 count:t.count<=256
 nst:t.nst<=200
 next:∀s k,s<t.nst->k<t.count->t.next s k<t.nst
 ends:∀s,s<t.nst->-1<=t.ends s/\t.ends s<t.nrule
theorem Tb.Ok.n {t:Tb}(ok:t.Ok):t.OkN:=⟨ok.count,ok.nst,ok.next,ok.ends⟩
def Tb.anyTo (t:Tb)(s:Nat):Nat->Bool
 |0=>false
 |k+1=>t.anyTo s k||t.live (t.next s k)
theorem zNz (t:Tb)(s k n:Nat)(c:k<=n)(a:t.anyTo s k=true):t.anyTo s n=true:=by
 induction n with
 |zero=>rw[show k=0 by omega] at a;exact a
 |succ n b=>
  by_cases e:k=n+1
  ·rw[<-e];exact a
  ·rw[Tb.anyTo,b (by omega)];rfl
theorem zDF (w:World)(H b:Nat)(c:Tc)(t:Tb)(a:Mem w H b c t)(ok:t.OkN)(s:Nat)(d:s<t.nst)(y:1<=t.count)(rv:Value)(h:Row w H 3 rv t.count λk=>iX (t.next s k:Nat)):
  Calls prog 138 #[pX b,rv] w λe w'=>e=returned (bool (t.anyTo s t.count))/\w'=w:=by
 obtain⟨g,cap,rfl,O,P,R,S,l,z⟩:=h.get y;have ⟨gl,A,B,T,U,V,W,o,C⟩:=a.live.get (Nat.lt_of_le_of_lt lX d);have X:cX w b 10=some (slice (qX gl) t.nst A):=by rw[<-B];exact a.tp.get_live
 have D:Hid (∀k,k<t.count->t.next s k<t.nst):=λk E=>ok.next s k d E
 have F:=vl l;have G:=vl o;have Y:=ok.count;have aa:=ok.nst;clear a ok h l o z C;generalize ab:t.count=n at *;go_in;go_wp2;go_loop [9] (λi=>∃j:Nat,j<=n/\i=iX j/\t.anyTo s j=false) (λi=>n-(intOf i).toNat)
 case atStart=>exact⟨0,lX,rfl,rfl⟩
 case round=>
  obtain⟨j,ac,rfl,I⟩:=hrel;have p:=vl I;by_cases q:j<n
  ·have J:(j:Int)<(n:Int):=by omega
   have ad:=F j q;have K:=D j q;have ae:=G _ K;have af:(t.next s j:Int)<(t.nst:Int):=by omega
   have L:Hid (t.anyTo s (j+1)=(t.anyTo s j||t.live (t.next s j))):=rfl;generalize t.next s j=x at *
   generalize ag:t.live x=lv at *;have r:Hid (t.anyTo s (j+1)=lv):=by show _=_;rw[L.out,p.out];rfl
   cases lv with
   |true=>
    go_wp2;go_ret;exact⟨vG (zNz t s (j+1) n (by omega) r).symm,rfl⟩
   |false=>
    go_wp2;exact⟨⟨j+1,by omega,by go_num,r⟩,by simp[intOf];omega⟩
  ·have M:j=n:=by omega
   have J:(n:Int)<=(j:Int):=by omega
   have N:Hid (t.anyTo s n=false):=by rw[<-M];exact p
   go_wp2;go_ret;exact⟨vG N.symm,rfl⟩
end
theorem zFr (p:Nat)(w:World)(S:Nat->Prop)(t:Tb)(c:TabAt w S p t)(ok:t.Ok)(a s:Nat)(d:a<t.rows)(m:s<t.nst):
  Calls prog 155 #[pX p,iX a,iX s] w λe w'=>e=returned (bool (t.longer a s))/\w'=w:=by
 obtain⟨_,q,b,o,cap,r,rfl,u,v,y⟩:=c.c8;obtain⟨_,z,f,g,A,B,rfl,C,D,h⟩:=c.c12;have E:a*t.nst+s<8*t.nlong:=by
  have j:(a+1)*t.nst<=t.rows*t.nst:=Nat.mul_le_mul_right _ d;have F:=ok.long;rw[Nat.add_mul] at j;omega
 have G:cX w f (g+(a*t.nst+s)/8)=some (int .u8 (t.long ((a*t.nst+s)/8):Nat)):=h _ (by omega);have k:=ok.longB ((a*t.nst+s)/8) (by omega);have H:=ok.rows;have b2:=ok.nst;have l:Hid (t.longer a s=decide (t.long ((a*t.nst+s)/8)/2^((a*t.nst+s)%8)%2=1)):=rfl;have I:a*t.nst<=600000:=lY (Nat.mul_le_mul (show a<=3000 by omega) b2) (by decide);generalize t.longer a s=J at *;generalize t.long ((a*t.nst+s)/8)=x at *;generalize t.nst=n at *;generalize t.nlong=K at *;have L:(a:Int)*(n:Int)<=600000:=by
  have e:(a:Int)*(n:Int)=((a*n:Nat):Int):=by simp
  rw[e];omega
 have M:0<=(a:Int)*(n:Int):=by
  have e:(a:Int)*(n:Int)=((a*n:Nat):Int):=by simp
  rw[e];omega
 go_in;go_wp2;go_ret;exact⟨zMP (by rw[l.out];exact zM0 x _ k),rfl⟩
end Go.Proofs.YtbjcfkdnjaiclaaGreat
