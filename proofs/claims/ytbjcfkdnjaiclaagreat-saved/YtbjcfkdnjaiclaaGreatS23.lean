import Derived.Deep.DrawnRows
import Derived.Deep.RegionLaw
import Derived.Test.YtbjcfkdnjaiclaaGreatS0
import Derived.Test.YtbjcfkdnjaiclaaGreatS22
/- Parts of the proof. -/
set_option linter.unusedVariables false
set_option linter.unusedSimpArgs false
set_option maxHeartbeats 4000000
set_option maxRecDepth 100000
namespace Go.Proofs.YtbjcfkdnjaiclaaGreat
open Go.RowKit Go.Proofs.Tryz Go.World
open Go.Value (int slice bool pointer string agg tuple)
open Go.IntKind (i64)
open Go.Ending (returned)
theorem zPj:(prog.info? 233).map (λi=>(i.zero,i.size,i.bytes))=some (some (agg #[string ⟨#[]⟩,pointer none]),2,24):=by kernel_rfl
structure ShOk (sh:Sh)(D:Nat):Prop where
 modes:sh.modes.length<=3
 defs:sh.defs.length<=4
 acts:sh.acts.length<=8
 same:sh.pushed.length=sh.acts.length
 names:∀i,i<sh.defs.length->(sh.defn i).1.size<=6
 trees:zBI D sh.defs
 rules:∀i,i<sh.modes.length->∀t∈(sh.mode i).2,TrOk D t
theorem Sw.defsIn {w:World}{X:Nat->Prop}{S D:Nat}{sh:Sh}{k dv l m:Value}{rv:Nat->Value}{o:Nat->List Nat}{a:Nat->Nat}(b:Sw w X S D sh k dv l m rv o a)(p:∀i,i<sh.defs.length->(sh.defn i).1.size<=6):DefsIn w.heap.size X w D dv sh.defs:=by
 obtain⟨ao,cap,d,q,r⟩:=zD3 b.dOwn;refine⟨ao,cap,d,q,r,λi c=>?_⟩;obtain⟨g,v,e,-,f,-,-,j,-⟩:=vD b.dOwn (by omega);rw[d] at e;injection e with s x y;obtain⟨t,u⟩:=zBK (λi=>string (sh.defn i).1) (λi=>pointer (some ⟨a i,0,none⟩)) sh.defs.length i c;refine⟨g,0,a i,s,f,f,?_,?_,b.dTree i c,lY (p i c) (by omega)⟩
 ·rw[Nat.zero_add];exact j _ _ t
 ·rw[Nat.zero_add];exact j _ _ u
theorem zB9 {w w1 w2:World}(a:Grew w w1)(b:Grew w1 w2):Grew w w2:=a.trans (b.lower a.size a.size)
def jU (sh:Sh)(s:ByteArray):Option Sh:=
 if zAD s 32 then if 4<=sh.defs.length then none else if sh.hasDefB (qD s 32) then none else if xT (qD s 32) then(match jN (vA s 32) sh.defs with
  |none=>none
  |some t=>some (sh.addDef (qD s 32) t)) else none else none
theorem zET (s:ByteArray)(c:Nat):(qD s c).size<=s.size:=by
 unfold qD;split
 ·rw[ByteArray.size_extract];omega
 ·exact lQ
theorem zAg (s:ByteArray)(c:Nat):(vA s c).size<=s.size:=by
 unfold vA;split
 ·rw[ByteArray.size_extract];omega
 ·exact lX
theorem zOc (w:World)(X:Nat->Prop)(S D:Nat)(sh:Sh)(u dv j k:Value)(rv:Nat->Value)(l:Nat->List Nat)(m:Nat->Nat)(o:Sw w X S D sh u dv j k rv l m)(ok:ShOk sh D)(s:ByteArray)(R:s.size<=1000)(a c:ByteArray)(p:Bool)(T:a.size<=1000)(U:c.size<=1000)(hcut:∀w,Calls prog 86 #[string s,int .u8 32] w λe w'=>e=returned (tuple #[string a,string c,bool p])/\Grew w w')(I:¬(p=true/\¬4<=sh.defs.length/\sh.hasDefB a=false/\xT a=true/\∃t,jN c sh.defs=some t)):
  Calls prog 121 #[pX S,string s] w (LnAns w S (D+2+4*s.size) (none)):=by
 obtain⟨ao,v,J⟩:=zE o.dOwn;subst J;have x:=o.lt;have q:Hid (∀w1,Grew w w1->Keep S S w w1):=λw1 b=>b.lower (Nat.le_of_lt x) (Nat.le_of_lt x);have d:Hid (∀w1,Grew w w1->Sw w1 X S D sh u (slice ao sh.defs.length v) j k rv l m):=λw1 b=>o.grown b;have y:=vl λw1 w2=>zB9 (w:=w) (w1:=w1) (w2:=w2);have L:=vl (hcut w);have f:=vl ok;have r:=Nat.lt_or_ge sh.defs.length 4;have z:=vl λ(w1:World) (b:Grew w w1)=>zEc w1 X S D sh _ _ j k rv l m (d w1 b) (by have:=f.defs;omega) a;have C:=vl λw=>jL w a (by omega);have E:=vl λ(w2:World) (b:Grew w w2)=>zAt w2 X c (slice ao sh.defs.length v) (by omega) D sh.defs ((d w2 b).defsIn f.names) (by have:=f.defs;omega) f.trees;go_in;rcases p with _|_;rotate_left;rcases r with r|r;rcases F:sh.hasDefB a with _|_;rcases G:xT a with _|_;rotate_left;rcases H:jN c sh.defs with _|t;rotate_left
 ·exact absurd ⟨rfl,by omega,F,G,t,H⟩ I
 all_goals
  try rw[F] at z
  try rw[G] at C
  try rw[H] at E
  try have M:(sh.defs.length:Int)<4:=by omega
  try have M:(4:Int)<=(sh.defs.length:Int):=by omega
  go_wp2_with (first|(go_at_call 86;refine L.mono ?_;rintro e w1 ⟨rfl,g⟩;have V:=(d w1 g).cells.2.1)|(go_at_call 161;refine(z w1 g).mono ?_;rintro e w2 ⟨rfl,N⟩;have i:=vl (y _ _ g N);have W:=(d w2 i).cells.2.1)|(go_at_call 160;refine(C _).mono ?_;rintro e Y ⟨rfl,O⟩;have P:=O.symm;subst P)|(go_at_call 162;refine(E w2 i).mono ?_;rintro e aa ⟨Q,rfl⟩))
  go_ret
  first|exact⟨q _ (y _ _ i Q),rfl⟩|exact⟨q _ i,rfl⟩|exact⟨q _ g,rfl⟩
theorem zQy (w:World)(X:Nat->Prop)(S D:Nat)(sh:Sh)(r dv g j:Value)(rv:Nat->Value)(k:Nat->List Nat)(u:Nat->Nat)(C:Sw w X S D sh r dv g j rv k u)(ok:ShOk sh D)(s:ByteArray)(aD:s.size<=1000)(a d:ByteArray)(H:Bool)(aE:a.size<=1000)(aF:d.size<=1000)(hcut:∀w,Calls prog 86 #[string s,int .u8 32] w λe w'=>e=returned (tuple #[string a,string d,bool H])/\Grew w w')(aG:d.size<=s.size)(Q:H=true)(aH:¬4<=sh.defs.length)(R:sh.hasDefB a=false)(T:xT a=true)(t:Tr)(U:jN d sh.defs=some t):
  Calls prog 121 #[pX S,string s] w (LnAns w S (D+2+4*s.size) (some (sh.addDef a t))):=by
 obtain⟨ao,E,V⟩:=zE C.dOwn;subst V;have I:=C.lt;have W:Hid (∀w1,Grew w w1->Keep S S w w1):=λw1 f=>f.lower (Nat.le_of_lt I) (Nat.le_of_lt I);have l:Hid (∀w1,Grew w w1->Sw w1 X S D sh r (slice ao sh.defs.length E) g j rv k u):=λw1 f=>C.grown f;have J:=vl λw1 w2=>zB9 (w:=w) (w1:=w1) (w2:=w2);have aa:=vl (hcut w);have v:=vl ok;subst Q;obtain⟨ab,ac,ad,ae,af⟩:=info_parts zPj;have aI:(sh.defs.length:Int)<4:=by omega
 have ag:Hid (∀w1,Grew w w1->Ca 161 #[pX S,string a] w1 λe w'=>e=returned (bool false)/\Grew w1 w'):=λw1 f=>by have:=zEc w1 X S D sh _ _ g j rv k u (l w1 f) (by have:=v.defs;omega) a;rw[R] at this;exact this
 have ah:Hid (∀w,Ca 160 #[string a] w λe w'=>e=returned (bool true)/\w'=w):=λw=>by have:=jL w a (by omega);rw[T] at this;exact this
 have ai:Hid (∀w2,Grew w w2->Ca 162 #[string d,slice ao sh.defs.length E] w2 (zIL w2 X (D+2+4*d.size) (some t))):=λw2 f=>by have:=zAt w2 X d _ (by omega) D sh.defs ((l w2 f).defsIn v.names) (by have:=v.defs;omega) v.trees;rw[U] at this;exact this
 go_in;apply wp_cut;intro m b;go_wp2;apply b.out;apply wp_cut;intro m b;go_wp2_with (first|(go_at_call 86;refine aa.mono ?_;rintro e w1 ⟨rfl,F⟩;have aJ:=(l w1 F).cells.2.1))
 apply b.out;apply wp_cut;intro m b;go_wp2_with (first|(go_at_call 161;refine(ag w1 F).mono ?_;rintro e w2 ⟨rfl,aj⟩)|(go_at_call 160;refine(ah _).mono ?_;rintro e aK ⟨rfl,ak⟩;have al:=ak.symm;subst al))
 apply b.out;have x:=vl <| J _ _ F aj;have aL:=(l w2 x).cells.2.1;apply wp_cut;intro m b;go_wp2_with (first|(go_at_call 162;refine(ai w2 x).mono ?_;rintro e o ⟨L,p,rfl,am⟩))
 apply b.out;apply wp_cut;intro m b;go_wp2;apply b.out;obtain⟨y,c⟩:∃y,Hid (Sw o y S (D+2+4*s.size) sh r (slice ao sh.defs.length E) g j rv k u/\TreeIn y o (D+2+4*s.size) p t/\Keep S S w o):=by
  refine⟨_,((l w2 x).more L).deep (by omega),(TreeIn.deep am (by omega)).mono λi an q=>?_,W _ (J _ _ x L)⟩;rcases q with q|q
  ·exact .inl q.1
  ·exact .inr ⟨q,an⟩
 obtain⟨-,ap,-,-,aq⟩:=c.1.cells;have ar:=aq 1;have au:=c.1.dOwn;have M:=c.1.lt;have aw:=vl <| zM c.1.dOwn c.1.blk (by decide);apply wp_cut;intro m b;go_wp2_with (first|(at_builtin;refine wpList_append_lies _ rfl _ _ 112 rfl (S+1) 233 ab (agg #[string ⟨#[]⟩,pointer none]) 2 24 underlying112 ac ad ae af rfl (by decide) _ _ _ rfl (au.alloc _) ⟨o.heap.size,0,none⟩ 1 1 [string a,pX p] rfl rfl (news_of_block (cs:=#[string a,pX p]) (t:=233) (fr:=(0,0)) (gX o _)) (by simp[Value.oneCell']) (by decide) (by unfold maxLen;omega) (by omega) (by simp;omega) _ rfl ?_;intro ax cap ay az N aA aM;have O:=N.block S (by simp;omega) aw;have aN:=(gZ O).trans ((gW _ _ _ M).trans ap);have aO:=(gY O).trans ((frozen?_alloc_past _ _ _ M).trans ar)))
 apply b.out;obtain⟨z,aB,P⟩:∃z,z=ay.setCell ⟨S,1,none⟩ (slice (qX ax) (sh.defs.length+1) cap)/\Hid (SwIs z S (D+2+4*s.size) (sh.addDef a t)/\Keep S S w z):=by
  obtain⟨aC,q2⟩:=c.1.appDef c.2.1 az N (by rcases aA with G|G;exact .inl G;right;rw[G];simp);exact⟨_,rfl,⟨y,r,_,g,j,rv,k,_,aC⟩,c.2.2.trans ((q2.keep c.1.dOwn c.1.lt).lower (Nat.le_succ S) (Nat.le_refl S))⟩
 rw[<-aB];go_wp2;go_ret;exact⟨P.2,rfl,P.1⟩
theorem zGU (w:World)(X:Nat->Prop)(S D:Nat)(sh:Sh)(c dv d f:Value)(rv:Nat->Value)(i:Nat->List Nat)(j:Nat->Nat)(k:Sw w X S D sh c dv d f rv i j)(ok:ShOk sh D)(s:ByteArray)(a:s.size<=1000):
  Calls prog 121 #[pX S,string s] w (LnAns w S (D+2+4*s.size) (jU sh s)):=by
 have l:=lY (zET s 32) a;have m:=lY (zAg s 32) a;have hcut:∀w,Calls prog 86 #[string s,int .u8 32] w λe w'=>e=returned (tuple #[string (qD s 32),string (vA s 32),bool (zAD s 32)])/\Grew w w':=λw=>zDc w s (by omega) 32;have no:=zOc w X S D sh c dv d f rv i j k ok s a _ _ _ l m hcut;unfold jU;cases o:zAD s 32 with
 |false=>exact no λg=>by rw[o] at g;exact Bool.noConfusion g.1
 |true=>
 rw[if_pos rfl];by_cases b:4<=sh.defs.length
 ·rw[if_pos b]
  exact no λg=>g.2.1 b
 rw[if_neg b];cases p:sh.hasDefB (qD s 32) with
 |true=>exact no λg=>by rw[p] at g;exact Bool.noConfusion g.2.2.1
 |false=>
 rw[if_neg (by decide)];cases q:xT (qD s 32) with
 |false=>exact no λg=>by rw[q] at g;exact Bool.noConfusion g.2.2.2.1
 |true=>
 rw[if_pos rfl];cases r:jN (vA s 32) sh.defs with
 |none=>exact no λg=>by obtain⟨t,u⟩:=g.2.2.2.2;rw[r] at u;cases u
 |some t=>exact zQy w X S D sh c dv d f rv i j k ok s a _ _ _ l m hcut (zAg s 32) o b p q t r
def vQ (sh:Sh)(nm s:ByteArray):Option Sh:=
 if zAD s 32 then if sh.modes.length=0 then none else if 8<=sh.acts.length then none else if xT nm then(if (zBH (qD s 32)).ok then(match jN (vA s 32) sh.defs with
  |none=>none
  |some t=>some (((sh.addAct (zBH (qD s 32)).act).addPush (zBH (qD s 32)).name).addRule (sh.modes.length-1) t)) else none) else none else none
theorem zJt (w:World)(X:Nat->Prop)(S D:Nat)(sh:Sh)(L dv M N:Value)(rv:Nat->Value)(r:Nat->List Nat)(u:Nat->Nat)(a:Sw w X S D sh L dv M N rv r u)(ok:ShOk sh D)(c s:ByteArray)(ao:s.size<=1000)(aq:c.size<=1000)(d b:ByteArray)(j:Bool)(ar:d.size<=1000)(au:b.size<=1000)(hcut:∀w,Calls prog 86 #[string s,int .u8 32] w λe w'=>e=returned (tuple #[string d,string b,bool j])/\Grew w w')(O:¬(j=true/\¬sh.modes.length=0/\¬8<=sh.acts.length/\xT c=true/\(zBH d).ok=true/\∃t,jN b sh.defs=some t)):
  Calls prog 122 #[pX S,string c,string s] w (LnAns w S (D+2+4*s.size) (none)):=by
 obtain⟨P,Q,R⟩:=zE a.mOwn;obtain⟨v,x,T⟩:=zE a.dOwn;obtain⟨U,V,W⟩:=zE a.aOwn;obtain⟨Y,ab,ae⟩:=zE a.pOwn;subst R T W ae;have y:=a.lt;have z:Hid (∀w1,Grew w w1->Keep S S w w1):=λw1 f=>f.lower (Nat.le_of_lt y) (Nat.le_of_lt y);have g:Hid (∀w1,Grew w w1->Sw w1 X S D sh (slice P sh.modes.length Q) (slice v sh.defs.length x) (slice U sh.acts.length V) (slice Y sh.pushed.length ab) rv r u):=λw1 f=>a.grown f;have C:=vl λw1 w2=>zB9 (w:=w) (w1:=w1) (w2:=w2);have af:=vl (hcut w);have k:=vl ok;have aw:=ok.modes;have ax:=ok.acts;have l:=Nat.eq_zero_or_pos sh.modes.length;have m:=Nat.lt_or_ge sh.acts.length 8;have E:=vl λw=>jL w c (by omega);have F:=vl λw=>zDh w d (by omega);have G:=vl λ(w2:World) (f:Grew w w2)=>zAt w2 X b (slice v sh.defs.length x) (by omega) D sh.defs ((g w2 f).defsIn k.names) (by have:=k.defs;omega) k.trees;generalize zBH d=ag at *;go_in;rcases j with _|_;rotate_left;rcases l with l|l;rotate_left;rcases m with m|m;rcases H:xT c with _|_;rotate_left;rcases I:ag.ok with _|_;rcases o:jN b sh.defs with _|t;rotate_left 2;rcases o:jN b sh.defs with _|t;rotate_left
 ·exact absurd ⟨rfl,by omega,by omega,H,I,t,o⟩ O
 all_goals
  try rw[H] at E
  try rw[I] at F
  try rw[o] at G
  try have ah:((sh.modes.length:Int)-1)<0:=by omega
  try have ah:¬((sh.modes.length:Int)-1)<0:=by omega
  try have ai:(sh.acts.length:Int)<8:=by omega
  try have ai:(8:Int)<=(sh.acts.length:Int):=by omega
  go_wp2_with (first|(go_at_call 86;refine af.mono ?_;rintro e w1 ⟨rfl,i⟩;have ay:=(g w1 i).cells.1;have az:=(g w1 i).cells.2.2.1)|(go_at_call 160;refine(E _).mono ?_;rintro e aA ⟨rfl,aj⟩;have ak:=aj.symm;subst ak)|(go_at_call 163;refine(F w1).mono ?_;rintro e w2 ⟨rfl,al⟩;have q:=vl <| C _ _ i al;have aB:=(g w2 q).cells.2.1)|(go_at_call 162;refine(G w2 q).mono ?_;first|rintro e an ⟨J,rfl⟩|rintro e an ⟨J,p,rfl,aC⟩))
  go_ret
  first|exact⟨z _ (C _ _ q J),rfl⟩|exact⟨z _ i,rfl⟩
section
attribute [local go_sem ↓] Go.wp_at_zero Go.wp_at_succ
theorem zPW (w:World)(X:Nat->Prop)(S D:Nat)(sh:Sh)(bc dv bd be:Value)(rv:Nat->Value)(H:Nat->List Nat)(T:Nat->Nat)(N:Sw w X S D sh bc dv bd be rv H T)(ok:ShOk sh D)(ae s:ByteArray)(bV:s.size<=1000)(bW:ae.size<=1000)(af O:ByteArray)(aT:Bool)(bX:af.size<=1000)(bY:O.size<=1000)(hcut:∀w,Calls prog 86 #[string s,int .u8 32] w λe w'=>e=returned (tuple #[string af,string O,bool aT])/\Grew w w')(bZ:O.size<=s.size)(bf:aT=true)(k:Nat)(P:sh.modes.length=k+1)(bg:(sh.mode k).2.length<=1000000)(bh:¬8<=sh.acts.length)(aU:xT ae=true)(b:Ac)(aV:zBH af=b)(aW:b.ok=true)(t:Tr)(aX:jN O sh.defs=some t):
  Calls prog 122 #[pX S,string ae,string s] w (LnAns w S (D+2+4*s.size) (some (((sh.addAct b.act).addPush b.name).addRule k t))):=by
 obtain⟨ag,U,bi⟩:=zE N.mOwn;obtain⟨V,W,bj⟩:=zE N.dOwn;obtain⟨ah,ai,bk⟩:=zE N.aOwn;obtain⟨aj,ak,bl⟩:=zE N.pOwn;subst bi bj bk bl;have aM:S<w.heap.size:=N.lt;have bm:Hid (∀w1,Grew w w1->Keep S S w w1):=λw1 P=>P.lower (Nat.le_of_lt aM) (Nat.le_of_lt aM);have al:Hid (∀w1,Grew w w1->Sw w1 X S D sh (slice ag sh.modes.length U) (slice V sh.defs.length W) (slice ah sh.acts.length ai) (slice aj sh.pushed.length ak) rv H T):=λw1 P=>N.grown P;have aY:=vl λw1 w2=>zB9 (w:=w) (w1:=w1) (w2:=w2);have bn:=vl (hcut w);have aC:=vl ok;have b0:=ok.modes;have b1:=ok.acts;subst bf;have b3:¬((k:Int))<0:=by omega
 have bo:Hid (((sh.modes.length:Int)-1)=(k:Int)):=by show _=_;omega
 have an:k<sh.modes.length:=by omega
 have b4:(k:Int)<(sh.modes.length:Int):=by omega
 have bp:Hid (0<sh.modes.length):=by show 0<_;omega
 clear P;obtain⟨aN,aD,aE,aF,aG⟩:=info_parts yF;have b5:(sh.acts.length:Int)<8:=by omega
 clear bh;have bq:Hid (∀w,Ca 160 #[string ae] w λe w'=>e=returned (bool true)/\w'=w):=λw=>by have:=jL w ae (by omega);rw[aU] at this;exact this
 have br:Hid (∀w,Ca 163 #[string af] w λe w'=>e=returned (tuple #[iX (b.act:Int),string b.name,bool true])/\Grew w w'):=λw=>by have:=zDh w af (by omega);rw[aV,aW] at this;exact this
 have bs:Hid (∀w2,Grew w w2->Ca 162 #[string O,slice V sh.defs.length W] w2 (zIL w2 X (D+2+4*O.size) (some t))):=λw2 P=>by have:=zAt w2 X O _ (by omega) D sh.defs ((al w2 P).defsIn aC.names) (by have:=aC.defs;omega) aC.trees;rw[aX] at this;exact this
 clear aU aV aW aX;clear N aM hcut ok;go_in;apply wp_cut;intro C a;go_wp2;apply a.out;clear a;apply wp_cut;intro C a;go_wp2_with (first|(go_at_call 86;refine bn.mono ?_;rintro e w1 ⟨rfl,aH⟩;have bt:cX w1 S 0=some (slice ag sh.modes.length U):=(al w1 aH).cells.1;have bu:cX w1 S 2=some (slice ah sh.acts.length ai):=(al w1 aH).cells.2.2.1))
 apply a.out;clear a;apply wp_cut;intro C a;go_wp2;apply a.out;clear a;rw[bo.out];apply wp_cut;intro C a;go_wp2_with (first|(go_at_call 160;refine(bq _).mono ?_;rintro e ao ⟨rfl,aI⟩;have bv:=aI.symm;subst bv))
 apply a.out;clear a;apply wp_cut;intro C a;go_wp2_with (first|(go_at_call 163;refine(br w1).mono ?_;rintro e w2 ⟨rfl,aZ⟩;have aJ:=vl <| aY _ _ aH aZ;have bw:cX w2 S 1=some (slice V sh.defs.length W):=(al w2 aJ).cells.2.1))
 apply a.out;clear a;clear bt bu aH aZ;apply wp_cut;intro C a;go_wp2_with (first|(go_at_call 162;refine(bs w2 aJ).mono ?_;rintro e ab ⟨aO,p,rfl,a0⟩))
 apply a.out;clear a;apply wp_cut;intro C a;go_wp2;apply a.out;clear a;obtain⟨I,f⟩:∃I,Hid (Sw ab I S (D+2+4*s.size) sh (slice ag sh.modes.length U) (slice V sh.defs.length W) (slice ah sh.acts.length ai) (slice aj sh.pushed.length ak) rv H T/\TreeIn I ab (D+2+4*s.size) p t/\Keep S S w ab):=by
  refine⟨_,((al w2 aJ).more aO).deep (by omega),(TreeIn.deep a0 (by omega)).mono λi bx aq=>?_,bm _ (aY _ _ aJ aO)⟩;rcases aq with aq|aq
  ·exact .inl aq.1
  ·exact .inr ⟨aq,bx⟩
 clear bw aO a0;obtain⟨-,-,ar,-,au⟩:=f.1.cells;have aw:=au 2;have E:ab.ownsRow (S+1) 3 1 (slice ah sh.acts.length ai) sh.acts.length (sh.acts.map λx:Nat=>iX (x:Int)):=f.1.aOwn;have Q:S<ab.heap.size:=f.1.lt;have ax:=vl <| zM f.1.aOwn f.1.blk (by decide);clear au;apply wp_cut;intro C a;go_wp2_with (first|(at_builtin;refine wpList_append_lies _ rfl _ _ 45 rfl (S+1) 3 aN (iX 0) 1 8 underlying45 aD aE aF aG rfl (by decide) _ _ _ rfl (E.alloc _) ⟨ab.heap.size,0,none⟩ 1 1 [iX (b.act:Int)] rfl rfl (cell_one_new _ _ _) (by intro u ay;simp at ay;subst ay;rfl) (by decide) (by unfold maxLen;omega) (by omega) (by simp;omega) _ rfl ?_;intro d cap R J m L az;have r:=m.block S (by simp;omega) ax;have aP:cX R S 2=some (slice ah sh.acts.length ai):=(gZ r).trans ((gW _ _ _ Q).trans ar);have aQ:R.frozen? ⟨S,2,none⟩=false:=(gY r).trans ((frozen?_alloc_past _ _ _ Q).trans aw)))
 apply a.out;clear a;obtain⟨M,a1,aK,g⟩:∃M,M=R.setCell ⟨S,2,none⟩ (slice (qX d) (sh.acts.length+1) cap)/\∃aK,Hid (Sw M I S (D+2+4*s.size) (sh.addAct b.act) (slice ag sh.modes.length U) (slice V sh.defs.length W) aK (slice aj sh.pushed.length ak) rv H T/\TreeIn I M (D+2+4*s.size) p t/\Keep S S w M):=by
  obtain⟨aA,q2⟩:=f.1.appAct (x:=b.act) J m (by rcases L with l|l;exact .inl l;right;rw[l];simp);exact⟨_,rfl,_,aA,zAc q2 f.2.1 (λq aB=>⟨Nat.ne_of_gt (f.1.xlt q aB).1,(f.1.xm q aB).2.2.1⟩),f.2.2.trans ((q2.keep f.1.aOwn f.1.lt).lower (Nat.le_succ S) (Nat.le_refl S))⟩
 rw[<-a1];clear a1 J m L az r aP aQ E ax Q ar aw f;obtain⟨-,-,-,ar,au⟩:=g.1.cells;have aw:=au 3;have E:M.ownsRow (S+1) 9 1 (slice aj sh.pushed.length ak) sh.pushed.length (sh.pushed.map λx=>string x):=g.1.pOwn;have Q:S<M.heap.size:=g.1.lt;have ax:=vl <| zM g.1.pOwn g.1.blk (by decide);have b6:sh.pushed.length<=8:=by have:=aC.same;omega
 clear au;obtain⟨aN,aD,aE,aF,aG⟩:=info_parts zL4;apply wp_cut;intro C a;go_wp2_with (first|(at_builtin;refine wpList_append_lies _ rfl _ _ 108 rfl (S+1) 9 aN (string ⟨#[]⟩) 1 16 underlying108 aD aE aF aG rfl (by decide) _ _ _ rfl (E.alloc _) ⟨M.heap.size,0,none⟩ 1 1 [string b.name] rfl rfl (cell_one_new _ _ _) (by intro u ay;simp at ay;subst ay;rfl) (by decide) (by unfold maxLen;omega) (by omega) (by simp;omega) _ rfl ?_;intro d cap R J m L az;have r:=m.block S (by simp;omega) ax;have aP:cX R S 3=some (slice aj sh.pushed.length ak):=(gZ r).trans ((gW _ _ _ Q).trans ar);have aQ:R.frozen? ⟨S,3,none⟩=false:=(gY r).trans ((frozen?_alloc_past _ _ _ Q).trans aw)))
 apply a.out;clear a;obtain⟨c,a2,aR,v⟩:∃c,c=R.setCell ⟨S,3,none⟩ (slice (qX d) (sh.pushed.length+1) cap)/\∃aR,Hid (Sw c I S (D+2+4*s.size) ((sh.addAct b.act).addPush b.name) (slice ag sh.modes.length U) (slice V sh.defs.length W) aK aR rv H T/\TreeIn I c (D+2+4*s.size) p t/\Keep S S w c):=by
  obtain⟨aA,q2⟩:=g.1.appPush (x:=b.name) J m (by rcases L with l|l;exact .inl l;right;rw[l];simp);exact⟨_,rfl,_,aA,zAc q2 g.2.1 (λq aB=>⟨Nat.ne_of_gt (g.1.xlt q aB).1,(g.1.xm q aB).2.2.2⟩),g.2.2.trans ((q2.keep g.1.pOwn g.1.lt).lower (Nat.le_succ S) (Nat.le_refl S))⟩
 rw[<-a2];clear a2 J m L az r aP aQ E ax Q ar aw g aD aE aF aG;obtain⟨bz,bA,bB,bC,bD⟩:=info_parts zEN;obtain⟨y,b7,bE,-,a3,-,-,a4,a5⟩:=vD v.1.mOwn (show 0<((sh.addAct b.act).addPush b.name).modes.length from bp);injection bE with bF bG bH;subst bF bH;clear bG;obtain⟨F,G,aL⟩:=zE (v.1.rOwn k an);have bI:cX c y (k*2+1)=some (slice F (sh.mode k).2.length G):=by
  have a6:=(zBK (λi=>string (((sh.addAct b.act).addPush b.name).mode i).1) rv sh.modes.length k an).2;rw[aL] at a6;exact a4 _ _ a6
 have bJ:=a5 (k*2+1);obtain⟨bK,-,-,-,-⟩:=v.1.cells;have aS:=v.1.rOwn k an;rw[aL] at aS;have E:c.ownsRow (S+1) 158 1 (slice F (sh.mode k).2.length G) (sh.mode k).2.length (yI (H k)):=aS;have bL:=vl <| xJ v.1.mOwn E (by decide) y rfl;have bM:Hid (rv k=slice F (sh.mode k).2.length G):=aL;have b8:(sh.mode k).2.length<=1000000:=bg;have a7:y<c.heap.size:=a3;have b9:S+1<=c.heap.size:=v.1.lt;clear a4 a5 aL aS a3;generalize bN:(sh.mode k).2.length=o at *;have a8:some S≠(Value.slice F o G).ownBlock:=λe=>by have:=(E.lt S e.symm).1;omega
 have bO:Hid (some S≠(Value.slice F o G).ownBlock):=a8;have bP:S<c.heap.size:=by omega
 clear a8;have bQ:Hid (∀d cap z,z.ownsRow (S+1) 158 1 (slice (qX d) (o+1) cap) (o+1) (yI (H k)++[pX p])->(c.drew.alloc (Obj.cells #[pX p] 158)).grownBy z (Value.slice F o G).ownBlock->((Value.slice F o G).ownBlock=some d\/c.heap.size<=d)->SwIs (z.setCell ⟨y,k*2+1,none⟩ (slice (qX d) (o+1) cap)) S (D+2+4*s.size) (((sh.addAct b.act).addPush b.name).addRule k t)/\Keep S S w (z.setCell ⟨y,k*2+1,none⟩ (slice (qX d) (o+1) cap))):=λd cap z bR a9 l=>by
  subst bN;rw[<-bM.out] at a9 l;have cb:=(v.1.mOwn.lt y rfl).1;obtain⟨aA,q2⟩:=Sw.appRule (w:=c.drew) (sh:=(sh.addAct b.act).addPush b.name) (v.1.grown (Keep.drew _)) an (v.2.1.go ⟨rfl,rfl,lQ,λ_ _ _=>rfl⟩) bR a9 l;refine⟨⟨I,_,_,aK,aR,_,_,T,aA⟩,v.2.2.trans ⟨q2.os,q2.output,q2.size,λj cc _=>?_⟩⟩;exact(q2.block j (by show j<c.heap.size;omega) (by omega) λe=>by have:=((v.1.rOwn k an).lt j e.symm).1;omega).1
 apply wp_cut;intro C a;go_region_law ((refine step_append_lies _ (by rfl) (.tmp 100) (.tmp 102) 118 (by rfl) (S+1) 158 bz _ 1 8 underlying118 bA bB bC bD rfl (by decide) (slice F o G) o (yI (H k)) (by simp[Act.eval,Act.put]) ((E.alloc _).drew) ⟨c.heap.size,0,none⟩ 1 1 [pX p] (by simp[Act.eval,Act.put]) (by rfl) (news_of_block (cs:=#[pX p]) (t:=158) (fr:=(0,0)) (gX c _)) (by simp[Value.oneCell']) (by decide) (by unfold maxLen;omega) (by omega) (by simp;omega) (c.heap.size+1) (by simp) ?_;intro d cap z J m L az;have r:=m.block y (by simp;omega) bL;have bS:cX z y (k*2+1)=some (slice F o G):=(gZ r).trans ((gW _ _ _ a7).trans bI);have bT:z.frozen? ⟨y,k*2+1,none⟩=false:=(gY r).trans ((frozen?_alloc_past _ _ _ a7).trans bJ);have ba:=m.block S (by simp;omega) bO;have bU:cX z S 0=some (slice (qX y) sh.modes.length U):=(gZ ba).trans ((gW _ _ _ bP).trans bK)))
 all_goals
  obtain⟨ao,aI,bb⟩:∃ao,ao=z.setCell ⟨y,k*2+1,none⟩ (slice (qX d) (o+1) cap)/\Hid (SwIs ao S (D+2+4*s.size) (((sh.addAct b.act).addPush b.name).addRule k t)/\Keep S S w ao):=⟨_,rfl,bQ d cap z J m (by rcases L with l|l;exact .inl l;right;show c.heap.size<=d;omega)⟩
  rw[<-aI];clear aI J m L az r bS bT ba bU;show C _ _;apply a.out;clear a;go_wp2;go_ret;exact⟨bb.2,rfl,bb.1⟩
theorem zF4 (w:World)(X:Nat->Prop)(S D:Nat)(sh:Sh)(d dv f i:Value)(rv:Nat->Value)(j:Nat->List Nat)(l:Nat->Nat)(o:Sw w X S D sh d dv f i rv j l)(ok:ShOk sh D)(A:∀k,k<sh.modes.length->(sh.mode k).2.length<=1000000)(a s:ByteArray)(b:s.size<=1000)(p:a.size<=1000):
  Calls prog 122 #[pX S,string a,string s] w (LnAns w S (D+2+4*s.size) (vQ sh a s)):=by
 have q:=lY (zET s 32) b;have r:=lY (zAg s 32) b;have hcut:∀w,Calls prog 86 #[string s,int .u8 32] w λe w'=>e=returned (tuple #[string (qD s 32),string (vA s 32),bool (zAD s 32)])/\Grew w w':=λw=>zDc w s (by omega) 32;have no:=zJt w X S D sh d dv f i rv j l o ok a s b p _ _ _ q r hcut;unfold vQ;cases u:zAD s 32 with
 |false=>exact no λg=>by rw[u] at g;exact Bool.noConfusion g.1
 |true=>
 rw[if_pos rfl];by_cases m:sh.modes.length=0
 ·rw[if_pos m]
  exact no λg=>g.2.1 m
 rw[if_neg m];by_cases c:8<=sh.acts.length
 ·rw[if_pos c]
  exact no λg=>g.2.2.1 c
 rw[if_neg c];cases v:xT a with
 |false=>exact no λg=>by rw[v] at g;exact Bool.noConfusion g.2.2.2.1
 |true=>
 rw[if_pos rfl];cases x:(zBH (qD s 32)).ok with
 |false=>exact no λg=>by rw[x] at g;exact Bool.noConfusion g.2.2.2.2.1
 |true=>
  rw[if_pos rfl];cases y:jN (vA s 32) sh.defs with
  |none=>exact no λg=>by obtain⟨t,z⟩:=g.2.2.2.2.2;rw[y] at z;cases z
  |some t=>exact zPW w X S D sh d dv f i rv j l o ok a s b p _ _ _ q r hcut (zAg s 32) u (sh.modes.length-1) (by omega) (A _ (by omega)) c v _ rfl x t y
end
def yK (sh:Sh)(s:ByteArray):Option Sh:=if zAD s 32 then(if eqS (qD s 32) ⟨#[109,111,100,101]⟩ then yW sh (vA s 32) else if eqS (qD s 32) ⟨#[108,101,116]⟩ then jU sh (vA s 32) else vQ sh (qD s 32) (vA s 32)) else none
def jX (sh:Sh):Prop:=∀i,i<sh.modes.length->(sh.mode i).2.length<=sh.acts.length
theorem SwIs.deep {w:World}{S D b:Nat}{sh:Sh}(a:SwIs w S D sh)(c:D<=b):SwIs w S b sh:=by
 obtain⟨X,d,dv,e,f,rv,g,i,a⟩:=a;exact⟨X,d,dv,e,f,rv,g,i,a.deep c⟩
theorem LnAns.deep {w w':World}{S D c:Nat}{a:Option Sh}{e:Ending}(b:LnAns w S D a e w')(d:D<=c):LnAns w S c a e w':=by
 refine⟨b.1,?_⟩;cases a with
 |none=>exact b.2
 |some sh=>exact⟨b.2.1,b.2.2.deep d⟩
theorem LnAns.from {w w1 w':World}{S D:Nat}{a:Option Sh}{e:Ending}(b:LnAns w1 S D a e w')(c:Keep S S w w1):LnAns w S D a e w':=⟨c.trans b.1,b.2⟩
theorem zF6 (w:World)(X:Nat->Prop)(S D:Nat)(sh:Sh)(F dv G H:Value)(rv:Nat->Value)(l:Nat->List Nat)(m:Nat->Nat)(o:Sw w X S D sh F dv G H rv l m)(ok:ShOk sh D)(few:jX sh)(s:ByteArray)(v:s.size<=1000):
  Calls prog 87 #[pX S,string s] w (LnAns w S (D+2+4*s.size) (yK sh s)):=by
 have I:=lY (zET s 32) v;have J:=zAg s 32;have y:=lY J v;have p:=vl <| zDc w s (by omega) 32;have c:Hid (yK sh s=if zAD s 32 then(if eqS (qD s 32) ⟨#[109,111,100,101]⟩ then yW sh (vA s 32) else if eqS (qD s 32) ⟨#[108,101,116]⟩ then jU sh (vA s 32) else vQ sh (qD s 32) (vA s 32)) else none):=rfl;have z:=o.lt;have q:Hid (∀w1,Grew w w1->Keep S S w w1):=λw1 b=>b.lower (Nat.le_of_lt z) (Nat.le_of_lt z);generalize yK sh s=U at *;generalize zAD s 32=L at *;have M:Hid (∀w1,Grew w w1->Ca 120 #[pX S,string (vA s 32)] w1 (LnAns w S (D+2+4*s.size) (yW sh (vA s 32)))):=λw1 b=>(zF5 w1 X S D sh _ _ _ _ rv l m (o.grown b) (by have:=ok.modes;omega) (vA s 32) (by omega)).mono λe w2 a=>(a.from (q w1 b)).deep (by omega);have N:Hid (∀w1,Grew w w1->Ca 121 #[pX S,string (vA s 32)] w1 (LnAns w S (D+2+4*s.size) (jU sh (vA s 32)))):=λw1 b=>(zGU w1 X S D sh _ _ _ _ rv l m (o.grown b) ok (vA s 32) y).mono λe w2 a=>(a.from (q w1 b)).deep (by omega);have O:Hid (∀w1,Grew w w1->Ca 122 #[pX S,string (qD s 32),string (vA s 32)] w1 (LnAns w S (D+2+4*s.size) (vQ sh (qD s 32) (vA s 32)))):=λw1 b=>(zF4 w1 X S D sh _ _ _ _ rv l m (o.grown b) ok (λk P=>by have:=few k P;have:=ok.acts;omega) (qD s 32) (vA s 32) y I).mono λe w2 a=>(a.from (q w1 b)).deep (by omega);generalize qD s 32=d at *;generalize vA s 32=u at *;have C:(⟨#[109,111,100,101]⟩:ByteArray).toList=[109,111,100,101]:=by rw[ByteArray.toList_eq]
 have E:(⟨#[108,101,116]⟩:ByteArray).toList=[108,101,116]:=by rw[ByteArray.toList_eq]
 cases L with
 |false=>
  have f:=vl c;rw[f.out];go_in;go_wp2_with (first|(go_at_call 86;refine p.mono ?_;rintro e w1 ⟨rfl,g⟩))
  go_ret;exact⟨q _ g,rfl⟩
 |true=>
 cases r:eqS d ⟨#[109,111,100,101]⟩ with
 |true=>
  rw[r] at c;have f:=vl c;have Q:(d.toList==[109,111,100,101])=true:=by rw[<-C];exact r
  rw[f.out];generalize yW sh u=i at *;go_in;go_wp2_with (first|(go_at_call 86;refine p.mono ?_;rintro e w1 ⟨rfl,g⟩)|(go_at_call 120;refine(M w1 g).mono ?_;intro e w2 a;obtain⟨v2,j⟩:∃v2,e=returned (bool v2):=(by have:=a.2;cases i with|none=>exact⟨false,this⟩|some x=>exact⟨true,this.1⟩);subst j))
  go_ret;exact a
 |false=>
 have Q:(d.toList==[109,111,100,101])=false:=by rw[<-C];exact r
 rw[r] at c;cases t:eqS d ⟨#[108,101,116]⟩ with
 |true=>
  rw[t] at c;have f:=vl c;have T:(d.toList==[108,101,116])=true:=by rw[<-E];exact t
  rw[f.out];generalize jU sh u=i at *;go_in;go_wp2_with (first|(go_at_call 86;refine p.mono ?_;rintro e w1 ⟨rfl,g⟩)|(go_at_call 121;refine(N w1 g).mono ?_;intro e w2 a;obtain⟨v2,j⟩:∃v2,e=returned (bool v2):=(by have:=a.2;cases i with|none=>exact⟨false,this⟩|some x=>exact⟨true,this.1⟩);subst j))
  go_ret;exact a
 |false=>
  rw[t] at c;have f:=vl c;have T:(d.toList==[108,101,116])=false:=by rw[<-E];exact t
  rw[f.out];generalize vQ sh d u=i at *;go_in;go_wp2_with (first|(go_at_call 86;refine p.mono ?_;rintro e w1 ⟨rfl,g⟩)|(go_at_call 122;refine(O w1 g).mono ?_;intro e w2 a;obtain⟨v2,j⟩:∃v2,e=returned (bool v2):=(by have:=a.2;cases i with|none=>exact⟨false,this⟩|some x=>exact⟨true,this.1⟩);subst j))
  go_ret;exact a
theorem zJp {s:ByteArray}{D:Nat}{defs:List (ByteArray×Tr)}{t:Tr}(d:s.size<=1048576)(f:zBI D defs)(a:jN s defs=some t):TrOk (D+2+4*s.size) t:=by
 unfold jN at a;cases b:zCd s defs 8 0 false with
 |none=>rw[b] at a;cases a
 |some g=>
  obtain⟨u,q⟩:=g;rw[b] at a;have c:(if q=s.size then some u else none)=some t:=a;split at c
  ·rename_i e
   have i:=hQ c;obtain⟨-,-,j⟩:=zAC d f 8 false 0 u q b;rw[<-i,<-e];exact j
  ·cases c
theorem ShOk.deep {sh:Sh}{D b:Nat}(a:ShOk sh D)(c:D<=b):ShOk sh b:=⟨a.modes,a.defs,a.acts,a.same,a.names,λe f=>(a.trees e f).deep c,λi g t j=>(a.rules i g t j).deep c⟩
theorem zK6 {s:ByteArray}(a:xT s=true):s.size<=6:=by
 unfold xT at a;rw[Bool.and_eq_true,Bool.and_eq_true] at a;exact of_decide_eq_true a.2.1
theorem zJo {sh d:Sh}{b:ByteArray}{D:Nat}(a:yW sh b=some d)(ok:ShOk sh D)(few:jX sh):ShOk d D/\jX d:=by
 unfold yW at a;split at a
 ·cases a
 split at a
 ·cases a
 split at a
 ·rename_i g _ _
  have e:=hQ a;subst e;have j:=zAj sh b;refine⟨⟨by omega,ok.defs,ok.acts,ok.same,ok.names,ok.trees,λi f t c=>?_⟩,λi f=>?_⟩
  ·by_cases e:i=sh.modes.length
   ·subst e;rw[zAQ] at c;cases c
   ·rw[zAP sh b i (by omega)] at c;exact ok.rules i (by omega) t c
  ·by_cases e:i=sh.modes.length
   ·subst e;rw[zAQ];exact lX
   ·rw[zAP sh b i (by omega)];exact few i (by omega)
 ·cases a
theorem zKT {sh c:Sh}{s:ByteArray}{D:Nat}(a:jU sh s=some c)(p:s.size<=1000)(ok:ShOk sh D)(few:jX sh):ShOk c (D+2+4*s.size)/\jX c:=by
 have q:=zAg s 32;unfold jU at a;split at a
 ·split at a
  ·cases a
  split at a
  ·cases a
  split at a
  ·rename_i r _ j
   cases f:jN (vA s 32) sh.defs with
   |none=>rw[f] at a;cases a
   |some t=>
    rw[f] at a;have e:=hQ a;subst e;have u:=zDM sh (qD s 32) t;have k:=(zJp (by omega) ok.trees f).deep (show _<=D+2+4*s.size by omega);have b:=ok.deep (show D<=D+2+4*s.size by omega);refine⟨⟨b.modes,by omega,b.acts,b.same,λi v=>?_,λl m=>?_,b.rules⟩,few⟩
    ·by_cases e:i=sh.defs.length
     ·subst e;rw[zDL];exact zK6 j
     ·rw[zDK sh _ t i (by omega)];exact ok.names i (by omega)
    ·have o:=m
     rcases kU.1 o with g|g
     ·exact b.trees l g
     ·rw[kY.1 g];exact k
  ·cases a
 ·cases a
theorem zJn {sh f:Sh}{m s:ByteArray}{D:Nat}(a:vQ sh m s=some f)(r:s.size<=1000)(ok:ShOk sh D)(few:jX sh):ShOk f (D+2+4*s.size)/\jX f:=by
 have v:=zAg s 32;unfold vQ at a;split at a
 ·split at a
  ·cases a
  split at a
  ·cases a
  split at a
  ·split at a
   ·rename_i w x _ _
    cases g:jN (vA s 32) sh.defs with
    |none=>rw[g] at a;cases a
    |some t=>
     rw[g] at a;have e:=hQ a;subst e;have o:=(zJp (by omega) ok.trees g).deep (show _<=D+2+4*s.size by omega);have c:=ok.deep (show D<=D+2+4*s.size by omega);generalize (zBH (qD s 32))=b at *;have j:sh.modes.length-1<sh.modes.length:=by omega
     have y:=zFi ((sh.addAct b.act).addPush b.name) (sh.modes.length-1) t;have z:((sh.addAct b.act).addPush b.name).modes.length=sh.modes.length:=rfl;have p:(((sh.addAct b.act).addPush b.name).addRule (sh.modes.length-1) t).acts.length=sh.acts.length+1:=by show(sh.acts++[b.act]).length=_;rw[kX];rfl
     have A:(((sh.addAct b.act).addPush b.name).addRule (sh.modes.length-1) t).pushed.length=sh.pushed.length+1:=by show(sh.pushed++[b.name]).length=_;rw[kX];rfl
     have l:=zBA ((sh.addAct b.act).addPush b.name) (sh.modes.length-1) t j;refine⟨⟨by have:=ok.modes;omega,c.defs,by omega,by have:=ok.same;omega,c.names,c.trees,λi q u d=>?_⟩,λi q=>?_⟩
     ·by_cases e:i=sh.modes.length-1
      ·rw[e,l] at d
       rcases kU.1 d with k|k
       ·exact c.rules _ j u k
       ·rw[kY.1 k];exact o
      ·rw[zAO _ _ t i e] at d
       exact c.rules i (by omega) u d
     ·rw[p]
      by_cases e:i=sh.modes.length-1
      ·rw[e,l]
       show((sh.mode (sh.modes.length-1)).2++[t]).length<=_;rw[kX];have:=few _ j;show(sh.mode (sh.modes.length-1)).2.length+1<=_;omega
      ·rw[zAO _ _ t i e]
       have:=few i (by omega);show(sh.mode i).2.length<=_;omega
   ·cases a
  ·cases a
 ·cases a
theorem zJq {sh d:Sh}{s:ByteArray}{D:Nat}(c:yK sh s=some d)(e:s.size<=1000)(ok:ShOk sh D)(few:jX sh):ShOk d (D+2+4*s.size)/\jX d:=by
 have f:=zAg s 32;unfold yK at c;split at c
 ·split at c
  ·obtain⟨a,b⟩:=zJo c ok few
   exact⟨a.deep (by omega),b⟩
  split at c
  ·obtain⟨a,b⟩:=zKT c (by omega) ok few
   exact⟨a.deep (by omega),b⟩
  ·obtain⟨a,b⟩:=zJn c (by omega) ok few
   exact⟨a.deep (by omega),b⟩
 ·cases c
theorem zNl {s:ByteArray}{c:Nat}(a:zAD s c=true):(vA s c).size+(qD s c).size+1=s.size:=by
 have b:zIA s c<s.size:=by unfold zAD at a;exact of_decide_eq_true a
 unfold qD vA;rw[if_pos a,if_pos a,ByteArray.size_extract,ByteArray.size_extract];omega
def zAs:Nat->Sh->Nat->ByteArray->Sh ⊕ Nat
 |0,sh,_,_=>.inl sh
 |f+1,sh,n,s=>if s.size=0 then .inl sh else if zAD s 10 then(match yK sh (qD s 10) with
  |none=>.inr n
  |some sh'=>zAs f sh' (n+1) (vA s 10)) else .inr n
def zPH (w:World)(S D:Nat)(G:Sh ⊕ Nat)(e:Ending)(w':World):Prop:=
 Keep S S w w'/\match G with
 | .inl sh=>e=returned (int i64 0)/\SwIs w' S D sh/\ShOk sh D/\jX sh
 | .inr n=>e=returned (int i64 (n:Int))
theorem zFl (w:World)(S D:Nat)(sh:Sh)(N:SwIs w S D sh)(ok:ShOk sh D)(few:jX sh)(s:ByteArray)(ak:s.size<=1000):
  Calls prog 56 #[pX S,string s] w (zPH w S (D+6*s.size) (zAs (s.size+1) sh 1 s)):=by
 obtain⟨l,H⟩:∃l,l=zAs (s.size+1) sh 1 s:=⟨_,rfl⟩
 have O:=vl H.symm;rw[<-H];have q:Hid (SwIs w S D sh/\ShOk sh D/\jX sh):=⟨N,ok,few⟩
 go_in;go_wp2;go_loopg [5,6] (s.size+1) (λn P Q wr=>∃f sh d a,n=f/\P=iX (d:Nat)/\Q=string a/\a.size<=s.size/\a.size+1<=f/\d+a.size<=s.size+1/\zAs f sh d a=l/\SwIs wr S (D+6*(s.size-a.size)) sh/\ShOk sh (D+6*(s.size-a.size))/\jX sh/\Keep S S w wr)
 case atStart=>exact⟨s.size+1,sh,1,s,rfl,rfl,rfl,lQ,lQ,by omega,O,by rw[Nat.sub_self];exact q.1,by rw[Nat.sub_self];exact q.2.1,q.2.2,Keep.refl _ _ _⟩
 case round=>
  obtain⟨f,g,d,a,R,rfl,rfl,al,am,an,T,U,V,W,Y⟩:=hrel;cases f with
  |zero=>omega
  |succ f=>
  have I:=zAX a;have i:(if a.size=0 then .inl g else if zAD a 10 then(match yK g (qD a 10) with|none=>.inr d|some k=>zAs f k (d+1) (vA a 10)) else .inr d)=l:=T;obtain⟨X,r,dv,t,u,rv,v,x,aa⟩:=U;have b:Hid (Sw wr X S (D+6*(s.size-a.size)) g r dv t u rv v x/\ShOk g (D+6*(s.size-a.size))/\jX g/\Keep S S w wr/\gk=f+1):=⟨aa,V,W,Y,R⟩
  by_cases m:a.size=0
  ·rw[if_pos m] at i
   have j:=vl i.symm;rw[gJ m] at I;have ab:=vl m;go_wp2;go_ret;refine⟨b.2.2.2.1,?_⟩;rw[j.out];have J:D+6*(s.size-a.size)=D+6*s.size:=by rw[ab.out];rfl
   refine⟨rfl,⟨X,r,dv,t,u,rv,v,x,?_⟩,?_,b.2.2.1⟩
   ·rw[<-J];exact b.1
   ·rw[<-J];exact b.2.1
  rw[if_neg m] at i;rw[gU m] at I;have y:=vl <| zDc wr a (by omega) 10;have ac:zAD a 10=true->(vA a 10).size+(qD a 10).size+1=a.size:=zNl;have ad:Hid ((qD a 10).size<=1000->∀w1,Grew wr w1->Ca 87 #[pX S,string (qD a 10)] w1 (LnAns wr S (D+6*(s.size-a.size)+2+4*(qD a 10).size) (yK g (qD a 10)))):=λz w1 c=>(zF6 w1 X S _ g r dv t u rv v x (b.1.grown c) b.2.1 b.2.2.1 (qD a 10) z).mono λe w2 ae=>ae.from (c.lower (Nat.le_of_lt b.1.lt) (Nat.le_of_lt b.1.lt))
  have af:Hid (∀k,yK g (qD a 10)=some k->(qD a 10).size<=1000->ShOk k (D+6*(s.size-a.size)+2+4*(qD a 10).size)/\jX k):=λk e z=>zJq e z b.2.1 b.2.2.1;have ag:Hid (∀w1,Grew wr w1->Keep S S wr w1):=λw1 c=>c.lower (Nat.le_of_lt b.1.lt) (Nat.le_of_lt b.1.lt);generalize qD a 10=L at *;generalize vA a 10=M at *;generalize zAD a 10=ah at *;cases ah with
  |false=>
   have j:=vl i.symm;go_wp2_with (first|(go_at_call 86;refine y.mono ?_;rintro e w1 ⟨rfl,c⟩))
   go_ret;refine⟨b.2.2.2.1.trans (ag w1 c),?_⟩;rw[j.out];rfl
  |true=>
   have ao:=ac rfl;have p:=ad (by omega);rw[if_pos rfl] at i;cases C:yK g L with
   |none=>
    rw[C] at i p;have E:=vl p;have j:=vl i.symm;go_wp2_with (first|(go_at_call 86;refine y.mono ?_;rintro e w1 ⟨rfl,c⟩)|(go_at_call 87;refine(E w1 c).mono ?_;rintro e w2 ⟨F,rfl⟩))
    go_ret;refine⟨b.2.2.2.1.trans F,?_⟩;rw[j.out];rfl
   |some o=>
    have ai:=af o C (by omega);rw[C] at i p;have E:=vl p;have j:Hid (zAs f o (d+1) M=l/\ShOk o (D+6*(s.size-a.size)+2+4*L.size)/\jX o):=⟨i,ai⟩
    go_wp2_with (first|(go_at_call 86;refine y.mono ?_;rintro e w1 ⟨rfl,c⟩)|(go_at_call 87;refine(E w1 c).mono ?_;rintro e w2 ⟨F,rfl,aj⟩))
    go_roundg f
    case measure=>rw[b.out.2.2.2.2];omega
    case rel=>exact⟨f,o,d+1,M,rfl,by go_num,rfl,by omega,by omega,by omega,j.1,aj.deep (by omega),j.2.1.deep (by omega),j.2.2,b.2.2.2.1.trans F⟩
def Sh.pushI (sh:Sh)(nm:ByteArray):Int:=if nm.size=0 then 0 else sh.modeI nm
def Sh.push (sh:Sh)(i:Nat):ByteArray:=sh.pushed.getD i ⟨#[]⟩
def Sh.there (sh:Sh):Bool:=decide (∀i,i<sh.pushed.length->0<=sh.pushI (sh.push i))
def Sh.pushesTo (sh:Sh)(j:Nat):List Int:=(List.range j).map λi=>sh.pushI (sh.push i)
theorem qR (sh:Sh)(j:Nat):(sh.pushesTo j).length=j:=by unfold Sh.pushesTo;rw[kV,List.length_range]
theorem zGV (sh:Sh)(j:Nat):sh.pushesTo (j+1)=sh.pushesTo j++[sh.pushI (sh.push j)]:=by unfold Sh.pushesTo;rw[List.range_succ,List.map_append];rfl
theorem zD1 (w:World)(X:Nat->Prop)(S D:Nat)(sh:Sh)(U dv V ax:Value)(rv:Nat->Value)(W:Nat->List Nat)(Y:Nat->Nat)(g:Sw w X S D sh U dv V ax rv W Y)(aK:sh.modes.length<=3)(aL:sh.pushed.length<=8):
  Calls prog 57 #[pX S] w λe w'=>∃v,e=returned (tuple #[v,bool sh.there])/\(∃a n c,v=slice a n c)/\(sh.there=true->OwnI w' w.heap.size v (sh.pushesTo sh.pushed.length))/\Grew w w':=by
 obtain⟨aa,ab,ac,ad,ae⟩:=info_parts yF;obtain⟨aM,aN,ay⟩:=zE g.pOwn;subst ay;obtain⟨-,-,-,aO,-⟩:=g.cells;have af:=vl g;have ag:Hid (sh.there=decide (∀i,i<sh.pushed.length->0<=sh.pushI (sh.push i))):=rfl;generalize sh.there=ah at *;go_in;go_wp2;go_loopg [4,13] sh.pushed.length (λq az i wr=>∃j:Nat,q=sh.pushed.length-j/\j<=sh.pushed.length/\i=iX (j:Int)/\(∀k,k<j->0<=sh.pushI (sh.push k))/\OwnI wr w.heap.size az (sh.pushesTo j)/\Grew w wr)
 case atStart=>exact⟨0,rfl,lX,rfl,λk d=>by omega,OwnI.nil _ _,Keep.refl _ _ _⟩
 case round=>
  obtain⟨j,H,aP,rfl,A,B,d⟩:=hrel;obtain⟨ao,I,ai⟩:=OwnI.form B;rw[qR] at ai;subst ai;have b:Hid (gk=sh.pushed.length-j/\(∀k,k<j->0<=sh.pushI (sh.push k))/\OwnI wr w.heap.size (slice ao j I) (sh.pushesTo j)/\Grew w wr/\w.heap.size<=wr.heap.size):=⟨H,A,B,d,d.size⟩
  by_cases J:j<sh.pushed.length
  ·have aA:(j:Int)<(sh.pushed.length:Int):=by omega
   obtain⟨aQ,aR,aB,-,aj,-,-,ak,-⟩:=vD af.pOwn (by omega);injection aB with aC aD aE;subst aC aE;clear aD;have al:(sh.pushed.map λx=>Value.string x)[j]? =some (string (sh.push j)):=by
    unfold Sh.push;rw[gQ,lV J,lW,lV J];rfl
   have aS:=zA (ak _ _ al) aj d;have am:=zAX (sh.push j);have K:=vl <| zD5 wr X S D sh U dv V _ rv W Y (af.grown d) (by omega) (sh.push j);have an:Hid (sh.pushI (sh.push j)=if(sh.push j).size=0 then 0 else sh.modeI (sh.push j)):=rfl;have aq:Hid (0<=sh.pushI (sh.push j)->∀k,k<j+1->0<=sh.pushI (sh.push k)):=λar k d=>by
    by_cases e:k=j
    ·rw[e];exact ar
    ·exact b.2.1 k (by omega)
   have aF:Hid (sh.pushI (sh.push j)<0->ah=false):=λar=>by
    rw[ag.out];exact gU λaG=>by have:=aG j J;omega
   have au:=vl <| zGV sh j;have C:=vl <| qR sh j;have E:=zE9 sh (sh.push j);clear H A B d al ak aj;generalize sh.push j=M at *;generalize sh.modeI M=N at *;generalize sh.pushI M=aw at *;generalize aH:sh.pushesTo j=F at *;clear aH;by_cases l:M.size=0
   ·rw[gJ l] at am
    have m:Hid (aw=0):=by show _=_;rw[an.out,if_pos l]
    have f:Hid (wr.ownsRow w.heap.size 3 1 (slice ao j I) j (F.map λx=>iX x)):=by have:=b.2.2.1;unfold OwnI at this;rw[C.out] at this;exact this
    have O:w.heap.size<=wr.heap.size:=b.2.2.2.2;clear l K;go_wp2_with (first|(at_builtin;refine wpList_append_lies _ rfl _ _ 45 rfl (w.heap.size) 3 aa (iX 0) 1 8 underlying45 ab ac ad ae rfl (by decide) _ _ _ rfl (f.alloc _) ⟨wr.heap.size,0,none⟩ 1 1 [iX 0] rfl rfl (cell_one_new _ _ _) (by intro u o;simp at o;subst o;rfl) (by decide) (by unfold maxLen;omega) (by omega) (by simp;omega) _ rfl ?_;intro P cap w2 p r Q R;have s:=xF f r O;have t:Hid (OwnI w2 w.heap.size (slice (qX P) (j+1) cap) (F++[0])/\Grew w w2):=⟨by unfold OwnI;rw[kX,C.out,List.map_append];exact p,b.2.2.2.1.trans (xD s)⟩;clear p r s Q R))
    go_roundg (sh.pushed.length-(j+1))
    case measure=>rw[b.out.1];omega
    case rel=>exact⟨j+1,rfl,by omega,by go_num,aq (by rw[m.out];omega),by rw[au.out,m.out];exact t.1,t.2⟩
   ·rw[gU l] at am
    have m:Hid (aw=N):=by show _=_;rw[an.out,if_neg l]
    clear l;rcases E with E|⟨E,-⟩
    ·subst E
     have G:=vl <| aF (by rw[m.out];omega);go_wp2_with (first|(go_at_call 88;refine K.mono ?_;rintro e w1 ⟨rfl,y⟩))
     refine gV (results_tmp2 rfl _ _ _) rfl ?_;exact⟨_,by rw[G.out];rfl,⟨none,0,0,rfl⟩,λg=>(by rw[G.out] at g;cases g),b.2.2.2.1.trans (y.lower b.2.2.2.2 b.2.2.2.2)⟩
    ·apply wp_cut
     intro aI z;go_wp2;apply z.out;clear z;apply wp_cut;intro aI z;go_wp2;apply z.out;clear z;go_wp2_with (first|(go_at_call 88;refine K.mono ?_;rintro e w1 ⟨rfl,y⟩;have f:Hid (w1.ownsRow w.heap.size 3 1 (slice ao j I) j (F.map λx=>iX x)/\Grew w w1):=⟨by have:=zK b.2.2.1 y;unfold OwnI at this;rw[C.out] at this;exact this,b.2.2.2.1.trans (y.lower b.2.2.2.2 b.2.2.2.2)⟩;have O:w.heap.size<=w1.heap.size:=f.2.size;clear y)|(at_builtin;refine wpList_append_lies _ rfl _ _ 45 rfl (w.heap.size) 3 aa (iX 0) 1 8 underlying45 ab ac ad ae rfl (by decide) _ _ _ rfl (f.1.alloc _) ⟨w1.heap.size,0,none⟩ 1 1 [iX N] rfl rfl (cell_one_new _ _ _) (by intro u o;simp at o;subst o;rfl) (by decide) (by unfold maxLen;omega) (by omega) (by simp;omega) _ rfl ?_;intro P cap w2 p r Q R;have s:=xF f.1 r O;have t:Hid (OwnI w2 w.heap.size (slice (qX P) (j+1) cap) (F++[N])/\Grew w w2):=⟨by unfold OwnI;rw[kX,C.out,List.map_append];exact p,f.2.trans (xD s)⟩;clear p r s Q R))
     go_roundg (sh.pushed.length-(j+1))
     case measure=>rw[b.out.1];omega
     case rel=>exact⟨j+1,rfl,by omega,by go_num,aq (by rw[m.out];omega),by rw[au.out,m.out];exact t.1,t.2⟩
  ·have aA:(sh.pushed.length:Int)<=(j:Int):=by omega
   have e:j=sh.pushed.length:=by omega
   have G:Hid (ah=true):=by
    show _=_;rw[ag.out];exact gJ λi aT=>A i (by omega)
   have aJ:=vl e;clear H A B d e;go_wp2;refine gV (results_tmp2 rfl _ _ _) rfl ?_;refine⟨_,by rw[G.out];rfl,⟨_,_,_,rfl⟩,λ_=>?_,b.2.2.2.1⟩;rw[<-aJ.out];exact b.2.2.1
def Sh.haveB (sh:Sh):Bool:=decide (0<sh.modes.length/\∀i,i<sh.modes.length->0<(sh.mode i).2.length)
def yY (l:List Tr):Nat->Nat
 |0=>0
 |j+1=>yY l j+(l.getD j Tr.none).chars
def Sh.fitB (sh:Sh):Bool:=decide (∀i,i<sh.modes.length->yY (sh.mode i).2 (sh.mode i).2.length<=24)
theorem zDC {w:World}{X:Nat->Prop}{S D:Nat}{sh:Sh}{dv o p:Value}{rv:Nat->Value}{q:Nat->List Nat}{r:Nat->Nat}{ao:Option Addr}{s j:Nat}(d:Sw w X S D sh (slice ao sh.modes.length s) dv o p rv q r)(e:j<sh.modes.length){wr:World}(f:Grew w wr):
  ∃a b c,ao=some ⟨a,0,none⟩/\rv j=slice b (sh.mode j).2.length c/\wr.cell? ⟨a,j*2,none⟩=some (string (sh.mode j).1)/\wr.cell? ⟨a,j*2+1,none⟩=some (slice b (sh.mode j).2.length c):=by
 obtain⟨a,x,t,-,g,-,-,k,-⟩:=vD d.mOwn (by omega);injection t with u y z;obtain⟨b,c,l⟩:=zE (d.rOwn j e);obtain⟨v,m⟩:=zBK (λi=>string (sh.mode i).1) rv sh.modes.length j e;rw[l] at m;exact⟨a,b,c,u,l,zA (k _ _ v) g f,zA (k _ _ m) g f⟩
theorem zFp (w:World)(X:Nat->Prop)(S D:Nat)(sh:Sh)(F dv G H:Value)(rv:Nat->Value)(I:Nat->List Nat)(J:Nat->Nat)(d:Sw w X S D sh F dv G H rv I J)(ac:sh.modes.length<=3):
  Calls prog 58 #[pX S] w λe w'=>e=returned (bool sh.haveB)/\Grew w w':=by
 obtain⟨ao,K,L⟩:=zE d.mOwn;subst L;obtain⟨c0,-,-,-,-⟩:=d.cells;have M:=vl d;have v:Hid (sh.haveB=decide (0<sh.modes.length/\∀i,i<sh.modes.length->0<(sh.mode i).2.length)):=rfl;generalize sh.haveB=f at *;have N:S<w.heap.size:=d.lt;have O:Hid (∀wr,Grew w wr->wr.cell? ⟨S,0,none⟩=some (slice ao sh.modes.length K)):=λwr a=>zA c0 N a;go_in;go_wp2;go_loopg [10] sh.modes.length (λq i wr=>∃j:Nat,q=sh.modes.length-j/\j<=sh.modes.length/\i=iX (j:Int)/\(∀k,k<j->0<(sh.mode k).2.length)/\Grew w wr)
 case atStart=>exact⟨0,rfl,lX,rfl,λk a=>by omega,Keep.refl _ _ _⟩
 case round=>
  obtain⟨j,x,ad,rfl,o,a⟩:=hrel;have b:Hid (gk=sh.modes.length-j/\(∀k,k<j->0<(sh.mode k).2.length)/\Grew w wr/\w.heap.size<=wr.heap.size):=⟨x,o,a,a.size⟩
  by_cases y:j<sh.modes.length
  ·have P:(j:Int)<(sh.modes.length:Int):=by omega
   obtain⟨ae,p,r,rfl,-,Q,R⟩:=zDC M y a;obtain⟨g,z,af,A⟩:∃g,g=wr.alloc (.cells #[string (sh.mode j).1,slice p (sh.mode j).2.length r] 120)/\g.cell? ⟨wr.heap.size,1,none⟩=some (slice p (sh.mode j).2.length r)/\Hid (Grew w g):=by
    have U:=gX wr (.cells #[string (sh.mode j).1,slice p (sh.mode j).2.length r] 120);refine⟨_,rfl,?_,b.2.2.1.trans (kZ _ _ b.2.2.2)⟩;unfold cell?;rw[U];rfl
   have V:Hid (0<(sh.mode j).2.length->∀k,k<j+1->0<(sh.mode k).2.length):=λB k a=>by
    by_cases e:k=j
    ·rw[e];exact B
    ·exact b.2.1 k (by omega)
   have W:Hid ((sh.mode j).2.length=0->f=false):=λB=>by
    rw[v.out];exact gU λs=>by have:=s.2 j y;omega
   generalize (sh.mode j).2.length=t at *;apply wp_cut;intro C c;go_wp2;apply c.out;apply wp_cut;intro C c;go_wp2;apply c.out;apply wp_cut;intro ag E;refine wp_block ?_;apply wp_cut;intro C c;go_wp2;apply c.out;rw[<-z];clear z Q R;by_cases l:t=0
   ·have m:=vl <| W l
    have Y:((t:Int)==0)=true:=by rw[l];rfl
    clear l;go_wp2;go_ret;exact⟨by rw[m.out];rfl,A⟩
   ·have aa:=V (by omega)
    have Y:((t:Int)==0)=false:=by rw[hX];omega
    clear l;go_wp2;apply E.out;clear E;go_wp2;go_roundg (sh.modes.length-(j+1))
    case measure=>rw[b.out.1];omega
    case rel=>exact⟨j+1,rfl,by omega,by go_num,aa,A⟩
  ·have P:(sh.modes.length:Int)<=(j:Int):=by omega
   have c0:=O wr a;have m:Hid (f=decide (0<sh.modes.length)):=by
    show _=_;rw[v.out];by_cases e:0<sh.modes.length
    ·rw[gJ e];exact gJ ⟨e,λi ah=>o i (by omega)⟩
    ·rw[gU e];exact gU λs=>e s.1
   clear x o a;by_cases e:0<sh.modes.length
   ·have ab:(0:Int)<(sh.modes.length:Int):=by omega
    have u:Hid (f=true):=by show _=_;rw[m.out];exact gJ e
    clear e;go_wp2;go_ret;exact⟨by rw[u.out];first|rfl|(simp;done)|(simp;omega),b.2.2.1⟩
   ·have ab:(sh.modes.length:Int)<=0:=by omega
    have u:Hid (f=false):=by show _=_;rw[m.out];exact gU e
    clear e;go_wp2;go_ret;exact⟨by rw[u.out];first|rfl|(simp;done)|(simp;omega)|(simp;exact List.length_eq_zero_iff.1 (by omega)),b.2.2.1⟩
theorem zLA (l:List Tr)(a:∀t∈l,t.chars<=25)(j:Nat)(d:j<=l.length):yY l j<=25*j:=by
 induction j with
 |zero=>exact lQ
 |succ j b=>
  have e:=b (by omega);have c:l.getD j Tr.none∈l:=by
   rw[lW,lV (by omega:j<l.length)];exact List.getElem_mem _
  have f:=a _ c;show yY l j+(l.getD j Tr.none).chars<=_;omega
theorem zGD (w:World)(X:Nat->Prop)(S D:Nat)(sh:Sh)(W dv H I:Value)(rv:Nat->Value)(b:Nat->List Nat)(J:Nat->Nat)(z:Sw w X S D sh W dv H I rv b J)(ok:ShOk sh D)(few:jX sh):
  Calls prog 59 #[pX S] w λe w'=>e=returned (bool sh.fitB)/\Grew w w':=by
 obtain⟨ao,Y,aa⟩:=zE z.mOwn;subst aa;obtain⟨c0,-,-,-,-⟩:=z.cells;have f:Hid (Sw w X S D sh (slice ao sh.modes.length Y) dv H I rv b J/\ShOk sh D/\jX sh):=⟨z,ok,few⟩
 have aC:=ok.modes;have K:Hid (sh.fitB=decide (∀i,i<sh.modes.length->yY (sh.mode i).2 (sh.mode i).2.length<=24)):=rfl;generalize sh.fitB=M at *;go_in;go_wp2;go_loopg [13] sh.modes.length (λq i wr=>∃j:Nat,q=sh.modes.length-j/\j<=sh.modes.length/\i=iX (j:Int)/\(∀k,k<j->yY (sh.mode k).2 (sh.mode k).2.length<=24)/\Grew w wr)
 case atStart=>exact⟨0,rfl,lX,rfl,λk m=>by omega,Keep.refl _ _ _⟩
 case round=>
  obtain⟨j,N,aD,rfl,A,m⟩:=hrel;have r:Hid (gk=sh.modes.length-j/\(∀k,k<j->yY (sh.mode k).2 (sh.mode k).2.length<=24)/\Grew w wr/\w.heap.size<=wr.heap.size):=⟨N,A,m,m.size⟩
  by_cases g:j<sh.modes.length
  ·have ab:(j:Int)<(sh.modes.length:Int):=by omega
   obtain⟨aE,v,B,rfl,ac,ad,ae⟩:=zDC f.1 g m;obtain⟨o,O,af,x⟩:∃o,o=wr.alloc (.cells #[string (sh.mode j).1,slice v (sh.mode j).2.length B] 120)/\o.cell? ⟨wr.heap.size,1,none⟩=some (slice v (sh.mode j).2.length B)/\Hid (Grew w o):=by
    have ag:=gX wr (.cells #[string (sh.mode j).1,slice v (sh.mode j).2.length B] 120);refine⟨_,rfl,?_,r.2.2.1.trans (kZ _ _ r.2.2.2)⟩;unfold cell?;rw[ag];rfl
   have ah:Hid (yY (sh.mode j).2 (sh.mode j).2.length<=24->∀k,k<j+1->yY (sh.mode k).2 (sh.mode k).2.length<=24):=λP k m=>by
    by_cases e:k=j
    ·rw[e];exact P
    ·exact r.2.1 k (by omega)
   have ai:Hid (24<yY (sh.mode j).2 (sh.mode j).2.length->M=false):=λP=>by
    rw[K.out];exact gU λaj=>by have:=aj j g;omega
   have ak:Hid (∀i,i<(sh.mode j).2.length->∃s p,v=some ⟨s,0,none⟩/\o.cell? ⟨s,i,none⟩=some (pX p)/\o.cell? ⟨p,7,none⟩=some (iX (((sh.mode j).2.getD i Tr.none).chars:Int))/\((sh.mode j).2.getD i Tr.none).chars<=25):=λi C=>by
    obtain⟨s,aF,Q,-,al,-,-,am,-⟩:=vD (f.1.rOwn j g) (by omega);rw[ac] at Q;injection Q with an aG aH;have aI:(b j).length=(sh.mode j).2.length:=by
     have:=(f.1.rOwn j g).1;unfold yI at this;rw[kV] at this;omega
    have ap:(yI (b j))[i]? =some (pointer (some ⟨(b j).getD i 0,0,none⟩)):=by
     unfold yI;rw[gQ,lV (by omega:i<(b j).length),lW,lV (by omega:i<(b j).length)];rfl
    have u:=f.1.rTree j g i C;have aq:In w ((b j).getD i 0):=by
     cases D with
     |zero=>exact False.elim u.at
     |succ aJ=>exact u.at.1
    have ar:(sh.mode j).2.getD i Tr.none∈(sh.mode j).2:=by
     rw[lW,lV C];exact List.getElem_mem _
    exact⟨s,_,an,zA (am _ _ ap) al x,zA u.chars aq x,(f.2.1.rules j g _ ar).few⟩
   have aK:(sh.mode j).2.length<=8:=lY (f.2.2 j g) f.2.1.acts;have R:=vl <| zLA _ λt u=>(f.2.1.rules j g t u).few;generalize (sh.mode j).2=a at *;apply wp_cut;intro U l;go_wp2;apply l.out;clear l;apply wp_cut;intro U l;go_wp2;apply l.out;clear l;apply wp_cut;intro aL V;refine wp_block ?_;apply wp_cut;intro U l;go_wp2;apply l.out;clear l;rw[<-O];clear O ad ae;go_wp2;clear af;go_loopg [5,20] a.length (λq c i w2=>∃k:Nat,q=a.length-k/\k<=a.length/\c=iX (yY a k:Nat)/\i=iX (k:Int)/\w2=o)
   case atStart=>exact⟨0,rfl,lX,rfl,rfl,rfl⟩
   case round=>
    obtain⟨k,E,m,rfl,rfl,rfl⟩:=hrel;have au:=vl E;by_cases aw:k<a.length
    ·have ax:(k:Int)<(a.length:Int):=by omega
     obtain⟨s,p,rfl,aM,aN,aO⟩:=ak k aw;have ay:=R k (by omega);have az:Hid (yY a (k+1)=yY a k+(a.getD k Tr.none).chars):=rfl;clear E;generalize (a.getD k Tr.none).chars=aP at *;generalize yY a k=y at *;go_wp2;go_roundg (a.length-(k+1))
     case measure=>rw[au.out];omega
     case rel=>exact⟨k+1,rfl,by omega,by rw[az.out];go_num,by go_num,rfl⟩
    ·have ax:(a.length:Int)<=(k:Int):=by omega
     have e:k=a.length:=by omega
     subst e;have ay:=R a.length lQ;clear E;generalize yY a a.length=y at *;by_cases F:24<y
     ·have G:=vl <| ai F
      have aA:(24:Int)<(y:Int):=by omega
      clear F;go_wp2;go_ret;exact⟨by rw[G.out];rfl,x⟩
     ·have aB:=vl <| ah (by omega)
      have aA:(y:Int)<=24:=by omega
      clear F;go_wp2;apply V.out;clear V;go_wp2;go_roundg (sh.modes.length-(j+1))
      case measure=>rw[r.out.1];omega
      case rel=>exact⟨j+1,rfl,by omega,by go_num,aB,x⟩
  ·have ab:(sh.modes.length:Int)<=(j:Int):=by omega
   have G:Hid (M=true):=by
    show _=_;rw[K.out];exact gJ λi C=>A i (by omega)
   clear N A m;go_wp2;go_ret;exact⟨by rw[G.out];rfl,r.2.2.1⟩
end Go.Proofs.YtbjcfkdnjaiclaaGreat
