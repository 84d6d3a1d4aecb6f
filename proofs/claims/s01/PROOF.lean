import PyProof.Rows.All
import Open.Boot
import Open.FastRun
import Open.FastT9
import Wide.Once
import OpenK.KWalk
import PySem.Challenge.RW_pullswarm_s01_answers
import KE.OsGo
import Wide.All
import OpenK.AllK
import Wide.FinOn
import PyProof.EqAt
import PyProof.EqKinds
import PyProof.TupleCall
import KE.BitLaws
import KE.IntBitsLaws
import Open.SpecLaws
import PySn48
set_option Elab.async false
set_option linter.all false
set_option maxRecDepth 100000
set_option maxHeartbeats 4000000
local macro_rules | `(tactic| walk_at "sc")=>`(tactic| exact ⟨rfl,rfl,rfl,by decide +kernel,rfl,by decide +kernel,by decide +kernel⟩)
set_option maxHeartbeats 0
namespace Pv
open PySem PySem.W PyProof.Rows
noncomputable def goR (p:Program) (N:Nat) (w:World) (os:OsState):Option Shared :=
 PySem.W.Fast.tw14082659384304107361 PySem.W.Fast.tw14364793385576792824 p w (boot_heap w.params).objs.size ((boot_heap w.params).nsMap mainGlobals "__annotations__") N ⟨boot_heap w.params,#[],boot_drawn,boot_toks,os⟩ (topStub p)
noncomputable def goS (p:Program) (N:Nat) (w:World) (os:OsState):Option Shared :=
 match (boot_heap w.params).isNs mainGlobals && (#[]:Array GenState).size == 0 with
 | true=>(goR p N w os).bind fun s₁=>match staticsOk (importedModules p.main.body) (boot_heap w.params) s₁.heap && namesBound p s₁.heap && gensDone s₁ && laidKept (boot_heap w.params) s₁.heap with
   | true=>some s₁
   | false=>none
 | false=>none
theorem goS_eq (p:Program) (N:Nat) (w:World) (os:OsState):topFrom treeTable p w N ⟨boot_heap w.params,#[],boot_drawn,boot_toks,os⟩=goS p N w os:=by
 unfold goS goR
 rw [← PySem.W.Fast.te14082659384304107361,← PySem.W.Fast.te14364793385576792824]
 rfl
theorem goS_R {p:Program} {N:Nat} {w:World} {os:OsState} {s:Shared} (h:goS p N w os=some s):goR p N w os=some s:=by
 unfold goS at h
 split at h
 ·obtain ⟨s1,h1,h2⟩:=Option.bind_eq_some_iff.mp h
  split at h2
  ·cases h2
   exact h1
  ·cases h2
 ·cases h
theorem left_of {p q:Program} {loose:List Str} {Xt:Shared→Bool} {α:Type} {Yf:Shared→α} {Ya:World→α} {N:Nat} (row:String)
  (e:opening p=plainProg p.main.scope.names) (hN:Nat.ble 600 N=true) (f:∀ s,fenceModules? p s=some s)
  (h:∀ (b:Bool) (w:World) (os:OsState),(goS p N (w.withFollow row b) os).map (PySem.W.Fast.tw4187177175401517315 q loose (importedModules p.main.body) Xt true)=some (openGood q loose) ∧
   (goR p N (w.withFollow row b) os).map Yf=some (Ya (w.withFollow row b))):LeftO p q loose Xt Yf Ya N:=by
 have key:∀ (b:Bool) (w:World),(openEnds treeTable p (w.withFollow row b) N).map (fun s=>(openSeen q loose (importedModules p.main.body) Xt true s,Yf s))=some (openGood q loose,Ya (w.withFollow row b)):=by
  intro b w
  obtain ⟨⟨hh,gg,dd,tt,os⟩,hs,hv⟩:=Option.map_eq_some_iff.mp (boot_open e hN f (w.withFollow row b))
  simp only [Prod.mk.injEq] at hv
  obtain ⟨rfl,rfl,rfl,rfl⟩:=hv
  obtain ⟨h1,h2⟩:=h b w os
  obtain ⟨s,z1,z2⟩:=Option.map_eq_some_iff.mp h1
  rw [goS_R z1,Option.map_some] at h2
  rw [← PySem.W.Fast.te4187177175401517315] at z2
  unfold openEnds
  rw [hs,Option.bind_some,goS_eq,z1,Option.map_some]
  exact congrArg some (Prod.ext z2 (Option.some.inj h2))
 exact fun w=>byRow2 row (P:=fun w=>(openEnds treeTable p w N).map (fun s=>(openSeen q loose (importedModules p.main.body) Xt true s,Yf s))=some (openGood q loose,Ya w)) (key false) (key true) w
def Q:Program:={ PySem.Challenge.pw_pullswarm_s01_answers with main:={ PySem.Challenge.pw_pullswarm_s01_answers.main with body:=[PySem.Challenge.pw_pullswarm_s01_answers.main.body.getD 75 (.Pass ⟨0,0,0,0⟩)] } }
def Lo:List Str:=(["SIGN","INFINITY","is_finite","is_below_zero","is_above_zero","PLUS_ZERO","MINUS_ZERO","HALF","TWO","LEADING","MOST_BITS","LEAST_EXPONENT","BEYOND","Failed","from_bits","to_bits","rounded","opposite","is_minus","zero_of_signs","plus","minus","times","over","whole_root","root","is_below","square","DEEPEST","Cell","along","least_of","greatest_of","sum_of","part_of","bodies_by_part","middle_of_part","weigh","cell_of","first_cell","way_to","Field","pulls_of","from_all_bits","to_all_bits","row_plus","rows_plus","Motion","bodies_after","energy_of","MOST_BODIES","MOST_STEPS","DONE","NO_ROOM","NO_SUCH_BODY","WRONG_COUNT","WRONG_DOUBLE","FAILED","may_be_far_or_soft","may_be_body","Swarm","BEGIN","PUT","SET","STEP","GET","LENGTHS","answer_call"]:List String).map Str.ofString
theorem op_:opening PySem.Challenge.pw_pullswarm_s01_answers=plainProg PySem.Challenge.pw_pullswarm_s01_answers.main.scope.names:=by kernel_rfl
theorem fe_:∀ s,fenceModules? PySem.Challenge.pw_pullswarm_s01_answers s=some s:=fun s=>by kernel_rfl
end Pv
section
open PySem PySem.W PyProof.Rows
local macro_rules | `(tactic| o_headS $_)=>`(tactic| assumption)
theorem Pv.seed (h:PySem.Challenge.rw_pullswarm_s01_answers.Holds):PySem.Challenge.rw_pullswarm_s01_answers.Holds:=by k_headS
def Pv.as:List Addr:=[2,3,15,17,18,20,21,22,24,25,27,28,29,31,32,34,35,36,37,38,39,40,47,48,49,50,53,55,56,58,59,60,62,63,65,66,67,69,70,72,73,74,76,77,79,80,81,83,84,86,87,88,90,91,93,94,95,97,98,100,101,102,104,105,107,108,109,111,112,114,115,116,118,119,121,122,123,125,126,128,129,130,132,133,135,136,137,139,140,142,143,144,146,147,149,150,158,160,161,163,164,165,166,167,168,169,172,175,176,177,179,180,182,183,184,186,187,189,190,191,193,194,196,197,198,200,201,203,204,205,208,209,210,212,213,215,216,217,220,221,222,225,226,227,230,231,232,234,235,237,238,246,248,249,251,252,253,256,257,258,260,261,263,264,265,267,268,270,271,272,274,275,277,278,279,280,281,282,283,286,289,290,291,294,295,296,299,300,301,304,305,306,309,310,318,321,322,323,325,326,328,329,330,332,333,335,336,337,340,341,342,344,345,347,348,349,352,353,354,356,357,359,360,361,362,363,364,365,368,370,371,373,374,375,377,378,380,381,382,384,385,387,388,389,392,393,401,403,404,406,407,408,410,411,413,414,415,417,418,420,421,422,424,425,427,428,429,431,432,434,435,436,438,439,441,442,443,445,446,448,449,450,452,453,455,456,457,458,459,460,461,464,465,467,468,470,471,472,474,475,477,478]
theorem Pv.as_eq:∀ P,Pv.as=(Pv.seed.heap_1 P).map (·.1):=fun P=>by kernel_rfl
theorem Pv.b1 (w:World) (os:OsState):(Pv.goR PySem.Challenge.pw_pullswarm_s01_answers 6580 (w.withFollow "special-get-raises" true) os).map (kHook Pv.seed.heap_1 Pv.as Pv.as_eq).obs=some ((kHook Pv.seed.heap_1 Pv.as Pv.as_eq).val (w.withFollow "special-get-raises" true)):=by kernel_rfl
theorem Pv.b0 (w:World) (os:OsState):(Pv.goR PySem.Challenge.pw_pullswarm_s01_answers 6580 (w.withFollow "special-get-raises" false) os).map (kHook Pv.seed.heap_1 Pv.as Pv.as_eq).obs=some ((kHook Pv.seed.heap_1 Pv.as Pv.as_eq).val (w.withFollow "special-get-raises" false)):=by kernel_rfl
theorem Pv.a1 (w:World) (os:OsState):(Pv.goS PySem.Challenge.pw_pullswarm_s01_answers 6580 (w.withFollow "special-get-raises" true) os).map (PySem.W.Fast.tw4187177175401517315 Pv.Q Pv.Lo (importedModules PySem.Challenge.pw_pullswarm_s01_answers.main.body) (recOk []) true)=some (openGood Pv.Q Pv.Lo):=by kernel_rfl
theorem Pv.a0 (w:World) (os:OsState):(Pv.goS PySem.Challenge.pw_pullswarm_s01_answers 6580 (w.withFollow "special-get-raises" false) os).map (PySem.W.Fast.tw4187177175401517315 Pv.Q Pv.Lo (importedModules PySem.Challenge.pw_pullswarm_s01_answers.main.body) (recOk []) true)=some (openGood Pv.Q Pv.Lo):=by kernel_rfl
theorem Pv.left:LeftO PySem.Challenge.pw_pullswarm_s01_answers Pv.Q Pv.Lo (recOk []) (kHook Pv.seed.heap_1 Pv.as Pv.as_eq).obs (kHook Pv.seed.heap_1 Pv.as Pv.as_eq).val 6580 :=
 Pv.left_of "special-get-raises" Pv.op_ rfl Pv.fe_ fun b w os=>match b with
  | false=>⟨Pv.a0 w os,Pv.b0 w os⟩
  | true=>⟨Pv.a1 w os,Pv.b1 w os⟩
end
namespace L2
open PySem PySem.Spec PyProof.Rows
abbrev Key:=Sum Int Str
def keyIs:Key→Value→Bool
 | .inl k,v=>Value.isInt k v
 | .inr x,v=>Value.isStrOf x v
def keyH (w:World):Key→Int
 | .inl k=>hashInt k
 | .inr x=>hashStr w x
theorem keyIs_shape:∀ {k:Key} {v:Value},keyIs k v=true→(∃ i t,k=Sum.inl i∧v=Value.int i t)∨(∃ x t,k=Sum.inr x∧v=Value.str x t)
 | .inl i,v,h=>by
  obtain ⟨t,e⟩:=Value.isInt_shape (k:=i) (v:=v) h
  exact .inl ⟨i,t,rfl,e⟩
 | .inr x,v,h=>by
  obtain ⟨t,e⟩:=Value.isStrOf_shape (x:=x) (v:=v) h
  exact .inr ⟨x,t,rfl,e⟩
theorem keyIs_int (i:Int) (t:Tok):keyIs (.inl i) (.int i t)=true:=by simp [keyIs,Value.isInt]
theorem keyIs_str (x:Str) (t:Tok):keyIs (.inr x) (.str x t)=true:=by simp [keyIs,Value.isStrOf]
theorem key_ll (a b:Int):decide ((Sum.inl a:Key)=Sum.inl b)=(a == b):=by
 by_cases e:a=b
 ·subst e;simp
 ·have h:¬ (Sum.inl a:Key)=Sum.inl b:=fun q=>e (Sum.inl.inj q)
  rw [decide_eq_false h]
  exact (beq_eq_false_iff_ne.mpr e).symm
theorem key_rr (a b:Str):decide ((Sum.inr a:Key)=Sum.inr b)=decide (a=b):=by
 by_cases e:a=b
 ·subst e;simp
 ·have h:¬ (Sum.inr a:Key)=Sum.inr b:=fun q=>e (Sum.inr.inj q)
  rw [decide_eq_false h,decide_eq_false e]
theorem key_lr (a:Int) (b:Str):decide ((Sum.inl a:Key)=Sum.inr b)=false:=decide_eq_false (fun q=>nomatch q)
theorem key_rl (a:Str) (b:Int):decide ((Sum.inr a:Key)=Sum.inl b)=false:=decide_eq_false (fun q=>nomatch q)
def mixKind (prog:Program) (w:World):PySem.KeyKind prog w Key where
 is:=keyIs
 hash:=keyH w
 inj:=fun v a b ha hb=>by
  rcases keyIs_shape ha with ⟨i,t,rfl,rfl⟩ | ⟨x,t,rfl,rfl⟩
  ·rcases keyIs_shape hb with ⟨j,u,rfl,e⟩ | ⟨y,u,rfl,e⟩
   ·injection e with e1 _;rw [e1]
   ·exact nomatch e
  ·rcases keyIs_shape hb with ⟨j,u,rfl,e⟩ | ⟨y,u,rfl,e⟩
   ·exact nomatch e
   ·injection e with e1 _;rw [e1]
 byValue:=fun k v h=>by
  rcases keyIs_shape h with ⟨i,t,rfl,rfl⟩ | ⟨x,t,rfl,rfl⟩ <;> rfl
 pyHash:=fun hv h=>by
  rcases keyIs_shape hv with ⟨i,t,rfl,rfl⟩ | ⟨x,t,rfl,rfl⟩
  ·exact wpAny_pyHash_int h
  ·exact wpAny_pyHash_str h
 eqBool:=fun hu hv h=>by
  rcases keyIs_shape hu with ⟨i,t,rfl,rfl⟩ | ⟨x,t,rfl,rfl⟩
  ·rcases keyIs_shape hv with ⟨j,u,rfl,rfl⟩ | ⟨y,u,rfl,rfl⟩
   ·rw [key_ll] at h;exact wpAny_eqBool_int h
   ·rw [key_lr] at h;exact SeqAt.EqAt.int_str i t y u _ _ _ _ h
  ·rcases keyIs_shape hv with ⟨j,u,rfl,rfl⟩ | ⟨y,u,rfl,rfl⟩
   ·rw [key_rl] at h;exact SeqAt.EqAt.str_int x t j u _ _ _ _ h
   ·rw [key_rr] at h;exact wpAny_eqBool_str h
 «strs»:=fun k x t v h=>by
  rcases keyIs_shape h with ⟨i,u,rfl,e⟩ | ⟨y,u,rfl,e⟩
  ·exact nomatch e
  ·injection e with e1 _
   subst e1
   cases v <;> rfl
theorem mixKind_int (prog:Program) (w:World) (i:Int) (t:Tok):(mixKind prog w).is (.inl i) (.int i t)=true:=keyIs_int i t
theorem mixKind_str (prog:Program) (w:World) (x:Str) (t:Tok):(mixKind prog w).is (.inr x) (.str x t)=true:=keyIs_str x t
end L2
namespace L2
open PySem PySem.Spec PyProof.Rows
inductive V where
 | non | bl (b:Bool) | int (i:Int) | str (x:Str) | byt (b:Array UInt8) | flt (b:UInt64) | ref (a:Addr) | ty (n:String)
 deriving DecidableEq
def RelV:V→Value→Prop
 | .non,u=>u=Value.none
 | .bl b,u=>u=Value.bool b
 | .int i,u=>∃ t,u=Value.int i t
 | .str x,u=>∃ t,u=Value.str x t
 | .byt b,u=>∃ t,u=Value.bytes b t
 | .flt b,u=>∃ t,u=Value.float b t
 | .ref a,u=>u=Value.ref a
 | .ty n,u=>u=Value.type n
abbrev Vals:List V→List Value→Prop:=Paired RelV
theorem Vals.length {xs:List V} {us:List Value} (r:Vals xs us):xs.length=us.length:=Paired.length r
theorem Vals.get:∀ {xs:List V} {us:List Value} {i:Nat} {x:V},Vals xs us→xs[i]?=some x→∃ u,us[i]?=some u∧RelV x u
 | _,_,_,_,.nil,e=>by simp at e
 | _,_,0,_,.cons r _,e=>by simp at e;subst e;exact ⟨_,rfl,r⟩
 | _,_,i + 1,x,.cons _ t,e=>by
  obtain ⟨u,h1,h2⟩:=Vals.get (i:=i) (x:=x) t (by simpa using e)
  exact ⟨u,by simpa using h1,h2⟩
theorem Vals.set {x:V} {u:Value} (r:RelV x u):∀ {xs:List V} {us:List Value} (i:Nat),Vals xs us→Vals (xs.set i x) (us.set i u)
 | _,_,_,.nil=>.nil
 | _,_,0,.cons _ t=>.cons r t
 | _,_,i + 1,.cons q t=>.cons q (Vals.set r i t)
theorem Vals.append:∀ {xs ys:List V} {us ws:List Value},Vals xs us→Vals ys ws→Vals (xs++ys) (us++ws)
 | _,_,_,_,.nil,s=>s
 | _,_,_,_,.cons r t,s=>.cons r (Vals.append t s)
theorem Vals.take:∀ {xs:List V} {us:List Value} (n:Nat),Vals xs us→Vals (xs.take n) (us.take n)
 | _,_,0,_=>.nil
 | _,_,_ + 1,.nil=>.nil
 | _,_,n + 1,.cons r t=>.cons r (Vals.take n t)
theorem Vals.drop:∀ {xs:List V} {us:List Value} (n:Nat),Vals xs us→Vals (xs.drop n) (us.drop n)
 | _,_,0,r=>r
 | _,_,_ + 1,.nil=>.nil
 | _,_,n + 1,.cons _ t=>Vals.drop n t
def RelO:Option V→Option Value→Prop
 | some v,some u=>RelV v u
 | none,none=>True
 | _,_=>False
def KV {κ:Type}:List (κ × V)→List (κ × Value)→Prop:=Paired fun (p:κ × V) (q:κ × Value)=>p.1=q.1∧RelV p.2 q.2
def kV:Key→V
 | .inl i=>.int i
 | .inr x=>.str x
inductive HO where
 | lst (xs:List V)
 | tup (xs:List V)
 | dK (kvs:List (Key × V)) | dT (kvs:List (List Key × V))
 | set (S:Int→Bool) (n:Nat)
 | ins (C dx:Addr) (fs:List (Str × V))
 | own (x:Addr)
 | xd (fs:List (Str × V))
 | met (f x:Addr)
 | rng (lo hi:Int)
 | frz (o:Obj) (u:HO)
 | tbl (ps:Array Value)
 | ext (φ:Heap→Prop)
abbrev Hp:=Addr→Option HO
def upd (H:Hp) (a:Addr) (o:HO):Hp:=fun b=>if b=a then some o else H b
theorem uS {H:Hp} {a:Addr} {o:HO}:upd H a o a=some o:=by unfold upd;rw [if_pos rfl]
theorem uN {H:Hp} {a b:Addr} {o:HO} (h:b≠a):upd H a o b=H b:=by unfold upd;rw [if_neg h]
theorem nN {H:Hp} {a b:Addr} {o:HO} (h:H a=some o) (h':H b=none):a≠b:=by
 intro e;subst e;rw [h] at h';cases h'
section
variable (P:Program) (w:World)
def ObjOk (H:Hp) (h:Heap) (a:Addr):HO→Prop
 | .lst xs=>xs.length≤sizeLine∧∃ (its:List Value) (n:Nat),Vals xs its∧h.get? a=some { cls:=.type "list",data:=.seq its.toArray n }
 | .tup xs=>xs.length≤sizeLine∧∃ its:List Value,Vals xs its∧IsTup h a its.toArray
 | .dK kvs=>kvs.length≤sizeLine∧(a == sysModules)=false∧∃ vs,KV kvs vs∧h.DictOf (mixKind P w) a vs
 | .dT kvs=>kvs.length≤sizeLine∧(a == sysModules)=false∧∃ xs:List (List Key × Addr × Value),
   Paired (fun (p:List Key × V) (q:List Key × Addr × Value)=>p.1=q.1∧H q.2.1=some (.tup (p.1.map kV))∧RelV p.2 q.2.2) kvs xs ∧
   ∃ o es ep,h.get? a=some o∧o.ExactDict∧o.data=.dict es ep∧es.toList=xs.map (entryOfKey (tupleKind (mixKind P w)))∧(xs.map (·.1)).Nodup
 | .set S n=>h.SetOf (intKind P w) a S n
 | .ins C dx fs=>H dx=some (.own a)∧fs.length≤1000∧dx≠a∧h.get? a=some (PySem.W.instObj C dx) ∧
   ∃ mA,h.Ns1 dx mA∧(∀ f,RelO (fs.lookup f) (mA f))∧PySem.Within mA (fs.map (·.1))
 | .own _=>∃ o,h.get? a=some o
 | .xd fs=>∃ mA,h.Ns1 a mA∧∀ f,RelO (fs.lookup f) (mA f)
 | .rng lo hi=>∃ t u v,h.get? a=some { cls:=.type "range",data:=.fields #[.int lo t,.int hi u,.int 1 v] }
 | .frz o u=>h.get? a=some o∧ObjOk H h a u
 | .tbl ps=>h.get? a=some { cls:=.none,data:=.fields ps }
 | .met f x=>h.get? a=some (PySem.W.methodObj (.ref f) (.ref x))
 | .ext φ=>φ h∧(∃ o,h.get? a=some o)∧∀ h1 h2:Heap,φ h1→(∀ o,h1.get? a=some o→h2.get? a=some o)→φ h2
def HOk (H:Hp) (h:Heap):Prop:=∀ a o,H a=some o→ObjOk P w H h a o
end
section
variable {P:Program} {w:World} {H H':Hp} {h h':Heap} {a:Addr} {o:HO}
theorem ObjOk.lt (x:ObjOk P w H h a o):a < h.objs.size:=by
 cases o with
 | lst xs=>obtain ⟨_,_,_,_,e⟩:=x;exact Heap.lt_size e
 | tup xs=>obtain ⟨_,_,_,p⟩:=x;exact p.lt
 | dK kvs=>obtain ⟨_,_,_,_,o,_,_,e,_⟩:=x;exact Heap.lt_size e
 | dT kvs=>obtain ⟨_,_,_,_,o,_,_,e,_⟩:=x;exact Heap.lt_size e
 | set S n=>obtain ⟨o,_,_,_,e,_⟩:=x;exact Heap.lt_size e
 | ins C dx fs=>obtain ⟨_,_,_,e,_⟩:=x;exact Heap.lt_size e
 | own y=>obtain ⟨_,e⟩:=x;exact Heap.lt_size e
 | xd fs=>obtain ⟨_,⟨_,_,_,e,_⟩,_⟩:=x;exact Heap.lt_size e
 | rng lo hi=>obtain ⟨_,_,_,e⟩:=x;exact Heap.lt_size e
 | frz ob u=>obtain ⟨e,_⟩:=x;exact Heap.lt_size e
 | tbl ps=>exact Heap.lt_size (show h.get? a=some _ from x)
 | met f y=>exact Heap.lt_size (show h.get? a=some _ from x)
 | ext φ=>obtain ⟨_,⟨_,e⟩,_⟩:=x;exact Heap.lt_size e
theorem Paired.mapP {α β:Type} {F G:α→β→Prop}:∀ {l₁:List α} {l₂:List β},Paired F l₁ l₂→(∀ a b,F a b→G a b)→Paired G l₁ l₂
 | _,_,.nil,_=>.nil
 | _,_,.cons r t,f=>.cons (f _ _ r) (Paired.mapP t f)
theorem Paired.imp' {α β:Type} {F G:α→β→Prop} (f:∀ a b,F a b→G a b) {l₁:List α} {l₂:List β} (r:Paired F l₁ l₂):Paired G l₁ l₂:=Paired.mapP r f
theorem ObjOk.stay (x:ObjOk P w H h a o) (k:∀ b u,(b=a∨H b=some (.own a))→h.get? b=some u→h'.get? b=some u)
  (ho:∀ b,H b=some (.own a)→H' b=some (.own a)) (ht:∀ b xs,H b=some (.tup xs)→H' b=some (.tup xs)):ObjOk P w H' h' a o:=by
 induction o with
 | lst xs=>obtain ⟨z,its,n,r,e⟩:=x;exact ⟨z,its,n,r,k _ _ (.inl rfl) e⟩
 | tup xs=>obtain ⟨z,its,r,ob,e,c⟩:=x;exact ⟨z,its,r,ob,k _ _ (.inl rfl) e,c⟩
 | dK kvs=>obtain ⟨z,y,vs,r,ob,es,ep,e,c⟩:=x;exact ⟨z,y,vs,r,ob,es,ep,k _ _ (.inl rfl) e,c⟩
 | dT kvs =>
  obtain ⟨z,y,xs,r,ob,es,ep,e,c⟩:=x
  exact ⟨z,y,xs,Paired.mapP r fun p q z=>⟨z.1,ht _ _ z.2.1,z.2.2⟩,ob,es,ep,k _ _ (.inl rfl) e,c⟩
 | set S n=>obtain ⟨ob,es,ep,t,e,c⟩:=x;exact ⟨ob,es,ep,t,k _ _ (.inl rfl) e,c⟩
 | ins C dx fs =>
  obtain ⟨d,z,ne,e,mA,⟨od,es,ep,e2,c⟩,r⟩:=x
  exact ⟨ho _ d,z,ne,k _ _ (.inl rfl) e,mA,⟨od,es,ep,k _ _ (.inr d) e2,c⟩,r⟩
 | own y=>obtain ⟨ob,e⟩:=x;exact ⟨ob,k _ _ (.inl rfl) e⟩
 | xd fs=>obtain ⟨mA,⟨od,es,ep,e,c⟩,r⟩:=x;exact ⟨mA,⟨od,es,ep,k _ _ (.inl rfl) e,c⟩,r⟩
 | rng lo hi=>obtain ⟨t,u,v,e⟩:=x;exact ⟨t,u,v,k _ _ (.inl rfl) e⟩
 | frz ob u ih=>obtain ⟨e,q⟩:=x;exact ⟨k _ _ (.inl rfl) e,ih q⟩
 | tbl ps =>
  have e:h.get? a=some { cls:=.none,data:=.fields ps }:=x
  show h'.get? a=some { cls:=.none,data:=.fields ps }
  exact k a _ (.inl rfl) e
 | met f y =>
  have e:h.get? a=some (PySem.W.methodObj (.ref f) (.ref y)):=x
  show h'.get? a=some (PySem.W.methodObj (.ref f) (.ref y))
  exact k a _ (.inl rfl) e
 | ext φ=>obtain ⟨p,⟨o,e⟩,st⟩:=x;exact ⟨st _ _ p fun o q=>k _ _ (.inl rfl) q,⟨o,k _ _ (.inl rfl) e⟩,st⟩
theorem HOk.lt (x:HOk P w H h) (e:H a=some o):a < h.objs.size:=(x a o e).lt
theorem HOk.fresh (x:HOk P w H h) (e:h.objs.size≤a):H a=none:=by
 cases q:H a with
 | none=>rfl
 | some u=>exact absurd (Nat.lt_of_lt_of_le (x.lt q) e) (Nat.lt_irrefl _)
theorem HOk.kept (x:HOk P w H h) (k:∀ b u,h.get? b=some u→h'.get? b=some u):HOk P w H h':=fun a o e =>
 (x a o e).stay (fun b u _ q=>k b u q) (fun _ q=>q) fun _ _ q=>q
theorem HOk.laid (x:HOk P w H h) (k:∀ b u,h.get? b=some u→h'.get? b=some u) (hp:h.objs.size≤a) (new:ObjOk P w (upd H a o) h' a o):HOk P w (upd H a o) h':=fun b u e=>by
 have hn:=x.fresh hp
 by_cases hb:b=a
 ·subst hb;rw [uS] at e;cases e;exact new
 ·rw [uN hb] at e
  exact (x b u e).stay (fun c v _ q=>k c v q) (fun c q=>by rw [uN (nN q hn)];exact q) fun c xs q=>by rw [uN (nN q hn)];exact q
end
def Rd (H:Hp) (a:Addr) (u:HO):Prop:=H a=some u∨∃ o,H a=some (.frz o u)
theorem Rd.of {H:Hp} {a:Addr} {u:HO} (h:H a=some u):Rd H a u:=.inl h
theorem Rd.ok {P:Program} {w:World} {H:Hp} {h:Heap} {a:Addr} {u:HO} (r:Rd H a u) (x:HOk P w H h):ObjOk P w H h a u:=by
 rcases r with r | ⟨o,r⟩
 ·exact x a u r
 ·obtain ⟨_,q⟩:=x a _ r
  exact q
def Mut:Option HO→Prop
 | some (.lst _)=>True
 | some (.dK _)=>True
 | some (.dT _)=>True
 | some (.set _ _)=>True
 | some (.ins _ _ _)=>True
 | some (.ext _)=>True
 | _=>False
section
variable {P:Program} {w:World} {H:Hp} {h h':Heap} {x e:Addr} {o':HO}
theorem HOk.write (ok:HOk P w H h) (mu:Mut (H x)) (he:e=x∨H e=some (.own x)) (k:∀ b u,b≠e→h.get? b=some u→h'.get? b=some u) (heo:∃ u,h'.get? e=some u)
  (new:ObjOk P w (upd H x o') h' x o'):HOk P w (upd H x o') h':=fun b u q=>by
 have nown:∀ c y,H c=some (.own y)→c≠x:=fun c y r z=>by subst z;rw [r] at mu;exact mu
 have ntup:∀ c xs,H c=some (.tup xs)→c≠x:=fun c xs r z=>by subst z;rw [r] at mu;exact mu
 by_cases hb:b=x
 ·subst hb;rw [uS] at q;cases q;exact new
 ·rw [uN hb] at q
  by_cases hbe:b=e
  ·have q':H b=some (.own x):=by
    rcases he with z | z
    ·exact absurd (hbe.trans z) hb
    ·rw [hbe];exact z
   rw [q] at q';cases q'
   obtain ⟨v,hv⟩:=heo
   exact ⟨v,by rw [hbe];exact hv⟩
  ·refine (ok b u q).stay (fun c v hc r=>k c v ?_ r) (fun c r=>by rw [uN (nown c b r)];exact r) fun c xs r=>by rw [uN (ntup c xs r)];exact r
   rcases hc with rfl | hc
   ·exact hbe
   ·rintro rfl
    rcases he with z | z
    ·exact nown c b hc z
    ·rw [hc] at z;cases z;exact hb rfl
end
structure Un (fs ex:List Addr) (H H':Hp) (h h':Heap):Prop where
 keep:∀ b o,h.get? b=some o→H b=none→b ∉ fs→b ∉ ex→h'.get? b=some o
 slot:∀ b o,h.get? b=some o→H b=none→b∈fs→b ∉ ex→∃ sl,h'.get? b=some { o with slots:=sl }
 free:∀ b o,h.get? b=some o→H b=none→b ∉ ex→H' b=none
 there:∀ b o,h.get? b=some o→b ∉ ex→∃ o',h'.get? b=some o'
 tups:∀ b xs,H b=some (.tup xs)→H' b=some (.tup xs)
 frzs:∀ b o u,H b=some (.frz o u)→H' b=some (.frz o u)
 tbls:∀ b ps,H b=some (.tbl ps)→∃ more,H' b=some (.tbl (ps++more))
section
variable {fs fs' ex ex':List Addr} {H H1 H2:Hp} {h h1 h2 h':Heap} {a x e:Addr} {o:HO}
theorem Un.any (u:Un fs ex H H1 h h1) {b:Addr} {ob:Obj} (q:h.get? b=some ob) (n:H b=none) (hx:b ∉ ex):∃ sl,h1.get? b=some { ob with slots:=sl }:=by
 by_cases hb:b∈fs
 ·exact u.slot b ob q n hb hx
 ·exact ⟨ob.slots,u.keep b ob q n hb hx⟩
theorem Un.trans (a:Un fs ex H H1 h h1) (b:Un fs ex H1 H2 h1 h2):Un fs ex H H2 h h2 where
 keep:=fun c ob q n hc hx=>b.keep c ob (a.keep c ob q n hc hx) (a.free c ob q n hx) hc hx
 slot:=fun c ob q n hc hx=>by
  obtain ⟨sl,e1⟩:=a.slot c ob q n hc hx
  obtain ⟨sl',e2⟩:=b.slot c _ e1 (a.free c ob q n hx) hc hx
  exact ⟨sl',e2⟩
 free:=fun c ob q n hx=>by
  obtain ⟨o',e1⟩:=a.there c ob q hx
  exact b.free c o' e1 (a.free c ob q n hx) hx
 there:=fun c ob q hx=>by
  obtain ⟨o',e1⟩:=a.there c ob q hx
  exact b.there c o' e1 hx
 tups:=fun c xs q=>b.tups c xs (a.tups c xs q)
 frzs:=fun c ob xs q=>b.frzs c ob xs (a.frzs c ob xs q)
 tbls:=fun c ps q=>by
  obtain ⟨m1,e1⟩:=a.tbls c ps q
  obtain ⟨m2,e2⟩:=b.tbls c _ e1
  exact ⟨m1++m2,by rw [e2,Array.append_assoc]⟩
theorem Un.kept (k:∀ b u,h.get? b=some u→h'.get? b=some u):Un fs ex H H h h' :=
 ⟨fun b ob q _ _ _=>k b ob q,fun b ob q _ _ _=>⟨ob.slots,k b ob q⟩,fun _ _ _ n _=>n,fun b ob q _=>⟨ob,k b ob q⟩,fun _ _ q=>q,fun _ _ _ q=>q,fun _ ps q=>⟨#[],by rw [q];simp⟩⟩
theorem Un.refl:Un fs ex H H h h:=Un.kept fun _ _ q=>q
theorem Un.laid (k:∀ b u,h.get? b=some u→h'.get? b=some u) (hp:h.objs.size≤a) (hn:H a=none):Un fs ex H (upd H a o) h h' where
 keep:=fun b u q _ _ _=>k b u q
 slot:=fun b u q _ _ _=>⟨u.slots,k b u q⟩
 free:=fun b u q n _=>by rw [uN (Nat.ne_of_lt (Nat.lt_of_lt_of_le (Heap.lt_size q) hp))];exact n
 there:=fun b u q _=>⟨u,k b u q⟩
 tups:=fun b xs q=>by rw [uN (nN q hn)];exact q
 frzs:=fun b u xs q=>by rw [uN (nN q hn)];exact q
 tbls:=fun b ps q=>⟨#[],by rw [uN (nN q hn),q];simp⟩
theorem Un.write (mu:Mut (H x)) (he:e=x∨H e=some (.own x)) (k:∀ b u,b≠e→h.get? b=some u→h'.get? b=some u) (heo:∃ u,h'.get? e=some u):Un fs ex H (upd H x o) h h':=by
 have hx:∀ b,H b=none→b≠x:=fun b n z=>by subst z;rw [n] at mu;exact mu
 have hb:∀ b,H b=none→b≠e:=fun b n z=>by
  subst z
  rcases he with r | r
  ·exact hx b n r
  ·rw [n] at r;cases r
 have hm:∀ b u,H b=some u→¬ Mut (some u)→b≠x:=fun b u q nm z=>by subst z;rw [q] at mu;exact nm mu
 refine ⟨fun b u q n _ _=>k b u (hb b n) q,fun b u q n _ _=>⟨u.slots,k b u (hb b n) q⟩,fun b u q n _=>by rw [uN (hx b n)];exact n,fun b u q _=>?_,
  fun b xs q=>by rw [uN (hm b _ q fun z=>z)];exact q,fun b u xs q=>by rw [uN (hm b _ q fun z=>z)];exact q,fun b ps q=>⟨#[],by rw [uN (hm b _ q fun z=>z),q];simp⟩⟩
 by_cases hbe:b=e
 ·subst hbe;exact heo
 ·exact ⟨u,k b u hbe q⟩
end
def trk (h:Heap) (H:Hp):List Addr:=(List.range h.objs.size).filter fun a=>(H a).isSome
def hidT (h:Heap) (H:Hp):Heap:=PySem.W.hideAll h (trk h H)
theorem hidT_size (h:Heap) (H:Hp):(hidT h H).objs.size=h.objs.size:=PySem.W.hideAll_size _ _
theorem hidT_get {h:Heap} {H:Hp} {b:Addr} {o:Obj} (e:h.get? b=some o) (n:H b=none):(hidT h H).get? b=some o :=
 PySem.W.hideAll_get _ e fun hm=>by
  have q:(H b).isSome=true:=(List.mem_filter.mp hm).2
  rw [n] at q;simp at q
theorem of_hidT {h:Heap} {H:Hp} {b:Addr} {o:Obj} (e:(hidT h H).get? b=some o):h.get? b=some o∧H b=none:=by
 have e':h.get? b=some o:=PySem.W.of_hideAll (trk h H) e
 refine ⟨e',?_⟩
 cases q:H b with
 | none=>rfl
 | some x =>
  have hm:b∈trk h H:=List.mem_filter.mpr ⟨List.mem_range.mpr (Heap.lt_size e'),by simp [q]⟩
  have z:(hidT h H).get? b=none:=PySem.W.hideAll_none (trk h H) hm
  rw [z] at e;cases e
end L2
namespace L2
open PySem PySem.Spec PyProof.Rows
structure Mod (K:PySem.W.Frag) (mg:Str→Option Value) (base:Heap):Prop where
 kin:K.In base
 glob:base.Ns mainGlobals mg
 blt:∃ mb,base.Ns builtinsNs mb∧∀ x:Str,x≠"__name__"→mb x=bootBuiltins x
 nolimit:base.NoLimit
structure Cx where
 prog:Program
 w:World
 K:PySem.W.Frag
 mg:Str→Option Value
 base:Heap
 A:Around
 N:List Str
 s_0:Shared
 H_0:Hp
 env:Env
 outer:List Env
 stack:List Env
 ex:List Addr
 fn:Str→Bool
 calm:Bool
 pn:List (Addr × Obj)
 xe:Value→Shared→Prop
def frs (l:List Env):List Addr:=l.filterMap (·.frame)
abbrev Cx.fs (X:Cx):List Addr:=frs X.outer
def Vis (sc:Scope) (x:Str):Prop:=sc.names.lookup x=some .local∨sc.names.lookup x=some .cell∨sc.names.lookup x=some .free
def Loc (sc:Scope) (x:Str):Prop:=sc.names.lookup x=some .local∨sc.names.lookup x=some .cell
def Look (env:Env) (h:Heap) (m:Str→Option Value) (x:Str) (u:Value):Prop :=
 (env.kindOf x=some .local∧m x=some u)∨((env.kindOf x=some .cell∨env.kindOf x=some .free)∧∃ c,env.cells.lookup x=some c∧h.IsCell c (some u))
structure Cx.Ok (X:Cx):Prop where
 mod:Mod X.K X.mg X.base
 kind:X.env.scope.kind=.function
 glob:X.env.globals=mainGlobals
 blt:X.env.builtins=builtinsNs
 above:X.s_0.heap.objs.size≤X.env.locals
 inj:∀ x y c,X.env.cells.lookup x=some c→X.env.cells.lookup y=some c→x=y
 has:∀ x,(X.env.kindOf x=some .cell∨X.env.kindOf x=some .free)→∃ c,X.env.cells.lookup x=some c
 cab:∀ x c,X.fn x=true→X.env.cells.lookup x=some c→X.s_0.heap.objs.size≤c
 hd:X.calm=true→X.A.handled=none
 frames:X.A.frames=some X.stack
 stk:X.stack=X.outer∨(X.stack=X.env::X.outer∧X.env.frame=some X.env.locals)
 exf:∀ b∈X.ex,b≠X.env.locals∧∀ x c,X.env.cells.lookup x=some c→c≠b
 bs:∀ b o,X.base.get? b=some o→X.s_0.heap.get? b=some o∧X.H_0 b=none
 bsz:X.base.objs.size≤X.s_0.heap.objs.size
 noex:∀ b o,X.base.get? b=some o→b ∉ X.ex
 exfs:∀ b∈X.ex,b ∉ X.fs
 funs:X.s_0.heap.FunFrames X.base X.outer
 frf:∀ b∈X.fs,X.H_0 b=none
structure Inv (X:Cx) (pins:List (Addr × Obj)) (σ:List (Option V)) (H:Hp) (s:Shared):Prop where
 ok:X.Ok
 os:s.os=X.s_0.os
 bare:AllBare s.gens
 base:Un X.fs X.ex X.H_0 H X.s_0.heap s.heap
 loc:∃ m,s.heap.Ns X.env.locals m∧∀ (i:Nat) (x:Str) (v:V),X.N[i]?=some x→σ[i]?=some (some v)→Vis X.env.scope x→∃ u,RelV v u∧Look X.env s.heap m x u
 cell:∀ x c,X.env.cells.lookup x=some c→∃ v,s.heap.IsCell c v
 free:H X.env.locals=none
 freeC:∀ x c,X.env.cells.lookup x=some c→H c=none
 pin:∀ p∈X.pn++pins,s.heap.get? p.1=some p.2∧H p.1=none∧p.1≠X.env.locals∧p.1 ∉ X.fs∧∀ v,p.2.data≠.cell v
 hok:HOk X.prog X.w H s.heap
 len:σ.length=X.N.length
section
variable {X:Cx} {pins:List (Addr × Obj)} {σ:List (Option V)} {H H':Hp} {s:Shared} {h':Heap}
theorem Cx.Ok.nofr (ok:X.Ok) {b:Addr} {o:Obj} (e:X.base.get? b=some o):b ∉ X.fs:=fun hb=>by
 have:=(ok.funs.mem hb).1
 rw [e] at this;cases this
theorem Inv.bs (I:Inv X pins σ H s):∀ b o,X.base.get? b=some o→s.heap.get? b=some o∧H b=none:=fun b o e =>
 ⟨I.base.keep b o (I.ok.bs b o e).1 (I.ok.bs b o e).2 (I.ok.nofr e) (I.ok.noex b o e),I.base.free b o (I.ok.bs b o e).1 (I.ok.bs b o e).2 (I.ok.noex b o e)⟩
theorem Inv.bk (I:Inv X pins σ H s):∀ b o,X.base.get? b=some o→s.heap.get? b=some o:=fun b o e=>(I.bs b o e).1
theorem Inv.mod (I:Inv X pins σ H s):Mod X.K X.mg X.base:=I.ok.mod
theorem Inv.kIn (I:Inv X pins σ H s):X.K.In s.heap:=I.ok.mod.kin.keeps I.bk
theorem Inv.fr (I:Inv X pins σ H s):∃ m,Fr X.base X.env.locals s.heap m :=
 let ⟨m,hn,_⟩:=I.loc
 ⟨m,hn,I.bk,Nat.le_trans I.ok.bsz I.ok.above⟩
theorem Inv.lt (I:Inv X pins σ H s):X.env.locals < s.heap.objs.size:=let ⟨_,hn,_⟩:=I.loc;hn.lt
theorem Inv.sz (I:Inv X pins σ H s):X.s_0.heap.objs.size≤s.heap.objs.size:=Nat.le_trans I.ok.above (Nat.le_of_lt I.lt)
theorem Inv.nofs (I:Inv X pins σ H s) {a:Addr} (h:s.heap.objs.size≤a):a ∉ X.fs:=fun hb=>by
 obtain ⟨_,o,ho,_⟩:=I.ok.funs.mem hb
 exact absurd (Nat.lt_of_lt_of_le (Heap.lt_size ho) (Nat.le_trans I.sz h)) (Nat.lt_irrefl _)
theorem Inv.cne (I:Inv X pins σ H s):∀ x c,X.env.cells.lookup x=some c→c≠X.env.locals:=fun x c e z=>by
 obtain ⟨v,o,ho,hd⟩:=I.cell x c e
 obtain ⟨m,⟨o',es,ep,ho',hd',_⟩,_⟩:=I.loc
 rw [z,ho'] at ho;cases ho;rw [hd'] at hd;cases hd
theorem Inv.funs (I:Inv X pins σ H s):s.heap.FunFrames X.base X.outer:=by
 have all:∀ (l:List Env),(∀ b∈frs l,b∈X.fs)→X.s_0.heap.FunFrames X.base l→s.heap.FunFrames X.base l:=by
  intro l
  induction l with
  | nil=>intro _ _;trivial
  | cons env r ih =>
   intro hs hl
   obtain ⟨hk,⟨L,o,hf,hn,ho,hd⟩,hr⟩:=hl
   have hL:L∈X.fs:=hs L (by unfold frs;rw [List.filterMap_cons,hf];exact List.mem_cons_self)
   obtain ⟨sl,e⟩:=I.base.slot L o ho (I.ok.frf L hL) hL fun z=>I.ok.exfs L z hL
   exact ⟨hk,⟨L,_,hf,hn,e,hd⟩,ih (fun b hb=>hs b (by unfold frs;rw [List.filterMap_cons,hf];exact List.mem_cons_of_mem _ hb)) hr⟩
 exact all X.outer (fun _ hb=>hb) I.ok.funs
theorem Inv.stack (I:Inv X pins σ H s):s.heap.FunFrames X.base X.stack:=by
 rcases I.ok.stk with e | ⟨e,hf⟩
 ·rw [e];exact I.funs
 ·rw [e]
  obtain ⟨m,hn,_⟩:=I.loc
  refine .cons (by rw [I.ok.kind];decide) hf hn ?_ I.funs
  exact Heap.get?_none_of_le (Nat.le_trans I.ok.bsz I.ok.above)
theorem Inv.stkSub (I:Inv X pins σ H s):∀ b∈frs X.stack,b∈X.env.locals::X.fs:=fun b hb=>by
 rcases I.ok.stk with e | ⟨e,hf⟩
 ·rw [e] at hb;exact List.mem_cons_of_mem _ hb
 ·rw [e] at hb
  unfold frs at hb
  rw [List.filterMap_cons,hf] at hb
  exact hb
theorem Inv.stkFree (I:Inv X pins σ H s):∀ b∈frs X.stack,H b=none:=fun b hb=>by
 rcases List.mem_cons.mp (I.stkSub b hb) with e | hb
 ·rw [e];exact I.free
 ·obtain ⟨_,o,ho,_⟩:=I.ok.funs.mem hb
  exact I.base.free b o ho (I.ok.frf b hb) fun z=>I.ok.exfs b z hb
theorem Inv.step {g':Array GenState} {t':Nat} {d':Drawn} {ch:List Addr} (I:Inv X pins σ H s)
  (hch:∀ b∈ch,(b∈X.ex∨X.s_0.heap.objs.size≤b)∧b≠X.env.locals∧(∀ x c,X.env.cells.lookup x=some c→c≠b)∧∀ p∈X.pn++pins,p.1≠b)
  (keep:∀ b o,b≠X.env.locals→b ∉ X.fs→b ∉ ch→s.heap.get? b=some o→H b=none→h'.get? b=some o)
  (slot:∀ b o,b≠X.env.locals→b∈X.fs→b ∉ ch→s.heap.get? b=some o→H b=none→∃ sl,h'.get? b=some { o with slots:=sl }) (free:∀ b o,b ∉ ch→s.heap.get? b=some o→H b=none→H' b=none)
  (there:∀ b o,b ∉ ch→s.heap.get? b=some o→∃ o',h'.get? b=some o')
  (tups:∀ b xs,H b=some (.tup xs)→H' b=some (.tup xs)) (frzs:∀ b o u,H b=some (.frz o u)→H' b=some (.frz o u)) (tbls:∀ b ps,H b=some (.tbl ps)→∃ more,H' b=some (.tbl (ps++more)))
  (ns:∀ m,s.heap.Ns X.env.locals m→h'.Ns X.env.locals m) (hok:HOk X.prog X.w H' h') (hg:AllBare g') :
  Inv X pins σ H' { s with heap:=h',gens:=g',drawn:=d',toks:=t' }:=by
 have neL:∀ b o,X.s_0.heap.get? b=some o→b≠X.env.locals:=fun b o e=>Nat.ne_of_lt (Nat.lt_of_lt_of_le (Heap.lt_size e) I.ok.above)
 have neC:∀ b o,X.s_0.heap.get? b=some o→b ∉ X.ex→b ∉ ch:=fun b o e hx hb=>by
  rcases (hch b hb).1 with z | z
  ·exact hx z
  ·exact absurd (Nat.lt_of_lt_of_le (Heap.lt_size e) z) (Nat.lt_irrefl _)
 have cellK:∀ x c,X.env.cells.lookup x=some c→∀ v,s.heap.IsCell c v→h'.IsCell c v:=fun x c e v ⟨o,ho,hd⟩=>by
  have nch:c ∉ ch:=fun z=>(hch c z).2.2.1 x c e rfl
  by_cases hc:c∈X.fs
  ·obtain ⟨sl,q⟩:=slot c o (I.cne x c e) hc nch ho (I.freeC x c e)
   exact ⟨_,q,hd⟩
  ·exact ⟨o,keep c o (I.cne x c e) hc nch ho (I.freeC x c e),hd⟩
 refine ⟨I.ok,I.os,hg,⟨fun b o e n hb hx=>?_,fun b o e n hb hx=>?_,fun b o e n hx=>?_,fun b o e hx=>?_,fun b xs e=>tups b xs (I.base.tups b xs e),fun b o xs e=>frzs b o xs (I.base.frzs b o xs e),fun b ps e=>?_⟩,?_,fun x c e=>?_,?_,fun x c e=>?_,fun p hp=>?_,hok,I.len⟩
 ·exact keep b o (neL b o e) hb (neC b o e hx) (I.base.keep b o e n hb hx) (I.base.free b o e n hx)
 ·obtain ⟨sl,e1⟩:=I.base.slot b o e n hb hx
  obtain ⟨sl',e2⟩:=slot b _ (neL b o e) hb (neC b o e hx) e1 (I.base.free b o e n hx)
  exact ⟨sl',e2⟩
 ·obtain ⟨o',e1⟩:=I.base.there b o e hx
  exact free b o' (neC b o e hx) e1 (I.base.free b o e n hx)
 ·obtain ⟨o',e1⟩:=I.base.there b o e hx
  exact there b o' (neC b o e hx) e1
 ·obtain ⟨m1,e1⟩:=I.base.tbls b ps e
  obtain ⟨m2,e2⟩:=tbls b _ e1
  exact ⟨m1++m2,by rw [e2,Array.append_assoc]⟩
 ·obtain ⟨m,hn,hl⟩:=I.loc
  refine ⟨m,ns m hn,fun i x v e1 e2 e3=>?_⟩
  obtain ⟨u,r,l⟩:=hl i x v e1 e2 e3
  refine ⟨u,r,?_⟩
  rcases l with l | ⟨k,c,e,z⟩
  ·exact .inl l
  ·exact .inr ⟨k,c,e,cellK x c e _ z⟩
 ·obtain ⟨v,z⟩:=I.cell x c e
  exact ⟨v,cellK x c e v z⟩
 ·obtain ⟨m,⟨o,_,_,ho,_⟩,_⟩:=I.loc
  exact free _ o (fun z=>(hch _ z).2.1 rfl) ho I.free
 ·obtain ⟨v,o,ho,hd⟩:=I.cell x c e
  exact free c o (fun z=>(hch c z).2.2.1 x c e rfl) ho (I.freeC x c e)
 ·obtain ⟨e,n,ne,nf,d⟩:=I.pin p hp
  have nch:p.1 ∉ ch:=fun z=>(hch p.1 z).2.2.2 p hp rfl
  exact ⟨keep p.1 p.2 ne nf nch e n,free p.1 p.2 nch e n,ne,nf,d⟩
theorem Inv.un {t':Nat} (I:Inv X pins σ H s) (u:Un X.fs [] H H' s.heap h') (hok:HOk X.prog X.w H' h'):Inv X pins σ H' { s with heap:=h',toks:=t' }:=by
 obtain ⟨m,⟨o,es,ep,ho,r⟩,_⟩:=id I.loc
 obtain ⟨sl,hL⟩:=u.any ho I.free (by simp)
 exact I.step (g':=s.gens) (d':=s.drawn) (ch:=[]) (fun _ z=>nomatch z) (fun b o _ hb _ e n=>u.keep b o e n hb (by simp)) (fun b o _ hb _ e n=>u.slot b o e n hb (by simp)) (fun b o _ e n=>u.free b o e n (by simp)) (fun b o _ e=>u.there b o e (by simp)) u.tups u.frzs u.tbls (fun m' hm=>by
  obtain ⟨o',es',ep',ho',r'⟩:=hm
  rw [ho] at ho';cases ho'
  exact ⟨_,es',ep',hL,r'⟩) hok I.bare
theorem Inv.call {g':Array GenState} {t':Nat} {d':Drawn} {ch:List Addr} (I:Inv X pins σ H s) (u:Un (frs X.stack) ch H H' s.heap h') (hok:HOk X.prog X.w H' h') (hg:AllBare g')
  (hch:∀ b∈ch,(b∈X.ex∨X.s_0.heap.objs.size≤b)∧b≠X.env.locals∧(∀ x c,X.env.cells.lookup x=some c→c≠b)∧∀ p∈X.pn++pins,p.1≠b) :
  Inv X pins σ H' { s with heap:=h',gens:=g',drawn:=d',toks:=t' }:=by
 obtain ⟨m,⟨o,es,ep,ho,r⟩,_⟩:=id I.loc
 obtain ⟨sl,hL⟩:=u.any ho I.free fun z=>(hch _ z).2.1 rfl
 exact I.step (ch:=ch) hch (fun b o hL hb hc e n=>u.keep b o e n (fun z=>(List.mem_cons.mp (I.stkSub b z)).elim hL hb) hc) (fun b o _ _ hc e n=>u.any e n hc) (fun b o hc e n=>u.free b o e n hc) (fun b o hc e=>u.there b o e hc) u.tups u.frzs u.tbls (fun m' hm=>by
  obtain ⟨o',es',ep',ho',r'⟩:=hm
  rw [ho] at ho';cases ho'
  exact ⟨_,es',ep',hL,r'⟩) hok hg
theorem Inv.turned {t':Nat} {it:Addr} (I:Inv X pins σ H s) (k:∀ b o,b≠it→s.heap.get? b=some o→h'.get? b=some o) (hn:H it=none) (hL:it≠X.env.locals)
  (h1:it∈X.ex∨X.s_0.heap.objs.size≤it) (h2:∀ x c,X.env.cells.lookup x=some c→c≠it) (h3:∀ p∈X.pn++pins,p.1≠it):Inv X pins σ H { s with heap:=h',toks:=t' }:=by
 have nit:∀ b u,H b=some u→b≠it:=fun b u e z=>by rw [z,hn] at e;cases e
 refine I.step (g':=s.gens) (d':=s.drawn) (ch:=[it]) (fun b hb=>?_) (fun b o _ _ hc e _=>k b o (fun z=>hc (by simp [z])) e) (fun b o _ _ hc e _=>⟨o.slots,k b o (fun z=>hc (by simp [z])) e⟩) (fun _ _ _ _ n=>n)
  (fun b o hc e=>⟨o,k b o (fun z=>hc (by simp [z])) e⟩) (fun _ _ e=>e) (fun _ _ _ e=>e) (fun b ps e=>⟨#[],by rw [e];simp⟩) (fun m hm=>?_) (fun b u e=>?_) I.bare
 ·have e:b=it:=by simpa using hb
  subst e
  exact ⟨h1,hL,h2,h3⟩
 ·obtain ⟨o,es,ep,ho,r⟩:=hm
  exact ⟨o,es,ep,k _ o (Ne.symm hL) ho,r⟩
 ·refine (I.hok b u e).stay (fun c v hc q=>k c v ?_ q) (fun _ q=>q) fun _ _ q=>q
  rcases hc with z | z
  ·rw [z];exact nit b u e
  ·exact nit c _ z
theorem Inv.tok (I:Inv X pins σ H s) (t:Nat):Inv X pins σ H { s with toks:=t }:=I.un (h':=s.heap) (t':=t) Un.refl I.hok
theorem Inv.kept {t':Nat} (I:Inv X pins σ H s) (k:∀ b u,s.heap.get? b=some u→h'.get? b=some u):Inv X pins σ H { s with heap:=h',toks:=t' }:=I.un (Un.kept k) (I.hok.kept k)
theorem Inv.laid {a:Addr} {o:HO} {t':Nat} (I:Inv X pins σ H s) (k:∀ b u,s.heap.get? b=some u→h'.get? b=some u) (hp:s.heap.objs.size≤a) (new:ObjOk X.prog X.w (upd H a o) h' a o) :
  Inv X pins σ (upd H a o) { s with heap:=h',toks:=t' }:=I.un (Un.laid k hp (I.hok.fresh hp)) (I.hok.laid k hp new)
theorem Inv.write {x e:Addr} {o:HO} {t':Nat} (I:Inv X pins σ H s) (mu:Mut (H x)) (he:e=x∨H e=some (.own x)) (k:∀ b u,b≠e→s.heap.get? b=some u→h'.get? b=some u) (heo:∃ u,h'.get? e=some u)
  (new:ObjOk X.prog X.w (upd H x o) h' x o):Inv X pins σ (upd H x o) { s with heap:=h',toks:=t' }:=I.un (Un.write mu he k heo) (I.hok.write mu he k heo new)
theorem Inv.weak {σ':List (Option V)} (I:Inv X pins σ H s) (hl:σ'.length=σ.length) (w:∀ (i:Nat) v,σ'[i]?=some (some v)→σ[i]?=some (some v)):Inv X pins σ' H s :=
 ⟨I.ok,I.os,I.bare,I.base,let ⟨m,hn,hl'⟩:=I.loc;⟨m,hn,fun i x v e1 e2 e3=>hl' i x v e1 (w i v e2) e3⟩,I.cell,I.free,I.freeC,I.pin,I.hok,hl.trans I.len⟩
theorem Inv.pins_of {pins':List (Addr × Obj)} (I:Inv X pins σ H s) (h:∀ p∈pins',s.heap.get? p.1=some p.2∧H p.1=none∧p.1≠X.env.locals∧p.1 ∉ X.fs∧∀ v,p.2.data≠.cell v):Inv X pins' σ H s :=
 ⟨I.ok,I.os,I.bare,I.base,I.loc,I.cell,I.free,I.freeC,fun p hp=>(List.mem_append.mp hp).elim (fun z=>I.pin p (List.mem_append_left _ z)) (h p),I.hok,I.len⟩
theorem nodup_ix {N:List Str} (hN:N.Nodup) {i j:Nat} {x:Str} (a:N[i]?=some x) (b:N[j]?=some x):i=j:=by
 obtain ⟨h1,e1⟩:=List.getElem?_eq_some_iff.mp a
 obtain ⟨h2,e2⟩:=List.getElem?_eq_some_iff.mp b
 exact (List.getElem_inj hN).mp (e1.trans e2.symm)
theorem store_ok2 {M:Model} {A:Around} {E:Value→Shared→Prop} {i:Nat} {x:Str} {v:V} {u:Value} {Q:Unit→Shared→Prop} (I:Inv X pins σ H s) (hN:X.N.Nodup) (hi:X.N[i]?=some x) (hx:Loc X.env.scope x) (r:RelV v u)
  (h:∀ s',Inv X pins (σ.set i (some v)) H s'→(∃ a,Heap.SameBut a s.heap s'.heap∧(a=X.env.locals∨X.env.cells.lookup x=some a))→Q () s') (hf:X.fn x=true∨X.env.scope.names.lookup x=some .local:=by first | exact .inl rfl | exact .inr rfl | assumption):wpAny M A (storeName X.env x u) Q E s:=by
 obtain ⟨m,hn,hl⟩:=id I.loc
 have hcls:(X.env.scope.kind == .class || (X.env.scope.kind == .module && X.env.locals != X.env.globals))=false:=by rw [I.ok.kind];rfl
 have hiσ:i < σ.length:=by rw [I.len];exact (List.getElem?_eq_some_iff.mp hi).1
 have cne:=I.cne
 have tracked:∀ {a:Addr} {h':Heap},(∃ o,s.heap.get? a=some o∧H a=none)→Heap.SameBut a s.heap h'→HOk X.prog X.w H h':=fun {a h'} ha hs b ob e=>by
  obtain ⟨_,_,hfree⟩:=ha
  refine (I.hok b ob e).stay (fun c w' hc q=>(hs.2 c ?_).trans q) (fun _ q=>q) fun _ _ q=>q
  rintro rfl
  rcases hc with rfl | hc
  ·rw [hfree] at e;cases e
  ·rw [hfree] at hc;cases hc
 rcases hx with hk | hk
 ·refine wpAny_storeName_local hk hn (fun h' hn' hs=>?_) hcls
  obtain ⟨oL,_,_,hoL,_⟩:=id hn
  refine h _ ⟨I.ok,I.os,I.bare,⟨fun b o e n hb hx=>?_,fun b o e n hb hx=>?_,I.base.free,fun b o e hx=>?_,I.base.tups,I.base.frzs,I.base.tbls⟩,⟨_,hn',fun j y v' e1 e2 e3=>?_⟩,fun y c e=>?_,I.free,I.freeC,fun p hp=>?_,tracked ⟨oL,hoL,I.free⟩ hs,by simpa using I.len⟩ ⟨_,hs,.inl rfl⟩
  ·exact (hs.2 b (Nat.ne_of_lt (Nat.lt_of_lt_of_le (Heap.lt_size e) I.ok.above))).trans (I.base.keep b o e n hb hx)
  ·obtain ⟨sl,e1⟩:=I.base.slot b o e n hb hx
   exact ⟨sl,(hs.2 b (Nat.ne_of_lt (Nat.lt_of_lt_of_le (Heap.lt_size e) I.ok.above))).trans e1⟩
  ·obtain ⟨o',e1⟩:=I.base.there b o e hx
   exact ⟨o',(hs.2 b (Nat.ne_of_lt (Nat.lt_of_lt_of_le (Heap.lt_size e) I.ok.above))).trans e1⟩
  ·by_cases hj:j=i
   ·subst hj
    rw [hi] at e1;cases e1
    rw [List.getElem?_set_self hiσ] at e2
    cases e2
    exact ⟨u,r,.inl ⟨hk,by simp⟩⟩
   ·rw [List.getElem?_set_ne (Ne.symm hj)] at e2
    obtain ⟨u',r',q⟩:=hl j y v' e1 e2 e3
    refine ⟨u',r',?_⟩
    rcases q with ⟨k,e⟩ | ⟨k,c,e,z⟩
    ·refine .inl ⟨k,?_⟩
     have:y≠x:=fun e=>hj (nodup_ix hN e1 (e ▸ hi))
     simp [this,e]
    ·exact .inr ⟨k,c,e,z.sameBut hs (cne y c e)⟩
  ·obtain ⟨w',z⟩:=I.cell y c e
   exact ⟨w',z.sameBut hs (cne y c e)⟩
  ·obtain ⟨e,n,ne,nf,d⟩:=I.pin p hp
   exact ⟨(hs.2 p.1 ne).trans e,n,ne,nf,d⟩
 ·have hfn:X.fn x=true:=by
   rcases hf with z | z
   ·exact z
   ·rw [z] at hk;cases hk
  obtain ⟨c,hc⟩:=I.ok.has x (.inl hk)
  obtain ⟨w',z⟩:=I.cell x c hc
  refine wpAny_storeName_cell I.ok.kind hk hc z (fun h' hc' hs=>?_)
  obtain ⟨oc,hoc,hocd⟩:=id z
  refine h { s with heap:=h' } ⟨I.ok,I.os,I.bare,⟨fun b o e n hb hx=>?_,fun b o e n hb hx=>?_,I.base.free,fun b o e hx=>?_,I.base.tups,I.base.frzs,I.base.tbls⟩,⟨m,hn.sameBut hs (Ne.symm (cne x c hc)),fun j y v' e1 e2 e3=>?_⟩,fun y c' e=>?_,I.free,I.freeC,fun p hp=>?_,tracked ⟨oc,hoc,I.freeC x c hc⟩ hs,by simpa using I.len⟩ ⟨c,hs,.inr hc⟩
  ·exact (hs.2 b (Nat.ne_of_lt (Nat.lt_of_lt_of_le (Heap.lt_size e) (I.ok.cab x c hfn hc)))).trans (I.base.keep b o e n hb hx)
  ·obtain ⟨sl,e1⟩:=I.base.slot b o e n hb hx
   exact ⟨sl,(hs.2 b (Nat.ne_of_lt (Nat.lt_of_lt_of_le (Heap.lt_size e) (I.ok.cab x c hfn hc)))).trans e1⟩
  ·obtain ⟨o',e1⟩:=I.base.there b o e hx
   exact ⟨o',(hs.2 b (Nat.ne_of_lt (Nat.lt_of_lt_of_le (Heap.lt_size e) (I.ok.cab x c hfn hc)))).trans e1⟩
  ·by_cases hj:j=i
   ·subst hj
    rw [hi] at e1;cases e1
    rw [List.getElem?_set_self hiσ] at e2
    cases e2
    exact ⟨u,r,.inr ⟨.inl hk,c,hc,hc'⟩⟩
   ·rw [List.getElem?_set_ne (Ne.symm hj)] at e2
    obtain ⟨u',r',q⟩:=hl j y v' e1 e2 e3
    refine ⟨u',r',?_⟩
    rcases q with q | ⟨k,c',e,z'⟩
    ·exact .inl q
    ·refine .inr ⟨k,c',e,z'.sameBut hs ?_⟩
     rintro rfl
     exact hj (nodup_ix hN e1 (I.ok.inj _ _ _ e hc ▸ hi))
  ·by_cases hcc:c'=c
   ·subst hcc;exact ⟨_,hc'⟩
   ·obtain ⟨w2,z2⟩:=I.cell y c' e
    exact ⟨w2,z2.sameBut hs hcc⟩
  ·obtain ⟨e,n,ne,nf,d⟩:=I.pin p hp
   refine ⟨(hs.2 p.1 ?_).trans e,n,ne,nf,d⟩
   intro q
   rw [q,hoc] at e
   have q':oc=p.2:=Option.some.inj e
   exact d w' (by rw [← q'];exact hocd)
theorem store_ok {M:Model} {A:Around} {E:Value→Shared→Prop} {i:Nat} {x:Str} {v:V} {u:Value} {Q:Unit→Shared→Prop} (I:Inv X pins σ H s) (hN:X.N.Nodup) (hi:X.N[i]?=some x) (hx:Loc X.env.scope x) (r:RelV v u)
  (h:∀ s',Inv X pins (σ.set i (some v)) H s'→Q () s') (hf:X.fn x=true∨X.env.scope.names.lookup x=some .local:=by first | exact .inl rfl | exact .inr rfl | assumption):wpAny M A (storeName X.env x u) Q E s :=
 store_ok2 I hN hi hx r (fun s' I' _=>h s' I') hf
theorem Inv.call' {s':Shared} {ch:List Addr} (I:Inv X pins σ H s) (ho:s'.os=s.os) (u:Un (frs X.stack) ch H H' s.heap s'.heap) (hok:HOk X.prog X.w H' s'.heap) (hg:AllBare s'.gens)
  (hch:∀ b∈ch,(b∈X.ex∨X.s_0.heap.objs.size≤b)∧b≠X.env.locals∧(∀ x c,X.env.cells.lookup x=some c→c≠b)∧∀ p∈X.pn++pins,p.1≠b):Inv X pins σ H' s':=by
 obtain ⟨h',g',d',t',o'⟩:=s'
 have e:o'=s.os:=ho
 subst e
 exact I.call (g':=g') (t':=t') (d':=d') u hok hg hch
end
abbrev XK:=Value→Option Addr→Hp→Prop
abbrev St:=List (Option V)
abbrev VK:=V→Hp→Prop
abbrev TE:=St→Hp→VK→Prop
abbrev TT:=St→Hp→(Bool→Hp→Prop)→Prop
abbrev TA:=St→Hp→(List V→Hp→Prop)→Prop
structure Ends where
 nx:St→Hp→Prop
 rt:VK
 bk:St→Hp→Prop:=fun _ _=>False
 ct:St→Hp→Prop:=fun _ _=>False
abbrev TS:=Ends→St→Hp→Prop
def EP (X:Cx) (pins:List (Addr × Obj)) (σ:St) (Q:VK) (u:Value) (s':Shared):Prop:=∃ v H',Inv X pins σ H' s'∧RelV v u∧Q v H'
def TP (X:Cx) (pins:List (Addr × Obj)) (σ:St) (Q:Bool→Hp→Prop) (b:Bool) (s':Shared):Prop:=∃ H',Inv X pins σ H' s'∧Q b H'
def AP (X:Cx) (pins:List (Addr × Obj)) (σ:St) (Q:List V→Hp→Prop) (us:List Value) (s':Shared):Prop:=∃ vs H',Inv X pins σ H' s'∧Vals vs us∧Q vs H'
def SP (X:Cx) (pins:List (Addr × Obj)) (D:Ends) (f:Flow) (s':Shared):Prop :=
 match f with
 | .next=>∃ σ' H',Inv X pins σ' H' s'∧D.nx σ' H'
 | .brk=>∃ σ' H',Inv X pins σ' H' s'∧D.bk σ' H'
 | .cont=>∃ σ' H',Inv X pins σ' H' s'∧D.ct σ' H'
 | .ret u=>∃ v σ' H',Inv X pins σ' H' s'∧RelV v u∧D.rt v H'
def PE (X:Cx) (e:Expr) (t:TE):Prop :=
 ∀ (pins:List (Addr × Obj)) (s:Shared) (σ:St) (H:Hp) (Q:VK),Inv X pins σ H s→t σ H Q→wpAny (model X.prog X.w) X.A (eval e X.env) (EP X pins σ Q) X.xe s
def PT (X:Cx) (e:Expr) (t:TT):Prop :=
 ∀ (pins:List (Addr × Obj)) (s:Shared) (σ:St) (H:Hp) (Q:Bool→Hp→Prop),Inv X pins σ H s→t σ H Q→wpAny (model X.prog X.w) X.A (isTrue e X.env (eval e X.env)) (TP X pins σ Q) X.xe s
def PW (X:Cx) (e:Expr) (t:TT):Prop :=
 ∀ (whole:Sem Value) (pins:List (Addr × Obj)) (s:Shared) (σ:St) (H:Hp) (Q:Bool→Hp→Prop),Inv X pins σ H s→t σ H Q→wpAny (model X.prog X.w) X.A (isTrue e X.env whole) (TP X pins σ Q) X.xe s
theorem PW.pt {X:Cx} {e:Expr} {t:TT} (h:PW X e t):PT X e t:=h _
def PA (X:Cx) (es:List Expr) (t:TA):Prop :=
 ∀ (pos:Pos) (pins:List (Addr × Obj)) (s:Shared) (σ:St) (H:Hp) (Q:List V→Hp→Prop),Inv X pins σ H s→t σ H Q→wpAny (model X.prog X.w) X.A (spliced (backTo pos (starEach es X.env))) (AP X pins σ Q) X.xe s
def PS (X:Cx) (st:Stmt) (t:TS):Prop :=
 ∀ (pins:List (Addr × Obj)) (s:Shared) (σ:St) (H:Hp) (D:Ends),Inv X pins σ H s→t D σ H→wpAny (model X.prog X.w) X.A (exec st X.env) (SP X pins D) X.xe s
def PSs (X:Cx) (st:List Stmt) (t:TS):Prop :=
 ∀ (pins:List (Addr × Obj)) (s:Shared) (σ:St) (H:Hp) (D:Ends),Inv X pins σ H s→t D σ H→wpAny (model X.prog X.w) X.A (execs st X.env) (SP X pins D) X.xe s
theorem thn {α:Type} {t:Sem α} {Q Q':α→Shared→Prop} {M:Model} {A:Around} {E:Value→Shared→Prop} {s:Shared} (h:wpAny M A t Q E s) (hQ:∀ a s,Q a s→Q' a s):wpAny M A t Q' E s:=wpAny_mono h hQ fun _ _ x=>x
end L2
namespace L2
open PySem PySem.Spec PyProof.Rows
section
variable {X:Cx}
theorem bin {a b:Expr} {ta tb:TE} (ha:PE X a ta) (hb:PE X b tb) {pins:List (Addr × Obj)} {s:Shared} {σ:St} {H:Hp} {R:V→V→Hp→Prop} (I:Inv X pins σ H s) (h:ta σ H fun x H1=>tb σ H1 fun y H2=>R x y H2)
  {α:Type} {Q:α→Shared→Prop} {f:Value→Value→Sem α}
  (hf:∀ v u s2 x y H2,Inv X pins σ H2 s2→RelV x v→RelV y u→R x y H2→wpAny (model X.prog X.w) X.A (f v u) Q X.xe s2) :
  wpAny (model X.prog X.w) X.A (eval a X.env) (fun v s₁=>wpAny (model X.prog X.w) X.A (eval b X.env) (fun u s₂=>wpAny (model X.prog X.w) X.A (f v u) Q X.xe s₂) X.xe s₁) X.xe s:=by
 refine thn (ha pins s σ H _ I h) fun v s1 ⟨x,H1,I1,r1,q1⟩=>?_
 refine thn (hb pins s1 σ H1 _ I1 q1) fun u s2 ⟨y,H2,I2,r2,q2⟩=>?_
 exact hf v u s2 x y H2 I2 r1 r2 q2
def tVar (i:Nat):TE:=fun σ H Q=>∃ v,σ[i]?=some (some v)∧Q v H
def tC (v:V):TE:=fun _ H Q=>Q v H
theorem pe_var {i:Nat} {x:Str} {pos:Pos} (hN:X.N[i]?=some x) (hv:Vis X.env.scope x) (hd:(x == ("__debug__":Str))=false:=by decide) (hcd:(x == ("__classdict__":Str))=false:=by decide):PE X (.Name x pos) (tVar i):=by
 intro pins s σ H Q I h
 obtain ⟨v,e,h⟩:=h
 obtain ⟨m,hn,hl⟩:=I.loc
 obtain ⟨u,r,l⟩:=hl i x v hN e hv
 have fin:EP X pins σ Q u s:=⟨v,H,I,r,h⟩
 rcases l with ⟨hk,hm⟩ | ⟨hk,c,hc,hcell⟩
 ·exact wpAny_Name (wpAny_loadName_local I.ok.kind hk hn hm fin) hd
 ·rcases hk with hk | hk
  ·exact wpAny_Name (wpAny_loadName_cell I.ok.kind hk hc hcell fin) hd
  ·exact wpAny_Name (wpAny_loadName_free I.ok.kind hk hc hcell fin hcd) hd
theorem pI {i j pos}:PE X (.Constant (.int i) j pos) (tC (.int i)):=fun _ _ _ H _ I h=>wpAny_Constant_int ⟨.int i,H,I.tok _,⟨_,rfl⟩,h⟩
theorem pe_bl {b j pos}:PE X (.Constant (.bool b) j pos) (tC (.bl b)):=fun _ _ _ H _ I h=>Constant_bool ⟨.bl b,H,I,rfl,h⟩
theorem pe_non {j pos}:PE X (.Constant .none j pos) (tC .non):=fun _ _ _ H _ I h=>Constant_none ⟨.non,H,I,rfl,h⟩
theorem pe_str {x j pos}:PE X (.Constant (.str x) j pos) (tC (.str x)):=fun _ _ _ H _ I h=>Calls.Constant_str ⟨.str x,H,I.tok _,⟨_,rfl⟩,h⟩
def Gl (X:Cx) (x:Str):Prop:=X.env.kindOf x=some .globalImplicit
theorem ld_glob {E:Value→Shared→Prop} {pins:List (Addr × Obj)} {s:Shared} {σ:St} {H:Hp} {x:Str} {u:Value} {pos:Pos} {Q:Value→Shared→Prop} (I:Inv X pins σ H s) (hg:Gl X x) (hm:X.mg x=some u) (h:Q u s)
  (hd:(x == ("__debug__":Str))=false:=by decide):wpAny (model X.prog X.w) X.A (eval (.Name x pos) X.env) Q E s :=
 Calls.Name_function_global I.ok.kind hg (Calls.loadGlobal_global (by rw [I.ok.glob];exact I.mod.glob.keeps I.bk) hm h) hd
theorem ld_blt {E:Value→Shared→Prop} {pins:List (Addr × Obj)} {s:Shared} {σ:St} {H:Hp} {x:Str} {u:Value} {pos:Pos} {Q:Value→Shared→Prop} (I:Inv X pins σ H s) (hg:Gl X x) (hm:X.mg x=none) (hv:bootBuiltins x=some u) (h:Q u s)
  (hn:x≠"__name__":=by decide) (hd:(x == ("__debug__":Str))=false:=by decide):wpAny (model X.prog X.w) X.A (eval (.Name x pos) X.env) Q E s:=by
 obtain ⟨mb,h1,h2⟩:=I.mod.blt
 exact Calls.Name_function_global I.ok.kind hg (Calls.loadGlobal_builtin (by rw [I.ok.glob];exact I.mod.glob.keeps I.bk) hm (by rw [I.ok.blt];exact h1.keeps I.bk) ((h2 x hn).trans hv) h) hd
theorem pe_glob {x:Str} {v:V} {u:Value} {pos:Pos} (hg:Gl X x) (hm:X.mg x=some u) (r:RelV v u) (hd:(x == ("__debug__":Str))=false:=by decide):PE X (.Name x pos) (tC v) :=
 fun _ _ _ H _ I h=>ld_glob I hg hm ⟨v,H,I,r,h⟩ hd
variable {a b:Expr} {ta tb:TE} {pos:Pos}
def PC (X:Cx) (op:CmpOp) (a b:Expr) (t:TE):Prop :=
 ∀ (pins:List (Addr × Obj)) (s:Shared) (σ:St) (H:Hp) (Q:VK),Inv X pins σ H s→t σ H Q →
  wpAny (model X.prog X.w) X.A (eval a X.env) (fun v s₁=>wpAny (model X.prog X.w) X.A (eval b X.env) (fun u s₂=>wpAny (model X.prog X.w) X.A (compareOp op v u) (EP X pins σ Q) X.xe s₂) X.xe s₁) X.xe s
def tB (t:TE):TT:=fun σ H Q=>t σ H fun x H1=>∃ c,x=.bl c∧Q c H1
theorem pt_cmp {op:CmpOp} {t:TE} (h:PC X op a b t) (h1:behindInMarks op b=false:=by first | exact nobehind _ (by decide) (by decide) | rfl):PT X (.Compare a [op] [b] pos) (tB t):=by
 intro pins s σ H Q I hw
 refine wpAny_isTrue_Compare1 (thn (h pins s σ H _ I hw) fun v s1 h1=>thn h1 fun u s2 h2=>thn h2 fun c s3 ⟨x,H1,I1,r1,q1⟩=>?_) h1
 obtain ⟨d,rfl,q⟩:=q1
 cases r1
 exact wpAny_truthy_bool ⟨H1,I1,q⟩
theorem pt_val {e:Expr} {t:TE} (h:PE X e t) (he:∀ whole,isTrue e X.env whole=(do let v ← whole;standAt e.pos;holding [v] (truthy v)):=by intro _;rfl):PT X e (tB t):=by
 intro pins s σ H Q I hw
 refine isTrue_plain (thn (h pins s σ H _ I hw) fun v s1 ⟨x,H1,I1,r1,q1⟩=>?_) (he _)
 obtain ⟨d,rfl,q⟩:=q1
 cases r1
 exact wpAny_truthy_bool ⟨H1,I1,q⟩
variable {tA tB':TT} {rest:List Expr}
def tAnd (t u:TT):TT:=fun σ H Q=>t σ H fun c H1=>if c=true then u σ H1 Q else Q false H1
def tOr (t u:TT):TT:=fun σ H Q=>t σ H fun c H1=>if c=true then Q true H1 else u σ H1 Q
def tNot (t:TT):TT:=fun σ H Q=>t σ H fun c H1=>Q (!c) H1
theorem pw_and1 (ha:PT X a tA):PW X (.BoolOp .And [a] pos) tA:=by
 intro wh pins s σ H Q I h
 refine isTrue_and (thn (ha pins s σ H Q I h) fun c s1 e=>?_)
 cases c with
 | true=>exact isTrue_and_nil e
 | false=>exact e
theorem pw_or1 (ha:PT X a tA):PW X (.BoolOp .Or [a] pos) tA:=by
 intro wh pins s σ H Q I h
 refine isTrue_or (thn (ha pins s σ H Q I h) fun c s1 e=>?_)
 cases c with
 | false=>exact isTrue_or_nil e
 | true=>exact e
theorem pw_and (ha:PT X a tA) (hb:PW X (.BoolOp .And (b::rest) pos) tB'):PW X (.BoolOp .And (a::b::rest) pos) (tAnd tA tB'):=by
 intro wh pins s σ H Q I h
 refine isTrue_and (thn (ha pins s σ H _ I h) fun c s1 ⟨H1,I1,q1⟩=>?_)
 cases c with
 | true=>exact hb wh pins s1 σ H1 Q I1 q1
 | false=>exact ⟨H1,I1,q1⟩
theorem pw_or (ha:PT X a tA) (hb:PW X (.BoolOp .Or (b::rest) pos) tB'):PW X (.BoolOp .Or (a::b::rest) pos) (tOr tA tB'):=by
 intro wh pins s σ H Q I h
 refine isTrue_or (thn (ha pins s σ H _ I h) fun c s1 ⟨H1,I1,q1⟩=>?_)
 cases c with
 | true=>exact ⟨H1,I1,q1⟩
 | false=>exact hb wh pins s1 σ H1 Q I1 q1
theorem pt_not (ha:PT X a tA):PT X (.UnaryOp .Not a pos) (tNot tA):=by
 intro pins s σ H Q I h
 exact isTrue_not (ha pins s σ H (fun c H1=>Q (!c) H1) I h)
def tAndV (ta tb:TE):TE:=fun σ H Q=>ta σ H fun x H1=>∃ c,x=.bl c∧if c=true then tb σ H1 Q else Q (.bl false) H1
def tOrV (ta tb:TE):TE:=fun σ H Q=>ta σ H fun x H1=>∃ c,x=.bl c∧if c=true then Q (.bl true) H1 else tb σ H1 Q
def tNotV (ta:TE):TE:=fun σ H Q=>ta σ H fun x H1=>∃ c,x=.bl c∧Q (.bl (!c)) H1
theorem pe_one {op} {t:TE} (h:PE X a t):PE X (.BoolOp op [a] pos) t:=fun pins s σ H Q I hw=>BoolOp_one (h pins s σ H Q I hw)
theorem pe_and (ha:PE X a ta) (hb:PE X (.BoolOp .And (b::rest) pos) tb):PE X (.BoolOp .And (a::b::rest) pos) (tAndV ta tb):=by
 intro pins s σ H Q I h
 refine BoolOp_and (thn (ha pins s σ H _ I h) fun v s1 ⟨x,H1,I1,r1,q1⟩=>?_)
 obtain ⟨c,rfl,q1⟩:=q1
 cases r1
 refine wpAny_truthy_bool ?_
 cases c with
 | true=>exact hb pins s1 σ H1 Q I1 q1
 | false=>exact ⟨.bl false,H1,I1,rfl,q1⟩
theorem pe_or (ha:PE X a ta) (hb:PE X (.BoolOp .Or (b::rest) pos) tb):PE X (.BoolOp .Or (a::b::rest) pos) (tOrV ta tb):=by
 intro pins s σ H Q I h
 refine BoolOp_or (thn (ha pins s σ H _ I h) fun v s1 ⟨x,H1,I1,r1,q1⟩=>?_)
 obtain ⟨c,rfl,q1⟩:=q1
 cases r1
 refine wpAny_truthy_bool ?_
 cases c with
 | false=>exact hb pins s1 σ H1 Q I1 q1
 | true=>exact ⟨.bl true,H1,I1,rfl,q1⟩
theorem pe_not (ha:PE X a ta):PE X (.UnaryOp .Not a pos) (tNotV ta):=by
 intro pins s σ H Q I h
 refine UnaryOp_ (thn (ha pins s σ H _ I h) fun v s1 ⟨x,H1,I1,r1,q1⟩=>?_)
 obtain ⟨c,rfl,q1⟩:=q1
 cases r1
 exact not_of (wpAny_truthy_bool ⟨.bl (!c),H1,I1,rfl,q1⟩)
def tIf (t:TT) (ta tb:TE):TE:=fun σ H Q=>t σ H fun c H1=>if c=true then ta σ H1 Q else tb σ H1 Q
theorem pe_ifExp {c:Expr} (hc:PT X c tA) (ha:PE X a ta) (hb:PE X b tb):PE X (.IfExp c a b pos) (tIf tA ta tb):=by
 intro pins s σ H Q I h
 refine wpAny_IfExp (thn (hc pins s σ H _ I h) fun d s1 ⟨H1,I1,q1⟩=>?_)
 cases d with
 | true=>exact ha pins s1 σ H1 Q I1 q1
 | false=>exact hb pins s1 σ H1 Q I1 q1
end
end L2
namespace L2
open PySem PySem.Spec PyProof.Rows
def SqL (K:PySem.W.Frag) (H:Hp) (a:Addr) (xs:List V):Prop :=
 Rd H a (.lst xs) ∨
  ∃ (o:Obj) (its:Array Value) (n:Nat),K.lookup a=some o∧o.cls=.type "list"∧o.dict=none∧o.data=.seq its n∧its.size≤sizeLine∧Vals xs its.toList
def SqT (K:PySem.W.Frag) (H:Hp) (a:Addr) (xs:List V):Prop :=
 Rd H a (.tup xs) ∨
  ∃ (o:Obj) (its:Array Value) (n:Nat),K.lookup a=some o∧o.cls=.type "tuple"∧o.data=.seq its n∧its.size≤sizeLine∧Vals xs its.toList
def absV:Value→Option V
 | .none=>some .non
 | .bool b=>some (.bl b)
 | .int i _=>some (.int i)
 | .str x _=>some (.str x)
 | .bytes b _=>some (.byt b)
 | .float b _=>some (.flt b)
 | .ref a=>some (.ref a)
 | .type n=>some (.ty n)
 | _=>none
theorem RelV.abs {x:V} {u:Value} (r:RelV x u):absV u=some x:=by
 cases x with
 | non=>cases r;rfl
 | bl _=>cases r;rfl
 | int _=>obtain ⟨t,rfl⟩:=r;rfl
 | str _=>obtain ⟨t,rfl⟩:=r;rfl
 | byt _=>obtain ⟨t,rfl⟩:=r;rfl
 | flt _=>obtain ⟨t,rfl⟩:=r;rfl
 | ref _=>cases r;rfl
 | ty _=>cases r;rfl
theorem RelV.inj {x y:V} {u:Value} (r:RelV x u) (q:RelV y u):x=y:=Option.some.inj (r.abs.symm.trans q.abs)
theorem Vals.inj:∀ {xs ys:List V} {us:List Value},Vals xs us→Vals ys us→xs=ys
 | _,_,_,.nil,.nil=>rfl
 | _,_,_,.cons r t,.cons r' t'=>by rw [r.inj r',Vals.inj t t']
section
variable {X:Cx} {pins:List (Addr × Obj)} {σ:St} {H:Hp} {s:Shared} {a:Addr} {xs ys:List V}
theorem SqL.of {K:PySem.W.Frag} (h:H a=some (.lst xs)):SqL K H a xs:=.inl (.inl h)
theorem SqT.of {K:PySem.W.Frag} (h:H a=some (.tup xs)):SqT K H a xs:=.inl (.inl h)
theorem Inv.list (I:Inv X pins σ H s) (h:SqL X.K H a xs):∃ its:List Value,Vals xs its∧PlainL s.heap a its.toArray∧xs.length≤sizeLine:=by
 rcases h with h | ⟨o,its,n,hk,hc,hd,hs,hz,r⟩
 ·obtain ⟨z,its,n,r,e⟩:=h.ok I.hok
  exact ⟨its,r,⟨_,n,e,rfl,rfl,rfl⟩,z⟩
 ·refine ⟨its.toList,r,⟨o,n,I.kIn a o hk,hc,hd,by simpa using hs⟩,?_⟩
  have e:=r.length
  simp only [Array.length_toList] at e
  omega
theorem Inv.tuple (I:Inv X pins σ H s) (h:SqT X.K H a xs):∃ its:List Value,Vals xs its∧IsTup s.heap a its.toArray∧xs.length≤sizeLine:=by
 rcases h with h | ⟨o,its,n,hk,hc,hs,hz,r⟩
 ·obtain ⟨z,its,r,p⟩:=h.ok I.hok
  exact ⟨its,r,p,z⟩
 ·refine ⟨its.toList,r,⟨o,I.kIn a o hk,hc,n,by simpa using hs⟩,?_⟩
  have e:=r.length
  simp only [Array.length_toList] at e
  omega
theorem Inv.list_inj (I:Inv X pins σ H s) (h:SqL X.K H a xs) (h':SqL X.K H a ys):xs=ys:=by
 obtain ⟨its,r,⟨o,n,e,_,_,d⟩,_⟩:=I.list h
 obtain ⟨its',r',⟨o',n',e',_,_,d'⟩,_⟩:=I.list h'
 rw [e] at e';cases e'
 rw [d] at d'
 injection d' with d1 _
 have:its=its':=by simpa using congrArg Array.toList d1
 subst this
 exact r.inj r'
end
abbrev Cx.wish (X:Cx) (E:Value→Shared→Prop):Cx:={ X with xe:=E }
abbrev Cx.nox (X:Cx):Cx:=X.wish fun _ _=>False
theorem Cx.Ok.wish {X:Cx} (ok:X.Ok) (E:Value→Shared→Prop):(X.wish E).Ok :=
 ⟨ok.mod,ok.kind,ok.glob,ok.blt,ok.above,ok.inj,ok.has,ok.cab,ok.hd,ok.frames,ok.stk,ok.exf,ok.bs,ok.bsz,ok.noex,ok.exfs,ok.funs,ok.frf⟩
theorem Cx.Ok.unwish {X:Cx} {E:Value→Shared→Prop} (ok:(X.wish E).Ok):X.Ok :=
 ⟨ok.mod,ok.kind,ok.glob,ok.blt,ok.above,ok.inj,ok.has,ok.cab,ok.hd,ok.frames,ok.stk,ok.exf,ok.bs,ok.bsz,ok.noex,ok.exfs,ok.funs,ok.frf⟩
section
variable {X:Cx} {pins:List (Addr × Obj)} {σ:St} {H:Hp} {s:Shared} {E:Value→Shared→Prop}
theorem Inv.wish (I:Inv X pins σ H s) (E:Value→Shared→Prop):Inv (X.wish E) pins σ H s:=⟨I.ok.wish E,I.os,I.bare,I.base,I.loc,I.cell,I.free,I.freeC,I.pin,I.hok,I.len⟩
theorem Inv.unwish (I:Inv (X.wish E) pins σ H s):Inv X pins σ H s:=⟨I.ok.unwish,I.os,I.bare,I.base,I.loc,I.cell,I.free,I.freeC,I.pin,I.hok,I.len⟩
theorem SP.unwish {D:Ends} {f:Flow} {s':Shared} (h:SP (X.wish E) pins D f s'):SP X pins D f s':=by
 cases f with
 | next=>obtain ⟨σ',H',I,q⟩:=h;exact ⟨σ',H',I.unwish,q⟩
 | brk=>obtain ⟨σ',H',I,q⟩:=h;exact ⟨σ',H',I.unwish,q⟩
 | cont=>obtain ⟨σ',H',I,q⟩:=h;exact ⟨σ',H',I.unwish,q⟩
 | ret u=>obtain ⟨v,σ',H',I,r,q⟩:=h;exact ⟨v,σ',H',I.unwish,r,q⟩
theorem PSs.nox {st:List Stmt} {t:TS} (h:PSs X.nox st t):PSs X st t:=fun pins s σ H D I hw =>
 wpAny_mono (h pins s σ H D (I.wish _) hw) (fun _ _ q=>q.unwish) fun _ _ z=>False.elim z
end
section
variable {X:Cx} {st:Stmt} {rest:List Stmt} {t u:TS} {e:Expr} {te:TE} {pos:Pos}
def tNext:TS:=fun D σ H=>D.nx σ H
def tSeq (t u:TS):TS:=fun D σ H=>t { D with nx:=u D } σ H
theorem pss_nil:PSs X [] tNext:=fun _ _ σ H _ I h=>wpAny_execs_nil ⟨σ,H,I,h⟩
theorem pZ (h1:PS X st t) (h2:PSs X rest u):PSs X (st::rest) (tSeq t u):=by
 intro pins s σ H D I h
 refine wpAny_execs_cons (thn (h1 pins s σ H { D with nx:=u D } I h) fun f s1 q=>?_)
 cases f with
 | next =>
  obtain ⟨σ',H',I',q⟩:=q
  exact h2 pins s1 σ' H' D I' q
 | ret v=>exact q
 | brk=>exact q
 | cont=>exact q
theorem pO (h1:PS X st t):PSs X [st] t:=by
 intro pins s σ H D I h
 refine wpAny_execs_cons (thn (h1 pins s σ H D I h) fun f s1 q=>?_)
 cases f with
 | next=>exact wpAny_execs_nil q
 | ret v=>exact q
 | brk=>exact q
 | cont=>exact q
def tBreak:TS:=fun D σ H=>D.bk σ H
theorem ps_break:PS X (.Break pos) tBreak:=fun _ _ σ H _ I h=>wpAny_Break ⟨σ,H,I,h⟩
theorem Inv.quiet {pins:List (Addr × Obj)} {σ:St} {H:Hp} {s:Shared} (I:Inv X pins σ H s):interactive X.env=false:=by simp [interactive,I.ok.kind]
def tDrop (te:TE):TS:=fun D σ H=>te σ H fun _ H1=>D.nx σ H1
theorem ps_expr (he:PE X e te) (hs:swapsWith e none pos.line X.env=pure false:=by rfl):PS X (.Expr e pos) (tDrop te):=by
 intro pins s σ H D I h
 exact wpAny_Expr_any (thn (he pins s σ H _ I h) fun v s1 ⟨x,H1,I1,r1,q1⟩=>⟨σ,H1,I1,q1⟩) I.quiet hs
def tRet (te:TE):TS:=fun D σ H=>te σ H D.rt
theorem ps_ret (he:PE X e te):PS X (.Return (some e) pos) (tRet te):=by
 intro pins s σ H D I h
 exact wpAny_Return_some (thn (he pins s σ H _ I h) fun v s1 ⟨x,H1,I1,r1,q1⟩=>⟨x,σ,H1,I1,r1,q1⟩)
def tRetN:TS:=fun D _ H=>D.rt .non H
def tIfS (c:TT) (t u:TS):TS:=fun D σ H=>c σ H fun b H1=>if b=true then t D σ H1 else u D σ H1
theorem ps_if {c:Expr} {a b:List Stmt} {tc:TT} (hc:PT X c tc) (ha:PSs X a t) (hb:PSs X b u):PS X (.If c a b pos) (tIfS tc t u):=by
 intro pins s σ H D I h
 refine wpAny_If (thn (hc pins s σ H _ I h) fun d s1 ⟨H1,I1,q1⟩=>?_)
 cases d with
 | true=>exact ha pins s1 σ H1 D I1 q1
 | false=>exact hb pins s1 σ H1 D I1 q1
end
abbrev TG:=V→St→Hp→(St→Hp→Prop)→Prop
abbrev TGs:=List V→St→Hp→(St→Hp→Prop)→Prop
def PG (X:Cx) (target:Expr) (t:TG):Prop :=
 ∀ (pins:List (Addr × Obj)) (s:Shared) (σ:St) (H:Hp) (v:V) (u:Value) (Q:St→Hp→Prop),Inv X pins σ H s→RelV v u→t v σ H Q →
  wpAny (model X.prog X.w) X.A (assign target X.env u) (fun _ s'=>∃ σ' H',Inv X pins σ' H' s'∧Q σ' H') X.xe s
def PGs (X:Cx) (ts:List Expr) (t:TGs):Prop :=
 ∀ (pins:List (Addr × Obj)) (s:Shared) (σ:St) (H:Hp) (vs:List V) (us:List Value) (Q:St→Hp→Prop),Inv X pins σ H s→Vals vs us→t vs σ H Q →
  wpAny (model X.prog X.w) X.A (assignInOrder ((assignEach ts X.env).map (·.2)) us) (fun _ s'=>∃ σ' H',Inv X pins σ' H' s'∧Q σ' H') X.xe s
abbrev TSet:=V→V→V→Hp→(Hp→Prop)→Prop
def PSet (X:Cx) (t:TSet):Prop :=
 ∀ (pins:List (Addr × Obj)) (s:Shared) (σ:St) (H:Hp) (o i v:V) (ov iv u:Value) (Q:Hp→Prop),Inv X pins σ H s→RelV o ov→RelV i iv→RelV v u→t o i v H Q →
  wpAny (model X.prog X.w) X.A (setItem ov iv u) (fun _ s'=>∃ H',Inv X pins σ H' s'∧Q H') X.xe s
abbrev TIp:=V→V→Hp→VK→Prop
def PIp (X:Cx) (op:Operator) (t:TIp):Prop :=
 ∀ (pins:List (Addr × Obj)) (s:Shared) (σ:St) (H:Hp) (x y:V) (v u:Value) (Q:VK),Inv X pins σ H s→RelV x v→RelV y u→t x y H Q →
  wpAny (model X.prog X.w) X.A (inplaceOp op v u) (EP X pins σ Q) X.xe s
section
variable {X:Cx} {pos:Pos}
def gName (i:Nat):TG:=fun v σ H Q=>Q (σ.set i (some v)) H
theorem pg_name {i:Nat} {x:Str} (hN:X.N.Nodup) (hi:X.N[i]?=some x) (hx:Loc X.env.scope x) (hf:X.fn x=true∨X.env.scope.names.lookup x=some .local:=by first | exact .inl rfl | exact .inr rfl | assumption):PG X (.Name x pos) (gName i):=by
 intro pins s σ H v u Q I r h
 exact wpAny_assign_Name (store_ok I hN hi hx r (fun s' I'=>⟨_,H,I',h⟩) hf)
def gNil:TGs:=fun vs σ H Q=>vs=[]∧Q σ H
def gCons (t:TG) (u:TGs):TGs:=fun vs σ H Q=>∃ v r,vs=v::r∧t v σ H fun σ' H'=>u r σ' H' Q
theorem pgs_nil:PGs X [] gNil:=by
 intro pins s σ H vs us Q I r h
 obtain ⟨e,h⟩:=h
 subst e
 cases r
 exact assignInOrder_nil ⟨σ,H,I,h⟩
theorem pgs_cons {e:Expr} {es:List Expr} {t:TG} {u:TGs} (h1:PG X e t) (h2:PGs X es u)
  (hs:(assignEach (e::es) X.env).map (·.2)=assign e X.env::(assignEach es X.env).map (·.2):=by rfl):PGs X (e::es) (gCons t u):=by
 intro pins s σ H vs us Q I r h
 obtain ⟨v,vr,e1,h⟩:=h
 subst e1
 cases r with
 | cons r rr =>
  rw [hs]
  refine assignInOrder_cons (thn (h1 pins s σ H _ _ _ I r h) fun _ s1 ⟨σ1,H1,I1,q1⟩=>?_)
  exact h2 pins s1 σ1 H1 _ _ Q I1 rr q1
def gTup (K:PySem.W.Frag) (n:Nat) (t:TGs):TG:=fun v σ H Q=>∃ a xs,v=.ref a∧SqT K H a xs∧xs.length=n∧t xs σ H Q
theorem pg_tup {es:List Expr} {k:Nat} {t:TGs} {n:Nat} (hc:X.calm=true) (h:PGs X es t)
  (hn:(assignEach es X.env).length=n:=by rfl) (hst:(assignEach es X.env).findIdx? (·.1)=none:=by rfl):PG X (.Tuple es k pos) (gTup X.K n t):=by
 intro pins s σ H v u Q I r hw
 obtain ⟨a,xs,e1,hq,hl,hw⟩:=hw
 subst e1
 cases r
 obtain ⟨its,rv,ht,hz⟩:=I.tuple hq
 refine assign_Tuple_tuple (I.ok.hd hc) ht (by simp [hn,← hl,rv.length]) hst fun h' hx=>?_
 have I1:Inv X pins σ H { s with heap:=h' }:=I.kept (t':=s.toks) fun b o e=>hx b o (Nat.ne_of_lt (Heap.lt_size e)) e
 exact h pins _ σ H xs _ Q I1 (by simpa using rv) hw
def gSub (to ti:TE) (t:TSet):TG:=fun v σ H Q=>to σ H fun o H1=>ti σ H1 fun i H2=>t o i v H2 fun H3=>Q σ H3
theorem pg_sub {o i:Expr} {to ti:TE} {t:TSet} (ho:PE X o to) (hi:PE X i ti) (hs:PSet X t)
  (ha:∀ v,assign (.Subscript o i pos) X.env v=(do
   let ov ← holding [v] (eval o X.env)
   let iv ← holding [v,ov] (eval i X.env)
   standAt pos
   holding [v,ov,iv] (setItem ov iv v)
   release [v,ov,iv] []):=by intro _;rfl):PG X (.Subscript o i pos) (gSub to ti t):=by
 intro pins s σ H v u Q I r h
 rw [ha]
 refine wpAny_bind (wpAny_holding (thn (ho pins s σ H _ I h) fun ov s1 ⟨x,H1,I1,r1,q1⟩=>?_))
 refine wpAny_bind (wpAny_holding (thn (hi pins s1 σ H1 _ I1 q1) fun iv s2 ⟨y,H2,I2,r2,q2⟩=>?_))
 refine wpAny_bind (wpAny_standAt (wpAny_bind (wpAny_holding (thn (hs pins s2 σ H2 x y v ov iv u _ I2 r1 r2 r q2) fun _ s3 ⟨H3,I3,q3⟩=>?_))))
 exact wpAny_release ⟨σ,H3,I3,q3⟩
def tAsg (te:TE) (g:TG):TS:=fun D σ H=>te σ H fun x H1=>g x σ H1 D.nx
theorem ps_asg {tg e:Expr} {te:TE} {g:TG} (he:PE X e te) (hg:PG X tg g) (hs:swapsWithSole [tg] e pos.line X.env=pure false:=by rfl) (hw:swappedStores [tg] e X.env=pure none:=by rfl)
  (h1:(assignEach [tg] X.env).map (·.2)=[assign tg X.env]:=by rfl):PS X (.Assign [tg] e pos) (tAsg te g):=by
 intro pins s σ H D I h
 refine wpAny_Assign_stores (thn (he pins s σ H _ I h) fun v s1 ⟨x,H1,I1,r1,q1⟩=>?_) hs hw
 rw [h1]
 exact thn (hg pins s1 σ H1 x v _ I1 r1 q1) fun _ s2 q=>q
theorem ps_set {i:Nat} {x:Str} {e:Expr} {te:TE} {pos':Pos} (hN:X.N.Nodup) (hi:X.N[i]?=some x) (hx:Loc X.env.scope x) (he:PE X e te) (hs:swapsWith e (some (.Name x pos')) pos.line X.env=pure false:=by rfl) (hf:X.fn x=true∨X.env.scope.names.lookup x=some .local:=by first | exact .inl rfl | exact .inr rfl | assumption) :
  PS X (.Assign [.Name x pos'] e pos) (tAsg te (gName i)):=by
 intro pins s σ H D I h
 refine wpAny_Assign_Name (thn (he pins s σ H _ I h) fun v s1 ⟨y,H1,I1,r1,q1⟩=>?_) hs
 exact store_ok I1 hN hi hx r1 (fun s2 I2=>⟨_,H1,I2,q1⟩) hf
def tAug (i:Nat) (te:TE) (ti:TIp):TS:=fun D σ H=>∃ x,σ[i]?=some (some x)∧te σ H fun y H1=>ti x y H1 fun z H2=>D.nx (σ.set i (some z)) H2
theorem ps_aug {i:Nat} {x:Str} {e:Expr} {te:TE} {op:Operator} {ti:TIp} {pos':Pos} (hN:X.N.Nodup) (hi:X.N[i]?=some x) (hx:Loc X.env.scope x) (he:PE X e te) (ho:PIp X op ti) (hf:X.fn x=true∨X.env.scope.names.lookup x=some .local:=by first | exact .inl rfl | exact .inr rfl | assumption) :
  PS X (.AugAssign (.Name x pos') op e pos) (tAug i te ti):=by
 intro pins s σ H D I h
 obtain ⟨v,e1,h⟩:=h
 obtain ⟨m,hn,hl⟩:=I.loc
 have vis:Vis X.env.scope x:=by rcases hx with k | k;exact .inl k;exact .inr (.inl k)
 obtain ⟨u,r,l⟩:=hl i x v hi e1 vis
 refine wpAny_AugAssign_Name ?_
 have go:wpAny (model X.prog X.w) X.A (eval e X.env) (fun w s₂=>wpAny (model X.prog X.w) X.A (inplaceOp op u w) (fun r s₃=>wpAny (model X.prog X.w) X.A (storeName X.env x r) (fun _=>SP X pins D .next) X.xe s₃) X.xe s₂) X.xe s:=by
  refine thn (he pins s σ H _ I h) fun w s1 ⟨y,H1,I1,r1,q1⟩=>?_
  refine thn (ho pins s1 σ H1 v y u w _ I1 r r1 q1) fun z s2 ⟨zv,H2,I2,r2,q2⟩=>?_
  exact store_ok I2 hN hi hx r2 (fun s3 I3=>⟨_,H2,I3,q2⟩) hf
 rcases l with ⟨hk,hm⟩ | ⟨hk,c,hc,hcell⟩
 ·exact wpAny_loadName_local I.ok.kind hk hn hm go
 ·rcases hk with hk | hk
  ·exact wpAny_loadName_cell I.ok.kind hk hc hcell go
  ·rcases hx with k | k
   ·have:X.env.scope.names.lookup x=some .free:=hk
    rw [k] at this;cases this
   ·have:X.env.scope.names.lookup x=some .free:=hk
    rw [k] at this;cases this
def ipI (f:Int→Int→Int):TIp:=fun x y H Q=>∃ i j,x=.int i∧y=.int j∧Q (.int (f i j)) H
theorem ip_add:PIp X .Add (ipI fun i j=>i + j):=by
 intro pins s σ H x y v u Q I r1 r2 h
 obtain ⟨i,j,e1,e2,q⟩:=h
 subst e1;subst e2
 obtain ⟨t,rfl⟩:=r1
 obtain ⟨t',rfl⟩:=r2
 exact iadd_int ⟨.int _,H,I.tok _,⟨_,rfl⟩,q⟩
theorem ip_sub:PIp X .Sub (ipI fun i j=>i - j):=by
 intro pins s σ H x y v u Q I r1 r2 h
 obtain ⟨i,j,e1,e2,q⟩:=h
 subst e1;subst e2
 obtain ⟨t,rfl⟩:=r1
 obtain ⟨t',rfl⟩:=r2
 exact isub_int ⟨.int _,H,I.tok _,⟨_,rfl⟩,q⟩
end
section
variable {X:Cx} {pos:Pos}
def tWhile (c:TT) (tb:TS):TS:=fun D σ H=>∃ W:Nat→St→Hp→Prop,(∃ m,W m σ H)∧∀ m σ H,W m σ H →
 c σ H fun b H1=>if b=true then ∃ N:St→Hp→Prop,(∀ σ' H',N σ' H'→∃ m',m' < m∧W m' σ' H')∧tb { D with nx:=N,ct:=N,bk:=D.nx } σ H1 else D.nx σ H1
theorem ps_while {c:Expr} {body:List Stmt} {tc:TT} {tb:TS} (hp:PassesOwn (model X.prog X.w) X.A X.env X.xe) (hc:PT X c tc) (hb:PSs X body tb):PS X (.While c body [] pos) (tWhile tc tb):=by
 intro pins s σ H D I h
 obtain ⟨W,⟨m0,w0⟩,turn⟩:=h
 refine wpAny_While (codeAny_whileLoop (fun n s'=>∃ σ' H',Inv X pins σ' H' s'∧W n σ' H') ?_ m0 ⟨σ,H,I,w0⟩)
 rintro n s1 ⟨σ1,H1,I1,w1⟩
 refine wpAny_passesOwn hp (thn (hc pins s1 σ1 H1 _ I1 (turn n σ1 H1 w1)) fun b s2 ⟨H2,I2,q2⟩=>?_)
 cases b with
 | true =>
  obtain ⟨N,hN,q2⟩:=q2
  rw [if_pos rfl]
  refine wpAny_passesOwn hp (thn (hb pins s2 σ1 H2 _ I2 q2) fun f s3 q3=>?_)
  cases f with
  | next =>
   obtain ⟨σ3,H3,I3,n3⟩:=q3
   obtain ⟨m',hm,w3⟩:=hN σ3 H3 n3
   exact ⟨m',hm,σ3,H3,I3,w3⟩
  | cont =>
   obtain ⟨σ3,H3,I3,n3⟩:=q3
   obtain ⟨m',hm,w3⟩:=hN σ3 H3 n3
   exact ⟨m',hm,σ3,H3,I3,w3⟩
  | brk=>exact q3
  | ret v=>exact q3
 | false =>
  rw [if_neg Bool.false_ne_true]
  exact wpAny_execs_nil ⟨σ1,H2,I2,q2⟩
end
structure It where
 go:Nat→Hp→Prop
 yld:Nat→Hp→V→Hp→Prop
 stop:Nat→Hp→Prop
def FpOk (X:Cx) (pins:List (Addr × Obj)) (H:Hp) (b:Addr):Prop :=
 H b=none∧b≠X.env.locals∧b ∉ X.fs∧(b∈X.ex∨X.s_0.heap.objs.size≤b)∧(∀ x c,X.env.cells.lookup x=some c→c≠b)∧∀ p∈X.pn++pins,p.1≠b
theorem Inv.fpOk {X:Cx} {pins:List (Addr × Obj)} {σ:St} {H H':Hp} {s:Shared} {b:Addr} (I:Inv X pins σ H s) (hb:s.heap.objs.size≤b) (hn:H' b=none):FpOk X pins H' b:=by
 refine ⟨hn,Nat.ne_of_gt (Nat.lt_of_lt_of_le I.lt hb),I.nofs hb,.inr (Nat.le_trans I.sz hb),fun x c e z=>?_,fun p hp z=>?_⟩
 ·obtain ⟨v,q⟩:=I.cell x c e
  exact absurd (Nat.lt_of_lt_of_le q.lt (by rw [z];exact hb)) (Nat.lt_irrefl _)
 ·exact absurd (Nat.lt_of_lt_of_le (Heap.lt_size (I.pin p hp).1) (by rw [z];exact hb)) (Nat.lt_irrefl _)
structure Turn (P : Program) (w : World) (K : PySem.W.Frag) (tg : Expr) (J : It) (fp : List Addr) (it : Addr) (tn : Nat → Heap → Prop) : Prop where
  mem : it ∈ fp
  obj : ∀ i h, tn i h → ∀ b ∈ fp, ∃ o, h.get? b = some o ∧ ∀ v, o.data ≠ .cell v
  keep : ∀ i h h', tn i h → (∀ b ∈ fp, ∀ o, h.get? b = some o → h'.get? b = some o) → tn i h'
  item : ∀ (X : Cx), X.prog = P → X.w = w → X.K = K → X.calm = true → ∀ (i : Nat) (pins : List (Addr × Obj)) (s : Shared) (σ : St) (H : Hp) (E : Value → Shared → Prop), Inv X pins σ H s → (∀ b ∈ fp, FpOk X pins H b) → tn i s.heap → J.go i H →
    wpAny (model P w) X.A (pyNext (.ref it)) (fun r s1 => ∃ u, r = some u ∧
      wpAny (model P w) X.A (letOwnedTupleGo tg (.ref it) u) (fun _ s2 => ∃ x H', Inv X pins σ H' s2 ∧ RelV x u ∧ J.yld i H x H' ∧ tn (i + 1) s2.heap ∧ ∀ b ∈ fp, H' b = none) E s1) E s
  done : ∀ (X : Cx), X.prog = P → X.w = w → X.K = K → X.calm = true → ∀ (i : Nat) (pins : List (Addr × Obj)) (s : Shared) (σ : St) (H : Hp) (E : Value → Shared → Prop), Inv X pins σ H s → (∀ b ∈ fp, FpOk X pins H b) → tn i s.heap → J.stop i H →
    wpAny (model P w) X.A (pyNext (.ref it)) (fun r s1 => r = none ∧ Inv X pins σ H s1) E s
  self : ∀ (A : Around) (i : Nat) (s : Shared) (Q : Value → Shared → Prop) (E : Value → Shared → Prop), tn i s.heap → Q (.ref it) s → wpAny (model P w) A (pyIter (.ref it)) Q E s
abbrev TI:=St→Hp→(It→Hp→Prop)→Prop
def PIE (X:Cx) (pins:List (Addr × Obj)) (σ:St) (tg:Expr) (R:It→Hp→Prop) (itv:Value) (s2:Shared):Prop :=
 ∃ (it:Addr) (fp:List Addr) (tn:Nat→Heap→Prop) (J:It) (H':Hp),itv=.ref it∧Inv X pins σ H' s2∧Turn X.prog X.w X.K tg J fp it tn∧tn 0 s2.heap∧(∀ b∈fp,FpOk X pins H' b)∧R J H'
def PI (X:Cx) (tg iter:Expr) (wi:TI):Prop :=
 ∀ (pins:List (Addr × Obj)) (s:Shared) (σ:St) (H:Hp) (R:It→Hp→Prop),Inv X pins σ H s→wi σ H R →
  wpAny (model X.prog X.w) X.A (eval iter X.env) (fun v s1=>wpAny (model X.prog X.w) X.A (pyIter v) (PIE X pins σ tg R) X.xe s1) X.xe s
theorem go_of {M : Model} {A : Around} {E : Value → Shared → Prop} {s : Shared} {tg : Expr} {it : Addr} {u : Value} {o : Obj} {n : String} {vs : Array Value} {Q : Unit → Shared → Prop} (ho : s.heap.get? it = some o) (hc : o.cls = .type n) (hd : o.data = .fields vs)
    (hn : ["enumerate", "zip", "dict_itemiterator", "dict_reverseitemiterator", "odict_iterator", "itertools.zip_longest", "itertools.pairwise"].contains n = false) (hQ : Q () s) : wpAny M A (letOwnedTupleGo tg (.ref it) u) Q E s := by
  unfold letOwnedTupleGo
  cases tg <;> first
    | exact wpAny_pure hQ
    | (cases u <;> first
        | exact wpAny_pure hQ
        | (refine wpAny_bind (wpAny_load ho ?_)
           rw [hc, hd]
           show wpAny M A (if (["enumerate", "zip", "dict_itemiterator", "dict_reverseitemiterator", "odict_iterator", "itertools.zip_longest", "itertools.pairwise"].contains n && vs[0]? == some (rawInt _)) = true then _ else _) Q E s
           rw [if_neg (by intro h; rw [hn, Bool.false_and] at h; cases h)]
           exact wpAny_pure hQ))
def Itl (K:PySem.W.Frag) (a:Addr):It :=
 ⟨fun i H=>∃ xs x,SqL K H a xs∧xs[i]?=some x,fun i H x H'=>H'=H∧∀ xs,SqL K H a xs→xs[i]?=some x,fun i H=>∃ xs,SqL K H a xs∧xs.length≤i⟩
def Itr (lo:Int) (n:Nat):It:=⟨fun i _=>i < n,fun i H x H'=>H'=H∧x=.int (lo + i),fun i _=>n≤i⟩
theorem turn_list {P:Program} {w:World} {K:PySem.W.Frag} {tg:Expr} (a it:Addr):Turn P w K tg (Itl K a) [it] it (fun i h=>h.IsListIter it a i) where
 mem:=by simp
 obj:=fun i h st b hb=>by
  have e:b=it:=by simpa using hb
  subst e
  obtain ⟨o,e,c,d⟩:=st
  exact ⟨o,e,fun v z=>by rw [d] at z;cases z⟩
 keep:=fun i h h' st k=>st.at fun o e=>k it (by simp) o e
 item:=by
  intro X hP hw hK hc i pins s σ H E I hf st hg
  subst hP hw hK
  obtain ⟨xs,x,hq,hx⟩:=hg
  obtain ⟨its,rv,p,hz⟩:=I.list hq
  obtain ⟨u,hu,ru⟩:=rv.get hx
  obtain ⟨f0,f1,f2,f3,f4,f5⟩:=hf it (by simp)
  refine wpAny_pyNext_list_item st p.isList (x:=u) (by simpa using hu) fun h' st' sb=>?_
  have I1:Inv X pins σ H { s with heap:=h' }:=I.turned (t':=s.toks) (fun b o hb e=>(sb.2 b hb).trans e) f0 f1 f3 f4 f5
  obtain ⟨o,e,c,d⟩:=id st'
  exact ⟨u,rfl,go_of (s:={ s with heap:=h' }) e c d (by decide) ⟨x,H,I1,ru,⟨rfl,fun ys hy=>by rw [I.list_inj hy hq];exact hx⟩,st',fun b hb=>(hf b hb).1⟩⟩
 done:=by
  intro X hP hw hK hc i pins s σ H E I hf st hg
  subst hP hw hK
  obtain ⟨xs,hq,hx⟩:=hg
  obtain ⟨its,rv,p,hz⟩:=I.list hq
  obtain ⟨f0,f1,f2,f3,f4,f5⟩:=hf it (by simp)
  have hl:=rv.length
  exact wpAny_pyNext_list_end (I.ok.hd hc) st p.isList (by simp;omega) fun h' eb=>⟨rfl,I.turned (t':=s.toks) (fun b o hb e=>eb b o hb e) f0 f1 f3 f4 f5⟩
 self:=fun _ _ _ _ _ st h=>wpAny_pyIter_listiter st h
theorem turn_range {P:Program} {w:World} {K:PySem.W.Frag} {tg:Expr} (it:Addr) (lo:Int) (n:Nat):Turn P w K tg (Itr lo n) [it] it (fun i h=>IsRangeIter h it (lo + (i:Nat) * 1) ((n:Int) - (i:Nat)) 1) where
 mem:=by simp
 obj:=fun i h st b hb=>by
  have e:b=it:=by simpa using hb
  subst e
  exact ⟨_,st,fun v z=>by
   have z':Data.fields _=Data.cell v:=z
   cases z'⟩
 keep:=fun i h h' st k=>k it (by simp) _ st
 item:=by
  intro X hP hw hK hc i pins s σ H E I hf st hg
  subst hP hw hK
  obtain ⟨f0,f1,f2,f3,f4,f5⟩:=hf it (by simp)
  have W:=Walks.range (prog:=X.prog) (w:=X.w) (I.ok.hd hc) it lo 1 n
  refine W.item i s _ _ hg st fun v h' tk hv st' kk=>?_
  obtain ⟨t,rfl⟩:=hv
  have I1:Inv X pins σ H { s with heap:=h',toks:=tk }:=I.turned (fun b o hb e=>kk b o (by simpa using hb) e) f0 f1 f3 f4 f5
  refine ⟨_,rfl,go_of (s:={ s with heap:=h',toks:=tk }) (n:="range_iterator") st' rfl rfl (by decide) ⟨.int (lo + i),H,I1,⟨t,?_⟩,⟨rfl,rfl⟩,st',fun b hb=>(hf b hb).1⟩⟩
  rw [Int.mul_one]
 done:=by
  intro X hP hw hK hc i pins s σ H E I hf st hg
  subst hP hw hK
  obtain ⟨f0,f1,f2,f3,f4,f5⟩:=hf it (by simp)
  exact wpAny_pyNext_range_end (I.ok.hd hc) st (by have:n≤i:=hg;omega) fun h' eb=>⟨rfl,I.turned (t':=s.toks) (fun b o hb e=>eb b o hb e) f0 f1 f3 f4 f5⟩
 self:=fun _ _ _ _ _ st h=>wpAny_pyIter_rangeiter st h
end L2
namespace L2
open PySem PySem.Spec PyProof.Rows
section
variable {X:Cx} {tg:Expr}
def iList (K:PySem.W.Frag) (tl:TE):TI:=fun σ H R=>tl σ H fun x H1=>∃ a,x=.ref a∧(∃ xs,SqL K H1 a xs)∧R (Itl K a) H1
theorem pi_list {l:Expr} {tl:TE} (hl:PE X l tl):PI X tg l (iList X.K tl):=by
 intro pins s σ H R I h
 refine thn (hl pins s σ H _ I h) fun v s1 ⟨x,H1,I1,r1,q1⟩=>?_
 obtain ⟨a,e,⟨xs,hq⟩,q⟩:=q1
 subst e
 cases r1
 obtain ⟨its,rv,p,hz⟩:=I1.list hq
 refine wpAny_pyIter_list p.isList ?_
 refine ⟨s1.heap.objs.size,[s1.heap.objs.size],_,_,H1,rfl,I1.kept (t':=s1.toks) fun b o e=>Heap.get?_push_of_some _ e,turn_list a _,⟨_,Heap.get?_push_size _ rfl,rfl,rfl⟩,fun b hb=>?_,q⟩
 have e:b=s1.heap.objs.size:=by simpa using hb
 subst e
 exact I1.fpOk (Nat.le_refl _) (I1.hok.fresh (Nat.le_refl _))
theorem range_it {pins:List (Addr × Obj)} {σ:St} {H:Hp} {s:Shared} {R:It→Hp→Prop} {E:Value→Shared→Prop} {lo hi:Int} {t u v:Tok} {tk:Nat} (I:Inv X pins σ H s) (h1:-(2 ^ 62)≤lo) (h2:lo < 2 ^ 62) (h3:-(2 ^ 62)≤hi) (h4:hi < 2 ^ 62)
  (q:R (Itr lo (hi - lo).toNat) H):wpAny (model X.prog X.w) X.A (pyIter (.ref s.heap.objs.size)) (PIE X pins σ tg R) E { s with heap:=s.heap.push { cls:=.type "range",data:=.fields #[.int lo t,.int hi u,.int 1 v] },toks:=tk }:=by
 refine wpAny_pyIter_range (IsRange.new ..) (small_one h1 h2 h3 h4) ?_
 have I1:Inv X pins σ H { s with heap:=s.heap.push { cls:=.type "range",data:=.fields #[.int lo t,.int hi u,.int 1 v] },toks:=tk }:=I.kept fun b o e=>Heap.get?_push_of_some _ e
 refine ⟨(s.heap.push { cls:=.type "range",data:=.fields #[.int lo t,.int hi u,.int 1 v] }).objs.size,[(s.heap.push { cls:=.type "range",data:=.fields #[.int lo t,.int hi u,.int 1 v] }).objs.size],_,_,H,rfl,
  I1.kept (t':=tk) fun b o e=>Heap.get?_push_of_some _ e,turn_range _ lo (hi - lo).toNat,?_,fun b hb=>?_,q⟩
 ·have e1:lo + ((0:Nat):Int) * 1=lo:=by simp
  have e2:(((hi - lo).toNat:Nat):Int) - ((0:Nat):Int)=Builtin.Range.rangeSize lo hi 1:=by rw [rangeSize_one];split <;> omega
  show IsRangeIter _ _ (lo + ((0:Nat):Int) * 1) ((((hi - lo).toNat:Nat):Int) - ((0:Nat):Int)) 1
  rw [e1,e2]
  exact Heap.get?_push_size _ rfl
 ·have e:b=(s.heap.push { cls:=.type "range",data:=.fields #[.int lo t,.int hi u,.int 1 v] }).objs.size:=by simpa using hb
  subst e
  exact I1.fpOk (Nat.le_refl _) (I1.hok.fresh (Nat.le_refl _))
def iRng1 (ta:TA):TI:=fun σ H R=>ta σ H fun vs H1=>∃ j:Int,vs=[.int j]∧-(2 ^ 62)≤j∧j < 2 ^ 62∧R (Itr 0 j.toNat) H1
def iRng2 (ta:TA):TI:=fun σ H R=>ta σ H fun vs H1=>∃ i j:Int,vs=[.int i,.int j]∧(-(2 ^ 62)≤i∧i < 2 ^ 62∧-(2 ^ 62)≤j∧j < 2 ^ 62)∧R (Itr i (j - i).toNat) H1
theorem pi_range1 {a:Expr} {ta:TA} {p pos:Pos} (hg:Gl X "range") (hm:X.mg "range"=none) (ha:PA X [a] ta) (hs:starEach [a] X.env=[(false,eval a X.env)]:=by rfl):PI X tg (.Call (.Name "range" p) [a] [] pos) (iRng1 ta):=by
 intro pins s σ H R I h
 refine Call_ (ld_blt I hg hm boot_range (PyProof.Rows.callWith_type1 (thn (ha pos pins s σ H _ I h) fun us s1 ⟨vs,H1,I1,r1,q1⟩=>?_) hs rfl))
 obtain ⟨j,e,q1,q2,q⟩:=q1
 subst e
 cases r1 with
 | cons r rr =>
  cases rr
  obtain ⟨t,rfl⟩:=r
  exact call_range_1 (range_it I1 (by omega) (by omega) q1 q2 (by simpa using q))
theorem pi_range2 {a b:Expr} {ta:TA} {p pos:Pos} (hg:Gl X "range") (hm:X.mg "range"=none) (ha:PA X [a,b] ta) (hs:starEach [a,b] X.env=[(false,eval a X.env),(false,eval b X.env)]:=by rfl) (hs2:starEach [b] X.env=[(false,eval b X.env)]:=by rfl) :
  PI X tg (.Call (.Name "range" p) [a,b] [] pos) (iRng2 ta):=by
 intro pins s σ H R I h
 refine Call_ (ld_blt I hg hm boot_range (PyProof.Rows.callWith_type1 (thn (ha pos pins s σ H _ I h) fun us s1 ⟨vs,H1,I1,r1,q1⟩=>?_) (by rw [hs,hs2]) (by rw [hs2];rfl)))
 obtain ⟨i,j,e,⟨q1,q2,q3,q4⟩,q⟩:=q1
 subst e
 cases r1 with
 | cons r rr =>
  cases rr with
  | cons r' rr =>
   cases rr
   obtain ⟨t,rfl⟩:=r
   obtain ⟨t',rfl⟩:=r'
   exact call_range_2 (range_it I1 q1 q2 q3 q4 q)
def tFor (wi:TI) (g:TG) (tb:TS):TS:=fun D σ H=>wi σ H fun J H1=>∃ W:Nat→Nat→St→Hp→Prop,(∃ m,W 0 m σ H1)∧∀ i m σ H,W i m σ H →
 (J.stop i H∧D.nx σ H)∨(J.go i H∧∃ N:St→Hp→Prop,(∀ σ' H',N σ' H'→∃ m',m' < m∧W (i + 1) m' σ' H')∧∀ x H',J.yld i H x H'→g x σ H' fun σ2 H2=>tb { D with nx:=N,ct:=N,bk:=D.nx } σ2 H2)
def pinsAt (fp:List Addr) (h:Heap):List (Addr × Obj):=fp.filterMap fun b=>(h.get? b).map fun o=>(b,o)
theorem mem_pinsAt {fp:List Addr} {h:Heap} {b:Addr} {o:Obj} (hb:b∈fp) (e:h.get? b=some o):(b,o)∈pinsAt fp h:=List.mem_filterMap.mpr ⟨b,hb,by rw [e];rfl⟩
theorem of_pinsAt {fp:List Addr} {h:Heap} {p:Addr × Obj} (hp:p∈pinsAt fp h):p.1∈fp∧h.get? p.1=some p.2:=by
 obtain ⟨b,hb,e⟩:=List.mem_filterMap.mp hp
 cases q:h.get? b with
 | none=>rw [q] at e;cases e
 | some o =>
  rw [q] at e
  have e':(b,o)=p:=Option.some.inj e
  subst e'
  exact ⟨hb,q⟩
theorem Inv.pinned {pins:List (Addr × Obj)} {σ:St} {H:Hp} {s:Shared} {fp:List Addr} (I:Inv X pins σ H s) (hf:∀ b∈fp,FpOk X pins H b) (ho:∀ b∈fp,∃ o,s.heap.get? b=some o∧∀ v,o.data≠.cell v):Inv X (pins++pinsAt fp s.heap) σ H s :=
 I.pins_of fun p hp=>(List.mem_append.mp hp).elim (fun z=>I.pin p (List.mem_append_right _ z)) fun z=>by
  obtain ⟨hb,e⟩:=of_pinsAt z
  obtain ⟨f0,f1,f2,_⟩:=hf p.1 hb
  obtain ⟨o,e',d⟩:=ho p.1 hb
  rw [e] at e';cases e'
  exact ⟨e,f0,f1,f2,d⟩
theorem Inv.unpinned {pins pl:List (Addr × Obj)} {σ:St} {H:Hp} {s:Shared} (I:Inv X (pins++pl) σ H s):Inv X pins σ H s:=I.pins_of fun p hp=>I.pin p (List.mem_append_right _ (List.mem_append_left _ hp))
theorem ps_for {iter:Expr} {body:List Stmt} {wi:TI} {g:TG} {tb:TS} {pos:Pos} (hp:PassesOwn (model X.prog X.w) X.A X.env X.xe) (hc:X.calm=true) (hi:PI X tg iter wi) (hg:PG X tg g) (hb:PSs X body tb)
  (hs:∀ x,foldedSetIterable iter X.env x=pure x:=by intro _;rfl):PS X (.For tg iter body [] pos) (tFor wi g tb):=by
 intro pins s σ H D I h
 refine wpAny_For (thn (hi pins s σ H _ I h) fun v s1 h1=>thn h1 fun itv s2 h2=>?_) hs
 obtain ⟨it,fp,tn,J,H2,e,I2,T,st2,f2,W,⟨m0,w0⟩,turn⟩:=h2
 subst e
 have stat:∀ {H':Hp},(∀ b∈fp,H' b=none)→∀ b∈fp,FpOk X pins H' b:=fun hn b hb=>⟨hn b hb,(f2 b hb).2⟩
 refine codeAny_forLoop_any (fun n s'=>∃ i σ' H',Inv X pins σ' H' s'∧tn i s'.heap∧(∀ b∈fp,H' b=none)∧W i n σ' H') ?_ m0 ⟨0,σ,H2,I2,st2,fun b hb=>(f2 b hb).1,w0⟩
 rintro n s3 ⟨i,σ3,H3,I3,st3,fr3,w3⟩
 rcases turn i n σ3 H3 w3 with ⟨stop,qn⟩ | ⟨go,N,hN,step⟩
 ·refine wpAny_passesOwn hp (thn (T.done X rfl rfl rfl hc i pins s3 σ3 H3 X.xe I3 (stat fr3) st3 stop) fun r s4 ⟨hr,I4⟩=>?_)
  subst hr
  exact wpAny_execs_nil ⟨σ3,H3,I4,qn⟩
 ·refine wpAny_passesOwn hp (thn (T.item X rfl rfl rfl hc i pins s3 σ3 H3 X.xe I3 (stat fr3) st3 go) fun r s4 ⟨u,hr,h4⟩=>?_)
  subst hr
  refine wpAny_passesOwn hp (thn h4 fun _ s5 ⟨x,H5,I5,r5,y5,st5,fr5⟩=>?_)
  have I5':=I5.pinned (stat fr5) (T.obj _ _ st5)
  refine wpAny_passesOwn hp (thn (hg _ s5 σ3 H5 x u _ I5' r5 (step x H5 y5)) fun _ s6 ⟨σ6,H6,I6,q6⟩=>?_)
  refine wpAny_passesOwn hp (thn (hb _ s6 σ6 H6 _ I6 q6) fun f s7 q7=>?_)
  have again:∀ {σ7:St} {H7:Hp},Inv X (pins++pinsAt fp s5.heap) σ7 H7 s7→N σ7 H7→∃ m,m < n∧∃ i σ' H',Inv X pins σ' H' s7∧tn i s7.heap∧(∀ b∈fp,H' b=none)∧W i m σ' H':=fun {σ7 H7} I7 n7=>by
   obtain ⟨m',hm,w7⟩:=hN σ7 H7 n7
   refine ⟨m',hm,i + 1,σ7,H7,I7.unpinned,T.keep _ _ _ st5 fun b hb o e=>(I7.pin (b,o) (List.mem_append_right _ (List.mem_append_right _ (mem_pinsAt hb e)))).1,fun b hb=>?_,w7⟩
   obtain ⟨o,e,d⟩:=T.obj _ _ st5 b hb
   exact (I7.pin (b,o) (List.mem_append_right _ (List.mem_append_right _ (mem_pinsAt hb e)))).2.1
  cases f with
  | next=>obtain ⟨σ7,H7,I7,n7⟩:=q7;exact again I7 n7
  | cont=>obtain ⟨σ7,H7,I7,n7⟩:=q7;exact again I7 n7
  | brk=>obtain ⟨σ7,H7,I7,q7⟩:=q7;exact ⟨σ7,H7,I7.unpinned,q7⟩
  | ret v=>obtain ⟨x7,σ7,H7,I7,r7,q7⟩:=q7;exact ⟨x7,σ7,H7,I7.unpinned,r7,q7⟩
end
theorem for_list {K:PySem.W.Frag} {a:Addr} {xs:List V} {g:TG} {tb:TS} {D:Ends} {σ:St} {H:Hp} (Pv:Nat→St→Hp→Prop) (h0:Pv 0 σ H) (hl:∀ i σ H,i≤xs.length→Pv i σ H→SqL K H a xs)
  (hs:∀ i x σ H,xs[i]?=some x→Pv i σ H→g x σ H fun σ2 H2=>tb { D with nx:=Pv (i + 1),ct:=Pv (i + 1),bk:=D.nx } σ2 H2) (hd:∀ σ H,Pv xs.length σ H→D.nx σ H) :
  ∃ W:Nat→Nat→St→Hp→Prop,(∃ m,W 0 m σ H)∧∀ i m σ H,W i m σ H →
   ((Itl K a).stop i H∧D.nx σ H)∨((Itl K a).go i H∧∃ N:St→Hp→Prop,(∀ σ' H',N σ' H'→∃ m',m' < m∧W (i + 1) m' σ' H')∧∀ x H',(Itl K a).yld i H x H'→g x σ H' fun σ2 H2=>tb { D with nx:=N,ct:=N,bk:=D.nx } σ2 H2):=by
 refine ⟨fun i m σ H=>m=xs.length - i∧i≤xs.length∧Pv i σ H,⟨xs.length,by simp,Nat.zero_le _,h0⟩,?_⟩
 rintro i m σ H ⟨rfl,hi,p⟩
 have q:=hl i σ H hi p
 by_cases hlt:i < xs.length
 ·refine .inr ⟨⟨xs,xs[i],q,by simp [hlt]⟩,Pv (i + 1),fun σ' H' p'=>⟨xs.length - (i + 1),by omega,rfl,hlt,p'⟩,fun x H' y=>?_⟩
  obtain ⟨e,y⟩:=y
  subst e
  exact hs i x σ _ (y xs q) p
 ·have e:i=xs.length:=by omega
  subst e
  exact .inl ⟨⟨xs,q,Nat.le_refl _⟩,hd σ H p⟩
theorem for_range {lo:Int} {n:Nat} {g:TG} {tb:TS} {D:Ends} {σ:St} {H:Hp} (Pv:Nat→St→Hp→Prop) (h0:Pv 0 σ H)
  (hs:∀ i σ H,i < n→Pv i σ H→g (.int (lo + i)) σ H fun σ2 H2=>tb { D with nx:=Pv (i + 1),ct:=Pv (i + 1),bk:=D.nx } σ2 H2) (hd:∀ σ H,Pv n σ H→D.nx σ H) :
  ∃ W:Nat→Nat→St→Hp→Prop,(∃ m,W 0 m σ H)∧∀ i m σ H,W i m σ H →
   ((Itr lo n).stop i H∧D.nx σ H)∨((Itr lo n).go i H∧∃ N:St→Hp→Prop,(∀ σ' H',N σ' H'→∃ m',m' < m∧W (i + 1) m' σ' H')∧∀ x H',(Itr lo n).yld i H x H'→g x σ H' fun σ2 H2=>tb { D with nx:=N,ct:=N,bk:=D.nx } σ2 H2):=by
 refine ⟨fun i m σ H=>m=n - i∧i≤n∧Pv i σ H,⟨n,by simp,Nat.zero_le _,h0⟩,?_⟩
 rintro i m σ H ⟨rfl,hi,p⟩
 by_cases hlt:i < n
 ·refine .inr ⟨hlt,Pv (i + 1),fun σ' H' p'=>⟨n - (i + 1),by omega,rfl,hlt,p'⟩,fun x H' y=>?_⟩
  obtain ⟨e,y⟩:=y
  subst e y
  exact hs i σ _ hlt p
 ·have e:i=n:=by omega
  subst e
  exact .inl ⟨Nat.le_refl _,hd σ H p⟩
end L2
namespace L2
open PySem PySem.Spec PyProof.Rows
abbrev R2:=V→V→Hp→VK→Prop
def OpR (X:Cx) (f:Value→Value→Sem Value) (r:R2):Prop :=
 ∀ (pins:List (Addr × Obj)) (s:Shared) (σ:St) (H:Hp) (x y:V) (v u:Value) (Q:VK),Inv X pins σ H s→RelV x v→RelV y u→r x y H Q →
  wpAny (model X.prog X.w) X.A (f v u) (EP X pins σ Q) X.xe s
def UnR (X:Cx) (f:Value→Sem Value) (r:V→Hp→VK→Prop):Prop :=
 ∀ (pins:List (Addr × Obj)) (s:Shared) (σ:St) (H:Hp) (x:V) (v:Value) (Q:VK),Inv X pins σ H s→RelV x v→r x H Q →
  wpAny (model X.prog X.w) X.A (f v) (EP X pins σ Q) X.xe s
def CallR (X:Cx) (f:Value) (r:List V→Hp→VK→Prop):Prop :=
 ∀ (pins:List (Addr × Obj)) (s:Shared) (σ:St) (H:Hp) (xs:List V) (us:List Value) (Q:VK),Inv X pins σ H s→Vals xs us→r xs H Q →
  wpAny (model X.prog X.w) X.A (call f us) (EP X pins σ Q) X.xe s
def TruR (X:Cx) (r:V→Hp→(Bool→Hp→Prop)→Prop):Prop :=
 ∀ (pins:List (Addr × Obj)) (s:Shared) (σ:St) (H:Hp) (x:V) (v:Value) (Q:Bool→Hp→Prop),Inv X pins σ H s→RelV x v→r x H Q →
  wpAny (model X.prog X.w) X.A (truthy v) (TP X pins σ Q) X.xe s
def tOp (r:R2) (ta tb:TE):TE:=fun σ H Q=>ta σ H fun x H1=>tb σ H1 fun y H2=>r x y H2 Q
def tUn (r:V→Hp→VK→Prop) (ta:TE):TE:=fun σ H Q=>ta σ H fun x H1=>r x H1 Q
def rI (C:Int→Int→Prop) (g:Int→Int→V):R2:=fun x y H Q=>∃ i j,x=.int i∧y=.int j∧C i j∧Q (g i j) H
def rI0 (g:Int→Int→V):R2:=fun x y H Q=>∃ i j,x=.int i∧y=.int j∧Q (g i j) H
def rU (g:Int→V):V→Hp→VK→Prop:=fun x H Q=>∃ i,x=.int i∧Q (g i) H
section
variable {X:Cx} {a b c:Expr} {ta tb tc:TE} {pos:Pos}
theorem binT (ha:PE X a ta) (hb:PE X b tb) {pins:List (Addr × Obj)} {s:Shared} {σ:St} {H:Hp} {R:V→V→Hp→Prop} (I:Inv X pins σ H s)
  (h:ta σ H fun x H1=>tb σ H1 fun y H2=>R x y H2) {Q:Value→Shared→Prop} {f:Value→Value→Sem Value}
  (hf:∀ v u s2 x y H2,Inv X pins σ H2 s2→RelV x v→RelV y u→R x y H2→wpAny (model X.prog X.w) X.A (f v u) Q X.xe s2) :
  wpAny (model X.prog X.w) X.A (eval a X.env) (fun v s₁=>wpAny (model X.prog X.w) X.A (eval b X.env) (fun u s₂=>wpAny (model X.prog X.w) X.A (f v u) Q X.xe s₂) X.xe s₁) X.xe s:=by
 refine thn (ha pins s σ H _ I h) fun v s1 ⟨x,H1,I1,r1,q1⟩=>?_
 refine thn (hb pins s1 σ H1 _ I1 q1) fun u s2 ⟨y,H2,I2,r2,q2⟩=>?_
 exact hf v u s2 x y H2 I2 r1 r2 q2
theorem pe_op {op:Operator} {r:R2} (ho:OpR X (binaryOp op) r) (ha:PE X a ta) (hb:PE X b tb):PE X (.BinOp a op b pos) (tOp r ta tb):=by
 intro pins s σ H Q I h
 exact wpAny_BinOp (binT ha hb I h fun v u s2 x y H2 I2 rx ry q=>ho pins s2 σ H2 x y v u Q I2 rx ry q)
theorem pe_un {op:UnaryOp} {r:V→Hp→VK→Prop} (ho:UnR X (unaryOp op) r) (ha:PE X a ta):PE X (.UnaryOp op a pos) (tUn r ta):=by
 intro pins s σ H Q I h
 exact UnaryOp_ (thn (ha pins s σ H _ I h) fun v s1 ⟨x,H1,I1,r1,q1⟩=>ho pins s1 σ H1 x v Q I1 r1 q1)
theorem opI {f:Value→Value→Sem Value} {C:Int→Int→Prop} {g:Int→Int→Int}
  (rule:∀ (i j:Int) (t u:Tok) (s:Shared) (Q:Value→Shared→Prop) (E:Value→Shared→Prop),C i j→Q (.int (g i j) s.toks) { s with toks:=s.toks + 1 }→wpAny (model X.prog X.w) X.A (f (.int i t) (.int j u)) Q E s) :
  OpR X f (rI C fun i j=>.int (g i j)):=by
 intro pins s σ H x y v u Q I rx ry h
 obtain ⟨i,j,rfl,rfl,hc,q⟩:=h
 obtain ⟨t,rfl⟩:=rx
 obtain ⟨t',rfl⟩:=ry
 exact rule i j t t' s _ _ hc ⟨.int (g i j),H,I.tok _,⟨_,rfl⟩,q⟩
theorem opI0 {f:Value→Value→Sem Value} {g:Int→Int→Int}
  (rule:∀ (i j:Int) (t u:Tok) (s:Shared) (Q:Value→Shared→Prop) (E:Value→Shared→Prop),Q (.int (g i j) s.toks) { s with toks:=s.toks + 1 }→wpAny (model X.prog X.w) X.A (f (.int i t) (.int j u)) Q E s) :
  OpR X f (rI0 fun i j=>.int (g i j)):=by
 intro pins s σ H x y v u Q I rx ry h
 obtain ⟨i,j,rfl,rfl,q⟩:=h
 obtain ⟨t,rfl⟩:=rx
 obtain ⟨t',rfl⟩:=ry
 exact rule i j t t' s _ _ ⟨.int (g i j),H,I.tok _,⟨_,rfl⟩,q⟩
theorem opB0 {f:Value→Value→Sem Value} {g:Int→Int→Bool}
  (rule:∀ (i j:Int) (t u:Tok) (s:Shared) (Q:Value→Shared→Prop) (E:Value→Shared→Prop),Q (.bool (g i j)) s→wpAny (model X.prog X.w) X.A (f (.int i t) (.int j u)) Q E s) :
  OpR X f (rI0 fun i j=>.bl (g i j)):=by
 intro pins s σ H x y v u Q I rx ry h
 obtain ⟨i,j,rfl,rfl,q⟩:=h
 obtain ⟨t,rfl⟩:=rx
 obtain ⟨t',rfl⟩:=ry
 exact rule i j t t' s _ _ ⟨.bl (g i j),H,I,rfl,q⟩
def CMul (i j:Int):Prop:=(-(2 ^ 64) < i∧i < 2 ^ 64)∨(-(2 ^ 64) < j∧j < 2 ^ 64)
theorem CMul.ok {i j:Int} (h:CMul i j):IntMulOk i j:=by
 rcases h with ⟨h1,h2⟩ | ⟨h1,h2⟩
 ·exact .of_left (intBits_le_64 h1 h2)
 ·exact .of_right (intBits_le_64 h1 h2)
theorem two_pow_nn (k:Nat):(0:Int)≤2 ^ k:=by
 rw [two_pow_cast]
 exact Int.natCast_nonneg _
theorem op_add:OpR X (binaryOp .Add) (rI0 fun i j=>.int (i + j)):=opI0 fun _ _ _ _ _ _ _ q=>add_int q
theorem op_sub:OpR X (binaryOp .Sub) (rI0 fun i j=>.int (i - j)):=opI0 fun _ _ _ _ _ _ _ q=>sub_int q
theorem op_mod:OpR X (binaryOp .Mod) (rI (fun _ j=>0 < j) fun i j=>.int (i % j)):=opI fun i j _ _ _ _ _ hc q=>by
 have h1:(0:Int) < j:=hc
 exact mod_int' (by omega) (by rw [Int.fmod_eq_emod_of_nonneg i (by omega)];exact q)
theorem op_modN:OpR X (binaryOp .Mod) (rI (fun _ j=>j≠0) fun i j=>.int (i.fmod j)):=opI fun _ _ _ _ _ _ _ hc q=>mod_int' hc q
theorem op_shr:OpR X (binaryOp .RShift) (rI (fun _ j=>0≤j) fun i j=>.int (i / 2 ^ j.toNat)):=opI fun i j _ _ _ _ _ hc q =>
 rshift_int hc (by rw [Int.fdiv_eq_ediv_of_nonneg i (two_pow_nn _)];exact q)
theorem op_and:OpR X (binaryOp .BitAnd) (rI0 fun i j=>.int (Builtin.bitAnd i j)):=opI0 fun _ _ _ _ _ _ _ q=>and_int q
theorem iop_shr:OpR X (inplaceOp .RShift) (rI (fun _ j=>0≤j) fun i j=>.int (i / 2 ^ j.toNat)):=opI fun i j _ _ _ _ _ hc q =>
 irshift_int hc (by rw [Int.fdiv_eq_ediv_of_nonneg i (two_pow_nn _)];exact q)
theorem unI {f:Value→Sem Value} {g:Int→Int}
  (rule:∀ (i:Int) (t:Tok) (s:Shared) (Q:Value→Shared→Prop) (E:Value→Shared→Prop),Q (.int (g i) s.toks) { s with toks:=s.toks + 1 }→wpAny (model X.prog X.w) X.A (f (.int i t)) Q E s) :
  UnR X f (rU fun i=>.int (g i)):=by
 intro pins s σ H x v Q I rx h
 obtain ⟨i,rfl,q⟩:=h
 obtain ⟨t,rfl⟩:=rx
 exact rule i t s _ _ ⟨.int (g i),H,I.tok _,⟨_,rfl⟩,q⟩
theorem un_neg:UnR X (unaryOp .USub) (rU fun i=>.int (-i)):=unI fun _ _ _ _ _ q=>neg_int q
end
def scal:V→V→Bool
 | .non,.non=>true | .non,.int _=>true | .int _,.non=>true | .non,.bl _=>true | .bl _,.non=>true | .non,.str _=>true | .str _,.non=>true
 | .int _,.int _=>true | .bl _,.bl _=>true | .str _,.str _=>true | .byt _,.byt _=>true
 | .int _,.str _=>true | .str _,.int _=>true | .bl _,.str _=>true | .str _,.bl _=>true
 | _,_=>false
def rEq:R2:=fun x y H Q=>scal x y=true∧Q (.bl (decide (x=y))) H
def rNe:R2:=fun x y H Q=>scal x y=true∧Q (.bl (!decide (x=y))) H
theorem dec_int {i j:Int}:decide (V.int i=V.int j)=(i == j):=by
 rw [Bool.eq_iff_iff]
 simp
theorem dec_bl {i j:Bool}:decide (V.bl i=V.bl j)=(i == j):=by
 rw [Bool.eq_iff_iff]
 simp
theorem dec_str {i j:Str}:decide (V.str i=V.str j)=(i == j):=by
 rw [Bool.eq_iff_iff]
 simp
theorem dec_byt {i j:Array UInt8}:decide (V.byt i=V.byt j)=(i.toList == j.toList):=by
 rw [Bool.eq_iff_iff]
 cases i
 cases j
 simp
section
variable {X:Cx} {a b c:Expr} {ta tb tc:TE} {pos:Pos}
theorem fin_bl {pins:List (Addr × Obj)} {σ:St} {H:Hp} {s:Shared} {Q:VK} {k k':Bool} (I:Inv X pins σ H s) (q:Q (.bl k) H) (e:k=k'):EP X pins σ Q (.bool k') s:=by
 subst e
 exact ⟨.bl k,H,I,rfl,q⟩
theorem op_eq:OpR X (compareOp .Eq) rEq:=by
 intro pins s σ H x y v u Q I rx ry h
 obtain ⟨hs,q⟩:=h
 cases x with
 | non =>
  cases rx
  cases y with
  | non=>cases ry;exact PySem.EqNone.eq_none_none (fin_bl I q (by simp))
  | bl j=>cases ry;exact PySem.EqNone.eq_none_bool (fin_bl I q (by simp))
  | int j=>obtain ⟨t',rfl⟩:=ry;exact PySem.EqNone.eq_none_int (fin_bl I q (by simp))
  | str j=>obtain ⟨t',rfl⟩:=ry;exact PySem.EqNone.eq_none_str (fin_bl I q (by simp))
  | _=>exact absurd (show false=true from hs) Bool.false_ne_true
 | bl i =>
  cases rx
  cases y with
  | non=>cases ry;exact PySem.EqNone.eq_bool_none (fin_bl I q (by simp))
  | bl j=>cases ry;exact eq_bool (fin_bl I q dec_bl)
  | str j=>obtain ⟨t',rfl⟩:=ry;exact PySem.EqMixed.eq_bool_str (fin_bl I q (by simp))
  | _=>exact absurd (show false=true from hs) Bool.false_ne_true
 | int i =>
  obtain ⟨t,rfl⟩:=rx
  cases y with
  | non=>cases ry;exact PySem.EqNone.eq_int_none (fin_bl I q (by simp))
  | int j=>obtain ⟨t',rfl⟩:=ry;exact eq_int (fin_bl I q dec_int)
  | str j=>obtain ⟨t',rfl⟩:=ry;exact PySem.EqMixed.eq_int_str (fin_bl I q (by simp))
  | _=>exact absurd (show false=true from hs) Bool.false_ne_true
 | str i =>
  obtain ⟨t,rfl⟩:=rx
  cases y with
  | non=>cases ry;exact PySem.EqNone.eq_str_none (fin_bl I q (by simp))
  | bl j=>cases ry;exact PySem.EqMixed.eq_str_bool (fin_bl I q (by simp))
  | int j=>obtain ⟨t',rfl⟩:=ry;exact PySem.EqMixed.eq_str_int (fin_bl I q (by simp))
  | str j=>obtain ⟨t',rfl⟩:=ry;exact eq_str (fin_bl I q dec_str)
  | _=>exact absurd (show false=true from hs) Bool.false_ne_true
 | byt i =>
  obtain ⟨t,rfl⟩:=rx
  cases y with
  | byt j=>obtain ⟨t',rfl⟩:=ry;exact PySem.W.eq_bytes (fin_bl I q dec_byt)
  | _=>exact absurd (show false=true from hs) Bool.false_ne_true
 | _=>cases y <;> exact absurd (show false=true from hs) Bool.false_ne_true
theorem op_ne:OpR X (compareOp .NotEq) rNe:=by
 intro pins s σ H x y v u Q I rx ry h
 obtain ⟨hs,q⟩:=h
 cases x with
 | non =>
  cases rx
  cases y with
  | non=>cases ry;exact PySem.EqNone.ne_none_none (fin_bl I q (by simp))
  | bl j=>cases ry;exact PySem.EqNone.ne_none_bool (fin_bl I q (by simp))
  | int j=>obtain ⟨t',rfl⟩:=ry;exact PySem.EqNone.ne_none_int (fin_bl I q (by simp))
  | str j=>obtain ⟨t',rfl⟩:=ry;exact PySem.EqNone.ne_none_str (fin_bl I q (by simp))
  | _=>exact absurd (show false=true from hs) Bool.false_ne_true
 | bl i =>
  cases rx
  cases y with
  | non=>cases ry;exact PySem.EqNone.ne_bool_none (fin_bl I q (by simp))
  | bl j=>cases ry;exact ne_bool (fin_bl I q (congrArg not dec_bl))
  | str j=>obtain ⟨t',rfl⟩:=ry;exact PySem.EqMixed.ne_bool_str (fin_bl I q (by simp))
  | _=>exact absurd (show false=true from hs) Bool.false_ne_true
 | int i =>
  obtain ⟨t,rfl⟩:=rx
  cases y with
  | non=>cases ry;exact PySem.EqNone.ne_int_none (fin_bl I q (by simp))
  | int j=>obtain ⟨t',rfl⟩:=ry;exact ne_int (fin_bl I q (congrArg not dec_int))
  | str j=>obtain ⟨t',rfl⟩:=ry;exact PySem.EqMixed.ne_int_str (fin_bl I q (by simp))
  | _=>exact absurd (show false=true from hs) Bool.false_ne_true
 | str i =>
  obtain ⟨t,rfl⟩:=rx
  cases y with
  | non=>cases ry;exact PySem.EqNone.ne_str_none (fin_bl I q (by simp))
  | bl j=>cases ry;exact PySem.EqMixed.ne_str_bool (fin_bl I q (by simp))
  | int j=>obtain ⟨t',rfl⟩:=ry;exact PySem.EqMixed.ne_str_int (fin_bl I q (by simp))
  | str j=>obtain ⟨t',rfl⟩:=ry;exact ne_str (fin_bl I q (congrArg not dec_str))
  | _=>exact absurd (show false=true from hs) Bool.false_ne_true
 | byt i =>
  obtain ⟨t,rfl⟩:=rx
  cases y with
  | byt j=>obtain ⟨t',rfl⟩:=ry;exact PySem.W.ne_bytes (fin_bl I q (congrArg not dec_byt))
  | _=>exact absurd (show false=true from hs) Bool.false_ne_true
 | _=>cases y <;> exact absurd (show false=true from hs) Bool.false_ne_true
theorem op_lt:OpR X (compareOp .Lt) (rI0 fun i j=>.bl (decide (i < j))):=opB0 fun _ _ _ _ _ _ _ q=>lt_int q
theorem op_le:OpR X (compareOp .LtE) (rI0 fun i j=>.bl (decide (i≤j))):=opB0 fun _ _ _ _ _ _ _ q=>le_int q
theorem op_gt:OpR X (compareOp .Gt) (rI0 fun i j=>.bl (decide (j < i))):=opB0 fun _ _ _ _ _ _ _ q=>gt_int q
theorem op_ge:OpR X (compareOp .GtE) (rI0 fun i j=>.bl (decide (j≤i))):=opB0 fun _ _ _ _ _ _ _ q=>ge_int q
theorem nomark (b:Expr) {op:CmpOp} (h:op≠.In:=by decide) (h2:op≠.NotIn:=by decide):behindInMarks op b=false:=by
 have e1:(op == CmpOp.In)=false:=by cases op <;> first | rfl | exact absurd rfl h
 have e2:(op == CmpOp.NotIn)=false:=by cases op <;> first | rfl | exact absurd rfl h2
 cases b <;> simp [behindInMarks,e1,e2]
theorem pe_cmpR {op:CmpOp} {r:R2} (ho:OpR X (compareOp op) r) (ha:PE X a ta) (hb:PE X b tb) (hm:behindInMarks op b=false):PE X (.Compare a [op] [b] pos) (tOp r ta tb):=by
 intro pins s σ H Q I h
 exact wpAny_Compare1 (binT ha hb I h fun v u s2 x y H2 I2 rx ry q=>ho pins s2 σ H2 x y v u Q I2 rx ry q) hm
def tTest (t:TE):TT:=fun σ H Q=>t σ H fun x H'=>∃ k,x=.bl k∧Q k H'
theorem pt_cmpR {op:CmpOp} {r:R2} (ho:OpR X (compareOp op) r) (ha:PE X a ta) (hb:PE X b tb) (hm:behindInMarks op b=false):PT X (.Compare a [op] [b] pos) (tTest (tOp r ta tb)):=by
 intro pins s σ H Q I h
 refine wpAny_isTrue_Compare1 (thn (ha pins s σ H _ I h) fun v s1 ⟨x,H1,I1,r1,q1⟩=>thn (hb pins s1 σ H1 _ I1 q1) fun u s2 ⟨y,H2,I2,r2,q2⟩ =>
  thn (ho pins s2 σ H2 x y v u _ I2 r1 r2 q2) fun c s3 ⟨z,H3,I3,r3,k,e,q3⟩=>?_) hm
 subst e
 cases r3
 exact wpAny_truthy_bool ⟨H3,I3,q3⟩
def tChain (r r':R2) (ta tb tc:TE):TE:=fun σ H Q=>ta σ H fun x H1=>tb σ H1 fun y H2=>r x y H2 fun z H3=>∃ k,z=.bl k ∧
 (if k=true then tc σ H3 fun w' H4=>r' y w' H4 Q else Q (.bl false) H3)
theorem pe_chain {op op':CmpOp} {r r':R2} (ho:OpR X (compareOp op) r) (ho':OpR X (compareOp op') r') (ha:PE X a ta) (hb:PE X b tb) (hc:PE X c tc)
  (hm:lastMarks [op,op'] [b,c]=false:=by with_unfolding_all rfl):PE X (.Compare a [op,op'] [b,c] pos) (tChain r r' ta tb tc):=by
 intro pins s σ H Q I h
 refine Compare_chain (thn (ha pins s σ H _ I h) fun v s1 ⟨x,H1,I1,r1,q1⟩=>chain_link (thn (hb pins s1 σ H1 _ I1 q1) fun u s2 ⟨y,H2,I2,r2,q2⟩ =>
  thn (ho pins s2 σ H2 x y v u _ I2 r1 r2 q2) fun d s3 ⟨z,H3,I3,r3,k,e,q3⟩=>?_)) hm
 subst e
 cases r3
 refine wpAny_truthy_bool ?_
 cases k with
 | false=>exact ite_ff ⟨.bl false,H3,I3,rfl,q3⟩
 | true=>exact ite_tt (chain_last (thn (hc pins s3 σ H3 _ I3 q3) fun w' s4 ⟨z',H4,I4,r4,q4⟩=>ho' pins s4 σ H4 y z' u w' Q I4 r2 r4 q4))
def TruV (K:PySem.W.Frag) (x:V) (H:Hp) (k:Bool):Prop :=
 match x with
 | .non=>k=false
 | .bl b=>k=b
 | .int i=>k=(i != 0)
 | .str y=>y.length≤sizeLine∧k=((y.length:Int) != 0)
 | .byt y=>y.size≤sizeLine∧k=((y.size:Int) != 0)
 | .ref p=>(∃ xs,SqL K H p xs∧k=!xs.isEmpty)∨(∃ xs,SqT K H p xs∧k=!xs.isEmpty)∨∃ kvs,H p=some (.dK kvs)∧k=!kvs.isEmpty
 | _=>False
theorem isEmpty_kv {κ:Type} {kvs:List (κ × V)} {vs:List (κ × Value)} (r:KV kvs vs):(!vs.isEmpty)=!kvs.isEmpty:=by
 cases r <;> rfl
theorem isEmpty_of {xs:List V} {its:List Value} (r:Vals xs its):(!its.toArray.isEmpty)=!xs.isEmpty:=by
 cases r <;> simp
theorem line63:(sizeLine:Nat) < 2 ^ 63:=by rw [sizeLine_eq];decide
theorem tru_ok:TruR X (fun x H Q=>∃ k,TruV X.K x H k∧Q k H):=by
 intro pins s σ H x v Q I rx h
 obtain ⟨k,e,q⟩:=h
 have hl:=line63
 have hs:sizeLine=16777216:=sizeLine_eq
 cases x with
 | non =>
  cases rx
  have e':k=false:=e
  subst e'
  exact truthy_none ⟨H,I,q⟩
 | bl b =>
  cases rx
  have e':k=b:=e
  subst e'
  exact wpAny_truthy_bool ⟨H,I,q⟩
 | int i =>
  obtain ⟨t,rfl⟩:=rx
  have e':k=(i != 0):=e
  subst e'
  exact PySem.P.truthy_int ⟨H,I,q⟩
 | str y =>
  obtain ⟨t,rfl⟩:=rx
  obtain ⟨hy,e'⟩:y.length≤sizeLine∧k=((y.length:Int) != 0):=e
  subst e'
  exact PySem.P.truthy_str (by omega) ⟨H,I.tok _,q⟩
 | byt y =>
  obtain ⟨t,rfl⟩:=rx
  obtain ⟨hy,e'⟩:y.size≤sizeLine∧k=((y.size:Int) != 0):=e
  subst e'
  exact PySem.W.truthy_bytes (by omega) ⟨H,I.tok _,q⟩
 | ref p =>
  cases rx
  have e':(∃ xs,SqL X.K H p xs∧k=!xs.isEmpty)∨(∃ xs,SqT X.K H p xs∧k=!xs.isEmpty)∨∃ kvs,H p=some (.dK kvs)∧k=!kvs.isEmpty:=e
  rcases e' with ⟨xs,hx,e'⟩ | ⟨xs,hx,e'⟩ | ⟨kvs,hx,e'⟩
  ·subst e'
   obtain ⟨its,r,pl,hz⟩:=I.list hx
   have hlen:=r.length
   exact wpAny_truthy_list pl.isList (by simp only [List.size_toArray];omega) ⟨H,I.tok _,by rw [isEmpty_of r];exact q⟩
  ·subst e'
   obtain ⟨its,r,pl,hz⟩:=I.tuple hx
   have hlen:=r.length
   exact truthy_tuple pl (by simp only [List.size_toArray];omega) ⟨H,I.tok _,by rw [isEmpty_of r];exact q⟩
  ·subst e'
   obtain ⟨hz,hS,vs,r,m⟩:kvs.length≤sizeLine∧(p == sysModules)=false∧∃ vs,KV kvs vs∧s.heap.DictOf (mixKind X.prog X.w) p vs:=I.hok p _ hx
   have hlen:kvs.length=vs.length:=Paired.length r
   exact wpAny_truthy_dict hS m (by omega) ⟨H,I.tok _,by rw [isEmpty_kv r];exact q⟩
 | _=>exact (show False from e).elim
theorem pt_truth (ha:PE X a ta) (he:∀ whole,isTrue a X.env whole=(do let v ← whole;standAt a.pos;holding [v] (truthy v))) :
  PT X a (fun σ H Q=>ta σ H fun x H'=>∃ k,TruV X.K x H' k∧Q k H'):=by
 intro pins s σ H Q I h
 exact isTrue_plain (thn (ha pins s σ H _ I h) fun v s1 ⟨x,H1,I1,r1,q1⟩=>tru_ok pins s1 σ H1 x v Q I1 r1 q1) (he _)
theorem vals1 {x:V} {us:List Value} (r:Vals [x] us):∃ u,us=[u]∧RelV x u:=by
 cases r with
 | cons r1 r2=>cases r2;exact ⟨_,rfl,r1⟩
theorem vals2 {x y:V} {us:List Value} (r:Vals [x,y] us):∃ u w',us=[u,w']∧RelV x u∧RelV y w':=by
 cases r with
 | cons r1 r2 =>
  cases r2 with
  | cons r3 r4=>cases r4;exact ⟨_,_,rfl,r1,r3⟩
theorem call_abs:CallR X (.builtin "abs") (fun xs H Q=>∃ i,xs=[.int i]∧Q (.int (if i < 0 then -i else i)) H):=by
 intro pins s σ H xs us Q I r h
 obtain ⟨i,rfl,q⟩:=h
 obtain ⟨u,rfl,t,rfl⟩:=vals1 r
 exact call_abs_int fun u tk=>⟨.int (if i < 0 then -i else i),H,I.tok _,⟨_,rfl⟩,q⟩
theorem call_max2 (hc:X.calm=true):CallR X (.builtin "max") (fun xs H Q=>∃ i j,xs=[.int i,.int j]∧Q (.int (if j > i then j else i)) H):=by
 intro pins s σ H xs us Q I r h
 obtain ⟨i,j,rfl,q⟩:=h
 obtain ⟨u,w',rfl,⟨t,rfl⟩,⟨t',rfl⟩⟩:=vals2 r
 refine max_two_ints (I.ok.hd hc) fun h' tk k=>⟨_,H,I.kept k,?_,q⟩
 by_cases hj:j > i
 ·rw [if_pos hj,if_pos hj];exact ⟨_,rfl⟩
 ·rw [if_neg hj,if_neg hj];exact ⟨_,rfl⟩
end
end L2
namespace L2
open PySem PySem.Spec PyProof.Rows
structure ObjM (h:Heap) (x dx C:Addr) (mA:Str→Option Value):Prop where
 obj:h.get? x=some (PySem.W.instObj C dx)
 ns:h.Ns1 dx mA
 ne:dx≠x
theorem lookIn_ns {h:Heap} {dx:Addr} {mA:Str→Option Value} (n:h.Ns1 dx mA):∃ od,h.get? dx=some od∧∀ name,PySem.W.lookIn name od=some (mA name):=by
 obtain ⟨o,es,ep,ho,hd,hk,_,hm⟩:=n
 refine ⟨o,ho,fun name=>?_⟩
 have e:=hm name
 unfold nsFind findBy at e
 rw [← Array.find?_toList] at e
 unfold PySem.W.lookIn
 rw [hd]
 dsimp only
 split
 ·rename_i y q
  rw [q] at e
  exact congrArg some e
 ·rename_i q
  rw [q] at e
  have a:es.toList.any (·.refKey)=false:=by
   rw [List.any_eq_false]
   intro y hy
   obtain ⟨z,t,hkey⟩:=hk y (Array.mem_toList_iff.mp hy)
   simp [DictEntry.refKey,hkey]
  have a':¬ es.toList.any (·.refKey)=true:=by rw [a];exact Bool.false_ne_true
  rw [if_neg a']
  exact congrArg some e
theorem ObjM.look {h:Heap} {x dx C:Addr} {mA:Str→Option Value} (I:ObjM h x dx C mA):∃ od,PySem.W.InstAt h x (PySem.W.instObj C dx) C (some od)∧∀ name,PySem.W.lookIn name od=some (mA name) :=
 let ⟨od,ho,hl⟩:=lookIn_ns I.ns
 ⟨od,⟨I.obj,rfl,rfl,ho⟩,hl⟩
section
variable {prog:Program} {w:World} {A:Around} {E:Value→Shared→Prop} {s:Shared} {K:PySem.W.Frag} {x dx C f:Addr} {mA:Str→Option Value} {name:Str} {v:Value}
theorem get_map {expr:Bool} {Q:Value→Shared→Prop} (X:K.In s.heap) (I:ObjM s.heap x dx C mA) (hg:PySem.W.plainGet K C name=true) (hh:PySem.W.hasDictIn K C=true)
  (ha:PySem.W.findIn K (.ref C) name=some none) (hv:mA name=some v) (hv':PySem.W.handedIn v=true) (h:Q v { s with toks:=s.toks + 1 }) :
  wpAny (model prog w) A (getAttr (.ref x) name expr) Q E s:=by
 obtain ⟨od,J,hl⟩:=I.look
 exact PySem.W.get_value X J (PySem.W.plainGet_of hg).1 (PySem.W.findObj_own hh ha rfl (by rw [hl,hv])) hv' h
theorem get_meth {pl:Sem Bool} {Q:Value × List Value→Shared→Prop} (X:K.In s.heap) (I:ObjM s.heap x dx C mA) (hg:PySem.W.plainGet K C name=true)
  (hf:PySem.W.findIn K (.ref C) name=some (some (.ref f))) (ht:PySem.W.isFn K (.ref f)=true) (hv:mA name=none) (h:Q (.ref f,[.ref x]) s) :
  wpAny (model prog w) A (getMethod (.ref x) name pl) Q E s:=by
 obtain ⟨od,J,hl⟩:=I.look
 exact PySem.W.method_fn X J (PySem.W.plainGet_of hg).1 (PySem.W.plainGet_of hg).2 hf (beq_iff_eq.mp ht) (by show (PySem.W.lookIn name od).map (·.isSome)=some false;rw [hl,hv];rfl) h
theorem set_map {ns:List Str} {Q:Unit→Shared→Prop} (X:K.In s.heap) (I:ObjM s.heap x dx C mA)
  (hs:PySem.W.findIn K (.ref C) "__setattr__"=some (some (.builtin "object.__setattr__"))) (hp:PySem.W.plainOver K C=true) (ht:PySem.W.takerIn K C name=some none) (hh:PySem.W.hasDictIn K C=true)
  (hw:PySem.Within mA ns) (hsz:ns.length≤sizeLine)
  (h:∀ h',ObjM h' x dx C (fun y=>if y=name then some v else mA y)→Heap.SameBut dx s.heap h'→Q () { s with heap:=h',toks:=s.toks + 2 }) :
  wpAny (model prog w) A (setAttr (.ref x) name v) Q E s:=by
 obtain ⟨od,J,hl⟩:=I.look
 refine PySem.W.set_plain X J hs (PySem.W.osa_open (s:={ s with toks:=s.toks + 1 }) (r:=none) X J hp ht fun b=>?_)
 obtain ⟨cd,hc,hd'⟩:=PySem.W.any_some hh
 have hx:s.heap.get? x=some ⟨.ref C,some dx,.plain,#[]⟩:=I.obj
 refine wpAny_bind (wpAny_pure (wpAny_bind (wpAny_bind (wpAny_loadPart hx (wpAny_bind (PySem.W.Looks.here (s:={ s with toks:=s.toks + 1 }) (PySem.W.looks_clsIn X hc) ?_))))))
 rw [hd']
 refine wpAny_pure (a:=some dx) (wpAny_bind (wpAny_pure (wpAny_bind ?_)))
 refine wpAny_nsSet1 (s:={ s with toks:=s.toks + 1 }) I.ns fun h' hn2 hs2=>?_
 obtain ⟨oD,esD,epD,hoD,hdD,hcD⟩:=hn2.count (PySem.Within.cons name v hw)
 refine wpAny_bind (wpAny_lookBehind hoD (by rw [hdD];exact pastItsLine_dict (Nat.le_trans hcD (by rw [List.length_cons];omega))) ?_)
 exact wpAny_pure (h _ ⟨(hs2.2 _ (Ne.symm I.ne)).trans I.obj,hn2,I.ne⟩ hs2)
theorem make_map {R:Result→Shared→Prop} {vs:List Value} {kw:List (Str × Value)} (X:K.In s.heap) (hm:PySem.W.makesIn K C=true)
  (hi:PySem.W.findIn K (.ref C) "__init__"=some (some (.ref f))) (hf:PySem.W.typeIn K (.ref f)=some (.type "function"))
  (h:codeAny (model prog w) (A.under (.builtin "type.__call__" ⟨.ref C::vs,kw⟩)) (.call (.ref f) ⟨.ref (s.heap.objs.size + 1)::vs,kw⟩) (PySem.W.InitBack (s.heap.objs.size + 1) R)
   { s with heap:=(s.heap.push PySem.W.emptyDict).push (PySem.W.instObj C s.heap.objs.size) }) :
  codeAny (model prog w) A (.call (.ref C) ⟨vs,kw⟩) R s:=by
 obtain ⟨hh,g,d,t,os⟩:=s
 exact PySem.W.make_core (PySem.W.makes_of X hm) (PySem.W.looks_findIn X hi) (fun self=>PySem.W.bind_fn X self hf) (.inl rfl) h
end
def putF (f:Str) (v:V):List (Str × V)→List (Str × V)
 | []=>[(f,v)]
 | (g,x)::r=>if g=f then (g,v)::r else (g,x)::putF f v r
theorem lookup_putF (f g:Str) (v:V):∀ fs:List (Str × V),(putF f v fs).lookup g=if g=f then some v else fs.lookup g
 | []=>by
  show List.lookup g [(f,v)]=_
  by_cases h:g=f
  ·have hb:(g == f)=true:=beq_iff_eq.mpr h
   simp only [List.lookup,hb,if_pos h]
  ·have hb:(g == f)=false:=beq_eq_false_iff_ne.mpr h
   simp only [List.lookup,hb,if_neg h]
 | (k,x)::r=>by
  have ih:=lookup_putF f g v r
  rw [show putF f v ((k,x)::r)=(if k=f then (k,v)::r else (k,x)::putF f v r) from rfl]
  by_cases hk:k=f
  ·rw [if_pos hk]
   by_cases h:g=k
   ·have hb:(g == k)=true:=beq_iff_eq.mpr h
    simp only [List.lookup,hb,if_pos (h.trans hk)]
   ·have hb:(g == k)=false:=beq_eq_false_iff_ne.mpr h
    simp only [List.lookup,hb,if_neg (fun e:g=f=>h (e.trans hk.symm))]
  ·rw [if_neg hk]
   by_cases h:g=k
   ·have hb:(g == k)=true:=beq_iff_eq.mpr h
    simp only [List.lookup,hb,if_neg (fun e:g=f=>hk (h.symm.trans e))]
   ·have hb:(g == k)=false:=beq_eq_false_iff_ne.mpr h
    simp only [List.lookup,hb]
    exact ih
theorem keys_putF (f:Str) (v:V):∀ fs:List (Str × V),f∈(putF f v fs).map (·.1)∧∀ g,g∈fs.map (·.1)→g∈(putF f v fs).map (·.1)
 | []=>⟨by simp [putF],fun g h=>by simp at h⟩
 | (k,x)::r=>by
  obtain ⟨i1,i2⟩:=keys_putF f v r
  rw [show putF f v ((k,x)::r)=(if k=f then (k,v)::r else (k,x)::putF f v r) from rfl]
  by_cases hk:k=f
  ·rw [if_pos hk]
   subst hk
   exact ⟨by simp,fun g h=>by simpa using h⟩
  ·rw [if_neg hk]
   refine ⟨?_,fun g h=>?_⟩
   ·rw [List.map_cons]
    exact List.mem_cons_of_mem _ i1
   ·rw [List.map_cons] at h ⊢
    rcases List.mem_cons.mp h with e | e
    ·exact List.mem_cons.mpr (.inl e)
    ·exact List.mem_cons_of_mem _ (i2 g e)
theorem length_putF (f:Str) (v:V):∀ fs:List (Str × V),(putF f v fs).length≤fs.length + 1
 | []=>by simp [putF]
 | (k,x)::r=>by
  have ih:=length_putF f v r
  rw [show putF f v ((k,x)::r)=(if k=f then (k,v)::r else (k,x)::putF f v r) from rfl]
  by_cases hk:k=f
  ·rw [if_pos hk,List.length_cons,List.length_cons];omega
  ·rw [if_neg hk,List.length_cons,List.length_cons];omega
theorem RelO.some_of {v:V} {o:Option Value} (r:RelO (some v) o):∃ u,o=some u∧RelV v u:=by
 cases o with
 | none=>exact (show False from r).elim
 | some u=>exact ⟨u,rfl,r⟩
theorem RelO.none_of {o:Option Value} (r:RelO none o):o=none:=by
 cases o with
 | none=>rfl
 | some u=>exact (show False from r).elim
theorem handed_of {v:V} {u:Value} (r:RelV v u):PySem.W.handedIn u=true:=by
 cases v with
 | non=>cases (show u=Value.none from r);rfl
 | bl b=>cases (show u=Value.bool b from r);rfl
 | int i=>obtain ⟨t,e⟩:=(show ∃ t,u=Value.int i t from r);cases e;rfl
 | str x=>obtain ⟨t,e⟩:=(show ∃ t,u=Value.str x t from r);cases e;rfl
 | byt b=>obtain ⟨t,e⟩:=(show ∃ t,u=Value.bytes b t from r);cases e;rfl
 | flt b=>obtain ⟨t,e⟩:=(show ∃ t,u=Value.float b t from r);cases e;rfl
 | ref a=>cases (show u=Value.ref a from r);rfl
 | ty n=>cases (show u=Value.type n from r);rfl
section
variable {P:Program} {w:World} {H H':Hp} {h h':Heap} {a C dx:Addr} {fs fs':List (Str × V)}
theorem ins_get (hok:HOk P w H h) (e:H a=some (.ins C dx fs)):∃ mA,ObjM h a dx C mA∧(∀ f,RelO (fs.lookup f) (mA f))∧PySem.Within mA (fs.map (·.1))∧fs.length≤1000∧H dx=some (.own a):=by
 obtain ⟨d,z,ne,ob,mA,n,r,q⟩:=(show ObjOk P w H h a (.ins C dx fs) from hok a _ e)
 exact ⟨mA,⟨ob,n,ne⟩,r,q,z,d⟩
end
structure Cls (K:PySem.W.Frag) (C:Addr):Prop where
 pg:PySem.W.plainGet K C Str.empty=true
 hd:PySem.W.hasDictIn K C=true
 po:PySem.W.plainOver K C=true
 sa:PySem.W.findIn K (.ref C) "__setattr__"=some (some (.builtin "object.__setattr__"))
theorem Cls.get {K:PySem.W.Frag} {C:Addr} (c:Cls K C) (f:Str):PySem.W.plainGet K C f=true:=c.pg
def NoAttr (K:PySem.W.Frag) (C:Addr) (f:Str):Prop:=PySem.W.findIn K (.ref C) f=some none
theorem NoAttr.taker {K:PySem.W.Frag} {C:Addr} {f:Str} (n:NoAttr K C f):PySem.W.takerIn K C f=some none:=by
 unfold PySem.W.takerIn
 rw [show PySem.W.findIn K (.ref C) f=some none from n]
 rfl
structure Meth (K:PySem.W.Frag) (C:Addr) (m:Str) (f:Addr):Prop where
 at_:PySem.W.findIn K (.ref C) m=some (some (.ref f))
 fn:PySem.W.isFn K (.ref f)=true
 kp:PySem.W.keepIn K (.ref f)=true
section
variable {X:Cx} {pins:List (Addr × Obj)} {σ:St} {H:Hp} {s:Shared} {a C dx:Addr} {fs:List (Str × V)} {f:Str} {v:V} {A:Around} {E:Value→Shared→Prop}
theorem getattr_ok {b:Bool} {Q:Value→Shared→Prop} (I:Inv X pins σ H s) (e:H a=some (.ins C dx fs)) (c:Cls X.K C) (n:NoAttr X.K C f) (l:fs.lookup f=some v)
  (h:∀ u s',Inv X pins σ H s'→RelV v u→Q u s'):wpAny (model X.prog X.w) A (getAttr (.ref a) f b) Q E s:=by
 obtain ⟨mA,O,r,_,_,_⟩:=ins_get I.hok e
 obtain ⟨u,hu,ru⟩:=RelO.some_of (v:=v) (o:=mA f) (by rw [← l];exact r f)
 exact get_map I.kIn O (c.get f) c.hd n hu (handed_of ru) (h u _ (I.tok _) ru)
theorem getmeth_ok {m:Str} {g:Addr} {pl:Sem Bool} {Q:Value × List Value→Shared→Prop} (I:Inv X pins σ H s) (e:H a=some (.ins C dx fs)) (c:Cls X.K C) (k:Meth X.K C m g) (l:fs.lookup m=none)
  (h:Q (.ref g,[.ref a]) s):wpAny (model X.prog X.w) A (getMethod (.ref a) m pl) Q E s:=by
 obtain ⟨mA,O,r,_,_,_⟩:=ins_get I.hok e
 have hn:mA m=none:=RelO.none_of (by rw [← l];exact r m)
 exact get_meth I.kIn O (c.get m) k.at_ k.fn hn h
theorem setattr_ok {y:V} {u:Value} {Q:Unit→Shared→Prop} (I:Inv X pins σ H s) (e:H a=some (.ins C dx fs)) (c:Cls X.K C) (n:NoAttr X.K C f) (hl:fs.length < 1000) (ry:RelV y u)
  (h:∀ s',Inv X pins σ (upd H a (.ins C dx (putF f y fs))) s'→Q () s'):wpAny (model X.prog X.w) A (setAttr (.ref a) f u) Q E s:=by
 obtain ⟨mA,O,r,wi,_,ho⟩:=ins_get I.hok e
 have hz:(fs.map (·.1)).length≤sizeLine:=by rw [List.length_map,sizeLine_eq];omega
 refine set_map I.kIn O c.sa c.po n.taker c.hd wi hz fun h' O' sb=>h _ ?_
 have hd:∃ o,h'.get? dx=some o:=let ⟨o,_,_,e',_⟩:=O'.ns;⟨o,e'⟩
 refine I.write (x:=a) (e:=dx) (by rw [e];exact True.intro) (.inr ho) (fun b q hb z=>(sb.2 b hb).trans z) hd ?_
 refine ⟨by rw [uN O.ne];exact ho,?_,O.ne,O'.obj,_,O'.ns,fun g=>?_,fun g hg=>?_⟩
 ·have:=length_putF f y fs;omega
 ·show RelO ((putF f y fs).lookup g) (if g=f then some u else mA g)
  rw [lookup_putF]
  by_cases q:g=f
  ·rw [if_pos q,if_pos q];exact ry
  ·rw [if_neg q,if_neg q];exact r g
 ·by_cases q:g=f
  ·rw [q];exact (keys_putF f y fs).1
  ·refine (keys_putF f y fs).2 g (wi g fun z=>hg ?_)
   show (if g=f then some u else mA g)=none
   rw [if_neg q];exact z
theorem Inv.made (I:Inv X pins σ H s):Inv X pins σ (upd (upd H s.heap.objs.size (.own (s.heap.objs.size + 1))) (s.heap.objs.size + 1) (.ins C s.heap.objs.size []))
  { s with heap:=(s.heap.push PySem.W.emptyDict).push (PySem.W.instObj C s.heap.objs.size) }:=by
 have e1:(s.heap.push PySem.W.emptyDict).get? s.heap.objs.size=some PySem.W.emptyDict:=Heap.get?_push_size s.heap rfl
 have e2:((s.heap.push PySem.W.emptyDict).push (PySem.W.instObj C s.heap.objs.size)).get? (s.heap.objs.size + 1)=some (PySem.W.instObj C s.heap.objs.size):=by
  have:=Heap.get?_push_size (s.heap.push PySem.W.emptyDict) (o:=PySem.W.instObj C s.heap.objs.size) rfl
  rwa [Heap.size_push] at this
 have e3:(s.heap.push PySem.W.emptyDict).Ns s.heap.objs.size (fun _=>none):=⟨PySem.W.emptyDict,#[],_,e1,rfl,(fun e he=>absurd he (by simp)),fun _=>rfl⟩
 have I1:=I.laid (a:=s.heap.objs.size) (o:=.own (s.heap.objs.size + 1)) (h':=s.heap.push PySem.W.emptyDict) (t':=s.toks) (fun b u q=>Heap.get?_push_of_some _ q) (Nat.le_refl _) ⟨_,e1⟩
 refine I1.laid (a:=s.heap.objs.size + 1) (o:=.ins C s.heap.objs.size []) (t':=s.toks) (fun b u q=>Heap.get?_push_of_some _ q) (Nat.le_of_eq (Heap.size_push _ _)) ?_
 have ne:s.heap.objs.size≠s.heap.objs.size + 1:=Nat.ne_of_lt (Nat.lt_succ_self _)
 refine ⟨by rw [uN ne,uS],Nat.zero_le _,ne,e2,fun _=>none,(Heap.Ns1.of_empty e3).at fun o q=>Heap.get?_push_of_some _ q,fun _=>True.intro,fun y hy=>absurd rfl hy⟩
theorem attr_of {prog:Program} {w:World} {env:Env} {e:Expr} {f:Str} {pos:Pos} {s:Shared} {Q:Value→Shared→Prop} (hb:attributeBase e f env (eval e env)=eval e env)
  (h:wpAny (model prog w) A (eval e env) (fun o s₁=>wpAny (model prog w) A (getAttr o f true) Q E s₁) E s):wpAny (model prog w) A (eval (.Attribute e f pos) env) Q E s :=
 Attribute_any_ h (by rw [arm_eval_Attribute,hb])
end
def tFld (K:PySem.W.Frag) (ta:TE) (f:Str):TE:=fun σ H Q=>ta σ H fun x H1=>∃ a C dx fs v,x=.ref a∧H1 a=some (.ins C dx fs)∧Cls K C∧NoAttr K C f∧fs.lookup f=some v∧Q v H1
def sFld (K:PySem.W.Frag) (ta tv:TE) (f:Str):TS:=fun D σ H=>tv σ H fun y H1=>ta σ H1 fun x H2=>∃ a C dx fs,x=.ref a∧H2 a=some (.ins C dx fs)∧Cls K C∧NoAttr K C f∧fs.length < 1000 ∧
 D.nx σ (upd H2 a (.ins C dx (putF f y fs)))
section
variable {X:Cx} {o e value:Expr} {f:Str} {pos pos' tpos:Pos} {ta tv:TE}
theorem pe_fld (he:PE X e ta) (hb:attributeBase e f X.env (eval e X.env)=eval e X.env):PE X (.Attribute e f pos) (tFld X.K ta f):=by
 intro pins s σ H Q I h
 refine attr_of hb (thn (he pins s σ H _ I h) fun u s1 ⟨x,H1,I1,rx,a,C,dx,fs,v,ex,ea,c,n,l,q⟩=>?_)
 subst ex
 obtain rfl:u=Value.ref a:=rx
 exact getattr_ok I1 ea c n l fun u' s2 I2 ru=>⟨v,H1,I2,ru,q⟩
theorem ps_fld (ha:PE X o ta) (hv:PE X value tv) (hs:swapsWith value (some (.Attribute o f pos')) pos.line X.env=pure false):PS X (.Assign [.Attribute o f pos'] value pos) (sFld X.K ta tv f):=by
 intro pins s σ H D I h
 refine plainObj_wpAny_Assign_Attribute (thn (hv pins s σ H _ I h) fun u s1 ⟨y,H1,I1,ry,q⟩=>thn (ha pins s1 σ H1 _ I1 q) fun ov s2 ⟨x,H2,I2,rx,a,C,dx,fs,ex,ea,c,n,l,q2⟩=>?_) hs
 subst ex
 obtain rfl:ov=Value.ref a:=rx
 exact setattr_ok I2 ea c n l ry fun s3 I3=>⟨σ,_,I3,q2⟩
theorem methcall_of {pl:Sem Bool} {m:Str} {apos:Pos} {args:List Expr} {pins:List (Addr × Obj)} {s:Shared} {σ:St} {H:Hp} {Q:Value→Shared→Prop} {te:TE} (he:PE X e te) (I:Inv X pins σ H s)
  (h:te σ H fun x H1=>∃ a C dx fs g,x=.ref a∧H1 a=some (.ins C dx fs)∧Cls X.K C∧Meth X.K C m g∧fs.lookup m=none ∧
   ∀ s1,Inv X pins σ H1 s1→wpAny (model X.prog X.w) X.A (callWith pos (.ref g) [.ref a] (backTo pos (starEach args X.env)) (backToKw pos (keywordEach [] X.env))) Q X.xe s1)
  (ht:eval (.Call (.Attribute e m apos) args [] pos) X.env=(do
   let ov ← eval e X.env
   standAt apos.atName
   let (f,first) ← holding [ov] (getMethod ov m pl)
   callWith pos f first (backTo pos (starEach args X.env)) (backToKw pos (keywordEach [] X.env)))) :
  wpAny (model X.prog X.w) X.A (eval (.Call (.Attribute e m apos) args [] pos) X.env) Q X.xe s:=by
 refine PySem.W.methodCall_KW (pl:=pl) (thn (he pins s σ H _ I h) fun u s1 ⟨x,H1,I1,rx,a,C,dx,fs,g,ex,ea,c,k,l,q⟩=>?_) ht
 subst ex
 obtain rfl:u=Value.ref a:=rx
 exact getmeth_ok I1 ea c k l (q s1 I1)
end
end L2
namespace L2
open PySem PySem.Spec PyProof.Rows
structure Room (k:Nat) (A:Around):Prop where
 hd:A.handled=none
 dp:A.depth + 3 * k + 5 < recursionLimit
 un:A.units + 16 * k + 200 < cLine
theorem Room.mono {j k:Nat} {A:Around} (r:Room k A) (h:j≤k):Room j A:=⟨r.hd,by have:=r.dp;omega,by have:=r.un;omega⟩
theorem Room.deeper {k:Nat} {A:Around} (r:Room (k + 1) A) (env:Env):Room k (A.deeper env) :=
 ⟨r.hd,by have:=r.dp;show A.depth + 1 + 3 * k + 5 < _;omega,by have:=r.un;show A.units + 3 + 16 * k + 200 < _;omega⟩
theorem make_depth {A:Around} {C:Addr} {us:List Value} {kw:List (Str × Value)}:(A.under (.builtin "type.__call__" ⟨.ref C::us,kw⟩)).depth=A.depth + 1:=by
 first | rfl | simp [Around.under,Code.weight,Code.isCreation,Code.isGuard,Code.isCaller,Code.frames,Code.isFrame,guardIds]
theorem make_units {A:Around} {C:Addr} {us:List Value} {kw:List (Str × Value)}:(A.under (.builtin "type.__call__" ⟨.ref C::us,kw⟩)).units=A.units + 1:=by
 first | rfl | simp [Around.under,Code.cUnits,Code.frames,Code.isFrame]
theorem Room.make {k:Nat} {A:Around} (r:Room (k + 1) A) (C:Addr) (us:List Value) (kw:List (Str × Value)):Room k (A.under (.builtin "type.__call__" ⟨.ref C::us,kw⟩)) :=
 ⟨r.hd,by have:=r.dp;rw [make_depth];omega,by have:=r.un;rw [make_units];omega⟩
theorem Room.depth {k:Nat} {A:Around} (r:Room k A):A.depth < recursionLimit:=by have:=r.dp;omega
theorem Room.units {k:Nat} {A:Around} (r:Room k A):A.units + 64 < cLine:=by have:=r.un;omega
def tNil:TA:=fun _ H Q=>Q [] H
def tCons (ta:TE) (tr:TA):TA:=fun σ H Q=>ta σ H fun x H1=>tr σ H1 fun xs H2=>Q (x::xs) H2
section
variable {X:Cx} {e:Expr} {es:List Expr} {te:TE} {t:TA} {pos:Pos}
theorem pN:PA X [] tNil:=fun _ _ _ _ H Q I h=>Calls.spliced_nil ⟨[],H,I,.nil,h⟩
theorem pY (ha:PE X e te) (hr:PA X es t) (hs:starEach (e::es) X.env=(false,eval e X.env)::starEach es X.env:=by rfl):PA X (e::es) (tCons te t):=by
 intro pos pins s σ H Q I h
 rw [hs]
 show wpAny _ _ (spliced ((false,eval e X.env)::backTo pos (starEach es X.env))) _ _ s
 refine Calls.spliced_cons (thn (ha pins s σ H _ I h) fun u s1 ⟨x,H1,I1,r1,q1⟩=>?_)
 exact thn (hr pos pins s1 σ H1 _ I1 q1) fun us s2 ⟨xs,H2,I2,r2,q2⟩=>⟨x::xs,H2,I2,.cons r1 r2,q2⟩
def tTup (t:TA):TE:=fun σ H Q=>t σ H fun xs H1=>xs.length≤sizeLine∧∀ p,H1 p=none→Q (.ref p) (upd H1 p (.tup xs))
def tLst (t:TA):TE:=fun σ H Q=>t σ H fun xs H1=>xs.length≤sizeLine∧∀ p,H1 p=none→Q (.ref p) (upd H1 p (.lst xs))
theorem pe_tup {x1} (h:PA X es t):PE X (.Tuple es x1 pos) (tTup t):=by
 intro pins s σ H Q I hq
 refine wpAny_Tuple_spliced (thn (h pos pins s σ H _ I hq) fun us s1 ⟨xs,H1,I1,r,z,q⟩=>⟨by rw [← r.length];exact z,?_⟩)
 have hf:H1 s1.heap.objs.size=none:=I1.hok.fresh (Nat.le_refl _)
 refine ⟨.ref s1.heap.objs.size,upd H1 s1.heap.objs.size (.tup xs),I1.laid (t':=s1.toks) (fun b u e=>Heap.get?_push_of_some _ e) (Nat.le_refl _) ?_,rfl,q _ hf⟩
 exact ⟨z,us,r,⟨_,Heap.get?_push_size _ rfl,rfl,_,rfl⟩⟩
theorem pe_lst (h:PA X es t):PE X (.List es pos) (tLst t):=by
 intro pins s σ H Q I hq
 refine wpAny_List_spliced (thn (h pos pins s σ H _ I hq) fun us s1 ⟨xs,H1,I1,r,z,q⟩=>⟨by rw [← r.length];exact z,?_⟩)
 have hf:H1 s1.heap.objs.size=none:=I1.hok.fresh (Nat.le_refl _)
 refine ⟨.ref s1.heap.objs.size,upd H1 s1.heap.objs.size (.lst xs),I1.laid (t':=s1.toks) (fun b u e=>Heap.get?_push_of_some _ e) (Nat.le_refl _) ?_,rfl,q _ hf⟩
 exact ⟨z,us,0,r,Heap.get?_push_size _ rfl⟩
end
abbrev Sp:=List V→Hp→VK→XK→Prop
abbrev CXT:=List Env→Hp→Shared→XK→Value→Shared→Prop
structure Env0 (P:Program) (w:World) (K:PySem.W.Frag) (mg:Str→Option Value) (base:Heap) (A:Around) (outer:List Env) (s:Shared) (H:Hp):Prop where
 frames:A.frames=some outer
 mod:Mod K mg base
 bs:∀ b o,base.get? b=some o→s.heap.get? b=some o∧H b=none
 bsz:base.objs.size≤s.heap.objs.size
 funs:s.heap.FunFrames base outer
 frf:∀ b∈frs outer,H b=none
 hok:HOk P w H s.heap
 bare:AllBare s.gens
def CE (outer:List Env) (P:Program) (w:World) (H:Hp) (s:Shared) (Q:VK) (u:Value) (s':Shared):Prop :=
 ∃ v H',s'.os=s.os∧AllBare s'.gens∧Un (frs outer) [] H H' s.heap s'.heap∧HOk P w H' s'.heap∧RelV v u∧Q v H'
def CR (CX:CXT) (outer:List Env) (P:Program) (w:World) (H:Hp) (s:Shared) (Q:VK) (E:XK) (r:Result) (s':Shared):Prop :=
 match r with
 | .ok (.ret u)=>CE outer P w H s Q u s'
 | .ok _=>False
 | .error e=>CX outer H s E e s'
structure FnOk (P:Program) (w:World) (K:PySem.W.Frag) (mg:Str→Option Value) (base:Heap) (CX:CXT) (k:Nat) (f:Addr) (fd:FuncData) (ps:List Str) (sp:Sp):Prop where
 len:∀ vs H Q E,sp vs H Q E→vs.length=ps.length
 run:∀ (A:Around) (outer:List Env) (s:Shared) (H:Hp) (args:Args) (us:List Value) (vs:List V) (Q:VK) (E:XK),Room k A→Env0 P w K mg base A outer s H→BindsTo s fd args (ps.zip us)→Vals vs us→sp vs H Q E →
  codeAny (model P w) A (.call (.ref f) args) (CR CX outer P w H s Q E) s
theorem FnOk.imp {P:Program} {w:World} {K:PySem.W.Frag} {mg:Str→Option Value} {base:Heap} {CX:CXT} {k:Nat} {f:Addr} {fd:FuncData} {ps:List Str} {sp sp':Sp} (F:FnOk P w K mg base CX k f fd ps sp)
  (h:∀ vs H Q E,sp' vs H Q E→sp vs H Q E):FnOk P w K mg base CX k f fd ps sp' :=
 ⟨fun vs H Q E q=>F.len vs H Q E (h _ _ _ _ q),fun A outer s H args us vs Q E hr he hb hv hs=>F.run A outer s H args us vs Q E hr he hb hv (h _ _ _ _ hs)⟩
theorem Env0.make {P:Program} {w:World} {K:PySem.W.Frag} {mg:Str→Option Value} {base:Heap} {A:Around} {outer:List Env} {s:Shared} {H:Hp} (e:Env0 P w K mg base A outer s H) (C:Addr) (us:List Value) (kw:List (Str × Value)) :
  Env0 P w K mg base (A.under (.builtin "type.__call__" ⟨.ref C::us,kw⟩)) outer s H:=⟨by first | exact e.frames | (simpa [Around.under,Code.envs,Code.isFrame,pushEnvs] using e.frames),e.mod,e.bs,e.bsz,e.funs,e.frf,e.hok,e.bare⟩
section
variable {X:Cx} {pins:List (Addr × Obj)} {σ:St} {H:Hp} {s s':Shared}
theorem Inv.env0 (I:Inv X pins σ H s):Env0 X.prog X.w X.K X.mg X.base X.A X.stack s H :=
 ⟨I.ok.frames,I.ok.mod,I.bs,Nat.le_trans I.ok.bsz I.sz,I.stack,I.stkFree,I.hok,I.bare⟩
theorem Inv.after {Q:VK} {u:Value} (I:Inv X pins σ H s) (h:CE X.stack X.prog X.w H s Q u s'):EP X pins σ Q u s':=by
 obtain ⟨v,H',os,bare,un,hok,r,q⟩:=h
 obtain ⟨hh,g,d,t,os'⟩:=s'
 obtain rfl:os'=s.os:=os
 exact ⟨v,H',I.call (h':=hh) (g':=g) (d':=d) (t':=t) (ch:=[]) un hok bare (fun b z=>absurd z (by simp)),r,q⟩
end
def tCall (sp:Sp) (dvs:List V) (E:XK) (t:TA):TE:=fun σ H Q=>t σ H fun vs H1=>sp (vs++dvs) H1 Q E
def tMeth (C:Addr) (m:Str) (sp:Sp) (dvs:List V) (E:XK) (ta:TE) (t:TA):TE:=fun σ H Q=>ta σ H fun x H1=>∃ a dx fs,x=.ref a∧H1 a=some (.ins C dx fs)∧fs.lookup m=none ∧
 t σ H1 fun vs H2=>sp (x::(vs++dvs)) H2 Q E
def tMake (C:Addr) (sp:Sp) (dvs:List V) (E:XK) (t:TA):TE:=fun σ H Q=>t σ H fun vs H1=>∀ x dx,H1 x=none→H1 dx=none→dx≠x →
 sp (.ref x::(vs++dvs)) (upd (upd H1 dx (.own x)) x (.ins C dx [])) (fun v H2=>v=.non∧Q (.ref x) H2) E
def Binds (K:PySem.W.Frag) (fd:FuncData) (ps:List Str) (ds:List Value):Prop :=
 ∀ (s:Shared) (us:List Value),K.In s.heap→(us++ds).length=ps.length→BindsTo s fd ⟨us,[]⟩ (ps.zip (us++ds))
theorem Binds.all {K:PySem.W.Frag} {fd:FuncData} {ps:List Str} (h:∀ us:List Value,us.length=ps.length→bindArgs fd ⟨us,[]⟩=pure (ps.zip us)):Binds K fd ps []:=fun s us _ hl=>by
 rw [List.append_nil] at hl ⊢
 exact .of_eq (h us hl)
def Passes (CX:CXT) (X:Cx) (E:XK):Prop:=∀ (pins:List (Addr × Obj)) (σ:St) (H:Hp) (s:Shared) (e:Value) (s':Shared),Inv X pins σ H s→CX X.stack H s E e s'→X.xe e s'
section
variable {X:Cx} {CX:CXT} {k:Nat} {f C:Addr} {fd:FuncData} {ps:List Str} {sp:Sp} {dvs:List V} {ds:List Value} {E:XK} {x m:Str} {p pos apos:Pos} {e o:Expr} {es:List Expr} {ta:TE} {t:TA}
theorem run_fn {pins:List (Addr × Obj)} {σ:St} {H:Hp} {s:Shared} {Q:VK} {us:List Value} {vs:List V} (F:FnOk X.prog X.w X.K X.mg X.base CX k f fd ps sp) (hr:Room k X.A) (hb:Binds X.K fd ps ds) (hd:Vals dvs ds) (hx:Passes CX X E)
  (I:Inv X pins σ H s) (r:Vals vs us) (h:sp (vs++dvs) H Q E):wpAny (model X.prog X.w) X.A (call (.ref f) us) (EP X pins σ Q) X.xe s:=by
 have r2:Vals (vs++dvs) (us++ds):=r.append hd
 have hl:(us++ds).length=ps.length:=by rw [← r2.length];exact F.len _ _ _ _ h
 refine wpAny_call (codeAny_mono (F.run X.A X.stack s H ⟨us,[]⟩ (us++ds) (vs++dvs) Q E hr I.env0 (hb s us I.kIn hl) r2 h) fun r s' hq=>?_)
 cases r with
 | error e=>exact hx pins σ H s e s' I hq
 | ok fl =>
  cases fl with
  | ret u=>exact I.after hq
  | next=>exact False.elim hq
  | brk=>exact False.elim hq
  | cont=>exact False.elim hq
theorem pe_call (F:FnOk X.prog X.w X.K X.mg X.base CX k f fd ps sp) (hr:Room k X.A) (hg:Gl X x) (hm:X.mg x=some (.ref f)) (hk:PySem.W.keepIn X.K (.ref f)=true) (hb:Binds X.K fd ps ds) (hd:Vals dvs ds) (hx:Passes CX X E)
  (ha:PA X (e::es) t) (hdb:(x == ("__debug__":Str))=false:=by decide) (he:starEach (e::es) X.env=(false,eval e X.env)::starEach es X.env:=by rfl) (hpl:(backTo pos (starEach es X.env)).any (·.1)=false:=by rfl) :
  PE X (.Call (.Name x p) (e::es) [] pos) (tCall sp dvs E t):=by
 intro pins s σ H Q I h
 refine wpAny_Call_Name_kw (ld_glob I hg hm ?_ hdb)
 refine PySem.W.callWith_K (h₀:=X.base) I.ok.mod.kin hk (thn (ha pos pins s σ H _ I h) fun us s1 ⟨vs,H1,I1,r,q⟩=>⟨I1.kIn,?_⟩) he hpl
 exact run_fn F hr hb hd hx I1 r q
theorem pe_meth {pl:Sem Bool} (he:PE X o ta) (c:Cls X.K C) (hm:Meth X.K C m f) (F:FnOk X.prog X.w X.K X.mg X.base CX k f fd ps sp) (hr:Room k X.A) (hb:Binds X.K fd ps ds) (hd:Vals dvs ds) (hx:Passes CX X E) (ha:PA X (e::es) t)
  (hst:starEach (e::es) X.env=(false,eval e X.env)::starEach es X.env:=by rfl) (hpl:(backTo pos (starEach es X.env)).any (·.1)=false:=by rfl)
  (ht:eval (.Call (.Attribute o m apos) (e::es) [] pos) X.env=(do
   let ov ← eval o X.env
   standAt apos.atName
   let (f,first) ← holding [ov] (getMethod ov m pl)
   callWith pos f first (backTo pos (starEach (e::es) X.env)) (backToKw pos (keywordEach [] X.env))):=by rfl) :
  PE X (.Call (.Attribute o m apos) (e::es) [] pos) (tMeth C m sp dvs E ta t):=by
 intro pins s σ H Q I h
 refine PySem.W.methodCall_KW (pl:=pl) (thn (he pins s σ H _ I h) fun u s1 ⟨x,H1,I1,rx,a,dx,fs,ex,ea,l,q⟩=>?_) ht
 subst ex
 obtain rfl:u=Value.ref a:=rx
 refine getmeth_ok I1 ea c hm l ?_
 refine PySem.W.callWith_K (first:=[.ref a]) (h₀:=X.base) I.ok.mod.kin hm.kp (thn (ha pos pins s1 σ H1 _ I1 q) fun us s2 ⟨vs,H2,I2,r,q2⟩=>⟨I2.kIn,?_⟩) hst hpl
 exact run_fn (us:=.ref a::us) (vs:=.ref a::vs) F hr hb hd hx I2 (.cons rfl r) q2
theorem pe_meth0 {pl:Sem Bool} (he:PE X o ta) (c:Cls X.K C) (hm:Meth X.K C m f) (F:FnOk X.prog X.w X.K X.mg X.base CX k f fd ps sp) (hr:Room k X.A) (hb:Binds X.K fd ps ds) (hd:Vals dvs ds) (hx:Passes CX X E)
  (ht:eval (.Call (.Attribute o m apos) [] [] pos) X.env=(do
   let ov ← eval o X.env
   standAt apos.atName
   let (f,first) ← holding [ov] (getMethod ov m pl)
   callWith pos f first (backTo pos (starEach [] X.env)) (backToKw pos (keywordEach [] X.env))):=by rfl) :
  PE X (.Call (.Attribute o m apos) [] [] pos) (tMeth C m sp dvs E ta tNil):=by
 intro pins s σ H Q I h
 refine PySem.W.methodCall_KW (pl:=pl) (thn (he pins s σ H _ I h) fun u s1 ⟨x,H1,I1,rx,a,dx,fs,ex,ea,l,q⟩=>?_) ht
 subst ex
 obtain rfl:u=Value.ref a:=rx
 refine getmeth_ok I1 ea c hm l ?_
 exact PySem.W.callWith_K0 (first:=[.ref a]) I1.kIn hm.kp (run_fn (us:=[.ref a]) (vs:=[.ref a]) F hr hb hd hx I1 (.cons rfl .nil) q)
structure Mk (K:PySem.W.Frag) (C f:Addr):Prop where
 makes:PySem.W.makesIn K C=true
 init:PySem.W.findIn K (.ref C) "__init__"=some (some (.ref f))
 fn:PySem.W.isFn K (.ref f)=true
 kp:PySem.W.keepIn K (.ref C)=true
theorem run_make {pins:List (Addr × Obj)} {σ:St} {H:Hp} {s:Shared} {Q:VK} {us:List Value} {vs:List V} (M:Mk X.K C f) (F:FnOk X.prog X.w X.K X.mg X.base CX k f fd ps sp) (hr:Room (k + 1) X.A) (hb:Binds X.K fd ps ds) (hd:Vals dvs ds)
  (hx:Passes CX X E) (I:Inv X pins σ H s) (r:Vals vs us)
  (h:∀ x dx,H x=none→H dx=none→dx≠x→sp (.ref x::(vs++dvs)) (upd (upd H dx (.own x)) x (.ins C dx [])) (fun v H2=>v=.non∧Q (.ref x) H2) E) :
  wpAny (model X.prog X.w) X.A (call (.ref C) us) (EP X pins σ Q) X.xe s:=by
 have hq:=h (s.heap.objs.size + 1) s.heap.objs.size (I.hok.fresh (Nat.le_succ _)) (I.hok.fresh (Nat.le_refl _)) (Nat.ne_of_lt (Nat.lt_succ_self _))
 have I2:=Inv.made (C:=C) I
 have r2:Vals (V.ref (s.heap.objs.size + 1)::(vs++dvs)) (Value.ref (s.heap.objs.size + 1)::(us++ds)):=.cons rfl (r.append hd)
 have hl:(Value.ref (s.heap.objs.size + 1)::us++ds).length=ps.length:=by
  have e:=r2.length
  rw [F.len _ _ _ _ hq] at e
  exact e.symm
 refine wpAny_call (make_map (f:=f) I.kIn M.makes M.init (beq_iff_eq.mp M.fn) (codeAny_mono (F.run _ X.stack _ _ ⟨Value.ref (s.heap.objs.size + 1)::us,[]⟩ (Value.ref (s.heap.objs.size + 1)::(us++ds)) _ _ E (hr.make C us [])
  (I2.env0.make C us []) (hb _ (Value.ref (s.heap.objs.size + 1)::us) I2.kIn hl) r2 hq) fun r s' hq'=>?_))
 cases r with
 | error e=>exact hx pins σ _ _ e s' I2 hq'
 | ok fl =>
  cases fl with
  | ret u =>
   obtain ⟨v,H',I3,rv,ev,q3⟩:=I2.after hq'
   subst ev
   exact ⟨rv,⟨V.ref (s.heap.objs.size + 1),H',I3,rfl,q3⟩⟩
  | next=>exact False.elim hq'
  | brk=>exact False.elim hq'
  | cont=>exact False.elim hq'
theorem pe_make (M:Mk X.K C f) (F:FnOk X.prog X.w X.K X.mg X.base CX k f fd ps sp) (hr:Room (k + 1) X.A) (hg:Gl X x) (hm:X.mg x=some (.ref C)) (hb:Binds X.K fd ps ds) (hd:Vals dvs ds) (hx:Passes CX X E)
  (ha:PA X (e::es) t) (hdb:(x == ("__debug__":Str))=false:=by decide) (he:starEach (e::es) X.env=(false,eval e X.env)::starEach es X.env:=by rfl) (hpl:(backTo pos (starEach es X.env)).any (·.1)=false:=by rfl) :
  PE X (.Call (.Name x p) (e::es) [] pos) (tMake C sp dvs E t):=by
 intro pins s σ H Q I h
 refine wpAny_Call_Name_kw (ld_glob I hg hm ?_ hdb)
 refine PySem.W.callWith_K (h₀:=X.base) I.ok.mod.kin M.kp (thn (ha pos pins s σ H _ I h) fun us s1 ⟨vs,H1,I1,r,q⟩=>⟨I1.kIn,?_⟩) he hpl
 exact run_make M F hr hb hd hx I1 r q
theorem pe_make0 (M:Mk X.K C f) (F:FnOk X.prog X.w X.K X.mg X.base CX k f fd ps sp) (hr:Room (k + 1) X.A) (hg:Gl X x) (hm:X.mg x=some (.ref C)) (hb:Binds X.K fd ps ds) (hd:Vals dvs ds) (hx:Passes CX X E)
  (hdb:(x == ("__debug__":Str))=false:=by decide):PE X (.Call (.Name x p) [] [] pos) (tMake C sp dvs E tNil):=by
 intro pins s σ H Q I h
 refine wpAny_Call_Name_kw (ld_glob I hg hm ?_ hdb)
 exact PySem.W.callWith_K0 I.kIn M.kp (run_make (us:=[]) M F hr hb hd hx I .nil h)
end
structure FnScope (N P:List Str) (sc:Scope):Prop where
 kind:sc.kind=.function
 co:sc.isCoroutine=false
 gen:sc.isGenerator=false
 nd:N.Nodup
 pre:N.take P.length=P
 par:∀ x∈P,sc.names.lookup x=some .local∨sc.names.lookup x=some .cell
 nofree:∀ y∈sc.names,y.2≠.free
theorem bindL_out {kindOf:Str→Option NameKind} {x:Str}:∀ {binds:List (Str × Value)} {m:Str→Option Value},(∀ v,(x,v) ∉ binds)→bindL kindOf binds m x=m x
 | [],_,_=>rfl
 | (n,v)::r,m,h=>by
  unfold bindL
  rw [bindL_out fun w hw=>h w (List.mem_cons_of_mem _ hw)]
  split
  ·have:x≠n:=by rintro rfl;exact h v List.mem_cons_self
   simp [this]
  ·rfl
theorem bindC_out {kindOf:Str→Option NameKind} {x:Str}:∀ {binds:List (Str × Value)} {m:Str→Option Value},(∀ v,(x,v) ∉ binds)→bindC kindOf binds m x=m x
 | [],_,_=>rfl
 | (n,v)::r,m,h=>by
  unfold bindC
  rw [bindC_out fun w hw=>h w (List.mem_cons_of_mem _ hw)]
  split
  ·rfl
  ·have:x≠n:=by rintro rfl;exact h v List.mem_cons_self
   simp [this]
theorem bindL_get {kindOf:Str→Option NameKind} {x:Str} {v:Value}:∀ {P:List Str} {vs:List Value} {i:Nat} {m:Str→Option Value},P.Nodup→P[i]?=some x→vs[i]?=some v→kindOf x=some .local →
  bindL kindOf (P.zip vs) m x=some v
 | [],_,_,_,_,h,_,_=>by simp at h
 | _::_,[],_,_,_,_,h,_=>by simp at h
 | p::P,w::vs,0,m,nd,h1,h2,hk=>by
  simp at h1 h2;subst h1;subst h2
  show bindL kindOf ((p,w)::P.zip vs) m p=_
  unfold bindL
  rw [bindL_out fun v hv=>(List.nodup_cons.mp nd).1 (List.of_mem_zip hv).1,if_pos hk]
  simp
 | p::P,w::vs,i + 1,m,nd,h1,h2,hk=>by
  show bindL kindOf ((p,w)::P.zip vs) m x=_
  unfold bindL
  exact bindL_get (i:=i) (List.nodup_cons.mp nd).2 (by simpa using h1) (by simpa using h2) hk
theorem bindC_get {kindOf:Str→Option NameKind} {x:Str} {v:Value}:∀ {P:List Str} {vs:List Value} {i:Nat} {m:Str→Option Value},P.Nodup→P[i]?=some x→vs[i]?=some v→kindOf x≠some .local →
  bindC kindOf (P.zip vs) m x=some v
 | [],_,_,_,_,h,_,_=>by simp at h
 | _::_,[],_,_,_,_,h,_=>by simp at h
 | p::P,w::vs,0,m,nd,h1,h2,hk=>by
  simp at h1 h2;subst h1;subst h2
  show bindC kindOf ((p,w)::P.zip vs) m p=_
  unfold bindC
  rw [bindC_out fun v hv=>(List.nodup_cons.mp nd).1 (List.of_mem_zip hv).1,if_neg hk]
  simp
 | p::P,w::vs,i + 1,m,nd,h1,h2,hk=>by
  show bindC kindOf ((p,w)::P.zip vs) m x=_
  unfold bindC
  exact bindC_get (i:=i) (List.nodup_cons.mp nd).2 (by simpa using h1) (by simpa using h2) hk
def start (N:List Str) (vs:List V):St:=vs.map some++List.replicate (N.length - vs.length) none
def cxOf (CX:CXT) (P:Program) (w:World) (K:PySem.W.Frag) (mg:Str→Option Value) (base:Heap) (N:List Str) (qual:Str) (scope:Scope) (f:Addr) (cd:Value) (A:Around) (outer:List Env) (s:Shared) (H:Hp) (E:XK):Cx where
 prog:=P
 w:=w
 K:=K
 mg:=mg
 base:=base
 A:=A.deeper (envOfC qual scope s.heap.objs.size f cd)
 N:=N
 s_0:=s
 H_0:=H
 env:=envOfC qual scope s.heap.objs.size f cd
 outer:=outer
 stack:=envOfC qual scope s.heap.objs.size f cd::outer
 ex:=[]
 calm:=true
 fn:=fun _=>true
 pn:=[]
 xe:=fun e s'=>wpAny (model P w) (A.deeper (envOfC qual scope s.heap.objs.size f cd)) (leaving (envOfC qual scope s.heap.objs.size f cd) e) (fun _ s''=>CX outer H s E e s'') (fun e' s''=>CX outer H s E e' s'') s'
theorem cell_has {sc:Scope} {n:Nat} {x:Str} (h:sc.names.lookup x=some .cell):∃ c,(cellsFrom n sc.names []).lookup x=some c:=by
 have q:=PySem.W.cellsFrom_some sc.names n [] (.inl h)
 exact Option.isSome_iff_exists.mp q
theorem inv_start {CX:CXT} {P:Program} {w:World} {K:PySem.W.Frag} {mg:Str→Option Value} {base:Heap} {N ps:List Str} {qual:Str} {scope:Scope} {f:Addr} {cd:Value} {A:Around} {outer:List Env} {s s1:Shared} {H:Hp} {E:XK} {us:List Value} {vs:List V}
  (S:FnScope N ps scope) (hd:A.handled=none) (e0:Env0 P w K mg base A outer s H) (hl:vs.length=ps.length) (r:Vals vs us)
  (x:InCallC s s.heap.objs.size (bindL (envOfC qual scope s.heap.objs.size f cd).kindOf (ps.zip us) fun _=>none) (cellsFrom (s.heap.objs.size + 1) scope.names []) (bindC (envOfC qual scope s.heap.objs.size f cd).kindOf (ps.zip us) fun _=>none) s1) :
  Inv (cxOf CX P w K mg base N qual scope f cd A outer s H E) [] (start N vs) H s1:=by
 have hpl:ps.length≤N.length:=by have:=congrArg List.length S.pre;rw [List.length_take] at this;omega
 obtain ⟨h1,tk,rfl,hk⟩:=x.done
 have noA:∀ b:Addr,b ∉ (cxOf CX P w K mg base N qual scope f cd A outer s H E).ex:=fun b z=>absurd (show b∈([]:List Addr) from z) (by simp)
 refine ⟨⟨e0.mod,S.kind,rfl,rfl,Nat.le_refl _,fun y z c h1 h2=>?_,fun y hy=>?_,fun y c _ h=>?_,fun _=>hd,Around.frames_deeper e0.frames,.inr ⟨rfl,rfl⟩,fun b z=>absurd z (noA b),e0.bs,e0.bsz,fun b _ _=>noA b,fun b z=>absurd z (noA b),e0.funs,e0.frf⟩,
  rfl,e0.bare,Un.kept hk,⟨_,x.toInCall.ns,fun i y v h1 h2 h3=>?_⟩,fun y c h=>⟨_,x.cell y c h⟩,e0.hok.fresh (Nat.le_refl _),fun y c h=>?_,fun p hp=>absurd (show p∈([]:List (Addr × Obj)) from hp) (by simp),e0.hok.kept hk,?_⟩
 ·exact name_of_addr x.apart (PySem.mem_of_lookup h1) (PySem.mem_of_lookup h2)
 ·have hy:scope.names.lookup y=some .cell∨scope.names.lookup y=some .free:=hy
  rcases hy with hy | hy
  ·exact cell_has hy
  ·exact absurd rfl (S.nofree _ (PySem.mem_of_lookup hy))
 ·exact Nat.le_of_lt (x.above y c (PySem.mem_of_lookup h))
 ·have hi:i < vs.length:=by
   unfold start at h2
   by_cases hi:i < vs.length
   ·exact hi
   ·rw [List.getElem?_append_right (by simpa using hi)] at h2
    rw [List.getElem?_replicate] at h2
    split at h2 <;> cases h2
  have ha:vs[i]?=some v:=by
   unfold start at h2
   rw [List.getElem?_append_left (by simpa using hi),List.getElem?_map] at h2
   cases e:vs[i]? with
   | none=>rw [e] at h2;cases h2
   | some a=>rw [e] at h2;cases h2;rfl
  obtain ⟨u,hu,rv⟩:=r.get ha
  have hp:ps[i]?=some y:=by
   rw [← S.pre,List.getElem?_take_of_lt (by omega)];exact h1
  have ndP:ps.Nodup:=by rw [← S.pre];exact S.nd.sublist (List.take_sublist _ _)
  refine ⟨u,rv,?_⟩
  rcases S.par y (List.mem_of_getElem? hp) with k | k
  ·exact .inl ⟨k,bindL_get ndP hp hu k⟩
  ·obtain ⟨c,e⟩:=cell_has (n:=s.heap.objs.size + 1) k
   refine .inr ⟨.inl k,c,e,?_⟩
   have q:=x.cell y c e
   rw [bindC_get ndP hp hu (by show scope.names.lookup y≠_;rw [k];decide)] at q
   exact q
 ·exact e0.hok.fresh (Nat.le_of_lt (x.above y c (PySem.mem_of_lookup h)))
 ·unfold start
  show _=N.length
  rw [List.length_append,List.length_map,List.length_replicate]
  omega
theorem fn_of {CX:CXT} {P:Program} {w:World} {K:PySem.W.Frag} {mg:Str→Option Value} {base:Heap} {k:Nat} {f:Addr} {name qual:Str} {params:Arguments} {body:List Stmt} {scope:Scope} {dV kV doc pm cdv ct oc:Value} {an od:Option Addr}
  {osl:Array (Option Value)} {N ps:List Str} {sp:Sp} (lk:K.lookup f=some ⟨oc,od,.func (PySem.W.fnOf name qual params body scope dV kV doc pm an cdv ct),osl⟩) (hcd:PySem.W.codeIn K cdv qual=true) (S:FnScope N ps scope)
  (len:∀ vs H Q E,sp vs H Q E→vs.length=ps.length)
  (hbody:∀ (A:Around) (outer:List Env) (s:Shared) (H:Hp) (vs:List V) (Q:VK) (E:XK),Room k (A.deeper (envOfC qual scope s.heap.objs.size f cdv))→sp vs H Q E →
   ∃ t,PSs (cxOf CX P w K mg base N qual scope f cdv A outer s H E) body t∧t { nx:=fun _ H'=>Q .non H',rt:=Q } (start N vs) H) :
  FnOk P w K mg base CX (k + 1) f (PySem.W.fnOf name qual params body scope dV kV doc pm an cdv ct) ps sp:=by
 refine ⟨len,fun A outer s H args us vs Q E hr e0 hb r hsp=>?_⟩
 have hl:=len _ _ _ _ hsp
 have KX:K.In s.heap:=e0.mod.kin.keeps fun b o e=>(e0.bs b o e).1
 have lim:s.heap.NoLimit:=e0.mod.nolimit.keeps fun b o e=>(e0.bs b o e).1
 have hkind:∀ y∈ps.zip us,scope.names.lookup y.1=some .local∨(scope.names.lookup y.1=some .cell∧((cellsFrom (s.heap.objs.size + 1) scope.names []).lookup y.1).isSome=true):=fun ⟨n,v⟩ hy=>by
  rcases S.par n (List.of_mem_zip hy).1 with q | q
  ·exact .inl q
  ·exact .inr ⟨q,PySem.W.cellsFrom_some _ _ _ (.inl q)⟩
 refine codeAny_call_function hr.depth (KX _ _ lk) rfl S.co S.gen rfl (PySem.W.codeRec_of KX hcd) (hb _ _ _ _ ?_)
 refine wpAny_newFunctionEnv_cells S.kind hkind fun env he s1 x=>?_
 subst he
 refine ⟨lim.keeps x.toInCall.keep,codeAny_func ?_⟩
 obtain ⟨t,ht,hq⟩:=hbody A outer s H vs Q E (hr.deeper _) hsp
 have I:Inv (cxOf CX P w K mg base N qual scope f cdv A outer s H E) [] (start N vs) H s1:=inv_start S hr.hd e0 hl r x
 refine wpAny_mono (ht [] s1 (start N vs) H _ I hq) (fun fl s' hs=>?_) fun e s' hs=>hs
 have fin:∀ {σ':St} {H':Hp} {v:V} {u:Value},Inv (cxOf CX P w K mg base N qual scope f cdv A outer s H E) [] σ' H' s'→RelV v u→Q v H'→CE outer P w H s Q u s' :=
  fun {σ' H' v u} J rv q=>⟨v,H',J.os,J.bare,J.base,J.hok,rv,q⟩
 cases fl with
 | ret u =>
  obtain ⟨v,σ',H',J,rv,q⟩:=hs
  exact fin J rv q
 | next =>
  obtain ⟨σ',H',J,q⟩:=hs
  exact fin (v:=V.non) (u:=Value.none) J rfl q
 | brk =>
  obtain ⟨_,_,_,q⟩:=hs
  exact False.elim q
 | cont =>
  obtain ⟨_,_,_,q⟩:=hs
  exact False.elim q
end L2
namespace L2
open PySem PySem.Spec PyProof.Rows
section
variable {X:Cx} {x:Str} {p pos:Pos} {e:Expr} {es:List Expr} {t:TA} {id T:String} {r:List V→Hp→VK→Prop}
def tCB (r:List V→Hp→VK→Prop) (t:TA):TE:=fun σ H Q=>t σ H fun vs H1=>r vs H1 Q
theorem pe_callB (hc:CallR X (.builtin id) r) (hg:Gl X x) (hm:X.mg x=none) (hv:bootBuiltins x=some (.builtin id)) (ha:PA X (e::es) t) (hn:x≠"__name__":=by decide) (hdb:(x == ("__debug__":Str))=false:=by decide)
  (he:starEach (e::es) X.env=(false,eval e X.env)::starEach es X.env:=by rfl) (hpl:(backTo pos (starEach es X.env)).any (·.1)=false:=by rfl):PE X (.Call (.Name x p) (e::es) [] pos) (tCB r t):=by
 intro pins s σ H Q I h
 refine wpAny_Call_Name_kw (ld_blt I hg hm hv ?_ hn hdb)
 exact PyProof.Rows.callWith_builtin1 (thn (ha pos pins s σ H _ I h) fun us s1 ⟨vs,H1,I1,r1,q1⟩=>hc pins s1 σ H1 vs us Q I1 r1 q1) he hpl
theorem pe_callTy (hc:CallR X (.type T) r) (hg:Gl X x) (hm:X.mg x=none) (hv:bootBuiltins x=some (.type T)) (ha:PA X (e::es) t) (hn:x≠"__name__":=by decide) (hdb:(x == ("__debug__":Str))=false:=by decide)
  (he:starEach (e::es) X.env=(false,eval e X.env)::starEach es X.env:=by rfl) (hpl:(backTo pos (starEach es X.env)).any (·.1)=false:=by rfl):PE X (.Call (.Name x p) (e::es) [] pos) (tCB r t):=by
 intro pins s σ H Q I h
 refine wpAny_Call_Name_kw (ld_blt I hg hm hv ?_ hn hdb)
 exact PyProof.Rows.callWith_type1 (thn (ha pos pins s σ H _ I h) fun us s1 ⟨vs,H1,I1,r1,q1⟩=>hc pins s1 σ H1 vs us Q I1 r1 q1) he hpl
end
end L2
namespace HT
open PySem PyProof.Rows
section
variable {prog:Program} {w:World} {A:Around} {E:Value→Shared→Prop} {s:Shared}
def sIx (n d:Nat):Option Int→Nat
 | none=>d
 | some v=>if v < 0 then (v + (n:Int)).toNat else min v.toNat n
theorem sIx_nat (n d k:Nat):sIx n d (some (k:Int))=min k n:=by
 show (if (k:Int) < 0 then ((k:Int) + (n:Int)).toNat else min (k:Int).toNat n)=min k n
 rw [if_neg (by omega),Int.toNat_natCast]
end
end HT
namespace L2
open PySem PySem.Spec PyProof.Rows
abbrev TO:=St→Hp→(Option Int→Hp→Prop)→Prop
def PO (X:Cx) (e:Option Expr) (t:TO):Prop :=
 ∀ (pins:List (Addr × Obj)) (s:Shared) (σ:St) (H:Hp) (Q:Option Int→Hp→Prop),Inv X pins σ H s→t σ H Q →
  wpAny (model X.prog X.w) X.A (evalPart e X.env) (fun u s'=>∃ o H',Inv X pins σ H' s'∧IsPart u o∧Q o H') X.xe s
def tNoPart:TO:=fun _ H Q=>Q none H
def tPart (t:TE):TO:=fun σ H Q=>t σ H fun x H1=>∃ i,x=.int i∧Q (some i) H1
section
variable {X:Cx} {e:Expr} {te:TE} {lo hi:Option Expr} {tl th:TO} {pos p2:Pos}
theorem po_none:PO X none tNoPart:=by
 intro pins s σ H Q I h
 rw [evalPart_none]
 exact wpAny_pure ⟨none,H,I,.none,h⟩
theorem po_some (h:PE X e te):PO X (some e) (tPart te):=by
 intro pins s σ H Q I hw
 rw [evalPart_some]
 refine thn (h pins s σ H _ I hw) fun u s1 ⟨x,H1,I1,r1,q1⟩=>?_
 obtain ⟨i,rfl,q⟩:=q1
 obtain ⟨t,rfl⟩:=r1
 exact ⟨some i,H1,I1,.int i t,q⟩
def SlR (X:Cx) (r:V→Option Int→Option Int→Hp→VK→Prop):Prop :=
 ∀ (pins:List (Addr × Obj)) (s:Shared) (σ:St) (H:Hp) (x:V) (v vl vu:Value) (lo hi:Option Int) (sl:Addr) (Q:VK),Inv X pins σ H s→RelV x v→s.heap.IsSliceOf sl vl vu .none→IsPart vl lo→IsPart vu hi→r x lo hi H Q →
  ∃ T id,typeLookup (.type T) "__getitem__"=pure (some (.builtin id))∧s.TypeIs v T∧wpAny (model X.prog X.w) X.A (getItem v (.ref sl)) (EP X pins σ Q) X.xe s
def tSl (r:V→Option Int→Option Int→Hp→VK→Prop) (te:TE) (tl th:TO):TE:=fun σ H Q=>te σ H fun x H1=>tl σ H1 fun l H2=>th σ H2 fun u H3=>r x l u H3 Q
theorem pe_slice {r:V→Option Int→Option Int→Hp→VK→Prop} (hr:SlR X r) (he:PE X e te) (hl:PO X lo tl) (hu:PO X hi th):PE X (.Subscript e (.Slice lo hi none p2) pos) (tSl r te tl th):=by
 intro pins s σ H Q I h
 refine Subscript_ (thn (he pins s σ H _ I h) fun v s1 ⟨x,H1,I1,r1,q1⟩=>?_)
 refine wpAny_Slice (thn (hl pins s1 σ H1 _ I1 q1) fun vl s2 ⟨l,H2,I2,pl,q2⟩=>thn (hu pins s2 σ H2 _ I2 q2) fun vu s3 ⟨u,H3,I3,pu,q3⟩=>?_)
 rw [evalPart_none]
 refine wpAny_pure ?_
 have I4:Inv X pins σ H3 { s3 with heap:=s3.heap.push { cls:=.type "slice",data:=.fields #[vl,vu,.none] } }:=I3.kept (t':=s3.toks) fun b ob q=>Heap.get?_push_of_some _ q
 obtain ⟨T,id,hT,ht,hg⟩:=hr pins { s3 with heap:=s3.heap.push { cls:=.type "slice",data:=.fields #[vl,vu,.none] } } σ H3 x v vl vu l u s3.heap.objs.size Q I4 r1 (Heap.IsSliceOf.new ..) pl pu q3
 show wpAny (model X.prog X.w) X.A (subscriptTail e (.Slice lo hi none p2) v (.ref s3.heap.objs.size)) (EP X pins σ Q) X.xe { s3 with heap:=s3.heap.push { cls:=.type "slice",data:=.fields #[vl,vu,.none] } }
 exact tail_any (ops:=[.ref s3.heap.objs.size,v]) ht hT hg (by with_unfolding_all rfl)
def cutV (xs:List V) (lo hi:Option Int):List V:=(xs.drop (HT.sIx xs.length 0 lo)).take (HT.sIx xs.length xs.length hi - HT.sIx xs.length 0 lo)
theorem cutV_length (xs:List V) (lo hi:Option Int):(cutV xs lo hi).length≤xs.length:=by
 unfold cutV
 rw [List.length_take,List.length_drop]
 omega
end
end L2
namespace L2
open PySem PySem.Spec PyProof.Rows
def ixN (n:Nat) (i:Int):Option Nat:=if 0≤i then (if i < n then some i.toNat else none) else if -(n:Int)≤i then some (i + n).toNat else none
def atI {α:Type} (xs:List α) (i:Int):Option α:=(ixN xs.length i).bind fun j=>xs[j]?
theorem ixN_seq {n:Nat} {i:Int} {j:Nat} (h:ixN n i=some j):seqIndex? i n=some j∧j < n∧-(n:Int)≤i∧i < n:=by
 unfold ixN at h
 by_cases h0:0≤i
 ·rw [if_pos h0] at h
  by_cases h1:i < n
  ·rw [if_pos h1] at h
   have e:i.toNat=j:=Option.some.inj h
   exact ⟨by rw [seqIndex_of h0 h1,e],by omega,by omega,h1⟩
  ·rw [if_neg h1] at h;cases h
 ·rw [if_neg h0] at h
  by_cases h1:-(n:Int)≤i
  ·rw [if_pos h1] at h
   have e:(i + n).toNat=j:=Option.some.inj h
   exact ⟨by rw [seqIndex_neg (by omega) h1,e],by omega,h1,by omega⟩
  ·rw [if_neg h1] at h;cases h
theorem atI_get {α:Type} {xs:List α} {i:Int} {v:α} (h:atI xs i=some v):∃ j,seqIndex? i xs.length=some j∧xs[j]?=some v∧j < xs.length∧-(xs.length:Int)≤i∧i < xs.length:=by
 unfold atI at h
 cases e:ixN xs.length i with
 | none=>rw [e] at h;cases h
 | some j =>
  rw [e] at h
  obtain ⟨h1,h2,h3,h4⟩:=ixN_seq e
  exact ⟨j,h1,h,h2,h3,h4⟩
theorem atI_nat {α:Type} {xs:List α} {j:Nat} {v:α} (h:xs[j]?=some v):atI xs (j:Int)=some v:=by
 have hj:j < xs.length:=(List.getElem?_eq_some_iff.mp h).1
 have e:ixN xs.length (j:Int)=some j:=by
  unfold ixN
  rw [if_pos (by omega),if_pos (by omega)];simp
 unfold atI;rw [e];exact h
def PlainIx (b:Expr):Prop:=∀ o i,subscripted b false o i=operate [o,i] (getItem o i)
def IxR (X:Cx) (r:R2):Prop :=
 ∀ (value slice:Expr) (pins:List (Addr × Obj)) (s:Shared) (σ:St) (H:Hp) (x y:V) (v u:Value) (Q:VK),Inv X pins σ H s→RelV x v→RelV y u→r x y H Q →
  subscripted slice false v u=operate [v,u] (getItem v u)→wpAny (model X.prog X.w) X.A (subscriptTail value slice v u) (EP X pins σ Q) X.xe s
def MtR (X:Cx) (id:String) (r:V→List V→Hp→VK→Prop):Prop :=
 ∀ (pins:List (Addr × Obj)) (s:Shared) (σ:St) (H:Hp) (x:V) (xs:List V) (v:Value) (us:List Value) (Q:VK),Inv X pins σ H s→RelV x v→Vals xs us→r x xs H Q →
  wpAny (model X.prog X.w) X.A (call (.builtin id) (v::us)) (EP X pins σ Q) X.xe s
section
variable {X:Cx} {a b:Expr} {ta tb:TE} {pos:Pos}
theorem pe_ix {r:R2} (hr:IxR X r) (ha:PE X a ta) (hb:PE X b tb) (hs:PlainIx b):PE X (.Subscript a b pos) (tOp r ta tb):=by
 intro pins s σ H Q I h
 exact Subscript_ (binT ha hb I h fun v u s2 x y H2 I2 rx ry q=>hr a b pins s2 σ H2 x y v u Q I2 rx ry q (hs _ _))
def rIxL (K:PySem.W.Frag):R2:=fun x y H Q=>∃ p xs i v,x=.ref p∧y=.int i∧SqL K H p xs∧atI xs i=some v∧Q v H
def rIxT (K:PySem.W.Frag):R2:=fun x y H Q=>∃ p xs i v,x=.ref p∧y=.int i∧SqT K H p xs∧atI xs i=some v∧Q v H
theorem ix_list:IxR X (rIxL X.K):=by
 intro value slice pins s σ H x y v u Q I rx ry h hs
 obtain ⟨p,xs,i,z,rfl,rfl,hq,he,q⟩:=h
 cases rx
 obtain ⟨t,rfl⟩:=ry
 obtain ⟨its,r,pl,hz⟩:=I.list hq
 obtain ⟨j,h1,h2,h3,h4,h5⟩:=atI_get he
 obtain ⟨w,ew,rw'⟩:=r.get h2
 have hl:=r.length
 have hn:=line63
 have fin:EP X pins σ Q w s:=⟨z,H,I,rw',q⟩
 by_cases h0:0≤i
 ·have hj:i.toNat=j:=by
   rw [seqIndex_of h0 h5] at h1
   exact Option.some.inj h1
  exact item_listR pl.isList h0 (by omega) (by rw [hj];simpa using ew) fin hs
 ·have hj:(i + (its.toArray.size:Int)).toNat=j:=by
   rw [seqIndex_neg (by omega) h4] at h1
   rw [List.size_toArray,← hl]
   exact Option.some.inj h1
  exact subscriptTail_builtinR (x:=w) pl.isList.typeIs slot_list_getitem.lookup
   (wpAny_getItem_list_neg (Q:=fun r s'=>r=w∧EP X pins σ Q r s') pl.isList (by omega) (by rw [List.size_toArray] <;> omega) (by omega) (by rw [hj];simpa using ew) ⟨rfl,fin⟩) hs
theorem ix_tup:IxR X (rIxT X.K):=by
 intro value slice pins s σ H x y v u Q I rx ry h hs
 obtain ⟨p,xs,i,z,rfl,rfl,hq,he,q⟩:=h
 cases rx
 obtain ⟨t,rfl⟩:=ry
 obtain ⟨its,r,pl,hz⟩:=I.tuple hq
 obtain ⟨j,h1,h2,h3,h4,h5⟩:=atI_get he
 obtain ⟨w,ew,rw'⟩:=r.get h2
 have hl:=r.length
 have hn:=line63
 have fin:EP X pins σ Q w s:=⟨z,H,I,rw',q⟩
 exact subscriptTail_builtinR (x:=w) pl.typeIs slot_tuple_getitem.lookup
  (getItem_tuple (j:=j) (Q:=fun r s'=>r=w∧EP X pins σ Q r s') pl (by omega) (by omega) (by rw [List.size_toArray,← hl];exact h1) (by simpa using ew) ⟨rfl,fin⟩) hs
theorem mapSeq_set (its:List Value) (n j:Nat) (u:Value):Obj.mapSeq (·.setIfInBounds j u) { cls:=.type "list",data:=.seq its.toArray n }={ cls:=.type "list",data:=.seq (its.set j u).toArray n }:=by
 simp [Obj.mapSeq]
theorem Inv.lst {pins:List (Addr × Obj)} {σ:St} {H:Hp} {s:Shared} {p:Addr} {xs:List V} (I:Inv X pins σ H s) (h:H p=some (.lst xs)) :
  ∃ (its:List Value) (n:Nat),Vals xs its∧s.heap.get? p=some { cls:=.type "list",data:=.seq its.toArray n }∧xs.length≤sizeLine:=by
 obtain ⟨z,its,n,r,e⟩:=I.hok p _ h
 exact ⟨its,n,r,e,z⟩
theorem Inv.lstUpd {pins:List (Addr × Obj)} {σ:St} {H:Hp} {s:Shared} {p:Addr} {xs ys:List V} {its its':List Value} {n n':Nat} {f:Obj→Obj} (I:Inv X pins σ H s) (h:H p=some (.lst xs))
  (ho:s.heap.get? p=some { cls:=.type "list",data:=.seq its.toArray n }) (hf:f { cls:=.type "list",data:=.seq its.toArray n }={ cls:=.type "list",data:=.seq its'.toArray n' }) (r:Vals ys its') (hz:ys.length≤sizeLine) (t:Nat) :
  Inv X pins σ (upd H p (.lst ys)) { s with heap:=s.heap.update p f,toks:=t }:=by
 have e:(s.heap.update p f).get? p=some { cls:=.type "list",data:=.seq its'.toArray n' }:=by
  rw [Heap.get?_update_self f ho (by rw [hf] <;> rfl),hf]
 refine I.write (x:=p) (e:=p) (by rw [h];trivial) (.inl rfl) (fun b u hb q=>(Heap.get?_update_other _ _ (Ne.symm hb)).trans q) ⟨_,e⟩ ?_
 exact ⟨hz,its',n',r,e⟩
def rSetL:V→V→V→Hp→(Hp→Prop)→Prop:=fun o i v H Q=>∃ p xs k j,o=.ref p∧i=.int k∧H p=some (.lst xs)∧ixN xs.length k=some j∧Q (upd H p (.lst (xs.set j v)))
theorem set_list:PSet X rSetL:=by
 intro pins s σ H o i v ov iv u Q I ro ri rv h
 obtain ⟨p,xs,k,j,rfl,rfl,hp,hj,q⟩:=h
 cases ro
 obtain ⟨t,rfl⟩:=ri
 obtain ⟨its,n,r,ho,hz⟩:=I.lst hp
 obtain ⟨h1,h2,h3,h4⟩:=ixN_seq hj
 have hl:=r.length
 have hn:=line63
 have I':Inv X pins σ (upd H p (.lst (xs.set j v))) { s with heap:=s.heap.update p (Obj.mapSeq (·.setIfInBounds j u)) } :=
  I.lstUpd hp ho (mapSeq_set its n j u) (r.set rv j) (by rw [List.length_set];exact hz) s.toks
 by_cases h0:0≤k
 ·have hk:k.toNat=j:=by
   rw [seqIndex_of h0 h4] at h1
   exact Option.some.inj h1
  exact PySem.W.ki_setAt ho h0 (by omega) (by rw [List.size_toArray,← hl];exact h4) (by rw [hk];exact ⟨_,I',q⟩)
 ·have hk:(k + (its.toArray.size:Int)).toNat=j:=by
   rw [seqIndex_neg (by omega) h3] at h1
   rw [List.size_toArray,← hl]
   exact Option.some.inj h1
  exact PySem.W.ki_setBack ho (by omega) (by rw [List.size_toArray,← hl];exact h3) (by omega) (by rw [hk];exact ⟨_,I',q⟩)
theorem slice_bounds (lo hi:Option Int) (n:Nat):(sliceBounds lo hi none n).1=((HT.sIx n 0 lo:Nat):Int)∧(sliceBounds lo hi none n).2.1=((HT.sIx n n hi:Nat):Int)∧(sliceBounds lo hi none n).2.2=1:=by
 refine ⟨?_,?_,rfl⟩
 ·cases lo with
  | none=>simp [sliceBounds,HT.sIx]
  | some i =>
   simp only [sliceBounds,HT.sIx,Option.getD_none,show (1:Int) > 0 by decide,if_true]
   by_cases h:i < 0
   ·simp only [h,if_true] <;> omega
   ·simp only [h,if_false] <;> omega
 ·cases hi with
  | none=>simp [sliceBounds,HT.sIx]
  | some i =>
   simp only [sliceBounds,HT.sIx,Option.getD_none,show (1:Int) > 0 by decide,if_true]
   by_cases h:i < 0
   ·simp only [h,if_true] <;> omega
   ·simp only [h,if_false] <;> omega
theorem slicePick_cut (its:List Value) (lo hi:Option Int):slicePick its.toArray lo hi none=((its.drop (HT.sIx its.length 0 lo)).take (HT.sIx its.length its.length hi - HT.sIx its.length 0 lo)).toArray:=by
 obtain ⟨h1,h2,h3⟩:=slice_bounds lo hi its.toArray.size
 unfold slicePick
 rw [h1,h2,h3]
 simp only [sliceRange_one,pick_run,List.size_toArray] <;> rfl
def rSlL (K:PySem.W.Frag):V→Option Int→Option Int→Hp→VK→Prop:=fun x lo hi H Q=>∃ a xs,x=.ref a∧SqL K H a xs∧∀ p,H p=none→Q (.ref p) (upd H p (.lst (cutV xs lo hi)))
theorem sl_list:SlR X (rSlL X.K):=by
 intro pins s σ H x v vl vu lo hi sl Q I rx hs pl pu h
 obtain ⟨a,xs,rfl,hx,q⟩:=h
 cases rx
 obtain ⟨its,r,ht,hz⟩:=I.list hx
 have hlen:=r.length
 refine ⟨"list",_,slot_list_getitem.lookup,ht.isList.typeIs,?_⟩
 refine wpAny_getItem_list_slice ht.isList hs pl pu .none (by simp) ?_ (by rw [List.size_toArray] <;> omega)
 rw [slicePick_cut,← hlen]
 refine ⟨.ref s.heap.objs.size,_,I.laid (t':=s.toks) (o:=.lst (cutV xs lo hi)) (fun b ob q=>Heap.get?_push_of_some _ q) (Nat.le_refl _) ?_,rfl,q _ (I.hok.fresh (Nat.le_refl _))⟩
 exact ⟨Nat.le_trans (cutV_length xs lo hi) hz,_,0,(r.drop (HT.sIx xs.length 0 lo)).take (HT.sIx xs.length xs.length hi - HT.sIx xs.length 0 lo),Heap.get?_push_size _ rfl⟩
theorem call_len_seq:CallR X (.builtin "len") (fun xs H Q=>∃ p ys,xs=[.ref p]∧(SqL X.K H p ys∨SqT X.K H p ys)∧Q (.int ys.length) H):=by
 intro pins s σ H xs us Q I r h
 obtain ⟨p,ys,rfl,hq,q⟩:=h
 obtain ⟨u,rfl,rx⟩:=vals1 r
 cases rx
 have hn:=line63
 rcases hq with hq | hq
 ·obtain ⟨its,r',pl,hz⟩:=I.list hq
  have hlen:=r'.length
  exact Calls.call_len_list pl.isList (by simp only [List.size_toArray] <;> omega) ⟨.int ys.length,H,I.tok _,⟨s.toks + 1,by rw [List.size_toArray,hlen]⟩,q⟩
 ·obtain ⟨its,r',pl,hz⟩:=I.tuple hq
  have hlen:=r'.length
  exact len_tuple pl (by simp only [List.size_toArray] <;> omega) ⟨.int ys.length,H,I.tok _,⟨s.toks + 1,by rw [List.size_toArray,hlen]⟩,q⟩
theorem call_list_of:CallR X (.type "list") (fun xs H Q=>∃ p ys,xs=[.ref p]∧(SqL X.K H p ys∨SqT X.K H p ys)∧∀ l,H l=none→Q (.ref l) (upd H l (.lst ys))):=by
 intro pins s σ H xs us Q I r h
 obtain ⟨p,ys,rfl,hq,q⟩:=h
 obtain ⟨u,rfl,rx⟩:=vals1 r
 cases rx
 have fin:∀ (its:List Value),Vals ys its→ys.length≤sizeLine→∀ (h':Heap) (c':Nat),(∀ b o',s.heap.get? b=some o'→h'.get? b=some o') →
   h'.get? s.heap.objs.size=some { cls:=.type "list",dict:=none,data:=.seq its.toArray c',slots:=#[] }→EP X pins σ Q (.ref s.heap.objs.size) { s with heap:=h' }:=fun its r' hz h' c' kp e =>
  ⟨.ref s.heap.objs.size,_,I.laid (t':=s.toks) kp (Nat.le_refl _) (show ObjOk X.prog X.w _ h' _ (.lst ys) from ⟨hz,its,c',r',e⟩),rfl,q _ (I.hok.fresh (Nat.le_refl _))⟩
 rcases hq with hq | hq
 ·obtain ⟨its,r',pl,hz⟩:=I.list hq
  have hlen:=r'.length
  obtain ⟨o,ho,hc,n,hd⟩:=pl.isList
  exact call_list_seq p (.inl rfl) ho hc hd (fun h' c' kp e=>fin its r' hz h' c' kp e) (by simp only [List.size_toArray] <;> omega)
 ·obtain ⟨its,r',pl,hz⟩:=I.tuple hq
  have hlen:=r'.length
  obtain ⟨o,ho,hc,n,hd⟩:=pl
  exact call_list_seq p (.inr rfl) ho hc hd (fun h' c' kp e=>fin its r' hz h' c' kp e) (by simp only [List.size_toArray] <;> omega)
def tyV (K:PySem.W.Frag) (T:String) (x:V) (H:Hp):Prop:=match x with
 | .str _=>T="str"
 | .int _=>T="int"
 | .ref p=>(T="list"∧∃ xs,SqL K H p xs)∨(T="tuple"∧∃ o,K.lookup p=some o∧o.cls=.type "tuple"∧o.dict=none) ∨
   (T="dict"∧((∃ kvs,H p=some (.dK kvs))∨∃ kvs,H p=some (.dT kvs)))∨(T="set"∧∃ S n,H p=some (.set S n))
 | _=>False
theorem tyV_is {pins:List (Addr × Obj)} {σ:St} {H:Hp} {s:Shared} {T:String} {x:V} {v:Value} (I:Inv X pins σ H s) (r:RelV x v) (ty:tyV X.K T x H) :
  s.TypeIs v T∧∀ a,v=.ref a→∃ ob,s.heap.get? a=some ob∧ob.dict=none:=by
 cases x with
 | str z =>
  obtain ⟨t,rfl⟩:=r
  cases (show T="str" from ty)
  exact ⟨typeIs_str s z t,fun _ e=>nomatch e⟩
 | int i =>
  obtain ⟨t,rfl⟩:=r
  cases (show T="int" from ty)
  exact ⟨typeIs_int s i t,fun _ e=>nomatch e⟩
 | ref p =>
  cases r
  rcases ty with ⟨rfl,xs,hq⟩ | ⟨rfl,o,hk,hc,hd⟩ | ⟨rfl,hk⟩ | ⟨rfl,S,n,hk⟩
  ·obtain ⟨its,_,pl,_⟩:=I.list hq
   refine ⟨pl.isList.typeIs,fun a e=>?_⟩
   cases e
   obtain ⟨o,n,e,c,hd,_⟩:=pl
   exact ⟨o,e,hd⟩
  ·refine ⟨⟨o,I.kIn p o hk,hc⟩,fun a e=>?_⟩
   cases e
   exact ⟨o,I.kIn _ o hk,hd⟩
  ·have z:∃ o,s.heap.get? p=some o∧o.ExactDict:=by
    rcases hk with ⟨kvs,hk⟩ | ⟨kvs,hk⟩
    ·obtain ⟨_,_,_,_,o,_,_,e,ex,_⟩:=I.hok p _ hk
     exact ⟨o,e,ex⟩
    ·obtain ⟨_,_,_,_,o,_,_,e,ex,_⟩:=I.hok p _ hk
     exact ⟨o,e,ex⟩
   obtain ⟨o,e,ex⟩:=z
   refine ⟨⟨o,e,ex.1⟩,fun a e2=>?_⟩
   cases e2
   exact ⟨o,e,ex.2.1⟩
  ·obtain ⟨o,_,_,_,e,ex,_⟩:=I.hok p _ hk
   refine ⟨⟨o,e,ex.1⟩,fun a e2=>?_⟩
   cases e2
   exact ⟨o,e,ex.2.1⟩
 | _=>exact False.elim ty
def tBM0 (K:PySem.W.Frag) (T:String) (r:V→List V→Hp→VK→Prop) (to:TE):TE:=fun σ H Q=>to σ H fun x H1=>tyV K T x H1∧r x [] H1 Q
def tBM (K:PySem.W.Frag) (T:String) (r:V→List V→Hp→VK→Prop) (to:TE) (t:TA):TE:=fun σ H Q=>to σ H fun x H1=>tyV K T x H1∧t σ H1 fun xs H2=>r x xs H2 Q
variable {o e:Expr} {es:List Expr} {to:TE} {t:TA} {name:Str} {apos cpos:Pos} {T id:String} {r:V→List V→Hp→VK→Prop}
theorem pe_bm0 (pa:PlainAttrs T) (slot:Slot T name id) (hty:typeOf (.builtin id)=pure (.type "method_descriptor")) (hm:MtR X id r) (ho:PE X o to)
  (hbase:attributeBase o name X.env (eval o X.env)=eval o X.env:=by rfl) (hline:(apos.endLine == cpos.line)=true:=by rfl):PE X (.Call (.Attribute o name apos) [] [] cpos) (tBM0 X.K T r to):=by
 intro pins s σ H Q I h
 refine wpAny_Call_method0_late hbase hline (thn (ho pins s σ H _ I h) fun v s1 ⟨x,H1,I1,r1,ty,q1⟩=>?_)
 obtain ⟨h1,h2⟩:=tyV_is I1 r1 ty
 exact ⟨T,id,pa,slot,hty,h1,h2,Calls.callWith_builtin rfl (PySem.evalArgs_none (hm pins s1 σ H1 x [] v [] Q I1 r1 .nil q1))⟩
theorem pe_bm (pa:PlainAttrs T) (slot:Slot T name id) (hty:typeOf (.builtin id)=pure (.type "method_descriptor")) (hm:MtR X id r) (ho:PE X o to) (ha:PA X (e::es) t)
  (hbase:attributeBase o name X.env (eval o X.env)=eval o X.env:=by rfl)
  (hfew:((backTo cpos (starEach (e::es) X.env)).all (fun x=>!x.1) && (backToKw cpos (keywordEach [] X.env)).all (fun x=>x.1.isSome)
   && decide ((e::es).length + ([]:List Keyword).length + (if ([]:List Keyword).isEmpty then 0 else 1) < 30))=true:=by rfl)
  (hline:(apos.endLine == cpos.line)=true:=by rfl) (hs:starEach (e::es) X.env=(false,eval e X.env)::starEach es X.env:=by rfl) (hplain:(backTo cpos (starEach es X.env)).any (·.1)=false:=by rfl) :
  PE X (.Call (.Attribute o name apos) (e::es) [] cpos) (tBM X.K T r to t):=by
 intro pins s σ H Q I h
 refine wpAny_Call_method_late hbase hfew hline rfl (thn (ho pins s σ H _ I h) fun v s1 ⟨x,H1,I1,r1,ty,q1⟩=>?_)
 obtain ⟨h1,h2⟩:=tyV_is I1 r1 ty
 refine ⟨T,id,pa,slot,hty,h1,h2,?_⟩
 have hA:=ha cpos pins s1 σ H1 _ I1 q1
 rw [hs] at hA ⊢
 refine Calls.callWith_builtin (by show (false || (backTo cpos (starEach es X.env)).any (·.1))=false;rw [hplain] <;> rfl) (Calls.evalArgs_plain ?_)
 exact thn hA fun us s2 ⟨vs,H2,I2,r2,q2⟩=>hm pins s2 σ H2 x vs v us Q I2 r1 r2 q2
end
end L2
namespace L2
open PySem PySem.Spec PyProof.Rows
def MtM (X:Cx) (id:String) (r:V→List V→Hp→VK→Prop):Prop :=
 ∀ (pins:List (Addr × Obj)) (s:Shared) (σ:St) (H:Hp) (x:V) (xs:List V) (v:Value) (us:List Value) (Q:VK),Inv X pins σ H s→RelV x v→Vals xs us→r x xs H Q →
  wpAny (model X.prog X.w) X.A (call (.builtin id) (v::us)) (EP X pins σ Q) X.xe s
theorem Vals.one:∀ {x:V} {us:List Value},Vals [x] us→∃ u,us=[u]∧RelV x u
 | _,_,.cons r .nil=>⟨_,rfl,r⟩
theorem Vals.zero:∀ {us:List Value},Vals [] us→us=[]
 | _,.nil=>rfl
theorem Vals.dropLast {xs:List V} {us:List Value} (h:Vals xs us):Vals xs.dropLast us.dropLast:=by
 induction h with
 | nil=>exact .nil
 | cons r t ih =>
  cases t with
  | nil=>exact .nil
  | cons q t'=>exact .cons r ih
theorem erase_last {α:Type} (l:List α):l.eraseIdx (l.length - 1)=l.dropLast:=by
 induction l with
 | nil=>rfl
 | cons a r ih =>
  cases r with
  | nil=>rfl
  | cons b r =>
   have e:(a::b::r).length - 1=((b::r).length - 1) + 1:=by
    have h1:(a::b::r).length=r.length + 2:=rfl
    have h2:(b::r).length=r.length + 1:=rfl
    omega
   rw [e,List.eraseIdx_cons_succ,ih]
   all_goals rfl
section
variable {X:Cx} {pins:List (Addr × Obj)} {σ:St} {H:Hp} {s:Shared} {l b:Addr} {xs ys zs:List V}
theorem Inv.lset {its its':List Value} {n:Nat} {f:Array Value→Array Value} {t':Nat} (I:Inv X pins σ H s) (hH:H l=some (.lst xs))
  (e:s.heap.get? l=some { cls:=.type "list",data:=.seq its.toArray n }) (hf:f its.toArray=its'.toArray) (hv:Vals ys its') (hz:ys.length≤sizeLine) :
  Inv X pins σ (upd H l (.lst ys)) { s with heap:=s.heap.update l (Obj.mapSeq f),toks:=t' }:=by
 have q:=PySem.IsL.update e f
 rw [hf] at q
 refine I.write (x:=l) (e:=l) (by rw [hH];exact trivial) (.inl rfl) (fun b' u hb hu=>(Heap.get?_update_other s.heap (Obj.mapSeq f) (Ne.symm hb)).trans hu) ⟨_,q⟩ ?_
 exact ⟨hz,its',_,hv,q⟩
theorem Inv.lnew {its:List Value} {t':Nat} (I:Inv X pins σ H s) (hv:Vals ys its) (hz:ys.length≤sizeLine) :
  Inv X pins σ (upd H s.heap.objs.size (.lst ys)) { s with heap:=s.heap.push { cls:=.type "list",data:=.seq its.toArray },toks:=t' } :=
 I.laid (fun _ _ q=>Heap.get?_push_of_some _ q) (Nat.le_refl _) ⟨hz,its,0,hv,Heap.get?_push_size _ rfl⟩
theorem Inv.fresh (I:Inv X pins σ H s):H s.heap.objs.size=none:=I.hok.fresh (Nat.le_refl _)
theorem Inv.lstM (I:Inv X pins σ H s) (hH:H l=some (.lst xs)):xs.length≤sizeLine∧∃ (its:List Value) (n:Nat),Vals xs its∧xs.length=its.length∧s.heap.get? l=some { cls:=.type "list",data:=.seq its.toArray n }:=by
 obtain ⟨z,its,n,r,e⟩:=I.hok l _ hH
 exact ⟨z,its,n,r,r.length,e⟩
theorem notLongL {n:Nat} (h:n≤sizeLine):Builtin.List.listTooLong n=false:=by
 unfold Builtin.List.listTooLong
 exact decide_eq_false (by omega)
end
section
variable {X:Cx}
def rAppend:V→List V→Hp→VK→Prop:=fun x vs H Q=>∃ l xs y,x=.ref l∧vs=[y]∧H l=some (.lst xs)∧xs.length < sizeLine∧Q .non (upd H l (.lst (xs++[y])))
theorem mt_append:MtM X "list.append" rAppend:=by
 intro pins s σ H x vs v us Q I rx rv h
 obtain ⟨l,xs,y,rfl,rfl,hH,hz,q⟩:=h
 cases rx
 obtain ⟨u,rfl,ru⟩:=rv.one
 obtain ⟨z,its,n,r,hl,e⟩:=I.lstM hH
 refine call_meets F.slot_list_append ⟨_,e,rfl⟩ F.entry_list_append (F.args_list_append_2 _ _) (PySem.list_append l its.toArray n u (by rw [List.size_toArray];omega)) ⟨e,?_⟩
 refine ⟨.non,_,I.lset (its':=its++[u]) hH e (by simp) (r.append (.cons ru .nil)) ?_,rfl,q⟩
 rw [List.length_append,List.length_singleton]
 omega
def rExtend:V→List V→Hp→VK→Prop:=fun x vs H Q=>∃ l b xs zs,x=.ref l∧vs=[.ref b]∧H l=some (.lst xs)∧H b=some (.lst zs)∧xs.length + zs.length≤sizeLine∧Q .non (upd H l (.lst (xs++zs)))
theorem mt_extend:MtM X "list.extend" rExtend:=by
 intro pins s σ H x vs v us Q I rx rv h
 obtain ⟨l,b,xs,zs,rfl,rfl,hH,hB,hz,q⟩:=h
 cases rx
 obtain ⟨u,rfl,ru⟩:=rv.one
 cases ru
 obtain ⟨z,its,n,r,hl,e⟩:=I.lstM hH
 obtain ⟨z2,its2,n2,r2,hl2,e2⟩:=I.lstM hB
 have hsz:its.toArray.size + its2.toArray.size≤sizeLine:=by rw [List.size_toArray,List.size_toArray];omega
 have hlong:¬ (!its.toArray.isEmpty && Builtin.List.listTooLong (its.toArray.size + its2.toArray.size))=true:=by
  rw [notLongL hsz,Bool.and_false]
  exact Bool.false_ne_true
 refine call_meets F.slot_list_extend ⟨_,e,rfl⟩ F.entry_list_extend (F.args_list_extend_2 _ _)
  (AutoSeq1.list_extend_list_list_0 l its.toArray n b its2.toArray n2 hlong (by rw [List.size_toArray];omega) (by omega)) ⟨e,e2,?_⟩
 refine ⟨.non,_,I.lset (its':=its++its2) hH e (by simp) (r.append r2) ?_,rfl,q⟩
 rw [List.length_append]
 omega
def rPop:V→List V→Hp→VK→Prop:=fun x vs H Q=>∃ l xs y,x=.ref l∧vs=[]∧H l=some (.lst xs)∧xs[xs.length - 1]?=some y∧Q y (upd H l (.lst xs.dropLast))
theorem mt_pop:MtM X "list.pop" rPop:=by
 intro pins s σ H x vs v us Q I rx rv h
 obtain ⟨l,xs,y,rfl,rfl,hH,hy,q⟩:=h
 cases rx
 have hus:=rv.zero
 subst hus
 obtain ⟨z,its,n,r,hl,e⟩:=I.lstM hH
 obtain ⟨u,hu,ru⟩:=r.get hy
 have hy':its.toArray[its.toArray.size - 1]?=some u:=by
  show its.toArray[its.length - 1]?=some u
  rw [← Array.getElem?_toList,← hl]
  exact hu
 refine call_meets F.slot_list_pop ⟨_,e,rfl⟩ F.entry_list_pop (F.args_list_pop_1 _) (MeetsSeq.list_pop_last l its.toArray n u hy' (by rw [List.size_toArray];omega)) ⟨e,?_⟩
 refine ⟨y,_,I.lset (its':=its.dropLast) hH e ?_ r.dropLast ?_,ru,q⟩
 ·show its.toArray.eraseIdxIfInBounds (its.toArray.size - 1)=its.dropLast.toArray
  rw [List.size_toArray,List.eraseIdxIfInBounds_toArray,erase_last]
 ·rw [List.length_dropLast]
  omega
def rCat:R2:=fun x y H Q=>∃ l b xs zs,x=.ref l∧y=.ref b∧H l=some (.lst xs)∧H b=some (.lst zs)∧xs.length + zs.length≤sizeLine∧∀ p,H p=none→Q (.ref p) (upd H p (.lst (xs++zs)))
theorem op_cat:OpR X (binaryOp .Add) rCat:=by
 intro pins s σ H x y v u Q I rx ry h
 obtain ⟨l,b,xs,zs,rfl,rfl,hH,hB,hz,q⟩:=h
 cases rx
 cases ry
 obtain ⟨z,its,n,r,hl,e⟩:=I.lstM hH
 obtain ⟨z2,its2,n2,r2,hl2,e2⟩:=I.lstM hB
 refine PySem.P.add_list e e2 ?_ (by rw [List.size_toArray,List.size_toArray];omega)
 have ea:its.toArray++its2.toArray=(its++its2).toArray:=by simp
 rw [ea]
 exact ⟨.ref _,_,I.lnew (t':=s.toks) (r.append r2) (by rw [List.length_append];omega),rfl,q _ I.fresh⟩
end
end L2
namespace L2
open PySem PySem.Spec PyProof.Rows
theorem Vals.ints:∀ {ns:List Int} {us:List Value},Vals (ns.map V.int) us→IntsAre us ns
 | [],us,h=>by
  rw [List.map_nil] at h
  cases h
  exact IntsAre.nil
 | n::ns,us,h=>by
  rw [List.map_cons] at h
  cases h with
  | cons r t =>
   obtain ⟨k,rfl⟩:=r
   exact IntsAre.cons n k (Vals.ints t)
theorem vals_of_ints:∀ {us:List Value} {ns:List Int},IntsAre us ns→Vals (ns.map V.int) us
 | _,_,.nil=>by rw [List.map_nil];exact Paired.nil
 | _,_,.cons n t h=>by rw [List.map_cons];exact Paired.cons (show RelV (V.int n) (Value.int n t) from ⟨t,rfl⟩) (vals_of_ints h)
theorem Vals.bls:∀ {bs:List Bool} {us:List Value},Vals (bs.map V.bl) us→us=bs.map Value.bool
 | [],us,h=>by
  rw [List.map_nil] at h
  cases h
  rfl
 | b::bs,us,h=>by
  rw [List.map_cons] at h
  cases h with
  | cons r t =>
   cases r
   rw [Vals.bls t,List.map_cons]
theorem Vals.ref1 {a:Addr} {us:List Value} (r:Vals [V.ref a] us):us=[Value.ref a]:=by
 cases r with
 | cons r t =>
  cases t
  cases r
  rfl
theorem iter_any {prog:Program} {w:World} {A:Around} {E:Value→Shared→Prop} {s:Shared} {l:Addr} {items:Array Value} {Q:Value→Shared→Prop} (hl:s.heap.IsList l items)
  (h:∀ s₂:Shared,s₂={ s with heap:=s.heap.push { cls:=.type "list_iterator",data:=.fields #[.ref l,.int 0 0] } } →
   (s₂.heap.IsListIter s.heap.objs.size l 0∧s₂.heap.IsList l items)→l≠s.heap.objs.size→Q (.ref s.heap.objs.size) s₂):wpAny (model prog w) A (pyIter (.ref l)) Q E s:=by
 have hlt:l < s.heap.objs.size:=by obtain ⟨_,e,_⟩:=hl;exact Heap.lt_size e
 exact wpAny_pyIter_list hl (h _ rfl ⟨⟨_,Heap.get?_push_size _ rfl,rfl,rfl⟩,hl.push _⟩ (Nat.ne_of_lt hlt))
theorem truth_bools {prog:Program} {w:World} {A:Around} {bs:List Bool} {its:List Value} (e:its=bs.map Value.bool) :
  TruthOf prog w A (fun i v=>its.toArray[i]?=some v) (fun i=>bs.getD i false):=fun i v s Q E hv hq=>by
 have hv':its[i]?=some v:=by simpa using hv
 rw [e,List.getElem?_map] at hv'
 obtain ⟨b,hb,rfl⟩:=Option.map_eq_some_iff.mp hv'
 have hg:bs.getD i false=b:=by rw [List.getD_eq_getElem?_getD,hb] <;> rfl
 have hq':Q (bs.getD i false) s:=hq
 rw [hg] at hq'
 exact wpAny_truthy_bool hq'
theorem any_range:∀ bs:List Bool,(List.range bs.length).any (fun i=>bs.getD i false)=bs.any id
 | []=>rfl
 | b::bs=>by
  rw [List.length_cons,List.range_succ_eq_map,List.any_cons,List.any_map,List.any_cons,← any_range bs]
  all_goals rfl
theorem all_range:∀ bs:List Bool,(List.range bs.length).all (fun i=>bs.getD i false)=bs.all id
 | []=>rfl
 | b::bs=>by
  rw [List.length_cons,List.range_succ_eq_map,List.all_cons,List.all_map,List.all_cons,← all_range bs]
  all_goals rfl
section
variable {X:Cx}
def rAll (K:PySem.W.Frag):List V→Hp→VK→Prop:=fun vs H Q=>∃ (a:Addr) (bs:List Bool),vs=[V.ref a]∧SqL K H a (bs.map V.bl)∧Q (.bl (bs.all id)) H
theorem cr_all (hc:X.calm=true):CallR X (.builtin "all") (rAll X.K):=by
 intro pins s σ H vs us Q I r h
 obtain ⟨a,bs,rfl,hs,q⟩:=h
 obtain ⟨its,rv,hl,_⟩:=I.list hs
 rw [Vals.ref1 r]
 have hb:=rv.bls
 refine call_all_walk (iter_any hl.isList fun s₂ e2 st hne=>?_)
 subst e2
 refine ⟨_,_,_,_,_,_,_,rfl,Walks.list (A:=X.A.in1) (I.ok.hd hc) _ a hne its.toArray,st,truth_bools hb,fun h' tk hk=>?_⟩
 refine ⟨.bl _,H,I.kept fun b o eo=>hk b o (fun hmem=>?_) (Heap.get?_push_of_some _ eo),?_,q⟩
 ·rcases List.mem_cons.mp hmem with e1 | hmem
  ·exact absurd (e1 ▸ Heap.lt_size eo) (Nat.lt_irrefl _)
  ·cases hmem
 ·show Value.bool _=Value.bool _
  rw [← all_range,hb,List.size_toArray,List.length_map]
end
mutual
inductive Dp (K:PySem.W.Frag) (H:Hp):V→PyData→Prop
 | non:Dp K H .non .none
 | bl (b:Bool):Dp K H (.bl b) (.bool b)
 | int (i:Int):Dp K H (.int i) (.int i)
 | str (x:Str):Dp K H (.str x) (.str x)
 | lst {a:Addr} {xs:List V} {ds:List PyData}:SqL K H a xs→DpAll K H xs ds→Dp K H (.ref a) (.list ds)
 | tup {a:Addr} {xs:List V} {ds:List PyData}:SqT K H a xs→DpAll K H xs ds→Dp K H (.ref a) (.tuple ds)
inductive DpAll (K:PySem.W.Frag) (H:Hp):List V→List PyData→Prop
 | nil:DpAll K H [] []
 | cons {v:V} {vs:List V} {d:PyData} {ds:List PyData}:Dp K H v d→DpAll K H vs ds→DpAll K H (v::vs) (d::ds)
end
section
variable {X:Cx} {pins:List (Addr × Obj)} {σ:St} {H:Hp} {s:Shared}
mutual
theorem Dp.reads (I:Inv X pins σ H s):∀ (d:PyData) (v:V) (u:Value),Dp X.K H v d→RelV v u→∃ as,Reads s.heap u d as
 | .none,_,_,h,r=>by
  cases h
  cases r
  exact ⟨_,Reads.none⟩
 | .bool b,_,_,h,r=>by
  cases h
  cases r
  exact ⟨_,Reads.bool b⟩
 | .int i,_,_,h,r=>by
  cases h
  obtain ⟨t,rfl⟩:=r
  exact ⟨_,Reads.int i t⟩
 | .str x,_,_,h,r=>by
  cases h
  obtain ⟨t,rfl⟩:=r
  exact ⟨_,Reads.str x t⟩
 | .list ds,_,_,h,r=>by
  cases h with
  | lst hs ha =>
   cases r
   obtain ⟨its,rv,⟨o,n,ho,hc,_,hd⟩,_⟩:=I.list hs
   obtain ⟨as,hr⟩:=Dp.readsAll I ds _ its ha rv
   exact ⟨_,Reads.list ho hc hd hr⟩
 | .tuple ds,_,_,h,r=>by
  cases h with
  | tup hs ha =>
   cases r
   obtain ⟨its,rv,⟨o,ho,hc,n,hd⟩,_⟩:=I.tuple hs
   obtain ⟨as,hr⟩:=Dp.readsAll I ds _ its ha rv
   exact ⟨_,Reads.tuple ho hc hd hr⟩
 | .dict _,_,_,h,_=>by cases h
theorem Dp.readsAll (I:Inv X pins σ H s):∀ (ds:List PyData) (vs:List V) (us:List Value),DpAll X.K H vs ds→Vals vs us→∃ as,ReadsAll s.heap us ds as
 | [],_,_,h,r=>by
  cases h
  cases r
  exact ⟨_,ReadsAll.nil⟩
 | d::ds,_,_,h,r=>by
  cases h with
  | cons h1 h2 =>
   cases r with
   | cons r1 r2 =>
    obtain ⟨as,q1⟩:=Dp.reads I d _ _ h1 r1
    obtain ⟨bs,q2⟩:=Dp.readsAll I ds _ _ h2 r2
    exact ⟨_,ReadsAll.cons q1 q2⟩
end
end
section
variable {X:Cx}
def rEqD (K:PySem.W.Frag):R2:=fun x y H Q=>∃ d e,Dp K H x d∧Dp K H y e∧SeqAt.shaped d=true∧SeqAt.shaped e=true∧Q (.bl (PyData.eqv d e)) H
theorem op_eqD (hu:X.A.units + 64 < cLine):OpR X (compareOp .Eq) (rEqD X.K):=by
 intro pins s σ H x y v u Q I rx ry h
 obtain ⟨d,e,hd,he,sd,se,q⟩:=h
 obtain ⟨as,r1⟩:=Dp.reads I d x v hd rx
 obtain ⟨bs,r2⟩:=Dp.reads I e y u he ry
 exact SeqAt.compareEq_shaped r1 r2 sd se hu ⟨.bl _,H,I,rfl,q⟩
end
end L2
namespace L2
open PySem PySem.Spec PyProof.Rows
abbrev CellAt (h:Heap) (c:Addr) (v:Option Value):Prop:=h.IsCell c v
def relS (scope sc:Scope):Scope :=
 { scope with names:=scope.names.map fun (n,k)=>if (k == .free && sc.kind == .function && sc.names.lookup n == some .cell) then (n,.cell) else (n,k) }
def cloFrom (cells:List (Str × Addr)):List (Str × NameKind)→List (Str × Addr)→List (Str × Addr)
 | [],acc=>acc
 | (n,k)::r,acc=>if k == .free then cloFrom cells r ((n,(cells.lookup n).getD 0)::acc) else cloFrom cells r acc
theorem closure_loop (env:Env) (f:Str × NameKind→List (Str × Addr)→Sem (ForInStep (List (Str × Addr))))
  (hf:∀ n k c,f (n,k) c=if k == .free then (do let a ← cellOf env n;pure (.yield ((n,a)::c))) else pure (.yield c)) :
  ∀ (names:List (Str × NameKind)) (acc:List (Str × Addr)),(∀ y∈names,y.2=.free→∃ c,env.cells.lookup y.1=some c)→forIn names acc f=pure (cloFrom env.cells names acc)
 | [],acc,_=>by rw [List.forIn_nil];rfl
 | (n,k)::r,acc,h=>by
  rw [List.forIn_cons,hf]
  have ih:=fun acc=>closure_loop env f hf r acc fun y hy=>h y (List.mem_cons_of_mem _ hy)
  unfold cloFrom
  by_cases hk:(k == NameKind.free)=true
  ·rw [if_pos hk,if_pos hk]
   obtain ⟨c,hc⟩:=h (n,k) List.mem_cons_self (by simpa using hk)
   have e:cellOf env n=pure c:=by unfold cellOf;rw [hc]
   rw [e]
   have e2:(env.cells.lookup n).getD 0=c:=by rw [hc];rfl
   rw [e2]
   exact ih _
  ·rw [if_neg hk,if_neg hk]
   exact ih _
theorem closure_ok {scope:Scope} {env:Env} (h:∀ y∈scope.names,y.2=.free→∃ c,env.cells.lookup y.1=some c):closureFor scope env=pure (cloFrom env.cells scope.names []):=by
 simp only [closureFor]
 rw [closure_loop env _ (fun n k c=>rfl) scope.names [] h]
 rfl
theorem mem_lookup {α:Type}:∀ {l:List (Str × α)} {n:Str} {c:α},(n,c)∈l→∃ c',l.lookup n=some c'
 | (k,v)::r,n,c,h=>by
  rw [List.lookup_cons]
  cases hb:n == k with
  | true=>exact ⟨_,rfl⟩
  | false =>
   rcases List.mem_cons.mp h with e | h
   ·cases e;simp at hb
   ·exact mem_lookup h
theorem cloFrom_mem {cells:List (Str × Addr)}:∀ {names:List (Str × NameKind)} {acc:List (Str × Addr)} {n:Str} {c:Addr},(n,c)∈cloFrom cells names acc→(n,c)∈acc∨((n,.free)∈names∧c=(cells.lookup n).getD 0)
 | [],_,_,_,h=>.inl h
 | (m,k)::r,acc,n,c,h=>by
  unfold cloFrom at h
  split at h
  ·rename_i hk
   have hk:k=.free:=by simpa using hk
   rcases cloFrom_mem h with h | ⟨h1,h2⟩
   ·rcases List.mem_cons.mp h with e | h
    ·cases e;exact .inr ⟨hk ▸ List.mem_cons_self,rfl⟩
    ·exact .inl h
   ·exact .inr ⟨List.mem_cons_of_mem _ h1,h2⟩
  ·rcases cloFrom_mem h with h | ⟨h1,h2⟩
   ·exact .inl h
   ·exact .inr ⟨List.mem_cons_of_mem _ h1,h2⟩
theorem cloFrom_acc {cells:List (Str × Addr)}:∀ {names:List (Str × NameKind)} {acc:List (Str × Addr)} {p:Str × Addr},p∈acc→p∈cloFrom cells names acc
 | [],_,_,h=>h
 | (m,k)::r,acc,p,h=>by
  unfold cloFrom
  split
  ·exact cloFrom_acc (List.mem_cons_of_mem _ h)
  ·exact cloFrom_acc h
theorem cloFrom_has {cells:List (Str × Addr)}:∀ {names:List (Str × NameKind)} {acc:List (Str × Addr)} {n:Str},(n,.free)∈names→(n,(cells.lookup n).getD 0)∈cloFrom cells names acc
 | (m,k)::r,acc,n,h=>by
  unfold cloFrom
  rcases List.mem_cons.mp h with e | h
  ·cases e
   exact cloFrom_acc List.mem_cons_self
  ·split
   ·exact cloFrom_has h
   ·exact cloFrom_has h
theorem cells_mem:∀ {names:List (Str × NameKind)} {h:Heap} {acc:List (Str × Addr)} {x:Str} {c:Addr},(x,c)∈cellsFrom h.objs.size names acc →
  (x,c)∈acc∨((x,.cell)∈names∧h.objs.size≤c∧CellAt (pushCells h names) c none)
 | [],_,_,_,_,h=>.inl h
 | (n,k)::r,h,acc,x,c,hm=>by
  unfold cellsFrom at hm
  unfold pushCells
  split at hm
  ·rename_i hk
   rw [if_pos hk]
   have hk:k=.cell:=by simpa using hk
   rw [← Heap.size_push h { cls:=.type "cell",data:=.cell none }] at hm
   rcases cells_mem hm with hm | ⟨h1,h2,h3⟩
   ·rcases List.mem_cons.mp hm with e | hm
    ·cases e
     exact .inr ⟨hk ▸ List.mem_cons_self,Nat.le_refl _,_,pushCells_keeps r _ _ _ (Heap.get?_push_size _ rfl),rfl⟩
    ·exact .inl hm
   ·rw [Heap.size_push] at h2
    exact .inr ⟨List.mem_cons_of_mem _ h1,Nat.le_of_succ_le h2,h3⟩
  ·rename_i hk
   rw [if_neg hk]
   rcases cells_mem hm with hm | ⟨h1,h2,h3⟩
   ·exact .inl hm
   ·exact .inr ⟨List.mem_cons_of_mem _ h1,h2,h3⟩
theorem cells_acc:∀ {names:List (Str × NameKind)} {n:Nat} {acc:List (Str × Addr)} {p:Str × Addr},p∈acc→p∈cellsFrom n names acc
 | [],_,_,_,h=>h
 | (m,k)::r,n,acc,p,h=>by
  unfold cellsFrom
  split
  ·exact cells_acc (List.mem_cons_of_mem _ h)
  ·exact cells_acc h
theorem cells_has:∀ {names:List (Str × NameKind)} {n:Nat} {acc:List (Str × Addr)} {x:Str},(x,.cell)∈names→∃ c,(x,c)∈cellsFrom n names acc
 | (m,k)::r,n,acc,x,h=>by
  unfold cellsFrom
  rcases List.mem_cons.mp h with e | h
  ·cases e
   exact ⟨n,cells_acc List.mem_cons_self⟩
  ·split
   ·exact cells_has h
   ·exact cells_has h
theorem cells_inj:∀ {names:List (Str × NameKind)} {h:Heap} {acc:List (Str × Addr)} {x y:Str} {c:Addr},(∀ p∈acc,p.2 < h.objs.size)→(∀ x y c,(x,c)∈acc→(y,c)∈acc→x=y) →
  (x,c)∈cellsFrom h.objs.size names acc→(y,c)∈cellsFrom h.objs.size names acc→x=y
 | [],_,_,_,_,_,_,hi,h1,h2=>hi _ _ _ h1 h2
 | (n,k)::r,h,acc,x,y,c,hl,hi,h1,h2=>by
  unfold cellsFrom at h1 h2
  split at h1
  ·rename_i hk
   rw [if_pos hk] at h2
   rw [← Heap.size_push h { cls:=.type "cell",data:=.cell none }] at h1 h2
   refine cells_inj (h:=h.push _) (fun p hp=>?_) (fun x y c a b=>?_) h1 h2
   ·rw [Heap.size_push]
    rcases List.mem_cons.mp hp with rfl | hp
    ·exact Nat.lt_succ_self _
    ·exact Nat.lt_succ_of_lt (hl p hp)
   ·rcases List.mem_cons.mp a with e | a <;> rcases List.mem_cons.mp b with e' | b
    ·cases e;cases e';rfl
    ·cases e;exact absurd (hl _ b) (Nat.lt_irrefl _)
    ·cases e';exact absurd (hl _ a) (Nat.lt_irrefl _)
    ·exact hi _ _ _ a b
  ·rename_i hk
   rw [if_neg hk] at h2
   exact cells_inj hl hi h1 h2
theorem newEnv_comp {M:Model} {A:Around} {E:Value→Shared→Prop} {s:Shared} {scope:Scope} {globals:Addr} {closure:List (Str × Addr)} {qual:Str} {func:Option Addr} {code:Value} {around:Env} {builtins:Addr} {Q:Env→Shared→Prop}
  (h:Q (newEnv scope s.heap.objs.size globals (cellsFrom (s.heap.objs.size + 1) scope.names closure) qual func code (some around) builtins)
   { s with heap:=pushCells (s.heap.push { cls:=.type "dict",data:=.dict #[] }) scope.names }) :
  wpAny M A (newFunctionEnv scope globals closure [] qual func code (some around) builtins) Q E s:=by
 simp only [newFunctionEnv,Option.isSome_some,if_true]
 refine wpAny_bind (wpAny_alloc ?_)
 refine wpAny_bind (wpAny_layCells _ (fun n k c=>rfl) scope.names closure _ _ ?_)
 rw [show ({ s with heap:=s.heap.push { cls:=.type "dict",data:=.dict #[] } }:Shared).heap.objs.size=s.heap.objs.size + 1 from Heap.size_push ..]
 rw [List.forIn_nil]
 exact wpAny_bind (wpAny_pure (wpAny_pure h))
theorem lookup_relS {sc:Scope}:∀ {names:List (Str × NameKind)} {x:Str} {k:NameKind},
  (names.map fun (n,k)=>if (k == NameKind.free && sc.kind == .function && sc.names.lookup n == some .cell) then (n,NameKind.cell) else (n,k)).lookup x=some k →
  ∃ k',names.lookup x=some k'∧(k=k'∨(k'=.free∧k=.cell))
 | [],_,_,h=>by simp at h
 | (n,k₀)::r,x,k,h=>by
  have ih:=@lookup_relS sc r x k
  have h':List.lookup x ((if (k₀ == NameKind.free && sc.kind == .function && sc.names.lookup n == some .cell)=true then (n,NameKind.cell) else (n,k₀))::(r.map _))=some k:=h
  cases hx:x == n with
  | true =>
   simp only [List.lookup_cons,hx]
   by_cases hc:(k₀ == NameKind.free && sc.kind == .function && sc.names.lookup n == some .cell)=true
   ·rw [if_pos hc] at h'
    simp only [List.lookup_cons,hx] at h'
    cases h'
    simp only [Bool.and_eq_true,beq_iff_eq] at hc
    exact ⟨k₀,rfl,.inr ⟨hc.1.1,rfl⟩⟩
   ·rw [if_neg hc] at h'
    simp only [List.lookup_cons,hx] at h'
    cases h'
    exact ⟨_,rfl,.inl rfl⟩
  | false =>
   simp only [List.lookup_cons,hx]
   by_cases hc:(k₀ == NameKind.free && sc.kind == .function && sc.names.lookup n == some .cell)=true
   ·rw [if_pos hc] at h'
    simp only [List.lookup_cons,hx] at h'
    exact ih h'
   ·rw [if_neg hc] at h'
    simp only [List.lookup_cons,hx] at h'
    exact ih h'
structure BlkOk (N:List Str) (sc scope:Scope) (own:List (Str × Nat)):Prop where
 kind:scope.kind=.function
 uniq:∀ y∈scope.names,scope.names.lookup y.1=some y.2
 ix:∀ p∈own,N[p.2]?=some p.1
 free:∀ y∈scope.names,y.2=.free→sc.names.lookup y.1=some .cell∨sc.names.lookup y.1=some .free
 own:∀ y∈scope.names,y.2=.local∨y.2=.cell→y.1∈own.map (·.1)∨y.1 ∉ N
def wipe (σ:St):List Nat→St
 | []=>σ
 | v::vs=>(wipe σ vs).set v none
theorem wipe_length (σ:St):∀ vs:List Nat,(wipe σ vs).length=σ.length
 | []=>rfl
 | v::vs=>by unfold wipe;rw [List.length_set,wipe_length σ vs]
theorem wipe_some {σ:St} {i:Nat} {x:V}:∀ {vs:List Nat},(wipe σ vs)[i]?=some (some x)→σ[i]?=some (some x)∧i ∉ vs
 | [],h=>⟨h,by simp⟩
 | v::vs,h=>by
  unfold wipe at h
  by_cases hi:v=i
  ·subst hi
   by_cases hv:v < (wipe σ vs).length
   ·rw [List.getElem?_set_self hv] at h;cases h
   ·rw [List.getElem?_eq_none (by simpa using hv)] at h;cases h
  ·rw [List.getElem?_set_ne hi] at h
   obtain ⟨h1,h2⟩:=wipe_some h
   exact ⟨h1,by simp only [List.mem_cons,not_or];exact ⟨fun e=>hi e.symm,h2⟩⟩
abbrev Cx.blk (X:Cx) (s:Shared) (H:Hp) (scope:Scope) (cenv:Env) (fp:List Addr):Cx:={ X with s_0:=s,H_0:=H,env:=cenv,outer:=X.stack,ex:=fp,fn:=fun x=>scope.names.lookup x == some .cell,pn:=[],xe:=fun _ _=>False }
section
variable {X:Cx} {pins:List (Addr × Obj)} {σ:St} {H:Hp} {s:Shared}
theorem block_start {scope:Scope} {own:List (Str × Nat)} {fp:List Addr} (I:Inv X pins σ H s) (ok:BlkOk X.N X.env.scope scope own) (hN:X.N.Nodup) (hfp:∀ b∈fp,FpOk X pins H b∧b < s.heap.objs.size) :
  Inv (X.blk s H scope (compEnvC scope (cellsFrom (s.heap.objs.size + 1) scope.names (cloFrom X.env.cells scope.names [])) s.heap.objs.size X.env) fp) [] (wipe σ (own.map (·.2))) H { s with heap:=pushCells (s.heap.push { cls:=.type "dict",data:=.dict #[] }) scope.names }:=by
 have hfree:∀ y∈scope.names,y.2=.free→∃ c,X.env.cells.lookup y.1=some c:=fun y hy e=>by
  rcases ok.free y hy e with k | k
  ·exact I.ok.has _ (.inl k)
  ·exact I.ok.has _ (.inr k)
 generalize hcenv:compEnvC scope (cellsFrom (s.heap.objs.size + 1) scope.names (cloFrom X.env.cells scope.names [])) s.heap.objs.size X.env=cenv
 have kp:∀ b o,s.heap.get? b=some o→(pushCells (s.heap.push { cls:=.type "dict",data:=.dict #[] }) scope.names).get? b=some o:=fun b o e=>pushCells_keeps _ _ _ _ (Heap.get?_push_of_some _ e)
 have hL:cenv.locals=s.heap.objs.size:=by rw [← hcenv];rfl
 have hcl:cenv.cells=cellsFrom (s.heap.objs.size + 1) scope.names (cloFrom X.env.cells scope.names []):=by rw [← hcenv];rfl
 have hsc:cenv.scope=relS scope X.env.scope:=by rw [← hcenv];rfl
 rw [← Heap.size_push s.heap { cls:=.type "dict",data:=.dict #[] }] at hcl
 have cm:∀ {y c},(y,c)∈cloFrom X.env.cells scope.names []→X.env.cells.lookup y=some c∧c < s.heap.objs.size:=fun {y c} hm=>by
  rcases cloFrom_mem hm with hm | ⟨h1,rfl⟩
  ·cases hm
  ·obtain ⟨c,hc⟩:=hfree _ h1 rfl
   rw [hc]
   obtain ⟨w,z⟩:=I.cell _ _ hc
   exact ⟨rfl,z.lt⟩
 have mem:∀ {y c},cenv.cells.lookup y=some c→(X.env.cells.lookup y=some c∧c < s.heap.objs.size)∨(s.heap.objs.size + 1≤c∧CellAt (pushCells (s.heap.push { cls:=.type "dict",data:=.dict #[] }) scope.names) c none):=fun {y c} e=>by
  rw [hcl] at e
  rcases cells_mem (PySem.mem_of_lookup e) with hm | ⟨_,h2,h3⟩
  ·exact .inl (cm hm)
  ·rw [Heap.size_push] at h2;exact .inr ⟨h2,h3⟩
 have look:∀ {y},scope.names.lookup y=some .free→∃ c,cenv.cells.lookup y=some c∧X.env.cells.lookup y=some c:=fun {y} hl=>by
  have hy:(y,NameKind.free)∈scope.names:=PySem.mem_of_lookup hl
  obtain ⟨c',e'⟩:=mem_lookup (cells_acc (names:=scope.names) (n:=(s.heap.push { cls:=.type "dict",data:=.dict #[] }).objs.size) (cloFrom_has (cells:=X.env.cells) (acc:=[]) hy))
  rw [← hcl] at e'
  refine ⟨c',e',?_⟩
  rw [hcl] at e'
  rcases cells_mem (PySem.mem_of_lookup e') with hm | ⟨h1,_,_⟩
  ·exact (cm hm).1
  ·have:=ok.uniq _ h1
   rw [hl] at this;cases this
 have okB:(X.blk s H scope cenv fp).Ok:=by
  refine ⟨I.ok.mod,by show cenv.scope.kind=_;rw [hsc];exact ok.kind,by show cenv.globals=_;rw [← hcenv];exact I.ok.glob,by show cenv.builtins=_;rw [← hcenv];exact I.ok.blt,by show s.heap.objs.size≤cenv.locals;rw [hL];exact Nat.le_refl _,
   fun y z c e1 e2=>?_,fun y hy=>?_,fun y c z e=>?_,I.ok.hd,I.ok.frames,.inl rfl,fun b hb=>⟨?_,fun y c e z=>?_⟩,I.bs,Nat.le_trans I.ok.bsz I.sz,fun b o e hb=>?_,fun b hb z=>?_,I.stack,I.stkFree⟩
  ·have e1:cenv.cells.lookup y=some c:=e1
   have e2:cenv.cells.lookup z=some c:=e2
   rw [hcl] at e1 e2
   refine cells_inj (fun p hp=>?_) (fun y z c a b=>I.ok.inj y z c (cm a).1 (cm b).1) (PySem.mem_of_lookup e1) (PySem.mem_of_lookup e2)
   rw [Heap.size_push]
   exact Nat.lt_succ_of_lt (cm (y:=p.1) (c:=p.2) hp).2
  ·show ∃ c,cenv.cells.lookup y=some c
   have key:∀ k,cenv.kindOf y=some k→(k=.cell∨k=.free)→∃ c,cenv.cells.lookup y=some c:=fun k hk hk'=>by
    unfold Env.kindOf at hk
    rw [hsc] at hk
    obtain ⟨k',e,r⟩:=lookup_relS hk
    have:k'=.cell∨k'=.free:=by
     rcases r with rfl | ⟨rfl,_⟩
     ·exact hk'
     ·exact .inr rfl
    rcases this with rfl | rfl
    ·obtain ⟨c,hm⟩:=cells_has (n:=(s.heap.push { cls:=.type "dict",data:=.dict #[] }).objs.size) (acc:=cloFrom X.env.cells scope.names []) (PySem.mem_of_lookup e)
     obtain ⟨c',e'⟩:=mem_lookup hm
     exact ⟨c',by rw [hcl];exact e'⟩
    ·obtain ⟨c,h1,_⟩:=look e
     exact ⟨c,h1⟩
   rcases hy with hy | hy
   ·exact key _ hy (.inl rfl)
   ·exact key _ hy (.inr rfl)
  ·have z:(scope.names.lookup y == some NameKind.cell)=true:=z
   have z:scope.names.lookup y=some .cell:=by simpa using z
   have e:cenv.cells.lookup y=some c:=e
   rw [hcl] at e
   rcases cells_mem (PySem.mem_of_lookup e) with hm | ⟨_,h2,_⟩
   ·rcases cloFrom_mem hm with hm | ⟨h1,_⟩
    ·cases hm
    ·have q:=ok.uniq _ h1
     rw [z] at q;cases q
   ·rw [Heap.size_push] at h2
    exact Nat.le_of_succ_le h2
  ·show b≠cenv.locals
   rw [hL];exact Nat.ne_of_lt (hfp b hb).2
  ·have e:cenv.cells.lookup y=some c:=e
   rcases mem e with ⟨h1,_⟩ | ⟨h1,_⟩
   ·exact (hfp b hb).1.2.2.2.2.1 y c h1 z
   ·have h2:s.heap.objs.size + 1≤b:=by rw [← z];exact h1
    exact absurd (Nat.lt_of_lt_of_le (hfp b hb).2 (Nat.le_of_succ_le h2)) (Nat.lt_irrefl _)
  ·rcases (hfp b hb).1.2.2.2.1 with z | z
   ·exact I.ok.noex b o e z
   ·exact absurd (Nat.lt_of_lt_of_le (Heap.lt_size e) (Nat.le_trans I.ok.bsz z)) (Nat.lt_irrefl _)
  ·rcases List.mem_cons.mp (I.stkSub b z) with z | z
   ·exact (hfp b hb).1.2.1 z
   ·exact (hfp b hb).1.2.2.1 z
 refine ⟨okB,rfl,I.bare,Un.kept kp,⟨fun _=>none,?_,fun i y av e1 e2 e3=>?_⟩,fun y c e=>?_,?_,fun y c e=>?_,fun p hp=>?_,I.hok.kept kp,by rw [wipe_length];exact I.len⟩
 ·show Heap.Ns _ cenv.locals _
  rw [hL]
  exact Heap.Ns.keeps (Heap.Ns.new ..) fun b o e=>pushCells_keeps _ _ _ _ e
 ·obtain ⟨e2,hne⟩:=wipe_some e2
  have hfr:scope.names.lookup y=some .free∧(cenv.kindOf y=some .cell∨cenv.kindOf y=some .free):=by
   have key:∀ k,cenv.scope.names.lookup y=some k→k=.local∨k=.cell∨k=.free→scope.names.lookup y=some .free∧(cenv.kindOf y=some .cell∨cenv.kindOf y=some .free):=fun k hk hk'=>by
    have hk0:=hk
    rw [hsc] at hk
    obtain ⟨k',e,r⟩:=lookup_relS hk
    have no:¬ (k'=.local∨k'=.cell):=fun hh=>by
     rcases ok.own _ (PySem.mem_of_lookup e) hh with e' | e'
     ·obtain ⟨p,hp,hpy⟩:=List.mem_map.mp e'
      have e3:=ok.ix p hp
      have:p.1=y:=hpy
      rw [this] at e3
      exact hne (List.mem_map.mpr ⟨p,hp,nodup_ix hN e3 e1⟩)
     ·exact e' (List.mem_of_getElem? e1)
    rcases r with rfl | ⟨rfl,rfl⟩
    ·rcases hk' with rfl | rfl | rfl
     ·exact absurd (.inl rfl) no
     ·exact absurd (.inr rfl) no
     ·exact ⟨e,.inr hk0⟩
    ·exact ⟨e,.inl hk0⟩
   have e3:Vis cenv.scope y:=e3
   rcases e3 with e3 | e3 | e3
   ·exact key _ e3 (.inl rfl)
   ·exact key _ e3 (.inr (.inl rfl))
   ·exact key _ e3 (.inr (.inr rfl))
  obtain ⟨m,hn,hl⟩:=I.loc
  have hvis:Vis X.env.scope y:=(ok.free _ (PySem.mem_of_lookup hfr.1) rfl).elim (fun k=>.inr (.inl k)) (fun k=>.inr (.inr k))
  obtain ⟨w,r,q⟩:=hl i y av e1 e2 hvis
  refine ⟨w,r,.inr ⟨hfr.2,?_⟩⟩
  obtain ⟨c,h1,h2⟩:=look hfr.1
  rcases q with ⟨k,_⟩ | ⟨_,c',e',z⟩
  ·have k:X.env.scope.names.lookup y=some .local:=k
   rcases ok.free _ (PySem.mem_of_lookup hfr.1) rfl with k' | k' <;> rw [show X.env.scope.names.lookup y=_ from k'] at k <;> cases k
  ·rw [h2] at e';cases e'
   exact ⟨c,h1,z.keeps kp⟩
 ·have e:cenv.cells.lookup y=some c:=e
  rcases mem e with ⟨h1,_⟩ | ⟨_,z⟩
  ·obtain ⟨w,z⟩:=I.cell y c h1
   exact ⟨w,z.keeps kp⟩
  ·exact ⟨_,z⟩
 ·show H cenv.locals=none
  rw [hL];exact I.hok.fresh (Nat.le_refl _)
 ·have e:cenv.cells.lookup y=some c:=e
  rcases mem e with ⟨h1,_⟩ | ⟨h1,_⟩
  ·exact I.freeC y c h1
  ·exact I.hok.fresh (Nat.le_of_succ_le h1)
 ·exact absurd (show p∈([]:List (Addr × Obj))++[] from hp) (by simp)
theorem app_ok {E:Value→Shared→Prop} {D:Addr} {xs:List V} {y:V} {v:Value} {Q:Value→Shared→Prop} (I:Inv X pins σ H s) (hD:H D=some (.lst xs)) (hz:xs.length < sizeLine) (r:RelV y v)
  (h:∀ s',Inv X pins σ (upd H D (.lst (xs++[y]))) s'→Q .none s'):wpAny (model X.prog X.w) X.A (call (.builtin "list.append") [.ref D,v]) Q E s:=by
 obtain ⟨hz',its,n,ri,e⟩:=I.hok D _ hD
 have hl:=ri.length
 refine append_at (hsz:=by rw [List.size_toArray];omega) e fun h' sb ho'=>?_
 refine h { s with heap:=h' } (I.write (t':=s.toks) (by rw [hD];trivial) (.inl rfl) (fun b u hb q=>(sb.2 b hb).trans q) ⟨_,ho'⟩ ⟨by rw [List.length_append];exact hz,its++[v],n + 1,ri.append (.cons r .nil),?_⟩)
 rw [ho']
 simp
def PTs (X:Cx) (ifs:List Expr) (t:TT):Prop :=
 ∀ (pins:List (Addr × Obj)) (s:Shared) (σ:St) (H:Hp) (Q:Bool→Hp→Prop),Inv X pins σ H s→t σ H Q →
  wpAny (model X.prog X.w) X.A (forIn ifs true fun c r=>if r=true then do let ok ← isTrue c X.env (eval c X.env);pure (ForInStep.yield ok) else pure (ForInStep.yield r)) (TP X pins σ Q) X.xe s
def tYes:TT:=fun _ H Q=>Q true H
theorem pts_nil:PTs X [] tYes:=fun _ _ _ H _ I h=>wpAny_tests_nil ⟨H,I,h⟩
end
theorem thnF {α:Type} {t:Sem α} {Q Q':α→Shared→Prop} {M:Model} {A:Around} {E:Value→Shared→Prop} {s:Shared} (h:wpAny M A t Q (fun _ _=>False) s) (hQ:∀ a s,Q a s→Q' a s):wpAny M A t Q' E s:=wpAny_mono h hQ fun _ _ z=>False.elim z
theorem compLoop_any {prog:Program} {w:World} {A:Around} {R:Result→Shared→Prop} {s:Shared} {elt target iter:Expr} {ifs:List Expr} {scope:Scope} {pos:Pos} {it acc:Value} {env:Env} (I:Nat→Shared→Prop)
  (turn:∀ n s,I n s→wpAny (model prog w) A (pyNext it) (fun r s₁=>match r with
   | none=>R (.ok .next) s₁
   | some v=>wpAny (model prog w) A (letOwnedTupleGo target it v) (fun _ s₁'=>wpAny (model prog w) A (assign target env v) (fun _ s₂ =>
     wpAny (model prog w) A (forIn ifs true fun c r=>if r=true then do let ok ← isTrue c env (eval c env);pure (ForInStep.yield ok) else pure (ForInStep.yield r)) (fun ok s₃ =>
      if ok=true then wpAny (model prog w) A (eval elt env) (fun x s₄ =>
       wpAny (model prog w) A (call (.builtin "list.append") [acc,x]) (fun _ s₅=>∃ m,m < n∧I m s₅) (notedBy (model prog w) A env fun e s'=>R (.error e) s') s₄) (notedBy (model prog w) A env fun e s'=>R (.error e) s') s₃
      else ∃ m,m < n∧I m s₃) (notedBy (model prog w) A env fun e s'=>R (.error e) s') s₂) (notedBy (model prog w) A env fun e s'=>R (.error e) s') s₁') (notedBy (model prog w) A env fun e s'=>R (.error e) s') s₁) (notedBy (model prog w) A env fun e s'=>R (.error e) s') s)
  (n:Nat) (h:I n s) :
  codeAny (model prog w) A (.compLoop (.ListComp elt [⟨target,iter,ifs,0⟩] scope pos) 0 it acc env) R s:=by
 refine codeAny_loop rfl I (fun n s hI=>?_) n h
 show wpAny _ A ((compTurn (.ListComp elt [⟨target,iter,ifs,0⟩] scope pos) 0 it acc env).onRaise (fun x=>do noteFrame x env;theTreesLotGoes x)) _ _ s
 refine wpAny_noted ?_
 rw [compTurn_list]
 refine wpAny_bind (wpAny_standAt (wpAny_bind (wpAny_mono (turn n s hI) (fun r s₁ h₁=>?_) fun _ _ h'=>h')))
 cases r with
 | none=>exact wpAny_pure h₁
 | some v =>
  refine wpAny_bind (wpAny_mono h₁ (fun _ s₁' h₁'=>?_) fun _ _ h'=>h')
  refine wpAny_bind (wpAny_mono h₁' (fun _ s₂ h₂=>wpAny_bind (wpAny_mono h₂ (fun ok s₃ h₃=>?_) fun _ _ h'=>h')) fun _ _ h'=>h')
  cases ok with
  | false=>exact wpAny_pure ⟨rfl,h₃⟩
  | true =>
   exact wpAny_bind (wpAny_bind (wpAny_mono h₃ (fun x s₄ h₄=>wpAny_bind (wpAny_mono h₄ (fun _ s₅ h₅=>wpAny_pure (wpAny_pure ⟨rfl,h₅⟩)) fun _ _ h'=>h')) fun _ _ h'=>h'))
section
variable {X:Cx}
def tLc (wi:TI) (g:TG) (tt:TT) (te:TE) (vs:List Nat):TE:=fun σ H Q=>wi σ H fun J H1=>∀ D,H1 D=none→∃ W:Nat→Nat→Hp→Prop,(∃ m,W 0 m (upd H1 D (.lst [])))∧∀ i m H,W i m H →
 (J.stop i H∧Q (.ref D) H)∨(J.go i H∧∃ Nx:Hp→Prop,(∀ H',Nx H'→∃ m',m' < m∧W (i + 1) m' H')∧∀ x H',J.yld i H x H'→g x (wipe σ vs) H' fun σ2 H2=>wipe σ2 vs=wipe σ vs∧tt σ2 H2 fun b H3 =>
  if b=true then te σ2 H3 fun y H4=>∃ acc,H4 D=some (.lst acc)∧acc.length < sizeLine∧Nx (upd H4 D (.lst (acc++[y]))) else Nx H3)
theorem sw_true {elt:Expr} {gs:List Comprehension} {scope:Scope} {pos py:Pos} {y:Str} {l:Nat} {env:Env} (hk:env.scope.kind=.function) (hy:env.scope.names.lookup y=some .local) (hl:(py.line == pos.line)=true)
  (ha:(scope.names.any fun (n,k)=>n == y && (k == .local || k == .cell))=false):swapsWith (.ListComp elt gs scope pos) (some (.Name y py)) l env=pure true:=by
 have ky:env.kindOf y=some .local:=hy
 have hb:env.blockKind=.function:=by unfold Env.blockKind;rw [hk];rfl
 unfold swapsWith
 simp only [hb,ky,ha,Expr.pos,hl]
 rfl
end
theorem lc_range {lo:Int} {n:Nat} {g:TG} {tt:TT} {te:TE} {vs:List Nat} {σ:St} {H1:Hp} {D:Addr} {Qd:Hp→Prop} (Pv:Nat→Hp→Prop) (h0:Pv 0 (upd H1 D (.lst [])))
  (hs:∀ i H,i < n→Pv i H→g (.int (lo + i)) (wipe σ vs) H fun σ2 H2=>wipe σ2 vs=wipe σ vs∧tt σ2 H2 fun b H3 =>
   if b=true then te σ2 H3 fun y H4=>∃ acc,H4 D=some (.lst acc)∧acc.length < sizeLine∧Pv (i + 1) (upd H4 D (.lst (acc++[y]))) else Pv (i + 1) H3) (hd:∀ H,Pv n H→Qd H) :
  ∃ W:Nat→Nat→Hp→Prop,(∃ m,W 0 m (upd H1 D (.lst [])))∧∀ i m H,W i m H →
   ((Itr lo n).stop i H∧Qd H)∨((Itr lo n).go i H∧∃ Nx:Hp→Prop,(∀ H',Nx H'→∃ m',m' < m∧W (i + 1) m' H')∧∀ x H',(Itr lo n).yld i H x H'→g x (wipe σ vs) H' fun σ2 H2=>wipe σ2 vs=wipe σ vs∧tt σ2 H2 fun b H3 =>
    if b=true then te σ2 H3 fun y H4=>∃ acc,H4 D=some (.lst acc)∧acc.length < sizeLine∧Nx (upd H4 D (.lst (acc++[y]))) else Nx H3):=by
 refine ⟨fun i m H=>m=n - i∧i≤n∧Pv i H,⟨n,by simp,Nat.zero_le _,h0⟩,?_⟩
 rintro i m H ⟨rfl,hi,p⟩
 by_cases hlt:i < n
 ·refine .inr ⟨hlt,Pv (i + 1),fun H' p'=>⟨n - (i + 1),by omega,rfl,hlt,p'⟩,fun x H' y=>?_⟩
  obtain ⟨e,y⟩:=y
  subst e y
  exact hs i _ hlt p
 ·have e:i=n:=by omega
  subst e
  exact .inl ⟨Nat.le_refl _,hd H p⟩
def blkC (N:List Str) (sc scope:Scope) (own:List (Str × Nat)):Bool :=
 (match scope.kind with | .function=>true | _=>false) && (scope.names.all fun y=>decide (scope.names.lookup y.1=some y.2)) && (own.all fun p=>decide (N[p.2]?=some p.1)) &&
  (scope.names.all fun y=>match y.2 with
   | .free=>(match sc.names.lookup y.1 with | some .cell=>true | some .free=>true | _=>false)
   | .local=>decide (y.1∈own.map (·.1)) || decide (y.1 ∉ N)
   | .cell=>decide (y.1∈own.map (·.1)) || decide (y.1 ∉ N)
   | _=>true)
theorem blkOk_by {N:List Str} {sc scope:Scope} {own:List (Str × Nat)} (h:blkC N sc scope own=true):BlkOk N sc scope own:=by
 unfold blkC at h
 simp only [Bool.and_eq_true,List.all_eq_true,decide_eq_true_eq] at h
 obtain ⟨⟨⟨h1,h2⟩,h3⟩,h4⟩:=h
 refine ⟨?_,h2,h3,fun y hy e=>?_,fun y hy e=>?_⟩
 ·split at h1
  ·assumption
  ·cases h1
 ·have q:=h4 y hy
  simp only [e] at q
  split at q <;> first | exact .inl (by assumption) | exact .inr (by assumption) | cases q
 ·have q:=h4 y hy
  rcases e with e | e <;> (simp only [e,Bool.or_eq_true,decide_eq_true_eq] at q;exact q)
end L2
namespace L2
open PySem PySem.Spec PyProof.Rows
theorem compTurn2_out (elt t0 i0 t1 i1:Expr) (ifs0 ifs1:List Expr) (scope:Scope) (pos:Pos) (it acc:Value) (env:Env) :
  compTurn (.ListComp elt [⟨t0,i0,ifs0,0⟩,⟨t1,i1,ifs1,0⟩] scope pos) 0 it acc env=(do
   standAt i0.pos
   match ← pyNext it with
   | none=>pure (.done .next)
   | some v =>
    letOwnedTupleGo t0 it v
    assign t0 env v
    let mut ok:=true
    for c in ifs0 do
     if ok then ok ← isTrue c env (eval c env)
    if ok then
     let x ← eval i1 env
     standAt i1.pos
     let x ← foldedSetIterable i1 env x
     let _ ← runOwn (.compStart (.ListComp elt [⟨t0,i0,ifs0,0⟩,⟨t1,i1,ifs1,0⟩] scope pos) 1 (← holding [x] (pyIter x)) acc env) env
    again (.compLoop (.ListComp elt [⟨t0,i0,ifs0,0⟩,⟨t1,i1,ifs1,0⟩] scope pos) 0 it acc env)):=by rfl
section
variable {prog:Program} {w:World} {A:Around} {R:Result→Shared→Prop} {s:Shared} {elt t0 i0 t1 i1:Expr} {ifs0 ifs1:List Expr} {scope:Scope} {pos:Pos} {it acc:Value} {env:Env}
theorem compLoop2_out (hs:∀ x,foldedSetIterable i1 env x=pure x) (I:Nat→Shared→Prop)
  (turn:∀ n s,I n s→wpAny (model prog w) A (pyNext it) (fun r s₁=>match r with
   | none=>R (.ok .next) s₁
   | some v=>wpAny (model prog w) A (letOwnedTupleGo t0 it v) (fun _ s₁'=>wpAny (model prog w) A (assign t0 env v) (fun _ s₂ =>
     wpAny (model prog w) A (forIn ifs0 true fun c r=>if r=true then do let ok ← isTrue c env (eval c env);pure (ForInStep.yield ok) else pure (ForInStep.yield r)) (fun ok s₃ =>
      if ok=true then wpAny (model prog w) A (eval i1 env) (fun x s₄=>wpAny (model prog w) A (pyIter x) (fun it1 s₅ =>
       codeAny (model prog w) A (.compStart (.ListComp elt [⟨t0,i0,ifs0,0⟩,⟨t1,i1,ifs1,0⟩] scope pos) 1 it1 acc env) (fun r s'=>match r with
        | .ok _=>∃ m,m < n∧I m s'
        | .error _=>False) s₅) (notedBy (model prog w) A env fun e s'=>R (.error e) s') s₄) (notedBy (model prog w) A env fun e s'=>R (.error e) s') s₃
      else ∃ m,m < n∧I m s₃) (notedBy (model prog w) A env fun e s'=>R (.error e) s') s₂) (notedBy (model prog w) A env fun e s'=>R (.error e) s') s₁') (notedBy (model prog w) A env fun e s'=>R (.error e) s') s₁) (notedBy (model prog w) A env fun e s'=>R (.error e) s') s)
  (n:Nat) (h:I n s) :
  codeAny (model prog w) A (.compLoop (.ListComp elt [⟨t0,i0,ifs0,0⟩,⟨t1,i1,ifs1,0⟩] scope pos) 0 it acc env) R s:=by
 refine codeAny_loop rfl I (fun n s hI=>?_) n h
 show wpAny _ A ((compTurn (.ListComp elt [⟨t0,i0,ifs0,0⟩,⟨t1,i1,ifs1,0⟩] scope pos) 0 it acc env).onRaise (fun x=>do noteFrame x env;theTreesLotGoes x)) _ _ s
 refine wpAny_noted ?_
 rw [compTurn2_out]
 refine wpAny_bind (wpAny_standAt (wpAny_bind (wpAny_mono (turn n s hI) (fun r s₁ h₁=>?_) fun _ _ h'=>h')))
 cases r with
 | none=>exact wpAny_pure h₁
 | some v =>
  refine wpAny_bind (wpAny_mono h₁ (fun _ s₁' h₁'=>?_) fun _ _ h'=>h')
  refine wpAny_bind (wpAny_mono h₁' (fun _ s₂ h₂=>wpAny_bind (wpAny_mono h₂ (fun ok s₃ h₃=>?_) fun _ _ h'=>h')) fun _ _ h'=>h')
  cases ok with
  | false=>exact wpAny_pure ⟨rfl,h₃⟩
  | true =>
   refine wpAny_bind (wpAny_mono h₃ (fun x s₄ h₄=>?_) fun _ _ h'=>h')
   refine wpAny_bind (wpAny_standAt (wpAny_bind (wpAny_of_eq (hs x) (wpAny_bind (wpAny_holding (wpAny_mono h₄ (fun it1 s₅ h₅=>?_) fun _ _ h'=>h'))))))
   refine wpAny_bind (wpAny_runOwn ?_)
   rw [Around.mark_none]
   refine codeAny_mono h₅ fun r s' hr=>?_
   cases r with
   | ok f =>
    first
     | exact wpAny_pure ⟨rfl,hr⟩
     | exact wpAny_bind (wpAny_pure (wpAny_pure ⟨rfl,hr⟩))
   | error e=>exact hr.elim
end
end L2
namespace L2
open PySem PySem.Spec PyProof.Rows
section
variable {κ:Type} [DecidableEq κ]
def valV (kvs:List (κ × V)) (k:κ):Option V:=(kvs.find? fun kv=>decide (kv.1=k)).map (·.2)
def putK (kvs:List (κ × V)) (k:κ) (v:V):List (κ × V) :=
 if (kvs.any fun kv=>decide (kv.1=k))=true then kvs.map (fun kv=>if kv.1=k then (kv.1,v) else kv) else kvs++[(k,v)]
theorem valV_pos {p:κ × V} {r:List (κ × V)} {k:κ} (e:p.1=k):valV (p::r) k=some p.2:=by simp [valV,List.find?_cons,e]
theorem valV_neg {p:κ × V} {r:List (κ × V)} {k:κ} (e:¬ p.1=k):valV (p::r) k=valV r k:=by simp [valV,List.find?_cons,e]
theorem valV_any (k:κ):∀ kvs:List (κ × V),(kvs.any fun kv=>decide (kv.1=k))=(valV kvs k).isSome
 | []=>rfl
 | p::r=>by
  rw [List.any_cons]
  by_cases e:p.1=k
  ·simp only [valV_pos e,decide_eq_true e,Bool.true_or,Option.isSome_some]
  ·rw [valV_neg e,decide_eq_false e,Bool.false_or];exact valV_any k r
theorem valV_map (k j:κ) (y:V):∀ kvs:List (κ × V),valV (kvs.map fun kv=>if kv.1=k then (kv.1,y) else kv) j=(valV kvs j).map fun x=>if j=k then y else x
 | []=>rfl
 | p::r=>by
  have ih:=valV_map k j y r
  rw [List.map_cons]
  by_cases h:p.1=k
  ·rw [if_pos h]
   by_cases e:p.1=j
   ·rw [valV_pos (p:=(p.1,y)) e,valV_pos e,Option.map_some,if_pos (e.symm.trans h)]
   ·rw [valV_neg (p:=(p.1,y)) e,valV_neg e,ih]
  ·rw [if_neg h]
   by_cases e:p.1=j
   ·rw [valV_pos (p:=p) e,valV_pos e,Option.map_some,if_neg (fun z=>h (e.trans z))]
   ·rw [valV_neg (p:=p) e,valV_neg e,ih]
theorem valV_snoc (k j:κ) (y:V):∀ kvs:List (κ × V),valV kvs k=none→valV (kvs++[(k,y)]) j=if j=k then some y else valV kvs j
 | [],_=>by
  by_cases e:k=j
  ·rw [if_pos e.symm];exact valV_pos (p:=(k,y)) e
  ·rw [if_neg (fun z=>e z.symm)];exact valV_neg (p:=(k,y)) e
 | p::r,hn=>by
  rw [List.cons_append]
  have hk:¬ p.1=k:=fun z=>by rw [valV_pos z] at hn;cases hn
  rw [valV_neg hk] at hn
  have ih:=valV_snoc k j y r hn
  by_cases e:p.1=j
  ·rw [valV_pos e,valV_pos e,if_neg (fun z=>hk (e.trans z))]
  ·rw [valV_neg e,valV_neg e,ih]
theorem valV_put (kvs:List (κ × V)) (k j:κ) (y:V):valV (putK kvs k y) j=if j=k then some y else valV kvs j:=by
 unfold putK
 by_cases a:(kvs.any fun kv=>decide (kv.1=k))=true
 ·rw [if_pos a,valV_map]
  rw [valV_any] at a
  by_cases e:j=k
  ·obtain ⟨x,hx⟩:=Option.isSome_iff_exists.mp a
   rw [if_pos e,e,hx,Option.map_some,if_pos rfl]
  ·rw [if_neg e]
   cases valV kvs j with
   | none=>rfl
   | some x=>rw [Option.map_some,if_neg e]
 ·rw [if_neg a]
  refine valV_snoc k j y kvs ?_
  rw [valV_any] at a
  cases q:valV kvs k with
  | none=>rfl
  | some x=>rw [q] at a;exact (a rfl).elim
theorem length_putK (kvs:List (κ × V)) (k:κ) (v:V):(putK kvs k v).length≤kvs.length + 1:=by
 unfold putK
 split
 ·rw [List.length_map];omega
 ·rw [List.length_append,List.length_cons,List.length_nil];omega
theorem RelO.isSome_eq {o:Option V} {u:Option Value} (r:RelO o u):o.isSome=u.isSome:=by
 cases o with
 | none=>cases u with
  | none=>rfl
  | some _=>exact (show False from r).elim
 | some _=>cases u with
  | none=>exact (show False from r).elim
  | some _=>rfl
theorem KV.val {kvs:List (κ × V)} {vs:List (κ × Value)} (r:KV kvs vs) (k:κ):RelO (valV kvs k) (valueAt vs k):=by
 unfold KV at r
 induction r with
 | nil=>exact True.intro
 | @cons p q ps qs h t ih =>
  obtain ⟨h1,h2⟩:=h
  by_cases e:p.1=k
  ·have e':q.1=k:=h1.symm.trans e
   have b:valueAt (q::qs) k=some q.2:=by simp [valueAt,List.find?_cons,e']
   rw [valV_pos e,b];exact h2
  ·have e':¬ q.1=k:=fun z=>e (h1.trans z)
   have b:valueAt (q::qs) k=valueAt qs k:=by simp [valueAt,List.find?_cons,e']
   rw [valV_neg e,b];exact ih
theorem KV.any {kvs:List (κ × V)} {vs:List (κ × Value)} (r:KV kvs vs) (k:κ):(kvs.any fun kv=>decide (kv.1=k))=vs.any fun kv=>decide (kv.1=k):=by
 unfold KV at r
 induction r with
 | nil=>rfl
 | cons h t ih=>rw [List.any_cons,List.any_cons,ih,h.1]
theorem KV.repl {kvs:List (κ × V)} {vs:List (κ × Value)} (r:KV kvs vs) (k:κ) {y:V} {u:Value} (ry:RelV y u) :
  KV (kvs.map fun kv=>if kv.1=k then (kv.1,y) else kv) (vs.map fun kv=>if kv.1=k then (kv.1,u) else kv):=by
 unfold KV at r ⊢
 induction r with
 | nil=>exact .nil
 | @cons p q ps qs h t ih =>
  rw [List.map_cons,List.map_cons]
  refine .cons ?_ ih
  obtain ⟨h1,h2⟩:=h
  by_cases e:p.1=k
  ·rw [if_pos e,if_pos (h1.symm.trans e)];exact ⟨h1,ry⟩
  ·rw [if_neg e,if_neg (fun z=>e (h1.trans z))];exact ⟨h1,h2⟩
theorem KV.put {kvs:List (κ × V)} {vs:List (κ × Value)} (r:KV kvs vs) (k:κ) {y:V} {u:Value} (ry:RelV y u):KV (putK kvs k y) (stored vs k u):=by
 unfold putK stored
 rw [r.any k]
 by_cases e:(vs.any fun kv=>decide (kv.1=k))=true
 ·rw [if_pos e,if_pos e];exact r.repl k ry
 ·rw [if_neg e,if_neg e];exact Paired.snoc r ⟨rfl,ry⟩
theorem KV.length {kvs:List (κ × V)} {vs:List (κ × Value)} (r:KV kvs vs):kvs.length=vs.length:=Paired.length r
end
theorem kV_is {P:Program} {w:World} {k:Key} {u:Value} (r:RelV (kV k) u):(mixKind P w).is k u=true:=by
 cases k with
 | inl i=>obtain ⟨t,e⟩:=(show ∃ t,u=Value.int i t from r);subst e;exact mixKind_int P w i t
 | inr x=>obtain ⟨t,e⟩:=(show ∃ t,u=Value.str x t from r);subst e;exact mixKind_str P w x t
theorem items_are {P:Program} {w:World}:∀ {ks:List Key} {us:List Value},Vals (ks.map kV) us→ItemsAre (mixKind P w) ks us
 | [],_,r=>by rw [List.map_nil] at r;cases r;exact .nil
 | k::ks,_,r=>by
  rw [List.map_cons] at r
  cases r with
  | cons h t=>exact .cons (kV_is h) (items_are t)
abbrev KT (H:Hp):List (List Key × V)→List (List Key × Addr × Value)→Prop:=Paired fun p q=>p.1=q.1∧H q.2.1=some (.tup (p.1.map kV))∧RelV p.2 q.2.2
theorem KT.val {H:Hp} {kvs:List (List Key × V)} {xs:List (List Key × Addr × Value)} (r:KT H kvs xs) (k:List Key):RelO (valV kvs k) ((atKey xs k).map (·.2)):=by
 induction r with
 | nil=>exact True.intro
 | @cons p q ps qs h t ih =>
  obtain ⟨h1,_,h2⟩:=h
  by_cases e:p.1=k
  ·have e':q.1=k:=h1.symm.trans e
   have b:atKey (q::qs) k=some q.2:=by simp [atKey,List.find?_cons,e']
   rw [valV_pos e,b];exact h2
  ·have e':¬ q.1=k:=fun z=>e (h1.trans z)
   have b:atKey (q::qs) k=atKey qs k:=by simp [atKey,List.find?_cons,e']
   rw [valV_neg e,b];exact ih
section
variable {P:Program} {w:World} {H:Hp} {h:Heap} {a:Addr}
theorem rd_of {u:HO} (ok:HOk P w H h) (e:Rd H a u):ObjOk P w H h a u:=e.ok ok
theorem dk_rd {kvs:List (Key × V)} (ok:HOk P w H h) (e:Rd H a (.dK kvs)):kvs.length≤sizeLine∧(a == sysModules)=false∧∃ vs,KV kvs vs∧h.DictOf (mixKind P w) a vs :=
 show ObjOk P w H h a (.dK kvs) from rd_of ok e
theorem key_of {ks:List Key} (ok:HOk P w H h) (e:H a=some (.tup (ks.map kV))):(tupleKind (mixKind P w)).is h ks a:=by
 obtain ⟨_,its,r,o,h1,h2,n,h3⟩:=(show ObjOk P w H h a (.tup (ks.map kV)) from ok a _ e)
 exact ⟨o,its.toArray,n,h1,h2,h3,by simpa using items_are r⟩
theorem dt_rd {kvs:List (List Key × V)} (ok:HOk P w H h) (e:Rd H a (.dT kvs)):kvs.length≤sizeLine∧(a == sysModules)=false ∧
  ∃ xs,KT H kvs xs∧h.DictOfH (tupleKind (mixKind P w)) a xs:=by
 obtain ⟨z,y,xs,r,o,es,ep,h1,h2,h3,h4,h5⟩:=(show ObjOk P w H h a (.dT kvs) from rd_of ok e)
 refine ⟨z,y,xs,r,o,es,ep,h1,h2,h3,h4,fun x hx=>?_,h5⟩
 have all:∀ {l:List (List Key × V)} {m:List (List Key × Addr × Value)},KT H l m→∀ x∈m,(tupleKind (mixKind P w)).is h x.1 x.2.1:=by
  intro l m q
  induction q with
  | nil=>intro x hx;exact nomatch hx
  | @cons p q ps qs hq t ih =>
   intro x hx
   rcases List.mem_cons.mp hx with e | hx
   ·subst e
    exact key_of ok (by rw [← hq.1];exact hq.2.1)
   ·exact ih x hx
 exact all r x hx
end
def DGet (H:Hp) (a:Addr) (y:V) (r:Option V):Prop :=
 (∃ kvs k,Rd H a (.dK kvs)∧y=kV k∧r=valV kvs k)∨∃ kvs k b,Rd H a (.dT kvs)∧y=.ref b∧H b=some (.tup (k.map kV))∧r=valV kvs k
def DPut (H:Hp) (a:Addr) (y v:V) (H':Hp):Prop :=
 (∃ kvs k,H a=some (.dK kvs)∧y=kV k∧kvs.length < sizeLine∧H'=upd H a (.dK (putK kvs k v))) ∨
 ∃ kvs k b,H a=some (.dT kvs)∧y=.ref b∧H b=some (.tup (k.map kV))∧kvs.length < sizeLine∧H'=upd H a (.dT (putK kvs k v))
theorem DGet.k {H:Hp} {a:Addr} {kvs:List (Key × V)} {k:Key} (e:H a=some (.dK kvs)):DGet H a (kV k) (valV kvs k):=.inl ⟨kvs,k,.inl e,rfl,rfl⟩
theorem DGet.t {H:Hp} {a b:Addr} {kvs:List (List Key × V)} {k:List Key} (e:H a=some (.dT kvs)) (eb:H b=some (.tup (k.map kV))):DGet H a (.ref b) (valV kvs k):=.inr ⟨kvs,k,b,.inl e,rfl,eb,rfl⟩
theorem DPut.k {H:Hp} {a:Addr} {kvs:List (Key × V)} {k:Key} {v:V} (e:H a=some (.dK kvs)) (hl:kvs.length < sizeLine):DPut H a (kV k) v (upd H a (.dK (putK kvs k v))):=.inl ⟨kvs,k,e,rfl,hl,rfl⟩
theorem DPut.t {H:Hp} {a b:Addr} {kvs:List (List Key × V)} {k:List Key} {v:V} (e:H a=some (.dT kvs)) (eb:H b=some (.tup (k.map kV))) (hl:kvs.length < sizeLine) :
  DPut H a (.ref b) v (upd H a (.dT (putK kvs k v))):=.inr ⟨kvs,k,b,e,rfl,eb,hl,rfl⟩
section
variable {X:Cx} {pins:List (Addr × Obj)} {σ:St} {H:Hp} {s:Shared} {a:Addr} {y v:V} {u r:Value} {o:Option V} {A:Around} {E:Value→Shared→Prop}
theorem Inv.big (I:Inv X pins σ H s):sysModules < s.heap.objs.size:=by
 have h:mainGlobals < s.heap.objs.size:=(I.mod.glob.keeps I.bk).lt
 exact Nat.lt_trans (by decide) h
theorem d_in {Q:Value→Shared→Prop} (hu:A.units + 1 < cLine) (I:Inv X pins σ H s) (g:DGet H a y o) (ry:RelV y u) (h:∀ s',Inv X pins σ H s'→Q (.bool o.isSome) s') :
  wpAny (model X.prog X.w) A (compareOp .In u (.ref a)) Q E s:=by
 rcases g with ⟨kvs,k,e,ey,l⟩ | ⟨kvs,k,b,e,ey,eb,l⟩
 ·subst ey
  obtain ⟨z,hd,vs,rel,dd⟩:=dk_rd I.hok e
  refine wpAny_in_of (kV_is ry) hd dd.mapOf ?_
  rw [← (rel.val k).isSome_eq,← l]
  exact h _ (I.tok _)
 ·subst ey
  cases (show u=Value.ref b from ry)
  obtain ⟨z,hd,xs,rel,dd⟩:=dt_rd I.hok e
  refine wpAny_in_heap (tupleKind_room_in1 hu) (key_of I.hok eb) hd dd ?_
  have q:=(rel.val k).isSome_eq
  rw [Option.isSome_map] at q
  rw [← q,← l]
  exact h _ (I.tok _)
end
def NoSl (i:Expr):Prop:=∀ ov iv,subscripted i false ov iv=operate [ov,iv] (getItem ov iv)
theorem subD_of {prog:Program} {w:World} {A:Around} {E:Value→Shared→Prop} {s:Shared} {env:Env} {value slice:Expr} {pos:Pos} {T id:String} {Q:Value→Shared→Prop}
  (hl:typeLookup (.type T) "__getitem__"=pure (some (.builtin id))) (hs:NoSl slice)
  (h:wpAny (model prog w) A (eval value env) (fun o s₁=>wpAny (model prog w) A (eval slice env) (fun i s₂=>s₂.TypeIs o T∧wpAny (model prog w) A (getItem o i) Q E s₂) E s₁) E s) :
  wpAny (model prog w) A (eval (.Subscript value slice pos) env) Q E s:=by
 refine Subscript_ (wpAny_mono h (fun o s₁ h₁=>wpAny_mono h₁ (fun i s₂ h₂=>?_) fun _ _ x=>x) fun _ _ x=>x)
 obtain ⟨hT,h₂⟩:=h₂
 unfold subscriptTail
 refine wpAny_bind ?_
 rw [getitemInPython_of_ne hT.not_modules]
 refine wpAny_bind (wpAny_specialOf hT hl ?_)
 have fin:wpAny (model prog w) A (subscripted slice false o i) (fun r s₃=>wpAny (model prog w) A (letTemporaryGo value o r >>= fun _=>pure r) Q E s₃) E s₂:=by
  rw [hs o i]
  exact wpAny_operating (wpAny_mono h₂ (fun r s₃ h₃=>wpAny_bind (wpAny_letTemporaryGo (wpAny_pure h₃))) fun _ _ x=>x)
 first
  | exact wpAny_pure (wpAny_bind fin)
  | exact wpAny_bind (wpAny_pure (wpAny_bind fin))
  | exact wpAny_bind fin
def tDIn (ty td:TE):TE:=fun σ H Q=>ty σ H fun y H1=>td σ H1 fun x H2=>∃ a o,x=.ref a∧DGet H2 a y o∧Q (.bl o.isSome) H2
section
variable {X:Cx} {o i e value:Expr} {pos pos' tpos:Pos} {td ty tv:TE}
theorem pc_din (hu:X.A.units + 1 < cLine) (hi:PE X i ty) (ho:PE X o td):PC X .In i o (tDIn ty td):=by
 intro pins s σ H Q I h
 refine thn (hi pins s σ H _ I h) fun iv s1 ⟨y,H1,I1,ry,q1⟩=>thn (ho pins s1 σ H1 _ I1 q1) fun u s2 ⟨x,H2,I2,rx,a,ov,ex,g,q2⟩=>?_
 subst ex
 obtain rfl:u=Value.ref a:=rx
 exact d_in hu I2 g ry fun s3 I3=>⟨.bl ov.isSome,H2,I3,rfl,q2⟩
end
def mergeK (kvs more:List (Key × V)):List (Key × V):=more.foldl (fun acc kv=>putK acc kv.1 kv.2) kvs
theorem KV.merge:∀ {more:List (Key × V)} {rs:List (Key × Value)} {kvs:List (Key × V)} {vs:List (Key × Value)},KV more rs→KV kvs vs→KV (mergeK kvs more) (merged vs rs):=by
 intro more rs kvs vs r
 unfold KV at r
 induction r generalizing kvs vs with
 | nil=>intro q;exact q
 | @cons p q ps qs h t ih =>
  intro r0
  have e:KV (putK kvs p.1 p.2) (stored vs q.1 q.2):=by
   have:=r0.put p.1 h.2
   rw [← h.1];exact this
  exact ih e
theorem length_mergeK:∀ (more kvs:List (Key × V)),(mergeK kvs more).length≤kvs.length + more.length
 | [],kvs=>by show kvs.length≤kvs.length + 0;omega
 | p::r,kvs=>by
  have h1:=length_mergeK r (putK kvs p.1 p.2)
  have h2:=length_putK kvs p.1 p.2
  show (mergeK (putK kvs p.1 p.2) r).length≤_
  rw [List.length_cons];omega
end L2
namespace L2
open PySem PySem.Spec PyProof.Rows
theorem list_keys_none:typeLookup (.type "list") "keys"=pure none:=am_miss_of_fast (by first | decide +kernel | rfl)
theorem ud_entry:entryFor table "dict.update.loop"=some Builtin.«dict.update.loop»:=entryFor_of_tree (by kernel_rfl)
theorem ud_plain:plainId "dict.update.loop"=true:=by decide +kernel
section
variable {prog:Program} {w:World} {A:Around} {E:Value→Shared→Prop}
theorem miss_list {s:Shared} {a:Addr} {o:Obj} {xs:Array Value} {k:Nat} {Q:Option Value→Shared→Prop} (hx:s.heap.get? a=some o) (hc:o.cls=.type "list") (hdat:o.data=.seq xs k) (hd:o.dict=none) (hA:A.handled=none)
  (h:∀ h' tk,(∀ b ob,s.heap.get? b=some ob→h'.get? b=some ob)→Q none { s with heap:=h',toks:=tk }):wpAny (model prog w) A (getAttr? (.ref a) "keys") Q E s:=by
 obtain ⟨c,dct,dat,sl⟩:=o
 simp only at hc hdat hd
 subst hc hdat hd
 obtain ⟨hp,g,d,tk,os⟩:=s
 have hT:∀ tk',(⟨hp,g,d,tk',os⟩:Shared).TypeIs (.ref a) "list":=fun _=>⟨_,hx,rfl⟩
 have hmiss:=list_keys_none
 have hname:(["__module__","__name__","__qualname__","__doc__","__annotations__"]:List Str).contains "keys"=false:=by decide +kernel
 have hsz:("keys":Str).length + 100≤sizeLine:=by first | size_fits | decide +kernel
 have f1:=sub_AttributeError
 have f3:=PySem.F.slot_list_getattribute.lookup
 have f4:=PySem.F.slot_list_getattribute.bind (.ref a)
 have f5:=am_list_getattr_none
 unfold getAttr? getAttrBy? getAttrBy
 repeat (any_goals (first | assumption | exact hT _ | ((with_reducible show wpAny _ _ (call (Value.builtin "list.__getattribute__") _ _) _ _ _);refine call_meets PySem.F.slot_list_getattribute (hT _) am_entry_list_getattribute (PySem.F.args_list_getattribute_2 _ _) (meets_getattribute_miss_list a xs k sl "keys" _ hmiss hname hsz) ⟨hx,hA,fun h' tk' e hx'=>?_⟩) | wp_step))
 obtain ⟨t',u',he⟩:=hx'.there
 show wpAny _ _ (getattributeRaised _ _ _ _ _ _ _) _ _ _
 unfold getattributeRaised
 repeat (any_goals (first | assumption | wp_step))
 all_goals first | exact h _ _ hx'.keeps | (dsimp only;repeat (any_goals (first | assumption | exact h _ _ hx'.keeps | wp_step)))
theorem upd_loop {R:Result→Shared→Prop} {S I l:Addr} {items:Array Value} {res:Value} (hh:A.handled=none) (hlI:l≠I) (hSI:S≠I) (hSl:S≠l) :
  ∀ (rest:List (Key × Value)) (i:Nat) (acc:List (Key × Value)) (ix:Int) (t:Tok) (s:Shared),items.size=i + rest.length→acc.length + rest.length≤sizeLine →
   (∀ (j:Nat) (q:Key × Value),rest[j]?=some q→∃ (b:Addr) (u:Value),items[i + j]?=some (.ref b)∧b≠S∧b≠I∧IsTup s.heap b #[u,q.2]∧keyIs q.1 u=true) →
   s.heap.IsListIter I l i→s.heap.IsList l items→s.heap.DictOf (mixKind prog w) S acc →
   (∀ h' tk,h'.DictOf (mixKind prog w) S (merged acc rest)→(∀ b o,b≠S→b≠I→s.heap.get? b=some o→h'.get? b=some o)→R (.ok (.ret res)) { s with heap:=h',toks:=tk }) →
   codeAny (model prog w) A (.builtin "dict.update.loop" ⟨[.ref S,.ref I,.int ix t,res],[]⟩) R s
 | [],i,acc,ix,t,s,hsz,hln,ht,hit,hl,hm,hR=>by
  refine codeAny_builtin ud_entry ?_
  rw [Around.under_plainId ud_plain _]
  show wpAny _ A.in1 (pyNext (.ref I) >>= _) _ _ s
  refine wpAny_bind (wpAny_pyNext_list_end (A:=A.in1) hh hit hl (by first | exact Array.getElem?_eq_none (Nat.le_of_eq hsz) | (simp at hsz;simp;omega)) fun h' he=>?_)
  show wpAny _ A.in1 (Builtin.Dict.addKeywords S [] >>= _) _ _ _
  refine wpAny_bind (wpAny_pure (wpAny_pure ?_))
  exact hR h' s.toks (hm.extBut he hSI) fun b o _ hb e=>he b o hb e
 | q::rest,i,acc,ix,t,s,hsz,hln,ht,hit,hl,hm,hR=>by
  obtain ⟨b,u,hb,hbS,hbI,htup,hk⟩:=ht 0 q rfl
  rw [List.length_cons] at hsz hln
  refine codeAny_builtin ud_entry ?_
  rw [Around.under_plainId ud_plain _]
  show wpAny _ A.in1 (pyNext (.ref I) >>= _) _ _ s
  refine wpAny_bind (wpAny_pyNext_list_item (x:=.ref b) hit hl (by simpa using hb) fun h1 hit1 hs1=>?_)
  have ht1:IsTup h1 b #[u,q.2]:=htup.extBut hs1.extBut hbI
  have hl1:h1.IsList l items:=hl.extBut hs1.extBut hlI
  have hm1:h1.DictOf (mixKind prog w) S acc:=hm.extBut hs1.extBut hSI
  obtain ⟨o,ho,hc,n,hd⟩:=id ht1
  show wpAny _ A.in1 (holding [Value.ref b] _ >>= _) _ _ _
  refine wpAny_bind (wpAny_holding ?_)
  refine wpAny_bind (wpAny_tryCatch ?_)
  unfold Builtin.Dict.pairItems
  refine wpAny_bind (wpAny_typeOf (T:="tuple") ⟨o,ho,hc⟩ ?_)
  rw [if_pos (by first | decide | rfl | simp)]
  refine wpAny_bind (wpAny_seqItems ho hd (wpAny_pure ?_))
  show wpAny _ A.in1 (holding [u,q.2] (dictSet S u q.2)) _ _ _
  refine wpAny_holding (wpAny_dictSet_pairs (knd:=mixKind prog w) (k:=q.1) hk hm1 (fun h2 hm2 hs2=>?_) (by omega))
  refine wpAny_pure ⟨plainId_quiet ud_plain _,upd_loop (items:=items) hh hlI hSI hSl rest (i + 1) (stored acc q.1 q.2) (ix + 1) 0 _ (show items.size=i + 1 + rest.length by omega) ?_ (fun j q' e=>?_) ?_ ?_ hm2 fun h' tk hd' k=>?_⟩
  ·have z:=stored_length_le acc q.1 q.2
   omega
  ·obtain ⟨b',u',hb',hbS',hbI',htup',hk'⟩:=ht (j + 1) q' (by simpa using e)
   refine ⟨b',u',?_,hbS',hbI',(htup'.extBut hs1.extBut hbI').extBut hs2.extBut hbS',hk'⟩
   rw [show i + 1 + j=i + (j + 1) by omega]
   exact hb'
  ·exact hit1.at fun o' e=>hs2.extBut I o' (Ne.symm hSI) e
  ·exact hl1.extBut hs2.extBut (Ne.symm hSl)
  ·exact hR h' tk hd' fun c oc h3 h4 e=>k c oc h3 h4 (hs2.extBut c oc h3 (hs1.extBut c oc h4 e))
theorem call_dict_pairs {s:Shared} {l:Addr} {ol:Obj} {items:Array Value} {n:Nat} {prs:List (Key × Value)} {Q:Value→Shared→Prop} (hh:A.handled=none) (hl:s.heap.get? l=some ol) (hc:ol.cls=.type "list") (hd:ol.dict=none)
  (hdat:ol.data=.seq items n) (hsz:items.size=prs.length) (hln:prs.length≤sizeLine)
  (ht:∀ (j:Nat) (q:Key × Value),prs[j]?=some q→∃ (b:Addr) (u:Value),items[j]?=some (.ref b)∧IsTup s.heap b #[u,q.2]∧keyIs q.1 u=true)
  (h:∀ h' tk,h'.DictOf (mixKind prog w) s.heap.objs.size (merged [] prs)→(∀ b o,s.heap.get? b=some o→h'.get? b=some o)→Q (.ref s.heap.objs.size) { s with heap:=h',toks:=tk }) :
  wpAny (model prog w) A (call (.type "dict") [.ref l]) Q E s:=by
 refine callType_codes (Q₁:=fun obj s₁=>obj=.ref s.heap.objs.size∧s₁={ s with heap:=s.heap.push { cls:=.type "dict",data:=.dict #[] } }) PySem.F.kt_called_dict (PySem.F.kt_typeCall_dict_1 _) PySem.F.entry_dict_init (kt_code_dict_new _ ⟨rfl,rfl⟩) ?_
 rintro obj s₁ ⟨rfl,rfl⟩
 have hnew:(s.heap.push { cls:=.type "dict",data:=.dict #[] }).DictOf (mixKind prog w) s.heap.objs.size []:=Heap.DictOf.new s.heap
 have k0:∀ b o,s.heap.get? b=some o→(s.heap.push { cls:=.type "dict",data:=.dict #[] }).get? b=some o:=fun b o e=>Heap.get?_push_of_some _ e
 refine ⟨hnew.typeIs,PySem.F.args_dict_init_2 _ _,?_⟩
 unfold Builtin.«dict.__init__»
 refine wpAny_bind ?_
 unfold Builtin.Dict.selfAndRest
 refine wpAny_bind (wpAny_notOrdered_dict hnew.typeIs ?_)
 show wpAny _ _ (pure (s.heap.objs.size,[Value.ref l])) _ _ _
 refine wpAny_pure ?_
 show wpAny _ _ (Builtin.Dict.updateFrom "dict.__init__" s.heap.objs.size (.ref l) [] .none) _ _ _
 unfold Builtin.Dict.updateFrom
 refine wpAny_bind (wpAny_typeOf (T:="list") ⟨ol,k0 _ _ hl,hc⟩ ?_)
 rw [if_pos (by first | decide | rfl | simp)]
 refine wpAny_bind (miss_list (k0 _ _ hl) hc hdat hd hh fun h1 tk1 hk1=>?_)
 rw [if_pos (show (none:Option Value).isNone=true from rfl)]
 refine wpAny_bind (wpAny_rule ?_)
 have hl1:h1.IsList l items:=⟨ol,hk1 _ _ (k0 _ _ hl),hc,n,hdat⟩
 have hS1:s.heap.objs.size < h1.objs.size:=by
  have e:(s.heap.push { cls:=.type "dict",data:=.dict #[] }).get? s.heap.objs.size=some { cls:=.type "dict",data:=.dict #[] }:=Heap.get?_push_size _ rfl
  exact Heap.lt_size (hk1 _ _ e)
 refine wpAny_bind (wpAny_pyIter_list hl1 ?_)
 have k2:∀ b o,h1.get? b=some o→(h1.push { cls:=.type "list_iterator",data:=.fields #[.ref l,.int 0 0] }).get? b=some o:=fun b o e=>Heap.get?_push_of_some _ e
 have hlt:l < s.heap.objs.size:=Heap.lt_size hl
 have key:=upd_loop (prog:=prog) (w:=w) (A:=A.in1) (R:=wants (fun r s₂=>r=.none∧Q (.ref s.heap.objs.size) s₂) E) (S:=s.heap.objs.size) (I:=h1.objs.size) (l:=l) (items:=items) (res:=Value.none) hh
  (Nat.ne_of_lt (Nat.lt_trans hlt hS1)) (Nat.ne_of_lt hS1) (Nat.ne_of_gt hlt) prs 0 [] 0 0
  { s with heap:=h1.push { cls:=.type "list_iterator",data:=.fields #[.ref l,.int 0 0] },toks:=tk1 } (by rw [hsz,Nat.zero_add]) (by rw [List.length_nil,Nat.zero_add];exact hln)
  (fun j q e=>by
   obtain ⟨b,u,e1,e2,e3⟩:=ht j q e
   have hb:b < s.heap.objs.size:=e2.lt
   exact ⟨b,u,by rw [Nat.zero_add];exact e1,Nat.ne_of_lt hb,Nat.ne_of_lt (Nat.lt_trans hb hS1),e2.keeps fun c o z=>k2 _ _ (hk1 _ _ (k0 _ _ z)),e3⟩)
  ⟨_,Heap.get?_push_size _ rfl,rfl,rfl⟩ (hl1.at fun o e=>k2 _ _ e) ((hnew.at fun o e=>hk1 _ _ e).at fun o e=>k2 _ _ e)
  (fun h' tk hd' k=>⟨rfl,h h' tk hd' fun b o e=>k b o (Nat.ne_of_lt (Heap.lt_size e)) (Nat.ne_of_lt (Nat.lt_trans (Heap.lt_size e) hS1)) (k2 _ _ (hk1 _ _ (k0 _ _ e)))⟩)
 first
  | exact wpAny_pure ⟨plainId_quiet ud_plain _,key⟩
  | exact wpAny_bind (wpAny_pure (wpAny_pure ⟨plainId_quiet ud_plain _,key⟩))
end
section
variable {X:Cx}
theorem pairs_of {pins:List (Addr × Obj)} {σ:St} {H:Hp} {s:Shared} (I:Inv X pins σ H s):∀ {ps:List Addr} {kvs:List (Key × V)},Paired (fun p kv=>SqT X.K H p [kV kv.1,kv.2]) ps kvs →
  ∃ prs:List (Key × Value),KV kvs prs∧prs.length=ps.length∧∀ (j:Nat) (q:Key × Value),prs[j]?=some q→∃ (b:Addr) (u:Value),ps[j]?=some b∧IsTup s.heap b #[u,q.2]∧keyIs q.1 u=true
 | _,_,.nil=>⟨[],.nil,rfl,fun j q e=>by simp at e⟩
 | _,_,.cons (a:=p) (b:=kv) h t=>by
  obtain ⟨prs,r,hl,hp⟩:=pairs_of I t
  obtain ⟨its,rv,ht,_⟩:=I.tuple h
  obtain ⟨u,y,ei,ru,ry⟩:=vals2 rv
  subst ei
  refine ⟨(kv.1,y)::prs,.cons ⟨rfl,ry⟩ r,by rw [List.length_cons,List.length_cons,hl],fun j q e=>?_⟩
  cases j with
  | zero =>
   have e':(kv.1,y)=q:=Option.some.inj e
   subst e'
   exact ⟨p,u,rfl,ht,kV_is (P:=X.prog) (w:=X.w) ru⟩
  | succ j =>
   obtain ⟨b,u',e1,e2,e3⟩:=hp j q (by simpa using e)
   exact ⟨b,u',by simpa using e1,e2,e3⟩
theorem refs_at:∀ {ps:List Addr} {us:List Value},Vals (ps.map V.ref) us→us=ps.map Value.ref
 | [],us,r=>by
  rw [List.map_nil] at r
  cases r
  rfl
 | p::ps,us,r=>by
  rw [List.map_cons] at r
  cases r with
  | cons h t =>
   cases h
   rw [List.map_cons,← refs_at t]
theorem call_dictP (hcalm:X.calm=true):CallR X (.type "dict") (fun xs H Q=>∃ (a:Addr) (ps:List Addr) (kvs:List (Key × V)),xs=[.ref a]∧SqL X.K H a (ps.map V.ref)∧Paired (fun p kv=>SqT X.K H p [kV kv.1,kv.2]) ps kvs ∧
  ∀ p,H p=none→Q (.ref p) (upd H p (.dK (mergeK [] kvs)))):=by
 intro pins s σ H xs us Q I r q
 obtain ⟨a,ps,kvs,ex,hq,hp,q⟩:=q
 subst ex
 obtain ⟨u,eu,rx⟩:=vals1 r
 subst eu
 cases rx
 obtain ⟨its,rv,pl,hz⟩:=I.list hq
 have ei:=refs_at rv
 subst ei
 rw [List.length_map] at hz
 obtain ⟨prs,rel,hl,hpr⟩:=pairs_of I hp
 obtain ⟨o,n,ho,hc,hd,hdat⟩:=pl
 refine call_dict_pairs (prs:=prs) (I.ok.hd hcalm) ho hc hd hdat (by simp [hl]) (by rw [hl];exact hz) (fun j q' e=>?_) fun h' tk hd' k=>?_
 ·obtain ⟨b,u,e1,e2,e3⟩:=hpr j q' e
  exact ⟨b,u,by simp [e1],e2,e3⟩
 ·have hm:(s.heap.objs.size == sysModules)=false:=beq_eq_false_iff_ne.mpr (Nat.ne_of_gt I.big)
  have hlen:(mergeK [] kvs).length≤sizeLine:=by
   refine Nat.le_trans (length_mergeK kvs []) ?_
   rw [List.length_nil,Nat.zero_add,rel.length,hl]
   exact hz
  exact ⟨.ref s.heap.objs.size,upd H s.heap.objs.size (.dK (mergeK [] kvs)),I.laid (t':=tk) k (Nat.le_refl _) (show ObjOk X.prog X.w _ _ _ (.dK (mergeK [] kvs)) from ⟨hlen,hm,merged [] prs,KV.merge rel .nil,hd'⟩),rfl,q _ (I.hok.fresh (Nat.le_refl _))⟩
end
end L2
namespace L2
open PySem PySem.Spec PyProof.Rows
theorem boot_reversed5:bootBuiltins "reversed"=some (.type "reversed"):=by decide +kernel
section
variable {X:Cx} {pins:List (Addr × Obj)} {σ:St} {H:Hp} {s:Shared} {h':Heap}
theorem Inv.turnedL {t':Nat} {ch:List Addr} (I:Inv X pins σ H s) (k:∀ b o,b ∉ ch→s.heap.get? b=some o→h'.get? b=some o) (hf:∀ b∈ch,FpOk X pins H b):Inv X pins σ H { s with heap:=h',toks:=t' }:=by
 have nit:∀ b u,H b=some u→b ∉ ch:=fun b u e z=>by
  have q:=(hf b z).1
  rw [q] at e;cases e
 refine I.step (g':=s.gens) (d':=s.drawn) (ch:=ch) (fun b hb=>⟨(hf b hb).2.2.2.1,(hf b hb).2.1,(hf b hb).2.2.2.2.1,(hf b hb).2.2.2.2.2⟩) (fun b o _ _ hc e _=>k b o hc e) (fun b o _ _ hc e _=>⟨o.slots,k b o hc e⟩)
  (fun _ _ _ _ n=>n) (fun b o hc e=>⟨o,k b o hc e⟩) (fun _ _ e=>e) (fun _ _ _ e=>e) (fun b ps e=>⟨#[],by rw [e];simp⟩) (fun m hm=>?_) (fun b u e=>?_) I.bare
 ·obtain ⟨o,es,ep,ho,r⟩:=hm
  exact ⟨o,es,ep,k _ o (fun z=>(hf _ z).2.1 rfl) ho,r⟩
 ·refine (I.hok b u e).stay (fun c v hc q=>k c v ?_ q) (fun _ q=>q) fun _ _ q=>q
  rcases hc with z | z
  ·rw [z];exact nit b u e
  ·exact nit c _ z
theorem Inv.turnedNew {t':Nat} {ch:List Addr} {T:Addr} {ob:HO} (I:Inv X pins σ H s) (k:∀ b o,b ∉ ch→s.heap.get? b=some o→h'.get? b=some o) (hf:∀ b∈ch,FpOk X pins H b) (hT:s.heap.objs.size≤T)
  (new:ObjOk X.prog X.w (upd H T ob) h' T ob):Inv X pins σ (upd H T ob) { s with heap:=h',toks:=t' }:=by
 have hn:H T=none:=I.hok.fresh hT
 have nit:∀ b u,H b=some u→b ∉ ch:=fun b u e z=>by
  have q:=(hf b z).1
  rw [q] at e;cases e
 refine I.step (g':=s.gens) (d':=s.drawn) (ch:=ch) (fun b hb=>⟨(hf b hb).2.2.2.1,(hf b hb).2.1,(hf b hb).2.2.2.2.1,(hf b hb).2.2.2.2.2⟩) (fun b o _ _ hc e _=>k b o hc e) (fun b o _ _ hc e _=>⟨o.slots,k b o hc e⟩)
  (fun b o _ e n=>?_) (fun b o hc e=>⟨o,k b o hc e⟩) (fun b xs e=>?_) (fun b o u e=>?_) (fun b ps e=>⟨#[],?_⟩) (fun m hm=>?_) (fun b u e=>?_) I.bare
 ·rw [uN (Nat.ne_of_lt (Nat.lt_of_lt_of_le (Heap.lt_size e) hT))];exact n
 ·rw [uN (nN e hn)];exact e
 ·rw [uN (nN e hn)];exact e
 ·rw [uN (nN e hn),e];simp
 ·obtain ⟨o,es,ep,ho,r⟩:=hm
  exact ⟨o,es,ep,k _ o (fun z=>(hf _ z).2.1 rfl) ho,r⟩
 ·by_cases hb:b=T
  ·subst hb
   rw [uS] at e
   cases e
   exact new
  ·rw [uN hb] at e
   refine (I.hok b u e).stay (fun c v hc q=>k c v ?_ q) (fun c q=>by rw [uN (nN q hn)];exact q) fun c xs q=>by rw [uN (nN q hn)];exact q
   rcases hc with z | z
   ·rw [z];exact nit b u e
   ·exact nit c _ z
end
def RgC (i j c:Int) (n:Nat):Prop:=c≠0∧c.natAbs < 1073741824∧Builtin.Range.small i j c=true∧Builtin.Range.rangeSize i j c=n
theorem RgC.neg {i j:Int} (ha:-(2 ^ 62)≤i) (ha':i < 2 ^ 62) (hb:-(2 ^ 62)≤j) (hb':j < 2 ^ 62):RgC i j (-1) (i - j).toNat :=
 ⟨by decide,by decide,PySem.W.small_down ha ha' hb hb',PySem.W.rangeSize_downNat i j⟩
def Ite (K:PySem.W.Frag) (a:Addr):It :=
 ⟨fun i H=>∃ (xs:List V) (x:V),SqL K H a xs∧xs[i]?=some x,fun i H v H'=>∃ T x,v=.ref T∧H T=none∧H'=upd H T (.tup [.int (i:Nat),x])∧∀ xs,SqL K H a xs→xs[i]?=some x,fun i H=>∃ xs:List V,SqL K H a xs∧xs.length≤i⟩
theorem turn_enum {P:Program} {w:World} {K:PySem.W.Frag} {elts:List Expr} {kk:Nat} {tpos:Pos} (a e it:Addr) :
  Turn P w K (.Tuple elts kk tpos) (Ite K a) [e,it] e (fun i h=>(∃ old,IsEnum h e it ((i:Nat):Int) old)∧h.IsListIter it a i∧e≠it) where
 mem:=by simp
 obj:=fun i h st b hb=>by
  obtain ⟨⟨old,he⟩,⟨o,ho,hc,hd⟩,_⟩:=st
  have e':b=e∨b=it:=by simpa using hb
  rcases e' with z | z
  ·rw [z];exact ⟨_,he,fun v q=>nomatch q⟩
  ·rw [z];exact ⟨o,ho,fun v q=>by rw [hd] at q;cases q⟩
 keep:=fun i h h' st k=>let ⟨⟨old,he⟩,hi,hne⟩:=st;⟨⟨old,k e (by simp) _ he⟩,hi.at fun o q=>k it (by simp) o q,hne⟩
 item:=by
  intro X hP hw hK hc i pins s σ H E I hf st hg
  subst hP hw hK
  obtain ⟨⟨old,he⟩,hit,hne⟩:=st
  obtain ⟨xs,x,hq,hx⟩:=hg
  obtain ⟨its,rv,p,hz⟩:=I.list hq
  obtain ⟨u,hu,ru⟩:=rv.get hx
  have hel:e < s.heap.objs.size:=Heap.lt_size he
  have hil:it < s.heap.objs.size:=by obtain ⟨_,q,_⟩:=hit;exact Heap.lt_size q
  refine wpAny_pyNext_enum_item he hit p.isList (x:=u) (by simpa using hu) hne fun h' ho hit' hT hsz hk=>?_
  refine ⟨_,rfl,wpAny_letOwnedTupleGo_enum (s:={ s with heap:=h',toks:=s.toks + 1 }) ho fun h'' he' sb=>?_⟩
  have hT2:h''.get? s.heap.objs.size=some { cls:=.type "tuple",data:=.seq #[.int i s.toks,u] }:=(sb.2 _ (Nat.ne_of_gt hel)).trans hT
  have new:ObjOk X.prog X.w (upd H s.heap.objs.size (.tup [.int (i:Nat),x])) h'' s.heap.objs.size (.tup [.int (i:Nat),x]) :=
   ⟨by show 2≤sizeLine;decide,[.int i s.toks,u],.cons ⟨_,rfl⟩ (.cons ru .nil),⟨_,hT2,rfl,_,rfl⟩⟩
  have I1:Inv X pins σ (upd H s.heap.objs.size (.tup [.int (i:Nat),x])) { s with heap:=h'',toks:=s.toks + 1 } :=
   I.turnedNew (ch:=[e,it]) (fun b ob hb q=>(sb.2 b (fun z=>hb (by simp [z]))).trans (hk b ob (fun z=>hb (by simp [z])) (fun z=>hb (by simp [z])) q)) hf (Nat.le_refl _) new
  refine ⟨.ref s.heap.objs.size,_,I1,rfl,⟨_,x,rfl,I.hok.fresh (Nat.le_refl _),rfl,fun ys hy=>by rw [I.list_inj hy hq];exact hx⟩,⟨⟨u,?_⟩,hit'.at fun o q=>(sb.2 it (Ne.symm hne)).trans q,hne⟩,fun b hb=>?_⟩
  ·have e1:((i + 1:Nat):Int)=(i:Int) + 1:=by omega
   rw [e1];exact he'
  ·have hb':b < s.heap.objs.size:=by
    have e':b=e∨b=it:=by simpa using hb
    rcases e' with z | z
    ·rw [z];exact hel
    ·rw [z];exact hil
   rw [uN (Nat.ne_of_lt hb')]
   exact (hf b hb).1
 done:=by
  intro X hP hw hK hc i pins s σ H E I hf st hg
  subst hP hw hK
  obtain ⟨⟨old,he⟩,hit,hne⟩:=st
  obtain ⟨xs,hq,hx⟩:=hg
  obtain ⟨its,rv,p,hz⟩:=I.list hq
  obtain ⟨f0,f1,f2,f3,f4,f5⟩:=hf it (by simp)
  have hl:=rv.length
  exact wpAny_pyNext_enum_end (I.ok.hd hc) he hit p.isList (by simp;omega) fun h' eb=>⟨rfl,I.turned (t':=s.toks) (fun b o hb q=>eb b o hb q) f0 f1 f3 f4 f5⟩
 self:=fun A i s Q E st h=>let ⟨⟨_,he⟩,_⟩:=st;wpAny_pyIter_enum he h
def iEnum (K:PySem.W.Frag) (ta:TA):TI:=fun σ H R=>ta σ H fun vs H1=>∃ a xs,vs=[.ref a]∧SqL K H1 a xs∧R (Ite K a) H1
theorem pi_enum {X:Cx} {e:Expr} {ta:TA} {p pos tpos:Pos} {elts:List Expr} {kk:Nat} (hg:Gl X "enumerate") (hm:X.mg "enumerate"=none) (ha:PA X [e] ta) (hs:starEach [e] X.env=[(false,eval e X.env)]:=by rfl) :
  PI X (.Tuple elts kk tpos) (.Call (.Name "enumerate" p) [e] [] pos) (iEnum X.K ta):=by
 intro pins s σ H R I h
 refine Call_ (ld_blt I hg hm boot_enumerate (PyProof.Rows.callWith_type1 (thn (ha pos pins s σ H _ I h) fun us s1 ⟨vs,H1,I1,r1,q1⟩=>?_) hs rfl))
 obtain ⟨a,xs,ex,hq,q⟩:=q1
 subst ex
 cases r1 with
 | cons r rr =>
  cases rr
  cases r
  obtain ⟨its,rv,p',hz⟩:=I1.list hq
  refine call_enumerate_list p'.isList fun h' he hit hsz hk=>wpAny_pyIter_enum he ?_
  have I2:Inv X pins σ H1 { s1 with heap:=h' }:=I1.kept (t':=s1.toks) hk
  refine ⟨s1.heap.objs.size + 1,[s1.heap.objs.size + 1,s1.heap.objs.size],_,_,H1,rfl,I2,turn_enum a (s1.heap.objs.size + 1) s1.heap.objs.size,⟨⟨.none,he⟩,hit,Nat.succ_ne_self _⟩,fun b hb=>?_,q⟩
  have e':b=s1.heap.objs.size + 1∨b=s1.heap.objs.size:=by simpa using hb
  have hle:s1.heap.objs.size≤b:=by
   rcases e' with z | z
   ·rw [z];exact Nat.le_add_right _ _
   ·rw [z];exact Nat.le_refl _
  exact I1.fpOk hle (I1.hok.fresh hle)
theorem boot_zip5:bootBuiltins "zip"=some (.type "zip"):=by decide +kernel
def Itz (K:PySem.W.Frag) (a b:Addr):It :=
 ⟨fun i H=>∃ (xs ys:List V) (x y:V),SqL K H a xs∧SqL K H b ys∧xs[i]?=some x∧ys[i]?=some y,
  fun i H v H'=>∃ T x y,v=.ref T∧H T=none∧H'=upd H T (.tup [x,y])∧(∀ xs,SqL K H a xs→xs[i]?=some x)∧∀ ys,SqL K H b ys→ys[i]?=some y,
  fun i H=>∃ xs ys:List V,SqL K H a xs∧SqL K H b ys∧(xs.length≤i∨ys.length≤i)⟩
theorem turn_zip {P:Program} {w:World} {K:PySem.W.Frag} {elts:List Expr} {kk:Nat} {tpos:Pos} {a b z TI TO i1 i2:Addr} (D:ZipApart z TI TO i1 i2 a b) :
  Turn P w K (.Tuple elts kk tpos) (Itz K a b) [z,TI,TO,i1,i2] z (fun i h=>IsZip h z TI TO .none∧IsPair h TI (.ref i1) (.ref i2)∧(∃ x y,IsPair h TO x y)∧h.IsListIter i1 a i∧h.IsListIter i2 b i) where
 mem:=by simp
 obj:=fun i h st c hc=>by
  obtain ⟨hz,hTI,⟨x,y,hTO⟩,⟨o1,e1,_,d1⟩,⟨o2,e2,_,d2⟩⟩:=st
  have e':c=z∨c=TI∨c=TO∨c=i1∨c=i2:=by simpa using hc
  rcases e' with q | q | q | q | q
  ·rw [q];exact ⟨_,hz,fun v q=>nomatch q⟩
  ·rw [q];exact ⟨_,hTI,fun v q=>nomatch q⟩
  ·rw [q];exact ⟨_,hTO,fun v q=>nomatch q⟩
  ·rw [q];exact ⟨o1,e1,fun v q=>by rw [d1] at q;cases q⟩
  ·rw [q];exact ⟨o2,e2,fun v q=>by rw [d2] at q;cases q⟩
 keep:=fun i h h' st k=>by
  obtain ⟨hz,hTI,⟨x,y,hTO⟩,h1,h2⟩:=st
  exact ⟨k z (by simp) _ hz,k TI (by simp) _ hTI,⟨x,y,k TO (by simp) _ hTO⟩,h1.at fun o q=>k i1 (by simp) o q,h2.at fun o q=>k i2 (by simp) o q⟩
 item:=by
  intro X hP hw hK hc i pins s σ H E I hf st hg
  subst hP hw hK
  obtain ⟨hz,hTI,⟨x0,y0,hTO⟩,h1,h2⟩:=st
  obtain ⟨xs,ys,x,y,hqx,hqy,hx,hy⟩:=hg
  obtain ⟨its,rv,p,_⟩:=I.list hqx
  obtain ⟨its2,rv2,p2,_⟩:=I.list hqy
  obtain ⟨u,hu,ru⟩:=rv.get hx
  obtain ⟨u2,hu2,ru2⟩:=rv2.get hy
  have hzl:z < s.heap.objs.size:=Heap.lt_size hz
  refine wpAny_pyNext_zip_item D hz hTI hTO h1 h2 p.isList p2.isList (x:=u) (y:=u2) (by simpa using hu) (by simpa using hu2) fun h' z' TO' h1' h2' hT hsz hk=>?_
  refine ⟨_,rfl,wpAny_letOwnedTupleGo_zip (s:={ s with heap:=h' }) z' fun h'' z'' sb=>?_⟩
  have hT2:h''.get? s.heap.objs.size=some { cls:=.type "tuple",data:=.seq #[u,u2] }:=(sb.2 _ (Nat.ne_of_gt hzl)).trans hT
  have new:ObjOk X.prog X.w (upd H s.heap.objs.size (.tup [x,y])) h'' s.heap.objs.size (.tup [x,y]) :=
   ⟨by show 2≤sizeLine;decide,[u,u2],.cons ru (.cons ru2 .nil),⟨_,hT2,rfl,_,rfl⟩⟩
  have I1:Inv X pins σ (upd H s.heap.objs.size (.tup [x,y])) { s with heap:=h'' } :=
   I.turnedNew (t':=s.toks) (ch:=[z,TI,TO,i1,i2]) (fun c o hb q=>(sb.2 c (fun q'=>hb (by simp [q']))).trans (hk c o (fun q'=>hb (by simp [q'])) (fun q'=>hb (by simp [q'])) (fun q'=>hb (by simp [q'])) (fun q'=>hb (by simp [q'])) q)) hf (Nat.le_refl _) new
  refine ⟨.ref s.heap.objs.size,_,I1,rfl,⟨_,x,y,rfl,I.hok.fresh (Nat.le_refl _),rfl,fun l hl=>by rw [I.list_inj hl hqx];exact hx,fun l hl=>by rw [I.list_inj hl hqy];exact hy⟩,⟨z'',?_,⟨u,u2,?_⟩,?_,?_⟩,fun c hcm=>?_⟩
  ·exact (sb.2 _ D.TIz).trans (hk _ _ D.TIz D.TITO D.TIi1 D.TIi2 hTI)
  ·exact (sb.2 _ D.TOz).trans TO'
  ·exact h1'.at fun o q=>(sb.2 _ D.i1z).trans q
  ·exact h2'.at fun o q=>(sb.2 _ D.i2z).trans q
  ·have hlt:c < s.heap.objs.size:=by
    have e':c=z∨c=TI∨c=TO∨c=i1∨c=i2:=by simpa using hcm
    rcases e' with q | q | q | q | q
    ·rw [q];exact hzl
    ·rw [q];exact Heap.lt_size hTI
    ·rw [q];exact Heap.lt_size hTO
    ·rw [q];obtain ⟨_,e1,_⟩:=h1;exact Heap.lt_size e1
    ·rw [q];obtain ⟨_,e2,_⟩:=h2;exact Heap.lt_size e2
   rw [uN (Nat.ne_of_lt hlt)]
   exact (hf c hcm).1
 done:=by
  intro X hP hw hK hc i pins s σ H E I hf st hg
  subst hP hw hK
  obtain ⟨hz,hTI,⟨x0,y0,hTO⟩,h1,h2⟩:=st
  obtain ⟨xs,ys,hqx,hqy,hend⟩:=hg
  obtain ⟨its,rv,p,_⟩:=I.list hqx
  obtain ⟨its2,rv2,p2,_⟩:=I.list hqy
  have l1:=rv.length
  have l2:=rv2.length
  have he:its.toArray[i]?=none∨its2.toArray[i]?=none:=by
   rcases hend with q | q
   ·exact .inl (by simp;omega)
   ·exact .inr (by simp;omega)
  exact wpAny_pyNext_zip_end (I.ok.hd hc) D hz hTI hTO h1 h2 p.isList p2.isList he fun h' hk=>⟨rfl,I.turnedL (t':=s.toks) (ch:=[z,TI,TO,i1,i2]) (fun c o hb q =>
   hk c o (fun q'=>hb (by simp [q'])) (fun q'=>hb (by simp [q'])) (fun q'=>hb (by simp [q'])) (fun q'=>hb (by simp [q'])) q) hf⟩
 self:=fun A i s Q E st h=>wpAny_pyIter_zip st.1 h
def iZip (K:PySem.W.Frag) (ta:TA):TI:=fun σ H R=>ta σ H fun vs H1=>∃ a b xs ys,vs=[.ref a,.ref b]∧SqL K H1 a xs∧SqL K H1 b ys∧R (Itz K a b) H1
theorem pi_zip {X:Cx} {e e2:Expr} {ta:TA} {p pos tpos:Pos} {elts:List Expr} {kk:Nat} (hg:Gl X "zip") (hm:X.mg "zip"=none) (ha:PA X [e,e2] ta)
  (hs:starEach [e,e2] X.env=(false,eval e X.env)::starEach [e2] X.env:=by rfl) (hpl:(backTo pos (starEach [e2] X.env)).any (·.1)=false:=by rfl) :
  PI X (.Tuple elts kk tpos) (.Call (.Name "zip" p) [e,e2] [] pos) (iZip X.K ta):=by
 intro pins s σ H R I h
 refine Call_ (ld_blt I hg hm boot_zip5 (PyProof.Rows.callWith_type1 (thn (ha pos pins s σ H _ I h) fun us s1 ⟨vs,H1,I1,r1,q1⟩=>?_) hs hpl))
 obtain ⟨a,b,xs,ys,ex,hqx,hqy,q⟩:=q1
 subst ex
 cases r1 with
 | cons r rr =>
  cases rr with
  | cons r' rr =>
   cases rr
   cases r
   cases r'
   obtain ⟨its,rv,p1,_⟩:=I1.list hqx
   obtain ⟨its2,rv2,p2,_⟩:=I1.list hqy
   have la:a < s1.heap.objs.size:=p1.lt
   have lb:b < s1.heap.objs.size:=p2.lt
   refine call_zip_2 p1.isList p2.isList fun h' hz hTI hTO h1 h2 hsz hk=>wpAny_pyIter_zip hz ?_
   have I2:Inv X pins σ H1 { s1 with heap:=h' }:=I1.kept (t':=s1.toks) hk
   refine ⟨s1.heap.objs.size + 4,[s1.heap.objs.size + 4,s1.heap.objs.size + 2,s1.heap.objs.size + 3,s1.heap.objs.size,s1.heap.objs.size + 1],_,_,H1,rfl,I2,turn_zip (PySem.W.ktu_apart s1.heap.objs.size a b la lb),⟨hz,hTI,⟨_,_,hTO⟩,h1,h2⟩,fun c hcm=>?_,q⟩
   have e':c=s1.heap.objs.size + 4∨c=s1.heap.objs.size + 2∨c=s1.heap.objs.size + 3∨c=s1.heap.objs.size∨c=s1.heap.objs.size + 1:=by simpa using hcm
   have hle:s1.heap.objs.size≤c:=by
    rcases e' with z | z | z | z | z
    ·rw [z];exact Nat.le_add_right _ _
    ·rw [z];exact Nat.le_add_right _ _
    ·rw [z];exact Nat.le_add_right _ _
    ·rw [z];exact Nat.le_refl _
    ·rw [z];exact Nat.le_add_right _ _
   exact I1.fpOk hle (I1.hok.fresh hle)
end L2
section
namespace Bits
open PySem PyProof.Rows
end Bits
end
section
namespace TL
open PySem PySem.Builtin PySem.Builtin.Str PySem.StrLaws
def pre (S l:List Nat):Bool:=l.take S.length == S
end TL
end
namespace L2
open PySem PySem.Spec PyProof.Rows
end L2
namespace L2
open PySem PySem.Spec PyProof.Rows
end L2
namespace Att
open PySem PySem.W PySem.Calls PyProof.Rows
theorem ints_of_wellAll {P:Params} {h:Heap}:∀ (ns:List Int) (vs:List Value),WellAll P h vs (ns.map WData.int)→IntsAre vs ns:=by
 intro ns
 induction ns with
 | nil =>
  intro vs w
  rw [List.map_nil] at w
  cases w
  exact .nil
 | cons n ns ih =>
  intro vs w
  rw [List.map_cons] at w
  cases w with
  | cons a b =>
   cases a
   exact .cons _ _ (ih _ b)
end Att
namespace L2
open PySem PySem.Spec PyProof.Rows
theorem vals_ints:∀ {vs:List Value} {ns:List Int},IntsAre vs ns→Vals (ns.map V.int) vs
 | _,_,.nil=>.nil
 | _,_,.cons n t h=>.cons ⟨t,rfl⟩ (vals_ints h)
def Only (H:Hp):Prop:=∀ b,H b=none∨∃ o xs,H b=some (.frz o (.lst xs))
end L2
namespace L2
open PySem PySem.Spec PyProof.Rows
abbrev KOf {K:PySem.W.Frag} {h:Heap} (_:K.In h):PySem.W.Frag:=K
end L2
namespace L2
open PySem PySem.Spec PyProof.Rows
def inClass (s:Stmt) (j:Nat):Stmt:=match s with
 | .ClassDef _ _ _ body _ _ _ _ _ _ _=>body.getD j (.Pass ⟨0,0,0,0⟩)
 | _=>.Pass ⟨0,0,0,0⟩
def defArgs (s:Stmt):Arguments:=match s with
 | .FunctionDef _ a _ _ _ _ _ _ _ _=>a
 | _=>{ posonlyargs:=[],args:=[],vararg:=none,kwonlyargs:=[],kw_defaults:=[],kwarg:=none,defaults:=[] }
def defBody (s:Stmt):List Stmt:=match s with
 | .FunctionDef _ _ b _ _ _ _ _ _ _=>b
 | _=>[]
def defScope (s:Stmt):Scope:=match s with
 | .FunctionDef _ _ _ _ _ _ sc _ _ _=>sc
 | _=>{ kind:=.function,names:=[],isGenerator:=false,isCoroutine:=false }
abbrev CX0:CXT:=fun _ _ _ _ _ _=>False
structure Fun (K:PySem.W.Frag) (x qual:Str) (st:Stmt) (f:Addr) (fd:FuncData):Prop where
 ex:∃ (oc:Value) (od:Option Addr) (kV doc pm:Value) (an:Option Addr) (cdv ct:Value) (osl:Array (Option Value)),
  fd=PySem.W.fnOf x qual (defArgs st) (defBody st) (defScope st) .none kV doc pm an cdv ct∧K.lookup f=some ⟨oc,od,.func fd,osl⟩∧PySem.W.codeIn K cdv qual=true
 kp:PySem.W.keepIn K (.ref f)=true
section
variable {P:Program} {w:World} {K:PySem.W.Frag} {mg:Str→Option Value} {base:Heap}
theorem Fun.ok {x qual:Str} {st:Stmt} {f:Addr} {fd:FuncData} {N ps:List Str} {k:Nat} {sp:Sp} (F:Fun K x qual st f fd) (S:FnScope N ps (defScope st)) (len:∀ vs H Q E,sp vs H Q E→vs.length=ps.length)
  (hbody:∀ (cdv:Value) (A:Around) (outer:List Env) (s:Shared) (H:Hp) (vs:List V) (Q:VK) (E:XK),Room k (A.deeper (envOfC qual (defScope st) s.heap.objs.size f cdv))→sp vs H Q E →
   ∃ t,PSs (cxOf CX0 P w K mg base N qual (defScope st) f cdv A outer s H E).nox (defBody st) t∧t { nx:=fun _ H'=>Q .non H',rt:=Q } (start N vs) H):FnOk P w K mg base CX0 (k + 1) f fd ps sp:=by
 obtain ⟨oc,od,kV,doc,pm,an,cdv,ct,osl,rfl,lk,hcd⟩:=F.ex
 refine fn_of lk hcd S len fun A outer s H vs Q E hr hsp=>?_
 obtain ⟨t,h,q⟩:=hbody cdv A outer s H vs Q E hr hsp
 exact ⟨t,h.nox,q⟩
theorem Fun.binds {x qual:Str} {st:Stmt} {f:Addr} {fd:FuncData} {ps:List Str} (F:Fun K x qual st f fd)
  (h:∀ (kV doc pm:Value) (an:Option Addr) (cdv ct:Value) (us:List Value),us.length=ps.length→bindArgs (PySem.W.fnOf x qual (defArgs st) (defBody st) (defScope st) .none kV doc pm an cdv ct) ⟨us,[]⟩=pure (ps.zip us)):Binds K fd ps []:=by
 obtain ⟨oc,od,kV,doc,pm,an,cdv,ct,osl,rfl,lk,hcd⟩:=F.ex
 exact .all (h kV doc pm an cdv ct)
theorem fun_mk {x qual:Str} {st:Stmt} {f:Addr} {oc:Value} {od an:Option Addr} {osl:Array (Option Value)} {kV doc pm cdv ct:Value} (l:K.lookup f=some ⟨oc,od,.func (PySem.W.fnOf x qual (defArgs st) (defBody st) (defScope st) .none kV doc pm an cdv ct),osl⟩)
  (c:PySem.W.codeIn K cdv qual=true) (k:PySem.W.keepIn K (.ref f)=true):Fun K x qual st f (PySem.W.fnOf x qual (defArgs st) (defBody st) (defScope st) .none kV doc pm an cdv ct):=⟨⟨oc,od,kV,doc,pm,an,cdv,ct,osl,rfl,l,c⟩,k⟩
end
theorem hu_of {A:Around} {k:Nat} (hr:Room k A):A.units + 1 < cLine:=Nat.lt_of_le_of_lt (Nat.add_le_add_left (by decide:1≤64) _) hr.units
section
variable {X:Cx}
theorem pv (i:Nat) {x:Str} {pos:Pos} (hN:X.N[i]?=some x:=by rfl) (hv:Vis X.env.scope x:=by first | exact Or.inl rfl | exact Or.inr (Or.inl rfl) | exact Or.inr (Or.inr rfl)) (hd:(x == ("__debug__":Str))=false:=by decide)
  (hcd:(x == ("__classdict__":Str))=false:=by decide):PE X (.Name x pos) (tVar i):=pe_var hN hv hd hcd
end
theorem ite2 {c A B:Prop} [Decidable c] (h1:c→A) (h2:¬ c→B):if c then A else B:=by
 by_cases h:c
 ·rw [if_pos h]
  exact h1 h
 ·rw [if_neg h]
  exact h2 h
def Same (H H':Hp):Prop:=∀ b o,H b=some o→H' b=some o
theorem Same.refl (H:Hp):Same H H:=fun _ _ h=>h
theorem Same.trans {H H1 H2:Hp} (a:Same H H1) (b:Same H1 H2):Same H H2:=fun c o h=>b c o (a c o h)
theorem Same.free {H H':Hp} (e:Same H H') {l:Addr} (h:H' l=Option.none):H l=Option.none:=by
 cases q:H l with
 | none=>rfl
 | some o =>
  rw [e l o q] at h
  cases h
theorem Same.seq {K:PySem.W.Frag} {H H':Hp} {a:Addr} {xs:List V} (e:Same H H') (h:SqL K H a xs):SqL K H' a xs:=by
 rcases h with (h | ⟨o,h⟩) | h
 ·exact .inl (.inl (e _ _ h))
 ·exact .inl (.inr ⟨o,e _ _ h⟩)
 ·exact .inr h
theorem at_of {xs:List V} {z:Int} {j:Nat} {v:V} (e:z=(j:Int)) (h:xs[j]?=some v):atI xs z=some v:=by
 rw [e]
 exact atI_nat h
theorem nd_ix {α:Type} {l:List α} (hN:l.Nodup) {i j:Nat} {x:α} (a:l[i]?=some x) (b:l[j]?=some x):i=j:=by
 obtain ⟨h1,e1⟩:=List.getElem?_eq_some_iff.mp a
 obtain ⟨h2,e2⟩:=List.getElem?_eq_some_iff.mp b
 exact (List.getElem_inj hN).mp (e1.trans e2.symm)
end L2
namespace L2
open PySem PySem.Spec PyProof.Rows
def ExcAt (h:Heap) (a T:Addr) (cls fl:Value):Prop :=
 ∃ oe vs oT ts,h.get? a=some oe∧oe.cls=cls∧oe.data=.fields vs∧vs[1]?=some (.ref T)∧T≠a∧h.get? T=some oT∧oT.data=.fields ts∧ts[3]?=some fl
def KeptBut (fs ch:List Addr) (h h':Heap):Prop:=∀ b o,b ∉ ch→h.get? b=some o→(b ∉ fs→h'.get? b=some o)∧∃ sl,h'.get? b=some { o with slots:=sl }
section
variable {M:Model} {A:Around} {E:Value→Shared→Prop} {s:Shared}
theorem KeptBut.trans {fs ch:List Addr} {h h1 h2:Heap} (a:KeptBut fs ch h h1) (b:KeptBut fs ch h1 h2):KeptBut fs ch h h2:=fun c o hc e=>by
 obtain ⟨a1,sl,a2⟩:=a c o hc e
 refine ⟨fun hf=>(b c o hc (a1 hf)).1 hf,?_⟩
 obtain ⟨sl2,b2⟩:=(b c _ hc a2).2
 exact ⟨sl2,b2⟩
theorem entry_new {base:Heap} {env:Env} {outer:List Env} {L e:Addr} {oe:Obj} {vs:Array Value} {head:Value} {hadNext:Bool} {Q:Unit→Shared→Prop}
  (hfr:A.frames=some (env::outer)) (hl:s.heap.FunFrames base (env::outer)) (hf:env.frame=some L)
  (he:s.heap.get? e=some oe) (hd:oe.data=.fields vs) (hsz:1 < vs.size)
  (h:∀ h' T,s.heap.get? T=none→ExcAt h' e T oe.cls (rawInt L)→KeptBut (frs (env::outer)) [e] s.heap h'→Q () { s with heap:=h' }) :
  wpAny M A (do let a ← frameOf env;let pl ← entryPlaceOf L hadNext;let b ← EntryCells.newEntry head a .none (rawInt L) .none pl;setField (.ref e) 1 b) Q E s:=by
 have nofr:e ∉ frs (env::outer):=fun z=>by
  obtain ⟨_,w1,w2,w3⟩:=hl.mem z
  exact w3 vs (Option.some.inj (w2.symm.trans he) ▸ hd)
 refine wpAny_bind (wpAny_frameOf_fun hfr hl hf fun g sl=>wpAny_bind (wpAny_entryPlaceOf fun pl isp=>?_))
 unfold EntryCells.newEntry newFields
 refine wpAny_bind (wpAny_newObj_type ?_ (isp.sizeOk5 _ _ _ _ _))
 generalize hcs:([head,.ref L,.none,rawInt L,.none]++(if pl.isEmpty then List.replicate 6 Value.none else pl))=cs
 have c3:cs.toArray[3]?=some (rawInt L):=by subst hcs;simp
 have eg:g.get? e=some oe:=(sl.2.1 e nofr).trans he
 have ne:g.objs.size≠e:=Nat.ne_of_gt (Heap.lt_size eg)
 have ep:=Heap.get?_push_of_some { cls:=.type "traceback",dict:=none,data:=.fields cs.toArray } eg
 have tp:(g.push { cls:=.type "traceback",dict:=none,data:=.fields cs.toArray }).get? g.objs.size=some { cls:=.type "traceback",dict:=none,data:=.fields cs.toArray }:=Heap.get?_push_size g rfl
 have dt:=Obj.data_mapFields hd (·.setIfInBounds 1 (Value.ref g.objs.size))
 refine wpAny_setField ep hd hsz (h _ g.objs.size (Heap.get?_none_of_le (Nat.le_of_eq sl.1.symm)) ?_ ?_)
 ·exact ⟨_,_,_,_,Heap.get?_update_self _ ep (Obj.isFreed_of_fields dt),Obj.cls_mapFields _ _,dt,by simp [hsz],ne,(Heap.get?_update_other _ _ ne.symm).trans tp,rfl,c3⟩
 ·intro b o hb hbo
  have hbe:e≠b:=fun z=>hb (by simp [z])
  have stays:∀ u,g.get? b=some u→((g.push { cls:=.type "traceback",dict:=none,data:=.fields cs.toArray }).update e (Obj.mapFields (·.setIfInBounds 1 (Value.ref g.objs.size)))).get? b=some u :=
   fun u z=>(Heap.get?_update_other _ _ hbe).trans (Heap.get?_push_of_some _ z)
  exact ⟨fun nf=>stays o ((sl.2.1 b nf).trans hbo),let ⟨z,q⟩:=sl.2.2 b o hbo;⟨z,stays _ q⟩⟩
theorem note_first {base:Heap} {env:Env} {outer:List Env} {L e:Addr} {oe:Obj} {vs:Array Value} {Q:Unit→Shared→Prop}
  (hfr:A.frames=some (env::outer)) (hl:s.heap.FunFrames base (env::outer)) (hf:env.frame=some L)
  (he:s.heap.get? e=some oe) (hd:oe.data=.fields vs) (h1:vs[1]?=some .none)
  (h:∀ h' T,s.heap.get? T=none→ExcAt h' e T oe.cls (rawInt L)→KeptBut (frs (env::outer)) [e] s.heap h'→Q () { s with heap:=h' }) :
  wpAny M A (noteFrame (.ref e) env) Q E s:=by
 unfold noteFrame
 simp only [hf]
 refine wpAny_bind (wpAny_field he hd h1 ?_)
 rw [if_neg (by decide)]
 exact entry_new hfr hl hf he hd (Array.getElem?_eq_some_iff.mp h1).1 h
theorem note_next {base:Heap} {env:Env} {outer:List Env} {L e T:Addr} {cls fl:Value} {Q:Unit→Shared→Prop}
  (hfr:A.frames=some (env::outer)) (hl:s.heap.FunFrames base (env::outer)) (hf:env.frame=some L) (x:ExcAt s.heap e T cls fl)
  (h:∀ h' T',(T'=T∨s.heap.get? T'=none)→ExcAt h' e T' cls (rawInt L)→KeptBut (frs (env::outer)) [e,T] s.heap h'→Q () { s with heap:=h' }) :
  wpAny M A (noteFrame (.ref e) env) Q E s:=by
 have x':=x
 obtain ⟨oe,vs,oT,ts,he,hcls,hd,h1,hTe,hT,hdT,h3⟩:=x
 subst hcls
 have hsz:=(Array.getElem?_eq_some_iff.mp h3).1
 have other:∀ b,b≠T→(s.heap.update T (Obj.mapFields (·.setIfInBounds 3 Value.none))).get? b=s.heap.get? b:=fun b hb=>Heap.get?_update_other _ _ (Ne.symm hb)
 have noRecord:∀ b o,s.heap.get? b=some o→(∀ vs,o.data≠.fields vs)→b≠T:=fun b o hb hnf q=>by
  rw [q,hT] at hb;injection hb with hb;subst hb;exact hnf ts hdT
 unfold noteFrame
 simp only [hf]
 refine wpAny_bind (wpAny_field he hd h1 ?_)
 rw [if_pos (show (Value.ref T != Value.none)=true from by simp)]
 refine wpAny_bind (wpAny_field hT hdT h3 ?_)
 by_cases hfl:(fl == rawInt L)=true
 ·rw [if_pos hfl]
  have efl:fl=rawInt L:=by first | exact eq_of_beq hfl | exact beq_iff_eq.mp hfl
  rw [efl] at x'
  exact wpAny_pure (h s.heap T (.inl rfl) x' fun b o hb hbo=>⟨fun _=>hbo,o.slots,hbo⟩)
 ·rw [if_neg hfl]
  refine wpAny_bind (wpAny_setField hT hdT hsz ?_)
  refine entry_new (s:={ s with heap:=s.heap.update T (Obj.mapFields (·.setIfInBounds 3 Value.none)) }) hfr (hl.of_keeps fun b o hb hnf=>⟨o,(other b (noRecord b o hb hnf)).trans hb,rfl⟩) hf ((other e (Ne.symm hTe)).trans he) hd (Array.getElem?_eq_some_iff.mp h1).1
   fun h' T' n x k=>h h' T' (.inr ?_) x fun b o hb e=>k b o (fun z=>hb (by rw [List.mem_singleton.mp z];exact List.mem_cons_self)) ((other b fun z=>hb (by simp [z])).trans e)
  have n':(s.heap.update T (Obj.mapFields (·.setIfInBounds 3 Value.none))).get? T'=none:=n
  by_cases hT':T'=T
  ·rw [hT',Heap.get?_update_self _ hT (Obj.isFreed_of_fields (Obj.data_mapFields hdT _))] at n'
   cases n'
  ·rw [other T' hT'] at n'
   exact n'
theorem set_flight {e T:Addr} {cls fl:Value} {v:Option Addr} {Q:Unit→Shared→Prop} (x:ExcAt s.heap e T cls fl)
  (h:∀ h',ExcAt h' e T cls (v.elim .none fun f=>rawInt f)→(∀ b,b≠T→h'.get? b=s.heap.get? b)→Q () { s with heap:=h' }):wpAny M A (setFlight (.ref e) v) Q E s:=by
 obtain ⟨oe,vs,oT,ts,he,hcls,hd,h1,hTe,hT,hdT,h3⟩:=x
 have hsz:=(Array.getElem?_eq_some_iff.mp h3).1
 have other:∀ b,b≠T→(s.heap.update T (Obj.mapFields (·.setIfInBounds 3 (v.elim Value.none fun f=>rawInt f)))).get? b=s.heap.get? b:=fun b hb=>Heap.get?_update_other _ _ (Ne.symm hb)
 unfold setFlight
 refine wpAny_bind (wpAny_field he hd h1 ?_)
 rw [if_pos (show (Value.ref T != Value.none)=true from by simp)]
 refine wpAny_setField hT hdT hsz (h _ ?_ other)
 exact ⟨oe,vs,_,_,(other e (Ne.symm hTe)).trans he,hcls,hd,h1,hTe,Heap.get?_update_self _ hT (Obj.isFreed_of_fields (Obj.data_mapFields hdT _)),Obj.data_mapFields hdT _,by simp [hsz]⟩
theorem noteFrame_env {e:Value} {env env':Env} (h:env'.frame=env.frame):noteFrame e env'=noteFrame e env:=by
 unfold noteFrame PySem.frameOf
 rw [h]
end
section
variable {P:Program} {w:World} {H:Hp} {h:Heap} {a:Addr} {o:HO}
theorem ObjOk.there (x:ObjOk P w H h a o):∃ u,h.get? a=some u:=by
 cases o with
 | lst xs=>obtain ⟨_,_,_,_,e⟩:=x;exact ⟨_,e⟩
 | tup xs=>obtain ⟨_,_,_,o,e,_⟩:=x;exact ⟨_,e⟩
 | dK kvs=>obtain ⟨_,_,_,_,o,_,_,e,_⟩:=x;exact ⟨_,e⟩
 | dT kvs=>obtain ⟨_,_,_,_,o,_,_,e,_⟩:=x;exact ⟨_,e⟩
 | set S n=>obtain ⟨o,_,_,_,e,_⟩:=x;exact ⟨_,e⟩
 | ins C dx fs=>obtain ⟨_,_,_,e,_⟩:=x;exact ⟨_,e⟩
 | own y=>obtain ⟨_,e⟩:=x;exact ⟨_,e⟩
 | xd fs=>obtain ⟨_,⟨_,_,_,e,_⟩,_⟩:=x;exact ⟨_,e⟩
 | rng lo hi=>obtain ⟨_,_,_,e⟩:=x;exact ⟨_,e⟩
 | frz ob u=>obtain ⟨e,_⟩:=x;exact ⟨_,e⟩
 | tbl ps=>exact ⟨_,(show h.get? a=some _ from x)⟩
 | met f y=>exact ⟨_,(show h.get? a=some _ from x)⟩
 | ext φ=>obtain ⟨_,⟨_,e⟩,_⟩:=x;exact ⟨_,e⟩
theorem HOk.free_of (x:HOk P w H h) (e:h.get? a=none):H a=none:=by
 cases q:H a with
 | none=>rfl
 | some u =>
  obtain ⟨v,z⟩:=(x a u q).there
  rw [e] at z
  cases z
end
def CXe (P:Program) (w:World):CXT:=fun outer H s E e s'=>∃ (a T:Addr) (cls fl:Value) (H':Hp),e=.ref a∧s'.os=s.os∧AllBare s'.gens∧Un (frs outer) [] H H' s.heap s'.heap∧HOk P w H' s'.heap ∧
 ExcAt s'.heap a T cls fl∧H' a=none∧H' T=none∧s.heap.get? a=none∧s.heap.get? T=none∧E cls none H'
abbrev Turned (X:Cx) (pins:List (Addr × Obj)) (ch:List Addr):Prop:=∀ b∈ch,(b∈X.ex∨X.s_0.heap.objs.size≤b)∧b≠X.env.locals∧(∀ x c,X.env.cells.lookup x=some c→c≠b)∧∀ p∈X.pn++pins,p.1≠b
structure Flown (X:Cx) (pins:List (Addr × Obj)) (σ:St) (H H':Hp) (s s':Shared) (ch:List Addr) (a T:Addr) (cls fl:Value):Prop where
 inv:Inv X pins σ H s
 tch:Turned X pins ch
 os:s'.os=s.os
 bare:AllBare s'.gens
 un:Un (frs X.stack) ch H H' s.heap s'.heap
 hok:HOk X.prog X.w H' s'.heap
 ex:ExcAt s'.heap a T cls fl
 na:H' a=none
 nT:H' T=none
 fa:s.heap.get? a=none
 fT:s.heap.get? T=none
 tS:∀ b∈ch,∃ o,s.heap.get? b=some o
 tE:∀ b∈ch,∃ o,s'.heap.get? b=some o
section
variable {X:Cx} {pins:List (Addr × Obj)} {σ:St} {H H':Hp} {s s':Shared} {E:Value→Shared→Prop} {a T:Addr} {cls fl:Value} {Q:Unit→Shared→Prop} {ch:List Addr}
theorem Inv.land (I:Inv X pins σ H s) (tch:Turned X pins ch) (os:s'.os=s.os) (bare:AllBare s'.gens) (un:Un (frs X.stack) ch H H' s.heap s'.heap) (hok:HOk X.prog X.w H' s'.heap):Inv X pins σ H' s':=by
 obtain ⟨hh,g,d,t,os'⟩:=s'
 obtain rfl:os'=s.os:=os
 exact I.call (h':=hh) (g':=g) (d':=d) (t':=t) (ch:=ch) un hok bare tch
theorem Inv.looked {h'':Heap} {cg:List Addr} (I:Inv X pins σ H s) (tch:Turned X pins ch) (os:s'.os=s.os) (bare:AllBare s'.gens) (un:Un (frs X.stack) ch H H' s.heap s'.heap) (hok:HOk X.prog X.w H' s'.heap)
  (ncg:∀ b∈cg,H' b=none∧s.heap.get? b=none) (k:KeptBut (frs X.stack) cg s'.heap h''):Inv X pins σ H' { s' with heap:=h'' }∧Un (frs X.stack) ch H H' s.heap h'':=by
 have I1:Inv X pins σ H' s':=I.land tch os bare un hok
 have nb:∀ b o,s.heap.get? b=some o→b ∉ cg:=fun b o e z=>by
  rw [(ncg b z).2] at e
  cases e
 have hok2:HOk X.prog X.w H' h'':=fun b u e=>(hok b u e).stay (fun c v hc q=>by
  have hcH:H' c≠none:=by
   rcases hc with z | z
   ·rw [z,e];simp
   ·rw [z];simp
  exact (k c v (fun z=>hcH (ncg c z).1) q).1 fun z=>hcH (I1.stkFree c z)) (fun _ q=>q) fun _ _ q=>q
 have un2:Un (frs X.stack) ch H H' s.heap h'':={
  keep:=fun b o e n hb hx=>(k b o (nb b o e) (un.keep b o e n hb hx)).1 hb
  slot:=fun b o e n hb hx=>by
   obtain ⟨sl,e1⟩:=un.slot b o e n hb hx
   obtain ⟨sl2,e2⟩:=(k b _ (nb b o e) e1).2
   exact ⟨sl2,e2⟩
  free:=un.free
  there:=fun b o e hx=>by
   obtain ⟨o',e1⟩:=un.there b o e hx
   obtain ⟨sl2,e2⟩:=(k b _ (nb b o e) e1).2
   exact ⟨_,e2⟩
  tups:=un.tups
  frzs:=un.frzs
  tbls:=un.tbls }
 obtain ⟨hh,g,d,t,os'⟩:=s'
 obtain rfl:os'=s.os:=os
 have I3:Inv X pins σ H' { s with heap:=h'',gens:=g,drawn:=d,toks:=t }:=I.call (h':=h'') (g':=g) (d':=d) (t':=t) (ch:=ch) un2 hok2 bare tch
 exact ⟨I3,un2⟩
theorem Inv.nn {b:Addr} (I:Inv X pins σ H s) (hx:b ∉ X.ex) (e:s.heap.get? b=none):X.s_0.heap.get? b=none:=by
 cases q:X.s_0.heap.get? b with
 | none=>rfl
 | some o =>
  obtain ⟨o',z⟩:=I.base.there b o q hx
  rw [e] at z
  cases z
theorem Flown.on {h'':Heap} {cg:List Addr} {T':Addr} {fl':Value} (F:Flown X pins σ H H' s s' ch a T cls fl) (ncg:∀ b∈cg,H' b=none∧s.heap.get? b=none) (k:KeptBut (frs X.stack) cg s'.heap h'') (x:ExcAt h'' a T' cls fl') (nT:H' T'=none) (fT:s.heap.get? T'=none) :
  Flown X pins σ H H' s { s' with heap:=h'' } ch a T' cls fl'∧Inv X pins σ H' { s' with heap:=h'' }:=by
 obtain ⟨I2,un2⟩:=F.inv.looked (s':=s') F.tch F.os F.bare F.un F.hok ncg k
 refine ⟨⟨F.inv,F.tch,F.os,F.bare,un2,I2.hok,x,F.na,nT,F.fa,fT,F.tS,fun b hb=>?_⟩,I2⟩
 obtain ⟨o,e⟩:=F.tE b hb
 obtain ⟨o1,e1⟩:=F.tS b hb
 obtain ⟨sl,e2⟩:=(k b o (fun z=>by rw [(ncg b z).2] at e1;cases e1) e).2
 exact ⟨_,e2⟩
theorem Flown.two (F:Flown X pins σ H H' s s' ch a T cls fl):∀ b∈[a,T],H' b=none∧s.heap.get? b=none:=fun b hb=>by
 rcases List.mem_cons.mp hb with z | z
 ·rw [z];exact ⟨F.na,F.fa⟩
 ·rw [List.mem_singleton.mp z];exact ⟨F.nT,F.fT⟩
theorem Flown.note {eh:Env} {eo:List Env} {L:Addr} (F:Flown X pins σ H H' s s' ch a T cls fl) (st:X.stack=eh::eo) (fr:eh.frame=some L)
  (k:∀ s'' T',Flown X pins σ H H' s s'' ch a T' cls (rawInt L)→Inv X pins σ H' s''→Q () s''):wpAny (model X.prog X.w) X.A (noteFrame (.ref a) eh) Q E s':=by
 have I1:Inv X pins σ H' s':=F.inv.land F.tch F.os F.bare F.un F.hok
 have hfr:X.A.frames=some (eh::eo):=by rw [← st];exact F.inv.ok.frames
 have hl:s'.heap.FunFrames X.base (eh::eo):=by rw [← st];exact I1.stack
 refine note_next hfr hl fr F.ex fun h'' T' n x kb=>?_
 rw [← st] at kb
 have hT':H' T'=none∧s.heap.get? T'=none:=by
  rcases n with n | n
  ·rw [n];exact ⟨F.nT,F.fT⟩
  ·refine ⟨F.hok.free_of n,?_⟩
   cases q:s.heap.get? T' with
   | none=>rfl
   | some o =>
    have hc:T' ∉ ch:=fun z=>by
     obtain ⟨o',e⟩:=F.tE T' z
     rw [n] at e
     cases e
    obtain ⟨o',z⟩:=F.un.there T' o q hc
    rw [n] at z
    cases z
 obtain ⟨F2,I2⟩:=F.on F.two kb x hT'.1 hT'.2
 exact k _ T' F2 I2
theorem Flown.flight {v:Option Addr} (F:Flown X pins σ H H' s s' ch a T cls fl)
  (k:∀ s'',Flown X pins σ H H' s s'' ch a T cls (v.elim .none fun f=>rawInt f)→Inv X pins σ H' s''→Q () s''):wpAny (model X.prog X.w) X.A (setFlight (.ref a) v) Q E s':=by
 refine set_flight F.ex fun h'' x kb=>?_
 obtain ⟨F2,I2⟩:=F.on (cg:=[a,T]) F.two (fun b o hb e=>by
  have e2:=(kb b fun z=>hb (by simp [z])).trans e
  exact ⟨fun _=>e2,o.slots,e2⟩) x F.nT F.fT
 exact k _ F2 I2
theorem Flown.look {eh:Env} {eo:List Env} {L:Addr} (F:Flown X pins σ H H' s s' ch a T cls fl) (st:X.stack=eh::eo) (fr:eh.frame=some L)
  (k:∀ s'' T',Flown X pins σ H H' s s'' ch a T' cls .none→Inv X pins σ H' s''→Q () s'') :
  wpAny (model X.prog X.w) X.A (noteFrame (.ref a) eh) (fun _ s''=>wpAny (model X.prog X.w) X.A (setFlight (.ref a) none) Q E s'') E s' :=
 F.note st fr fun s2 T' F2 _=>F2.flight (v:=none) fun s3 F3 I3=>k s3 T' F3 I3
theorem Inv.noteNew {eh:Env} {eo:List Env} {L:Addr} {args:List Value} {h':Heap} {tk:Nat} (I:Inv X pins σ H s) (st:X.stack=eh::eo) (fr:eh.frame=some L) (mk:Heap.MadeExcOf s.heap h' a cls args)
  (k:∀ s'' T',Flown X pins σ H H s s'' [] a T' cls (rawInt L)→Inv X pins σ H s''→Q () s'') :
  wpAny (model X.prog X.w) X.A (noteFrame (.ref a) eh) Q E { s with heap:=h',toks:=tk }:=by
 have I1:Inv X pins σ H { s with heap:=h',toks:=tk }:=I.kept mk.keeps
 have hfr:X.A.frames=some (eh::eo):=by rw [← st];exact I.ok.frames
 have hl:h'.FunFrames X.base (eh::eo):=by rw [← st];exact I1.stack
 obtain ⟨t,he,_,_⟩:=mk.there
 have na:H a=none:=I.hok.free_of mk.new
 have tch:Turned X pins []:=fun b z=>nomatch z
 refine note_first (s:={ s with heap:=h',toks:=tk }) hfr hl fr he rfl rfl fun h'' T' n x kb=>?_
 rw [← st] at kb
 obtain ⟨I2,un2⟩:=I.looked (s':={ s with heap:=h',toks:=tk }) (ch:=[]) tch rfl I.bare (Un.kept mk.keeps) (I.hok.kept mk.keeps) (cg:=[a]) (fun b hb=>by rw [List.mem_singleton.mp hb];exact ⟨na,mk.new⟩) kb
 have fT:s.heap.get? T'=none:=by
  cases q:s.heap.get? T' with
  | none=>rfl
  | some o =>
   have z:=mk.keeps T' o q
   have n':h'.get? T'=none:=n
   rw [n'] at z
   cases z
 exact k _ T' ⟨I,tch,rfl,I.bare,un2,I2.hok,x,na,I1.hok.free_of n,mk.new,fT,(fun b z=>nomatch z),(fun b z=>nomatch z)⟩ I2
theorem Inv.lookNew {eh:Env} {eo:List Env} {L:Addr} {args:List Value} {h':Heap} {tk:Nat} (I:Inv X pins σ H s) (st:X.stack=eh::eo) (fr:eh.frame=some L) (mk:Heap.MadeExcOf s.heap h' a cls args)
  (k:∀ s'' T',Flown X pins σ H H s s'' [] a T' cls .none→Inv X pins σ H s''→Q () s'') :
  wpAny (model X.prog X.w) X.A (noteFrame (.ref a) eh) (fun _ s''=>wpAny (model X.prog X.w) X.A (setFlight (.ref a) none) Q E s'') E { s with heap:=h',toks:=tk } :=
 I.noteNew st fr mk fun s2 T' F2 _=>F2.flight (v:=none) fun s3 F3 I3=>k s3 T' F3 I3
theorem Flown.of_call {E:XK} {e:Value} (I:Inv X pins σ H s) (h:CXe X.prog X.w X.stack H s E e s'):∃ a T cls fl H',e=.ref a∧Flown X pins σ H H' s s' [] a T cls fl∧E cls none H':=by
 obtain ⟨a,T,cls,fl,H',rfl,os,bare,un,hok,ex,na,nT,fa,fT,q⟩:=h
 exact ⟨a,T,cls,fl,H',rfl,⟨I,(fun b z=>nomatch z),os,bare,un,hok,ex,na,nT,fa,fT,(fun b z=>nomatch z),(fun b z=>nomatch z)⟩,q⟩
end
structure Throw (X:Cx) (ES:St→XK):Prop where
 fly:∀ (pins:List (Addr × Obj)) (σ:St) (H H':Hp) (s s':Shared) (ch:List Addr) (a T:Addr) (cls fl:Value),Flown X pins σ H H' s s' ch a T cls fl→ES σ cls none H'→X.xe (.ref a) s'
 made:∀ (pins:List (Addr × Obj)) (σ:St) (H:Hp) (s:Shared) (h':Heap) (tk:Nat) (a:Addr) (cls:Value) (args:List Value),Inv X pins σ H s→Heap.MadeExcOf s.heap h' a cls args→ES σ cls none H→X.xe (.ref a) { s with heap:=h',toks:=tk }
 own:PassesOwn (model X.prog X.w) X.A X.env X.xe
theorem Throw.pass {X:Cx} {ES:St→XK} (t:Throw X ES) {pins:List (Addr × Obj)} {σ:St} {H:Hp} {s:Shared} {e:Value} {s':Shared} (I:Inv X pins σ H s) (h:CXe X.prog X.w X.stack H s (ES σ) e s'):X.xe e s':=by
 obtain ⟨a,T,cls,fl,H',rfl,F,q⟩:=Flown.of_call I h
 exact t.fly pins σ H H' s s' [] a T cls fl F q
theorem Throw.passes {X:Cx} {E:XK} (t:Throw X fun _=>E):Passes (CXe X.prog X.w) X E:=fun pins σ H s e s' I h=>t.pass I h
theorem throw_def {P:Program} {w:World} {K:PySem.W.Frag} {mg:Str→Option Value} {base:Heap} {N:List Str} {qual:Str} {scope:Scope} {f:Addr} {cd:Value} {A:Around} {outer:List Env} {s:Shared} {H:Hp} {E:XK} :
  Throw (cxOf (CXe P w) P w K mg base N qual scope f cd A outer s H E) (fun _=>E):=by
 refine ⟨fun pins σ H1 H' s1 s2 ch a T cls fl F h=>?_,fun pins σ H1 s1 h' tk a cls args I mk h=>?_,PassesOwn.leaving⟩
 ·show wpAny _ _ (leaving _ _) _ _ _
  unfold leaving
  refine wpAny_bind (F.look (s':=s2) rfl rfl fun s3 T' F3 I3=>?_)
  exact ⟨a,T',cls,.none,H',rfl,I3.os,I3.bare,I3.base,I3.hok,F3.ex,F3.na,F3.nT,F.inv.nn (by intro z;cases z) F3.fa,F.inv.nn (by intro z;cases z) F3.fT,h⟩
 ·show wpAny _ _ (leaving _ _) _ _ _
  unfold leaving
  refine wpAny_bind (I.lookNew rfl rfl mk fun s3 T' F3 I3=>?_)
  exact ⟨a,T',cls,.none,H1,rfl,I3.os,I3.bare,I3.base,I3.hok,F3.ex,F3.na,F3.nT,I.nn (by intro z;cases z) F3.fa,I.nn (by intro z;cases z) F3.fT,h⟩
end L2
namespace L2
open PySem PySem.Spec PyProof.Rows
structure OwnExc (K:PySem.W.Frag) (mg:Str→Option Value) (x:Str) (C:Addr) (bmB:List Value) (newId:String):Prop where
 bound:mg x=some (.ref C)
 obj:∃ nm q N bs bm hdct sn sub ab col dd k0 k1 k2 k3 k5,K.lookup C=some (excClassObj nm q C N bs bm hdct sn sub ab col dd k0 k1 k2 k3 k5 newId)∧PySem.W.nsOkIn K N=true∧PySem.W.nsIn K N "__init__"=some none∧PySem.W.tailIn K bmB bm=true
theorem OwnExc.own {K:PySem.W.Frag} {mg:Str→Option Value} {x:Str} {C:Addr} {bmB:List Value} {newId:String} {h:Heap} (o:OwnExc K mg x C bmB newId) (X:K.In h):OwnCls x C bmB newId mg h:=by
 obtain ⟨nm,q,N,bs,bm,hdct,sn,sub,ab,col,dd,k0,k1,k2,k3,k5,l,n1,n2,tl⟩:=o.obj
 exact ⟨o.bound,bm,N,nm,q,bs,hdct,sn,sub,ab,col,dd,k0,k1,k2,k3,k5,_,X _ _ l,.of_isNs (PySem.W.isNs_of_in X n1),PySem.W.nsMap_none_of_in X n1 n2,PySem.W.tail_of_in X tl⟩
section
variable {X:Cx} {ES:St→XK} {x:Str} {C:Addr} {bmB:List Value} {B newId initId:String} {np cpos pos:Pos}
def tRaise (ES:St→XK) (C:Addr):TS:=fun _ σ H=>ES σ (.ref C) none H
def tRaiseA (ES:St→XK) (C:Addr) (ta:TA):TS:=fun _ σ H=>ta σ H fun vs H1=>vs.length≤sizeLine∧ES σ (.ref C) none H1
theorem ps_raise {e:Expr} {es:List Expr} {ta:TA} (t:Throw X ES) (hc:X.calm=true) (O:OwnExc X.K X.mg x C bmB newId) (FB:ExcBaseFacts B newId initId bmB) (hg:Gl X x) (ha:PA X (e::es) ta) (hdb:(x == ("__debug__":Str))=false:=by decide)
  (he:starEach (e::es) X.env=(false,eval e X.env)::starEach es X.env:=by rfl) (hpl:(backTo cpos (starEach es X.env)).any (·.1)=false:=by rfl) :
  PS X (.Raise (some (.Call (.Name x np) (e::es) [] cpos)) none pos) (tRaiseA ES C ta):=by
 intro pins s σ H D I h
 obtain ⟨tl,N,nm,q,bs,hdct,sn,sub,ab,col,dd,k0,k1,k2,k3,k5,mN,hC,hN,hni,T⟩:=(O.own I.mod.kin).obj
 refine wpAny_Raise_call_subT (C:=C) (nm:=nm) (q:=q) (N:=N) (bs:=bs) (bm:=tl) (hdct:=hdct) (sn:=sn) (sub:=sub) (ab:=ab) (col:=col) (dd:=dd) (k0:=k0) (k1:=k1) (k2:=k2) (k3:=k3) (k5:=k5)
  FB (mN:=mN) (T.hasType FB.hasBase) (I.ok.hd hc) (by rw [he];show (false || (backTo cpos (starEach es X.env)).any (·.1))=false;rw [hpl];rfl) hni (ld_glob I hg O.bound ⟨rfl,?_⟩ hdb)
 have hh:=ha cpos pins s σ H _ I h
 rw [he] at hh ⊢
 refine Calls.evalArgs_plain (thn hh fun us s2 ⟨vs,H2,I2,r2,z2,q2⟩=>?_)
 exact ⟨rfl,by rw [← r2.length];exact z2,I2.bk _ _ hC,hN.keeps I2.bk,T.keeps I2.bk,fun h' e mk=>t.made pins σ H2 s2 h' s2.toks e (.ref C) us I2 mk q2⟩
end
abbrev Cx.inH (X:Cx) (e:Addr):Cx:={ X with A:=X.A.mark (some (.ref e)),calm:=false,xe:=fun _ _=>False }
abbrev Cx.tr (X:Cx) (E:Value→Shared→Prop) (pn:List (Addr × Obj)):Cx:={ X with xe:=E,pn:=pn }
section
variable {X:Cx} {pins:List (Addr × Obj)} {σ:St} {H:Hp} {s:Shared}
theorem Inv.inH (I:Inv X pins σ H s) (e:Addr):Inv (X.inH e) pins σ H s :=
 ⟨⟨I.ok.mod,I.ok.kind,I.ok.glob,I.ok.blt,I.ok.above,I.ok.inj,I.ok.has,I.ok.cab,(fun z=>absurd (show false=true from z) (by decide)),I.ok.frames,I.ok.stk,I.ok.exf,I.ok.bs,I.ok.bsz,I.ok.noex,I.ok.exfs,I.ok.funs,I.ok.frf⟩,I.os,I.bare,I.base,I.loc,I.cell,I.free,I.freeC,I.pin,I.hok,I.len⟩
theorem Inv.unH {e:Addr} (I:Inv (X.inH e) pins σ H s) (ok:X.Ok):Inv X pins σ H s:=⟨ok,I.os,I.bare,I.base,I.loc,I.cell,I.free,I.freeC,I.pin,I.hok,I.len⟩
theorem Cx.Ok.tr {E:Value→Shared→Prop} {pn:List (Addr × Obj)} (ok:X.Ok):(X.tr E pn).Ok :=
 ⟨ok.mod,ok.kind,ok.glob,ok.blt,ok.above,ok.inj,ok.has,ok.cab,ok.hd,ok.frames,ok.stk,ok.exf,ok.bs,ok.bsz,ok.noex,ok.exfs,ok.funs,ok.frf⟩
theorem Inv.toTr {E:Value→Shared→Prop} (I:Inv X pins σ H s):Inv (X.tr E (X.pn++pins)) [] σ H s :=
 ⟨I.ok.tr,I.os,I.bare,I.base,I.loc,I.cell,I.free,I.freeC,(fun p hp=>I.pin p (by simpa using hp)),I.hok,I.len⟩
theorem Inv.ofTr {E:Value→Shared→Prop} {pins':List (Addr × Obj)} (I:Inv (X.tr E (X.pn++pins)) pins' σ H s) (ok:X.Ok):Inv X pins σ H s :=
 ⟨ok,I.os,I.bare,I.base,I.loc,I.cell,I.free,I.freeC,(fun p hp=>I.pin p (List.mem_append_left _ hp)),I.hok,I.len⟩
theorem SP.ofH {e:Addr} {D:Ends} {f:Flow} (h:SP (X.inH e) pins D f s) (ok:X.Ok):SP X pins D f s:=by
 cases f with
 | next=>obtain ⟨σ',H',I,q⟩:=h;exact ⟨σ',H',I.unH ok,q⟩
 | brk=>obtain ⟨σ',H',I,q⟩:=h;exact ⟨σ',H',I.unH ok,q⟩
 | cont=>obtain ⟨σ',H',I,q⟩:=h;exact ⟨σ',H',I.unH ok,q⟩
 | ret u=>obtain ⟨v,σ',H',I,r,q⟩:=h;exact ⟨v,σ',H',I.unH ok,r,q⟩
end
section
variable {X:Cx} {x:Str} {C:Addr} {np hpos pos:Pos} {body suite orelse:List Stmt} {b0:Stmt} {tb:(St→XK)→TS} {ts to:TS}
def tTry (C:Addr) (tb:(St→XK)→TS) (ts to:TS):TS:=fun D σ H=>tb (fun σ' cls _ H'=>cls=.ref C∧ts D σ' H') { D with nx:=to D } σ H
theorem caught {pins:List (Addr × Obj)} {σ:St} {H:Hp} {s:Shared} {D:Ends} {a T:Addr} (I:Inv X pins σ H s) (ex:ExcAt s.heap a T (.ref C) .none) (hx:PySem.W.exmOne X.K (.ref C) (.ref C)=some true) (hg:Gl X x) (hm:X.mg x=some (.ref C))
  (hs:∀ e:Addr,PSs (X.inH e) (b0::suite) ts) (h:ts D σ H) (hdb:(x == ("__debug__":Str))=false:=by decide) :
  wpAny (model X.prog X.w) X.A (handleBy (.ref a) X.env [.ExceptHandler (some (.Name x np)) none (b0::suite) hpos]) (SP X pins D) X.xe s:=by
 refine wpAny_handleBy_cons (codeAny_handlers_test (ld_glob (X:=X.inH a) (I.inH a) hg hm ?_ hdb)) (by intro q;cases q)
 obtain ⟨oe,vs,oT,ts',he,hcls,hd,h1,hTe,hT,hdT,h3⟩:=ex
 have ty:PySem.W.Looks (model X.prog X.w) s.heap (typeOf (.ref a)) (.ref C):=by
  rw [← hcls]
  exact (PySem.W.Looks.ld he).andThen .now
 refine (PySem.W.exm_one (M:=model X.prog X.w) I.kIn ty hx).here ?_
 show codeAny _ _ _ _ s
 refine codeAny_handlers_suite ?_
 unfold setFlight
 refine wpAny_bind (wpAny_field he hd h1 ?_)
 rw [if_pos (show (Value.ref T != Value.none)=true from by simp)]
 refine wpAny_setField hT hdT (Array.getElem?_eq_some_iff.mp h3).1 ?_
 have e2:s.heap.update T (Obj.mapFields (·.setIfInBounds 3 ((none:Option Addr).elim Value.none fun f=>rawInt f)))=s.heap:=Heap.update_setField_same s.heap T oT ts' 3 .none hT hdT h3
 rw [e2]
 exact wpAny_mono (hs a pins s σ H D (I.inH a) h) (fun f s2 q=>q.ofH I.ok) fun _ _ z=>False.elim z
theorem ps_try (st:X.stack=X.env::X.outer) (fr:X.env.frame=some X.env.locals) (hx:PySem.W.exmOne X.K (.ref C) (.ref C)=some true) (hg:Gl X x) (hm:X.mg x=some (.ref C))
  (hb:∀ (ES:St→XK) (E:Value→Shared→Prop) (pn:List (Addr × Obj)),Throw (X.tr E pn) ES→PSs (X.tr E pn) body (tb ES))
  (hs:∀ e:Addr,PSs (X.inH e) (b0::suite) ts) (ho:PSs X orelse to) (hdb:(x == ("__debug__":Str))=false:=by decide) :
  PS X (.Try body [.ExceptHandler (some (.Name x np)) none (b0::suite) hpos] orelse [] pos) (tTry C tb ts to):=by
 intro pins s σ H D I h
 refine wpAny_Try_except ?_
 have T:Throw (X.tr (fun e s₁=>wpAny (model X.prog X.w) X.A (noteFrame e X.env) (fun _ s₂=>wpAny (model X.prog X.w) X.A (setFlight e none) (fun _ s₃=>wpAny (model X.prog X.w) X.A (handleBy e X.env [.ExceptHandler (some (.Name x np)) none (b0::suite) hpos]) (SP X pins D) X.xe s₃) X.xe s₂) X.xe s₁) (X.pn++pins))
   (fun σ' cls _ H'=>cls=.ref C∧ts D σ' H'):=by
  refine ⟨fun pins1 σ1 H1 H' s1 s2 ch a T cls fl F hq=>?_,fun pins1 σ1 H1 s1 h' tk a cls args I1 mk hq=>?_,PassesOwn.looking⟩
  ·obtain ⟨rfl,q⟩:=hq
   exact F.look (s':=s2) st fr fun s3 T' F3 I3=>caught (I3.ofTr I.ok) F3.ex hx hg hm hs q hdb
  ·obtain ⟨rfl,q⟩:=hq
   exact I1.lookNew st fr mk fun s3 T' F3 I3=>caught (I3.ofTr I.ok) F3.ex hx hg hm hs q hdb
 refine wpAny_mono (hb _ _ _ T [] s σ H _ I.toTr h) (fun f s1 q=>?_) fun _ _ z=>z
 cases f with
 | next =>
  obtain ⟨σ1,H1,I1,q1⟩:=q
  exact ho pins s1 σ1 H1 D (I1.ofTr I.ok) q1
 | brk=>obtain ⟨σ',H',I',q⟩:=q;exact ⟨σ',H',I'.ofTr I.ok,q⟩
 | cont=>obtain ⟨σ',H',I',q⟩:=q;exact ⟨σ',H',I'.ofTr I.ok,q⟩
 | ret u=>obtain ⟨v,σ',H',I',r,q⟩:=q;exact ⟨v,σ',H',I'.ofTr I.ok,r,q⟩
end
section
variable {X:Cx} {ES:St→XK} {k:Nat} {f C:Addr} {fd:FuncData} {ps:List Str} {sp:Sp} {dvs:List V} {ds:List Value} {x m:Str} {p pos apos:Pos} {e o:Expr} {es:List Expr} {ta:TE} {t:TA}
def tCallS (sp:Sp) (dvs:List V) (ES:St→XK) (t:TA):TE:=fun σ H Q=>t σ H fun vs H1=>sp (vs++dvs) H1 Q (ES σ)
theorem run_fnS {pins:List (Addr × Obj)} {σ:St} {H:Hp} {s:Shared} {Q:VK} {us:List Value} {vs:List V} (F:FnOk X.prog X.w X.K X.mg X.base (CXe X.prog X.w) k f fd ps sp) (hr:Room k X.A) (hb:Binds X.K fd ps ds) (hd:Vals dvs ds) (hx:Throw X ES)
  (I:Inv X pins σ H s) (r:Vals vs us) (h:sp (vs++dvs) H Q (ES σ)):wpAny (model X.prog X.w) X.A (call (.ref f) us) (EP X pins σ Q) X.xe s:=by
 have r2:Vals (vs++dvs) (us++ds):=r.append hd
 have hl:(us++ds).length=ps.length:=by rw [← r2.length];exact F.len _ _ _ _ h
 refine wpAny_call (codeAny_mono (F.run X.A X.stack s H ⟨us,[]⟩ (us++ds) (vs++dvs) Q (ES σ) hr I.env0 (hb s us I.kIn hl) r2 h) fun r s' hq=>?_)
 cases r with
 | error e=>exact hx.pass I hq
 | ok fl =>
  cases fl with
  | ret u=>exact I.after hq
  | next=>exact False.elim hq
  | brk=>exact False.elim hq
  | cont=>exact False.elim hq
theorem pe_callS (F:FnOk X.prog X.w X.K X.mg X.base (CXe X.prog X.w) k f fd ps sp) (hr:Room k X.A) (hg:Gl X x) (hm:X.mg x=some (.ref f)) (hk:PySem.W.keepIn X.K (.ref f)=true) (hb:Binds X.K fd ps ds) (hd:Vals dvs ds) (hx:Throw X ES)
  (ha:PA X (e::es) t) (hdb:(x == ("__debug__":Str))=false:=by decide) (he:starEach (e::es) X.env=(false,eval e X.env)::starEach es X.env:=by rfl) (hpl:(backTo pos (starEach es X.env)).any (·.1)=false:=by rfl) :
  PE X (.Call (.Name x p) (e::es) [] pos) (tCallS sp dvs ES t):=by
 intro pins s σ H Q I h
 refine wpAny_Call_Name_kw (ld_glob I hg hm ?_ hdb)
 refine PySem.W.callWith_K (h₀:=X.base) I.ok.mod.kin hk (thn (ha pos pins s σ H _ I h) fun us s1 ⟨vs,H1,I1,r,q⟩=>⟨I1.kIn,?_⟩) he hpl
 exact run_fnS F hr hb hd hx I1 r q
end
section
variable {P:Program} {w:World} {K:PySem.W.Frag} {mg:Str→Option Value} {base:Heap}
theorem Fun.okX {x qual:Str} {st:Stmt} {f:Addr} {fd:FuncData} {N ps:List Str} {k:Nat} {sp:Sp} (F:Fun K x qual st f fd) (S:FnScope N ps (defScope st)) (len:∀ vs H Q E,sp vs H Q E→vs.length=ps.length)
  (hbody:∀ (cdv:Value) (A:Around) (outer:List Env) (s:Shared) (H:Hp) (vs:List V) (Q:VK) (E:XK),Room k (A.deeper (envOfC qual (defScope st) s.heap.objs.size f cdv))→sp vs H Q E →
   Throw (cxOf (CXe P w) P w K mg base N qual (defScope st) f cdv A outer s H E) (fun _=>E) →
   ∃ t,PSs (cxOf (CXe P w) P w K mg base N qual (defScope st) f cdv A outer s H E) (defBody st) t∧t { nx:=fun _ H'=>Q .non H',rt:=Q } (start N vs) H):FnOk P w K mg base (CXe P w) (k + 1) f fd ps sp:=by
 obtain ⟨oc,od,kV,doc,pm,an,cdv,ct,osl,rfl,lk,hcd⟩:=F.ex
 exact fn_of lk hcd S len fun A outer s H vs Q E hr hsp=>hbody cdv A outer s H vs Q E hr hsp throw_def
end
end L2
namespace L2
open PySem PySem.Spec PyProof.Rows
abbrev Cx.blkX (X:Cx) (s:Shared) (H:Hp) (scope:Scope) (cenv:Env) (fp:List Addr) (E:Value→Shared→Prop) (pn:List (Addr × Obj)):Cx:={ X with s_0:=s,H_0:=H,env:=cenv,outer:=X.stack,ex:=fp,fn:=fun x=>scope.names.lookup x == some .cell,pn:=pn,xe:=E }
section
variable {X:Cx} {σ:St} {H H0:Hp} {s s0:Shared} {scope:Scope} {ce:Env} {fp:List Addr} {E:Value→Shared→Prop} {pn:List (Addr × Obj)}
theorem Inv.toBX (I:Inv (X.blk s0 H0 scope ce fp) ([]++pn) σ H s):Inv (X.blkX s0 H0 scope ce fp E pn) [] σ H s :=
 ⟨⟨I.ok.mod,I.ok.kind,I.ok.glob,I.ok.blt,I.ok.above,I.ok.inj,I.ok.has,I.ok.cab,I.ok.hd,I.ok.frames,I.ok.stk,I.ok.exf,I.ok.bs,I.ok.bsz,I.ok.noex,I.ok.exfs,I.ok.funs,I.ok.frf⟩,I.os,I.bare,I.base,I.loc,I.cell,I.free,I.freeC,(fun p hp=>I.pin p (by simpa using hp)),I.hok,I.len⟩
theorem Inv.ofBX {pins:List (Addr × Obj)} (I:Inv (X.blkX s0 H0 scope ce fp E pn) pins σ H s):Inv (X.blk s0 H0 scope ce fp) ([]++pn) σ H s :=
 ⟨⟨I.ok.mod,I.ok.kind,I.ok.glob,I.ok.blt,I.ok.above,I.ok.inj,I.ok.has,I.ok.cab,I.ok.hd,I.ok.frames,I.ok.stk,I.ok.exf,I.ok.bs,I.ok.bsz,I.ok.noex,I.ok.exfs,I.ok.funs,I.ok.frf⟩,I.os,I.bare,I.base,I.loc,I.cell,I.free,I.freeC,(fun p hp=>I.pin p (by simp at hp;simp [hp])),I.hok,I.len⟩
theorem block_out {EX:XK} {pins pins1:List (Addr × Obj)} {σ1:St} {H1 H':Hp} {s1 s2:Shared} {ch:List Addr} {a T D:Addr} {cls fl:Value} {use:Option (Value→Sem Unit)} {Qf:Value→Shared→Prop}
  (t:Throw X fun _=>EX) (I0:Inv X pins σ H0 s0) (tch:Turned X pins fp) (t0:∀ b∈fp,∃ o,s0.heap.get? b=some o) (hpn:∀ b∈fp,∃ o,(b,o)∈pn) (hC:ce.locals=s0.heap.objs.size)
  (F:Flown (X.blkX s0 H0 scope ce fp E pn) pins1 σ1 H1 H' s1 s2 ch a T cls fl) (I2:Inv (X.blkX s0 H0 scope ce fp E pn) pins1 σ1 H' s2) (h:EX cls none H') :
  compPost (model X.prog X.w) X.A X.xe use Qf (.ref D) s0.heap.objs.size (.error (.ref a)) s2:=by
 have I1:=F.inv
 have fpI:∀ {s':Shared} {H'':Hp},Inv (X.blkX s0 H0 scope ce fp E pn) pins1 σ1 H'' s'→∀ b∈fp,∃ o,s'.heap.get? b=some o:=fun {s' H''} J b hb=>by
  obtain ⟨o,ho⟩:=hpn b hb
  exact ⟨o,(J.pin (b,o) (List.mem_append_left _ ho)).1⟩
 have nfp:∀ b,s1.heap.get? b=none→b ∉ fp:=fun b e z=>by
  obtain ⟨o,q⟩:=fpI I1 b z
  rw [e] at q
  cases q
 have fa0:s0.heap.get? a=none:=I1.nn (nfp a F.fa) F.fa
 have fT0:s0.heap.get? T=none:=I1.nn (nfp T F.fT) F.fT
 have locs:∃ o,s1.heap.get? s0.heap.objs.size=some o:=by
  obtain ⟨m,⟨o,_,_,ho,_⟩,_⟩:=I1.loc
  have ho':s1.heap.get? ce.locals=some o:=ho
  rw [hC] at ho'
  exact ⟨o,ho'⟩
 have aC:a≠s0.heap.objs.size:=fun z=>by
  obtain ⟨o,q⟩:=locs
  rw [← z,F.fa] at q
  cases q
 have TC:T≠s0.heap.objs.size:=fun z=>by
  obtain ⟨o,q⟩:=locs
  rw [← z,F.fT] at q
  cases q
 have nC:H' s0.heap.objs.size=none:=by
  have z:H' ce.locals=none:=I2.free
  rw [hC] at z
  exact z
 have go:∃ m,s2.heap.Ns s0.heap.objs.size m∧∀ h',Heap.SameBut s0.heap.objs.size s2.heap h'→∀ cenv:Env,cenv.locals=s0.heap.objs.size→wpAny (model X.prog X.w) X.A (PySem.passOn "comprehension.variables-let-go" (.ref a) cenv:Sem Value) (fun _ _=>False) X.xe { s2 with heap:=h' }:=by
  obtain ⟨m,hn,_⟩:=I2.loc
  have hn:s2.heap.Ns ce.locals m:=hn
  rw [hC] at hn
  refine ⟨m,hn,fun h' sb cenv _=>?_⟩
  have x':ExcAt h' a T cls fl:=by
   obtain ⟨oe,vs,oT,ts,he,hcls,hd,h1,hTe,hT,hdT,h3⟩:=F.ex
   exact ⟨oe,vs,oT,ts,(sb.2 a aC).trans he,hcls,hd,h1,hTe,(sb.2 T TC).trans hT,hdT,h3⟩
  unfold PySem.passOn
  obtain ⟨oe,vs,oT,ts,he,hcls,hd,h1,hTe,hT,hdT,h3⟩:=x'
  refine wpAny_bind (wpAny_field he hd h1 ?_)
  rw [if_neg (show ¬ ((Value.ref T == Value.none)=true) from by simp)]
  have x':ExcAt h' a T cls fl:=⟨oe,vs,oT,ts,he,hcls,hd,h1,hTe,hT,hdT,h3⟩
  have step:wpAny (model X.prog X.w) X.A (setFlight (.ref a) cenv.frame) (fun _ s3=>wpAny (model X.prog X.w) X.A (throw (.ref a):Sem Value) (fun _ _=>False) X.xe s3) X.xe { s2 with heap:=h' }:=by
   refine set_flight (s:={ s2 with heap:=h' }) x' fun h'' x'' kb=>wpAny_throw ?_
   have kept:KeptBut (frs X.stack) [a,T,s0.heap.objs.size] s2.heap h'':=fun b o hb e=>by
    have e1:h'.get? b=some o:=(sb.2 b fun z=>hb (by simp [z])).trans e
    have kb':h''.get? b=h'.get? b:=kb b fun z=>hb (by simp [z])
    have e2:=kb'.trans e1
    exact ⟨fun _=>e2,o.slots,e2⟩
   have ncg:∀ b∈[a,T,s0.heap.objs.size],H' b=none∧s0.heap.get? b=none:=fun b hb=>by
    simp only [List.mem_cons,List.not_mem_nil,or_false] at hb
    rcases hb with z | z | z
    ·rw [z];exact ⟨F.na,fa0⟩
    ·rw [z];exact ⟨F.nT,fT0⟩
    ·rw [z];exact ⟨nC,Heap.get?_none_of_le (Nat.le_refl _)⟩
   obtain ⟨I4,un4⟩:=I0.looked (s':=s2) (ch:=fp) tch I2.os I2.bare I2.base I2.hok ncg kept
   refine t.fly pins σ H0 H' s0 { s2 with heap:=h'' } fp a T cls _ ⟨I0,tch,I2.os,I2.bare,un4,I4.hok,x'',F.na,F.nT,fa0,fT0,t0,fun b hb=>?_⟩ h
   obtain ⟨o,e⟩:=fpI I2 b hb
   obtain ⟨o1,e1⟩:=t0 b hb
   obtain ⟨sl,e2⟩:=(kept b o (fun z=>by rw [(ncg b z).2] at e1;cases e1) e).2
   exact ⟨_,e2⟩
  first
   | exact wpAny_bind step
   | exact wpAny_bind (wpAny_pure (wpAny_bind step))
 cases use with
 | none=>exact go
 | some u=>exact go
theorem throw_block {EX:XK} {pins:List (Addr × Obj)} {D:Addr} {use:Option (Value→Sem Unit)} {Qf:Value→Shared→Prop} {eo:List Env} {L:Addr}
  (t:Throw X fun _=>EX) (st:X.stack=X.env::eo) (fr:X.env.frame=some L) (hce:ce.frame=X.env.frame) (I0:Inv X pins σ H0 s0) (tch:Turned X pins fp) (t0:∀ b∈fp,∃ o,s0.heap.get? b=some o) (hpn:∀ b∈fp,∃ o,(b,o)∈pn) (hC:ce.locals=s0.heap.objs.size) :
  Throw (X.blkX s0 H0 scope ce fp (notedBy (model X.prog X.w) X.A ce fun e s'=>compPost (model X.prog X.w) X.A X.xe use Qf (.ref D) s0.heap.objs.size (.error e) s') pn) (fun _=>EX):=by
 refine ⟨fun pins1 σ1 H1 H' s1 s2 ch a T cls fl F h=>?_,fun pins1 σ1 H1 s1 h' tk a cls args I1 mk h=>?_,PassesOwn.looking⟩
 ·show wpAny (model X.prog X.w) X.A (noteFrame (.ref a) ce) _ _ s2
  rw [noteFrame_env hce]
  exact F.note (s':=s2) st fr fun s3 T' F3 I3=>block_out t I0 tch t0 hpn hC F3 I3 h
 ·show wpAny (model X.prog X.w) X.A (noteFrame (.ref a) ce) _ _ _
  rw [noteFrame_env hce]
  exact I1.noteNew st fr mk fun s3 T' F3 I3=>block_out t I0 tch t0 hpn hC F3 I3 h
end
section
variable {X:Cx}
theorem lc_coreX {EX:XK} {eo:List Env} {L:Addr} {pins:List (Addr × Obj)} {s:Shared} {σ:St} {H:Hp} {Q:VK} {elt tg iter:Expr} {ifs:List Expr} {scope:Scope} {own:List (Str × Nat)} {pos pos':Pos} {wi:TI} {g:TG} {tt:TT} {te:TE} {use:Option (Value→Sem Unit)} {Qf:Value→Shared→Prop}
  (hth:Throw X fun _=>EX) (st:X.stack=X.env::eo) (fr:X.env.frame=some L) (hc:X.calm=true) (hN:X.N.Nodup) (I:Inv X pins σ H s) (hi:PI X tg iter wi) (ok:BlkOk X.N X.env.scope scope own)
  (hg:∀ (s:Shared) (H:Hp) (C:Addr) (cl:List (Str × Addr)) (fp:List Addr) (E:Value→Shared→Prop) (pn:List (Addr × Obj)),PG (X.blkX s H scope (compEnvC scope cl C X.env) fp E pn) tg g)
  (ht:∀ (s:Shared) (H:Hp) (C:Addr) (cl:List (Str × Addr)) (fp:List Addr) (E:Value→Shared→Prop) (pn:List (Addr × Obj)),Throw (X.blkX s H scope (compEnvC scope cl C X.env) fp E pn) (fun _=>EX)→PTs (X.blkX s H scope (compEnvC scope cl C X.env) fp E pn) ifs tt)
  (he:∀ (s:Shared) (H:Hp) (C:Addr) (cl:List (Str × Addr)) (fp:List Addr) (E:Value→Shared→Prop) (pn:List (Addr × Obj)),Throw (X.blkX s H scope (compEnvC scope cl C X.env) fp E pn) (fun _=>EX)→PE (X.blkX s H scope (compEnvC scope cl C X.env) fp E pn) elt te)
  (hs:∀ x,foldedSetIterable iter X.env x=pure x)
  (h:tLc wi g tt te (own.map (·.2)) σ H Q)
  (hRR:∀ D C s' m H',Inv X pins σ H' s'→Q (.ref D) H'→s'.heap.Ns C m→FpOk X pins H' C→compPost (model X.prog X.w) X.A X.xe use Qf (.ref D) C (.ok .next) s') :
  wpAny (model X.prog X.w) X.A (comprehension (.ListComp elt [⟨tg,iter,ifs,0⟩] scope pos) scope X.env pos' (newList []) false (eval iter X.env) use) Qf X.xe s:=by
 have hfree:∀ y∈scope.names,y.2=.free→∃ c,X.env.cells.lookup y.1=some c:=fun y hy e=>by
  rcases ok.free y hy e with k | k
  ·exact I.ok.has _ (.inl k)
  ·exact I.ok.has _ (.inr k)
 refine wpAny_comprehension_free (use:=use) rfl hs (closure_ok hfree) ok.kind (fun y hy e=>by rw [ok.uniq y hy,e])
  (thn (hi pins s σ H _ I h) fun xv s1 hx=>thn hx fun itv s2 h2=>?_)
 obtain ⟨it,fp,tn,J,H2,e,I2,T,st2,f2,q⟩:=h2
 subst e
 refine wpAny_newObj_type (newEnv_comp ?_) (by show 0≤sizeLine;decide)
 generalize hD:s2.heap.objs.size=D
 have hDn:H2 D=none:=I2.hok.fresh (Nat.le_of_eq hD)
 obtain ⟨W,⟨m0,w0⟩,turn⟩:=q D hDn
 generalize hs3:({ s2 with heap:=s2.heap.push { cls:=.type "list",data:=.seq ([]:List Value).toArray } }:Shared)=s3
 have I3:Inv X pins σ (upd H2 D (.lst [])) s3:=by
  rw [← hs3]
  refine I2.laid (t':=s2.toks) (fun b o e=>Heap.get?_push_of_some _ e) (Nat.le_of_eq hD) ⟨Nat.zero_le _,[],0,.nil,?_⟩
  rw [← hD]
  exact Heap.get?_push_size _ rfl
 have h3:s3.heap=s2.heap.push { cls:=.type "list",data:=.seq ([]:List Value).toArray }:=by rw [← hs3]
 have sz:∀ b∈fp,b < s2.heap.objs.size:=fun b hb=>by
  obtain ⟨o,e,_⟩:=T.obj _ _ st2 b hb
  exact Heap.lt_size e
 have f3:∀ b∈fp,FpOk X pins (upd H2 D (.lst [])) b∧b < s3.heap.objs.size:=fun b hb=>by
  have hlt:=sz b hb
  refine ⟨⟨?_,(f2 b hb).2⟩,by rw [h3,Heap.size_push];exact Nat.lt_succ_of_lt hlt⟩
  rw [uN (by rw [← hD];exact Nat.ne_of_lt hlt)]
  exact (f2 b hb).1
 have st3:tn 0 s3.heap:=T.keep _ _ _ st2 fun b _ o e=>by rw [h3];exact Heap.get?_push_of_some _ e
 have I4:=block_start I3 ok hN f3
 have pg:=hg s3 (upd H2 D (.lst [])) s3.heap.objs.size (cellsFrom (s3.heap.objs.size + 1) scope.names (cloFrom X.env.cells scope.names [])) fp
 have pt:=ht s3 (upd H2 D (.lst [])) s3.heap.objs.size (cellsFrom (s3.heap.objs.size + 1) scope.names (cloFrom X.env.cells scope.names [])) fp
 have pe:=he s3 (upd H2 D (.lst [])) s3.heap.objs.size (cellsFrom (s3.heap.objs.size + 1) scope.names (cloFrom X.env.cells scope.names [])) fp
 show codeAny _ _ (.compStart (.ListComp elt [⟨tg,iter,ifs,0⟩] scope pos) 0 (.ref it) (.ref D) (compEnvC scope (cellsFrom (s3.heap.objs.size + 1) scope.names (cloFrom X.env.cells scope.names [])) s3.heap.objs.size X.env)) (compPost (model X.prog X.w) X.A X.xe use Qf (.ref D) s3.heap.objs.size) { s3 with heap:=pushCells (s3.heap.push { cls:=.type "dict",data:=.dict #[] }) scope.names }
 have nfp:∀ b∈fp,(upd H2 D (.lst [])) b=none:=fun b hb=>(f3 b hb).1.1
 generalize hce:compEnvC scope (cellsFrom (s3.heap.objs.size + 1) scope.names (cloFrom X.env.cells scope.names [])) s3.heap.objs.size X.env=ce at I4 pg pt pe ⊢
 have cL:ce.locals=s3.heap.objs.size:=by subst hce;rfl
 have cF:ce.frame=X.env.frame:=by subst hce;rfl
 generalize hH3:upd H2 D (.lst [])=H3 at I3 I4 pg pt pe w0 nfp f3
 generalize hs4:({ s3 with heap:=pushCells (s3.heap.push { cls:=.type "dict",data:=.dict #[] }) scope.names }:Shared)=s4 at I4 ⊢
 have st4:tn 0 s4.heap:=T.keep _ _ _ st3 fun b _ o e=>by rw [← hs4];exact pushCells_keeps _ _ _ _ (Heap.get?_push_of_some _ e)
 have tch3:Turned X pins fp:=fun b hb=>⟨(f3 b hb).1.2.2.2.1,(f3 b hb).1.2.1,(f3 b hb).1.2.2.2.2.1,(f3 b hb).1.2.2.2.2.2⟩
 have t03:∀ b∈fp,∃ o,s3.heap.get? b=some o:=fun b hb=>by
  obtain ⟨o,e,_⟩:=T.obj _ _ st3 b hb
  exact ⟨o,e⟩
 have stat:∀ {σ':St} {H':Hp} {s':Shared},Inv (X.blk s3 H3 scope ce fp) [] σ' H' s'→(∀ b∈fp,H' b=none)→∀ b∈fp,FpOk (X.blk s3 H3 scope ce fp) [] H' b:=fun {σ' H' s'} I' hn b hb =>
  ⟨hn b hb,(I'.ok.exf b hb).1,I'.ok.exfs b hb,.inl hb,fun x c e=>(I'.ok.exf b hb).2 x c e,fun p hp=>absurd (show p∈([]:List (Addr × Obj))++[] from hp) (by simp)⟩
 have loop:codeAny (model X.prog X.w) X.A (.compLoop (.ListComp elt [⟨tg,iter,ifs,0⟩] scope pos) 0 (.ref it) (.ref D) ce) (compPost (model X.prog X.w) X.A X.xe use Qf (.ref D) s3.heap.objs.size) s4:=by
  refine compLoop_any (fun n s'=>∃ i H',Inv (X.blk s3 H3 scope ce fp) [] (wipe σ (own.map (·.2))) H' s'∧tn i s'.heap∧(∀ b∈fp,H' b=none)∧W i n H') ?_ m0 ⟨0,H3,I4,st4,nfp,w0⟩
  rintro n s5 ⟨i,H5,I5,st5,n5,w5⟩
  rcases turn i n H5 w5 with ⟨stop,qq⟩ | ⟨go,Nx,hNx,step⟩
  ·have td:=T.done (X.blk s3 H3 scope ce fp) rfl rfl rfl hc i [] s5 _ H5 (fun _ _=>False) I5 (stat I5 n5) st5 stop
   refine thnF td fun r s6 ⟨hr,I6⟩=>?_
   subst hr
   have I7:Inv X pins σ H5 s6:=I3.call' (ch:=fp) I6.os I6.base I6.hok I6.bare fun b hb=>⟨(f3 b hb).1.2.2.2.1,(f3 b hb).1.2.1,(f3 b hb).1.2.2.2.2.1,(f3 b hb).1.2.2.2.2.2⟩
   have nC:H5 s3.heap.objs.size=none:=by
    have z:H5 ce.locals=none:=I6.free
    rw [cL] at z
    exact z
   obtain ⟨m,hn,_⟩:=I6.loc
   have hn:s6.heap.Ns ce.locals m:=hn
   rw [cL] at hn
   exact hRR D s3.heap.objs.size s6 m H5 I7 qq hn (I3.fpOk (Nat.le_refl _) nC)
  ·have ti:=T.item (X.blk s3 H3 scope ce fp) rfl rfl rfl hc i [] s5 _ H5 (fun _ _=>False) I5 (stat I5 n5) st5 go
   refine thnF ti fun r s6 ⟨u,hr,h6⟩=>?_
   subst hr
   refine thnF h6 fun _ s7 ⟨x,H7,I7,r7,y7,st7,n7⟩=>?_
   have I7':=I7.pinned (stat I7 n7) (T.obj _ _ st7)
   have hpn:∀ b∈fp,∃ o,(b,o)∈pinsAt fp s7.heap:=fun b hb=>by
    obtain ⟨o,e,_⟩:=T.obj _ _ st7 b hb
    exact ⟨o,mem_pinsAt hb e⟩
   have th:Throw (X.blkX s3 H3 scope ce fp (notedBy (model X.prog X.w) X.A ce fun e s'=>compPost (model X.prog X.w) X.A X.xe use Qf (.ref D) s3.heap.objs.size (.error e) s') (pinsAt fp s7.heap)) (fun _=>EX) :=
    throw_block hth st fr cF I3 tch3 t03 hpn cL
   refine thn (pg _ _ [] s7 _ H7 x u _ I7'.toBX r7 (step x H7 y7)) fun _ s8 ⟨σ8,H8,I8,hw8,q8⟩=>?_
   refine thn (pt _ _ th [] s8 σ8 H8 _ I8 q8) fun b s9 ⟨H9,I9,q9⟩=>?_
   have fin:∀ {s':Shared} {H':Hp},Inv (X.blk s3 H3 scope ce fp) ([]++pinsAt fp s7.heap) σ8 H' s'→Nx H'→∃ m,m < n∧∃ i H',Inv (X.blk s3 H3 scope ce fp) [] (wipe σ (own.map (·.2))) H' s'∧tn i s'.heap∧(∀ b∈fp,H' b=none)∧W i m H':=fun {s' H'} I' nx=>by
    obtain ⟨m',hm,w'⟩:=hNx H' nx
    have pin':∀ b∈fp,∀ o,s7.heap.get? b=some o→s'.heap.get? b=some o∧H' b=none:=fun b hb o e =>
     let z:=I'.pin (b,o) (List.mem_append_right _ (List.mem_append_right _ (mem_pinsAt hb e)))
     ⟨z.1,z.2.1⟩
    have hl:(wipe σ (own.map (·.2))).length=σ8.length:=by rw [← hw8,wipe_length]
    refine ⟨m',hm,i + 1,H',(I'.unpinned (pins:=[])).weak hl (fun j v e=>?_),T.keep _ _ _ st7 fun b hb o e=>(pin' b hb o e).1,fun b hb=>?_,w'⟩
    ·rw [← hw8] at e
     exact (wipe_some e).1
    ·obtain ⟨o,e,_⟩:=T.obj _ _ st7 b hb
     exact (pin' b hb o e).2
   cases b with
   | false =>
    simp only [Bool.false_eq_true,if_false] at q9 ⊢
    exact fin I9.ofBX q9
   | true =>
    simp only [if_true] at q9 ⊢
    refine thn (pe _ _ th [] s9 σ8 H9 _ I9 q9) fun z s10 ⟨yv,H10,I10,r10,acc,hD10,hz10,nx⟩=>?_
    exact app_ok (X:=X.blk s3 H3 scope ce fp) I10.ofBX hD10 hz10 r10 fun s11 I11=>fin I11 nx
 exact codeAny_compStart_list loop (T.self X.A 0 _ _ _ st4 loop)
theorem pe_lcX {EX:XK} {eo:List Env} {L:Addr} {elt tg iter:Expr} {ifs:List Expr} {scope:Scope} {own:List (Str × Nat)} {pos:Pos} {wi:TI} {g:TG} {tt:TT} {te:TE} (hth:Throw X fun _=>EX) (st:X.stack=X.env::eo) (fr:X.env.frame=some L) (hc:X.calm=true) (hN:X.N.Nodup) (hi:PI X tg iter wi) (ok:BlkOk X.N X.env.scope scope own)
  (hg:∀ (s:Shared) (H:Hp) (C:Addr) (cl:List (Str × Addr)) (fp:List Addr) (E:Value→Shared→Prop) (pn:List (Addr × Obj)),PG (X.blkX s H scope (compEnvC scope cl C X.env) fp E pn) tg g)
  (ht:∀ (s:Shared) (H:Hp) (C:Addr) (cl:List (Str × Addr)) (fp:List Addr) (E:Value→Shared→Prop) (pn:List (Addr × Obj)),Throw (X.blkX s H scope (compEnvC scope cl C X.env) fp E pn) (fun _=>EX)→PTs (X.blkX s H scope (compEnvC scope cl C X.env) fp E pn) ifs tt)
  (he:∀ (s:Shared) (H:Hp) (C:Addr) (cl:List (Str × Addr)) (fp:List Addr) (E:Value→Shared→Prop) (pn:List (Addr × Obj)),Throw (X.blkX s H scope (compEnvC scope cl C X.env) fp E pn) (fun _=>EX)→PE (X.blkX s H scope (compEnvC scope cl C X.env) fp E pn) elt te)
  (hs:∀ x,foldedSetIterable iter X.env x=pure x:=by intro _;rfl) :
  PE X (.ListComp elt [⟨tg,iter,ifs,0⟩] scope pos) (tLc wi g tt te (own.map (·.2))):=by
 intro pins s σ H Q I h
 rw [eval_ListComp]
 refine lc_coreX hth st fr hc hN I hi ok hg ht he hs h fun D C s' m H' I' q hn f=>⟨m,hn,fun h'' sb=>?_⟩
 obtain ⟨f0,f1,f2,f3,f4,f5⟩:=f
 exact ⟨.ref D,H',I'.turned (t':=s'.toks) (fun b o hb e=>(sb.2 b hb).trans e) f0 f1 f3 f4 f5,rfl,q⟩
theorem ps_setLcX {EX:XK} {eo:List Env} {L:Addr} {i:Nat} {y:Str} {py:Pos} {elt tg iter:Expr} {ifs:List Expr} {scope:Scope} {own:List (Str × Nat)} {pos spos:Pos} {wi:TI} {g:TG} {tt:TT} {te:TE} (hth:Throw X fun _=>EX) (st:X.stack=X.env::eo) (fr:X.env.frame=some L) (hc:X.calm=true) (hN:X.N.Nodup) (hy:X.N[i]?=some y) (hyl:X.env.scope.names.lookup y=some .local)
  (hsw:swapsWith (.ListComp elt [⟨tg,iter,ifs,0⟩] scope pos) (some (.Name y py)) spos.line X.env=pure true) (hi:PI X tg iter wi) (ok:BlkOk X.N X.env.scope scope own)
  (hg:∀ (s:Shared) (H:Hp) (C:Addr) (cl:List (Str × Addr)) (fp:List Addr) (E:Value→Shared→Prop) (pn:List (Addr × Obj)),PG (X.blkX s H scope (compEnvC scope cl C X.env) fp E pn) tg g)
  (ht:∀ (s:Shared) (H:Hp) (C:Addr) (cl:List (Str × Addr)) (fp:List Addr) (E:Value→Shared→Prop) (pn:List (Addr × Obj)),Throw (X.blkX s H scope (compEnvC scope cl C X.env) fp E pn) (fun _=>EX)→PTs (X.blkX s H scope (compEnvC scope cl C X.env) fp E pn) ifs tt)
  (he:∀ (s:Shared) (H:Hp) (C:Addr) (cl:List (Str × Addr)) (fp:List Addr) (E:Value→Shared→Prop) (pn:List (Addr × Obj)),Throw (X.blkX s H scope (compEnvC scope cl C X.env) fp E pn) (fun _=>EX)→PE (X.blkX s H scope (compEnvC scope cl C X.env) fp E pn) elt te)
  (hs:∀ x,foldedSetIterable iter X.env x=pure x:=by intro _;rfl) :
  PS X (.Assign [.Name y py] (.ListComp elt [⟨tg,iter,ifs,0⟩] scope pos) spos) (tAsg (tLc wi g tt te (own.map (·.2))) (gName i)):=by
 intro pins s σ H D I h
 rw [exec_Assign_Name_used _ _ _ _ hsw]
 refine wpAny_bind (wpAny_standAt (wpAny_bind ?_))
 show wpAny _ X.A (do let _ ← comprehension (.ListComp elt [⟨tg,iter,ifs,0⟩] scope pos) scope X.env (firstIterPos [⟨tg,iter,ifs,0⟩] pos) (newList []) false (eval iter X.env) (some (assign (.Name y py) X.env))) _ _ s
 have h:tLc wi g tt te (own.map (·.2)) σ H (fun x H1=>gName i x σ H1 D.nx):=h
 refine wpAny_bind (thn (lc_coreX (Qf:=fun _ s'=>SP X pins D .next s') hth st fr hc hN I hi ok hg ht he hs h fun L C s' m H' I' q hn f=>?_) fun _ s' hq=>wpAny_pure (wpAny_pure hq))
 show wpAny _ _ (assign (.Name y py) X.env (.ref L)) _ _ _
 refine wpAny_assign_Name (store_ok2 (v:=V.ref L) I' hN hy (.inl hyl) rfl (fun s2 I2 ⟨a,sb,ha⟩=>?_) (.inr hyl))
 obtain ⟨f0,f1,f2,f3,f4,f5⟩:=f
 have haC:C≠a:=by
  rcases ha with z | z
  ·rw [z];exact f1
  ·exact fun e=>f4 y a z e.symm
 refine ⟨m,hn.sameBut sb haC,fun h3 sb3=>?_⟩
 exact ⟨_,H',I2.turned (t':=s2.toks) (fun b o hb e=>(sb3.2 b hb).trans e) f0 f1 f3 f4 f5,q⟩
end
end L2
namespace L2
open PySem PySem.Spec PyProof.Rows PySem.Builtin.Int
def Sm (i:Int):Prop:=i.natAbs < 2 ^ 4000
theorem Sm.of_lt {i:Int} (k:Nat) (h:i.natAbs < 2 ^ k) (hk:k≤4000:=by decide):Sm i:=Nat.lt_of_lt_of_le h (Nat.pow_le_pow_right (by decide) hk)
theorem Sm.bits {i:Int} (h:Sm i):intBits i≤4000:=intBits_le_iff.mpr h
section
variable {X:Cx}
def CMulG (i j:Int):Prop:=Sm i∧Sm j
def CDivG (i j:Int):Prop:=0 < j∧Sm j
def CShl (i j:Int):Prop:=0≤j∧j≤100000∧Sm i
theorem sm_log2 {j:Int} (h0:0 < j) (h:Sm j):j.natAbs.log2 < 9000:=by
 have:j.natAbs.log2 < 4000:=(Nat.log2_lt (by lia)).mpr h
 lia
theorem op_mulG:OpR X (binaryOp .Mult) (rI CMulG fun i j=>.int (i * j)):=opI fun _ _ _ _ _ _ _ hc q=>mul_int q (IntMulOk.of_le hc.1.bits hc.2.bits (by decide))
theorem op_fdivG:OpR X (binaryOp .FloorDiv) (rI CDivG fun i j=>.int (i / j)):=opI fun i j _ _ _ _ _ hc q=>by
 have h1:(0:Int) < j:=hc.1
 exact floordiv_int (by lia) (by rw [Int.fdiv_eq_ediv_of_nonneg i (by lia)];exact q) (.inl (PyProof.noPylong_of_log2 (sm_log2 h1 hc.2)))
theorem op_shlG:OpR X (binaryOp .LShift) (rI CShl fun i j=>.int (i * 2 ^ j.toNat)):=opI fun i j _ _ _ _ _ hc q=>by
 have h1:0≤j:=hc.1
 have h2:j≤100000:=hc.2.1
 have h3:=hc.2.2.bits
 exact lshift_int h1 (by lia) q
theorem mt_bits:MtR X "int.bit_length" (fun x xs H Q=>∃ i,x=.int i∧xs=[]∧Q (.int (intBits i)) H):=by
 intro pins s σ H x xs v us Q I r1 r2 h
 obtain ⟨i,rfl,rfl,q⟩:=h
 obtain ⟨t,rfl⟩:=r1
 obtain rfl:us=[]:=by
  cases r2
  rfl
 exact call_int_bit_length ⟨.int (intBits i),H,I.tok _,⟨_,rfl⟩,q⟩
end
theorem bits_nat {n:Nat}:intBits (n:Int)=if n=0 then 0 else n.log2 + 1:=by
 unfold intBits
 by_cases h:n=0
 ·subst h
  rfl
 ·have h2:¬ ((n:Int)=0):=by lia
  simp [h,h2]
end L2
namespace L2
open PySem PySem.Spec PyProof.Rows
theorem spec_call {P:Program} {w:World} {K:PySem.W.Frag} {mg mb:Str→Option Value} {CX:CXT} {k:Nat} {fa a:Addr} {fd:FuncData} {x:Str} {sp:Sp} {s₁:Shared} {vs:List Value} {ns out:List Int}
  (KX:K.In s₁.heap) (hns:s₁.heap.Ns mainGlobals mg) (hb:s₁.heap.Ns builtinsNs mb) (hbb:∀ x:Str,x≠"__name__"→mb x=bootBuiltins x) (hlim:s₁.heap.NoLimit) (hg:s₁.gens=#[])
  (ha:s₁.heap.get? a=some { cls:=.type "list",data:=.seq vs.toArray }) (hi:IntsAre vs ns) (hl:ns.length≤sizeLine) (hr:Room k callerA)
  (F:∀ base:Heap,K.In base→base.Ns mainGlobals mg→FnOk P w K mg base CX k fa fd [x] sp) (hbind:∀ (s:Shared) (u:Value),BindsTo s fd ⟨[u],[]⟩ [(x,u)])
  (hsp:∀ H:Hp,Only H→SqL K H a (ns.map V.int)→sp [.ref a] H (fun v H'=>∃ p,v=.ref p∧H' p=some (.lst (out.map V.int))) fun _ _ _=>False)
  (hCX:∀ H e s',CX [] H s₁ (fun _ _ _=>False) e s'→False) :
  codeAny (model P w) callerA (.call (.ref fa) ⟨[.ref a],[]⟩) (fun r s'=>(∃ p ws n,r=.ok (.ret (.ref p))∧s'.heap.get? p=some { cls:=.type "list",data:=.seq (ws:List Value).toArray n }∧IntsAre ws out)∧OldK s₁.heap s'.heap∧s'.os=s₁.os∧AllBare s'.gens) s₁:=by
 have rv:=vals_ints hi
 have lenV:=hi.length
 have core:∀ H:Hp,Only H→SqL K H a (ns.map V.int)→HOk P w H s₁.heap→(∀ b,H b≠none→b=a)→(H a≠none→K.lookup a=none) →
   codeAny (model P w) callerA (.call (.ref fa) ⟨[.ref a],[]⟩) (fun r s'=>(∃ p ws n,r=.ok (.ret (.ref p))∧s'.heap.get? p=some { cls:=.type "list",data:=.seq (ws:List Value).toArray n }∧IntsAre ws out)∧OldK s₁.heap s'.heap∧s'.os=s₁.os∧AllBare s'.gens) s₁:=by
  intro H hO hS hok hA hK
  have base_of:∀ {b:Addr} {o:Obj},s₁.heap.get? b=some o→H b=none→(hidT s₁.heap H).get? b=some o:=fun e n=>hidT_get e n
  have noA:∀ {b:Addr} {o:Obj} {es:Array DictEntry} {ep:Nat},s₁.heap.get? b=some o→o.data=.dict es ep→H b=none:=fun {b o es ep} e d=>by
   cases q:H b with
   | none=>rfl
   | some u =>
    have e':b=a:=hA b (by rw [q];simp)
    subst e'
    rw [ha] at e;cases e
    have d':Data.seq vs.toArray _=Data.dict es ep:=d
    cases d'
  have nsK:∀ {b:Addr} {m:Str→Option Value},s₁.heap.Ns b m→(hidT s₁.heap H).Ns b m:=fun {b m} ⟨o,es,ep,e,d,r⟩=>⟨o,es,ep,base_of e (noA e d),d,r⟩
  have hKb:K.In (hidT s₁.heap H):=fun b o e=>base_of (KX b o e) (by
   cases q:H b with
   | none=>rfl
   | some u =>
    have e':b=a:=hA b (by rw [q];simp)
    subst e'
    rw [hK (by rw [q];simp)] at e;cases e)
  have hM:Mod K mg (hidT s₁.heap H):=⟨hKb,nsK hns,⟨mb,nsK hb,hbb⟩,let ⟨mc,h1,h2⟩:=hlim;⟨mc,nsK h1,h2⟩⟩
  have e0:Env0 P w K mg (hidT s₁.heap H) callerA [] s₁ H:=⟨rfl,hM,fun b o e=>of_hidT e,Nat.le_of_eq (hidT_size _ _),trivial,fun b hb=>absurd (show b∈([]:List Addr) from hb) (by simp),hok,.of_eq hg⟩
  refine codeAny_mono ((F _ hKb (nsK hns)).run callerA [] s₁ H ⟨[.ref a],[]⟩ [.ref a] [.ref a] _ _ hr e0 (hbind s₁ (.ref a)) (.cons rfl .nil) (hsp H hO hS)) fun r s' h=>?_
  cases r with
  | error e=>exact (hCX H e s' h).elim
  | ok fl =>
   cases fl with
   | next=>exact False.elim h
   | brk=>exact False.elim h
   | cont=>exact False.elim h
   | ret u =>
    obtain ⟨v,H',os,bare,un,hok',r',q⟩:=h
    obtain ⟨p,rfl,hp⟩:∃ p,v=V.ref p∧H' p=some (.lst (out.map V.int)):=q
    obtain rfl:u=Value.ref p:=r'
    obtain ⟨_,ws,n,rw',ep⟩:=hok' p _ hp
    refine ⟨⟨p,ws,n,rfl,ep,rw'.ints⟩,OldK.of_keep fun b o e=>?_,os,bare⟩
    cases q:H b with
    | none=>exact un.keep b o e q (by intro z;exact absurd (show b∈([]:List Addr) from z) (by simp)) (by simp)
    | some u =>
     rcases hO b with z | ⟨ob,xs,z⟩
     ·rw [q] at z;cases z
     ·have z2:=un.frzs b ob _ z
      obtain ⟨e1,_⟩:=hok b _ z
      obtain ⟨e2,_⟩:=hok' b _ z2
      rw [e] at e1;cases e1
      exact e2
 cases hk:K.lookup a with
 | some o =>
  have e:=KX a o hk
  rw [ha] at e
  cases e
  refine core (fun _=>none) (fun _=>.inl rfl) (.inr ⟨_,vs.toArray,_,hk,rfl,rfl,rfl,by rw [List.size_toArray,lenV];exact hl,by simpa using rv⟩) (fun b u z=>by have z':(none:Option HO)=some u:=z;cases z') (fun b z=>absurd rfl z) fun z=>absurd rfl z
 | none =>
  refine core (fun b=>if b=a then some (.frz { cls:=.type "list",data:=.seq vs.toArray } (.lst (ns.map V.int))) else none) (fun b=>?_) (.inl (.inr ⟨{ cls:=.type "list",data:=.seq vs.toArray },if_pos rfl⟩)) (fun b u z=>?_) (fun b z=>?_) fun _=>hk
  ·by_cases hb:b=a
   ·exact .inr ⟨_,_,if_pos hb⟩
   ·exact .inl (if_neg hb)
  ·by_cases hb:b=a
   ·have z':=(if_pos hb).symm.trans z
    cases z'
    subst hb
    exact ⟨ha,by rw [List.length_map];exact hl,vs,_,rv,ha⟩
   ·have z':=(if_neg hb).symm.trans z
    cases z'
  ·by_cases hb:b=a
   ·exact hb
   ·exact absurd (if_neg hb) z
theorem reads_ints {R:PySem.W.WRecords} {cl:Str→Option Addr} {h:Heap}:∀ {ws:List Value} {out:List Int},IntsAre ws out→PySem.W.ReadsAllW R cl h ws (out.map PySem.W.WData.int) []
 | _,_,.nil=>.nil
 | _,_,.cons n t r=>PySem.W.ReadsAllW.cons (as:=[]) (bs:=[]) (.int n t) (reads_ints r)
theorem walk_spec {r:PySem.W.OpenSpec} {k:Nat} {q:Program} {loose:List Str} {XP:(Str→Option Value)→Heap→Prop} {YP:World→Heap→Prop} {d:DefRec} {K:Params→PySem.W.Frag} {CX:World→CXT} {sp:World→Sp} {x:Str}
  {G:List Int→Prop} {out:List Int→List Int}
  (hreq:∀ args,r.pre args=true→∃ ns:List Int,args=[PySem.W.WData.list (ns.map PySem.W.WData.int)]∧ns.length≤sizeLine∧G ns)
  (hpost:∀ ns:List Int,r.pre [PySem.W.WData.list (ns.map PySem.W.WData.int)]=true→r.post [PySem.W.WData.list (ns.map PySem.W.WData.int)] (PySem.W.WData.list ((out ns).map PySem.W.WData.int))=true)
  (hdf:d.params.defaults=[]) (hr:Room k callerA)
  (hY:∀ (w:World) (h:Heap),YP w h→(K w.params).In h)
  (F:∀ (w:World) (mg:Str→Option Value) (fa:Addr) (h:Heap),(K w.params).In h→h.Ns mainGlobals mg→mg d.name=some (.ref fa) →
   ∃ fd:FuncData,(∀ (s:Shared) (u:Value),BindsTo s fd ⟨[u],[]⟩ [(x,u)]) ∧
    ∀ base:Heap,(K w.params).In base→base.Ns mainGlobals mg→FnOk r.prog w (K w.params) mg base (CX w) k fa fd [x] (sp w))
  (hsp:∀ (w:World) (H:Hp) (a:Addr) (ns:List Int),G ns→Only H→SqL (K w.params) H a (ns.map V.int)→sp w [.ref a] H (fun v H'=>∃ p,v=.ref p∧H' p=some (.lst ((out ns).map V.int))) fun _ _ _=>False)
  (hCX:∀ (w:World) (H:Hp) (s:Shared) (e:Value) (s':Shared),CX w [] H s (fun _ _ _=>False) e s'→False) :
  PySem.W.WalkOS q loose XP YP r d [] (fun f vs=>PySem.call f vs):=by
 intro w s₀ s₁ mg mb G' Y fa o pm cd doc dV kV ho hd hcd hD hmg hg args vals as hpre hlay hrd hwl hlo
 obtain ⟨ns,rfl,hlen,hG⟩:=hreq args hpre
 cases hwl with
 | cons w1 w2 =>
  cases w2
  cases w1 with
  | list hobj hall =>
   rename_i a vs
   have KX:=hY w _ Y
   obtain ⟨fd,hb,hF⟩:=F w mg fa _ KX G'.T.g hmg
   refine PySem.W.enter_call (codeAny_mono (spec_call (out:=out ns) KX G'.T.g G'.T.b G'.T.builtins G'.T.nolimit hg hobj (Att.ints_of_wellAll ns _ hall) hlen hr hF hb (fun H hO hS=>hsp w H a ns hG hO hS) fun H e s'=>hCX w H s₁ e s') fun res s' hq=>?_)
   obtain ⟨⟨p,ws,n,rfl,hp,hi⟩,h2,h3,h4⟩:=hq
   exact ⟨.inl ⟨.ref p,_,[p],rfl,fun _=>rfl,.list hp rfl rfl (reads_ints hi),PySem.W.osPost (hpost ns hpre),fun z=>absurd z Bool.false_ne_true⟩,h2,h3,h4⟩
theorem CXe_none {P:Program} {w:World} {H:Hp} {s:Shared} {e:Value} {s':Shared} (h:CXe P w [] H s (fun _ _ _=>False) e s'):False:=by
 obtain ⟨_,_,_,_,_,_,_,_,_,_,_,_,_,_,_,z⟩:=h
 exact z
theorem req_ints {prog:Program} {name:Str} {least most:Nat} {lo hi:Int} {ret:PySem.W.Codec} {asked:List Int→Bool} {f:List Int→ret.denote} {args:List PySem.W.WData}
  (h:(PySem.W.OpenSpec.mk prog name [.list least most (.int lo hi)] ret asked f).pre args=true) :
  ∃ ns:List Int,args=[PySem.W.WData.list (ns.map PySem.W.WData.int)]∧ns.length≤most∧(∀ x∈ns,lo≤x∧x≤hi)∧asked ns=true:=by
 obtain ⟨⟨ns,u⟩,e,ha⟩:=PySem.W.os_pre_some h
 obtain ⟨e2,hw⟩:=PySem.W.Codec.encAll_of_decAll _ _ _ e
 have e3:args=[PySem.W.WData.list ((ns:List Int).map PySem.W.WData.int)]:=e2
 have hw2:(PySem.W.Codec.inList least most (PySem.W.Codec.inInt lo hi) (ns:List Int) && true)=true:=hw
 rw [Bool.and_true] at hw2
 unfold PySem.W.Codec.inList PySem.W.Codec.inLen at hw2
 rw [Bool.and_eq_true] at hw2
 exact ⟨ns,e3,(PySem.W.Codec.inNat_iff.mp hw2.1).2,fun x hx=>PySem.W.Codec.inInt_iff.mp (List.all_eq_true.mp hw2.2 x hx),ha⟩
theorem post_ints {prog:Program} {name:Str} {least most l2 m2:Nat} {lo hi lo2 hi2:Int} {asked:List Int→Bool} {f:List Int→List Int} {ns:List Int}
  (h:(PySem.W.OpenSpec.mk prog name [.list least most (.int lo hi)] (.list l2 m2 (.int lo2 hi2)) asked f).pre [PySem.W.WData.list (ns.map PySem.W.WData.int)]=true) :
  (PySem.W.OpenSpec.mk prog name [.list least most (.int lo hi)] (.list l2 m2 (.int lo2 hi2)) asked f).post [PySem.W.WData.list (ns.map PySem.W.WData.int)] (PySem.W.WData.list ((f ns).map PySem.W.WData.int))=true:=by
 obtain ⟨⟨ns',u⟩,e,ha⟩:=PySem.W.os_pre_some h
 obtain ⟨e2,hw⟩:=PySem.W.Codec.encAll_of_decAll _ _ _ e
 have e3:[PySem.W.WData.list (ns.map PySem.W.WData.int)]=[PySem.W.WData.list ((ns':List Int).map PySem.W.WData.int)]:=e2
 have e4:ns=ns':=by
  injection e3 with e5 _
  injection e5 with e6
  exact PySem.W.Codec.map_inj _ (fun a b q=>by injection q) _ _ e6
 subst e4
 refine PySem.W.os_post e ?_
 exact PySem.W.same_self _
end L2
namespace L2
open PySem PySem.Spec PyProof.Rows
structure Dn (K:PySem.W.Frag) (mg:Str→Option Value) (x:Str) (st:Stmt) (ps:List Str) (a:Addr) (fd:FuncData):Prop where
 fn:Fun K x x st a fd
 bd:Binds K fd ps []
 nm:mg x=some (.ref a)
structure Dm (K:PySem.W.Frag) (C:Addr) (m qual:Str) (st:Stmt) (ps:List Str) (a:Addr) (fd:FuncData):Prop where
 fn:Fun K m qual st a fd
 bd:Binds K fd ps []
 mt:Meth K C m a
def Gv (mg:Str→Option Value) (x:Str) (v:V):Prop:=∃ u,mg x=some u∧RelV v u
section
variable {X:Cx} {E:XK} {k j:Nat} {f C:Addr} {fd:FuncData} {ps:List Str} {sp:Sp} {st:Stmt} {x m qual:Str} {p pos apos:Pos} {e o:Expr} {es:List Expr} {ta:TE} {t:TA} {v:V}
theorem pe_gl (h:Gv X.mg x v) (hg:Gl X x:=by rfl) (hd:(x == ("__debug__":Str))=false:=by decide):PE X (.Name x pos) (tC v):=by
 obtain ⟨u,h1,h2⟩:=h
 exact pe_glob hg h1 h2 hd
theorem pc (D:Dn X.K X.mg x st ps f fd) (G:FnOk X.prog X.w X.K X.mg X.base (CXe X.prog X.w) k f fd ps sp) (hr:Room j X.A) (th:Throw X fun _=>E) (ha:PA X (e::es) t) (hk:k≤j:=by decide) (hg:Gl X x:=by rfl)
  (hdb:(x == ("__debug__":Str))=false:=by decide) (he:starEach (e::es) X.env=(false,eval e X.env)::starEach es X.env:=by rfl) (hpl:(backTo pos (starEach es X.env)).any (·.1)=false:=by rfl) :
  PE X (.Call (.Name x p) (e::es) [] pos) (tCall sp [] E t):=pe_call G (hr.mono hk) hg D.nm D.fn.kp D.bd .nil th.passes ha hdb he hpl
theorem pcS {ES:St→XK} (D:Dn X.K X.mg x st ps f fd) (G:FnOk X.prog X.w X.K X.mg X.base (CXe X.prog X.w) k f fd ps sp) (hr:Room j X.A) (th:Throw X ES) (ha:PA X (e::es) t) (hk:k≤j:=by decide) (hg:Gl X x:=by rfl)
  (hdb:(x == ("__debug__":Str))=false:=by decide) (he:starEach (e::es) X.env=(false,eval e X.env)::starEach es X.env:=by rfl) (hpl:(backTo pos (starEach es X.env)).any (·.1)=false:=by rfl) :
  PE X (.Call (.Name x p) (e::es) [] pos) (tCallS sp [] ES t):=pe_callS G (hr.mono hk) hg D.nm D.fn.kp D.bd .nil th ha hdb he hpl
theorem pm {pl:Sem Bool} (D:Dm X.K C m qual st ps f fd) (c:Cls X.K C) (G:FnOk X.prog X.w X.K X.mg X.base (CXe X.prog X.w) k f fd ps sp) (hr:Room j X.A) (th:Throw X fun _=>E) (he:PE X o ta) (ha:PA X (e::es) t) (hk:k≤j:=by decide)
  (hst:starEach (e::es) X.env=(false,eval e X.env)::starEach es X.env:=by rfl) (hpl:(backTo pos (starEach es X.env)).any (·.1)=false:=by rfl)
  (ht:eval (.Call (.Attribute o m apos) (e::es) [] pos) X.env=(do
   let ov ← eval o X.env
   standAt apos.atName
   let (f,first) ← holding [ov] (getMethod ov m pl)
   callWith pos f first (backTo pos (starEach (e::es) X.env)) (backToKw pos (keywordEach [] X.env))):=by rfl) :
  PE X (.Call (.Attribute o m apos) (e::es) [] pos) (tMeth C m sp [] E ta t):=pe_meth he c D.mt G (hr.mono hk) D.bd .nil th.passes ha hst hpl ht
theorem pm0 {pl:Sem Bool} (D:Dm X.K C m qual st ps f fd) (c:Cls X.K C) (G:FnOk X.prog X.w X.K X.mg X.base (CXe X.prog X.w) k f fd ps sp) (hr:Room j X.A) (th:Throw X fun _=>E) (he:PE X o ta) (hk:k≤j:=by decide)
  (ht:eval (.Call (.Attribute o m apos) [] [] pos) X.env=(do
   let ov ← eval o X.env
   standAt apos.atName
   let (f,first) ← holding [ov] (getMethod ov m pl)
   callWith pos f first (backTo pos (starEach [] X.env)) (backToKw pos (keywordEach [] X.env))):=by rfl) :
  PE X (.Call (.Attribute o m apos) [] [] pos) (tMeth C m sp [] E ta tNil):=pe_meth0 he c D.mt G (hr.mono hk) D.bd .nil th.passes ht
end
theorem pe_bits {X:Cx} {o:Expr} {to:TE} {apos cpos:Pos} (ho:PE X o to) (hbase:attributeBase o "bit_length" X.env (eval o X.env)=eval o X.env:=by rfl) (hline:(apos.endLine == cpos.line)=true:=by rfl) :
  PE X (.Call (.Attribute o "bit_length" apos) [] [] cpos) (fun σ H Q=>to σ H fun x H1=>∃ i,x=.int i∧Q (.int (PySem.Builtin.Int.intBits i)) H1):=by
 intro pins s σ H Q I h
 refine wpAny_Call_method0_late hbase hline (thn (ho pins s σ H _ I h) fun v s1 ⟨x,H1,I1,r1,i,e,q1⟩=>?_)
 subst e
 obtain ⟨t,rfl⟩:=r1
 exact ⟨"int","int.bit_length",PySem.F.plainAttrs_int,slot_int_bit_length,type_int_bit_length,typeIs_int _ _ _,(fun _ e=>nomatch e),Calls.callWith_builtin rfl (PySem.evalArgs_none (mt_bits pins s1 σ H1 (.int i) [] _ [] Q I1 ⟨t,rfl⟩ .nil ⟨i,rfl,rfl,q1⟩))⟩
end L2
namespace L2
open PySem PySem.Spec PyProof.Rows
inductive IntEnts:List DictEntry→List (Int × Int)→Prop
 | nil:IntEnts [] []
 | cons {k v:Int} {t u:Tok} {es:List DictEntry} {kvs:List (Int × Int)}:IntEnts es kvs→IntEnts (⟨hashInt k,.int k t,.int v u⟩::es) ((k,v)::kvs)
structure KInts (K:PySem.W.Frag) (L:Addr) (kvs:List (Int × Int)):Prop where
 obj:∃ es ep,K.lookup L=some { cls:=.type "dict",dict:=none,data:=.dict es ep,slots:=#[] }∧IntEnts es.toList kvs
 nd:(kvs.map (·.1)).Nodup
theorem IntEnts.find:∀ {es:List DictEntry} {kvs:List (Int × Int)},IntEnts es kvs→(∀ e∈es,∃ k:Key,keyIs k e.key=true∧∀ w:World,e.hash=keyH w k) ∧
  ∃ vs:List (Key × Value),(∀ (P:Program) (w:World),Pairs (mixKind P w) es vs)∧vs.map (·.1)=kvs.map (fun kv=>(Sum.inl kv.1:Key))∧∀ k v,kvs.lookup k=some v→∃ t,valueAt vs (Sum.inl k:Key)=some (.int v t)
 | _,_,.nil=>⟨(fun e he=>by cases he),[],(fun _ _=>Pairs.nil),rfl,(fun k v h=>by cases h)⟩
 | _,_,.cons (k:=k) (v:=v) (t:=t) (u:=u) r=>by
  obtain ⟨a,vs,b,c,d⟩:=r.find
  refine ⟨fun e he=>?_,((Sum.inl k:Key),.int v u)::vs,(fun P w=>Pairs.cons (keyIs_int k t) rfl (b P w)),by rw [List.map_cons,List.map_cons,c],fun k' v' h=>?_⟩
  ·rcases List.mem_cons.mp he with z | z
   ·subst z;exact ⟨Sum.inl k,keyIs_int k t,fun _=>rfl⟩
   ·exact a e z
  ·by_cases q:k'=k
   ·subst q
    rw [List.lookup_cons_self] at h
    cases h
    exact ⟨u,by simp [valueAt]⟩
   ·have hq:(k' == k)=false:=beq_eq_false_iff_ne.mpr q
    rw [List.lookup_cons,hq] at h
    obtain ⟨t',z⟩:=d k' v' h
    refine ⟨t',?_⟩
    have ne:¬ ((Sum.inl k:Key)=Sum.inl k'):=fun z=>q (Sum.inl.inj z).symm
    simp only [valueAt,List.find?_cons,decide_eq_false ne] at z ⊢
    exact z
theorem KInts.dict {K:PySem.W.Frag} {L:Addr} {kvs:List (Int × Int)} (D:KInts K L kvs) {P:Program} {w:World} {h:Heap} (X:K.In h):∃ vs:List (Key × Value),h.DictOf (mixKind P w) L vs∧∀ k v,kvs.lookup k=some v→∃ t,valueAt vs (Sum.inl k:Key)=some (.int v t):=by
 obtain ⟨es,ep,l,r⟩:=D.obj
 obtain ⟨a,vs,b,c,d⟩:=r.find
 refine ⟨vs,⟨_,es,ep,X _ _ l,⟨rfl,rfl,rfl⟩,rfl,fun e he=>?_,b P w,?_⟩,d⟩
 ·obtain ⟨k,h1,h2⟩:=a e (by simpa using he)
  exact ⟨k,h1,h2 w⟩
 ·rw [c]
  have e:kvs.map (fun kv=>(Sum.inl kv.1:Key))=(kvs.map (·.1)).map (fun k=>(Sum.inl k:Key)):=by rw [List.map_map];rfl
  rw [e]
  exact List.Pairwise.map (fun k=>(Sum.inl k:Key)) (fun a b h z=>h (Sum.inl.inj z)) D.nd
section
variable {X:Cx} {o i:Expr} {pos:Pos} {td ty:TE}
def tKGet (L:Addr) (kvs:List (Int × Int)) (td ty:TE):TE:=fun σ H Q=>td σ H fun x H1=>x=.ref L∧ty σ H1 fun y H2=>∃ k v,y=.int k∧kvs.lookup k=some v∧Q (.int v) H2
theorem pe_kget {L:Addr} {kvs:List (Int × Int)} (D:KInts X.K L kvs) (ho:PE X o td) (hi:PE X i ty) (hs:NoSl i):PE X (.Subscript o i pos) (tKGet L kvs td ty):=by
 intro pins s σ H Q I h
 refine subD_of PySem.F.slot_dict_getitem.lookup hs (thn (ho pins s σ H _ I h) fun u s1 ⟨x,H1,I1,rx,ex,q1⟩=>thn (hi pins s1 σ H1 _ I1 q1) fun iv s2 ⟨y,H2,I2,ry,k,v,ey,l,q2⟩=>?_)
 subst ex ey
 obtain rfl:u=Value.ref L:=rx
 obtain ⟨vs,dd,d⟩:=D.dict (P:=X.prog) (w:=X.w) I2.kIn
 obtain ⟨t,hv⟩:=d k v l
 exact ⟨dd.typeIs,wpAny_getItem_of (kV_is (k:=Sum.inl k) ry) dd.mapOf hv ⟨.int v,H2,I2.tok _,⟨t,rfl⟩,q2⟩⟩
end
end L2
set_option maxRecDepth 10000
namespace Fl
open Sn48
theorem two_pos (k:Nat):0 < 2 ^ k:=Nat.pos_of_ne_zero (by exact Nat.ne_of_gt (Nat.pow_pos (by decide)))
theorem pow_le {a b:Nat} (h:a≤b):2 ^ a≤2 ^ b:=Nat.pow_le_pow_right (by decide) h
theorem pow_lt {a b:Nat} (h:a < b):2 ^ a < 2 ^ b:=Nat.pow_lt_pow_right (by decide) h
theorem whole_eq (x:Nat):whole x=if x / 2 ^ 52 % 2048=0 then (x % 2 ^ 52,-1074) else (x % 2 ^ 52 + 2 ^ 52,((x / 2 ^ 52 % 2048:Nat):Int) - 1075):=rfl
theorem whole_lt (x:Nat):(whole x).1 < 2 ^ 53:=by
 rw [whole_eq]
 split <;> (dsimp only;lia)
theorem whole_ge (x:Nat):-1074≤(whole x).2:=by
 rw [whole_eq]
 split <;> (dsimp only;lia)
theorem finite_iff (x:Nat):finite x=true↔x / 2 ^ 52 % 2048≠2047:=by
 unfold finite
 simp
theorem finite_mod {x:Nat}:finite x=true↔x % 2 ^ 63 < 2047 * 2 ^ 52:=by
 rw [finite_iff]
 omega
theorem negative_iff (x:Nat):negative x=true↔2 ^ 63≤x:=by
 unfold negative
 simp
theorem negative_false (x:Nat):negative x=false↔x < 2 ^ 63:=by
 unfold negative
 simp
def mag (n:Nat):Nat:=if n / 2 ^ 52=0 then n else (n % 2 ^ 52 + 2 ^ 52) * 2 ^ (n / 2 ^ 52 - 1)
theorem mag_zero:mag 0=0:=rfl
theorem mag_lt {n m:Nat} (h:n < m):mag n < mag m:=by
 unfold mag
 by_cases hn:n / 2 ^ 52=0
 ·rw [if_pos hn]
  by_cases hm:m / 2 ^ 52=0
  ·rw [if_pos hm];exact h
  ·rw [if_neg hm]
   have h1:=two_pos (m / 2 ^ 52 - 1)
   have h2:(m % 2 ^ 52 + 2 ^ 52) * 1≤(m % 2 ^ 52 + 2 ^ 52) * 2 ^ (m / 2 ^ 52 - 1):=Nat.mul_le_mul_left _ h1
   lia
 ·rw [if_neg hn]
  have hm:¬ m / 2 ^ 52=0:=by lia
  rw [if_neg hm]
  by_cases e:n / 2 ^ 52=m / 2 ^ 52
  ·rw [e]
   exact Nat.mul_lt_mul_of_pos_right (by lia) (two_pos _)
  ·have h1:(n % 2 ^ 52 + 2 ^ 52) * 2 ^ (n / 2 ^ 52 - 1) < 2 ^ 53 * 2 ^ (n / 2 ^ 52 - 1):=Nat.mul_lt_mul_of_pos_right (by lia) (two_pos _)
   have h2:2 ^ 53 * 2 ^ (n / 2 ^ 52 - 1)=2 ^ 52 * 2 ^ (n / 2 ^ 52):=by
    rw [← Nat.pow_add,← Nat.pow_add]
    congr 1
    lia
   have h3:2 ^ 52 * 2 ^ (n / 2 ^ 52)≤2 ^ 52 * 2 ^ (m / 2 ^ 52 - 1):=Nat.mul_le_mul_left _ (pow_le (by lia))
   have h4:2 ^ 52 * 2 ^ (m / 2 ^ 52 - 1)≤(m % 2 ^ 52 + 2 ^ 52) * 2 ^ (m / 2 ^ 52 - 1):=Nat.mul_le_mul_right _ (by omega)
   lia
theorem mag_lt_iff {n m:Nat}:mag n < mag m↔n < m:=by
 constructor
 ·intro h
  rcases Nat.lt_trichotomy n m with q | q | q
  ·exact q
  ·subst q;lia
  ·have:=mag_lt q;lia
 ·exact mag_lt
theorem mag_pos {n:Nat} (h:0 < n):0 < mag n:=by
 have:=mag_lt h
 rw [mag_zero] at this
 exact this
theorem whole_mag (x:Nat):(whole x).1 * 2 ^ ((whole x).2 + 1074).toNat=mag (x % 2 ^ 63):=by
 rw [whole_eq]
 unfold mag
 have e:x / 2 ^ 52 % 2048=x % 2 ^ 63 / 2 ^ 52:=by omega
 have e2:x % 2 ^ 63 % 2 ^ 52=x % 2 ^ 52:=by lia
 by_cases h:x / 2 ^ 52 % 2048=0
 ·rw [if_pos h,if_pos (by lia)]
  dsimp only
  have:((-1074:Int) + 1074).toNat=0:=by decide
  rw [this]
  lia
 ·rw [if_neg h,if_neg (by lia)]
  dsimp only
  have:(((x / 2 ^ 52 % 2048:Nat):Int) - 1075 + 1074).toNat=x % 2 ^ 63 / 2 ^ 52 - 1:=by lia
  rw [this,e2]
theorem worth_eq (x:Nat):worth x=if 2 ^ 63≤x then -((mag (x % 2 ^ 63):Nat):Int) else ((mag (x % 2 ^ 63):Nat):Int):=by
 unfold worth
 rw [whole_mag]
 by_cases h:2 ^ 63≤x
 ·rw [if_pos ((negative_iff x).mpr h),if_pos h]
  lia
 ·rw [if_neg (fun q=>h ((negative_iff x).mp q)),if_neg h]
  lia
def key (x:Nat):Int:=if 2 ^ 63≤x then -((x - 2 ^ 63:Nat):Int) else (x:Int)
theorem below_key {x y:Nat} (hx:x < 2 ^ 64) (hy:y < 2 ^ 64):below x y=decide (key x < key y):=by
 unfold below
 rw [worth_eq,worth_eq]
 unfold key
 apply decide_eq_decide.mpr
 by_cases h1:2 ^ 63≤x
 ·rw [if_pos h1,if_pos h1]
  have ex:x % 2 ^ 63=x - 2 ^ 63:=by lia
  by_cases h2:2 ^ 63≤y
  ·have ey:y % 2 ^ 63=y - 2 ^ 63:=by lia
   rw [if_pos h2,if_pos h2,ex,ey]
   have:=@mag_lt_iff (y - 2 ^ 63) (x - 2 ^ 63)
   omega
  ·have ey:y % 2 ^ 63=y:=by lia
   rw [if_neg h2,if_neg h2,ex,ey]
   by_cases h3:x - 2 ^ 63=0
   ·by_cases h4:y=0
    ·rw [h3,h4,mag_zero]
    ·have:=mag_pos (Nat.pos_of_ne_zero h4)
     rw [h3,mag_zero]
     lia
   ·have:=mag_pos (Nat.pos_of_ne_zero h3)
    lia
 ·rw [if_neg h1,if_neg h1]
  have ex:x % 2 ^ 63=x:=by lia
  by_cases h2:2 ^ 63≤y
  ·have ey:y % 2 ^ 63=y - 2 ^ 63:=by lia
   rw [if_pos h2,if_pos h2,ex,ey]
   by_cases h3:y - 2 ^ 63=0
   ·rw [h3,mag_zero]
    have:=@mag_lt_iff x 0
    lia
   ·have:=mag_pos (Nat.pos_of_ne_zero h3)
    lia
  ·have ey:y % 2 ^ 63=y:=by lia
   rw [if_neg h2,if_neg h2,ex,ey]
   have:=@mag_lt_iff x y
   lia
def qOf (m:Nat) (e:Int):Int:=max (e + ((Nat.log2 m + 1:Nat):Int) - 53) (-1074)
def cut (m d:Nat) (more:Bool):Nat:=m / 2 ^ d + (if 2 ^ (d - 1) < m % 2 ^ d∨(m % 2 ^ d=2 ^ (d - 1)∧(more=true∨m / 2 ^ d % 2=1)) then 1 else 0)
def nOf (m:Nat) (e q:Int) (more:Bool):Nat:=if q≤e then m * 2 ^ (e - q).toNat else cut m (q - e).toNat more
theorem qOf_ge (m:Nat) (e:Int):-1074≤qOf m e:=Int.le_max_right _ _
theorem log2_lt (m:Nat):m < 2 ^ (Nat.log2 m + 1):=Nat.lt_log2_self
theorem log2_le {m:Nat} (h:m≠0):2 ^ Nat.log2 m≤m:=Nat.log2_self_le h
theorem cut_le (m d:Nat) (more:Bool) (k:Nat) (h:m < 2 ^ (k + d)):cut m d more≤2 ^ k:=by
 have h1:m / 2 ^ d < 2 ^ k:=by
  apply Nat.div_lt_of_lt_mul
  rw [← Nat.pow_add,Nat.add_comm]
  exact h
 unfold cut
 split <;> lia
theorem nOf_le {m:Nat} {e:Int} {more:Bool}:nOf m e (qOf m e) more≤2 ^ 53:=by
 unfold nOf
 have hm:=log2_lt m
 have hq:e + ((Nat.log2 m + 1:Nat):Int) - 53≤qOf m e:=Int.le_max_left _ _
 by_cases h:qOf m e≤e
 ·rw [if_pos h]
  have h1:m * 2 ^ (e - qOf m e).toNat < 2 ^ (Nat.log2 m + 1) * 2 ^ (e - qOf m e).toNat:=Nat.mul_lt_mul_of_pos_right hm (two_pos _)
  rw [← Nat.pow_add] at h1
  have h2:2 ^ (Nat.log2 m + 1 + (e - qOf m e).toNat)≤2 ^ 53:=pow_le (by lia)
  lia
 ·rw [if_neg h]
  exact cut_le _ _ _ _ (Nat.lt_of_lt_of_le hm (pow_le (by lia)))
theorem cut_ge (m d:Nat) (more:Bool) (k:Nat) (h:2 ^ (k + d)≤m):2 ^ k≤cut m d more:=by
 have h1:2 ^ k≤m / 2 ^ d:=by
  rw [Nat.le_div_iff_mul_le (two_pos _),← Nat.pow_add]
  exact h
 unfold cut
 lia
theorem nOf_ge {m:Nat} {e:Int} {more:Bool} (h0:m≠0) (hq:-1074 < qOf m e):2 ^ 52≤nOf m e (qOf m e) more:=by
 unfold nOf
 have hm:=log2_le h0
 have hq:e + ((Nat.log2 m + 1:Nat):Int) - 53=qOf m e:=by
  unfold qOf at hq ⊢
  lia
 by_cases h:qOf m e≤e
 ·rw [if_pos h]
  have h1:2 ^ Nat.log2 m * 2 ^ (e - qOf m e).toNat≤m * 2 ^ (e - qOf m e).toNat:=Nat.mul_le_mul_right _ hm
  rw [← Nat.pow_add] at h1
  have h2:2 ^ 52≤2 ^ (Nat.log2 m + (e - qOf m e).toNat):=pow_le (by lia)
  lia
 ·rw [if_neg h]
  exact cut_ge _ _ _ _ (Nat.le_trans (pow_le (by lia)) hm)
def bitsOf (m:Nat) (e:Int) (more:Bool):Nat:=(qOf m e + 1074).toNat * 2 ^ 52 + nOf m e (qOf m e) more
theorem rounded_raw (neg:Bool) (m:Nat) (e:Int) (more:Bool):rounded neg m e more=if m=0 then some (signBit neg) else
  (let p:Nat × Int:=if nOf m e (qOf m e) more=2 ^ 53 then (2 ^ 52,qOf m e + 1) else (nOf m e (qOf m e) more,qOf m e)
  if p.1 < 2 ^ 52 then some (signBit neg + p.1) else if 2047≤p.2 + 1075 then none else some (signBit neg + (p.2 + 1075).toNat * 2 ^ 52 + (p.1 - 2 ^ 52))):=by
 unfold rounded
 rfl
theorem rounded_eq (neg:Bool) (m:Nat) (e:Int) (more:Bool) :
  rounded neg m e more=if m=0 then some (signBit neg) else if bitsOf m e more < 2047 * 2 ^ 52 then some (signBit neg + bitsOf m e more) else none:=by
 rw [rounded_raw]
 by_cases h0:m=0
 ·rw [if_pos h0,if_pos h0]
 ·rw [if_neg h0,if_neg h0]
  have hle:nOf m e (qOf m e) more≤2 ^ 53:=nOf_le
  have hge:=qOf_ge m e
  have hn:-1074 < qOf m e→2 ^ 52≤nOf m e (qOf m e) more:=nOf_ge h0
  unfold bitsOf
  generalize nOf m e (qOf m e) more=n at *
  generalize qOf m e=q at *
  by_cases h1:n=2 ^ 53
  ·subst h1
   rw [if_pos rfl]
   dsimp only
   rw [if_neg (by decide)]
   by_cases h2:2047≤q + 1 + 1075
   ·rw [if_pos h2,if_neg (by lia)]
   ·rw [if_neg h2,if_pos (by lia)]
    have e:signBit neg + (q + 1 + 1075).toNat * 2 ^ 52 + (2 ^ 52 - 2 ^ 52)=signBit neg + ((q + 1074).toNat * 2 ^ 52 + 2 ^ 53):=by lia
    rw [e]
  ·rw [if_neg h1]
   dsimp only
   by_cases h3:n < 2 ^ 52
   ·rw [if_pos h3]
    have h4:q = -1074:=by
     rcases Int.lt_or_le (-1074) q with z | z
     ·have:=hn z;lia
     ·lia
    subst h4
    rw [if_pos (by lia)]
    congr 1
    lia
   ·rw [if_neg h3]
    by_cases h2:2047≤q + 1075
    ·rw [if_pos h2,if_neg (by lia)]
    ·rw [if_neg h2,if_pos (by lia)]
     have e:signBit neg + (q + 1075).toNat * 2 ^ 52 + (n - 2 ^ 52)=signBit neg + ((q + 1074).toNat * 2 ^ 52 + n):=by lia
     rw [e]
theorem signBit_true:signBit true=2 ^ 63:=rfl
theorem signBit_false:signBit false=0:=rfl
theorem signBit_cases (b:Bool):signBit b=0∨signBit b=2 ^ 63:=by cases b <;> decide
def Ok (x:Nat):Prop:=x < 2 ^ 64∧finite x=true
theorem ok_of {b:Bool} {n:Nat} (h:n < 2047 * 2 ^ 52):Ok (signBit b + n):=by
 have:=signBit_cases b
 refine ⟨by lia,?_⟩
 rw [finite_mod]
 lia
theorem rounded_ok {neg:Bool} {m:Nat} {e:Int} {more:Bool} {r:Nat} (h:rounded neg m e more=some r):Ok r:=by
 rw [rounded_eq] at h
 split at h
 ·cases h
  have:=ok_of (b:=neg) (n:=0) (by decide)
  simpa using this
 ·split at h
  ·cases h
   exact ok_of (by assumption)
  ·cases h
def part1 (x:Nat) (e:Int):Int:=(if negative x=true then -1 else 1) * (((whole x).1 * 2 ^ ((whole x).2 - e).toNat:Nat):Int)
def addE (x y:Nat):Int:=min (whole x).2 (whole y).2
def addS (x y:Nat):Int:=part1 x (addE x y) + part1 y (addE x y)
theorem add_eq (x y:Nat):add x y=if addS x y=0 then some (if negative x=true∧negative y=true then 2 ^ 63 else 0) else rounded (decide (addS x y < 0)) (addS x y).natAbs (addE x y) false:=rfl
theorem add_ok {x y r:Nat} (h:add x y=some r):Ok r:=by
 rw [add_eq] at h
 by_cases h1:addS x y=0
 ·rw [if_pos h1] at h
  by_cases h2:negative x=true∧negative y=true
  ·rw [if_pos h2] at h
   cases h
   exact ⟨by decide,by decide⟩
  ·rw [if_neg h2] at h
   cases h
   exact ⟨by decide,by decide⟩
 ·rw [if_neg h1] at h
  exact rounded_ok h
theorem mul_ok {x y r:Nat} (h:mul x y=some r):Ok r:=rounded_ok h
theorem div_ok {x y r:Nat} (h:div x y=some r):Ok r:=by
 unfold div at h
 dsimp only at h
 split at h
 ·cases h
 ·exact rounded_ok h
end Fl
set_option maxRecDepth 10000
namespace Fl
open Sn48
theorem log2_is {n k:Nat} (h1:2 ^ k≤n) (h2:n < 2 ^ (k + 1)):Nat.log2 n=k:=by
 have hn:n≠0:=by have:=two_pos k;lia
 exact (Nat.log2_eq_iff hn).mpr ⟨h1,h2⟩
theorem log2_mul {m:Nat} (h:m≠0) (k:Nat):Nat.log2 (m * 2 ^ k)=Nat.log2 m + k:=by
 apply log2_is
 ·rw [Nat.pow_add]
  exact Nat.mul_le_mul_right _ (log2_le h)
 ·rw [Nat.add_right_comm,Nat.pow_add]
  exact Nat.mul_lt_mul_of_pos_right (log2_lt m) (two_pos _)
theorem log2_div {m d:Nat} (h:m / 2 ^ d≠0):Nat.log2 m=Nat.log2 (m / 2 ^ d) + d:=by
 have h1:=log2_le h
 have h2:=log2_lt (m / 2 ^ d)
 apply log2_is
 ·rw [Nat.pow_add]
  exact Nat.le_trans (Nat.mul_le_mul_right _ h1) (Nat.div_mul_le_self _ _)
 ·rw [Nat.add_right_comm,Nat.pow_add]
  exact Nat.lt_mul_of_div_lt h2 (two_pos _)
theorem cut_cut {m' d d0:Nat} {more':Bool} (hd:1≤d0):cut (m' / 2 ^ d) d0 (more' || decide (m' % 2 ^ d≠0))=cut m' (d0 + d) more':=by
 unfold cut
 have e1:m' / 2 ^ d / 2 ^ d0=m' / 2 ^ (d0 + d):=by
  rw [Nat.div_div_eq_div_mul,← Nat.pow_add,Nat.add_comm]
 have e2:m' % 2 ^ (d0 + d)=2 ^ d * (m' / 2 ^ d % 2 ^ d0) + m' % 2 ^ d:=by
  rw [Nat.add_comm d0 d,Nat.pow_add,Nat.mod_mul]
  lia
 have e3:2 ^ (d0 + d - 1)=2 ^ d * 2 ^ (d0 - 1):=by
  rw [← Nat.pow_add]
  congr 1
  lia
 rw [e1,e2,e3]
 have hb:m' % 2 ^ d < 2 ^ d:=Nat.mod_lt _ (two_pos d)
 generalize m' / 2 ^ d % 2 ^ d0=a
 generalize m' % 2 ^ d=b at *
 generalize 2 ^ (d0 - 1)=H
 have hD:=two_pos d
 generalize 2 ^ d=D at *
 generalize m' / 2 ^ (d0 + d) % 2=o
 congr 1
 have key:(H < a∨(a=H∧((more' || decide (b≠0))=true∨o=1)))↔(D * H < D * a + b∨(D * a + b=D * H∧(more'=true∨o=1))):=by
  rw [Bool.or_eq_true,decide_eq_true_eq]
  rcases Nat.lt_trichotomy a H with h | h | h
  ·have h1:D * (a + 1)≤D * H:=Nat.mul_le_mul_left D h
   rw [Nat.mul_add,Nat.mul_one] at h1
   constructor
   ·rintro (q | ⟨q,_⟩) <;> lia
   ·rintro (q | ⟨q,_⟩) <;> lia
  ·subst h
   by_cases hb0:b=0
   ·subst hb0
    constructor
    ·rintro (q | ⟨q,z⟩)
     ·lia
     ·refine .inr ⟨by lia,?_⟩
      rcases z with (z | z) | z
      ·exact .inl z
      ·exact absurd rfl z
      ·exact .inr z
    ·rintro (q | ⟨q,z⟩)
     ·lia
     ·refine .inr ⟨rfl,?_⟩
      rcases z with z | z
      ·exact .inl (.inl z)
      ·exact .inr z
   ·constructor
    ·intro _;exact .inl (by lia)
    ·intro _;exact .inr ⟨rfl,.inl (.inr hb0)⟩
  ·have h1:D * (H + 1)≤D * a:=Nat.mul_le_mul_left D h
   rw [Nat.mul_add,Nat.mul_one] at h1
   constructor
   ·intro _;exact .inl (by lia)
   ·intro _;exact .inl h
 by_cases hc:H < a∨(a=H∧((more' || decide (b≠0))=true∨o=1))
 ·rw [if_pos hc,if_pos (key.mp hc)]
 ·rw [if_neg hc,if_neg (fun q=>hc (key.mpr q))]
theorem rounded_cut (neg:Bool) {m' d:Nat} (e:Int) (more':Bool) (h:2 ^ 53≤m' / 2 ^ d) :
  rounded neg (m' / 2 ^ d) (e + d) (more' || decide (m' % 2 ^ d≠0))=rounded neg m' e more':=by
 rw [rounded_eq,rounded_eq]
 have h0:m' / 2 ^ d≠0:=by have:=two_pos 53;lia
 have h0':m'≠0:=by intro z;rw [z,Nat.zero_div] at h0;exact h0 rfl
 rw [if_neg h0,if_neg h0']
 have hl:=log2_div h0
 have hq:qOf (m' / 2 ^ d) (e + d)=qOf m' e:=by
  unfold qOf
  rw [hl]
  congr 1
  lia
 have hb:bitsOf (m' / 2 ^ d) (e + d) (more' || decide (m' % 2 ^ d≠0))=bitsOf m' e more':=by
  unfold bitsOf
  rw [hq]
  congr 1
  have h53:53≤Nat.log2 (m' / 2 ^ d):=(Nat.le_log2 h0).mpr h
  have hge:e + ((Nat.log2 m' + 1:Nat):Int) - 53≤qOf m' e:=Int.le_max_left _ _
  unfold nOf
  rw [if_neg (by lia),if_neg (by lia)]
  have e4:(qOf m' e - e).toNat=(qOf m' e - (e + d)).toNat + d:=by lia
  rw [e4]
  exact cut_cut (by lia)
 rw [hb]
theorem rounded_sticky (neg:Bool) {m:Nat} (e:Int) (more:Bool) (h:2 ^ 53≤m):rounded neg (2 * m + (if more=true then 1 else 0)) (e - 1) false=rounded neg m e more:=by
 have e1:(2 * m + (if more=true then 1 else 0)) / 2 ^ 1=m:=by split <;> lia
 have e2:decide ((2 * m + (if more=true then 1 else 0)) % 2 ^ 1≠0)=more:=by
  cases more
  ·rw [if_neg (by decide)]
   apply decide_eq_false
   lia
  ·rw [if_pos rfl]
   apply decide_eq_true
   lia
 have:=rounded_cut neg (m':=2 * m + (if more=true then 1 else 0)) (d:=1) (e - 1) false (by rw [e1];exact h)
 rw [e1,e2,Bool.false_or] at this
 rw [← this]
 congr 1
 lia
theorem cut_zero_bits (m k d:Nat) (more:Bool) (hd:d≤k):cut (m * 2 ^ k) d more=m * 2 ^ (k - d):=by
 unfold cut
 have e:m * 2 ^ k=2 ^ d * (m * 2 ^ (k - d)):=by
  rw [Nat.mul_left_comm,← Nat.pow_add]
  congr 2
  lia
 rw [e,Nat.mul_mod_right,Nat.mul_div_cancel_left _ (two_pos d)]
 have h:=two_pos (d - 1)
 rw [if_neg (by lia)]
 lia
theorem cut_scale (m k d:Nat) (more:Bool) (hd:1≤d):cut (m * 2 ^ k) (d + k) more=cut m d more:=by
 have h:=cut_cut (m':=m * 2 ^ k) (d:=k) (d0:=d) (more':=more) hd
 rw [Nat.mul_div_cancel _ (two_pos k),Nat.mul_mod_left] at h
 rw [← h]
 simp
theorem rounded_scale (neg:Bool) (m k:Nat) (e:Int) (more:Bool):rounded neg (m * 2 ^ k) e more=rounded neg m (e + k) more:=by
 rw [rounded_eq,rounded_eq]
 by_cases h0:m=0
 ·subst h0
  rw [Nat.zero_mul,if_pos rfl]
  rfl
 ·have h1:m * 2 ^ k≠0:=Nat.mul_ne_zero h0 (by have:=two_pos k;lia)
  rw [if_neg h0,if_neg h1]
  have hq:qOf (m * 2 ^ k) e=qOf m (e + k):=by
   unfold qOf
   rw [log2_mul h0]
   congr 1
   lia
  have hb:bitsOf (m * 2 ^ k) e more=bitsOf m (e + k) more:=by
   unfold bitsOf
   rw [hq]
   congr 1
   generalize qOf m (e + k)=q
   unfold nOf
   by_cases c1:q≤e
   ·rw [if_pos c1,if_pos (by lia),Nat.mul_assoc,← Nat.pow_add]
    congr 2
    lia
   ·rw [if_neg c1]
    by_cases c2:q≤e + k
    ·rw [if_pos c2,cut_zero_bits _ _ _ _ (by lia)]
     congr 2
     lia
    ·rw [if_neg c2]
     have e4:(q - e).toNat=(q - (e + k)).toNat + k:=by lia
     rw [e4]
     exact cut_scale _ _ _ _ (by lia)
  rw [hb]
theorem quot_fine (a b k d:Nat):a * 2 ^ (k + d) / b / 2 ^ d=a * 2 ^ k / b:=by
 rw [Nat.div_div_eq_div_mul,Nat.pow_add,← Nat.mul_assoc,Nat.mul_div_mul_right _ _ (two_pos d)]
theorem quot_more {b:Nat} (a:Nat) (hb:0 < b) (k d:Nat):(decide (a * 2 ^ (k + d) % b≠0) || decide (a * 2 ^ (k + d) / b % 2 ^ d≠0))=decide (a * 2 ^ k % b≠0):=by
 have e1:=Nat.div_add_mod (a * 2 ^ k) b
 have e2:=Nat.div_add_mod (a * 2 ^ (k + d)) b
 have e3:=Nat.div_add_mod (a * 2 ^ (k + d) / b) (2 ^ d)
 have hD:=two_pos d
 have hm1:=Nat.mod_lt (a * 2 ^ k) hb
 rw [quot_fine] at e3
 have e4:a * 2 ^ (k + d)=a * 2 ^ k * 2 ^ d:=by rw [Nat.pow_add,Nat.mul_assoc]
 by_cases h:a * 2 ^ k % b=0
 ·have e5:a * 2 ^ (k + d) % b=0:=by
   rw [e4]
   rw [Nat.mul_mod,h,Nat.zero_mul,Nat.zero_mod]
  have e6:a * 2 ^ (k + d) / b % 2 ^ d=0:=by
   rw [e4]
   obtain ⟨c,hc⟩:=Nat.dvd_of_mod_eq_zero h
   rw [hc,Nat.mul_assoc,Nat.mul_div_cancel_left _ hb,Nat.mul_mod_left]
  rw [h,e5,e6]
  rfl
 ·rw [decide_eq_true h]
  by_cases h2:a * 2 ^ (k + d) % b=0
  ·by_cases h3:a * 2 ^ (k + d) / b % 2 ^ d=0
   ·exfalso
    apply h
    rw [h2,Nat.add_zero] at e2
    rw [h3,Nat.add_zero] at e3
    rw [← e3,e4] at e2
    have e5:b * (a * 2 ^ k / b) * 2 ^ d=a * 2 ^ k * 2 ^ d:=by rw [← e2];ac_rfl
    have e6:=Nat.eq_of_mul_eq_mul_right hD e5
    lia
   ·rw [decide_eq_true h3,Bool.or_true]
  ·rw [decide_eq_true h2,Bool.true_or]
def quot (neg:Bool) (a b:Nat) (e:Int) (k:Nat):Option Nat:=rounded neg (a * 2 ^ k / b) (e - k) (decide (a * 2 ^ k % b≠0))
theorem quot_up (neg:Bool) {a b:Nat} (e:Int) {k:Nat} (d:Nat) (hb:0 < b) (h:2 ^ 53≤a * 2 ^ k / b):quot neg a b e (k + d)=quot neg a b e k:=by
 unfold quot
 have:=rounded_cut neg (m':=a * 2 ^ (k + d) / b) (d:=d) (e - ((k + d:Nat):Int)) (decide (a * 2 ^ (k + d) % b≠0)) (by rw [quot_fine];exact h)
 rw [quot_fine,quot_more a hb] at this
 rw [← this]
 congr 1
 lia
theorem quot_any (neg:Bool) {a b:Nat} (e:Int) {k j:Nat} (hb:0 < b) (h1:2 ^ 53≤a * 2 ^ k / b) (h2:2 ^ 53≤a * 2 ^ j / b):quot neg a b e k=quot neg a b e j:=by
 rcases Nat.le_total k j with h | h
 ·obtain ⟨d,rfl⟩:=Nat.exists_eq_add_of_le h
  exact (quot_up neg e d hb h1).symm
 ·obtain ⟨d,rfl⟩:=Nat.exists_eq_add_of_le h
  exact quot_up neg e d hb h2
theorem quot_big {a b:Nat} (ha:a≠0) (hb:0 < b) (hb2:b < 2 ^ 53):2 ^ 53≤a * 2 ^ 120 / b:=by
 rw [Nat.le_div_iff_mul_le hb]
 have h1:2 ^ 53 * b≤2 ^ 53 * 2 ^ 53:=Nat.mul_le_mul_left _ (by lia)
 have h2:1 * 2 ^ 120≤a * 2 ^ 120:=Nat.mul_le_mul_right _ (Nat.pos_of_ne_zero ha)
 have h3:(2:Nat) ^ 53 * 2 ^ 53≤1 * 2 ^ 120:=by decide
 exact Nat.le_trans h1 (Nat.le_trans h3 h2)
theorem div_any {x y:Nat} (ha:(whole x).1≠0) (hb:(whole y).1≠0) {k:Nat} (h:2 ^ 53≤(whole x).1 * 2 ^ k / (whole y).1) :
  div x y=quot (negative x != negative y) (whole x).1 (whole y).1 ((whole x).2 - (whole y).2) k:=by
 have e:div x y=quot (negative x != negative y) (whole x).1 (whole y).1 ((whole x).2 - (whole y).2) 120:=by
  unfold div quot
  dsimp only
  rw [if_neg hb]
  have:((whole x).1 * 2 ^ 120 % (whole y).1 != 0)=decide ((whole x).1 * 2 ^ 120 % (whole y).1≠0):=by
   by_cases q:(whole x).1 * 2 ^ 120 % (whole y).1=0
   ·rw [q];rfl
   ·rw [decide_eq_true q]
    exact bne_iff_ne.mpr q
  rw [this]
  rfl
 rw [e]
 exact quot_any _ _ (Nat.pos_of_ne_zero hb) (quot_big ha (Nat.pos_of_ne_zero hb) (whole_lt y)) h
theorem div_zero_left {x y:Nat} (ha:(whole x).1=0) (hb:(whole y).1≠0):div x y=some (signBit (negative x != negative y)):=by
 unfold div
 dsimp only
 rw [if_neg hb,ha,Nat.zero_mul,Nat.zero_div]
 unfold rounded
 rfl
theorem div_by_zero {x y:Nat} (hb:(whole y).1=0):div x y=none:=by
 unfold div
 dsimp only
 rw [if_pos hb]
def IsRoot (m r:Nat):Prop:=r * r≤m∧m < (r + 1) * (r + 1)
theorem IsRoot.unique {m r r':Nat} (h:IsRoot m r) (h':IsRoot m r'):r=r':=by
 rcases Nat.lt_trichotomy r r' with q | q | q
 ·have:=Nat.mul_le_mul (show r + 1≤r' from q) (show r + 1≤r' from q)
  have a:=h.2
  have b:=h'.1
  lia
 ·exact q
 ·have:=Nat.mul_le_mul (show r' + 1≤r from q) (show r' + 1≤r from q)
  have a:=h'.2
  have b:=h.1
  lia
theorem rootFrom_ok:∀ (n lo hi m:Nat),lo * lo≤m→m < hi * hi→lo < hi→hi - lo≤2 ^ n→IsRoot m (rootFrom n lo hi m)
 | 0,lo,hi,m,h1,h2,h3,h4=>by
  have e:hi=lo + 1:=by
   have:(2:Nat) ^ 0=1:=rfl
   lia
  subst e
  exact ⟨h1,h2⟩
 | n + 1,lo,hi,m,h1,h2,h3,h4=>by
  unfold rootFrom
  by_cases c:hi≤lo + 1
  ·rw [if_pos c]
   have e:hi=lo + 1:=by lia
   subst e
   exact ⟨h1,h2⟩
  ·rw [if_neg c]
   dsimp only
   rw [Nat.pow_succ] at h4
   by_cases c2:(lo + hi) / 2 * ((lo + hi) / 2)≤m
   ·rw [if_pos c2]
    exact rootFrom_ok n _ _ m c2 h2 (by lia) (by lia)
   ·rw [if_neg c2]
    exact rootFrom_ok n _ _ m h1 (by lia) (by lia) (by lia)
theorem floorRoot_ok (m:Nat):IsRoot m (floorRoot m):=by
 unfold floorRoot
 apply rootFrom_ok
 ·lia
 ·have:(m + 1) * 1≤(m + 1) * (m + 1):=Nat.mul_le_mul_left _ (by lia)
  lia
 ·lia
 ·have h1:=log2_lt m
  have h2:2 ^ (Nat.log2 m + 1)≤2 ^ (2 * Nat.log2 m + 4):=pow_le (by lia)
  lia
theorem isRoot_fine {x r' d:Nat} (h:IsRoot (x * 2 ^ (2 * d)) r'):IsRoot x (r' / 2 ^ d):=by
 have hD:=two_pos d
 have e:2 ^ (2 * d)=2 ^ d * 2 ^ d:=by rw [← Nat.pow_add];congr 1;lia
 rw [e] at h
 obtain ⟨h1,h2⟩:=h
 have a:=Nat.div_mul_le_self r' (2 ^ d)
 have b:r' < (r' / 2 ^ d + 1) * 2 ^ d:=by
  have:=Nat.lt_mul_div_succ r' hD
  rw [Nat.mul_comm]
  exact this
 generalize r' / 2 ^ d=r at *
 generalize 2 ^ d=D at *
 constructor
 ·have c:=Nat.le_trans (Nat.mul_le_mul a a) h1
  have e2:r * D * (r * D)=r * r * (D * D):=by ac_rfl
  rw [e2] at c
  exact Nat.le_of_mul_le_mul_right c (Nat.mul_pos hD hD)
 ·have c:=Nat.lt_of_lt_of_le h2 (Nat.mul_le_mul (show r' + 1≤(r + 1) * D from b) (show r' + 1≤(r + 1) * D from b))
  have e2:(r + 1) * D * ((r + 1) * D)=(r + 1) * (r + 1) * (D * D):=by ac_rfl
  rw [e2] at c
  exact Nat.lt_of_mul_lt_mul_right c
theorem root_more {x r' d:Nat} (h:IsRoot (x * 2 ^ (2 * d)) r'):(decide (r' * r'≠x * 2 ^ (2 * d)) || decide (r' % 2 ^ d≠0))=decide (r' / 2 ^ d * (r' / 2 ^ d)≠x):=by
 have hD:=two_pos d
 have hr:=isRoot_fine h
 have e:2 ^ (2 * d)=2 ^ d * 2 ^ d:=by rw [← Nat.pow_add];congr 1;lia
 have e3:=Nat.div_add_mod r' (2 ^ d)
 by_cases q:r' / 2 ^ d * (r' / 2 ^ d)=x
 ·have h3:IsRoot (x * 2 ^ (2 * d)) (2 ^ d * (r' / 2 ^ d)):=by
   have e4:2 ^ d * (r' / 2 ^ d) * (2 ^ d * (r' / 2 ^ d))=x * 2 ^ (2 * d):=by
    rw [e,← q];ac_rfl
   constructor
   ·exact Nat.le_of_eq e4
   ·rw [← e4]
    exact Nat.mul_lt_mul_of_lt_of_lt (by lia) (by lia)
  have e5:=h.unique h3
  have e6:r' % 2 ^ d=0:=by lia
  have e7:r' * r'=x * 2 ^ (2 * d):=by
   rw [e5,e,← q]
   have e8:2 ^ d * (r' / 2 ^ d) / 2 ^ d=r' / 2 ^ d:=Nat.mul_div_cancel_left _ hD
   first | ac_rfl | (rw [e8];ac_rfl)
  rw [decide_eq_false (fun z=>z e7),decide_eq_false (fun z=>z e6),decide_eq_false (fun z=>z q)]
  rfl
 ·rw [decide_eq_true q]
  by_cases q1:r' * r'=x * 2 ^ (2 * d)
  ·by_cases q2:r' % 2 ^ d=0
   ·exfalso
    apply q
    rw [q2,Nat.add_zero] at e3
    rw [e,← e3] at q1
    have e8:r' / 2 ^ d * (r' / 2 ^ d) * (2 ^ d * 2 ^ d)=x * (2 ^ d * 2 ^ d):=by
     rw [← q1,e3]
     have:2 ^ d * (r' / 2 ^ d) * (2 ^ d * (r' / 2 ^ d))=r' / 2 ^ d * (r' / 2 ^ d) * (2 ^ d * 2 ^ d):=by ac_rfl
     rw [← this,e3]
    exact Nat.eq_of_mul_eq_mul_right (Nat.mul_pos hD hD) e8
   ·rw [decide_eq_true q2,Bool.or_true]
  ·rw [decide_eq_true q1,Bool.true_or]
def rootAt (m:Nat) (e:Int) (r:Nat):Option Nat:=rounded false r e (decide (r * r≠m))
theorem rootAt_up {m r r':Nat} {e:Int} (d:Nat) (h:IsRoot m r) (h':IsRoot (m * 2 ^ (2 * d)) r') (hr:2 ^ 53≤r):rootAt (m * 2 ^ (2 * d)) (e - d) r'=rootAt m e r:=by
 have e1:r' / 2 ^ d=r:=(isRoot_fine h').unique h
 unfold rootAt
 have:=rounded_cut false (m':=r') (d:=d) (e - d) (decide (r' * r'≠m * 2 ^ (2 * d))) (by rw [e1];exact hr)
 rw [root_more h',e1] at this
 rw [← this]
 congr 1
 lia
theorem root_neg {x:Nat} (h0:(whole x).1≠0) (hn:negative x=true):root x=none:=by
 unfold root
 dsimp only
 rw [if_neg h0,if_pos hn]
theorem root_zero {x:Nat} (h0:(whole x).1=0):root x=some x:=by
 unfold root
 dsimp only
 rw [if_pos h0]
theorem root_eq {x:Nat} (h0:(whole x).1≠0) (hn:negative x=false) (k:Nat) (hk:k=if (whole x).2 % 2=0 then 120 else 121):root x=rootAt ((whole x).1 * 2 ^ k) (((whole x).2 - (k:Int)) / 2) (floorRoot ((whole x).1 * 2 ^ k)):=by
 subst hk
 unfold root rootAt
 dsimp only
 rw [if_neg h0,hn,if_neg (by decide)]
 generalize floorRoot ((whole x).1 * 2 ^ (if (whole x).2 % 2=0 then 120 else 121))=r
 congr 1
 by_cases q:r * r=(whole x).1 * 2 ^ (if (whole x).2 % 2=0 then 120 else 121)
 ·rw [q]
  rw [decide_eq_false (fun z=>z rfl)]
  exact bne_self_eq_false _
 ·rw [decide_eq_true q]
  exact bne_iff_ne.mpr q
theorem root_any {x:Nat} (h0:(whole x).1≠0) (hn:negative x=false) {k:Nat} {r:Nat} (hp:((whole x).2 - (k:Int)) % 2=0) (hr:IsRoot ((whole x).1 * 2 ^ k) r) (hb:2 ^ 53≤r) :
  root x=rootAt ((whole x).1 * 2 ^ k) (((whole x).2 - (k:Int)) / 2) r:=by
 obtain ⟨j,hj,hj2,hj3⟩:∃ j:Nat,j=(if (whole x).2 % 2=0 then 120 else 121)∧120≤j∧((whole x).2 - (j:Int)) % 2=0:=by
  by_cases q:(whole x).2 % 2=0
  ·exact ⟨120,by rw [if_pos q],by lia,by lia⟩
  ·exact ⟨121,by rw [if_neg q],by lia,by lia⟩
 rw [root_eq h0 hn j hj]
 have hR:=floorRoot_ok ((whole x).1 * 2 ^ j)
 have hbig:2 ^ 53≤floorRoot ((whole x).1 * 2 ^ j):=by
  have h1:(2 ^ 53) * (2 ^ 53)≤(whole x).1 * 2 ^ j:=by
   have h2:1 * 2 ^ j≤(whole x).1 * 2 ^ j:=Nat.mul_le_mul_right _ (Nat.pos_of_ne_zero h0)
   have h3:2 ^ 120≤2 ^ j:=pow_le hj2
   have h4:(2:Nat) ^ 53 * 2 ^ 53≤2 ^ 120:=by decide
   lia
  rcases Nat.lt_or_ge (floorRoot ((whole x).1 * 2 ^ j)) (2 ^ 53) with q | q
  ·exfalso
   have h5:=Nat.mul_le_mul (show floorRoot ((whole x).1 * 2 ^ j) + 1≤2 ^ 53 from q) (show floorRoot ((whole x).1 * 2 ^ j) + 1≤2 ^ 53 from q)
   have:=hR.2
   lia
  ·exact q
 have pw:∀ a d:Nat,(whole x).1 * 2 ^ (a + 2 * d)=(whole x).1 * 2 ^ a * 2 ^ (2 * d):=fun a d=>by rw [Nat.pow_add,Nat.mul_assoc]
 rcases Nat.le_total k j with h | h
 ·obtain ⟨d,hd⟩:∃ d,j=k + 2 * d:=⟨(j - k) / 2,by lia⟩
  subst hd
  rw [pw] at hR ⊢
  have:=rootAt_up (e:=((whole x).2 - (k:Int)) / 2) d hr hR hb
  rw [← this]
  congr 1
  lia
 ·obtain ⟨d,hd⟩:∃ d,k=j + 2 * d:=⟨(k - j) / 2,by lia⟩
  subst hd
  rw [pw] at hr ⊢
  have:=rootAt_up (e:=((whole x).2 - (j:Int)) / 2) d hR hr hbig
  rw [← this]
  congr 1
  lia
end Fl
set_option maxRecDepth 10000
namespace Fl
open Sn48
theorem whole_id (c:List (List Int)):PySn48.whole c=c:=by
 rcases c with _ | ⟨h,t⟩
 ·rfl
 rcases h with _ | ⟨a,r⟩
 ·rfl
 rcases a with n | n
 ·rcases n with _ | _ | _ | _ | _ | _ | n
  ·rcases r with _ | ⟨_,_ | ⟨_,_ | _⟩⟩ <;> first | rfl | (cases t <;> rfl)
  ·rcases r with _ | ⟨_,_ | ⟨_,_ | ⟨_,_ | ⟨_,_ | ⟨_,_ | ⟨_,_ | ⟨_,_ | _⟩⟩⟩⟩⟩⟩⟩ <;> first | rfl | (cases t <;> rfl)
  ·rcases r with _ | ⟨_,_ | ⟨_,_ | ⟨_,_ | ⟨_,_ | ⟨_,_ | ⟨_,_ | ⟨_,_ | ⟨_,_ | _⟩⟩⟩⟩⟩⟩⟩⟩ <;> first | rfl | (cases t <;> rfl)
  ·rcases r with _ | ⟨_,_ | ⟨_,_ | _⟩⟩ <;> first | rfl | (cases t <;> rfl)
  ·rcases r with _ | ⟨_,_ | _⟩ <;> first | rfl | (cases t <;> rfl)
  ·rcases r with _ | _ <;> first | rfl | (cases t <;> rfl)
  ·rfl
 ·rfl
theorem map_whole (cs:List (List (List Int))):cs.map PySn48.whole=cs:=by
 induction cs with
 | nil=>rfl
 | cons c r ih=>rw [List.map_cons,ih,whole_id]
def many (p:Int):Option Nat:=if p=0 then some 2 else if p=1 then some 7 else if p=2 then some 8 else if p=3 then some 2 else if p=4 then some 1 else if p=5 then some 0 else none
theorem shape_many (p:Int):PySn48.shape p=(many p).map fun n=>(n,0):=by
 unfold PySn48.shape many
 repeat' split
 all_goals rfl
theorem call_eq (p:Int) (r:List Int):PyFlat.call PySn48.shape (p::r)=(many p).bind fun n=>if r.length < n then none else some ([p::r.take n],r.drop n):=by
 unfold PyFlat.call
 dsimp only
 rw [shape_many]
 cases many p with
 | none=>rfl
 | some n=>rfl
theorem calls_fuel:∀ (f:Nat) (l:List Int),l.length≤f→PyFlat.calls PySn48.shape f l=PyFlat.calls PySn48.shape l.length l
 | f,[],_=>by
  unfold PyFlat.calls
  rfl
 | 0,p::r,h=>by simp at h
 | f + 1,p::r,h=>by
  have e:(p::r).length=r.length + 1:=rfl
  rw [e]
  unfold PyFlat.calls
  rw [call_eq]
  cases many p with
  | none=>rfl
  | some n =>
   dsimp only [Option.bind_some]
   by_cases c:r.length < n
   ·rw [if_pos c]
   ·rw [if_neg c]
    dsimp only
    have h1:(r.drop n).length≤f:=by rw [List.length_drop];simp at h;lia
    have h2:(r.drop n).length≤r.length:=by rw [List.length_drop];lia
    rw [calls_fuel f _ h1,calls_fuel r.length _ h2]
def parse (l:List Int):Option (List (List (List Int))):=PyFlat.calls PySn48.shape l.length l
theorem parse_nil:parse []=some []:=rfl
theorem parse_cons (p:Int) (r:List Int):parse (p::r)=(many p).bind fun n=>if r.length < n then none else (parse (r.drop n)).map fun cs=>[p::r.take n]::cs:=by
 have e:(p::r).length=r.length + 1:=rfl
 unfold parse
 rw [e]
 conv=>lhs;unfold PyFlat.calls
 rw [call_eq]
 cases many p with
 | none=>rfl
 | some n =>
  dsimp only [Option.bind_some]
  by_cases c:r.length < n
  ·rw [if_pos c,if_pos c]
  ·rw [if_neg c,if_neg c]
   dsimp only
   have h2:(r.drop n).length≤r.length:=by rw [List.length_drop];lia
   rw [calls_fuel r.length _ h2]
   cases PyFlat.calls PySn48.shape (r.drop n).length (r.drop n) with
   | none=>rfl
   | some cs=>rfl
def due (s:Sn48.St) (l:List Int):List Int:=match parse l with
 | none=>[]
 | some cs=>PyFlat.told (PyFlat.played Sn48Neutral.step s cs)
def Fine (s:Sn48.St) (l:List Int):Prop:=∃ cs,parse l=some cs∧Sn48Neutral.fine s cs=true
theorem due_nil (s:Sn48.St):due s []=[]:=rfl
theorem fine_cons {s:Sn48.St} {p:Int} {r:List Int} (h:Fine s (p::r)):∃ n,many p=some n∧n≤r.length∧Sn48Neutral.asked1 [p::r.take n]=true ∧
  Fine (Sn48Neutral.step s [p::r.take n]).1 (r.drop n) ∧
  due s (p::r)=((Sn48Neutral.step s [p::r.take n]).2.length:Int)::(Sn48Neutral.step s [p::r.take n]).2++due (Sn48Neutral.step s [p::r.take n]).1 (r.drop n):=by
 obtain ⟨cs,h1,h2⟩:=h
 unfold due
 rw [h1]
 rw [parse_cons] at h1
 cases hm:many p with
 | none=>rw [hm] at h1;cases h1
 | some n =>
  rw [hm] at h1
  dsimp only [Option.bind_some] at h1
  by_cases c:r.length < n
  ·rw [if_pos c] at h1;cases h1
  ·rw [if_neg c] at h1
   cases hp:parse (r.drop n) with
   | none=>rw [hp] at h1;cases h1
   | some ds =>
    rw [hp] at h1
    have e:cs=[p::r.take n]::ds:=(Option.some.inj h1).symm
    subst e
    have h3:(Sn48Neutral.asked1 [p::r.take n] && Sn48Neutral.fine (Sn48Neutral.step s [p::r.take n]).1 ds)=true:=h2
    rw [Bool.and_eq_true] at h3
    refine ⟨n,rfl,by lia,h3.1,⟨ds,hp,h3.2⟩,?_⟩
    rw [hp]
    rfl
theorem answers_due (l:List Int):PySn48.answers l=due none l:=by
 unfold PySn48.answers PySn48.calls due
 show (match (match parse l with | none=>none | some cs=>some (cs.map PySn48.whole)) with | none=>[] | some cs=>PyFlat.told (PyFlat.played Sn48Neutral.step Sn48Neutral.start cs))=_
 cases parse l with
 | none=>rfl
 | some cs =>
  dsimp only
  rw [map_whole]
  rfl
theorem asked_fine {l:List Int} (h:PySn48.answers_asked l=true):Fine none l∧∃ t e r,l=0::t::e::r∧(Sn48Neutral.step none [[0,t,e]]).2=[0]:=by
 have h':(match (match parse l with | none=>none | some cs=>some (cs.map PySn48.whole)) with | none=>false | some cs=>PyFlat.atMost 400 cs && Sn48Neutral.asked cs)=true:=h
 cases hp:parse l with
 | none=>rw [hp] at h';cases h'
 | some cs =>
  rw [hp] at h'
  dsimp only at h'
  rw [map_whole,Bool.and_eq_true] at h'
  have h2:=h'.2
  unfold Sn48Neutral.asked at h2
  rw [Bool.and_eq_true,Bool.and_eq_true,Bool.and_eq_true] at h2
  obtain ⟨⟨_,h3⟩,h4,_⟩:=h2
  refine ⟨⟨cs,hp,h4⟩,?_⟩
  cases l with
  | nil =>
   rw [parse_nil] at hp
   cases hp
   cases h3
  | cons p r =>
   obtain ⟨n,hm,hn,ha,_,_⟩:=fine_cons (s:=none) (p:=p) (r:=r) ⟨cs,hp,h4⟩
   rw [parse_cons,hm] at hp
   dsimp only [Option.bind_some] at hp
   rw [if_neg (by lia)] at hp
   cases hq:parse (r.drop n) with
   | none=>rw [hq] at hp;cases hp
   | some ds =>
    rw [hq] at hp
    have e:cs=[p::r.take n]::ds:=(Option.some.inj hp).symm
    subst e
    by_cases hp0:p=0
    ·subst hp0
     have hn2:n=2:=by
      unfold many at hm
      rw [if_pos rfl] at hm
      exact (Option.some.inj hm).symm
     subst hn2
     match r,hn with
     | t::e::r',_ =>
      refine ⟨t,e,r',rfl,?_⟩
      exact eq_of_beq h3
    ·exfalso
     split at h3
     ·rename_i heq
      injection heq with e1 _
      injection e1 with e2 _
      injection e2 with e3 _
      exact hp0 e3
     ·cases h3
theorem nat64 {z:Int} (h:Sn48Neutral.natural z 64=true):0≤z∧z < 2 ^ 64:=by
 unfold Sn48Neutral.natural at h
 rw [Bool.and_eq_true,decide_eq_true_eq,decide_eq_true_eq] at h
 exact h
end Fl
set_option maxRecDepth 10000
namespace Fl
open Sn48
theorem mapM_nil {α β:Type} (f:α→Option β):([]:List α).mapM f=some []:=rfl
theorem mapM_cons {α β:Type} (f:α→Option β) (a:α) (l:List α):(a::l).mapM f=(f a).bind fun b=>(l.mapM f).map fun bs=>b::bs:=by
 rw [List.mapM_cons]
 cases f a with
 | none=>rfl
 | some b =>
  show ((l.mapM f).bind fun bs=>some (b::bs))=_
  cases l.mapM f <;> rfl
theorem mapM_length {α β:Type} {f:α→Option β}:∀ {l:List α} {r:List β},l.mapM f=some r→r.length=l.length
 | [],r,h=>by cases h;rfl
 | a::l,r,h=>by
  rw [mapM_cons] at h
  cases ha:f a with
  | none=>rw [ha] at h;cases h
  | some b =>
   rw [ha] at h
   cases hl:l.mapM f with
   | none=>rw [hl] at h;cases h
   | some bs =>
    rw [hl] at h
    cases h
    rw [List.length_cons,List.length_cons,mapM_length hl]
theorem mapM_mem {α β:Type} {f:α→Option β}:∀ {l:List α} {r:List β},l.mapM f=some r→∀ y∈r,∃ x∈l,f x=some y
 | [],r,h,y,hy=>by cases h;cases hy
 | a::l,r,h,y,hy=>by
  rw [mapM_cons] at h
  cases ha:f a with
  | none=>rw [ha] at h;cases h
  | some b =>
   rw [ha] at h
   cases hl:l.mapM f with
   | none=>rw [hl] at h;cases h
   | some bs =>
    rw [hl] at h
    cases h
    rcases List.mem_cons.mp hy with e | e
    ·subst e;exact ⟨a,List.mem_cons_self,ha⟩
    ·obtain ⟨x,hx,hf⟩:=mapM_mem hl y e
     exact ⟨x,List.mem_cons_of_mem _ hx,hf⟩
theorem foldlM_cons {α β:Type} (f:β→α→Option β) (b:β) (a:α) (l:List α):(a::l).foldlM f b=(f b a).bind fun c=>l.foldlM f c:=by
 rw [List.foldlM_cons]
 rfl
theorem foldlM_append {α β:Type} (f:β→α→Option β) (b:β) (l r:List α):(l++r).foldlM f b=(l.foldlM f b).bind fun c=>r.foldlM f c:=by
 rw [List.foldlM_append]
 rfl
theorem mapM_append {α β:Type} (f:α→Option β) (l r:List α):(l++r).mapM f=(l.mapM f).bind fun a=>(r.mapM f).map fun b=>a++b:=by
 induction l with
 | nil =>
  rw [mapM_nil,List.nil_append]
  cases r.mapM f <;> rfl
 | cons x l ih =>
  rw [List.cons_append,mapM_cons,mapM_cons,ih]
  cases f x with
  | none=>rfl
  | some b =>
   cases l.mapM f with
   | none=>rfl
   | some bs =>
    cases r.mapM f <;> rfl
structure POk (p:P):Prop where
 x:Ok p.x
 y:Ok p.y
 z:Ok p.z
structure BodyOk (b:Body):Prop where
 m:Ok b.m
 pos:0 < b.m∧b.m < 2 ^ 63
 at_:POk b.at_
 v:POk b.v
structure WOk (w:World):Prop where
 far:Ok w.far
 soft:Ok w.soft
 farP:w.far≤2 ^ 63
 softP:w.soft≤2 ^ 63
 bodies:∀ b∈w.bodies,BodyOk b
 most:w.bodies.length≤4096
theorem both_ok {f:F→F→Option F} (hf:∀ a b r,f a b=some r→Ok r) {p q r:P} (h:p.both f q=some r):POk r:=by
 unfold P.both at h
 cases h1:f p.x q.x with
 | none=>rw [h1] at h;cases h
 | some a =>
  rw [h1] at h
  dsimp only [Option.bind_some] at h
  cases h2:f p.y q.y with
  | none=>rw [h2] at h;cases h
  | some b =>
   rw [h2] at h
   dsimp only [Option.bind_some] at h
   cases h3:f p.z q.z with
   | none=>rw [h3] at h;cases h
   | some c =>
    rw [h3] at h
    cases h
    exact ⟨hf _ _ _ h1,hf _ _ _ h2,hf _ _ _ h3⟩
theorem plus_ok {p q r:P} (h:plus p q=some r):POk r:=both_ok (fun _ _ _=>add_ok) h
theorem parted_ok {k:F} {p r:P} (h:parted p k=some r):POk r:=both_ok (f:=fun a _=>div a k) (p:=p) (q:=p) (fun _ _ _=>div_ok) h
theorem pushed_ok {k:F} {b r:Body} {a:P} (hb:BodyOk b) (h:pushed k b a=some r):BodyOk r:=by
 unfold pushed at h
 cases h1:times k a with
 | none=>rw [h1] at h;cases h
 | some u =>
  rw [h1] at h
  dsimp only [Option.bind_some] at h
  cases h2:plus b.v u with
  | none=>rw [h2] at h;cases h
  | some v =>
   rw [h2] at h
   cases h
   exact ⟨hb.m,hb.pos,hb.at_,plus_ok h2⟩
theorem drifted_ok {k:F} {b r:Body} (hb:BodyOk b) (h:drifted k b=some r):BodyOk r:=by
 unfold drifted at h
 cases h1:times k b.v with
 | none=>rw [h1] at h;cases h
 | some u =>
  rw [h1] at h
  dsimp only [Option.bind_some] at h
  cases h2:plus b.at_ u with
  | none=>rw [h2] at h;cases h
  | some v =>
   rw [h2] at h
   cases h
   exact ⟨hb.m,hb.pos,plus_ok h2,hb.v⟩
theorem pulls_length {w:World} {as:List P} (h:pulls w=some as):as.length=w.bodies.length:=by
 unfold pulls at h
 cases hb:w.bodies with
 | nil =>
  rw [hb] at h
  cases h
  rfl
 | cons b r =>
  rw [hb] at h
  dsimp only at h
  rw [← hb] at h ⊢
  cases ht:tree w.bodies with
  | none=>rw [ht] at h;cases h
  | some t =>
   rw [ht] at h
   have:=mapM_length h
   rw [this,List.length_range]
theorem step1_ok {dt:F} {w u:World} (hw:WOk w) (h:step1 dt w=some u):WOk u∧u.bodies.length=w.bodies.length∧u.far=w.far∧u.soft=w.soft:=by
 unfold step1 at h
 cases h1:mul dt HALF with
 | none=>rw [h1] at h;cases h
 | some k =>
  rw [h1] at h
  dsimp only [Option.bind_some] at h
  cases h2:pulls w with
  | none=>rw [h2] at h;cases h
  | some as =>
   rw [h2] at h
   dsimp only [Option.bind_some] at h
   cases h3:(w.bodies.zip as).mapM fun (x:Body × P)=>(pushed k x.1 x.2).bind fun b=>drifted dt b with
   | none=>rw [h3] at h;cases h
   | some bs =>
    rw [h3] at h
    dsimp only [Option.bind_some] at h
    cases h4:pulls { w with bodies:=bs } with
    | none=>rw [h4] at h;cases h
    | some cs =>
     rw [h4] at h
     dsimp only [Option.bind_some] at h
     cases h5:(bs.zip cs).mapM fun (x:Body × P)=>pushed k x.1 x.2 with
     | none=>rw [h5] at h;cases h
     | some l =>
      rw [h5] at h
      cases h
      have l1:=pulls_length h2
      have l2:bs.length=w.bodies.length:=by
       have:=mapM_length h3
       rw [this,List.length_zip]
       lia
      have l3:cs.length=bs.length:=pulls_length h4
      have l4:l.length=w.bodies.length:=by
       have:=mapM_length h5
       rw [this,List.length_zip]
       lia
      have ob:∀ b∈bs,BodyOk b:=fun b hb=>by
       obtain ⟨⟨x,a⟩,hx,hf⟩:=mapM_mem h3 b hb
       have hx1:=hw.bodies x (List.of_mem_zip hx).1
       dsimp only at hf
       cases hp:pushed k x a with
       | none=>rw [hp] at hf;cases hf
       | some y =>
        rw [hp] at hf
        exact drifted_ok (pushed_ok hx1 hp) hf
      refine ⟨⟨hw.far,hw.soft,hw.farP,hw.softP,fun b hb=>?_,?_⟩,l4,rfl,rfl⟩
      ·obtain ⟨⟨x,a⟩,hx,hf⟩:=mapM_mem h5 b hb
       exact pushed_ok (ob x (List.of_mem_zip hx).1) hf
      ·have:=hw.most
       show l.length≤4096
       lia
theorem steps_ok {dt:F}:∀ {n:Nat} {w u:World},WOk w→steps dt n w=some u→WOk u∧u.bodies.length=w.bodies.length
 | 0,w,u,hw,h=>by cases h;exact ⟨hw,rfl⟩
 | n + 1,w,u,hw,h=>by
  unfold steps at h
  cases h1:step1 dt w with
  | none=>rw [h1] at h;cases h
  | some v =>
   rw [h1] at h
   obtain ⟨a,b,_⟩:=step1_ok hw h1
   obtain ⟨c,d⟩:=steps_ok a h
   exact ⟨c,d.trans b⟩
theorem key_zero:key 0=0:=rfl
theorem below_zero {t:Nat} (ht:t < 2 ^ 64):below t 0=decide (2 ^ 63 < t):=by
 rw [below_key ht (by decide),key_zero]
 unfold key
 apply decide_eq_decide.mpr
 by_cases q:2 ^ 63≤t
 ·rw [if_pos q];lia
 ·rw [if_neg q];lia
theorem above_zero {m:Nat} (hm:m < 2 ^ 64):below 0 m=decide (0 < m∧m < 2 ^ 63):=by
 rw [below_key (by decide) hm,key_zero]
 unfold key
 apply decide_eq_decide.mpr
 by_cases q:2 ^ 63≤m
 ·rw [if_pos q];lia
 ·rw [if_neg q];lia
theorem bodyOf_some {l:List F} {b:Body} (hl:∀ x∈l,x < 2 ^ 64) (h:bodyOf l=some b):BodyOk b∧numbers b=l:=by
 unfold bodyOf at h
 split at h
 ·split at h
  ·rename_i m x y z u v w c
   cases h
   obtain ⟨c1,c2⟩:=c
   simp only [List.all_cons,List.all_nil,Bool.and_true,Bool.and_eq_true] at c1
   obtain ⟨a1,a2,a3,a4,a5,a6,a7⟩:=c1
   have hm:m < 2 ^ 64:=hl m (by simp)
   rw [above_zero hm,decide_eq_true_eq] at c2
   exact ⟨⟨⟨hm,a1⟩,c2,⟨⟨hl x (by simp),a2⟩,⟨hl y (by simp),a3⟩,⟨hl z (by simp),a4⟩⟩,⟨⟨hl u (by simp),a5⟩,⟨hl v (by simp),a6⟩,⟨hl w (by simp),a7⟩⟩⟩,rfl⟩
  ·cases h
 ·cases h
theorem bodyOf_iff {m x y z u v w:Nat} (hm:m < 2 ^ 64):bodyOf [m,x,y,z,u,v,w] =
  if (finite m=true∧finite x=true∧finite y=true∧finite z=true∧finite u=true∧finite v=true∧finite w=true)∧0 < m∧m < 2 ^ 63 then some ⟨m,⟨x,y,z⟩,⟨u,v,w⟩⟩ else none:=by
 show (if ([m,x,y,z,u,v,w].all finite)=true∧below 0 m=true then some (⟨m,⟨x,y,z⟩,⟨u,v,w⟩⟩:Body) else none)=_
 have e1:(([m,x,y,z,u,v,w].all finite)=true∧below 0 m=true)↔((finite m=true∧finite x=true∧finite y=true∧finite z=true∧finite u=true∧finite v=true∧finite w=true)∧0 < m∧m < 2 ^ 63):=by
  rw [above_zero hm,decide_eq_true_eq]
  simp only [List.all_cons,List.all_nil,Bool.and_true,Bool.and_eq_true]
 by_cases h:([m,x,y,z,u,v,w].all finite)=true∧below 0 m=true
 ·rw [if_pos h,if_pos (e1.mp h)]
 ·rw [if_neg h,if_neg (fun q=>h (e1.mpr q))]
end Fl
set_option maxRecDepth 10000
namespace Fl
open Sn48
def N64 (z:Int):Prop:=0≤z∧z < 2 ^ 64
def I32 (z:Int):Prop:=-(2 ^ 31)≤z∧z < 2 ^ 31
theorem n64 {z:Int} (h:Sn48Neutral.natural z 64=true):N64 z:=nat64 h
theorem i32 {z:Int} (h:Sn48Neutral.whole32 z=true):I32 z:=by
 unfold Sn48Neutral.whole32 at h
 rw [Bool.and_eq_true,decide_eq_true_eq,decide_eq_true_eq] at h
 exact h
theorem N64.lt {z:Int} (h:N64 z):z.toNat < 2 ^ 64:=by
 unfold N64 at h
 lia
theorem N64.cast {z:Int} (h:N64 z):((z.toNat:Nat):Int)=z:=by
 unfold N64 at h
 lia
inductive Head (s:Sn48.St):Int→List Int→Prop
 | begin_ (t e:Int) (r:List Int):N64 t→N64 e→Fine (Sn48.step s (.begin_ t.toNat e.toNat)).1 r→Head s 0 (t::e::r)
 | put (m x y z u v w:Int) (r:List Int):N64 m→N64 x→N64 y→N64 z→N64 u→N64 v→N64 w→Fine (Sn48.step s (.put [m.toNat,x.toNat,y.toNat,z.toNat,u.toNat,v.toNat,w.toNat])).1 r→Head s 1 (m::x::y::z::u::v::w::r)
 | set (i m x y z u v w:Int) (r:List Int):I32 i→N64 m→N64 x→N64 y→N64 z→N64 u→N64 v→N64 w→Fine (Sn48.step s (.set i [m.toNat,x.toNat,y.toNat,z.toNat,u.toNat,v.toNat,w.toNat])).1 r→Head s 2 (i::m::x::y::z::u::v::w::r)
 | step (n dt:Int) (r:List Int):I32 n→N64 dt→Fine (Sn48.step s (.step n dt.toNat)).1 r→Head s 3 (n::dt::r)
 | get (i:Int) (r:List Int):I32 i→Fine (Sn48.step s (.get i)).1 r→Head s 4 (i::r)
 | energy (r:List Int):Fine (Sn48.step s .energy).1 r→Head s 5 r
theorem many_cases {p:Int} {n:Nat} (h:many p=some n):(p=0∧n=2)∨(p=1∧n=7)∨(p=2∧n=8)∨(p=3∧n=2)∨(p=4∧n=1)∨(p=5∧n=0):=by
 unfold many at h
 repeat' split at h
 all_goals first | (cases h;simp_all) | cases h
theorem and2 {a b:Bool} (h:(a && b)=true):a=true∧b=true:=Bool.and_eq_true_iff.mp h
theorem head_of {s:Sn48.St} {p:Int} {r:List Int} (h:Fine s (p::r)):Head s p r:=by
 obtain ⟨n,hm,hn,ha,hf,_⟩:=fine_cons h
 rcases many_cases hm with ⟨rfl,rfl⟩ | ⟨rfl,rfl⟩ | ⟨rfl,rfl⟩ | ⟨rfl,rfl⟩ | ⟨rfl,rfl⟩ | ⟨rfl,rfl⟩
 ·match r,hn with
  | t::e::r',_ =>
   have ha':(Sn48Neutral.natural t 64 && Sn48Neutral.natural e 64)=true:=ha
   obtain ⟨a1,a2⟩:=and2 ha'
   exact .begin_ t e r' (n64 a1) (n64 a2) hf
 ·match r,hn with
  | m::x::y::z::u::v::w::r',_ =>
   have ha':(Sn48Neutral.natural m 64 && (Sn48Neutral.natural x 64 && (Sn48Neutral.natural y 64 && (Sn48Neutral.natural z 64 && (Sn48Neutral.natural u 64 && (Sn48Neutral.natural v 64 && (Sn48Neutral.natural w 64)))))))=true:=ha
   obtain ⟨a1,b1⟩:=and2 ha'
   obtain ⟨a2,b2⟩:=and2 b1
   obtain ⟨a3,b3⟩:=and2 b2
   obtain ⟨a4,b4⟩:=and2 b3
   obtain ⟨a5,b5⟩:=and2 b4
   obtain ⟨a6,a7⟩:=and2 b5
   exact .put m x y z u v w r' (n64 a1) (n64 a2) (n64 a3) (n64 a4) (n64 a5) (n64 a6) (n64 a7) hf
 ·match r,hn with
  | i::m::x::y::z::u::v::w::r',_ =>
   have ha':(Sn48Neutral.whole32 i && (Sn48Neutral.natural m 64 && (Sn48Neutral.natural x 64 && (Sn48Neutral.natural y 64 && (Sn48Neutral.natural z 64 && (Sn48Neutral.natural u 64 && (Sn48Neutral.natural v 64 && (Sn48Neutral.natural w 64))))))))=true:=ha
   obtain ⟨a0,b0⟩:=and2 ha'
   obtain ⟨a1,b1⟩:=and2 b0
   obtain ⟨a2,b2⟩:=and2 b1
   obtain ⟨a3,b3⟩:=and2 b2
   obtain ⟨a4,b4⟩:=and2 b3
   obtain ⟨a5,b5⟩:=and2 b4
   obtain ⟨a6,a7⟩:=and2 b5
   exact .set i m x y z u v w r' (i32 a0) (n64 a1) (n64 a2) (n64 a3) (n64 a4) (n64 a5) (n64 a6) (n64 a7) hf
 ·match r,hn with
  | n::dt::r',_ =>
   have ha':(Sn48Neutral.whole32 n && Sn48Neutral.natural dt 64)=true:=ha
   obtain ⟨a1,a2⟩:=and2 ha'
   exact .step n dt r' (i32 a1) (n64 a2) hf
 ·match r,hn with
  | i::r',_=>exact .get i r' (i32 ha) hf
 ·exact .energy r hf
def told1 (a:Ans):List Int:=((a.out.length + 1:Nat):Int)::a.value::Sn48Neutral.ints a.out
theorem ints_length (l:List Nat):(Sn48Neutral.ints l).length=l.length:=by
 unfold Sn48Neutral.ints
 rw [List.length_map]
theorem told_eq (a:Ans):((a.value::Sn48Neutral.ints a.out).length:Int)::(a.value::Sn48Neutral.ints a.out)=told1 a:=by
 unfold told1
 rw [List.length_cons,ints_length]
theorem due_begin {s:Sn48.St} {t e:Int} {r:List Int} (h:Fine s (0::t::e::r)):due s (0::t::e::r)=told1 (Sn48.step s (.begin_ t.toNat e.toNat)).2++due (Sn48.step s (.begin_ t.toNat e.toNat)).1 r:=by
 obtain ⟨n,hm,_,_,_,hd⟩:=fine_cons h
 have:n=2:=(Option.some.inj hm).symm
 subst this
 rw [hd,← told_eq]
 rfl
theorem due_put {s:Sn48.St} {m x y z u v w:Int} {r:List Int} (h:Fine s (1::m::x::y::z::u::v::w::r)):due s (1::m::x::y::z::u::v::w::r) =
  told1 (Sn48.step s (.put [m.toNat,x.toNat,y.toNat,z.toNat,u.toNat,v.toNat,w.toNat])).2++due (Sn48.step s (.put [m.toNat,x.toNat,y.toNat,z.toNat,u.toNat,v.toNat,w.toNat])).1 r:=by
 obtain ⟨n,hm,_,_,_,hd⟩:=fine_cons h
 have:n=7:=(Option.some.inj hm).symm
 subst this
 rw [hd,← told_eq]
 rfl
theorem due_set {s:Sn48.St} {i m x y z u v w:Int} {r:List Int} (h:Fine s (2::i::m::x::y::z::u::v::w::r)):due s (2::i::m::x::y::z::u::v::w::r) =
  told1 (Sn48.step s (.set i [m.toNat,x.toNat,y.toNat,z.toNat,u.toNat,v.toNat,w.toNat])).2++due (Sn48.step s (.set i [m.toNat,x.toNat,y.toNat,z.toNat,u.toNat,v.toNat,w.toNat])).1 r:=by
 obtain ⟨n,hm,_,_,_,hd⟩:=fine_cons h
 have:n=8:=(Option.some.inj hm).symm
 subst this
 rw [hd,← told_eq]
 rfl
theorem due_step {s:Sn48.St} {k dt:Int} {r:List Int} (h:Fine s (3::k::dt::r)):due s (3::k::dt::r)=told1 (Sn48.step s (.step k dt.toNat)).2++due (Sn48.step s (.step k dt.toNat)).1 r:=by
 obtain ⟨n,hm,_,_,_,hd⟩:=fine_cons h
 have:n=2:=(Option.some.inj hm).symm
 subst this
 rw [hd,← told_eq]
 rfl
theorem due_get {s:Sn48.St} {i:Int} {r:List Int} (h:Fine s (4::i::r)):due s (4::i::r)=told1 (Sn48.step s (.get i)).2++due (Sn48.step s (.get i)).1 r:=by
 obtain ⟨n,hm,_,_,_,hd⟩:=fine_cons h
 have:n=1:=(Option.some.inj hm).symm
 subst this
 rw [hd,← told_eq]
 rfl
theorem due_energy {s:Sn48.St} {r:List Int} (h:Fine s (5::r)):due s (5::r)=told1 (Sn48.step s .energy).2++due (Sn48.step s .energy).1 r:=by
 obtain ⟨n,hm,_,_,_,hd⟩:=fine_cons h
 have:n=0:=(Option.some.inj hm).symm
 subst this
 rw [hd,← told_eq]
 rfl
theorem begin_eq (s:Sn48.St) {t e:Nat} (ht:t < 2 ^ 64) (he:e < 2 ^ 64):Sn48.step s (.begin_ t e)=if finite t=true∧finite e=true∧t≤2 ^ 63∧e≤2 ^ 63 then (some ⟨t,e,[]⟩,⟨0,[]⟩) else (s,⟨-3,[]⟩):=by
 show (if finite t=false∨finite e=false∨below t 0=true∨below e 0=true then (s,(⟨-3,[]⟩:Ans)) else (some ⟨t,e,[]⟩,⟨0,[]⟩))=_
 have e1:below t 0=true↔2 ^ 63 < t:=by rw [below_zero ht,decide_eq_true_eq]
 have e2:below e 0=true↔2 ^ 63 < e:=by rw [below_zero he,decide_eq_true_eq]
 by_cases h:finite t=true∧finite e=true∧t≤2 ^ 63∧e≤2 ^ 63
 ·rw [if_pos h,if_neg]
  obtain ⟨a,b,c,d⟩:=h
  rw [a,b]
  rintro (q | q | q | q)
  ·cases q
  ·cases q
  ·have:=e1.mp q;lia
  ·have:=e2.mp q;lia
 ·rw [if_neg h,if_pos]
  cases a:finite t with
  | false=>exact .inl rfl
  | true =>
   cases b:finite e with
   | false=>exact .inr (.inl rfl)
   | true =>
    refine .inr (.inr ?_)
    rcases Nat.lt_or_ge (2 ^ 63) t with q | q
    ·exact .inl (e1.mpr q)
    ·rcases Nat.lt_or_ge (2 ^ 63) e with q2 | q2
     ·exact .inr (e2.mpr q2)
     ·exact absurd ⟨a,b,q,q2⟩ h
theorem put_eq (w:World) (l:List F):Sn48.step (some w) (.put l)=match bodyOf l with
  | none=>(some w,⟨-3,[]⟩)
  | some b=>if MOST≤w.bodies.length then (some w,⟨-1,[]⟩) else (some { w with bodies:=w.bodies++[b] },⟨(w.bodies.length:Nat),[]⟩):=rfl
theorem set_eq (w:World) (i:Int) (l:List F):Sn48.step (some w) (.set i l)=if i < 0∨(w.bodies.length:Int)≤i then (some w,⟨-2,[]⟩) else match bodyOf l with
  | none=>(some w,⟨-3,[]⟩)
  | some b=>(some { w with bodies:=w.bodies.set i.toNat b },⟨0,[]⟩):=rfl
theorem within_iff {n:Int}:within n 0 1000000=true↔0≤n∧n≤1000000:=by
 unfold within
 rw [Bool.and_eq_true,decide_eq_true_eq,decide_eq_true_eq]
 exact Iff.rfl
theorem step_eq (w:World) (n:Int) (dt:F):Sn48.step (some w) (.step n dt)=if within n 0 1000000=false then (some w,⟨-2,[]⟩) else if finite dt=false then (some w,⟨-3,[]⟩) else match steps dt n.toNat w with
  | none=>(some w,⟨-5,[]⟩)
  | some u=>(some u,⟨0,[]⟩):=rfl
theorem get_eq (w:World) (i:Int):Sn48.step (some w) (.get i)=if i < 0∨(w.bodies.length:Int)≤i then (some w,⟨-2,[]⟩) else (some w,⟨0,numbers (w.bodies.getD i.toNat default)⟩):=rfl
theorem energy_eq (w:World):Sn48.step (some w) .energy=match energy w with
  | none=>(some w,⟨-5,[]⟩)
  | some k=>(some w,⟨0,[k]⟩):=rfl
def SOk (s:Sn48.St):Prop:=∃ w,s=some w∧WOk w
theorem begin_sok {s:Sn48.St} {t e:Nat} (ht:t < 2 ^ 64) (he:e < 2 ^ 64) (h:SOk s∨(Sn48.step s (.begin_ t e)).2.value=0):SOk (Sn48.step s (.begin_ t e)).1:=by
 rw [begin_eq s ht he] at h ⊢
 by_cases c:finite t=true∧finite e=true∧t≤2 ^ 63∧e≤2 ^ 63
 ·rw [if_pos c]
  exact ⟨_,rfl,⟨ht,c.1⟩,⟨he,c.2.1⟩,c.2.2.1,c.2.2.2,(fun b hb=>by cases hb),Nat.zero_le _⟩
 ·rw [if_neg c] at h ⊢
  rcases h with h | h
  ·exact h
  ·have h':(-3:Int)=0:=h
   exact absurd h' (by decide)
theorem put_sok {w:World} {l:List F} (hw:WOk w) (hl:∀ x∈l,x < 2 ^ 64):SOk (Sn48.step (some w) (.put l)).1:=by
 rw [put_eq]
 cases hb:bodyOf l with
 | none=>exact ⟨w,rfl,hw⟩
 | some b =>
  dsimp only
  by_cases c:MOST≤w.bodies.length
  ·rw [if_pos c];exact ⟨w,rfl,hw⟩
  ·rw [if_neg c]
   refine ⟨_,rfl,hw.far,hw.soft,hw.farP,hw.softP,fun x hx=>?_,?_⟩
   ·rcases List.mem_append.mp hx with q | q
    ·exact hw.bodies x q
    ·rw [List.mem_singleton.mp q]
     exact (bodyOf_some hl hb).1
   ·show (w.bodies++[b]).length≤4096
    rw [List.length_append]
    have:MOST=4096:=rfl
    simp only [List.length_singleton]
    lia
theorem set_sok {w:World} {i:Int} {l:List F} (hw:WOk w) (hl:∀ x∈l,x < 2 ^ 64):SOk (Sn48.step (some w) (.set i l)).1:=by
 rw [set_eq]
 by_cases c:i < 0∨(w.bodies.length:Int)≤i
 ·rw [if_pos c];exact ⟨w,rfl,hw⟩
 ·rw [if_neg c]
  cases hb:bodyOf l with
  | none=>exact ⟨w,rfl,hw⟩
  | some b =>
   refine ⟨_,rfl,hw.far,hw.soft,hw.farP,hw.softP,fun x hx=>?_,?_⟩
   ·rcases List.mem_or_eq_of_mem_set hx with q | q
    ·exact hw.bodies x q
    ·rw [q];exact (bodyOf_some hl hb).1
   ·show (w.bodies.set i.toNat b).length≤4096
    rw [List.length_set]
    exact hw.most
theorem step_sok {w:World} {n:Int} {dt:F} (hw:WOk w):SOk (Sn48.step (some w) (.step n dt)).1:=by
 rw [step_eq]
 by_cases c:within n 0 1000000=false
 ·rw [if_pos c];exact ⟨w,rfl,hw⟩
 ·rw [if_neg c]
  by_cases c2:finite dt=false
  ·rw [if_pos c2];exact ⟨w,rfl,hw⟩
  ·rw [if_neg c2]
   cases h:steps dt n.toNat w with
   | none=>exact ⟨w,rfl,hw⟩
   | some u=>exact ⟨u,rfl,(steps_ok hw h).1⟩
theorem get_same (w:World) (i:Int):(Sn48.step (some w) (.get i)).1=some w:=by
 rw [get_eq]
 split <;> rfl
theorem energy_same (w:World):(Sn48.step (some w) .energy).1=some w:=by
 rw [energy_eq]
 split <;> rfl
end Fl
set_option maxRecDepth 10000
namespace Fl
open Sn48
theorem bind_some {α β:Type} {o:Option α} {f:α→Option β} {r:β} (h:o.bind f=some r):∃ a,o=some a∧f a=some r:=by
 cases o with
 | none=>cases h
 | some a=>exact ⟨a,rfl,h⟩
theorem map_some {α β:Type} {o:Option α} {f:α→β} {r:β} (h:o.map f=some r):∃ a,o=some a∧f a=r:=by
 cases o with
 | none=>cases h
 | some a=>exact ⟨a,rfl,Option.some.inj h⟩
theorem mapM_get {α β:Type} {f:α→Option β}:∀ {l:List α} {r:List β},l.mapM f=some r→∀ k (h:k < l.length),∃ y,r[k]?=some y∧f l[k]=some y
 | [],r,h,k,hk=>absurd hk (Nat.not_lt_zero _)
 | a::l,r,h,k,hk=>by
  rw [mapM_cons] at h
  obtain ⟨b,hb,h⟩:=bind_some h
  obtain ⟨bs,hl,h⟩:=map_some h
  subst h
  cases k with
  | zero=>exact ⟨b,rfl,hb⟩
  | succ k =>
   obtain ⟨y,h1,h2⟩:=mapM_get hl k (Nat.lt_of_succ_lt_succ hk)
   exact ⟨y,h1,h2⟩
theorem foldlM_keep {α β:Type} {f:β→α→Option β} {I:β→Prop}:∀ {l:List α} {b r:β},(∀ a∈l,∀ b c,I b→f b a=some c→I c)→I b→l.foldlM f b=some r→I r
 | [],b,r,_,hb,h=>by cases h;exact hb
 | a::l,b,r,hf,hb,h=>by
  rw [foldlM_cons] at h
  obtain ⟨c,hc,h⟩:=bind_some h
  exact foldlM_keep (fun a' ha=>hf a' (List.mem_cons_of_mem _ ha)) (hf a List.mem_cons_self b c hb hc) h
theorem foldlM_congr {α β:Type} {f g:β→α→Option β}:∀ {l:List α} {b:β},(∀ a∈l,∀ b,f b a=g b a)→l.foldlM f b=l.foldlM g b
 | [],b,_=>rfl
 | a::l,b,h=>by
  rw [foldlM_cons,foldlM_cons,h a List.mem_cons_self]
  congr 1
  funext c
  exact foldlM_congr fun a' ha=>h a' (List.mem_cons_of_mem _ ha)
theorem grown_nil (bs:List Body) (n:Nat) (c:P) (h:F):grown bs n c h []=some .none_:=by
 cases n <;> rfl
theorem grown_one (bs:List Body) (n:Nat) (c:P) (h:F) (i:Nat):grown bs n c h [i]=some (.some_ [i]):=by
 cases n <;> rfl
theorem grown_zero (bs:List Body) (c:P) (h:F) {l:List Nat} (hl:2≤l.length):grown bs 0 c h l=some (.some_ l):=by
 match l,hl with
 | _::_::_,_=>rfl
def sub8 (bs:List Body) (n:Nat) (c:P) (q:F) (l:List Nat) (k:Nat):Option Cell:=(middle c q k).bind fun d=>grown bs n d q (l.filter fun i=>part c (bs.getD i default).at_ == k)
theorem grown_split (bs:List Body) (n:Nat) (c:P) (h:F) {l:List Nat} (hl:2≤l.length):grown bs (n + 1) c h l=(mul h HALF).bind fun q=>(mul h TWO).bind fun side =>
  ((List.range 8).mapM (sub8 bs n c q l)).bind fun cells=>(cells.mapM (Cell.whole bs)).bind fun ws=>(summed ws.flatten).map fun s=>.split side s.1 s.2 l cells:=by
 match l,hl with
 | _::_::_,_=>rfl
theorem grown_split_some {bs:List Body} {n:Nat} {c:P} {h:F} {l:List Nat} (hl:2≤l.length) {t:Cell} (e:grown bs (n + 1) c h l=some t) :
  ∃ q side cells ws s,mul h HALF=some q∧mul h TWO=some side∧(List.range 8).mapM (sub8 bs n c q l)=some cells∧cells.mapM (Cell.whole bs)=some ws∧summed ws.flatten=some s∧t=.split side s.1 s.2 l cells:=by
 rw [grown_split bs n c h hl] at e
 obtain ⟨q,hq,e⟩:=bind_some e
 obtain ⟨side,hs,e⟩:=bind_some e
 obtain ⟨cells,hc,e⟩:=bind_some e
 obtain ⟨ws,hw,e⟩:=bind_some e
 obtain ⟨s,hs',e⟩:=map_some e
 exact ⟨q,side,cells,ws,s,hq,hs,hc,hw,hs',e.symm⟩
theorem length_cases (l:List Nat):l=[]∨(∃ i,l=[i])∨2≤l.length:=by
 match l with
 | []=>exact .inl rfl
 | [i]=>exact .inr (.inl ⟨i,rfl⟩)
 | _::_::_=>exact .inr (.inr (by simp))
inductive COk (N:Nat):Nat→Cell→Prop
 | none_ (n:Nat):COk N n .none_
 | some_ (n:Nat) (l:List Nat):(∀ i∈l,i < N)→l≠[]→COk N n (.some_ l)
 | split (n:Nat) (side m:F) (p:P) (inside:List Nat) (l:List Cell):Ok side→Ok m→POk p→(∀ i∈inside,i < N)→2≤inside.length→l.length=8→(∀ c∈l,COk N n c)→COk N (n + 1) (.split side m p inside l)
theorem summed_ok {l:List (F × P)} {s:F × P} (hl:∀ x∈l,Ok x.1) (h:summed l=some s):Ok s.1∧POk s.2:=by
 cases l with
 | nil=>cases h
 | cons a r =>
  unfold summed at h
  obtain ⟨t,_,h⟩:=bind_some h
  obtain ⟨u,hu,h⟩:=bind_some h
  obtain ⟨p,hp,h⟩:=map_some h
  subst h
  refine ⟨?_,parted_ok hp⟩
  have key:(fun s:F × P=>Ok s.1) u:=by
   refine foldlM_keep (I:=fun s:F × P=>Ok s.1) (fun x _ b c _ e=>?_) (b:=(a.1,t)) (hl a List.mem_cons_self) hu
   obtain ⟨m,hm,e⟩:=bind_some e
   obtain ⟨_,_,e⟩:=bind_some e
   obtain ⟨_,_,e⟩:=map_some e
   subst e
   exact add_ok hm
  exact key
theorem whole_ok {bs:List Body} (hb:∀ b∈bs,BodyOk b) {n:Nat} {c:Cell} (hc:COk bs.length n c) {ws:List (F × P)} (h:c.whole bs=some ws):∀ x∈ws,Ok x.1∧POk x.2:=by
 cases hc with
 | none_=>cases h;intro x hx;cases hx
 | some_ _ l hl _ =>
  cases h
  intro x hx
  obtain ⟨i,hi,e⟩:=List.mem_map.mp hx
  subst e
  have hlt:i < bs.length:=hl i hi
  have e2:bs.getD i default=bs[i]:=by rw [List.getD_eq_getElem?_getD,List.getElem?_eq_getElem hlt];rfl
  have ok:=hb bs[i] (List.getElem_mem hlt)
  show Ok (bs.getD i default).m∧POk (bs.getD i default).at_
  rw [e2]
  exact ⟨ok.m,ok.at_⟩
 | split _ side m p inside l h1 h2 h3 h4 h5 h6 h7 =>
  cases h
  intro x hx
  rw [List.mem_singleton.mp hx]
  exact ⟨h2,h3⟩
theorem grown_ok {bs:List Body} (hb:∀ b∈bs,BodyOk b):∀ {n:Nat} {c:P} {h:F} {l:List Nat} {t:Cell},(∀ i∈l,i < bs.length)→grown bs n c h l=some t→COk bs.length n t:=by
 intro n
 induction n with
 | zero =>
  intro c h l t hl e
  rcases length_cases l with q | ⟨i,q⟩ | q
  ·subst q;rw [grown_nil] at e;cases e;exact .none_ _
  ·subst q;rw [grown_one] at e;cases e;exact .some_ _ _ hl (by simp)
  ·rw [grown_zero _ _ _ q] at e;cases e;exact .some_ _ _ hl (fun z=>by rw [z] at q;simp at q)
 | succ n ih =>
  intro c h l t hl e
  rcases length_cases l with q | ⟨i,q⟩ | q
  ·subst q;rw [grown_nil] at e;cases e;exact .none_ _
  ·subst q;rw [grown_one] at e;cases e;exact .some_ _ _ hl (by simp)
  ·obtain ⟨q',side,cells,ws,s,hq,hs,hc,hw,hs',e⟩:=grown_split_some q e
   subst e
   have hcells:∀ x∈cells,COk bs.length n x:=fun x hx=>by
    obtain ⟨k,_,hk⟩:=mapM_mem hc x hx
    obtain ⟨d,_,hk⟩:=bind_some hk
    exact ih (fun i hi=>hl i (List.mem_filter.mp hi).1) hk
   have hws:∀ x∈ws.flatten,Ok x.1:=fun x hx=>by
    obtain ⟨y,hy,hx⟩:=List.mem_flatten.mp hx
    obtain ⟨cc,hcc,hy⟩:=mapM_mem hw y hy
    exact (whole_ok hb (hcells cc hcc) hy x hx).1
   obtain ⟨s1,s2⟩:=summed_ok hws hs'
   exact .split _ _ _ _ _ _ (mul_ok hs) s1 s2 hl q (by rw [mapM_length hc];rfl) hcells
theorem pulled_none (w:World) (i n:Nat) (a:P):pulled w i (n + 1) a .none_=some a:=rfl
theorem pulled_some (w:World) (i n:Nat) (a:P) (l:List Nat):pulled w i (n + 1) a (.some_ l)=(l.filter fun j=>j != i).foldlM (fun a j=>pull w (w.bodies.getD i default).at_ a ((w.bodies.getD j default).m,(w.bodies.getD j default).at_)) a:=rfl
theorem pulled_split (w:World) (i n:Nat) (a:P) (side m:F) (q:P) (inside:List Nat) (l:List Cell):pulled w i (n + 1) a (.split side m q inside l)=if inside.contains i=true then l.foldlM (pulled w i n) a else
   (minus q (w.bodies.getD i default).at_).bind fun d=>(square d).bind fun s=>(mul side side).bind fun u=>(mul w.far s).bind fun t=>if below u t=true then pull w (w.bodies.getD i default).at_ a (m,q) else l.foldlM (pulled w i n) a:=rfl
theorem pulled_fuel {w:World} {i N:Nat} {n:Nat} {c:Cell} (hc:COk N n c):∀ {j k:Nat} {a:P},n < j→n < k→pulled w i j a c=pulled w i k a c:=by
 induction hc with
 | none_ n =>
  intro j k a hj hk
  obtain ⟨j,rfl⟩:=Nat.exists_eq_add_one_of_ne_zero (Nat.ne_of_gt (Nat.lt_of_le_of_lt (Nat.zero_le _) hj))
  obtain ⟨k,rfl⟩:=Nat.exists_eq_add_one_of_ne_zero (Nat.ne_of_gt (Nat.lt_of_le_of_lt (Nat.zero_le _) hk))
  rfl
 | some_ n l _ _ =>
  intro j k a hj hk
  obtain ⟨j,rfl⟩:=Nat.exists_eq_add_one_of_ne_zero (Nat.ne_of_gt (Nat.lt_of_le_of_lt (Nat.zero_le _) hj))
  obtain ⟨k,rfl⟩:=Nat.exists_eq_add_one_of_ne_zero (Nat.ne_of_gt (Nat.lt_of_le_of_lt (Nat.zero_le _) hk))
  rfl
 | split n side m p inside l _ _ _ _ _ _ _ ih =>
  intro j k a hj hk
  obtain ⟨j,rfl⟩:=Nat.exists_eq_add_one_of_ne_zero (Nat.ne_of_gt (Nat.lt_of_le_of_lt (Nat.zero_le _) hj))
  obtain ⟨k,rfl⟩:=Nat.exists_eq_add_one_of_ne_zero (Nat.ne_of_gt (Nat.lt_of_le_of_lt (Nat.zero_le _) hk))
  have e:∀ b,l.foldlM (pulled w i j) b=l.foldlM (pulled w i k) b:=fun b=>foldlM_congr fun x hx b=>ih x hx (by lia) (by lia)
  rw [pulled_split,pulled_split,e]
theorem tree_ok {bs:List Body} (hb:∀ b∈bs,BodyOk b) {t:Cell} (h:tree bs=some t):COk bs.length DEEP t:=by
 unfold tree at h
 obtain ⟨_,_,h⟩:=bind_some h
 obtain ⟨_,_,h⟩:=bind_some h
 obtain ⟨_,_,h⟩:=bind_some h
 obtain ⟨_,_,h⟩:=bind_some h
 obtain ⟨_,_,h⟩:=bind_some h
 exact grown_ok hb (fun i hi=>List.mem_range.mp hi) h
theorem steps_zero (dt:F) (w:World):steps dt 0 w=some w:=by rw [steps]
theorem steps_cons (dt:F) (n:Nat) (w:World):steps dt (n + 1) w=(step1 dt w).bind (steps dt n):=by rw [steps]
theorem steps_add (dt:F):∀ (n m:Nat) (w:World),steps dt (n + m) w=(steps dt n w).bind (steps dt m):=by
 intro n
 induction n with
 | zero=>intro m w;rw [Nat.zero_add,steps_zero];rfl
 | succ n ih =>
  intro m w
  rw [Nat.add_right_comm,steps_cons,steps_cons]
  generalize step1 dt w=o
  cases o with
  | none=>rfl
  | some u=>exact ih m u
def kinE (s:F) (b:Body):Option F:=(square b.v).bind fun q=>(mul HALF b.m).bind fun h=>(mul h q).bind fun t=>add s t
def pairE (w:World) (i:Nat) (s:F) (j:Nat):Option F:=(minus (w.bodies.getD j default).at_ (w.bodies.getD i default).at_).bind fun d=>(square d).bind fun q=>(add q w.soft).bind fun q=>(root q).bind fun r=>(mul (w.bodies.getD i default).m (w.bodies.getD j default).m).bind fun m=>(div m r).bind fun t=>sub s t
theorem energy_unf (w:World):energy w=(w.bodies.foldlM kinE 0).bind fun k=>(List.range w.bodies.length).foldlM (fun s i=>((List.range w.bodies.length).filter fun j=>decide (i < j)).foldlM (pairE w i) s) k:=by
 unfold energy kinE pairE
 rfl
end Fl
set_option maxRecDepth 10000
namespace Fl
open Sn48
structure Rep (m e:Int) (b:Nat):Prop where
 ok:Ok b
 mag:m.natAbs≤2 ^ 53
 lo:-1074≤e
 hi:e≤1023
 wo:worth b=m * 2 ^ (e + 1074).toNat
 zero:m=0→(e=0∧b=0)∨(e = -1∧b=2 ^ 63)
def RepO:Option (Int × Int)→Option Nat→Prop
 | some p,some b=>Rep p.1 p.2 b
 | none,none=>True
 | _,_=>False
theorem two_pow_cast (k:Nat):((2 ^ k:Nat):Int)=2 ^ k:=by
 induction k with
 | zero=>rfl
 | succ n ih=>rw [Nat.pow_succ,Int.pow_succ,Int.natCast_mul,ih];rfl
theorem ipow_pos (k:Nat):(0:Int) < 2 ^ k:=by
 rw [← two_pow_cast]
 exact Int.ofNat_lt.mpr (two_pos k)
theorem natAbs_mul_pow (m:Int) (k:Nat):(m * 2 ^ k).natAbs=m.natAbs * 2 ^ k:=by
 rw [Int.natAbs_mul,← two_pow_cast,Int.natAbs_natCast]
theorem mag_sum {q N:Nat} (h1:N≤2 ^ 53) (h2:0 < q→2 ^ 52≤N):mag (q * 2 ^ 52 + N)=N * 2 ^ q:=by
 unfold mag
 by_cases c1:N < 2 ^ 52
 ·have q0:q=0:=by
   rcases Nat.eq_zero_or_pos q with z | z
   ·exact z
   ·have:=h2 z;lia
  subst q0
  rw [if_pos (by lia)]
  lia
 ·by_cases c2:N=2 ^ 53
  ·subst c2
   have e1:(q * 2 ^ 52 + 2 ^ 53) / 2 ^ 52=q + 2:=by lia
   have e2:(q * 2 ^ 52 + 2 ^ 53) % 2 ^ 52=0:=by lia
   rw [e1,e2,if_neg (by lia),show q + 2 - 1=q + 1 by lia,Nat.pow_succ]
   lia
  ·have e1:(q * 2 ^ 52 + N) / 2 ^ 52=q + 1:=by lia
   have e2:(q * 2 ^ 52 + N) % 2 ^ 52=N - 2 ^ 52:=by lia
   rw [e1,e2,if_neg (by lia),show q + 1 - 1=q by lia]
   congr 1
   lia
theorem mag_inj {n m:Nat} (h:mag n=mag m):n=m:=by
 rcases Nat.lt_trichotomy n m with z | z | z
 ·have:=mag_lt z;lia
 ·exact z
 ·have:=mag_lt z;lia
theorem worth_sign {neg:Bool} {n:Nat} (h:n < 2 ^ 63):worth (signBit neg + n)=if neg=true then -((mag n:Nat):Int) else ((mag n:Nat):Int):=by
 rw [worth_eq]
 cases neg with
 | true =>
  rw [signBit_true,if_pos (by lia),if_pos rfl,show (2 ^ 63 + n) % 2 ^ 63=n by lia]
 | false =>
  rw [signBit_false,if_neg (by lia),if_neg (by decide),show (0 + n) % 2 ^ 63=n by lia]
def bl (m:Int):Int:=if m=0 then 0 else ((Nat.log2 m.natAbs + 1:Nat):Int)
theorem bl_eq {m:Int} (h:m≠0):bl m=((Nat.log2 m.natAbs + 1:Nat):Int):=if_neg h
theorem log2_53 {N:Nat} (h1:2 ^ 52≤N) (h2:N < 2 ^ 53):Nat.log2 N=52:=log2_is h1 h2
theorem log2_le53 {N:Nat} (h0:N≠0) (h2:N < 2 ^ 53):Nat.log2 N≤52:=by
 have:=(Nat.log2_lt h0).mpr h2
 lia
def chk (m e:Int):Option (Int × Int):=if 1024≤e + 53∧1024 < e + bl m then none else some (m,e)
def nearOf (m:Int) (d:Nat):Int:=m / 2 ^ (d - 1)
def kept (m:Int) (d:Nat):Int:=(if nearOf m d % 2=1∧(nearOf m d / 2 % 2=1∨nearOf m d * 2 ^ (d - 1)≠m) then nearOf m d + 1 else nearOf m d) / 2
def extraOf (m e:Int):Int:=if e + (bl m - 53) < -1074 then -1074 - e else bl m - 53
def rnd (m e:Int):Option (Int × Int) :=
 if 0 < extraOf m e then
  (if kept m (extraOf m e).toNat=0 then some (if 0 < m then (0,0) else (0,-1)) else chk (kept m (extraOf m e).toNat) (e + extraOf m e))
 else chk m e
theorem extraOf_eq {m e:Int} (h:m≠0):e + extraOf m e=qOf m.natAbs e:=by
 unfold extraOf qOf
 rw [bl_eq h]
 split <;> lia
theorem chk_ok {neg:Bool} {m e:Int} {N:Nat} (hm:m=if neg=true then -(N:Int) else (N:Int)) (h0:N≠0) (h1:N≤2 ^ 53) (he:-1074≤e) {q:Nat} {n:Nat} (hq:N * 2 ^ (e + 1074).toNat=n * 2 ^ q) (hn1:n≤2 ^ 53) (hn2:0 < q→2 ^ 52≤n)
  (hf:(q * 2 ^ 52 + n < 2047 * 2 ^ 52)↔¬ (1024≤e + 53∧1024 < e + bl m)) :
  RepO (chk m e) (if q * 2 ^ 52 + n < 2047 * 2 ^ 52 then some (signBit neg + (q * 2 ^ 52 + n)) else none):=by
 have hm0:m≠0:=by
  rw [hm]
  cases neg <;> simp <;> lia
 unfold chk
 by_cases c:1024≤e + 53∧1024 < e + bl m
 ·rw [if_pos c,if_neg (fun z=>hf.mp z c)]
  trivial
 ·have c2:=hf.mpr c
  rw [if_neg c,if_pos c2]
  refine ⟨ok_of c2,?_,he,?_,?_,fun z=>absurd z hm0⟩
  ·show m.natAbs≤2 ^ 53
   rw [hm]
   cases neg <;> simp <;> lia
  ·have:1≤bl m:=by rw [bl_eq hm0];lia
   show e≤1023
   lia
  ·show worth _=m * _
   rw [worth_sign (by lia),mag_sum hn1 hn2,← hq,hm]
   cases neg with
   | true=>simp only [if_true];rw [Int.natCast_mul,two_pow_cast,Int.neg_mul]
   | false=>simp only [Bool.false_eq_true,if_false];rw [Int.natCast_mul,two_pow_cast]
theorem kept_pos {M:Nat} {d:Nat} (hd:1≤d):kept (M:Int) d=((cut M d false:Nat):Int):=by
 obtain ⟨j,rfl⟩:∃ j,d=j + 1:=⟨d - 1,by lia⟩
 unfold kept nearOf cut
 rw [Nat.add_sub_cancel,Nat.pow_succ]
 have hp:=two_pos j
 have ec:=two_pow_cast j
 rw [← ec]
 generalize 2 ^ j=p at *
 have d1:(M:Int) / (p:Int)=((M / p:Nat):Int):=rfl
 have d2:M / (p * 2)=M / p / 2:=by rw [Nat.div_div_eq_div_mul]
 have d3:M % (p * 2)=p * (M / p % 2) + M % p:=by rw [Nat.mod_mul];lia
 have d4:=Nat.div_add_mod M p
 have d5:=Nat.mod_lt M hp
 rw [d1,d2,d3]
 generalize M / p=a at *
 generalize M % p=r at *
 have e1:((a:Int) * (p:Int)≠(M:Int))↔r≠0:=by
  rw [show (a:Int) * (p:Int)=((p * a:Nat):Int) by rw [Nat.mul_comm];rfl]
  lia
 simp only [e1]
 rcases Nat.mod_two_eq_zero_or_one a with z | z
 ·rw [if_neg (by lia),z,Nat.mul_zero,if_neg (by lia)]
  lia
 ·rw [z,Nat.mul_one]
  by_cases c:a / 2 % 2=1∨r≠0
  ·rw [if_pos ⟨by lia,by lia⟩,if_pos (by lia)]
   lia
  ·rw [if_neg (by lia),if_neg (fun q=>by rcases q with q | ⟨_,q | q⟩ <;> first | lia | exact absurd q (by decide))]
   lia
theorem neg_div_nat {M p:Nat} (hp:0 < p):(-(M:Int)) / (p:Int) = -(((M + p - 1) / p:Nat):Int):=by
 have h1:=Nat.div_add_mod (M + p - 1) p
 have h2:=Nat.mod_lt (M + p - 1) hp
 generalize (M + p - 1) / p=c at *
 generalize (M + p - 1) % p=r at *
 have e:-(M:Int)=(p:Int) * (-(c:Int)) + ((p:Int) - 1 - (r:Int)):=by
  rw [Int.mul_neg,← Int.natCast_mul]
  lia
 rw [e,Int.mul_add_ediv_left _ _ (by lia),Int.ediv_eq_zero_of_lt (by lia) (by lia)]
 lia
theorem kept_neg {M:Nat} {d:Nat} (hd:1≤d):kept (-(M:Int)) d = -((cut M d false:Nat):Int):=by
 obtain ⟨j,rfl⟩:∃ j,d=j + 1:=⟨d - 1,by lia⟩
 unfold kept nearOf cut
 rw [Nat.add_sub_cancel,Nat.pow_succ]
 have hp:=two_pos j
 have ec:=two_pow_cast j
 rw [← ec]
 generalize 2 ^ j=p at *
 have d2:M / (p * 2)=M / p / 2:=by rw [Nat.div_div_eq_div_mul]
 have d3:M % (p * 2)=p * (M / p % 2) + M % p:=by rw [Nat.mod_mul];lia
 have d4:=Nat.div_add_mod M p
 have d5:=Nat.mod_lt M hp
 rw [neg_div_nat hp,d2,d3]
 have d6:(M + p - 1) / p=M / p + (if M % p=0 then 0 else 1):=by
  by_cases c:M % p=0
  ·rw [if_pos c]
   have:M + p - 1=p * (M / p) + (p - 1):=by lia
   rw [this,Nat.mul_add_div hp,Nat.div_eq_of_lt (show p - 1 < p by lia)]
  ·rw [if_neg c]
   have:M + p - 1=p * (M / p + 1) + (M % p - 1):=by rw [Nat.mul_add];lia
   rw [this,Nat.mul_add_div hp,Nat.div_eq_of_lt (show M % p - 1 < p by lia)]
 rw [d6]
 clear d6
 generalize M / p=a at *
 generalize M % p=r at *
 by_cases c:r=0
 ·subst c
  rw [if_pos rfl,Nat.add_zero]
  have e1:-(a:Int) * (p:Int) = -(M:Int):=by
   rw [show -(a:Int) * (p:Int) = -((p * a:Nat):Int) by rw [Nat.mul_comm,Int.neg_mul];rfl]
   lia
  simp only [e1,ne_eq,not_true_eq_false,or_false]
  rcases Nat.mod_two_eq_zero_or_one a with z | z
  ·rw [if_neg (by lia),z,Nat.mul_zero,if_neg (by lia)]
   lia
  ·rw [z,Nat.mul_one]
   by_cases c2:a / 2 % 2=1
   ·rw [if_neg (by lia),if_pos (.inr ⟨by lia,.inr c2⟩)]
    lia
   ·rw [if_pos (by lia),if_neg (fun q=>by rcases q with q | ⟨_,q | q⟩ <;> first | lia | exact absurd q (by decide))]
    lia
 ·rw [if_neg c]
  have e1:¬ (-((a + 1:Nat):Int) * (p:Int) = -(M:Int)):=by
   rw [show -((a + 1:Nat):Int) * (p:Int) = -((p * (a + 1):Nat):Int) by rw [Nat.mul_comm,Int.neg_mul];rfl,Nat.mul_add]
   lia
  simp only [e1,ne_eq,not_false_eq_true,or_true,and_true]
  rcases Nat.mod_two_eq_zero_or_one a with z | z
  ·rw [if_pos (by lia),z,Nat.mul_zero,if_neg (by lia)]
   lia
  ·rw [z,Nat.mul_one,if_neg (by lia),if_pos (by lia)]
   lia
theorem zero_rep {neg:Bool}:Rep 0 (if neg=true then -1 else 0) (signBit neg):=by
 cases neg with
 | true=>exact ⟨⟨by decide,by decide⟩,by decide,by decide,by decide,by rw [Int.zero_mul];decide,fun _=>.inr ⟨rfl,rfl⟩⟩
 | false=>exact ⟨⟨by decide,by decide⟩,by decide,by decide,by decide,by rw [Int.zero_mul];decide,fun _=>.inl ⟨rfl,rfl⟩⟩
theorem rnd_ok {m e:Int} (h:m≠0):RepO (rnd m e) (rounded (decide (m < 0)) m.natAbs e false):=by
 have hM:m.natAbs≠0:=by lia
 obtain ⟨neg,M,hneg,hmM,hMe,hM0⟩:∃ neg M,decide (m < 0)=neg∧m=(if neg=true then -((M:Nat):Int) else (M:Int))∧m.natAbs=M∧M≠0:=by
  refine ⟨_,_,rfl,?_,rfl,hM⟩
  by_cases c:m < 0
  ·rw [decide_eq_true c,if_pos rfl];lia
  ·rw [decide_eq_false c,if_neg (by decide)];lia
 have hx:=extraOf_eq (e:=e) h
 rw [hneg,hMe,rounded_eq,if_neg hM0]
 rw [hMe] at hx
 have hq:=qOf_ge M e
 have hlog:(e + ((Nat.log2 M + 1:Nat):Int) - 53)≤qOf M e:=by unfold qOf;lia
 have hblm:bl m=((Nat.log2 M + 1:Nat):Int):=by rw [bl_eq h,hMe]
 have nle:=nOf_le (m:=M) (e:=e) (more:=false)
 have nge:=nOf_ge (m:=M) (e:=e) (more:=false) hM0
 have hqc:qOf M e = -1074∨qOf M e=e + ((Nat.log2 M + 1:Nat):Int) - 53:=by unfold qOf;lia
 unfold rnd bitsOf
 by_cases c:0 < extraOf m e
 ·rw [if_pos c]
  obtain ⟨d,hd⟩:∃ d:Nat,extraOf m e=(d:Int):=⟨(extraOf m e).toNat,by lia⟩
  have hd1:1≤d:=by lia
  have en:nOf M e (qOf M e) false=cut M d false:=by
   unfold nOf
   rw [if_neg (by lia)]
   congr 1
   lia
  rw [en] at nle nge ⊢
  have ek:kept m d=if neg=true then -((cut M d false:Nat):Int) else ((cut M d false:Nat):Int):=by
   rw [hmM]
   cases neg with
   | true=>simp only [if_true];exact kept_neg hd1
   | false=>simp only [Bool.false_eq_true,if_false];exact kept_pos hd1
  rw [hd,Int.toNat_natCast,← hd,hx]
  generalize cut M d false=N at *
  by_cases c0:N=0
  ·have k0:kept m d=0:=by rw [ek,c0];cases neg <;> rfl
   rw [if_pos k0]
   have q0:qOf M e = -1074:=by
    rcases hqc with z | z
    ·exact z
    ·by_cases y:-1074 < qOf M e
     ·have:=nge y;lia
     ·lia
   rw [c0,q0,if_pos (show (-1074 + 1074:Int).toNat * 2 ^ 52 + 0 < 2047 * 2 ^ 52 by decide)]
   show Rep _ _ _
   have z:=zero_rep (neg:=neg)
   cases neg with
   | true =>
    have:¬ 0 < m:=by rw [hmM];simp
    rw [if_neg this]
    exact z
   | false =>
    have:0 < m:=by rw [hmM];simp;lia
    rw [if_pos this]
    exact z
  ·have k0:kept m d≠0:=by rw [ek];cases neg <;> simp <;> lia
   rw [if_neg k0]
   refine chk_ok ek c0 nle hq rfl nle (fun z=>nge (by lia)) ?_
   have hbl:bl (kept m d)=((Nat.log2 N + 1:Nat):Int):=by
    rw [bl_eq k0]
    congr 3
    rw [ek]
    cases neg <;> simp
   rw [hbl]
   by_cases y:-1074 < qOf M e
   ·have g:=nge y
    by_cases n53:N=2 ^ 53
    ·rw [n53,Nat.log2_two_pow]
     lia
    ·rw [log2_53 g (by lia)]
     lia
   ·have hl:Nat.log2 N≤53:=by
     by_cases n53:N=2 ^ 53
     ·rw [n53,Nat.log2_two_pow];lia
     ·have:=log2_le53 c0 (by lia);lia
    lia
 ·rw [if_neg c]
  have en:nOf M e (qOf M e) false=M * 2 ^ (e - qOf M e).toNat:=by
   unfold nOf
   rw [if_pos (by lia)]
  have hl52:Nat.log2 M≤52:=by lia
  have hM53:M < 2 ^ 53:=by
   have:=log2_lt M
   exact Nat.lt_of_lt_of_le this (pow_le (by lia))
  rw [en] at nle nge ⊢
  refine chk_ok hmM hM0 (by lia) (by lia) ?_ nle (fun z=>nge (by lia)) ?_
  ·rw [Nat.mul_assoc,← Nat.pow_add]
   congr 2
   lia
  ·rw [hblm]
   by_cases y:-1074 < qOf M e
   ·have g:=nge y
    have lt:M * 2 ^ (e - qOf M e).toNat < 2 ^ 53:=by
     have e1:(e - qOf M e).toNat=52 - Nat.log2 M:=by lia
     rw [e1]
     have h1:=log2_lt M
     have h2:M * 2 ^ (52 - Nat.log2 M) < 2 ^ (Nat.log2 M + 1) * 2 ^ (52 - Nat.log2 M):=Nat.mul_lt_mul_of_pos_right h1 (two_pos _)
     rw [← Nat.pow_add,show Nat.log2 M + 1 + (52 - Nat.log2 M)=53 by lia] at h2
     exact h2
    generalize M * 2 ^ (e - qOf M e).toNat=n at *
    lia
   ·generalize M * 2 ^ (e - qOf M e).toNat=n at *
    lia
end Fl
set_option maxRecDepth 10000
namespace Fl
open Sn48
theorem worth_abs (x:Nat):(worth x).natAbs=(whole x).1 * 2 ^ ((whole x).2 + 1074).toNat:=by
 unfold worth
 split
 ·rw [Int.natAbs_mul,Int.natAbs_natCast];exact Nat.one_mul _
 ·rw [Int.natAbs_mul,Int.natAbs_natCast];exact Nat.one_mul _
theorem rounded_at (neg:Bool) (m:Nat) {e f:Int} {k:Nat} (h:e + k=f) (more:Bool):rounded neg (m * 2 ^ k) e more=rounded neg m f more:=by
 rw [rounded_scale,h]
theorem mul_pow_neg (m:Int) (k:Nat):decide (m * 2 ^ k < 0)=decide (m < 0):=by
 have hp:=ipow_pos k
 by_cases c:m < 0
 ·rw [decide_eq_true c,decide_eq_true (Int.mul_neg_of_neg_of_pos c hp)]
 ·rw [decide_eq_false c,decide_eq_false]
  have:0≤m * 2 ^ k:=Int.mul_nonneg (by lia) (by lia)
  lia
theorem mul_pow_zero {m:Int} {k:Nat}:m * 2 ^ k=0↔m=0:=by
 have hp:=ipow_pos k
 rw [Int.mul_eq_zero]
 lia
theorem part1_worth (x:Nat) {e:Int} (h1:e≤(whole x).2) (h2:-1074≤e):part1 x e * 2 ^ (e + 1074).toNat=worth x:=by
 unfold part1 worth
 rw [Int.mul_assoc,← two_pow_cast,← Int.natCast_mul,Nat.mul_assoc,← Nat.pow_add]
 congr 4
 lia
theorem add_worth (x y:Nat):add x y=if worth x + worth y=0 then some (if negative x=true∧negative y=true then 2 ^ 63 else 0) else rounded (decide (worth x + worth y < 0)) (worth x + worth y).natAbs (-1074) false:=by
 rw [add_eq]
 have g1:=whole_ge x
 have g2:=whole_ge y
 have hE:-1074≤addE x y:=by unfold addE;lia
 have e:addS x y * 2 ^ (addE x y + 1074).toNat=worth x + worth y:=by
  unfold addS
  rw [Int.add_mul,part1_worth x (by unfold addE;lia) hE,part1_worth y (by unfold addE;lia) hE]
 rw [← e,mul_pow_neg,natAbs_mul_pow,rounded_at (f:=addE x y) _ _ (by lia)]
 by_cases c:addS x y=0
 ·rw [if_pos c,if_pos (mul_pow_zero.mpr c)]
 ·rw [if_neg c,if_neg (fun z=>c (mul_pow_zero.mp z))]
def addP (M e:Int) (x y:Nat):Option Nat:=if M=0 then some (if negative x=true∧negative y=true then 2 ^ 63 else 0) else rounded (decide (M < 0)) M.natAbs e false
theorem addP_of {M e:Int} {x y:Nat} (he:-1074≤e) (h:M * 2 ^ (e + 1074).toNat=worth x + worth y):add x y=addP M e x y:=by
 rw [add_worth,← h,mul_pow_neg,natAbs_mul_pow,rounded_at (f:=e) _ _ (by lia)]
 unfold addP
 by_cases c:M=0
 ·rw [if_pos c,if_pos (mul_pow_zero.mpr c)]
 ·rw [if_neg c,if_neg (fun z=>c (mul_pow_zero.mp z))]
section
variable {m1 e1 m2 e2 m e:Int} {x y b:Nat}
theorem Rep.neg (h:Rep m e b):negative b=decide (m < 0∨(m=0∧e = -1)):=by
 have hw:=h.wo
 rw [worth_eq] at hw
 have hp:=ipow_pos (e + 1074).toNat
 by_cases c:2 ^ 63≤b
 ·rw [(negative_iff b).mpr c]
  symm
  rw [decide_eq_true_eq]
  by_cases z:m=0
  ·rcases h.zero z with ⟨_,q⟩ | ⟨q,_⟩
   ·lia
   ·exact .inr ⟨z,q⟩
  ·refine .inl ?_
   rw [if_pos c] at hw
   by_cases y:0 < m
   ·have:0 < m * 2 ^ (e + 1074).toNat:=Int.mul_pos y hp
    lia
   ·lia
 ·rw [(negative_false b).mpr (by lia)]
  symm
  rw [decide_eq_false_iff_not]
  rw [if_neg c] at hw
  rintro (z | ⟨z,q⟩)
  ·have:m * 2 ^ (e + 1074).toNat < 0:=Int.mul_neg_of_neg_of_pos z hp
   lia
  ·rcases h.zero z with ⟨z1,_⟩ | ⟨_,z2⟩
   ·lia
   ·lia
theorem Rep.zeros (h:Rep m e b):m=0↔worth b=0:=by
 rw [h.wo]
 exact mul_pow_zero.symm
theorem Rep.whole0 (h:Rep m e b):m=0↔(whole b).1=0:=by
 rw [h.zeros,← Int.natAbs_eq_zero,worth_abs,Nat.mul_eq_zero]
 have:=two_pos ((whole b).2 + 1074).toNat
 lia
theorem add_zero_sign (h1:Rep m1 e1 x) (h2:Rep m2 e2 y) (h:worth x + worth y=0):(negative x=true∧negative y=true)↔((m1=0∧e1 = -1)∧(m2=0∧e2 = -1)):=by
 rw [h1.neg,h2.neg,decide_eq_true_eq,decide_eq_true_eq]
 constructor
 ·rintro ⟨a,b⟩
  have w1:m1 < 0→worth x < 0:=fun z=>by rw [h1.wo];exact Int.mul_neg_of_neg_of_pos z (ipow_pos _)
  have w2:m2 < 0→worth y < 0:=fun z=>by rw [h2.wo];exact Int.mul_neg_of_neg_of_pos z (ipow_pos _)
  have z1:=h1.zeros
  have z2:=h2.zeros
  rcases a with a | a <;> rcases b with b | b
  ·have:=w1 a;have:=w2 b;lia
  ·have:=w1 a;have:=z2.mp b.1;lia
  ·have:=w2 b;have:=z1.mp a.1;lia
  ·exact ⟨a,b⟩
 ·rintro ⟨a,b⟩
  exact ⟨.inr a,.inr b⟩
theorem opp_worth (hb:Ok b):worth (opposite b) = -worth b∧Ok (opposite b)∧negative (opposite b)=!negative b:=by
 have h64:=hb.1
 have hf:=finite_mod.mp hb.2
 unfold opposite
 by_cases c:2 ^ 63≤b
 ·rw [(negative_iff b).mpr c,if_pos rfl]
  have e1:(b - 2 ^ 63) % 2 ^ 63=b % 2 ^ 63:=by lia
  refine ⟨?_,⟨by lia,finite_mod.mpr (by lia)⟩,(negative_false _).mpr (by lia)⟩
  rw [worth_eq,worth_eq,if_neg (by lia),if_pos c,e1]
  lia
 ·rw [(negative_false b).mpr (by lia),if_neg (by decide)]
  have e1:(b + 2 ^ 63) % 2 ^ 63=b % 2 ^ 63:=by lia
  refine ⟨?_,⟨by lia,finite_mod.mpr (by lia)⟩,(negative_iff _).mpr (by lia)⟩
  rw [worth_eq,worth_eq,if_pos (by lia),if_neg c,e1]
theorem opp_pair (h:Rep m e b):(m≠0→Rep (-m) e (opposite b))∧(m=0→Rep 0 (if e = -1 then 0 else -1) (opposite b)):=by
 obtain ⟨w,o,n⟩:=opp_worth h.ok
 refine ⟨fun z=>⟨o,by rw [Int.natAbs_neg];exact h.mag,h.lo,h.hi,by rw [w,h.wo,Int.neg_mul],fun q=>absurd (by lia) z⟩,fun z=>?_⟩
 rcases h.zero z with ⟨e0,b0⟩ | ⟨e0,b0⟩
 ·rw [e0,b0,if_neg (by decide)]
  exact zero_rep (neg:=true)
 ·rw [e0,b0,if_pos rfl]
  exact zero_rep (neg:=false)
theorem mul_pow_lt {a c:Int} (k:Nat):a * 2 ^ k < c * 2 ^ k↔a < c:=by
 have hp:=ipow_pos k
 constructor
 ·intro h
  exact Int.lt_of_mul_lt_mul_right h (by lia)
 ·intro h
  exact Int.mul_lt_mul_of_pos_right h hp
theorem below_pair1 (h1:Rep m1 e1 x) (h2:Rep m2 e2 y) (h:e2≤e1):below x y=decide (m1 * 2 ^ (e1 - e2).toNat < m2):=by
 unfold below
 have l2:=h2.lo
 rw [h1.wo,h2.wo,show (e1 + 1074).toNat=(e1 - e2).toNat + (e2 + 1074).toNat by lia,Int.pow_add,← Int.mul_assoc,decide_eq_decide]
 exact mul_pow_lt _
theorem below_pair2 (h1:Rep m1 e1 x) (h2:Rep m2 e2 y) (h:e1≤e2):below x y=decide (m1 < m2 * 2 ^ (e2 - e1).toNat):=by
 unfold below
 have l1:=h1.lo
 rw [h1.wo,h2.wo,show (e2 + 1074).toNat=(e2 - e1).toNat + (e1 + 1074).toNat by lia,Int.pow_add,← Int.mul_assoc,decide_eq_decide]
 exact mul_pow_lt _
theorem mul_worth (x y:Nat):mul x y=rounded (negative x != negative y) ((worth x).natAbs * (worth y).natAbs) (-2148) false:=by
 have g1:=whole_ge x
 have g2:=whole_ge y
 rw [worth_abs,worth_abs]
 unfold mul
 rw [show (whole x).1 * 2 ^ ((whole x).2 + 1074).toNat * ((whole y).1 * 2 ^ ((whole y).2 + 1074).toNat)=((whole x).1 * (whole y).1) * 2 ^ (((whole x).2 + 1074).toNat + ((whole y).2 + 1074).toNat) by
  rw [Nat.pow_add,Nat.mul_mul_mul_comm]]
 rw [rounded_at (f:=(whole x).2 + (whole y).2) _ _ (by lia)]
theorem xor_neg (h1:Rep m1 e1 x) (h2:Rep m2 e2 y) (h:m1 * m2≠0):(negative x != negative y)=decide (m1 * m2 < 0):=by
 rw [h1.neg,h2.neg]
 have a0:m1≠0:=fun z=>h (by rw [z,Int.zero_mul])
 have b0:m2≠0:=fun z=>h (by rw [z,Int.mul_zero])
 by_cases a:m1 < 0 <;> by_cases b:m2 < 0
 ·have:=Int.mul_pos_of_neg_of_neg a b
  rw [decide_eq_true (.inl a),decide_eq_true (.inl b),decide_eq_false (by lia)]
  rfl
 ·have:=Int.mul_neg_of_neg_of_pos a (show 0 < m2 by lia)
  rw [decide_eq_true (.inl a),decide_eq_false (by lia),decide_eq_true this]
  rfl
 ·have:=Int.mul_neg_of_pos_of_neg (show 0 < m1 by lia) b
  rw [decide_eq_false (by lia),decide_eq_true (.inl b),decide_eq_true this]
  rfl
 ·have:=Int.mul_pos (show 0 < m1 by lia) (show 0 < m2 by lia)
  rw [decide_eq_false (by lia),decide_eq_false (by lia),decide_eq_false (by lia)]
  rfl
theorem mul_pair (h1:Rep m1 e1 x) (h2:Rep m2 e2 y):mul x y=if m1 * m2=0 then some (signBit (negative x != negative y)) else rounded (decide (m1 * m2 < 0)) (m1 * m2).natAbs (e1 + e2) false:=by
 rw [mul_worth]
 have l1:=h1.lo
 have l2:=h2.lo
 have e:(worth x).natAbs * (worth y).natAbs=(m1 * m2).natAbs * 2 ^ ((e1 + 1074).toNat + (e2 + 1074).toNat):=by
  rw [h1.wo,h2.wo,natAbs_mul_pow,natAbs_mul_pow,Int.natAbs_mul,Nat.pow_add,Nat.mul_mul_mul_comm]
 rw [e,rounded_at (f:=e1 + e2) _ _ (by lia)]
 by_cases c:m1 * m2=0
 ·rw [if_pos c,c]
  rfl
 ·rw [if_neg c,xor_neg h1 h2 c]
theorem quot_left (neg:Bool) (a b:Nat) (f:Int) (i k:Nat):quot neg (a * 2 ^ i) b f k=quot neg a b (f + i) (k + i):=by
 unfold quot
 rw [Nat.mul_assoc,← Nat.pow_add,Nat.add_comm i k]
 congr 1
 lia
theorem quot_right (neg:Bool) (a b:Nat) (f:Int) (j k:Nat):quot neg a (b * 2 ^ j) f (k + j)=quot neg a b (f - j) k:=by
 unfold quot
 rw [Nat.pow_add,← Nat.mul_assoc,Nat.mul_div_mul_right _ _ (two_pos j),Nat.mul_mod_mul_right]
 congr 1
 ·lia
 ·rw [decide_eq_decide]
  have:=two_pos j
  constructor
  ·intro h z
   rw [z,Nat.zero_mul] at h
   exact h rfl
  ·intro h z
   rcases Nat.mul_eq_zero.mp z with q | q
   ·exact h q
   ·lia
theorem quot_le {a b k j:Nat} (hb:0 < b) (h:2 ^ 53≤a * 2 ^ k / b) (hj:k≤j):2 ^ 53≤a * 2 ^ j / b:=by
 refine Nat.le_trans h (Nat.div_le_div_right (Nat.mul_le_mul_left _ (pow_le hj)))
theorem quot_shift (neg:Bool) {a b:Nat} {i j k:Nat} {f:Int} (hb:0 < b) (h:2 ^ 53≤a * 2 ^ k / b) (hf:f=(i:Int) - j):∃ K,2 ^ 53≤a * 2 ^ i * 2 ^ K / (b * 2 ^ j)∧quot neg a b f k=quot neg (a * 2 ^ i) (b * 2 ^ j) 0 K:=by
 refine ⟨k + j,?_,?_⟩
 ·rw [Nat.pow_add,← Nat.mul_assoc,Nat.mul_div_mul_right _ _ (two_pos j),Nat.mul_assoc,← Nat.pow_add]
  exact quot_le hb h (by lia)
 ·rw [quot_right,quot_left,quot_any neg f hb h (quot_le (j:=k + i) hb h (by lia))]
  congr 1
  lia
theorem div_pair (h1:Rep m1 e1 x) (h2:Rep m2 e2 y) (n1:m1≠0) (n2:m2≠0) {k:Nat} (h:2 ^ 53≤m1.natAbs * 2 ^ k / m2.natAbs):div x y=quot (negative x != negative y) m1.natAbs m2.natAbs (e1 - e2) k:=by
 have w1:(whole x).1≠0:=fun z=>n1 (h1.whole0.mpr z)
 have w2:(whole y).1≠0:=fun z=>n2 (h2.whole0.mpr z)
 have l1:=h1.lo
 have l2:=h2.lo
 have g1:=whole_ge x
 have g2:=whole_ge y
 have big:=quot_big w1 (Nat.pos_of_ne_zero w2) (whole_lt y)
 rw [div_any w1 w2 big]
 obtain ⟨K1,q1,r1⟩:=quot_shift (negative x != negative y) (i:=((whole x).2 + 1074).toNat) (j:=((whole y).2 + 1074).toNat) (f:=(whole x).2 - (whole y).2) (Nat.pos_of_ne_zero w2) big (by lia)
 obtain ⟨K2,q2,r2⟩:=quot_shift (negative x != negative y) (i:=(e1 + 1074).toNat) (j:=(e2 + 1074).toNat) (f:=e1 - e2) (show 0 < m2.natAbs by lia) h (by lia)
 rw [r1,r2]
 have ex:(whole x).1 * 2 ^ ((whole x).2 + 1074).toNat=m1.natAbs * 2 ^ (e1 + 1074).toNat:=by rw [← worth_abs,h1.wo,natAbs_mul_pow]
 have ey:(whole y).1 * 2 ^ ((whole y).2 + 1074).toNat=m2.natAbs * 2 ^ (e2 + 1074).toNat:=by rw [← worth_abs,h2.wo,natAbs_mul_pow]
 rw [ex,ey] at q1 ⊢
 refine quot_any _ _ ?_ q1 q2
 have:0 < m2.natAbs:=by lia
 exact Nat.mul_pos this (two_pos _)
def divM (D m2:Int):Int:=D.fdiv m2 * 2 + (if D.fmod m2≠0 then 1 else 0)
theorem divM_abs {a b:Nat} (hb:0 < b) (s1 s2:Bool):divM (if s1=true then -(a:Int) else (a:Int)) (if s2=true then -(b:Int) else (b:Int))=(if (s1 != s2)=true then -(((2 * (a / b) + (if a % b≠0 then 1 else 0):Nat)):Int) else (((2 * (a / b) + (if a % b≠0 then 1 else 0):Nat)):Int)):=by
 have d:=Nat.div_add_mod a b
 have r:=Nat.mod_lt a hb
 unfold divM
 have key:∀ D B Q R:Int,D=B * Q + R→((0 < B∧0≤R∧R < B)∨(B < 0∧B < R∧R≤0))→D.fdiv B=Q∧D.fmod B=R:=by
  intro D B Q R e h
  rcases h with ⟨hB,h0,h1⟩ | ⟨hB,h0,h1⟩
  ·have f1:=Int.fdiv_eq_ediv_of_nonneg D (show 0≤B by lia)
   have f2:=Int.fmod_eq_emod_of_nonneg D (show 0≤B by lia)
   rw [f1,f2,e]
   refine ⟨?_,?_⟩
   ·rw [Int.mul_add_ediv_left _ _ (by lia),Int.ediv_eq_zero_of_lt h0 h1];lia
   ·rw [Int.mul_add_emod_self_left,Int.emod_eq_of_lt h0 h1]
  ·have f1:D.fdiv B=(-D).fdiv (-B):=(Int.neg_fdiv_neg D B).symm
   have f2:D.fmod B = -((-D).fmod (-B)):=by
    have h3:=Int.mul_fdiv_add_fmod D B
    have h4:=Int.mul_fdiv_add_fmod (-D) (-B)
    rw [← f1,Int.neg_mul] at h4
    lia
   have g1:=Int.fdiv_eq_ediv_of_nonneg (-D) (show 0≤-B by lia)
   have g2:=Int.fmod_eq_emod_of_nonneg (-D) (show 0≤-B by lia)
   have e':-D = -B * Q + -R:=by rw [e,Int.neg_mul];lia
   rw [f2,f1,g1,g2,e']
   refine ⟨?_,?_⟩
   ·rw [Int.mul_add_ediv_left _ _ (by lia),Int.ediv_eq_zero_of_lt (by lia) (by lia)];lia
   ·rw [Int.mul_add_emod_self_left,Int.emod_eq_of_lt (by lia) (by lia)];lia
 generalize a / b=q at *
 generalize a % b=t at *
 have dI:(b:Int) * (q:Int) + (t:Int)=(a:Int):=by rw [← Int.natCast_mul];lia
 cases s1 <;> cases s2 <;> simp only [Bool.false_eq_true,if_true,if_false,bne_self_eq_false,Bool.bne_true,Bool.bne_false,Bool.not_true,Bool.not_false,Bool.false_bne,Bool.true_bne]
 ·obtain ⟨k1,k2⟩:=key a b q t dI.symm (.inl ⟨by lia,by lia,by lia⟩)
  rw [k1,k2]
  split <;> (try split) <;> lia
 ·by_cases c:t=0
  ·obtain ⟨k1,k2⟩:=key a (-b) (-q) 0 (by rw [Int.neg_mul_neg];lia) (.inr ⟨by lia,by lia,by lia⟩)
   rw [k1,k2]
   split <;> (try split) <;> lia
  ·obtain ⟨k1,k2⟩:=key a (-b) (-q - 1) ((t:Int) - b) (by rw [Int.mul_sub,Int.neg_mul_neg];lia) (.inr ⟨by lia,by lia,by lia⟩)
   rw [k1,k2]
   split <;> (try split) <;> lia
 ·by_cases c:t=0
  ·obtain ⟨k1,k2⟩:=key (-a) b (-q) 0 (by rw [Int.mul_neg];lia) (.inl ⟨by lia,by lia,by lia⟩)
   rw [k1,k2]
   split <;> (try split) <;> lia
  ·obtain ⟨k1,k2⟩:=key (-a) b (-q - 1) ((b:Int) - t) (by rw [Int.mul_sub,Int.mul_neg];lia) (.inl ⟨by lia,by lia,by lia⟩)
   rw [k1,k2]
   split <;> (try split) <;> lia
 ·obtain ⟨k1,k2⟩:=key (-a) (-b) q (-t) (by rw [Int.neg_mul];lia) (.inr ⟨by lia,by lia,by lia⟩)
  rw [k1,k2]
  split <;> (try split) <;> lia
theorem Rep.sgn (h:Rep m e b) (n:m≠0):m=if negative b=true then -((m.natAbs:Nat):Int) else ((m.natAbs:Nat):Int):=by
 rw [h.neg]
 by_cases c:m < 0
 ·rw [decide_eq_true (.inl c),if_pos rfl];lia
 ·rw [decide_eq_false (by lia),if_neg (by decide)];lia
theorem div_prog (h1:Rep m1 e1 x) (h2:Rep m2 e2 y) (n1:m1≠0) (n2:m2≠0) {k:Nat} (h:2 ^ 53≤m1.natAbs * 2 ^ k / m2.natAbs) :
  divM (m1 * 2 ^ k) m2≠0∧div x y=rounded (decide (divM (m1 * 2 ^ k) m2 < 0)) (divM (m1 * 2 ^ k) m2).natAbs (e1 - e2 - k - 1) false:=by
 have e:divM (m1 * 2 ^ k) m2=(if (negative x != negative y)=true then -(((2 * (m1.natAbs * 2 ^ k / m2.natAbs) + (if m1.natAbs * 2 ^ k % m2.natAbs≠0 then 1 else 0):Nat)):Int) else (((2 * (m1.natAbs * 2 ^ k / m2.natAbs) + (if m1.natAbs * 2 ^ k % m2.natAbs≠0 then 1 else 0):Nat)):Int)):=by
  have d:=divM_abs (a:=m1.natAbs * 2 ^ k) (b:=m2.natAbs) (by lia) (negative x) (negative y)
  rw [← d,← h2.sgn n2]
  congr 1
  have s:=h1.sgn n1
  generalize negative x=s1 at *
  cases s1 with
  | true =>
   rw [if_pos rfl] at s ⊢
   rw [Int.natCast_mul,two_pow_cast,← Int.neg_mul,← s]
  | false =>
   rw [if_neg (by decide)] at s ⊢
   rw [Int.natCast_mul,two_pow_cast,← s]
 rw [div_pair h1 h2 n1 n2 h]
 unfold quot
 rw [e]
 generalize m1.natAbs * 2 ^ k / m2.natAbs=Q at *
 generalize m1.natAbs * 2 ^ k % m2.natAbs=R at *
 generalize (negative x != negative y)=s at *
 have st:=rounded_sticky s (m:=Q) (e1 - e2 - k) (decide (R≠0)) h
 have e3:(if decide (R≠0)=true then 1 else 0)=(if R≠0 then 1 else 0:Nat):=by
  by_cases c:R=0 <;> simp [c]
 rw [e3] at st
 rw [← st]
 generalize (if R≠0 then 1 else 0:Nat)=g at *
 cases s with
 | true =>
  rw [if_pos rfl]
  refine ⟨by lia,?_⟩
  rw [decide_eq_true (by lia),Int.natAbs_neg,Int.natAbs_natCast]
 | false =>
  rw [if_neg (by decide)]
  refine ⟨by lia,?_⟩
  rw [decide_eq_false (by lia),Int.natAbs_natCast]
theorem div_none (h2:Rep 0 e2 y):div x y=none:=div_by_zero (h2.whole0.mp rfl)
theorem div_left0 (h1:Rep 0 e1 x) (h2:Rep m2 e2 y) (n2:m2≠0):div x y=some (signBit (negative x != negative y)):=div_zero_left (h1.whole0.mp rfl) (fun z=>n2 (h2.whole0.mpr z))
end
end Fl
set_option maxRecDepth 10000
namespace Fl
open Sn48
def Near (a m:Nat):Prop:=1≤a∧(a - 1) * (a - 1) < m∧m < (a + 1) * (a + 1)
theorem newton_int {h p u m:Int} (h0:0 < h) (p0:0 < p) (ph:p * p≤4 * h) (u0:0≤u) (l1:4 * h * u≤m) (l2:m < 4 * h * (u + 1)) (lo:(2 * h - p) * (2 * h - p) < m) (hi:m < (2 * h + p) * (2 * h + p)) (p2:p≤2 * h) :
  (h + u - 1) * (h + u - 1) < m∧m < (h + u + 1) * (h + u + 1):=by
 refine ⟨?_,?_⟩
 ·apply Int.not_le.mp
  intro c
  obtain ⟨v,hv⟩:∃ v,v=h + u - 1:=⟨_,rfl⟩
  have hu:u=v - h + 1:=by lia
  rw [← hv] at c
  have v0:0≤v:=by lia
  rw [hu] at l1
  have x1:4 * h * (v - h + 1)=4 * (h * v) - 4 * (h * h) + 4 * h:=by
   rw [Int.mul_add,Int.mul_sub,Int.mul_one,Int.mul_assoc,Int.mul_assoc]
  rw [x1] at l1
  have x2:(2 * h - p) * (2 * h - p)=4 * (h * h) - 4 * (h * p) + p * p:=by
   rw [Int.mul_sub,Int.sub_mul,Int.sub_mul,Int.mul_comm p (2 * h),show 2 * h * (2 * h)=4 * (h * h) by rw [Int.mul_assoc,Int.mul_left_comm h 2 h];lia,Int.mul_assoc]
   lia
  have x3:(2 * h + p) * (2 * h + p)=4 * (h * h) + 4 * (h * p) + p * p:=by
   rw [Int.mul_add,Int.add_mul,Int.add_mul,Int.mul_comm p (2 * h),show 2 * h * (2 * h)=4 * (h * h) by rw [Int.mul_assoc,Int.mul_left_comm h 2 h];lia,Int.mul_assoc]
   lia
  rw [x2] at lo
  rw [x3] at hi
  by_cases c1:2 * h + p≤v
  ·obtain ⟨r,hr⟩:∃ r,v=2 * h + p + r:=⟨v - (2 * h + p),by lia⟩
   have r0:0≤h * r:=Int.mul_nonneg (by lia) (by lia)
   have e:h * v=2 * (h * h) + h * p + h * r:=by
    rw [hr,Int.mul_add,Int.mul_add,Int.mul_left_comm]
   lia
  ·by_cases c2:v≤2 * h - p
   ·have:v * v≤(2 * h - p) * (2 * h - p):=Int.mul_le_mul c2 c2 v0 (by lia)
    rw [x2] at this
    lia
   ·have e:0 < (p - (v - 2 * h)) * (p + (v - 2 * h)):=Int.mul_pos (by lia) (by lia)
    have e2:(p - (v - 2 * h)) * (p + (v - 2 * h))=p * p - (v * v - 4 * (h * v) + 4 * (h * h)):=by
     rw [Int.sub_mul,Int.mul_add,Int.mul_add,Int.sub_mul,Int.sub_mul,Int.mul_sub,Int.mul_sub,Int.mul_sub,Int.mul_comm v p,Int.mul_comm (2 * h) p,Int.mul_comm v (2 * h),
      show 2 * h * (2 * h)=4 * (h * h) by rw [Int.mul_assoc,Int.mul_left_comm h 2 h];lia,Int.mul_assoc]
     lia
    lia
 ·have e:(h + u + 1) * (h + u + 1)=4 * h * (u + 1) + (h - (u + 1)) * (h - (u + 1)):=by
   obtain ⟨w,hw⟩:∃ w,w=u + 1:=⟨_,rfl⟩
   rw [show h + u + 1=h + w by lia,← hw,Int.mul_add,Int.add_mul,Int.add_mul,Int.mul_sub,Int.sub_mul,Int.sub_mul,Int.mul_comm w h,Int.mul_assoc]
   lia
  have q:0≤(h - (u + 1)) * (h - (u + 1)):=by
   rcases Int.le_total 0 (h - (u + 1)) with z | z
   ·exact Int.mul_nonneg z z
   ·exact Int.mul_nonneg_of_nonpos_of_nonpos z z
  lia
theorem pow4 (t:Nat):4 ^ t=2 ^ t * 2 ^ t:=by
 rw [← Nat.mul_pow]
theorem newton {a m0 m1 t:Nat} (R:Near a m0) (hm:m0=m1 / 4 ^ t) (ht:1≤t) (ha:2 ^ (t - 1)≤a):Near (a * 2 ^ (t - 1) + m1 / 2 ^ (t + 1) / a) m1:=by
 obtain ⟨a1,R1,R2⟩:=R
 obtain ⟨j,rfl⟩:∃ j,t=j + 1:=⟨t - 1,by lia⟩
 rw [Nat.add_sub_cancel] at ha ⊢
 rw [pow4] at hm
 have hq:=two_pos j
 have e1:m1 / 2 ^ (j + 1 + 1) / a=m1 / (4 * (a * 2 ^ j)):=by
  rw [Nat.div_div_eq_div_mul]
  congr 1
  rw [Nat.pow_succ,Nat.pow_succ]
  rw [Nat.mul_right_comm (2 ^ j * 2) 2 a,Nat.mul_right_comm (2 ^ j) 2 a,Nat.mul_comm (2 ^ j) a]
  lia
 rw [e1]
 rw [Nat.pow_succ] at hm
 generalize hQ:2 ^ j=q at *
 have h0:0 < a * q:=Nat.mul_pos (by lia) hq
 have d1:=Nat.div_add_mod m1 (4 * (a * q))
 have d2:=Nat.mod_lt m1 (show 0 < 4 * (a * q) by lia)
 have d3:=Nat.div_add_mod m1 (q * 2 * (q * 2))
 have d4:=Nat.mod_lt m1 (show 0 < q * 2 * (q * 2) from Nat.mul_pos (by lia) (by lia))
 rw [← hm] at d3
 generalize m1 / (4 * (a * q))=u at *
 generalize m1 % (4 * (a * q))=r at *
 generalize m1 % (q * 2 * (q * 2))=r2 at *
 have key:=newton_int (h:=((a * q:Nat):Int)) (p:=((q * 2:Nat):Int)) (u:=(u:Int)) (m:=(m1:Int)) (by lia) (by lia) ?k1 (by lia) ?k2 ?k3 ?k4 ?k5 ?k6
 case k1 =>
  rw [← Int.natCast_mul]
  have:q * q≤a * q:=Nat.mul_le_mul_right q ha
  have e:q * 2 * (q * 2)=4 * (q * q):=by rw [Nat.mul_mul_mul_comm];lia
  lia
 case k2 =>
  have:(4 * ((a * q:Nat):Int) * (u:Int))=((4 * (a * q) * u:Nat):Int):=by simp
  lia
 case k3 =>
  have:(4 * ((a * q:Nat):Int) * ((u:Int) + 1))=((4 * (a * q) * u + 4 * (a * q):Nat):Int):=by rw [Int.mul_add];simp
  lia
 case k4 =>
  obtain ⟨c,rfl⟩:∃ c,a=c + 1:=⟨a - 1,by lia⟩
  rw [Nat.add_sub_cancel] at R1
  have e:(2 * (((c + 1) * q:Nat):Int) - ((q * 2:Nat):Int))=((c * (q * 2):Nat):Int):=by
   have z1:(c + 1) * q=c * q + q:=Nat.succ_mul c q
   have z2:c * (q * 2)=c * q * 2:=(Nat.mul_assoc _ _ _).symm
   lia
  rw [e,← Int.natCast_mul]
  have l:(c * c + 1) * (q * 2 * (q * 2))≤m0 * (q * 2 * (q * 2)):=Nat.mul_le_mul_right _ R1
  rw [Nat.add_mul] at l
  have e2:c * (q * 2) * (c * (q * 2))=c * c * (q * 2 * (q * 2)):=Nat.mul_mul_mul_comm _ _ _ _
  rw [e2]
  rw [Nat.mul_comm m0] at l
  have:0 < q * 2 * (q * 2):=Nat.mul_pos (by lia) (by lia)
  lia
 case k5 =>
  have e:(2 * ((a * q:Nat):Int) + ((q * 2:Nat):Int))=(((a + 1) * (q * 2):Nat):Int):=by
   rw [Nat.add_mul]
   have:a * (q * 2)=2 * (a * q):=by rw [← Nat.mul_assoc,Nat.mul_comm]
   lia
  rw [e,← Int.natCast_mul]
  have l:(m0 + 1) * (q * 2 * (q * 2))≤(a + 1) * (a + 1) * (q * 2 * (q * 2)):=Nat.mul_le_mul_right _ R2
  rw [Nat.add_mul,Nat.mul_comm m0] at l
  rw [Nat.mul_mul_mul_comm]
  lia
 case k6 =>
  have:1 * q≤a * q:=Nat.mul_le_mul_right q a1
  lia
 obtain ⟨k1,k2⟩:=key
 refine ⟨by lia,?_,?_⟩
 ·have e:((((a * q:Nat):Int) + (u:Int) - 1))=((a * q + u - 1:Nat):Int):=by lia
  rw [e,← Int.natCast_mul] at k1
  lia
 ·have e:((((a * q:Nat):Int) + (u:Int) + 1))=((a * q + u + 1:Nat):Int):=by lia
  rw [e,← Int.natCast_mul] at k2
  lia
theorem near_ge {a m e:Nat} (R:Near a m) (h:4 ^ e≤m):2 ^ e≤a:=by
 rw [pow4] at h
 apply Nat.not_lt.mp
 intro c
 have:(a + 1) * (a + 1)≤2 ^ e * 2 ^ e:=Nat.mul_le_mul c c
 have:=R.2.2
 lia
def wr1 (n:Nat):Nat:=n / 2 ^ 106 + 1
def wr2 (n:Nat):Nat:=wr1 n * 2 ^ 1 + n / 2 ^ 103 / wr1 n
def wr3 (n:Nat):Nat:=wr2 n * 2 ^ 2 + n / 2 ^ 98 / wr2 n
def wr4 (n:Nat):Nat:=wr3 n * 2 ^ 6 + n / 2 ^ 88 / wr3 n
def wr5 (n:Nat):Nat:=wr4 n * 2 ^ 12 + n / 2 ^ 68 / wr4 n
def wr6 (n:Nat):Nat:=wr5 n * 2 ^ 26 + n / 2 ^ 28 / wr5 n
def wroot (n:Nat):Nat:=if n < wr6 n * wr6 n then wr6 n - 1 else wr6 n
section
variable {n:Nat}
theorem wr_step {a e s t j:Nat} (R:Near a (n / 2 ^ s)) (hn:2 ^ 106≤n) (hs:j + 2 * t=s) (he:2 * e + s=106) (ht:1≤t) (hte:t - 1≤e):Near (a * 2 ^ (t - 1) + n / 2 ^ (j + (t + 1)) / a) (n / 2 ^ j):=by
 have g:4 ^ e≤n / 2 ^ s:=by
  rw [Nat.le_div_iff_mul_le (two_pos _),pow4,← Nat.pow_add,← Nat.pow_add,show e + e + s=106 by lia]
  exact hn
 have r:=newton (m1:=n / 2 ^ j) (t:=t) R (by rw [Nat.div_div_eq_div_mul,pow4,← Nat.pow_add,← Nat.pow_add];congr 2;lia) ht (Nat.le_trans (pow_le hte) (near_ge R g))
 rw [Nat.div_div_eq_div_mul (m:=n) (n:=2 ^ j),← Nat.pow_add] at r
 exact r
theorem wr1_near (hn:2 ^ 106≤n) (h2:n < 2 ^ 108):Near (wr1 n) (n / 2 ^ 104):=by
 have R:Near 1 (n / 2 ^ 106):=⟨Nat.le_refl _,by lia,by lia⟩
 have r:=wr_step (e:=0) (j:=104) (t:=1) R hn rfl rfl (by decide) (by decide)
 have e:1 * 2 ^ (1 - 1) + n / 2 ^ (104 + (1 + 1)) / 1=wr1 n:=by
  unfold wr1
  rw [Nat.div_one]
  lia
 rw [e] at r
 exact r
theorem wr6_near (hn:2 ^ 106≤n) (h2:n < 2 ^ 108):Near (wr6 n) n:=by
 have r1:=wr1_near hn h2
 have r2:Near (wr2 n) (n / 2 ^ 100):=wr_step (e:=1) (j:=100) (t:=2) r1 hn rfl rfl (by decide) (by decide)
 have r3:Near (wr3 n) (n / 2 ^ 94):=wr_step (e:=3) (j:=94) (t:=3) r2 hn rfl rfl (by decide) (by decide)
 have r4:Near (wr4 n) (n / 2 ^ 80):=wr_step (e:=6) (j:=80) (t:=7) r3 hn rfl rfl (by decide) (by decide)
 have r5:Near (wr5 n) (n / 2 ^ 54):=wr_step (e:=13) (j:=54) (t:=13) r4 hn rfl rfl (by decide) (by decide)
 have r6:Near (wr6 n) (n / 2 ^ 0):=wr_step (e:=26) (j:=0) (t:=27) r5 hn rfl rfl (by decide) (by decide)
 rw [Nat.pow_zero,Nat.div_one] at r6
 exact r6
theorem wroot_ok (hn:2 ^ 106≤n) (h2:n < 2 ^ 108):IsRoot n (wroot n):=by
 obtain ⟨a1,l,u⟩:=wr6_near hn h2
 unfold wroot
 by_cases c:n < wr6 n * wr6 n
 ·rw [if_pos c]
  refine ⟨by omega,?_⟩
  rw [Nat.sub_add_cancel a1]
  exact c
 ·rw [if_neg c]
  exact ⟨by omega,u⟩
theorem root_ge {m r k:Nat} (h:IsRoot m r) (hm:2 ^ (2 * k)≤m):2 ^ k≤r:=by
 apply Nat.not_lt.mp
 intro c
 have:(r + 1) * (r + 1)≤2 ^ k * 2 ^ k:=Nat.mul_le_mul c c
 rw [← Nat.pow_add,show k + k=2 * k by lia] at this
 have:=h.2
 lia
end
section
variable {m e:Int} {b:Nat}
def rootK (m e:Int):Int:=108 - bl m - (e - (108 - bl m)) % 2
theorem bl_le (h:Rep m e b) (n:m≠0):1≤bl m∧bl m≤54:=by
 rw [bl_eq n]
 have h1:m.natAbs < 2 ^ 54:=Nat.lt_of_le_of_lt h.mag (by decide)
 have:=(Nat.log2_lt (show m.natAbs≠0 by lia)).mpr h1
 lia
theorem bl_pow {N:Nat} (h:N≠0):2 ^ (bl (N:Int) - 1).toNat≤N∧N < 2 ^ (bl (N:Int)).toNat:=by
 have e:bl (N:Int)=((Nat.log2 N + 1:Nat):Int):=by rw [bl_eq (by lia),Int.natAbs_natCast]
 rw [e,Int.toNat_natCast,show (((Nat.log2 N + 1:Nat):Int) - 1).toNat=Nat.log2 N by lia]
 exact ⟨log2_le h,log2_lt N⟩
theorem root_prog {N:Nat} (h:Rep (N:Int) e b) (n:N≠0):∃ k:Nat,rootK N e=(k:Int)∧2 ^ 106≤N * 2 ^ k∧N * 2 ^ k < 2 ^ 108 ∧
  root b=rounded false (2 * wroot (N * 2 ^ k) + (if wroot (N * 2 ^ k) * wroot (N * 2 ^ k) < N * 2 ^ k then 1 else 0)) ((e - k) / 2 - 1) false:=by
 have nI:(N:Int)≠0:=by lia
 obtain ⟨b1,b2⟩:=bl_le h nI
 obtain ⟨p1,p2⟩:=bl_pow n
 have hk0:0≤rootK N e:=by unfold rootK;lia
 refine ⟨(rootK N e).toNat,by lia,?_⟩
 generalize hk:(rootK N e).toNat=k
 have ek:rootK N e=(k:Int):=by lia
 have kr:(k:Int)=108 - bl N∨(k:Int)=107 - bl N:=by rw [← ek];unfold rootK;lia
 have par:(e - (k:Int)) % 2=0:=by rw [← ek];unfold rootK;lia
 have lo:2 ^ 106≤N * 2 ^ k:=by
  have:2 ^ (bl (N:Int) - 1).toNat * 2 ^ k≤N * 2 ^ k:=Nat.mul_le_mul_right _ p1
  rw [← Nat.pow_add] at this
  exact Nat.le_trans (pow_le (by lia)) this
 have hi:N * 2 ^ k < 2 ^ 108:=by
  have:N * 2 ^ k < 2 ^ (bl (N:Int)).toNat * 2 ^ k:=Nat.mul_lt_mul_of_pos_right p2 (two_pos _)
  rw [← Nat.pow_add] at this
  exact Nat.lt_of_lt_of_le this (pow_le (by lia))
 refine ⟨lo,hi,?_⟩
 have w0:(whole b).1≠0:=fun z=>nI (h.whole0.mpr z)
 have nn:negative b=false:=by rw [h.neg];exact decide_eq_false (by lia)
 have g:=whole_ge b
 have gl:=whole_lt b
 have l:=h.lo
 have ew:(whole b).1 * 2 ^ ((whole b).2 + 1074).toNat=N * 2 ^ (e + 1074).toNat:=by rw [← worth_abs,h.wo,natAbs_mul_pow,Int.natAbs_natCast]
 have lg:Nat.log2 (whole b).1 + ((whole b).2 + 1074).toNat=Nat.log2 N + (e + 1074).toNat:=by
  rw [← log2_mul w0,ew,log2_mul n]
 have lw:=log2_le53 w0 gl
 have eb:bl (N:Int)=((Nat.log2 N + 1:Nat):Int):=by rw [bl_eq nI,Int.natAbs_natCast]
 obtain ⟨k2,hk2⟩:∃ k2:Nat,(k2:Int)=(whole b).2 - e + k:=⟨((whole b).2 - e + k).toNat,by lia⟩
 have em:(whole b).1 * 2 ^ k2=N * 2 ^ k:=by
  rcases Int.le_total (whole b).2 e with c | c
  ·have e1:(whole b).1=N * 2 ^ (e - (whole b).2).toNat:=by
    apply Nat.eq_of_mul_eq_mul_right (two_pos ((whole b).2 + 1074).toNat)
    rw [ew,Nat.mul_assoc,← Nat.pow_add]
    congr 2
    lia
   rw [e1,Nat.mul_assoc,← Nat.pow_add]
   congr 2
   lia
  ·have e1:N=(whole b).1 * 2 ^ ((whole b).2 - e).toNat:=by
    apply Nat.eq_of_mul_eq_mul_right (two_pos (e + 1074).toNat)
    rw [← ew,Nat.mul_assoc,← Nat.pow_add]
    congr 2
    lia
   rw [e1,Nat.mul_assoc,← Nat.pow_add]
   congr 2
   lia
 have rt:=wroot_ok lo hi
 have r53:2 ^ 53≤wroot (N * 2 ^ k):=root_ge rt lo
 have A:=root_any (x:=b) (k:=k2) (r:=wroot (N * 2 ^ k)) w0 nn (by lia) (by rw [em];exact rt) r53
 rw [A,em]
 unfold rootAt
 have st:=rounded_sticky false (m:=wroot (N * 2 ^ k)) ((e - k) / 2) (decide (wroot (N * 2 ^ k) * wroot (N * 2 ^ k)≠N * 2 ^ k)) r53
 have eg:(if decide (wroot (N * 2 ^ k) * wroot (N * 2 ^ k)≠N * 2 ^ k)=true then 1 else 0)=(if wroot (N * 2 ^ k) * wroot (N * 2 ^ k) < N * 2 ^ k then 1 else 0:Nat):=by
  have:=rt.1
  by_cases c:wroot (N * 2 ^ k) * wroot (N * 2 ^ k) < N * 2 ^ k
  ·rw [if_pos c,if_pos (by rw [decide_eq_true_eq];lia)]
  ·rw [if_neg c,if_neg (by rw [decide_eq_true_eq];omega)]
 rw [eg] at st
 rw [st]
 congr 1
 lia
theorem root_of_zero (h:Rep 0 e b):root b=some b:=root_zero (h.whole0.mp rfl)
theorem root_below (h:Rep m e b) (n:m < 0):root b=none:=root_neg (fun z=>by have:=h.whole0.mpr z;lia) (by rw [h.neg];exact decide_eq_true (.inl n))
theorem from_bits {b:Nat} (h:Ok b):(b % 2 ^ 63=0→Rep 0 (if b < 2 ^ 63 then 0 else -1) b) ∧
  (∀ m e:Nat,(m,e)=(if b % 2 ^ 63 / 2 ^ 52=0 then (b % 2 ^ 52,0) else (b % 2 ^ 52 + 2 ^ 52,b % 2 ^ 63 / 2 ^ 52 - 1))→(m=0↔b % 2 ^ 63=0)∧(m≠0→Rep (if b < 2 ^ 63 then (m:Int) else -(m:Int)) ((e:Int) + -1074) b)):=by
 have h64:=h.1
 have hf:=finite_mod.mp h.2
 refine ⟨fun z=>?_,fun m e q=>?_⟩
 ·by_cases c:b < 2 ^ 63
  ·rw [if_pos c,show b=0 by lia]
   exact zero_rep (neg:=false)
  ·rw [if_neg c,show b=2 ^ 63 by lia]
   exact zero_rep (neg:=true)
 ·have em:mag (b % 2 ^ 63)=m * 2 ^ e∧m < 2 ^ 53∧e≤2046∧(m=0↔b % 2 ^ 63=0):=by
   unfold mag
   by_cases c:b % 2 ^ 63 / 2 ^ 52=0
   ·rw [if_pos c] at q
    injection q with q1 q2
    rw [if_pos c,q1,q2]
    lia
   ·rw [if_neg c] at q
    injection q with q1 q2
    rw [if_neg c,q1,q2,show b % 2 ^ 63 % 2 ^ 52=b % 2 ^ 52 by lia]
    lia
  obtain ⟨e1,e2,e3,e4⟩:=em
  refine ⟨e4,fun n=>⟨h,?_,by lia,by lia,?_,?_⟩⟩
  ·split <;> lia
  ·rw [worth_eq,e1,show ((e:Int) + -1074 + 1074).toNat=e by lia]
   by_cases c:b < 2 ^ 63
   ·rw [if_neg (by lia),if_pos c,Int.natCast_mul,two_pow_cast]
   ·rw [if_pos (by lia),if_neg c,Int.natCast_mul,two_pow_cast,Int.neg_mul]
  ·intro z
   split at z <;> lia
def toE (m e:Int):Int:=if -1074 > e + bl m - 53 then -1074 else e + bl m - 53
def toM (m e:Int):Int:=if toE m e≤e then ((m.natAbs:Nat):Int) * 2 ^ (e - toE m e).toNat else ((m.natAbs:Nat):Int) / 2 ^ (toE m e - e).toNat
theorem to_bits (h:Rep m e b) (n:m≠0):(toE m e - -1074) * 4503599627370496 + toM m e + (if 0 < m then 0 else 9223372036854775808)=(b:Int):=by
 have hm:=h.mag
 have hl:=h.lo
 have hw:=h.wo
 have h64:=h.ok.1
 have hM:m.natAbs≠0:=by lia
 have eb:=bl_eq n
 obtain ⟨M',E',hE,hMM,hlt,hge,hv⟩:∃ M' E':Nat,toE m e=(E':Int) - 1074∧toM m e=(M':Int)∧M' < 2 ^ 53∧(0 < E'→2 ^ 52≤M')∧M' * 2 ^ E'=m.natAbs * 2 ^ (e + 1074).toNat:=by
  have hE0:-1074≤toE m e:=by unfold toE;split <;> lia
  have hE1:e + bl m - 53≤toE m e:=by unfold toE;split <;> lia
  have hE2:toE m e = -1074∨toE m e=e + bl m - 53:=by unfold toE;split <;> lia
  obtain ⟨E',hE'⟩:∃ E':Nat,toE m e=(E':Int) - 1074:=⟨(toE m e + 1074).toNat,by lia⟩
  by_cases c:toE m e≤e
  ·refine ⟨m.natAbs * 2 ^ (e - toE m e).toNat,E',hE',?_,?_,?_,?_⟩
   ·unfold toM
    rw [if_pos c,Int.natCast_mul,two_pow_cast]
   ·have h1:=log2_lt m.natAbs
    have h2:m.natAbs * 2 ^ (e - toE m e).toNat < 2 ^ (Nat.log2 m.natAbs + 1) * 2 ^ (e - toE m e).toNat:=Nat.mul_lt_mul_of_pos_right h1 (two_pos _)
    rw [← Nat.pow_add] at h2
    exact Nat.lt_of_lt_of_le h2 (pow_le (by lia))
   ·intro z
    have h1:=log2_le hM
    have h2:2 ^ (Nat.log2 m.natAbs) * 2 ^ (e - toE m e).toNat≤m.natAbs * 2 ^ (e - toE m e).toNat:=Nat.mul_le_mul_right _ h1
    rw [← Nat.pow_add] at h2
    exact Nat.le_trans (pow_le (by lia)) h2
   ·rw [Nat.mul_assoc,← Nat.pow_add]
    congr 2
    lia
  ·have e53:m.natAbs=2 ^ 53:=by
    have:53≤Nat.log2 m.natAbs:=by lia
    have h1:=log2_le hM
    have:=pow_le this
    lia
   have l53:Nat.log2 m.natAbs=53:=by rw [e53,Nat.log2_two_pow]
   have eE:toE m e=e + 1:=by lia
   refine ⟨2 ^ 52,E',hE',?_,by decide,fun _=>Nat.le_refl _,?_⟩
   ·unfold toM
    rw [if_neg c,eE,e53,show (e + 1 - e).toNat=1 by lia]
    decide
   ·have p:2 ^ ((e + 1074).toNat + 1)=2 ^ (e + 1074).toNat * 2:=Nat.pow_succ _ _
    rw [e53,show E'=(e + 1074).toNat + 1 by lia,p]
    generalize 2 ^ (e + 1074).toNat=X
    lia
 have eq:E' * 2 ^ 52 + M'=b % 2 ^ 63:=by
  apply mag_inj
  rw [mag_sum (by lia) hge,hv,← natAbs_mul_pow,← hw,worth_eq]
  split
  ·rw [Int.natAbs_neg,Int.natAbs_natCast]
  ·rw [Int.natAbs_natCast]
 rw [hE,hMM]
 have ng:=h.neg
 by_cases c:0 < m
 ·rw [decide_eq_false (by lia)] at ng
  have:=(negative_false b).mp ng
  rw [if_pos c]
  lia
 ·rw [decide_eq_true (by lia)] at ng
  have:=(negative_iff b).mp ng
  rw [if_neg c]
  lia
end
end Fl
set_option maxRecDepth 10000
namespace Fl
open Sn48
theorem bind_none {α β:Type} (o:Option α):(o.bind fun _=>(none:Option β))=none:=by cases o <;> rfl
theorem mapM_none {α β:Type} {f:α→Option β}:∀ {l:List α} {x:α},x∈l→f x=none→l.mapM f=none
 | a::l,x,hx,h=>by
  rw [mapM_cons]
  rcases List.mem_cons.mp hx with e | e
  ·rw [← e,h];rfl
  ·cases f a with
   | none=>rfl
   | some b=>rw [mapM_none e h];rfl
theorem both_eq (f:F→F→Option F) (p q:P):p.both f q=(f p.x q.x).bind fun x=>(f p.y q.y).bind fun y=>(f p.z q.z).bind fun z=>some ⟨x,y,z⟩:=by
 unfold P.both
 cases f p.x q.x <;> cases f p.y q.y <;> cases f p.z q.z <;> rfl
def axp (p:P) (k:F) (a:P):Option P:=(times k a).bind (plus p)
theorem axp_eq (p:P) (k:F) (a:P):axp p k a=((mul k a.x).bind (add p.x)).bind fun x=>((mul k a.y).bind (add p.y)).bind fun y=>((mul k a.z).bind (add p.z)).bind fun z=>some ⟨x,y,z⟩:=by
 unfold axp times plus
 cases mul k a.x with
 | none=>rfl
 | some x =>
  cases hx:mul k a.y with
  | none=>cases h:add p.x x <;> simp [h]
  | some y =>
   cases hz:mul k a.z with
   | none=>cases h:add p.x x <;> simp [h]
   | some z =>
    show P.both add p ⟨x,y,z⟩=_
    rw [both_eq]
    rfl
theorem square_eq (u:P):square u=(((mul u.x u.x).bind fun a=>(mul u.y u.y).bind fun b=>add a b).bind fun s=>(mul u.z u.z).bind fun c=>add s c):=by
 unfold square
 cases mul u.x u.x with
 | none=>rfl
 | some a =>
  cases mul u.y u.y with
  | none=>rfl
  | some b =>
   cases mul u.z u.z with
   | none=>exact (bind_none _).symm
   | some c=>rfl
def addOne (soft:F) (a:P) (m:F) (d:P) (s:F):Option P:=(add s soft).bind fun s=>(root s).bind fun r=>(mul s r).bind fun t=>(div m t).bind fun f=>axp a f d
theorem pull_eq (w:World) (p a:P) (x:F × P):pull w p a x=(minus x.2 p).bind fun d=>(square d).bind fun s=>addOne w.soft a x.1 d s:=rfl
def sumF:List F→Option F
 | []=>none
 | a::r=>r.foldlM add a
def sumAx (f:P→F) (l:List (F × P)):Option F:=(l.mapM fun a=>mul a.1 (f a.2)).bind sumF
def axG (f:P→F) (r:List (F × P)) (x:F):Option F:=r.foldlM (fun s a=>(mul a.1 (f a.2)).bind (add s)) x
theorem axG_eq (f:P→F):∀ (r:List (F × P)) (x:F),((r.mapM fun a=>mul a.1 (f a.2)).bind fun ps=>ps.foldlM add x)=axG f r x
 | [],x=>rfl
 | a::r,x=>by
  unfold axG
  rw [mapM_cons,foldlM_cons]
  cases h:mul a.1 (f a.2) with
  | none=>rfl
  | some p =>
   show (((r.mapM fun a=>mul a.1 (f a.2)).map fun bs=>p::bs).bind fun ps=>ps.foldlM add x)=(add x p).bind fun c=>axG f r c
   cases hx:add x p with
   | none =>
    cases r.mapM fun a=>mul a.1 (f a.2) with
    | none=>rfl
    | some ps =>
     show (p::ps).foldlM add x=none
     rw [foldlM_cons,hx]
     rfl
   | some x' =>
    show _=axG f r x'
    rw [← axG_eq f r x']
    cases r.mapM fun a=>mul a.1 (f a.2) with
    | none=>rfl
    | some ps =>
     show (p::ps).foldlM add x=ps.foldlM add x'
     rw [foldlM_cons,hx]
     rfl
def sumStep (s:F × P) (x:F × P):Option (F × P):=(add s.1 x.1).bind fun m=>(times x.1 x.2).bind fun u=>(plus s.2 u).map fun p=>(m,p)
theorem sumStep_eq (s x:F × P):sumStep s x=(add s.1 x.1).bind fun m=>(axp s.2 x.1 x.2).map fun p=>(m,p):=by
 unfold sumStep axp
 cases add s.1 x.1 with
 | none=>rfl
 | some m =>
  cases times x.1 x.2 with
  | none=>rfl
  | some u=>rfl
theorem fold_eq:∀ (r:List (F × P)) (m x y z:F),r.foldlM sumStep (m,⟨x,y,z⟩)=((r.map (·.1)).foldlM add m).bind fun M=>(axG P.x r x).bind fun X=>(axG P.y r y).bind fun Y=>(axG P.z r z).bind fun Z=>some (M,⟨X,Y,Z⟩)
 | [],m,x,y,z=>rfl
 | a::r,m,x,y,z=>by
  unfold axG
  rw [List.map_cons,foldlM_cons,foldlM_cons,foldlM_cons,foldlM_cons,foldlM_cons,sumStep_eq,axp_eq]
  dsimp only
  cases add m a.1 with
  | none=>rfl
  | some m' =>
   cases (mul a.1 a.2.x).bind (add x) with
   | none=>exact (bind_none _).symm
   | some x' =>
    cases (mul a.1 a.2.y).bind (add y) with
    | none =>
     simp only [Option.bind_some,Option.bind_none,bind_none]
     rfl
    | some y' =>
     cases (mul a.1 a.2.z).bind (add z) with
     | none =>
      simp only [Option.bind_some,Option.bind_none,bind_none]
      rfl
     | some z'=>exact fold_eq r m' x' y' z'
theorem summed_eq (l:List (F × P)):summed l=(sumF (l.map (·.1))).bind fun M=>((sumAx P.x l).bind fun s=>div s M).bind fun x=>((sumAx P.y l).bind fun s=>div s M).bind fun y=>((sumAx P.z l).bind fun s=>div s M).bind fun z=>some (M,⟨x,y,z⟩):=by
 cases l with
 | nil=>rfl
 | cons a r =>
  have ax:∀ (f:P→F) (c:F),mul a.1 (f a.2)=some c→sumAx f (a::r)=axG f r c:=fun f c h=>by
   unfold sumAx
   rw [mapM_cons,h,← axG_eq]
   cases r.mapM fun a=>mul a.1 (f a.2) <;> rfl
  have ax0:∀ (f:P→F),mul a.1 (f a.2)=none→sumAx f (a::r)=none:=fun f h=>by
   unfold sumAx
   rw [mapM_cons,h]
   rfl
  show (times a.1 a.2).bind (fun t=>(r.foldlM sumStep (a.1,t)).bind fun s=>(parted s.2 s.1).map fun p=>(s.1,p))=_
  rw [List.map_cons]
  show _=((r.map (·.1)).foldlM add a.1).bind _
  unfold times
  cases hx:mul a.1 a.2.x with
  | none =>
   rw [ax0 P.x hx]
   exact (bind_none _).symm
  | some x =>
   cases hy:mul a.1 a.2.y with
   | none =>
    rw [ax0 P.y hy]
    simp only [Option.bind_some,Option.bind_none,bind_none]
   | some y =>
    cases hz:mul a.1 a.2.z with
    | none =>
     rw [ax0 P.z hz]
     simp only [Option.bind_some,Option.bind_none,bind_none,Option.map_none]
    | some z =>
     rw [ax P.x x hx,ax P.y y hy,ax P.z z hz]
     simp only [Option.bind_some,Option.map_some]
     rw [fold_eq]
     cases ((r.map (·.1)).foldlM add a.1) with
     | none=>rfl
     | some M =>
      cases axG P.x r x with
      | none=>rfl
      | some X =>
       cases hY:axG P.y r y with
       | none=>simp only [Option.bind_some,Option.bind_none,bind_none]
       | some Y =>
        cases hZ:axG P.z r z with
        | none=>simp only [Option.bind_some,Option.bind_none,bind_none]
        | some Z =>
         simp only [Option.bind_some]
         unfold parted
         cases div X M <;> cases div Y M <;> cases div Z M <;> rfl
def sel (k:Nat) (less more:P):P:=⟨if k % 2=1 then more.x else less.x,if k / 2 % 2=1 then more.y else less.y,if k / 4=1 then more.z else less.z⟩
def shiftP (f:F→F→Option F) (c:P) (q:F):Option P:=c.both f ⟨q,q,q⟩
theorem middle_sel {c less more:P} {q:F} (h1:shiftP sub c q=some less) (h2:shiftP add c q=some more) {k:Nat}:middle c q k=some (sel k less more):=by
 unfold shiftP at h1 h2
 rw [both_eq] at h1 h2
 obtain ⟨a1,e1,h1⟩:=bind_some h1
 obtain ⟨a2,e2,h1⟩:=bind_some h1
 obtain ⟨a3,e3,h1⟩:=bind_some h1
 obtain ⟨b1,f1,h2⟩:=bind_some h2
 obtain ⟨b2,f2,h2⟩:=bind_some h2
 obtain ⟨b3,f3,h2⟩:=bind_some h2
 cases h1
 cases h2
 dsimp only at e1 e2 e3 f1 f2 f3
 unfold middle sel
 by_cases c1:k % 2=1 <;> by_cases c2:k / 2 % 2=1 <;> by_cases c3:k / 4=1 <;> simp only [c1,c2,c3,if_true,if_false,e1,e2,e3,f1,f2,f3,Option.bind_some,Option.map_some]
theorem middle_less {c:P} {q:F} (h:shiftP sub c q=none):middle c q 0=none:=by
 unfold shiftP at h
 rw [both_eq] at h
 unfold middle
 dsimp only at h
 simp only [Nat.reduceMod,Nat.reduceDiv,Nat.zero_mod,Nat.zero_div]
 simp only [show ¬ (0=1) by decide,if_false]
 cases e1:sub c.x q with
 | none=>rfl
 | some x =>
  cases e2:sub c.y q with
  | none=>rfl
  | some y =>
   cases e3:sub c.z q with
   | none=>rfl
   | some z=>rw [e1,e2,e3] at h;cases h
theorem middle_more {c:P} {q:F} (h:shiftP add c q=none):middle c q 7=none:=by
 unfold shiftP at h
 rw [both_eq] at h
 unfold middle
 dsimp only at h
 simp only [Nat.reduceMod,Nat.reduceDiv,if_true]
 cases e1:add c.x q with
 | none=>rfl
 | some x =>
  cases e2:add c.y q with
  | none=>rfl
  | some y =>
   cases e3:add c.z q with
   | none=>rfl
   | some z=>rw [e1,e2,e3] at h;cases h
theorem part_lt (c p:P):part c p < 8:=by
 unfold part
 split <;> split <;> split <;> lia
def ne:Cell→Bool
 | .none_=>false
 | _=>true
def wholeL (bs:List Body):Cell→List (F × P)
 | .none_=>[]
 | .some_ l=>l.map fun i=>((bs.getD i default).m,(bs.getD i default).at_)
 | .split _ m p _ _=>[(m,p)]
theorem whole_L (bs:List Body) (c:Cell):c.whole bs=some (wholeL bs c):=by cases c <;> rfl
theorem whole_all (bs:List Body):∀ cells:List Cell,cells.mapM (Cell.whole bs)=some (cells.map (wholeL bs))
 | []=>rfl
 | c::l=>by rw [mapM_cons,whole_L,whole_all bs l];rfl
theorem flat_ne (bs:List Body):∀ cells:List Cell,(cells.map (wholeL bs)).flatten=((cells.filter ne).map (wholeL bs)).flatten
 | []=>rfl
 | c::l=>by
  have ih:=flat_ne bs l
  cases c with
  | none_=>rw [List.filter_cons_of_neg (by decide),List.map_cons,List.flatten_cons,ih];rfl
  | some_ a=>rw [List.filter_cons_of_pos rfl,List.map_cons,List.map_cons,List.flatten_cons,List.flatten_cons,ih]
  | split a b c d e=>rw [List.filter_cons_of_pos rfl,List.map_cons,List.map_cons,List.flatten_cons,List.flatten_cons,ih]
theorem fold_ne (w:World) (i n:Nat):∀ (cells:List Cell) (a:P),cells.foldlM (pulled w i (n + 1)) a=(cells.filter ne).foldlM (pulled w i (n + 1)) a
 | [],a=>rfl
 | c::l,a=>by
  cases c with
  | none_ =>
   rw [List.filter_cons_of_neg (by decide),foldlM_cons,pulled_none]
   exact fold_ne w i n l a
  | some_ s =>
   rw [List.filter_cons_of_pos rfl,foldlM_cons,foldlM_cons]
   cases pulled w i (n + 1) a (.some_ s) with
   | none=>rfl
   | some b=>exact fold_ne w i n l b
  | split s m p d e =>
   rw [List.filter_cons_of_pos rfl,foldlM_cons,foldlM_cons]
   cases pulled w i (n + 1) a (.split s m p d e) with
   | none=>rfl
   | some b=>exact fold_ne w i n l b
theorem pulled_parts {w:World} {i N n:Nat} {side m:F} {q:P} {inside:List Nat} {l:List Cell} (hc:COk N n (.split side m q inside l)) (hn:n≤20) (a:P) :
  pulled w i 22 a (.split side m q inside l)=if inside.contains i=true then (l.filter ne).foldlM (pulled w i 22) a else
   (minus q (w.bodies.getD i default).at_).bind fun d=>(square d).bind fun s=>(mul side side).bind fun u=>(mul w.far s).bind fun t=>if below u t=true then addOne w.soft a m d s else (l.filter ne).foldlM (pulled w i 22) a:=by
 cases hc with
 | split n' _ _ _ _ _ h1 h2 h3 h4 h5 h6 h7 =>
  have e:∀ a,l.foldlM (pulled w i 21) a=(l.filter ne).foldlM (pulled w i 22) a:=fun a=>by
   rw [← fold_ne]
   exact foldlM_congr fun c hc b=>pulled_fuel (h7 c hc) (by lia) (by lia)
  rw [pulled_split,e]
  by_cases c:inside.contains i=true
  ·rw [if_pos c,if_pos c]
  ·rw [if_neg c,if_neg c]
   simp only [e,pull_eq]
   cases hd:minus q (w.bodies.getD i default).at_ with
   | none=>rfl
   | some d =>
    cases hs:square d with
    | none=>simp only [Option.bind_some,Option.bind_none,hs]
    | some s=>simp only [Option.bind_some,hs]
def rowsP (rows:List P) (k:F) (others:List P):Option (List P):=(rows.zip others).mapM fun x=>axp x.1 k x.2
def mk3:List F→List P→List P→List Body
 | m::ms,p::ps,v::vs=>⟨m,p,v⟩::mk3 ms ps vs
 | _,_,_=>[]
theorem mk3_of:∀ bs:List Body,mk3 (bs.map (·.m)) (bs.map (·.at_)) (bs.map (·.v))=bs
 | []=>rfl
 | b::bs=>by rw [List.map_cons,List.map_cons,List.map_cons,mk3,mk3_of bs]
theorem mk3_m:∀ {ms:List F} {ps vs:List P},ps.length=ms.length→vs.length=ms.length→(mk3 ms ps vs).map (·.m)=ms
 | [],[],[],_,_=>rfl
 | m::ms,p::ps,v::vs,h1,h2=>by rw [mk3,List.map_cons,mk3_m (by simpa using h1) (by simpa using h2)]
theorem mk3_at:∀ {ms:List F} {ps vs:List P},ps.length=ms.length→vs.length=ms.length→(mk3 ms ps vs).map (·.at_)=ps
 | [],[],[],_,_=>rfl
 | m::ms,p::ps,v::vs,h1,h2=>by rw [mk3,List.map_cons,mk3_at (by simpa using h1) (by simpa using h2)]
theorem mk3_v:∀ {ms:List F} {ps vs:List P},ps.length=ms.length→vs.length=ms.length→(mk3 ms ps vs).map (·.v)=vs
 | [],[],[],_,_=>rfl
 | m::ms,p::ps,v::vs,h1,h2=>by rw [mk3,List.map_cons,mk3_v (by simpa using h1) (by simpa using h2)]
theorem mk3_length:∀ {ms:List F} {ps vs:List P},ps.length=ms.length→vs.length=ms.length→(mk3 ms ps vs).length=ms.length
 | [],[],[],_,_=>rfl
 | m::ms,p::ps,v::vs,h1,h2=>by rw [mk3,List.length_cons,List.length_cons,mk3_length (by simpa using h1) (by simpa using h2)]
theorem rowsP_length {rows:List P} {k:F} {others r:List P} (hl:others.length=rows.length) (h:rowsP rows k others=some r):r.length=rows.length:=by
 have:=mapM_length h
 rw [List.length_zip] at this
 lia
theorem pushed_eq (k:F) (b:Body) (a:P):pushed k b a=(axp b.v k a).map fun v=>{ b with v:=v }:=by
 unfold pushed axp
 cases times k a <;> rfl
theorem drifted_eq (k:F) (b:Body):drifted k b=(axp b.at_ k b.v).map fun p=>{ b with at_:=p }:=by
 unfold drifted axp
 cases times k b.v <;> rfl
theorem rowsP_cons (p:P) (rows:List P) (k:F) (a:P) (others:List P):rowsP (p::rows) k (a::others)=(axp p k a).bind fun v=>(rowsP rows k others).bind fun r=>some (v::r):=by
 unfold rowsP
 rw [List.zip_cons_cons,mapM_cons]
 cases axp p k a with
 | none=>rfl
 | some v=>cases (rows.zip others).mapM fun x=>axp x.1 k x.2 <;> rfl
theorem push_rows (k:F):∀ {ms:List F} {ps vs as:List P},ps.length=ms.length→vs.length=ms.length→as.length=ms.length →
  ((mk3 ms ps vs).zip as).mapM (fun x=>pushed k x.1 x.2)=(rowsP vs k as).bind fun us=>some (mk3 ms ps us)
 | [],[],[],[],_,_,_=>rfl
 | m::ms,p::ps,v::vs,a::as,h1,h2,h3=>by
  rw [mk3,List.zip_cons_cons,mapM_cons,rowsP_cons,push_rows k (by simpa using h1) (by simpa using h2) (by simpa using h3),pushed_eq]
  cases axp v k a with
  | none=>rfl
  | some u=>cases rowsP vs k as <;> rfl
theorem drift_rows (k dt:F):∀ {ms:List F} {ps vs as:List P},ps.length=ms.length→vs.length=ms.length→as.length=ms.length →
  ((mk3 ms ps vs).zip as).mapM (fun x=>(pushed k x.1 x.2).bind fun b=>drifted dt b)=(rowsP vs k as).bind fun us=>(rowsP ps dt us).bind fun qs=>some (mk3 ms qs us)
 | [],[],[],[],_,_,_=>rfl
 | m::ms,p::ps,v::vs,a::as,h1,h2,h3=>by
  rw [mk3,List.zip_cons_cons,mapM_cons,rowsP_cons,drift_rows k dt (by simpa using h1) (by simpa using h2) (by simpa using h3),pushed_eq]
  cases axp v k a with
  | none=>rfl
  | some u =>
   simp only [Option.map_some,Option.bind_some]
   rw [drifted_eq]
   dsimp only
   cases hr:rowsP vs k as with
   | none =>
    simp only [Option.bind_none,Option.map_none]
    cases axp p dt u <;> rfl
   | some us =>
    simp only [Option.bind_some,rowsP_cons]
    cases axp p dt u with
    | none=>rfl
    | some q=>cases rowsP ps dt us <;> rfl
def mp (b:Body):F × P:=(b.m,b.at_)
theorem mp_len {bs bs':List Body} (h:bs.map mp=bs'.map mp):bs.length=bs'.length:=by
 have:=congrArg List.length h
 simpa using this
theorem mp_get {bs bs':List Body} (h:bs.map mp=bs'.map mp) (i:Nat):mp (bs.getD i default)=mp (bs'.getD i default):=by
 have e:∀ l:List Body,mp (l.getD i default)=(l.map mp).getD i (mp default):=fun l=>by
  rw [List.getD_eq_getElem?_getD,List.getD_eq_getElem?_getD,List.getElem?_map]
  cases l[i]? <;> rfl
 rw [e,e,h]
theorem mp_at {bs bs':List Body} (h:bs.map mp=bs'.map mp) (i:Nat):(bs.getD i default).at_=(bs'.getD i default).at_:=congrArg Prod.snd (mp_get h i)
theorem mp_m {bs bs':List Body} (h:bs.map mp=bs'.map mp) (i:Nat):(bs.getD i default).m=(bs'.getD i default).m:=congrArg Prod.fst (mp_get h i)
theorem wholeL_mp {bs bs':List Body} (h:bs.map mp=bs'.map mp) (c:Cell):wholeL bs c=wholeL bs' c:=by
 cases c with
 | none_=>rfl
 | some_ l =>
  unfold wholeL
  apply List.map_congr_left
  intro i _
  rw [mp_at h,mp_m h]
 | split a b c d e=>rfl
theorem split_congr {bs bs':List Body} {n:Nat} {c:P} {hh:F} {l:List Nat} (z:2≤l.length) (e:∀ q,sub8 bs n c q l=sub8 bs' n c q l) (e2:∀ cells:List Cell,cells.mapM (Cell.whole bs)=cells.mapM (Cell.whole bs')):grown bs (n + 1) c hh l=grown bs' (n + 1) c hh l:=by
 rw [grown_split _ _ _ _ z,grown_split _ _ _ _ z]
 generalize mul hh HALF=o1
 generalize mul hh TWO=o2
 cases o1 with
 | none=>rw [Option.bind_none,Option.bind_none]
 | some q =>
  rw [Option.bind_some,Option.bind_some]
  cases o2 with
  | none=>rw [Option.bind_none,Option.bind_none]
  | some side =>
   rw [Option.bind_some,Option.bind_some,e q]
   cases (List.range 8).mapM (sub8 bs' n c q l) with
   | none=>rw [Option.bind_none,Option.bind_none]
   | some cells=>rw [Option.bind_some,Option.bind_some,e2]
theorem sub8_congr {bs bs':List Body} (h:bs.map mp=bs'.map mp) {n:Nat} (ih:∀ c hh l,grown bs n c hh l=grown bs' n c hh l) (c:P) (l:List Nat) (q:F):sub8 bs n c q l=sub8 bs' n c q l:=by
 funext k
 have ef:(l.filter fun i=>part c (bs.getD i default).at_ == k)=l.filter fun i=>part c (bs'.getD i default).at_ == k:=by
  apply List.filter_congr
  intro i _
  rw [mp_at h]
 have eg:∀ d,grown bs n d q (l.filter fun i=>part c (bs.getD i default).at_ == k)=grown bs' n d q (l.filter fun i=>part c (bs'.getD i default).at_ == k):=fun d=>by
  rw [ih,ef]
 unfold sub8
 generalize middle c q k=o
 cases o with
 | none=>rw [Option.bind_none,Option.bind_none]
 | some d=>rw [Option.bind_some,Option.bind_some,eg]
theorem grown_mp {bs bs':List Body} (h:bs.map mp=bs'.map mp) (n:Nat):∀ (c:P) (hh:F) (l:List Nat),grown bs n c hh l=grown bs' n c hh l:=by
 induction n with
 | zero =>
  intro c hh l
  rcases length_cases l with z | ⟨i,z⟩ | z
  ·rw [z,grown_nil,grown_nil]
  ·rw [z,grown_one,grown_one]
  ·rw [grown_zero _ _ _ z,grown_zero _ _ _ z]
 | succ n ih =>
  intro c hh l
  rcases length_cases l with z | ⟨i,z⟩ | z
  ·rw [z,grown_nil,grown_nil]
  ·rw [z,grown_one,grown_one]
  ·have e2:∀ cells:List Cell,cells.mapM (Cell.whole bs)=cells.mapM (Cell.whole bs'):=fun cells=>by
    rw [whole_all,whole_all]
    congr 1
    apply List.map_congr_left
    intro c _
    exact wholeL_mp h c
   exact split_congr z (sub8_congr h ih c l) e2
theorem tree_mp {bs bs':List Body} (h:bs.map mp=bs'.map mp):tree bs=tree bs':=by
 have e:∀ (g:P→F) (l:List Body),l.map (fun b=>g b.at_)=(l.map mp).map fun x=>g x.2:=fun g l=>by
  rw [List.map_map];rfl
 unfold tree
 dsimp only
 rw [e P.x bs,e P.y bs,e P.z bs,e P.x bs',e P.y bs',e P.z bs',h,mp_len h]
 have g:grown bs=grown bs':=by
  funext n c hh l
  exact grown_mp h n c hh l
 rw [g]
theorem pulled_mp {w w':World} (h:w.bodies.map mp=w'.bodies.map mp) (hf:w.far=w'.far) (hs:w.soft=w'.soft) (i:Nat):∀ (n:Nat) (a:P) (c:Cell),pulled w i n a c=pulled w' i n a c:=by
 have e1:=mp_at h
 have e2:=mp_m h
 have ep:pull w=pull w':=by
  funext p a x
  rw [pull_eq,pull_eq,hs]
 intro n
 induction n with
 | zero=>intro a c;rfl
 | succ n ih =>
  intro a c
  cases c with
  | none_=>rfl
  | some_ l =>
   rw [pulled_some,pulled_some]
   simp only [e1,e2,ep]
  | split side m q inside l =>
   have e3:pulled w i n=pulled w' i n:=by
    funext a c
    exact ih a c
   rw [pulled_split,pulled_split]
   simp only [e1,ep,e3,hf]
theorem pulls_eq (w:World) (h:w.bodies≠[]):pulls w=(tree w.bodies).bind fun t=>(List.range w.bodies.length).mapM fun i=>pulled w i 22 default t:=by
 unfold pulls
 cases hb:w.bodies with
 | nil=>exact absurd hb h
 | cons b bs=>rfl
theorem pulls_nil {w:World} (h:w.bodies=[]):pulls w=some []:=by
 unfold pulls
 rw [h]
theorem pulls_mp {w w':World} (h:w.bodies.map mp=w'.bodies.map mp) (hf:w.far=w'.far) (hs:w.soft=w'.soft):pulls w=pulls w':=by
 have hl:=mp_len h
 by_cases hb:w.bodies=[]
 ·have hb':w'.bodies=[]:=List.eq_nil_of_length_eq_zero (by rw [← hl,hb];rfl)
  rw [pulls_nil hb,pulls_nil hb']
 ·have hb':w'.bodies≠[]:=fun z=>hb (List.eq_nil_of_length_eq_zero (by rw [hl,z];rfl))
  have ef:∀ (n:Nat) (t:Cell),((List.range n).mapM fun i=>pulled w i 22 default t)=(List.range n).mapM fun i=>pulled w' i 22 default t:=fun n t=>by
   congr 1
   funext i
   exact pulled_mp h hf hs i _ _ _
  rw [pulls_eq w hb,pulls_eq w' hb',tree_mp h,hl]
  simp only [ef]
def wOf (far soft:F) (ms:List F) (ps vs:List P):World:=⟨far,soft,mk3 ms ps vs⟩
theorem mp_mk3:∀ {ms:List F} {ps vs us:List P},ps.length=ms.length→vs.length=ms.length→us.length=ms.length→(mk3 ms ps vs).map mp=(mk3 ms ps us).map mp
 | [],[],[],[],_,_,_=>rfl
 | m::ms,p::ps,v::vs,u::us,h1,h2,h3=>by
  rw [mk3,mk3,List.map_cons,List.map_cons,mp_mk3 (by simpa using h1) (by simpa using h2) (by simpa using h3)]
  rfl
theorem pulls_v {far soft:F} {ms:List F} {ps vs us:List P} (h1:ps.length=ms.length) (h2:vs.length=ms.length) (h3:us.length=ms.length):pulls (wOf far soft ms ps vs)=pulls (wOf far soft ms ps us) :=
 pulls_mp (mp_mk3 h1 h2 h3) rfl rfl
theorem step1_rows {dt k far soft:F} {ms:List F} {ps vs as:List P} (h1:ps.length=ms.length) (h2:vs.length=ms.length) (hk:mul dt HALF=some k) (hp:pulls (wOf far soft ms ps vs)=some as) :
  step1 dt (wOf far soft ms ps vs)=(rowsP vs k as).bind fun us=>(rowsP ps dt us).bind fun qs=>(pulls (wOf far soft ms qs us)).bind fun cs=>(rowsP us k cs).bind fun ws=>some (wOf far soft ms qs ws):=by
 have ha:as.length=ms.length:=by rw [pulls_length hp];exact mk3_length h1 h2
 unfold step1
 rw [hk,hp]
 simp only [Option.bind_some]
 show ((((mk3 ms ps vs).zip as).mapM fun x=>(pushed k x.1 x.2).bind fun b=>drifted dt b).bind _)=_
 rw [drift_rows k dt h1 h2 ha]
 cases hu:rowsP vs k as with
 | none=>rfl
 | some us =>
  simp only [Option.bind_some]
  have hul:=rowsP_length (by lia) hu
  cases hq:rowsP ps dt us with
  | none=>rfl
  | some qs =>
   have hql:=rowsP_length (by lia) hq
   simp only [Option.bind_some]
   show (pulls (wOf far soft ms qs us)).bind _=_
   cases hc:pulls (wOf far soft ms qs us) with
   | none=>rfl
   | some cs =>
    have hcl:cs.length=ms.length:=by rw [pulls_length hc];exact mk3_length (by lia) (by lia)
    simp only [Option.bind_some]
    rw [push_rows k (by lia) (by lia) hcl]
    cases rowsP us k cs <;> rfl
theorem steps_still {dt:F} {w:World} (h:step1 dt w=some w):∀ n,steps dt n w=some w
 | 0=>rfl
 | n + 1=>by rw [steps_cons,h];exact steps_still h n
theorem kinE_eq (s:F) (b:Body):kinE s b=(((mul HALF b.m).bind fun h=>(square b.v).bind fun q=>mul h q).bind fun t=>add s t):=by
 unfold kinE
 cases square b.v with
 | none=>simp only [Option.bind_none,bind_none]
 | some q=>cases mul HALF b.m <;> rfl
def between (w:World) (i j:Nat):Option F:=(minus (w.bodies.getD j default).at_ (w.bodies.getD i default).at_).bind fun d=>(mul (w.bodies.getD i default).m (w.bodies.getD j default).m).bind fun m=>((square d).bind fun q=>add q w.soft).bind fun q=>(root q).bind fun r=>div m r
theorem pairE_eq (w:World) (i:Nat) (s:F) (j:Nat):pairE w i s j=(between w i j).bind fun t=>sub s t:=by
 unfold pairE between
 cases minus (w.bodies.getD j default).at_ (w.bodies.getD i default).at_ with
 | none=>rfl
 | some d =>
  simp only [Option.bind_some]
  cases mul (w.bodies.getD i default).m (w.bodies.getD j default).m with
  | none=>simp only [Option.bind_none,bind_none]
  | some m =>
   simp only [Option.bind_some]
   cases square d with
   | none=>rfl
   | some q =>
    simp only [Option.bind_some]
    cases add q w.soft with
    | none=>rfl
    | some q' =>
     simp only [Option.bind_some]
     cases root q' with
     | none=>rfl
     | some r=>rfl
end Fl
set_option maxRecDepth 10000
namespace Fl
open Sn48
theorem fb_facts {b:Nat} (hb:Ok b) :
  (¬ 0 < (b:Int) % 9223372036854775808 / 4503599627370496→((b:Int) % 4503599627370496=0→Rep 0 (if (b:Int) < 9223372036854775808 then 0 else -1) b) ∧
   ((b:Int) % 4503599627370496≠0→Rep (if (b:Int) < 9223372036854775808 then (b:Int) % 4503599627370496 else -((b:Int) % 4503599627370496)) ((b:Int) % 9223372036854775808 / 4503599627370496 + -1074) b)) ∧
  (0 < (b:Int) % 9223372036854775808 / 4503599627370496→(b:Int) % 4503599627370496 + 4503599627370496≠0∧Rep (if (b:Int) < 9223372036854775808 then (b:Int) % 4503599627370496 + 4503599627370496 else -((b:Int) % 4503599627370496 + 4503599627370496)) ((b:Int) % 9223372036854775808 / 4503599627370496 - 1 + -1074) b):=by
 obtain ⟨hz,hf⟩:=from_bits hb
 have h64:=hb.1
 have ei:∀ x y:Int,(if (b:Int) < 9223372036854775808 then x else y)=(if b < 2 ^ 63 then x else y):=fun x y=>by
  by_cases c:b < 2 ^ 63
  ·rw [if_pos c,if_pos (by lia)]
  ·rw [if_neg c,if_neg (by lia)]
 refine ⟨fun c=>?_,fun c=>?_⟩
 ·have c':b % 2 ^ 63 / 2 ^ 52=0:=by lia
  obtain ⟨q1,q2⟩:=hf (b % 2 ^ 52) 0 (by rw [if_pos c'])
  have em:(b:Int) % 4503599627370496=((b % 2 ^ 52:Nat):Int):=by lia
  have ee:(b:Int) % 9223372036854775808 / 4503599627370496 + -1074=((0:Nat):Int) + -1074:=by lia
  rw [ei,ei,em,ee]
  exact ⟨fun z=>hz (q1.mp (by lia)),fun z=>q2 (by lia)⟩
 ·have c':¬ b % 2 ^ 63 / 2 ^ 52=0:=by lia
  obtain ⟨q1,q2⟩:=hf (b % 2 ^ 52 + 2 ^ 52) (b % 2 ^ 63 / 2 ^ 52 - 1) (by rw [if_neg c'])
  have em:(b:Int) % 4503599627370496 + 4503599627370496=((b % 2 ^ 52 + 2 ^ 52:Nat):Int):=by lia
  have ee:(b:Int) % 9223372036854775808 / 4503599627370496 - 1 + -1074=((b % 2 ^ 63 / 2 ^ 52 - 1:Nat):Int) + -1074:=by lia
  rw [ei,em,ee]
  exact ⟨by lia,q2 (by lia)⟩
end Fl
namespace Fl
open Sn48
theorem sub_self {x:Nat} (h:Ok x):sub x x=some 0:=by
 obtain ⟨e,_,n⟩:=opp_worth h
 unfold sub
 rw [add_worth,e,if_pos (by omega),n]
 cases negative x <;> rfl
theorem whole_fin {x:Nat} (h:finite x=true):(whole x).2≤971:=by
 have:=(finite_iff x).mp h
 rw [whole_eq]
 split
 ·show (-1074:Int)≤971;decide
 ·dsimp only;omega
theorem rounded_whole {x:Nat} (h:finite x=true) (neg:Bool):∃ r,rounded neg (whole x).1 (whole x).2 false=some r:=by
 have h1:=whole_lt x
 have h2:=whole_ge x
 have h3:=whole_fin h
 generalize (whole x).1=m at *
 generalize (whole x).2=e at *
 rw [rounded_eq]
 by_cases h0:m=0
 ·rw [if_pos h0];exact ⟨_,rfl⟩
 ·rw [if_neg h0]
  have hl:=log2_le53 h0 h1
  have hq:qOf m e≤e:=by unfold qOf;omega
  have hq1:=qOf_ge m e
  have:bitsOf m e false < 2047 * 2 ^ 52:=by
   unfold bitsOf nOf
   rw [if_pos hq]
   by_cases c:qOf m e = -1074
   ·have hn:nOf m e (qOf m e) false≤2 ^ 53:=nOf_le
    unfold nOf at hn
    rw [if_pos hq] at hn
    have:(qOf m e + 1074).toNat=0:=by omega
    rw [this]
    omega
   ·have hd:(e - qOf m e).toNat=52 - Nat.log2 m:=by unfold qOf at *;omega
    have hb:m * 2 ^ (52 - Nat.log2 m) < 2 ^ 53:=by
     have h5:=log2_lt m
     have:2 ^ (Nat.log2 m + 1) * 2 ^ (52 - Nat.log2 m)=2 ^ 53:=by rw [← Nat.pow_add];congr 1;omega
     rw [← this]
     exact Nat.mul_lt_mul_of_pos_right h5 (two_pos _)
    rw [hd]
    have:(qOf m e + 1074).toNat≤2045:=by omega
    have:=Nat.mul_le_mul_right (2 ^ 52) this
    omega
  rw [if_pos this]
  exact ⟨_,rfl⟩
theorem add_nought {x:Nat} (h:Ok x):∃ r,add x 0=some r:=by
 have e0:worth 0=0:=by rw [worth_eq,if_neg (by decide)];rfl
 rw [add_worth,e0,Int.add_zero]
 split
 ·exact ⟨_,rfl⟩
 ·rw [worth_abs,rounded_at (f:=(whole x).2) _ _ (by have:=whole_ge x;omega)]
  exact rounded_whole h.2 _
theorem least_one (x:Nat):least [x]=x:=by
 show (if below x x=true then x else x)=x
 exact ite_self _
theorem greatest_one (x:Nat):greatest [x]=x:=by
 show (if below x x=true then x else x)=x
 exact ite_self _
theorem tree_one {b:Body} (h:BodyOk b):tree [b]=some (.some_ [0]):=by
 obtain ⟨rx,hx⟩:=add_nought h.at_.x
 obtain ⟨ry,hy⟩:=add_nought h.at_.y
 obtain ⟨rz,hz⟩:=add_nought h.at_.z
 have e3:greatest [0,0,0]=0:=by
  show (if below 0 0=true then 0 else 0)=0
  exact ite_self _
 have e4:mul 0 HALF=some 0:=by decide
 unfold tree
 dsimp only
 simp only [List.map_cons,List.map_nil,least_one,greatest_one]
 rw [sub_self h.at_.x,Option.bind_some,sub_self h.at_.y,Option.bind_some,sub_self h.at_.z,Option.bind_some,e3,e4,Option.bind_some]
 have ep:plus ⟨b.at_.x,b.at_.y,b.at_.z⟩ ⟨0,0,0⟩=some ⟨rx,ry,rz⟩:=by
  unfold plus P.both
  dsimp only
  rw [hx,Option.bind_some,hy,Option.bind_some,hz]
  rfl
 rw [ep,Option.bind_some]
 exact grown_one _ _ _ _ _
end Fl
namespace Fl
open Sn48
inductive Handed:Int→List Int→Sn48.Call→Prop
 | begin_ (t e:Int):N64 t→N64 e→Handed 0 [t,e] (.begin_ t.toNat e.toNat)
 | put (m x y z u v w:Int):N64 m→N64 x→N64 y→N64 z→N64 u→N64 v→N64 w→Handed 1 [m,x,y,z,u,v,w] (.put [m.toNat,x.toNat,y.toNat,z.toNat,u.toNat,v.toNat,w.toNat])
 | set (i m x y z u v w:Int):N64 m→N64 x→N64 y→N64 z→N64 u→N64 v→N64 w→Handed 2 [i,m,x,y,z,u,v,w] (.set i [m.toNat,x.toNat,y.toNat,z.toNat,u.toNat,v.toNat,w.toNat])
 | step (n dt:Int):N64 dt→Handed 3 [n,dt] (.step n dt.toNat)
 | get (i:Int):Handed 4 [i] (.get i)
 | energy:Handed 5 [] .energy
theorem seven {m x y z u v w:Int} (h1:N64 m) (h2:N64 x) (h3:N64 y) (h4:N64 z) (h5:N64 u) (h6:N64 v) (h7:N64 w):∀ b∈[m.toNat,x.toNat,y.toNat,z.toNat,u.toNat,v.toNat,w.toNat],b < 2 ^ 64:=by
 intro b hb
 simp only [List.mem_cons,List.not_mem_nil,or_false] at hb
 rcases hb with rfl | rfl | rfl | rfl | rfl | rfl | rfl
 ·exact h1.lt
 ·exact h2.lt
 ·exact h3.lt
 ·exact h4.lt
 ·exact h5.lt
 ·exact h6.lt
 ·exact h7.lt
theorem begin_out {s:Sn48.St} {t e:Nat} (ht:t < 2 ^ 64) (he:e < 2 ^ 64):(Sn48.step s (.begin_ t e)).2.out=[]:=by
 rw [begin_eq s ht he]
 split <;> rfl
theorem put_out (w:World) (l:List F):(Sn48.step (some w) (.put l)).2.out=[]:=by
 rw [put_eq]
 split
 ·rfl
 ·split <;> rfl
theorem set_out (w:World) (i:Int) (l:List F):(Sn48.step (some w) (.set i l)).2.out=[]:=by
 rw [set_eq]
 split
 ·rfl
 ·split <;> rfl
theorem step_out (w:World) (n:Int) (dt:F):(Sn48.step (some w) (.step n dt)).2.out=[]:=by
 rw [step_eq]
 split
 ·rfl
 ·split
  ·rfl
  ·split <;> rfl
theorem get_out (w:World) (i:Int):(Sn48.step (some w) (.get i)).2.out.length≤7:=by
 rw [get_eq]
 split
 ·exact Nat.zero_le _
 ·exact Nat.le_refl 7
theorem energy_out (w:World):(Sn48.step (some w) .energy).2.out.length≤7:=by
 rw [energy_eq]
 split
 ·exact Nat.zero_le _
 ·show 1≤7;decide
def Rel (s:Sn48.St) (w:World) (l:List Int):Prop:=WOk w∧(s=some w∨(s=none∧∃ t e r,l=0::t::e::r∧(Sn48.step none (.begin_ t.toNat e.toNat)).2.value=0))
theorem begin_same {w:World} {t e:Nat} (ht:t < 2 ^ 64) (he:e < 2 ^ 64) (h:(Sn48.step none (.begin_ t e)).2.value=0):Sn48.step none (.begin_ t e)=Sn48.step (some w) (.begin_ t e):=by
 rw [begin_eq none ht he] at h ⊢
 rw [begin_eq (some w) ht he]
 by_cases c:finite t=true∧finite e=true∧t≤2 ^ 63∧e≤2 ^ 63
 ·rw [if_pos c,if_pos c]
 ·rw [if_neg c] at h
  exact absurd (show (-3:Int)=0 from h) (by decide)
theorem next {s:Sn48.St} {w:World} {p:Int} {r:List Int} (hr:Rel s w (p::r)) (hf:Fine s (p::r)) :
  ∃ args rest call w',r=args++rest∧Handed p args call∧(Sn48.step (some w) call).1=some w'∧due s (p::r)=told1 (Sn48.step (some w) call).2++due (some w') rest∧Fine (some w') rest∧WOk w'∧(Sn48.step (some w) call).2.out.length≤7:=by
 obtain ⟨wok,hs⟩:=hr
 rcases hs with rfl | ⟨rfl,t,e,r0,er,hv⟩
 ·have hd:=head_of hf
  cases hd with
  | begin_ t e r h1 h2 h3 =>
   obtain ⟨w',ew,ok⟩:=begin_sok (s:=some w) h1.lt h2.lt (.inl ⟨w,rfl,wok⟩)
   have d:=due_begin hf
   rw [ew] at d h3
   exact ⟨[t,e],r,_,w',rfl,.begin_ t e h1 h2,ew,d,h3,ok,by rw [begin_out h1.lt h2.lt];exact Nat.zero_le _⟩
  | put m x y z u v q r h1 h2 h3 h4 h5 h6 h7 h8 =>
   obtain ⟨w',ew,ok⟩:=put_sok wok (seven h1 h2 h3 h4 h5 h6 h7)
   have d:=due_put hf
   rw [ew] at d h8
   exact ⟨[m,x,y,z,u,v,q],r,_,w',rfl,.put m x y z u v q h1 h2 h3 h4 h5 h6 h7,ew,d,h8,ok,by rw [put_out];exact Nat.zero_le _⟩
  | set i m x y z u v q r h0 h1 h2 h3 h4 h5 h6 h7 h8 =>
   obtain ⟨w',ew,ok⟩:=set_sok (i:=i) wok (seven h1 h2 h3 h4 h5 h6 h7)
   have d:=due_set hf
   rw [ew] at d h8
   exact ⟨[i,m,x,y,z,u,v,q],r,_,w',rfl,.set i m x y z u v q h1 h2 h3 h4 h5 h6 h7,ew,d,h8,ok,by rw [set_out];exact Nat.zero_le _⟩
  | step n dt r h1 h2 h3 =>
   obtain ⟨w',ew,ok⟩:=step_sok (n:=n) (dt:=dt.toNat) wok
   have d:=due_step hf
   rw [ew] at d h3
   exact ⟨[n,dt],r,_,w',rfl,.step n dt h2,ew,d,h3,ok,by rw [step_out];exact Nat.zero_le _⟩
  | get i r h1 h2 =>
   have d:=due_get hf
   rw [get_same] at d h2
   exact ⟨[i],r,_,w,rfl,.get i,get_same w i,d,h2,wok,get_out w i⟩
  | energy r h1 =>
   have d:=due_energy hf
   rw [energy_same] at d h1
   exact ⟨[],r,_,w,rfl,.energy,energy_same w,d,h1,wok,energy_out w⟩
 ·cases er
  have hd:=head_of hf
  cases hd with
  | begin_ t e r h1 h2 h3 =>
   obtain ⟨w',ew,ok⟩:=begin_sok (s:=none) h1.lt h2.lt (.inr hv)
   have d:=due_begin hf
   rw [ew] at d h3
   rw [begin_same (w:=w) h1.lt h2.lt hv] at d ew
   exact ⟨[t,e],r0,_,w',rfl,.begin_ t e h1 h2,ew,d,h3,ok,by rw [begin_out h1.lt h2.lt];exact Nat.zero_le _⟩
theorem first {l:List Int} (h:PySn48.answers_asked l=true):Fine none l∧Rel none ⟨0,0,[]⟩ l:=by
 obtain ⟨f,t,e,r,rfl,hv⟩:=asked_fine h
 refine ⟨f,⟨⟨by decide,by decide⟩,⟨by decide,by decide⟩,by decide,by decide,(fun b hb=>by cases hb),Nat.zero_le _⟩,.inr ⟨rfl,t,e,r,rfl,?_⟩⟩
 have:(Sn48.step none (.begin_ t.toNat e.toNat)).2.value::Sn48Neutral.ints (Sn48.step none (.begin_ t.toNat e.toNat)).2.out=[0]:=hv
 exact (List.cons.inj this).1
end Fl
namespace PySem
open Sem (wp)
open PySem.Spec PyProof.Rows
section
variable {prog:Program} {w:World} {A:Around} {E:Value→Shared→Prop} {s:Shared}
theorem hint_lri:typeLookup (.type "list_reverseiterator") "__length_hint__"=pure (some (.builtin "list_reverseiterator.__length_hint__")):=by rw [typeLookup_type,builtinLookup_eq_fast];kernel_rfl
theorem nolen_lri:typeLookup (.type "list_reverseiterator") "__len__"=pure none:=by rw [typeLookup_type,builtinLookup_eq_fast];kernel_rfl
theorem wpAny_extend_rev {R:Result→Shared→Prop} {I l:Addr} {items:Array Value} (hh:A.handled=none) (hit:s.heap.IsRevIter I l ((items.size:Int) - 1)) (hl:s.heap.IsList l items) (hsz:items.size≤sizeLine)
  (S:Addr) (res:Value) (c₀:Nat) (hS:s.heap.get? S=some { cls:=.type "list",data:=.seq #[] c₀ }) (hSl:S≠l)
  (hR:∀ h' tk acc' c',(∀ b o,b≠S→b≠I→s.heap.get? b=some o→h'.get? b=some o)→h'.get? S=some { cls:=.type "list",dict:=none,data:=.seq acc' c',slots:=#[] } →
   ItemsOf (fun i v=>items[items.size - 1 - i]?=some v) acc' items.size→R (.ok (.ret res)) { s with heap:=h',toks:=tk }) :
  wpAny (model prog w) A.in1 (Builtin.List.listExtendWith (.ref S) (.ref I) res)
   (fun fin s'=>match fin with | .done f=>R (.ok f) s' | .again c'=>c'.quiet=true∧codeAny (model prog w) A c' R s') (fun e s'=>R (.error e) s') s:=by
 have hne:l≠I:=fun e=>by
  obtain ⟨o,ho,hc,_⟩:=hit
  obtain ⟨ol,hol,hcl,_⟩:=hl
  rw [e,ho] at hol
  cases hol
  rw [hc] at hcl
  simp at hcl
 have hSI:S≠I:=fun e=>by
  obtain ⟨o,ho,hc,_⟩:=hit
  rw [e,ho] at hS
  cases hS
  simp at hc
 have hSf:S ∉ [I,l]:=fun hm=>by
  rcases List.mem_cons.mp hm with e | e
  ·exact hSI e
  ·exact hSl (List.mem_singleton.mp e)
 have W:=(Walks.listRev (prog:=prog) (w:=w) (A:=A.in1) hh I l hne items).toS
 have h1:Builtin.List.listSameRef (.ref S) (.ref I)=false:=by simp [Builtin.List.listSameRef,hSI]
 have e0:(items.size:Int) - 1=(items.size:Int) - 1 - ((0:Nat):Int):=by lia
 have hit0:=hit
 rw [e0] at hit0
 unfold Builtin.List.listExtendWith
 refine wpAny_bind (wpAny_typeOf hit.typeIs ?_)
 rw [if_neg (by rw [h1];decide)]
 refine wpAny_bind (wpAny_pyIter_revIter hit ?_)
 refine wpAny_bind (wpAny_holding ?_)
 unfold Builtin.List.listLengthHint
 refine wpAny_bind (wpAny_specialOf hit.typeIs nolen_lri ?_)
 show wpAny _ A.in1 (specialOf (Value.ref I) (Str.ofString "__length_hint__") >>= _) _ _ _
 refine wpAny_bind (wpAny_specialOf hit.typeIs hint_lri ?_)
 (generalize hid:("list_reverseiterator.__length_hint__":String)=id0;wp_delta;rw [show splitId id0=some ("list_reverseiterator","__length_hint__") from by subst hid;decide +kernel];subst hid)
 refine wpAny_bind (wpAny_isInstance (b:=true) hit.typeIs (by rw [isSubtype_type];kernel_rfl) ?_)
 refine wpAny_pure ?_
 rw [if_neg (by decide)]
 refine wpAny_pure ⟨plainId_quiet F.plain_extend_loop _,codeAny_extend_loopS W hsz _ hSf _ items.size 0 _ _ _ rfl (Nat.zero_le _) ⟨Nat.zero_le _,hit0,hl⟩ hS (ItemsOf.nil _) fun s' acc' c' hm hS' hacc=>?_⟩
 rw [Moved.eq_with hm]
 refine hR s'.heap s'.toks acc' c' (fun b o hb hb2 e=>hm.heap b o (fun hmem=>?_) e) hS' hacc
 rcases List.mem_cons.mp hmem with e' | hmem
 ·exact hb e'
 ·exact hb2 (List.mem_singleton.mp hmem)
theorem call_list_rev {Q:Value→Shared→Prop} {I l:Addr} {items:Array Value} (hh:A.handled=none) (hit:s.heap.IsRevIter I l ((items.size:Int) - 1)) (hl:s.heap.IsList l items) (hsz:items.size≤sizeLine)
  (hQ:∀ h' tk acc' c',(∀ b o,b≠I→s.heap.get? b=some o→h'.get? b=some o) →
   h'.get? s.heap.objs.size=some { cls:=.type "list",dict:=none,data:=.seq acc' c',slots:=#[] }→ItemsOf (fun i v=>items[items.size - 1 - i]?=some v) acc' items.size→Q (.ref s.heap.objs.size) { s with heap:=h',toks:=tk }) :
  wpAny (model prog w) A (call (.type "list") [.ref I]) Q E s:=by
 refine callType_codes (Q₁:=fun obj s₁=>obj=.ref s.heap.objs.size∧s₁={ s with heap:=s.heap.push { cls:=.type "list",data:=.seq #[] } }) F.called_list (F.typeCall_list_1 _) F.entry_list_init
  (code_list_new _ ⟨rfl,rfl⟩) fun obj s₁ h₁=>?_
 obtain ⟨rfl,rfl⟩:=h₁
 have hS:(s.heap.push { cls:=.type "list",data:=.seq #[] }).get? s.heap.objs.size=some { cls:=.type "list",data:=.seq #[] }:=Heap.get?_push_size _ rfl
 have hlt:l < s.heap.objs.size:=by obtain ⟨o,ho,_⟩:=hl;exact Heap.lt_size ho
 have hIlt:I < s.heap.objs.size:=by obtain ⟨o,ho,_⟩:=hit;exact Heap.lt_size ho
 refine ⟨⟨_,hS,rfl⟩,F.args_list_init_2 _ _,?_⟩
 show wpAny _ _ (do let old ← Builtin.List.listItems (.ref s.heap.objs.size);Builtin.List.listUpdate (.ref s.heap.objs.size) (fun _=>#[]);letGo old.toList.reverse;Builtin.List.listExtendWith (.ref s.heap.objs.size) (.ref I) .none) _ _ _
 refine wpAny_bind ?_
 unfold Builtin.List.listItems
 refine wpAny_bind (wpAny_seqItems hS rfl (wpAny_pure ?_))
 show wpAny _ _ (updateSeq s.heap.objs.size (fun _=>#[]) >>= fun _=>letGo (#[]:Array Value).toList.reverse >>= fun _=>Builtin.List.listExtendWith (.ref s.heap.objs.size) (.ref I) .none) _ _ _
 refine wpAny_bind (wpAny_updateSeq hS rfl ?_)
 have hS₂:=Heap.get?_update_self (Obj.mapSeq (fun _=>(#[]:Array Value))) hS rfl
 have oth:∀ b o,b≠s.heap.objs.size→s.heap.get? b=some o→((s.heap.push { cls:=.type "list",data:=.seq #[] }).update s.heap.objs.size (Obj.mapSeq (fun _=>(#[]:Array Value)))).get? b=some o :=
  fun b o hb e=>(Heap.get?_update_other _ _ (Ne.symm hb)).trans (Heap.get?_push_of_some _ e)
 refine wpAny_bind (wpAny_letGo ?_)
 refine wpAny_extend_rev (A:=A.in1) hh (hit.at fun o e=>oth I o (Nat.ne_of_lt hIlt) e) (hl.at fun o e=>oth l o (Nat.ne_of_lt hlt) e) hsz _ .none _ hS₂ (Nat.ne_of_gt hlt) fun h' tk acc' c' hk hS' hacc=>?_
 exact ⟨rfl,hQ h' tk acc' c' (fun b o hb e=>hk b o (Nat.ne_of_lt (Heap.lt_size e)) hb (oth b o (Nat.ne_of_lt (Heap.lt_size e)) e)) hS' hacc⟩
end
namespace F
theorem typeCall_zip_3 (a b c:Value):checkTypeCall "zip" ⟨[a,b,c],[]⟩=pure ():=by kernel_rfl
theorem newCall_zip_3 (a b c:Value):checkBuiltinCall "zip.__new__" ⟨[.type "zip",a,b,c],[]⟩=pure ():=by kernel_rfl
theorem args_object_init_4 (a b c d:Value):argsOk "object.__init__" ⟨[a,b,c,d],[]⟩:=by
 unfold argsOk;rw [signature?_of (id:="object.__init__") (n:=['_','_','t','i','n','i','_','_']) (o:=['t','c','e','j','b','o']) (by kernel_rfl) owner_object];kernel_rfl
end F
abbrev IsTrip (h:Heap) (T:Addr) (a b c:Value):Prop:=h.get? T=some { cls:=.type "tuple",data:=.seq #[a,b,c] }
section
variable {prog:Program} {w:World} {A:Around} {E:Value→Shared→Prop} {s:Shared}
theorem wpAny_updateSeq_trip {T:Addr} {a b c x:Value} {k:Nat} {Q:Unit→Shared→Prop} (hT:IsTrip s.heap T a b c)
  (h:∀ h',h'.get? T=some { cls:=.type "tuple",data:=.seq ((#[a,b,c]:Array Value).setIfInBounds k x) }→Heap.SameBut T s.heap h'→Q () { s with heap:=h' }) :
  wpAny (model prog w) A (updateSeq T (·.setIfInBounds k x)) Q E s:=by
 refine wpAny_updateSeq hT rfl (h _ ?_ (Heap.SameBut.update ..))
 rw [Heap.get?_update_self _ hT rfl]
 simp [Obj.mapSeq]
structure Zip3 (h:Heap) (n l1 l2 l3 k:Nat) (f0:Value):Prop where
 z:IsZip h (n + 5) (n + 3) (n + 4) f0
 ti:IsTrip h (n + 3) (.ref n) (.ref (n + 1)) (.ref (n + 2))
 to:∃ a b c,IsTrip h (n + 4) a b c
 i1:h.IsListIter n l1 k
 i2:h.IsListIter (n + 1) l2 k
 i3:h.IsListIter (n + 2) l3 k
theorem ane {a b:Nat} (h:a≠b):@Ne Addr a b:=h
theorem zip3_item {n l1 l2 l3 k:Nat} {xs ys zs:Array Value} {x y z:Value} {Q:Value→Shared→Prop} (b1:l1 < n) (b2:l2 < n) (b3:l3 < n) (Z:Zip3 s.heap n l1 l2 l3 k .none)
  (hl1:s.heap.IsList l1 xs) (hl2:s.heap.IsList l2 ys) (hl3:s.heap.IsList l3 zs) (hx:xs[k]?=some x) (hy:ys[k]?=some y) (hzz:zs[k]?=some z)
  (hQ:∀ h',Zip3 h' n l1 l2 l3 (k + 1) (rawInt s.heap.objs.size)→IsTrip h' s.heap.objs.size x y z→h'.objs.size=s.heap.objs.size + 1 →
   (∀ c o,c≠n→c≠n + 1→c≠n + 2→c≠n + 4→c≠n + 5→s.heap.get? c=some o→h'.get? c=some o)→Q (.ref s.heap.objs.size) { s with heap:=h' }) :
  wpAny (model prog w) A (Builtin.«zip.__next__» ⟨[.ref (n + 5)],[]⟩) (fun fin s'=>∃ v,fin=.done (.ret v)∧Q v s') E s:=by
 obtain ⟨hz,hTI,⟨a,b,c,hTO⟩,h1,h2,h3⟩:=Z
 show wpAny _ _ (field (.ref (n + 5)) 2 >>= _) _ _ _
 refine wpAny_bind (wpAny_field hz rfl (x:=.bool false) rfl ?_)
 show wpAny _ _ (field (.ref (n + 5)) 3 >>= _) _ _ _
 refine wpAny_bind (wpAny_field hz rfl (x:=.ref (n + 3)) rfl ?_)
 refine wpAny_bind (wpAny_seqItems hTI rfl ?_)
 show wpAny _ _ (Builtin.SmallTypes.ownedTupleIsFree (.ref (n + 5)) >>= _) _ _ _
 refine wpAny_bind ?_
 unfold Builtin.SmallTypes.ownedTupleIsFree
 refine wpAny_bind (wpAny_field hz rfl (x:=.none) rfl (wpAny_pure ?_))
 simp only [if_true]
 refine wpAny_bind (wpAny_rule ?_)
 refine wpAny_bind (wpAny_field hz rfl (x:=.ref (n + 4)) rfl ?_)
 refine wpAny_bind (wpAny_setField_rec hz (by simp) fun h₁ hz₁ hs₁=>?_)
 replace hz₁:IsZip h₁ (n + 5) (n + 3) (n + 4) .ellipsis:=hz₁
 refine wpAny_bind ?_
 simp only [List.zipIdx_cons,List.zipIdx_nil,List.forIn_cons,List.forIn_nil]
 refine wpAny_bind (wpAny_bind (wpAny_onRaise ?_))
 show wpAny _ _ (Builtin.SmallTypes.nextOf (.ref n) >>= _) _ _ _
 refine wpAny_bind (wpAny_nextOf_list_item (h1.extBut hs₁.extBut (ane (by lia))) (hl1.extBut hs₁.extBut (ane (by lia))) hx fun h₂ h1₂ hs₂=>wpAny_pure ?_)
 have hTO₂:IsTrip h₂ (n + 4) a b c:=hs₂.extBut _ _ (ane (by lia)) (hs₁.extBut _ _ (ane (by lia)) hTO)
 refine wpAny_bind (wpAny_seqItems hTO₂ rfl ?_)
 refine wpAny_bind (wpAny_updateSeq_trip hTO₂ fun h₃ hTO₃ hs₃=>?_)
 replace hTO₃:IsTrip h₃ (n + 4) x b c:=hTO₃
 refine wpAny_bind (wpAny_letGo (wpAny_pure ?_))
 have e₃:∀ c o,c≠n→c≠n + 4→c≠n + 5→s.heap.get? c=some o→h₃.get? c=some o:=fun c o c1 c2 c3 e=>hs₃.extBut _ _ c2 (hs₂.extBut _ _ c1 (hs₁.extBut _ _ c3 e))
 refine wpAny_bind (wpAny_bind (wpAny_onRaise ?_))
 show wpAny _ _ (Builtin.SmallTypes.nextOf (.ref (n + 1)) >>= _) _ _ _
 refine wpAny_bind (wpAny_nextOf_list_item (h2.at fun o e=>e₃ _ o (ane (by lia)) (ane (by lia)) (ane (by lia)) e) (hl2.at fun o e=>e₃ _ o (ane (by lia)) (ane (by lia)) (ane (by lia)) e) hy fun h₄ h2₄ hs₄=>wpAny_pure ?_)
 have hTO₄:IsTrip h₄ (n + 4) x b c:=hs₄.extBut _ _ (ane (by lia)) hTO₃
 refine wpAny_bind (wpAny_seqItems hTO₄ rfl ?_)
 refine wpAny_bind (wpAny_updateSeq_trip hTO₄ fun h₅ hTO₅ hs₅=>?_)
 replace hTO₅:IsTrip h₅ (n + 4) x y c:=hTO₅
 refine wpAny_bind (wpAny_letGo (wpAny_pure ?_))
 have e₅:∀ c o,c≠n + 1→c≠n + 4→h₃.get? c=some o→h₅.get? c=some o:=fun c o c1 c2 e=>hs₅.extBut _ _ c2 (hs₄.extBut _ _ c1 e)
 refine wpAny_bind (wpAny_bind (wpAny_onRaise ?_))
 show wpAny _ _ (Builtin.SmallTypes.nextOf (.ref (n + 2)) >>= _) _ _ _
 refine wpAny_bind (wpAny_nextOf_list_item (h3.at fun o e=>e₅ _ o (ane (by lia)) (ane (by lia)) (e₃ _ o (ane (by lia)) (ane (by lia)) (ane (by lia)) e)) (hl3.at fun o e=>e₅ _ o (ane (by lia)) (ane (by lia)) (e₃ _ o (ane (by lia)) (ane (by lia)) (ane (by lia)) e)) hzz fun h₆ h3₆ hs₆=>wpAny_pure ?_)
 have hTO₆:IsTrip h₆ (n + 4) x y c:=hs₆.extBut _ _ (ane (by lia)) hTO₅
 refine wpAny_bind (wpAny_seqItems hTO₆ rfl ?_)
 refine wpAny_bind (wpAny_updateSeq_trip hTO₆ fun h₇ hTO₇ hs₇=>?_)
 replace hTO₇:IsTrip h₇ (n + 4) x y z:=hTO₇
 refine wpAny_bind (wpAny_letGo (wpAny_pure (wpAny_pure ?_)))
 have e₇:∀ c o,c≠n + 2→c≠n + 4→h₅.get? c=some o→h₇.get? c=some o:=fun c o c1 c2 e=>hs₇.extBut _ _ c2 (hs₆.extBut _ _ c1 e)
 refine wpAny_bind (wpAny_seqItems hTO₇ rfl ?_)
 refine wpAny_bind (wpAny_newTuple ?_)
 have hsz:h₇.objs.size=s.heap.objs.size:=by rw [hs₇.1,hs₆.1,hs₅.1,hs₄.1,hs₃.1,hs₂.1,hs₁.1]
 have hz₇:IsZip h₇ (n + 5) (n + 3) (n + 4) .ellipsis:=e₇ _ _ (ane (by lia)) (ane (by lia)) (e₅ _ _ (ane (by lia)) (ane (by lia)) (hs₃.extBut _ _ (ane (by lia)) (hs₂.extBut _ _ (ane (by lia)) hz₁)))
 have hk₇:∀ c o,c≠n→c≠n + 1→c≠n + 2→c≠n + 4→c≠n + 5→s.heap.get? c=some o→h₇.get? c=some o:=fun c o c1 c2 c3 c4 c5 e=>e₇ c o c3 c4 (e₅ c o c2 c4 (e₃ c o c1 c4 c5 e))
 have h1₇:h₇.IsListIter n l1 (k + 1):=h1₂.at fun o e=>e₇ _ o (ane (by lia)) (ane (by lia)) (e₅ _ o (ane (by lia)) (ane (by lia)) (hs₃.extBut _ _ (ane (by lia)) e))
 have h2₇:h₇.IsListIter (n + 1) l2 (k + 1):=h2₄.at fun o e=>e₇ _ o (ane (by lia)) (ane (by lia)) (hs₅.extBut _ _ (ane (by lia)) e)
 have h3₇:h₇.IsListIter (n + 2) l3 (k + 1):=h3₆.at fun o e=>hs₇.extBut _ _ (ane (by lia)) e
 have hzlt:n + 5 < h₇.objs.size:=Heap.lt_size hz₇
 show wpAny _ _ (Builtin.SmallTypes.ownedTupleHandOut (.ref (n + 5)) (.ref h₇.objs.size) >>= _) _ _ _
 refine wpAny_bind ?_
 unfold Builtin.SmallTypes.ownedTupleHandOut
 have hz₈:IsZip (h₇.push { cls:=.type "tuple",data:=.seq #[x,y,z] }) (n + 5) (n + 3) (n + 4) .ellipsis:=Heap.get?_push_of_some _ hz₇
 refine wpAny_bind (wpAny_setField_rec hz₈ (by simp) fun h₉ hz₉ hs₉=>?_)
 replace hz₉:IsZip h₉ (n + 5) (n + 3) (n + 4) (rawInt h₇.objs.size):=hz₉
 refine wpAny_setField_rec hz₉ (by simp) fun h₀ hz₀ hs₀=>?_
 replace hz₀:IsZip h₀ (n + 5) (n + 3) (n + 4) (rawInt h₇.objs.size):=hz₀
 have up:∀ c o,c≠n + 5→h₇.get? c=some o→h₀.get? c=some o:=fun c o c1 e=>hs₀.extBut _ _ c1 (hs₉.extBut _ _ c1 (Heap.get?_push_of_some _ e))
 have hT₀:IsTrip h₀ h₇.objs.size x y z:=hs₀.extBut _ _ (ane (by lia)) (hs₉.extBut _ _ (ane (by lia)) (Heap.get?_push_size _ rfl))
 have hz0:h₀.objs.size=h₇.objs.size + 1:=by rw [hs₀.1,hs₉.1,Heap.size_push]
 rw [hsz] at hz₀ hT₀ hz0
 refine wpAny_pure ⟨_,rfl,?_⟩
 show Q (.ref h₇.objs.size) _
 rw [hsz]
 exact hQ h₀ ⟨hz₀,up _ _ (ane (by lia)) (hk₇ _ _ (ane (by lia)) (ane (by lia)) (ane (by lia)) (ane (by lia)) (ane (by lia)) hTI),⟨_,_,_,up _ _ (ane (by lia)) hTO₇⟩,h1₇.at fun o e=>up _ o (ane (by lia)) e,h2₇.at fun o e=>up _ o (ane (by lia)) e,h3₇.at fun o e=>up _ o (ane (by lia)) e⟩
  hT₀ hz0 fun c o c1 c2 c3 c4 c5 e=>up c o c5 (hk₇ c o c1 c2 c3 c4 c5 e)
theorem zip3_end {n l1 l2 l3 k:Nat} {xs:Array Value} {Q:Fin→Shared→Prop} (hh:A.handled=none) (b1:l1 < n) (Z:Zip3 s.heap n l1 l2 l3 k .none) (hl1:s.heap.IsList l1 xs) (hend:xs[k]?=none)
  (hE:∀ h' e,(∀ c o,c≠n→c≠n + 5→s.heap.get? c=some o→h'.get? c=some o)→(∃ o,h'.get? e=some o∧o.cls=.type "StopIteration")→E (.ref e) { s with heap:=h' }) :
  wpAny (model prog w) A (Builtin.«zip.__next__» ⟨[.ref (n + 5)],[]⟩) Q E s:=by
 obtain ⟨hz,hTI,⟨a,b,c,hTO⟩,h1,h2,h3⟩:=Z
 show wpAny _ _ (field (.ref (n + 5)) 2 >>= _) _ _ _
 refine wpAny_bind (wpAny_field hz rfl (x:=.bool false) rfl ?_)
 show wpAny _ _ (field (.ref (n + 5)) 3 >>= _) _ _ _
 refine wpAny_bind (wpAny_field hz rfl (x:=.ref (n + 3)) rfl ?_)
 refine wpAny_bind (wpAny_seqItems hTI rfl ?_)
 show wpAny _ _ (Builtin.SmallTypes.ownedTupleIsFree (.ref (n + 5)) >>= _) _ _ _
 refine wpAny_bind ?_
 unfold Builtin.SmallTypes.ownedTupleIsFree
 refine wpAny_bind (wpAny_field hz rfl (x:=.none) rfl (wpAny_pure ?_))
 simp only [if_true]
 refine wpAny_bind (wpAny_rule ?_)
 refine wpAny_bind (wpAny_field hz rfl (x:=.ref (n + 4)) rfl ?_)
 refine wpAny_bind (wpAny_setField_rec hz (by simp) fun h₁ hz₁ hs₁=>?_)
 replace hz₁:IsZip h₁ (n + 5) (n + 3) (n + 4) .ellipsis:=hz₁
 refine wpAny_bind ?_
 simp only [List.zipIdx_cons,List.zipIdx_nil,List.forIn_cons,List.forIn_nil]
 refine wpAny_bind (wpAny_bind (wpAny_onRaise ?_))
 show wpAny _ _ (Builtin.SmallTypes.nextOf (.ref n) >>= _) _ _ _
 refine wpAny_bind (wpAny_nextOf_list_end hh (h1.extBut hs₁.extBut (ane (by lia))) (hl1.extBut hs₁.extBut (ane (by lia))) hend fun h₂ e hs₂ he=>?_)
 obtain ⟨oe,hoe,hce⟩:=he
 have hz₂:IsZip h₂ (n + 5) (n + 3) (n + 4) .ellipsis:=hs₂ _ _ (ane (by lia)) hz₁
 have hez:e≠n + 5:=fun x=>by subst x;rw [hz₂] at hoe;cases hoe;simp at hce
 exact wpAny_setField_rec hz₂ (by simp) fun h₃ _ hs₃=>hE h₃ e (fun c o c1 c5 x=>hs₃.extBut _ _ c5 (hs₂ _ _ c1 (hs₁.extBut _ _ c5 x))) ⟨oe,hs₃.extBut _ _ hez hoe,hce⟩
theorem wpAny_pyNext_zip3_item {n l1 l2 l3 k:Nat} {xs ys zs:Array Value} {x y z:Value} {Q:Option Value→Shared→Prop} (b1:l1 < n) (b2:l2 < n) (b3:l3 < n) (Z:Zip3 s.heap n l1 l2 l3 k .none)
  (hl1:s.heap.IsList l1 xs) (hl2:s.heap.IsList l2 ys) (hl3:s.heap.IsList l3 zs) (hx:xs[k]?=some x) (hy:ys[k]?=some y) (hzz:zs[k]?=some z)
  (hQ:∀ h',Zip3 h' n l1 l2 l3 (k + 1) (rawInt s.heap.objs.size)→IsTrip h' s.heap.objs.size x y z→h'.objs.size=s.heap.objs.size + 1 →
   (∀ c o,c≠n→c≠n + 1→c≠n + 2→c≠n + 4→c≠n + 5→s.heap.get? c=some o→h'.get? c=some o)→Q (some (.ref s.heap.objs.size)) { s with heap:=h' }) :
  wpAny (model prog w) A (pyNext (.ref (n + 5))) Q E s:=by
 have hT:s.TypeIs (.ref (n + 5)) "zip":=⟨_,Z.z,rfl⟩
 unfold pyNext
 exact wpAny_bind (wpAny_attempt (wpAny_callSpecial?_slot (name:=Str.ofString "__next__") hT F.slot_zip_next
  (wpAny_call_entry F.slot_zip_next hT F.entry_zip_next
   (zip3_item b1 b2 b3 Z hl1 hl2 hl3 hx hy hzz fun h' a1 a2 a3 a4=>wpAny_pure (hQ h' a1 a2 a3 a4)) (F.args_zip_next_1 _))))
theorem wpAny_pyNext_zip3_end {n l1 l2 l3 k:Nat} {xs:Array Value} {Q:Option Value→Shared→Prop} (hh:A.handled=none) (b1:l1 < n) (Z:Zip3 s.heap n l1 l2 l3 k .none) (hl1:s.heap.IsList l1 xs) (hend:xs[k]?=none)
  (hQ:∀ h',(∀ c o,c≠n→c≠n + 5→s.heap.get? c=some o→h'.get? c=some o)→Q none { s with heap:=h' }):wpAny (model prog w) A (pyNext (.ref (n + 5))) Q E s:=by
 have hT:s.TypeIs (.ref (n + 5)) "zip":=⟨_,Z.z,rfl⟩
 unfold pyNext
 refine wpAny_bind (wpAny_attempt (wpAny_callSpecial?_slot (name:=Str.ofString "__next__") hT F.slot_zip_next
  (wpAny_call_entry F.slot_zip_next hT F.entry_zip_next (zip3_end hh b1 Z hl1 hend fun h' e hk he=>?_) (F.args_zip_next_1 _))))
 obtain ⟨o,ho,hc⟩:=he
 refine wpAny_bind (wpAny_isInstance (T:="StopIteration") (b:=true) ⟨o,ho,hc⟩ isSubtype_stop ?_)
 exact wpAny_pure (hQ _ hk)
end
abbrev zpH3 (h:Heap) (l1 l2 l3:Addr):Heap:=(zipH2 h l1 l2).push { cls:=.type "list_iterator",data:=.fields #[.ref l3,.int 0 0] }
abbrev zpH4 (h:Heap) (l1 l2 l3:Addr):Heap:=(zpH3 h l1 l2 l3).push { cls:=.type "tuple",data:=.seq #[.ref h.objs.size,.ref (zipH1 h l1).objs.size,.ref (zipH2 h l1 l2).objs.size] }
abbrev zpH5 (h:Heap) (l1 l2 l3:Addr):Heap:=(zpH4 h l1 l2 l3).push { cls:=.type "tuple",data:=.seq #[.none,.none,.none] }
abbrev zpH6 (h:Heap) (l1 l2 l3:Addr):Heap:=(zpH5 h l1 l2 l3).push { cls:=.type "zip",data:=.fields #[.none,.bool false,.bool false,.ref (zpH3 h l1 l2 l3).objs.size,.ref (zpH4 h l1 l2 l3).objs.size] }
theorem meets_zip_new3 (l1 l2 l3:Addr) (xs ys zs:Array Value) :
  Meets (Builtin.«zip.__new__» ⟨[.type "zip",.ref l1,.ref l2,.ref l3],[]⟩) (fun _ R s=>s.heap.IsList l1 xs∧s.heap.IsList l2 ys∧s.heap.IsList l3 zs ∧
   R (.ok (.ret (.ref (zpH5 s.heap l1 l2 l3).objs.size))) { s with heap:=zpH6 s.heap l1 l2 l3 }) :=
 .of_wp fun prog w A R s h=>by
  obtain ⟨hp,g,d,tk,os⟩:=s;obtain ⟨hl1,hl2,hl3,h⟩:=h
  have hsub:=sub_zip
  have hL1:Heap.IsList (Shared.heap ⟨hp,g,d,tk,os⟩) l1 xs:=hl1
  have hL2:Heap.IsList (Shared.heap ⟨hp.push { cls:=.type "list_iterator",data:=.fields #[.ref l1,.int 0 0] },g,d,tk,os⟩) l2 ys:=Heap.IsList.push hl2 _
  have hL3:Heap.IsList (Shared.heap ⟨(hp.push { cls:=.type "list_iterator",data:=.fields #[.ref l1,.int 0 0] }).push { cls:=.type "list_iterator",data:=.fields #[.ref l2,.int 0 0] },g,d,tk,os⟩) l3 zs:=Heap.IsList.push (Heap.IsList.push hl3 _) _
  wp_walk using wpAny_pyIter_list hL1,wpAny_pyIter_list hL2,wpAny_pyIter_list hL3
  exact ⟨_,rfl,h⟩
section
variable {prog:Program} {w:World} {A:Around} {E:Value→Shared→Prop} {s:Shared}
theorem call_zip_3 {l1 l2 l3:Addr} {xs ys zs:Array Value} {Q:Value→Shared→Prop} (hl1:s.heap.IsList l1 xs) (hl2:s.heap.IsList l2 ys) (hl3:s.heap.IsList l3 zs)
  (h:∀ h',Zip3 h' s.heap.objs.size l1 l2 l3 0 .none→h'.objs.size=s.heap.objs.size + 6→(∀ c o,s.heap.get? c=some o→h'.get? c=some o)→Q (.ref (s.heap.objs.size + 5)) { s with heap:=h' }) :
  wpAny (model prog w) A (call (.type "zip") [.ref l1,.ref l2,.ref l3]) Q E s:=by
 refine callType_new F.called_zip (by decide) (F.typeCall_zip_3 _ _ _) (F.newCall_zip_3 _ _ _) (fun obj=>F.args_object_init_4 obj _ _ _) F.entry_zip_new
  (meets_zip_new3 l1 l2 l3 xs ys zs) ⟨hl1,hl2,hl3,?_⟩
 have z1:(zipH1 s.heap l1).objs.size=s.heap.objs.size + 1:=Heap.size_push ..
 have z2:(zipH2 s.heap l1 l2).objs.size=s.heap.objs.size + 2:=by rw [Heap.size_push,z1]
 have z3:(zpH3 s.heap l1 l2 l3).objs.size=s.heap.objs.size + 3:=by rw [Heap.size_push,z2]
 have z4:(zpH4 s.heap l1 l2 l3).objs.size=s.heap.objs.size + 4:=by rw [Heap.size_push,z3]
 have z5:(zpH5 s.heap l1 l2 l3).objs.size=s.heap.objs.size + 5:=by rw [Heap.size_push,z4]
 have z6:(zpH6 s.heap l1 l2 l3).objs.size=s.heap.objs.size + 6:=by rw [Heap.size_push,z5]
 have g6:(zpH6 s.heap l1 l2 l3).get? (zpH5 s.heap l1 l2 l3).objs.size=some _:=Heap.get?_push_size _ rfl
 have g5:(zpH6 s.heap l1 l2 l3).get? (zpH4 s.heap l1 l2 l3).objs.size=some _:=Heap.get?_push_of_some _ (Heap.get?_push_size _ rfl)
 have g4:(zpH6 s.heap l1 l2 l3).get? (zpH3 s.heap l1 l2 l3).objs.size=some _:=Heap.get?_push_of_some _ (Heap.get?_push_of_some _ (Heap.get?_push_size _ rfl))
 have g3:(zpH6 s.heap l1 l2 l3).get? (zipH2 s.heap l1 l2).objs.size=some _:=Heap.get?_push_of_some _ (Heap.get?_push_of_some _ (Heap.get?_push_of_some _ (Heap.get?_push_size _ rfl)))
 have g2:(zpH6 s.heap l1 l2 l3).get? (zipH1 s.heap l1).objs.size=some _:=Heap.get?_push_of_some _ (Heap.get?_push_of_some _ (Heap.get?_push_of_some _ (Heap.get?_push_of_some _ (Heap.get?_push_size _ rfl))))
 have g1:(zpH6 s.heap l1 l2 l3).get? s.heap.objs.size=some _:=Heap.get?_push_of_some _ (Heap.get?_push_of_some _ (Heap.get?_push_of_some _ (Heap.get?_push_of_some _ (Heap.get?_push_of_some _ (Heap.get?_push_size _ rfl)))))
 show _∧_
 rw [z3,z4,z5] at g6
 rw [z1,z2,z3] at g4
 rw [z4] at g5
 rw [z2] at g3
 rw [z1] at g2
 rw [z5]
 exact ⟨⟨_,g6,rfl⟩,h _ ⟨g6,g4,⟨_,_,_,g5⟩,⟨_,g1,rfl,rfl⟩,⟨_,g2,rfl,rfl⟩,⟨_,g3,rfl,rfl⟩⟩ z6 fun c o x =>
  Heap.get?_push_of_some _ (Heap.get?_push_of_some _ (Heap.get?_push_of_some _ (Heap.get?_push_of_some _ (Heap.get?_push_of_some _ (Heap.get?_push_of_some _ x)))))⟩
end
end PySem
namespace L2
open PySem PySem.Spec PyProof.Rows
def Itz3 (K:PySem.W.Frag) (a b c:Addr):It :=
 ⟨fun i H=>∃ (xs ys zs:List V) (x y z:V),SqL K H a xs∧SqL K H b ys∧SqL K H c zs∧xs[i]?=some x∧ys[i]?=some y∧zs[i]?=some z,
  fun i H v H'=>∃ T x y z,v=.ref T∧H T=none∧H'=upd H T (.tup [x,y,z])∧(∀ xs,SqL K H a xs→xs[i]?=some x)∧(∀ ys,SqL K H b ys→ys[i]?=some y)∧∀ zs,SqL K H c zs→zs[i]?=some z,
  fun i H=>∃ xs:List V,SqL K H a xs∧xs.length≤i⟩
theorem turn_zip3 {P:Program} {w:World} {K:PySem.W.Frag} {elts:List Expr} {kk:Nat} {tpos:Pos} {a b c n:Nat} (ba:a < n) (bb:b < n) (bc:c < n) :
  Turn P w K (.Tuple elts kk tpos) (Itz3 K a b c) [n + 5,n + 4,n + 3,n + 2,n + 1,n] (n + 5) (fun i h=>Zip3 h n a b c i .none) where
 mem:=by simp
 obj:=fun i h st q hq=>by
  obtain ⟨hz,hTI,⟨x,y,z,hTO⟩,⟨o1,e1,_,d1⟩,⟨o2,e2,_,d2⟩,⟨o3,e3,_,d3⟩⟩:=st
  have e':q=n + 5∨q=n + 4∨q=n + 3∨q=n + 2∨q=n + 1∨q=n:=by simpa using hq
  rcases e' with r | r | r | r | r | r
  ·rw [r];exact ⟨_,hz,fun v q=>nomatch q⟩
  ·rw [r];exact ⟨_,hTO,fun v q=>nomatch q⟩
  ·rw [r];exact ⟨_,hTI,fun v q=>nomatch q⟩
  ·rw [r];exact ⟨o3,e3,fun v q=>by rw [d3] at q;cases q⟩
  ·rw [r];exact ⟨o2,e2,fun v q=>by rw [d2] at q;cases q⟩
  ·rw [r];exact ⟨o1,e1,fun v q=>by rw [d1] at q;cases q⟩
 keep:=fun i h h' st k=>by
  obtain ⟨hz,hTI,⟨x,y,z,hTO⟩,h1,h2,h3⟩:=st
  exact ⟨k _ (by simp) _ hz,k _ (by simp) _ hTI,⟨x,y,z,k _ (by simp) _ hTO⟩,h1.at fun o q=>k _ (by simp) o q,h2.at fun o q=>k _ (by simp) o q,h3.at fun o q=>k _ (by simp) o q⟩
 item:=by
  intro X hP hw hK hc i pins s σ H E I hf st hg
  subst hP hw hK
  obtain ⟨xs,ys,zs,x,y,z,hqx,hqy,hqz,hx,hy,hzz⟩:=hg
  obtain ⟨its,rv,p,_⟩:=I.list hqx
  obtain ⟨its2,rv2,p2,_⟩:=I.list hqy
  obtain ⟨its3,rv3,p3,_⟩:=I.list hqz
  obtain ⟨u,hu,ru⟩:=rv.get hx
  obtain ⟨u2,hu2,ru2⟩:=rv2.get hy
  obtain ⟨u3,hu3,ru3⟩:=rv3.get hzz
  have hzl:n + 5 < s.heap.objs.size:=Heap.lt_size st.z
  refine wpAny_pyNext_zip3_item ba bb bc st p.isList p2.isList p3.isList (x:=u) (y:=u2) (z:=u3) (by simpa using hu) (by simpa using hu2) (by simpa using hu3) fun h' Z' hT hsz hk=>?_
  refine ⟨_,rfl,wpAny_letOwnedTupleGo_zip (s:={ s with heap:=h' }) Z'.z fun h'' z'' sb=>?_⟩
  have hT2:h''.get? s.heap.objs.size=some { cls:=.type "tuple",data:=.seq #[u,u2,u3] }:=(sb.2 _ (ane (by lia))).trans hT
  have new:ObjOk X.prog X.w (upd H s.heap.objs.size (.tup [x,y,z])) h'' s.heap.objs.size (.tup [x,y,z]) :=
   ⟨by show 3≤sizeLine;decide,[u,u2,u3],.cons ru (.cons ru2 (.cons ru3 .nil)),⟨_,hT2,rfl,_,rfl⟩⟩
  have I1:Inv X pins σ (upd H s.heap.objs.size (.tup [x,y,z])) { s with heap:=h'' } :=
   I.turnedNew (t':=s.toks) (ch:=[n + 5,n + 4,n + 3,n + 2,n + 1,n]) (fun q o hb e=>(sb.2 q (fun q'=>hb (by simp [q']))).trans (hk q o (fun q'=>hb (by simp [q'])) (fun q'=>hb (by simp [q'])) (fun q'=>hb (by simp [q'])) (fun q'=>hb (by simp [q'])) (fun q'=>hb (by simp [q'])) e)) hf (Nat.le_refl _) new
  obtain ⟨a1,a2,⟨t1,t2,t3,a3⟩,a4,a5,a6⟩:=Z'
  refine ⟨.ref s.heap.objs.size,_,I1,rfl,⟨_,x,y,z,rfl,I.hok.fresh (Nat.le_refl _),rfl,fun l hl=>by rw [I.list_inj hl hqx];exact hx,fun l hl=>by rw [I.list_inj hl hqy];exact hy,fun l hl=>by rw [I.list_inj hl hqz];exact hzz⟩,
   ⟨z'',(sb.2 _ (ane (by lia))).trans a2,⟨t1,t2,t3,(sb.2 _ (ane (by lia))).trans a3⟩,a4.at fun o q=>(sb.2 _ (ane (by lia))).trans q,a5.at fun o q=>(sb.2 _ (ane (by lia))).trans q,a6.at fun o q=>(sb.2 _ (ane (by lia))).trans q⟩,fun q hq=>?_⟩
  have hlt:q < s.heap.objs.size:=by
   have e':(q:Nat)=n + 5∨(q:Nat)=n + 4∨(q:Nat)=n + 3∨(q:Nat)=n + 2∨(q:Nat)=n + 1∨(q:Nat)=n:=by simpa using hq
   rcases e' with z | z | z | z | z | z <;> rw [z] <;> exact Nat.lt_of_le_of_lt (by first | exact Nat.le_refl _ | exact Nat.le_add_right _ _ | exact Nat.add_le_add_left (by decide) _) hzl
  rw [uN (Nat.ne_of_lt hlt)]
  exact (hf q hq).1
 done:=by
  intro X hP hw hK hc i pins s σ H E I hf st hg
  subst hP hw hK
  obtain ⟨xs,hqx,hend⟩:=hg
  obtain ⟨its,rv,p,_⟩:=I.list hqx
  have l1:=rv.length
  exact wpAny_pyNext_zip3_end (I.ok.hd hc) ba st p.isList (by simp;lia) fun h' hk=>⟨rfl,I.turnedL (t':=s.toks) (ch:=[n + 5,n + 4,n + 3,n + 2,n + 1,n]) (fun q o hb e=>hk q o (fun q'=>hb (by simp [q'])) (fun q'=>hb (by simp [q'])) e) hf⟩
 self:=fun A i s Q E st h=>wpAny_pyIter_zip st.z h
def iZip3 (K:PySem.W.Frag) (ta:TA):TI:=fun σ H R=>ta σ H fun vs H1=>∃ a b c xs ys zs,vs=[.ref a,.ref b,.ref c]∧SqL K H1 a xs∧SqL K H1 b ys∧SqL K H1 c zs∧R (Itz3 K a b c) H1
theorem pi_zip3 {X:Cx} {e e2 e3:Expr} {ta:TA} {p pos tpos:Pos} {elts:List Expr} {kk:Nat} (hg:Gl X "zip") (hm:X.mg "zip"=none) (ha:PA X [e,e2,e3] ta)
  (hs:starEach [e,e2,e3] X.env=(false,eval e X.env)::starEach [e2,e3] X.env:=by rfl) (hpl:(backTo pos (starEach [e2,e3] X.env)).any (·.1)=false:=by rfl) :
  PI X (.Tuple elts kk tpos) (.Call (.Name "zip" p) [e,e2,e3] [] pos) (iZip3 X.K ta):=by
 intro pins s σ H R I h
 refine Call_ (ld_blt I hg hm boot_zip5 (PyProof.Rows.callWith_type1 (thn (ha pos pins s σ H _ I h) fun us s1 ⟨vs,H1,I1,r1,q1⟩=>?_) hs hpl))
 obtain ⟨a,b,c,xs,ys,zs,ex,hqx,hqy,hqz,q⟩:=q1
 subst ex
 cases r1 with
 | cons r rr =>
  cases rr with
  | cons r' rr =>
   cases rr with
   | cons r'' rr =>
    cases rr
    cases r
    cases r'
    cases r''
    obtain ⟨its,rv,p1,_⟩:=I1.list hqx
    obtain ⟨its2,rv2,p2,_⟩:=I1.list hqy
    obtain ⟨its3,rv3,p3,_⟩:=I1.list hqz
    refine call_zip_3 p1.isList p2.isList p3.isList fun h' Z hsz hk=>wpAny_pyIter_zip Z.z ?_
    have I2:Inv X pins σ H1 { s1 with heap:=h' }:=I1.kept (t':=s1.toks) hk
    refine ⟨s1.heap.objs.size + 5,[s1.heap.objs.size + 5,s1.heap.objs.size + 4,s1.heap.objs.size + 3,s1.heap.objs.size + 2,s1.heap.objs.size + 1,s1.heap.objs.size],_,_,H1,rfl,I2,turn_zip3 p1.lt p2.lt p3.lt,Z,fun q hq=>?_,q⟩
    have e':q=s1.heap.objs.size + 5∨q=s1.heap.objs.size + 4∨q=s1.heap.objs.size + 3∨q=s1.heap.objs.size + 2∨q=s1.heap.objs.size + 1∨q=s1.heap.objs.size:=by simpa using hq
    have hle:s1.heap.objs.size≤q:=by
     rcases e' with z | z | z | z | z | z <;> rw [z] <;> first | exact Nat.le_add_right _ _ | exact Nat.le_refl _
    exact I1.fpOk hle (I1.hok.fresh hle)
theorem vals_of_get:∀ {xs:List V} {us:List Value},xs.length=us.length→(∀ (i:Nat) (x:V) (u:Value),xs[i]?=some x→us[i]?=some u→RelV x u)→Vals xs us
 | [],[],_,_=>.nil
 | x::xs,u::us,h,k=>.cons (k 0 x u rfl rfl) (vals_of_get (by simpa using h) fun i y w a b=>k (i + 1) y w (by simpa using a) (by simpa using b))
section
variable {X:Cx}
theorem call_rangeV:CallR X (.type "range") (fun xs H Q=>∃ j:Int,xs=[.int j]∧∀ p,H p=none→Q (.ref p) (upd H p (.rng 0 j))):=by
 intro pins s σ H xs us Q I r q
 obtain ⟨j,rfl,q⟩:=q
 obtain ⟨u,rfl,t,rfl⟩:=vals1 r
 refine call_range_1 ⟨.ref s.heap.objs.size,_,I.laid (o:=.rng 0 j) (fun b o e=>Heap.get?_push_of_some _ e) (Nat.le_refl _) ⟨_,_,_,Heap.get?_push_size _ rfl⟩,rfl,q _ I.fresh⟩
theorem call_listRng (hc:X.calm=true):CallR X (.type "list") (fun xs H Q=>∃ p j,xs=[.ref p]∧H p=some (.rng 0 j)∧0≤j∧j≤2 ^ 24∧∀ l,H l=none→Q (.ref l) (upd H l (.lst ((List.range j.toNat).map fun i=>V.int (i:Nat))))):=by
 intro pins s σ H xs us Q I r q
 obtain ⟨p,j,rfl,hp,h0,h1,q⟩:=q
 obtain ⟨u,rfl,ru⟩:=vals1 r
 cases ru
 obtain ⟨t,u,v,e⟩:=I.hok p _ hp
 have hn:Builtin.Range.rangeSize 0 j 1=((j.toNat:Nat):Int):=by rw [rangeSize_one];split <;> lia
 refine call_list_range (I.ok.hd hc) e (small_one (by lia) (by lia) (by lia) (by lia)) hn (by lia) fun h' tk acc' c' hk hS hacc=>?_
 have hz:((List.range j.toNat).map fun i=>V.int (i:Nat)).length≤sizeLine:=by
  rw [List.length_map,List.length_range,sizeLine_eq]
  lia
 refine ⟨.ref s.heap.objs.size,_,I.laid (o:=.lst ((List.range j.toNat).map fun i=>V.int (i:Nat))) hk (Nat.le_refl _) ⟨hz,acc'.toList,c',?_,by simpa using hS⟩,rfl,q _ I.fresh⟩
 refine vals_of_get (by simp [hacc.1]) fun i x u hx hu=>?_
 rw [List.getElem?_map] at hx
 have hu':acc'[i]?=some u:=by simpa using hu
 obtain ⟨tt,rfl⟩:=hacc.2 i u hu'
 have hlt:i < j.toNat:=by
  have:=(Array.getElem?_eq_some_iff.mp hu').1
  rw [hacc.1] at this;exact this
 rw [List.getElem?_range hlt] at hx
 cases hx
 exact ⟨tt,by simp⟩
theorem pe_listRev {e:Expr} {ta:TA} {p1 p2 pos1 pos2:Pos} (hc:X.calm=true) (hg:Gl X "list") (hm:X.mg "list"=none) (hg2:Gl X "reversed") (hm2:X.mg "reversed"=none) (ha:PA X [e] ta) (hs:starEach [e] X.env=[(false,eval e X.env)]:=by rfl)
  (hs1:starEach [.Call (.Name "reversed" p2) [e] [] pos2] X.env=[(false,eval (.Call (.Name "reversed" p2) [e] [] pos2) X.env)]:=by rfl) :
  PE X (.Call (.Name "list" p1) [.Call (.Name "reversed" p2) [e] [] pos2] [] pos1) (fun σ H Q=>ta σ H fun vs H1=>∃ a ys,vs=[.ref a]∧SqL X.K H1 a ys∧∀ l,H1 l=none→Q (.ref l) (upd H1 l (.lst ys.reverse))):=by
 intro pins s σ H Q I h
 refine wpAny_Call_Name_kw (ld_blt I hg hm PyProof.Rows.boot_list ?_)
 refine PyProof.Rows.callWith_type1 ?_ hs1 rfl
 rw [hs1]
 show wpAny _ _ (spliced ((false,eval (.Call (.Name "reversed" p2) [e] [] pos2) X.env)::[])) _ _ s
 refine Calls.spliced_cons ?_
 refine Call_ (ld_blt I hg2 hm2 boot_reversed5 (PyProof.Rows.callWith_type1 (thn (ha pos2 pins s σ H _ I h) fun us s1 ⟨vs,H1,I1,r1,q1⟩=>?_) hs rfl))
 obtain ⟨a,ys,ex,hq,q⟩:=q1
 subst ex
 obtain ⟨u,rfl,ru⟩:=vals1 r1
 cases ru
 obtain ⟨its,rv,p',hz⟩:=I1.list hq
 have hl:=rv.length
 refine call_reversed_list p'.isList (Calls.spliced_nil ?_)
 have hit:(s1.heap.push (revObj a ((its.toArray.size:Int) - 1))).IsRevIter s1.heap.objs.size a ((its.toArray.size:Int) - 1):=⟨_,Heap.get?_push_size _ rfl,rfl,rfl⟩
 refine call_list_rev (s:={ s1 with heap:=s1.heap.push (revObj a ((its.toArray.size:Int) - 1)) }) (I.ok.hd hc) hit (p'.isList.push _) (by simp only [List.size_toArray];lia) fun h' tk acc' c' hk hS hacc=>?_
 have zp:(s1.heap.push (revObj a ((its.toArray.size:Int) - 1))).objs.size=s1.heap.objs.size + 1:=Heap.size_push ..
 have hr:Vals ys.reverse acc'.toList:=by
  refine vals_of_get (by simp [hacc.1,hl]) fun i x u hx hu=>?_
  have hu':acc'[i]?=some u:=by simpa using hu
  have hi:i < its.toArray.size:=by
   have:=(Array.getElem?_eq_some_iff.mp hu').1
   rw [hacc.1] at this;exact this
  have hi':i < ys.length:=by simp only [List.size_toArray] at hi;lia
  have e2:=hacc.2 i u hu'
  rw [List.getElem?_reverse hi'] at hx
  obtain ⟨w',hw,rw'⟩:=rv.get hx
  have e3:its[ys.length - 1 - i]?=some u:=by
   have:its.toArray.size - 1 - i=ys.length - 1 - i:=by simp only [List.size_toArray];lia
   rw [this] at e2
   simpa using e2
  rw [e3] at hw
  cases hw
  exact rw'
 have J:Inv X pins σ (upd H1 (s1.heap.push (revObj a ((its.toArray.size:Int) - 1))).objs.size (.lst ys.reverse)) { s1 with heap:=h',toks:=tk } :=
  I1.laid (o:=.lst ys.reverse) (fun b o e=>hk b o (Nat.ne_of_lt (Heap.lt_size e)) (Heap.get?_push_of_some _ e)) (by rw [zp];lia) ⟨by rw [List.length_reverse];exact hz,acc'.toList,c',hr,by simpa using hS⟩
 exact ⟨.ref (s1.heap.push (revObj a ((its.toArray.size:Int) - 1))).objs.size,_,J,rfl,q _ (I1.hok.fresh (by rw [zp];lia))⟩
end
end L2
namespace L2
open PySem PySem.Spec PyProof.Rows
theorem PE.imp {X:Cx} {e:Expr} {t t':TE} (h:PE X e t) (k:∀ σ H Q,t' σ H Q→t σ H Q):PE X e t':=fun pins s σ H Q I w=>h pins s σ H Q I (k σ H Q w)
theorem PT.imp {X:Cx} {e:Expr} {t t':TT} (h:PT X e t) (k:∀ σ H Q,t' σ H Q→t σ H Q):PT X e t':=fun pins s σ H Q I w=>h pins s σ H Q I (k σ H Q w)
theorem Same.new {H:Hp} {p:Addr} {o:HO} (h:H p=none):Same H (upd H p o):=fun b u e=>by rw [uN (nN e h)];exact e
theorem Same.upd {H H':Hp} {p:Addr} {o:HO} (e:Same H H') (h:H p=none):Same H (upd H' p o):=fun b u q=>by rw [uN (nN q h)];exact e b u q
def Off (p:Addr) (H H':Hp):Prop:=∀ b o,b≠p→H b=some o→H' b=some o
theorem Off.refl (p:Addr) (H:Hp):Off p H H:=fun _ _ _ h=>h
theorem Off.trans {p:Addr} {H H1 H2:Hp} (a:Off p H H1) (b:Off p H1 H2):Off p H H2:=fun c o n h=>b c o n (a c o n h)
theorem Off.put (p:Addr) (H:Hp) (o:HO):Off p H (upd H p o):=fun b u n h=>by rw [uN n];exact h
def Kt (K:PySem.W.Frag) (a:Addr) (xs:List V):Prop:=∃ (o:Obj) (its:Array Value) (n:Nat),K.lookup a=some o∧o.cls=.type "tuple"∧o.data=.seq its n∧its.size≤sizeLine∧Vals xs its.toList
def Tp (K:PySem.W.Frag) (H:Hp) (a:Addr) (xs:List V):Prop:=H a=some (.tup xs)∨Kt K a xs
theorem Kt.sq {K:PySem.W.Frag} {H:Hp} {a:Addr} {xs:List V} (h:Kt K a xs):SqT K H a xs:=.inr h
theorem Tp.sq {K:PySem.W.Frag} {H:Hp} {a:Addr} {xs:List V} (h:Tp K H a xs):SqT K H a xs:=h.elim (fun z=>.inl (.inl z)) .inr
theorem Tp.same {K:PySem.W.Frag} {H H':Hp} {a:Addr} {xs:List V} (h:Tp K H a xs) (s:Same H H'):Tp K H' a xs:=h.elim (fun z=>.inl (s _ _ z)) .inr
def Dbl (K:PySem.W.Frag) (H:Hp) (v:V) (b:Nat):Prop:=∃ a m e,v=.ref a∧Tp K H a [.int m,.int e]∧Fl.Rep m e b
theorem Dbl.same {K:PySem.W.Frag} {H H':Hp} {v:V} {b:Nat} (d:Dbl K H v b) (s:Same H H'):Dbl K H' v b:=let ⟨a,m,e,x,y,z⟩:=d;⟨a,m,e,x,y.same s,z⟩
theorem Dbl.ok {K:PySem.W.Frag} {H:Hp} {v:V} {b:Nat} (d:Dbl K H v b):Fl.Ok b:=let ⟨_,_,_,_,_,z⟩:=d;z.ok
def Rs {α:Type} (R:V→Hp→α→Prop) (C:Addr) (o:Option α) (H:Hp) (Q:VK) (E:XK):Prop:=(∀ a,o=some a→∀ v H',Same H H'→R v H' a→Q v H')∧(o=none→∀ H',Same H H'→E (.ref C) none H')
section
variable {α β:Type} {R:V→Hp→α→Prop} {R':V→Hp→β→Prop} {C:Addr} {o:Option α} {H H':Hp} {Q Q0:VK} {E:XK}
theorem Rs.same (k:Rs R C o H Q E) (s:Same H H'):Rs R C o H' Q E:=⟨fun a e v H2 s2 r=>k.1 a e v H2 (s.trans s2) r,fun e H2 s2=>k.2 e H2 (s.trans s2)⟩
theorem Rs.pur {a:α} (k:∀ v H',Same H H'→R v H' a→Q v H'):Rs R C (Option.some a) H Q E:=⟨fun b e v H2 s2 r=>by cases e;exact k v H2 s2 r,fun e=>by cases e⟩
theorem Rs.bind {g:α→Option β} (k:Rs R' C (o.bind g) H Q0 E) (n:∀ a v H',o=Option.some a→Same H H'→R v H' a→Rs R' C (g a) H' Q0 E→Q v H'):Rs R C o H Q E:=by
 refine ⟨fun a e v H2 s2 r=>n a v H2 e s2 r ?_,fun e H2 s2=>?_⟩
 ·subst e
  exact (Rs.same k s2)
 ·subst e
  exact k.2 rfl H2 s2
theorem Rs.ret {a:α} {v:V} (k:Rs R C (Option.some a) H Q E) (s:Same H H') (r:R v H' a):Q v H':=k.1 a rfl v H' s r
theorem Rs.fail (k:Rs R C (none:Option α) H Q E) (s:Same H H'):E (.ref C) none H':=k.2 rfl H' s
end
section
variable {X:Cx}
def tX0 (K:PySem.W.Frag) (m e:Int) (i:Nat):TE:=fun σ H Q=>∃ p,σ[i]?=some (some (.ref p))∧SqT K H p [.int m,.int e]∧Q (.int m) H
def tX1 (K:PySem.W.Frag) (m e:Int) (i:Nat):TE:=fun σ H Q=>∃ p,σ[i]?=some (some (.ref p))∧SqT K H p [.int m,.int e]∧Q (.int e) H
theorem px0 (m e:Int) (i:Nat) {x:Str} {j pos pos' pos''} (hN:X.N[i]?=some x:=by rfl) (hv:Vis X.env.scope x:=by first | exact Or.inl rfl | exact Or.inr (Or.inl rfl) | exact Or.inr (Or.inr rfl)) (hd:(x == ("__debug__":Str))=false:=by decide) (hcd:(x == ("__classdict__":Str))=false:=by decide) :
  PE X (.Subscript (.Name x pos') (.Constant (.int 0) j pos'') pos) (tX0 X.K m e i) :=
 (pe_ix ix_tup (pv i hN hv hd hcd) pI (fun _ _=>rfl)).imp fun σ H Q ⟨p,h1,h2,h3⟩=>⟨_,h1,p,_,0,_,rfl,rfl,h2,rfl,h3⟩
theorem px1 (m e:Int) (i:Nat) {x:Str} {j pos pos' pos''} (hN:X.N[i]?=some x:=by rfl) (hv:Vis X.env.scope x:=by first | exact Or.inl rfl | exact Or.inr (Or.inl rfl) | exact Or.inr (Or.inr rfl)) (hd:(x == ("__debug__":Str))=false:=by decide) (hcd:(x == ("__classdict__":Str))=false:=by decide) :
  PE X (.Subscript (.Name x pos') (.Constant (.int 1) j pos'') pos) (tX1 X.K m e i) :=
 (pe_ix ix_tup (pv i hN hv hd hcd) pI (fun _ _=>rfl)).imp fun σ H Q ⟨p,h1,h2,h3⟩=>⟨_,h1,p,_,1,_,rfl,rfl,h2,rfl,h3⟩
def tMZ (K:PySem.W.Frag) (m e:Int) (i:Nat):TE:=fun σ H Q=>∃ p,σ[i]?=some (some (.ref p))∧SqT K H p [.int m,.int e]∧Q (.bl (decide (m=0∧e = -1))) H
theorem eqv_mz (m e:Int):PyData.eqv (.tuple [.int m,.int e]) (.tuple [.int 0,.int (-1)])=decide (m=0∧e = -1):=by
 simp [PyData.eqv,PyData.eqvAll]
 rfl
theorem op_mz (hu:X.A.units + 64 < cLine) {z:Addr} (hz:∀ H,SqT X.K H z [.int 0,.int (-1)]) (m e:Int):OpR X (compareOp .Eq) (fun x y H Q=>∃ p,x=.ref p∧y=.ref z∧SqT X.K H p [.int m,.int e]∧Q (.bl (decide (m=0∧e = -1))) H):=by
 intro pins s σ H x y v u Q I rx ry h
 obtain ⟨p,rfl,rfl,hp,q⟩:=h
 refine op_eqD hu pins s σ H _ _ v u Q I rx ry ⟨.tuple [.int m,.int e],.tuple [.int 0,.int (-1)],.tup hp (.cons (.int m) (.cons (.int e) .nil)),.tup (hz H) (.cons (.int 0) (.cons (.int (-1)) .nil)),rfl,rfl,?_⟩
 rw [eqv_mz]
 exact q
theorem pmz (hu:X.A.units + 64 < cLine) {z:Addr} (hz:∀ H,SqT X.K H z [.int 0,.int (-1)]) (g:Gv X.mg "MINUS_ZERO" (.ref z)) (m e:Int) (i:Nat) {x:Str} {pos pos' pos''} (hg:Gl X "MINUS_ZERO":=by rfl) (hN:X.N[i]?=some x:=by rfl) (hv:Vis X.env.scope x:=by first | exact Or.inl rfl | exact Or.inr (Or.inl rfl) | exact Or.inr (Or.inr rfl)) (hd:(x == ("__debug__":Str))=false:=by decide) (hcd:(x == ("__classdict__":Str))=false:=by decide) :
  PE X (.Compare (.Name x pos') [.Eq] [.Name "MINUS_ZERO" pos''] pos) (tMZ X.K m e i) :=
 (pe_cmpR (op_mz hu hz m e) (pv i hN hv hd hcd) (pe_gl g hg) (nomark _)).imp fun σ H Q ⟨p,h1,h2,h3⟩=>⟨_,h1,p,rfl,rfl,h2,h3⟩
theorem pmzT (hu:X.A.units + 64 < cLine) {z:Addr} (hz:∀ H,SqT X.K H z [.int 0,.int (-1)]) (g:Gv X.mg "MINUS_ZERO" (.ref z)) (m e:Int) (i:Nat) {x:Str} {pos pos' pos''} (hg:Gl X "MINUS_ZERO":=by rfl) (hN:X.N[i]?=some x:=by rfl) (hv:Vis X.env.scope x:=by first | exact Or.inl rfl | exact Or.inr (Or.inl rfl) | exact Or.inr (Or.inr rfl)) (hd:(x == ("__debug__":Str))=false:=by decide) (hcd:(x == ("__classdict__":Str))=false:=by decide) :
  PT X (.Compare (.Name x pos') [.Eq] [.Name "MINUS_ZERO" pos''] pos) (tTest (tMZ X.K m e i)) :=
 (pt_cmpR (op_mz hu hz m e) (pv i hN hv hd hcd) (pe_gl g hg) (nomark _)).imp fun σ H Q ⟨p,h1,h2,k,h3⟩=>⟨_,h1,p,rfl,rfl,h2,k,h3⟩
end
end L2
namespace L2
open PySem PySem.Spec PyProof.Rows
theorem land2 (n:Nat):n &&& 2=2 * (n / 2 % 2):=by
 have h1:(n &&& 2) % 2 ^ 2=(n % 2 ^ 2) &&& (2 % 2 ^ 2):=Nat.and_mod_two_pow
 have h2:n &&& 2≤2:=Nat.and_le_right
 rw [Nat.mod_eq_of_lt (show n &&& 2 < 2 ^ 2 by lia)] at h1
 rw [h1]
 have h3:n % 2 ^ 2 < 4:=Nat.mod_lt _ (by decide)
 have h4:n / 2 % 2=n % 2 ^ 2 / 2:=by lia
 rw [h4]
 generalize n % 2 ^ 2=r at *
 match r,h3 with
 | 0,_=>rfl
 | 1,_=>rfl
 | 2,_=>rfl
 | 3,_=>rfl
theorem and1 (x:Int):(Builtin.bitAnd x 1 != 0)=decide (x % 2=1):=by
 rw [bitAnd_m1]
 rcases Int.emod_two_eq x with h | h <;> rw [h] <;> rfl
theorem and2' (x:Int):Builtin.bitAnd x 2=2 * (x / 2 % 2):=by
 unfold Builtin.bitAnd
 by_cases h:0≤x
 ·rw [decide_eq_true h,decide_eq_true (show (0:Int)≤2 by decide)]
  show ((x.toNat &&& 2:Nat):Int)=_
  rw [land2]
  lia
 ·rw [decide_eq_false h,decide_eq_true (show (0:Int)≤2 by decide)]
  show 2 - ((2 &&& (Builtin.bitNot x).toNat:Nat):Int)=_
  rw [Nat.and_comm,land2]
  have:Builtin.bitNot x = -x - 1:=by unfold Builtin.bitNot;lia
  rw [this]
  lia
theorem and2 (x:Int):(Builtin.bitAnd x 2 != 0)=decide (x / 2 % 2=1):=by
 rw [and2']
 rcases Int.emod_two_eq (x / 2) with h | h <;> rw [h] <;> rfl
theorem bits_bl (m:Int):((PySem.Builtin.Int.intBits m:Nat):Int)=Fl.bl m:=by
 have e:PySem.Builtin.Int.intBits m=PySem.Builtin.Int.intBits ((m.natAbs:Nat):Int):=by
  unfold PySem.Builtin.Int.intBits
  simp
 rw [e,bits_nat]
 unfold Fl.bl
 by_cases h:m=0
 ·subst h;rfl
 ·rw [if_neg h,if_neg (by lia)]
section
variable {X:Cx}
theorem op_fdivH:OpR X (binaryOp .FloorDiv) (rI (fun _ j=>j≠0∧Sm j) fun i j=>.int (i.fdiv j)):=opI fun i j _ _ _ _ _ hc q=>by
 have h1:j≠0:=hc.1
 refine floordiv_int h1 q (.inl (PyProof.noPylong_of_log2 ?_))
 have:=sm_log2 (j:=((j.natAbs:Nat):Int)) (by lia) (by unfold Sm;rw [Int.natAbs_natCast];exact hc.2)
 rwa [Int.natAbs_natCast] at this
end
theorem sz1:(1≤sizeLine)=True:=eq_true (by decide)
theorem sz2:(2≤sizeLine)=True:=eq_true (by decide)
theorem sz3:(3≤sizeLine)=True:=eq_true (by decide)
theorem tn1:Int.toNat 1=1:=rfl
theorem p21:(2:Int) ^ (1:Nat)=2:=rfl
theorem le01:((0:Int)≤1)=True:=eq_true (by decide)
theorem Sm.le {i:Int} {k:Nat} (h:i.natAbs≤2 ^ k) (hk:k < 4000:=by decide):Sm i:=Nat.lt_of_le_of_lt h (Nat.pow_lt_pow_right (by decide) hk)
end L2
namespace L2
open PySem PySem.Spec PyProof.Rows
section
variable {X:Cx} {a b o e:Expr} {es:List Expr} {ta tb to:TE} {t:TA} {pos apos cpos p:Pos}
theorem papp (ho:PE X o to) (ha:PA X [e] t) (hbase:attributeBase o "append" X.env (eval o X.env)=eval o X.env:=by rfl)
  (hfew:((backTo cpos (starEach [e] X.env)).all (fun x=>!x.1) && (backToKw cpos (keywordEach [] X.env)).all (fun x=>x.1.isSome) && decide (([e]:List Expr).length + ([]:List Keyword).length + (if ([]:List Keyword).isEmpty then 0 else 1) < 30))=true:=by rfl)
  (hline:(apos.endLine == cpos.line)=true:=by rfl) (hs:starEach [e] X.env=(false,eval e X.env)::starEach [] X.env:=by rfl) (hplain:(backTo cpos (starEach [] X.env)).any (·.1)=false:=by rfl) :
  PE X (.Call (.Attribute o "append" apos) [e] [] cpos) (tBM X.K "list" rAppend to t):=pe_bm PySem.F.plainAttrs_list PySem.F.slot_list_append PySem.F.type_list_append mt_append ho ha hbase hfew hline hs hplain
theorem pext (ho:PE X o to) (ha:PA X [e] t) (hbase:attributeBase o "extend" X.env (eval o X.env)=eval o X.env:=by rfl)
  (hfew:((backTo cpos (starEach [e] X.env)).all (fun x=>!x.1) && (backToKw cpos (keywordEach [] X.env)).all (fun x=>x.1.isSome) && decide (([e]:List Expr).length + ([]:List Keyword).length + (if ([]:List Keyword).isEmpty then 0 else 1) < 30))=true:=by rfl)
  (hline:(apos.endLine == cpos.line)=true:=by rfl) (hs:starEach [e] X.env=(false,eval e X.env)::starEach [] X.env:=by rfl) (hplain:(backTo cpos (starEach [] X.env)).any (·.1)=false:=by rfl) :
  PE X (.Call (.Attribute o "extend" apos) [e] [] cpos) (tBM X.K "list" rExtend to t):=pe_bm PySem.F.plainAttrs_list PySem.F.slot_list_extend PySem.F.type_list_extend mt_extend ho ha hbase hfew hline hs hplain
theorem ppop (ho:PE X o to) (hbase:attributeBase o "pop" X.env (eval o X.env)=eval o X.env:=by rfl) (hline:(apos.endLine == cpos.line)=true:=by rfl) :
  PE X (.Call (.Attribute o "pop" apos) [] [] cpos) (tBM0 X.K "list" rPop to):=pe_bm0 PySem.F.plainAttrs_list PySem.F.slot_list_pop PySem.F.type_list_pop mt_pop ho hbase hline
def rLen (K:PySem.W.Frag):List V→Hp→VK→Prop:=fun xs H Q=>∃ p ys,xs=[.ref p]∧(SqL K H p ys∨SqT K H p ys)∧Q (.int ys.length) H
theorem plen (hm:X.mg "len"=none) (ha:PE X a ta) (hg:Gl X "len":=by rfl) (hs:starEach [a] X.env=(false,eval a X.env)::starEach [] X.env:=by rfl) (hpl:(backTo pos (starEach [] X.env)).any (·.1)=false:=by rfl) :
  PE X (.Call (.Name "len" p) [a] [] pos) (tCB (rLen X.K) (tCons ta tNil)):=pe_callB call_len_seq hg hm PySem.boot_len (pY ha pN hs) (by decide) (by decide) hs hpl
end
def eSc:Nat→Expr→List Scope
 | 0,_=>[]
 | _ + 1,.ListComp _ _ sc _=>[sc]
 | n + 1,.Call f args _ _=>eSc n f++args.flatMap (eSc n)
 | n + 1,.Attribute o _ _=>eSc n o
 | n + 1,.BoolOp _ es _=>es.flatMap (eSc n)
 | n + 1,.BinOp a _ b _=>eSc n a++eSc n b
 | _ + 1,_=>[]
def sSc:Nat→Stmt→List Scope
 | 0,_=>[]
 | n + 1,.Return (some e) _=>eSc n e
 | n + 1,.Assign _ e _=>eSc n e
 | n + 1,.Expr e _=>eSc n e
 | n + 1,.If c a b _=>eSc n c++a.flatMap (sSc n)++b.flatMap (sSc n)
 | n + 1,.For _ it b _ _=>eSc n it++b.flatMap (sSc n)
 | n + 1,.While c b _ _=>eSc n c++b.flatMap (sSc n)
 | _ + 1,_=>[]
def scs (n:Nat) (l:List Stmt):List Scope:=l.flatMap (sSc n)
end L2
namespace L2
open PySem PySem.Spec PyProof.Rows
section
variable {X:Cx}
def tW0 (x y z:V) (i:Nat):TE:=fun σ H Q=>∃ p,σ[i]?=some (some (.ref p))∧H p=some (.lst [x,y,z])∧Q x H
def tW1 (x y z:V) (i:Nat):TE:=fun σ H Q=>∃ p,σ[i]?=some (some (.ref p))∧H p=some (.lst [x,y,z])∧Q y H
def tW2 (x y z:V) (i:Nat):TE:=fun σ H Q=>∃ p,σ[i]?=some (some (.ref p))∧H p=some (.lst [x,y,z])∧Q z H
variable (x y z:V) (i:Nat) {n:Str} {j:Nat} {pos pos' pos'':Pos}
theorem pw0 (hN:X.N[i]?=some n:=by rfl) (hv:Vis X.env.scope n:=by first | exact Or.inl rfl | exact Or.inr (Or.inl rfl) | exact Or.inr (Or.inr rfl)) (hd:(n == ("__debug__":Str))=false:=by decide) (hcd:(n == ("__classdict__":Str))=false:=by decide) :
  PE X (.Subscript (.Name n pos') (.Constant (.int 0) j pos'') pos) (tW0 x y z i) :=
 (pe_ix ix_list (pv i hN hv hd hcd) pI (fun _ _=>rfl)).imp fun σ H Q ⟨p,h1,h2,h3⟩=>⟨_,h1,p,_,0,_,rfl,rfl,SqL.of h2,rfl,h3⟩
theorem pw1 (hN:X.N[i]?=some n:=by rfl) (hv:Vis X.env.scope n:=by first | exact Or.inl rfl | exact Or.inr (Or.inl rfl) | exact Or.inr (Or.inr rfl)) (hd:(n == ("__debug__":Str))=false:=by decide) (hcd:(n == ("__classdict__":Str))=false:=by decide) :
  PE X (.Subscript (.Name n pos') (.Constant (.int 1) j pos'') pos) (tW1 x y z i) :=
 (pe_ix ix_list (pv i hN hv hd hcd) pI (fun _ _=>rfl)).imp fun σ H Q ⟨p,h1,h2,h3⟩=>⟨_,h1,p,_,1,_,rfl,rfl,SqL.of h2,rfl,h3⟩
theorem pw2 (hN:X.N[i]?=some n:=by rfl) (hv:Vis X.env.scope n:=by first | exact Or.inl rfl | exact Or.inr (Or.inl rfl) | exact Or.inr (Or.inr rfl)) (hd:(n == ("__debug__":Str))=false:=by decide) (hcd:(n == ("__classdict__":Str))=false:=by decide) :
  PE X (.Subscript (.Name n pos') (.Constant (.int 2) j pos'') pos) (tW2 x y z i) :=
 (pe_ix ix_list (pv i hN hv hd hcd) pI (fun _ _=>rfl)).imp fun σ H Q ⟨p,h1,h2,h3⟩=>⟨_,h1,p,_,2,_,rfl,rfl,SqL.of h2,rfl,h3⟩
end
end L2
namespace L2
open PySem PySem.Spec PyProof.Rows
def Df (K:PySem.W.Frag) (mg:Str→Option Value) (x:Str) (st:Stmt) (ps:List Str):Prop:=∃ f fd,Dn K mg x st ps f fd
def Cb (P:Program) (w:World) (K:PySem.W.Frag) (mg:Str→Option Value) (base:Heap) (x:Str) (st:Stmt) (ps:List Str) (k:Nat) (sp:Sp):Prop:=∃ f fd,Dn K mg x st ps f fd∧FnOk P w K mg base (CXe P w) k f fd ps sp
def Dfm (K:PySem.W.Frag) (C:Addr) (m qual:Str) (st:Stmt) (ps:List Str):Prop:=∃ f fd,Dm K C m qual st ps f fd
def Cm (P:Program) (w:World) (K:PySem.W.Frag) (mg:Str→Option Value) (base:Heap) (C:Addr) (m qual:Str) (st:Stmt) (ps:List Str) (k:Nat) (sp:Sp):Prop:=∃ f fd,Dm K C m qual st ps f fd∧FnOk P w K mg base (CXe P w) k f fd ps sp
section
variable {P:Program} {w:World} {K:PySem.W.Frag} {mg:Str→Option Value} {base:Heap} {x m qual:Str} {st:Stmt} {N ps:List Str} {k:Nat} {sp:Sp} {C:Addr}
theorem Cb.mk (F:Df K mg x st ps) (S:FnScope N ps (defScope st)) (len:∀ vs H Q E,sp vs H Q E→vs.length=ps.length)
  (hbody:∀ (f:Addr) (cdv:Value) (A:Around) (outer:List Env) (s:Shared) (H:Hp) (vs:List V) (Q:VK) (E:XK),Room k (A.deeper (envOfC x (defScope st) s.heap.objs.size f cdv))→sp vs H Q E →
   Throw (cxOf (CXe P w) P w K mg base N x (defScope st) f cdv A outer s H E) (fun _=>E) →
   ∃ t,PSs (cxOf (CXe P w) P w K mg base N x (defScope st) f cdv A outer s H E) (defBody st) t∧t { nx:=fun _ H'=>Q .non H',rt:=Q } (start N vs) H):Cb P w K mg base x st ps (k + 1) sp:=by
 obtain ⟨f,fd,D⟩:=F
 exact ⟨f,fd,D,D.fn.okX S len (hbody f)⟩
theorem Cm.mk (F:Dfm K C m qual st ps) (S:FnScope N ps (defScope st)) (len:∀ vs H Q E,sp vs H Q E→vs.length=ps.length)
  (hbody:∀ (f:Addr) (cdv:Value) (A:Around) (outer:List Env) (s:Shared) (H:Hp) (vs:List V) (Q:VK) (E:XK),Room k (A.deeper (envOfC qual (defScope st) s.heap.objs.size f cdv))→sp vs H Q E →
   Throw (cxOf (CXe P w) P w K mg base N qual (defScope st) f cdv A outer s H E) (fun _=>E) →
   ∃ t,PSs (cxOf (CXe P w) P w K mg base N qual (defScope st) f cdv A outer s H E) (defBody st) t∧t { nx:=fun _ H'=>Q .non H',rt:=Q } (start N vs) H):Cm P w K mg base C m qual st ps (k + 1) sp:=by
 obtain ⟨f,fd,D⟩:=F
 exact ⟨f,fd,D,D.fn.okX S len (hbody f)⟩
end
section
variable {X:Cx} {E:XK} {k j:Nat} {C:Addr} {ps:List Str} {sp:Sp} {st:Stmt} {x m qual:Str} {p pos apos:Pos} {e o:Expr} {es:List Expr} {ta:TE} {t:TA}
theorem pb (c:Cb X.prog X.w X.K X.mg X.base x st ps k sp) (hr:Room j X.A) (th:Throw X fun _=>E) (ha:PA X (e::es) t) (hk:k≤j:=by decide) (hg:Gl X x:=by rfl)
  (hdb:(x == ("__debug__":Str))=false:=by decide) (he:starEach (e::es) X.env=(false,eval e X.env)::starEach es X.env:=by rfl) (hpl:(backTo pos (starEach es X.env)).any (·.1)=false:=by rfl) :
  PE X (.Call (.Name x p) (e::es) [] pos) (tCall sp [] E t):=by
 obtain ⟨f,fd,D,G⟩:=c
 exact pc D G hr th ha hk hg hdb he hpl
theorem pbS {ES:St→XK} (c:Cb X.prog X.w X.K X.mg X.base x st ps k sp) (hr:Room j X.A) (th:Throw X ES) (ha:PA X (e::es) t) (hk:k≤j:=by decide) (hg:Gl X x:=by rfl)
  (hdb:(x == ("__debug__":Str))=false:=by decide) (he:starEach (e::es) X.env=(false,eval e X.env)::starEach es X.env:=by rfl) (hpl:(backTo pos (starEach es X.env)).any (·.1)=false:=by rfl) :
  PE X (.Call (.Name x p) (e::es) [] pos) (tCallS sp [] ES t):=by
 obtain ⟨f,fd,D,G⟩:=c
 exact pcS D G hr th ha hk hg hdb he hpl
theorem pbm {pl:Sem Bool} (c:Cm X.prog X.w X.K X.mg X.base C m qual st ps k sp) (cl:Cls X.K C) (hr:Room j X.A) (th:Throw X fun _=>E) (he:PE X o ta) (ha:PA X (e::es) t) (hk:k≤j:=by decide)
  (hst:starEach (e::es) X.env=(false,eval e X.env)::starEach es X.env:=by rfl) (hpl:(backTo pos (starEach es X.env)).any (·.1)=false:=by rfl)
  (ht:eval (.Call (.Attribute o m apos) (e::es) [] pos) X.env=(do
   let ov ← eval o X.env
   standAt apos.atName
   let (f,first) ← holding [ov] (getMethod ov m pl)
   callWith pos f first (backTo pos (starEach (e::es) X.env)) (backToKw pos (keywordEach [] X.env))):=by rfl) :
  PE X (.Call (.Attribute o m apos) (e::es) [] pos) (tMeth C m sp [] E ta t):=by
 obtain ⟨f,fd,D,G⟩:=c
 exact pm D cl G hr th he ha hk hst hpl ht
theorem pbm0 {pl:Sem Bool} (c:Cm X.prog X.w X.K X.mg X.base C m qual st ps k sp) (cl:Cls X.K C) (hr:Room j X.A) (th:Throw X fun _=>E) (he:PE X o ta) (hk:k≤j:=by decide)
  (ht:eval (.Call (.Attribute o m apos) [] [] pos) X.env=(do
   let ov ← eval o X.env
   standAt apos.atName
   let (f,first) ← holding [ov] (getMethod ov m pl)
   callWith pos f first (backTo pos (starEach [] X.env)) (backToKw pos (keywordEach [] X.env))):=by rfl) :
  PE X (.Call (.Attribute o m apos) [] [] pos) (tMeth C m sp [] E ta tNil):=by
 obtain ⟨f,fd,D,G⟩:=c
 exact pm0 D cl G hr th he hk ht
end
end L2
theorem L2.scal_ii {i j:Int}:L2.scal (.int i) (.int j)=true:=rfl
theorem L2.scal_bb {i j:Bool}:L2.scal (.bl i) (.bl j)=true:=rfl
theorem L2.TruV_i {K:PySem.W.Frag} {H:L2.Hp} {i:Int} {k:Bool}:L2.TruV K (.int i) H k=(k=(i != 0)):=rfl
theorem L2.TruV_b {K:PySem.W.Frag} {H:L2.Hp} {i k:Bool}:L2.TruV K (.bl i) H k=(k=i):=rfl
theorem L2.TruV_r {K:PySem.W.Frag} {H:L2.Hp} {p:PySem.Addr} {k:Bool}:L2.TruV K (.ref p) H k=((∃ xs,L2.SqL K H p xs∧k=!xs.isEmpty)∨(∃ xs,L2.SqT K H p xs∧k=!xs.isEmpty)∨∃ kvs,H p=some (.dK kvs)∧k=!kvs.isEmpty):=rfl
namespace L2
open PySem PySem.Spec PyProof.Rows
def isTup:Option HO→Bool
 | some (.tup _)=>true
 | _=>false
def vw (G H H':Hp):Hp:=fun b=>if (G b).isSome=true∨(H b).isNone=true∨isTup (H' b)=true then H' b else none
section
variable {G H H' H1 H2:Hp} {b:Addr} {o:HO}
theorem vw_sub:Same (vw G H H') H':=fun b o e=>by
 unfold vw at e
 split at e
 ·exact e
 ·cases e
theorem vw_sup (g:Same G H) (h:Same H H'):Same G (vw G H H'):=fun b o e=>by
 unfold vw
 rw [if_pos (.inl (by rw [e];rfl))]
 exact h b o (g b o e)
theorem vw_new (e:H' b=some o) (n:H b=none):vw G H H' b=some o:=by
 unfold vw
 rw [if_pos (.inr (.inl (by rw [n];rfl)))]
 exact e
theorem vw_tup {xs:List V} (e:H' b=some (.tup xs)):vw G H H' b=some (.tup xs):=by
 unfold vw
 rw [if_pos (.inr (.inr (by rw [e];rfl)))]
 exact e
theorem vw_out (g:G b=none) (e:H b=some o) (e':H' b=some o) (t:isTup (some o)=false):vw G H H' b=none:=by
 unfold vw
 rw [if_neg]
 rintro (z | z | z)
 ·rw [g] at z;cases z
 ·rw [e] at z;cases z
 ·rw [e',t] at z;cases z
theorem vw_iff:vw G H H' b=some o↔H' b=some o∧((∃ u,G b=some u)∨H b=none∨∃ xs,o=.tup xs):=by
 unfold vw
 constructor
 ·intro e
  split at e
  ·rename_i z
   refine ⟨e,?_⟩
   rcases z with z | z | z
   ·cases q:G b with
    | none=>rw [q] at z;cases z
    | some u=>exact .inl ⟨u,rfl⟩
   ·cases q:H b with
    | none=>exact .inr (.inl rfl)
    | some u=>rw [q] at z;cases z
   ·rw [e] at z
    cases o with
    | tup xs=>exact .inr (.inr ⟨xs,rfl⟩)
    | _=>cases z
  ·cases e
 ·rintro ⟨e,z⟩
  rw [if_pos]
  ·exact e
  ·rcases z with ⟨u,z⟩ | z | ⟨xs,z⟩
   ·exact .inl (by rw [z];rfl)
   ·exact .inr (.inl (by rw [z];rfl))
   ·exact .inr (.inr (by rw [e,z];rfl))
theorem vw_comp (h1:Same H H1) (h2:Same H1 H2):Same (vw (vw G H H1) H1 H2) (vw G H H2):=fun b o e=>by
 obtain ⟨e2,z⟩:=vw_iff.mp e
 refine vw_iff.mpr ⟨e2,?_⟩
 rcases z with ⟨u,z⟩ | z | z
 ·obtain ⟨e3,y⟩:=vw_iff.mp z
  have:=h2 b u e3
  rw [e2] at this
  cases this
  exact y
 ·exact .inr (.inl (h1.free z))
 ·exact .inr (.inr z)
theorem vw_mono {G':Hp} (g:Same G G'):Same (vw G H H') (vw G' H H'):=fun b o e=>by
 obtain ⟨e2,z⟩:=vw_iff.mp e
 refine vw_iff.mpr ⟨e2,?_⟩
 rcases z with ⟨u,z⟩ | z | z
 ·exact .inl ⟨u,g b u z⟩
 ·exact .inr (.inl z)
 ·exact .inr (.inr z)
end
theorem Dbl.vw {K:PySem.W.Frag} {G H H':Hp} {v:V} {b:Nat} (d:Dbl K H' v b):Dbl K (vw G H H') v b:=by
 obtain ⟨a,m,e,x,y,z⟩:=d
 exact ⟨a,m,e,x,y.elim (fun q=>.inl (vw_tup q)) .inr,z⟩
theorem Dbl.off {K:PySem.W.Frag} {H H':Hp} {v:V} {b:Nat} {p:Addr} {o:HO} (d:Dbl K H v b) (hp:H p=some o) (t:isTup (some o)=false) (s:Off p H H'):Dbl K H' v b:=by
 obtain ⟨a,m,e,x,y,z⟩:=d
 refine ⟨a,m,e,x,y.elim (fun q=>.inl (s a _ (fun h=>?_) q)) .inr,z⟩
 rw [h,hp] at q
 cases q
 cases t
def RsG {α:Type} (R:V→Hp→α→Prop) (C:Addr) (o:Option α) (G H:Hp) (Q:VK) (E:XK):Prop:=(∀ a,o=some a→∀ v H',Same H H'→R v (vw G H H') a→Q v H')∧(o=none→∀ H',Same H H'→E (.ref C) none H')
def Mono {α:Type} (R:V→Hp→α→Prop):Prop:=∀ v H H' a,Same H H'→R v H a→R v H' a
section
variable {α β γ:Type} {R:V→Hp→α→Prop} {R':V→Hp→β→Prop} {C:Addr} {o:Option α} {G G' H H':Hp} {Q Q0:VK} {E:XK}
theorem RsG.same (m:Mono R) (k:RsG R C o G H Q E) (s:Same H H'):RsG R C o (vw G H H') H' Q E :=
 ⟨fun a e v H2 s2 r=>k.1 a e v H2 (s.trans s2) (m _ _ _ _ (vw_comp s s2) r),fun e H2 s2=>k.2 e H2 (s.trans s2)⟩
theorem RsG.ret {a:α} {v:V} (k:RsG R C (some a) G H Q E) (s:Same H H') (r:R v (vw G H H') a):Q v H':=k.1 a rfl v H' s r
def LstOf (R:V→Hp→α→Prop):V→Hp→List α→Prop:=fun v H l=>∃ p xs,v=.ref p∧H p=some (.lst xs)∧Paired (fun x a=>R x H a) xs l
theorem Paired.len {F:V→α→Prop}:∀ {xs:List V} {l:List α},Paired F xs l→xs.length=l.length
 | _,_,.nil=>rfl
 | _,_,.cons _ r=>by rw [List.length_cons,List.length_cons,Paired.len r]
theorem Paired.snoc {F:V→α→Prop} {x:V} {a:α} (h:F x a):∀ {xs:List V} {l:List α},Paired F xs l→Paired F (xs++[x]) (l++[a])
 | _,_,.nil=>.cons h .nil
 | _,_,.cons q r=>.cons q (Paired.snoc h r)
theorem Paired.at {F:V→α→Prop}:∀ {xs:List V} {l:List α} {i:Nat} {a:α},Paired F xs l→l[i]?=some a→∃ x,xs[i]?=some x∧F x a
 | _,_,0,a,.cons q r,e=>by
  cases e
  exact ⟨_,rfl,q⟩
 | _,_,i + 1,a,.cons q r,e=>by
  obtain ⟨x,h1,h2⟩:=Paired.at (i:=i) r (by simpa using e)
  exact ⟨x,by simpa using h1,h2⟩
theorem Paired.at' {F:V→α→Prop}:∀ {xs:List V} {l:List α} {i:Nat} {x:V},Paired F xs l→xs[i]?=some x→∃ a,l[i]?=some a∧F x a
 | _,_,0,a,.cons q r,e=>by
  cases e
  exact ⟨_,rfl,q⟩
 | _,_,i + 1,a,.cons q r,e=>by
  obtain ⟨x,h1,h2⟩:=Paired.at' (i:=i) r (by simpa using e)
  exact ⟨x,by simpa using h1,h2⟩
theorem LstOf.mono (m:Mono R):Mono (LstOf R):=fun v H H' l s ⟨p,xs,e,h,r⟩=>⟨p,xs,e,s _ _ h,Paired.imp' (fun a b q=>m _ _ _ _ s q) r⟩
theorem mapM_take {f:β→Option γ}:∀ {l:List β} {i:Nat} {y:β} {cs:List γ},l[i]?=some y→(l.take i).mapM f=some cs→(l.take (i + 1)).mapM f=(f y).bind fun c=>some (cs++[c])
 | l,i,y,cs,hy,h=>by
  have e:l.take (i + 1)=l.take i++[y]:=by
   rw [List.take_succ,hy];rfl
  rw [e,Fl.mapM_append,h,Fl.mapM_cons]
  cases f y <;> rfl
theorem mapM_stop {f:β→Option γ} {l:List β} {i:Nat} (h:(l.take i).mapM f=none):l.mapM f=none:=by
 rw [← List.take_append_drop i l,Fl.mapM_append,h]
 rfl
theorem lc_gen {J:It} {D:Addr} {n:Nat} {ys:List β} {f:β→Option γ} {R:V→Hp→γ→Prop} {gt:TG} {vs:List Nat} {te:TE} {σ:St} {Q:VK} (m:Mono R) (hn:ys.length=n) (hz:n≤sizeLine) (hD:H D=none) (g:Same G H)
  (go:∀ i Hc,i < n→Same H Hc→J.go i Hc) (stop:∀ Hc,Same H Hc→J.stop n Hc)
  (k:RsG (LstOf R) C (ys.mapM f) G H Q E)
  (el:∀ (i:Nat) y H2 Q2,i < n→ys[i]?=some y→Same H H2→∀ G2,Same G G2→Same G2 H2→RsG R C (f y) G2 H2 Q2 E→∀ (N:Hp→Prop) x H3,J.yld i H2 x H3 →
   gt x (wipe σ vs) H3 fun σ2 H4=>wipe σ2 vs=wipe σ vs∧tYes σ2 H4 fun b H5=>if b=true then te σ2 H5 Q2 else N H5) :
  ∃ W:Nat→Nat→Hp→Prop,(∃ m,W 0 m (upd H D (.lst [])))∧∀ i m H,W i m H→(J.stop i H∧Q (.ref D) H)∨(J.go i H∧∃ Nx:Hp→Prop,(∀ H',Nx H'→∃ m',m' < m∧W (i + 1) m' H') ∧
   ∀ x H',J.yld i H x H'→gt x (wipe σ vs) H' fun σ2 H2=>wipe σ2 vs=wipe σ vs∧tYes σ2 H2 fun b H3=>if b=true then te σ2 H3 fun y H4=>∃ acc,H4 D=some (.lst acc)∧acc.length < sizeLine∧Nx (upd H4 D (.lst (acc++[y]))) else Nx H3):=by
 let Pv:Nat→Hp→Prop:=fun i Hc=>i≤n∧Same H Hc∧∃ acc cs Gc,Hc D=some (.lst acc)∧acc.length=i∧(ys.take i).mapM f=some cs∧Same G Gc∧Same Gc Hc∧Gc D=none∧Same Gc (vw G H Hc)∧Paired (fun x c=>R x Gc c) acc cs
 refine ⟨fun i m Hc=>m=n - i∧Pv i Hc,⟨n,rfl,Nat.zero_le _,Same.new hD,[],[],G,uS,rfl,rfl,Same.refl _,(g.trans (Same.new hD)),g.free hD,vw_sup g (Same.new hD),.nil⟩,?_⟩
 rintro i mm Hc ⟨rfl,hi,s,acc,cs,Gc,hacc,hal,hm,g1,g2,g3,g4,hp⟩
 by_cases c:i < n
 ·refine .inr ⟨go i Hc c s,Pv (i + 1),fun H' z=>⟨n - (i + 1),by lia,rfl,z⟩,fun x H' hy=>?_⟩
  obtain ⟨y,hyi⟩:∃ y,ys[i]?=some y:=⟨_,List.getElem?_eq_getElem (by lia)⟩
  have mt:=mapM_take hyi hm
  refine el i y Hc _ c hyi s Gc g1 g2 ⟨fun c' e v H4 s4 r=>?_,fun e H4 s4=>?_⟩ _ x H' hy
  ·have hD4:=s4 _ _ hacc
   have oD:vw Gc Hc H4 D=none:=vw_out g3 hacc hD4 rfl
   refine ⟨acc,hD4,by lia,by lia,(s.trans s4).upd hD,acc++[v],cs++[c'],vw Gc Hc H4,uS,by rw [List.length_append,hal];rfl,by rw [mt,e];rfl,g1.trans (vw_sup g2 s4),(vw_sub).upd oD,oD,?_,Paired.snoc r (Paired.imp' (fun a b q=>m _ _ _ _ (vw_sup g2 s4) q) hp)⟩
   intro b o e2
   have hb:b≠D:=fun z=>by rw [z,oD] at e2;cases e2
   have e3:vw G H H4 b=some o:=(vw_comp s s4) b o ((vw_mono g4) b o e2)
   unfold vw at e3 ⊢
   rw [uN hb]
   exact e3
  ·exact k.2 (mapM_stop (i:=i + 1) (by rw [mt,e];rfl)) H4 (s.trans s4)
 ·have e:i=n:=by lia
  subst e
  refine .inl ⟨stop Hc s,?_⟩
  rw [List.take_of_length_le (by lia)] at hm
  exact k.1 cs hm _ _ s ⟨D,acc,rfl,vw_new hacc hD,Paired.imp' (fun a b q=>m _ _ _ _ g4 q) hp⟩
theorem lc_items {K:PySem.W.Frag} {a D:Addr} {xs:List V} {ys:List β} {f:β→Option γ} {R:V→Hp→γ→Prop} {j:Nat} {te:TE} {σ:St} {Q:VK} (m:Mono R) (hl:SqL K H a xs) (hz:xs.length≤sizeLine) (hlen:xs.length=ys.length) (hD:H D=none) (g:Same G H)
  (hj:∀ x,wipe ((wipe σ [j]).set j (some x)) [j]=wipe σ [j])
  (k:RsG (LstOf R) C (ys.mapM f) G H Q E)
  (el:∀ (i:Nat) x y H2 Q2,xs[i]?=some x→ys[i]?=some y→Same H H2→∀ G2,Same G G2→Same G2 H2→RsG R C (f y) G2 H2 Q2 E→te ((wipe σ [j]).set j (some x)) H2 Q2) :
  ∃ W:Nat→Nat→Hp→Prop,(∃ m,W 0 m (upd H D (.lst [])))∧∀ i m H,W i m H→((Itl K a).stop i H∧Q (.ref D) H)∨((Itl K a).go i H∧∃ Nx:Hp→Prop,(∀ H',Nx H'→∃ m',m' < m∧W (i + 1) m' H') ∧
   ∀ x H',(Itl K a).yld i H x H'→gName j x (wipe σ [j]) H' fun σ2 H2=>wipe σ2 [j]=wipe σ [j]∧tYes σ2 H2 fun b H3=>if b=true then te σ2 H3 fun y H4=>∃ acc,H4 D=some (.lst acc)∧acc.length < sizeLine∧Nx (upd H4 D (.lst (acc++[y]))) else Nx H3):=by
 refine lc_gen m hlen.symm hz hD g (fun i Hc hi s=>⟨xs,xs[i],s.seq hl,List.getElem?_eq_getElem hi⟩) (fun Hc s=>⟨xs,s.seq hl,Nat.le_refl _⟩) k ?_
 intro i y H2 Q2 hi hy s G2 g1 g2 k2 N x H3 ⟨e,hx⟩
 subst e
 exact ⟨hj x,el i x y H3 Q2 (hx xs (s.seq hl)) hy s G2 g1 g2 k2⟩
theorem lc_upto {D:Addr} {n:Nat} {ys:List β} {f:β→Option γ} {R:V→Hp→γ→Prop} {j:Nat} {te:TE} {σ:St} {Q:VK} (m:Mono R) (hlen:ys.length=n) (hz:n≤sizeLine) (hD:H D=none) (g:Same G H)
  (hj:∀ x,wipe ((wipe σ [j]).set j (some x)) [j]=wipe σ [j])
  (k:RsG (LstOf R) C (ys.mapM f) G H Q E)
  (el:∀ (i:Nat) y H2 Q2,i < n→ys[i]?=some y→Same H H2→∀ G2,Same G G2→Same G2 H2→RsG R C (f y) G2 H2 Q2 E→te ((wipe σ [j]).set j (some (.int (i:Nat)))) H2 Q2) :
  ∃ W:Nat→Nat→Hp→Prop,(∃ m,W 0 m (upd H D (.lst [])))∧∀ i m H,W i m H→((Itr 0 n).stop i H∧Q (.ref D) H)∨((Itr 0 n).go i H∧∃ Nx:Hp→Prop,(∀ H',Nx H'→∃ m',m' < m∧W (i + 1) m' H') ∧
   ∀ x H',(Itr 0 n).yld i H x H'→gName j x (wipe σ [j]) H' fun σ2 H2=>wipe σ2 [j]=wipe σ [j]∧tYes σ2 H2 fun b H3=>if b=true then te σ2 H3 fun y H4=>∃ acc,H4 D=some (.lst acc)∧acc.length < sizeLine∧Nx (upd H4 D (.lst (acc++[y]))) else Nx H3):=by
 refine lc_gen m hlen hz hD g (fun i Hc hi s=>hi) (fun Hc s=>Nat.le_refl _) k ?_
 intro i y H2 Q2 hi hy s G2 g1 g2 k2 N x H3 ⟨e,hx⟩
 subst e
 subst hx
 rw [Int.zero_add]
 exact ⟨hj _,el i y H3 Q2 hi hy s G2 g1 g2 k2⟩
end
end L2
namespace L2
open PySem
def onSS (o:Option (Option V)) (P:V→Prop):Prop:=match o with | some (some v)=>P v | _=>False
theorem onSS_at {v:V} {P:V→Prop}:onSS (some (some v)) P=P v:=rfl
theorem onSS.ex {o:Option (Option V)} {P:V→Prop} (h:onSS o P):∃ v,o=some (some v)∧P v:=match o,h with | some (some v),h=>⟨v,rfl,h⟩
def onI (x:V) (P:Int→Prop):Prop:=match x with | .int i=>P i | _=>False
theorem onI_at {i:Int} {P:Int→Prop}:onI (.int i) P=P i:=rfl
theorem onI.ex {x:V} {P:Int→Prop} (h:onI x P):∃ i,x=.int i∧P i:=match x,h with | .int i,h=>⟨i,rfl,h⟩
theorem onI2.ex {x y:V} {P:Int→Int→Prop} (h:onI x fun i=>onI y fun j=>P i j):∃ i j,x=.int i∧y=.int j∧P i j:=match x,y,h with | .int i,.int j,h=>⟨i,j,rfl,rfl,h⟩
def onB (x:V) (P:Bool→Prop):Prop:=match x with | .bl i=>P i | _=>False
theorem onB_at {i:Bool} {P:Bool→Prop}:onB (.bl i) P=P i:=rfl
theorem onB.ex {x:V} {P:Bool→Prop} (h:onB x P):∃ i,x=.bl i∧P i:=match x,h with | .bl i,h=>⟨i,rfl,h⟩
def onR (x:V) (P:Addr→Prop):Prop:=match x with | .ref i=>P i | _=>False
theorem onR_at {i:Addr} {P:Addr→Prop}:onR (.ref i) P=P i:=rfl
theorem onSR.ex {o:Option (Option V)} {P:Addr→Prop} (h:onSS o fun v=>onR v P):∃ p,o=some (some (.ref p))∧P p:=match o,h with | some (some (.ref p)),h=>⟨p,rfl,h⟩
namespace M
variable {X:Cx} {a b c:Expr} {ta tb tc:TE} {pos:Pos}
def tVar (i:Nat):TE:=fun σ H Q=>onSS σ[i]? fun v=>Q v H
theorem pv (i:Nat) {x:Str} {pos:Pos} (hN:X.N[i]?=some x:=by rfl) (hv:Vis X.env.scope x:=by first | exact Or.inl rfl | exact Or.inr (Or.inl rfl) | exact Or.inr (Or.inr rfl)) (hd:(x == ("__debug__":Str))=false:=by decide) (hcd:(x == ("__classdict__":Str))=false:=by decide):PE X (.Name x pos) (tVar i) :=
 (L2.pv i hN hv hd hcd).imp fun _ _ _ h=>onSS.ex h
def rI (C:Int→Int→Prop) (g:Int→Int→V):R2:=fun x y H Q=>onI x fun i=>onI y fun j=>C i j∧Q (g i j) H
def rI0 (g:Int→Int→V):R2:=fun x y H Q=>onI x fun i=>onI y fun j=>Q (g i j) H
def rU (g:Int→V):V→Hp→VK→Prop:=fun x H Q=>onI x fun i=>Q (g i) H
theorem oI {f:Value→Value→Sem Value} {C:Int→Int→Prop} {g:Int→Int→V} (h:OpR X f (L2.rI C g)):OpR X f (rI C g):=fun pins s σ H x y v u Q I rx ry q=>h pins s σ H x y v u Q I rx ry (onI2.ex q)
theorem o0 {f:Value→Value→Sem Value} {g:Int→Int→V} (h:OpR X f (L2.rI0 g)):OpR X f (rI0 g):=fun pins s σ H x y v u Q I rx ry q=>h pins s σ H x y v u Q I rx ry (onI2.ex q)
theorem oU {f:Value→Sem Value} {g:Int→V} (h:UnR X f (L2.rU g)):UnR X f (rU g):=fun pins s σ H x v Q I rx q=>h pins s σ H x v Q I rx (onI.ex q)
theorem oP {op:Operator} {f:Int→Int→Int} (h:PIp X op (ipI f)):PIp X op (rI0 fun i j=>.int (f i j)):=fun pins s σ H x y v u Q I rx ry q=>h pins s σ H x y v u Q I rx ry (onI2.ex q)
def tTest (t:TE):TT:=fun σ H Q=>t σ H fun x H'=>onB x fun k=>Q k H'
theorem pt_cmpR {op:CmpOp} {r:R2} (ho:OpR X (compareOp op) r) (ha:PE X a ta) (hb:PE X b tb) (hm:behindInMarks op b=false):PT X (.Compare a [op] [b] pos) (tTest (tOp r ta tb)):=by
 intro pins s σ H Q I h
 refine wpAny_isTrue_Compare1 (thn (ha pins s σ H _ I h) fun v s1 ⟨x,H1,I1,r1,q1⟩=>thn (hb pins s1 σ H1 _ I1 q1) fun u s2 ⟨y,H2,I2,r2,q2⟩ =>
  thn (ho pins s2 σ H2 x y v u _ I2 r1 r2 q2) fun c s3 ⟨z,H3,I3,r3,q3⟩=>?_) hm
 obtain ⟨k,e,q3⟩:=onB.ex q3
 subst e
 cases r3
 exact wpAny_truthy_bool ⟨H3,I3,q3⟩
def tAug (i:Nat) (te:TE) (ti:TIp):TS:=fun D σ H=>onSS σ[i]? fun x=>te σ H fun y H1=>ti x y H1 fun z H2=>D.nx (σ.set i (some z)) H2
theorem aug {s:Stmt} {i:Nat} {te:TE} {ti:TIp} (h:PS X s (L2.tAug i te ti)):PS X s (tAug i te ti):=fun pins s σ H D I w=>h pins s σ H D I (onSS.ex w)
def tX0 (K:PySem.W.Frag) (m e:Int) (i:Nat):TE:=fun σ H Q=>onSS σ[i]? fun v=>onR v fun p=>SqT K H p [.int m,.int e]∧Q (.int m) H
def tX1 (K:PySem.W.Frag) (m e:Int) (i:Nat):TE:=fun σ H Q=>onSS σ[i]? fun v=>onR v fun p=>SqT K H p [.int m,.int e]∧Q (.int e) H
theorem px0 (m e:Int) (i:Nat) {x:Str} {j pos pos' pos''} (hN:X.N[i]?=some x:=by rfl) (hv:Vis X.env.scope x:=by first | exact Or.inl rfl | exact Or.inr (Or.inl rfl) | exact Or.inr (Or.inr rfl)) (hd:(x == ("__debug__":Str))=false:=by decide) (hcd:(x == ("__classdict__":Str))=false:=by decide) :
  PE X (.Subscript (.Name x pos') (.Constant (.int 0) j pos'') pos) (tX0 X.K m e i):=(L2.px0 m e i hN hv hd hcd).imp fun _ _ _ h=>onSR.ex h
theorem px1 (m e:Int) (i:Nat) {x:Str} {j pos pos' pos''} (hN:X.N[i]?=some x:=by rfl) (hv:Vis X.env.scope x:=by first | exact Or.inl rfl | exact Or.inr (Or.inl rfl) | exact Or.inr (Or.inr rfl)) (hd:(x == ("__debug__":Str))=false:=by decide) (hcd:(x == ("__classdict__":Str))=false:=by decide) :
  PE X (.Subscript (.Name x pos') (.Constant (.int 1) j pos'') pos) (tX1 X.K m e i):=(L2.px1 m e i hN hv hd hcd).imp fun _ _ _ h=>onSR.ex h
end M
end L2
local macro_rules | `(tactic| walk_at "rd")=>`(tactic| ((try dsimp only [L2.onSS_at,L2.onI_at,L2.onB_at,L2.onR_at,L2.M.tVar,L2.M.rI,L2.M.rI0,L2.M.rU,L2.M.tTest,L2.M.tAug,L2.M.tX0,L2.M.tX1,L2.tSeq,L2.tAsg,L2.tOp,L2.tVar,L2.tC,L2.gName,L2.rI,L2.rI0,L2.start,L2.tIfS,L2.tTest,L2.tRet,L2.tTup,L2.tCons,L2.tNil,L2.tUn,L2.rU,L2.rEq,L2.rNe,L2.tNext,L2.tCB,L2.tRaise,L2.tRaiseA,L2.tOr,L2.tAnd,L2.tNot,L2.tB,L2.tCall,L2.gTup,L2.gCons,L2.gNil,L2.tX0,L2.tX1,L2.tMZ,L2.tIf,L2.tChain,L2.tAug,L2.ipI,L2.tAndV,L2.tOrV,L2.tNotV,L2.TruV_i,L2.TruV_b,L2.TruV_r,L2.scal_ii,L2.scal_bb,L2.tW0,L2.tW1,L2.tW2,L2.cxOf,List.map_cons,List.map_nil,List.length_cons,List.length_nil,List.replicate_succ,List.replicate_zero,List.cons_append,List.nil_append,List.getElem?_cons_zero,List.getElem?_cons_succ,List.set_cons_zero,List.set_cons_succ,Nat.reduceAdd,Nat.reduceSub]);simp only [L2.onSS_at,L2.onI_at,L2.onB_at,L2.onR_at,L2.M.tVar,L2.M.rI,L2.M.rI0,L2.M.rU,L2.M.tTest,L2.M.tAug,L2.M.tX0,L2.M.tX1,L2.tSeq,L2.tAsg,L2.tOp,L2.tVar,L2.tC,L2.gName,L2.rI,L2.rI0,L2.start,L2.tIfS,L2.tTest,L2.tRet,L2.tTup,L2.tCons,L2.tNil,L2.tUn,L2.rU,L2.rEq,L2.rNe,L2.tNext,L2.tCB,L2.tRaise,L2.tRaiseA,L2.tOr,L2.tAnd,L2.tNot,L2.tB,L2.tCall,L2.gTup,L2.gCons,L2.gNil,L2.tX0,L2.tX1,L2.tMZ,L2.tIf,L2.tChain,L2.tAug,L2.ipI,L2.tAndV,L2.tOrV,L2.tNotV,L2.TruV_i,L2.TruV_b,L2.TruV_r,L2.and1,L2.and2,L2.bits_bl,L2.scal_ii,L2.scal_bb,L2.sz1,L2.sz2,L2.sz3,L2.tn1,L2.p21,L2.le01,L2.tW0,L2.tW1,L2.tW2,L2.cxOf,Bool.not_eq_true',decide_eq_false_iff_not,
 List.map_cons,List.map_nil,List.length_cons,List.length_nil,List.replicate_succ,List.replicate_zero,List.cons_append,List.nil_append,List.getElem?_cons_zero,List.getElem?_cons_succ,List.set_cons_zero,List.set_cons_succ,
 Option.some.injEq,L2.V.int.injEq,L2.V.bl.injEq,L2.V.ref.injEq,List.cons.injEq,exists_eq_left',exists_eq_left,exists_and_left,true_and,and_true,and_assoc,Nat.reduceAdd,Nat.reduceSub,List.append_nil,decide_eq_true_eq,if_true,if_false,Bool.false_eq_true,reduceIte, *]))
namespace Pw
open PySem L2
def top (i:Nat):Stmt:=PySem.Challenge.pw_pullswarm_s01_answers.main.body.getD i (.Pass ⟨0,0,0,0⟩)
structure Ad where
 exc:Addr
 pz:Addr
 mz:Addr
 hf:Addr
 tw:Addr
 lens:Addr
 cCell:Addr
 cField:Addr
 cMotion:Addr
 cSwarm:Addr
structure Tx (K:PySem.W.Frag) (mg:Str→Option Value) (a:Ad):Prop where
 sign:Gv mg "SIGN" (.int 9223372036854775808)
 inf:Gv mg "INFINITY" (.int 9218868437227405312)
 leading:Gv mg "LEADING" (.int 4503599627370496)
 mb:Gv mg "MOST_BITS" (.int 53)
 le:Gv mg "LEAST_EXPONENT" (.int (-1074))
 bey:Gv mg "BEYOND" (.int 1024)
 deep:Gv mg "DEEPEST" (.int 20)
 most:Gv mg "MOST_BODIES" (.int 4096)
 steps:Gv mg "MOST_STEPS" (.int 1000000)
 done:Gv mg "DONE" (.int 0)
 room:Gv mg "NO_ROOM" (.int (-1))
 such:Gv mg "NO_SUCH_BODY" (.int (-2))
 count:Gv mg "WRONG_COUNT" (.int (-2))
 dbl:Gv mg "WRONG_DOUBLE" (.int (-3))
 fail:Gv mg "FAILED" (.int (-5))
 begin_:Gv mg "BEGIN" (.int 0)
 put:Gv mg "PUT" (.int 1)
 set:Gv mg "SET" (.int 2)
 step:Gv mg "STEP" (.int 3)
 get:Gv mg "GET" (.int 4)
 lens:Gv mg "LENGTHS" (.ref a.lens)
 lensK:KInts K a.lens [(0,2),(1,7),(2,8),(3,2),(4,1),(5,0)]
 pz:Gv mg "PLUS_ZERO" (.ref a.pz)
 mz:Gv mg "MINUS_ZERO" (.ref a.mz)
 half:Gv mg "HALF" (.ref a.hf)
 two:Gv mg "TWO" (.ref a.tw)
 pzK:Kt K a.pz [.int 0,.int 0]
 mzK:Kt K a.mz [.int 0,.int (-1)]
 halfK:Kt K a.hf [.int 1,.int (-1)]
 twoK:Kt K a.tw [.int 1,.int 1]
 exc:OwnExc K mg "Failed" a.exc [.type "Exception",.type "BaseException",.type "object"] "Exception.__new__"
 exm:PySem.W.exmOne K (.ref a.exc) (.ref a.exc)=some true
 max:mg "max"=none
 abs:mg "abs"=none
 len:mg "len"=none
 range:mg "range"=none
 zip:mg "zip"=none
 enum:mg "enumerate"=none
 rev:mg "reversed"=none
 list:mg "list"=none
 dict:mg "dict"=none
 all:mg "all"=none
abbrev RD (K:PySem.W.Frag):V→Hp→Nat→Prop:=fun v H b=>Dbl K H v b
abbrev RB:V→Hp→Bool→Prop:=fun v _ b=>v=.bl b
abbrev RI:V→Hp→Int→Prop:=fun v _ i=>v=.int i
section
variable {P:Program} {w:World} {K:PySem.W.Frag} {mg:Str→Option Value} {base:Heap} {a:Ad}
theorem dbl_new {H:Hp} {p:Addr} {m e:Int} {b:Nat} (r:Fl.Rep m e b):Dbl K (upd H p (.tup [.int m,.int e])) (.ref p) b:=⟨p,m,e,rfl,.inl uS,r⟩
theorem dbl_pz (T:Tx K mg a) (H:Hp):Dbl K H (.ref a.pz) 0:=⟨_,_,_,rfl,.inr T.pzK,Fl.zero_rep (neg:=false)⟩
theorem dbl_mz (T:Tx K mg a) (H:Hp):Dbl K H (.ref a.mz) (2 ^ 63):=⟨_,_,_,rfl,.inr T.mzK,Fl.zero_rep (neg:=true)⟩
theorem Tx.mzT (T:Tx K mg a):∀ H,SqT K H a.mz [.int 0,.int (-1)]:=fun H=>T.mzK.sq
theorem dbl_zero (T:Tx K mg a) (H:Hp) (neg:Bool):Dbl K H (.ref (if neg=true then a.mz else a.pz)) (Sn48.signBit neg):=by
 cases neg with
 | true=>exact dbl_mz T H
 | false=>exact dbl_pz T H
abbrev tZ5v:Stmt:=top 18
theorem cZ30:FnScope ["m","e","extra","near"] ["m","e"] (defScope tZ5v):=by walk_at "sc"
def pZ_47 (K:PySem.W.Frag) (C:Addr):Sp:=fun vs H Q E=>∃ m e:Int,vs=[.int m,.int e]∧m≠0∧m.natAbs < 2 ^ 3000∧-6000≤e∧e≤6000∧Rs (RD K) C (Sn48.rounded (decide (m < 0)) m.natAbs e false) H Q E
theorem chk_end {C:Addr} {m e:Int} {o:Option Nat} {H:Hp} {Q:VK} {E:XK} (h:Fl.RepO (Fl.chk m e) o) (k:Rs (RD K) C o H Q E) :
  if 1024≤e + 53 then (if 1024 < e + Fl.bl m then E (.ref C) none H else ∀ p,H p=none→Q (.ref p) (upd H p (.tup [.int m,.int e]))) else ∀ p,H p=none→Q (.ref p) (upd H p (.tup [.int m,.int e])):=by
 unfold Fl.chk at h
 have good:¬ (1024≤e + 53∧1024 < e + Fl.bl m)→∀ p,H p=none→Q (.ref p) (upd H p (.tup [.int m,.int e])):=fun c p hp=>by
  rw [if_neg c] at h
  cases o with
  | none=>exact False.elim h
  | some b=>exact k.ret (.new hp) (dbl_new h)
 by_cases c1:1024≤e + 53
 ·rw [if_pos c1]
  by_cases c2:1024 < e + Fl.bl m
  ·rw [if_pos c2]
   rw [if_pos ⟨c1,c2⟩] at h
   cases o with
   | none=>exact k.fail (Same.refl _)
   | some b=>exact False.elim h
  ·rw [if_neg c2]
   exact good fun z=>c2 z.2
 ·rw [if_neg c1]
  exact good fun z=>c1 z.1
abbrev RE (m e:Int) (H:Hp) (Q:VK) (E:XK) (a:Ad) (N:Int):Prop :=
 if N=0 then (if 0 < m then Q (.ref a.pz) H else Q (.ref a.mz) H) else if 1024≤e + Fl.extraOf m e + 53 then (if 1024 < e + Fl.extraOf m e + Fl.bl N then E (.ref a.exc) none H else ∀ p,H p=none→Q (.ref p) (upd H p (.tup [.int N,.int (e + Fl.extraOf m e)]))) else ∀ p,H p=none→Q (.ref p) (upd H p (.tup [.int N,.int (e + Fl.extraOf m e)]))
theorem mid_end (T:Tx K mg a) {m e N:Int} {H:Hp} {Q:VK} {E:XK} (h0:m≠0) (hx:0 < Fl.extraOf m e) (hN:N=Fl.kept m (Fl.extraOf m e).toNat) (k:Rs (RD K) a.exc (Sn48.rounded (decide (m < 0)) m.natAbs e false) H Q E):RE m e H Q E a N:=by
 have r:=Fl.rnd_ok (e:=e) h0
 unfold Fl.rnd at r
 rw [if_pos hx,← hN] at r
 unfold RE
 by_cases c:N=0
 ·rw [if_pos c] at r ⊢
  generalize Sn48.rounded (decide (m < 0)) m.natAbs e false=o at *
  cases o with
  | none=>exact False.elim r
  | some b =>
   by_cases c2:0 < m
   ·rw [if_pos c2] at r ⊢
    exact k.ret (Same.refl _) ⟨_,_,_,rfl,.inr T.pzK,r⟩
   ·rw [if_neg c2] at r ⊢
    exact k.ret (Same.refl _) ⟨_,_,_,rfl,.inr T.mzK,r⟩
 ·rw [if_neg c] at r ⊢
  exact chk_end r k
theorem kZ1c (T:Tx K mg a) (F:Df K mg "rounded" tZ5v ["m","e"]):Cb P w K mg base "rounded" tZ5v ["m","e"] 1 (pZ_47 K a.exc):=by
 refine .mk F cZ30 (fun vs H Q E h=>?_) (fun f cdv A outer s H vs Q E hr h th=>?_)
 ·obtain ⟨_,_,rfl,_⟩:=h
  rfl
 ·obtain ⟨m,e,rfl,h0,hm,he1,he2,k⟩:=h
  refine ⟨_,(pZ (ps_set (i:=2) cZ30.nd rfl (Or.inl rfl) (pe_op (M.o0 op_sub) (pe_bits (M.pv 0)) (pe_gl T.mb)))
   (pZ (ps_if (M.pt_cmpR (M.o0 op_lt) (pe_op (M.o0 op_add) (M.pv 1) (M.pv 2)) (pe_gl T.le) (nomark _)) (pO (ps_set (i:=2) cZ30.nd rfl (Or.inl rfl) (pe_op (M.o0 op_sub) (pe_gl T.le) (M.pv 1)))) pss_nil)
   (pZ (ps_if (M.pt_cmpR (M.o0 op_gt) (M.pv 2) pI (nomark _)) (pZ (ps_set (i:=3) cZ30.nd rfl (Or.inl rfl) (pe_op (M.oI op_shr) (M.pv 0) (pe_op (M.o0 op_sub) (M.pv 2) pI)))
    (pZ (ps_if (PW.pt (pw_and (pt_truth (pe_op (M.o0 op_and) (M.pv 3) pI) (fun _=>rfl)) (pw_and1 (PW.pt (pw_or (pt_truth (pe_op (M.o0 op_and) (M.pv 3) pI) (fun _=>rfl)) (pw_or1 (M.pt_cmpR op_ne (pe_op (M.oI op_shlG) (M.pv 3) (pe_op (M.o0 op_sub) (M.pv 2) pI)) (M.pv 0) (nomark _)))))))) (pO (M.aug (ps_aug (i:=3) cZ30.nd rfl (Or.inl rfl) pI (M.oP ip_add)))) pss_nil)
    (pZ (M.aug (ps_aug (i:=3) cZ30.nd rfl (Or.inl rfl) pI (M.oI iop_shr)))
    (pZ (ps_if (M.pt_cmpR op_eq (M.pv 3) pI (nomark _)) (pO (ps_ret (pe_ifExp (M.pt_cmpR (M.o0 op_gt) (M.pv 0) pI (nomark _)) (pe_gl T.pz) (pe_gl T.mz)))) pss_nil)
    (pZ (ps_set (i:=0) cZ30.nd rfl (Or.inl rfl) (M.pv 3))
    (pO (M.aug (ps_aug (i:=1) cZ30.nd rfl (Or.inl rfl) (M.pv 2) (M.oP ip_add))))))))) pss_nil)
   (pZ (ps_if (PW.pt (pw_and (M.pt_cmpR (M.o0 op_ge) (pe_op (M.o0 op_add) (M.pv 1) (pe_gl T.mb)) (pe_gl T.bey) (nomark _)) (pw_and1 (M.pt_cmpR (M.o0 op_gt) (pe_op (M.o0 op_add) (M.pv 1) (pe_bits (M.pv 0))) (pe_gl T.bey) (nomark _))))) (pO (ps_raise th rfl T.exc PySem.F.excBase_Exception rfl (pY pe_str pN))) pss_nil)
   (pO (ps_ret (pe_tup (pY (M.pv 0) (pY (M.pv 1) pN))))))))),?_⟩
  walk_at "rd"
  have key:0 < Fl.extraOf m e→0≤Fl.extraOf m e - 1 ∧
    if m / 2 ^ (Fl.extraOf m e - 1).toNat % 2=1 then
     if m / 2 ^ (Fl.extraOf m e - 1).toNat / 2 % 2=1 then
      RE m e H Q E a ((m / 2 ^ (Fl.extraOf m e - 1).toNat + 1) / 2)
     else CShl (m / 2 ^ (Fl.extraOf m e - 1).toNat) (Fl.extraOf m e - 1) ∧
      if ¬ m / 2 ^ (Fl.extraOf m e - 1).toNat * 2 ^ (Fl.extraOf m e - 1).toNat=m then RE m e H Q E a ((m / 2 ^ (Fl.extraOf m e - 1).toNat + 1) / 2) else RE m e H Q E a (m / 2 ^ (Fl.extraOf m e - 1).toNat / 2)
    else RE m e H Q E a (m / 2 ^ (Fl.extraOf m e - 1).toNat / 2):=by
   intro hx
   have hd:(Fl.extraOf m e - 1).toNat=(Fl.extraOf m e).toNat - 1:=by lia
   have hl:m.natAbs.log2 < 3000:=(Nat.log2_lt (by lia)).mpr hm
   have hq:=Fl.extraOf_eq (e:=e) h0
   have hq2:Fl.qOf m.natAbs e≤9000:=by unfold Fl.qOf;lia
   have hk:Fl.kept m (Fl.extraOf m e).toNat=(if Fl.nearOf m (Fl.extraOf m e).toNat % 2=1∧(Fl.nearOf m (Fl.extraOf m e).toNat / 2 % 2=1∨Fl.nearOf m (Fl.extraOf m e).toNat * 2 ^ ((Fl.extraOf m e).toNat - 1)≠m) then Fl.nearOf m (Fl.extraOf m e).toNat + 1 else Fl.nearOf m (Fl.extraOf m e).toNat) / 2:=rfl
   rw [hd]
   show 0≤Fl.extraOf m e - 1∧if Fl.nearOf m (Fl.extraOf m e).toNat % 2=1 then _ else _
   refine ⟨by lia,?_⟩
   have sn:Sm (Fl.nearOf m (Fl.extraOf m e).toNat):=by
    have s1:Sm m:=Sm.of_lt 3000 hm
    refine Nat.lt_of_le_of_lt ?_ s1
    unfold Fl.nearOf
    rw [← Fl.two_pow_cast]
    generalize 2 ^ ((Fl.extraOf m e).toNat - 1)=p2
    rcases Int.le_total 0 m with z | z
    ·have:m / (p2:Int)≤m:=Int.ediv_le_self _ z
     have:0≤m / (p2:Int):=Int.ediv_nonneg z (by lia)
     lia
    ·by_cases hp:p2=0
     ·subst hp
      simp
     ·have:=Fl.neg_div_nat (M:=m.natAbs) (p:=p2) (by lia)
      have e1:-((m.natAbs:Nat):Int)=m:=by lia
      rw [e1] at this
      rw [this,Int.natAbs_neg,Int.natAbs_natCast]
      have:(m.natAbs + p2 - 1) / p2≤m.natAbs:=by
       rw [Nat.div_le_iff_le_mul (by lia)]
       have:1 * p2≤m.natAbs * p2:=Nat.mul_le_mul_right _ (by lia)
       have:m.natAbs * 1≤m.natAbs * p2:=Nat.mul_le_mul_left _ (by lia)
       have h3:m.natAbs + p2≤m.natAbs * p2 + p2:=by lia
       lia
      exact this
   by_cases c1:Fl.nearOf m (Fl.extraOf m e).toNat % 2=1
   ·rw [if_pos c1]
    by_cases c2:Fl.nearOf m (Fl.extraOf m e).toNat / 2 % 2=1
    ·have e2:m / 2 ^ ((Fl.extraOf m e).toNat - 1) / 2 % 2=1:=c2
     rw [if_pos e2]
     rw [if_pos ⟨c1,.inl c2⟩] at hk
     exact mid_end T h0 hx hk.symm k
    ·have e2:¬ m / 2 ^ ((Fl.extraOf m e).toNat - 1) / 2 % 2=1:=c2
     rw [if_neg e2]
     refine ⟨⟨by lia,by lia,sn⟩,?_⟩
     by_cases c3:Fl.nearOf m (Fl.extraOf m e).toNat * 2 ^ ((Fl.extraOf m e).toNat - 1)=m
     ·have e3:m / 2 ^ ((Fl.extraOf m e).toNat - 1) * 2 ^ ((Fl.extraOf m e).toNat - 1)=m:=c3
      rw [if_neg (fun z=>z e3)]
      rw [if_neg (fun z=>by rcases z.2 with y | y;exact c2 y;exact y c3)] at hk
      exact mid_end T h0 hx hk.symm k
     ·have e3:¬ m / 2 ^ ((Fl.extraOf m e).toNat - 1) * 2 ^ ((Fl.extraOf m e).toNat - 1)=m:=c3
      rw [if_pos e3]
      rw [if_pos ⟨c1,.inr c3⟩] at hk
      exact mid_end T h0 hx hk.symm k
   ·rw [if_neg c1]
    rw [if_neg (fun z=>c1 z.1)] at hk
    exact mid_end T h0 hx hk.symm k
  have low:¬ 0 < Fl.extraOf m e→if 1024≤e + 53 then (if 1024 < e + Fl.bl m then E (.ref a.exc) none H else ∀ p,H p=none→Q (.ref p) (upd H p (.tup [.int m,.int e]))) else ∀ p,H p=none→Q (.ref p) (upd H p (.tup [.int m,.int e])):=by
   intro hx
   have r:=Fl.rnd_ok (e:=e) h0
   unfold Fl.rnd at r
   rw [if_neg hx] at r
   exact chk_end r k
  by_cases c:e + (Fl.bl m - 53) < -1074
  ·rw [if_pos c]
   have hX:-1074 - e=Fl.extraOf m e:=by unfold Fl.extraOf;rw [if_pos c]
   rw [hX]
   by_cases hx:0 < Fl.extraOf m e
   ·rw [if_pos hx]
    exact key hx
   ·rw [if_neg hx]
    exact low hx
  ·rw [if_neg c]
   have hX:Fl.bl m - 53=Fl.extraOf m e:=by unfold Fl.extraOf;rw [if_neg c]
   rw [hX]
   by_cases hx:0 < Fl.extraOf m e
   ·rw [if_pos hx]
    exact key hx
   ·rw [if_neg hx]
    exact low hx
end
end Pw
namespace Pw
open PySem L2
def sp2 (K:PySem.W.Frag) (C:Addr) (f:Nat→Nat→Option Nat):Sp:=fun vs H Q E=>∃ v w x y,vs=[v,w]∧Dbl K H v x∧Dbl K H w y∧Rs (RD K) C (f x y) H Q E
def sp1 (K:PySem.W.Frag) (C:Addr) (f:Nat→Option Nat):Sp:=fun vs H Q E=>∃ v x,vs=[v]∧Dbl K H v x∧Rs (RD K) C (f x) H Q E
def spb2 (K:PySem.W.Frag) (C:Addr) (f:Nat→Nat→Bool):Sp:=fun vs H Q E=>∃ v w x y,vs=[v,w]∧Dbl K H v x∧Dbl K H w y∧Rs RB C (some (f x y)) H Q E
def spb1 (K:PySem.W.Frag) (C:Addr) (f:Nat→Bool):Sp:=fun vs H Q E=>∃ v x,vs=[v]∧Dbl K H v x∧Rs RB C (some (f x)) H Q E
def Vec (K:PySem.W.Frag) (H:Hp) (v:V) (p:Sn48.P):Prop:=∃ a x y z,v=.ref a∧H a=some (.lst [x,y,z])∧Dbl K H x p.x∧Dbl K H y p.y∧Dbl K H z p.z
section
variable {P:Program} {w:World} {K:PySem.W.Frag} {mg:Str→Option Value} {base:Heap} {a:Ad}
theorem Vec.same {H H':Hp} {v:V} {p:Sn48.P} (h:Vec K H v p) (s:Same H H'):Vec K H' v p:=let ⟨q,x,y,z,e,h,d1,d2,d3⟩:=h;⟨q,x,y,z,e,s _ _ h,d1.same s,d2.same s,d3.same s⟩
abbrev tZ5p:Stmt:=top 19
theorem cZ2u:FnScope ["x"] ["x"] (defScope tZ5p):=by walk_at "sc"
theorem kZ16 (T:Tx K mg a) (F:Df K mg "opposite" tZ5p ["x"]):Cb P w K mg base "opposite" tZ5p ["x"] 1 (sp1 K a.exc fun x=>some (Sn48.opposite x)):=by
 refine .mk F cZ2u (fun vs H Q E h=>?_) (fun f cdv A outer s H vs Q E hr h th=>?_)
 ·obtain ⟨_,_,rfl,_⟩:=h
  rfl
 ·obtain ⟨_,x,rfl,⟨ax,m1,e1,rfl,tx,rx⟩,k⟩:=h
  have hx:=tx.sq
  have ho:=Fl.opp_pair rx
  refine ⟨_,(pZ (ps_if (pt_cmpR op_eq (px0 m1 e1 0) pI (nomark _)) (pO (ps_ret (pe_ifExp (pmzT hr.units T.mzT T.mz m1 e1 0) (pe_gl T.pz) (pe_gl T.mz)))) pss_nil)
   (pO (ps_ret (pe_tup (pY (pe_un un_neg (px0 m1 e1 0)) (pY (px1 m1 e1 0) pN)))))),?_⟩
  walk_at "rd"
  by_cases c:m1=0
  ·rw [if_pos c]
   have r:=ho.2 c
   by_cases c2:e1 = -1
   ·rw [if_pos ⟨c,c2⟩]
    rw [if_pos c2] at r
    exact k.ret (Same.refl _) ⟨_,_,_,rfl,.inr T.pzK,r⟩
   ·rw [if_neg (fun z=>c2 z.2)]
    rw [if_neg c2] at r
    exact k.ret (Same.refl _) ⟨_,_,_,rfl,.inr T.mzK,r⟩
  ·rw [if_neg c]
   exact fun p hp=>k.ret (.new hp) (dbl_new (ho.1 c))
abbrev tZ5j:Stmt:=top 20
theorem cZ2o:FnScope ["x"] ["x"] (defScope tZ5j):=by walk_at "sc"
theorem kZ10 (T:Tx K mg a) (F:Df K mg "is_minus" tZ5j ["x"]):Cb P w K mg base "is_minus" tZ5j ["x"] 1 (spb1 K a.exc Sn48.negative):=by
 refine .mk F cZ2o (fun vs H Q E h=>?_) (fun f cdv A outer s H vs Q E hr h th=>?_)
 ·obtain ⟨_,_,rfl,_⟩:=h
  rfl
 ·obtain ⟨_,x,rfl,⟨ax,m1,e1,rfl,tx,rx⟩,k⟩:=h
  have hx:=tx.sq
  have hn:=rx.neg
  refine ⟨_,(pO (ps_ret (pe_or (pe_cmpR op_lt (px0 m1 e1 0) pI (nomark _)) (pe_one (pmz hr.units T.mzT T.mz m1 e1 0))))),?_⟩
  walk_at "rd"
  rw [hn] at k
  by_cases c:m1 < 0
  ·rw [if_pos c]
   exact k.ret (Same.refl _) (by show V.bl _=V.bl _;rw [decide_eq_true (.inl c)])
  ·rw [if_neg c]
   refine k.ret (Same.refl _) ?_
   show V.bl _=V.bl _
   congr 1
   rw [decide_eq_decide]
   omega
abbrev tZ66:Stmt:=top 21
theorem cZ3b:FnScope ["x","y"] ["x","y"] (defScope tZ66):=by walk_at "sc"
theorem kZ1n (T:Tx K mg a) (F:Df K mg "zero_of_signs" tZ66 ["x","y"]) (B_is_minus:Cb P w K mg base "is_minus" tZ5j ["x"] 1 (spb1 K a.exc Sn48.negative)) :
  Cb P w K mg base "zero_of_signs" tZ66 ["x","y"] 2 (sp2 K a.exc fun x y=>some (Sn48.signBit (Sn48.negative x != Sn48.negative y))):=by
 refine .mk F cZ3b (fun vs H Q E h=>?_) (fun f cdv A outer s H vs Q E hr h th=>?_)
 ·obtain ⟨_,_,_,_,rfl,_⟩:=h
  rfl
 ·obtain ⟨v,u,x,y,rfl,dx,dy,k⟩:=h
  refine ⟨_,(pO (ps_ret (pe_ifExp (pt_cmpR op_ne (pb B_is_minus hr th (pY (pv 0) pN)) (pb B_is_minus hr th (pY (pv 1) pN)) (nomark _)) (pe_gl T.mz) (pe_gl T.pz)))),?_⟩
  walk_at "rd"
  refine ⟨v,x,rfl,dx,.pur fun v1 H1 s1 e1=>⟨u,y,rfl,dy.same s1,.pur fun v2 H2 s2 e2=>?_⟩⟩
  subst e1 e2
  refine ⟨rfl,?_⟩
  have z:=dbl_zero T H2 (Sn48.negative x != Sn48.negative y)
  replace k:Rs (RD K) a.exc (some (Sn48.signBit (Sn48.negative x != Sn48.negative y))) H Q E:=k
  generalize Sn48.negative x=b1 at *
  generalize Sn48.negative y=b2 at *
  by_cases c:b1=b2
  ·subst c
   rw [if_neg (fun z=>z rfl)]
   rw [bne_self_eq_false] at z k
   exact k.ret (s1.trans s2) z
  ·rw [if_pos (fun z=>c (by injection z))]
   have e:(b1 != b2)=true:=bne_iff_ne.mpr c
   rw [e] at z
   rw [e] at k
   exact k.ret (s1.trans s2) z
end
end Pw
namespace Pw
open PySem L2
section
variable {m1 e1 m2 e2:Int} {x y:Nat}
theorem add_w1 (h1:Fl.Rep m1 e1 x) (h2:Fl.Rep m2 e2 y) (h:e2≤e1):(m1 * 2 ^ (e1 - e2).toNat + m2) * 2 ^ (e2 + 1074).toNat=Sn48.worth x + Sn48.worth y:=by
 rw [h1.wo,h2.wo,Int.add_mul,Int.mul_assoc,← Int.pow_add]
 have:=h2.lo
 congr 3
 omega
theorem add_w2 (h1:Fl.Rep m1 e1 x) (h2:Fl.Rep m2 e2 y) (h:e1≤e2):(m1 + m2 * 2 ^ (-(e1 - e2)).toNat) * 2 ^ (e1 + 1074).toNat=Sn48.worth x + Sn48.worth y:=by
 rw [h1.wo,h2.wo,Int.add_mul,Int.mul_assoc,← Int.pow_add]
 have:=h1.lo
 congr 3
 omega
theorem pow_bound {a b:Int} {k:Nat} (ha:a.natAbs≤2 ^ 53) (hb:b.natAbs≤2 ^ 53) (hk:k≤2100):(a * 2 ^ k + b).natAbs < 2 ^ 3000:=by
 have h1:(a * 2 ^ k).natAbs≤2 ^ 53 * 2 ^ 2100:=by
  rw [Fl.natAbs_mul_pow]
  exact Nat.mul_le_mul ha (Fl.pow_le hk)
 have h2:(a * 2 ^ k + b).natAbs≤(a * 2 ^ k).natAbs + b.natAbs:=Int.natAbs_add_le _ _
 have h3:2 ^ 53 * 2 ^ 2100 + 2 ^ 53 < 2 ^ 3000:=by
  have e:(2:Nat) ^ 3000=2 ^ 53 * 2 ^ 2100 * 2 ^ 847:=by rw [← Nat.pow_add,← Nat.pow_add]
  rw [e]
  have hp:2 ^ 53≤2 ^ 53 * 2 ^ 2100:=Nat.le_mul_of_pos_right _ (Fl.two_pos _)
  generalize 2 ^ 53 * 2 ^ 2100=z at *
  have:z * 3≤z * 2 ^ 847:=Nat.mul_le_mul_left _ (Nat.le_trans (show 3≤2 ^ 2 by decide) (Fl.pow_le (by decide)))
  omega
 omega
theorem divM_bound (D B:Int) (hB:B≠0):(Fl.divM D B).natAbs≤2 * D.natAbs + 1:=by
 have key:=Fl.divM_abs (a:=D.natAbs) (b:=B.natAbs) (by omega) (decide (D < 0)) (decide (B < 0))
 have e1:(if decide (D < 0)=true then -((D.natAbs:Nat):Int) else ((D.natAbs:Nat):Int))=D:=by
  by_cases c:D < 0
  ·rw [decide_eq_true c,if_pos rfl];omega
  ·rw [decide_eq_false c,if_neg (by decide)];omega
 have e2:(if decide (B < 0)=true then -((B.natAbs:Nat):Int) else ((B.natAbs:Nat):Int))=B:=by
  by_cases c:B < 0
  ·rw [decide_eq_true c,if_pos rfl];omega
  ·rw [decide_eq_false c,if_neg (by decide)];omega
 rw [e1,e2] at key
 rw [key]
 have h1:D.natAbs / B.natAbs≤D.natAbs:=Nat.div_le_self _ _
 split <;> split <;> omega
end
section
variable {P:Program} {w:World} {K:PySem.W.Frag} {mg:Str→Option Value} {base:Heap} {a:Ad}
theorem plus_end (T:Tx K mg a) {m1 e1 m2 e2 M e:Int} {x y:Nat} {H:Hp} {Q:VK} {E:XK} (rx:Fl.Rep m1 e1 x) (ry:Fl.Rep m2 e2 y) (hw:M * 2 ^ (e + 1074).toNat=Sn48.worth x + Sn48.worth y) (lo:-1074≤e) (hi:e≤1023) (hM:M.natAbs < 2 ^ 3000) (k:Rs (RD K) a.exc (Sn48.add x y) H Q E) :
  if M=0 then (if m1=0∧e1 = -1 then if m2=0∧e2 = -1 then Q (.ref a.mz) H else Q (.ref a.pz) H else Q (.ref a.pz) H) else pZ_47 K a.exc [.int M,.int e] H Q E:=by
 rw [Fl.addP_of lo hw] at k
 unfold Fl.addP at k
 by_cases c:M=0
 ·rw [if_pos c] at k ⊢
  have z:Sn48.worth x + Sn48.worth y=0:=by rw [← hw,c,Int.zero_mul]
  have q:=Fl.add_zero_sign rx ry z
  by_cases c1:m1=0∧e1 = -1
  ·rw [if_pos c1]
   by_cases c2:m2=0∧e2 = -1
   ·rw [if_pos c2]
    rw [if_pos (q.mpr ⟨c1,c2⟩)] at k
    exact k.ret (Same.refl _) (dbl_mz T H)
   ·rw [if_neg c2]
    rw [if_neg (fun y=>c2 (q.mp y).2)] at k
    exact k.ret (Same.refl _) (dbl_pz T H)
  ·rw [if_neg c1]
   rw [if_neg (fun y=>c1 (q.mp y).1)] at k
   exact k.ret (Same.refl _) (dbl_pz T H)
 ·rw [if_neg c] at k ⊢
  exact ⟨M,e,rfl,c,hM,by omega,by omega,k⟩
abbrev tZ5s:Stmt:=top 22
theorem cZ2x:FnScope ["x","y","shift","m","e"] ["x","y"] (defScope tZ5s):=by walk_at "sc"
theorem kZ19 (T:Tx K mg a) (F:Df K mg "plus" tZ5s ["x","y"]) (B_rounded:Cb P w K mg base "rounded" tZ5v ["m","e"] 1 (pZ_47 K a.exc)):Cb P w K mg base "plus" tZ5s ["x","y"] 2 (sp2 K a.exc Sn48.add):=by
 refine .mk F cZ2x (fun vs H Q E h=>?_) (fun f cdv A outer s H vs Q E hr h th=>?_)
 ·obtain ⟨_,_,_,_,rfl,_⟩:=h
  rfl
 ·obtain ⟨_,_,x,y,rfl,⟨ax,m1,e1,rfl,tx,rx⟩,⟨ay,m2,e2,rfl,ty,ry⟩,k⟩:=h
  have hx:=tx.sq
  have hy:=ty.sq
  refine ⟨_,(pZ (ps_set (i:=2) cZ2x.nd rfl (Or.inl rfl) (pe_op (M.o0 op_sub) (M.px1 m1 e1 0) (M.px1 m2 e2 1)))
   (pZ (ps_if (M.pt_cmpR (M.o0 op_ge) (M.pv 2) pI (nomark _)) (pZ (ps_set (i:=3) cZ2x.nd rfl (Or.inl rfl) (pe_op (M.o0 op_add) (pe_op (M.oI op_shlG) (M.px0 m1 e1 0) (M.pv 2)) (M.px0 m2 e2 1)))
    (pO (ps_set (i:=4) cZ2x.nd rfl (Or.inl rfl) (M.px1 m2 e2 1)))) (pZ (ps_set (i:=3) cZ2x.nd rfl (Or.inl rfl) (pe_op (M.o0 op_add) (M.px0 m1 e1 0) (pe_op (M.oI op_shlG) (M.px0 m2 e2 1) (pe_un (M.oU un_neg) (M.pv 2)))))
    (pO (ps_set (i:=4) cZ2x.nd rfl (Or.inl rfl) (M.px1 m1 e1 0)))))
   (pZ (ps_if (M.pt_cmpR op_eq (M.pv 3) pI (nomark _)) (pO (ps_ret (pe_ifExp (PW.pt (pw_and (pmzT hr.units T.mzT T.mz m1 e1 0) (pw_and1 (pmzT hr.units T.mzT T.mz m2 e2 1)))) (pe_gl T.mz) (pe_gl T.pz)))) pss_nil)
   (pO (ps_ret (pb B_rounded hr th (pY (M.pv 3) (pY (M.pv 4) pN)))))))),?_⟩
  walk_at "rd"
  have a1:=rx.lo
  have a2:=rx.hi
  have b1:=ry.lo
  have b2:=ry.hi
  by_cases c:0≤e1 - e2
  ·rw [if_pos c]
   exact ⟨⟨c,by omega,Sm.le rx.mag⟩,plus_end T rx ry (add_w1 rx ry (by omega)) b1 b2 (pow_bound rx.mag ry.mag (by omega)) k⟩
  ·rw [if_neg c]
   refine ⟨⟨by omega,by omega,Sm.le ry.mag⟩,plus_end T rx ry (add_w2 rx ry (by omega)) a1 a2 ?_ k⟩
   rw [Int.add_comm]
   exact pow_bound ry.mag rx.mag (by omega)
abbrev tZ5o:Stmt:=top 23
theorem cZ2t:FnScope ["x","y"] ["x","y"] (defScope tZ5o):=by walk_at "sc"
theorem kZ15 (T:Tx K mg a) (F:Df K mg "minus" tZ5o ["x","y"]) (B_plus:Cb P w K mg base "plus" tZ5s ["x","y"] 2 (sp2 K a.exc Sn48.add)) (B_opposite:Cb P w K mg base "opposite" tZ5p ["x"] 1 (sp1 K a.exc fun x=>some (Sn48.opposite x))):Cb P w K mg base "minus" tZ5o ["x","y"] 3 (sp2 K a.exc Sn48.sub):=by
 refine .mk F cZ2t (fun vs H Q E h=>?_) (fun f cdv A outer s H vs Q E hr h th=>?_)
 ·obtain ⟨_,_,_,_,rfl,_⟩:=h
  rfl
 ·obtain ⟨v,u,x,y,rfl,dx,dy,k⟩:=h
  refine ⟨_,(pO (ps_ret (pb B_plus hr th (pY (M.pv 0) (pY (pb B_opposite hr th (pY (M.pv 1) pN)) pN))))),?_⟩
  walk_at "rd"
  exact ⟨u,y,rfl,dy,.pur fun v1 H1 s1 d1=>⟨v,v1,x,Sn48.opposite y,rfl,dx.same s1,d1,k.same s1⟩⟩
abbrev tZ60:Stmt:=top 24
theorem cZ35:FnScope ["x","y","m"] ["x","y"] (defScope tZ60):=by walk_at "sc"
theorem kZ1h (T:Tx K mg a) (F:Df K mg "times" tZ60 ["x","y"]) (B_rounded:Cb P w K mg base "rounded" tZ5v ["m","e"] 1 (pZ_47 K a.exc)) (B_zero_of_signs:Cb P w K mg base "zero_of_signs" tZ66 ["x","y"] 2 (sp2 K a.exc fun x y=>some (Sn48.signBit (Sn48.negative x != Sn48.negative y)))):Cb P w K mg base "times" tZ60 ["x","y"] 3 (sp2 K a.exc Sn48.mul):=by
 refine .mk F cZ35 (fun vs H Q E h=>?_) (fun f cdv A outer s H vs Q E hr h th=>?_)
 ·obtain ⟨_,_,_,_,rfl,_⟩:=h
  rfl
 ·obtain ⟨_,_,x,y,rfl,⟨ax,m1,e1,rfl,tx,rx⟩,⟨ay,m2,e2,rfl,ty,ry⟩,k⟩:=h
  have hx:=tx.sq
  have hy:=ty.sq
  refine ⟨_,(pZ (ps_set (i:=2) cZ35.nd rfl (Or.inl rfl) (pe_op (M.oI op_mulG) (M.px0 m1 e1 0) (M.px0 m2 e2 1)))
   (pZ (ps_if (M.pt_cmpR op_eq (M.pv 2) pI (nomark _)) (pO (ps_ret (pb B_zero_of_signs hr th (pY (M.pv 0) (pY (M.pv 1) pN))))) pss_nil)
   (pO (ps_ret (pb B_rounded hr th (pY (M.pv 2) (pY (pe_op (M.o0 op_add) (M.px1 m1 e1 0) (M.px1 m2 e2 1)) pN))))))),?_⟩
  walk_at "rd"
  have a1:=rx.lo
  have a2:=rx.hi
  have b1:=ry.lo
  have b2:=ry.hi
  refine ⟨⟨Sm.le rx.mag,Sm.le ry.mag⟩,?_⟩
  rw [Fl.mul_pair rx ry] at k
  by_cases c:m1 * m2=0
  ·rw [if_pos c] at k ⊢
   exact ⟨_,_,x,y,rfl,⟨ax,m1,e1,rfl,tx,rx⟩,⟨ay,m2,e2,rfl,ty,ry⟩,k⟩
  ·rw [if_neg c] at k ⊢
   refine ⟨_,_,rfl,c,?_,by omega,by omega,k⟩
   rw [Int.natAbs_mul]
   refine Nat.lt_of_le_of_lt (Nat.mul_le_mul rx.mag ry.mag) ?_
   rw [← Nat.pow_add]
   exact Fl.pow_lt (by decide)
abbrev tZ5q:Stmt:=top 25
theorem cZ2v:FnScope ["x","y","shift","dividend","m"] ["x","y"] (defScope tZ5q):=by walk_at "sc"
theorem kZ17 (T:Tx K mg a) (F:Df K mg "over" tZ5q ["x","y"]) (B_rounded:Cb P w K mg base "rounded" tZ5v ["m","e"] 1 (pZ_47 K a.exc)) (B_zero_of_signs:Cb P w K mg base "zero_of_signs" tZ66 ["x","y"] 2 (sp2 K a.exc fun x y=>some (Sn48.signBit (Sn48.negative x != Sn48.negative y)))):Cb P w K mg base "over" tZ5q ["x","y"] 3 (sp2 K a.exc Sn48.div):=by
 refine .mk F cZ2v (fun vs H Q E h=>?_) (fun f cdv A outer s H vs Q E hr h th=>?_)
 ·obtain ⟨_,_,_,_,rfl,_⟩:=h
  rfl
 ·obtain ⟨_,_,x,y,rfl,⟨ax,m1,e1,rfl,tx,rx⟩,⟨ay,m2,e2,rfl,ty,ry⟩,k⟩:=h
  have hx:=tx.sq
  have hy:=ty.sq
  refine ⟨_,(pZ (ps_if (M.pt_cmpR op_eq (M.px0 m2 e2 1) pI (nomark _)) (pO (ps_raise th rfl T.exc PySem.F.excBase_Exception rfl (pY pe_str pN))) pss_nil)
   (pZ (ps_if (M.pt_cmpR op_eq (M.px0 m1 e1 0) pI (nomark _)) (pO (ps_ret (pb B_zero_of_signs hr th (pY (M.pv 0) (pY (M.pv 1) pN))))) pss_nil)
   (pZ (ps_set (i:=2) cZ2v.nd rfl (Or.inl rfl) (pe_op (M.o0 op_sub) (pe_op (M.o0 op_add) (pe_op (M.o0 op_add) (pe_gl T.mb) pI) (pe_bits (M.px0 m2 e2 1))) (pe_bits (M.px0 m1 e1 0))))
   (pZ (ps_set (i:=3) cZ2v.nd rfl (Or.inl rfl) (pe_op (M.oI op_shlG) (M.px0 m1 e1 0) (M.pv 2)))
   (pZ (ps_set (i:=4) cZ2v.nd rfl (Or.inl rfl) (pe_op (M.oI op_mulG) (pe_op (M.oI op_fdivH) (M.pv 3) (M.px0 m2 e2 1)) pI))
   (pZ (ps_if (M.pt_cmpR op_ne (pe_op op_modN (M.pv 3) (M.px0 m2 e2 1)) pI (nomark _)) (pO (M.aug (ps_aug (i:=4) cZ2v.nd rfl (Or.inl rfl) pI (M.oP ip_add)))) pss_nil)
   (pO (ps_ret (pb B_rounded hr th (pY (M.pv 4) (pY (pe_op (M.o0 op_sub) (pe_op (M.o0 op_sub) (pe_op (M.o0 op_sub) (M.px1 m1 e1 0) (M.px1 m2 e2 1)) (M.pv 2)) pI) pN))))))))))),?_⟩
  walk_at "rd"
  have a1:=rx.lo
  have a2:=rx.hi
  have b1:=ry.lo
  have b2:=ry.hi
  by_cases c2:m2=0
  ·subst c2
   rw [if_pos rfl]
   rw [Fl.div_none ry] at k
   exact k.fail (Same.refl _)
  ·rw [if_neg c2]
   by_cases c1:m1=0
   ·subst c1
    rw [if_pos rfl]
    rw [Fl.div_left0 rx ry c2] at k
    exact ⟨_,_,x,y,rfl,⟨ax,0,e1,rfl,tx,rx⟩,⟨ay,m2,e2,rfl,ty,ry⟩,k⟩
   ·rw [if_neg c1]
    obtain ⟨p1,p2⟩:=Fl.bl_le rx c1
    obtain ⟨q1,q2⟩:=Fl.bl_le ry c2
    obtain ⟨j,hj⟩:∃ j:Nat,53 + 3 + Fl.bl m2 - Fl.bl m1=(j:Int):=⟨(53 + 3 + Fl.bl m2 - Fl.bl m1).toNat,by omega⟩
    rw [hj,Int.toNat_natCast]
    have hb:2 ^ 53≤m1.natAbs * 2 ^ j / m2.natAbs:=by
     rw [Nat.le_div_iff_mul_le (by omega)]
     have g1:=Fl.log2_le (show m1.natAbs≠0 by omega)
     have g2:=Fl.log2_lt m2.natAbs
     rw [Fl.bl_eq c1,Fl.bl_eq c2] at hj
     have g3:2 ^ 53 * m2.natAbs≤2 ^ 53 * 2 ^ (m2.natAbs.log2 + 1):=Nat.mul_le_mul_left _ (by omega)
     have g4:2 ^ m1.natAbs.log2 * 2 ^ j≤m1.natAbs * 2 ^ j:=Nat.mul_le_mul_right _ g1
     rw [← Nat.pow_add] at g3 g4
     exact Nat.le_trans g3 (Nat.le_trans (Fl.pow_le (by omega)) g4)
    obtain ⟨d0,d1⟩:=Fl.div_prog rx ry c1 c2 hb
    have d2:=divM_bound (m1 * 2 ^ j) m2 c2
    have d3:(m1 * 2 ^ j).natAbs≤2 ^ 53 * 2 ^ 110:=by
     rw [Fl.natAbs_mul_pow]
     exact Nat.mul_le_mul rx.mag (Fl.pow_le (by omega))
    have d4:(Fl.divM (m1 * 2 ^ j) m2).natAbs < 2 ^ 170:=by
     have:2 * (2 ^ 53 * 2 ^ 110) + 1 < 2 ^ 170:=by decide
     omega
    have dM:Fl.divM (m1 * 2 ^ j) m2=(m1 * 2 ^ j).fdiv m2 * 2 + (if (m1 * 2 ^ j).fmod m2≠0 then 1 else 0):=rfl
    rw [d1] at k
    have fin:pZ_47 K a.exc [.int (Fl.divM (m1 * 2 ^ j) m2),.int (e1 - e2 - j - 1)] H Q E:=⟨_,_,rfl,d0,Nat.lt_trans d4 (Fl.pow_lt (by decide)),by omega,by omega,k⟩
    have sf:Sm ((m1 * 2 ^ j).fdiv m2):=by
     refine Sm.of_lt 171 ?_
     have:(2:Nat) ^ 171=2 * 2 ^ 170:=by decide
     rw [this]
     generalize (2:Nat) ^ 170=z at *
     generalize (m1 * 2 ^ j).fdiv m2=q at *
     rw [dM] at d4
     split at d4 <;> omega
    refine ⟨⟨by omega,by omega,Sm.le rx.mag⟩,c2,Sm.le ry.mag,⟨sf,Sm.of_lt 2 (by decide)⟩,c2,?_⟩
    by_cases c:(m1 * 2 ^ j).fmod m2=0
    ·rw [if_neg (fun z=>z c)]
     rw [dM,if_neg (fun z=>z c),Int.add_zero] at fin
     exact fin
    ·rw [if_pos c]
     rw [dM,if_pos c] at fin
     exact fin
def pZ_4i (C:Addr):Sp:=fun vs H Q E=>∃ n:Nat,vs=[.int n]∧2 ^ 106≤n∧n < 2 ^ 108∧Rs RI C (some ((Fl.wroot n:Nat):Int)) H Q E
abbrev tZ65:Stmt:=top 26
theorem cZ3a:FnScope ["n","a"] ["n"] (defScope tZ65):=by walk_at "sc"
theorem kZ1m (T:Tx K mg a) (F:Df K mg "whole_root" tZ65 ["n"]):Cb P w K mg base "whole_root" tZ65 ["n"] 1 (pZ_4i a.exc):=by
 refine .mk F cZ3a (fun vs H Q E h=>?_) (fun f cdv A outer s H vs Q E hr h th=>?_)
 ·obtain ⟨_,rfl,_⟩:=h
  rfl
 ·obtain ⟨n,rfl,hn1,hn2,k⟩:=h
  refine ⟨_,(pZ (ps_set (i:=1) cZ3a.nd rfl (Or.inl rfl) (pe_op (M.o0 op_add) (pe_op (M.oI op_shr) (M.pv 0) pI) pI))
   (pZ (ps_set (i:=1) cZ3a.nd rfl (Or.inl rfl) (pe_op (M.o0 op_add) (pe_op (M.oI op_shlG) (M.pv 1) pI) (pe_op (M.oI op_fdivG) (pe_op (M.oI op_shr) (M.pv 0) pI) (M.pv 1))))
   (pZ (ps_set (i:=1) cZ3a.nd rfl (Or.inl rfl) (pe_op (M.o0 op_add) (pe_op (M.oI op_shlG) (M.pv 1) pI) (pe_op (M.oI op_fdivG) (pe_op (M.oI op_shr) (M.pv 0) pI) (M.pv 1))))
   (pZ (ps_set (i:=1) cZ3a.nd rfl (Or.inl rfl) (pe_op (M.o0 op_add) (pe_op (M.oI op_shlG) (M.pv 1) pI) (pe_op (M.oI op_fdivG) (pe_op (M.oI op_shr) (M.pv 0) pI) (M.pv 1))))
   (pZ (ps_set (i:=1) cZ3a.nd rfl (Or.inl rfl) (pe_op (M.o0 op_add) (pe_op (M.oI op_shlG) (M.pv 1) pI) (pe_op (M.oI op_fdivG) (pe_op (M.oI op_shr) (M.pv 0) pI) (M.pv 1))))
   (pZ (ps_set (i:=1) cZ3a.nd rfl (Or.inl rfl) (pe_op (M.o0 op_add) (pe_op (M.oI op_shlG) (M.pv 1) pI) (pe_op (M.oI op_fdivG) (pe_op (M.oI op_shr) (M.pv 0) pI) (M.pv 1))))
   (pO (ps_ret (pe_ifExp (M.pt_cmpR (M.o0 op_gt) (pe_op (M.oI op_mulG) (M.pv 1) (M.pv 1)) (M.pv 0) (nomark _)) (pe_op (M.o0 op_sub) (M.pv 1) pI) (M.pv 1)))))))))),?_⟩
  walk_at "rd"
  have n1:(n:Int) / 2 ^ Int.toNat 106 + 1=((Fl.wr1 n:Nat):Int):=rfl
  rw [n1]
  have n2:((Fl.wr1 n:Nat):Int) * 2 + (n:Int) / 2 ^ Int.toNat 103 / ((Fl.wr1 n:Nat):Int)=((Fl.wr2 n:Nat):Int):=rfl
  rw [n2]
  have n3:((Fl.wr2 n:Nat):Int) * 2 ^ Int.toNat 2 + (n:Int) / 2 ^ Int.toNat 98 / ((Fl.wr2 n:Nat):Int)=((Fl.wr3 n:Nat):Int):=rfl
  rw [n3]
  have n4:((Fl.wr3 n:Nat):Int) * 2 ^ Int.toNat 6 + (n:Int) / 2 ^ Int.toNat 88 / ((Fl.wr3 n:Nat):Int)=((Fl.wr4 n:Nat):Int):=rfl
  rw [n4]
  have n5:((Fl.wr4 n:Nat):Int) * 2 ^ Int.toNat 12 + (n:Int) / 2 ^ Int.toNat 68 / ((Fl.wr4 n:Nat):Int)=((Fl.wr5 n:Nat):Int):=rfl
  rw [n5]
  have n6:((Fl.wr5 n:Nat):Int) * 2 ^ Int.toNat 26 + (n:Int) / 2 ^ Int.toNat 28 / ((Fl.wr5 n:Nat):Int)=((Fl.wr6 n:Nat):Int):=rfl
  rw [n6]
  have b1:1≤Fl.wr1 n∧Fl.wr1 n≤2 ^ 10:=by unfold Fl.wr1;omega
  have b2:1≤Fl.wr2 n∧Fl.wr2 n≤2 ^ 20:=by
   have:=Nat.div_le_self (n / 2 ^ 103) (Fl.wr1 n)
   unfold Fl.wr2
   generalize n / 2 ^ 103 / Fl.wr1 n=q at *
   omega
  have b3:1≤Fl.wr3 n∧Fl.wr3 n≤2 ^ 30:=by
   have:=Nat.div_le_self (n / 2 ^ 98) (Fl.wr2 n)
   unfold Fl.wr3
   generalize n / 2 ^ 98 / Fl.wr2 n=q at *
   omega
  have b4:1≤Fl.wr4 n∧Fl.wr4 n≤2 ^ 40:=by
   have:=Nat.div_le_self (n / 2 ^ 88) (Fl.wr3 n)
   unfold Fl.wr4
   generalize n / 2 ^ 88 / Fl.wr3 n=q at *
   omega
  have b5:1≤Fl.wr5 n∧Fl.wr5 n≤2 ^ 60:=by
   have:=Nat.div_le_self (n / 2 ^ 68) (Fl.wr4 n)
   unfold Fl.wr5
   generalize n / 2 ^ 68 / Fl.wr4 n=q at *
   omega
  have b6:1≤Fl.wr6 n∧Fl.wr6 n≤2 ^ 90:=by
   have:=Nat.div_le_self (n / 2 ^ 28) (Fl.wr5 n)
   unfold Fl.wr6
   generalize n / 2 ^ 28 / Fl.wr5 n=q at *
   omega
  have sm:∀ {z j:Nat},z≤2 ^ j→j < 4000→Sm (z:Int):=fun h hj=>Sm.le (by rw [Int.natAbs_natCast];exact h) hj
  have sh:∀ {z j:Nat} {i:Int},z≤2 ^ j→j < 4000→0≤i→i≤100000→CShl (z:Int) i:=fun h hj h0 h1=>⟨h0,h1,sm h hj⟩
  have dv:∀ {z j:Nat} {i:Int},1≤z→z≤2 ^ j→j < 4000→CDivG i (z:Int):=fun h0 h hj=>⟨by omega,sm h hj⟩
  refine ⟨by decide,sh b1.2 (by decide) (by decide) (by decide),by decide,dv b1.1 b1.2 (by decide),sh b2.2 (by decide) (by decide) (by decide),by decide,dv b2.1 b2.2 (by decide),sh b3.2 (by decide) (by decide) (by decide),by decide,dv b3.1 b3.2 (by decide),
   sh b4.2 (by decide) (by decide) (by decide),by decide,dv b4.1 b4.2 (by decide),sh b5.2 (by decide) (by decide) (by decide),by decide,dv b5.1 b5.2 (by decide),⟨sm b6.2 (by decide),sm b6.2 (by decide)⟩,?_⟩
  have cm:((Fl.wr6 n:Nat):Int) * ((Fl.wr6 n:Nat):Int)=((Fl.wr6 n * Fl.wr6 n:Nat):Int):=(Int.natCast_mul _ _).symm
  rw [cm]
  unfold Fl.wroot at k
  by_cases c:n < Fl.wr6 n * Fl.wr6 n
  ·rw [if_pos (by omega)]
   rw [if_pos c] at k
   have e:((Fl.wr6 n:Nat):Int) - 1=((Fl.wr6 n - 1:Nat):Int):=by omega
   rw [e]
   exact k.ret (Same.refl _) rfl
  ·rw [if_neg (by omega)]
   rw [if_neg c] at k
   exact k.ret (Same.refl _) rfl
abbrev tZ5u:Stmt:=top 27
theorem cZ2z:FnScope ["x","shift","n","m","left"] ["x"] (defScope tZ5u):=by walk_at "sc"
theorem kZ1b (T:Tx K mg a) (F:Df K mg "root" tZ5u ["x"]) (B_rounded:Cb P w K mg base "rounded" tZ5v ["m","e"] 1 (pZ_47 K a.exc)) (B_whole_root:Cb P w K mg base "whole_root" tZ65 ["n"] 1 (pZ_4i a.exc)):Cb P w K mg base "root" tZ5u ["x"] 2 (sp1 K a.exc Sn48.root):=by
 refine .mk F cZ2z (fun vs H Q E h=>?_) (fun f cdv A outer s H vs Q E hr h th=>?_)
 ·obtain ⟨_,_,rfl,_⟩:=h
  rfl
 ·obtain ⟨_,x,rfl,⟨ax,m1,e1,rfl,tx,rx⟩,k⟩:=h
  have hx:=tx.sq
  refine ⟨_,(pZ (ps_if (M.pt_cmpR op_eq (M.px0 m1 e1 0) pI (nomark _)) (pO (ps_ret (M.pv 0))) pss_nil)
   (pZ (ps_if (M.pt_cmpR (M.o0 op_lt) (M.px0 m1 e1 0) pI (nomark _)) (pO (ps_raise th rfl T.exc PySem.F.excBase_Exception rfl (pY pe_str pN))) pss_nil)
   (pZ (ps_set (i:=1) cZ2z.nd rfl (Or.inl rfl) (pe_op (M.o0 op_sub) pI (pe_bits (M.px0 m1 e1 0))))
   (pZ (M.aug (ps_aug (i:=1) cZ2z.nd rfl (Or.inl rfl) (pe_op (M.oI op_mod) (pe_op (M.o0 op_sub) (M.px1 m1 e1 0) (M.pv 1)) pI) (M.oP ip_sub)))
   (pZ (ps_set (i:=2) cZ2z.nd rfl (Or.inl rfl) (pe_op (M.oI op_shlG) (M.px0 m1 e1 0) (M.pv 1)))
   (pZ (ps_set (i:=3) cZ2z.nd rfl (Or.inl rfl) (pb B_whole_root hr th (pY (M.pv 2) pN)))
   (pZ (ps_set (i:=4) cZ2z.nd rfl (Or.inl rfl) (pe_ifExp (M.pt_cmpR (M.o0 op_lt) (pe_op (M.oI op_mulG) (M.pv 3) (M.pv 3)) (M.pv 2) (nomark _)) pI pI))
   (pO (ps_ret (pb B_rounded hr th (pY (pe_op (M.o0 op_add) (pe_op (M.oI op_mulG) pI (M.pv 3)) (M.pv 4)) (pY (pe_op (M.o0 op_sub) (pe_op (M.oI op_fdivG) (pe_op (M.o0 op_sub) (M.px1 m1 e1 0) (M.pv 1)) pI) pI) pN)))))))))))),?_⟩
  walk_at "rd"
  have a1:=rx.lo
  have a2:=rx.hi
  by_cases c0:m1=0
  ·subst c0
   rw [if_pos rfl]
   rw [Fl.root_of_zero rx] at k
   exact k.ret (Same.refl _) ⟨ax,0,e1,rfl,tx,rx⟩
  ·rw [if_neg c0]
   by_cases c1:m1 < 0
   ·rw [if_pos c1]
    rw [Fl.root_below rx c1] at k
    exact k.fail (Same.refl _)
   ·rw [if_neg c1]
    obtain ⟨N,rfl⟩:∃ N:Nat,m1=(N:Int):=⟨m1.toNat,by omega⟩
    obtain ⟨j,hj,lo,hi,er⟩:=Fl.root_prog rx (by omega)
    have hK:108 - Fl.bl (N:Int) - (e1 - (108 - Fl.bl (N:Int))) % 2=(j:Int):=hj
    obtain ⟨p1,p2⟩:=Fl.bl_le rx c0
    have cN:(N:Int) * 2 ^ j=((N * 2 ^ j:Nat):Int):=by rw [Int.natCast_mul,Fl.two_pow_cast]
    rw [hK,Int.toNat_natCast,cN]
    refine ⟨by decide,⟨by omega,by omega,Sm.le rx.mag⟩,?_⟩
    refine ⟨N * 2 ^ j,rfl,lo,hi,.pur fun v H1 s1 ev=>?_⟩
    replace ev:v=.int ((Fl.wroot (N * 2 ^ j):Nat):Int):=ev
    subst ev
    have hx1:=(tx.same s1).sq
    have rt:=Fl.wroot_ok lo hi
    have rb:Fl.wroot (N * 2 ^ j) < 2 ^ 54:=by
     apply Nat.lt_of_not_le
     intro z
     have:=Nat.mul_le_mul z z
     have h2:(2:Nat) ^ 54 * 2 ^ 54=2 ^ 108:=by decide
     have:=rt.1
     omega
    rw [er] at k
    generalize hN:N * 2 ^ j=n at *
    have r53:2 ^ 53≤Fl.wroot n:=Fl.root_ge (k:=53) rt lo
    generalize Fl.wroot n=r at *
    have sm:Sm (r:Int):=Sm.of_lt 54 (by rw [Int.natAbs_natCast];exact rb)
    dsimp only [onI_at]
    refine ⟨⟨sm,sm⟩,?_⟩
    have cm:(r:Int) * (r:Int)=((r * r:Nat):Int):=(Int.natCast_mul _ _).symm
    rw [cm]
    have fin:∀ g:Nat,g≤1→Rs (RD K) a.exc (Sn48.rounded false (2 * r + g) ((e1 - j) / 2 - 1) false) H Q E→pZ_47 K a.exc [.int (2 * (r:Int) + (g:Int)),.int ((e1 - j) / 2 - 1)] H1 Q E:=fun g hg kk=>by
     refine ⟨_,_,rfl,by omega,?_,by omega,by omega,?_⟩
     ·have:(2 * (r:Int) + (g:Int)).natAbs=2 * r + g:=by omega
      rw [this]
      exact Nat.lt_of_lt_of_le (show 2 * r + g < 2 ^ 56 by omega) (Fl.pow_le (by decide))
     ·have e1':decide (2 * (r:Int) + (g:Int) < 0)=false:=decide_eq_false (by omega)
      have e2':(2 * (r:Int) + (g:Int)).natAbs=2 * r + g:=by omega
      rw [e1',e2']
      exact kk.same s1
    by_cases c:r * r < n
    ·rw [if_pos (by omega)]
     rw [if_pos c] at k
     exact ⟨⟨Sm.of_lt 2 (by decide),sm⟩,hx1,⟨by decide,Sm.of_lt 2 (by decide)⟩,fin 1 (by decide) k⟩
    ·rw [if_neg (by omega)]
     rw [if_neg c] at k
     exact ⟨⟨Sm.of_lt 2 (by decide),sm⟩,hx1,⟨by decide,Sm.of_lt 2 (by decide)⟩,fin 0 (by decide) k⟩
abbrev tZ5g:Stmt:=top 28
theorem cZ2l:FnScope ["x","y","shift"] ["x","y"] (defScope tZ5g):=by walk_at "sc"
theorem kZ0x (T:Tx K mg a) (F:Df K mg "is_below" tZ5g ["x","y"]):Cb P w K mg base "is_below" tZ5g ["x","y"] 1 (spb2 K a.exc Sn48.below):=by
 refine .mk F cZ2l (fun vs H Q E h=>?_) (fun f cdv A outer s H vs Q E hr h th=>?_)
 ·obtain ⟨_,_,_,_,rfl,_⟩:=h
  rfl
 ·obtain ⟨_,_,x,y,rfl,⟨ax,m1,e1,rfl,tx,rx⟩,⟨ay,m2,e2,rfl,ty,ry⟩,k⟩:=h
  have hx:=tx.sq
  have hy:=ty.sq
  refine ⟨_,(pZ (ps_set (i:=2) cZ2l.nd rfl (Or.inl rfl) (pe_op (M.o0 op_sub) (M.px1 m1 e1 0) (M.px1 m2 e2 1)))
   (pZ (ps_if (M.pt_cmpR (M.o0 op_ge) (M.pv 2) pI (nomark _)) (pO (ps_ret (pe_cmpR (M.o0 op_lt) (pe_op (M.oI op_shlG) (M.px0 m1 e1 0) (M.pv 2)) (M.px0 m2 e2 1) (nomark _)))) pss_nil)
   (pO (ps_ret (pe_cmpR (M.o0 op_lt) (M.px0 m1 e1 0) (pe_op (M.oI op_shlG) (M.px0 m2 e2 1) (pe_un (M.oU un_neg) (M.pv 2))) (nomark _)))))),?_⟩
  walk_at "rd"
  have a1:=rx.lo
  have a2:=rx.hi
  have b1:=ry.lo
  have b2:=ry.hi
  by_cases c:0≤e1 - e2
  ·rw [if_pos c]
   rw [Fl.below_pair1 rx ry (by omega)] at k
   exact ⟨⟨c,by omega,Sm.le rx.mag⟩,k.ret (Same.refl _) rfl⟩
  ·rw [if_neg c]
   rw [Fl.below_pair2 rx ry (by omega),show e2 - e1 = -(e1 - e2) by omega] at k
   exact ⟨⟨by omega,by omega,Sm.le ry.mag⟩,k.ret (Same.refl _) rfl⟩
def pZ_4c (K:PySem.W.Frag) (C:Addr):Sp:=fun vs H Q E=>∃ v p,vs=[v]∧Vec K H v p∧Rs (RD K) C (Sn48.square p) H Q E
abbrev tZ5y:Stmt:=top 29
theorem cZ33:FnScope ["u"] ["u"] (defScope tZ5y):=by walk_at "sc"
theorem kZ1f (T:Tx K mg a) (F:Df K mg "square" tZ5y ["u"]) (B_plus:Cb P w K mg base "plus" tZ5s ["x","y"] 2 (sp2 K a.exc Sn48.add)) (B_times:Cb P w K mg base "times" tZ60 ["x","y"] 3 (sp2 K a.exc Sn48.mul)):Cb P w K mg base "square" tZ5y ["u"] 4 (pZ_4c K a.exc):=by
 refine .mk F cZ33 (fun vs H Q E h=>?_) (fun f cdv A outer s H vs Q E hr h th=>?_)
 ·obtain ⟨_,_,rfl,_⟩:=h
  rfl
 ·obtain ⟨_,p,rfl,⟨q,x,y,z,rfl,hq,dx,dy,dz⟩,k⟩:=h
  refine ⟨_,(pO (ps_ret (pb B_plus hr th (pY (pb B_plus hr th (pY (pb B_times hr th (pY (pw0 x y z 0) (pY (pw0 x y z 0) pN))) (pY (pb B_times hr th (pY (pw1 x y z 0) (pY (pw1 x y z 0) pN))) pN))) (pY (pb B_times hr th (pY (pw2 x y z 0) (pY (pw2 x y z 0) pN))) pN))))),?_⟩
  walk_at "rd"
  rw [Fl.square_eq] at k
  simp only [Option.bind_assoc] at k
  refine ⟨_,_,_,_,rfl,dx,dx,k.bind fun b1 v1 H1 _ s1 d1 k=>?_⟩
  have h1:=s1 _ _ hq
  refine ⟨h1,h1,_,_,_,_,rfl,dy.same s1,dy.same s1,k.bind fun b2 v2 H2 _ s2 d2 k=>?_⟩
  refine ⟨_,_,_,_,rfl,d1.same s2,d2,k.bind fun b3 v3 H3 _ s3 d3 k=>?_⟩
  have h3:=s3 _ _ (s2 _ _ h1)
  have dz3:=((dz.same s1).same s2).same s3
  refine ⟨h3,h3,_,_,_,_,rfl,dz3,dz3,k.bind fun b4 v4 H4 _ s4 d4 k=>?_⟩
  exact ⟨_,_,_,_,rfl,d3.same s4,d4,k⟩
end
end Pw
namespace Pw
open PySem L2
section
variable {P:Program} {w:World} {K:PySem.W.Frag} {mg:Str→Option Value} {base:Heap} {a:Ad}
theorem if_pair {p:Prop} {i1 i2:Decidable p} {m e:Int} {b:Nat} {H:Hp} {Q:VK} {E:XK} (r:Fl.Rep (@ite _ p i1 m (-m)) e b) (k:Rs (RD K) a.exc (some b) H Q E):@ite _ p i2 (∀ q,H q=none→Q (.ref q) (upd H q (.tup [.int m,.int e]))) (∀ q,H q=none→Q (.ref q) (upd H q (.tup [.int (-m),.int e]))):=by
 by_cases c:p
 ·rw [if_pos c] at r ⊢
  exact fun q hq=>k.ret (.new hq) (dbl_new r)
 ·rw [if_neg c] at r ⊢
  exact fun q hq=>k.ret (.new hq) (dbl_new r)
theorem if_zero (T:Tx K mg a) {p:Prop} {i1 i2:Decidable p} {b:Nat} {H:Hp} {Q:VK} {E:XK} (r:Fl.Rep 0 (@ite _ p i1 0 (-1)) b) (k:Rs (RD K) a.exc (some b) H Q E):@ite _ p i2 (Q (.ref a.pz) H) (Q (.ref a.mz) H):=by
 by_cases c:p
 ·rw [if_pos c] at r ⊢
  exact k.ret (Same.refl _) ⟨_,_,_,rfl,.inr T.pzK,r⟩
 ·rw [if_neg c] at r ⊢
  exact k.ret (Same.refl _) ⟨_,_,_,rfl,.inr T.mzK,r⟩
theorem fb_end (T:Tx K mg a) {p:Prop} {i1 i2 i3 i4 i5 i6 i7:Decidable p} {m L e0:Int} {b:Nat} {H:Hp} {Q:VK} {E:XK}
  (f1:¬ 0 < e0→(m=0→Fl.Rep 0 (@ite _ p i1 0 (-1)) b)∧(m≠0→Fl.Rep (@ite _ p i2 m (-m)) (e0 + -1074) b)) (f2:0 < e0→m + L≠0∧Fl.Rep (@ite _ p i3 (m + L) (-(m + L))) (e0 - 1 + -1074) b) (k:Rs (RD K) a.exc (some b) H Q E) :
  if 0 < e0 then (if m + L=0 then @ite _ p i4 (Q (.ref a.pz) H) (Q (.ref a.mz) H) else @ite _ p i5 (∀ q,H q=none→Q (.ref q) (upd H q (.tup [.int (m + L),.int (e0 - 1 + -1074)]))) (∀ q,H q=none→Q (.ref q) (upd H q (.tup [.int (-(m + L)),.int (e0 - 1 + -1074)]))))
  else (if m=0 then @ite _ p i6 (Q (.ref a.pz) H) (Q (.ref a.mz) H) else @ite _ p i7 (∀ q,H q=none→Q (.ref q) (upd H q (.tup [.int m,.int (e0 + -1074)]))) (∀ q,H q=none→Q (.ref q) (upd H q (.tup [.int (-m),.int (e0 + -1074)])))):=by
 by_cases c:0 < e0
 ·rw [if_pos c,if_neg (f2 c).1]
  exact if_pair (f2 c).2 k
 ·rw [if_neg c]
  by_cases z:m=0
  ·rw [if_pos z]
   exact if_zero T ((f1 c).1 z) k
  ·rw [if_neg z]
   exact if_pair ((f1 c).2 z) k
def sp_bb (C:Addr) (f:Nat→Bool):Sp:=fun vs H Q E=>∃ b:Nat,vs=[.int b]∧b < 2 ^ 64∧Rs RB C (some (f b)) H Q E
def pZ_3y (K:PySem.W.Frag) (C:Addr):Sp:=fun vs H Q E=>∃ b:Nat,vs=[.int b]∧Fl.Ok b∧Rs (RD K) C (some b) H Q E
def pZ_4f (K:PySem.W.Frag) (C:Addr):Sp:=fun vs H Q E=>∃ v b,vs=[v]∧Dbl K H v b∧Rs RI C (some ((b:Nat):Int)) H Q E
abbrev tZ5i:Stmt:=top 3
theorem cZ2n:FnScope ["bits"] ["bits"] (defScope tZ5i):=by walk_at "sc"
theorem kZ0z (T:Tx K mg a) (F:Df K mg "is_finite" tZ5i ["bits"]):Cb P w K mg base "is_finite" tZ5i ["bits"] 1 (sp_bb a.exc Sn48.finite):=by
 refine .mk F cZ2n (fun vs H Q E h=>?_) (fun f cdv A outer s H vs Q E hr h th=>?_)
 ·obtain ⟨_,rfl,_⟩:=h
  rfl
 ·obtain ⟨b,rfl,hb,k⟩:=h
  refine ⟨_,(pO (ps_ret (pe_cmpR op_lt (pe_op op_mod (pv 0) (pe_gl T.sign)) (pe_gl T.inf) (nomark _)))),?_⟩
  walk_at "rd"
  refine ⟨by lia,k.ret (Same.refl _) (congrArg V.bl ?_)⟩
  have q:=Fl.finite_mod (x:=b)
  by_cases c:b % 2 ^ 63 < 2047 * 2 ^ 52
  ·rw [q.mpr c]
   exact decide_eq_true (by lia)
  ·have:Sn48.finite b=false:=by
    cases h:Sn48.finite b with
    | false=>rfl
    | true=>exact absurd (q.mp h) c
   rw [this]
   exact decide_eq_false (by lia)
abbrev tZ5h:Stmt:=top 4
theorem cZ2m:FnScope ["bits"] ["bits"] (defScope tZ5h):=by walk_at "sc"
theorem kZ0y (T:Tx K mg a) (F:Df K mg "is_below_zero" tZ5h ["bits"]):Cb P w K mg base "is_below_zero" tZ5h ["bits"] 1 (sp_bb a.exc fun b=>decide (2 ^ 63 < b)):=by
 refine .mk F cZ2m (fun vs H Q E h=>?_) (fun f cdv A outer s H vs Q E hr h th=>?_)
 ·obtain ⟨_,rfl,_⟩:=h
  rfl
 ·obtain ⟨b,rfl,hb,k⟩:=h
  refine ⟨_,(pO (ps_ret (pe_cmpR op_gt (pv 0) (pe_gl T.sign) (nomark _)))),?_⟩
  walk_at "rd"
  refine k.ret (Same.refl _) ?_
  exact congrArg V.bl (decide_eq_decide.mpr (by lia))
abbrev tZ5f:Stmt:=top 5
theorem cZ2k:FnScope ["bits"] ["bits"] (defScope tZ5f):=by walk_at "sc"
theorem kZ0w (T:Tx K mg a) (F:Df K mg "is_above_zero" tZ5f ["bits"]):Cb P w K mg base "is_above_zero" tZ5f ["bits"] 1 (sp_bb a.exc fun b=>decide (0 < b∧b < 2 ^ 63)):=by
 refine .mk F cZ2k (fun vs H Q E h=>?_) (fun f cdv A outer s H vs Q E hr h th=>?_)
 ·obtain ⟨_,rfl,_⟩:=h
  rfl
 ·obtain ⟨b,rfl,hb,k⟩:=h
  refine ⟨_,(pO (ps_ret (pe_chain op_lt op_lt pI (pv 0) (pe_gl T.sign)))),?_⟩
  walk_at "rd"
  by_cases c:0 < (b:Int)
  ·rw [if_pos c]
   refine k.ret (Same.refl _) ?_
   exact congrArg V.bl (decide_eq_decide.mpr (by lia))
  ·rw [if_neg c]
   refine k.ret (Same.refl _) ?_
   exact congrArg V.bl (decide_eq_false (by lia)).symm
abbrev tZ5d:Stmt:=top 16
theorem cZ2i:FnScope ["bits","m","e"] ["bits"] (defScope tZ5d):=by walk_at "sc"
theorem kZ0u (T:Tx K mg a) (F:Df K mg "from_bits" tZ5d ["bits"]):Cb P w K mg base "from_bits" tZ5d ["bits"] 1 (pZ_3y K a.exc):=by
 refine .mk F cZ2i (fun vs H Q E h=>?_) (fun f cdv A outer s H vs Q E hr h th=>?_)
 ·obtain ⟨_,rfl,_⟩:=h
  rfl
 ·obtain ⟨b,rfl,hb,k⟩:=h
  refine ⟨_,(pZ (ps_set (i:=1) cZ2i.nd rfl (Or.inl rfl) (pe_op op_mod (pv 0) (pe_gl T.leading)))
   (pZ (ps_set (i:=2) cZ2i.nd rfl (Or.inl rfl) (pe_op op_fdivG (pe_op op_mod (pv 0) (pe_gl T.sign)) (pe_gl T.leading)))
   (pZ (ps_if (pt_cmpR op_gt (pv 2) pI (nomark _)) (pZ (ps_aug (i:=1) cZ2i.nd rfl (Or.inl rfl) (pe_gl T.leading) ip_add)
    (pO (ps_aug (i:=2) cZ2i.nd rfl (Or.inl rfl) pI ip_sub))) pss_nil)
   (pZ (ps_if (pt_cmpR op_eq (pv 1) pI (nomark _)) (pO (ps_ret (pe_ifExp (pt_cmpR op_lt (pv 0) (pe_gl T.sign) (nomark _)) (pe_gl T.pz) (pe_gl T.mz)))) pss_nil)
   (pO (ps_ret (pe_tup (pY (pe_ifExp (pt_cmpR op_lt (pv 0) (pe_gl T.sign) (nomark _)) (pv 1) (pe_un un_neg (pv 1))) (pY (pe_op op_add (pv 2) (pe_gl T.le)) pN))))))))),?_⟩
  walk_at "rd"
  refine ⟨by lia,by lia,⟨by lia,Sm.of_lt 64 (by decide)⟩,?_⟩
  exact fb_end T (Fl.fb_facts hb).1 (Fl.fb_facts hb).2 k
abbrev tZ62:Stmt:=top 17
theorem cZ37:FnScope ["x","m","e","bits"] ["x"] (defScope tZ62):=by walk_at "sc"
theorem kZ1j (T:Tx K mg a) (F:Df K mg "to_bits" tZ62 ["x"]):Cb P w K mg base "to_bits" tZ62 ["x"] 1 (pZ_4f K a.exc):=by
 refine .mk F cZ37 (fun vs H Q E h=>?_) (fun f cdv A outer s H vs Q E hr h th=>?_)
 ·obtain ⟨_,_,rfl,_⟩:=h
  rfl
 ·obtain ⟨_,b,rfl,⟨ax,m1,e1,rfl,tx,rx⟩,k⟩:=h
  have hx:=tx.sq
  refine ⟨_,(pZ (ps_if (pt_cmpR op_eq (px0 m1 e1 0) pI (nomark _)) (pO (ps_ret (pe_ifExp (pmzT hr.units T.mzT T.mz m1 e1 0) (pe_gl T.sign) pI))) pss_nil)
   (pZ (ps_set (i:=1) cZ37.nd rfl (Or.inl rfl) (pe_callB call_abs rfl T.abs PyProof.Rows.boot_abs (pY (px0 m1 e1 0) pN)))
   (pZ (ps_set (i:=2) cZ37.nd rfl (Or.inl rfl) (pe_callB (call_max2 rfl) rfl T.max PyProof.Rows.boot_max (pY (pe_op op_sub (pe_op op_add (px1 m1 e1 0) (pe_bits (pv 1))) (pe_gl T.mb)) (pY (pe_gl T.le) pN))))
   (pZ (ps_set (i:=1) cZ37.nd rfl (Or.inl rfl) (pe_ifExp (pt_cmpR op_ge (px1 m1 e1 0) (pv 2) (nomark _)) (pe_op op_shlG (pv 1) (pe_op op_sub (px1 m1 e1 0) (pv 2))) (pe_op op_shr (pv 1) (pe_op op_sub (pv 2) (px1 m1 e1 0)))))
   (pZ (ps_set (i:=3) cZ37.nd rfl (Or.inl rfl) (pe_op op_add (pe_op op_mulG (pe_op op_sub (pv 2) (pe_gl T.le)) (pe_gl T.leading)) (pv 1)))
   (pO (ps_ret (pe_ifExp (pt_cmpR op_gt (px0 m1 e1 0) pI (nomark _)) (pv 3) (pe_op op_add (pv 3) (pe_gl T.sign)))))))))),?_⟩
  walk_at "rd"
  by_cases c:m1=0
  ·rw [if_pos c]
   rcases rx.zero c with ⟨z1,z2⟩ | ⟨z1,z2⟩
   ·rw [if_neg (fun z=>by lia)]
    rw [z2] at k
    exact k.ret (Same.refl _) rfl
   ·rw [if_pos ⟨c,z1⟩]
    rw [z2] at k
    exact k.ret (Same.refl _) rfl
  ·rw [if_neg c]
   have q:=Fl.to_bits rx c
   have ea:(if m1 < 0 then -m1 else m1)=((m1.natAbs:Nat):Int):=by split <;> lia
   have eb:Fl.bl ((m1.natAbs:Nat):Int)=Fl.bl m1:=by rw [Fl.bl_eq c,Fl.bl_eq (by lia),Int.natAbs_natCast]
   have hE:(if -1074 > e1 + Fl.bl m1 - 53 then -1074 else e1 + Fl.bl m1 - 53)=Fl.toE m1 e1:=rfl
   obtain ⟨p1,p2⟩:=Fl.bl_le rx c
   have a1:=rx.lo
   have a2:=rx.hi
   have g1:-1074≤Fl.toE m1 e1∧Fl.toE m1 e1≤1100:=by unfold Fl.toE;split <;> lia
   rw [ea,eb,hE]
   unfold Fl.toM at q
   have sm:Sm ((m1.natAbs:Nat):Int):=Sm.le (by rw [Int.natAbs_natCast];exact rx.mag)
   have cm:CMulG (Fl.toE m1 e1 - -1074) 4503599627370496:=⟨Sm.of_lt 20 (by lia),Sm.of_lt 60 (by decide)⟩
   by_cases c2:Fl.toE m1 e1≤e1
   ·rw [if_pos c2] at q ⊢
    refine ⟨⟨by lia,by lia,sm⟩,cm,?_⟩
    by_cases c3:0 < m1
    ·rw [if_pos c3] at q ⊢
     rw [Int.add_zero] at q
     rw [q]
     exact k.ret (Same.refl _) rfl
    ·rw [if_neg c3] at q ⊢
     rw [q]
     exact k.ret (Same.refl _) rfl
   ·rw [if_neg c2] at q ⊢
    refine ⟨by lia,cm,?_⟩
    by_cases c3:0 < m1
    ·rw [if_pos c3] at q ⊢
     rw [Int.add_zero] at q
     rw [q]
     exact k.ret (Same.refl _) rfl
    ·rw [if_neg c3] at q ⊢
     rw [q]
     exact k.ret (Same.refl _) rfl
end
end Pw
namespace L2
open PySem PySem.Spec PyProof.Rows
section
variable {K:PySem.W.Frag} {tl:TE} {g:TG} {tb:TS} {D:Ends} {σ:St} {H:Hp} {a:Addr} {xs:List V}
theorem for_items (ht:∀ F:VK,F (.ref a) H→tl σ H F) (hl:SqL K H a xs) (Pv:Nat→St→Hp→Prop) (h0:Pv 0 σ H) (hs0:∀ i σ Hc,Pv i σ Hc→SqL K Hc a xs)
  (hs:∀ (i:Nat) x σ H,xs[i]?=some x→Pv i σ H→g x σ H fun σ2 H2=>tb { D with nx:=Pv (i + 1),ct:=Pv (i + 1),bk:=D.nx } σ2 H2) (hd:∀ σ H,Pv xs.length σ H→D.nx σ H):tFor (iList K tl) g tb D σ H :=
 ht _ ⟨a,rfl,⟨xs,hl⟩,for_list (xs:=xs) Pv h0 (fun i σ H _ p=>hs0 i σ H p) hs hd⟩
theorem for_upto {ta:TA} {n:Int} (ht:∀ F:List V→Hp→Prop,F [.int n] H→ta σ H F) (h0n:0≤n) (h1n:n < 2 ^ 62) (Pv:Nat→St→Hp→Prop) (h0:Pv 0 σ H)
  (hs:∀ (i:Nat) σ H,i < n.toNat→Pv i σ H→g (.int (i:Int)) σ H fun σ2 H2=>tb { D with nx:=Pv (i + 1),ct:=Pv (i + 1),bk:=D.nx } σ2 H2) (hd:∀ σ H,Pv n.toNat σ H→D.nx σ H):tFor (iRng1 ta) g tb D σ H :=
 ht _ ⟨n,rfl,by omega,h1n,for_range (lo:=0) (n:=n.toNat) Pv h0 (fun i σ H hi p=>by rw [Int.zero_add];exact hs i σ H hi p) hd⟩
theorem for_range2 {ta:TA} {m n:Int} (ht:∀ F:List V→Hp→Prop,F [.int m,.int n] H→ta σ H F) (b0:0≤m) (b1:m < 2 ^ 62) (b2:0≤n) (b3:n < 2 ^ 62) (Pv:Nat→St→Hp→Prop) (h0:Pv 0 σ H)
  (hs:∀ (i:Nat) σ H,i < (n - m).toNat→Pv i σ H→g (.int (m + (i:Int))) σ H fun σ2 H2=>tb { D with nx:=Pv (i + 1),ct:=Pv (i + 1),bk:=D.nx } σ2 H2) (hd:∀ σ H,Pv (n - m).toNat σ H→D.nx σ H):tFor (iRng2 ta) g tb D σ H :=
 ht _ ⟨m,n,rfl,⟨by omega,b1,by omega,b3⟩,for_range (lo:=m) (n:=(n - m).toNat) Pv h0 hs hd⟩
end
section
variable {β γ:Type} {K:PySem.W.Frag} {tl te:TE} {σ:St} {H G:Hp} {a C:Addr} {xs:List V} {j:Nat} {f:β→Option γ} {R:V→Hp→γ→Prop} {ys:List β} {Q:VK} {E:XK}
theorem tLc_items (ht:∀ F:VK,F (.ref a) H→tl σ H F) (m:Mono R) (hl:SqL K H a xs) (hz:xs.length≤sizeLine) (hlen:xs.length=ys.length) (g:Same G H) (hj:∀ x,wipe ((wipe σ [j]).set j (some x)) [j]=wipe σ [j]) (k:RsG (LstOf R) C (ys.mapM f) G H Q E)
  (el:∀ (i:Nat) x y H2 Q2,xs[i]?=some x→ys[i]?=some y→Same H H2→∀ G2,Same G G2→Same G2 H2→RsG R C (f y) G2 H2 Q2 E→te ((wipe σ [j]).set j (some x)) H2 Q2):tLc (iList K tl) (gName j) tYes te [j] σ H Q :=
 ht _ ⟨a,rfl,⟨xs,hl⟩,fun D hD=>lc_items m hl hz hlen hD g hj k el⟩
theorem tLc_upto {ta:TA} {n:Int} (ht:∀ F:List V→Hp→Prop,F [.int n] H→ta σ H F) (m:Mono R) (h0n:0≤n) (h1n:n≤2 ^ 24) (hlen:ys.length=n.toNat) (g:Same G H) (hj:∀ x,wipe ((wipe σ [j]).set j (some x)) [j]=wipe σ [j]) (k:RsG (LstOf R) C (ys.mapM f) G H Q E)
  (el:∀ (i:Nat) y H2 Q2,i < n.toNat→ys[i]?=some y→Same H H2→∀ G2,Same G G2→Same G2 H2→RsG R C (f y) G2 H2 Q2 E→te ((wipe σ [j]).set j (some (.int (i:Nat)))) H2 Q2):tLc (iRng1 ta) (gName j) tYes te [j] σ H Q :=
 ht _ ⟨n,rfl,by omega,by omega,fun D hD=>lc_upto m hlen (by rw [sizeLine_eq];omega) hD g hj k el⟩
end
section
variable {X:Cx} {a b:Expr} {ta tb:TE} {pos:Pos} {f:Str}
theorem pxK (K:PySem.W.Frag) (ha:PE X a ta) (hb:PE X b tb) (hK:X.K=K:=by rfl) (hs:PlainIx b:=by intro _ _;rfl):PE X (.Subscript a b pos) (tOp (rIxL K) ta tb):=by
 subst hK
 exact pe_ix ix_list ha hb hs
theorem pfK (K:PySem.W.Frag) (he:PE X a ta) (hK:X.K=K:=by rfl) (hb:attributeBase a f X.env (eval a X.env)=eval a X.env:=by rfl):PE X (.Attribute a f pos) (tFld K ta f):=by
 subst hK
 exact pe_fld he hb
end
theorem Rs.toG {α:Type} {R:V→Hp→α→Prop} {C:Addr} {o:Option α} {H:Hp} {Q:VK} {E:XK} (m:Mono R) (k:Rs R C o H Q E) (G:Hp):RsG R C o G H Q E:=⟨fun a e v H2 s2 r=>k.1 a e v H2 s2 (m _ _ _ _ vw_sub r),k.2⟩
theorem RsG.toR {α:Type} {R:V→Hp→α→Prop} {C:Addr} {o:Option α} {G H:Hp} {Q:VK} {E:XK} (m:∀ v H' a,R v H' a→R v (vw G H H') a) (k:RsG R C o G H Q E):Rs R C o H Q E:=⟨fun a e v H2 s2 r=>k.1 a e v H2 s2 (m _ _ _ r),k.2⟩
theorem land4 (n:Nat):n &&& 4=4 * (n / 4 % 2):=by
 have h1:(n &&& 4) % 2 ^ 3=(n % 2 ^ 3) &&& (4 % 2 ^ 3):=Nat.and_mod_two_pow
 have h2:n &&& 4≤4:=Nat.and_le_right
 rw [Nat.mod_eq_of_lt (show n &&& 4 < 2 ^ 3 by omega)] at h1
 rw [h1]
 have h3:n % 2 ^ 3 < 8:=Nat.mod_lt _ (by decide)
 have h4:n / 4 % 2=n % 2 ^ 3 / 4:=by omega
 rw [h4]
 generalize n % 2 ^ 3=r at *
 match r,h3 with
 | 0,_=>rfl
 | 1,_=>rfl
 | 2,_=>rfl
 | 3,_=>rfl
 | 4,_=>rfl
 | 5,_=>rfl
 | 6,_=>rfl
 | 7,_=>rfl
theorem and4 (n:Nat):(Builtin.bitAnd (n:Int) 4 != 0)=decide (n / 4 % 2=1):=by
 have e:Builtin.bitAnd (n:Int) 4=((n &&& 4:Nat):Int):=by
  unfold Builtin.bitAnd
  rw [decide_eq_true (show (0:Int)≤(n:Int) by omega),decide_eq_true (show (0:Int)≤4 by decide)]
  rfl
 rw [e,land4]
 rcases Nat.mod_two_eq_zero_or_one (n / 4) with h | h <;> rw [h] <;> rfl
theorem mapM_pure {α β:Type} (f:α→β):∀ l:List α,l.mapM (fun x=>some (f x))=some (l.map f)
 | []=>rfl
 | a::l=>by rw [Fl.mapM_cons,mapM_pure f l];rfl
end L2
namespace Pw
open PySem L2
abbrev RV (K:PySem.W.Frag):V→Hp→Sn48.P→Prop:=fun v H p=>Vec K H v p
def RIL:V→Hp→List Nat→Prop:=fun v H l=>∃ p,v=.ref p∧H p=some (.lst (l.map fun i=>V.int (i:Nat)))
section
variable {K:PySem.W.Frag}
theorem mRD:Mono (RD K):=fun _ _ _ _ s r=>r.same s
theorem mRV:Mono (RV K):=fun _ _ _ _ s r=>Vec.same r s
theorem mRIL:Mono RIL:=fun _ _ _ _ s ⟨p,e,h⟩=>⟨p,e,s _ _ h⟩
theorem RsD {C:Addr} {o:Option Nat} {G H:Hp} {Q:VK} {E:XK} (k:RsG (RD K) C o G H Q E):Rs (RD K) C o H Q E:=k.toR fun _ _ _ d=>d.vw
end
structure Ar (P:Program) (w:World) (K:PySem.W.Frag) (mg:Str→Option Value) (base:Heap) (a:Ad):Prop where
 from_bits:Cb P w K mg base "from_bits" tZ5d ["bits"] 1 (pZ_3y K a.exc)
 to_bits:Cb P w K mg base "to_bits" tZ62 ["x"] 1 (pZ_4f K a.exc)
 opposite:Cb P w K mg base "opposite" tZ5p ["x"] 1 (sp1 K a.exc fun x=>some (Sn48.opposite x))
 plus:Cb P w K mg base "plus" tZ5s ["x","y"] 2 (sp2 K a.exc Sn48.add)
 minus:Cb P w K mg base "minus" tZ5o ["x","y"] 3 (sp2 K a.exc Sn48.sub)
 times:Cb P w K mg base "times" tZ60 ["x","y"] 3 (sp2 K a.exc Sn48.mul)
 over:Cb P w K mg base "over" tZ5q ["x","y"] 3 (sp2 K a.exc Sn48.div)
 root:Cb P w K mg base "root" tZ5u ["x"] 2 (sp1 K a.exc Sn48.root)
 is_below:Cb P w K mg base "is_below" tZ5g ["x","y"] 1 (spb2 K a.exc Sn48.below)
 square:Cb P w K mg base "square" tZ5y ["u"] 4 (pZ_4c K a.exc)
def comp:Nat→Sn48.P→Sn48.F
 | 0,p=>p.x
 | 1,p=>p.y
 | _,p=>p.z
theorem vec_at {K:PySem.W.Frag} {H:Hp} {v:V} {p:Sn48.P} (h:Vec K H v p) {i:Nat} (hi:i < 3):∃ q xs x,v=.ref q∧H q=some (.lst xs)∧xs[i]?=some x∧Dbl K H x (comp i p):=by
 obtain ⟨q,x,y,z,e,h,d1,d2,d3⟩:=h
 match i,hi with
 | 0,_=>exact ⟨q,_,x,e,h,rfl,d1⟩
 | 1,_=>exact ⟨q,_,y,e,h,rfl,d2⟩
 | 2,_=>exact ⟨q,_,z,e,h,rfl,d3⟩
theorem vec_of {K:PySem.W.Frag} {H:Hp} {v:V} {p:Sn48.P} (h:LstOf (RD K) v H [p.x,p.y,p.z]):Vec K H v p:=by
 obtain ⟨q,xs,e,hq,r⟩:=h
 cases r with
 | cons r1 r =>
  cases r with
  | cons r2 r =>
   cases r with
   | cons r3 r =>
    cases r
    exact ⟨q,_,_,_,e,hq,r1,r2,r3⟩
end Pw
local macro_rules | `(tactic| walk_at "rd")=>`(tactic| simp only [L2.tSeq,L2.tAsg,L2.tOp,L2.tVar,L2.tC,L2.gName,L2.rI,L2.rI0,L2.start,L2.tIfS,L2.tTest,L2.tRet,L2.tTup,L2.tCons,L2.tNil,L2.tUn,L2.rU,L2.rEq,L2.rNe,L2.tNext,L2.tCB,L2.tRaise,L2.tRaiseA,L2.tOr,L2.tAnd,L2.tNot,L2.tB,L2.tCall,L2.gTup,L2.gCons,L2.gNil,L2.tX0,L2.tX1,L2.tMZ,L2.tIf,L2.tChain,L2.tAug,L2.ipI,L2.tAndV,L2.tOrV,L2.tNotV,L2.TruV_i,L2.TruV_b,L2.TruV_r,L2.and1,L2.and2,L2.bits_bl,L2.scal_ii,L2.scal_bb,L2.sz1,L2.sz2,L2.sz3,L2.tn1,L2.p21,L2.le01,L2.tW0,L2.tW1,L2.tW2,L2.cxOf,L2.rIxL,L2.tDrop,L2.tBM,L2.tBM0,L2.rAppend,L2.rExtend,L2.rPop,L2.tFld,L2.sFld,L2.tMeth,L2.tMake,L2.rLen,L2.tLst,L2.tDIn,L2.tBreak,L2.tSl,L2.tPart,L2.tNoPart,L2.rSlL,L2.gSub,L2.rSetL,L2.rCat,L2.tRetN,Bool.not_eq_true',decide_eq_false_iff_not,
 List.map_cons,List.map_nil,List.length_cons,List.length_nil,List.replicate_succ,List.replicate_zero,List.cons_append,List.nil_append,List.getElem?_cons_zero,List.getElem?_cons_succ,List.set_cons_zero,List.set_cons_succ,
 Option.some.injEq,L2.V.int.injEq,L2.V.bl.injEq,L2.V.ref.injEq,List.cons.injEq,exists_eq_left',exists_eq_left,exists_and_left,true_and,and_true,and_assoc,Nat.reduceAdd,Nat.reduceSub,List.append_nil,decide_eq_true_eq,if_true,if_false,Bool.false_eq_true,reduceIte, *])
namespace Pw
open PySem L2
section
variable {P:Program} {w:World} {K:PySem.W.Frag} {mg:Str→Option Value} {base:Heap} {a:Ad}
def pZ_3j (K:PySem.W.Frag) (C:Addr):Sp:=fun vs H Q E=>∃ v ps i,vs=[v,.int (i:Nat)]∧LstOf (RV K) v H ps∧ps.length≤4096∧i < 3∧Rs (LstOf (RD K)) C (some (ps.map (comp i))) H Q E
def pZ_3w (K:PySem.W.Frag) (C:Addr) (f:List Nat→Option Nat):Sp:=fun vs H Q E=>∃ v l,vs=[v]∧LstOf (RD K) v H l∧l≠[]∧l.length≤40000∧Rs (RD K) C (f l) H Q E
def pZ_42 (K:PySem.W.Frag) (C:Addr):Sp:=fun vs H Q E=>∃ v u p c,vs=[v,u]∧Vec K H v p∧Vec K H u c∧Rs RI C (some ((Sn48.part c p:Nat):Int)) H Q E
def pZ_41 (K:PySem.W.Frag) (C:Addr):Sp:=fun vs H Q E=>∃ k v u l m G,vs=[.int (k:Nat),v,u]∧k < 8∧Vec K H v l∧Vec K H u m∧RsG (RV K) C (some (Fl.sel k l m)) G H Q E
abbrev tZ54:Stmt:=top 33
theorem cZ29:FnScope ["places","axis","place"] ["places","axis"] (defScope tZ54):=by walk_at "sc"
theorem blk_along_1:BlkOk ["places","axis","place"] (defScope tZ54) ((scs 9 (defBody tZ54)).getD 0 default) [("place",2)]:=blkOk_by (by decide +kernel)
theorem kZ0l (T:Tx K mg a) (F:Df K mg "along" tZ54 ["places","axis"]) (R:Ar P w K mg base a):Cb P w K mg base "along" tZ54 ["places","axis"] 1 (pZ_3j K a.exc):=by
 refine .mk F cZ29 (fun vs H Q E h=>?_) (fun f cdv A outer s H vs Q E hr h th=>?_)
 ·obtain ⟨_,_,_,rfl,_⟩:=h
  rfl
 ·obtain ⟨_,ps,i,rfl,⟨pl,xs,rfl,hp,pr⟩,hn,hi,k⟩:=h
  refine ⟨_,(pO (ps_ret (pe_lcX th rfl rfl rfl cZ29.nd (pi_list (pv 0)) blk_along_1 (fun _ _ _ _ _ _ _=>(pg_name (i:=2) cZ29.nd rfl (Or.inl rfl))) (fun _ _ _ _ _ _ _ thb=>pts_nil) (fun _ _ _ _ _ _ _ thb=>(pxK K (pv 2) (pv 1)))))),?_⟩
  walk_at "rd"
  refine tLc_items (G:=H) (f:=fun p=>some (comp i p)) (R:=RD K) (C:=a.exc) (E:=E) (fun F h=>⟨_,rfl,h⟩) mRD (SqL.of hp) (by rw [(Paired.len pr),sizeLine_eq];lia) (Paired.len pr) (Same.refl _) (fun x=>rfl) ?_ ?_
  ·rw [mapM_pure]
   exact k.toG (LstOf.mono mRD) _
  ·intro j x p H2 Q2 hx hp2 s2 G2 g1 g2 k2
   obtain ⟨x',hx',hv⟩:=Paired.at pr hp2
   rw [hx] at hx'
   cases hx'
   obtain ⟨q,xs2,y,rfl,hq,hy,d⟩:=vec_at hv hi
   refine ⟨_,rfl,_,rfl,q,xs2,_,y,rfl,rfl,SqL.of (s2 _ _ hq),atI_nat hy,k2.ret (Same.refl _) (d.same s2).vw⟩
abbrev tZ5k:Stmt:=top 34
theorem cZ2p:FnScope ["numbers","least","number"] ["numbers"] (defScope tZ5k):=by walk_at "sc"
theorem kZ11 (T:Tx K mg a) (F:Df K mg "least_of" tZ5k ["numbers"]) (R:Ar P w K mg base a):Cb P w K mg base "least_of" tZ5k ["numbers"] 2 (pZ_3w K a.exc fun l=>some (Sn48.least l)):=by
 refine .mk F cZ2p (fun vs H Q E h=>?_) (fun f cdv A outer s H vs Q E hr h th=>?_)
 ·obtain ⟨_,_,rfl,_⟩:=h
  rfl
 ·obtain ⟨_,l,rfl,⟨pl,xs,rfl,hp,pr⟩,hne,hn,k⟩:=h
  refine ⟨_,(pZ (ps_set (i:=1) cZ2p.nd rfl (Or.inl rfl) (pxK K (pv 0) pI))
   (pZ (ps_for th.own rfl (pi_list (pv 0)) (pg_name (i:=2) cZ2p.nd rfl (Or.inl rfl)) (pO (ps_if (pt_val (pb R.is_below hr th (pY (pv 2) (pY (pv 1) pN)))) (pO (ps_set (i:=1) cZ2p.nd rfl (Or.inl rfl) (pv 2))) pss_nil)))
   (pO (ps_ret (pv 1))))),?_⟩
  walk_at "rd"
  cases pr with
  | nil=>exact absurd rfl hne
  | cons r0 pr0 =>
   rename_i x0 b0 xs0 l0
   have pr:Paired (fun x a=>RD K x H a) (x0::xs0) (b0::l0):=.cons r0 pr0
   refine ⟨_,SqL.of hp,x0,at_of (j:=0) rfl rfl,?_⟩
   refine for_items (xs:=x0::xs0) (fun F h=>⟨_,rfl,h⟩) (SqL.of hp) (fun i σ Hc=>Same H Hc∧∃ v nx,σ=[some (.ref pl),some v,nx]∧Dbl K Hc v (((b0::l0).take i).foldl (fun a b=>if Sn48.below b a=true then b else a) b0)) ⟨Same.refl _,_,_,rfl,r0⟩ (fun i σ Hc h=>h.1.seq (SqL.of hp)) ?_ ?_
   ·rintro i x σ Hc hx ⟨s,v,nx,rfl,d⟩
    obtain ⟨b,hb,db⟩:=Paired.at' pr hx
    walk_at "rd"
    refine ⟨x,v,b,_,rfl,db.same s,d,.pur fun v1 H1 s1 e1=>?_⟩
    subst e1
    refine ⟨_,rfl,?_⟩
    have et:(b0::l0).take (i + 1)=(b0::l0).take i++[b]:=by rw [List.take_succ,hb];rfl
    rw [et,List.foldl_append]
    show if (Sn48.below b (((b0::l0).take i).foldl (fun a b=>if Sn48.below b a=true then b else a) b0))=true then _ else _
    by_cases c:Sn48.below b (((b0::l0).take i).foldl (fun a b=>if Sn48.below b a=true then b else a) b0)=true
    ·rw [if_pos c]
     refine ⟨s.trans s1,?_⟩
     show Dbl K H1 x (if Sn48.below b (((b0::l0).take i).foldl (fun a b=>if Sn48.below b a=true then b else a) b0)=true then b else _)
     rw [if_pos c]
     exact (db.same s).same s1
    ·rw [if_neg c]
     refine ⟨s.trans s1,?_⟩
     show Dbl K H1 v (if Sn48.below b (((b0::l0).take i).foldl (fun a b=>if Sn48.below b a=true then b else a) b0)=true then b else _)
     rw [if_neg c]
     exact d.same s1
   ·rintro σ Hc ⟨s,v,nx,rfl,d⟩
    have el:(b0::l0).take (x0::xs0).length=b0::l0:=List.take_of_length_le (by rw [(Paired.len pr)];exact Nat.le_refl _)
    rw [el] at d
    exact ⟨_,rfl,k.ret s d⟩
abbrev tZ5e:Stmt:=top 35
theorem cZ2j:FnScope ["numbers","greatest","number"] ["numbers"] (defScope tZ5e):=by walk_at "sc"
theorem kZ0v (T:Tx K mg a) (F:Df K mg "greatest_of" tZ5e ["numbers"]) (R:Ar P w K mg base a):Cb P w K mg base "greatest_of" tZ5e ["numbers"] 2 (pZ_3w K a.exc fun l=>some (Sn48.greatest l)):=by
 refine .mk F cZ2j (fun vs H Q E h=>?_) (fun f cdv A outer s H vs Q E hr h th=>?_)
 ·obtain ⟨_,_,rfl,_⟩:=h
  rfl
 ·obtain ⟨_,l,rfl,⟨pl,xs,rfl,hp,pr⟩,hne,hn,k⟩:=h
  refine ⟨_,(pZ (ps_set (i:=1) cZ2j.nd rfl (Or.inl rfl) (pxK K (pv 0) pI))
   (pZ (ps_for th.own rfl (pi_list (pv 0)) (pg_name (i:=2) cZ2j.nd rfl (Or.inl rfl)) (pO (ps_if (pt_val (pb R.is_below hr th (pY (pv 1) (pY (pv 2) pN)))) (pO (ps_set (i:=1) cZ2j.nd rfl (Or.inl rfl) (pv 2))) pss_nil)))
   (pO (ps_ret (pv 1))))),?_⟩
  walk_at "rd"
  cases pr with
  | nil=>exact absurd rfl hne
  | cons r0 pr0 =>
   rename_i x0 b0 xs0 l0
   have pr:Paired (fun x a=>RD K x H a) (x0::xs0) (b0::l0):=.cons r0 pr0
   refine ⟨_,SqL.of hp,x0,at_of (j:=0) rfl rfl,?_⟩
   refine for_items (xs:=x0::xs0) (fun F h=>⟨_,rfl,h⟩) (SqL.of hp) (fun i σ Hc=>Same H Hc∧∃ v nx,σ=[some (.ref pl),some v,nx]∧Dbl K Hc v (((b0::l0).take i).foldl (fun a b=>if Sn48.below a b=true then b else a) b0)) ⟨Same.refl _,_,_,rfl,r0⟩ (fun i σ Hc h=>h.1.seq (SqL.of hp)) ?_ ?_
   ·rintro i x σ Hc hx ⟨s,v,nx,rfl,d⟩
    obtain ⟨b,hb,db⟩:=Paired.at' pr hx
    walk_at "rd"
    refine ⟨v,x,_,b,rfl,d,db.same s,.pur fun v1 H1 s1 e1=>?_⟩
    subst e1
    refine ⟨_,rfl,?_⟩
    have et:(b0::l0).take (i + 1)=(b0::l0).take i++[b]:=by rw [List.take_succ,hb];rfl
    rw [et,List.foldl_append]
    show if (Sn48.below (((b0::l0).take i).foldl (fun a b=>if Sn48.below a b=true then b else a) b0) b)=true then _ else _
    by_cases c:Sn48.below (((b0::l0).take i).foldl (fun a b=>if Sn48.below a b=true then b else a) b0) b=true
    ·rw [if_pos c]
     refine ⟨s.trans s1,?_⟩
     show Dbl K H1 x (if Sn48.below (((b0::l0).take i).foldl (fun a b=>if Sn48.below a b=true then b else a) b0) b=true then b else _)
     rw [if_pos c]
     exact (db.same s).same s1
    ·rw [if_neg c]
     refine ⟨s.trans s1,?_⟩
     show Dbl K H1 v (if Sn48.below (((b0::l0).take i).foldl (fun a b=>if Sn48.below a b=true then b else a) b0) b=true then b else _)
     rw [if_neg c]
     exact d.same s1
   ·rintro σ Hc ⟨s,v,nx,rfl,d⟩
    have el:(b0::l0).take (x0::xs0).length=b0::l0:=List.take_of_length_le (by rw [(Paired.len pr)];exact Nat.le_refl _)
    rw [el] at d
    exact ⟨_,rfl,k.ret s d⟩
abbrev tZ5z:Stmt:=top 36
theorem cZ34:FnScope ["numbers","total","number"] ["numbers"] (defScope tZ5z):=by walk_at "sc"
theorem kZ1g (T:Tx K mg a) (F:Df K mg "sum_of" tZ5z ["numbers"]) (R:Ar P w K mg base a):Cb P w K mg base "sum_of" tZ5z ["numbers"] 3 (pZ_3w K a.exc Fl.sumF):=by
 refine .mk F cZ34 (fun vs H Q E h=>?_) (fun f cdv A outer s H vs Q E hr h th=>?_)
 ·obtain ⟨_,_,rfl,_⟩:=h
  rfl
 ·obtain ⟨_,l,rfl,⟨pl,xs,rfl,hp,pr⟩,hne,hn,k⟩:=h
  refine ⟨_,(pZ (ps_set (i:=1) cZ34.nd rfl (Or.inl rfl) (pxK K (pv 0) pI))
   (pZ (ps_for th.own rfl (pi_list (pe_slice (r:=rSlL K) sl_list (pv 0) (po_some pI) po_none)) (pg_name (i:=2) cZ34.nd rfl (Or.inl rfl)) (pO (ps_set (i:=1) cZ34.nd rfl (Or.inl rfl) (pb R.plus hr th (pY (pv 1) (pY (pv 2) pN))))))
   (pO (ps_ret (pv 1))))),?_⟩
  walk_at "rd"
  cases pr with
  | nil=>exact absurd rfl hne
  | cons r0 pr0 =>
   rename_i x0 b0 xs0 l0
   refine ⟨_,SqL.of hp,x0,at_of (j:=0) rfl rfl,?_⟩
   refine ⟨_,rfl,_,rfl,pl,_,rfl,SqL.of hp,fun p hp1=>⟨p,rfl,⟨_,SqL.of uS⟩,?_⟩⟩
   have ec:cutV (x0::xs0) (some 1) none=xs0:=by
    unfold cutV HT.sIx
    simp
   rw [ec]
   have s0:Same H (upd H p (.lst xs0)):=Same.new hp1
   refine for_list (xs:=xs0) (fun i σ Hc=>Same H Hc∧Hc p=some (.lst xs0)∧∃ v nx b,σ=[some (.ref pl),some v,nx]∧Dbl K Hc v b∧(l0.take i).foldlM Sn48.add b0=some b) ⟨s0,uS,_,_,_,rfl,r0.same s0,rfl⟩ (fun i σ Hc _ h=>SqL.of h.2.1) ?_ ?_
   ·rintro i x σ Hc hx ⟨s,hpp,v,nx,b,rfl,d,hf⟩
    obtain ⟨c,hc,dc⟩:=Paired.at' pr0 hx
    walk_at "rd"
    have et:l0.take (i + 1)=l0.take i++[c]:=by rw [List.take_succ,hc];rfl
    have ef:(l0.take (i + 1)).foldlM Sn48.add b0=Sn48.add b c:=by
     rw [et,Fl.foldlM_append,hf]
     show ([c].foldlM Sn48.add b)=_
     rw [Fl.foldlM_cons]
     cases Sn48.add b c <;> rfl
    refine ⟨v,x,b,c,rfl,d,dc.same s,⟨fun r e v1 H1 s1 d1=>⟨s.trans s1,s1 _ _ hpp,_,d1,by rw [ef,e]⟩,fun e H1 s1=>?_⟩⟩
    refine k.2 ?_ H1 (s.trans s1)
    show l0.foldlM Sn48.add b0=none
    rw [← List.take_append_drop (i + 1) l0,Fl.foldlM_append,ef,e]
    rfl
   ·rintro σ Hc ⟨s,hpp,v,nx,b,rfl,d,hf⟩
    rw [List.take_of_length_le (by rw [(Paired.len pr0)];exact Nat.le_refl _)] at hf
    exact ⟨_,rfl,k.1 b hf _ _ s d⟩
abbrev tZ5r:Stmt:=top 37
theorem cZ2w:FnScope ["place","middle","part"] ["place","middle"] (defScope tZ5r):=by walk_at "sc"
theorem kZ18 (T:Tx K mg a) (F:Df K mg "part_of" tZ5r ["place","middle"]) (R:Ar P w K mg base a):Cb P w K mg base "part_of" tZ5r ["place","middle"] 2 (pZ_42 K a.exc):=by
 refine .mk F cZ2w (fun vs H Q E h=>?_) (fun f cdv A outer s H vs Q E hr h th=>?_)
 ·obtain ⟨_,_,_,_,rfl,_⟩:=h
  rfl
 ·obtain ⟨_,_,p,c,rfl,⟨q,x,y,z,rfl,hq,dx,dy,dz⟩,⟨q2,x2,y2,z2,rfl,hq2,dx2,dy2,dz2⟩,k⟩:=h
  refine ⟨_,(pZ (ps_set (i:=2) cZ2w.nd rfl (Or.inl rfl) pI)
   (pZ (ps_if (pt_not (pt_val (pb R.is_below hr th (pY (pw0 x y z 0) (pY (pw0 x2 y2 z2 1) pN))))) (pO (ps_aug (i:=2) cZ2w.nd rfl (Or.inl rfl) pI ip_add)) pss_nil)
   (pZ (ps_if (pt_not (pt_val (pb R.is_below hr th (pY (pw1 x y z 0) (pY (pw1 x2 y2 z2 1) pN))))) (pO (ps_aug (i:=2) cZ2w.nd rfl (Or.inl rfl) pI ip_add)) pss_nil)
   (pZ (ps_if (pt_not (pt_val (pb R.is_below hr th (pY (pw2 x y z 0) (pY (pw2 x2 y2 z2 1) pN))))) (pO (ps_aug (i:=2) cZ2w.nd rfl (Or.inl rfl) pI ip_add)) pss_nil)
   (pO (ps_ret (pv 2))))))),?_⟩
  walk_at "rd"
  refine ⟨x,x2,_,_,rfl,dx,dx2,.pur fun v1 H1 s1 e1=>?_⟩
  have st:∀ (n:Int) (Q:VK),True:=fun _ _=>trivial
  have third:∀ (n:Int) (H2:Hp),Same H H2→(∀ v H3,Same H2 H3→(v=.int (n + (if Sn48.below p.z c.z=true then 0 else 4)))→Q v H3)→spb2 K a.exc Sn48.below [z,z2] H2 (fun x H1=>∃ c,x=V.bl c∧if c=false then Q (V.int (n + 4)) H1 else Q (V.int n) H1) E:=fun n H2 s2 kk =>
   ⟨z,z2,_,_,rfl,dz.same s2,dz2.same s2,.pur fun v3 H3 s3 e3=>by
    subst e3
    refine ⟨_,rfl,?_⟩
    by_cases cc:Sn48.below p.z c.z=true
    ·rw [if_neg (by rw [cc];decide)]
     exact kk _ _ s3 (by rw [if_pos cc,Int.add_zero])
    ·rw [if_pos (by cases h:Sn48.below p.z c.z;rfl;exact absurd h cc)]
     exact kk _ _ s3 (by rw [if_neg cc])⟩
  have second:∀ (n:Int) (H2:Hp),Same H H2→(∀ v H3,Same H2 H3→(v=.int (n + (if Sn48.below p.y c.y=true then 0 else 2) + (if Sn48.below p.z c.z=true then 0 else 4)))→Q v H3)→H2 q=some (HO.lst [x,y,z])∧H2 q2=some (HO.lst [x2,y2,z2])∧spb2 K a.exc Sn48.below [y,y2] H2 (fun x_2 H1=>∃ c,x_2=V.bl c ∧
    if c=false then H1 q=some (HO.lst [x,y,z])∧H1 q2=some (HO.lst [x2,y2,z2])∧spb2 K a.exc Sn48.below [z,z2] H1 (fun x H1=>∃ c,x=V.bl c∧if c=false then Q (V.int (n + 2 + 4)) H1 else Q (V.int (n + 2)) H1) E
    else H1 q=some (HO.lst [x,y,z])∧H1 q2=some (HO.lst [x2,y2,z2])∧spb2 K a.exc Sn48.below [z,z2] H1 (fun x H1=>∃ c,x=V.bl c∧if c=false then Q (V.int (n + 4)) H1 else Q (V.int n) H1) E) E:=fun n H2 s2 kk =>
   ⟨s2 _ _ hq,s2 _ _ hq2,y,y2,_,_,rfl,dy.same s2,dy2.same s2,.pur fun v3 H3 s3 e3=>by
    subst e3
    refine ⟨_,rfl,?_⟩
    by_cases cc:Sn48.below p.y c.y=true
    ·rw [if_neg (by rw [cc];decide)]
     refine ⟨(s2.trans s3) _ _ hq,(s2.trans s3) _ _ hq2,third _ _ (s2.trans s3) fun v H4 s4 e=>kk _ _ (s3.trans s4) ?_⟩
     rw [e,if_pos cc,Int.add_zero]
    ·rw [if_pos (by cases h:Sn48.below p.y c.y;rfl;exact absurd h cc)]
     refine ⟨(s2.trans s3) _ _ hq,(s2.trans s3) _ _ hq2,third _ _ (s2.trans s3) fun v H4 s4 e=>kk _ _ (s3.trans s4) ?_⟩
     rw [e,if_neg cc]⟩
  have fin:∀ n:Nat,n=(if Sn48.below p.x c.x=true then 0 else 1)→∀ v H3,Same H1 H3→v=.int ((n:Int) + (if Sn48.below p.y c.y=true then 0 else 2) + (if Sn48.below p.z c.z=true then 0 else 4))→Q v H3:=fun n hn v H3 s3 e=>by
   refine k.ret (s1.trans s3) ?_
   show v=.int _
   rw [e]
   congr 1
   unfold Sn48.part
   rw [hn]
   split <;> split <;> split <;> rfl
  subst e1
  refine ⟨_,rfl,?_⟩
  by_cases cc:Sn48.below p.x c.x=true
  ·rw [if_neg (by rw [cc];decide)]
   exact second 0 H1 s1 (fin 0 (by rw [if_pos cc]))
  ·rw [if_pos (by cases h:Sn48.below p.x c.x;rfl;exact absurd h cc)]
   exact second (0 + 1) H1 s1 (fin 1 (by rw [if_neg cc]))
abbrev tZ5n:Stmt:=top 39
theorem cZ2s:FnScope ["part","less","more"] ["part","less","more"] (defScope tZ5n):=by walk_at "sc"
theorem kZ14 (T:Tx K mg a) (F:Df K mg "middle_of_part" tZ5n ["part","less","more"]) (R:Ar P w K mg base a):Cb P w K mg base "middle_of_part" tZ5n ["part","less","more"] 1 (pZ_41 K a.exc):=by
 refine .mk F cZ2s (fun vs H Q E h=>?_) (fun f cdv A outer s H vs Q E hr h th=>?_)
 ·obtain ⟨_,_,_,_,_,_,rfl,_⟩:=h
  rfl
 ·obtain ⟨kk,_,_,l,m,G,rfl,hk,⟨q,x,y,z,rfl,hq,dx,dy,dz⟩,⟨q2,x2,y2,z2,rfl,hq2,dx2,dy2,dz2⟩,k⟩:=h
  refine ⟨_,(pO (ps_ret (pe_lst (pY (pe_ifExp (pt_truth (pe_op op_and (pv 0) pI) (fun _=>rfl)) (pw0 x2 y2 z2 2) (pw0 x y z 1)) (pY (pe_ifExp (pt_truth (pe_op op_and (pv 0) pI) (fun _=>rfl)) (pw1 x2 y2 z2 2) (pw1 x y z 1)) (pY (pe_ifExp (pt_truth (pe_op op_and (pv 0) pI) (fun _=>rfl)) (pw2 x2 y2 z2 2) (pw2 x y z 1)) pN)))))),?_⟩
  walk_at "rd"
  have fin:∀ (u v t:V),Dbl K H u (Fl.sel kk l m).x→Dbl K H v (Fl.sel kk l m).y→Dbl K H t (Fl.sel kk l m).z→∀ p,H p=none→Q (.ref p) (upd H p (.lst [u,v,t])):=fun u v t d1 d2 d3 p hp =>
   k.ret (.new hp) ⟨p,u,v,t,rfl,vw_new uS hp,(d1.same (.new hp)).vw,(d2.same (.new hp)).vw,(d3.same (.new hp)).vw⟩
  have ex:∀ u:V,(if kk % 2=1 then u=x2 else u=x)→Dbl K H u (Fl.sel kk l m).x:=fun u h=>by
   unfold Fl.sel
   by_cases c:kk % 2=1
   ·rw [if_pos c] at h;subst h;show Dbl K H u (if kk % 2=1 then _ else _);rw [if_pos c];exact dx2
   ·rw [if_neg c] at h;subst h;show Dbl K H u (if kk % 2=1 then _ else _);rw [if_neg c];exact dx
  have ey:∀ u:V,(if kk / 2 % 2=1 then u=y2 else u=y)→Dbl K H u (Fl.sel kk l m).y:=fun u h=>by
   unfold Fl.sel
   by_cases c:kk / 2 % 2=1
   ·rw [if_pos c] at h;subst h;show Dbl K H u (if kk / 2 % 2=1 then _ else _);rw [if_pos c];exact dy2
   ·rw [if_neg c] at h;subst h;show Dbl K H u (if kk / 2 % 2=1 then _ else _);rw [if_neg c];exact dy
  have ez:∀ u:V,(if kk / 4 % 2=1 then u=z2 else u=z)→Dbl K H u (Fl.sel kk l m).z:=fun u h=>by
   unfold Fl.sel
   by_cases c:kk / 4 % 2=1
   ·rw [if_pos c] at h;subst h;show Dbl K H u (if kk / 4=1 then _ else _);rw [if_pos (by lia)];exact dz2
   ·rw [if_neg c] at h;subst h;show Dbl K H u (if kk / 4=1 then _ else _);rw [if_neg (by lia)];exact dz
  rw [and4]
  simp only [decide_eq_true_eq]
  by_cases c1:kk % 2=1
  ·rw [if_pos (by lia)]
   by_cases c2:kk / 2 % 2=1
   ·rw [if_pos (by lia)]
    by_cases c3:kk / 4 % 2=1
    ·rw [if_pos c3];exact fin _ _ _ (ex _ (by rw [if_pos c1])) (ey _ (by rw [if_pos c2])) (ez _ (by rw [if_pos c3]))
    ·rw [if_neg c3];exact fin _ _ _ (ex _ (by rw [if_pos c1])) (ey _ (by rw [if_pos c2])) (ez _ (by rw [if_neg c3]))
   ·rw [if_neg (by lia)]
    by_cases c3:kk / 4 % 2=1
    ·rw [if_pos c3];exact fin _ _ _ (ex _ (by rw [if_pos c1])) (ey _ (by rw [if_neg c2])) (ez _ (by rw [if_pos c3]))
    ·rw [if_neg c3];exact fin _ _ _ (ex _ (by rw [if_pos c1])) (ey _ (by rw [if_neg c2])) (ez _ (by rw [if_neg c3]))
  ·rw [if_neg (by lia)]
   by_cases c2:kk / 2 % 2=1
   ·rw [if_pos (by lia)]
    by_cases c3:kk / 4 % 2=1
    ·rw [if_pos c3];exact fin _ _ _ (ex _ (by rw [if_neg c1])) (ey _ (by rw [if_pos c2])) (ez _ (by rw [if_pos c3]))
    ·rw [if_neg c3];exact fin _ _ _ (ex _ (by rw [if_neg c1])) (ey _ (by rw [if_pos c2])) (ez _ (by rw [if_neg c3]))
   ·rw [if_neg (by lia)]
    by_cases c3:kk / 4 % 2=1
    ·rw [if_pos c3];exact fin _ _ _ (ex _ (by rw [if_neg c1])) (ey _ (by rw [if_neg c2])) (ez _ (by rw [if_pos c3]))
    ·rw [if_neg c3];exact fin _ _ _ (ex _ (by rw [if_neg c1])) (ey _ (by rw [if_neg c2])) (ez _ (by rw [if_neg c3]))
end
end Pw
namespace L2
open PySem PySem.Spec PyProof.Rows
theorem lenF {f:Str} {v:V} {fs:List (Str × V)} {n:Nat} (h:fs.length≤n):(putF f v fs).length≤n + 1:=Nat.le_trans (length_putF _ _ _) (Nat.succ_le_succ h)
structure Cz (K:PySem.W.Frag) (mg:Str→Option Value) (x:Str) (C:Addr):Prop where
 cls:Cls K C
 mks:PySem.W.makesIn K C=true
 kp:PySem.W.keepIn K (.ref C)=true
 nm:mg x=some (.ref C)
section
variable {X:Cx} {E:XK} {k j:Nat} {C:Addr} {ps:List Str} {sp:Sp} {st:Stmt} {x qual:Str} {p pos:Pos} {e:Expr} {es:List Expr} {t:TA}
theorem pmk (c:Cm X.prog X.w X.K X.mg X.base C "__init__" qual st ps k sp) (z:Cz X.K X.mg x C) (hr:Room j X.A) (th:Throw X fun _=>E) (ha:PA X (e::es) t) (hk:k + 1≤j:=by decide) (hg:Gl X x:=by rfl) (hdb:(x == ("__debug__":Str))=false:=by decide)
  (he:starEach (e::es) X.env=(false,eval e X.env)::starEach es X.env:=by rfl) (hpl:(backTo pos (starEach es X.env)).any (·.1)=false:=by rfl):PE X (.Call (.Name x p) (e::es) [] pos) (tMake C sp [] E t):=by
 obtain ⟨f,fd,D,G⟩:=c
 exact pe_make ⟨z.mks,D.mt.at_,D.mt.fn,z.kp⟩ G (hr.mono hk) hg z.nm D.bd .nil th.passes ha hdb he hpl
theorem pmk0 (c:Cm X.prog X.w X.K X.mg X.base C "__init__" qual st ps k sp) (z:Cz X.K X.mg x C) (hr:Room j X.A) (th:Throw X fun _=>E) (hk:k + 1≤j:=by decide) (hg:Gl X x:=by rfl) (hdb:(x == ("__debug__":Str))=false:=by decide) :
  PE X (.Call (.Name x p) [] [] pos) (tMake C sp [] E tNil):=by
 obtain ⟨f,fd,D,G⟩:=c
 exact pe_make0 ⟨z.mks,D.mt.at_,D.mt.fn,z.kp⟩ G (hr.mono hk) hg z.nm D.bd .nil th.passes hdb
end
end L2
namespace Pw
open PySem L2
structure Tc (K:PySem.W.Frag) (mg:Str→Option Value) (a:Ad):Prop where
 cCell:Cz K mg "Cell" a.cCell
 cField:Cz K mg "Field" a.cField
 cMotion:Cz K mg "Motion" a.cMotion
 cSwarm:Cz K mg "Swarm" a.cSwarm
 c_singles:NoAttr K a.cCell "singles"
 c_parts:NoAttr K a.cCell "parts"
 c_members:NoAttr K a.cCell "members"
 c_side:NoAttr K a.cCell "side"
 c_weight:NoAttr K a.cCell "weight"
 c_place:NoAttr K a.cCell "place"
 f_far:NoAttr K a.cField "far"
 f_soft:NoAttr K a.cField "soft"
 f_weights:NoAttr K a.cField "weights"
 f_places:NoAttr K a.cField "places"
 f_first:NoAttr K a.cField "first"
 m_far:NoAttr K a.cMotion "far"
 m_soft:NoAttr K a.cMotion "soft"
 m_weights:NoAttr K a.cMotion "weights"
 m_places:NoAttr K a.cMotion "places"
 m_speeds:NoAttr K a.cMotion "speeds"
 s_far:NoAttr K a.cSwarm "far"
 s_soft:NoAttr K a.cSwarm "soft"
 s_bodies:NoAttr K a.cSwarm "bodies"
abbrev cf (s p m sd w pl:V):List (Str × V):=[("singles",s),("parts",p),("members",m),("side",sd),("weight",w),("place",pl)]
def Mem (H:Hp) (md:Addr) (l:List Nat):Prop:=∃ kvs,H md=some (.dK kvs)∧∀ i:Nat,(valV kvs (Sum.inl (i:Int):Key)).isSome=l.contains i
mutual
inductive CellAt (K:PySem.W.Frag) (a:Ad) (H:Hp):V→Sn48.Cell→Prop
 | some_ {x dx s pl:Addr} {l:List Nat}:l≠[]→H x=some (.ins a.cCell dx (cf (.ref s) (.ref pl) .non .non .non .non))→H s=some (.lst (l.map fun i=>V.int (i:Nat)))→CellAt K a H (.ref x) (.some_ l)
 | split {x dx s pl md:Addr} {vs:List V} {sv wv pv:V} {side m:Nat} {p:Sn48.P} {ins:List Nat} {l:List Sn48.Cell}:H x=some (.ins a.cCell dx (cf (.ref s) (.ref pl) (.ref md) sv wv pv))→H s=some (.lst [])→H pl=some (.lst vs)→CellsAt K a H vs (l.filter Fl.ne) →
   Mem H md ins→Dbl K H sv side→Dbl K H wv m→Vec K H pv p→CellAt K a H (.ref x) (.split side m p ins l)
inductive CellsAt (K:PySem.W.Frag) (a:Ad) (H:Hp):List V→List Sn48.Cell→Prop
 | nil:CellsAt K a H [] []
 | cons {v:V} {vs:List V} {c:Sn48.Cell} {cs:List Sn48.Cell}:CellAt K a H v c→CellsAt K a H vs cs→CellsAt K a H (v::vs) (c::cs)
end
section
variable {K:PySem.W.Frag} {a:Ad} {H H':Hp}
theorem Mem.same {md:Addr} {l:List Nat} (h:Mem H md l) (s:Same H H'):Mem H' md l:=let ⟨kvs,e,q⟩:=h;⟨kvs,s _ _ e,q⟩
mutual
theorem CellAt.same (s:Same H H'):∀ {v:V} {c:Sn48.Cell},CellAt K a H v c→CellAt K a H' v c
 | _,_,.some_ h1 h2 h3=>.some_ h1 (s _ _ h2) (s _ _ h3)
 | _,_,.split h1 h2 h3 h4 h5 h6 h7 h8=>.split (s _ _ h1) (s _ _ h2) (s _ _ h3) (h4.same s) (h5.same s) (h6.same s) (h7.same s) (h8.same s)
theorem CellsAt.same (s:Same H H'):∀ {vs:List V} {cs:List Sn48.Cell},CellsAt K a H vs cs→CellsAt K a H' vs cs
 | _,_,.nil=>.nil
 | _,_,.cons h1 h2=>.cons (h1.same s) (h2.same s)
end
theorem CellsAt.snoc {v:V} {c:Sn48.Cell} (h:CellAt K a H v c):∀ {vs:List V} {cs:List Sn48.Cell},CellsAt K a H vs cs→CellsAt K a H (vs++[v]) (cs++[c])
 | _,_,.nil=>.cons h .nil
 | _,_,.cons h1 h2=>.cons h1 (CellsAt.snoc h h2)
theorem CellsAt.append {vs2:List V} {cs2:List Sn48.Cell} (h:CellsAt K a H vs2 cs2):∀ {vs:List V} {cs:List Sn48.Cell},CellsAt K a H vs cs→CellsAt K a H (vs++vs2) (cs++cs2)
 | _,_,.nil=>h
 | _,_,.cons h1 h2=>.cons h1 (CellsAt.append h h2)
theorem CellsAt.length:∀ {vs:List V} {cs:List Sn48.Cell},CellsAt K a H vs cs→vs.length=cs.length
 | _,_,.nil=>rfl
 | _,_,.cons _ h2=>by rw [List.length_cons,List.length_cons,h2.length]
theorem CellsAt.get:∀ {vs:List V} {cs:List Sn48.Cell} {i:Nat} {v:V},CellsAt K a H vs cs→vs[i]?=some v→∃ c,cs[i]?=some c∧CellAt K a H v c
 | _,_,0,_,.cons h1 h2,e=>by cases e;exact ⟨_,rfl,h1⟩
 | _,_,i + 1,_,.cons h1 h2,e=>by
  obtain ⟨c,q1,q2⟩:=CellsAt.get (i:=i) h2 (by simpa using e)
  exact ⟨c,by simpa using q1,q2⟩
abbrev RC (K:PySem.W.Frag) (a:Ad):V→Hp→Sn48.Cell→Prop:=fun v H c=>CellAt K a H v c
end
end Pw
namespace Pw
open PySem L2
section
variable {P:Program} {w:World} {K:PySem.W.Frag} {mg:Str→Option Value} {base:Heap} {a:Ad}
def pZ_3c (K:PySem.W.Frag) (a:Ad):Sp:=fun vs H Q E=>∃ x dx v,vs=[.ref x,v]∧H x=some (.ins a.cCell dx [])∧∀ pl H',H pl=none→Off x H H'→H' pl=some (.lst [])→H' x=some (.ins a.cCell dx (cf v (.ref pl) .non .non .non .non))→Q .non H'
abbrev inPart (bs:List Sn48.Body) (c:Sn48.P) (l:List Nat) (k:Nat):List Nat:=l.filter fun i=>Sn48.part c (bs.getD i default).at_ == k
def pZ_3m (K:PySem.W.Frag) (C:Addr):Sp:=fun vs H Q E=>∃ v u t bs l c G,vs=[v,u,t]∧LstOf (RV K) v H (bs.map (·.at_))∧RIL u H l∧(∀ i∈l,i < bs.length)∧l.length≤4096∧Vec K H t c∧RsG (LstOf RIL) C (some ((List.range 8).map (inPart bs c l))) G H Q E
abbrev tZ4j:Stmt:=inClass (top 32) 0
theorem cZ1o:FnScope ["self","bodies"] ["self","bodies"] (defScope tZ4j):=by walk_at "sc"
theorem kZ00 (T:Tx K mg a) (F:Dfm K a.cCell "__init__" "Cell.__init__" tZ4j ["self","bodies"]) (S:Tc K mg a):Cm P w K mg base a.cCell "__init__" "Cell.__init__" tZ4j ["self","bodies"] 1 (pZ_3c K a):=by
 refine .mk F cZ1o (fun vs H Q E h=>?_) (fun f cdv A outer s H vs Q E hr h th=>?_)
 ·obtain ⟨_,_,_,rfl,_⟩:=h
  rfl
 ·obtain ⟨x,dx,v,rfl,hx,k⟩:=h
  refine ⟨_,(pZ (ps_fld (pv 0) (pv 1) rfl)
   (pZ (ps_fld (pv 0) (pe_lst pN) rfl)
   (pZ (ps_fld (pv 0) pe_non rfl)
   (pZ (ps_fld (pv 0) pe_non rfl)
   (pZ (ps_fld (pv 0) pe_non rfl)
   (pO (ps_fld (pv 0) pe_non rfl))))))),?_⟩
  walk_at "rd"
  refine ⟨_,_,_,rfl,S.cCell.cls,S.c_singles,by decide,Nat.zero_le _,fun p hp=>?_⟩
  have hpx:p≠x:=fun e=>by rw [e,uS] at hp;cases hp
  have hp0:H p=none:=by rw [uN hpx] at hp;exact hp
  refine ⟨_,_,_,(uN (Ne.symm hpx)).trans uS,S.cCell.cls,S.c_parts,Nat.lt_of_le_of_lt (lenF (Nat.le_refl 0)) (by decide),?_⟩
  refine ⟨_,_,_,uS,S.cCell.cls,S.c_members,Nat.lt_of_le_of_lt (lenF (lenF (Nat.le_refl 0))) (by decide),?_⟩
  refine ⟨_,_,_,uS,S.cCell.cls,S.c_side,Nat.lt_of_le_of_lt (lenF (lenF (lenF (Nat.le_refl 0)))) (by decide),?_⟩
  refine ⟨_,_,_,uS,S.cCell.cls,S.c_weight,Nat.lt_of_le_of_lt (lenF (lenF (lenF (lenF (Nat.le_refl 0))))) (by decide),?_⟩
  refine ⟨_,_,_,uS,S.cCell.cls,S.c_place,Nat.lt_of_le_of_lt (lenF (lenF (lenF (lenF (lenF (Nat.le_refl 0)))))) (by decide),?_⟩
  refine k p _ hp0 (fun b o hb h=>?_) ?_ uS
  ·have hbp:b≠p:=nN h hp0
   rw [uN hb,uN hb,uN hb,uN hb,uN hb,uN hbp,uN hb]
   exact h
  ·rw [uN hpx,uN hpx,uN hpx,uN hpx,uN hpx,uS]
abbrev tZ58:Stmt:=top 38
theorem cZ2d:FnScope ["places","bodies","middle","parts","body","part"] ["places","bodies","middle"] (defScope tZ58):=by walk_at "sc"
theorem blk_bodies_by_part_1:BlkOk ["places","bodies","middle","parts","body","part"] (defScope tZ58) ((scs 9 (defBody tZ58)).getD 0 default) [("part",5)]:=blkOk_by (by decide +kernel)
theorem kZ0p (T:Tx K mg a) (F:Df K mg "bodies_by_part" tZ58 ["places","bodies","middle"]) (R:Ar P w K mg base a) (B_part_of:Cb P w K mg base "part_of" tZ5r ["place","middle"] 2 (pZ_42 K a.exc)):Cb P w K mg base "bodies_by_part" tZ58 ["places","bodies","middle"] 3 (pZ_3m K a.exc):=by
 refine .mk F cZ2d (fun vs H Q E h=>?_) (fun f cdv A outer s H vs Q E hr h th=>?_)
 ·obtain ⟨_,_,_,_,_,_,_,rfl,_⟩:=h
  rfl
 ·obtain ⟨_,_,vt,bs,l,c,G,rfl,⟨pp,xs,rfl,hp,pr⟩,⟨pb_,rfl,hb⟩,hl,hn,hv,k⟩:=h
  refine ⟨_,(pZ (ps_setLcX (i:=3) th rfl rfl rfl cZ2d.nd rfl rfl (sw_true rfl rfl rfl rfl) (pi_range1 rfl T.range (pY pI pN)) blk_bodies_by_part_1 (fun _ _ _ _ _ _ _=>(pg_name (i:=5) cZ2d.nd rfl (Or.inl rfl))) (fun _ _ _ _ _ _ _ thb=>pts_nil) (fun _ _ _ _ _ _ _ thb=>(pe_lst pN)))
   (pZ (ps_for th.own rfl (pi_list (pv 1)) (pg_name (i:=4) cZ2d.nd rfl (Or.inl rfl)) (pO (ps_expr (papp (pxK K (pv 3) (pb B_part_of hr th (pY (pxK K (pv 0) (pv 4)) (pY (pv 2) pN)))) (pY (pv 4) pN)))))
   (pO (ps_ret (pv 3))))),?_⟩
  walk_at "rd"
  refine ⟨8,rfl,by decide,by decide,fun D hD=>?_⟩
  refine lc_range (fun i Hc=>Same H Hc∧∃ rs:List Addr,Hc D=some (.lst (rs.map V.ref))∧rs.length=i∧rs.Nodup∧∀ r∈rs,Hc r=some (.lst [])∧H r=none∧r≠D) ⟨Same.new hD,[],uS,rfl,.nil,fun r hr=>by cases hr⟩ ?_ ?_
  ·rintro i Hc hi ⟨s,rs,h1,h2,h3,h4⟩
   refine ⟨rfl,(⟨Nat.zero_le _,fun q hq=>?_⟩:_∧_)⟩
   have hqD:D≠q:=nN h1 hq
   refine ⟨_,(uN hqD).trans h1,?_,(s.trans (Same.new hq)).upd hD,rs++[q],?_,by rw [List.length_append,h2];rfl,?_,?_⟩
   ·rw [List.length_map,h2,sizeLine_eq]
    have:i < 8:=hi
    lia
   ·rw [uS,List.map_append];rfl
   ·rw [List.nodup_append]
    refine ⟨h3,by simp,fun x hx y hy=>?_⟩
    have:y=q:=by simpa using hy
    rw [this]
    exact nN (h4 x hx).1 hq
   ·intro r hr
    rcases List.mem_append.mp hr with z | z
    ·obtain ⟨q1,q2,q3⟩:=h4 r z
     exact ⟨by rw [uN q3,uN (nN q1 hq)];exact q1,q2,q3⟩
    ·have:r=q:=by simpa using z
     subst this
     exact ⟨by rw [uN (Ne.symm hqD)];exact uS,s.free hq,Ne.symm hqD⟩
  ·rintro Hc ⟨s0,rs,h1,h2,h3,h4⟩
   refine for_items (xs:=l.map fun i=>V.int (i:Nat)) (fun F h=>⟨_,rfl,h⟩) (SqL.of (s0 _ _ hb)) (fun i σ Hc=>Same H Hc∧(∃ x y,σ=[some (.ref pp),some (.ref pb_),some vt,some (.ref D),x,y])∧Hc D=some (.lst (rs.map V.ref))∧∀ (k:Nat) (r:Addr),rs[k]?=some r→Hc r=some (.lst ((inPart bs c (l.take i) k).map fun i=>V.int (i:Nat))))
    ⟨s0,⟨_,_,rfl⟩,h1,fun k r hr=>(h4 r (List.mem_of_getElem? hr)).1⟩ (fun i σ Hc h=>SqL.of (h.1 _ _ hb)) ?_ ?_
   ·rintro i x σ Hc hx ⟨s,⟨y1,y2,rfl⟩,hD2,hr2⟩
    rw [List.getElem?_map] at hx
    obtain ⟨b,hb1,hb2⟩:∃ b,l[i]?=some b∧x=V.int (b:Nat):=by
     cases q:l[i]? with
     | none=>rw [q] at hx;cases hx
     | some b=>rw [q] at hx;cases hx;exact ⟨b,rfl,rfl⟩
    subst hb2
    have hbl:b < bs.length:=hl b (List.mem_of_getElem? hb1)
    have hbb:(bs.map (·.at_))[b]?=some (bs.getD b default).at_:=by
     rw [List.getElem?_map,List.getD_eq_getElem?_getD,List.getElem?_eq_getElem hbl];rfl
    obtain ⟨pv1,hpv,hvv⟩:=Paired.at pr hbb
    show ∃ v,_=some (some v)∧_
    refine ⟨_,rfl,?_⟩
    refine ⟨_,rfl,_,rfl,pp,xs,_,pv1,rfl,rfl,SqL.of (s _ _ hp),atI_nat hpv,?_⟩
    refine ⟨_,rfl,?_⟩
    refine ⟨pv1,vt,_,c,rfl,Vec.same hvv s,Vec.same hv s,.pur fun v1 H1 s1 e1=>?_⟩
    replace e1:v1=.int _:=e1
    subst e1
    have pl8:=Fl.part_lt c (bs.getD b default).at_
    obtain ⟨r,hr⟩:∃ r,rs[Sn48.part c (bs.getD b default).at_]?=some r:=⟨_,List.getElem?_eq_getElem (by rw [h2];exact pl8)⟩
    have hrr:=s1 _ _ (hr2 _ r hr)
    refine ⟨D,_,_,.ref r,rfl,rfl,SqL.of (s1 _ _ hD2),atI_nat (by rw [List.getElem?_map,hr];rfl),?_⟩
    refine ⟨.inl ⟨rfl,_,SqL.of hrr⟩,?_⟩
    refine ⟨_,rfl,r,_,_,rfl,rfl,hrr,?_,?_⟩
    ·rw [List.length_map,sizeLine_eq]
     have h5:(inPart bs c (l.take i) (Sn48.part c (bs.getD b default).at_)).length≤(l.take i).length:=List.length_filter_le _ _
     have h6:(l.take i).length≤l.length:=by rw [List.length_take];lia
     lia
    ·have rD:r≠D:=(h4 r (List.mem_of_getElem? hr)).2.2
     have rH:H r=none:=(h4 r (List.mem_of_getElem? hr)).2.1
     refine ⟨(s.trans s1).upd rH,⟨_,_,rfl⟩,by rw [uN (Ne.symm rD)];exact s1 _ _ hD2,fun k' r' hr'=>?_⟩
     have et:l.take (i + 1)=l.take i++[b]:=by rw [List.take_succ,hb1];rfl
     by_cases e:k'=Sn48.part c (bs.getD b default).at_
     ·subst e
      rw [hr] at hr'
      cases hr'
      rw [uS,et]
      unfold inPart
      rw [List.filter_append,List.filter_cons_of_pos (by simp),List.filter_nil,List.map_append]
      rfl
     ·have hne:r'≠r:=fun z=>e (by subst z;exact nd_ix h3 hr' hr)
      rw [uN hne,et]
      unfold inPart
      rw [List.filter_append,List.filter_cons_of_neg (by simpa using fun z=>e z.symm),List.filter_nil,List.append_nil]
      exact s1 _ _ (hr2 k' r' hr')
   ·rintro σ Hc ⟨s,⟨y1,y2,rfl⟩,hD2,hr2⟩
    rw [List.length_map,List.take_of_length_le (Nat.le_refl _)] at hr2
    refine ⟨_,rfl,k.ret s ⟨D,_,rfl,vw_new hD2 hD,?_⟩⟩
    have key:∀ (n:Nat) (rs':List Addr) (j:Nat),rs'.length=n→(∀ (k:Nat) (r:Addr),rs'[k]?=some r→Hc r=some (.lst ((inPart bs c l (j + k)).map fun i=>V.int (i:Nat)))∧H r=none)→Paired (fun x a=>RIL x (vw G H Hc) a) (rs'.map V.ref) ((List.range' j n).map (inPart bs c l)):=by
     intro n
     induction n with
     | zero =>
      intro rs' j e q
      cases rs' with
      | nil=>exact .nil
      | cons _ _=>cases e
     | succ n ih =>
      intro rs' j e q
      cases rs' with
      | nil=>cases e
      | cons r0 rs' =>
       obtain ⟨q1,q2⟩:=q 0 r0 rfl
       exact .cons ⟨r0,rfl,vw_new q1 q2⟩ (ih rs' (j + 1) (by simpa using e) fun k r hr=>by have:=q (k + 1) r (by simpa using hr);rw [show j + (k + 1)=j + 1 + k by lia] at this;exact this)
    have:=key 8 rs 0 h2 fun k r hr=>⟨by rw [Nat.zero_add];exact hr2 k r hr,(h4 r (List.mem_of_getElem? hr)).2.1⟩
    exact this
end
end Pw
namespace L2
open PySem PySem.Spec PyProof.Rows
theorem pgt {X:Cx} (K:PySem.W.Frag) {es:List Expr} {k:Nat} {t:TGs} {n:Nat} {pos:Pos} (hc:X.calm=true) (h:PGs X es t) (hK:X.K=K:=by rfl) (hn:(assignEach es X.env).length=n:=by rfl) (hst:(assignEach es X.env).findIdx? (·.1)=none:=by rfl):PG X (.Tuple es k pos) (gTup K n t):=by
 subst hK
 exact pg_tup hc h hn hst
section
variable {K:PySem.W.Frag} {g:TG} {tb:TS} {D:Ends} {σ:St} {H:Hp} {a b:Addr} {xs ys:List V} {ta:TA}
theorem for_gen {J:It} {n:Nat} (Pv:Nat→St→Hp→Prop) (h0:Pv 0 σ H) (go:∀ i σ Hc,i < n→Pv i σ Hc→J.go i Hc) (stop:∀ σ Hc,Pv n σ Hc→J.stop n Hc)
  (hs:∀ (i:Nat) σ Hc x H',i < n→Pv i σ Hc→J.yld i Hc x H'→g x σ H' fun σ2 H2=>tb { D with nx:=Pv (i + 1),ct:=Pv (i + 1),bk:=D.nx } σ2 H2) (hd:∀ σ H,Pv n σ H→D.nx σ H) :
  ∃ W:Nat→Nat→St→Hp→Prop,(∃ m,W 0 m σ H)∧∀ i m σ H,W i m σ H→(J.stop i H∧D.nx σ H)∨(J.go i H∧∃ N:St→Hp→Prop,(∀ σ' H',N σ' H'→∃ m',m' < m∧W (i + 1) m' σ' H')∧∀ x H',J.yld i H x H'→g x σ H' fun σ2 H2=>tb { D with nx:=N,ct:=N,bk:=D.nx } σ2 H2):=by
 refine ⟨fun i m σ Hc=>m=n - i∧i≤n∧Pv i σ Hc,⟨n,rfl,Nat.zero_le _,h0⟩,?_⟩
 rintro i m σ Hc ⟨rfl,hi,p⟩
 by_cases c:i < n
 ·exact .inr ⟨go i σ Hc c p,Pv (i + 1),fun σ' H' q=>⟨n - (i + 1),by lia,rfl,c,q⟩,fun x H' y=>hs i σ Hc x H' c p y⟩
 ·have e:i=n:=by lia
  subst e
  exact .inl ⟨stop σ Hc p,hd σ Hc p⟩
theorem for_zip2 (ht:∀ F:List V→Hp→Prop,F [.ref a,.ref b] H→ta σ H F) (hl:xs.length=ys.length) (Pv:Nat→St→Hp→Prop) (h0:Pv 0 σ H) (h1:∀ i σ Hc,Pv i σ Hc→SqL K Hc a xs∧SqL K Hc b ys)
  (hs:∀ (i:Nat) x y σ Hc T,xs[i]?=some x→ys[i]?=some y→Pv i σ Hc→Hc T=none→g (.ref T) σ (upd Hc T (.tup [x,y])) fun σ2 H2=>tb { D with nx:=Pv (i + 1),ct:=Pv (i + 1),bk:=D.nx } σ2 H2) (hd:∀ σ H,Pv xs.length σ H→D.nx σ H):tFor (iZip K ta) g tb D σ H:=by
 obtain ⟨q1,q2⟩:=h1 0 σ H h0
 refine ht _ ⟨a,b,xs,ys,rfl,q1,q2,for_gen (n:=xs.length) Pv h0 ?_ ?_ ?_ hd⟩
 ·intro i σ Hc hi p
  obtain ⟨r1,r2⟩:=h1 i σ Hc p
  exact ⟨xs,ys,xs[i],ys[i]'(by lia),r1,r2,List.getElem?_eq_getElem hi,List.getElem?_eq_getElem (by lia)⟩
 ·intro σ Hc p
  obtain ⟨r1,r2⟩:=h1 _ σ Hc p
  exact ⟨xs,ys,r1,r2,.inl (Nat.le_refl _)⟩
 ·rintro i σ Hc v H' hi p ⟨T,x,y,rfl,hT,rfl,hx,hy⟩
  obtain ⟨r1,r2⟩:=h1 i σ Hc p
  exact hs i x y σ Hc T (hx xs r1) (hy ys r2) p hT
theorem enum_loop {H1:Hp} (Pv:Nat→St→Hp→Prop) (h0:Pv 0 σ H1) (h1:∀ i σ Hc,Pv i σ Hc→SqL K Hc a xs)
  (hs:∀ (i:Nat) x σ Hc T,xs[i]?=some x→Pv i σ Hc→Hc T=none→g (.ref T) σ (upd Hc T (.tup [.int (i:Nat),x])) fun σ2 H2=>tb { D with nx:=Pv (i + 1),ct:=Pv (i + 1),bk:=D.nx } σ2 H2) (hd:∀ σ H,Pv xs.length σ H→D.nx σ H) :
  ∃ a' xs',[V.ref a]=[V.ref a']∧SqL K H1 a' xs'∧∃ W:Nat→Nat→St→Hp→Prop,(∃ m,W 0 m σ H1)∧∀ i m σ H,W i m σ H→((Ite K a').stop i H∧D.nx σ H)∨((Ite K a').go i H∧∃ N:St→Hp→Prop,(∀ σ' H',N σ' H'→∃ m',m' < m∧W (i + 1) m' σ' H')∧∀ x H',(Ite K a').yld i H x H'→g x σ H' fun σ2 H2=>tb { D with nx:=N,ct:=N,bk:=D.nx } σ2 H2):=by
 refine ⟨a,xs,rfl,h1 0 σ H1 h0,for_gen (n:=xs.length) Pv h0 ?_ ?_ ?_ hd⟩
 ·intro i σ Hc hi p
  exact ⟨xs,xs[i],h1 i σ Hc p,List.getElem?_eq_getElem hi⟩
 ·intro σ Hc p
  exact ⟨xs,h1 _ σ Hc p,Nat.le_refl _⟩
 ·rintro i σ Hc v H' hi p ⟨T,x,rfl,hT,rfl,hx⟩
  exact hs i x σ Hc T (hx xs (h1 i σ Hc p)) p hT
end
section
variable {β γ:Type} {K:PySem.W.Frag} {te:TE} {σ:St} {H G:Hp} {a b c C:Addr} {xs ys ws:List V} {i j l:Nat} {f:β→Option γ} {R:V→Hp→γ→Prop} {zs:List β} {Q:VK} {E:XK} {ta:TA}
theorem tLc_zip (ht:∀ F:List V→Hp→Prop,F [.ref a,.ref b] H→ta σ H F) (m:Mono R) (h1:SqL K H a xs) (h2:SqL K H b ys) (hz:xs.length≤sizeLine) (hl1:xs.length=zs.length) (hl2:ys.length=zs.length) (g:Same G H)
  (hj:∀ x y,wipe (((wipe σ [i,j]).set i (some x)).set j (some y)) [i,j]=wipe σ [i,j]) (k:RsG (LstOf R) C (zs.mapM f) G H Q E)
  (el:∀ (n:Nat) x y z H2 Q2,xs[n]?=some x→ys[n]?=some y→zs[n]?=some z→Same H H2→∀ G2,Same G G2→Same G2 H2→RsG R C (f z) G2 H2 Q2 E→te (((wipe σ [i,j]).set i (some x)).set j (some y)) H2 Q2) :
  tLc (iZip K ta) (gTup K 2 (gCons (gName i) (gCons (gName j) gNil))) tYes te [i,j] σ H Q:=by
 refine ht _ ⟨a,b,xs,ys,rfl,h1,h2,fun D hD=>lc_gen m hl1.symm hz hD g (fun n Hc hn s=>⟨xs,ys,xs[n],ys[n]'(by lia),s.seq h1,s.seq h2,List.getElem?_eq_getElem hn,List.getElem?_eq_getElem (by lia)⟩) (fun Hc s=>⟨xs,ys,s.seq h1,s.seq h2,.inl (Nat.le_refl _)⟩) k ?_⟩
 rintro n z H2 Q2 hn hzz s G2 g1 g2 k2 N v H3 ⟨T,x,y,rfl,hT,rfl,hx,hy⟩
 refine ⟨T,_,rfl,SqT.of uS,rfl,x,_,rfl,y,_,rfl,rfl,hj x y,?_⟩
 have s2:Same H2 (upd H2 T (.tup [x,y])):=Same.new hT
 exact el n x y z _ Q2 (hx xs (s.seq h1)) (hy ys (s.seq h2)) hzz (s.trans s2) _ (g1.trans (vw_sup g2 s2)) vw_sub (k2.same m s2)
theorem tLc_zip3 (ht:∀ F:List V→Hp→Prop,F [.ref a,.ref b,.ref c] H→ta σ H F) (m:Mono R) (h1:SqL K H a xs) (h2:SqL K H b ys) (h3:SqL K H c ws) (hz:xs.length≤sizeLine) (hl1:xs.length=zs.length) (hl2:ys.length=zs.length) (hl3:ws.length=zs.length) (g:Same G H)
  (hj:∀ x y w,wipe ((((wipe σ [i,j,l]).set i (some x)).set j (some y)).set l (some w)) [i,j,l]=wipe σ [i,j,l]) (k:RsG (LstOf R) C (zs.mapM f) G H Q E)
  (el:∀ (n:Nat) x y w z H2 Q2,xs[n]?=some x→ys[n]?=some y→ws[n]?=some w→zs[n]?=some z→Same H H2→∀ G2,Same G G2→Same G2 H2→RsG R C (f z) G2 H2 Q2 E→te ((((wipe σ [i,j,l]).set i (some x)).set j (some y)).set l (some w)) H2 Q2) :
  tLc (iZip3 K ta) (gTup K 3 (gCons (gName i) (gCons (gName j) (gCons (gName l) gNil)))) tYes te [i,j,l] σ H Q:=by
 refine ht _ ⟨a,b,c,xs,ys,ws,rfl,h1,h2,h3,fun D hD=>lc_gen m hl1.symm hz hD g (fun n Hc hn s=>⟨xs,ys,ws,xs[n],ys[n]'(by lia),ws[n]'(by lia),s.seq h1,s.seq h2,s.seq h3,List.getElem?_eq_getElem hn,List.getElem?_eq_getElem (by lia),List.getElem?_eq_getElem (by lia)⟩) (fun Hc s=>⟨xs,s.seq h1,Nat.le_refl _⟩) k ?_⟩
 rintro n z H2 Q2 hn hzz s G2 g1 g2 k2 N v H3 ⟨T,x,y,w,rfl,hT,rfl,hx,hy,hw⟩
 refine ⟨T,_,rfl,SqT.of uS,rfl,x,_,rfl,y,_,rfl,w,_,rfl,rfl,hj x y w,?_⟩
 have s2:Same H2 (upd H2 T (.tup [x,y,w])):=Same.new hT
 exact el n x y w z _ Q2 (hx xs (s.seq h1)) (hy ys (s.seq h2)) (hw ws (s.seq h3)) hzz (s.trans s2) _ (g1.trans (vw_sup g2 s2)) vw_sub (k2.same m s2)
end
end L2
namespace Pw
open PySem L2
section
variable {P:Program} {w:World} {K:PySem.W.Frag} {mg:Str→Option Value} {base:Heap} {a:Ad}
theorem off_upd {p x:Addr} {o:HO} {H Hc:Hp} (h:Off x H Hc) (n:H p=none∨p=x):Off x H (upd Hc p o):=fun b u hb e=>by
 have:b≠p:=by
  rcases n with n | n
  ·exact nN e n
  ·rw [n];exact hb
 rw [uN this]
 exact h b u hb e
theorem off_same {p:Addr} {H H1 H2:Hp} (h:Off p H H1) (s:Same H1 H2):Off p H H2:=fun b o n e=>s b o (h b o n e)
def axr (L:List (Nat × Sn48.P)) (M:Nat) (j:Nat):Option Nat:=(L.mapM fun z=>Sn48.mul z.1 (comp j z.2)).bind fun ps=>(Fl.sumF ps).bind fun s=>Sn48.div s M
theorem summed_ax (L:List (Nat × Sn48.P)):Sn48.summed L=(Fl.sumF (L.map (·.1))).bind fun M=>(axr L M 0).bind fun x=>(axr L M 1).bind fun y=>(axr L M 2).bind fun z=>some (M,⟨x,y,z⟩):=by
 rw [Fl.summed_eq]
 have e:∀ (f:Sn48.P→Nat) (M:Nat),((Fl.sumAx f L).bind fun s=>Sn48.div s M)=(L.mapM fun z=>Sn48.mul z.1 (f z.2)).bind fun ps=>(Fl.sumF ps).bind fun s=>Sn48.div s M:=fun f M=>by
  unfold Fl.sumAx
  rw [Option.bind_assoc]
 simp only [e]
 rfl
theorem flat_le {α β:Type} (f:α→List β) (l:List α) (i:Nat):((l.take i).map f).flatten.length≤(l.map f).flatten.length:=by
 have e:l.map f=(l.take i).map f++(l.drop i).map f:=by rw [← List.map_append,List.take_append_drop]
 rw [e,List.flatten_append,List.length_append]
 exact Nat.le_add_right _ _
theorem flat_succ {α β:Type} (f:α→List β) {l:List α} {i:Nat} {c:α} (h:l[i]?=some c):((l.take (i + 1)).map f).flatten=((l.take i).map f).flatten++f c:=by
 rw [List.take_succ,h,List.map_append,List.flatten_append]
 show _++(f c++[])=_
 rw [List.append_nil]
theorem Paired.app {α:Type} {F:V→α→Prop} {xs2:List V} {l2:List α} (h:Paired F xs2 l2):∀ {xs:List V} {l:List α},Paired F xs l→Paired F (xs++xs2) (l++l2)
 | _,_,.nil=>h
 | _,_,.cons q r=>.cons q (Paired.app h r)
theorem RsG.pur {α:Type} {R:V→Hp→α→Prop} {C:Addr} {r:α} {G H:Hp} {Q:VK} {E:XK} (k:∀ v H',Same H H'→R v (vw G H H') r→Q v H'):RsG R C (some r) G H Q E:=⟨fun b e v H2 s2 q=>by cases e;exact k v H2 s2 q,fun e=>by cases e⟩
theorem ax_none {L:List (Nat × Sn48.P)} {M:Nat} {i:Nat} (hi:i < 3) (h:axr L M i=none):((axr L M 0).bind fun x=>(axr L M 1).bind fun y=>(axr L M 2).bind fun z=>some ((M,⟨x,y,z⟩):Nat × Sn48.P))=none:=by
 match i,hi with
 | 0,_=>rw [h];rfl
 | 1,_=>rw [h];exact Fl.bind_none _
 | 2,_ =>
  rw [h]
  cases axr L M 0 with
  | none=>rfl
  | some x=>exact Fl.bind_none _
theorem range_succ' {γ:Type} (f:Nat→Option γ) {i:Nat} {cs:List γ} (h:(List.range i).mapM f=some cs):(List.range (i + 1)).mapM f=(f i).bind fun c=>some (cs++[c]):=by
 rw [List.range_succ,Fl.mapM_append,h,Fl.mapM_cons]
 cases f i <;> rfl
theorem range3 {γ:Type} {f:Nat→Option γ} {cs:List γ} (h:(List.range 3).mapM f=some cs):∃ x y z,cs=[x,y,z]∧f 0=some x∧f 1=some y∧f 2=some z:=by
 have e:List.range 3=[0,1,2]:=rfl
 rw [e,Fl.mapM_cons,Fl.mapM_cons,Fl.mapM_cons,Fl.mapM_nil] at h
 cases h0:f 0 with
 | none=>rw [h0] at h;cases h
 | some x =>
  cases h1:f 1 with
  | none=>rw [h0,h1] at h;cases h
  | some y =>
   cases h2:f 2 with
   | none=>rw [h0,h1,h2] at h;cases h
   | some z =>
    rw [h0,h1,h2] at h
    cases h
    exact ⟨x,y,z,rfl,rfl,rfl,rfl⟩
def pZ_4h (K:PySem.W.Frag) (a:Ad):Sp:=fun vs H Q E=>∃ x wv pv dx s pl md sd bs us cells G,vs=[.ref x,wv,pv]∧Same G H∧G x=none∧H x=some (.ins a.cCell dx (cf s (.ref pl) md sd .non .non))∧G pl=some (.lst us)∧CellsAt K a G us cells∧(∀ c∈cells,∃ n,Fl.COk bs.length n c) ∧
 LstOf (RD K) wv G (bs.map (·.m))∧LstOf (RV K) pv G (bs.map (·.at_))∧((cells.map (Fl.wholeL bs)).flatten).length≤40000∧(cells.map (Fl.wholeL bs)).flatten≠[] ∧
 (∀ r,Sn48.summed (cells.map (Fl.wholeL bs)).flatten=some r→∀ H' v q,Off x H H'→H' x=some (.ins a.cCell dx (cf s (.ref pl) md sd v (.ref q)))→H q=none→Dbl K H' v r.1→Vec K H' (.ref q) r.2→Q .non H') ∧
 (Sn48.summed (cells.map (Fl.wholeL bs)).flatten=none→∀ H',Off x H H'→E (.ref a.exc) none H')
abbrev tZ64:Stmt:=top 40
theorem cZ39:FnScope ["cell","weights","places","heavy","there","part","axis","products","weight","place","body"] ["cell","weights","places"] (defScope tZ64):=by walk_at "sc"
theorem blk_weigh_1:BlkOk ["cell","weights","places","heavy","there","part","axis","products","weight","place","body"] (defScope tZ64) ((scs 9 (defBody tZ64)).getD 0 default) [("body",10)]:=blkOk_by (by decide +kernel)
theorem blk_weigh_2:BlkOk ["cell","weights","places","heavy","there","part","axis","products","weight","place","body"] (defScope tZ64) ((scs 9 (defBody tZ64)).getD 1 default) [("body",10)]:=blkOk_by (by decide +kernel)
theorem blk_weigh_3:BlkOk ["cell","weights","places","heavy","there","part","axis","products","weight","place","body"] (defScope tZ64) ((scs 9 (defBody tZ64)).getD 2 default) [("weight",8),("place",9)]:=blkOk_by (by decide +kernel)
theorem kZ1l (T:Tx K mg a) (F:Df K mg "weigh" tZ64 ["cell","weights","places"]) (R:Ar P w K mg base a) (S:Tc K mg a) (B_sum_of:Cb P w K mg base "sum_of" tZ5z ["numbers"] 3 (pZ_3w K a.exc Fl.sumF)):Cb P w K mg base "weigh" tZ64 ["cell","weights","places"] 4 (pZ_4h K a):=by
 refine .mk F cZ39 (fun vs H Q E h=>?_) (fun f cdv A outer s H vs Q E hr h th=>?_)
 ·obtain ⟨_,_,_,_,_,_,_,_,_,_,_,_,rfl,_⟩:=h
  rfl
 ·obtain ⟨x,_,_,dx,sg,pl,md,sd,bs,us,cells,G,rfl,g,gx,hx,hpl,hcs,hok,⟨wa,wxs,rfl,hw,wr⟩,⟨pa,pxs,rfl,hp,pr⟩,hn,hne,k1,k2⟩:=h
  refine ⟨_,(pZ (ps_set (i:=3) cZ39.nd rfl (Or.inl rfl) (pe_lst pN))
   (pZ (ps_set (i:=4) cZ39.nd rfl (Or.inl rfl) (pe_lst pN))
   (pZ (ps_for th.own rfl (pi_list (pfK K (pv 0))) (pg_name (i:=5) cZ39.nd rfl (Or.inl rfl)) (pO (ps_if (pt_truth (pfK K (pv 5)) (fun _=>rfl)) (pZ (ps_expr (pext (pv 3) (pY (pe_lcX th rfl rfl rfl cZ39.nd (pi_list (pfK K (pv 5))) blk_weigh_1 (fun _ _ _ _ _ _ _=>(pg_name (i:=10) cZ39.nd rfl (Or.inl rfl))) (fun _ _ _ _ _ _ _ thb=>pts_nil) (fun _ _ _ _ _ _ _ thb=>(pxK K (pv 1) (pv 10)))) pN)))
     (pO (ps_expr (pext (pv 4) (pY (pe_lcX th rfl rfl rfl cZ39.nd (pi_list (pfK K (pv 5))) blk_weigh_2 (fun _ _ _ _ _ _ _=>(pg_name (i:=10) cZ39.nd rfl (Or.inl rfl))) (fun _ _ _ _ _ _ _ thb=>pts_nil) (fun _ _ _ _ _ _ _ thb=>(pxK K (pv 2) (pv 10)))) pN))))) (pZ (ps_expr (papp (pv 3) (pY (pfK K (pv 5)) pN)))
     (pO (ps_expr (papp (pv 4) (pY (pfK K (pv 5)) pN))))))))
   (pZ (ps_fld (pv 0) (pb B_sum_of hr th (pY (pv 3) pN)) rfl)
   (pZ (ps_fld (pv 0) (pe_lst pN) rfl)
   (pO (ps_for th.own rfl (pi_range1 rfl T.range (pY pI pN)) (pg_name (i:=6) cZ39.nd rfl (Or.inr rfl)) (pZ (ps_setLcX (i:=7) th rfl rfl rfl cZ39.nd rfl rfl (sw_true rfl rfl rfl rfl) (pi_zip rfl T.zip (pY (pv 3) (pY (pv 4) pN))) blk_weigh_3 (fun _ _ _ _ _ _ _=>(pgt K (n:=2) rfl (pgs_cons (pg_name (i:=8) cZ39.nd rfl (Or.inl rfl)) (pgs_cons (pg_name (i:=9) cZ39.nd rfl (Or.inl rfl)) pgs_nil)))) (fun _ _ _ _ _ _ _ thb=>pts_nil) (fun _ _ _ _ _ _ _ thb=>(pb R.times hr thb (pY (pv 8) (pY (pxK K (pv 9) (pv 6)) pN)))))
    (pO (ps_expr (papp (pfK K (pv 0)) (pY (pb R.over hr th (pY (pb B_sum_of hr th (pY (pv 7) pN)) (pY (pfK K (pv 0)) pN))) pN)))))))))))),?_⟩
  walk_at "rd"
  refine ⟨Nat.zero_le _,fun hv hhv=>⟨Nat.zero_le _,fun tv htv=>?_⟩⟩
  have htv0:H tv=none:=by
   by_cases e:tv=hv
   ·rw [e,uS] at htv;cases htv
   ·rw [uN e] at htv;exact htv
  have hth:tv≠hv:=fun e=>by rw [e,uS] at htv;cases htv
  have xhv:x≠hv:=nN hx hhv
  have xtv:x≠tv:=nN hx htv0
  have ghv:G hv=none:=g.free hhv
  have gtv:G tv=none:=g.free htv0
  generalize hL:(cells.map (Fl.wholeL bs)).flatten=L at *
  let Inv0:Nat→St→Hp→Prop:=fun i σ Hc=>Off x H Hc∧Hc x=some (.ins a.cCell dx (cf sg (.ref pl) md sd .non .non))∧Same G Hc∧(∃ y5 y6 y7 y8 y9 y10,σ=[some (.ref x),some (.ref wa),some (.ref pa),some (.ref hv),some (.ref tv),y5,y6,y7,y8,y9,y10]) ∧
   ∃ hs ts,Hc hv=some (.lst hs)∧Hc tv=some (.lst ts)∧Paired (fun v b=>Dbl K G v b) hs ((((cells.take i).map (Fl.wholeL bs)).flatten).map (·.1))∧Paired (fun v p=>Vec K G v p) ts ((((cells.take i).map (Fl.wholeL bs)).flatten).map (·.2))
  have start0:Inv0 0 [some (.ref x),some (.ref wa),some (.ref pa),some (.ref hv),some (.ref tv),none,none,none,none,none,none] (upd (upd H hv (.lst [])) tv (.lst [])) :=
   ⟨off_upd (off_upd (Off.refl x H) (.inl hhv)) (.inl htv0),by rw [uN xtv,uN xhv];exact hx,(g.upd ghv).upd gtv,⟨_,_,_,_,_,_,rfl⟩,[],[],by rw [uN (Ne.symm hth),uS],uS,.nil,.nil⟩
  have ulen:=hcs.length
  refine for_items (xs:=us) (fun F h=>⟨_,rfl,x,_,dx,_,_,rfl,start0.2.1,S.cCell.cls,S.c_parts,rfl,h⟩) (SqL.of (start0.2.2.1 _ _ hpl)) Inv0 start0 (fun i σ Hc h=>SqL.of (h.2.2.1 _ _ hpl)) ?_ ?_
  ·rintro i u σ Hc hu ⟨off,hcx,gs,⟨y5,y6,y7,y8,y9,y10,rfl⟩,hs,ts,h1,h2,p1,p2⟩
   obtain ⟨c,hc,ca⟩:=CellsAt.get hcs hu
   have fl:=flat_succ (Fl.wholeL bs) hc
   have fle:=flat_le (Fl.wholeL bs) cells (i + 1)
   rw [hL,fl,List.length_append] at fle
   have lh:=Paired.len p1
   have lt:=Paired.len p2
   rw [List.length_map] at lh lt
   have fin:∀ (hs2 ts2:List V) (H2:Hp),Off x H H2→H2 x=some (.ins a.cCell dx (cf sg (.ref pl) md sd .non .non))→Same G H2→H2 hv=some (.lst (hs++hs2))→H2 tv=some (.lst (ts++ts2))→Paired (fun v b=>Dbl K G v b) hs2 ((Fl.wholeL bs c).map (·.1))→Paired (fun v p=>Vec K G v p) ts2 ((Fl.wholeL bs c).map (·.2)) →
     Inv0 (i + 1) [some (.ref x),some (.ref wa),some (.ref pa),some (.ref hv),some (.ref tv),some u,y6,y7,y8,y9,y10] H2:=fun hs2 ts2 H2 q1 q2 q3 q4 q5 q6 q7=>by
    refine ⟨q1,q2,q3,⟨_,_,_,_,_,_,rfl⟩,_,_,q4,q5,?_,?_⟩
    ·rw [fl,List.map_append];exact Paired.app q6 p1
    ·rw [fl,List.map_append];exact Paired.app q7 p2
   cases ca with
   | some_ hl hxc hsc =>
    rename_i xc dxc sc plc l
    have okc:=hok _ (List.mem_of_getElem? hc)
    obtain ⟨nn,okc⟩:=okc
    have hlt:∀ j∈l,j < bs.length:=by cases okc with | some_ _ _ q _=>exact q
    have ll:(Fl.wholeL bs (.some_ l)).length=l.length:=by unfold Fl.wholeL;rw [List.length_map]
    rw [ll] at fle
    show ∃ v,_=some (some v)∧_
    refine ⟨_,rfl,xc,rfl,_,_,_,gs _ _ hxc,S.cCell.cls,S.c_singles,_,rfl,true,.inl ⟨_,SqL.of (gs _ _ hsc),?_⟩,?_⟩
    ·cases l with
     | nil=>exact absurd rfl hl
     | cons _ _=>rfl
    ·refine ite2 (fun _=>?_) (fun z=>absurd rfl z)
     refine ⟨_,rfl,.inl ⟨rfl,_,SqL.of h1⟩,?_⟩
     refine tLc_items (K:=K) (G:=Hc) (C:=a.exc) (E:=E) (ys:=l) (f:=fun j=>some (bs.getD j default).m) (R:=fun v _ b=>Dbl K G v b) (fun F h=>⟨_,rfl,xc,_,_,_,_,rfl,gs _ _ hxc,S.cCell.cls,S.c_singles,rfl,h⟩) (fun _ _ _ _ _ r=>r) (SqL.of (gs _ _ hsc)) (by rw [List.length_map,sizeLine_eq];lia) (by rw [List.length_map]) (Same.refl _) (fun x=>rfl) ?_ ?_
     ·rw [mapM_pure]
      refine RsG.pur fun v H1 s1 ⟨p',zs,ev,hp',pz⟩=>?_
      subst ev
      have hp1:=vw_sub _ _ hp'
      have zl:=Paired.len pz
      rw [List.length_map] at zl
      refine ⟨hv,p',_,_,rfl,rfl,s1 _ _ h1,hp1,by rw [sizeLine_eq];lia,?_⟩
      have hHa:∀ b o,b≠hv→Hc b=some o→(upd H1 hv (.lst (hs++zs))) b=some o:=fun b o hb e=>by rw [uN hb];exact s1 b o e
      have offa:Off x H (upd H1 hv (.lst (hs++zs))):=off_upd (off_same off s1) (.inl hhv)
      have xa:=hHa _ _ xhv hcx
      have ga:Same G (upd H1 hv (.lst (hs++zs))):=(gs.trans s1).upd ghv
      have ta':=hHa _ _ hth h2
      refine ⟨_,rfl,.inl ⟨rfl,_,SqL.of ta'⟩,?_⟩
      refine tLc_items (K:=K) (G:=upd H1 hv (.lst (hs++zs))) (C:=a.exc) (E:=E) (ys:=l) (f:=fun j=>some (bs.getD j default).at_) (R:=fun v _ b=>Vec K G v b) (fun F h=>⟨_,rfl,xc,_,_,_,_,rfl,ga _ _ hxc,S.cCell.cls,S.c_singles,rfl,h⟩) (fun _ _ _ _ _ r=>r) (SqL.of (ga _ _ hsc)) (by rw [List.length_map,sizeLine_eq];lia) (by rw [List.length_map]) (Same.refl _) (fun x=>rfl) ?_ ?_
      ·rw [mapM_pure]
       refine RsG.pur fun v H3 s3 ⟨p3,zs3,ev,hp3,pz3⟩=>?_
       subst ev
       have zl3:=Paired.len pz3
       rw [List.length_map] at zl3
       refine ⟨tv,p3,_,_,rfl,rfl,s3 _ _ ta',vw_sub _ _ hp3,by rw [sizeLine_eq];lia,?_⟩
       refine fin zs zs3 _ (off_upd (off_same offa s3) (.inl htv0)) (by rw [uN xtv];exact s3 _ _ xa) ((ga.trans s3).upd gtv) (by rw [uN (Ne.symm hth)];exact s3 _ _ uS) uS ?_ ?_
       ·unfold Fl.wholeL
        rw [List.map_map]
        exact pz
       ·unfold Fl.wholeL
        rw [List.map_map]
        exact pz3
      ·intro j v b H2 Q2 hv2 hb2 s2 G2 g1 g2 k3
       rw [List.getElem?_map,hb2] at hv2
       cases hv2
       have hb3:(bs.map (·.at_))[b]?=some (bs.getD b default).at_:=by
        rw [List.getElem?_map,List.getD_eq_getElem?_getD,List.getElem?_eq_getElem (hlt b (List.mem_of_getElem? hb2))];rfl
       obtain ⟨y,hy,dy⟩:=Paired.at pr hb3
       exact ⟨_,rfl,_,rfl,pa,_,_,y,rfl,rfl,SqL.of (s2 _ _ (ga _ _ hp)),atI_nat hy,k3.ret (Same.refl _) dy⟩
     ·intro j v b H2 Q2 hv2 hb2 s2 G2 g1 g2 k3
      rw [List.getElem?_map,hb2] at hv2
      cases hv2
      have hb3:(bs.map (·.m))[b]?=some (bs.getD b default).m:=by
       rw [List.getElem?_map,List.getD_eq_getElem?_getD,List.getElem?_eq_getElem (hlt b (List.mem_of_getElem? hb2))];rfl
      obtain ⟨y,hy,dy⟩:=Paired.at wr hb3
      exact ⟨_,rfl,_,rfl,wa,_,_,y,rfl,rfl,SqL.of (s2 _ _ (gs _ _ hw)),atI_nat hy,k3.ret (Same.refl _) dy⟩
   | split hxc hsc hpc hcc hmc hsd hwc hpp =>
    rename_i xc dxc sc plc mdc vsc svc wvc pvc sidec mc pc insc lc
    have ll:(Fl.wholeL bs (.split sidec mc pc insc lc)).length=1:=rfl
    rw [ll] at fle
    show ∃ v,_=some (some v)∧_
    refine ⟨_,rfl,xc,rfl,_,_,_,gs _ _ hxc,S.cCell.cls,S.c_singles,_,rfl,false,.inl ⟨_,SqL.of (gs _ _ hsc),rfl⟩,?_⟩
    refine ite2 (fun z=>absurd z (by decide)) (fun _=>?_)
    refine ⟨_,rfl,.inl ⟨rfl,_,SqL.of h1⟩,_,rfl,xc,_,_,_,_,rfl,gs _ _ hxc,S.cCell.cls,S.c_weight,rfl,hv,_,_,rfl,rfl,h1,by rw [sizeLine_eq];lia,?_⟩
    have ta':(upd Hc hv (.lst (hs++[wvc]))) tv=some (.lst ts):=by rw [uN hth];exact h2
    have ga:Same G (upd Hc hv (.lst (hs++[wvc]))):=gs.upd ghv
    refine ⟨_,rfl,.inl ⟨rfl,_,SqL.of ta'⟩,_,rfl,xc,_,_,_,_,rfl,ga _ _ hxc,S.cCell.cls,S.c_place,rfl,tv,_,_,rfl,rfl,ta',by rw [sizeLine_eq];lia,?_⟩
    exact fin [wvc] [pvc] _ (off_upd (off_upd off (.inl hhv)) (.inl htv0)) (by rw [uN xtv,uN xhv];exact hcx) (ga.upd gtv) (by rw [uN (Ne.symm hth),uS]) uS (.cons hwc .nil) (.cons hpp .nil)
  ·rintro σ Hc ⟨off,hcx,gs,⟨y5,y6,y7,y8,y9,y10,rfl⟩,hs,ts,h1,h2,p1,p2⟩
   rw [ulen,List.take_of_length_le (Nat.le_refl _),hL] at p1 p2
   have lh:=Paired.len p1
   have lt:=Paired.len p2
   rw [List.length_map] at lh lt
   have sx:=summed_ax L
   show ∃ v,_
   refine ⟨_,rfl,.ref hv,_,rfl,⟨hv,hs,rfl,h1,Paired.imp' (fun _ _ d=>d.same gs) p1⟩,?_,by rw [List.length_map];exact hn,⟨fun M eM vM H1 s1 dM=>?_,fun eM H1 s1=>k2 (by rw [sx,eM];rfl) H1 (off_same off s1)⟩⟩
   ·intro z
    exact hne (List.map_eq_nil_iff.mp z)
   ·rw [eM] at sx
    replace sx:Sn48.summed L=(axr L M 0).bind fun x=>(axr L M 1).bind fun y=>(axr L M 2).bind fun z=>some (M,⟨x,y,z⟩):=sx
    refine ⟨_,rfl,x,_,dx,_,rfl,s1 _ _ hcx,S.cCell.cls,S.c_weight,(by show 6 < 1000;decide),Nat.zero_le _,fun q hq=>?_⟩
    have qx:q≠x:=fun e=>by rw [e,uS] at hq;cases hq
    have hq1:H1 q=none:=by rw [uN qx] at hq;exact hq
    have hq0:H q=none:=by
     cases e:H q with
     | none=>rfl
     | some o =>
      have:=s1 _ _ (off q o qx e)
      rw [hq1] at this
      cases this
    refine ⟨_,rfl,x,_,dx,_,rfl,(uN (Ne.symm qx)).trans uS,S.cCell.cls,S.c_place,Nat.lt_of_le_of_lt (lenF (Nat.le_refl 6)) (by decide),?_⟩
    let Inv1:Nat→St→Hp→Prop:=fun i σ Hd=>Off x H Hd∧Hd x=some (.ins a.cCell dx (cf sg (.ref pl) md sd vM (.ref q)))∧Same G Hd∧(∃ y5 y6 y7 y8 y9 y10,σ=[some (.ref x),some (.ref wa),some (.ref pa),some (.ref hv),some (.ref tv),y5,y6,y7,y8,y9,y10]) ∧
     Hd hv=some (.lst hs)∧Hd tv=some (.lst ts)∧Dbl K Hd vM M∧∃ ds cs,Hd q=some (.lst ds)∧ds.length=i∧(List.range i).mapM (axr L M)=some cs∧Paired (fun v c=>Dbl K Hd v c) ds cs
    have x1:=s1 _ _ hcx
    have q_hv:q≠hv:=(nN (s1 _ _ h1) hq1).symm
    have q_tv:q≠tv:=(nN (s1 _ _ h2) hq1).symm
    refine for_upto (n:=3) (ta:=tCons (tC (V.int 3)) tNil) (fun F h=>h) (by decide) (by decide) Inv1 ?_ ?_ ?_
    ·refine ⟨off_upd (off_upd (off_upd (off_same off s1) (.inr rfl)) (.inl hq0)) (.inr rfl),uS,?_,⟨_,_,_,_,_,_,rfl⟩,?_,?_,?_,[],[],by rw [uN qx,uS],rfl,rfl,.nil⟩
     ·exact (((gs.trans s1).upd gx).upd (g.free hq0)).upd gx
     ·rw [uN (Ne.symm xhv),uN (Ne.symm q_hv),uN (Ne.symm xhv)];exact s1 _ _ h1
     ·rw [uN (Ne.symm xtv),uN (Ne.symm q_tv),uN (Ne.symm xtv)];exact s1 _ _ h2
     ·refine dM.off x1 rfl fun b o hb e=>?_
      rw [uN hb,uN (nN e hq1),uN hb]
      exact e
    ·rintro i σ Hd hi ⟨o1,o2,o3,⟨y5,y6,y7,y8,y9,y10,rfl⟩,o4,o5,o6,ds,cs,o7,o8,o9,o10⟩
     have hi3:i < 3:=hi
     show tAsg _ _ _ _ _
     refine tLc_zip (K:=K) (a:=hv) (b:=tv) (xs:=hs) (ys:=ts) (G:=Hd) (C:=a.exc) (E:=E) (zs:=L) (f:=fun z=>Sn48.mul z.1 (comp i z.2)) (R:=RD K) (fun F h=>⟨_,rfl,_,rfl,h⟩) mRD (SqL.of o4) (SqL.of o5) (by rw [sizeLine_eq];lia) (by lia) (by lia) (Same.refl _) (fun _ _=>rfl) ⟨fun ps e v H2 s2 r=>?_,fun e H2 s2=>?_⟩ ?_
     ·obtain ⟨p7,zs7,rfl,hp7,pz7⟩:=r
      have pl7:=Fl.mapM_length e
      refine ⟨_,rfl,x,_,_,_,_,rfl,s2 _ _ o2,S.cCell.cls,S.c_place,rfl,.inl ⟨rfl,_,SqL.of (s2 _ _ o7)⟩,?_⟩
      refine ⟨_,rfl,.ref p7,ps,rfl,⟨p7,zs7,rfl,vw_sub _ _ hp7,Paired.imp' (fun _ _ d=>Dbl.same d vw_sub) pz7⟩,?_,by lia,⟨fun sm es vs3 H3 s3 d3=>?_,fun es H3 s3=>?_⟩⟩
      ·intro z
       rw [z] at pl7
       exact hne (List.eq_nil_of_length_eq_zero pl7.symm)
      ·refine ⟨_,rfl,x,_,_,_,_,rfl,s3 _ _ (s2 _ _ o2),S.cCell.cls,S.c_weight,rfl,vs3,vM,sm,M,rfl,d3,(o6.same s2).same s3,⟨fun c ec vc H4 s4 d4=>?_,fun ec H4 s4=>?_⟩⟩
       ·have ha:axr L M i=some c:=by
         unfold axr
         rw [e]
         show (Fl.sumF ps).bind _=_
         rw [es]
         exact ec
        have t4:=(s2.trans s3).trans s4
        refine ⟨q,ds,vc,rfl,rfl,t4 _ _ o7,by rw [o8,sizeLine_eq];lia,?_⟩
        refine ⟨off_upd (off_same o1 t4) (.inl hq0),by rw [uN (Ne.symm qx)];exact t4 _ _ o2,(o3.trans t4).upd (g.free hq0),⟨_,_,_,_,_,_,rfl⟩,by rw [uN (Ne.symm q_hv)];exact t4 _ _ o4,by rw [uN (Ne.symm q_tv)];exact t4 _ _ o5,(o6.same t4).off (t4 _ _ o7) rfl (Off.put _ _ _),ds++[vc],cs++[c],uS,by rw [List.length_append,o8];rfl,?_,?_⟩
        ·rw [range_succ' _ o9,ha];rfl
        ·exact Paired.imp' (fun _ _ d=>Dbl.off d (t4 _ _ o7) rfl (Off.put _ _ _)) (Paired.snoc d4 (Paired.imp' (fun _ _ d=>Dbl.same d t4) o10))
       ·refine k2 (sx.trans (ax_none hi3 ?_)) H4 (off_same o1 ((s2.trans s3).trans s4))
        unfold axr
        rw [e]
        show (Fl.sumF ps).bind _=_
        rw [es]
        exact ec
      ·refine k2 (sx.trans (ax_none hi3 ?_)) H3 (off_same o1 (s2.trans s3))
       unfold axr
       rw [e]
       show (Fl.sumF ps).bind _=_
       rw [es]
       rfl
     ·refine k2 (sx.trans (ax_none hi3 ?_)) H2 (off_same o1 s2)
      unfold axr
      rw [e]
      rfl
     ·intro n xx yy z H2 Q2 hx2 hy2 hz2 s2 G2 g1 g2 k3
      have e1:(L.map (·.1))[n]?=some z.1:=by rw [List.getElem?_map,hz2];rfl
      have e2:(L.map (·.2))[n]?=some z.2:=by rw [List.getElem?_map,hz2];rfl
      obtain ⟨x',q1,q2⟩:=Paired.at p1 e1
      obtain ⟨y',q3,q4⟩:=Paired.at p2 e2
      rw [hx2] at q1
      rw [hy2] at q3
      cases q1
      cases q3
      obtain ⟨qq,xs2,vv,rfl,hqq,hvv,dv⟩:=vec_at q4 hi3
      have gh:=o3.trans s2
      exact ⟨_,rfl,_,rfl,_,rfl,qq,xs2,_,vv,rfl,rfl,SqL.of (gh _ _ hqq),atI_nat hvv,xx,vv,z.1,comp i z.2,rfl,q2.same gh,dv.same gh,RsD k3⟩
    ·rintro σ Hd ⟨o1,o2,o3,⟨y5,y6,y7,y8,y9,y10,rfl⟩,o4,o5,o6,ds,cs,o7,o8,o9,o10⟩
     obtain ⟨c0,c1,c2,rfl,a0,a1,a2⟩:=range3 o9
     exact k1 (M,⟨c0,c1,c2⟩) (by rw [sx,a0,a1,a2];rfl) Hd vM q o1 o2 hq0 o6 (vec_of (p:=⟨c0,c1,c2⟩) ⟨q,ds,rfl,o7,o10⟩)
end
end Pw
namespace Pw
open PySem L2
section
variable {P:Program} {w:World} {K:PySem.W.Frag} {mg:Str→Option Value} {base:Heap} {a:Ad}
theorem rep_half:Fl.Rep 1 (-1) Sn48.HALF:=⟨⟨by decide,by decide⟩,by decide,by decide,by decide,by
 have e:Sn48.worth Sn48.HALF=((2 ^ 1073:Nat):Int):=by
  rw [Fl.worth_eq,if_neg (by decide)]
  show ((Fl.mag 4602678819172646912:Nat):Int)=_
  unfold Fl.mag
  rw [if_neg (by decide)]
  show (((0 + 2 ^ 52) * 2 ^ 1021:Nat):Int)=_
  rw [Nat.zero_add,← Nat.pow_add]
 rw [e,Int.one_mul,Fl.two_pow_cast]
 rfl,fun z=>absurd z (by decide)⟩
theorem rep_two:Fl.Rep 1 1 Sn48.TWO:=⟨⟨by decide,by decide⟩,by decide,by decide,by decide,by
 have e:Sn48.worth Sn48.TWO=((2 ^ 1075:Nat):Int):=by
  rw [Fl.worth_eq,if_neg (by decide)]
  show ((Fl.mag 4611686018427387904:Nat):Int)=_
  unfold Fl.mag
  rw [if_neg (by decide)]
  show (((0 + 2 ^ 52) * 2 ^ 1023:Nat):Int)=_
  rw [Nat.zero_add,← Nat.pow_add]
 rw [e,Int.one_mul,Fl.two_pow_cast]
 rfl,fun z=>absurd z (by decide)⟩
theorem dbl_half (T:Tx K mg a) (H:Hp):Dbl K H (.ref a.hf) Sn48.HALF:=⟨_,_,_,rfl,.inr T.halfK,rep_half⟩
theorem dbl_two (T:Tx K mg a) (H:Hp):Dbl K H (.ref a.tw) Sn48.TWO:=⟨_,_,_,rfl,.inr T.twoK,rep_two⟩
def dl (H:Hp) (p:Addr):Hp:=fun b=>if b=p then none else H b
theorem dl_iff {H:Hp} {p b:Addr} {o:HO}:dl H p b=some o↔b≠p∧H b=some o:=by
 unfold dl
 by_cases c:b=p
 ·rw [if_pos c];exact ⟨fun z=>(by cases z),fun z=>absurd c z.1⟩
 ·rw [if_neg c];exact ⟨fun z=>⟨c,z⟩,fun z=>z.2⟩
theorem dl_at {H:Hp} {p:Addr}:dl H p p=none:=if_pos rfl
theorem dl_sub {H:Hp} {p:Addr}:Same (dl H p) H:=fun b o e=>(dl_iff.mp e).2
theorem dl_mono {H H':Hp} {p:Addr} (s:Same H H'):Same (dl H p) (dl H' p):=fun b o e=>dl_iff.mpr ⟨(dl_iff.mp e).1,s b o (dl_iff.mp e).2⟩
theorem dl_sup {G H:Hp} {p:Addr} (s:Same G H) (n:G p=none):Same G (dl H p):=fun b o e=>dl_iff.mpr ⟨nN e n,s b o e⟩
theorem dl_put {H H':Hp} {p:Addr} (h:Off p H H'):Same (dl H p) (dl H' p):=fun b o e=>dl_iff.mpr ⟨(dl_iff.mp e).1,h b o (dl_iff.mp e).1 (dl_iff.mp e).2⟩
theorem vw_grow {G H H1 H2:Hp} (s:Same H1 H2):Same (vw G H H1) (vw G H H2):=fun b o e=>by
 obtain ⟨e1,z⟩:=vw_iff.mp e
 exact vw_iff.mpr ⟨s b o e1,z⟩
theorem vw_off {G H H1 H2:Hp} {p:Addr} (s:Off p H1 H2):Off p (vw G H H1) (vw G H H2):=fun b o hb e=>by
 obtain ⟨e1,z⟩:=vw_iff.mp e
 exact vw_iff.mpr ⟨s b o hb e1,z⟩
abbrev VX (G H:Hp) (x:Addr) (Hc:Hp):Hp:=dl (vw G H Hc) x
abbrev VW (G H:Hp) (x p:Addr) (Hc:Hp):Hp:=dl (VX G H x Hc) p
theorem VX_step {G H Hc H':Hp} {x:Addr} {o:HO} (s0:Same H Hc) (s:Same Hc H') (hx:Hc x=some o) (t:isTup (some o)=false):Same (vw (VX G H x Hc) Hc H') (VX G H x H'):=fun b u e=>by
 obtain ⟨e1,z⟩:=vw_iff.mp e
 have hb:b≠x:=fun q=>by
  subst q
  have e2:=s _ _ hx
  rw [e1] at e2
  cases e2
  rcases z with ⟨u,z⟩ | z | ⟨xs,z⟩
  ·exact (dl_iff.mp z).1 rfl
  ·rw [hx] at z;cases z
  ·subst z;cases t
 refine dl_iff.mpr ⟨hb,vw_iff.mpr ⟨e1,?_⟩⟩
 rcases z with ⟨u,z⟩ | z | z
 ·have q:=vw_iff.mp (dl_iff.mp z).2
  have:=s _ _ q.1
  rw [e1] at this
  cases this
  exact q.2
 ·exact .inr (.inl (s0.free z))
 ·exact .inr (.inr z)
theorem VW_step {G H Hc H':Hp} {x p:Addr} {o q:HO} (s0:Same H Hc) (s:Same Hc H') (hx:Hc x=some o) (t:isTup (some o)=false) (hp:Hc p=some q) (tq:isTup (some q)=false):Same (vw (VW G H x p Hc) Hc H') (VW G H x p H'):=fun b u e=>by
 have e':=vw_mono (dl_sub (p:=p)) b u e
 have e1:=VX_step s0 s hx t b u e'
 refine dl_iff.mpr ⟨fun z=>?_,e1⟩
 subst z
 obtain ⟨e2,z⟩:=vw_iff.mp e
 have e3:=s _ _ hp
 rw [e2] at e3
 cases e3
 rcases z with ⟨u,z⟩ | z | ⟨xs,z⟩
 ·exact (dl_iff.mp z).1 rfl
 ·rw [hp] at z;cases z
 ·subst z;cases tq
section
open Sn48
variable {bs:List Body} {n:Nat} {c:Sn48.P} {h q side:Nat} {l:List Nat} {cells:List Cell} {r:Nat × Sn48.P}
theorem gr_noq (hl:2≤l.length) (e:mul h HALF=none):grown bs (n + 1) c h l=none:=by rw [Fl.grown_split _ _ _ _ hl,e];rfl
theorem gr_nocells (hl:2≤l.length) (e:mul h HALF=some q) (e2:(List.range 8).mapM (Fl.sub8 bs n c q l)=none):grown bs (n + 1) c h l=none:=by
 rw [Fl.grown_split _ _ _ _ hl,e,Option.bind_some,e2]
 cases mul h TWO <;> rfl
theorem gr_noside (hl:2≤l.length) (e:mul h HALF=some q) (e2:mul h TWO=none):grown bs (n + 1) c h l=none:=by
 rw [Fl.grown_split _ _ _ _ hl,e,Option.bind_some,e2]
 rfl
theorem gr_all (hl:2≤l.length) (e:mul h HALF=some q) (e2:mul h TWO=some side) (e3:(List.range 8).mapM (Fl.sub8 bs n c q l)=some cells):grown bs (n + 1) c h l=(summed (((cells.filter Fl.ne).map (Fl.wholeL bs)).flatten)).map fun s=>.split side s.1 s.2 l cells:=by
 rw [Fl.grown_split _ _ _ _ hl,e,Option.bind_some,e2,Option.bind_some,e3,Option.bind_some,Fl.whole_all,Option.bind_some,Fl.flat_ne]
theorem shift_list (f:Nat→Nat→Option Nat) (c:Sn48.P) (q:Nat):(∀ cs,[c.x,c.y,c.z].mapM (fun b=>f b q)=some cs→∃ p:Sn48.P,cs=[p.x,p.y,p.z]∧Fl.shiftP f c q=some p)∧([c.x,c.y,c.z].mapM (fun b=>f b q)=none→Fl.shiftP f c q=none):=by
 unfold Fl.shiftP
 rw [Fl.both_eq,Fl.mapM_cons,Fl.mapM_cons,Fl.mapM_cons,Fl.mapM_nil]
 dsimp only
 cases f c.x q with
 | none=>exact ⟨fun cs z=>(by cases z),fun _=>rfl⟩
 | some x =>
  cases f c.y q with
  | none=>exact ⟨fun cs z=>(by cases z),fun _=>rfl⟩
  | some y =>
   cases f c.z q with
   | none=>exact ⟨fun cs z=>(by cases z),fun _=>rfl⟩
   | some z=>exact ⟨fun cs e=>(by cases e;exact ⟨⟨x,y,z⟩,rfl,rfl⟩),fun e=>(by cases e)⟩
end
theorem mem_merge (k:Key):∀ (more acc:List (Key × V)),(valV (mergeK acc more) k).isSome=((valV acc k).isSome || more.any fun kv=>decide (kv.1=k))
 | [],acc=>by unfold mergeK;simp
 | kv::more,acc=>by
  have e:mergeK acc (kv::more)=mergeK (putK acc kv.1 kv.2) more:=rfl
  rw [e,mem_merge k more,valV_put,List.any_cons]
  by_cases c:k=kv.1
  ·rw [if_pos c,decide_eq_true c.symm];simp
  ·rw [if_neg c,decide_eq_false (fun z=>c z.symm)];simp
theorem mem_keys (l:List Nat) (i:Nat):(valV (mergeK [] (l.map fun (j:Nat)=>((Sum.inl (j:Int):Key),V.bl true))) (Sum.inl (i:Int):Key)).isSome=l.contains i:=by
 rw [mem_merge]
 show (false || _)=_
 rw [Bool.false_or,List.any_map]
 induction l with
 | nil=>rfl
 | cons j l ih =>
  rw [List.any_cons,ih,List.contains_cons]
  congr 1
  show decide ((Sum.inl (j:Int):Key)=Sum.inl (i:Int))=(i == j)
  by_cases c:i=j
  ·subst c
   rw [decide_eq_true rfl]
   simp
  ·rw [decide_eq_false (fun z=>c (by have:=Sum.inl.inj z;lia))]
   exact (beq_false_of_ne c).symm
def RT:V→Hp→Nat→Prop:=fun v H i=>∃ p,v=.ref p∧H p=some (.tup [.int (i:Nat),.bl true])
theorem mRT:Mono RT:=fun _ _ _ _ s ⟨p,e,h⟩=>⟨p,e,s _ _ h⟩
def pZ_3r (K:PySem.W.Frag) (a:Ad) (n:Nat):Sp:=fun vs H Q E=>∃ wv pv bv mv hv lev bs l c h G,vs=[wv,pv,bv,mv,hv,.int lev]∧lev + (n:Int)=20∧Same G H∧LstOf (RD K) wv G (bs.map (·.m))∧LstOf (RV K) pv G (bs.map (·.at_))∧RIL bv G l∧l≠[]∧(∀ i∈l,i < bs.length)∧bs.length≤4096∧l.length≤4096∧Vec K G mv c∧Dbl K G hv h∧(∀ b∈bs,Fl.BodyOk b) ∧
 RsG (RC K a) a.exc (Sn48.grown bs n c h l) G H Q E
section
variable {G H Hc H':Hp} {x p:Addr}
theorem VW_g (s:Same Hc H'):Same (VW G H x p Hc) (VW G H x p H'):=dl_mono (dl_mono (vw_grow s))
theorem VX_g (s:Same Hc H'):Same (VX G H x Hc) (VX G H x H'):=dl_mono (vw_grow s)
theorem VW_sub:Same (VW G H x p Hc) Hc:=dl_sub.trans (dl_sub.trans vw_sub)
theorem VX_sub:Same (VX G H x Hc) Hc:=dl_sub.trans vw_sub
theorem VW_sup (g:Same G H) (s:Same H Hc) (gx:G x=none) (gp:G p=none):Same G (VW G H x p Hc):=dl_sup (dl_sup (vw_sup g s) gx) gp
theorem VX_sup (g:Same G H) (s:Same H Hc) (gx:G x=none):Same G (VX G H x Hc):=dl_sup (vw_sup g s) gx
theorem VW_put (s:Off p Hc H'):Same (VW G H x p Hc) (VW G H x p H'):=fun b o e=>by
 obtain ⟨h1,h2⟩:=dl_iff.mp e
 obtain ⟨h3,h4⟩:=dl_iff.mp h2
 exact dl_iff.mpr ⟨h1,dl_iff.mpr ⟨h3,vw_off s b o h1 h4⟩⟩
theorem VX_put (s:Off x Hc H'):Same (VX G H x Hc) (VX G H x H'):=dl_put (vw_off s)
theorem VX_new {b:Addr} {o:HO} (e:Hc b=some o) (n:H b=none) (hb:b≠x):VX G H x Hc b=some o:=dl_iff.mpr ⟨hb,vw_new e n⟩
theorem VX_end (s:Off x Hc H'):Same (VX G H x Hc) (vw G H H'):=fun b o e=>by
 obtain ⟨h1,h2⟩:=dl_iff.mp e
 exact vw_off s b o h1 h2
end
theorem sub8_none {bs:List Sn48.Body} {n:Nat} {c:Sn48.P} {q:Nat} {l:List Nat} {k:Nat} (hk:k < 8) (h:Fl.sub8 bs n c q l k=none):(List.range 8).mapM (Fl.sub8 bs n c q l)=none:=Fl.mapM_none (List.mem_range.mpr hk) h
theorem sub8_mid {bs:List Sn48.Body} {n:Nat} {c:Sn48.P} {q:Nat} {l:List Nat} {k:Nat} (h:Sn48.middle c q k=none):Fl.sub8 bs n c q l k=none:=by
 unfold Fl.sub8
 rw [h]
 rfl
theorem sub8_sel {bs:List Sn48.Body} {n:Nat} {c less more:Sn48.P} {q:Nat} {l:List Nat} {k:Nat} (h1:Fl.shiftP Sn48.sub c q=some less) (h2:Fl.shiftP Sn48.add c q=some more):Fl.sub8 bs n c q l k=Sn48.grown bs n (Fl.sel k less more) q (inPart bs c l k):=by
 unfold Fl.sub8
 rw [Fl.middle_sel h1 h2,Option.bind_some]
theorem grown_ne {bs:List Sn48.Body} {n:Nat} {c:Sn48.P} {h:Nat} {l:List Nat} {t:Sn48.Cell} (hl:l≠[]) (e:Sn48.grown bs n c h l=some t):Fl.ne t=true:=by
 rcases Fl.length_cases l with z | ⟨i,z⟩ | z
 ·exact absurd z hl
 ·rw [z,Fl.grown_one] at e
  cases e
  rfl
 ·cases n with
  | zero=>rw [Fl.grown_zero _ _ _ z] at e;cases e;rfl
  | succ n =>
   obtain ⟨_,_,_,_,_,_,_,_,_,_,rfl⟩:=Fl.grown_split_some z e
   rfl
theorem dl_dbl {G H Hc:Hp} {x p:Addr} {v:V} {b:Nat} {o q:HO} (d:Dbl K Hc v b) (hx:Hc x=some o) (t:isTup (some o)=false) (hp:Hc p=some q) (tq:isTup (some q)=false):Dbl K (VW G H x p Hc) v b:=by
 obtain ⟨z,m,e,rfl,h,r⟩:=d
 refine ⟨z,m,e,rfl,h.elim (fun h=>.inl (dl_iff.mpr ⟨fun y=>?_,dl_iff.mpr ⟨fun y=>?_,vw_tup h⟩⟩)) .inr,r⟩
 ·subst y;rw [hp] at h;cases h;cases tq
 ·subst y;rw [hx] at h;cases h;cases t
theorem flat_bound {α β:Type} {f:α→List β} {B:Nat}:∀ {cs:List α},(∀ c∈cs,(f c).length≤B)→(cs.map f).flatten.length≤cs.length * B
 | [],_=>Nat.zero_le _
 | c::cs,h=>by
  rw [List.map_cons,List.flatten_cons,List.length_append,List.length_cons,Nat.add_mul,Nat.one_mul]
  have:=h c List.mem_cons_self
  have:=flat_bound (cs:=cs) fun c hc=>h c (List.mem_cons_of_mem _ hc)
  lia
theorem whole_len {bs:List Sn48.Body} {n:Nat} {c:Sn48.P} {h:Nat} {l:List Nat} {t:Sn48.Cell} (hl:l.length≤4096) (e:Sn48.grown bs n c h l=some t):(Fl.wholeL bs t).length≤4096:=by
 rcases Fl.length_cases l with z | ⟨i,z⟩ | z
 ·rw [z,Fl.grown_nil] at e
  cases e
  exact Nat.zero_le _
 ·rw [z,Fl.grown_one] at e
  cases e
  show 1≤4096
  decide
 ·cases n with
  | zero =>
   rw [Fl.grown_zero _ _ _ z] at e
   cases e
   unfold Fl.wholeL
   rw [List.length_map]
   exact hl
  | succ n =>
   obtain ⟨_,_,_,_,_,_,_,_,_,_,rfl⟩:=Fl.grown_split_some z e
   show 1≤4096
   decide
theorem dict_pairs {H:Hp}:∀ {zs:List V} {l:List Nat},Paired (fun v i=>RT v H i) zs l→∃ ps:List Addr,zs=ps.map V.ref∧Paired (fun p kv=>SqT K H p [kV kv.1,kv.2]) ps (l.map fun (j:Nat)=>((Sum.inl (j:Int):Key),V.bl true))
 | _,_,.nil=>⟨[],rfl,.nil⟩
 | _,_,.cons ⟨p,e,h⟩ r=>by
  obtain ⟨ps,q1,q2⟩:=dict_pairs r
  exact ⟨p::ps,by rw [e,q1];rfl,.cons (SqT.of h) q2⟩
theorem whole_ne {bs:List Sn48.Body} {n:Nat} {c:Sn48.P} {h:Nat} {l:List Nat} {t:Sn48.Cell} (hl:l≠[]) (e:Sn48.grown bs n c h l=some t):Fl.wholeL bs t≠[]:=by
 have some':Fl.wholeL bs (.some_ l)≠[]:=fun z=>hl (List.map_eq_nil_iff.mp z)
 rcases Fl.length_cases l with z | ⟨i,z⟩ | z
 ·exact absurd z hl
 ·subst z
  rw [Fl.grown_one] at e
  cases e
  exact some'
 ·cases n with
  | zero =>
   rw [Fl.grown_zero _ _ _ z] at e
   cases e
   exact some'
  | succ n =>
   obtain ⟨_,_,_,_,_,_,_,_,_,_,rfl⟩:=Fl.grown_split_some z e
   exact fun y=>by cases y
abbrev tZ59:Stmt:=top 41
theorem cZ2e:FnScope ["weights","places","bodies","middle","half","level","cell","quarter","less","more","part","inside","number","its_middle","body"] ["weights","places","bodies","middle","half","level"] (defScope tZ59):=by walk_at "sc"
theorem blk_cell_of_1:BlkOk ["weights","places","bodies","middle","half","level","cell","quarter","less","more","part","inside","number","its_middle","body"] (defScope tZ59) ((scs 9 (defBody tZ59)).getD 0 default) [("number",12)]:=blkOk_by (by decide +kernel)
theorem blk_cell_of_2:BlkOk ["weights","places","bodies","middle","half","level","cell","quarter","less","more","part","inside","number","its_middle","body"] (defScope tZ59) ((scs 9 (defBody tZ59)).getD 1 default) [("number",12)]:=blkOk_by (by decide +kernel)
theorem blk_cell_of_3:BlkOk ["weights","places","bodies","middle","half","level","cell","quarter","less","more","part","inside","number","its_middle","body"] (defScope tZ59) ((scs 9 (defBody tZ59)).getD 2 default) [("body",14)]:=blkOk_by (by decide +kernel)
theorem kZ0q (T:Tx K mg a) (F:Df K mg "cell_of" tZ59 ["weights","places","bodies","middle","half","level"]) (R:Ar P w K mg base a) (S:Tc K mg a) (B_Cell:Cm P w K mg base a.cCell "__init__" "Cell.__init__" tZ4j ["self","bodies"] 1 (pZ_3c K a)) (B_bodies_by_part:Cb P w K mg base "bodies_by_part" tZ58 ["places","bodies","middle"] 3 (pZ_3m K a.exc)) (B_middle_of_part:Cb P w K mg base "middle_of_part" tZ5n ["part","less","more"] 1 (pZ_41 K a.exc)) (B_weigh:Cb P w K mg base "weigh" tZ64 ["cell","weights","places"] 4 (pZ_4h K a)) {n j:Nat} {sp':Sp} (hj:5≤j) (B_cell_of:Cb P w K mg base "cell_of" tZ59 ["weights","places","bodies","middle","half","level"] j sp') (hsub:∀ m,n=m + 1→sp'=pZ_3r K a m):Cb P w K mg base "cell_of" tZ59 ["weights","places","bodies","middle","half","level"] (j + 1) (pZ_3r K a n):=by
 refine .mk F cZ2e (fun vs H Q E h=>?_) (fun f cdv A outer s H vs Q E hr h th=>?_)
 ·obtain ⟨_,_,_,_,_,_,_,_,_,_,_,rfl,_⟩:=h
  rfl
 ·obtain ⟨_,_,_,mv,hv,lev,bs,l,c,h,G,rfl,hlev,g,⟨wa,wxs,rfl,hw,wr⟩,⟨pa,pxs,rfl,hp,pr⟩,⟨ba,rfl,hb⟩,hl0,hli,hnb,hnl,vm,dh,bok,k⟩:=h
  refine ⟨_,(pZ (ps_set (i:=6) cZ2e.nd rfl (Or.inl rfl) (pmk B_Cell S.cCell hr th (pY (pv 2) pN) (hk:=by lia)))
   (pZ (ps_if (PW.pt (pw_or (pt_cmpR op_eq (plen T.len (pv 2)) pI (nomark _)) (pw_or1 (pt_cmpR op_eq (pv 5) (pe_gl T.deep) (nomark _))))) (pO (ps_ret (pv 6))) pss_nil)
   (pZ (ps_set (i:=7) cZ2e.nd rfl (Or.inr rfl) (pb R.times hr th (pY (pv 4) (pY (pe_gl T.half) pN)) (hk:=by lia)))
   (pZ (ps_setLcX (i:=8) th rfl rfl rfl cZ2e.nd rfl rfl (sw_true rfl rfl rfl rfl) (pi_list (pv 3)) blk_cell_of_1 (fun _ _ _ _ _ _ _=>(pg_name (i:=12) cZ2e.nd rfl (Or.inl rfl))) (fun _ _ _ _ _ _ _ thb=>pts_nil) (fun _ _ _ _ _ _ _ thb=>(pb R.minus hr thb (pY (pv 12) (pY (pv 7) pN)) (hk:=by lia))))
   (pZ (ps_setLcX (i:=9) th rfl rfl rfl cZ2e.nd rfl rfl (sw_true rfl rfl rfl rfl) (pi_list (pv 3)) blk_cell_of_2 (fun _ _ _ _ _ _ _=>(pg_name (i:=12) cZ2e.nd rfl (Or.inl rfl))) (fun _ _ _ _ _ _ _ thb=>pts_nil) (fun _ _ _ _ _ _ _ thb=>(pb R.plus hr thb (pY (pv 12) (pY (pv 7) pN)) (hk:=by lia))))
   (pZ (ps_for th.own rfl (pi_enum rfl T.enum (pY (pb B_bodies_by_part hr th (pY (pv 1) (pY (pv 2) (pY (pv 3) pN))) (hk:=by lia)) pN)) (pgt K (n:=2) rfl (pgs_cons (pg_name (i:=10) cZ2e.nd rfl (Or.inl rfl)) (pgs_cons (pg_name (i:=11) cZ2e.nd rfl (Or.inl rfl)) pgs_nil))) (pO (ps_if (pt_truth (pv 11) (fun _=>rfl)) (pZ (ps_set (i:=13) cZ2e.nd rfl (Or.inl rfl) (pb B_middle_of_part hr th (pY (pv 10) (pY (pv 8) (pY (pv 9) pN))) (hk:=by lia)))
     (pO (ps_expr (papp (pfK K (pv 6)) (pY (pb B_cell_of hr th (pY (pv 0) (pY (pv 1) (pY (pv 11) (pY (pv 13) (pY (pv 7) (pY (pe_op op_add (pv 5) pI) pN)))))) (hk:=by lia)) pN))))) pss_nil)))
   (pZ (ps_fld (pv 6) (pe_lst pN) rfl)
   (pZ (ps_fld (pv 6) (pe_callTy (call_dictP rfl) rfl T.dict PyProof.Rows.boot_dict (pY (pe_lcX th rfl rfl rfl cZ2e.nd (pi_list (pv 2)) blk_cell_of_3 (fun _ _ _ _ _ _ _=>(pg_name (i:=14) cZ2e.nd rfl (Or.inl rfl))) (fun _ _ _ _ _ _ _ thb=>pts_nil) (fun _ _ _ _ _ _ _ thb=>(pe_tup (pY (pv 14) (pY pe_bl pN))))) pN)) rfl)
   (pZ (ps_fld (pv 6) (pb R.times hr th (pY (pv 4) (pY (pe_gl T.two) pN)) (hk:=by lia)) rfl)
   (pZ (ps_expr (pb B_weigh hr th (pY (pv 6) (pY (pv 0) (pY (pv 1) pN))) (hk:=by lia)))
   (pO (ps_ret (pv 6))))))))))))),?_⟩
  walk_at "rd"
  intro x dx hx0 hdx0 hdx
  refine ⟨x,dx,.ref ba,rfl,uS,fun pl H1 hpl off1 hpl1 hx1=>⟨rfl,?_⟩⟩
  have plx:pl≠x:=fun e=>by rw [e,uS] at hpl;cases hpl
  have pld:pl≠dx:=fun e=>by rw [e,uN hdx,uS] at hpl;cases hpl
  have hpl0:H pl=none:=by rw [uN plx,uN pld] at hpl;exact hpl
  have sH1:Same H H1:=fun b o e=>off1 b o (nN e hx0) (by rw [uN (nN e hx0),uN (nN e hdx0)];exact e)
  have gx:G x=none:=g.free hx0
  have gpl:G pl=none:=g.free hpl0
  have gH1:=g.trans sH1
  refine ⟨_,.inl (SqL.of (gH1 _ _ hb)),?_⟩
  have single:Sn48.grown bs n c h l=some (.some_ l)→Q (.ref x) H1:=fun e=>by
   rw [e] at k
   exact k.ret sH1 (.some_ hl0 (vw_new hx1 hx0) (vw_sup g sH1 _ _ hb))
  rw [List.length_map]
  by_cases c1:l.length=1
  ·rw [if_pos (by lia)]
   refine single ?_
   obtain ⟨i,rfl⟩:∃ i,l=[i]:=List.length_eq_one_iff.mp c1
   exact Fl.grown_one _ _ _ _ _
  ·rw [if_neg (by lia)]
   have l2:2≤l.length:=by
    have:l.length≠0:=fun z=>hl0 (List.eq_nil_of_length_eq_zero z)
    lia
   by_cases c2:lev=20
   ·rw [if_pos c2]
    have:n=0:=by lia
    subst this
    exact single (Fl.grown_zero _ _ _ l2)
   ·rw [if_neg c2]
    obtain ⟨m,rfl⟩:∃ m,n=m + 1:=⟨n - 1,by lia⟩
    have hsp:=hsub m rfl
    subst hsp
    have kn:∀ H',Same H H'→Sn48.grown bs (m + 1) c h l=none→E (.ref a.exc) none H':=fun H' s' e=>k.2 e H' s'
    refine ⟨hv,.ref a.hf,h,Sn48.HALF,rfl,dh.same gH1,dbl_half T H1,⟨fun q eq qv H2 s2 dq=>?_,fun eq H2 s2=>kn H2 (sH1.trans s2) (gr_noq l2 eq)⟩⟩
    obtain ⟨mq,mx,my,mz,rfl,hm,dmx,dmy,dmz⟩:=vm
    have pm:Paired (fun v b=>Dbl K G v b) [mx,my,mz] [c.x,c.y,c.z]:=.cons dmx (.cons dmy (.cons dmz .nil))
    have sH2:=sH1.trans s2
    have x2:=s2 _ _ hx1
    have p2:=s2 _ _ hpl1
    refine tLc_items (K:=K) (G:=VW G H x pl H2) (C:=a.exc) (E:=E) (ys:=[c.x,c.y,c.z]) (f:=fun b=>Sn48.sub b q) (R:=RD K) (fun F hF=>⟨_,rfl,hF⟩) mRD (SqL.of ((g.trans sH2) _ _ hm)) (by show 3≤sizeLine;decide) rfl VW_sub (fun _=>rfl) ⟨fun cs ecs lv H3 s3 rl=>?_,fun e H3 s3=>kn H3 (sH2.trans s3) (gr_nocells l2 eq (sub8_none (k:=0) (by decide) (sub8_mid (Fl.middle_less ((shift_list Sn48.sub c q).2 e)))))⟩ ?_
    rotate_left
    ·intro i v b H' Q' hv' hb' s' G' g1 g2 k'
     obtain ⟨b',hb'',d⟩:=Paired.at' pm hv'
     rw [hb'] at hb''
     cases hb''
     exact ⟨_,rfl,_,rfl,v,qv,b,q,rfl,d.same ((g.trans sH2).trans s'),dq.same s',RsD k'⟩
    obtain ⟨less,rfl,eless⟩:=(shift_list Sn48.sub c q).1 cs ecs
    have sH3:=sH2.trans s3
    have x3:=s3 _ _ x2
    have p3:=s3 _ _ p2
    have vl3:Vec K (VW G H x pl H3) lv less:=vec_of (LstOf.mono mRD _ _ _ _ (VW_step sH2 s3 x2 rfl p2 rfl) rl)
    refine tLc_items (K:=K) (G:=VW G H x pl H3) (C:=a.exc) (E:=E) (ys:=[c.x,c.y,c.z]) (f:=fun b=>Sn48.add b q) (R:=RD K) (fun F hF=>⟨_,rfl,hF⟩) mRD (SqL.of ((g.trans sH3) _ _ hm)) (by show 3≤sizeLine;decide) rfl VW_sub (fun _=>rfl) ⟨fun cs ecs mv H4 s4 rm=>?_,fun e H4 s4=>kn H4 (sH3.trans s4) (gr_nocells l2 eq (sub8_none (k:=7) (by decide) (sub8_mid (Fl.middle_more ((shift_list Sn48.add c q).2 e)))))⟩ ?_
    rotate_left
    ·intro i v b H' Q' hv' hb' s' G' g1 g2 k'
     obtain ⟨b',hb'',d⟩:=Paired.at' pm hv'
     rw [hb'] at hb''
     cases hb''
     exact ⟨_,rfl,_,rfl,v,qv,b,q,rfl,d.same ((g.trans sH3).trans s'),(dq.same s3).same s',RsD k'⟩
    obtain ⟨more,rfl,emore⟩:=(shift_list Sn48.add c q).1 cs ecs
    have sH4:=sH3.trans s4
    have x4:=s4 _ _ x3
    have p4:=s4 _ _ p3
    have vm4:Vec K (VW G H x pl H4) mv more:=vec_of (LstOf.mono mRD _ _ _ _ (VW_step sH3 s4 x3 rfl p3 rfl) rm)
    have vl4:=vl3.same (VW_g s4)
    refine ⟨_,rfl,_,rfl,_,rfl,?_⟩
    refine ⟨.ref pa,.ref ba,.ref mq,bs,l,c,VW G H x pl H4,rfl,⟨pa,pxs,rfl,(g.trans sH4) _ _ hp,Paired.imp' (fun _ _ d=>Vec.same d (g.trans sH4)) pr⟩,⟨ba,rfl,(g.trans sH4) _ _ hb⟩,hli,hnl,⟨mq,mx,my,mz,rfl,(g.trans sH4) _ _ hm,dmx.same (g.trans sH4),dmy.same (g.trans sH4),dmz.same (g.trans sH4)⟩,RsG.pur fun v H5 s5 r5=>?_⟩
    obtain ⟨p8,rs8,rfl,h8,q8⟩:=LstOf.mono mRIL _ _ _ _ (VW_step sH4 s5 x4 rfl p4 rfl) r5
    have l8:rs8.length=8:=by rw [Paired.len q8];simp
    have sH5:=sH4.trans s5
    have x5:=s5 _ _ x4
    have p5:=s5 _ _ p4
    have dq5:=(((dq.same s3).same s4).same s5)
    let Iv:Nat→St→Hp→Prop:=fun j σ Hc=>Same H Hc∧Hc x=some (.ins a.cCell dx (cf (.ref ba) (.ref pl) .non .non .non .non))∧Same (VW G H x pl H5) (VW G H x pl Hc)∧Dbl K Hc qv q ∧
     (∃ y10 y11 y12 y13 y14,σ=[some (.ref wa),some (.ref pa),some (.ref ba),some (.ref mq),some hv,some (.int lev),some (.ref x),some qv,some lv,some mv,y10,y11,y12,y13,y14]) ∧
     ∃ us cells,Hc pl=some (.lst us)∧(List.range j).mapM (Fl.sub8 bs m c q l)=some cells∧CellsAt K a (VW G H x pl Hc) us (cells.filter Fl.ne)∧us.length≤j
    have vl5:=vl4.same (VW_g s5)
    have vm5:=vm4.same (VW_g s5)
    refine enum_loop (xs:=rs8) Iv ⟨sH5,x5,Same.refl _,dq5,⟨_,_,_,_,_,rfl⟩,[],[],p5,rfl,.nil,Nat.zero_le _⟩ (fun j σ Hc hh=>SqL.of (VW_sub _ _ (hh.2.2.1 _ _ h8))) ?_ ?_
    ·rintro i rv σ Hc T hrv ⟨sc,xc,vc,dc,⟨y10,y11,y12,y13,y14,rfl⟩,us,cells,pc,ec,cc,ulen⟩ hT
     have hi8:i < 8:=by rw [← l8];exact (List.getElem?_eq_some_iff.mp hrv).1
     obtain ⟨li,hli8,r0,rfl,hr0⟩:=Paired.at' q8 hrv
     have eli:li=inPart bs c l i:=by
      rw [List.getElem?_map,List.getElem?_range hi8] at hli8
      cases hli8
      rfl
     subst eli
     have sT:Same Hc (upd Hc T (.tup [.int (i:Nat),.ref r0])):=Same.new hT
     generalize hHT:upd Hc T (.tup [.int (i:Nat),.ref r0])=HT at *
     have hTT:HT T=some (.tup [.int (i:Nat),.ref r0]):=by rw [← hHT];exact uS
     have vT:Same (VW G H x pl H5) (VW G H x pl HT):=vc.trans (VW_g sT)
     have ss:=sub8_sel (bs:=bs) (n:=m) (l:=l) (k:=i) eless emore
     refine ⟨T,_,rfl,SqT.of hTT,rfl,_,_,rfl,_,_,rfl,rfl,?_⟩
     have hrT:=VW_sub _ _ (vT _ _ hr0)
     by_cases ce:inPart bs c l i=[]
     ·refine ⟨_,rfl,false,.inl ⟨_,SqL.of hrT,by rw [ce];rfl⟩,?_⟩
      refine ite2 (fun z=>absurd z (by decide)) (fun _=>?_)
      refine ⟨sc.trans sT,sT _ _ xc,vT,dc.same sT,⟨_,_,_,_,_,rfl⟩,us,cells++[.none_],sT _ _ pc,?_,?_,by lia⟩
      ·rw [range_succ' _ ec,ss,ce,Fl.grown_nil];rfl
      ·rw [List.filter_append]
       show CellsAt K a _ us (cells.filter Fl.ne++[])
       rw [List.append_nil]
       exact cc.same (VW_g sT)
     ·refine ⟨_,rfl,true,.inl ⟨_,SqL.of hrT,?_⟩,?_⟩
      ·cases hz:inPart bs c l i with
       | nil=>exact absurd hz ce
       | cons _ _=>rfl
      refine ite2 (fun _=>?_) (fun z=>absurd rfl z)
      have hV:Same (VW G H x pl H5) HT:=vT.trans VW_sub
      refine ⟨_,rfl,_,rfl,_,rfl,i,lv,mv,less,more,VW G H x pl HT,rfl,hi8,vl5.same hV,vm5.same hV,RsG.pur fun v6 H6 s6 r6=>?_⟩
      have sT6:=sc.trans (sT.trans s6)
      have x6:=s6 _ _ (sT _ _ xc)
      have p6:=s6 _ _ (sT _ _ pc)
      have v6V:Vec K (VW G H x pl H6) v6 (Fl.sel i less more):=Vec.same r6 (VW_step (sc.trans sT) s6 (sT _ _ xc) rfl (sT _ _ pc) rfl)
      have vc6:Same (VW G H x pl H5) (VW G H x pl H6):=vT.trans (VW_g s6)
      have g6:Same G (VW G H x pl H6):=VW_sup g sT6 gx gpl
      refine ⟨_,rfl,x,_,_,_,_,rfl,x6,S.cCell.cls,S.c_parts,rfl,.inl ⟨rfl,_,SqL.of p6⟩,_,rfl,_,rfl,_,rfl,_,rfl,_,rfl,_,rfl,_,_,rfl,rfl,?_⟩
      refine ⟨.ref wa,.ref pa,.ref r0,v6,qv,lev + 1,bs,inPart bs c l i,Fl.sel i less more,q,VW G H x pl H6,rfl,by lia,VW_sub,⟨wa,wxs,rfl,g6 _ _ hw,Paired.imp' (fun _ _ d=>Dbl.same d g6) wr⟩,⟨pa,pxs,rfl,g6 _ _ hp,Paired.imp' (fun _ _ d=>Vec.same d g6) pr⟩,⟨r0,rfl,vc6 _ _ hr0⟩,ce,fun j hj=>hli j (List.mem_filter.mp hj).1,hnb,?_,v6V,?_,bok,⟨fun t et v7 H7 s7 r7=>?_,fun et H7 s7=>kn H7 (sT6.trans s7) (gr_nocells l2 eq (sub8_none hi8 (ss.trans et)))⟩⟩
      ·exact Nat.le_trans (List.length_filter_le _ _) hnl
      ·exact dl_dbl (((dc.same sT).same s6)) x6 rfl p6 rfl
      ·have x7:=s7 _ _ x6
       have p7:=s7 _ _ p6
       have c7:CellAt K a (VW G H x pl H7) v7 t:=CellAt.same (VW_step sT6 s7 x6 rfl p6 rfl) r7
       have sc7:Same Hc H7:=(sT.trans s6).trans s7
       refine ⟨pl,us,v7,rfl,rfl,p7,by rw [sizeLine_eq];lia,?_⟩
       have oP:Off pl H7 (upd H7 pl (.lst (us++[v7]))):=Off.put _ _ _
       refine ⟨(sT6.trans s7).upd hpl0,by rw [uN (Ne.symm plx)];exact x7,(vc6.trans (VW_g s7)).trans (VW_put oP),(dc.same sc7).off p7 rfl oP,⟨_,_,_,_,_,rfl⟩,us++[v7],cells++[t],uS,?_,?_,by rw [List.length_append];show us.length + 1≤_;lia⟩
       ·rw [range_succ' _ ec,ss,et];rfl
       ·rw [List.filter_append,List.filter_cons_of_pos (grown_ne ce et),List.filter_nil]
        exact CellsAt.snoc (c7.same (VW_put oP)) ((cc.same (VW_g sc7)).same (VW_put oP))
    ·rintro σ Hc ⟨sc,xc,vc,dc,⟨y10,y11,y12,y13,y14,rfl⟩,us,cells,pc,ec,cc,ulen⟩
     rw [l8] at ec
     have cx:CellsAt K a (VX G H x Hc) us (cells.filter Fl.ne):=cc.same dl_sub
     refine ⟨Nat.zero_le _,fun sp hsp=>⟨_,rfl,x,_,dx,_,rfl,(uN (nN xc hsp)).trans xc,S.cCell.cls,S.c_singles,(by show 6 < 1000;decide),?_⟩⟩
     have xsp:x≠sp:=nN xc hsp
     have hsp0:H sp=none:=sc.free hsp
     have psp:pl≠sp:=nN pc hsp
     have oA:Off x (upd Hc sp (.lst [])) (upd (upd Hc sp (.lst [])) x (.ins a.cCell dx (cf (.ref sp) (.ref pl) .non .non .non .non))):=Off.put _ _ _
     have nA:Same Hc (upd Hc sp (.lst [])):=Same.new hsp
     have sA:Same H (upd (upd Hc sp (.lst [])) x (.ins a.cCell dx (cf (.ref sp) (.ref pl) .non .non .non .non))):=(sc.trans nA).upd hx0
     have vA:Same (VX G H x Hc) (VX G H x (upd (upd Hc sp (.lst [])) x (.ins a.cCell dx (cf (.ref sp) (.ref pl) .non .non .non .non)))):=(VX_g nA).trans (VX_put oA)
     have pA:(upd (upd Hc sp (.lst [])) x (.ins a.cCell dx (cf (.ref sp) (.ref pl) .non .non .non .non))) pl=some (.lst us):=by rw [uN plx,uN psp];exact pc
     have spA:(upd (upd Hc sp (.lst [])) x (.ins a.cCell dx (cf (.ref sp) (.ref pl) .non .non .non .non))) sp=some (.lst []):=by rw [uN (Ne.symm xsp),uS]
     have xA:(upd (upd Hc sp (.lst [])) x (.ins a.cCell dx (cf (.ref sp) (.ref pl) .non .non .non .non))) x=some (.ins a.cCell dx (cf (.ref sp) (.ref pl) .non .non .non .non)):=uS
     have eS:putF (Str.ofString "singles") (V.ref sp) (cf (.ref ba) (.ref pl) .non .non .non .non)=cf (.ref sp) (.ref pl) .non .non .non .non:=rfl
     rw [eS]
     generalize upd (upd Hc sp (.lst [])) x (.ins a.cCell dx (cf (.ref sp) (.ref pl) .non .non .non .non))=HA at *
     simp only [L2.tSeq,L2.sFld,L2.tCB,L2.tCons]
     refine tLc_items (K:=K) (G:=VX G H x HA) (C:=a.exc) (E:=E) (ys:=l) (f:=fun j=>some j) (R:=RT) (fun F hF=>⟨_,rfl,hF⟩) mRT (SqL.of ((g.trans sA) _ _ hb)) (by rw [List.length_map,sizeLine_eq];lia) (by rw [List.length_map]) VX_sub (fun _=>rfl) ?_ ?_
     rotate_left
     ·intro i v j H' Q' hv' hj' s' G' g1 g2 k'
      rw [List.getElem?_map,hj'] at hv'
      cases hv'
      refine ⟨_,rfl,(by show 2≤sizeLine;decide),fun p hp'=>?_⟩
      exact k'.ret (Same.new hp') ⟨p,rfl,vw_new uS hp'⟩
     rw [mapM_pure (fun j=>j),List.map_id']
     refine RsG.pur fun v HB sB rB=>?_
     obtain ⟨pd,zs,rfl,hpd,pz⟩:=rB
     obtain ⟨ps,rfl,pkv⟩:=dict_pairs (K:=K) (Paired.imp' (fun _ _ d=>mRT _ _ _ _ vw_sub d) pz)
     refine ⟨pd,rfl,ps,SqL.of (vw_sub _ _ hpd),_,pkv,fun md hmd=>?_⟩
     have xB:=sB _ _ xA
     have xmd:x≠md:=nN xB hmd
     refine ⟨_,rfl,x,_,dx,_,rfl,(uN xmd).trans xB,S.cCell.cls,S.c_members,(by show 6 < 1000;decide),?_⟩
     have sB0:=sA.trans sB
     have hmd0:H md=none:=sB0.free hmd
     have nD:Same HB (upd HB md (.dK (mergeK [] (l.map fun (j:Nat)=>((Sum.inl (j:Int):Key),V.bl true))))):=Same.new hmd
     have oD:Off x (upd HB md (.dK (mergeK [] (l.map fun (j:Nat)=>((Sum.inl (j:Int):Key),V.bl true))))) (upd (upd HB md (.dK (mergeK [] (l.map fun (j:Nat)=>((Sum.inl (j:Int):Key),V.bl true))))) x (.ins a.cCell dx (cf (.ref sp) (.ref pl) (.ref md) .non .non .non))):=Off.put _ _ _
     have xD:(upd (upd HB md (.dK (mergeK [] (l.map fun (j:Nat)=>((Sum.inl (j:Int):Key),V.bl true))))) x (.ins a.cCell dx (cf (.ref sp) (.ref pl) (.ref md) .non .non .non))) x=some (.ins a.cCell dx (cf (.ref sp) (.ref pl) (.ref md) .non .non .non)):=uS
     have mD:(upd (upd HB md (.dK (mergeK [] (l.map fun (j:Nat)=>((Sum.inl (j:Int):Key),V.bl true))))) x (.ins a.cCell dx (cf (.ref sp) (.ref pl) (.ref md) .non .non .non))) md=some (.dK (mergeK [] (l.map fun (j:Nat)=>((Sum.inl (j:Int):Key),V.bl true)))):=by rw [uN (Ne.symm xmd),uS]
     have eM:putF (Str.ofString "members") (V.ref md) (cf (.ref sp) (.ref pl) .non .non .non .non)=cf (.ref sp) (.ref pl) (.ref md) .non .non .non:=rfl
     rw [eM]
     generalize hHD:upd (upd HB md (.dK (mergeK [] (l.map fun (j:Nat)=>((Sum.inl (j:Int):Key),V.bl true))))) x (.ins a.cCell dx (cf (.ref sp) (.ref pl) (.ref md) .non .non .non))=HD at *
     have sD0:Same H HD:=by rw [← hHD];exact (sB0.trans nD).upd hx0
     have offD:Off x HB HD:=fun b o hb' e=>oD b o hb' (nD b o e)
     have vD:Same (VX G H x Hc) (VX G H x HD):=(vA.trans (VX_g sB)).trans (VX_put offD)
     have pD:=offD _ _ plx (sB _ _ pA)
     have spD:=offD _ _ (Ne.symm xsp) (sB _ _ spA)
     have eq0:Dbl K HD hv h:=dh.same (g.trans sD0)
     refine ⟨_,rfl,hv,.ref a.tw,h,Sn48.TWO,rfl,eq0,dbl_two T HD,⟨fun side es sv HE sE dE=>?_,fun es H9 s9=>kn H9 (sD0.trans s9) (gr_noside l2 eq es)⟩⟩
     have xE:=sE _ _ xD
     refine ⟨_,rfl,x,_,dx,_,rfl,xE,S.cCell.cls,S.c_side,(by show 6 < 1000;decide),?_⟩
     have eF:putF (Str.ofString "side") sv (cf (.ref sp) (.ref pl) (.ref md) .non .non .non)=cf (.ref sp) (.ref pl) (.ref md) sv .non .non:=rfl
     rw [eF]
     have oF:Off x HE (upd HE x (.ins a.cCell dx (cf (.ref sp) (.ref pl) (.ref md) sv .non .non))):=Off.put _ _ _
     have xF:(upd HE x (.ins a.cCell dx (cf (.ref sp) (.ref pl) (.ref md) sv .non .non))) x=some (.ins a.cCell dx (cf (.ref sp) (.ref pl) (.ref md) sv .non .non)):=uS
     have sF0:Same H (upd HE x (.ins a.cCell dx (cf (.ref sp) (.ref pl) (.ref md) sv .non .non))):=(sD0.trans sE).upd hx0
     generalize upd HE x (.ins a.cCell dx (cf (.ref sp) (.ref pl) (.ref md) sv .non .non))=HF at *
     have vF:Same (VX G H x Hc) (VX G H x HF):=(vD.trans (VX_g sE)).trans (VX_put oF)
     have plF:=oF _ _ plx (sE _ _ pD)
     have spF:=oF _ _ (Ne.symm xsp) (sE _ _ spD)
     have mdF:=oF _ _ (Ne.symm xmd) (sE _ _ mD)
     have gF:Same G (VX G H x HF):=VX_sup g sF0 gx
     have cF:=cx.same vF
     have lenC:cells.length=8:=by rw [Fl.mapM_length ec,List.length_range]
     have cOf:∀ t∈cells,∃ k,k < 8∧Fl.sub8 bs m c q l k=some t:=fun t ht=>by
      obtain ⟨k,hk,ek⟩:=Fl.mapM_mem ec t ht
      exact ⟨k,List.mem_range.mp hk,ek⟩
     simp only [L2.tSeq,L2.tDrop,L2.tCall,L2.tCons,L2.tNil]
     refine ⟨_,rfl,_,rfl,_,rfl,?_⟩
     refine ⟨x,.ref wa,.ref pa,dx,.ref sp,pl,.ref md,sv,bs,us,cells.filter Fl.ne,VX G H x HF,rfl,VX_sub,dl_at,xF,VX_new plF hpl0 plx,cF,?_,⟨wa,wxs,rfl,gF _ _ hw,Paired.imp' (fun _ _ d=>Dbl.same d gF) wr⟩,⟨pa,pxs,rfl,gF _ _ hp,Paired.imp' (fun _ _ d=>Vec.same d gF) pr⟩,?_,?_,?_,?_⟩
     ·intro t ht
      obtain ⟨k',hk',ek'⟩:=cOf t (List.mem_filter.mp ht).1
      rw [sub8_sel eless emore] at ek'
      exact ⟨m,Fl.grown_ok bok (fun j hj=>hli j (List.mem_filter.mp hj).1) ek'⟩
     ·refine Nat.le_trans (flat_bound (B:=4096) fun t ht=>?_) (Nat.le_trans (Nat.mul_le_mul_right 4096 (Nat.le_trans (List.length_filter_le _ _) (Nat.le_of_eq lenC))) (by decide))
      obtain ⟨k',hk',ek'⟩:=cOf t (List.mem_filter.mp ht).1
      rw [sub8_sel eless emore] at ek'
      exact whole_len (Nat.le_trans (List.length_filter_le _ _) hnl) ek'
     ·intro z
      obtain ⟨i0,hi0⟩:∃ i0,i0∈l:=List.exists_mem_of_ne_nil l hl0
      have hk8:Sn48.part c (bs.getD i0 default).at_ < (List.range 8).length:=by rw [List.length_range];exact Fl.part_lt _ _
      obtain ⟨t,ht,et⟩:=Fl.mapM_get ec _ hk8
      rw [List.getElem_range,sub8_sel eless emore] at et
      have hin:inPart bs c l (Sn48.part c (bs.getD i0 default).at_)≠[]:=List.ne_nil_of_mem (List.mem_filter.mpr ⟨hi0,beq_self_eq_true _⟩)
      have hm:t∈cells.filter Fl.ne:=List.mem_filter.mpr ⟨List.mem_of_getElem? ht,grown_ne hin et⟩
      exact whole_ne hin et (List.flatten_eq_nil_iff.mp z _ (List.mem_map_of_mem hm))
     ·intro r er H9 v9 q9 o9 x9 hq9 d9 v9'
      have s9:Same H H9:=fun b o e=>o9 b o (nN e hx0) (sF0 b o e)
      have oq:HF x=_:=xF
      refine ⟨_,rfl,k.1 (.split side r.1 r.2 l cells) ?_ _ _ s9 ?_⟩
      ·rw [gr_all l2 eq es ec,er];rfl
      ·exact .split (vw_new x9 hx0) (vw_new (o9 _ _ (Ne.symm xsp) spF) hsp0) (vw_new (o9 _ _ plx plF) hpl0) (cF.same (VX_end o9)) ⟨_,vw_new (o9 _ _ (Ne.symm xmd) mdF) hmd0,fun i=>mem_keys l i⟩ ((((dE.off xE rfl oF)).off xF rfl o9).vw) d9.vw (by
        obtain ⟨q',y1,y2,y3,eq',hq',d1,d2,d3⟩:=v9'
        cases eq'
        exact ⟨q9,y1,y2,y3,rfl,vw_new hq' (sF0.free hq9),d1.vw,d2.vw,d3.vw⟩)
     ·intro er H9 o9
      exact kn H9 (fun b o e=>o9 b o (nN e hx0) (sF0 b o e)) (by rw [gr_all l2 eq es ec,er];rfl)
end
end Pw
namespace Pw
open PySem L2
section
variable {P:Program} {w:World} {K:PySem.W.Frag} {mg:Str→Option Value} {base:Heap} {a:Ad}
theorem all_cell_of (T:Tx K mg a) (F:Df K mg "cell_of" tZ59 ["weights","places","bodies","middle","half","level"]) (R:Ar P w K mg base a) (S:Tc K mg a) (B_Cell:Cm P w K mg base a.cCell "__init__" "Cell.__init__" tZ4j ["self","bodies"] 1 (pZ_3c K a)) (B_bodies_by_part:Cb P w K mg base "bodies_by_part" tZ58 ["places","bodies","middle"] 3 (pZ_3m K a.exc)) (B_middle_of_part:Cb P w K mg base "middle_of_part" tZ5n ["part","less","more"] 1 (pZ_41 K a.exc)) (B_weigh:Cb P w K mg base "weigh" tZ64 ["cell","weights","places"] 4 (pZ_4h K a)) :
  ∀ n,Cb P w K mg base "cell_of" tZ59 ["weights","places","bodies","middle","half","level"] (6 + n) (pZ_3r K a n)
 | 0=>kZ0q T F R S B_Cell B_bodies_by_part B_middle_of_part B_weigh (j:=5) (sp':=fun _ _ _ _=>False) (by decide) (.mk F cZ2e (fun _ _ _ _ h=>h.elim) (fun _ _ _ _ _ _ _ _ _ _ h _=>h.elim)) (fun m e=>by lia)
 | n + 1=>kZ0q T F R S B_Cell B_bodies_by_part B_middle_of_part B_weigh (j:=6 + n) (by lia) (all_cell_of T F R S B_Cell B_bodies_by_part B_middle_of_part B_weigh n) (fun m e=>by cases Nat.succ.inj e;rfl)
end
section
open Sn48
variable {bs:List Body}
abbrev lsAx (bs:List Body) (i:Nat):F:=least ((bs.map (·.at_)).map (comp i))
abbrev gtAx (bs:List Body) (i:Nat):F:=greatest ((bs.map (·.at_)).map (comp i))
theorem tree_eq (bs:List Body):tree bs=(sub (gtAx bs 0) (lsAx bs 0)).bind fun a=>(sub (gtAx bs 1) (lsAx bs 1)).bind fun b=>(sub (gtAx bs 2) (lsAx bs 2)).bind fun c=>(mul (greatest [a,b,c]) HALF).bind fun h=>(Fl.shiftP add ⟨lsAx bs 0,lsAx bs 1,lsAx bs 2⟩ h).bind fun p=>grown bs 20 p h (List.range bs.length):=by
 unfold tree lsAx gtAx
 simp only [List.map_map]
 rfl
theorem tr_nospan (h:(List.range 3).mapM (fun i=>sub (gtAx bs i) (lsAx bs i))=none):tree bs=none:=by
 rw [tree_eq]
 have e:List.range 3=[0,1,2]:=rfl
 rw [e,Fl.mapM_cons,Fl.mapM_cons,Fl.mapM_cons,Fl.mapM_nil] at h
 cases h0:sub (gtAx bs 0) (lsAx bs 0) with
 | none=>rfl
 | some x =>
  cases h1:sub (gtAx bs 1) (lsAx bs 1) with
  | none=>rfl
  | some y =>
   cases h2:sub (gtAx bs 2) (lsAx bs 2) with
   | none=>rfl
   | some z=>rw [h0,h1,h2] at h;cases h
theorem tr_span {cs:List F} (h:(List.range 3).mapM (fun i=>sub (gtAx bs i) (lsAx bs i))=some cs):cs.length=3∧tree bs=(mul (greatest cs) HALF).bind fun h=>(Fl.shiftP add ⟨lsAx bs 0,lsAx bs 1,lsAx bs 2⟩ h).bind fun p=>grown bs 20 p h (List.range bs.length):=by
 obtain ⟨x,y,z,rfl,h0,h1,h2⟩:=range3 h
 refine ⟨rfl,?_⟩
 rw [tree_eq,h0,Option.bind_some,h1,Option.bind_some,h2,Option.bind_some]
end
def pZ_3v (K:PySem.W.Frag) (a:Ad):Sp:=fun vs H Q E=>∃ wv pv bs G,vs=[wv,pv]∧Same G H∧LstOf (RD K) wv G (bs.map (·.m))∧LstOf (RV K) pv G (bs.map (·.at_))∧bs≠[]∧bs.length≤4096∧(∀ b∈bs,Fl.BodyOk b)∧RsG (RC K a) a.exc (Sn48.tree bs) G H Q E
section
variable {P:Program} {w:World} {K:PySem.W.Frag} {mg:Str→Option Value} {base:Heap} {a:Ad}
abbrev tZ5b:Stmt:=top 42
theorem cZ2g:FnScope ["weights","places","bodies","least","greatest","spans","half","middle","axis","number"] ["weights","places"] (defScope tZ5b):=by walk_at "sc"
theorem blk_first_cell_1:BlkOk ["weights","places","bodies","least","greatest","spans","half","middle","axis","number"] (defScope tZ5b) ((scs 9 (defBody tZ5b)).getD 0 default) [("axis",8)]:=blkOk_by (by decide +kernel)
theorem blk_first_cell_2:BlkOk ["weights","places","bodies","least","greatest","spans","half","middle","axis","number"] (defScope tZ5b) ((scs 9 (defBody tZ5b)).getD 1 default) [("axis",8)]:=blkOk_by (by decide +kernel)
theorem blk_first_cell_3:BlkOk ["weights","places","bodies","least","greatest","spans","half","middle","axis","number"] (defScope tZ5b) ((scs 9 (defBody tZ5b)).getD 2 default) [("axis",8)]:=blkOk_by (by decide +kernel)
theorem blk_first_cell_4:BlkOk ["weights","places","bodies","least","greatest","spans","half","middle","axis","number"] (defScope tZ5b) ((scs 9 (defBody tZ5b)).getD 3 default) [("number",9)]:=blkOk_by (by decide +kernel)
theorem kZ0s (T:Tx K mg a) (F:Df K mg "first_cell" tZ5b ["weights","places"]) (R:Ar P w K mg base a) (S:Tc K mg a) (B_Cell:Cm P w K mg base a.cCell "__init__" "Cell.__init__" tZ4j ["self","bodies"] 1 (pZ_3c K a)) (B_along:Cb P w K mg base "along" tZ54 ["places","axis"] 1 (pZ_3j K a.exc)) (B_least_of:Cb P w K mg base "least_of" tZ5k ["numbers"] 2 (pZ_3w K a.exc fun l=>some (Sn48.least l))) (B_greatest_of:Cb P w K mg base "greatest_of" tZ5e ["numbers"] 2 (pZ_3w K a.exc fun l=>some (Sn48.greatest l))) (B_cell_of:Cb P w K mg base "cell_of" tZ59 ["weights","places","bodies","middle","half","level"] 26 (pZ_3r K a 20)):Cb P w K mg base "first_cell" tZ5b ["weights","places"] 27 (pZ_3v K a):=by
 refine .mk F cZ2g (fun vs H Q E h=>?_) (fun f cdv A outer s H vs Q E hr h th=>?_)
 ·obtain ⟨_,_,_,_,rfl,_⟩:=h
  rfl
 ·obtain ⟨_,_,bs,G,rfl,g,⟨wa,wxs,rfl,hw,wr⟩,⟨pa,pxs,rfl,hp,pr⟩,hne,hnb,bok,k⟩:=h
  refine ⟨_,(pZ (ps_set (i:=2) cZ2g.nd rfl (Or.inl rfl) (pe_callTy (call_listRng rfl) rfl T.list PyProof.Rows.boot_list (pY (pe_callTy call_rangeV rfl T.range PyProof.Rows.boot_range (pY (plen T.len (pv 1)) pN)) pN)))
   (pZ (ps_if (pt_cmpR op_eq (plen T.len (pv 2)) pI (nomark _)) (pO (ps_ret (pmk B_Cell S.cCell hr th (pY (pv 2) pN)))) pss_nil)
   (pZ (ps_set (i:=3) cZ2g.nd rfl (Or.inr rfl) (pe_lcX th rfl rfl rfl cZ2g.nd (pi_range1 rfl T.range (pY pI pN)) blk_first_cell_1 (fun _ _ _ _ _ _ _=>(pg_name (i:=8) cZ2g.nd rfl (Or.inl rfl))) (fun _ _ _ _ _ _ _ thb=>pts_nil) (fun _ _ _ _ _ _ _ thb=>(pb B_least_of hr thb (pY (pb B_along hr thb (pY (pv 1) (pY (pv 8) pN))) pN)))))
   (pZ (ps_set (i:=4) cZ2g.nd rfl (Or.inr rfl) (pe_lcX th rfl rfl rfl cZ2g.nd (pi_range1 rfl T.range (pY pI pN)) blk_first_cell_2 (fun _ _ _ _ _ _ _=>(pg_name (i:=8) cZ2g.nd rfl (Or.inl rfl))) (fun _ _ _ _ _ _ _ thb=>pts_nil) (fun _ _ _ _ _ _ _ thb=>(pb B_greatest_of hr thb (pY (pb B_along hr thb (pY (pv 1) (pY (pv 8) pN))) pN)))))
   (pZ (ps_setLcX (i:=5) th rfl rfl rfl cZ2g.nd rfl rfl (sw_true rfl rfl rfl rfl) (pi_range1 rfl T.range (pY pI pN)) blk_first_cell_3 (fun _ _ _ _ _ _ _=>(pg_name (i:=8) cZ2g.nd rfl (Or.inl rfl))) (fun _ _ _ _ _ _ _ thb=>pts_nil) (fun _ _ _ _ _ _ _ thb=>(pb R.minus hr thb (pY (pxK K (pv 4) (pv 8)) (pY (pxK K (pv 3) (pv 8)) pN)))))
   (pZ (ps_set (i:=6) cZ2g.nd rfl (Or.inr rfl) (pb R.times hr th (pY (pb B_greatest_of hr th (pY (pv 5) pN)) (pY (pe_gl T.half) pN))))
   (pZ (ps_setLcX (i:=7) th rfl rfl rfl cZ2g.nd rfl rfl (sw_true rfl rfl rfl rfl) (pi_list (pv 3)) blk_first_cell_4 (fun _ _ _ _ _ _ _=>(pg_name (i:=9) cZ2g.nd rfl (Or.inl rfl))) (fun _ _ _ _ _ _ _ thb=>pts_nil) (fun _ _ _ _ _ _ _ thb=>(pb R.plus hr thb (pY (pv 9) (pY (pv 6) pN)))))
   (pO (ps_ret (pb B_cell_of hr th (pY (pv 0) (pY (pv 1) (pY (pv 2) (pY (pv 7) (pY (pv 6) (pY pI pN)))))))))))))))),?_⟩
  walk_at "rd"
  have hlen:pxs.length=bs.length:=by rw [Paired.len pr,List.length_map]
  refine ⟨_,.inl (SqL.of (g _ _ hp)),fun r hr0=>⟨_,uS,Int.natCast_nonneg _,(by rw [hlen];lia),fun b hb0=>?_⟩⟩
  have hbH:H b=none:=(Same.new hr0).free hb0
  have s1:Same H (upd (upd H r (.rng 0 (pxs.length:Nat))) b (.lst ((List.range ((pxs.length:Nat):Int).toNat).map fun (i:Nat)=>V.int (i:Nat)))):=(Same.new hr0).trans (Same.new hb0)
  have hb1:(upd (upd H r (.rng 0 (pxs.length:Nat))) b (.lst ((List.range ((pxs.length:Nat):Int).toNat).map fun (i:Nat)=>V.int (i:Nat)))) b=some (.lst ((List.range bs.length).map fun (i:Nat)=>V.int (i:Nat))):=by rw [uS,Int.toNat_natCast,hlen]
  generalize upd (upd H r (.rng 0 (pxs.length:Nat))) b (.lst ((List.range ((pxs.length:Nat):Int).toNat).map fun (i:Nat)=>V.int (i:Nat)))=H1 at *
  refine ⟨_,.inl (SqL.of hb1),?_⟩
  rw [List.length_map,List.length_range]
  have hl0:bs.length≠0:=fun z=>hne (List.eq_nil_of_length_eq_zero z)
  by_cases c1:bs.length=1
  ·rw [if_pos (by lia)]
   intro x dx hx0 hdx0 hdx
   refine ⟨x,dx,.ref b,rfl,uS,fun pl H2 hpl off1 hpl1 hx1=>⟨rfl,?_⟩⟩
   have sx:Same H1 H2:=fun b o e=>off1 b o (nN e hx0) (by rw [uN (nN e hx0),uN (nN e hdx0)];exact e)
   obtain ⟨b0,rfl⟩:=List.length_eq_one_iff.mp c1
   rw [Fl.tree_one (bok b0 List.mem_cons_self)] at k
   exact k.ret (s1.trans sx) (.some_ (by decide) (vw_new hx1 (s1.free hx0)) (vw_new (sx _ _ hb1) hbH))
  ·rw [if_neg (by lia)]
   have kn:∀ H',Same H H'→Sn48.tree bs=none→E (.ref a.exc) none H':=fun H' s' e=>k.2 e H' s'
   have gP:∀ Hc,Same H Hc→LstOf (RV K) (.ref pa) Hc (bs.map (·.at_)):=fun Hc s=>⟨pa,pxs,rfl,(g.trans s) _ _ hp,Paired.imp' (fun _ _ d=>Vec.same d (g.trans s)) pr⟩
   have axne:∀ i,(bs.map (·.at_)).map (comp i)≠[]:=fun i z=>hne (List.map_eq_nil_iff.mp (List.map_eq_nil_iff.mp z))
   have axlen:∀ i,((bs.map (·.at_)).map (comp i)).length≤40000:=fun i=>by rw [List.length_map,List.length_map];lia
   have lenP:(bs.map (·.at_)).length≤4096:=by rw [List.length_map];exact hnb
   have rg:∀ (i y:Nat),(List.range 3)[i]?=some y→y=i∧i < 3:=fun i y h=>by
    have hi:i < 3:=by have:=(List.getElem?_eq_some_iff.mp h).1;rwa [List.length_range] at this
    rw [List.getElem?_range hi] at h
    exact ⟨(Option.some.inj h).symm,hi⟩
   refine tLc_upto (G:=vw G H H1) (C:=a.exc) (E:=E) (n:=3) (ys:=List.range 3) (f:=fun i=>some (lsAx bs i)) (R:=RD K) (fun F hF=>hF) mRD (by decide) (by decide) rfl vw_sub (fun _=>rfl) ?_ ?_
   rotate_left
   ·intro i y H2 Q2 hi hy s2 G2 g1 g2 k2
    obtain ⟨rfl,hi3⟩:=rg i y hy
    exact ⟨_,rfl,_,rfl,.ref pa,bs.map (·.at_),y,rfl,gP _ (s1.trans s2),lenP,hi3,.pur fun v3 H3 s3 r3=>⟨v3,_,rfl,r3,axne y,axlen y,.pur fun v4 H4 s4 d4=>k2.1 _ rfl _ _ (s3.trans s4) (Dbl.vw d4)⟩⟩
   rw [mapM_pure]
   refine RsG.pur fun lv H2 s2 rl=>?_
   have t2:=s1.trans s2
   have rl2:=LstOf.mono mRD _ _ _ _ (vw_comp s1 s2) rl
   refine tLc_upto (G:=vw G H H2) (C:=a.exc) (E:=E) (n:=3) (ys:=List.range 3) (f:=fun i=>some (gtAx bs i)) (R:=RD K) (fun F hF=>hF) mRD (by decide) (by decide) rfl vw_sub (fun _=>rfl) ?_ ?_
   rotate_left
   ·intro i y H3 Q2 hi hy s3 G2 g1 g2 k2
    obtain ⟨rfl,hi3⟩:=rg i y hy
    exact ⟨_,rfl,_,rfl,.ref pa,bs.map (·.at_),y,rfl,gP _ (t2.trans s3),lenP,hi3,.pur fun v3 H3 s3 r3=>⟨v3,_,rfl,r3,axne y,axlen y,.pur fun v4 H4 s4 d4=>k2.1 _ rfl _ _ (s3.trans s4) (Dbl.vw d4)⟩⟩
   rw [mapM_pure]
   refine RsG.pur fun gv H3 s3 rg3=>?_
   have t3:=t2.trans s3
   have rg3:=LstOf.mono mRD _ _ _ _ (vw_comp t2 s3) rg3
   obtain ⟨gq,gxs,rfl,hgq,gpr⟩:=rg3
   obtain ⟨lq,lxs,rfl,hlq,lpr⟩:=LstOf.mono mRD _ _ _ _ (vw_grow s3) rl2
   have pick:∀ {f:Nat→Nat} {i:Nat},i < 3→((List.range 3).map f)[i]?=some (f i):=fun {f i} hi=>by rw [List.getElem?_map,List.getElem?_range hi];rfl
   refine tLc_upto (G:=vw G H H3) (C:=a.exc) (E:=E) (n:=3) (ys:=List.range 3) (f:=fun i=>Sn48.sub (gtAx bs i) (lsAx bs i)) (R:=RD K) (fun F hF=>hF) mRD (by decide) (by decide) rfl vw_sub (fun _=>rfl) ⟨fun cs ecs sv H4 s4 r4=>?_,fun e H4 s4=>kn H4 (t3.trans s4) (tr_nospan e)⟩ ?_
   rotate_left
   ·intro i y H4 Q2 hi hy s4 G2 g1 g2 k2
    obtain ⟨rfl,hi3⟩:=rg i y hy
    obtain ⟨x1,hx1,d1⟩:=Paired.at gpr (pick (f:=gtAx bs) hi3)
    obtain ⟨x2,hx2,d2⟩:=Paired.at lpr (pick (f:=lsAx bs) hi3)
    refine ⟨_,rfl,_,rfl,gq,gxs,_,x1,rfl,rfl,SqL.of (s4 _ _ (vw_sub _ _ hgq)),atI_nat hx1,_,rfl,_,rfl,lq,lxs,_,x2,rfl,rfl,SqL.of (s4 _ _ (vw_sub _ _ hlq)),atI_nat hx2,x1,x2,_,_,rfl,d1.same (vw_sub.trans s4),d2.same (vw_sub.trans s4),RsD k2⟩
   obtain ⟨cl,ct⟩:=tr_span ecs
   have t4:=t3.trans s4
   refine ⟨sv,cs,rfl,LstOf.mono mRD _ _ _ _ vw_sub r4,(fun z=>by rw [z] at cl;cases cl),by lia,.pur fun v5 H5 s5 d5=>?_⟩
   have t5:=t4.trans s5
   refine ⟨v5,.ref a.hf,_,Sn48.HALF,rfl,d5,dbl_half T H5,⟨fun h eh hv H6 s6 dh=>?_,fun e H6 s6=>kn H6 (t5.trans s6) (by rw [ct,e];rfl)⟩⟩
   have t6:=t5.trans s6
   have g36:=(s4.trans s5).trans s6
   refine tLc_items (K:=K) (G:=vw G H H6) (C:=a.exc) (E:=E) (ys:=[lsAx bs 0,lsAx bs 1,lsAx bs 2]) (f:=fun b=>Sn48.add b h) (R:=RD K) (fun F hF=>⟨_,rfl,hF⟩) mRD (SqL.of (g36 _ _ (vw_sub _ _ hlq))) (by rw [Paired.len lpr];show 3≤sizeLine;decide) (by rw [Paired.len lpr];rfl) vw_sub (fun _=>rfl) ⟨fun cs' ecs' mv H7 s7 r7=>?_,fun e H7 s7=>kn H7 (t6.trans s7) (by rw [ct,eh,Option.bind_some,(shift_list Sn48.add ⟨lsAx bs 0,lsAx bs 1,lsAx bs 2⟩ h).2 e];rfl)⟩ ?_
   rotate_left
   ·intro i v b' H' Q' hv' hb' s' G' g1 g2 k'
    obtain ⟨b'',hb'',d⟩:=Paired.at' lpr hv'
    have:b''=b':=Option.some.inj (hb''.symm.trans hb')
    subst this
    exact ⟨_,rfl,_,rfl,v,hv,b'',h,rfl,d.same ((vw_sub.trans g36).trans s'),dh.same s',RsD k'⟩
   obtain ⟨p,rfl,ep⟩:=(shift_list Sn48.add ⟨lsAx bs 0,lsAx bs 1,lsAx bs 2⟩ h).1 cs' ecs'
   have t7:=t6.trans s7
   have gv7:Same G (vw G H H7):=vw_sup g t7
   rw [ct,eh,Option.bind_some,ep,Option.bind_some] at k
   have vm:=vec_of (LstOf.mono mRD _ _ _ _ (vw_comp t6 s7) r7)
   refine ⟨.ref wa,.ref pa,.ref b,mv,hv,0,bs,List.range bs.length,p,h,vw G H H7,rfl,rfl,vw_sub,⟨wa,wxs,rfl,gv7 _ _ hw,Paired.imp' (fun _ _ d=>Dbl.same d gv7) wr⟩,⟨pa,pxs,rfl,gv7 _ _ hp,Paired.imp' (fun _ _ d=>Vec.same d gv7) pr⟩,⟨b,rfl,vw_new ((((s2.trans s3).trans g36).trans s7) _ _ hb1) hbH⟩,(fun z=>hl0 (by have:=congrArg List.length z;rwa [List.length_range] at this)),fun i hi=>List.mem_range.mp hi,hnb,(by rw [List.length_range];exact hnb),vm,(dh.same s7).vw,bok,?_⟩
   exact ⟨fun t et v H8 s8 r8=>k.1 t et v H8 (t7.trans s8) (CellAt.same (vw_comp t7 s8) r8),fun et H8 s8=>k.2 et H8 (t7.trans s8)⟩
end
end Pw
namespace Pw
open PySem L2
section
open Sn48
def wx (i:Nat) (f:F) (d a:P):Option F:=(mul f (comp i d)).bind (add (comp i a))
def pset (i:Nat) (v:F) (p:P):P:=match i with
 | 0=>⟨v,p.y,p.z⟩
 | 1=>⟨p.x,v,p.z⟩
 | _=>⟨p.x,p.y,v⟩
theorem axp_no {a d:P} {f:F} {i:Nat} (hi:i < 3) (h:wx i f d a=none):Fl.axp a f d=none:=by
 rw [Fl.axp_eq]
 match i,hi with
 | 0,_ =>
  have h:(mul f d.x).bind (add a.x)=none:=h
  rw [h];rfl
 | 1,_ =>
  have h:(mul f d.y).bind (add a.y)=none:=h
  rw [h]
  cases (mul f d.x).bind (add a.x) <;> rfl
 | 2,_ =>
  have h:(mul f d.z).bind (add a.z)=none:=h
  rw [h]
  cases (mul f d.x).bind (add a.x) with
  | none=>rfl
  | some x=>cases (mul f d.y).bind (add a.y) <;> rfl
def Upto (j:Nat) (f:F) (d a b:P):Prop:=∀ i,i < 3→if i < j then wx i f d a=some (comp i b) else comp i b=comp i a
theorem Upto.zero {f:F} {d a:P}:Upto 0 f d a a:=fun i _=>by rw [if_neg (by lia)]
theorem Upto.done {f:F} {d a b:P} (h:Upto 3 f d a b):Fl.axp a f d=some b:=by
 have h0:(mul f d.x).bind (add a.x)=some b.x:=by have:=h 0 (by decide);rwa [if_pos (by decide)] at this
 have h1:(mul f d.y).bind (add a.y)=some b.y:=by have:=h 1 (by decide);rwa [if_pos (by decide)] at this
 have h2:(mul f d.z).bind (add a.z)=some b.z:=by have:=h 2 (by decide);rwa [if_pos (by decide)] at this
 rw [Fl.axp_eq,h0,h1,h2]
 rfl
theorem comp_pset {i j:Nat} (hi:i < 3) (hj:j < 3) (v:F) (p:P):comp i (pset j v p)=if i=j then v else comp i p:=by
 match i,hi,j,hj with
 | 0,_,0,_=>rfl
 | 0,_,1,_=>rfl
 | 0,_,2,_=>rfl
 | 1,_,0,_=>rfl
 | 1,_,1,_=>rfl
 | 1,_,2,_=>rfl
 | 2,_,0,_=>rfl
 | 2,_,1,_=>rfl
 | 2,_,2,_=>rfl
theorem Upto.cur {j:Nat} {f:F} {d a b:P} (h:Upto j f d a b) (hj:j < 3):comp j b=comp j a:=by
 have:=h j hj
 rwa [if_neg (by lia)] at this
theorem Upto.next {j:Nat} {f:F} {d a b:P} {v:F} (h:Upto j f d a b) (hj:j < 3) (e:wx j f d a=some v):Upto (j + 1) f d a (pset j v b):=fun i hi=>by
 rw [comp_pset hi hj]
 by_cases c:i=j
 ·subst c
  rw [if_pos (by lia),if_pos rfl,e]
 ·have:=h i hi
  rw [if_neg c]
  by_cases c2:i < j
  ·rw [if_pos c2] at this;rw [if_pos (by lia)];exact this
  ·rw [if_neg c2] at this;rw [if_neg (by lia)];exact this
end
theorem Vec.vw' {K:PySem.W.Frag} {G H H':Hp} {q:Addr} {p:Sn48.P} (h:Vec K H' (.ref q) p) (n:H q=none):Vec K (vw G H H') (.ref q) p:=by
 obtain ⟨q',x,y,z,e,h,d1,d2,d3⟩:=h
 cases e
 exact ⟨q,x,y,z,rfl,vw_new h n,d1.vw,d2.vw,d3.vw⟩
def pZ_4g (K:PySem.W.Frag) (C:Addr):Sp:=fun vs H Q E=>∃ v u p b G,vs=[v,u]∧Vec K H v p∧Vec K H u b∧RsG (RV K) C (Sn48.plus p b) G H Q E
abbrev ff (f s w p c:V):List (Str × V):=[("far",f),("soft",s),("weights",w),("places",p),("first",c)]
def FieldAt (K:PySem.W.Frag) (a:Ad) (H:Hp) (x:Addr) (far soft:Nat) (bs:List Sn48.Body) (t:Sn48.Cell):Prop:=∃ dx fv sv wv pv cv,H x=some (.ins a.cField dx (ff fv sv wv pv cv))∧Dbl K H fv far∧Dbl K H sv soft∧LstOf (RD K) wv H (bs.map (·.m))∧LstOf (RV K) pv H (bs.map (·.at_))∧CellAt K a H cv t
theorem FieldAt.same {K:PySem.W.Frag} {a:Ad} {H H':Hp} {x:Addr} {far soft:Nat} {bs:List Sn48.Body} {t:Sn48.Cell} (h:FieldAt K a H x far soft bs t) (s:Same H H'):FieldAt K a H' x far soft bs t:=by
 obtain ⟨dx,fv,sv,wv,pv,cv,h,d1,d2,l1,l2,c⟩:=h
 exact ⟨dx,fv,sv,wv,pv,cv,s _ _ h,d1.same s,d2.same s,LstOf.mono mRD _ _ _ _ s l1,LstOf.mono mRV _ _ _ _ s l2,c.same s⟩
def pZ_3d (K:PySem.W.Frag) (a:Ad):Sp:=fun vs H Q E=>∃ x dx fv sv wv pv far soft bs G,vs=[.ref x,fv,sv,wv,pv]∧H x=some (.ins a.cField dx [])∧Same G H∧G x=none∧Dbl K G fv far∧Dbl K G sv soft∧LstOf (RD K) wv G (bs.map (·.m))∧LstOf (RV K) pv G (bs.map (·.at_))∧bs≠[]∧bs.length≤4096∧(∀ b∈bs,Fl.BodyOk b) ∧
 (∀ t,Sn48.tree bs=some t→∀ H',Off x H H'→FieldAt K a H' x far soft bs t→Q .non H')∧(Sn48.tree bs=none→∀ H',Off x H H'→E (.ref a.exc) none H')
def Mu (K:PySem.W.Frag) (C:Addr) (o:Option Sn48.P) (pu:Addr) (H:Hp) (Q:VK) (E:XK):Prop:=(∀ b,o=some b→∀ H',Off pu H H'→Vec K H' (.ref pu) b→Q .non H')∧(o=none→∀ H',Off pu H H'→E (.ref C) none H')
def pZ_3h (K:PySem.W.Frag) (a:Ad):Sp:=fun vs H Q E=>∃ x pu wv yv sv far soft bs t u m d s G,vs=[.ref x,.ref pu,wv,yv,sv]∧Same G H∧G pu=none∧FieldAt K a G x far soft bs t∧Dbl K H wv m∧Vec K G yv d∧Dbl K H sv s∧Vec K H (.ref pu) u∧Mu K a.exc (Fl.addOne soft u m d s) pu H Q E
abbrev oppP (p:Sn48.P):Sn48.P:=⟨Sn48.opposite p.x,Sn48.opposite p.y,Sn48.opposite p.z⟩
abbrev pAt (bs:List Sn48.Body) (i:Nat):Sn48.P:=(bs.getD i default).at_
def pZ_3i (K:PySem.W.Frag) (a:Ad):Sp:=fun vs H Q E=>∃ x pu cv i bv far soft bs t l u G,vs=[.ref x,.ref pu,cv,.int (i:Nat),bv]∧Same G H∧G pu=none∧FieldAt K a G x far soft bs t∧CellAt K a G cv (.some_ l)∧(∀ j∈l,j < bs.length)∧Vec K G bv (oppP (pAt bs i))∧Vec K H (.ref pu) u ∧
 Mu K a.exc (Sn48.pulled ⟨far,soft,bs⟩ i 22 u (.some_ l)) pu H Q E
def farO (far soft:Nat) (p u:Sn48.P) (side m:Nat) (q:Sn48.P):Option (Bool × Sn48.P):=(Sn48.minus q p).bind fun d=>(Sn48.square d).bind fun s=>(Sn48.mul side side).bind fun v=>(Sn48.mul far s).bind fun t=>if Sn48.below v t=true then (Fl.addOne soft u m d s).map fun r=>(true,r) else some (false,u)
def pZ_3g (K:PySem.W.Frag) (a:Ad):Sp:=fun vs H Q E=>∃ x pu cv i bv far soft bs t side m q ins l u G,vs=[.ref x,.ref pu,cv,bv]∧Same G H∧G pu=none∧FieldAt K a G x far soft bs t∧CellAt K a G cv (.split side m q ins l)∧Vec K G bv (oppP (pAt bs i))∧Vec K H (.ref pu) u ∧
 (∀ b r,farO far soft (pAt bs i) u side m q=some (b,r)→∀ H',Off pu H H'→Vec K H' (.ref pu) r→Q (.bl b) H')∧(farO far soft (pAt bs i) u side m q=none→∀ H',Off pu H H'→E (.ref a.exc) none H')
theorem vec_set {K:PySem.W.Frag} {H:Hp} {p:Addr} {b:Sn48.P} {xs:List V} {j r:Nat} {v:V} (h:Vec K H (.ref p) b) (hx:H p=some (.lst xs)) (hj:j < 3) (d:Dbl K H v r):Vec K (upd H p (.lst (xs.set j v))) (.ref p) (pset j r b):=by
 obtain ⟨p',x,y,z,e,h,d1,d2,d3⟩:=h
 cases e
 rw [h] at hx
 cases hx
 have o:∀ l,Off p H (upd H p (.lst l)):=fun l=>Off.put _ _ _
 match j,hj with
 | 0,_=>exact ⟨p,v,y,z,rfl,uS,d.off h rfl (o _),d2.off h rfl (o _),d3.off h rfl (o _)⟩
 | 1,_=>exact ⟨p,x,v,z,rfl,uS,d1.off h rfl (o _),d.off h rfl (o _),d3.off h rfl (o _)⟩
 | 2,_=>exact ⟨p,x,y,v,rfl,uS,d1.off h rfl (o _),d2.off h rfl (o _),d.off h rfl (o _)⟩
theorem vec_len {K:PySem.W.Frag} {H:Hp} {p:Addr} {b:Sn48.P} {xs:List V} (h:Vec K H (.ref p) b) (hx:H p=some (.lst xs)):xs.length=3:=by
 obtain ⟨p',x,y,z,e,h,d1,d2,d3⟩:=h
 cases e
 rw [h] at hx
 cases hx
 rfl
theorem ixN_nat {n j:Nat} (h:j < n):ixN n (j:Int)=some j:=by
 unfold ixN
 rw [if_pos (Int.natCast_nonneg _),if_pos (by lia),Int.toNat_natCast]
theorem foldM_filter {α β:Type} {p:α→Bool} {f:β→α→Option β}:∀ (l:List α) (u:β),(l.filter p).foldlM f u=l.foldlM (fun b x=>if p x=true then f b x else some b) u
 | [],u=>rfl
 | x::l,u=>by
  rw [List.filter_cons,Fl.foldlM_cons]
  by_cases c:p x=true
  ·rw [if_pos c,if_pos c,Fl.foldlM_cons]
   cases f u x with
   | none=>rfl
   | some b=>exact foldM_filter l b
  ·rw [if_neg c,if_neg c]
   exact foldM_filter l u
theorem foldM_app {α β:Type} {f:β→α→Option β}:∀ (l l':List α) (u:β),(l++l').foldlM f u=(l.foldlM f u).bind fun b=>l'.foldlM f b
 | [],l',u=>rfl
 | x::l,l',u=>by
  rw [List.cons_append,Fl.foldlM_cons,Fl.foldlM_cons]
  cases f u x with
  | none=>rfl
  | some b=>exact foldM_app l l' b
theorem foldM_next {α β:Type} {f:β→α→Option β} {l:List α} {u b:β} {j:Nat} {s:α} (hs:l[j]?=some s) (h:(l.take j).foldlM f u=some b):(l.take (j + 1)).foldlM f u=f b s:=by
 rw [List.take_succ,hs,foldM_app,h]
 show (f b s).bind (fun b=>some b)=f b s
 cases f b s <;> rfl
theorem foldM_no {α β:Type} {f:β→α→Option β} {l:List α} {u:β} (j:Nat) (h:(l.take j).foldlM f u=none):l.foldlM f u=none:=by
 rw [← List.take_append_drop j l,foldM_app,h]
 rfl
def oneF (far soft:Nat) (bs:List Sn48.Body) (i:Nat):Sn48.P→Nat→Option Sn48.P:=fun b j=>if (j != i)=true then Sn48.pull ⟨far,soft,bs⟩ (pAt bs i) b ((bs.getD j default).m,(bs.getD j default).at_) else some b
theorem singles_eq (far soft:Nat) (bs:List Sn48.Body) (i:Nat) (u:Sn48.P) (l:List Nat):Sn48.pulled ⟨far,soft,bs⟩ i 22 u (.some_ l)=l.foldlM (oneF far soft bs i) u:=by
 rw [Fl.pulled_some,foldM_filter]
 rfl
theorem getD_map {α β:Type} [Inhabited α] {f:α→β} {l:List α} {i:Nat} (h:i < l.length):(l.map f)[i]?=some (f (l.getD i default)):=by
 rw [List.getElem?_map,List.getElem?_eq_getElem h,List.getD_eq_getElem?_getD,List.getElem?_eq_getElem h]
 rfl
theorem plus_opp (p q:Sn48.P):Sn48.plus p (oppP q)=Sn48.minus p q:=rfl
section
variable {P:Program} {w:World} {K:PySem.W.Frag} {mg:Str→Option Value} {base:Heap} {a:Ad}
abbrev tZ63:Stmt:=top 44
theorem cZ38:FnScope ["place","back"] ["place","back"] (defScope tZ63):=by walk_at "sc"
theorem kZ1k (T:Tx K mg a) (F:Df K mg "way_to" tZ63 ["place","back"]) (R:Ar P w K mg base a):Cb P w K mg base "way_to" tZ63 ["place","back"] 3 (pZ_4g K a.exc):=by
 refine .mk F cZ38 (fun vs H Q E h=>?_) (fun f cdv A outer s H vs Q E hr h th=>?_)
 ·obtain ⟨_,_,_,_,_,rfl,_⟩:=h
  rfl
 ·obtain ⟨_,_,p,b,G,rfl,⟨pq,x,y,z,rfl,hp,dx,dy,dz⟩,⟨bq,x2,y2,z2,rfl,hb,dx2,dy2,dz2⟩,k⟩:=h
  have h0:SqL K H pq [x,y,z]:=SqL.of hp
  have h1:SqL K H bq [x2,y2,z2]:=SqL.of hb
  refine ⟨_,(pO (ps_ret (pe_lst (pY (pb R.plus hr th (pY (pw0 x y z 0) (pY (pw0 x2 y2 z2 1) pN))) (pY (pb R.plus hr th (pY (pw1 x y z 0) (pY (pw1 x2 y2 z2 1) pN))) (pY (pb R.plus hr th (pY (pw2 x y z 0) (pY (pw2 x2 y2 z2 1) pN))) pN)))))),?_⟩
  walk_at "rd"
  have e3:Sn48.plus p b=(Sn48.add p.x b.x).bind fun x=>(Sn48.add p.y b.y).bind fun y=>(Sn48.add p.z b.z).map fun z=>⟨x,y,z⟩:=rfl
  refine ⟨x,x2,p.x,b.x,rfl,dx,dx2,⟨fun r0 e0 v0 H1 s1 d0=>⟨s1 _ _ hp,s1 _ _ hb,y,y2,p.y,b.y,rfl,dy.same s1,dy2.same s1,⟨fun r1 e1 v1 H2 s2 d1=>?_,fun e H' s'=>k.2 (by rw [e3,e0,Option.bind_some,e];rfl) H' (s1.trans s')⟩⟩,fun e H' s'=>k.2 (by rw [e3,e];rfl) H' s'⟩⟩
  have t2:=s1.trans s2
  refine ⟨t2 _ _ hp,t2 _ _ hb,z,z2,p.z,b.z,rfl,dz.same t2,dz2.same t2,⟨fun r2 e2 v2 H3 s3 d2 q hq=>?_,fun e H' s'=>k.2 (by rw [e3,e0,Option.bind_some,e1,Option.bind_some,e];rfl) H' (t2.trans s')⟩⟩
  have t3:=t2.trans s3
  have n:Same H3 (upd H3 q (.lst [v0,v1,v2])):=Same.new hq
  exact k.1 ⟨r0,r1,r2⟩ (by rw [e3,e0,Option.bind_some,e1,Option.bind_some,e2];rfl) (.ref q) _ (t3.trans n) ⟨q,v0,v1,v2,rfl,vw_new uS (t3.free hq),(d0.same ((s2.trans s3).trans n)).vw,(d1.same (s3.trans n)).vw,(d2.same n).vw⟩
abbrev tZ4k:Stmt:=inClass (top 45) 0
theorem cZ1p:FnScope ["self","far","soft","weights","places"] ["self","far","soft","weights","places"] (defScope tZ4k):=by walk_at "sc"
theorem kZ01 (T:Tx K mg a) (F:Dfm K a.cField "__init__" "Field.__init__" tZ4k ["self","far","soft","weights","places"]) (S:Tc K mg a) (B_first_cell:Cb P w K mg base "first_cell" tZ5b ["weights","places"] 27 (pZ_3v K a)):Cm P w K mg base a.cField "__init__" "Field.__init__" tZ4k ["self","far","soft","weights","places"] 28 (pZ_3d K a):=by
 refine .mk F cZ1p (fun vs H Q E h=>?_) (fun f cdv A outer s H vs Q E hr h th=>?_)
 ·obtain ⟨_,_,_,_,_,_,_,_,_,_,rfl,_⟩:=h
  rfl
 ·obtain ⟨x,dx,fv,sv,wv,plv,far,soft,bs,G,rfl,hx,g,gx,df,ds,lw,lp,hne,hnb,bok,k1,k2⟩:=h
  refine ⟨_,(pZ (ps_fld (pv 0) (pv 1) rfl)
   (pZ (ps_fld (pv 0) (pv 2) rfl)
   (pZ (ps_fld (pv 0) (pv 3) rfl)
   (pZ (ps_fld (pv 0) (pv 4) rfl)
   (pO (ps_fld (pv 0) (pb B_first_cell hr th (pY (pv 3) (pY (pv 4) pN))) rfl)))))),?_⟩
  walk_at "rd"
  refine ⟨_,_,_,rfl,S.cField.cls,S.f_far,by decide,?_⟩
  refine ⟨_,_,_,uS,S.cField.cls,S.f_soft,Nat.lt_of_le_of_lt (lenF (Nat.le_refl 0)) (by decide),?_⟩
  refine ⟨_,_,_,uS,S.cField.cls,S.f_weights,Nat.lt_of_le_of_lt (lenF (lenF (Nat.le_refl 0))) (by decide),?_⟩
  refine ⟨_,_,_,uS,S.cField.cls,S.f_places,Nat.lt_of_le_of_lt (lenF (lenF (lenF (Nat.le_refl 0)))) (by decide),?_⟩
  have main:∀ H4,Off x H H4→H4 x=some (.ins a.cField dx [("far",fv),("soft",sv),("weights",wv),("places",plv)])→pZ_3v K a [wv,plv] H4 (fun y H1=>∃ C d fs,H1 x=some (.ins C d fs)∧Cls K C∧NoAttr K C "first"∧fs.length < 1000∧Q .non (upd H1 x (.ins C d (putF "first" y fs)))) E:=fun H4 o4 x4=>by
   have g4:Same G H4:=fun b o e=>o4 b o (nN e gx) (g b o e)
   refine ⟨wv,plv,bs,G,rfl,g4,lw,lp,hne,hnb,bok,⟨fun t et y H5 s5 r5=>?_,fun et H5 s5=>k2 et H5 fun b o hb e=>s5 b o (o4 b o hb e)⟩⟩
   refine ⟨_,_,_,s5 _ _ x4,S.cField.cls,S.f_first,(by show 4 < 1000;decide),?_⟩
   have o5:Off x H5 (upd H5 x (.ins a.cField dx (ff fv sv wv plv y))):=Off.put _ _ _
   refine k1 t et (upd H5 x (.ins a.cField dx (ff fv sv wv plv y))) (fun b o hb e=>o5 b o hb (s5 b o (o4 b o hb e))) ?_
   have sv5:Same (vw G H4 H5) (upd H5 x (.ins a.cField dx (ff fv sv wv plv y))):=fun b o e=>o5 b o (nN e (vw_out gx x4 (s5 _ _ x4) rfl)) (vw_sub b o e)
   have gg:Same G (upd H5 x (.ins a.cField dx (ff fv sv wv plv y))):=(vw_sup g4 s5).trans sv5
   exact ⟨dx,fv,sv,wv,plv,y,uS,df.same gg,ds.same gg,LstOf.mono mRD _ _ _ _ gg lw,LstOf.mono mRV _ _ _ _ gg lp,CellAt.same sv5 r5⟩
  exact main _ (fun b o hb e=>by rw [uN hb,uN hb,uN hb,uN hb];exact e) uS
abbrev tZ4m:Stmt:=inClass (top 45) 4
theorem cZ1r:FnScope ["self","pull","weight","way","way_square","s","f","axis"] ["self","pull","weight","way","way_square"] (defScope tZ4m):=by walk_at "sc"
theorem kZ03 (T:Tx K mg a) (F:Dfm K a.cField "add_one" "Field.add_one" tZ4m ["self","pull","weight","way","way_square"]) (R:Ar P w K mg base a) (S:Tc K mg a):Cm P w K mg base a.cField "add_one" "Field.add_one" tZ4m ["self","pull","weight","way","way_square"] 4 (pZ_3h K a):=by
 refine .mk F cZ1r (fun vs H Q E h=>?_) (fun f cdv A outer s H vs Q E hr h th=>?_)
 ·obtain ⟨_,_,_,_,_,_,_,_,_,_,_,_,_,_,rfl,_⟩:=h
  rfl
 ·obtain ⟨x,pu,wv,yv,sv,far,soft,bs,t,u,m,d,s,G,rfl,g,gp,⟨dx,fv,sov,wsv,psv,cv,hx,dfar,dsoft,lw,lp,ct⟩,dw,dy,dsq,vu,k1,k2⟩:=h
  refine ⟨_,(pZ (ps_set (i:=5) cZ1r.nd rfl (Or.inl rfl) (pb R.plus hr th (pY (pv 4) (pY (pfK K (pv 0)) pN))))
   (pZ (ps_set (i:=6) cZ1r.nd rfl (Or.inl rfl) (pb R.over hr th (pY (pv 2) (pY (pb R.times hr th (pY (pv 5) (pY (pb R.root hr th (pY (pv 5) pN)) pN))) pN))))
   (pO (ps_for th.own rfl (pi_range1 rfl T.range (pY pI pN)) (pg_name (i:=7) cZ1r.nd rfl (Or.inl rfl)) (pO (ps_asg (pb R.plus hr th (pY (pxK K (pv 1) (pv 7)) (pY (pb R.times hr th (pY (pv 6) (pY (pxK K (pv 3) (pv 7)) pN))) pN))) (pg_sub (pv 1) (pv 7) set_list))))))),?_⟩
  walk_at "rd"
  have off:∀ {H':Hp},Same H H'→Off pu H H':=fun s b o _ e=>s b o e
  refine ⟨_,_,_,g _ _ hx,S.cField.cls,S.f_soft,sov,rfl,sv,sov,s,soft,rfl,dsq,dsoft.same g,⟨fun s1 es v1 H1 t1 d1=>?_,fun e H' t'=>k2 (by unfold Fl.addOne;rw [e];rfl) H' (off t')⟩⟩
  refine ⟨v1,s1,rfl,d1,⟨fun r er v2 H2 t2 d2=>?_,fun e H' t'=>k2 (by unfold Fl.addOne;rw [es,Option.bind_some,e];rfl) H' (off (t1.trans t'))⟩⟩
  have t12:=t1.trans t2
  refine ⟨v1,v2,s1,r,rfl,d1.same t2,d2,⟨fun tt et v3 H3 t3 d3=>?_,fun e H' t'=>k2 (by unfold Fl.addOne;rw [es,Option.bind_some,er,Option.bind_some,e];rfl) H' (off (t12.trans t'))⟩⟩
  have t13:=t12.trans t3
  refine ⟨wv,v3,m,tt,rfl,dw.same t13,d3,⟨fun f ef v4 H4 t4 d4=>?_,fun e H' t'=>k2 (by unfold Fl.addOne;rw [es,Option.bind_some,er,Option.bind_some,et,Option.bind_some,e];rfl) H' (off (t13.trans t'))⟩⟩
  have t14:=t13.trans t4
  have ea:Fl.addOne soft u m d s=Fl.axp u f d:=by unfold Fl.addOne;rw [es,Option.bind_some,er,Option.bind_some,et,Option.bind_some,ef,Option.bind_some]
  rw [ea] at k1 k2
  refine for_upto (n:=3) (fun F hF=>hF) (by decide) (by decide) (fun j σ Hc=>Off pu H Hc∧Dbl K Hc v4 f∧(∃ y7,σ=[some (.ref x),some (.ref pu),some wv,some yv,some sv,some v1,some v4,y7])∧∃ b,Vec K Hc (.ref pu) b∧Upto j f d u b) ⟨off t14,d4,⟨_,rfl⟩,u,vu.same t14,Upto.zero⟩ ?_ ?_
  ·rintro j σ Hc hj ⟨o,d4,⟨y7,rfl⟩,b,vb,ub⟩
   have hj:j < 3:=hj
   walk_at "rd"
   obtain ⟨q,xs,xj,eq,hq,hxj,dj⟩:=vec_at vb hj
   cases eq
   obtain ⟨yq,ys,yj,rfl,hyq,hyj,dyj⟩:=vec_at dy hj
   have gc:Same G Hc:=fun b z e=>o b z (nN e gp) (g b z e)
   refine ⟨xs,SqL.of hq,xj,atI_nat hxj,yq,rfl,ys,SqL.of (gc _ _ hyq),yj,atI_nat hyj,v4,yj,f,comp j d,rfl,d4,dyj.same gc,⟨fun r1 e1 w1 H1 s1 dw1=>?_,fun e H' s'=>k2 (axp_no hj (by unfold wx;rw [e];rfl)) H' (fun b z hb e=>s' b z (o b z hb e))⟩⟩
   refine ⟨xj,w1,comp j b,r1,rfl,dj.same s1,dw1,⟨fun r2 e2 w2 H2 s2 dw2=>?_,fun e H' s'=>k2 (axp_no hj (by unfold wx;rw [e1,Option.bind_some,← ub.cur hj,e])) H' (fun b z hb e=>s' b z (s1 b z (o b z hb e)))⟩⟩
   have s12:=s1.trans s2
   have hq2:=s12 _ _ hq
   refine ⟨xs,hq2,j,ixN_nat (by rw [vec_len vb hq];exact hj),fun b z hb e=>(by rw [uN hb];exact s12 b z (o b z hb e)),(d4.same s12).off hq2 rfl (Off.put _ _ _),⟨_,rfl⟩,pset j r2 b,vec_set (vb.same s12) hq2 hj dw2,ub.next hj (by unfold wx;rw [e1,Option.bind_some,← ub.cur hj,e2])⟩
  ·rintro σ Hc ⟨o,d4,⟨y7,rfl⟩,b,vb,ub⟩
   exact k1 b ub.done _ o vb
abbrev tZ4n:Stmt:=inClass (top 45) 2
theorem cZ1s:FnScope ["self","pull","cell","body","back","single","way"] ["self","pull","cell","body","back"] (defScope tZ4n):=by walk_at "sc"
theorem kZ04 (T:Tx K mg a) (F:Dfm K a.cField "add_singles" "Field.add_singles" tZ4n ["self","pull","cell","body","back"]) (R:Ar P w K mg base a) (S:Tc K mg a) (B_way_to:Cb P w K mg base "way_to" tZ63 ["place","back"] 3 (pZ_4g K a.exc)) (B_add_one:Cm P w K mg base a.cField "add_one" "Field.add_one" tZ4m ["self","pull","weight","way","way_square"] 4 (pZ_3h K a)):Cm P w K mg base a.cField "add_singles" "Field.add_singles" tZ4n ["self","pull","cell","body","back"] 5 (pZ_3i K a):=by
 refine .mk F cZ1s (fun vs H Q E h=>?_) (fun f cdv A outer s H vs Q E hr h th=>?_)
 ·obtain ⟨_,_,_,_,_,_,_,_,_,_,_,_,rfl,_⟩:=h
  rfl
 ·obtain ⟨x,pu,cv,i,bv,far,soft,bs,t,l,u,G,rfl,g,gp,fa,cl,hl,vb,vu,k1,k2⟩:=h
  have fa':=fa
  obtain ⟨dx,fv,sov,wsv,psv,cfv,hx,dfar,dsoft,⟨wa,wxs,rfl,hw,wr⟩,⟨pa,pxs,rfl,hp,pr⟩,ct⟩:=fa'
  refine ⟨_,(pO (ps_for th.own rfl (pi_list (pfK K (pv 2))) (pg_name (i:=5) cZ1s.nd rfl (Or.inl rfl)) (pO (ps_if (pt_cmpR op_ne (pv 5) (pv 3) (nomark _)) (pZ (ps_set (i:=6) cZ1s.nd rfl (Or.inl rfl) (pb B_way_to hr th (pY (pxK K (pfK K (pv 0)) (pv 5)) (pY (pv 4) pN))))
     (pO (ps_expr (pbm B_add_one S.cField.cls hr th (pv 0) (pY (pv 1) (pY (pxK K (pfK K (pv 0)) (pv 5)) (pY (pv 6) (pY (pb R.square hr th (pY (pv 6) pN)) pN)))))))) pss_nil)))),?_⟩
  walk_at "rd"
  rw [singles_eq] at k1 k2
  cases cl with
  | some_ hl0 hcx hcs =>
   rename_i cx cdx cs cpl
   refine for_items (xs:=l.map fun i=>V.int (i:Nat)) (fun F h=>⟨_,rfl,cx,_,_,_,_,rfl,g _ _ hcx,S.cCell.cls,S.c_singles,rfl,h⟩) (SqL.of (g _ _ hcs)) (fun j σ Hc=>Off pu H Hc∧(∃ y5 y6,σ=[some (.ref x),some (.ref pu),some (.ref cx),some (.int (i:Nat)),some bv,y5,y6])∧∃ b,Vec K Hc (.ref pu) b∧(l.take j).foldlM (oneF far soft bs i) u=some b) ⟨fun _ _ _ e=>e,⟨_,_,rfl⟩,u,vu,rfl⟩ (fun j σ Hc h=>SqL.of (h.1 _ _ (nN hcs gp) (g _ _ hcs))) ?_ ?_
   ·rintro j sv σ Hc hsv ⟨o,⟨y5,y6,rfl⟩,b,vb',eb⟩
    rw [List.getElem?_map] at hsv
    obtain ⟨s,hs,rfl⟩:=Option.map_eq_some_iff.mp hsv
    have gc:Same G Hc:=fun b z e=>o b z (nN e gp) (g b z e)
    have hsl:s < bs.length:=hl s (List.mem_of_getElem? hs)
    have nx:=foldM_next (f:=oneF far soft bs i) hs eb
    walk_at "rd"
    by_cases c:(s:Int)=(i:Nat)
    ·rw [if_neg (fun z=>z c)]
     refine ⟨⟨_,rfl⟩,b,vb',?_⟩
     have c:s=i:=by lia
     unfold oneF
     rw [if_neg (by simp [c])]
    ·rw [if_pos c]
     have e1:oneF far soft bs i b s=(Sn48.minus (pAt bs s) (pAt bs i)).bind fun d=>(Sn48.square d).bind fun q=>Fl.addOne soft b (bs.getD s default).m d q:=by
      unfold oneF
      rw [if_pos (by simp;lia)]
      rfl
     obtain ⟨pv_,hpv,vp⟩:=Paired.at pr (getD_map (f:=(·.at_)) hsl)
     obtain ⟨wv_,hwv,dwv⟩:=Paired.at wr (getD_map (f:=(·.m)) hsl)
     obtain ⟨_,b1,b2,b3,epu,hpu,_⟩:=id vb'
     cases epu
     have kn:∀ H',Off pu Hc H'→oneF far soft bs i b s=none→E (.ref a.exc) none H':=fun H' o' e=>k2 (foldM_no (j + 1) (nx.trans e)) H' fun b z hb e=>o' b z hb (o b z hb e)
     refine ⟨_,_,_,gc _ _ hx,S.cField.cls,S.f_places,_,rfl,pa,rfl,pxs,SqL.of (gc _ _ hp),pv_,atI_nat hpv,pv_,bv,_,_,G,rfl,Vec.same vp gc,vb.same gc,⟨fun d ed wy H1 s1 rw1=>?_,fun e H' s'=>kn H' (fun b z _ e=>s' b z e) (by rw [e1,← plus_opp,e];rfl)⟩⟩
     rw [plus_opp] at ed
     refine ⟨dx,_,s1 _ _ (gc _ _ hx),rfl,_,_,_,s1 _ _ (gc _ _ hx),S.cField.cls,S.f_weights,_,rfl,wa,rfl,wxs,SqL.of (s1 _ _ (gc _ _ hw)),wv_,atI_nat hwv,wy,d,rfl,Vec.same rw1 vw_sub,⟨fun q eq sq H2 s2 dq=>?_,fun e H' s'=>kn H' (fun b z _ e=>s' b z (s1 b z e)) (by rw [e1,ed,Option.bind_some,e];rfl)⟩⟩
     have s12:=s1.trans s2
     refine ⟨x,pu,wv_,wy,sq,far,soft,bs,t,b,_,d,q,vw G Hc H2,rfl,vw_sub,vw_out gp hpu (s12 _ _ hpu) rfl,fa.same (vw_sup gc s12),Dbl.same dwv (gc.trans s12),Vec.same rw1 (vw_grow s2),dq,vb'.same s12,⟨fun r er H3 o3 v3=>?_,fun e H3 o3=>kn H3 (fun b z hb e=>o3 b z hb (s12 b z e)) (by rw [e1,ed,Option.bind_some,eq,Option.bind_some,e])⟩⟩
     exact ⟨fun b z hb e=>o3 b z hb (s12 b z (o b z hb e)),⟨_,rfl⟩,r,v3,by rw [e1,ed,Option.bind_some,eq,Option.bind_some,er]⟩
   ·rintro σ Hc ⟨o,⟨y5,y6,rfl⟩,b,vb',eb⟩
    rw [List.length_map,List.take_of_length_le (Nat.le_refl _)] at eb
    exact k1 b eb _ o vb'
abbrev tZ4l:Stmt:=inClass (top 45) 3
theorem cZ1q:FnScope ["self","pull","cell","back","way","way_square","is_far"] ["self","pull","cell","back"] (defScope tZ4l):=by walk_at "sc"
theorem kZ02 (T:Tx K mg a) (F:Dfm K a.cField "add_if_far" "Field.add_if_far" tZ4l ["self","pull","cell","back"]) (R:Ar P w K mg base a) (S:Tc K mg a) (B_way_to:Cb P w K mg base "way_to" tZ63 ["place","back"] 3 (pZ_4g K a.exc)) (B_add_one:Cm P w K mg base a.cField "add_one" "Field.add_one" tZ4m ["self","pull","weight","way","way_square"] 4 (pZ_3h K a)):Cm P w K mg base a.cField "add_if_far" "Field.add_if_far" tZ4l ["self","pull","cell","back"] 5 (pZ_3g K a):=by
 refine .mk F cZ1q (fun vs H Q E h=>?_) (fun f cdv A outer s H vs Q E hr h th=>?_)
 ·obtain ⟨_,_,_,_,_,_,_,_,_,_,_,_,_,_,_,_,rfl,_⟩:=h
  rfl
 ·obtain ⟨x,pu,cv,i,bv,far,soft,bs,t,side,m,q,ins,l,u,G,rfl,g,gp,fa,cl,vb,vu,k1,k2⟩:=h
  have fa':=fa
  obtain ⟨dx,fv,sov,wsv,psv,cfv,hx,dfar,dsoft,lw,lp,ct⟩:=fa'
  refine ⟨_,(pZ (ps_set (i:=4) cZ1q.nd rfl (Or.inl rfl) (pb B_way_to hr th (pY (pfK K (pv 2)) (pY (pv 3) pN))))
   (pZ (ps_set (i:=5) cZ1q.nd rfl (Or.inl rfl) (pb R.square hr th (pY (pv 4) pN)))
   (pZ (ps_set (i:=6) cZ1q.nd rfl (Or.inl rfl) (pb R.is_below hr th (pY (pb R.times hr th (pY (pfK K (pv 2)) (pY (pfK K (pv 2)) pN))) (pY (pb R.times hr th (pY (pfK K (pv 0)) (pY (pv 5) pN))) pN))))
   (pZ (ps_if (pt_truth (pv 6) (fun _=>rfl)) (pO (ps_expr (pbm B_add_one S.cField.cls hr th (pv 0) (pY (pv 1) (pY (pfK K (pv 2)) (pY (pv 4) (pY (pv 5) pN))))))) pss_nil)
   (pO (ps_ret (pv 6))))))),?_⟩
  walk_at "rd"
  cases cl with
  | split hcx hs hpl hcs hmem dside dm vq =>
   rename_i cx cdx cs cpl md cvs sdv wv_ pv_
   obtain ⟨_,b1,b2,b3,epu,hpu,_⟩:=id vu
   cases epu
   have kn:∀ H',Same H H'→farO far soft (pAt bs i) u side m q=none→E (.ref a.exc) none H':=fun H' s' e=>k2 e H' fun b z _ e=>s' b z e
   refine ⟨cx,rfl,_,_,_,g _ _ hcx,S.cCell.cls,S.c_place,_,rfl,pv_,bv,_,_,G,rfl,vq.same g,vb.same g,⟨fun d ed wy H1 s1 rw1=>?_,fun e H' s'=>kn H' s' (by unfold farO;rw [← plus_opp,e];rfl)⟩⟩
   rw [plus_opp] at ed
   refine ⟨wy,d,rfl,Vec.same rw1 vw_sub,⟨fun sq eq sqv H2 s2 dq=>?_,fun e H' s'=>kn H' (s1.trans s') (by unfold farO;rw [ed,Option.bind_some,e];rfl)⟩⟩
   have s12:=s1.trans s2
   have c2:=s12 _ _ (g _ _ hcx)
   refine ⟨cx,rfl,_,_,_,c2,S.cCell.cls,S.c_side,_,rfl,cx,rfl,_,_,_,c2,S.cCell.cls,S.c_side,_,rfl,sdv,sdv,side,side,rfl,dside.same (g.trans s12),dside.same (g.trans s12),⟨fun v ev vv H3 s3 dv=>?_,fun e H' s'=>kn H' (s12.trans s') (by unfold farO;rw [ed,Option.bind_some,eq,Option.bind_some,e];rfl)⟩⟩
   have s13:=s12.trans s3
   refine ⟨_,_,_,s13 _ _ (g _ _ hx),S.cField.cls,S.f_far,_,rfl,fv,sqv,far,sq,rfl,dfar.same (g.trans s13),dq.same s3,⟨fun tt et tv H4 s4 dt=>?_,fun e H' s'=>kn H' (s13.trans s') (by unfold farO;rw [ed,Option.bind_some,eq,Option.bind_some,ev,Option.bind_some,e];rfl)⟩⟩
   have s14:=s13.trans s4
   have fe:farO far soft (pAt bs i) u side m q=if Sn48.below v tt=true then (Fl.addOne soft u m d sq).map fun r=>(true,r) else some (false,u):=by
    unfold farO;rw [ed,Option.bind_some,eq,Option.bind_some,ev,Option.bind_some,et,Option.bind_some]
   refine ⟨vv,tv,v,tt,rfl,dv.same s4,dt,.pur fun bv' H5 s5 e5=>?_⟩
   subst e5
   have s15:=s14.trans s5
   have off:∀ {H'},Off pu H5 H'→Off pu H H':=fun o b z hb e=>o b z hb (s15 b z e)
   refine ⟨_,rfl,?_⟩
   by_cases c:Sn48.below v tt=true
   ·rw [if_pos c] at fe ⊢
    refine ⟨dx,_,s15 _ _ (g _ _ hx),rfl,cx,rfl,_,_,_,s15 _ _ (g _ _ hcx),S.cCell.cls,S.c_weight,_,rfl,?_⟩
    refine ⟨x,pu,wv_,wy,sqv,far,soft,bs,t,u,m,d,sq,vw G H H5,rfl,vw_sub,vw_out gp hpu (s15 _ _ hpu) rfl,fa.same (vw_sup g s15),dm.same (g.trans s15),Vec.same rw1 (vw_grow (((s2.trans s3).trans s4).trans s5)),dq.same ((s3.trans s4).trans s5),vu.same s15,⟨fun r er H6 o6 v6=>?_,fun e H6 o6=>k2 (by rw [fe,e];rfl) H6 (off o6)⟩⟩
    rw [c]
    exact k1 true r (by rw [fe,er];rfl) H6 (off o6) v6
   ·rw [if_neg c] at fe ⊢
    have c':Sn48.below v tt=false:=by cases h:Sn48.below v tt;rfl;exact absurd h c
    rw [c']
    exact k1 false u fe H5 (off fun _ _ _ e=>e) (vu.same s15)
end
end Pw
namespace Pw
open PySem L2
section
open Sn48
theorem sz_cons (c:Cell) (l:List Cell):sizeOf (c::l)=1 + sizeOf c + sizeOf l:=rfl
theorem sz_app:∀ (l l':List Cell),sizeOf (l++l') + 1=sizeOf l + sizeOf l'
 | [],l'=>by rw [List.nil_append];show sizeOf l' + 1=1 + sizeOf l';lia
 | c::l,l'=>by have:=sz_app l l';rw [List.cons_append,sz_cons,sz_cons];lia
theorem sz_filter:∀ (l:List Cell),sizeOf (l.filter Fl.ne)≤sizeOf l
 | []=>Nat.le_refl _
 | c::l=>by
  have:=sz_filter l
  rw [List.filter_cons]
  by_cases h:Fl.ne c=true
  ·rw [if_pos h,sz_cons,sz_cons];lia
  ·rw [if_neg h,sz_cons];lia
theorem sz_pos (c:Cell) (l:List Cell):sizeOf l < sizeOf (c::l):=by rw [sz_cons];lia
theorem sz_split {side m:F} {q:P} {ins:List Nat} {cs rest:List Cell}:sizeOf (cs.filter Fl.ne++rest) < sizeOf (Cell.split side m q ins cs::rest):=by
 have h1:=sz_filter cs
 have h2:=sz_app (cs.filter Fl.ne) rest
 rw [sz_cons]
 have e:sizeOf (Cell.split side m q ins cs)=1 + sizeOf side + sizeOf m + sizeOf q + sizeOf ins + sizeOf cs:=by simp
 lia
def Wait (N:Nat):List Cell→Prop
 | []=>True
 | c::rest=>(∃ n,n≤20∧Fl.COk N n c∧rest.length≤8 * (20 - n))∧Wait N rest
theorem Wait.len {N:Nat}:∀ {l:List Cell},Wait N l→l.length≤161
 | [],_=>Nat.zero_le _
 | c::l,⟨⟨n,h1,_,h2⟩,_⟩=>by rw [List.length_cons];lia
theorem Wait.parts {N n:Nat} {rest:List Cell} (hn:n≤20) (w:Wait N rest):∀ {cs:List Cell},(∀ c∈cs,Fl.COk N n c)→cs.length + rest.length≤8 * (20 - n) + 1→Wait N (cs++rest)
 | [],_,_=>w
 | c::cs,h,hl=>by
  rw [List.length_cons] at hl
  refine ⟨⟨n,hn,h c List.mem_cons_self,?_⟩,Wait.parts hn w (fun c hc=>h c (List.mem_cons_of_mem _ hc)) (by lia)⟩
  show (cs++rest).length≤_
  rw [List.length_append]
  lia
theorem Wait.split {N:Nat} {side m:F} {q:P} {ins:List Nat} {cs rest:List Cell} (w:Wait N (.split side m q ins cs::rest)):Wait N (cs.filter Fl.ne++rest)∧∃ n,n≤20∧Fl.COk N n (.split side m q ins cs):=by
 obtain ⟨⟨n,h1,h2,h3⟩,w⟩:=w
 refine ⟨?_,n,h1,h2⟩
 cases h2 with
 | split n' _ _ _ _ _ q1 q2 q3 q4 q5 q6 q7 =>
  have:=List.length_filter_le Fl.ne cs
  exact w.parts (n:=n') (by lia) (fun c hc=>q7 c (List.mem_filter.mp hc).1) (by lia)
theorem far_parts {far soft:F} {bs:List Body} {i N n:Nat} {side m:F} {q:P} {ins:List Nat} {l:List Cell} (hc:Fl.COk N n (.split side m q ins l)) (hn:n≤20) (a:P) (h:ins.contains i=false) :
  pulled ⟨far,soft,bs⟩ i 22 a (.split side m q ins l)=(farO far soft (pAt bs i) a side m q).bind fun x=>if x.1=true then some x.2 else (l.filter Fl.ne).foldlM (pulled ⟨far,soft,bs⟩ i 22) a:=by
 rw [Fl.pulled_parts hc hn,if_neg (by rw [h];decide)]
 unfold farO
 dsimp only
 cases minus q (pAt bs i) with
 | none=>rfl
 | some d =>
  simp only [Option.bind_some]
  cases square d with
  | none=>rfl
  | some s =>
   simp only [Option.bind_some]
   cases mul side side with
   | none=>rfl
   | some v =>
    simp only [Option.bind_some]
    cases mul far s with
    | none=>rfl
    | some t =>
     simp only [Option.bind_some]
     by_cases c:below v t=true
     ·rw [if_pos c,if_pos c]
      cases Fl.addOne soft a m d s <;> rfl
     ·rw [if_neg c,if_neg c]
      rfl
theorem farO_false {far soft:F} {p u r:P} {side m:F} {q:P} (h:farO far soft p u side m q=some (false,r)):r=u:=by
 unfold farO at h
 obtain ⟨_,_,h⟩:=Fl.bind_some h
 obtain ⟨_,_,h⟩:=Fl.bind_some h
 obtain ⟨_,_,h⟩:=Fl.bind_some h
 obtain ⟨_,_,h⟩:=Fl.bind_some h
 split at h
 ·obtain ⟨_,_,h⟩:=Option.map_eq_some_iff.mp h
  cases h
 ·cases h;rfl
end
theorem cells_last {K:PySem.W.Frag} {a:Ad} {H:Hp} {vs:List V} {cs:List Sn48.Cell} (h:CellsAt K a H vs.reverse cs) (hne:vs≠[]):∃ v c cs',cs=c::cs'∧vs[vs.length - 1]?=some v∧CellAt K a H v c∧CellsAt K a H vs.dropLast.reverse cs':=by
 obtain ⟨vs',v,rfl⟩:∃ vs' v,vs=vs'++[v]:=⟨_,_,(List.dropLast_concat_getLast hne).symm⟩
 rw [List.reverse_append] at h
 cases h with
 | cons h1 h2 =>
  refine ⟨v,_,_,rfl,?_,h1,?_⟩
  ·rw [List.length_append,List.length_singleton,Nat.add_sub_cancel,List.getElem?_append_right (Nat.le_refl _),Nat.sub_self];rfl
  ·rw [List.dropLast_concat];exact h2
theorem CellsAt.nil_of {K:PySem.W.Frag} {a:Ad} {H:Hp} {cs:List Sn48.Cell} (h:CellsAt K a H [] cs):cs=[]:=by cases h;rfl
theorem CellsAt.len {K:PySem.W.Frag} {a:Ad} {H:Hp}:∀ {vs:List V} {cs:List Sn48.Cell},CellsAt K a H vs cs→vs.length=cs.length
 | _,_,.nil=>rfl
 | _,_,.cons _ h=>by rw [List.length_cons,List.length_cons,CellsAt.len h]
def pZ_43 (K:PySem.W.Frag) (a:Ad):Sp:=fun vs H Q E=>∃ x i far soft bs t G,vs=[.ref x,.int (i:Nat)]∧FieldAt K a H x far soft bs t∧i < bs.length∧Fl.COk bs.length 20 t∧RsG (RV K) a.exc (Sn48.pulled ⟨far,soft,bs⟩ i 22 default t) G H Q E
def pZ_45 (K:PySem.W.Frag) (a:Ad):Sp:=fun vs H Q E=>∃ fv sv wv pv far soft bs G,vs=[fv,sv,wv,pv]∧Dbl K H fv far∧Dbl K H sv soft∧LstOf (RD K) wv H (bs.map (·.m))∧LstOf (RV K) pv H (bs.map (·.at_))∧bs.length≤4096∧(∀ b∈bs,Fl.BodyOk b)∧RsG (LstOf (RV K)) a.exc (Sn48.pulls ⟨far,soft,bs⟩) G H Q E
theorem vec_off {K:PySem.W.Frag} {H:Hp} {p q:Addr} {b:Sn48.P} {xs ys:List V} (h:Vec K H (.ref p) b) (hx:H q=some (.lst xs)) (hn:p≠q):Vec K (upd H q (.lst ys)) (.ref p) b:=by
 obtain ⟨p',x,y,z,e,h,d1,d2,d3⟩:=h
 cases e
 have o:Off q H (upd H q (.lst ys)):=Off.put _ _ _
 exact ⟨p,x,y,z,rfl,o _ _ hn h,d1.off hx rfl o,d2.off hx rfl o,d3.off hx rfl o⟩
section
variable {P:Program} {w:World} {K:PySem.W.Frag} {mg:Str→Option Value} {base:Heap} {a:Ad}
abbrev tZ4o:Stmt:=inClass (top 45) 1
theorem cZ1t:FnScope ["self","body","back","pull","waiting","cell","number"] ["self","body"] (defScope tZ4o):=by walk_at "sc"
theorem blk_Field_pull_on_1:BlkOk ["self","body","back","pull","waiting","cell","number"] (defScope tZ4o) ((scs 9 (defBody tZ4o)).getD 0 default) [("number",6)]:=blkOk_by (by decide +kernel)
theorem kZ05 (T:Tx K mg a) (F:Dfm K a.cField "pull_on" "Field.pull_on" tZ4o ["self","body"]) (R:Ar P w K mg base a) (S:Tc K mg a) (B_add_singles:Cm P w K mg base a.cField "add_singles" "Field.add_singles" tZ4n ["self","pull","cell","body","back"] 5 (pZ_3i K a)) (B_add_if_far:Cm P w K mg base a.cField "add_if_far" "Field.add_if_far" tZ4l ["self","pull","cell","back"] 5 (pZ_3g K a)):Cm P w K mg base a.cField "pull_on" "Field.pull_on" tZ4o ["self","body"] 6 (pZ_43 K a):=by
 refine .mk F cZ1t (fun vs H Q E h=>?_) (fun f cdv A outer s H vs Q E hr h th=>?_)
 ·obtain ⟨_,_,_,_,_,_,_,rfl,_⟩:=h
  rfl
 ·obtain ⟨x,i,far,soft,bs,t,G,rfl,fa,hi,ok,k⟩:=h
  have fa':=fa
  obtain ⟨dx,fv,sov,wsv,psv,cfv,hx,dfar,dsoft,lw,⟨pa,pxs,rfl,hp,pr⟩,ct⟩:=fa'
  refine ⟨_,(pZ (ps_setLcX (i:=2) th rfl rfl rfl cZ1t.nd rfl rfl (sw_true rfl rfl rfl rfl) (pi_list (pxK K (pfK K (pv 0)) (pv 1))) blk_Field_pull_on_1 (fun _ _ _ _ _ _ _=>(pg_name (i:=6) cZ1t.nd rfl (Or.inl rfl))) (fun _ _ _ _ _ _ _ thb=>pts_nil) (fun _ _ _ _ _ _ _ thb=>(pb R.opposite hr thb (pY (pv 6) pN))))
   (pZ (ps_set (i:=3) cZ1t.nd rfl (Or.inl rfl) (pe_lst (pY (pe_gl T.pz) (pY (pe_gl T.pz) (pY (pe_gl T.pz) pN)))))
   (pZ (ps_set (i:=4) cZ1t.nd rfl (Or.inl rfl) (pe_lst (pY (pfK K (pv 0)) pN)))
   (pZ (ps_while th.own (pt_truth (pv 4) (fun _=>rfl)) (pZ (ps_set (i:=5) cZ1t.nd rfl (Or.inl rfl) (ppop (pv 4)))
    (pO (ps_if (pt_truth (pfK K (pv 5)) (fun _=>rfl)) (pO (ps_expr (pbm B_add_singles S.cField.cls hr th (pv 0) (pY (pv 3) (pY (pv 5) (pY (pv 1) (pY (pv 2) pN))))))) (pO (ps_if (PW.pt (pw_or (pt_cmp (pc_din (hu_of hr) (pv 1) (pfK K (pv 5)))) (pw_or1 (pt_not (pt_val (pbm B_add_if_far S.cField.cls hr th (pv 0) (pY (pv 3) (pY (pv 5) (pY (pv 2) pN))))))))) (pO (ps_expr (pext (pv 4) (pY (pe_listRev rfl rfl T.list rfl T.rev (pY (pfK K (pv 5)) pN)) pN)))) pss_nil))))))
   (pO (ps_ret (pv 3))))))),?_⟩
  walk_at "rd"
  obtain ⟨vb_,hvb,vp⟩:=Paired.at pr (getD_map (f:=(·.at_)) hi)
  obtain ⟨bq,p1,p2,p3,rfl,hbq,dp1,dp2,dp3⟩:=vp
  have pm:Paired (fun v b=>Dbl K H v b) [p1,p2,p3] [(pAt bs i).x,(pAt bs i).y,(pAt bs i).z]:=.cons dp1 (.cons dp2 (.cons dp3 .nil))
  refine tLc_items (K:=K) (G:=H) (C:=a.exc) (E:=E) (ys:=[(pAt bs i).x,(pAt bs i).y,(pAt bs i).z]) (f:=fun b=>some (Sn48.opposite b)) (R:=RD K) (fun F hF=>⟨_,rfl,_,_,_,_,_,rfl,hx,S.cField.cls,S.f_places,rfl,_,rfl,pa,pxs,_,.ref bq,rfl,rfl,SqL.of hp,atI_nat hvb,hF⟩) mRD (SqL.of hbq) (by show 3≤sizeLine;decide) rfl (Same.refl _) (fun _=>rfl) ?_ ?_
  rotate_left
  ·intro j v b H' Q' hv' hb' s' G' g1 g2 k'
   obtain ⟨b',hb'',d⟩:=Paired.at' pm hv'
   rw [hb'] at hb''
   cases hb''
   exact ⟨_,rfl,v,b,rfl,d.same s',RsD k'⟩
  rw [mapM_pure]
  refine RsG.pur fun bv H1 s1 rb=>?_
  have vb1:Vec K H1 bv (oppP (pAt bs i)):=vec_of (LstOf.mono mRD _ _ _ _ vw_sub rb)
  have fa1:=fa.same s1
  intro pu hpu
  have n2:Same H1 (upd H1 pu (.lst [V.ref a.pz,V.ref a.pz,V.ref a.pz])):=Same.new hpu
  refine ⟨_,_,_,n2 _ _ (s1 _ _ hx),S.cField.cls,S.f_first,_,rfl,fun wq hwq=>?_⟩
  have hwq1:H1 wq=none:=n2.free hwq
  have puwq:pu≠wq:=fun e=>by rw [← e,uS] at hwq;cases hwq
  have n3:=Same.new (o:=.lst [cfv]) hwq
  have ct1:CellAt K a H1 cfv t:=ct.same s1
  refine ⟨fun m σ Hc=>Same H1 Hc∧(∃ y5 y6,σ=[some (.ref x),some (.int (i:Nat)),some bv,some (.ref pu),some (.ref wq),y5,y6])∧∃ b vs todo,m=sizeOf todo∧Vec K Hc (.ref pu) b∧Hc wq=some (.lst vs)∧CellsAt K a H1 vs.reverse todo∧Wait bs.length todo∧todo.foldlM (Sn48.pulled ⟨far,soft,bs⟩ i 22) b=Sn48.pulled ⟨far,soft,bs⟩ i 22 default t,⟨_,n2.trans n3,⟨_,_,rfl⟩,default,[cfv],[t],rfl,?_,uS,.cons ct1 .nil,⟨⟨20,Nat.le_refl _,ok,Nat.zero_le _⟩,trivial⟩,?_⟩,?_⟩
  ·exact ⟨pu,_,_,_,rfl,n3 _ _ uS,dbl_pz T _,dbl_pz T _,dbl_pz T _⟩
  ·rw [Fl.foldlM_cons]
   cases Sn48.pulled ⟨far,soft,bs⟩ i 22 default t <;> rfl
  ·rintro m σ Hc ⟨sc,⟨y5,y6,rfl⟩,b,vs,todo,rfl,vu,hvs,cs,wt,ef⟩
   refine ⟨_,rfl,!vs.isEmpty,.inl ⟨vs,SqL.of hvs,rfl⟩,?_⟩
   dsimp only
   by_cases ce:vs=[]
   ·subst ce
    rw [if_neg (by decide)]
    have:=CellsAt.nil_of cs
    subst this
    refine ⟨_,rfl,k.1 b ef.symm _ _ (s1.trans sc) (Vec.vw' vu (s1.free hpu))⟩
   ·rw [if_pos (by cases vs with | nil=>exact absurd rfl ce | cons _ _=>rfl)]
    obtain ⟨v,c,todo,rfl,hv,hc,hcs⟩:=cells_last cs ce
    refine ⟨_,fun σ' H' h=>h,?_⟩
    have ww:=wt.2
    rw [Fl.foldlM_cons] at ef
    have vlen:vs.length≤161:=by rw [← List.length_reverse,cs.len];exact wt.len
    have sP:Same H1 (upd Hc wq (.lst vs.dropLast)):=sc.upd hwq1
    have vuP:Vec K (upd Hc wq (.lst vs.dropLast)) (.ref pu) b:=vec_off vu hvs puwq
    have hwP:(upd Hc wq (.lst vs.dropLast)) wq=some (.lst vs.dropLast):=uS
    walk_at "rd"
    refine ⟨.inl ⟨rfl,_,SqL.of hvs⟩,?_⟩
    refine ⟨vs,rfl,v,hv,?_⟩
    generalize upd Hc wq (.lst vs.dropLast)=HP at *
    have kn:∀ H',Same H1 H'→Sn48.pulled ⟨far,soft,bs⟩ i 22 default t=none→E (.ref a.exc) none H':=fun H' s' e=>k.2 e H' (s1.trans s')
    cases hc with
    | some_ hl0 hcx hcs' =>
     rename_i cx cdx csa cpl l
     refine ⟨cx,rfl,_,_,_,sP _ _ hcx,S.cCell.cls,S.c_singles,_,rfl,true,.inl ⟨_,SqL.of (sP _ _ hcs'),?_⟩,?_⟩
     ·cases l with
      | nil=>exact absurd rfl hl0
      | cons _ _=>rfl
     rw [if_pos rfl]
     obtain ⟨⟨n,hn,okc,_⟩,_⟩:=wt
     have hli:∀ j∈l,j < bs.length:=by cases okc with | some_ _ _ h _=>exact h
     refine ⟨_,_,sP _ _ (s1 _ _ hx),rfl,x,pu,.ref cx,i,bv,far,soft,bs,t,l,b,H1,rfl,sP,hpu,fa1,.some_ hl0 hcx hcs',hli,vb1,vuP,⟨fun r er H5 o5 v5=>?_,fun e H5 o5=>kn H5 (fun b z e=>o5 b z (nN e hpu) (sP b z e)) (by rw [← ef,e];rfl)⟩⟩
     exact ⟨_,sz_pos _ _,fun b z e=>o5 b z (nN e hpu) (sP b z e),⟨_,rfl⟩,r,vs.dropLast,todo,rfl,v5,o5 _ _ (Ne.symm puwq) hwP,hcs,ww,by rw [← ef,er];rfl⟩
    | split hcx hs hpl hcs' hmem dside dm vq =>
     rename_i cx cdx csa cpl md cvs sdv wv_ pv_ side m q ins l
     refine ⟨cx,rfl,_,_,_,sP _ _ hcx,S.cCell.cls,S.c_singles,_,rfl,false,.inl ⟨_,SqL.of (sP _ _ hs),rfl⟩,?_⟩
     rw [if_neg (by decide)]
     obtain ⟨kvs,hmd,hmemb⟩:=id hmem
     refine ⟨cx,rfl,_,_,_,sP _ _ hcx,S.cCell.cls,S.c_members,_,rfl,md,rfl,valV kvs (Sum.inl ((i:Nat):Int)),.inl ⟨kvs,Sum.inl ((i:Nat):Int),Rd.of (sP _ _ hmd),rfl,rfl⟩,?_⟩
     rw [hmemb i]
     obtain ⟨n,hn,okc⟩:=wt.split.2
     have wsp:=wt.split.1
     have cl8:cvs.length≤8:=by
      rw [hcs'.len]
      cases okc with
      | split _ _ _ _ _ _ _ _ _ _ _ h8 _=>exact Nat.le_trans (List.length_filter_le _ _) (Nat.le_of_eq h8)
     have dl161:vs.dropLast.length≤161:=by rw [List.length_dropLast];lia
     have tail:∀ HX,Same H1 HX→Vec K HX (.ref pu) b→HX wq=some (.lst vs.dropLast)→((l.filter Fl.ne).foldlM (Sn48.pulled ⟨far,soft,bs⟩ i 22) b).bind (fun b'=>todo.foldlM (Sn48.pulled ⟨far,soft,bs⟩ i 22) b')=Sn48.pulled ⟨far,soft,bs⟩ i 22 default t→∀ l1,HX l1=none →
       ∃ m',m' < sizeOf (Sn48.Cell.split side m q ins l::todo)∧Same H1 (upd (upd HX l1 (.lst cvs.reverse)) wq (.lst (vs.dropLast++cvs.reverse)))∧(∃ x,y6=x)∧∃ b vs' todo,m'=sizeOf todo∧Vec K (upd (upd HX l1 (.lst cvs.reverse)) wq (.lst (vs.dropLast++cvs.reverse))) (.ref pu) b∧(upd (upd HX l1 (.lst cvs.reverse)) wq (.lst (vs.dropLast++cvs.reverse))) wq=some (.lst vs')∧CellsAt K a H1 vs'.reverse todo∧Wait bs.length todo∧todo.foldlM (Sn48.pulled ⟨far,soft,bs⟩ i 22) b=Sn48.pulled ⟨far,soft,bs⟩ i 22 default t:=fun HX sX vX hwX e l1 hl1=>by
      have nl:Same HX (upd HX l1 (.lst cvs.reverse)):=Same.new hl1
      refine ⟨_,sz_split (rest:=todo),(sX.trans nl).upd hwq1,⟨_,rfl⟩,b,_,l.filter Fl.ne++todo,rfl,vec_off (vX.same nl) (nl _ _ hwX) puwq,uS,?_,wsp,?_⟩
      ·rw [List.reverse_append,List.reverse_reverse]
       exact CellsAt.append hcs hcs'
      ·rw [foldM_app]
       exact e
     by_cases cin:ins.contains i=true
     ·rw [if_pos cin]
      rw [Fl.pulled_parts okc hn,if_pos cin] at ef
      exact ⟨.inl ⟨rfl,_,SqL.of hwP⟩,cx,rfl,_,_,_,sP _ _ hcx,S.cCell.cls,S.c_parts,_,rfl,cpl,rfl,cvs,SqL.of (sP _ _ hpl),fun l1 hl1=>⟨vs.dropLast,by rw [uN (nN hwP hl1)];exact hwP,cvs.reverse,uS,by rw [List.length_reverse,sizeLine_eq];lia,tail HP sP vuP hwP ef l1 hl1⟩⟩
     ·have cin':ins.contains i=false:=by cases h:ins.contains i;rfl;exact absurd h cin
      rw [if_neg cin]
      rw [far_parts okc hn b cin'] at ef
      refine ⟨_,_,sP _ _ (s1 _ _ hx),rfl,x,pu,.ref cx,i,bv,far,soft,bs,t,side,m,q,ins,l,b,H1,rfl,sP,hpu,fa1,.split hcx hs hpl hcs' hmem dside dm vq,vb1,vuP,fun bb r er H5 o5 v5=>⟨bb,rfl,?_⟩,fun e H5 o5=>kn H5 (fun b z e=>o5 b z (nN e hpu) (sP b z e)) (by rw [← ef,e];rfl)⟩
      have s5:Same H1 H5:=fun b z e=>o5 b z (nN e hpu) (sP b z e)
      have hw5:=o5 _ _ (Ne.symm puwq) hwP
      rw [er,Option.bind_some] at ef
      cases bb with
      | false =>
       have er':=farO_false er
       subst er'
       rw [if_pos rfl]
       rw [if_neg (by show ¬(false=true);decide)] at ef
       exact ⟨.inl ⟨rfl,_,SqL.of hw5⟩,cx,rfl,_,_,_,s5 _ _ hcx,S.cCell.cls,S.c_parts,_,rfl,cpl,rfl,cvs,SqL.of (s5 _ _ hpl),fun l1 hl1=>⟨vs.dropLast,by rw [uN (nN hw5 hl1)];exact hw5,cvs.reverse,uS,by rw [List.length_reverse,sizeLine_eq];lia,tail H5 s5 v5 hw5 ef l1 hl1⟩⟩
      | true =>
       rw [if_neg (by decide)]
       rw [if_pos rfl] at ef
       exact ⟨_,sz_pos _ _,s5,⟨_,rfl⟩,r,vs.dropLast,todo,rfl,v5,hw5,hcs,ww,ef⟩
abbrev tZ5t:Stmt:=top 46
theorem cZ2y:FnScope ["far","soft","weights","places","field","body"] ["far","soft","weights","places"] (defScope tZ5t):=by walk_at "sc"
theorem blk_pulls_of_1:BlkOk ["far","soft","weights","places","field","body"] (defScope tZ5t) ((scs 9 (defBody tZ5t)).getD 0 default) [("body",5)]:=blkOk_by (by decide +kernel)
theorem kZ1a (T:Tx K mg a) (F:Df K mg "pulls_of" tZ5t ["far","soft","weights","places"]) (R:Ar P w K mg base a) (S:Tc K mg a) (B_Field:Cm P w K mg base a.cField "__init__" "Field.__init__" tZ4k ["self","far","soft","weights","places"] 28 (pZ_3d K a)) (B_pull_on:Cm P w K mg base a.cField "pull_on" "Field.pull_on" tZ4o ["self","body"] 6 (pZ_43 K a)):Cb P w K mg base "pulls_of" tZ5t ["far","soft","weights","places"] 30 (pZ_45 K a):=by
 refine .mk F cZ2y (fun vs H Q E h=>?_) (fun f cdv A outer s H vs Q E hr h th=>?_)
 ·obtain ⟨_,_,_,_,_,_,_,_,rfl,_⟩:=h
  rfl
 ·obtain ⟨fv,sv,wv,_,far,soft,bs,G,rfl,df,ds,lw,⟨pa,pxs,rfl,hp,pr⟩,hnb,bok,k⟩:=h
  refine ⟨_,(pZ (ps_if (pt_cmpR op_eq (plen T.len (pv 3)) pI (nomark _)) (pO (ps_ret (pe_lst pN))) pss_nil)
   (pZ (ps_set (i:=4) cZ2y.nd rfl (Or.inr rfl) (pmk B_Field S.cField hr th (pY (pv 0) (pY (pv 1) (pY (pv 2) (pY (pv 3) pN))))))
   (pO (ps_ret (pe_lcX th rfl rfl rfl cZ2y.nd (pi_range1 rfl T.range (pY (plen T.len (pv 3)) pN)) blk_pulls_of_1 (fun _ _ _ _ _ _ _=>(pg_name (i:=5) cZ2y.nd rfl (Or.inl rfl))) (fun _ _ _ _ _ _ _ thb=>pts_nil) (fun _ _ _ _ _ _ _ thb=>(pbm B_pull_on S.cField.cls hr thb (pv 4) (pY (pv 5) pN)))))))),?_⟩
  walk_at "rd"
  have hlen:pxs.length=bs.length:=by rw [Paired.len pr,List.length_map]
  refine ⟨pxs,.inl (SqL.of hp),?_⟩
  by_cases c0:bs=[]
  ·subst c0
   rw [if_pos (by rw [hlen];rfl)]
   rw [Fl.pulls_nil rfl] at k
   exact ⟨Nat.zero_le _,fun p hp'=>k.ret (Same.new hp') ⟨p,[],rfl,vw_new uS hp',.nil⟩⟩
  ·have hl0:bs.length≠0:=fun z=>c0 (List.eq_nil_of_length_eq_zero z)
   rw [if_neg (by rw [hlen];lia)]
   rw [Fl.pulls_eq _ c0] at k
   intro x dx hx0 hdx0 hdx
   have s1:Same H (upd (upd H dx (.own x)) x (.ins a.cField dx [])):=(Same.new hdx0).trans (Same.new (by rw [uN (Ne.symm hdx)];exact hx0))
   refine ⟨x,dx,fv,sv,wv,.ref pa,far,soft,bs,H,rfl,uS,s1,hx0,df,ds,lw,⟨pa,pxs,rfl,hp,pr⟩,c0,hnb,bok,fun t et H2 o2 fa=>⟨rfl,?_⟩,fun et H2 o2=>k.2 (by dsimp only;rw [et];rfl) H2 (fun b z e=>o2 b z (nN e hx0) (s1 b z e))⟩
   have s2:Same H H2:=fun b z e=>o2 b z (nN e hx0) (s1 b z e)
   dsimp only at k
   rw [et,Option.bind_some] at k
   have ok:=Fl.tree_ok bok et
   refine tLc_upto (G:=vw G H H2) (C:=a.exc) (E:=E) (n:=((bs.length:Nat):Int)) (ys:=List.range bs.length) (f:=fun i=>Sn48.pulled ⟨far,soft,bs⟩ i 22 default t) (R:=RV K) (fun F hF=>⟨_,rfl,pa,pxs,rfl,.inl (SqL.of (s2 _ _ hp)),by rw [hlen];exact hF⟩) mRV (by lia) (by lia) (by rw [List.length_range];rfl) vw_sub (fun _=>rfl) (k.same (LstOf.mono mRV) s2) ?_
   intro i y H3 Q2 hi hy s3 G2 g1 g2 k2
   have hi':i < bs.length:=by lia
   have:y=i:=by rw [List.getElem?_range hi'] at hy;exact (Option.some.inj hy).symm
   subst this
   obtain ⟨dx',fv',sv',wv',pv',cv',hx',rest⟩:=id fa
   refine ⟨_,rfl,x,dx',_,rfl,s3 _ _ hx',rfl,_,rfl,x,y,far,soft,bs,t,G2,rfl,fa.same s3,hi',ok,k2⟩
end
end Pw
namespace Pw
open PySem L2
def pZ_3x (K:PySem.W.Frag) (C:Addr):Sp:=fun vs H Q E=>∃ v l G,vs=[v]∧RIL v H l∧(∀ b∈l,Fl.Ok b)∧l.length≤4096∧RsG (LstOf (RD K)) C (some l) G H Q E
def pZ_4e (K:PySem.W.Frag) (C:Addr):Sp:=fun vs H Q E=>∃ v l G,vs=[v]∧LstOf (RD K) v H l∧l.length≤4096∧RsG RIL C (some l) G H Q E
def pZ_48 (K:PySem.W.Frag) (C:Addr):Sp:=fun vs H Q E=>∃ v f u p k q G,vs=[v,f,u]∧Vec K H v p∧Dbl K H f k∧Vec K H u q∧RsG (RV K) C (Fl.axp p k q) G H Q E
def pZ_49 (K:PySem.W.Frag) (C:Addr):Sp:=fun vs H Q E=>∃ v f u ps k qs G,vs=[v,f,u]∧LstOf (RV K) v H ps∧Dbl K H f k∧LstOf (RV K) u H qs∧ps.length=qs.length∧ps.length≤4096∧RsG (LstOf (RV K)) C (Fl.rowsP ps k qs) G H Q E
theorem lst_ril {H:Hp} {v:V} {l:List Nat} (h:LstOf (fun v _ (i:Int)=>v=.int i) v H (l.map fun i=>((i:Nat):Int))):RIL v H l:=by
 obtain ⟨p,xs,e,hp,pr⟩:=h
 refine ⟨p,e,?_⟩
 have:xs=l.map fun i=>V.int (i:Nat):=by
  clear hp e
  induction l generalizing xs with
  | nil=>cases pr;rfl
  | cons i l ih =>
   cases pr with
   | cons h1 h2=>rw [h1,ih _ h2];rfl
 rw [← this]
 exact hp
theorem mRI:Mono RI:=fun _ _ _ _ _ h=>h
section
variable {P:Program} {w:World} {K:PySem.W.Frag} {mg:Str→Option Value} {base:Heap} {a:Ad}
abbrev tZ5c:Stmt:=top 48
theorem cZ2h:FnScope ["row","bits"] ["row"] (defScope tZ5c):=by walk_at "sc"
theorem blk_from_all_bits_1:BlkOk ["row","bits"] (defScope tZ5c) ((scs 9 (defBody tZ5c)).getD 0 default) [("bits",1)]:=blkOk_by (by decide +kernel)
theorem kZ0t (T:Tx K mg a) (F:Df K mg "from_all_bits" tZ5c ["row"]) (R:Ar P w K mg base a):Cb P w K mg base "from_all_bits" tZ5c ["row"] 2 (pZ_3x K a.exc):=by
 refine .mk F cZ2h (fun vs H Q E h=>?_) (fun f cdv A outer s H vs Q E hr h th=>?_)
 ·obtain ⟨_,_,_,rfl,_⟩:=h
  rfl
 ·obtain ⟨_,l,G,rfl,⟨p,rfl,hp⟩,hok,hn,k⟩:=h
  refine ⟨_,(pO (ps_ret (pe_lcX th rfl rfl rfl cZ2h.nd (pi_list (pv 0)) blk_from_all_bits_1 (fun _ _ _ _ _ _ _=>(pg_name (i:=1) cZ2h.nd rfl (Or.inl rfl))) (fun _ _ _ _ _ _ _ thb=>pts_nil) (fun _ _ _ _ _ _ _ thb=>(pb R.from_bits hr thb (pY (pv 1) pN)))))),?_⟩
  walk_at "rd"
  refine tLc_items (K:=K) (G:=vw G H H) (C:=a.exc) (E:=E) (ys:=l) (f:=fun b=>some b) (R:=RD K) (fun F hF=>⟨_,rfl,hF⟩) mRD (SqL.of hp) (by rw [List.length_map,sizeLine_eq];omega) (by rw [List.length_map]) vw_sub (fun _=>rfl) ?_ ?_
  ·rw [mapM_pure (fun b=>b),List.map_id']
   exact k.same (LstOf.mono mRD) (Same.refl _)
  ·intro i v b H2 Q2 hv hb s2 G2 g1 g2 k2
   rw [List.getElem?_map,hb] at hv
   cases hv
   exact ⟨_,rfl,b,rfl,hok b (List.mem_of_getElem? hb),RsD k2⟩
abbrev tZ61:Stmt:=top 49
theorem cZ36:FnScope ["row","number"] ["row"] (defScope tZ61):=by walk_at "sc"
theorem blk_to_all_bits_1:BlkOk ["row","number"] (defScope tZ61) ((scs 9 (defBody tZ61)).getD 0 default) [("number",1)]:=blkOk_by (by decide +kernel)
theorem kZ1i (T:Tx K mg a) (F:Df K mg "to_all_bits" tZ61 ["row"]) (R:Ar P w K mg base a):Cb P w K mg base "to_all_bits" tZ61 ["row"] 2 (pZ_4e K a.exc):=by
 refine .mk F cZ36 (fun vs H Q E h=>?_) (fun f cdv A outer s H vs Q E hr h th=>?_)
 ·obtain ⟨_,_,_,rfl,_⟩:=h
  rfl
 ·obtain ⟨_,l,G,rfl,⟨p,xs,rfl,hp,pr⟩,hn,k⟩:=h
  refine ⟨_,(pO (ps_ret (pe_lcX th rfl rfl rfl cZ36.nd (pi_list (pv 0)) blk_to_all_bits_1 (fun _ _ _ _ _ _ _=>(pg_name (i:=1) cZ36.nd rfl (Or.inl rfl))) (fun _ _ _ _ _ _ _ thb=>pts_nil) (fun _ _ _ _ _ _ _ thb=>(pb R.to_bits hr thb (pY (pv 1) pN)))))),?_⟩
  walk_at "rd"
  refine tLc_items (K:=K) (G:=vw G H H) (C:=a.exc) (E:=E) (ys:=l) (f:=fun b=>some ((b:Nat):Int)) (R:=RI) (fun F hF=>⟨_,rfl,hF⟩) mRI (SqL.of hp) (by rw [Paired.len pr,sizeLine_eq];omega) (Paired.len pr) vw_sub (fun _=>rfl) ?_ ?_
  ·rw [mapM_pure (fun b=>((b:Nat):Int))]
   exact RsG.pur fun v H2 s2 r2=>k.ret s2 (lst_ril (LstOf.mono mRI _ _ _ _ (vw_comp (Same.refl _) s2) r2))
  ·intro i v b H2 Q2 hv hb s2 G2 g1 g2 k2
   obtain ⟨b',hb',d⟩:=Paired.at' pr hv
   rw [hb] at hb'
   cases hb'
   exact ⟨_,rfl,v,b,rfl,d.same s2,.pur fun v3 H3 s3 e3=>k2.ret s3 e3⟩
abbrev tZ5w:Stmt:=top 50
theorem cZ31:FnScope ["row","factor","other","axis"] ["row","factor","other"] (defScope tZ5w):=by walk_at "sc"
theorem blk_row_plus_1:BlkOk ["row","factor","other","axis"] (defScope tZ5w) ((scs 9 (defBody tZ5w)).getD 0 default) [("axis",3)]:=blkOk_by (by decide +kernel)
theorem kZ1d (T:Tx K mg a) (F:Df K mg "row_plus" tZ5w ["row","factor","other"]) (R:Ar P w K mg base a):Cb P w K mg base "row_plus" tZ5w ["row","factor","other"] 4 (pZ_48 K a.exc):=by
 refine .mk F cZ31 (fun vs H Q E h=>?_) (fun f cdv A outer s H vs Q E hr h th=>?_)
 ·obtain ⟨_,_,_,_,_,_,_,rfl,_⟩:=h
  rfl
 ·obtain ⟨v,f_,u,p,kk,q,G,rfl,vp,df,vq,k⟩:=h
  refine ⟨_,(pO (ps_ret (pe_lcX th rfl rfl rfl cZ31.nd (pi_range1 rfl T.range (pY pI pN)) blk_row_plus_1 (fun _ _ _ _ _ _ _=>(pg_name (i:=3) cZ31.nd rfl (Or.inl rfl))) (fun _ _ _ _ _ _ _ thb=>pts_nil) (fun _ _ _ _ _ _ _ thb=>(pb R.plus hr thb (pY (pxK K (pv 0) (pv 3)) (pY (pb R.times hr thb (pY (pv 1) (pY (pxK K (pv 2) (pv 3)) pN))) pN))))))),?_⟩
  walk_at "rd"
  refine tLc_upto (G:=vw G H H) (C:=a.exc) (E:=E) (n:=3) (ys:=List.range 3) (f:=fun i=>wx i kk q p) (R:=RD K) (fun F hF=>hF) mRD (by decide) (by decide) rfl vw_sub (fun _=>rfl) ⟨fun cs ecs v2 H2 s2 r2=>?_,fun e H2 s2=>k.2 ?_ H2 s2⟩ ?_
  ·obtain ⟨x,y,z,rfl,h0,h1,h2⟩:=range3 ecs
   refine k.1 ⟨x,y,z⟩ ?_ v2 H2 s2 (vec_of (LstOf.mono mRD _ _ _ _ (vw_comp (Same.refl _) s2) r2))
   have h0:(Sn48.mul kk q.x).bind (Sn48.add p.x)=some x:=h0
   have h1:(Sn48.mul kk q.y).bind (Sn48.add p.y)=some y:=h1
   have h2:(Sn48.mul kk q.z).bind (Sn48.add p.z)=some z:=h2
   rw [Fl.axp_eq,h0,h1,h2]
   rfl
  ·have e':List.range 3=[0,1,2]:=rfl
   rw [e',Fl.mapM_cons,Fl.mapM_cons,Fl.mapM_cons,Fl.mapM_nil] at e
   cases h0:wx 0 kk q p with
   | none=>exact axp_no (by decide) h0
   | some x =>
    cases h1:wx 1 kk q p with
    | none=>exact axp_no (i:=1) (by decide) h1
    | some y =>
     cases h2:wx 2 kk q p with
     | none=>exact axp_no (i:=2) (by decide) h2
     | some z=>rw [h0,h1,h2] at e;cases e
  ·intro i y H2 Q2 hi hy s2 G2 g1 g2 k2
   have hi:i < 3:=hi
   have:y=i:=by rw [List.getElem?_range hi] at hy;exact (Option.some.inj hy).symm
   subst this
   obtain ⟨q1,xs1,x1,rfl,hq1,hx1,d1⟩:=vec_at vp hi
   obtain ⟨q2,xs2,x2,rfl,hq2,hx2,d2⟩:=vec_at vq hi
   refine ⟨_,rfl,_,rfl,q1,xs1,_,x1,rfl,rfl,SqL.of (s2 _ _ hq1),atI_nat hx1,_,rfl,_,rfl,_,rfl,q2,xs2,_,x2,rfl,rfl,SqL.of (s2 _ _ hq2),atI_nat hx2,f_,x2,kk,_,rfl,df.same s2,d2.same s2,⟨fun r er v3 H3 s3 d3=>?_,fun e H3 s3=>k2.2 (by unfold wx;rw [e];rfl) H3 s3⟩⟩
   exact ⟨x1,v3,_,r,rfl,d1.same (s2.trans s3),d3,⟨fun r2 er2 v4 H4 s4 d4=>k2.1 r2 (by unfold wx;rw [er,Option.bind_some,er2]) v4 H4 (s3.trans s4) (Dbl.vw d4),fun e H4 s4=>k2.2 (by unfold wx;rw [er,Option.bind_some,e]) H4 (s3.trans s4)⟩⟩
abbrev tZ5x:Stmt:=top 51
theorem cZ32:FnScope ["rows","factor","others","row","other"] ["rows","factor","others"] (defScope tZ5x):=by walk_at "sc"
theorem blk_rows_plus_1:BlkOk ["rows","factor","others","row","other"] (defScope tZ5x) ((scs 9 (defBody tZ5x)).getD 0 default) [("row",3),("other",4)]:=blkOk_by (by decide +kernel)
theorem kZ1e (T:Tx K mg a) (F:Df K mg "rows_plus" tZ5x ["rows","factor","others"]) (R:Ar P w K mg base a) (B_row_plus:Cb P w K mg base "row_plus" tZ5w ["row","factor","other"] 4 (pZ_48 K a.exc)):Cb P w K mg base "rows_plus" tZ5x ["rows","factor","others"] 5 (pZ_49 K a.exc):=by
 refine .mk F cZ32 (fun vs H Q E h=>?_) (fun f cdv A outer s H vs Q E hr h th=>?_)
 ·obtain ⟨_,_,_,_,_,_,_,rfl,_⟩:=h
  rfl
 ·obtain ⟨_,f_,_,ps,kk,qs,G,rfl,⟨pa,pxs,rfl,hp,pr⟩,df,⟨qa,qxs,rfl,hq,qr⟩,hl,hn,k⟩:=h
  refine ⟨_,(pO (ps_ret (pe_lcX th rfl rfl rfl cZ32.nd (pi_zip rfl T.zip (pY (pv 0) (pY (pv 2) pN))) blk_rows_plus_1 (fun _ _ _ _ _ _ _=>(pgt K (n:=2) rfl (pgs_cons (pg_name (i:=3) cZ32.nd rfl (Or.inl rfl)) (pgs_cons (pg_name (i:=4) cZ32.nd rfl (Or.inl rfl)) pgs_nil)))) (fun _ _ _ _ _ _ _ thb=>pts_nil) (fun _ _ _ _ _ _ _ thb=>(pb B_row_plus hr thb (pY (pv 3) (pY (pv 1) (pY (pv 4) pN)))))))),?_⟩
  walk_at "rd"
  have hz:(ps.zip qs).length=ps.length:=by rw [List.length_zip];omega
  refine tLc_zip (K:=K) (G:=vw G H H) (C:=a.exc) (E:=E) (zs:=ps.zip qs) (f:=fun (x:Sn48.P × Sn48.P)=>Fl.axp x.1 kk x.2) (R:=RV K) (fun F hF=>⟨_,rfl,_,rfl,hF⟩) mRV (SqL.of hp) (SqL.of hq) (by rw [Paired.len pr,sizeLine_eq];omega) (by rw [Paired.len pr,hz]) (by rw [Paired.len qr,hz,hl]) vw_sub (fun _ _=>rfl) (k.same (LstOf.mono mRV) (Same.refl _)) ?_
  intro i x y z H2 Q2 hx hy hz' s2 G2 g1 g2 k2
  obtain ⟨p,hp',vp⟩:=Paired.at' pr hx
  obtain ⟨q,hq',vq⟩:=Paired.at' qr hy
  have ez:z=(p,q):=by
   rw [List.getElem?_zip_eq_some (z:=(p,q)) |>.mpr ⟨hp',hq'⟩] at hz'
   exact (Option.some.inj hz').symm
  subst ez
  exact ⟨_,rfl,_,rfl,_,rfl,x,f_,y,p,kk,q,G2,rfl,Vec.same vp s2,df.same s2,Vec.same vq s2,k2⟩
end
end Pw
namespace Pw
open PySem L2
abbrev mf (f s w p v:V):List (Str × V):=[("far",f),("soft",s),("weights",w),("places",p),("speeds",v)]
def MotionAt (K:PySem.W.Frag) (a:Ad) (H:Hp) (x:Addr) (far soft:Nat) (ms:List Nat) (ps vs:List Sn48.P):Prop:=∃ dx fv sv wv pv vv,H x=some (.ins a.cMotion dx (mf fv sv wv pv vv))∧Dbl K H fv far∧Dbl K H sv soft∧LstOf (RD K) wv H ms∧LstOf (RV K) pv H ps∧LstOf (RV K) vv H vs
section
variable {K:PySem.W.Frag} {a:Ad} {H H':Hp} {x:Addr} {far soft:Nat} {ms:List Nat} {ps vs:List Sn48.P}
theorem MotionAt.same (h:MotionAt K a H x far soft ms ps vs) (s:Same H H'):MotionAt K a H' x far soft ms ps vs:=by
 obtain ⟨dx,fv,sv,wv,pv,vv,h,d1,d2,l1,l2,l3⟩:=h
 exact ⟨dx,fv,sv,wv,pv,vv,s _ _ h,d1.same s,d2.same s,LstOf.mono mRD _ _ _ _ s l1,LstOf.mono mRV _ _ _ _ s l2,LstOf.mono mRV _ _ _ _ s l3⟩
theorem dbl_dl {C dx:Addr} {fs:List (Str × V)} {v:V} {b:Nat} (hx:H x=some (.ins C dx fs)) (d:Dbl K H v b):Dbl K (dl H x) v b:=by
 obtain ⟨z,m,e,rfl,h,r⟩:=d
 exact ⟨z,m,e,rfl,h.elim (fun h=>.inl (dl_iff.mpr ⟨fun y=>(by subst y;rw [hx] at h;cases h),h⟩)) .inr,r⟩
theorem vec_dl {C dx:Addr} {fs:List (Str × V)} {v:V} {p:Sn48.P} (hx:H x=some (.ins C dx fs)) (h:Vec K H v p):Vec K (dl H x) v p:=by
 obtain ⟨q,x1,x2,x3,e,h,d1,d2,d3⟩:=h
 exact ⟨q,x1,x2,x3,e,dl_iff.mpr ⟨fun y=>(by subst y;rw [hx] at h;cases h),h⟩,dbl_dl hx d1,dbl_dl hx d2,dbl_dl hx d3⟩
theorem lstv_dl {C dx:Addr} {fs:List (Str × V)} {v:V} {l:List Sn48.P} (hx:H x=some (.ins C dx fs)) (h:LstOf (RV K) v H l):LstOf (RV K) v (dl H x) l:=by
 obtain ⟨q,xs,e,h,r⟩:=h
 exact ⟨q,xs,e,dl_iff.mpr ⟨fun y=>(by subst y;rw [hx] at h;cases h),h⟩,Paired.imp' (fun _ _ d=>vec_dl hx d) r⟩
theorem lstd_dl {C dx:Addr} {fs:List (Str × V)} {v:V} {l:List Nat} (hx:H x=some (.ins C dx fs)) (h:LstOf (RD K) v H l):LstOf (RD K) v (dl H x) l:=by
 obtain ⟨q,xs,e,h,r⟩:=h
 exact ⟨q,xs,e,dl_iff.mpr ⟨fun y=>(by subst y;rw [hx] at h;cases h),h⟩,Paired.imp' (fun _ _ d=>dbl_dl hx d) r⟩
theorem dl_put' {o:HO}:Same (dl H x) (upd H x o):=fun b z e=>by
 obtain ⟨h1,h2⟩:=dl_iff.mp e
 rw [uN h1]
 exact h2
end
section
open Sn48
theorem mk3_m:∀ {ms:List F} {ps vs:List P},ps.length=ms.length→vs.length=ms.length→(Fl.mk3 ms ps vs).map (·.m)=ms
 | [],_,_,_,_=>by unfold Fl.mk3;rfl
 | m::ms,p::ps,v::vs,h1,h2=>by rw [Fl.mk3,List.map_cons,mk3_m (by simpa using h1) (by simpa using h2)]
theorem mk3_at:∀ {ms:List F} {ps vs:List P},ps.length=ms.length→vs.length=ms.length→(Fl.mk3 ms ps vs).map (·.at_)=ps
 | [],[],_,_,_=>by unfold Fl.mk3;rfl
 | m::ms,p::ps,v::vs,h1,h2=>by rw [Fl.mk3,List.map_cons,mk3_at (by simpa using h1) (by simpa using h2)]
theorem mk3_v:∀ {ms:List F} {ps vs:List P},ps.length=ms.length→vs.length=ms.length→(Fl.mk3 ms ps vs).map (·.v)=vs
 | [],_,[],_,_=>by unfold Fl.mk3;rfl
 | m::ms,p::ps,v::vs,h1,h2=>by rw [Fl.mk3,List.map_cons,mk3_v (by simpa using h1) (by simpa using h2)]
def Fit (ms:List F) (ps vs:List P):Prop:=ps.length=ms.length∧vs.length=ms.length∧ms.length≤4096∧(∀ m∈ms,Fl.Ok m∧0 < m∧m < 2 ^ 63)∧(∀ p∈ps,Fl.POk p)∧∀ v∈vs,Fl.POk v
theorem mk3_ok:∀ {ms:List F} {ps vs:List P},(∀ m∈ms,Fl.Ok m∧0 < m∧m < 2 ^ 63)→(∀ p∈ps,Fl.POk p)→(∀ v∈vs,Fl.POk v)→∀ b∈Fl.mk3 ms ps vs,Fl.BodyOk b
 | [],_,_,_,_,_,b,hb=>by unfold Fl.mk3 at hb;cases hb
 | _::_,[],_,_,_,_,b,hb=>by unfold Fl.mk3 at hb;cases hb
 | _::_,_::_,[],_,_,_,b,hb=>by unfold Fl.mk3 at hb;cases hb
 | m::ms,p::ps,v::vs,h1,h2,h3,b,hb=>by
  rw [Fl.mk3] at hb
  cases hb with
  | head=>exact ⟨(h1 m List.mem_cons_self).1,(h1 m List.mem_cons_self).2,h2 p List.mem_cons_self,h3 v List.mem_cons_self⟩
  | tail _ hb=>exact mk3_ok (fun m hm=>h1 m (List.mem_cons_of_mem _ hm)) (fun m hm=>h2 m (List.mem_cons_of_mem _ hm)) (fun m hm=>h3 m (List.mem_cons_of_mem _ hm)) b hb
theorem Fit.ok {ms:List F} {ps vs:List P} (h:Fit ms ps vs):∀ b∈Fl.mk3 ms ps vs,Fl.BodyOk b:=mk3_ok h.2.2.2.1 h.2.2.2.2.1 h.2.2.2.2.2
theorem Fit.len {ms:List F} {ps vs:List P} (h:Fit ms ps vs):(Fl.mk3 ms ps vs).length=ms.length:=by
 have:=congrArg List.length (mk3_m h.1 h.2.1)
 rwa [List.length_map] at this
theorem axp_ok {p q r:P} {k:F} (h:Fl.axp p k q=some r):Fl.POk r:=by
 unfold Fl.axp at h
 obtain ⟨_,_,h⟩:=Fl.bind_some h
 exact Fl.plus_ok h
theorem rowsP_ok {ps qs r:List P} {k:F} (h:Fl.rowsP ps k qs=some r):∀ p∈r,Fl.POk p:=fun p hp=>by
 obtain ⟨_,_,e⟩:=Fl.mapM_mem h p hp
 exact axp_ok e
theorem rowsP_len {ps qs r:List P} {k:F} (h:Fl.rowsP ps k qs=some r) (e:ps.length=qs.length):r.length=ps.length:=by
 rw [Fl.mapM_length h,List.length_zip]
 lia
theorem rep_one {m e:Int} {b c:Nat} (h1:Fl.Rep m e b) (h2:Fl.Rep m e c):b=c:=by
 by_cases h0:m=0
 ·have:=h1.zero h0
  have:=h2.zero h0
  lia
 ·have e1:=h1.wo
  have e2:=h2.wo
  have hb:=h1.ok.1
  have hc:=h2.ok.1
  have hz:worth b≠0:=fun z=>h0 (h1.zeros.mpr z)
  have ew:worth b=worth c:=by rw [e1,e2]
  rw [Fl.worth_eq,Fl.worth_eq] at ew
  rw [Fl.worth_eq] at hz
  by_cases s1:2 ^ 63≤b
  ·rw [if_pos s1] at ew hz
   by_cases s2:2 ^ 63≤c
   ·rw [if_pos s2] at ew
    have:b % 2 ^ 63=c % 2 ^ 63:=Fl.mag_inj (by lia)
    lia
   ·rw [if_neg s2] at ew;lia
  ·rw [if_neg s1] at ew hz
   by_cases s2:2 ^ 63≤c
   ·rw [if_pos s2] at ew;lia
   ·rw [if_neg s2] at ew
    have:b % 2 ^ 63=c % 2 ^ 63:=Fl.mag_inj (by lia)
    lia
end
section
variable {K:PySem.W.Frag} {H:Hp}
abbrev pD (m e:Int):PyData:=.tuple [.int m,.int e]
theorem dbl_dp {v:V} {b:Nat} (d:Dbl K H v b):∃ m e,Dp K H v (pD m e)∧Fl.Rep m e b:=by
 obtain ⟨z,m,e,rfl,h,r⟩:=d
 exact ⟨m,e,.tup (h.elim SqT.of fun h=>h.sq) (.cons (.int m) (.cons (.int e) .nil)),r⟩
def RowD (d:PyData) (p:Sn48.P):Prop:=∃ m1 e1 m2 e2 m3 e3,d=.list [pD m1 e1,pD m2 e2,pD m3 e3]∧Fl.Rep m1 e1 p.x∧Fl.Rep m2 e2 p.y∧Fl.Rep m3 e3 p.z
theorem vec_dp {v:V} {p:Sn48.P} (h:Vec K H v p):∃ d,Dp K H v d∧RowD d p:=by
 obtain ⟨q,x,y,z,rfl,hq,d1,d2,d3⟩:=h
 obtain ⟨m1,e1,q1,r1⟩:=dbl_dp d1
 obtain ⟨m2,e2,q2,r2⟩:=dbl_dp d2
 obtain ⟨m3,e3,q3,r3⟩:=dbl_dp d3
 exact ⟨_,.lst (SqL.of hq) (.cons q1 (.cons q2 (.cons q3 .nil))),m1,e1,m2,e2,m3,e3,rfl,r1,r2,r3⟩
inductive RowsD:List PyData→List Sn48.P→Prop
 | nil:RowsD [] []
 | cons {d:PyData} {p:Sn48.P} {ds:List PyData} {ps:List Sn48.P}:RowD d p→RowsD ds ps→RowsD (d::ds) (p::ps)
theorem rows_dp':∀ {xs:List V} {ps:List Sn48.P},Paired (fun x p=>RV K x H p) xs ps→∃ ds,DpAll K H xs ds∧RowsD ds ps
 | _,_,.nil=>⟨[],.nil,.nil⟩
 | _,_,.cons h r=>by
  obtain ⟨d,h1,h2⟩:=vec_dp h
  obtain ⟨ds,h3,h4⟩:=rows_dp' r
  exact ⟨d::ds,.cons h1 h3,.cons h2 h4⟩
theorem rows_dp {v:V} {ps:List Sn48.P} (h:LstOf (RV K) v H ps):∃ ds,Dp K H v (.list ds)∧RowsD ds ps:=by
 obtain ⟨q,xs,rfl,hq,r⟩:=h
 obtain ⟨ds,h1,h2⟩:=rows_dp' r
 exact ⟨ds,.lst (SqL.of hq) h1,h2⟩
theorem RowsD.lay:∀ {ds:List PyData} {ps:List Sn48.P},RowsD ds ps→PyData.canLayAll0 ds=true∧PyData.depthAll ds≤2
 | _,_,.nil=>⟨rfl,by rw [PyData.depthAll];decide⟩
 | _,_,.cons ⟨_,_,_,_,_,_,e,_⟩ r=>by
  obtain ⟨h1,h2⟩:=r.lay
  subst e
  refine ⟨?_,?_⟩
  ·rw [PyData.canLayAll0,h1];rfl
  ·rw [PyData.depthAll]
   exact Nat.max_le.mpr ⟨by simp [PyData.depth,PyData.depthAll],h2⟩
theorem RowsD.shaped {ds:List PyData} {ps:List Sn48.P} (h:RowsD ds ps):PySem.SeqAt.shaped (.list ds)=true:=by
 obtain ⟨h1,h2⟩:=h.lay
 unfold PySem.SeqAt.shaped
 rw [Bool.and_eq_true]
 refine ⟨by rw [PyData.canLay0];exact h1,?_⟩
 rw [decide_eq_true_eq,PyData.depth]
 lia
theorem row_eqv {m1 e1 m2 e2 m3 e3 n1 f1 n2 f2 n3 f3:Int} (h:PyData.eqv (.list [pD m1 e1,pD m2 e2,pD m3 e3]) (.list [pD n1 f1,pD n2 f2,pD n3 f3])=true):(m1=n1∧e1=f1)∧(m2=n2∧e2=f2)∧m3=n3∧e3=f3:=by
 simp only [PyData.eqvAll,PyData.eqv,Bool.and_eq_true,beq_iff_eq,and_true] at h
 exact h
theorem RowD.eq {d e:PyData} {p q:Sn48.P} (h1:RowD d p) (h2:RowD e q) (h:PyData.eqv d e=true):p=q:=by
 obtain ⟨m1,e1,m2,e2,m3,e3,rfl,r1,r2,r3⟩:=h1
 obtain ⟨n1,f1,n2,f2,n3,f3,rfl,t1,t2,t3⟩:=h2
 obtain ⟨⟨a1,a2⟩,⟨a3,a4⟩,a5,a6⟩:=row_eqv h
 subst a1;subst a2;subst a3;subst a4;subst a5;subst a6
 have b1:=rep_one r1 t1
 have b2:=rep_one r2 t2
 have b3:=rep_one r3 t3
 cases p;cases q
 dsimp only at b1 b2 b3
 subst b1;subst b2;subst b3
 rfl
theorem RowsD.eq {ds es:List PyData} {ps qs:List Sn48.P} (h1:RowsD ds ps) (h2:RowsD es qs) (h:PyData.eqvAll ds es=true):ps=qs:=by
 induction h1 generalizing es qs with
 | nil =>
  cases h2 with
  | nil=>rfl
  | cons _ _=>rw [PyData.eqvAll] at h;cases h
 | cons r1 _ ih =>
  cases h2 with
  | nil=>rw [PyData.eqvAll] at h;cases h
  | cons r2 t2 =>
   rw [PyData.eqvAll,Bool.and_eq_true] at h
   rw [r1.eq r2 h.1,ih t2 h.2]
end
end Pw
namespace Pw
open PySem L2
abbrev mf1 (f:V):List (Str × V):=[("far",f)]
abbrev mf2 (f s:V):List (Str × V):=[("far",f),("soft",s)]
abbrev mf3 (f s w:V):List (Str × V):=[("far",f),("soft",s),("weights",w)]
abbrev mf4 (f s w p:V):List (Str × V):=[("far",f),("soft",s),("weights",w),("places",p)]
def pZ_3e (K:PySem.W.Frag) (a:Ad):Sp:=fun vs H Q E=>∃ x dx bv far soft,∃ bs:List Sn48.Body,∃ G,vs=[.ref x,.int ((far:Nat):Int),.int ((soft:Nat):Int),bv]∧H x=some (.ins a.cMotion dx [])∧Same G H∧G x=none∧Fl.Ok far∧Fl.Ok soft∧LstOf RIL bv G (bs.map Sn48.numbers)∧bs.length≤4096∧(∀ b∈bs,Fl.BodyOk b) ∧
 ∀ H',Off x H H'→MotionAt K a H' x far soft (bs.map (·.m)) (bs.map (·.at_)) (bs.map (·.v))→Q .non H'
def pZ_44 (K:PySem.W.Frag) (a:Ad):Sp:=fun vs H Q E=>∃ x far soft ms ps us G,vs=[.ref x]∧MotionAt K a H x far soft ms ps us∧Fit ms ps us∧RsG (LstOf (RV K)) a.exc (Sn48.pulls (Fl.wOf far soft ms ps us)) G H Q E
def sp_go (K:PySem.W.Frag) (a:Ad):Sp:=fun vs H Q E=>∃ x dtv n dt far soft ms ps us,vs=[.ref x,.int ((n:Nat):Int),dtv]∧1≤n∧n≤1000000∧Dbl K H dtv dt∧MotionAt K a H x far soft ms ps us∧Fit ms ps us ∧
 (∀ qs ws,Sn48.steps dt n (Fl.wOf far soft ms ps us)=some (Fl.wOf far soft ms qs ws)→Fit ms qs ws→∀ H',Off x H H'→MotionAt K a H' x far soft ms qs ws→Q .non H')∧(Sn48.steps dt n (Fl.wOf far soft ms ps us)=none→∀ H',Off x H H'→E (.ref a.exc) none H')
def pZ_3q (K:PySem.W.Frag) (a:Ad):Sp:=fun vs H Q E=>∃ x far soft ms ps us G,vs=[.ref x]∧MotionAt K a H x far soft ms ps us∧Fit ms ps us∧RsG (LstOf RIL) a.exc (some ((Fl.mk3 ms ps us).map Sn48.numbers)) G H Q E
section
variable {K:PySem.W.Frag} {H:Hp} {x C dx:Addr} {fs:List (Str × V)} {o:HO} {v:V}
theorem upV {l:List Sn48.P} (hx:H x=some (.ins C dx fs)) (h:LstOf (RV K) v H l):LstOf (RV K) v (upd H x o) l:=LstOf.mono mRV _ _ _ _ dl_put' (lstv_dl hx h)
theorem upL {l:List Nat} (hx:H x=some (.ins C dx fs)) (h:LstOf (RD K) v H l):LstOf (RD K) v (upd H x o) l:=LstOf.mono mRD _ _ _ _ dl_put' (lstd_dl hx h)
theorem upF {b:Nat} (hx:H x=some (.ins C dx fs)) (h:Dbl K H v b):Dbl K (upd H x o) v b:=(dbl_dl hx h).same dl_put'
end
theorem off_up {x:Addr} {H H1 H2:Hp} {o:HO} (h:Off x H H1) (s:Same H1 H2):Off x H (upd H2 x o):=fun b z hb e=>by
 rw [uN hb]
 exact s b z (h b z hb e)
section
variable {P:Program} {w:World} {K:PySem.W.Frag} {mg:Str→Option Value} {base:Heap} {a:Ad}
abbrev tZ4p:Stmt:=inClass (top 52) 0
theorem cZ1u:FnScope ["self","far","soft","bodies","body"] ["self","far","soft","bodies"] (defScope tZ4p):=by walk_at "sc"
theorem blk_Motion___init___1:BlkOk ["self","far","soft","bodies","body"] (defScope tZ4p) ((scs 9 (defBody tZ4p)).getD 0 default) [("body",4)]:=blkOk_by (by decide +kernel)
theorem blk_Motion___init___2:BlkOk ["self","far","soft","bodies","body"] (defScope tZ4p) ((scs 9 (defBody tZ4p)).getD 1 default) [("body",4)]:=blkOk_by (by decide +kernel)
theorem blk_Motion___init___3:BlkOk ["self","far","soft","bodies","body"] (defScope tZ4p) ((scs 9 (defBody tZ4p)).getD 2 default) [("body",4)]:=blkOk_by (by decide +kernel)
theorem kZ06 (T:Tx K mg a) (F:Dfm K a.cMotion "__init__" "Motion.__init__" tZ4p ["self","far","soft","bodies"]) (R:Ar P w K mg base a) (S:Tc K mg a) (B_from_all_bits:Cb P w K mg base "from_all_bits" tZ5c ["row"] 2 (pZ_3x K a.exc)):Cm P w K mg base a.cMotion "__init__" "Motion.__init__" tZ4p ["self","far","soft","bodies"] 3 (pZ_3e K a):=by
 refine .mk F cZ1u (fun vs H Q E h=>?_) (fun f cdv A outer s H vs Q E hr h th=>?_)
 ·obtain ⟨_,_,_,_,_,_,_,rfl,_⟩:=h
  rfl
 ·obtain ⟨x,dx,_,far,soft,bs,G,rfl,hx,g,gx,okf,oks,⟨ba,bxs,rfl,hb,br⟩,hnb,bok,k⟩:=h
  refine ⟨_,(pZ (ps_fld (pv 0) (pb R.from_bits hr th (pY (pv 1) pN)) rfl)
   (pZ (ps_fld (pv 0) (pb R.from_bits hr th (pY (pv 2) pN)) rfl)
   (pZ (ps_fld (pv 0) (pe_lcX th rfl rfl rfl cZ1u.nd (pi_list (pv 3)) blk_Motion___init___1 (fun _ _ _ _ _ _ _=>(pg_name (i:=4) cZ1u.nd rfl (Or.inl rfl))) (fun _ _ _ _ _ _ _ thb=>pts_nil) (fun _ _ _ _ _ _ _ thb=>(pb R.from_bits hr thb (pY (pxK K (pv 4) pI) pN)))) rfl)
   (pZ (ps_fld (pv 0) (pe_lcX th rfl rfl rfl cZ1u.nd (pi_list (pv 3)) blk_Motion___init___2 (fun _ _ _ _ _ _ _=>(pg_name (i:=4) cZ1u.nd rfl (Or.inl rfl))) (fun _ _ _ _ _ _ _ thb=>pts_nil) (fun _ _ _ _ _ _ _ thb=>(pb B_from_all_bits hr thb (pY (pe_slice (r:=rSlL K) sl_list (pv 4) (po_some pI) (po_some pI)) pN)))) rfl)
   (pO (ps_fld (pv 0) (pe_lcX th rfl rfl rfl cZ1u.nd (pi_list (pv 3)) blk_Motion___init___3 (fun _ _ _ _ _ _ _=>(pg_name (i:=4) cZ1u.nd rfl (Or.inl rfl))) (fun _ _ _ _ _ _ _ thb=>pts_nil) (fun _ _ _ _ _ _ _ thb=>(pb B_from_all_bits hr thb (pY (pe_slice (r:=rSlL K) sl_list (pv 4) (po_some pI) (po_some pI)) pN)))) rfl)))))),?_⟩
  walk_at "rd"
  have st:∀ {Hc:Hp},Off x H Hc→Same G Hc:=fun o b z e=>o b z (nN e gx) (g b z e)
  have row:∀ {i:Nat} {v:V} {b:Sn48.Body},bxs[i]?=some v→bs[i]?=some b→∃ rq,v=.ref rq∧G rq=some (.lst ((Sn48.numbers b).map fun i=>V.int (i:Nat))):=fun hv hb'=>by
   obtain ⟨r,hr',q⟩:=Paired.at' br hv
   rw [List.getElem?_map,hb'] at hr'
   cases hr'
   exact q
  have blen:bxs.length=bs.length:=by rw [Paired.len br,List.length_map]
  have zlen:bxs.length≤sizeLine:=by rw [blen,sizeLine_eq];lia
  refine ⟨far,rfl,okf,.pur fun v1 H1 s1 d1=>⟨_,_,_,s1 _ _ hx,S.cMotion.cls,S.m_far,(by show 0 < 1000;decide),?_⟩⟩
  have x1:=s1 _ _ hx
  have oA:Off x H (upd H1 x (.ins a.cMotion dx (mf1 v1))):=off_up (fun _ _ _ e=>e) s1
  have xA:(upd H1 x (.ins a.cMotion dx (mf1 v1))) x=some (.ins a.cMotion dx (mf1 v1)):=uS
  have d1A:=upF (o:=.ins a.cMotion dx (mf1 v1)) x1 d1
  have eA:putF (Str.ofString "far") v1 []=(mf1 v1):=rfl
  rw [eA]
  generalize upd H1 x (.ins a.cMotion dx (mf1 v1))=HA at *
  refine ⟨soft,rfl,oks,.pur fun v2 H2 s2 d2=>⟨_,_,_,s2 _ _ xA,S.cMotion.cls,S.m_soft,(by show 1 < 1000;decide),?_⟩⟩
  have x2:=s2 _ _ xA
  have oB:Off x H (upd H2 x (.ins a.cMotion dx (mf2 v1 v2))):=off_up oA s2
  have xB:(upd H2 x (.ins a.cMotion dx (mf2 v1 v2))) x=some (.ins a.cMotion dx (mf2 v1 v2)):=uS
  have d1B:=upF (o:=.ins a.cMotion dx (mf2 v1 v2)) x2 (d1A.same s2)
  have d2B:=upF (o:=.ins a.cMotion dx (mf2 v1 v2)) x2 d2
  have eB:putF (Str.ofString "soft") v2 (mf1 v1)=(mf2 v1 v2):=rfl
  rw [eB]
  generalize upd H2 x (.ins a.cMotion dx (mf2 v1 v2))=HB at *
  refine tLc_items (K:=K) (G:=G) (C:=a.exc) (E:=E) (ys:=bs) (f:=fun b=>some b.m) (R:=RD K) (fun F hF=>⟨_,rfl,hF⟩) mRD (SqL.of (st oB _ _ hb)) zlen blen (st oB) (fun _=>rfl) ?_ ?_
  rotate_left
  ·intro i v b H' Q' hv hb' s' G' g1 g2 k'
   obtain ⟨rq,rfl,hrq⟩:=row hv hb'
   exact ⟨_,rfl,rq,_,0,.int b.m,rfl,rfl,SqL.of (s' _ _ (st oB _ _ hrq)),at_of (j:=0) rfl rfl,b.m,rfl,(bok b (List.mem_of_getElem? hb')).m,RsD k'⟩
  rw [mapM_pure]
  refine RsG.pur fun v3 H3 s3 r3=>⟨_,_,_,s3 _ _ xB,S.cMotion.cls,S.m_weights,(by show 2 < 1000;decide),?_⟩
  have x3:=s3 _ _ xB
  have oC:Off x H (upd H3 x (.ins a.cMotion dx (mf3 v1 v2 v3))):=off_up oB s3
  have xC:(upd H3 x (.ins a.cMotion dx (mf3 v1 v2 v3))) x=some (.ins a.cMotion dx (mf3 v1 v2 v3)):=uS
  have d1C:=upF (o:=.ins a.cMotion dx (mf3 v1 v2 v3)) x3 (d1B.same s3)
  have d2C:=upF (o:=.ins a.cMotion dx (mf3 v1 v2 v3)) x3 (d2B.same s3)
  have wC:=upL (K:=K) (o:=.ins a.cMotion dx (mf3 v1 v2 v3)) x3 (LstOf.mono mRD _ _ _ _ vw_sub r3)
  have eC:putF (Str.ofString "weights") v3 (mf2 v1 v2)=(mf3 v1 v2 v3):=rfl
  rw [eC]
  generalize upd H3 x (.ins a.cMotion dx (mf3 v1 v2 v3))=HC at *
  refine tLc_items (K:=K) (G:=G) (C:=a.exc) (E:=E) (ys:=bs) (f:=fun b=>some b.at_) (R:=RV K) (fun F hF=>⟨_,rfl,hF⟩) mRV (SqL.of (st oC _ _ hb)) zlen blen (st oC) (fun _=>rfl) ?_ ?_
  rotate_left
  ·intro i v b H' Q' hv hb' s' G' g1 g2 k'
   obtain ⟨rq,rfl,hrq⟩:=row hv hb'
   have ok:=bok b (List.mem_of_getElem? hb')
   refine ⟨_,rfl,1,rfl,4,rfl,rq,_,rfl,SqL.of (s' _ _ (st oC _ _ hrq)),fun p hp=>?_⟩
   refine ⟨.ref p,[b.at_.x,b.at_.y,b.at_.z],vw G' H' _,rfl,⟨p,rfl,uS⟩,?_,(by show 3≤4096;decide),RsG.pur fun v5 H5 s5 r5=>k'.1 _ rfl v5 H5 ((Same.new hp).trans s5) (vec_of (LstOf.mono mRD _ _ _ _ (vw_comp (Same.new hp) s5) r5))⟩
   intro c hc
   simp only [List.mem_cons,List.not_mem_nil,or_false] at hc
   rcases hc with rfl | rfl | rfl
   ·exact ok.at_.x
   ·exact ok.at_.y
   ·exact ok.at_.z
  rw [mapM_pure]
  refine RsG.pur fun v4 H4 s4 r4=>⟨_,_,_,s4 _ _ xC,S.cMotion.cls,S.m_places,(by show 3 < 1000;decide),?_⟩
  have x4:=s4 _ _ xC
  have oD:Off x H (upd H4 x (.ins a.cMotion dx (mf4 v1 v2 v3 v4))):=off_up oC s4
  have xD:(upd H4 x (.ins a.cMotion dx (mf4 v1 v2 v3 v4))) x=some (.ins a.cMotion dx (mf4 v1 v2 v3 v4)):=uS
  have d1D:=upF (o:=.ins a.cMotion dx (mf4 v1 v2 v3 v4)) x4 (d1C.same s4)
  have d2D:=upF (o:=.ins a.cMotion dx (mf4 v1 v2 v3 v4)) x4 (d2C.same s4)
  have wD:=upL (K:=K) (o:=.ins a.cMotion dx (mf4 v1 v2 v3 v4)) x4 (LstOf.mono mRD _ _ _ _ s4 wC)
  have pD_:=upV (K:=K) (o:=.ins a.cMotion dx (mf4 v1 v2 v3 v4)) x4 (LstOf.mono mRV _ _ _ _ vw_sub r4)
  have eD:putF (Str.ofString "places") v4 (mf3 v1 v2 v3)=(mf4 v1 v2 v3 v4):=rfl
  rw [eD]
  generalize upd H4 x (.ins a.cMotion dx (mf4 v1 v2 v3 v4))=HD at *
  refine tLc_items (K:=K) (G:=G) (C:=a.exc) (E:=E) (ys:=bs) (f:=fun b=>some b.v) (R:=RV K) (fun F hF=>⟨_,rfl,hF⟩) mRV (SqL.of (st oD _ _ hb)) zlen blen (st oD) (fun _=>rfl) ?_ ?_
  rotate_left
  ·intro i v b H' Q' hv hb' s' G' g1 g2 k'
   obtain ⟨rq,rfl,hrq⟩:=row hv hb'
   have ok:=bok b (List.mem_of_getElem? hb')
   refine ⟨_,rfl,4,rfl,7,rfl,rq,_,rfl,SqL.of (s' _ _ (st oD _ _ hrq)),fun p hp=>?_⟩
   refine ⟨.ref p,[b.v.x,b.v.y,b.v.z],vw G' H' _,rfl,⟨p,rfl,uS⟩,?_,(by show 3≤4096;decide),RsG.pur fun v5 H5 s5 r5=>k'.1 _ rfl v5 H5 ((Same.new hp).trans s5) (vec_of (LstOf.mono mRD _ _ _ _ (vw_comp (Same.new hp) s5) r5))⟩
   intro c hc
   simp only [List.mem_cons,List.not_mem_nil,or_false] at hc
   rcases hc with rfl | rfl | rfl
   ·exact ok.v.x
   ·exact ok.v.y
   ·exact ok.v.z
  rw [mapM_pure]
  refine RsG.pur fun v5 H5 s5 r5=>⟨_,_,_,s5 _ _ xD,S.cMotion.cls,S.m_speeds,(by show 4 < 1000;decide),?_⟩
  have x5:=s5 _ _ xD
  refine k _ (off_up oD s5) ⟨dx,v1,v2,v3,v4,v5,uS,upF x5 (d1D.same s5),upF x5 (d2D.same s5),upL x5 (LstOf.mono mRD _ _ _ _ s5 wD),upV x5 (LstOf.mono mRV _ _ _ _ s5 pD_),upV x5 (LstOf.mono mRV _ _ _ _ vw_sub r5)⟩
abbrev tZ4v:Stmt:=inClass (top 52) 1
theorem cZ20:FnScope ["self"] ["self"] (defScope tZ4v):=by walk_at "sc"
theorem kZ0c (T:Tx K mg a) (F:Dfm K a.cMotion "pulls_now" "Motion.pulls_now" tZ4v ["self"]) (R:Ar P w K mg base a) (S:Tc K mg a) (B_pulls_of:Cb P w K mg base "pulls_of" tZ5t ["far","soft","weights","places"] 30 (pZ_45 K a)):Cm P w K mg base a.cMotion "pulls_now" "Motion.pulls_now" tZ4v ["self"] 31 (pZ_44 K a):=by
 refine .mk F cZ20 (fun vs H Q E h=>?_) (fun f cdv A outer s H vs Q E hr h th=>?_)
 ·obtain ⟨_,_,_,_,_,_,_,rfl,_⟩:=h
  rfl
 ·obtain ⟨x,far,soft,ms,ps,us,G,rfl,⟨dx,fv,sv,wv,plv,vv,hx,d1,d2,l1,l2,l3⟩,fit,k⟩:=h
  refine ⟨_,(pO (ps_ret (pb B_pulls_of hr th (pY (pfK K (pv 0)) (pY (pfK K (pv 0)) (pY (pfK K (pv 0)) (pY (pfK K (pv 0)) pN))))))),?_⟩
  walk_at "rd"
  exact ⟨_,_,_,rfl,S.cMotion.cls,S.m_far,_,rfl,_,_,_,rfl,S.cMotion.cls,S.m_soft,_,rfl,_,_,_,rfl,S.cMotion.cls,S.m_weights,_,rfl,_,_,_,rfl,S.cMotion.cls,S.m_places,_,rfl,fv,sv,wv,plv,far,soft,Fl.mk3 ms ps us,G,rfl,d1,d2,(by rw [mk3_m fit.1 fit.2.1];exact l1),(by rw [mk3_at fit.1 fit.2.1];exact l2),(by rw [fit.len];exact fit.2.2.1),fit.ok,k⟩
abbrev tZ4u:Stmt:=inClass (top 52) 2
theorem cZ1z:FnScope ["self","n","dt","k","pulls","step","places","speeds"] ["self","n","dt"] (defScope tZ4u):=by walk_at "sc"
theorem kZ0b (T:Tx K mg a) (F:Dfm K a.cMotion "go" "Motion.go" tZ4u ["self","n","dt"]) (R:Ar P w K mg base a) (S:Tc K mg a) (B_pulls_now:Cm P w K mg base a.cMotion "pulls_now" "Motion.pulls_now" tZ4v ["self"] 31 (pZ_44 K a)) (B_rows_plus:Cb P w K mg base "rows_plus" tZ5x ["rows","factor","others"] 5 (pZ_49 K a.exc)):Cm P w K mg base a.cMotion "go" "Motion.go" tZ4u ["self","n","dt"] 32 (sp_go K a):=by
 refine .mk F cZ1z (fun vs H Q E h=>?_) (fun f cdv A outer s H vs Q E hr h th=>?_)
 ·obtain ⟨_,_,_,_,_,_,_,_,_,rfl,_⟩:=h
  rfl
 ·obtain ⟨x,dtv,n,dt,far,soft,ms,ps,us,rfl,hn1,hn2,ddt,mo,fit,k1,k2⟩:=h
  refine ⟨_,(pZ (ps_set (i:=3) cZ1z.nd rfl (Or.inl rfl) (pb R.times hr th (pY (pv 2) (pY (pe_gl T.half) pN))))
   (pZ (ps_set (i:=4) cZ1z.nd rfl (Or.inl rfl) (pbm0 B_pulls_now S.cMotion.cls hr th (pv 0)))
   (pO (ps_for th.own rfl (pi_range1 rfl T.range (pY (pv 1) pN)) (pg_name (i:=5) cZ1z.nd rfl (Or.inl rfl)) (pZ (ps_set (i:=6) cZ1z.nd rfl (Or.inl rfl) (pfK K (pv 0)))
    (pZ (ps_set (i:=7) cZ1z.nd rfl (Or.inl rfl) (pfK K (pv 0)))
    (pZ (ps_fld (pv 0) (pb B_rows_plus hr th (pY (pv 7) (pY (pv 3) (pY (pv 4) pN)))) rfl)
    (pZ (ps_fld (pv 0) (pb B_rows_plus hr th (pY (pv 6) (pY (pv 2) (pY (pfK K (pv 0)) pN)))) rfl)
    (pZ (ps_set (i:=4) cZ1z.nd rfl (Or.inl rfl) (pbm0 B_pulls_now S.cMotion.cls hr th (pv 0)))
    (pZ (ps_fld (pv 0) (pb B_rows_plus hr th (pY (pfK K (pv 0)) (pY (pv 3) (pY (pv 4) pN)))) rfl)
    (pO (ps_if (PW.pt (pw_and (pt_cmpR (op_eqD hr.units) (pfK K (pv 0)) (pv 6) (nomark _)) (pw_and1 (pt_cmpR (op_eqD hr.units) (pfK K (pv 0)) (pv 7) (nomark _))))) (pO ps_break) pss_nil)))))))))))),?_⟩
  walk_at "rd"
  obtain ⟨dx,fv,sv,wv,plv,vv,hx,d1,d2,l1,l2,l3⟩:=id mo
  have off:∀ {H'},Same H H'→Off x H H':=fun s b z _ e=>s b z e
  have st0:Sn48.step1 dt (Fl.wOf far soft ms ps us)=none→Sn48.steps dt n (Fl.wOf far soft ms ps us)=none:=fun e=>by
   obtain ⟨n',rfl⟩:∃ n',n=n' + 1:=⟨n - 1,by lia⟩
   rw [Fl.steps_cons,e]
   rfl
  refine ⟨dtv,.ref a.hf,dt,Sn48.HALF,rfl,ddt,dbl_half T H,⟨fun kk ek kv H1 s1 dk=>?_,fun e H' s'=>k2 (st0 (by unfold Sn48.step1;rw [e];rfl)) H' (off s')⟩⟩
  refine ⟨dx,_,s1 _ _ hx,rfl,x,far,soft,ms,ps,us,H1,rfl,mo.same s1,fit,⟨fun as eas pv_ H2 s2 rp=>?_,fun e H' s'=>k2 (st0 (by unfold Sn48.step1;rw [ek,Option.bind_some,e];rfl)) H' (off (s1.trans s'))⟩⟩
  have s12:=s1.trans s2
  refine for_upto (n:=((n:Nat):Int)) (fun F hF=>⟨_,rfl,hF⟩) (by lia) (by lia) (fun j σ Hc=>Off x H Hc∧Dbl K Hc dtv dt∧Dbl K Hc kv kk∧∃ ps' us' as' pv' y5 y6 y7,σ=[some (.ref x),some (.int ((n:Nat):Int)),some dtv,some kv,some pv',y5,y6,y7]∧MotionAt K a Hc x far soft ms ps' us'∧Fit ms ps' us'∧LstOf (RV K) pv' Hc as'∧Sn48.pulls (Fl.wOf far soft ms ps' us')=some as'∧Sn48.steps dt j (Fl.wOf far soft ms ps us)=some (Fl.wOf far soft ms ps' us')) ⟨off s12,ddt.same s12,dk.same s2,ps,us,as,pv_,_,_,_,rfl,mo.same s12,fit,LstOf.mono mRV _ _ _ _ vw_sub rp,eas,rfl⟩ ?_ ?_
  ·rintro j σ Hc hj ⟨o,ddt,dk,ps',us',as',pv',y5,y6,y7,rfl,mo',fit',rp',eas',est⟩
   have hj:j < n:=by lia
   clear mo fit d1 d2 l1 l2 l3 hx
   obtain ⟨dx,fv,sv,wv,plv,vv,hx,d1,d2,l1,l2,l3⟩:=mo'
   have sr:=Fl.step1_rows (far:=far) (soft:=soft) fit'.1 fit'.2.1 ek eas'
   have stn:Sn48.step1 dt (Fl.wOf far soft ms ps' us')=none→Sn48.steps dt n (Fl.wOf far soft ms ps us)=none:=fun e=>by
    obtain ⟨n',hn'⟩:∃ n',n=j + (n' + 1):=⟨n - j - 1,by lia⟩
    rw [hn',Fl.steps_add,est,Option.bind_some,Fl.steps_cons,e]
    rfl
   have stk:∀ W,Sn48.step1 dt (Fl.wOf far soft ms ps' us')=some W→Sn48.steps dt (j + 1) (Fl.wOf far soft ms ps us)=some W:=fun W e=>by
    rw [Fl.steps_add,est,Option.bind_some,Fl.steps_cons,e,Option.bind_some,Fl.steps_zero]
   have alen:us'.length=as'.length:=by rw [Fl.pulls_length eas',fit'.2.1];exact fit'.len.symm
   simp only [L2.tSeq,L2.tAsg,L2.gName,L2.tVar,L2.tFld,L2.sFld,L2.tCall,L2.tCons,L2.tNil,L2.tMeth]
   have len4:ms.length≤4096:=fit'.2.2.1
   have kn:∀ H',Off x Hc H'→Sn48.step1 dt (Fl.wOf far soft ms ps' us')=none→E (.ref a.exc) none H':=fun H' o' e=>k2 (stn e) H' fun b z hb e=>o' b z hb (o b z hb e)
   refine ⟨_,rfl,x,_,_,_,_,rfl,hx,S.cMotion.cls,S.m_places,rfl,_,rfl,x,_,_,_,_,rfl,hx,S.cMotion.cls,S.m_speeds,rfl,_,rfl,_,rfl,_,rfl,vv,kv,pv',us',kk,as',Hc,rfl,l3,dk,rp',alen,(by rw [fit'.2.1];exact len4),⟨fun us1 e1 v1 H1 t1 r1=>?_,fun e H' t'=>kn H' (fun b z _ e=>t' b z e) (by rw [sr,e];rfl)⟩⟩
   have lu1:us1.length=ms.length:=(rowsP_len e1 alen).trans fit'.2.1
   refine ⟨_,rfl,x,_,dx,_,rfl,t1 _ _ hx,S.cMotion.cls,S.m_speeds,(by show 5 < 1000;decide),?_⟩
   have eP1:putF (Str.ofString "speeds") v1 (mf fv sv wv plv vv)=mf fv sv wv plv v1:=rfl
   rw [eP1]
   have hx1:=t1 _ _ hx
   have xA:(upd H1 x (.ins a.cMotion dx (mf fv sv wv plv v1))) x=some (.ins a.cMotion dx (mf fv sv wv plv v1)):=uS
   have oA:Off x Hc (upd H1 x (.ins a.cMotion dx (mf fv sv wv plv v1))):=off_up (fun b z _ e=>e) t1
   have s1A:=upV (K:=K) (o:=.ins a.cMotion dx (mf fv sv wv plv v1)) hx1 (LstOf.mono mRV _ _ _ _ vw_sub r1)
   have p0A:=upV (K:=K) (o:=.ins a.cMotion dx (mf fv sv wv plv v1)) hx1 (LstOf.mono mRV _ _ _ _ t1 l2)
   have s0A:=upV (K:=K) (o:=.ins a.cMotion dx (mf fv sv wv plv v1)) hx1 (LstOf.mono mRV _ _ _ _ t1 l3)
   have wA:=upL (K:=K) (o:=.ins a.cMotion dx (mf fv sv wv plv v1)) hx1 (LstOf.mono mRD _ _ _ _ t1 l1)
   have d1A:=upF (o:=.ins a.cMotion dx (mf fv sv wv plv v1)) hx1 (d1.same t1)
   have d2A:=upF (o:=.ins a.cMotion dx (mf fv sv wv plv v1)) hx1 (d2.same t1)
   have dtA:=upF (o:=.ins a.cMotion dx (mf fv sv wv plv v1)) hx1 (ddt.same t1)
   have dkA:=upF (o:=.ins a.cMotion dx (mf fv sv wv plv v1)) hx1 (dk.same t1)
   generalize upd H1 x (.ins a.cMotion dx (mf fv sv wv plv v1))=HA at *
   refine ⟨_,rfl,_,rfl,_,rfl,x,_,_,_,_,rfl,xA,S.cMotion.cls,S.m_speeds,rfl,plv,dtv,v1,ps',dt,us1,HA,rfl,p0A,dtA,s1A,(by rw [fit'.1,lu1]),(by rw [fit'.1];exact len4),⟨fun qs e2 v2 H2 t2 r2=>?_,fun e H' t'=>kn H' (fun b z hb e=>t' b z (oA b z hb e)) (by rw [sr,e1,Option.bind_some,e];rfl)⟩⟩
   have lq:qs.length=ms.length:=(rowsP_len e2 (by rw [fit'.1,lu1])).trans fit'.1
   refine ⟨_,rfl,x,_,dx,_,rfl,t2 _ _ xA,S.cMotion.cls,S.m_places,(by show 5 < 1000;decide),?_⟩
   have eP2:putF (Str.ofString "places") v2 (mf fv sv wv plv v1)=mf fv sv wv v2 v1:=rfl
   rw [eP2]
   have hx2:=t2 _ _ xA
   have xB:(upd H2 x (.ins a.cMotion dx (mf fv sv wv v2 v1))) x=some (.ins a.cMotion dx (mf fv sv wv v2 v1)):=uS
   have oB:Off x Hc (upd H2 x (.ins a.cMotion dx (mf fv sv wv v2 v1))):=off_up oA t2
   have p2B:=upV (K:=K) (o:=.ins a.cMotion dx (mf fv sv wv v2 v1)) hx2 (LstOf.mono mRV _ _ _ _ vw_sub r2)
   have s1B:=upV (K:=K) (o:=.ins a.cMotion dx (mf fv sv wv v2 v1)) hx2 (LstOf.mono mRV _ _ _ _ t2 s1A)
   have p0B:=upV (K:=K) (o:=.ins a.cMotion dx (mf fv sv wv v2 v1)) hx2 (LstOf.mono mRV _ _ _ _ t2 p0A)
   have s0B:=upV (K:=K) (o:=.ins a.cMotion dx (mf fv sv wv v2 v1)) hx2 (LstOf.mono mRV _ _ _ _ t2 s0A)
   have wB:=upL (K:=K) (o:=.ins a.cMotion dx (mf fv sv wv v2 v1)) hx2 (LstOf.mono mRD _ _ _ _ t2 wA)
   have d1B:=upF (o:=.ins a.cMotion dx (mf fv sv wv v2 v1)) hx2 (d1A.same t2)
   have d2B:=upF (o:=.ins a.cMotion dx (mf fv sv wv v2 v1)) hx2 (d2A.same t2)
   have dtB:=upF (o:=.ins a.cMotion dx (mf fv sv wv v2 v1)) hx2 (dtA.same t2)
   have dkB:=upF (o:=.ins a.cMotion dx (mf fv sv wv v2 v1)) hx2 (dkA.same t2)
   generalize upd H2 x (.ins a.cMotion dx (mf fv sv wv v2 v1))=HB at *
   have fitB:Fit ms qs us1:=⟨lq,lu1,len4,fit'.2.2.2.1,rowsP_ok e2,rowsP_ok e1⟩
   refine ⟨_,rfl,x,dx,_,rfl,xB,rfl,x,far,soft,ms,qs,us1,HB,rfl,⟨dx,fv,sv,wv,v2,v1,xB,d1B,d2B,wB,p2B,s1B⟩,fitB,⟨fun cs e3 v3 H3 t3 r3=>?_,fun e H' t'=>kn H' (fun b z hb e=>t' b z (oB b z hb e)) (by rw [sr,e1,Option.bind_some,e2,Option.bind_some,e];rfl)⟩⟩
   have lc:us1.length=cs.length:=by rw [Fl.pulls_length e3,lu1];exact fitB.len.symm
   have r3':=LstOf.mono mRV _ _ _ _ vw_sub r3
   refine ⟨_,rfl,x,_,_,_,_,rfl,t3 _ _ xB,S.cMotion.cls,S.m_speeds,rfl,_,rfl,_,rfl,v1,kv,v3,us1,kk,cs,H3,rfl,LstOf.mono mRV _ _ _ _ t3 s1B,dkB.same t3,r3',lc,(by rw [lu1];exact len4),⟨fun ws e4 v4 H4 t4 r4=>?_,fun e H' t'=>kn H' (fun b z hb e=>t' b z (t3 b z (oB b z hb e))) (by rw [sr,e1,Option.bind_some,e2,Option.bind_some,e3,Option.bind_some,e];rfl)⟩⟩
   have lw:ws.length=ms.length:=(rowsP_len e4 lc).trans lu1
   have t34:=t3.trans t4
   refine ⟨_,rfl,x,_,dx,_,rfl,t34 _ _ xB,S.cMotion.cls,S.m_speeds,(by show 5 < 1000;decide),?_⟩
   have eP4:putF (Str.ofString "speeds") v4 (mf fv sv wv v2 v1)=mf fv sv wv v2 v4:=rfl
   rw [eP4]
   have hx4:=t34 _ _ xB
   have xC:(upd H4 x (.ins a.cMotion dx (mf fv sv wv v2 v4))) x=some (.ins a.cMotion dx (mf fv sv wv v2 v4)):=uS
   have oC:Off x Hc (upd H4 x (.ins a.cMotion dx (mf fv sv wv v2 v4))):=off_up oB t34
   have s4C:=upV (K:=K) (o:=.ins a.cMotion dx (mf fv sv wv v2 v4)) hx4 (LstOf.mono mRV _ _ _ _ vw_sub r4)
   have p2C:=upV (K:=K) (o:=.ins a.cMotion dx (mf fv sv wv v2 v4)) hx4 (LstOf.mono mRV _ _ _ _ t34 p2B)
   have p0C:=upV (K:=K) (o:=.ins a.cMotion dx (mf fv sv wv v2 v4)) hx4 (LstOf.mono mRV _ _ _ _ t34 p0B)
   have s0C:=upV (K:=K) (o:=.ins a.cMotion dx (mf fv sv wv v2 v4)) hx4 (LstOf.mono mRV _ _ _ _ t34 s0B)
   have c3C:=upV (K:=K) (o:=.ins a.cMotion dx (mf fv sv wv v2 v4)) hx4 (LstOf.mono mRV _ _ _ _ t4 r3')
   have wC:=upL (K:=K) (o:=.ins a.cMotion dx (mf fv sv wv v2 v4)) hx4 (LstOf.mono mRD _ _ _ _ t34 wB)
   have d1C:=upF (o:=.ins a.cMotion dx (mf fv sv wv v2 v4)) hx4 (d1B.same t34)
   have d2C:=upF (o:=.ins a.cMotion dx (mf fv sv wv v2 v4)) hx4 (d2B.same t34)
   have dtC:=upF (o:=.ins a.cMotion dx (mf fv sv wv v2 v4)) hx4 (dtB.same t34)
   have dkC:=upF (o:=.ins a.cMotion dx (mf fv sv wv v2 v4)) hx4 (dkB.same t34)
   generalize upd H4 x (.ins a.cMotion dx (mf fv sv wv v2 v4))=HC at *
   have fitC:Fit ms qs ws:=⟨lq,lw,len4,fit'.2.2.2.1,rowsP_ok e2,rowsP_ok e4⟩
   have moC:MotionAt K a HC x far soft ms qs ws:=⟨dx,fv,sv,wv,v2,v4,xC,d1C,d2C,wC,p2C,s4C⟩
   have es1:Sn48.step1 dt (Fl.wOf far soft ms ps' us')=some (Fl.wOf far soft ms qs ws):=by rw [sr,e1,Option.bind_some,e2,Option.bind_some,e3,Option.bind_some,e4,Option.bind_some]
   have oH:Off x H HC:=fun b z hb e=>oC b z hb (o b z hb e)
   have next:Off x H HC∧Dbl K HC dtv dt∧Dbl K HC kv kk∧Sn48.pulls (Fl.wOf far soft ms qs ws)=some cs:=⟨oH,dtC,dkC,(Fl.pulls_v lq lw lu1).trans e3⟩
   obtain ⟨dsp,hdp,rdp⟩:=rows_dp p2C
   obtain ⟨dsq,hdq,rdq⟩:=rows_dp p0C
   obtain ⟨dss,hds,rds⟩:=rows_dp s4C
   obtain ⟨dst,hdt,rdt⟩:=rows_dp s0C
   simp only [L2.tIfS,L2.tAnd,L2.tTest,L2.tOp,L2.tFld,L2.tVar,L2.rEqD,L2.tBreak,L2.tNext]
   refine ⟨_,rfl,x,_,_,_,_,rfl,xC,S.cMotion.cls,S.m_places,rfl,_,rfl,_,_,hdp,hdq,rdp.shaped,rdq.shaped,_,rfl,?_⟩
   by_cases cp:PyData.eqv (.list dsp) (.list dsq)=true
   ·rw [if_pos cp]
    refine ⟨_,rfl,x,_,_,_,_,rfl,xC,S.cMotion.cls,S.m_speeds,rfl,_,rfl,_,_,hds,hdt,rds.shaped,rdt.shaped,_,rfl,?_⟩
    by_cases cv:PyData.eqv (.list dss) (.list dst)=true
    ·rw [if_pos cv]
     have q1:qs=ps':=rdp.eq rdq (by rw [PyData.eqv] at cp;exact cp)
     have q2:ws=us':=rds.eq rdt (by rw [PyData.eqv] at cv;exact cv)
     subst q1;subst q2
     refine k1 qs ws ?_ fitC HC oH moC
     have hn':n=j + (n - j):=by lia
     rw [hn',Fl.steps_add,est,Option.bind_some]
     exact Fl.steps_still es1 _
    ·rw [if_neg cv]
     exact ⟨oH,dtC,dkC,qs,ws,cs,v3,_,_,_,rfl,moC,fitC,c3C,next.2.2.2,stk _ es1⟩
   ·rw [if_neg cp,if_neg (by decide)]
    exact ⟨oH,dtC,dkC,qs,ws,cs,v3,_,_,_,rfl,moC,fitC,c3C,next.2.2.2,stk _ es1⟩
  ·rintro σ Hc ⟨o,ddt,dk,ps',us',as',pv',y5,y6,y7,rfl,mo',fit',rp',eas',est⟩
   rw [Int.toNat_natCast] at est
   exact k1 ps' us' est fit' _ o mo'
abbrev tZ4q:Stmt:=inClass (top 52) 3
theorem cZ1v:FnScope ["self","weight","place","speed"] ["self"] (defScope tZ4q):=by walk_at "sc"
theorem blk_Motion_bodies_now_1:BlkOk ["self","weight","place","speed"] (defScope tZ4q) ((scs 9 (defBody tZ4q)).getD 0 default) [("weight",1),("place",2),("speed",3)]:=blkOk_by (by decide +kernel)
theorem kZ07 (T:Tx K mg a) (F:Dfm K a.cMotion "bodies_now" "Motion.bodies_now" tZ4q ["self"]) (R:Ar P w K mg base a) (S:Tc K mg a) (B_to_all_bits:Cb P w K mg base "to_all_bits" tZ61 ["row"] 2 (pZ_4e K a.exc)):Cm P w K mg base a.cMotion "bodies_now" "Motion.bodies_now" tZ4q ["self"] 3 (pZ_3q K a):=by
 refine .mk F cZ1v (fun vs H Q E h=>?_) (fun f cdv A outer s H vs Q E hr h th=>?_)
 ·obtain ⟨_,_,_,_,_,_,_,rfl,_⟩:=h
  rfl
 ·obtain ⟨x,far,soft,ms,ps,us,G,rfl,⟨dx,fv,sv,_,_,_,hx,d1,d2,⟨wa,wxs,rfl,hw,wr⟩,⟨pa,pxs,rfl,hp,pr⟩,⟨va,vxs,rfl,hv,vr⟩⟩,fit,k⟩:=h
  refine ⟨_,(pO (ps_ret (pe_lcX th rfl rfl rfl cZ1v.nd (pi_zip3 rfl T.zip (pY (pfK K (pv 0)) (pY (pfK K (pv 0)) (pY (pfK K (pv 0)) pN)))) blk_Motion_bodies_now_1 (fun _ _ _ _ _ _ _=>(pgt K (n:=3) rfl (pgs_cons (pg_name (i:=1) cZ1v.nd rfl (Or.inl rfl)) (pgs_cons (pg_name (i:=2) cZ1v.nd rfl (Or.inl rfl)) (pgs_cons (pg_name (i:=3) cZ1v.nd rfl (Or.inl rfl)) pgs_nil))))) (fun _ _ _ _ _ _ _ thb=>pts_nil) (fun _ _ _ _ _ _ _ thb=>(pb B_to_all_bits hr thb (pY (pe_op op_cat (pe_op op_cat (pe_lst (pY (pv 1) pN)) (pv 2)) (pv 3)) pN)))))),?_⟩
  walk_at "rd"
  have lw:wxs.length=ms.length:=Paired.len wr
  have lp:pxs.length=ms.length:=(Paired.len pr).trans fit.1
  have lv:vxs.length=ms.length:=(Paired.len vr).trans fit.2.1
  refine tLc_zip3 (K:=K) (G:=vw G H H) (C:=a.exc) (E:=E) (zs:=Fl.mk3 ms ps us) (f:=fun b=>some (Sn48.numbers b)) (R:=RIL) (fun F hF=>⟨_,rfl,_,_,_,_,_,rfl,hx,S.cMotion.cls,S.m_weights,rfl,_,rfl,_,_,_,_,_,rfl,hx,S.cMotion.cls,S.m_places,rfl,_,rfl,_,_,_,_,_,rfl,hx,S.cMotion.cls,S.m_speeds,rfl,hF⟩) mRIL (SqL.of hw) (SqL.of hp) (SqL.of hv) (by rw [lw,sizeLine_eq];have:=fit.2.2.1;lia) (by rw [lw,fit.len]) (by rw [lp,fit.len]) (by rw [lv,fit.len]) vw_sub (fun _ _ _=>rfl) ?_ ?_
  ·rw [mapM_pure]
   exact k.same (LstOf.mono mRIL) (Same.refl _)
  ·intro i x y z b H2 Q2 hx' hy' hz' hb s2 G2 g1 g2 k2
   obtain ⟨m,hm,dm⟩:=Paired.at' wr hx'
   obtain ⟨p,hp',vp⟩:=Paired.at' pr hy'
   obtain ⟨u,hu',vu⟩:=Paired.at' vr hz'
   have em:b.m=m:=by have:=congrArg (·[i]?) (mk3_m fit.1 fit.2.1);rw [List.getElem?_map,hb,hm] at this;exact Option.some.inj this
   have ep:b.at_=p:=by have:=congrArg (·[i]?) (mk3_at fit.1 fit.2.1);rw [List.getElem?_map,hb,hp'] at this;exact Option.some.inj this
   have ev:b.v=u:=by have:=congrArg (·[i]?) (mk3_v fit.1 fit.2.1);rw [List.getElem?_map,hb,hu'] at this;exact Option.some.inj this
   subst em;subst ep;subst ev
   simp only [L2.tCall,L2.tCons,L2.tNil,L2.tOp,L2.tLst,L2.tVar,L2.rCat]
   obtain ⟨pq,p1,p2,p3,rfl,hpq,e1,e2,e3⟩:=vp
   obtain ⟨uq,u1,u2,u3,rfl,huq,f1,f2,f3⟩:=vu
   refine ⟨_,rfl,(by show 1≤sizeLine;decide),fun q1 hq1=>⟨_,rfl,q1,pq,[x],[p1,p2,p3],rfl,rfl,uS,(Same.new hq1) _ _ (s2 _ _ hpq),(by show 4≤sizeLine;decide),fun q2 hq2=>⟨_,rfl,q2,uq,_,[u1,u2,u3],rfl,rfl,uS,(Same.new hq2) _ _ ((Same.new hq1) _ _ (s2 _ _ huq)),(by show 7≤sizeLine;decide),fun q3 hq3=>?_⟩⟩⟩
   have t:=((Same.new (o:=.lst [x]) hq1).trans (Same.new (o:=.lst ([x]++[p1,p2,p3])) hq2)).trans (Same.new (o:=.lst ([x]++[p1,p2,p3]++[u1,u2,u3])) hq3)
   have st:=s2.trans t
   exact ⟨.ref q3,Sn48.numbers b,_,rfl,⟨q3,_,rfl,uS,.cons (Dbl.same dm st) (.cons (Dbl.same e1 st) (.cons (Dbl.same e2 st) (.cons (Dbl.same e3 st) (.cons (Dbl.same f1 st) (.cons (Dbl.same f2 st) (.cons (Dbl.same f3 st) .nil))))))⟩,(by show 7≤4096;decide),k2.same mRIL t⟩
end
end Pw
namespace Pw
open PySem L2
def pZ_4b (K:PySem.W.Frag) (a:Ad):Sp:=fun vs H Q E=>∃ x far soft ms ps us,vs=[.ref x]∧MotionAt K a H x far soft ms ps us∧Fit ms ps us∧Rs (RD K) a.exc ((Fl.mk3 ms ps us).foldlM Fl.kinE 0) H Q E
def pZ_3o (K:PySem.W.Frag) (a:Ad):Sp:=fun vs H Q E=>∃ x i j far soft ms ps us,vs=[.ref x,.int ((i:Nat):Int),.int ((j:Nat):Int)]∧MotionAt K a H x far soft ms ps us∧Fit ms ps us∧i < ms.length∧j < ms.length∧Rs (RD K) a.exc (Fl.between (Fl.wOf far soft ms ps us) i j) H Q E
def pZ_3t (K:PySem.W.Frag) (a:Ad):Sp:=fun vs H Q E=>∃ x far soft ms ps us,vs=[.ref x]∧MotionAt K a H x far soft ms ps us∧Fit ms ps us∧Rs (RD K) a.exc (Sn48.energy (Fl.wOf far soft ms ps us)) H Q E
def RLL:V→Hp→List Sn48.Body→Prop:=fun v H bs=>LstOf RIL v H (bs.map Sn48.numbers)
def pZ_3p (K:PySem.W.Frag) (a:Ad):Sp:=fun vs H Q E=>∃ bv far soft bs n dt,vs=[.int ((far:Nat):Int),.int ((soft:Nat):Int),bv,.int ((n:Nat):Int),.int ((dt:Nat):Int)]∧RLL bv H bs∧Fl.WOk ⟨far,soft,bs⟩∧n≤1000000∧Fl.Ok dt ∧
 (∀ u,Sn48.steps dt n ⟨far,soft,bs⟩=some u→u.far=far∧u.soft=soft→∀ v H',Same H H'→(v=bv∧u.bodies=bs∨RLL v (vw (fun _=>none) H H') u.bodies)→Q v H')∧(Sn48.steps dt n ⟨far,soft,bs⟩=none→∀ H',Same H H'→E (.ref a.exc) none H')
theorem vw_less {G H H4 H5:Hp} (s:Same H H4):Same (vw G H4 H5) (vw G H H5):=fun b o e=>by
 obtain ⟨e1,z⟩:=vw_iff.mp e
 refine vw_iff.mpr ⟨e1,?_⟩
 rcases z with z | z | z
 ·exact .inl z
 ·exact .inr (.inl (s.free z))
 ·exact .inr (.inr z)
def pZ_3u (K:PySem.W.Frag) (a:Ad):Sp:=fun vs H Q E=>∃ bv far soft bs,vs=[.int ((far:Nat):Int),.int ((soft:Nat):Int),bv]∧RLL bv H bs∧Fl.WOk ⟨far,soft,bs⟩∧Rs RI a.exc ((Sn48.energy ⟨far,soft,bs⟩).map fun b=>((b:Nat):Int)) H Q E
theorem foldM_mk {ms:List Nat} {ps us:List Sn48.P} (h:Fit ms ps us) {i:Nat} {b:Sn48.Body} (hb:(Fl.mk3 ms ps us)[i]?=some b):ms[i]?=some b.m∧ps[i]?=some b.at_∧us[i]?=some b.v:=by
 refine ⟨?_,?_,?_⟩
 ·have:=congrArg (·[i]?) (mk3_m h.1 h.2.1);rw [List.getElem?_map,hb] at this;exact this.symm
 ·have:=congrArg (·[i]?) (mk3_at h.1 h.2.1);rw [List.getElem?_map,hb] at this;exact this.symm
 ·have:=congrArg (·[i]?) (mk3_v h.1 h.2.1);rw [List.getElem?_map,hb] at this;exact this.symm
theorem mk_getD {ms:List Nat} {ps us:List Sn48.P} (h:Fit ms ps us) {i:Nat} (hi:i < ms.length):ms[i]?=some ((Fl.mk3 ms ps us).getD i default).m∧ps[i]?=some ((Fl.mk3 ms ps us).getD i default).at_:=by
 have hi':i < (Fl.mk3 ms ps us).length:=by rw [h.len];exact hi
 have hb:(Fl.mk3 ms ps us)[i]?=some ((Fl.mk3 ms ps us).getD i default):=by rw [List.getD_eq_getElem?_getD,List.getElem?_eq_getElem hi'];rfl
 exact ⟨(foldM_mk h hb).1,(foldM_mk h hb).2.1⟩
theorem minus_list (p q:Sn48.P):(∀ cs,(List.range 3).mapM (fun c=>Sn48.sub (comp c p) (comp c q))=some cs→∃ d:Sn48.P,cs=[d.x,d.y,d.z]∧Sn48.minus p q=some d)∧((List.range 3).mapM (fun c=>Sn48.sub (comp c p) (comp c q))=none→Sn48.minus p q=none):=by
 have e3:Sn48.minus p q=(Sn48.sub p.x q.x).bind fun x=>(Sn48.sub p.y q.y).bind fun y=>(Sn48.sub p.z q.z).map fun z=>⟨x,y,z⟩:=rfl
 refine ⟨fun cs h=>?_,fun h=>?_⟩
 ·obtain ⟨x,y,z,rfl,h0,h1,h2⟩:=range3 h
  have h0:Sn48.sub p.x q.x=some x:=h0
  have h1:Sn48.sub p.y q.y=some y:=h1
  have h2:Sn48.sub p.z q.z=some z:=h2
  exact ⟨⟨x,y,z⟩,rfl,by rw [e3,h0,Option.bind_some,h1,Option.bind_some,h2];rfl⟩
 ·have e:List.range 3=[0,1,2]:=rfl
  rw [e,Fl.mapM_cons,Fl.mapM_cons,Fl.mapM_cons,Fl.mapM_nil] at h
  cases h0:Sn48.sub p.x q.x with
  | none=>rw [e3,h0];rfl
  | some x =>
   cases h1:Sn48.sub p.y q.y with
   | none=>rw [e3,h0,Option.bind_some,h1];rfl
   | some y =>
    cases h2:Sn48.sub p.z q.z with
    | none=>rw [e3,h0,Option.bind_some,h1,Option.bind_some,h2];rfl
    | some z =>
     have h0:Sn48.sub (comp 0 p) (comp 0 q)=some x:=h0
     have h1:Sn48.sub (comp 1 p) (comp 1 q)=some y:=h1
     have h2:Sn48.sub (comp 2 p) (comp 2 q)=some z:=h2
     rw [h0,h1,h2] at h
     cases h
theorem filter_range {n i:Nat} (hi:i < n):(List.range n).filter (fun j=>decide (i < j))=List.range' (i + 1) (n - (i + 1)):=by
 have e:List.range n=List.range' 0 (i + 1)++List.range' (i + 1) (n - (i + 1)):=by
  have:=List.range'_append (s:=0) (m:=i + 1) (n:=n - (i + 1)) (step:=1)
  rw [Nat.one_mul,Nat.zero_add] at this
  rw [this,List.range_eq_range']
  congr 1
  lia
 rw [e,List.filter_append,List.filter_eq_nil_iff.mpr,List.filter_eq_self.mpr,List.nil_append]
 ·intro j hj
  rw [List.mem_range'_1] at hj
  exact decide_eq_true (by lia)
 ·intro j hj
  rw [List.mem_range'_1] at hj
  simp
  lia
theorem fit_of {bs:List Sn48.Body} (h:∀ b∈bs,Fl.BodyOk b) (hn:bs.length≤4096):Fit (bs.map (·.m)) (bs.map (·.at_)) (bs.map (·.v)):=by
 refine ⟨by rw [List.length_map,List.length_map],by rw [List.length_map,List.length_map],by rw [List.length_map];exact hn,?_,?_,?_⟩
 ·intro m hm
  obtain ⟨b,hb,rfl⟩:=List.mem_map.mp hm
  exact ⟨(h b hb).m,(h b hb).pos⟩
 ·intro m hm
  obtain ⟨b,hb,rfl⟩:=List.mem_map.mp hm
  exact (h b hb).at_
 ·intro m hm
  obtain ⟨b,hb,rfl⟩:=List.mem_map.mp hm
  exact (h b hb).v
section
variable {P:Program} {w:World} {K:PySem.W.Frag} {mg:Str→Option Value} {base:Heap} {a:Ad}
abbrev tZ4t:Stmt:=inClass (top 52) 4
theorem cZ1y:FnScope ["self","energy","weight","speed"] ["self"] (defScope tZ4t):=by walk_at "sc"
theorem kZ0a (T:Tx K mg a) (F:Dfm K a.cMotion "energy_of_speeds" "Motion.energy_of_speeds" tZ4t ["self"]) (R:Ar P w K mg base a) (S:Tc K mg a):Cm P w K mg base a.cMotion "energy_of_speeds" "Motion.energy_of_speeds" tZ4t ["self"] 5 (pZ_4b K a):=by
 refine .mk F cZ1y (fun vs H Q E h=>?_) (fun f cdv A outer s H vs Q E hr h th=>?_)
 ·obtain ⟨_,_,_,_,_,_,rfl,_⟩:=h
  rfl
 ·obtain ⟨x,far,soft,ms,ps,us,rfl,⟨dx,fv,sv,_,_,_,hx,d1,d2,⟨wa,wxs,rfl,hw,wr⟩,⟨pa,pxs,rfl,hp,pr⟩,⟨va,vxs,rfl,hv,vr⟩⟩,fit,k⟩:=h
  refine ⟨_,(pZ (ps_set (i:=1) cZ1y.nd rfl (Or.inl rfl) (pe_gl T.pz))
   (pZ (ps_for th.own rfl (pi_zip rfl T.zip (pY (pfK K (pv 0)) (pY (pfK K (pv 0)) pN))) (pgt K (n:=2) rfl (pgs_cons (pg_name (i:=2) cZ1y.nd rfl (Or.inl rfl)) (pgs_cons (pg_name (i:=3) cZ1y.nd rfl (Or.inl rfl)) pgs_nil))) (pO (ps_set (i:=1) cZ1y.nd rfl (Or.inl rfl) (pb R.plus hr th (pY (pv 1) (pY (pb R.times hr th (pY (pb R.times hr th (pY (pe_gl T.half) (pY (pv 2) pN))) (pY (pb R.square hr th (pY (pv 3) pN)) pN))) pN))))))
   (pO (ps_ret (pv 1))))),?_⟩
  walk_at "rd"
  have wl:wxs.length=ms.length:=Paired.len wr
  have vl:vxs.length=ms.length:=(Paired.len vr).trans fit.2.1
  refine for_zip2 (K:=K) (xs:=wxs) (ys:=vxs) (fun F hF=>⟨_,rfl,x,_,_,_,_,rfl,hx,S.cMotion.cls,S.m_weights,rfl,_,rfl,x,_,_,_,_,rfl,hx,S.cMotion.cls,S.m_speeds,rfl,hF⟩) (by rw [wl,vl]) (fun j σ Hc=>Same H Hc∧∃ ev y2 y3 s,σ=[some (.ref x),some ev,y2,y3]∧Dbl K Hc ev s∧((Fl.mk3 ms ps us).take j).foldlM Fl.kinE 0=some s) ⟨Same.refl _,_,_,_,0,rfl,dbl_pz T H,rfl⟩ (fun j σ Hc h=>⟨SqL.of (h.1 _ _ hw),SqL.of (h.1 _ _ hv)⟩) ?_ ?_
  ·rintro j xw xv σ Hc Tt hxw hxv ⟨sc,ev,y2,y3,s,rfl,ds,es⟩ hT
   have sT:Same Hc (upd Hc Tt (.tup [xw,xv])):=Same.new hT
   obtain ⟨m,hm,dm⟩:=Paired.at' wr hxw
   obtain ⟨u,hu,vu⟩:=Paired.at' vr hxv
   have hj:j < (Fl.mk3 ms ps us).length:=by rw [fit.len];exact (List.getElem?_eq_some_iff.mp hm).1
   have hb:=List.getElem?_eq_getElem hj
   generalize (Fl.mk3 ms ps us)[j]=b at hb
   obtain ⟨q1,_,q3⟩:=foldM_mk fit hb
   have em:m=b.m:=Option.some.inj (hm.symm.trans q1)
   have eu:u=b.v:=Option.some.inj (hu.symm.trans q3)
   subst em;subst eu
   have nx:=foldM_next (f:=Fl.kinE) hb es
   have kn:∀ H',Same Hc H'→Fl.kinE s b=none→E (.ref a.exc) none H':=fun H' s' e=>k.2 (foldM_no (j + 1) (nx.trans e)) H' (sc.trans s')
   have sc':=sc.trans sT
   refine ⟨Tt,_,rfl,SqT.of uS,rfl,xw,_,rfl,xv,_,rfl,rfl,?_⟩
   refine ⟨_,rfl,_,rfl,.ref a.hf,xw,Sn48.HALF,b.m,rfl,dbl_half T _,Dbl.same dm sc',⟨fun h eh hv_ H2 t2 dh=>⟨_,rfl,xv,b.v,rfl,Vec.same vu (sc'.trans t2),⟨fun q eq qv H3 t3 dq=>⟨hv_,qv,h,q,rfl,dh.same t3,dq,⟨fun t et tv H4 t4 dt=>⟨ev,tv,s,t,rfl,((ds.same sT).same t2).same (t3.trans t4),dt,⟨fun r er rv H5 t5 dr=>?_,fun e H' t'=>kn H' (sT.trans ((t2.trans t3).trans (t4.trans t'))) ?_⟩⟩,fun e H' t'=>kn H' (sT.trans ((t2.trans t3).trans t')) ?_⟩⟩,fun e H' t'=>kn H' (sT.trans (t2.trans t')) ?_⟩⟩,fun e H' t'=>kn H' (sT.trans t') ?_⟩⟩
   ·exact ⟨sc.trans (sT.trans ((t2.trans t3).trans (t4.trans t5))),rv,_,_,r,rfl,dr,by rw [nx,Fl.kinE_eq,eh,Option.bind_some,eq,Option.bind_some,et,Option.bind_some,er]⟩
   ·rw [Fl.kinE_eq,eh,Option.bind_some,eq,Option.bind_some,et,Option.bind_some,e]
   ·rw [Fl.kinE_eq,eh,Option.bind_some,eq,Option.bind_some,e];rfl
   ·rw [Fl.kinE_eq,eh,Option.bind_some,e];rfl
   ·rw [Fl.kinE_eq,e];rfl
  ·rintro σ Hc ⟨sc,ev,y2,y3,s,rfl,ds,es⟩
   rw [wl,← fit.len,List.take_of_length_le (Nat.le_refl _)] at es
   exact ⟨_,rfl,k.1 s es ev Hc sc ds⟩
abbrev tZ4r:Stmt:=inClass (top 52) 5
theorem cZ1w:FnScope ["self","one","other","way","axis"] ["self","one","other"] (defScope tZ4r):=by walk_at "sc"
theorem blk_Motion_energy_between_1:BlkOk ["self","one","other","way","axis"] (defScope tZ4r) ((scs 9 (defBody tZ4r)).getD 0 default) [("axis",4)]:=blkOk_by (by decide +kernel)
theorem kZ08 (T:Tx K mg a) (F:Dfm K a.cMotion "energy_between" "Motion.energy_between" tZ4r ["self","one","other"]) (R:Ar P w K mg base a) (S:Tc K mg a):Cm P w K mg base a.cMotion "energy_between" "Motion.energy_between" tZ4r ["self","one","other"] 5 (pZ_3o K a):=by
 refine .mk F cZ1w (fun vs H Q E h=>?_) (fun f cdv A outer s H vs Q E hr h th=>?_)
 ·obtain ⟨_,_,_,_,_,_,_,_,rfl,_⟩:=h
  rfl
 ·obtain ⟨x,i,j,far,soft,ms,ps,us,rfl,⟨dx,fv,sv,_,_,_,hx,d1,d2,⟨wa,wxs,rfl,hw,wr⟩,⟨pa,pxs,rfl,hp,pr⟩,⟨va,vxs,rfl,hv,vr⟩⟩,fit,hi,hj,k⟩:=h
  refine ⟨_,(pZ (ps_setLcX (i:=3) th rfl rfl rfl cZ1w.nd rfl rfl (sw_true rfl rfl rfl rfl) (pi_range1 rfl T.range (pY pI pN)) blk_Motion_energy_between_1 (fun _ _ _ _ _ _ _=>(pg_name (i:=4) cZ1w.nd rfl (Or.inl rfl))) (fun _ _ _ _ _ _ _ thb=>pts_nil) (fun _ _ _ _ _ _ _ thb=>(pb R.minus hr thb (pY (pxK K (pxK K (pfK K (pv 0)) (pv 2)) (pv 4)) (pY (pxK K (pxK K (pfK K (pv 0)) (pv 1)) (pv 4)) pN)))))
   (pO (ps_ret (pb R.over hr th (pY (pb R.times hr th (pY (pxK K (pfK K (pv 0)) (pv 1)) (pY (pxK K (pfK K (pv 0)) (pv 2)) pN))) (pY (pb R.root hr th (pY (pb R.plus hr th (pY (pb R.square hr th (pY (pv 3) pN)) (pY (pfK K (pv 0)) pN))) pN)) pN)))))),?_⟩
  walk_at "rd"
  obtain ⟨hmi,hpi⟩:=mk_getD fit hi
  obtain ⟨hmj,hpj⟩:=mk_getD fit hj
  obtain ⟨wi,hwi,dwi⟩:=Paired.at wr hmi
  obtain ⟨wj,hwj,dwj⟩:=Paired.at wr hmj
  obtain ⟨pi,hpi',vpi⟩:=Paired.at pr hpi
  obtain ⟨pj,hpj',vpj⟩:=Paired.at pr hpj
  have eb:Fl.between (Fl.wOf far soft ms ps us) i j=(Sn48.minus ((Fl.mk3 ms ps us).getD j default).at_ ((Fl.mk3 ms ps us).getD i default).at_).bind fun d=>(Sn48.mul ((Fl.mk3 ms ps us).getD i default).m ((Fl.mk3 ms ps us).getD j default).m).bind fun m=>((Sn48.square d).bind fun q=>Sn48.add q soft).bind fun q=>(Sn48.root q).bind fun r=>Sn48.div m r:=rfl
  rw [eb] at k
  generalize ((Fl.mk3 ms ps us).getD i default).at_=ai at *
  generalize ((Fl.mk3 ms ps us).getD j default).at_=aj at *
  generalize ((Fl.mk3 ms ps us).getD i default).m=mi at *
  generalize ((Fl.mk3 ms ps us).getD j default).m=mj at *
  refine tLc_upto (G:=H) (C:=a.exc) (E:=E) (n:=3) (ys:=List.range 3) (f:=fun c=>Sn48.sub (comp c aj) (comp c ai)) (R:=RD K) (fun F hF=>hF) mRD (by decide) (by decide) rfl (Same.refl _) (fun _=>rfl) ⟨fun cs ecs wv H2 s2 r2=>?_,fun e H2 s2=>k.2 (by rw [(minus_list aj ai).2 e];rfl) H2 s2⟩ ?_
  rotate_left
  ·intro c y H2 Q2 hc hy s2 G2 g1 g2 k2
   have hc:c < 3:=hc
   have:y=c:=by rw [List.getElem?_range hc] at hy;exact (Option.some.inj hy).symm
   subst this
   obtain ⟨qj,xsj,xj,rfl,hqj,hxj,dj⟩:=vec_at vpj hc
   obtain ⟨qi,xsi,xi,rfl,hqi,hxi,di⟩:=vec_at vpi hc
   have hx2:=s2 _ _ hx
   exact ⟨_,rfl,x,_,_,_,_,rfl,hx2,S.cMotion.cls,S.m_places,rfl,_,rfl,pa,pxs,_,.ref qj,rfl,rfl,SqL.of (s2 _ _ hp),atI_nat hpj',_,rfl,qj,xsj,_,xj,rfl,rfl,SqL.of (s2 _ _ hqj),atI_nat hxj,_,rfl,x,_,_,_,_,rfl,hx2,S.cMotion.cls,S.m_places,rfl,_,rfl,pa,pxs,_,.ref qi,rfl,rfl,SqL.of (s2 _ _ hp),atI_nat hpi',_,rfl,qi,xsi,_,xi,rfl,rfl,SqL.of (s2 _ _ hqi),atI_nat hxi,xj,xi,_,_,rfl,dj.same s2,di.same s2,RsD k2⟩
  obtain ⟨d,rfl,ed⟩:=(minus_list aj ai).1 cs ecs
  rw [ed,Option.bind_some] at k
  have vd:Vec K H2 wv d:=vec_of (LstOf.mono mRD _ _ _ _ vw_sub r2)
  have hx2:=s2 _ _ hx
  refine ⟨_,_,_,hx2,S.cMotion.cls,S.m_weights,_,rfl,wa,rfl,wxs,SqL.of (s2 _ _ hw),wi,atI_nat hwi,_,_,_,hx2,S.cMotion.cls,S.m_weights,_,rfl,wa,rfl,wxs,SqL.of (s2 _ _ hw),wj,atI_nat hwj,wi,wj,mi,mj,rfl,Dbl.same dwi s2,Dbl.same dwj s2,⟨fun m em mv H3 s3 dm=>?_,fun e H' s'=>k.2 (by rw [e];rfl) H' (s2.trans s')⟩⟩
  rw [em,Option.bind_some] at k
  have t3:=s2.trans s3
  refine ⟨wv,d,rfl,vd.same s3,⟨fun q eq qv H4 s4 dq=>?_,fun e H' s'=>k.2 (by rw [e];rfl) H' (t3.trans s')⟩⟩
  rw [eq,Option.bind_some] at k
  have t4:=t3.trans s4
  refine ⟨_,_,_,t4 _ _ hx,S.cMotion.cls,S.m_soft,_,rfl,qv,sv,q,soft,rfl,dq,d2.same t4,⟨fun q2 eq2 q2v H5 s5 dq2=>?_,fun e H' s'=>k.2 (by rw [e];rfl) H' (t4.trans s')⟩⟩
  rw [eq2,Option.bind_some] at k
  have t5:=t4.trans s5
  refine ⟨q2v,q2,rfl,dq2,⟨fun r er rv H6 s6 dr=>?_,fun e H' s'=>k.2 (by rw [e];rfl) H' (t5.trans s')⟩⟩
  rw [er,Option.bind_some] at k
  have t6:=t5.trans s6
  exact ⟨mv,rv,m,r,rfl,dm.same ((s4.trans s5).trans s6),dr,⟨fun t et tv H7 s7 dt=>k.1 t et tv H7 (t6.trans s7) dt,fun e H' s'=>k.2 e H' (t6.trans s')⟩⟩
abbrev tZ4s:Stmt:=inClass (top 52) 6
theorem cZ1x:FnScope ["self","energy","one","other"] ["self"] (defScope tZ4s):=by walk_at "sc"
theorem kZ09 (T:Tx K mg a) (F:Dfm K a.cMotion "energy_now" "Motion.energy_now" tZ4s ["self"]) (R:Ar P w K mg base a) (S:Tc K mg a) (B_energy_of_speeds:Cm P w K mg base a.cMotion "energy_of_speeds" "Motion.energy_of_speeds" tZ4t ["self"] 5 (pZ_4b K a)) (B_energy_between:Cm P w K mg base a.cMotion "energy_between" "Motion.energy_between" tZ4r ["self","one","other"] 5 (pZ_3o K a)):Cm P w K mg base a.cMotion "energy_now" "Motion.energy_now" tZ4s ["self"] 6 (pZ_3t K a):=by
 refine .mk F cZ1x (fun vs H Q E h=>?_) (fun f cdv A outer s H vs Q E hr h th=>?_)
 ·obtain ⟨_,_,_,_,_,_,rfl,_⟩:=h
  rfl
 ·obtain ⟨x,far,soft,ms,ps,us,rfl,mo,fit,k⟩:=h
  obtain ⟨dx,fv,sv,_,_,_,hx,d1,d2,⟨wa,wxs,rfl,hw,wr⟩,⟨pa,pxs,rfl,hp,pr⟩,⟨va,vxs,rfl,hv,vr⟩⟩:=id mo
  refine ⟨_,(pZ (ps_set (i:=1) cZ1x.nd rfl (Or.inl rfl) (pbm0 B_energy_of_speeds S.cMotion.cls hr th (pv 0)))
   (pZ (ps_for th.own rfl (pi_range1 rfl T.range (pY (plen T.len (pfK K (pv 0))) pN)) (pg_name (i:=2) cZ1x.nd rfl (Or.inl rfl)) (pO (ps_for th.own rfl (pi_range2 rfl T.range (pY (pe_op op_add (pv 2) pI) (pY (plen T.len (pfK K (pv 0))) pN))) (pg_name (i:=3) cZ1x.nd rfl (Or.inl rfl)) (pO (ps_set (i:=1) cZ1x.nd rfl (Or.inl rfl) (pb R.minus hr th (pY (pv 1) (pY (pbm B_energy_between S.cMotion.cls hr th (pv 0) (pY (pv 2) (pY (pv 3) pN))) pN))))))))
   (pO (ps_ret (pv 1))))),?_⟩
  walk_at "rd"
  have wl:wxs.length=ms.length:=Paired.len wr
  have eu:=Fl.energy_unf (Fl.wOf far soft ms ps us)
  have el:(Fl.wOf far soft ms ps us).bodies=Fl.mk3 ms ps us:=rfl
  rw [el,fit.len] at eu
  rw [eu] at k
  refine ⟨_,_,rfl,rfl,x,far,soft,ms,ps,us,rfl,mo,fit,⟨fun k0 ek kv H1 s1 dk=>?_,fun e H' s'=>k.2 (by rw [e];rfl) H' s'⟩⟩
  rw [ek,Option.bind_some] at k
  have len4:ms.length≤4096:=fit.2.2.1
  refine for_upto (n:=((ms.length:Nat):Int)) (fun F hF=>⟨_,rfl,x,_,_,_,_,rfl,s1 _ _ hx,S.cMotion.cls,S.m_weights,rfl,wa,wxs,rfl,.inl (SqL.of (s1 _ _ hw)),by rw [wl];exact hF⟩) (by lia) (by lia) (fun i σ Hc=>Same H Hc∧∃ ev y2 y3 s,σ=[some (.ref x),some ev,y2,y3]∧Dbl K Hc ev s∧((List.range ms.length).take i).foldlM (fun s i=>((List.range ms.length).filter fun j=>decide (i < j)).foldlM (Fl.pairE (Fl.wOf far soft ms ps us) i) s) k0=some s) ⟨s1,kv,_,_,k0,rfl,dk,rfl⟩ ?_ ?_
  ·rintro i σ Hc hi ⟨sc,ev,y2,y3,s,rfl,ds,es⟩
   have hi:i < ms.length:=by lia
   have nx:=foldM_next (List.getElem?_range hi) es
   have hn:∀ H',Same Hc H'→((List.range ms.length).filter fun j=>decide (i < j)).foldlM (Fl.pairE (Fl.wOf far soft ms ps us) i) s=none→E (.ref a.exc) none H':=fun H' s' e=>k.2 (foldM_no (i + 1) (nx.trans e)) H' (sc.trans s')
   rw [filter_range hi] at nx hn
   simp only [L2.gName]
   refine for_range2 (m:=((i:Nat):Int) + 1) (n:=((ms.length:Nat):Int)) (fun F hF=>?_) (by lia) (by lia) (by lia) (by lia) (fun q σ Hd=>Same Hc Hd∧∃ ev y3 s',σ=[some (.ref x),some ev,some (.int ((i:Nat):Int)),y3]∧Dbl K Hd ev s'∧((List.range' (i + 1) (ms.length - (i + 1))).take q).foldlM (Fl.pairE (Fl.wOf far soft ms ps us) i) s=some s') ⟨Same.refl _,ev,_,s,rfl,ds,rfl⟩ ?_ ?_
   ·exact ⟨_,rfl,((i:Nat):Int),1,rfl,rfl,_,rfl,x,_,_,_,_,rfl,sc _ _ hx,S.cMotion.cls,S.m_weights,rfl,wa,wxs,rfl,.inl (SqL.of (sc _ _ hw)),by rw [wl];exact hF⟩
   ·rintro q σ Hd hq ⟨sd,ev,y3,s',rfl,ds',es'⟩
    have hq:q < ms.length - (i + 1):=by lia
    have hl:(List.range' (i + 1) (ms.length - (i + 1)))[q]?=some (i + 1 + q):=by rw [List.getElem?_range' hq];congr 1;lia
    have nx':=foldM_next hl es'
    have ei:((i:Nat):Int) + 1 + ((q:Nat):Int)=((i + 1 + q:Nat):Int):=by lia
    rw [ei]
    simp only [L2.gName]
    have sdd:=sc.trans sd
    have kn:∀ H',Same Hd H'→Fl.pairE (Fl.wOf far soft ms ps us) i s' (i + 1 + q)=none→E (.ref a.exc) none H':=fun H' t' e=>hn H' (sd.trans t') (foldM_no (q + 1) (nx'.trans e))
    refine ⟨_,rfl,_,rfl,x,dx,_,rfl,sdd _ _ hx,rfl,_,rfl,_,rfl,x,i,i + 1 + q,far,soft,ms,ps,us,rfl,mo.same sdd,fit,hi,by lia,⟨fun t et tv H3 s3 dt=>?_,fun e H' s'=>kn H' s' (by rw [Fl.pairE_eq,e];rfl)⟩⟩
    refine ⟨ev,tv,s',t,rfl,ds'.same s3,dt,⟨fun r er rv H4 s4 dr=>?_,fun e H' s'=>kn H' (s3.trans s') (by rw [Fl.pairE_eq,et,Option.bind_some,e])⟩⟩
    exact ⟨sd.trans (s3.trans s4),rv,_,r,rfl,dr,by rw [nx',Fl.pairE_eq,et,Option.bind_some,er]⟩
   ·rintro σ Hd ⟨sd,ev,y3,s',rfl,ds',es'⟩
    have en:(((ms.length:Nat):Int) - (((i:Nat):Int) + 1)).toNat=ms.length - (i + 1):=by lia
    rw [en,List.take_of_length_le (by rw [List.length_range'];exact Nat.le_refl _)] at es'
    exact ⟨sc.trans sd,ev,_,_,s',rfl,ds',by rw [nx,es']⟩
  ·rintro σ Hc ⟨sc,ev,y2,y3,s,rfl,ds,es⟩
   rw [Int.toNat_natCast,List.take_of_length_le (by rw [List.length_range];exact Nat.le_refl _)] at es
   exact ⟨_,rfl,k.1 s es ev Hc sc ds⟩
abbrev tZ57:Stmt:=top 53
theorem cZ2c:FnScope ["far","soft","bodies","n","dt","motion"] ["far","soft","bodies","n","dt"] (defScope tZ57):=by walk_at "sc"
theorem kZ0o (T:Tx K mg a) (F:Df K mg "bodies_after" tZ57 ["far","soft","bodies","n","dt"]) (R:Ar P w K mg base a) (S:Tc K mg a) (B_Motion:Cm P w K mg base a.cMotion "__init__" "Motion.__init__" tZ4p ["self","far","soft","bodies"] 3 (pZ_3e K a)) (B_go:Cm P w K mg base a.cMotion "go" "Motion.go" tZ4u ["self","n","dt"] 32 (sp_go K a)) (B_bodies_now:Cm P w K mg base a.cMotion "bodies_now" "Motion.bodies_now" tZ4q ["self"] 3 (pZ_3q K a)):Cb P w K mg base "bodies_after" tZ57 ["far","soft","bodies","n","dt"] 33 (pZ_3p K a):=by
 refine .mk F cZ2c (fun vs H Q E h=>?_) (fun f cdv A outer s H vs Q E hr h th=>?_)
 ·obtain ⟨_,_,_,_,_,_,rfl,_⟩:=h
  rfl
 ·obtain ⟨bv,far,soft,bs,n,dt,rfl,hb,wok,hn,okdt,k1,k2⟩:=h
  refine ⟨_,(pZ (ps_if (pt_cmpR op_eq (pv 3) pI (nomark _)) (pO (ps_ret (pv 2))) pss_nil)
   (pZ (ps_set (i:=5) cZ2c.nd rfl (Or.inl rfl) (pmk B_Motion S.cMotion hr th (pY (pv 0) (pY (pv 1) (pY (pv 2) pN)))))
   (pZ (ps_expr (pbm B_go S.cMotion.cls hr th (pv 5) (pY (pv 3) (pY (pb R.from_bits hr th (pY (pv 4) pN)) pN))))
   (pO (ps_ret (pbm0 B_bodies_now S.cMotion.cls hr th (pv 5))))))),?_⟩
  walk_at "rd"
  by_cases c0:n=0
  ·rw [if_pos (by lia)]
   subst c0
   exact k1 _ rfl ⟨rfl,rfl⟩ bv H (Same.refl _) (.inl ⟨rfl,rfl⟩)
  ·rw [if_neg (by lia)]
   intro x dx hx0 hdx0 hdx
   have s1:Same H (upd (upd H dx (.own x)) x (.ins a.cMotion dx [])):=(Same.new hdx0).trans (Same.new (by rw [uN (Ne.symm hdx)];exact hx0))
   have ew:Fl.wOf far soft (bs.map (·.m)) (bs.map (·.at_)) (bs.map (·.v))=⟨far,soft,bs⟩:=by unfold Fl.wOf;rw [Fl.mk3_of]
   have fit:Fit (bs.map (·.m)) (bs.map (·.at_)) (bs.map (·.v)):=fit_of wok.bodies wok.most
   refine ⟨x,dx,bv,far,soft,bs,H,rfl,uS,s1,hx0,wok.far,wok.soft,hb,wok.most,wok.bodies,fun H2 o2 mo=>⟨rfl,?_⟩⟩
   have s2:Same H H2:=fun b z e=>o2 b z (nN e hx0) (s1 b z e)
   obtain ⟨dx2,fv,sv,wv,plv,vv,hx2,_⟩:=id mo
   refine ⟨dx2,_,hx2,rfl,dt,rfl,okdt,.pur fun dv H3 s3 d3=>?_⟩
   refine ⟨x,dv,n,dt,far,soft,_,_,_,rfl,by lia,hn,d3,mo.same s3,fit,fun qs ws es fitW H4 o4 mo4=>?_,fun e H4 o4=>k2 (by rw [← ew,e]) H4 (fun b z e=>o4 b z (nN e hx0) (s3 b z (s2 b z e)))⟩
   obtain ⟨dx4,fv4,sv4,wv4,plv4,vv4,hx4,_⟩:=id mo4
   have s4:Same H H4:=fun b z e=>o4 b z (nN e hx0) (s3 b z (s2 b z e))
   exact ⟨dx4,_,hx4,rfl,x,far,soft,_,qs,ws,(fun _=>none),rfl,mo4,fitW,RsG.pur fun v H5 s5 r5=>k1 _ (by rw [← ew];exact es) ⟨rfl,rfl⟩ v H5 (s4.trans s5) (.inr (LstOf.mono mRIL _ _ _ _ (vw_less s4) r5))⟩
abbrev tZ5a:Stmt:=top 54
theorem cZ2f:FnScope ["far","soft","bodies"] ["far","soft","bodies"] (defScope tZ5a):=by walk_at "sc"
theorem kZ0r (T:Tx K mg a) (F:Df K mg "energy_of" tZ5a ["far","soft","bodies"]) (R:Ar P w K mg base a) (S:Tc K mg a) (B_Motion:Cm P w K mg base a.cMotion "__init__" "Motion.__init__" tZ4p ["self","far","soft","bodies"] 3 (pZ_3e K a)) (B_energy_now:Cm P w K mg base a.cMotion "energy_now" "Motion.energy_now" tZ4s ["self"] 6 (pZ_3t K a)):Cb P w K mg base "energy_of" tZ5a ["far","soft","bodies"] 7 (pZ_3u K a):=by
 refine .mk F cZ2f (fun vs H Q E h=>?_) (fun f cdv A outer s H vs Q E hr h th=>?_)
 ·obtain ⟨_,_,_,_,rfl,_⟩:=h
  rfl
 ·obtain ⟨bv,far,soft,bs,rfl,hb,wok,k⟩:=h
  refine ⟨_,(pO (ps_ret (pb R.to_bits hr th (pY (pbm0 B_energy_now S.cMotion.cls hr th (pmk B_Motion S.cMotion hr th (pY (pv 0) (pY (pv 1) (pY (pv 2) pN))))) pN)))),?_⟩
  walk_at "rd"
  intro x dx hx0 hdx0 hdx
  have s1:Same H (upd (upd H dx (.own x)) x (.ins a.cMotion dx [])):=(Same.new hdx0).trans (Same.new (by rw [uN (Ne.symm hdx)];exact hx0))
  have ew:Fl.wOf far soft (bs.map (·.m)) (bs.map (·.at_)) (bs.map (·.v))=⟨far,soft,bs⟩:=by unfold Fl.wOf;rw [Fl.mk3_of]
  have fit:Fit (bs.map (·.m)) (bs.map (·.at_)) (bs.map (·.v)):=fit_of wok.bodies wok.most
  refine ⟨x,dx,bv,far,soft,bs,H,rfl,uS,s1,hx0,wok.far,wok.soft,hb,wok.most,wok.bodies,fun H2 o2 mo=>⟨rfl,?_⟩⟩
  have s2:Same H H2:=fun b z e=>o2 b z (nN e hx0) (s1 b z e)
  obtain ⟨dx2,fv,sv,wv,plv,vv,hx2,_⟩:=id mo
  refine ⟨dx2,_,hx2,rfl,x,far,soft,_,_,_,rfl,mo,fit,⟨fun b eb v H3 s3 d3=>⟨v,b,rfl,d3,.pur fun v4 H4 s4 e4=>k.1 _ (by rw [← ew,eb];rfl) v4 H4 (s2.trans (s3.trans s4)) e4⟩,fun e H3 s3=>k.2 (by rw [← ew,e];rfl) H3 (s2.trans s3)⟩⟩
end
end Pw
namespace Pw
open PySem L2
def sp_fs (C:Addr):Sp:=sp_bb C fun b=>Sn48.finite b && !decide (2 ^ 63 < b)
def sp_mb (C:Addr):Sp:=fun vs H Q E=>∃ v m x y z p q r,vs=[v]∧RIL v H [m,x,y,z,p,q,r]∧(∀ b∈[m,x,y,z,p,q,r],b < 2 ^ 64)∧Rs RB C (some (([m,x,y,z,p,q,r].all Sn48.finite) && decide (0 < m∧m < 2 ^ 63))) H Q E
abbrev wf (f s b:V):List (Str × V):=[("far",f),("soft",s),("bodies",b)]
def RowAt (G H:Hp) (p:Addr) (v:V) (b:Sn48.Body):Prop:=∃ q,v=.ref q∧G q=none∧q≠p∧H q=some (.lst ((Sn48.numbers b).map fun i=>V.int (i:Nat)))
def SwAt (a:Ad) (G H:Hp) (x:Addr) (w:Sn48.World):Prop:=∃ dx p xs,H x=some (.ins a.cSwarm dx (wf (.int ((w.far:Nat):Int)) (.int ((w.soft:Nat):Int)) (.ref p)))∧G x=none∧G p=none∧H p=some (.lst xs)∧Paired (RowAt G H p) xs w.bodies
section
variable {a:Ad} {G H H':Hp} {x:Addr} {w:Sn48.World}
theorem SwAt.same (h:SwAt a G H x w) (s:Same H H'):SwAt a G H' x w:=by
 obtain ⟨dx,p,xs,h1,h2,h3,h4,h5⟩:=h
 exact ⟨dx,p,xs,s _ _ h1,h2,h3,s _ _ h4,Paired.imp' (fun _ _ ⟨q,e,q1,q2,q3⟩=>⟨q,e,q1,q2,s _ _ q3⟩) h5⟩
theorem SwAt.put {g:Addr} {o o':HO} (h:SwAt a G H x w) (hg:G g=some o):SwAt a (upd G g o') (upd H g o') x w:=by
 obtain ⟨dx,p,xs,h1,h2,h3,h4,h5⟩:=h
 have n1:x≠g:=fun e=>by rw [e,hg] at h2;cases h2
 have n2:p≠g:=fun e=>by rw [e,hg] at h3;cases h3
 refine ⟨dx,p,xs,by rw [uN n1];exact h1,by rw [uN n1];exact h2,by rw [uN n2];exact h3,by rw [uN n2];exact h4,Paired.imp' (fun _ _ ⟨q,e,q1,q2,q3⟩=>?_) h5⟩
 have n3:q≠g:=fun e=>by rw [e,hg] at q1;cases q1
 exact ⟨q,e,by rw [uN n3];exact q1,q2,by rw [uN n3];exact q3⟩
theorem RowAt.ril {p:Addr} {v:V} {b:Sn48.Body} (h:RowAt G H p v b):RIL v H (Sn48.numbers b):=let ⟨q,e,_,_,h⟩:=h;⟨q,e,h⟩
theorem rows_ll {p:Addr} {xs:List V} {bs:List Sn48.Body} (h:H p=some (.lst xs)) (r:Paired (RowAt G H p) xs bs):RLL (.ref p) H bs:=by
 refine ⟨p,xs,rfl,h,?_⟩
 clear h
 induction r with
 | nil=>exact .nil
 | cons h _ ih=>exact .cons h.ril ih
end
theorem all_refs {H:Hp}:∀ {xs:List V} {bs:List Sn48.Body},Paired (fun v l=>RIL v H l) xs (bs.map Sn48.numbers)→∀ v∈xs,∃ q,v=.ref q
 | _,[],r,v,hv=>by cases r;cases hv
 | _,b::bs,.cons ⟨q,e,_⟩ r,v,hv=>by
  cases hv with
  | head=>exact ⟨q,e⟩
  | tail _ hv=>exact all_refs r v hv
theorem ll_rows {G H H':Hp} {p:Addr} {xs:List V} (g:Same G H) (hp:vw (fun _=>none) H H' p=some (.lst xs)):∀ {ys:List V} {bs:List Sn48.Body},(∀ v∈ys,v∈xs)→(∀ v∈xs,∃ q,v=.ref q)→Paired (fun v l=>RIL v (vw (fun _=>none) H H') l) ys (bs.map Sn48.numbers)→Paired (RowAt G H' p) ys bs
 | _,[],_,_,r=>by cases r;exact .nil
 | _,b::bs,hy,hx,.cons ⟨q,e,h⟩ r=>by
  refine .cons ⟨q,e,?_,?_,vw_sub _ _ h⟩ (ll_rows g hp (fun v hv=>hy v (List.mem_cons_of_mem _ hv)) hx r)
  ·obtain ⟨_,z⟩:=vw_iff.mp h
   rcases z with ⟨u,z⟩ | z | ⟨xs,z⟩
   ·cases z
   ·exact g.free z
   ·cases z
  ·intro z
   subst z
   rw [hp] at h
   cases h
   obtain ⟨q',e'⟩:=hx (V.int ((b.m:Nat):Int)) List.mem_cons_self
   cases e'
def pZ_3f (a:Ad):Sp:=fun vs H Q E=>∃ x dx G,vs=[.ref x]∧H x=some (.ins a.cSwarm dx [])∧Same G H∧G x=none∧∀ H',Same G H'→SwAt a G H' x ⟨0,0,[]⟩→Q .non H'
def Told (a:Ad) (G:Hp) (x:Addr) (s:Sn48.St × Sn48.Ans) (Q:VK):Prop:=∀ u H',s.1=some u→Same G H'→SwAt a G H' x u→Q (.int s.2.value) H'
def ToldL (a:Ad) (G:Hp) (x:Addr) (s:Sn48.St × Sn48.Ans) (Q:VK):Prop:=∀ u H' q,s.1=some u→Same G H'→SwAt a G H' x u→G q=none→H' q=some (.lst ((s.2.value::Sn48Neutral.ints s.2.out).map V.int))→Q (.ref q) H'
def pZ_3n (a:Ad):Sp:=fun vs H Q E=>∃ x t e w G,vs=[.ref x,.int ((t:Nat):Int),.int ((e:Nat):Int)]∧t < 2 ^ 64∧e < 2 ^ 64∧Same G H∧SwAt a G H x w∧Told a G x (Sn48.step (some w) (.begin_ t e)) Q
def pZ_46 (a:Ad):Sp:=fun vs H Q E=>∃ x v m p1 p2 p3 v1 v2 v3 w G,vs=[.ref x,v]∧RIL v H [m,p1,p2,p3,v1,v2,v3]∧(∀ b∈[m,p1,p2,p3,v1,v2,v3],b < 2 ^ 64)∧w.bodies.length≤4096∧Same G H∧SwAt a G H x w∧Told a G x (Sn48.step (some w) (.put [m,p1,p2,p3,v1,v2,v3])) Q
def pZ_40 (a:Ad):Sp:=fun vs H Q E=>∃ x i w G,vs=[.ref x,.int i]∧SwAt a G H x w∧Q (.bl (decide (0≤i∧i < (w.bodies.length:Int)))) H
def pZ_4a (a:Ad):Sp:=fun vs H Q E=>∃ x i v m p1 p2 p3 v1 v2 v3 w G,vs=[.ref x,.int i,v]∧RIL v H [m,p1,p2,p3,v1,v2,v3]∧(∀ b∈[m,p1,p2,p3,v1,v2,v3],b < 2 ^ 64)∧Same G H∧SwAt a G H x w∧Told a G x (Sn48.step (some w) (.set i [m,p1,p2,p3,v1,v2,v3])) Q
def pZ_3z (a:Ad):Sp:=fun vs H Q E=>∃ x i w G,vs=[.ref x,.int i]∧Same G H∧SwAt a G H x w∧ToldL a G x (Sn48.step (some w) (.get i)) Q
def pZ_4d (a:Ad):Sp:=fun vs H Q E=>∃ x n dt w G,vs=[.ref x,.int n,.int ((dt:Nat):Int)]∧dt < 2 ^ 64∧Fl.WOk w∧Same G H∧SwAt a G H x w∧Told a G x (Sn48.step (some w) (.step n dt)) Q
def pZ_3s (a:Ad):Sp:=fun vs H Q E=>∃ x w G,vs=[.ref x]∧Fl.WOk w∧Same G H∧SwAt a G H x w∧ToldL a G x (Sn48.step (some w) .energy) Q
theorem mb_body {m x y z p q r:Nat} (hm:m < 2 ^ 64):Sn48.bodyOf [m,x,y,z,p,q,r]=if (([m,x,y,z,p,q,r].all Sn48.finite) && decide (0 < m∧m < 2 ^ 63))=true then some ⟨m,⟨x,y,z⟩,⟨p,q,r⟩⟩ else none:=by
 rw [Fl.bodyOf_iff hm]
 have e:(((Sn48.finite m=true∧Sn48.finite x=true∧Sn48.finite y=true∧Sn48.finite z=true∧Sn48.finite p=true∧Sn48.finite q=true∧Sn48.finite r=true)∧0 < m∧m < 2 ^ 63))↔(([m,x,y,z,p,q,r].all Sn48.finite) && decide (0 < m∧m < 2 ^ 63))=true:=by
  rw [Bool.and_eq_true,decide_eq_true_eq]
  simp only [List.all_cons,List.all_nil,Bool.and_true,Bool.and_eq_true]
 by_cases c:(([m,x,y,z,p,q,r].all Sn48.finite) && decide (0 < m∧m < 2 ^ 63))=true
 ·rw [if_pos c,if_pos (e.mpr c)]
 ·rw [if_neg c,if_neg (fun h=>c (e.mp h))]
theorem mRB:Mono RB:=fun _ _ _ _ _ h=>h
theorem bls_of {H:Hp}:∀ {xs:List V} {bs:List Bool},Paired (fun v b=>RB v H b) xs bs→xs=bs.map V.bl
 | _,_,.nil=>rfl
 | _,_,.cons h r=>by rw [h,bls_of r];rfl
theorem paired_set {α:Type} {F:V→α→Prop} {v:V} {b:α} (h:F v b):∀ {xs:List V} {l:List α} {j:Nat},Paired F xs l→Paired F (xs.set j v) (l.set j b)
 | _,_,_,.nil=>.nil
 | _,_,0,.cons _ r=>.cons h r
 | _,_,j + 1,.cons q r=>.cons q (paired_set h r)
theorem paired_snoc {α:Type} {F:V→α→Prop} {v:V} {b:α} (h:F v b):∀ {xs:List V} {l:List α},Paired F xs l→Paired F (xs++[v]) (l++[b])
 | _,_,.nil=>.cons h .nil
 | _,_,.cons q r=>.cons q (paired_snoc h r)
section
variable {P:Program} {w:World} {K:PySem.W.Frag} {mg:Str→Option Value} {base:Heap} {a:Ad}
abbrev tZ5m:Stmt:=top 64
theorem cZ2r:FnScope ["bits"] ["bits"] (defScope tZ5m):=by walk_at "sc"
theorem kZ13 (T:Tx K mg a) (F:Df K mg "may_be_far_or_soft" tZ5m ["bits"]) (B_is_finite:Cb P w K mg base "is_finite" tZ5i ["bits"] 1 (sp_bb a.exc Sn48.finite)) (B_is_below_zero:Cb P w K mg base "is_below_zero" tZ5h ["bits"] 1 (sp_bb a.exc fun b=>decide (2 ^ 63 < b))):Cb P w K mg base "may_be_far_or_soft" tZ5m ["bits"] 2 (sp_fs a.exc):=by
 refine .mk F cZ2r (fun vs H Q E h=>?_) (fun f cdv A outer s H vs Q E hr h th=>?_)
 ·obtain ⟨_,rfl,_⟩:=h
  rfl
 ·obtain ⟨b,rfl,hb,k⟩:=h
  refine ⟨_,(pO (ps_ret (pe_and (pb B_is_finite hr th (pY (pv 0) pN)) (pe_one (pe_not (pb B_is_below_zero hr th (pY (pv 0) pN))))))),?_⟩
  walk_at "rd"
  refine ⟨b,rfl,hb,.pur fun v1 H1 s1 e1=>⟨_,e1,?_⟩⟩
  by_cases c:Sn48.finite b=true
  ·rw [if_pos c]
   refine ⟨b,rfl,hb,.pur fun v2 H2 s2 e2=>⟨_,e2,k.1 _ rfl _ H2 (s1.trans s2) ?_⟩⟩
   show V.bl (!decide (2 ^ 63 < b))=V.bl (Sn48.finite b && !decide (2 ^ 63 < b))
   rw [c]
   rfl
  ·rw [if_neg c]
   refine k.1 _ rfl _ H1 s1 ?_
   show V.bl false=V.bl (Sn48.finite b && !decide (2 ^ 63 < b))
   have c':Sn48.finite b=false:=by cases h:Sn48.finite b;rfl;exact absurd h c
   rw [c']
   rfl
abbrev tZ5l:Stmt:=top 65
theorem cZ2q:FnScope ["body","bits"] ["body"] (defScope tZ5l):=by walk_at "sc"
theorem blk_may_be_body_1:BlkOk ["body","bits"] (defScope tZ5l) ((scs 9 (defBody tZ5l)).getD 0 default) [("bits",1)]:=blkOk_by (by decide +kernel)
theorem kZ12 (T:Tx K mg a) (F:Df K mg "may_be_body" tZ5l ["body"]) (B_is_finite:Cb P w K mg base "is_finite" tZ5i ["bits"] 1 (sp_bb a.exc Sn48.finite)) (B_is_above_zero:Cb P w K mg base "is_above_zero" tZ5f ["bits"] 1 (sp_bb a.exc fun b=>decide (0 < b∧b < 2 ^ 63))):Cb P w K mg base "may_be_body" tZ5l ["body"] 2 (sp_mb a.exc):=by
 refine .mk F cZ2q (fun vs H Q E h=>?_) (fun f cdv A outer s H vs Q E hr h th=>?_)
 ·obtain ⟨_,_,_,_,_,_,_,_,rfl,_⟩:=h
  rfl
 ·obtain ⟨_,m,x,y,z,p,q,r,rfl,⟨bq,rfl,hb⟩,h64,k⟩:=h
  refine ⟨_,(pO (ps_ret (pe_and (pe_callB (cr_all rfl) rfl T.all PyProof.Rows.boot_all (pY (pe_lcX th rfl rfl rfl cZ2q.nd (pi_list (pv 0)) blk_may_be_body_1 (fun _ _ _ _ _ _ _=>(pg_name (i:=1) cZ2q.nd rfl (Or.inl rfl))) (fun _ _ _ _ _ _ _ thb=>pts_nil) (fun _ _ _ _ _ _ _ thb=>(pb B_is_finite hr thb (pY (pv 1) pN)))) pN)) (pe_one (pb B_is_above_zero hr th (pY (pxK K (pv 0) pI) pN)))))),?_⟩
  walk_at "rd"
  refine tLc_items (K:=K) (G:=H) (C:=a.exc) (E:=E) (ys:=[m,x,y,z,p,q,r]) (f:=fun b=>some (Sn48.finite b)) (R:=RB) (fun F hF=>⟨_,rfl,hF⟩) mRB (SqL.of hb) (by show 7≤sizeLine;decide) rfl (Same.refl _) (fun _=>rfl) ?_ ?_
  rotate_left
  ·intro i v b H2 Q2 hv hb' s2 G2 g1 g2 k2
   rw [List.getElem?_map,hb'] at hv
   cases hv
   exact ⟨_,rfl,b,rfl,h64 b (List.mem_of_getElem? hb'),.pur fun v3 H3 s3 e3=>k2.ret s3 e3⟩
  rw [mapM_pure]
  refine RsG.pur fun lv H1 s1 r1=>?_
  obtain ⟨lq,xs,rfl,hlq,pr⟩:=r1
  have exs:=bls_of pr
  subst exs
  refine ⟨lq,_,rfl,SqL.of (vw_sub _ _ hlq),_,rfl,?_⟩
  have ea:((([m,x,y,z,p,q,r].map Sn48.finite)).all id)=[m,x,y,z,p,q,r].all Sn48.finite:=by rw [List.all_map];rfl
  by_cases c:[m,x,y,z,p,q,r].all Sn48.finite=true
  ·refine ite2 (fun _=>?_) (fun h=>absurd (ea.trans c) h)
   refine ⟨_,SqL.of (s1 _ _ hb),.int m,at_of (j:=0) rfl rfl,m,rfl,h64 m List.mem_cons_self,.pur fun v2 H2 s2 e2=>k.1 _ rfl _ H2 (s1.trans s2) ?_⟩
   rw [e2,c]
   rfl
  ·refine ite2 (fun h=>absurd (ea.symm.trans h) c) (fun _=>?_)
   refine k.1 _ rfl _ H1 s1 ?_
   have c':[m,x,y,z,p,q,r].all Sn48.finite=false:=by cases h:[m,x,y,z,p,q,r].all Sn48.finite;rfl;exact absurd h c
   rw [c']
   rfl
abbrev tZ4w:Stmt:=inClass (top 66) 0
theorem cZ21:FnScope ["self"] ["self"] (defScope tZ4w):=by walk_at "sc"
theorem kZ0d (T:Tx K mg a) (F:Dfm K a.cSwarm "__init__" "Swarm.__init__" tZ4w ["self"]) (S:Tc K mg a):Cm P w K mg base a.cSwarm "__init__" "Swarm.__init__" tZ4w ["self"] 1 (pZ_3f a):=by
 refine .mk F cZ21 (fun vs H Q E h=>?_) (fun f cdv A outer s H vs Q E hr h th=>?_)
 ·obtain ⟨_,_,_,rfl,_⟩:=h
  rfl
 ·obtain ⟨x,dx,G,rfl,hx,g,gx,k⟩:=h
  refine ⟨_,(pZ (ps_fld (pv 0) pI rfl)
   (pZ (ps_fld (pv 0) pI rfl)
   (pO (ps_fld (pv 0) (pe_lst pN) rfl)))),?_⟩
  walk_at "rd"
  refine ⟨_,_,_,rfl,S.cSwarm.cls,S.s_far,(by show 0 < 1000;decide),_,_,_,uS,S.cSwarm.cls,S.s_soft,Nat.lt_of_le_of_lt (lenF (Nat.le_refl 0)) (by decide),Nat.zero_le _,fun p hp=>?_⟩
  have hpx:p≠x:=fun e=>by rw [e,uS] at hp;cases hp
  have hp0:H p=none:=by rw [uN hpx,uN hpx] at hp;exact hp
  refine ⟨_,_,_,(uN (Ne.symm hpx)).trans uS,S.cSwarm.cls,S.s_bodies,Nat.lt_of_le_of_lt (lenF (lenF (Nat.le_refl 0))) (by decide),?_⟩
  refine k _ (fun b z e=>?_) ⟨dx,p,[],uS,gx,g.free hp0,by rw [uN hpx,uS],.nil⟩
  have nx:b≠x:=nN e gx
  rw [uN nx,uN (nN (g _ _ e) hp0),uN nx,uN nx]
  exact g _ _ e
abbrev tZ4x:Stmt:=inClass (top 66) 1
theorem cZ22:FnScope ["self","far","soft"] ["self","far","soft"] (defScope tZ4x):=by walk_at "sc"
theorem kZ0e (T:Tx K mg a) (F:Dfm K a.cSwarm "begin" "Swarm.begin" tZ4x ["self","far","soft"]) (S:Tc K mg a) (B_may_be_far_or_soft:Cb P w K mg base "may_be_far_or_soft" tZ5m ["bits"] 2 (sp_fs a.exc)):Cm P w K mg base a.cSwarm "begin" "Swarm.begin" tZ4x ["self","far","soft"] 3 (pZ_3n a):=by
 refine .mk F cZ22 (fun vs H Q E h=>?_) (fun f cdv A outer s H vs Q E hr h th=>?_)
 ·obtain ⟨_,_,_,_,_,rfl,_⟩:=h
  rfl
 ·obtain ⟨x,t,e,u,G,rfl,ht,he,g,sw,k⟩:=h
  obtain ⟨dx,p,xs,hx,gx,gp,hp,rows⟩:=id sw
  refine ⟨_,(pZ (ps_if (pt_not (PW.pt (pw_and (pt_val (pb B_may_be_far_or_soft hr th (pY (pv 1) pN))) (pw_and1 (pt_val (pb B_may_be_far_or_soft hr th (pY (pv 2) pN))))))) (pO (ps_ret (pe_gl T.dbl))) pss_nil)
   (pZ (ps_fld (pv 0) (pv 1) rfl)
   (pZ (ps_fld (pv 0) (pv 2) rfl)
   (pZ (ps_fld (pv 0) (pe_lst pN) rfl)
   (pO (ps_ret (pe_gl T.done))))))),?_⟩
  walk_at "rd"
  rw [Fl.begin_eq _ ht he] at k
  have fb:∀ {b:Nat},(Sn48.finite b && !decide (2 ^ 63 < b))=true↔Sn48.finite b=true∧b≤2 ^ 63:=fun {b}=>by
   rw [Bool.and_eq_true,Bool.not_eq_true',decide_eq_false_iff_not,Nat.not_lt]
  have bad:¬((Sn48.finite t && !decide (2 ^ 63 < t))=true∧(Sn48.finite e && !decide (2 ^ 63 < e))=true)→∀ H',Same H H'→Q (.int (-3)) H':=fun c H' s'=>by
   rw [if_neg (fun h=>c ⟨fb.mpr ⟨h.1,h.2.2.1⟩,fb.mpr ⟨h.2.1,h.2.2.2⟩⟩)] at k
   exact k u H' rfl (g.trans s') (sw.same s')
  refine ⟨t,rfl,ht,.pur fun v1 H1 s1 e1=>⟨_,e1,?_⟩⟩
  refine ite2 (fun c1=>?_) (fun c1=>?_)
  ·refine ⟨e,rfl,he,.pur fun v2 H2 s2 e2=>⟨_,e2,?_⟩⟩
   have t2:=s1.trans s2
   refine ite2 (fun c2=>bad (fun h=>absurd (c2.symm.trans h.2) (by decide)) _ t2) (fun c2=>?_)
   have c2:(Sn48.finite e && !decide (2 ^ 63 < e))=true:=by cases h:(Sn48.finite e && !decide (2 ^ 63 < e));exact absurd h c2;rfl
   rw [if_pos ⟨(fb.mp c1).1,(fb.mp c2).1,(fb.mp c1).2,(fb.mp c2).2⟩] at k
   have hx2:=t2 _ _ hx
   refine ⟨_,_,_,hx2,S.cSwarm.cls,S.s_far,(by show 3 < 1000;decide),_,_,_,uS,S.cSwarm.cls,S.s_soft,(by show 3 < 1000;decide),Nat.zero_le _,fun p' hp'=>?_⟩
   have hpx:p'≠x:=fun e=>by rw [e,uS] at hp';cases hp'
   have hp0:H2 p'=none:=by rw [uN hpx,uN hpx] at hp';exact hp'
   refine ⟨_,_,_,(uN (Ne.symm hpx)).trans uS,S.cSwarm.cls,S.s_bodies,(by show 3 < 1000;decide),?_⟩
   refine k ⟨t,e,[]⟩ _ rfl (fun b z e=>?_) ⟨dx,p',[],uS,gx,(g.trans t2).free hp0,by rw [uN hpx,uS],.nil⟩
   have nx:b≠x:=nN e gx
   rw [uN nx,uN (nN ((g.trans t2) _ _ e) hp0),uN nx,uN nx]
   exact (g.trans t2) _ _ e
  ·exact bad (fun h=>c1 h.1) H1 s1
abbrev tZ51:Stmt:=inClass (top 66) 2
theorem cZ26:FnScope ["self","body"] ["self","body"] (defScope tZ51):=by walk_at "sc"
theorem kZ0i (T:Tx K mg a) (F:Dfm K a.cSwarm "put" "Swarm.put" tZ51 ["self","body"]) (S:Tc K mg a) (B_may_be_body:Cb P w K mg base "may_be_body" tZ5l ["body"] 2 (sp_mb a.exc)):Cm P w K mg base a.cSwarm "put" "Swarm.put" tZ51 ["self","body"] 3 (pZ_46 a):=by
 refine .mk F cZ26 (fun vs H Q E h=>?_) (fun f cdv A outer s H vs Q E hr h th=>?_)
 ·obtain ⟨_,_,_,_,_,_,_,_,_,_,_,rfl,_⟩:=h
  rfl
 ·obtain ⟨x,_,m,p1,p2,p3,v1,v2,v3,u,G,rfl,⟨bq,rfl,hb⟩,h64,h4,g,sw,k⟩:=h
  obtain ⟨dx,p,xs,hx,gx,gp,hp,rows⟩:=id sw
  refine ⟨_,(pZ (ps_if (pt_not (pt_val (pb B_may_be_body hr th (pY (pv 1) pN)))) (pO (ps_ret (pe_gl T.dbl))) pss_nil)
   (pZ (ps_if (pt_cmpR op_ge (plen T.len (pfK K (pv 0))) (pe_gl T.most) (nomark _)) (pO (ps_ret (pe_gl T.room))) pss_nil)
   (pZ (ps_expr (papp (pfK K (pv 0)) (pY (pe_callTy call_list_of rfl T.list PyProof.Rows.boot_list (pY (pv 1) pN)) pN)))
   (pO (ps_ret (pe_op op_sub (plen T.len (pfK K (pv 0))) pI)))))),?_⟩
  walk_at "rd"
  have hl:xs.length=u.bodies.length:=Paired.len rows
  rw [Fl.put_eq,mb_body (h64 m List.mem_cons_self)] at k
  refine ⟨.ref bq,m,p1,p2,p3,v1,v2,v3,rfl,⟨bq,rfl,hb⟩,h64,.pur fun rv H1 s1 e1=>⟨_,e1,?_⟩⟩
  refine ite2 (fun c=>?_) (fun c=>?_)
  ·rw [if_neg (by rw [c];decide)] at k
   exact k u H1 rfl (g.trans s1) (sw.same s1)
  ·rw [if_pos (by cases h:([m,p1,p2,p3,v1,v2,v3].all Sn48.finite && decide (0 < m∧m < 2 ^ 63));exact absurd h c;rfl)] at k
   dsimp only at k
   have hx1:=s1 _ _ hx
   have hp1:=s1 _ _ hp
   refine ⟨_,_,_,hx1,S.cSwarm.cls,S.s_bodies,_,rfl,p,rfl,xs,.inl (SqL.of hp1),?_⟩
   refine ite2 (fun c2=>?_) (fun c2=>?_)
   ·rw [if_pos (by show 4096≤_;lia)] at k
    exact k u H1 rfl (g.trans s1) (sw.same s1)
   ·rw [if_neg (by show ¬(4096≤_);lia)] at k
    refine ⟨_,_,_,hx1,S.cSwarm.cls,S.s_bodies,_,rfl,.inl ⟨rfl,_,SqL.of hp1⟩,_,.inl (SqL.of (s1 _ _ hb)),fun l hl'=>?_⟩
    have n:=Same.new (o:=.lst ([m,p1,p2,p3,v1,v2,v3].map fun i=>V.int (i:Nat))) hl'
    have t:=s1.trans n
    have lp:l≠p:=fun e=>by rw [e,s1 _ _ hp] at hl';cases hl'
    have xp:x≠p:=fun e=>by rw [e,hp] at hx;cases hx
    refine ⟨p,rfl,xs,n _ _ hp1,(by rw [sizeLine_eq];lia),_,_,_,(uN xp).trans (t _ _ hx),S.cSwarm.cls,S.s_bodies,_,rfl,p,rfl,_,.inl (SqL.of uS),?_⟩
    have ev:(((xs++[V.ref l]).length:Nat):Int) - 1=((u.bodies.length:Nat):Int):=by rw [List.length_append,List.length_singleton];lia
    rw [ev]
    refine k _ _ rfl (fun b z e=>?_) ⟨dx,p,_,(uN xp).trans (t _ _ hx),gx,gp,uS,?_⟩
    ·rw [uN (nN e gp)]
     exact t _ _ (g _ _ e)
    ·refine paired_snoc (h:=?h) (Paired.imp' (fun _ _ ⟨q,e,q1,q2,q3⟩=>⟨q,e,q1,q2,by rw [uN q2];exact t _ _ q3⟩) rows)
     exact ⟨l,rfl,(g.trans s1).free hl',lp,by rw [uN lp];exact uS⟩
abbrev tZ50:Stmt:=inClass (top 66) 3
theorem cZ25:FnScope ["self","i"] ["self","i"] (defScope tZ50):=by walk_at "sc"
theorem kZ0h (T:Tx K mg a) (F:Dfm K a.cSwarm "has_body" "Swarm.has_body" tZ50 ["self","i"]) (S:Tc K mg a):Cm P w K mg base a.cSwarm "has_body" "Swarm.has_body" tZ50 ["self","i"] 1 (pZ_40 a):=by
 refine .mk F cZ25 (fun vs H Q E h=>?_) (fun f cdv A outer s H vs Q E hr h th=>?_)
 ·obtain ⟨_,_,_,_,rfl,_⟩:=h
  rfl
 ·obtain ⟨x,i,u,G,rfl,sw,k⟩:=h
  obtain ⟨dx,p,xs,hx,gx,gp,hp,rows⟩:=id sw
  refine ⟨_,(pO (ps_ret (pe_chain op_le op_lt pI (pv 1) (plen T.len (pfK K (pv 0)))))),?_⟩
  walk_at "rd"
  have hl:xs.length=u.bodies.length:=Paired.len rows
  by_cases c:0≤i
  ·rw [if_pos c]
   refine ⟨_,_,_,rfl,S.cSwarm.cls,S.s_bodies,_,rfl,p,rfl,xs,.inl (SqL.of hp),?_⟩
   rw [hl]
   have:decide (i < (u.bodies.length:Int))=decide (0≤i∧i < (u.bodies.length:Int)):=by
    rw [decide_eq_decide];exact ⟨fun h=>⟨c,h⟩,fun h=>h.2⟩
   rw [this]
   exact k
  ·rw [if_neg c]
   rw [decide_eq_false (fun h=>c h.1)] at k
   exact k
abbrev tZ52:Stmt:=inClass (top 66) 4
theorem cZ27:FnScope ["self","i","body"] ["self","i","body"] (defScope tZ52):=by walk_at "sc"
theorem kZ0j (T:Tx K mg a) (F:Dfm K a.cSwarm "set_body" "Swarm.set_body" tZ52 ["self","i","body"]) (S:Tc K mg a) (B_may_be_body:Cb P w K mg base "may_be_body" tZ5l ["body"] 2 (sp_mb a.exc)) (B_has_body:Cm P w K mg base a.cSwarm "has_body" "Swarm.has_body" tZ50 ["self","i"] 1 (pZ_40 a)):Cm P w K mg base a.cSwarm "set_body" "Swarm.set_body" tZ52 ["self","i","body"] 3 (pZ_4a a):=by
 refine .mk F cZ27 (fun vs H Q E h=>?_) (fun f cdv A outer s H vs Q E hr h th=>?_)
 ·obtain ⟨_,_,_,_,_,_,_,_,_,_,_,_,rfl,_⟩:=h
  rfl
 ·obtain ⟨x,i,_,m,p1,p2,p3,v1,v2,v3,u,G,rfl,⟨bq,rfl,hb⟩,h64,g,sw,k⟩:=h
  obtain ⟨dx,p,xs,hx,gx,gp,hp,rows⟩:=id sw
  refine ⟨_,(pZ (ps_if (pt_not (pt_val (pbm B_has_body S.cSwarm.cls hr th (pv 0) (pY (pv 1) pN)))) (pO (ps_ret (pe_gl T.such))) pss_nil)
   (pZ (ps_if (pt_not (pt_val (pb B_may_be_body hr th (pY (pv 2) pN)))) (pO (ps_ret (pe_gl T.dbl))) pss_nil)
   (pZ (ps_asg (pe_callTy call_list_of rfl T.list PyProof.Rows.boot_list (pY (pv 2) pN)) (pg_sub (pfK K (pv 0)) (pv 1) set_list))
   (pO (ps_ret (pe_gl T.done)))))),?_⟩
  walk_at "rd"
  have hl:xs.length=u.bodies.length:=Paired.len rows
  rw [Fl.set_eq,mb_body (h64 m List.mem_cons_self)] at k
  refine ⟨dx,_,rfl,rfl,x,i,u,G,rfl,sw,_,rfl,?_⟩
  refine ite2 (fun c=>?_) (fun c=>?_)
  ·rw [if_pos (by have:=of_decide_eq_false c;lia)] at k
   exact k u H rfl g sw
  ·have c:0≤i∧i < (u.bodies.length:Int):=by cases h:decide (0≤i∧i < (u.bodies.length:Int));exact absurd h c;exact of_decide_eq_true h
   rw [if_neg (by lia)] at k
   refine ⟨.ref bq,m,p1,p2,p3,v1,v2,v3,rfl,⟨bq,rfl,hb⟩,h64,.pur fun rv H1 s1 e1=>⟨_,e1,?_⟩⟩
   refine ite2 (fun c=>?_) (fun c=>?_)
   ·rw [if_neg (by rw [c];decide)] at k
    exact k u H1 rfl (g.trans s1) (sw.same s1)
   ·rw [if_pos (by cases h:([m,p1,p2,p3,v1,v2,v3].all Sn48.finite && decide (0 < m∧m < 2 ^ 63));exact absurd h c;rfl)] at k
    dsimp only at k
    refine ⟨_,.inl (SqL.of (s1 _ _ hb)),fun l hl'=>?_⟩
    have n:=Same.new (o:=.lst ([m,p1,p2,p3,v1,v2,v3].map fun i=>V.int (i:Nat))) hl'
    have t:=s1.trans n
    obtain ⟨j,rfl⟩:∃ j:Nat,i=(j:Int):=⟨i.toNat,by lia⟩
    have hj:j < xs.length:=by lia
    refine ⟨_,_,_,t _ _ hx,S.cSwarm.cls,S.s_bodies,_,rfl,p,rfl,xs,t _ _ hp,j,ixN_nat hj,?_⟩
    have lp:l≠p:=fun e=>by rw [e,s1 _ _ hp] at hl';cases hl'
    have lx:l≠x:=fun e=>by rw [e,s1 _ _ hx] at hl';cases hl'
    have xp:x≠p:=fun e=>by rw [e,hp] at hx;cases hx
    refine k _ _ rfl (fun b z e=>?_) ⟨dx,p,_,by rw [uN xp];exact t _ _ hx,gx,gp,uS,?_⟩
    ·rw [uN (nN e gp)]
     exact t _ _ (g _ _ e)
    ·rw [Int.toNat_natCast]
     refine paired_set (h:=?h) (Paired.imp' (fun _ _ ⟨q,e,q1,q2,q3⟩=>⟨q,e,q1,q2,by rw [uN q2];exact t _ _ q3⟩) rows)
     exact ⟨l,rfl,(g.trans s1).free hl',lp,by rw [uN lp];exact uS⟩
abbrev tZ4z:Stmt:=inClass (top 66) 5
theorem cZ24:FnScope ["self","i"] ["self","i"] (defScope tZ4z):=by walk_at "sc"
theorem kZ0g (T:Tx K mg a) (F:Dfm K a.cSwarm "get_body" "Swarm.get_body" tZ4z ["self","i"]) (S:Tc K mg a) (B_has_body:Cm P w K mg base a.cSwarm "has_body" "Swarm.has_body" tZ50 ["self","i"] 1 (pZ_40 a)):Cm P w K mg base a.cSwarm "get_body" "Swarm.get_body" tZ4z ["self","i"] 2 (pZ_3z a):=by
 refine .mk F cZ24 (fun vs H Q E h=>?_) (fun f cdv A outer s H vs Q E hr h th=>?_)
 ·obtain ⟨_,_,_,_,rfl,_⟩:=h
  rfl
 ·obtain ⟨x,i,u,G,rfl,g,sw,k⟩:=h
  obtain ⟨dx,p,xs,hx,gx,gp,hp,rows⟩:=id sw
  refine ⟨_,(pZ (ps_if (pt_not (pt_val (pbm B_has_body S.cSwarm.cls hr th (pv 0) (pY (pv 1) pN)))) (pO (ps_ret (pe_lst (pY (pe_gl T.such) pN)))) pss_nil)
   (pO (ps_ret (pe_op op_cat (pe_lst (pY (pe_gl T.done) pN)) (pxK K (pfK K (pv 0)) (pv 1)))))),?_⟩
  walk_at "rd"
  have hl:xs.length=u.bodies.length:=Paired.len rows
  rw [Fl.get_eq] at k
  refine ⟨dx,_,rfl,rfl,x,i,u,G,rfl,sw,_,rfl,?_⟩
  refine ite2 (fun c=>?_) (fun c=>?_)
  ·rw [if_pos (by have:=of_decide_eq_false c;lia)] at k
   exact fun q hq=>k u _ q rfl (g.trans (Same.new hq)) (sw.same (Same.new hq)) (g.free hq) uS
  ·have c:0≤i∧i < (u.bodies.length:Int):=by cases h:decide (0≤i∧i < (u.bodies.length:Int));exact absurd h c;exact of_decide_eq_true h
   rw [if_neg (by lia)] at k
   obtain ⟨j,rfl⟩:∃ j:Nat,i=(j:Int):=⟨i.toNat,by lia⟩
   have hj:j < u.bodies.length:=by lia
   intro q hq
   have n:=Same.new (o:=.lst [V.int 0]) hq
   have hbj:u.bodies[j]?=some (u.bodies.getD j default):=by rw [List.getD_eq_getElem?_getD,List.getElem?_eq_getElem hj];rfl
   obtain ⟨rv,hrv,rq,rfl,g1,n1,hrq⟩:=Paired.at rows hbj
   refine ⟨_,_,_,n _ _ hx,S.cSwarm.cls,S.s_bodies,_,rfl,p,rfl,xs,SqL.of (n _ _ hp),.ref rq,atI_nat hrv,rq,rfl,_,uS,_,n _ _ hrq,(by show 1 + 7≤sizeLine;decide),fun q2 hq2=>?_⟩
   have n2:=Same.new (o:=.lst ([V.int 0]++(Sn48.numbers (u.bodies.getD j default)).map fun i=>V.int (i:Nat))) hq2
   rw [Int.toNat_natCast] at k
   refine k u _ q2 rfl (g.trans (n.trans n2)) (sw.same (n.trans n2)) ((g.trans n).free hq2) (uS.trans ?_)
   rfl
abbrev tZ53:Stmt:=inClass (top 66) 6
theorem cZ28:FnScope ["self","n","dt","moved"] ["self","n","dt"] (defScope tZ53):=by walk_at "sc"
theorem kZ0k (T:Tx K mg a) (F:Dfm K a.cSwarm "step" "Swarm.step" tZ53 ["self","n","dt"]) (S:Tc K mg a) (B_is_finite:Cb P w K mg base "is_finite" tZ5i ["bits"] 1 (sp_bb a.exc Sn48.finite)) (B_bodies_after:Cb P w K mg base "bodies_after" tZ57 ["far","soft","bodies","n","dt"] 33 (pZ_3p K a)):Cm P w K mg base a.cSwarm "step" "Swarm.step" tZ53 ["self","n","dt"] 34 (pZ_4d a):=by
 refine .mk F cZ28 (fun vs H Q E h=>?_) (fun f cdv A outer s H vs Q E hr h th=>?_)
 ·obtain ⟨_,_,_,_,_,rfl,_⟩:=h
  rfl
 ·obtain ⟨x,n,dt,u,G,rfl,hdt,wok,g,sw,k⟩:=h
  obtain ⟨dx,p,xs,hx,gx,gp,hp,rows⟩:=id sw
  refine ⟨_,(pZ (ps_if (PW.pt (pw_or (pt_cmpR op_lt (pv 1) pI (nomark _)) (pw_or1 (pt_cmpR op_gt (pv 1) (pe_gl T.steps) (nomark _))))) (pO (ps_ret (pe_gl T.count))) pss_nil)
   (pZ (ps_if (pt_not (pt_val (pb B_is_finite hr th (pY (pv 2) pN)))) (pO (ps_ret (pe_gl T.dbl))) pss_nil)
   (pZ (ps_try rfl rfl T.exm rfl T.exc.bound (fun _ _ _ tht=>(pO (ps_set (i:=3) cZ28.nd rfl (Or.inl rfl) (pbS B_bodies_after hr tht (pY (pfK K (pv 0)) (pY (pfK K (pv 0)) (pY (pfK K (pv 0)) (pY (pv 1) (pY (pv 2) pN))))))))) (fun _=>(pO (ps_ret (pe_gl T.fail)))) pss_nil)
   (pZ (ps_fld (pv 0) (pv 3) rfl)
   (pO (ps_ret (pe_gl T.done))))))),?_⟩
  walk_at "rd"
  rw [Fl.step_eq] at k
  have out:¬(0≤n∧n≤1000000)→Q (.int (-2)) H:=fun c=>by
   have:Sn48.within n 0 1000000=false:=by cases h:Sn48.within n 0 1000000;rfl;exact absurd (Fl.within_iff.mp h) c
   rw [if_pos this] at k
   exact k u H rfl g sw
  by_cases c1:n < 0
  ·rw [if_pos c1]
   exact out (by lia)
  ·rw [if_neg c1]
   by_cases c2:1000000 < n
   ·rw [if_pos c2]
    exact out (by lia)
   ·rw [if_neg c2]
    have win:¬(Sn48.within n 0 1000000=false):=fun h=>by rw [Fl.within_iff.mpr ⟨by lia,by lia⟩] at h;cases h
    rw [if_neg win] at k
    refine ⟨dt,rfl,hdt,.pur fun rv H1 s1 e1=>⟨_,e1,?_⟩⟩
    refine ite2 (fun c=>?_) (fun c=>?_)
    ·rw [if_pos c] at k
     exact k u H1 rfl (g.trans s1) (sw.same s1)
    ·rw [if_neg c] at k
     have cf:Sn48.finite dt=true:=by cases h:Sn48.finite dt;exact absurd h c;rfl
     obtain ⟨nn,rfl⟩:∃ nn:Nat,n=(nn:Int):=⟨n.toNat,by lia⟩
     rw [Int.toNat_natCast] at k
     have hx1:=s1 _ _ hx
     have hp1:=s1 _ _ hp
     simp only [L2.tTry,L2.tAsg,L2.tCallS,L2.tCons,L2.tNil,L2.tFld,L2.tVar,L2.gName]
     refine ⟨_,rfl,x,_,_,_,_,rfl,hx1,S.cSwarm.cls,S.s_far,rfl,_,rfl,x,_,_,_,_,rfl,hx1,S.cSwarm.cls,S.s_soft,rfl,_,rfl,x,_,_,_,_,rfl,hx1,S.cSwarm.cls,S.s_bodies,rfl,_,rfl,_,rfl,?_⟩
     refine ⟨.ref p,u.far,u.soft,u.bodies,nn,dt,rfl,rows_ll hp1 (Paired.imp' (fun _ _ ⟨q,e,q1,q2,q3⟩=>⟨q,e,q1,q2,s1 _ _ q3⟩) rows),wok,by lia,⟨hdt,cf⟩,fun u' eu ef v H2 s2 rv2=>?_,fun e H2 s2=>⟨rfl,?_⟩⟩
     ·have eu:Sn48.steps dt nn u=some u':=eu
      rw [eu] at k
      have t2:=s1.trans s2
      have hx2:=t2 _ _ hx
      refine ⟨_,rfl,_,rfl,x,_,dx,_,rfl,hx2,S.cSwarm.cls,S.s_bodies,(by show 3 < 1000;decide),?_⟩
      have ep:putF (Str.ofString "bodies") v (wf (.int ((u.far:Nat):Int)) (.int ((u.soft:Nat):Int)) (.ref p))=wf (.int ((u'.far:Nat):Int)) (.int ((u'.soft:Nat):Int)) v:=by rw [ef.1,ef.2];rfl
      rw [ep]
      have nG:∀ o,Same G (upd H2 x o):=fun o b z e=>by rw [uN (nN e gx)];exact t2 _ _ (g _ _ e)
      rcases rv2 with ⟨rfl,eb⟩ | ⟨p',ys,rfl,hp',pr⟩
      ·have px:p≠x:=fun e=>by rw [e,hx] at hp;cases hp
       refine k u' _ rfl (nG _) ⟨dx,p,xs,uS,gx,gp,(uN px).trans (t2 _ _ hp),?_⟩
       rw [eb]
       refine Paired.imp' (fun _ _ ⟨q,e,q1,q2,q3⟩=>⟨q,e,q1,q2,?_⟩) rows
       rw [uN (fun e=>by rw [e,hx] at q3;cases q3)]
       exact t2 _ _ q3
      ·have hp2:=vw_sub _ _ hp'
       have px:p'≠x:=fun e=>by rw [e,hx2] at hp2;cases hp2
       have gp':G p'=none:=by
        obtain ⟨_,z⟩:=vw_iff.mp hp'
        rcases z with ⟨u,z⟩ | z | ⟨xs,z⟩
        ·cases z
        ·exact (g.trans s1).free z
        ·cases z
       refine k u' _ rfl (nG _) ⟨dx,p',ys,uS,gx,gp',(uN px).trans hp2,?_⟩
       refine Paired.imp' (fun _ _ ⟨q,e,q1,q2,q3⟩=>⟨q,e,q1,q2,?_⟩) (ll_rows (g.trans s1) hp' (fun v hv=>hv) (all_refs pr) pr)
       rw [uN (fun e=>by rw [e,hx2] at q3;cases q3)]
       exact q3
     ·have e:Sn48.steps dt nn u=none:=e
      rw [e] at k
      exact k u H2 rfl (g.trans (s1.trans s2)) (sw.same (s1.trans s2))
abbrev tZ4y:Stmt:=inClass (top 66) 7
theorem cZ23:FnScope ["self","bits"] ["self"] (defScope tZ4y):=by walk_at "sc"
theorem kZ0f (T:Tx K mg a) (F:Dfm K a.cSwarm "energy" "Swarm.energy" tZ4y ["self"]) (S:Tc K mg a) (B_energy_of:Cb P w K mg base "energy_of" tZ5a ["far","soft","bodies"] 7 (pZ_3u K a)):Cm P w K mg base a.cSwarm "energy" "Swarm.energy" tZ4y ["self"] 8 (pZ_3s a):=by
 refine .mk F cZ23 (fun vs H Q E h=>?_) (fun f cdv A outer s H vs Q E hr h th=>?_)
 ·obtain ⟨_,_,_,rfl,_⟩:=h
  rfl
 ·obtain ⟨x,u,G,rfl,wok,g,sw,k⟩:=h
  obtain ⟨dx,p,xs,hx,gx,gp,hp,rows⟩:=id sw
  refine ⟨_,(pZ (ps_try rfl rfl T.exm rfl T.exc.bound (fun _ _ _ tht=>(pO (ps_set (i:=1) cZ23.nd rfl (Or.inl rfl) (pbS B_energy_of hr tht (pY (pfK K (pv 0)) (pY (pfK K (pv 0)) (pY (pfK K (pv 0)) pN))))))) (fun _=>(pO (ps_ret (pe_lst (pY (pe_gl T.fail) pN))))) pss_nil)
   (pO (ps_ret (pe_lst (pY (pe_gl T.done) (pY (pv 1) pN)))))),?_⟩
  walk_at "rd"
  rw [Fl.energy_eq] at k
  simp only [L2.tTry,L2.tAsg,L2.tCallS,L2.tCons,L2.tNil,L2.tFld,L2.tVar,L2.gName]
  refine ⟨_,rfl,x,_,_,_,_,rfl,hx,S.cSwarm.cls,S.s_far,rfl,_,rfl,x,_,_,_,_,rfl,hx,S.cSwarm.cls,S.s_soft,rfl,_,rfl,x,_,_,_,_,rfl,hx,S.cSwarm.cls,S.s_bodies,rfl,?_⟩
  refine ⟨.ref p,u.far,u.soft,u.bodies,rfl,rows_ll hp rows,wok,⟨fun z ez v H2 s2 e2=>?_,fun e H2 s2=>⟨rfl,?_⟩⟩⟩
  ·obtain ⟨k0,ek,rfl⟩:=Option.map_eq_some_iff.mp ez
   have ek:Sn48.energy u=some k0:=ek
   rw [ek] at k
   have e2:v=.int ((k0:Nat):Int):=e2
   subst e2
   refine ⟨_,rfl,(by show 2≤sizeLine;decide),fun q hq=>?_⟩
   exact k u _ q rfl (g.trans (s2.trans (Same.new hq))) (sw.same (s2.trans (Same.new hq))) ((g.trans s2).free hq) (uS.trans rfl)
  ·have e:Sn48.energy u=none:=by
    cases h:Sn48.energy u with
    | none=>rfl
    | some z=>have h':Sn48.energy ⟨u.far,u.soft,u.bodies⟩=some z:=h;rw [h'] at e;cases e
   rw [e] at k
   refine ⟨(by show 1≤sizeLine;decide),fun q hq=>?_⟩
   exact k u _ q rfl (g.trans (s2.trans (Same.new hq))) (sw.same (s2.trans (Same.new hq))) ((g.trans s2).free hq) (uS.trans rfl)
end
end Pw
namespace Pw
open PySem L2
def pZ_3l (a:Ad):Sp:=fun vs H Q E=>∃ x c hq l w G call,vs=[.ref x,.int c,.ref hq]∧H hq=some (.lst (l.map V.int))∧Fl.Handed c l call∧Fl.WOk w∧Same G H∧SwAt a G H x w∧ToldL a G x (Sn48.step (some w) call) Q
theorem told_l {a:Ad} {G H':Hp} {x q:Addr} {s:Sn48.St × Sn48.Ans} {Q:VK} {u:Sn48.World} (k:ToldL a G x s Q) (ho:s.2.out=[]) (hu:s.1=some u) (g:Same G H') (sw:SwAt a G H' x u) (hq:H' q=none):Q (.ref q) (upd H' q (.lst [.int s.2.value])) :=
 k u _ q hu (g.trans (Same.new hq)) (sw.same (Same.new hq)) (g.free hq) (by rw [uS,ho];rfl)
def pZ_3k (K:PySem.W.Frag):Sp:=fun vs H Q E=>∃ ca ns,vs=[.ref ca]∧SqL K H ca (ns.map V.int)∧ns.length≤16000∧PySn48.answers_asked ns=true∧∀ p H',H' p=some (.lst ((PySn48.answers ns).map V.int))→Q (.ref p) H'
theorem n64_eq {z:Int} (h:Fl.N64 z):V.int z=V.int ((z.toNat:Nat):Int):=by rw [h.cast]
theorem lens_of {p:Int} {args:List Int} {call:Sn48.Call} (h:Fl.Handed p args call):([(0,2),(1,7),(2,8),(3,2),(4,1),(5,0)]:List (Int × Int)).lookup p=some ((args.length:Nat):Int):=by
 cases h <;> rfl
theorem SwAt.add {a:Ad} {G H:Hp} {x g:Addr} {w:Sn48.World} {o:HO} (h:SwAt a G H x w) (hg:H g=none):SwAt a (upd G g o) (upd H g o) x w:=by
 obtain ⟨dx,p,xs,h1,h2,h3,h4,h5⟩:=h
 have n1:x≠g:=nN h1 hg
 have n2:p≠g:=nN h4 hg
 refine ⟨dx,p,xs,by rw [uN n1];exact h1,by rw [uN n1];exact h2,by rw [uN n2];exact h3,by rw [uN n2];exact h4,Paired.imp' (fun _ _ ⟨q,e,q1,q2,q3⟩=>?_) h5⟩
 have n3:q≠g:=nN q3 hg
 exact ⟨q,e,by rw [uN n3];exact q1,q2,by rw [uN n3];exact q3⟩
theorem seven_v {m x y z u v w:Int} (h1:Fl.N64 m) (h2:Fl.N64 x) (h3:Fl.N64 y) (h4:Fl.N64 z) (h5:Fl.N64 u) (h6:Fl.N64 v) (h7:Fl.N64 w):[m,x,y,z,u,v,w].map V.int=[m.toNat,x.toNat,y.toNat,z.toNat,u.toNat,v.toNat,w.toNat].map fun i=>V.int (i:Nat):=by
 simp only [List.map_cons,List.map_nil,h1.cast,h2.cast,h3.cast,h4.cast,h5.cast,h6.cast,h7.cast]
theorem same_add {G H:Hp} {g:Addr} {o:HO} (s:Same G H):Same (upd G g o) (upd H g o):=fun b z e=>by
 by_cases c:b=g
 ·subst c
  rw [uS] at e ⊢
  exact e
 ·rw [uN c] at e ⊢
  exact s _ _ e
theorem upd_twice {H:Hp} {g:Addr} {o o':HO}:upd (upd H g o) g o'=upd H g o':=by
 funext b
 by_cases c:b=g
 ·subst c;rw [uS,uS]
 ·rw [uN c,uN c,uN c]
theorem cut_mid {ns args rest:List Int} {j:Nat} (h:ns.drop (j + 1)=args++rest) (hl:j + 1 + args.length≤ns.length):cutV (ns.map V.int) (some (((j:Nat):Int) + 1)) (some (((j:Nat):Int) + 1 + ((args.length:Nat):Int)))=args.map V.int:=by
 have e1:((j:Nat):Int) + 1=((j + 1:Nat):Int):=by lia
 have e2:((j:Nat):Int) + 1 + ((args.length:Nat):Int)=((j + 1 + args.length:Nat):Int):=by lia
 rw [e2,e1]
 unfold cutV
 rw [HT.sIx_nat,HT.sIx_nat,List.length_map,Nat.min_eq_left hl,Nat.min_eq_left (show j + 1≤ns.length by lia),← List.map_drop,h,show j + 1 + args.length - (j + 1)=args.length by lia,← List.map_take,List.take_left]
section
variable {P:Program} {w:World} {K:PySem.W.Frag} {mg:Str→Option Value} {base:Heap} {a:Ad}
abbrev tZ55:Stmt:=top 74
theorem cZ2a:FnScope ["swarm","call","handed"] ["swarm","call","handed"] (defScope tZ55):=by walk_at "sc"
theorem kZ0m (T:Tx K mg a) (F:Df K mg "answer_call" tZ55 ["swarm","call","handed"]) (S:Tc K mg a) (B_begin:Cm P w K mg base a.cSwarm "begin" "Swarm.begin" tZ4x ["self","far","soft"] 3 (pZ_3n a)) (B_put:Cm P w K mg base a.cSwarm "put" "Swarm.put" tZ51 ["self","body"] 3 (pZ_46 a)) (B_set_body:Cm P w K mg base a.cSwarm "set_body" "Swarm.set_body" tZ52 ["self","i","body"] 3 (pZ_4a a)) (B_get_body:Cm P w K mg base a.cSwarm "get_body" "Swarm.get_body" tZ4z ["self","i"] 2 (pZ_3z a)) (B_step:Cm P w K mg base a.cSwarm "step" "Swarm.step" tZ53 ["self","n","dt"] 34 (pZ_4d a)) (B_energy:Cm P w K mg base a.cSwarm "energy" "Swarm.energy" tZ4y ["self"] 8 (pZ_3s a)):Cb P w K mg base "answer_call" tZ55 ["swarm","call","handed"] 35 (pZ_3l a):=by
 refine .mk F cZ2a (fun vs H Q E h=>?_) (fun f cdv A outer s H vs Q E hr h th=>?_)
 ·obtain ⟨_,_,_,_,_,_,_,rfl,_⟩:=h
  rfl
 ·obtain ⟨x,c,hq,l,u,G,call,rfl,hh,hd,wok,g,sw,k⟩:=h
  obtain ⟨dx,p,xs,hx,gx,gp,hp,rows⟩:=id sw
  refine ⟨_,(pZ (ps_if (pt_cmpR op_eq (pv 1) (pe_gl T.begin_) (nomark _)) (pO (ps_ret (pe_lst (pY (pbm B_begin S.cSwarm.cls hr th (pv 0) (pY (pxK K (pv 2) pI) (pY (pxK K (pv 2) pI) pN))) pN)))) pss_nil)
   (pZ (ps_if (pt_cmpR op_eq (pv 1) (pe_gl T.put) (nomark _)) (pO (ps_ret (pe_lst (pY (pbm B_put S.cSwarm.cls hr th (pv 0) (pY (pv 2) pN)) pN)))) pss_nil)
   (pZ (ps_if (pt_cmpR op_eq (pv 1) (pe_gl T.set) (nomark _)) (pO (ps_ret (pe_lst (pY (pbm B_set_body S.cSwarm.cls hr th (pv 0) (pY (pxK K (pv 2) pI) (pY (pe_slice (r:=rSlL K) sl_list (pv 2) (po_some pI) po_none) pN))) pN)))) pss_nil)
   (pZ (ps_if (pt_cmpR op_eq (pv 1) (pe_gl T.step) (nomark _)) (pO (ps_ret (pe_lst (pY (pbm B_step S.cSwarm.cls hr th (pv 0) (pY (pxK K (pv 2) pI) (pY (pxK K (pv 2) pI) pN))) pN)))) pss_nil)
   (pZ (ps_if (pt_cmpR op_eq (pv 1) (pe_gl T.get) (nomark _)) (pO (ps_ret (pbm B_get_body S.cSwarm.cls hr th (pv 0) (pY (pxK K (pv 2) pI) pN)))) pss_nil)
   (pO (ps_ret (pbm0 B_energy S.cSwarm.cls hr th (pv 0))))))))),?_⟩
  walk_at "rd"
  cases hd with
  | begin_ t e h1 h2 =>
   rw [if_pos rfl]
   refine ⟨dx,_,rfl,rfl,_,SqL.of hh,.int t,at_of (j:=0) rfl rfl,_,SqL.of hh,.int e,at_of (j:=1) rfl rfl,?_⟩
   rw [n64_eq h1,n64_eq h2]
   exact ⟨x,t.toNat,e.toNat,u,G,rfl,h1.lt,h2.lt,g,sw,fun u' H' hu g' sw' q hq=>told_l k (Fl.begin_out h1.lt h2.lt) hu g' sw' hq⟩
  | put m x1 x2 x3 x4 x5 x6 h1 h2 h3 h4 h5 h6 h7 =>
   rw [if_neg (by decide),if_pos rfl]
   exact ⟨dx,_,rfl,rfl,x,.ref hq,_,_,_,_,_,_,_,u,G,rfl,⟨hq,rfl,by rw [hh,seven_v h1 h2 h3 h4 h5 h6 h7]⟩,Fl.seven h1 h2 h3 h4 h5 h6 h7,wok.most,g,sw,fun u' H' hu g' sw' q hq=>told_l k (Fl.put_out _ _) hu g' sw' hq⟩
  | set i m x1 x2 x3 x4 x5 x6 h1 h2 h3 h4 h5 h6 h7 =>
   rw [if_neg (by decide),if_neg (by decide),if_pos rfl]
   refine ⟨dx,_,rfl,rfl,_,SqL.of hh,.int i,at_of (j:=0) rfl rfl,_,SqL.of hh,fun p' hp'=>?_⟩
   have ec:cutV ([i,m,x1,x2,x3,x4,x5,x6].map V.int) (some 1) none=[m,x1,x2,x3,x4,x5,x6].map V.int:=rfl
   rw [ec]
   have n:=Same.new (o:=.lst ([m,x1,x2,x3,x4,x5,x6].map V.int)) hp'
   exact ⟨x,i,.ref p',_,_,_,_,_,_,_,u,G,rfl,⟨p',rfl,by rw [uS,seven_v h1 h2 h3 h4 h5 h6 h7]⟩,Fl.seven h1 h2 h3 h4 h5 h6 h7,g.trans n,sw.same n,fun u' H' hu g' sw' q hq=>told_l k (Fl.set_out _ _ _) hu g' sw' hq⟩
  | step n dt h1 =>
   rw [if_neg (by decide),if_neg (by decide),if_neg (by decide),if_pos rfl]
   refine ⟨dx,_,rfl,rfl,_,SqL.of hh,.int n,at_of (j:=0) rfl rfl,_,SqL.of hh,.int dt,at_of (j:=1) rfl rfl,?_⟩
   rw [n64_eq h1]
   exact ⟨x,n,dt.toNat,u,G,rfl,h1.lt,wok,g,sw,fun u' H' hu g' sw' q hq=>told_l k (Fl.step_out _ _ _) hu g' sw' hq⟩
  | get i =>
   rw [if_neg (by decide),if_neg (by decide),if_neg (by decide),if_neg (by decide),if_pos rfl]
   exact ⟨dx,_,rfl,rfl,_,SqL.of hh,.int i,at_of (j:=0) rfl rfl,x,i,u,G,rfl,g,sw,k⟩
  | energy =>
   rw [if_neg (by decide),if_neg (by decide),if_neg (by decide),if_neg (by decide),if_neg (by decide)]
   exact ⟨dx,_,rfl,rfl,x,u,G,rfl,wok,g,sw,k⟩
abbrev tZ56:Stmt:=top 75
theorem cZ2b:FnScope ["calls","swarm","given","at","behind","answered"] ["calls"] (defScope tZ56):=by walk_at "sc"
theorem kZ0n (T:Tx K mg a) (F:Df K mg "answers" tZ56 ["calls"]) (S:Tc K mg a) (B_Swarm:Cm P w K mg base a.cSwarm "__init__" "Swarm.__init__" tZ4w ["self"] 1 (pZ_3f a)) (B_answer_call:Cb P w K mg base "answer_call" tZ55 ["swarm","call","handed"] 35 (pZ_3l a)):Cb P w K mg base "answers" tZ56 ["calls"] 36 (pZ_3k K):=by
 refine .mk F cZ2b (fun vs H Q E h=>?_) (fun f cdv A outer s H vs Q E hr h th=>?_)
 ·obtain ⟨_,_,rfl,_⟩:=h
  rfl
 ·obtain ⟨ca,ns,rfl,hca,hn,asked,k⟩:=h
  refine ⟨_,(pZ (ps_set (i:=1) cZ2b.nd rfl (Or.inl rfl) (pmk0 B_Swarm S.cSwarm hr th))
   (pZ (ps_set (i:=2) cZ2b.nd rfl (Or.inl rfl) (pe_lst pN))
   (pZ (ps_set (i:=3) cZ2b.nd rfl (Or.inl rfl) pI)
   (pZ (ps_while th.own (pt_cmpR op_lt (pv 3) (plen T.len (pv 0)) (nomark _)) (pZ (ps_set (i:=4) cZ2b.nd rfl (Or.inl rfl) (pe_op op_add (pe_op op_add (pv 3) pI) (pe_kget T.lensK (pe_gl T.lens) (pxK K (pv 0) (pv 3)) (fun _ _=>rfl))))
    (pZ (ps_set (i:=5) cZ2b.nd rfl (Or.inl rfl) (pb B_answer_call hr th (pY (pv 1) (pY (pxK K (pv 0) (pv 3)) (pY (pe_slice (r:=rSlL K) sl_list (pv 0) (po_some (pe_op op_add (pv 3) pI)) (po_some (pv 4))) pN)))))
    (pZ (ps_expr (papp (pv 2) (pY (plen T.len (pv 5)) pN)))
    (pZ (ps_expr (pext (pv 2) (pY (pv 5) pN)))
    (pO (ps_set (i:=3) cZ2b.nd rfl (Or.inl rfl) (pv 4))))))))
   (pO (ps_ret (pv 2))))))),?_⟩
  walk_at "rd"
  intro x dx hx0 hdx0 hdx
  have s1:Same H (upd (upd H dx (.own x)) x (.ins a.cSwarm dx [])):=(Same.new hdx0).trans (Same.new (by rw [uN (Ne.symm hdx)];exact hx0))
  refine ⟨x,dx,H,rfl,uS,s1,hx0,fun H2 g2 sw2=>⟨rfl,Nat.zero_le _,fun gq hgq=>?_⟩⟩
  have hgH:H gq=none:=g2.free hgq
  obtain ⟨fine0,rel0⟩:=Fl.first asked
  have keep:∀ {cur:List V} {Hc:Hp},Same (upd H gq (.lst cur)) Hc→SqL K Hc ca (ns.map V.int)∧Hc gq=some (.lst cur):=fun s=>⟨((Same.new hgH).trans s).seq hca,s _ _ uS⟩
  refine ⟨fun m σ Hc=>∃ (j:Nat) (cur:List Int) (s:Sn48.St) (u:Sn48.World) (y4 y5:Option V),m=ns.length - j∧j≤ns.length∧σ=[some (.ref ca),some (.ref x),some (.ref gq),some (.int ((j:Nat):Int)),y4,y5]∧Same (upd H gq (.lst (cur.map V.int))) Hc∧SwAt a (upd H gq (.lst (cur.map V.int))) Hc x u∧Fl.Rel s u (ns.drop j)∧Fl.Fine s (ns.drop j)∧cur++Fl.due s (ns.drop j)=PySn48.answers ns∧cur.length≤9 * j,⟨_,0,[],none,⟨0,0,[]⟩,_,_,rfl,Nat.zero_le _,rfl,same_add g2,sw2.add hgq,rel0,fine0,by rw [Fl.answers_due];rfl,Nat.le_refl _⟩,?_⟩
  rintro m σ Hc ⟨j,cur,s,u,y4,y5,rfl,hj,rfl,gs,sw,rel,fine,ed,cl⟩
  obtain ⟨sq,hg⟩:=keep gs
  refine ⟨_,rfl,_,rfl,ca,_,rfl,.inl sq,_,_,rfl,rfl,_,rfl,?_⟩
  dsimp only
  rw [List.length_map]
  by_cases c:j < ns.length
  ·rw [if_pos (decide_eq_true (by lia))]
   refine ⟨_,fun σ' H' h=>h,?_⟩
   have ec:=List.drop_eq_getElem_cons c
   generalize hp0:ns[j]=p0 at ec
   have hat:ns[j]?=some p0:=by rw [List.getElem?_eq_getElem c,hp0]
   rw [ec] at rel fine ed
   obtain ⟨args,rest,call,u',er,hd,eu,edue,fine',wok',ol⟩:=Fl.next rel fine
   walk_at "rd"
   simp only [L2.tKGet]
   have hatv:(ns.map V.int)[j]?=some (.int p0):=by rw [List.getElem?_map,hat];rfl
   have ed1:ns.drop (j + 1)=args++rest:=er
   have alen:j + 1 + args.length≤ns.length:=by
    have:=congrArg List.length ed1
    rw [List.length_drop,List.length_append] at this
    lia
   refine ⟨rfl,_,rfl,_,rfl,ca,_,_,.int p0,rfl,rfl,sq,atI_nat hatv,p0,_,rfl,lens_of hd,_,rfl,_,sq,.int p0,atI_nat hatv,_,sq,fun hq hhq=>?_⟩
   have ecut:cutV (ns.map V.int) (some (((j:Nat):Int) + 1)) (some (((j:Nat):Int) + 1 + ((args.length:Nat):Int)))=args.map V.int:=by
    exact cut_mid ed1 (by lia)
   rw [ecut]
   have n:=Same.new (o:=.lst (args.map V.int)) hhq
   refine ⟨x,p0,hq,args,u,_,call,rfl,uS,hd,rel.1,gs.trans n,sw.same n,fun u2 H' q hu2 gs2 sw2 gq2 hq2=>?_⟩
   rw [eu] at hu2
   cases hu2
   have hg':=(keep gs2).2
   have qg:q≠gq:=fun e=>by rw [e,uS] at gq2;cases gq2
   refine ⟨.inl ⟨rfl,_,SqL.of hg'⟩,q,rfl,_,.inl (SqL.of hq2),_,hg',(by rw [List.length_map,sizeLine_eq];lia),.inl ⟨rfl,_,SqL.of uS⟩,q,rfl,_,uS,_,(uN qg).trans hq2,?_,?_⟩
   ·have h1:=Fl.ints_length (Sn48.step (some u) call).2.out
    have h2:((Sn48.step (some u) call).2.value::Sn48Neutral.ints (Sn48.step (some u) call).2.out).length=(Sn48Neutral.ints (Sn48.step (some u) call).2.out).length + 1:=rfl
    rw [List.length_append,List.length_map,List.length_map,List.length_singleton,sizeLine_eq]
    lia
   ·have et:List.map V.int cur++[V.int ((List.map V.int ((Sn48.step (some u) call).2.value::Sn48Neutral.ints (Sn48.step (some u) call).2.out)).length:Nat)]++List.map V.int ((Sn48.step (some u) call).2.value::Sn48Neutral.ints (Sn48.step (some u) call).2.out)=List.map V.int (cur++Fl.told1 (Sn48.step (some u) call).2):=by
     rw [← Fl.told_eq,List.map_append,List.length_map,List.append_assoc]
     rfl
    rw [upd_twice,et]
    have edr:ns.drop (j + 1 + args.length)=rest:=by rw [← List.drop_drop,ed1,List.drop_left]
    have tl:(Fl.told1 (Sn48.step (some u) call).2).length≤9:=by
     have h1:=Fl.ints_length (Sn48.step (some u) call).2.out
     show (Sn48Neutral.ints (Sn48.step (some u) call).2.out).length + 1 + 1≤9
     lia
    have g3:=same_add (g:=gq) (o:=.lst ((cur++Fl.told1 (Sn48.step (some u) call).2).map V.int)) gs2
    have sw3:=SwAt.put (o':=.lst ((cur++Fl.told1 (Sn48.step (some u) call).2).map V.int)) sw2 (uS (H:=H))
    rw [upd_twice] at g3 sw3
    refine ⟨_,?_,j + 1 + args.length,rfl,alen,by lia,cur++Fl.told1 (Sn48.step (some u) call).2,g3,some u',u',sw3,?_,?_,?_,?_⟩
    ·lia
    ·exact ⟨wok',.inl rfl⟩
    ·rw [edr];exact fine'
    ·rw [edr,List.append_assoc,← edue];exact ed
    ·rw [List.length_append];lia
  ·rw [if_neg (by rw [decide_eq_false (by lia)];decide)]
   have ej:j=ns.length:=by lia
   rw [ej,List.drop_length,Fl.due_nil,List.append_nil] at ed
   exact ⟨_,rfl,k gq Hc (by rw [hg,ed])⟩
end
end Pw
namespace Pw
open PySem L2
structure Dall (K:PySem.W.Frag) (mg:Str→Option Value) (a:Ad):Prop where
 rounded:Df K mg "rounded" tZ5v ["m","e"]
 opposite:Df K mg "opposite" tZ5p ["x"]
 is_minus:Df K mg "is_minus" tZ5j ["x"]
 zero_of_signs:Df K mg "zero_of_signs" tZ66 ["x","y"]
 plus:Df K mg "plus" tZ5s ["x","y"]
 minus:Df K mg "minus" tZ5o ["x","y"]
 times:Df K mg "times" tZ60 ["x","y"]
 over:Df K mg "over" tZ5q ["x","y"]
 whole_root:Df K mg "whole_root" tZ65 ["n"]
 root:Df K mg "root" tZ5u ["x"]
 is_below:Df K mg "is_below" tZ5g ["x","y"]
 square:Df K mg "square" tZ5y ["u"]
 is_finite:Df K mg "is_finite" tZ5i ["bits"]
 is_below_zero:Df K mg "is_below_zero" tZ5h ["bits"]
 is_above_zero:Df K mg "is_above_zero" tZ5f ["bits"]
 from_bits:Df K mg "from_bits" tZ5d ["bits"]
 to_bits:Df K mg "to_bits" tZ62 ["x"]
 along:Df K mg "along" tZ54 ["places","axis"]
 least_of:Df K mg "least_of" tZ5k ["numbers"]
 greatest_of:Df K mg "greatest_of" tZ5e ["numbers"]
 sum_of:Df K mg "sum_of" tZ5z ["numbers"]
 part_of:Df K mg "part_of" tZ5r ["place","middle"]
 middle_of_part:Df K mg "middle_of_part" tZ5n ["part","less","more"]
 Cell___init__:Dfm K a.cCell "__init__" "Cell.__init__" tZ4j ["self","bodies"]
 bodies_by_part:Df K mg "bodies_by_part" tZ58 ["places","bodies","middle"]
 weigh:Df K mg "weigh" tZ64 ["cell","weights","places"]
 cell_of:Df K mg "cell_of" tZ59 ["weights","places","bodies","middle","half","level"]
 first_cell:Df K mg "first_cell" tZ5b ["weights","places"]
 way_to:Df K mg "way_to" tZ63 ["place","back"]
 Field___init__:Dfm K a.cField "__init__" "Field.__init__" tZ4k ["self","far","soft","weights","places"]
 Field_add_one:Dfm K a.cField "add_one" "Field.add_one" tZ4m ["self","pull","weight","way","way_square"]
 Field_add_singles:Dfm K a.cField "add_singles" "Field.add_singles" tZ4n ["self","pull","cell","body","back"]
 Field_add_if_far:Dfm K a.cField "add_if_far" "Field.add_if_far" tZ4l ["self","pull","cell","back"]
 Field_pull_on:Dfm K a.cField "pull_on" "Field.pull_on" tZ4o ["self","body"]
 pulls_of:Df K mg "pulls_of" tZ5t ["far","soft","weights","places"]
 from_all_bits:Df K mg "from_all_bits" tZ5c ["row"]
 to_all_bits:Df K mg "to_all_bits" tZ61 ["row"]
 row_plus:Df K mg "row_plus" tZ5w ["row","factor","other"]
 rows_plus:Df K mg "rows_plus" tZ5x ["rows","factor","others"]
 Motion___init__:Dfm K a.cMotion "__init__" "Motion.__init__" tZ4p ["self","far","soft","bodies"]
 Motion_pulls_now:Dfm K a.cMotion "pulls_now" "Motion.pulls_now" tZ4v ["self"]
 Motion_go:Dfm K a.cMotion "go" "Motion.go" tZ4u ["self","n","dt"]
 Motion_bodies_now:Dfm K a.cMotion "bodies_now" "Motion.bodies_now" tZ4q ["self"]
 Motion_energy_of_speeds:Dfm K a.cMotion "energy_of_speeds" "Motion.energy_of_speeds" tZ4t ["self"]
 Motion_energy_between:Dfm K a.cMotion "energy_between" "Motion.energy_between" tZ4r ["self","one","other"]
 Motion_energy_now:Dfm K a.cMotion "energy_now" "Motion.energy_now" tZ4s ["self"]
 bodies_after:Df K mg "bodies_after" tZ57 ["far","soft","bodies","n","dt"]
 energy_of:Df K mg "energy_of" tZ5a ["far","soft","bodies"]
 may_be_far_or_soft:Df K mg "may_be_far_or_soft" tZ5m ["bits"]
 may_be_body:Df K mg "may_be_body" tZ5l ["body"]
 Swarm___init__:Dfm K a.cSwarm "__init__" "Swarm.__init__" tZ4w ["self"]
 Swarm_begin:Dfm K a.cSwarm "begin" "Swarm.begin" tZ4x ["self","far","soft"]
 Swarm_put:Dfm K a.cSwarm "put" "Swarm.put" tZ51 ["self","body"]
 Swarm_has_body:Dfm K a.cSwarm "has_body" "Swarm.has_body" tZ50 ["self","i"]
 Swarm_set_body:Dfm K a.cSwarm "set_body" "Swarm.set_body" tZ52 ["self","i","body"]
 Swarm_get_body:Dfm K a.cSwarm "get_body" "Swarm.get_body" tZ4z ["self","i"]
 Swarm_step:Dfm K a.cSwarm "step" "Swarm.step" tZ53 ["self","n","dt"]
 Swarm_energy:Dfm K a.cSwarm "energy" "Swarm.energy" tZ4y ["self"]
 answer_call:Df K mg "answer_call" tZ55 ["swarm","call","handed"]
 answers:Df K mg "answers" tZ56 ["calls"]
theorem chain {P:Program} {w:World} {K:PySem.W.Frag} {mg:Str→Option Value} {base:Heap} {a:Ad} (T:Tx K mg a) (S:Tc K mg a) (D:Dall K mg a):Cb P w K mg base "answers" tZ56 ["calls"] 36 (pZ_3k K):=by
 have B_rounded:=kZ1c (P:=P) (w:=w) (base:=base) T D.rounded
 have B_opposite:=kZ16 (P:=P) (w:=w) (base:=base) T D.opposite
 have B_is_minus:=kZ10 (P:=P) (w:=w) (base:=base) T D.is_minus
 have B_zero_of_signs:=kZ1n (P:=P) (w:=w) (base:=base) T D.zero_of_signs B_is_minus
 have B_plus:=kZ19 (P:=P) (w:=w) (base:=base) T D.plus B_rounded
 have B_minus:=kZ15 (P:=P) (w:=w) (base:=base) T D.minus B_plus B_opposite
 have B_times:=kZ1h (P:=P) (w:=w) (base:=base) T D.times B_rounded B_zero_of_signs
 have B_over:=kZ17 (P:=P) (w:=w) (base:=base) T D.over B_rounded B_zero_of_signs
 have B_whole_root:=kZ1m (P:=P) (w:=w) (base:=base) T D.whole_root
 have B_root:=kZ1b (P:=P) (w:=w) (base:=base) T D.root B_rounded B_whole_root
 have B_is_below:=kZ0x (P:=P) (w:=w) (base:=base) T D.is_below
 have B_square:=kZ1f (P:=P) (w:=w) (base:=base) T D.square B_plus B_times
 have B_is_finite:=kZ0z (P:=P) (w:=w) (base:=base) T D.is_finite
 have B_is_below_zero:=kZ0y (P:=P) (w:=w) (base:=base) T D.is_below_zero
 have B_is_above_zero:=kZ0w (P:=P) (w:=w) (base:=base) T D.is_above_zero
 have B_from_bits:=kZ0u (P:=P) (w:=w) (base:=base) T D.from_bits
 have B_to_bits:=kZ1j (P:=P) (w:=w) (base:=base) T D.to_bits
 have R:Ar P w K mg base a:=⟨B_from_bits,B_to_bits,B_opposite,B_plus,B_minus,B_times,B_over,B_root,B_is_below,B_square⟩
 have B_along:=kZ0l (P:=P) (w:=w) (base:=base) T D.along R
 have B_least_of:=kZ11 (P:=P) (w:=w) (base:=base) T D.least_of R
 have B_greatest_of:=kZ0v (P:=P) (w:=w) (base:=base) T D.greatest_of R
 have B_sum_of:=kZ1g (P:=P) (w:=w) (base:=base) T D.sum_of R
 have B_part_of:=kZ18 (P:=P) (w:=w) (base:=base) T D.part_of R
 have B_middle_of_part:=kZ14 (P:=P) (w:=w) (base:=base) T D.middle_of_part R
 have B_Cell:=kZ00 (P:=P) (w:=w) (base:=base) T D.Cell___init__ S
 have B_bodies_by_part:=kZ0p (P:=P) (w:=w) (base:=base) T D.bodies_by_part R B_part_of
 have B_weigh:=kZ1l (P:=P) (w:=w) (base:=base) T D.weigh R S B_sum_of
 have B_cell_of:=all_cell_of (P:=P) (w:=w) (base:=base) T D.cell_of R S B_Cell B_bodies_by_part B_middle_of_part B_weigh 20
 have B_first_cell:=kZ0s (P:=P) (w:=w) (base:=base) T D.first_cell R S B_Cell B_along B_least_of B_greatest_of B_cell_of
 have B_way_to:=kZ1k (P:=P) (w:=w) (base:=base) T D.way_to R
 have B_Field:=kZ01 (P:=P) (w:=w) (base:=base) T D.Field___init__ S B_first_cell
 have B_add_one:=kZ03 (P:=P) (w:=w) (base:=base) T D.Field_add_one R S
 have B_add_singles:=kZ04 (P:=P) (w:=w) (base:=base) T D.Field_add_singles R S B_way_to B_add_one
 have B_add_if_far:=kZ02 (P:=P) (w:=w) (base:=base) T D.Field_add_if_far R S B_way_to B_add_one
 have B_pull_on:=kZ05 (P:=P) (w:=w) (base:=base) T D.Field_pull_on R S B_add_singles B_add_if_far
 have B_pulls_of:=kZ1a (P:=P) (w:=w) (base:=base) T D.pulls_of R S B_Field B_pull_on
 have B_from_all_bits:=kZ0t (P:=P) (w:=w) (base:=base) T D.from_all_bits R
 have B_to_all_bits:=kZ1i (P:=P) (w:=w) (base:=base) T D.to_all_bits R
 have B_row_plus:=kZ1d (P:=P) (w:=w) (base:=base) T D.row_plus R
 have B_rows_plus:=kZ1e (P:=P) (w:=w) (base:=base) T D.rows_plus R B_row_plus
 have B_Motion:=kZ06 (P:=P) (w:=w) (base:=base) T D.Motion___init__ R S B_from_all_bits
 have B_pulls_now:=kZ0c (P:=P) (w:=w) (base:=base) T D.Motion_pulls_now R S B_pulls_of
 have B_go:=kZ0b (P:=P) (w:=w) (base:=base) T D.Motion_go R S B_pulls_now B_rows_plus
 have B_bodies_now:=kZ07 (P:=P) (w:=w) (base:=base) T D.Motion_bodies_now R S B_to_all_bits
 have B_energy_of_speeds:=kZ0a (P:=P) (w:=w) (base:=base) T D.Motion_energy_of_speeds R S
 have B_energy_between:=kZ08 (P:=P) (w:=w) (base:=base) T D.Motion_energy_between R S
 have B_energy_now:=kZ09 (P:=P) (w:=w) (base:=base) T D.Motion_energy_now R S B_energy_of_speeds B_energy_between
 have B_bodies_after:=kZ0o (P:=P) (w:=w) (base:=base) T D.bodies_after R S B_Motion B_go B_bodies_now
 have B_energy_of:=kZ0r (P:=P) (w:=w) (base:=base) T D.energy_of R S B_Motion B_energy_now
 have B_may_be_far_or_soft:=kZ13 (P:=P) (w:=w) (base:=base) T D.may_be_far_or_soft B_is_finite B_is_below_zero
 have B_may_be_body:=kZ12 (P:=P) (w:=w) (base:=base) T D.may_be_body B_is_finite B_is_above_zero
 have B_Swarm:=kZ0d (P:=P) (w:=w) (base:=base) T D.Swarm___init__ S
 have B_begin:=kZ0e (P:=P) (w:=w) (base:=base) T D.Swarm_begin S B_may_be_far_or_soft
 have B_put:=kZ0i (P:=P) (w:=w) (base:=base) T D.Swarm_put S B_may_be_body
 have B_has_body:=kZ0h (P:=P) (w:=w) (base:=base) T D.Swarm_has_body S
 have B_set_body:=kZ0j (P:=P) (w:=w) (base:=base) T D.Swarm_set_body S B_may_be_body B_has_body
 have B_get_body:=kZ0g (P:=P) (w:=w) (base:=base) T D.Swarm_get_body S B_has_body
 have B_step:=kZ0k (P:=P) (w:=w) (base:=base) T D.Swarm_step S B_is_finite B_bodies_after
 have B_energy:=kZ0f (P:=P) (w:=w) (base:=base) T D.Swarm_energy S B_energy_of
 have B_answer_call:=kZ0m (P:=P) (w:=w) (base:=base) T D.answer_call S B_begin B_put B_set_body B_get_body B_step B_energy
 exact kZ0n T D.answers S B_Swarm B_answer_call
theorem dn_uniq {K:PySem.W.Frag} {mg:Str→Option Value} {x:Str} {st:Stmt} {ps:List Str} {f f':Addr} {fd fd':FuncData} (D:Dn K mg x st ps f fd) (D':Dn K mg x st ps f' fd'):f=f'∧fd=fd':=by
 have e:=D.nm.symm.trans D'.nm
 cases e
 obtain ⟨_,_,_,_,_,_,_,_,_,_,l,_⟩:=D.fn.ex
 obtain ⟨_,_,_,_,_,_,_,_,_,_,l',_⟩:=D'.fn.ex
 rw [l] at l'
 cases l'
 exact ⟨rfl,rfl⟩
theorem fin {P:Program} {w:World} {K:PySem.W.Frag} {mg:Str→Option Value} {a:Ad} (T:Tx K mg a) (S:Tc K mg a) (D:Dall K mg a) {fa:Addr} (hmg:mg "answers"=some (.ref fa)) :
  ∃ fd:FuncData,(∀ (s:Shared) (u:Value),BindsTo s fd ⟨[u],[]⟩ [("calls",u)])∧∀ base:Heap,K.In base→base.Ns mainGlobals mg→FnOk P w K mg base (CXe P w) 36 fa fd ["calls"] (pZ_3k K):=by
 obtain ⟨f0,fd0,D0⟩:=id D.answers
 have e:=D0.nm.symm.trans hmg
 cases e
 refine ⟨fd0,?_,fun base _ _=>?_⟩
 ·obtain ⟨_,_,_,_,_,_,_,_,_,rfl,_,_⟩:=D0.fn.ex
  exact fun s u=>.of_eq rfl
 ·obtain ⟨f,fd,D1,F1⟩:=chain (P:=P) (w:=w) (base:=base) T S D
  obtain ⟨rfl,rfl⟩:=dn_uniq D1 D0
  exact F1
end Pw
namespace Pw
open PySem L2
section
variable {K:PySem.W.Frag} {h:Heap} {mg:Str→Option Value}
theorem ls1 {p:List Value→Prop} (h:∀ a,p [a]):∀ us:List Value,us.length=1→p us
 | [a],_=>h a
theorem ls2 {p:List Value→Prop} (h:∀ a b,p [a,b]):∀ us:List Value,us.length=2→p us
 | [a,b],_=>h a b
theorem ls3 {p:List Value→Prop} (h:∀ a b c,p [a,b,c]):∀ us:List Value,us.length=3→p us
 | [a,b,c],_=>h a b c
theorem ls4 {p:List Value→Prop} (h:∀ a b c d,p [a,b,c,d]):∀ us:List Value,us.length=4→p us
 | [a,b,c,d],_=>h a b c d
theorem ls5 {p:List Value→Prop} (h:∀ a b c d e,p [a,b,c,d,e]):∀ us:List Value,us.length=5→p us
 | [a,b,c,d,e],_=>h a b c d e
theorem ls6 {p:List Value→Prop} (h:∀ a b c d e f,p [a,b,c,d,e,f]):∀ us:List Value,us.length=6→p us
 | [a,b,c,d,e,f],_=>h a b c d e f
theorem dn_mk (X:K.In h) (G:h.Ns mainGlobals mg) {x:Str} {st:Stmt} {ps:List Str} {f:Addr} {oc:Value} {od an:Option Addr} {osl:Array (Option Value)} {kV doc pm cdv ct:Value}
  (a:PySem.W.nsIn K mainGlobals x=some (some (.ref f)))
  (l:K.lookup f=some ⟨oc,od,.func (PySem.W.fnOf x x (defArgs st) (defBody st) (defScope st) .none kV doc pm an cdv ct),osl⟩) (c:PySem.W.codeIn K cdv x=true) (k:PySem.W.keepIn K (.ref f)=true)
  (hb:∀ (kV doc pm:Value) (an:Option Addr) (cdv ct:Value) (us:List Value),us.length=ps.length→bindArgs (PySem.W.fnOf x x (defArgs st) (defBody st) (defScope st) .none kV doc pm an cdv ct) ⟨us,[]⟩=pure (ps.zip us)) :
  Df K mg x st ps:=⟨_,_,fun_mk l c k,(fun_mk l c k).binds hb,PySem.W.mg_of X G a⟩
theorem dm_mk {C f:Addr} {m qual:Str} {st:Stmt} {ps:List Str} {oc:Value} {od an:Option Addr} {osl:Array (Option Value)} {kV doc pm cdv ct:Value}
  (a:PySem.W.findIn K (.ref C) m=some (some (.ref f)))
  (l:K.lookup f=some ⟨oc,od,.func (PySem.W.fnOf m qual (defArgs st) (defBody st) (defScope st) .none kV doc pm an cdv ct),osl⟩) (c:PySem.W.codeIn K cdv qual=true) (k:PySem.W.keepIn K (.ref f)=true) (i:PySem.W.isFn K (.ref f)=true)
  (hb:∀ (kV doc pm:Value) (an:Option Addr) (cdv ct:Value) (us:List Value),us.length=ps.length→bindArgs (PySem.W.fnOf m qual (defArgs st) (defBody st) (defScope st) .none kV doc pm an cdv ct) ⟨us,[]⟩=pure (ps.zip us)) :
  Dfm K C m qual st ps:=⟨_,_,fun_mk l c k,(fun_mk l c k).binds hb,⟨a,i,k⟩⟩
theorem gv_mk (X:K.In h) (G:h.Ns mainGlobals mg) {x:Str} {n:Int} {t:Tok} (a:PySem.W.nsIn K mainGlobals x=some (some (.int n t))):Gv mg x (.int n):=⟨_,PySem.W.mg_of X G a,t,rfl⟩
theorem gr_mk (X:K.In h) (G:h.Ns mainGlobals mg) {x:Str} {A:Addr} (a:PySem.W.nsIn K mainGlobals x=some (some (.ref A))):Gv mg x (.ref A):=⟨_,PySem.W.mg_of X G a,rfl⟩
theorem none_mk (X:K.In h) (G:h.Ns mainGlobals mg) {x:Str} (a:PySem.W.nsIn K mainGlobals x=some none):mg x=none:=PySem.W.ns_none_of X G a
theorem exc_mk (X:K.In h) (G:h.Ns mainGlobals mg) {x:Str} {C N:Addr} {nm q bs bm hdct sn sub ab col dd k0 k1 k2 k3 k5 bmB newId} (a:PySem.W.nsIn K mainGlobals x=some (some (.ref C)))
  (l:K.lookup C=some (excClassObj nm q C N bs bm hdct sn sub ab col dd k0 k1 k2 k3 k5 newId)) (n1:PySem.W.nsOkIn K N=true) (n2:PySem.W.nsIn K N "__init__"=some none) (tl:PySem.W.tailIn K bmB bm=true):OwnExc K mg x C bmB newId :=
 ⟨PySem.W.mg_of X G a,nm,q,N,bs,bm,hdct,sn,sub,ab,col,dd,k0,k1,k2,k3,k5,l,n1,n2,tl⟩
theorem cz_mk (X:K.In h) (G:h.Ns mainGlobals mg) {x:Str} {C:Addr} (a:PySem.W.nsIn K mainGlobals x=some (some (.ref C))) (pg:PySem.W.plainGet K C Str.empty=true) (hd:PySem.W.hasDictIn K C=true) (po:PySem.W.plainOver K C=true)
  (sa:PySem.W.findIn K (.ref C) "__setattr__"=some (some (.builtin "object.__setattr__"))) (mk:PySem.W.makesIn K C=true) (kc:PySem.W.keepIn K (.ref C)=true):Cz K mg x C:=⟨⟨pg,hd,po,sa⟩,mk,kc,PySem.W.mg_of X G a⟩
theorem kt_mk {A:Addr} {m e:Int} {t u:Tok} {d:Option Addr} {n:Nat} {sl:Array (Option Value)} (l:K.lookup A=some ⟨.type "tuple",d,.seq #[.int m t,.int e u] n,sl⟩):Kt K A [.int m,.int e] :=
 ⟨_,_,_,l,rfl,rfl,(by show 2≤sizeLine;decide),.cons ⟨t,rfl⟩ (.cons ⟨u,rfl⟩ .nil)⟩
theorem lens_mk {A:Addr} {t0 t1 t2 t3 t4 t5 u0 u1 u2 u3 u4 u5:Tok} {ep} (l:K.lookup A=some { cls:=.type "dict",dict:=none,data:=.dict #[⟨hashInt 0,.int 0 t0,.int 2 u0⟩,⟨hashInt 1,.int 1 t1,.int 7 u1⟩,⟨hashInt 2,.int 2 t2,.int 8 u2⟩,⟨hashInt 3,.int 3 t3,.int 2 u3⟩,⟨hashInt 4,.int 4 t4,.int 1 u4⟩,⟨hashInt 5,.int 5 t5,.int 0 u5⟩] ep,slots:=#[] }):KInts K A [(0,2),(1,7),(2,8),(3,2),(4,1),(5,0)] :=
 ⟨⟨_,_,l,.cons (.cons (.cons (.cons (.cons (.cons .nil)))))⟩,by decide⟩
abbrev fo (x q:Str) (s:Stmt):=W.fnOf x q (defArgs s) (defBody s) (defScope s) .none
set_option maxHeartbeats 0 in
theorem all_mk (X:K.In h) (G:h.Ns mainGlobals mg) {exc pz mz hf tw lens cCell cField cMotion cSwarm N f_z1 f_z2 f_z3 f_z4 f_z5 f_z6 f_z7 f_z8 f_z9 f_z10 f_z11 f_z12 f_z13 f_z14 f_z15 f_z16 f_z17 f_z18 f_z19 f_z20 f_z21 f_z22 f_z23 f_z24 f_z25 f_z26 f_z27 f_z28 f_z29 f_z30 f_z31 f_z32 f_z33 f_z34 f_z35 f_z36 f_z37 f_z38 f_z39 f_z40 f_z41 f_z42 f_z43 f_z44 f_z45 f_z46 f_z47 f_z48 f_z49 f_z50 f_z51 f_z52 f_z53 f_z54 f_z55 f_z56 f_z57 f_z58 f_z59 f_z60:Addr} {tsign tinf tleading tmb tle tbey tdeep tmost tsteps tdone troom tsuch tcount tdbl tfail tbegin tput tset tstep tget u0 u1 u2 u3 u4 u5 v0 v1 v2 v3 v4 v5 ppz pmz phf ptw qpz qmz qhf qtw:Tok} {ep nm q bs bm hdct sn sub ab col dd k0 k1 k2 k3 k5} {dpz dmz dhf dtw:Option Addr} {npz nmz nhf ntw:Nat} {spz smz shf stw:Array (Option Value)} {ocz1 kvz1 dcz1 pmz1 cdz1 ctz1 ocz2 kvz2 dcz2 pmz2 cdz2 ctz2 ocz3 kvz3 dcz3 pmz3 cdz3 ctz3 ocz4 kvz4 dcz4 pmz4 cdz4 ctz4 ocz5 kvz5 dcz5 pmz5 cdz5 ctz5 ocz6 kvz6 dcz6 pmz6 cdz6 ctz6 ocz7 kvz7 dcz7 pmz7 cdz7 ctz7 ocz8 kvz8 dcz8 pmz8 cdz8 ctz8 ocz9 kvz9 dcz9 pmz9 cdz9 ctz9 ocz10 kvz10 dcz10 pmz10 cdz10 ctz10 ocz11 kvz11 dcz11 pmz11 cdz11 ctz11 ocz12 kvz12 dcz12 pmz12 cdz12 ctz12 ocz13 kvz13 dcz13 pmz13 cdz13 ctz13 ocz14 kvz14 dcz14 pmz14 cdz14 ctz14 ocz15 kvz15 dcz15 pmz15 cdz15 ctz15 ocz16 kvz16 dcz16 pmz16 cdz16 ctz16 ocz17 kvz17 dcz17 pmz17 cdz17 ctz17 ocz18 kvz18 dcz18 pmz18 cdz18 ctz18 ocz19 kvz19 dcz19 pmz19 cdz19 ctz19 ocz20 kvz20 dcz20 pmz20 cdz20 ctz20 ocz21 kvz21 dcz21 pmz21 cdz21 ctz21 ocz22 kvz22 dcz22 pmz22 cdz22 ctz22 ocz23 kvz23 dcz23 pmz23 cdz23 ctz23 ocz24 kvz24 dcz24 pmz24 cdz24 ctz24 ocz25 kvz25 dcz25 pmz25 cdz25 ctz25 ocz26 kvz26 dcz26 pmz26 cdz26 ctz26 ocz27 kvz27 dcz27 pmz27 cdz27 ctz27 ocz28 kvz28 dcz28 pmz28 cdz28 ctz28 ocz29 kvz29 dcz29 pmz29 cdz29 ctz29 ocz30 kvz30 dcz30 pmz30 cdz30 ctz30 ocz31 kvz31 dcz31 pmz31 cdz31 ctz31 ocz32 kvz32 dcz32 pmz32 cdz32 ctz32 ocz33 kvz33 dcz33 pmz33 cdz33 ctz33 ocz34 kvz34 dcz34 pmz34 cdz34 ctz34 ocz35 kvz35 dcz35 pmz35 cdz35 ctz35 ocz36 kvz36 dcz36 pmz36 cdz36 ctz36 ocz37 kvz37 dcz37 pmz37 cdz37 ctz37 ocz38 kvz38 dcz38 pmz38 cdz38 ctz38 ocz39 kvz39 dcz39 pmz39 cdz39 ctz39 ocz40 kvz40 dcz40 pmz40 cdz40 ctz40 ocz41 kvz41 dcz41 pmz41 cdz41 ctz41 ocz42 kvz42 dcz42 pmz42 cdz42 ctz42 ocz43 kvz43 dcz43 pmz43 cdz43 ctz43 ocz44 kvz44 dcz44 pmz44 cdz44 ctz44 ocz45 kvz45 dcz45 pmz45 cdz45 ctz45 ocz46 kvz46 dcz46 pmz46 cdz46 ctz46 ocz47 kvz47 dcz47 pmz47 cdz47 ctz47 ocz48 kvz48 dcz48 pmz48 cdz48 ctz48 ocz49 kvz49 dcz49 pmz49 cdz49 ctz49 ocz50 kvz50 dcz50 pmz50 cdz50 ctz50 ocz51 kvz51 dcz51 pmz51 cdz51 ctz51 ocz52 kvz52 dcz52 pmz52 cdz52 ctz52 ocz53 kvz53 dcz53 pmz53 cdz53 ctz53 ocz54 kvz54 dcz54 pmz54 cdz54 ctz54 ocz55 kvz55 dcz55 pmz55 cdz55 ctz55 ocz56 kvz56 dcz56 pmz56 cdz56 ctz56 ocz57 kvz57 dcz57 pmz57 cdz57 ctz57 ocz58 kvz58 dcz58 pmz58 cdz58 ctz58 ocz59 kvz59 dcz59 pmz59 cdz59 ctz59 ocz60 kvz60 dcz60 pmz60 cdz60 ctz60:Value} {odz1 anz1 odz2 anz2 odz3 anz3 odz4 anz4 odz5 anz5 odz6 anz6 odz7 anz7 odz8 anz8 odz9 anz9 odz10 anz10 odz11 anz11 odz12 anz12 odz13 anz13 odz14 anz14 odz15 anz15 odz16 anz16 odz17 anz17 odz18 anz18 odz19 anz19 odz20 anz20 odz21 anz21 odz22 anz22 odz23 anz23 odz24 anz24 odz25 anz25 odz26 anz26 odz27 anz27 odz28 anz28 odz29 anz29 odz30 anz30 odz31 anz31 odz32 anz32 odz33 anz33 odz34 anz34 odz35 anz35 odz36 anz36 odz37 anz37 odz38 anz38 odz39 anz39 odz40 anz40 odz41 anz41 odz42 anz42 odz43 anz43 odz44 anz44 odz45 anz45 odz46 anz46 odz47 anz47 odz48 anz48 odz49 anz49 odz50 anz50 odz51 anz51 odz52 anz52 odz53 anz53 odz54 anz54 odz55 anz55 odz56 anz56 odz57 anz57 odz58 anz58 odz59 anz59 odz60 anz60:Option Addr} {osz1 osz2 osz3 osz4 osz5 osz6 osz7 osz8 osz9 osz10 osz11 osz12 osz13 osz14 osz15 osz16 osz17 osz18 osz19 osz20 osz21 osz22 osz23 osz24 osz25 osz26 osz27 osz28 osz29 osz30 osz31 osz32 osz33 osz34 osz35 osz36 osz37 osz38 osz39 osz40 osz41 osz42 osz43 osz44 osz45 osz46 osz47 osz48 osz49 osz50 osz51 osz52 osz53 osz54 osz55 osz56 osz57 osz58 osz59 osz60:Array (Option Value)}
  (x1:W.nsIn K mainGlobals "SIGN"=some (some (.int 9223372036854775808 tsign)))
  (x2:W.nsIn K mainGlobals "INFINITY"=some (some (.int 9218868437227405312 tinf)))
  (x3:W.nsIn K mainGlobals "LEADING"=some (some (.int 4503599627370496 tleading)))
  (x4:W.nsIn K mainGlobals "MOST_BITS"=some (some (.int 53 tmb)))
  (x5:W.nsIn K mainGlobals "LEAST_EXPONENT"=some (some (.int (-1074) tle)))
  (x6:W.nsIn K mainGlobals "BEYOND"=some (some (.int 1024 tbey)))
  (x7:W.nsIn K mainGlobals "DEEPEST"=some (some (.int 20 tdeep)))
  (x8:W.nsIn K mainGlobals "MOST_BODIES"=some (some (.int 4096 tmost)))
  (x9:W.nsIn K mainGlobals "MOST_STEPS"=some (some (.int 1000000 tsteps)))
  (x10:W.nsIn K mainGlobals "DONE"=some (some (.int 0 tdone)))
  (x11:W.nsIn K mainGlobals "NO_ROOM"=some (some (.int (-1) troom)))
  (x12:W.nsIn K mainGlobals "NO_SUCH_BODY"=some (some (.int (-2) tsuch)))
  (x13:W.nsIn K mainGlobals "WRONG_COUNT"=some (some (.int (-2) tcount)))
  (x14:W.nsIn K mainGlobals "WRONG_DOUBLE"=some (some (.int (-3) tdbl)))
  (x15:W.nsIn K mainGlobals "FAILED"=some (some (.int (-5) tfail)))
  (x16:W.nsIn K mainGlobals "BEGIN"=some (some (.int 0 tbegin)))
  (x17:W.nsIn K mainGlobals "PUT"=some (some (.int 1 tput)))
  (x18:W.nsIn K mainGlobals "SET"=some (some (.int 2 tset)))
  (x19:W.nsIn K mainGlobals "STEP"=some (some (.int 3 tstep)))
  (x20:W.nsIn K mainGlobals "GET"=some (some (.int 4 tget)))
  (x21:W.nsIn K mainGlobals "LENGTHS"=some (some (.ref lens)))
  (x22:K.lookup lens=some { cls:=.type "dict",dict:=none,data:=.dict #[⟨hashInt 0,.int 0 u0,.int 2 v0⟩,⟨hashInt 1,.int 1 u1,.int 7 v1⟩,⟨hashInt 2,.int 2 u2,.int 8 v2⟩,⟨hashInt 3,.int 3 u3,.int 2 v3⟩,⟨hashInt 4,.int 4 u4,.int 1 v4⟩,⟨hashInt 5,.int 5 u5,.int 0 v5⟩] ep,slots:=#[] })
  (x23:W.nsIn K mainGlobals "PLUS_ZERO"=some (some (.ref pz)))
  (x24:W.nsIn K mainGlobals "MINUS_ZERO"=some (some (.ref mz)))
  (x25:W.nsIn K mainGlobals "HALF"=some (some (.ref hf)))
  (x26:W.nsIn K mainGlobals "TWO"=some (some (.ref tw)))
  (x27:K.lookup pz=some ⟨.type "tuple",dpz,.seq #[.int 0 ppz,.int 0 qpz] npz,spz⟩)
  (x28:K.lookup mz=some ⟨.type "tuple",dmz,.seq #[.int 0 pmz,.int (-1) qmz] nmz,smz⟩)
  (x29:K.lookup hf=some ⟨.type "tuple",dhf,.seq #[.int 1 phf,.int (-1) qhf] nhf,shf⟩)
  (x30:K.lookup tw=some ⟨.type "tuple",dtw,.seq #[.int 1 ptw,.int 1 qtw] ntw,stw⟩)
  (x31:W.nsIn K mainGlobals "Failed"=some (some (.ref exc)))
  (x32:K.lookup exc=some (excClassObj nm q exc N bs bm hdct sn sub ab col dd k0 k1 k2 k3 k5 "Exception.__new__"))
  (x33:W.nsOkIn K N=true)
  (x34:W.nsIn K N "__init__"=some none)
  (x35:W.tailIn K [.type "Exception",.type "BaseException",.type "object"] bm=true)
  (x36:W.exmOne K (.ref exc) (.ref exc)=some true)
  (x37:W.nsIn K mainGlobals "max"=some none)
  (x38:W.nsIn K mainGlobals "abs"=some none)
  (x39:W.nsIn K mainGlobals "len"=some none)
  (x40:W.nsIn K mainGlobals "range"=some none)
  (x41:W.nsIn K mainGlobals "zip"=some none)
  (x42:W.nsIn K mainGlobals "enumerate"=some none)
  (x43:W.nsIn K mainGlobals "reversed"=some none)
  (x44:W.nsIn K mainGlobals "list"=some none)
  (x45:W.nsIn K mainGlobals "dict"=some none)
  (x46:W.nsIn K mainGlobals "all"=some none)
  (x47:W.nsIn K mainGlobals "Cell"=some (some (.ref cCell)))
  (x48:W.plainGet K cCell Str.empty=true)
  (x49:W.hasDictIn K cCell=true)
  (x50:W.plainOver K cCell=true)
  (x51:W.findIn K (.ref cCell) "__setattr__"=some (some (.builtin "object.__setattr__")))
  (x52:W.makesIn K cCell=true)
  (x53:W.keepIn K (.ref cCell)=true)
  (x54:W.nsIn K mainGlobals "Field"=some (some (.ref cField)))
  (x55:W.plainGet K cField Str.empty=true)
  (x56:W.hasDictIn K cField=true)
  (x57:W.plainOver K cField=true)
  (x58:W.findIn K (.ref cField) "__setattr__"=some (some (.builtin "object.__setattr__")))
  (x59:W.makesIn K cField=true)
  (x60:W.keepIn K (.ref cField)=true)
  (x61:W.nsIn K mainGlobals "Motion"=some (some (.ref cMotion)))
  (x62:W.plainGet K cMotion Str.empty=true)
  (x63:W.hasDictIn K cMotion=true)
  (x64:W.plainOver K cMotion=true)
  (x65:W.findIn K (.ref cMotion) "__setattr__"=some (some (.builtin "object.__setattr__")))
  (x66:W.makesIn K cMotion=true)
  (x67:W.keepIn K (.ref cMotion)=true)
  (x68:W.nsIn K mainGlobals "Swarm"=some (some (.ref cSwarm)))
  (x69:W.plainGet K cSwarm Str.empty=true)
  (x70:W.hasDictIn K cSwarm=true)
  (x71:W.plainOver K cSwarm=true)
  (x72:W.findIn K (.ref cSwarm) "__setattr__"=some (some (.builtin "object.__setattr__")))
  (x73:W.makesIn K cSwarm=true)
  (x74:W.keepIn K (.ref cSwarm)=true)
  (x75:W.findIn K (.ref cCell) "singles"=some none)
  (x76:W.findIn K (.ref cCell) "parts"=some none)
  (x77:W.findIn K (.ref cCell) "members"=some none)
  (x78:W.findIn K (.ref cCell) "side"=some none)
  (x79:W.findIn K (.ref cCell) "weight"=some none)
  (x80:W.findIn K (.ref cCell) "place"=some none)
  (x81:W.findIn K (.ref cField) "far"=some none)
  (x82:W.findIn K (.ref cField) "soft"=some none)
  (x83:W.findIn K (.ref cField) "weights"=some none)
  (x84:W.findIn K (.ref cField) "places"=some none)
  (x85:W.findIn K (.ref cField) "first"=some none)
  (x86:W.findIn K (.ref cMotion) "far"=some none)
  (x87:W.findIn K (.ref cMotion) "soft"=some none)
  (x88:W.findIn K (.ref cMotion) "weights"=some none)
  (x89:W.findIn K (.ref cMotion) "places"=some none)
  (x90:W.findIn K (.ref cMotion) "speeds"=some none)
  (x91:W.findIn K (.ref cSwarm) "far"=some none)
  (x92:W.findIn K (.ref cSwarm) "soft"=some none)
  (x93:W.findIn K (.ref cSwarm) "bodies"=some none)
  (x94:W.nsIn K mainGlobals "rounded"=some (some (.ref f_z1)))
  (x95:K.lookup f_z1=some ⟨ocz1,odz1,.func (fo "rounded" "rounded" tZ5v kvz1 dcz1 pmz1 anz1 cdz1 ctz1),osz1⟩)
  (x96:W.codeIn K cdz1 "rounded"=true)
  (x97:W.keepIn K (.ref f_z1)=true)
  (x98:W.nsIn K mainGlobals "opposite"=some (some (.ref f_z2)))
  (x99:K.lookup f_z2=some ⟨ocz2,odz2,.func (fo "opposite" "opposite" tZ5p kvz2 dcz2 pmz2 anz2 cdz2 ctz2),osz2⟩)
  (x100:W.codeIn K cdz2 "opposite"=true)
  (x101:W.keepIn K (.ref f_z2)=true)
  (x102:W.nsIn K mainGlobals "is_minus"=some (some (.ref f_z3)))
  (x103:K.lookup f_z3=some ⟨ocz3,odz3,.func (fo "is_minus" "is_minus" tZ5j kvz3 dcz3 pmz3 anz3 cdz3 ctz3),osz3⟩)
  (x104:W.codeIn K cdz3 "is_minus"=true)
  (x105:W.keepIn K (.ref f_z3)=true)
  (x106:W.nsIn K mainGlobals "zero_of_signs"=some (some (.ref f_z4)))
  (x107:K.lookup f_z4=some ⟨ocz4,odz4,.func (fo "zero_of_signs" "zero_of_signs" tZ66 kvz4 dcz4 pmz4 anz4 cdz4 ctz4),osz4⟩)
  (x108:W.codeIn K cdz4 "zero_of_signs"=true)
  (x109:W.keepIn K (.ref f_z4)=true)
  (x110:W.nsIn K mainGlobals "plus"=some (some (.ref f_z5)))
  (x111:K.lookup f_z5=some ⟨ocz5,odz5,.func (fo "plus" "plus" tZ5s kvz5 dcz5 pmz5 anz5 cdz5 ctz5),osz5⟩)
  (x112:W.codeIn K cdz5 "plus"=true)
  (x113:W.keepIn K (.ref f_z5)=true)
  (x114:W.nsIn K mainGlobals "minus"=some (some (.ref f_z6)))
  (x115:K.lookup f_z6=some ⟨ocz6,odz6,.func (fo "minus" "minus" tZ5o kvz6 dcz6 pmz6 anz6 cdz6 ctz6),osz6⟩)
  (x116:W.codeIn K cdz6 "minus"=true)
  (x117:W.keepIn K (.ref f_z6)=true)
  (x118:W.nsIn K mainGlobals "times"=some (some (.ref f_z7)))
  (x119:K.lookup f_z7=some ⟨ocz7,odz7,.func (fo "times" "times" tZ60 kvz7 dcz7 pmz7 anz7 cdz7 ctz7),osz7⟩)
  (x120:W.codeIn K cdz7 "times"=true)
  (x121:W.keepIn K (.ref f_z7)=true)
  (x122:W.nsIn K mainGlobals "over"=some (some (.ref f_z8)))
  (x123:K.lookup f_z8=some ⟨ocz8,odz8,.func (fo "over" "over" tZ5q kvz8 dcz8 pmz8 anz8 cdz8 ctz8),osz8⟩)
  (x124:W.codeIn K cdz8 "over"=true)
  (x125:W.keepIn K (.ref f_z8)=true)
  (x126:W.nsIn K mainGlobals "whole_root"=some (some (.ref f_z9)))
  (x127:K.lookup f_z9=some ⟨ocz9,odz9,.func (fo "whole_root" "whole_root" tZ65 kvz9 dcz9 pmz9 anz9 cdz9 ctz9),osz9⟩)
  (x128:W.codeIn K cdz9 "whole_root"=true)
  (x129:W.keepIn K (.ref f_z9)=true)
  (x130:W.nsIn K mainGlobals "root"=some (some (.ref f_z10)))
  (x131:K.lookup f_z10=some ⟨ocz10,odz10,.func (fo "root" "root" tZ5u kvz10 dcz10 pmz10 anz10 cdz10 ctz10),osz10⟩)
  (x132:W.codeIn K cdz10 "root"=true)
  (x133:W.keepIn K (.ref f_z10)=true)
  (x134:W.nsIn K mainGlobals "is_below"=some (some (.ref f_z11)))
  (x135:K.lookup f_z11=some ⟨ocz11,odz11,.func (fo "is_below" "is_below" tZ5g kvz11 dcz11 pmz11 anz11 cdz11 ctz11),osz11⟩)
  (x136:W.codeIn K cdz11 "is_below"=true)
  (x137:W.keepIn K (.ref f_z11)=true)
  (x138:W.nsIn K mainGlobals "square"=some (some (.ref f_z12)))
  (x139:K.lookup f_z12=some ⟨ocz12,odz12,.func (fo "square" "square" tZ5y kvz12 dcz12 pmz12 anz12 cdz12 ctz12),osz12⟩)
  (x140:W.codeIn K cdz12 "square"=true)
  (x141:W.keepIn K (.ref f_z12)=true)
  (x142:W.nsIn K mainGlobals "is_finite"=some (some (.ref f_z13)))
  (x143:K.lookup f_z13=some ⟨ocz13,odz13,.func (fo "is_finite" "is_finite" tZ5i kvz13 dcz13 pmz13 anz13 cdz13 ctz13),osz13⟩)
  (x144:W.codeIn K cdz13 "is_finite"=true)
  (x145:W.keepIn K (.ref f_z13)=true)
  (x146:W.nsIn K mainGlobals "is_below_zero"=some (some (.ref f_z14)))
  (x147:K.lookup f_z14=some ⟨ocz14,odz14,.func (fo "is_below_zero" "is_below_zero" tZ5h kvz14 dcz14 pmz14 anz14 cdz14 ctz14),osz14⟩)
  (x148:W.codeIn K cdz14 "is_below_zero"=true)
  (x149:W.keepIn K (.ref f_z14)=true)
  (x150:W.nsIn K mainGlobals "is_above_zero"=some (some (.ref f_z15)))
  (x151:K.lookup f_z15=some ⟨ocz15,odz15,.func (fo "is_above_zero" "is_above_zero" tZ5f kvz15 dcz15 pmz15 anz15 cdz15 ctz15),osz15⟩)
  (x152:W.codeIn K cdz15 "is_above_zero"=true)
  (x153:W.keepIn K (.ref f_z15)=true)
  (x154:W.nsIn K mainGlobals "from_bits"=some (some (.ref f_z16)))
  (x155:K.lookup f_z16=some ⟨ocz16,odz16,.func (fo "from_bits" "from_bits" tZ5d kvz16 dcz16 pmz16 anz16 cdz16 ctz16),osz16⟩)
  (x156:W.codeIn K cdz16 "from_bits"=true)
  (x157:W.keepIn K (.ref f_z16)=true)
  (x158:W.nsIn K mainGlobals "to_bits"=some (some (.ref f_z17)))
  (x159:K.lookup f_z17=some ⟨ocz17,odz17,.func (fo "to_bits" "to_bits" tZ62 kvz17 dcz17 pmz17 anz17 cdz17 ctz17),osz17⟩)
  (x160:W.codeIn K cdz17 "to_bits"=true)
  (x161:W.keepIn K (.ref f_z17)=true)
  (x162:W.nsIn K mainGlobals "along"=some (some (.ref f_z18)))
  (x163:K.lookup f_z18=some ⟨ocz18,odz18,.func (fo "along" "along" tZ54 kvz18 dcz18 pmz18 anz18 cdz18 ctz18),osz18⟩)
  (x164:W.codeIn K cdz18 "along"=true)
  (x165:W.keepIn K (.ref f_z18)=true)
  (x166:W.nsIn K mainGlobals "least_of"=some (some (.ref f_z19)))
  (x167:K.lookup f_z19=some ⟨ocz19,odz19,.func (fo "least_of" "least_of" tZ5k kvz19 dcz19 pmz19 anz19 cdz19 ctz19),osz19⟩)
  (x168:W.codeIn K cdz19 "least_of"=true)
  (x169:W.keepIn K (.ref f_z19)=true)
  (x170:W.nsIn K mainGlobals "greatest_of"=some (some (.ref f_z20)))
  (x171:K.lookup f_z20=some ⟨ocz20,odz20,.func (fo "greatest_of" "greatest_of" tZ5e kvz20 dcz20 pmz20 anz20 cdz20 ctz20),osz20⟩)
  (x172:W.codeIn K cdz20 "greatest_of"=true)
  (x173:W.keepIn K (.ref f_z20)=true)
  (x174:W.nsIn K mainGlobals "sum_of"=some (some (.ref f_z21)))
  (x175:K.lookup f_z21=some ⟨ocz21,odz21,.func (fo "sum_of" "sum_of" tZ5z kvz21 dcz21 pmz21 anz21 cdz21 ctz21),osz21⟩)
  (x176:W.codeIn K cdz21 "sum_of"=true)
  (x177:W.keepIn K (.ref f_z21)=true)
  (x178:W.nsIn K mainGlobals "part_of"=some (some (.ref f_z22)))
  (x179:K.lookup f_z22=some ⟨ocz22,odz22,.func (fo "part_of" "part_of" tZ5r kvz22 dcz22 pmz22 anz22 cdz22 ctz22),osz22⟩)
  (x180:W.codeIn K cdz22 "part_of"=true)
  (x181:W.keepIn K (.ref f_z22)=true)
  (x182:W.nsIn K mainGlobals "middle_of_part"=some (some (.ref f_z23)))
  (x183:K.lookup f_z23=some ⟨ocz23,odz23,.func (fo "middle_of_part" "middle_of_part" tZ5n kvz23 dcz23 pmz23 anz23 cdz23 ctz23),osz23⟩)
  (x184:W.codeIn K cdz23 "middle_of_part"=true)
  (x185:W.keepIn K (.ref f_z23)=true)
  (x186:W.findIn K (.ref cCell) "__init__"=some (some (.ref f_z24)))
  (x187:K.lookup f_z24=some ⟨ocz24,odz24,.func (fo "__init__" "Cell.__init__" tZ4j kvz24 dcz24 pmz24 anz24 cdz24 ctz24),osz24⟩)
  (x188:W.codeIn K cdz24 "Cell.__init__"=true)
  (x189:W.keepIn K (.ref f_z24)=true)
  (x190:W.isFn K (.ref f_z24)=true)
  (x191:W.nsIn K mainGlobals "bodies_by_part"=some (some (.ref f_z25)))
  (x192:K.lookup f_z25=some ⟨ocz25,odz25,.func (fo "bodies_by_part" "bodies_by_part" tZ58 kvz25 dcz25 pmz25 anz25 cdz25 ctz25),osz25⟩)
  (x193:W.codeIn K cdz25 "bodies_by_part"=true)
  (x194:W.keepIn K (.ref f_z25)=true)
  (x195:W.nsIn K mainGlobals "weigh"=some (some (.ref f_z26)))
  (x196:K.lookup f_z26=some ⟨ocz26,odz26,.func (fo "weigh" "weigh" tZ64 kvz26 dcz26 pmz26 anz26 cdz26 ctz26),osz26⟩)
  (x197:W.codeIn K cdz26 "weigh"=true)
  (x198:W.keepIn K (.ref f_z26)=true)
  (x199:W.nsIn K mainGlobals "cell_of"=some (some (.ref f_z27)))
  (x200:K.lookup f_z27=some ⟨ocz27,odz27,.func (fo "cell_of" "cell_of" tZ59 kvz27 dcz27 pmz27 anz27 cdz27 ctz27),osz27⟩)
  (x201:W.codeIn K cdz27 "cell_of"=true)
  (x202:W.keepIn K (.ref f_z27)=true)
  (x203:W.nsIn K mainGlobals "first_cell"=some (some (.ref f_z28)))
  (x204:K.lookup f_z28=some ⟨ocz28,odz28,.func (fo "first_cell" "first_cell" tZ5b kvz28 dcz28 pmz28 anz28 cdz28 ctz28),osz28⟩)
  (x205:W.codeIn K cdz28 "first_cell"=true)
  (x206:W.keepIn K (.ref f_z28)=true)
  (x207:W.nsIn K mainGlobals "way_to"=some (some (.ref f_z29)))
  (x208:K.lookup f_z29=some ⟨ocz29,odz29,.func (fo "way_to" "way_to" tZ63 kvz29 dcz29 pmz29 anz29 cdz29 ctz29),osz29⟩)
  (x209:W.codeIn K cdz29 "way_to"=true)
  (x210:W.keepIn K (.ref f_z29)=true)
  (x211:W.findIn K (.ref cField) "__init__"=some (some (.ref f_z30)))
  (x212:K.lookup f_z30=some ⟨ocz30,odz30,.func (fo "__init__" "Field.__init__" tZ4k kvz30 dcz30 pmz30 anz30 cdz30 ctz30),osz30⟩)
  (x213:W.codeIn K cdz30 "Field.__init__"=true)
  (x214:W.keepIn K (.ref f_z30)=true)
  (x215:W.isFn K (.ref f_z30)=true)
  (x216:W.findIn K (.ref cField) "add_one"=some (some (.ref f_z31)))
  (x217:K.lookup f_z31=some ⟨ocz31,odz31,.func (fo "add_one" "Field.add_one" tZ4m kvz31 dcz31 pmz31 anz31 cdz31 ctz31),osz31⟩)
  (x218:W.codeIn K cdz31 "Field.add_one"=true)
  (x219:W.keepIn K (.ref f_z31)=true)
  (x220:W.isFn K (.ref f_z31)=true)
  (x221:W.findIn K (.ref cField) "add_singles"=some (some (.ref f_z32)))
  (x222:K.lookup f_z32=some ⟨ocz32,odz32,.func (fo "add_singles" "Field.add_singles" tZ4n kvz32 dcz32 pmz32 anz32 cdz32 ctz32),osz32⟩)
  (x223:W.codeIn K cdz32 "Field.add_singles"=true)
  (x224:W.keepIn K (.ref f_z32)=true)
  (x225:W.isFn K (.ref f_z32)=true)
  (x226:W.findIn K (.ref cField) "add_if_far"=some (some (.ref f_z33)))
  (x227:K.lookup f_z33=some ⟨ocz33,odz33,.func (fo "add_if_far" "Field.add_if_far" tZ4l kvz33 dcz33 pmz33 anz33 cdz33 ctz33),osz33⟩)
  (x228:W.codeIn K cdz33 "Field.add_if_far"=true)
  (x229:W.keepIn K (.ref f_z33)=true)
  (x230:W.isFn K (.ref f_z33)=true)
  (x231:W.findIn K (.ref cField) "pull_on"=some (some (.ref f_z34)))
  (x232:K.lookup f_z34=some ⟨ocz34,odz34,.func (fo "pull_on" "Field.pull_on" tZ4o kvz34 dcz34 pmz34 anz34 cdz34 ctz34),osz34⟩)
  (x233:W.codeIn K cdz34 "Field.pull_on"=true)
  (x234:W.keepIn K (.ref f_z34)=true)
  (x235:W.isFn K (.ref f_z34)=true)
  (x236:W.nsIn K mainGlobals "pulls_of"=some (some (.ref f_z35)))
  (x237:K.lookup f_z35=some ⟨ocz35,odz35,.func (fo "pulls_of" "pulls_of" tZ5t kvz35 dcz35 pmz35 anz35 cdz35 ctz35),osz35⟩)
  (x238:W.codeIn K cdz35 "pulls_of"=true)
  (x239:W.keepIn K (.ref f_z35)=true)
  (x240:W.nsIn K mainGlobals "from_all_bits"=some (some (.ref f_z36)))
  (x241:K.lookup f_z36=some ⟨ocz36,odz36,.func (fo "from_all_bits" "from_all_bits" tZ5c kvz36 dcz36 pmz36 anz36 cdz36 ctz36),osz36⟩)
  (x242:W.codeIn K cdz36 "from_all_bits"=true)
  (x243:W.keepIn K (.ref f_z36)=true)
  (x244:W.nsIn K mainGlobals "to_all_bits"=some (some (.ref f_z37)))
  (x245:K.lookup f_z37=some ⟨ocz37,odz37,.func (fo "to_all_bits" "to_all_bits" tZ61 kvz37 dcz37 pmz37 anz37 cdz37 ctz37),osz37⟩)
  (x246:W.codeIn K cdz37 "to_all_bits"=true)
  (x247:W.keepIn K (.ref f_z37)=true)
  (x248:W.nsIn K mainGlobals "row_plus"=some (some (.ref f_z38)))
  (x249:K.lookup f_z38=some ⟨ocz38,odz38,.func (fo "row_plus" "row_plus" tZ5w kvz38 dcz38 pmz38 anz38 cdz38 ctz38),osz38⟩)
  (x250:W.codeIn K cdz38 "row_plus"=true)
  (x251:W.keepIn K (.ref f_z38)=true)
  (x252:W.nsIn K mainGlobals "rows_plus"=some (some (.ref f_z39)))
  (x253:K.lookup f_z39=some ⟨ocz39,odz39,.func (fo "rows_plus" "rows_plus" tZ5x kvz39 dcz39 pmz39 anz39 cdz39 ctz39),osz39⟩)
  (x254:W.codeIn K cdz39 "rows_plus"=true)
  (x255:W.keepIn K (.ref f_z39)=true)
  (x256:W.findIn K (.ref cMotion) "__init__"=some (some (.ref f_z40)))
  (x257:K.lookup f_z40=some ⟨ocz40,odz40,.func (fo "__init__" "Motion.__init__" tZ4p kvz40 dcz40 pmz40 anz40 cdz40 ctz40),osz40⟩)
  (x258:W.codeIn K cdz40 "Motion.__init__"=true)
  (x259:W.keepIn K (.ref f_z40)=true)
  (x260:W.isFn K (.ref f_z40)=true)
  (x261:W.findIn K (.ref cMotion) "pulls_now"=some (some (.ref f_z41)))
  (x262:K.lookup f_z41=some ⟨ocz41,odz41,.func (fo "pulls_now" "Motion.pulls_now" tZ4v kvz41 dcz41 pmz41 anz41 cdz41 ctz41),osz41⟩)
  (x263:W.codeIn K cdz41 "Motion.pulls_now"=true)
  (x264:W.keepIn K (.ref f_z41)=true)
  (x265:W.isFn K (.ref f_z41)=true)
  (x266:W.findIn K (.ref cMotion) "go"=some (some (.ref f_z42)))
  (x267:K.lookup f_z42=some ⟨ocz42,odz42,.func (fo "go" "Motion.go" tZ4u kvz42 dcz42 pmz42 anz42 cdz42 ctz42),osz42⟩)
  (x268:W.codeIn K cdz42 "Motion.go"=true)
  (x269:W.keepIn K (.ref f_z42)=true)
  (x270:W.isFn K (.ref f_z42)=true)
  (x271:W.findIn K (.ref cMotion) "bodies_now"=some (some (.ref f_z43)))
  (x272:K.lookup f_z43=some ⟨ocz43,odz43,.func (fo "bodies_now" "Motion.bodies_now" tZ4q kvz43 dcz43 pmz43 anz43 cdz43 ctz43),osz43⟩)
  (x273:W.codeIn K cdz43 "Motion.bodies_now"=true)
  (x274:W.keepIn K (.ref f_z43)=true)
  (x275:W.isFn K (.ref f_z43)=true)
  (x276:W.findIn K (.ref cMotion) "energy_of_speeds"=some (some (.ref f_z44)))
  (x277:K.lookup f_z44=some ⟨ocz44,odz44,.func (fo "energy_of_speeds" "Motion.energy_of_speeds" tZ4t kvz44 dcz44 pmz44 anz44 cdz44 ctz44),osz44⟩)
  (x278:W.codeIn K cdz44 "Motion.energy_of_speeds"=true)
  (x279:W.keepIn K (.ref f_z44)=true)
  (x280:W.isFn K (.ref f_z44)=true)
  (x281:W.findIn K (.ref cMotion) "energy_between"=some (some (.ref f_z45)))
  (x282:K.lookup f_z45=some ⟨ocz45,odz45,.func (fo "energy_between" "Motion.energy_between" tZ4r kvz45 dcz45 pmz45 anz45 cdz45 ctz45),osz45⟩)
  (x283:W.codeIn K cdz45 "Motion.energy_between"=true)
  (x284:W.keepIn K (.ref f_z45)=true)
  (x285:W.isFn K (.ref f_z45)=true)
  (x286:W.findIn K (.ref cMotion) "energy_now"=some (some (.ref f_z46)))
  (x287:K.lookup f_z46=some ⟨ocz46,odz46,.func (fo "energy_now" "Motion.energy_now" tZ4s kvz46 dcz46 pmz46 anz46 cdz46 ctz46),osz46⟩)
  (x288:W.codeIn K cdz46 "Motion.energy_now"=true)
  (x289:W.keepIn K (.ref f_z46)=true)
  (x290:W.isFn K (.ref f_z46)=true)
  (x291:W.nsIn K mainGlobals "bodies_after"=some (some (.ref f_z47)))
  (x292:K.lookup f_z47=some ⟨ocz47,odz47,.func (fo "bodies_after" "bodies_after" tZ57 kvz47 dcz47 pmz47 anz47 cdz47 ctz47),osz47⟩)
  (x293:W.codeIn K cdz47 "bodies_after"=true)
  (x294:W.keepIn K (.ref f_z47)=true)
  (x295:W.nsIn K mainGlobals "energy_of"=some (some (.ref f_z48)))
  (x296:K.lookup f_z48=some ⟨ocz48,odz48,.func (fo "energy_of" "energy_of" tZ5a kvz48 dcz48 pmz48 anz48 cdz48 ctz48),osz48⟩)
  (x297:W.codeIn K cdz48 "energy_of"=true)
  (x298:W.keepIn K (.ref f_z48)=true)
  (x299:W.nsIn K mainGlobals "may_be_far_or_soft"=some (some (.ref f_z49)))
  (x300:K.lookup f_z49=some ⟨ocz49,odz49,.func (fo "may_be_far_or_soft" "may_be_far_or_soft" tZ5m kvz49 dcz49 pmz49 anz49 cdz49 ctz49),osz49⟩)
  (x301:W.codeIn K cdz49 "may_be_far_or_soft"=true)
  (x302:W.keepIn K (.ref f_z49)=true)
  (x303:W.nsIn K mainGlobals "may_be_body"=some (some (.ref f_z50)))
  (x304:K.lookup f_z50=some ⟨ocz50,odz50,.func (fo "may_be_body" "may_be_body" tZ5l kvz50 dcz50 pmz50 anz50 cdz50 ctz50),osz50⟩)
  (x305:W.codeIn K cdz50 "may_be_body"=true)
  (x306:W.keepIn K (.ref f_z50)=true)
  (x307:W.findIn K (.ref cSwarm) "__init__"=some (some (.ref f_z51)))
  (x308:K.lookup f_z51=some ⟨ocz51,odz51,.func (fo "__init__" "Swarm.__init__" tZ4w kvz51 dcz51 pmz51 anz51 cdz51 ctz51),osz51⟩)
  (x309:W.codeIn K cdz51 "Swarm.__init__"=true)
  (x310:W.keepIn K (.ref f_z51)=true)
  (x311:W.isFn K (.ref f_z51)=true)
  (x312:W.findIn K (.ref cSwarm) "begin"=some (some (.ref f_z52)))
  (x313:K.lookup f_z52=some ⟨ocz52,odz52,.func (fo "begin" "Swarm.begin" tZ4x kvz52 dcz52 pmz52 anz52 cdz52 ctz52),osz52⟩)
  (x314:W.codeIn K cdz52 "Swarm.begin"=true)
  (x315:W.keepIn K (.ref f_z52)=true)
  (x316:W.isFn K (.ref f_z52)=true)
  (x317:W.findIn K (.ref cSwarm) "put"=some (some (.ref f_z53)))
  (x318:K.lookup f_z53=some ⟨ocz53,odz53,.func (fo "put" "Swarm.put" tZ51 kvz53 dcz53 pmz53 anz53 cdz53 ctz53),osz53⟩)
  (x319:W.codeIn K cdz53 "Swarm.put"=true)
  (x320:W.keepIn K (.ref f_z53)=true)
  (x321:W.isFn K (.ref f_z53)=true)
  (x322:W.findIn K (.ref cSwarm) "has_body"=some (some (.ref f_z54)))
  (x323:K.lookup f_z54=some ⟨ocz54,odz54,.func (fo "has_body" "Swarm.has_body" tZ50 kvz54 dcz54 pmz54 anz54 cdz54 ctz54),osz54⟩)
  (x324:W.codeIn K cdz54 "Swarm.has_body"=true)
  (x325:W.keepIn K (.ref f_z54)=true)
  (x326:W.isFn K (.ref f_z54)=true)
  (x327:W.findIn K (.ref cSwarm) "set_body"=some (some (.ref f_z55)))
  (x328:K.lookup f_z55=some ⟨ocz55,odz55,.func (fo "set_body" "Swarm.set_body" tZ52 kvz55 dcz55 pmz55 anz55 cdz55 ctz55),osz55⟩)
  (x329:W.codeIn K cdz55 "Swarm.set_body"=true)
  (x330:W.keepIn K (.ref f_z55)=true)
  (x331:W.isFn K (.ref f_z55)=true)
  (x332:W.findIn K (.ref cSwarm) "get_body"=some (some (.ref f_z56)))
  (x333:K.lookup f_z56=some ⟨ocz56,odz56,.func (fo "get_body" "Swarm.get_body" tZ4z kvz56 dcz56 pmz56 anz56 cdz56 ctz56),osz56⟩)
  (x334:W.codeIn K cdz56 "Swarm.get_body"=true)
  (x335:W.keepIn K (.ref f_z56)=true)
  (x336:W.isFn K (.ref f_z56)=true)
  (x337:W.findIn K (.ref cSwarm) "step"=some (some (.ref f_z57)))
  (x338:K.lookup f_z57=some ⟨ocz57,odz57,.func (fo "step" "Swarm.step" tZ53 kvz57 dcz57 pmz57 anz57 cdz57 ctz57),osz57⟩)
  (x339:W.codeIn K cdz57 "Swarm.step"=true)
  (x340:W.keepIn K (.ref f_z57)=true)
  (x341:W.isFn K (.ref f_z57)=true)
  (x342:W.findIn K (.ref cSwarm) "energy"=some (some (.ref f_z58)))
  (x343:K.lookup f_z58=some ⟨ocz58,odz58,.func (fo "energy" "Swarm.energy" tZ4y kvz58 dcz58 pmz58 anz58 cdz58 ctz58),osz58⟩)
  (x344:W.codeIn K cdz58 "Swarm.energy"=true)
  (x345:W.keepIn K (.ref f_z58)=true)
  (x346:W.isFn K (.ref f_z58)=true)
  (x347:W.nsIn K mainGlobals "answer_call"=some (some (.ref f_z59)))
  (x348:K.lookup f_z59=some ⟨ocz59,odz59,.func (fo "answer_call" "answer_call" tZ55 kvz59 dcz59 pmz59 anz59 cdz59 ctz59),osz59⟩)
  (x349:W.codeIn K cdz59 "answer_call"=true)
  (x350:W.keepIn K (.ref f_z59)=true)
  (x351:W.nsIn K mainGlobals "answers"=some (some (.ref f_z60)))
  (x352:K.lookup f_z60=some ⟨ocz60,odz60,.func (fo "answers" "answers" tZ56 kvz60 dcz60 pmz60 anz60 cdz60 ctz60),osz60⟩)
  (x353:W.codeIn K cdz60 "answers"=true)
  (x354:W.keepIn K (.ref f_z60)=true):∃ a,Tx K mg a∧Tc K mg a∧Dall K mg a :=
 ⟨⟨exc,pz,mz,hf,tw,lens,cCell,cField,cMotion,cSwarm⟩,⟨gv_mk X G x1,gv_mk X G x2,gv_mk X G x3,gv_mk X G x4,gv_mk X G x5,gv_mk X G x6,gv_mk X G x7,gv_mk X G x8,gv_mk X G x9,gv_mk X G x10,gv_mk X G x11,gv_mk X G x12,gv_mk X G x13,gv_mk X G x14,gv_mk X G x15,gv_mk X G x16,gv_mk X G x17,gv_mk X G x18,gv_mk X G x19,gv_mk X G x20,gr_mk X G x21,lens_mk x22,gr_mk X G x23,gr_mk X G x24,gr_mk X G x25,gr_mk X G x26,kt_mk x27,kt_mk x28,kt_mk x29,kt_mk x30,exc_mk X G x31 x32 x33 x34 x35,x36,none_mk X G x37,none_mk X G x38,none_mk X G x39,none_mk X G x40,none_mk X G x41,none_mk X G x42,none_mk X G x43,none_mk X G x44,none_mk X G x45,none_mk X G x46⟩,⟨cz_mk X G x47 x48 x49 x50 x51 x52 x53,cz_mk X G x54 x55 x56 x57 x58 x59 x60,cz_mk X G x61 x62 x63 x64 x65 x66 x67,cz_mk X G x68 x69 x70 x71 x72 x73 x74,x75,x76,x77,x78,x79,x80,x81,x82,x83,x84,x85,x86,x87,x88,x89,x90,x91,x92,x93⟩,⟨dn_mk X G x94 x95 x96 x97 (fun _ _ _ _ _ _=>ls2 fun _ _=>rfl),dn_mk X G x98 x99 x100 x101 (fun _ _ _ _ _ _=>ls1 fun _=>rfl),dn_mk X G x102 x103 x104 x105 (fun _ _ _ _ _ _=>ls1 fun _=>rfl),dn_mk X G x106 x107 x108 x109 (fun _ _ _ _ _ _=>ls2 fun _ _=>rfl),dn_mk X G x110 x111 x112 x113 (fun _ _ _ _ _ _=>ls2 fun _ _=>rfl),dn_mk X G x114 x115 x116 x117 (fun _ _ _ _ _ _=>ls2 fun _ _=>rfl),dn_mk X G x118 x119 x120 x121 (fun _ _ _ _ _ _=>ls2 fun _ _=>rfl),dn_mk X G x122 x123 x124 x125 (fun _ _ _ _ _ _=>ls2 fun _ _=>rfl),dn_mk X G x126 x127 x128 x129 (fun _ _ _ _ _ _=>ls1 fun _=>rfl),dn_mk X G x130 x131 x132 x133 (fun _ _ _ _ _ _=>ls1 fun _=>rfl),dn_mk X G x134 x135 x136 x137 (fun _ _ _ _ _ _=>ls2 fun _ _=>rfl),dn_mk X G x138 x139 x140 x141 (fun _ _ _ _ _ _=>ls1 fun _=>rfl),dn_mk X G x142 x143 x144 x145 (fun _ _ _ _ _ _=>ls1 fun _=>rfl),dn_mk X G x146 x147 x148 x149 (fun _ _ _ _ _ _=>ls1 fun _=>rfl),dn_mk X G x150 x151 x152 x153 (fun _ _ _ _ _ _=>ls1 fun _=>rfl),dn_mk X G x154 x155 x156 x157 (fun _ _ _ _ _ _=>ls1 fun _=>rfl),dn_mk X G x158 x159 x160 x161 (fun _ _ _ _ _ _=>ls1 fun _=>rfl),dn_mk X G x162 x163 x164 x165 (fun _ _ _ _ _ _=>ls2 fun _ _=>rfl),dn_mk X G x166 x167 x168 x169 (fun _ _ _ _ _ _=>ls1 fun _=>rfl),dn_mk X G x170 x171 x172 x173 (fun _ _ _ _ _ _=>ls1 fun _=>rfl),dn_mk X G x174 x175 x176 x177 (fun _ _ _ _ _ _=>ls1 fun _=>rfl),dn_mk X G x178 x179 x180 x181 (fun _ _ _ _ _ _=>ls2 fun _ _=>rfl),dn_mk X G x182 x183 x184 x185 (fun _ _ _ _ _ _=>ls3 fun _ _ _=>rfl),dm_mk x186 x187 x188 x189 x190 (fun _ _ _ _ _ _=>ls2 fun _ _=>rfl),dn_mk X G x191 x192 x193 x194 (fun _ _ _ _ _ _=>ls3 fun _ _ _=>rfl),dn_mk X G x195 x196 x197 x198 (fun _ _ _ _ _ _=>ls3 fun _ _ _=>rfl),dn_mk X G x199 x200 x201 x202 (fun _ _ _ _ _ _=>ls6 fun _ _ _ _ _ _=>rfl),dn_mk X G x203 x204 x205 x206 (fun _ _ _ _ _ _=>ls2 fun _ _=>rfl),dn_mk X G x207 x208 x209 x210 (fun _ _ _ _ _ _=>ls2 fun _ _=>rfl),dm_mk x211 x212 x213 x214 x215 (fun _ _ _ _ _ _=>ls5 fun _ _ _ _ _=>rfl),dm_mk x216 x217 x218 x219 x220 (fun _ _ _ _ _ _=>ls5 fun _ _ _ _ _=>rfl),dm_mk x221 x222 x223 x224 x225 (fun _ _ _ _ _ _=>ls5 fun _ _ _ _ _=>rfl),dm_mk x226 x227 x228 x229 x230 (fun _ _ _ _ _ _=>ls4 fun _ _ _ _=>rfl),dm_mk x231 x232 x233 x234 x235 (fun _ _ _ _ _ _=>ls2 fun _ _=>rfl),dn_mk X G x236 x237 x238 x239 (fun _ _ _ _ _ _=>ls4 fun _ _ _ _=>rfl),dn_mk X G x240 x241 x242 x243 (fun _ _ _ _ _ _=>ls1 fun _=>rfl),dn_mk X G x244 x245 x246 x247 (fun _ _ _ _ _ _=>ls1 fun _=>rfl),dn_mk X G x248 x249 x250 x251 (fun _ _ _ _ _ _=>ls3 fun _ _ _=>rfl),dn_mk X G x252 x253 x254 x255 (fun _ _ _ _ _ _=>ls3 fun _ _ _=>rfl),dm_mk x256 x257 x258 x259 x260 (fun _ _ _ _ _ _=>ls4 fun _ _ _ _=>rfl),dm_mk x261 x262 x263 x264 x265 (fun _ _ _ _ _ _=>ls1 fun _=>rfl),dm_mk x266 x267 x268 x269 x270 (fun _ _ _ _ _ _=>ls3 fun _ _ _=>rfl),dm_mk x271 x272 x273 x274 x275 (fun _ _ _ _ _ _=>ls1 fun _=>rfl),dm_mk x276 x277 x278 x279 x280 (fun _ _ _ _ _ _=>ls1 fun _=>rfl),dm_mk x281 x282 x283 x284 x285 (fun _ _ _ _ _ _=>ls3 fun _ _ _=>rfl),dm_mk x286 x287 x288 x289 x290 (fun _ _ _ _ _ _=>ls1 fun _=>rfl),dn_mk X G x291 x292 x293 x294 (fun _ _ _ _ _ _=>ls5 fun _ _ _ _ _=>rfl),dn_mk X G x295 x296 x297 x298 (fun _ _ _ _ _ _=>ls3 fun _ _ _=>rfl),dn_mk X G x299 x300 x301 x302 (fun _ _ _ _ _ _=>ls1 fun _=>rfl),dn_mk X G x303 x304 x305 x306 (fun _ _ _ _ _ _=>ls1 fun _=>rfl),dm_mk x307 x308 x309 x310 x311 (fun _ _ _ _ _ _=>ls1 fun _=>rfl),dm_mk x312 x313 x314 x315 x316 (fun _ _ _ _ _ _=>ls3 fun _ _ _=>rfl),dm_mk x317 x318 x319 x320 x321 (fun _ _ _ _ _ _=>ls2 fun _ _=>rfl),dm_mk x322 x323 x324 x325 x326 (fun _ _ _ _ _ _=>ls2 fun _ _=>rfl),dm_mk x327 x328 x329 x330 x331 (fun _ _ _ _ _ _=>ls3 fun _ _ _=>rfl),dm_mk x332 x333 x334 x335 x336 (fun _ _ _ _ _ _=>ls2 fun _ _=>rfl),dm_mk x337 x338 x339 x340 x341 (fun _ _ _ _ _ _=>ls3 fun _ _ _=>rfl),dm_mk x342 x343 x344 x345 x346 (fun _ _ _ _ _ _=>ls1 fun _=>rfl),dn_mk X G x347 x348 x349 x350 (fun _ _ _ _ _ _=>ls3 fun _ _ _=>rfl),dn_mk X G x351 x352 x353 x354 (fun _ _ _ _ _ _=>ls1 fun _=>rfl)⟩⟩
end
end Pw
open PySem PySem.W PyProof.Rows
set_option maxRecDepth 100000 in
set_option maxHeartbeats 0 in
theorem PySem.Challenge.cw_pullswarm_s01_answers_holds : PySem.Challenge.rw_pullswarm_s01_answers.Holds := by
 refine holds_os (q:=Pv.Q) (loose:=Pv.Lo) (Xt:=recOk []) (XP:=fun _ _=>True) (Yf:=(kHook Pv.seed.heap_1 Pv.as Pv.as_eq).obs) (Ya:=(kHook Pv.seed.heap_1 Pv.as Pv.as_eq).val) (YP:=(kHook Pv.seed.heap_1 Pv.as Pv.as_eq).says) (N:=6580) Pv.left (Hook.of _) (Hook.keeps _) (fun _ _=>trivial) (fun _ _ _ _ _=>trivial) (by rfl) (by rfl) (by rfl) (fun _ e=>recFacts_of e) os_shapes (by decide +kernel) (by decide +kernel) ⟨rfl,rfl,rfl,rfl,rfl,by decide +kernel⟩ ⟨[.list [.int 0,.int 0,.int 0]],by decide +kernel,by decide +kernel⟩ ?_
 k_fillS
 refine L2.walk_spec (r:=PySem.Challenge.rw_pullswarm_s01_answers) (k:=36) (x:="calls") (CX:=fun w=>L2.CXe PySem.Challenge.rw_pullswarm_s01_answers.prog w) (sp:=fun w=>Pw.pZ_3k (Pv.seed.heap_1 w.params)) (G:=fun ns=>ns.length≤16000∧PySn48.answers_asked ns=true) (out:=PySn48.answers)
  (fun args h=>?R) (fun ns h=>?O) rfl ⟨rfl,by decide,by decide⟩ (fun w h Y=>PySem.W.kIn_of Y) ?F ?S (fun _ _ _ _ _ h=>L2.CXe_none h)
 case R =>
  obtain ⟨ns,e,h1,_,h2⟩:=L2.req_ints h
  exact ⟨ns,e,Nat.le_trans h1 (by decide),h1,h2⟩
 case O=>exact L2.post_ints h
 case S=>exact fun w H a ns g ho hs=>⟨a,ns,rfl,hs,g.1,g.2,fun p H' h=>⟨p,rfl,h⟩⟩
 case F =>
  intro w mg fa h KX G hmg
  have A:∃ a,Pw.Tx (L2.KOf KX) mg a∧Pw.Tc (L2.KOf KX) mg a∧Pw.Dall (L2.KOf KX) mg a:=by
   clear hmg
   dsimp only [L2.KOf]
   refine' Pw.all_mk KX G ?x1 ?x2 ?x3 ?x4 ?x5 ?x6 ?x7 ?x8 ?x9 ?x10 ?x11 ?x12 ?x13 ?x14 ?x15 ?x16 ?x17 ?x18 ?x19 ?x20 ?x21 ?x22 ?x23 ?x24 ?x25 ?x26 ?x27 ?x28 ?x29 ?x30 ?x31 ?x32 ?x33 ?x34 ?x35 ?x36 ?x37 ?x38 ?x39 ?x40 ?x41 ?x42 ?x43 ?x44 ?x45 ?x46 ?x47 ?x48 ?x49 ?x50 ?x51 ?x52 ?x53 ?x54 ?x55 ?x56 ?x57 ?x58 ?x59 ?x60 ?x61 ?x62 ?x63 ?x64 ?x65 ?x66 ?x67 ?x68 ?x69 ?x70 ?x71 ?x72 ?x73 ?x74 ?x75 ?x76 ?x77 ?x78 ?x79 ?x80 ?x81 ?x82 ?x83 ?x84 ?x85 ?x86 ?x87 ?x88 ?x89 ?x90 ?x91 ?x92 ?x93 ?x94 ?x95 ?x96 ?x97 ?x98 ?x99 ?x100 ?x101 ?x102 ?x103 ?x104 ?x105 ?x106 ?x107 ?x108 ?x109 ?x110 ?x111 ?x112 ?x113 ?x114 ?x115 ?x116 ?x117 ?x118 ?x119 ?x120 ?x121 ?x122 ?x123 ?x124 ?x125 ?x126 ?x127 ?x128 ?x129 ?x130 ?x131 ?x132 ?x133 ?x134 ?x135 ?x136 ?x137 ?x138 ?x139 ?x140 ?x141 ?x142 ?x143 ?x144 ?x145 ?x146 ?x147 ?x148 ?x149 ?x150 ?x151 ?x152 ?x153 ?x154 ?x155 ?x156 ?x157 ?x158 ?x159 ?x160 ?x161 ?x162 ?x163 ?x164 ?x165 ?x166 ?x167 ?x168 ?x169 ?x170 ?x171 ?x172 ?x173 ?x174 ?x175 ?x176 ?x177 ?x178 ?x179 ?x180 ?x181 ?x182 ?x183 ?x184 ?x185 ?x186 ?x187 ?x188 ?x189 ?x190 ?x191 ?x192 ?x193 ?x194 ?x195 ?x196 ?x197 ?x198 ?x199 ?x200 ?x201 ?x202 ?x203 ?x204 ?x205 ?x206 ?x207 ?x208 ?x209 ?x210 ?x211 ?x212 ?x213 ?x214 ?x215 ?x216 ?x217 ?x218 ?x219 ?x220 ?x221 ?x222 ?x223 ?x224 ?x225 ?x226 ?x227 ?x228 ?x229 ?x230 ?x231 ?x232 ?x233 ?x234 ?x235 ?x236 ?x237 ?x238 ?x239 ?x240 ?x241 ?x242 ?x243 ?x244 ?x245 ?x246 ?x247 ?x248 ?x249 ?x250 ?x251 ?x252 ?x253 ?x254 ?x255 ?x256 ?x257 ?x258 ?x259 ?x260 ?x261 ?x262 ?x263 ?x264 ?x265 ?x266 ?x267 ?x268 ?x269 ?x270 ?x271 ?x272 ?x273 ?x274 ?x275 ?x276 ?x277 ?x278 ?x279 ?x280 ?x281 ?x282 ?x283 ?x284 ?x285 ?x286 ?x287 ?x288 ?x289 ?x290 ?x291 ?x292 ?x293 ?x294 ?x295 ?x296 ?x297 ?x298 ?x299 ?x300 ?x301 ?x302 ?x303 ?x304 ?x305 ?x306 ?x307 ?x308 ?x309 ?x310 ?x311 ?x312 ?x313 ?x314 ?x315 ?x316 ?x317 ?x318 ?x319 ?x320 ?x321 ?x322 ?x323 ?x324 ?x325 ?x326 ?x327 ?x328 ?x329 ?x330 ?x331 ?x332 ?x333 ?x334 ?x335 ?x336 ?x337 ?x338 ?x339 ?x340 ?x341 ?x342 ?x343 ?x344 ?x345 ?x346 ?x347 ?x348 ?x349 ?x350 ?x351 ?x352 ?x353 ?x354
   case x1=>k_is
   case x2=>k_is
   case x3=>k_is
   case x4=>k_is
   case x5=>k_is
   case x6=>k_is
   case x7=>k_is
   case x8=>k_is
   case x9=>k_is
   case x10=>k_is
   case x11=>k_is
   case x12=>k_is
   case x13=>k_is
   case x14=>k_is
   case x15=>k_is
   case x16=>k_is
   case x17=>k_is
   case x18=>k_is
   case x19=>k_is
   case x20=>k_is
   case x21=>k_is
   case x22=>k_is
   case x23=>k_is
   case x24=>k_is
   case x25=>k_is
   case x26=>k_is
   case x27=>k_is
   case x28=>k_is
   case x29=>k_is
   case x30=>k_is
   case x31=>k_is
   case x32=>k_is
   case x33=>kernel_rfl
   case x34=>k_is
   case x35=>kernel_rfl
   case x36=>kernel_rfl
   case x37=>k_is
   case x38=>k_is
   case x39=>k_is
   case x40=>k_is
   case x41=>k_is
   case x42=>k_is
   case x43=>k_is
   case x44=>k_is
   case x45=>k_is
   case x46=>k_is
   case x47=>k_is
   case x48=>k_is
   case x49=>k_is
   case x50=>k_is
   case x51=>k_is
   case x52=>k_is
   case x53=>k_is
   case x54=>k_is
   case x55=>k_is
   case x56=>k_is
   case x57=>k_is
   case x58=>k_is
   case x59=>k_is
   case x60=>k_is
   case x61=>k_is
   case x62=>k_is
   case x63=>k_is
   case x64=>k_is
   case x65=>k_is
   case x66=>k_is
   case x67=>k_is
   case x68=>k_is
   case x69=>k_is
   case x70=>k_is
   case x71=>k_is
   case x72=>k_is
   case x73=>k_is
   case x74=>k_is
   case x75=>k_is
   case x76=>k_is
   case x77=>k_is
   case x78=>k_is
   case x79=>k_is
   case x80=>k_is
   case x81=>k_is
   case x82=>k_is
   case x83=>k_is
   case x84=>k_is
   case x85=>k_is
   case x86=>k_is
   case x87=>k_is
   case x88=>k_is
   case x89=>k_is
   case x90=>k_is
   case x91=>k_is
   case x92=>k_is
   case x93=>k_is
   case x94=>k_is
   case x95=>k_is
   case x96=>k_is
   case x97=>k_is
   case x98=>k_is
   case x99=>k_is
   case x100=>k_is
   case x101=>k_is
   case x102=>k_is
   case x103=>k_is
   case x104=>k_is
   case x105=>k_is
   case x106=>k_is
   case x107=>k_is
   case x108=>k_is
   case x109=>k_is
   case x110=>k_is
   case x111=>k_is
   case x112=>k_is
   case x113=>k_is
   case x114=>k_is
   case x115=>k_is
   case x116=>k_is
   case x117=>k_is
   case x118=>k_is
   case x119=>k_is
   case x120=>k_is
   case x121=>k_is
   case x122=>k_is
   case x123=>k_is
   case x124=>k_is
   case x125=>k_is
   case x126=>k_is
   case x127=>k_is
   case x128=>k_is
   case x129=>k_is
   case x130=>k_is
   case x131=>k_is
   case x132=>k_is
   case x133=>k_is
   case x134=>k_is
   case x135=>k_is
   case x136=>k_is
   case x137=>k_is
   case x138=>k_is
   case x139=>k_is
   case x140=>k_is
   case x141=>k_is
   case x142=>k_is
   case x143=>k_is
   case x144=>k_is
   case x145=>k_is
   case x146=>k_is
   case x147=>k_is
   case x148=>k_is
   case x149=>k_is
   case x150=>k_is
   case x151=>k_is
   case x152=>k_is
   case x153=>k_is
   case x154=>k_is
   case x155=>k_is
   case x156=>k_is
   case x157=>k_is
   case x158=>k_is
   case x159=>k_is
   case x160=>k_is
   case x161=>k_is
   case x162=>k_is
   case x163=>k_is
   case x164=>k_is
   case x165=>k_is
   case x166=>k_is
   case x167=>k_is
   case x168=>k_is
   case x169=>k_is
   case x170=>k_is
   case x171=>k_is
   case x172=>k_is
   case x173=>k_is
   case x174=>k_is
   case x175=>k_is
   case x176=>k_is
   case x177=>k_is
   case x178=>k_is
   case x179=>k_is
   case x180=>k_is
   case x181=>k_is
   case x182=>k_is
   case x183=>k_is
   case x184=>k_is
   case x185=>k_is
   case x186=>k_is
   case x187=>k_is
   case x188=>k_is
   case x189=>k_is
   case x190=>k_is
   case x191=>k_is
   case x192=>k_is
   case x193=>k_is
   case x194=>k_is
   case x195=>k_is
   case x196=>k_is
   case x197=>k_is
   case x198=>k_is
   case x199=>k_is
   case x200=>k_is
   case x201=>k_is
   case x202=>k_is
   case x203=>k_is
   case x204=>k_is
   case x205=>k_is
   case x206=>k_is
   case x207=>k_is
   case x208=>k_is
   case x209=>k_is
   case x210=>k_is
   case x211=>k_is
   case x212=>k_is
   case x213=>k_is
   case x214=>k_is
   case x215=>k_is
   case x216=>k_is
   case x217=>k_is
   case x218=>k_is
   case x219=>k_is
   case x220=>k_is
   case x221=>k_is
   case x222=>k_is
   case x223=>k_is
   case x224=>k_is
   case x225=>k_is
   case x226=>k_is
   case x227=>k_is
   case x228=>k_is
   case x229=>k_is
   case x230=>k_is
   case x231=>k_is
   case x232=>k_is
   case x233=>k_is
   case x234=>k_is
   case x235=>k_is
   case x236=>k_is
   case x237=>k_is
   case x238=>k_is
   case x239=>k_is
   case x240=>k_is
   case x241=>k_is
   case x242=>k_is
   case x243=>k_is
   case x244=>k_is
   case x245=>k_is
   case x246=>k_is
   case x247=>k_is
   case x248=>k_is
   case x249=>k_is
   case x250=>k_is
   case x251=>k_is
   case x252=>k_is
   case x253=>k_is
   case x254=>k_is
   case x255=>k_is
   case x256=>k_is
   case x257=>k_is
   case x258=>k_is
   case x259=>k_is
   case x260=>k_is
   case x261=>k_is
   case x262=>k_is
   case x263=>k_is
   case x264=>k_is
   case x265=>k_is
   case x266=>k_is
   case x267=>k_is
   case x268=>k_is
   case x269=>k_is
   case x270=>k_is
   case x271=>k_is
   case x272=>k_is
   case x273=>k_is
   case x274=>k_is
   case x275=>k_is
   case x276=>k_is
   case x277=>k_is
   case x278=>k_is
   case x279=>k_is
   case x280=>k_is
   case x281=>k_is
   case x282=>k_is
   case x283=>k_is
   case x284=>k_is
   case x285=>k_is
   case x286=>k_is
   case x287=>k_is
   case x288=>k_is
   case x289=>k_is
   case x290=>k_is
   case x291=>k_is
   case x292=>k_is
   case x293=>k_is
   case x294=>k_is
   case x295=>k_is
   case x296=>k_is
   case x297=>k_is
   case x298=>k_is
   case x299=>k_is
   case x300=>k_is
   case x301=>k_is
   case x302=>k_is
   case x303=>k_is
   case x304=>k_is
   case x305=>k_is
   case x306=>k_is
   case x307=>k_is
   case x308=>k_is
   case x309=>k_is
   case x310=>k_is
   case x311=>k_is
   case x312=>k_is
   case x313=>k_is
   case x314=>k_is
   case x315=>k_is
   case x316=>k_is
   case x317=>k_is
   case x318=>k_is
   case x319=>k_is
   case x320=>k_is
   case x321=>k_is
   case x322=>k_is
   case x323=>k_is
   case x324=>k_is
   case x325=>k_is
   case x326=>k_is
   case x327=>k_is
   case x328=>k_is
   case x329=>k_is
   case x330=>k_is
   case x331=>k_is
   case x332=>k_is
   case x333=>k_is
   case x334=>k_is
   case x335=>k_is
   case x336=>k_is
   case x337=>k_is
   case x338=>k_is
   case x339=>k_is
   case x340=>k_is
   case x341=>k_is
   case x342=>k_is
   case x343=>k_is
   case x344=>k_is
   case x345=>k_is
   case x346=>k_is
   case x347=>k_is
   case x348=>k_is
   case x349=>k_is
   case x350=>k_is
   case x351=>k_is
   case x352=>k_is
   case x353=>k_is
   case x354=>k_is
  obtain ⟨a,T,S,D⟩:=A
  exact Pw.fin T S D hmg
