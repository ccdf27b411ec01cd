import PyProof.Rows.All
import OpenK.KOwn
import Wide.All
import OpenK.AllK
import Wide.FinOn
import PyProof.EqAt
import PyProof.EqKinds
import PyProof.TupleCall
import KE.BitLaws
import Open.SpecLaws
import KE.OsHead
import KE.OsGo
import PyProof.TupleKey
import PyProof.DictRoadsH
import PyProof.StationsW
import PyProof.RulesAs
import PyProof.ExcInit
import PyProof.InstStoreFacts
import PyProof.ExcArgsOwn
import PyProof.ExcAttrAll.Exception
import PyProof.ExcBaseAll.Exception
import PyProof.Rows.BitMore
import PySem.Challenge.RW_classfiles_s01_answers
set_option Elab.async false
set_option linter.all false
set_option maxRecDepth 100000
set_option maxHeartbeats 2000000
def PySem.W.Fast.tw3653955613959317927:Unit:=()
def PySem.W.Fast.tw2866135723333845198:Unit:=()
def PySem.W.Fast.tw13384124972246003536:Unit:=()
def PySem.W.Fast.tw14333557570216561544:Unit:=()
def PySem.W.Fast.tw12549798169162458367:Unit:=()
def PySem.W.Fast.tw5479417599225840744:Unit:=()
def PySem.W.Fast.tw10378371810033616950:Unit:=()
def PySem.W.Fast.tw720941294570013363:Unit:=()
def PySem.W.Fast.tw6015788755992546974:Unit:=()
def PySem.W.Fast.tw6070826944859319779:Unit:=()
def PySem.W.Fast.tw811644461935093639:Unit:=()
def PySem.W.Fast.tw9782477193058665118:Unit:=()
def PySem.W.Fast.tw14469747540521913950:Unit:=()
def PySem.W.Fast.tw13954689450888730313:Unit:=()
def PySem.W.Fast.tw8054538388688481422:Unit:=()
def PySem.W.Fast.tw13722210556598424024:Unit:=()
def PySem.W.Fast.tw6392093657719277774:Unit:=()
def PySem.W.Fast.tw15072736332549195471:Unit:=()
def PySem.W.Fast.tw11528556104399740899:Unit:=()
def PySem.W.Fast.tw3373817394908526739:Unit:=()
def PySem.W.Fast.tw2345826848101818662:Unit:=()
def PySem.W.Fast.tw8318871962591392322:Unit:=()
def PySem.W.Fast.tw2904960182009443758:Unit:=()
def PySem.W.Fast.tw15681936369014131879:Unit:=()
def PySem.W.Fast.tw470106816417359831:Unit:=()
def PySem.W.Fast.tw16840368552425685941:Unit:=()
def PySem.W.Fast.tw2245069983852066629:Unit:=()
def PySem.W.Fast.tw9825149710878201361:Unit:=()
def PySem.W.Fast.tw13797025771277785361:Unit:=()
def PySem.W.Fast.tw3452750779959860307:Unit:=()
def PySem.W.Fast.tw14194334545042864536:Unit:=()
def PySem.W.Fast.tw14428845758358118772:Unit:=()
def PySem.W.Fast.tw15225796716868653934:Unit:=()
def PySem.W.Fast.tw8468482638864046445:Unit:=()
def PySem.W.Fast.tw7137155910466212270:Unit:=()
def PySem.W.Fast.tw14999072627584580328:Unit:=()
def PySem.W.Fast.tw18373874641992280984:Unit:=()
def PySem.W.Fast.tw17479437055432646851:Unit:=()
def PySem.W.Fast.tw10013460778423651162:Unit:=()
def PySem.W.Fast.tw14264604212719159503:Unit:=()
def PySem.W.Fast.tw13456676136503034183:Unit:=()
def PySem.W.Fast.tw12861203611792062344:Unit:=()
def PySem.W.Fast.tw46685659071906949:Unit:=()
def PySem.W.Fast.tw2538134689075836308:Unit:=()
def PySem.W.Fast.tw12019746686809485707:Unit:=()
def PySem.W.Fast.tw8106155015506296450:Unit:=()
def PySem.W.Fast.tw1931669872003168264:Unit:=()
def PySem.W.Fast.tw12322655431469407091:Unit:=()
def PySem.W.Fast.tw11872185363500589491:Unit:=()
def PySem.W.Fast.tw11537532178837839170:Unit:=()
def PySem.W.Fast.tw17208102852983094117:Unit:=()
def PySem.W.Fast.tw9385513484029260789:Unit:=()
def PySem.W.Fast.tw6107070596457915682:Unit:=()
def PySem.W.Fast.tw14063923848900762774:Unit:=()
def PySem.W.Fast.tw307324151439875654:Unit:=()
def PySem.W.Fast.tw1325550276655441694:Unit:=()
def PySem.W.Fast.tw15233159670547847389:Unit:=()
def PySem.W.Fast.tw3739739215150596271:Unit:=()
def PySem.W.Fast.tw4637294973108264742:Unit:=()
def PySem.W.Fast.tw16382534408838960405:Unit:=()
def PySem.W.Fast.tw2694852526812909665:Unit:=()
def PySem.W.Fast.tw4555423034462276473:Unit:=()
def PySem.W.Fast.tw9791560677701716104:Unit:=()
def PySem.W.Fast.tw182383247895783601:Unit:=()
def PySem.W.Fast.tw2497005167030716032:Unit:=()
def PySem.W.Fast.tw6564504674322884077:Unit:=()
def PySem.W.Fast.tw207123836134448513:Unit:=()
def PySem.W.Fast.tw10542833035476207685:Unit:=()
def PySem.W.Fast.tw14191321820683628128:Unit:=()
def PySem.W.Fast.tw3529502367044538216:Unit:=()
def PySem.W.Fast.tw15881759196627824027:Unit:=()
def PySem.W.Fast.tw18006592907378817253:Unit:=()
def PySem.W.Fast.tw15456141256173511015:Unit:=()
def PySem.W.Fast.tw7818645239788058868:Unit:=()
def PySem.W.Fast.tw13362382016159863488:Unit:=()
def PySem.W.Fast.tw8402549200232045606:Unit:=()
def PySem.W.Fast.tw13800608333723042355:Unit:=()
def PySem.W.Fast.tw10754692189105063540:Unit:=()
def PySem.W.Fast.tw12135737393323785850:Unit:=()
def PySem.W.Fast.tw9740050874672480442:Unit:=()
def PySem.W.Fast.tw5308679587592747081:Unit:=()
def PySem.W.Fast.tw9004558400958857086:Unit:=()
def PySem.W.Fast.tw12614184154089212021:Unit:=()
def PySem.W.Fast.tw10197356423905132614:Unit:=()
def PySem.W.Fast.tw9479350319845018633:Unit:=()
def PySem.W.Fast.tw10449254395455085677:Unit:=()
def PySem.W.Fast.tw17076908890701352115:Unit:=()
theorem Cf.said:PySem.Challenge.rw_classfiles_s01_answers.wellSaid = true:=by decide +kernel
section
set_option maxHeartbeats 0
local macro_rules | `(tactic| o_law)=>`(tactic| have hs:=Cf.said)
local macro_rules | `(tactic| k_head)=>`(tactic| k_headS)
local macro_rules | `(tactic| w_witness2)=>`(tactic| exact ⟨[.list [.int 3]],by decide +kernel,by decide +kernel⟩)
open PySem PySem.W PyProof.Rows
open_top Cf.hd for PySem.Challenge.rw_classfiles_s01_answers
end
namespace L2
open PySem PySem.Spec PyProof.Rows
abbrev Key:=Sum Int Str
def keyIs:Key→Value→Bool
 | .inl k,v=>Value.isInt k v
 | .inr x,v=>Value.isStrOf x v
def keyH (w:World):Key→Int
 | .inl k=>hashInt k
 | .inr x=>hashStr w x
theorem keyIs_shape:∀ {k:Key} {v:Value},keyIs k v = true→(∃ i t,k = Sum.inl i∧v = Value.int i t) ∨ (∃ x t,k = Sum.inr x∧v = Value.str x t)
 | .inl i,v,h=>by
  obtain ⟨t,e⟩:=Value.isInt_shape (k:=i) (v:=v) h
  exact .inl ⟨i,t,rfl,e⟩
 | .inr x,v,h=>by
  obtain ⟨t,e⟩:=Value.isStrOf_shape (x:=x) (v:=v) h
  exact .inr ⟨x,t,rfl,e⟩
theorem keyIs_int (i:Int) (t:Tok):keyIs (.inl i) (.int i t) = true:=by simp [keyIs,Value.isInt]
theorem keyIs_str (x:Str) (t:Tok):keyIs (.inr x) (.str x t) = true:=by simp [keyIs,Value.isStrOf]
theorem key_ll (a b:Int):decide ((Sum.inl a:Key) = Sum.inl b) = (a == b):=by
 by_cases e:a = b
 ·subst e; simp
 ·have h:¬ (Sum.inl a:Key) = Sum.inl b:=fun q=>e (Sum.inl.inj q)
  rw [decide_eq_false h]
  exact (beq_eq_false_iff_ne.mpr e).symm
theorem key_rr (a b:Str):decide ((Sum.inr a:Key) = Sum.inr b) = decide (a = b):=by
 by_cases e:a = b
 ·subst e; simp
 ·have h:¬ (Sum.inr a:Key) = Sum.inr b:=fun q=>e (Sum.inr.inj q)
  rw [decide_eq_false h,decide_eq_false e]
theorem key_lr (a:Int) (b:Str):decide ((Sum.inl a:Key) = Sum.inr b) = false:=decide_eq_false (fun q=>nomatch q)
theorem key_rl (a:Str) (b:Int):decide ((Sum.inr a:Key) = Sum.inl b) = false:=decide_eq_false (fun q=>nomatch q)
def mixKind (prog:Program) (w:World):PySem.KeyKind prog w Key where
 is:=keyIs
 hash:=keyH w
 inj:=fun v a b ha hb=>by
  rcases keyIs_shape ha with ⟨i,t,rfl,rfl⟩ | ⟨x,t,rfl,rfl⟩
  ·rcases keyIs_shape hb with ⟨j,u,rfl,e⟩ | ⟨y,u,rfl,e⟩
   ·injection e with e1 _; rw [e1]
   ·exact nomatch e
  ·rcases keyIs_shape hb with ⟨j,u,rfl,e⟩ | ⟨y,u,rfl,e⟩
   ·exact nomatch e
   ·injection e with e1 _; rw [e1]
 byValue:=fun k v h=>by
  rcases keyIs_shape h with ⟨i,t,rfl,rfl⟩ | ⟨x,t,rfl,rfl⟩ <;> rfl
 pyHash:=fun hv h=>by
  rcases keyIs_shape hv with ⟨i,t,rfl,rfl⟩ | ⟨x,t,rfl,rfl⟩
  ·exact wpAny_pyHash_int h
  ·exact wpAny_pyHash_str h
 eqBool:=fun hu hv h=>by
  rcases keyIs_shape hu with ⟨i,t,rfl,rfl⟩ | ⟨x,t,rfl,rfl⟩
  ·rcases keyIs_shape hv with ⟨j,u,rfl,rfl⟩ | ⟨y,u,rfl,rfl⟩
   ·rw [key_ll] at h; exact wpAny_eqBool_int h
   ·rw [key_lr] at h; exact SeqAt.EqAt.int_str i t y u _ _ _ _ h
  ·rcases keyIs_shape hv with ⟨j,u,rfl,rfl⟩ | ⟨y,u,rfl,rfl⟩
   ·rw [key_rl] at h; exact SeqAt.EqAt.str_int x t j u _ _ _ _ h
   ·rw [key_rr] at h; exact wpAny_eqBool_str h
 «strs»:=fun k x t v h=>by
  rcases keyIs_shape h with ⟨i,u,rfl,e⟩ | ⟨y,u,rfl,e⟩
  ·exact nomatch e
  ·injection e with e1 _
   subst e1
   cases v <;> rfl
theorem mixKind_int (prog:Program) (w:World) (i:Int) (t:Tok):(mixKind prog w).is (.inl i) (.int i t) = true:=keyIs_int i t
theorem mixKind_str (prog:Program) (w:World) (x:Str) (t:Tok):(mixKind prog w).is (.inr x) (.str x t) = true:=keyIs_str x t
inductive V where
 | non | bl (b:Bool) | int (i:Int) | str (x:Str) | byt (b:Array UInt8) | flt (b:UInt64) | ref (a:Addr) | ty (n:String)
 deriving DecidableEq
def RelV:V→Value→Prop
 | .non,u=>u = Value.none
 | .bl b,u=>u = Value.bool b
 | .int i,u=>∃ t,u = Value.int i t
 | .str x,u=>∃ t,u = Value.str x t
 | .byt b,u=>∃ t,u = Value.bytes b t
 | .flt b,u=>∃ t,u = Value.float b t
 | .ref a,u=>u = Value.ref a
 | .ty n,u=>u = Value.type n
abbrev Vals:List V→List Value→Prop:=Paired RelV
theorem Vals.length {xs:List V} {us:List Value} (r:Vals xs us):xs.length = us.length:=Paired.length r
theorem Vals.get:∀ {xs:List V} {us:List Value} {i:Nat} {x:V},Vals xs us→xs[i]? = some x→∃ u,us[i]? = some u∧RelV x u
 | _,_,_,_,.nil,e=>by simp at e
 | _,_,0,_,.cons r _,e=>by simp at e; subst e; exact ⟨_,rfl,r⟩
 | _,_,i + 1,x,.cons _ t,e=>by
  obtain ⟨u,h1,h2⟩:=Vals.get (i:=i) (x:=x) t (by simpa using e)
  exact ⟨u,by simpa using h1,h2⟩
theorem Vals.append:∀ {xs ys:List V} {us ws:List Value},Vals xs us→Vals ys ws→Vals (xs ++ ys) (us ++ ws)
 | _,_,_,_,.nil,s=>s
 | _,_,_,_,.cons r t,s=>.cons r (Vals.append t s)
theorem Vals.take:∀ {xs:List V} {us:List Value} (n:Nat),Vals xs us→Vals (xs.take n) (us.take n)
 | _,_,0,_=>.nil
 | _,_,_ + 1,.nil=>.nil
 | _,_,n + 1,.cons r t=>.cons r (Vals.take n t)
theorem Vals.drop:∀ {xs:List V} {us:List Value} (n:Nat),Vals xs us→Vals (xs.drop n) (us.drop n)
 | _,_,0,r=>r
 | _,_,_ + 1,.nil=>.nil
 | _,_,n + 1,.cons _ t=>Vals.drop n t
def RelO:Option V→Option Value→Prop
 | some v,some u=>RelV v u
 | none,none=>True
 | _,_=>False
def KV {κ:Type}:List (κ × V)→List (κ × Value)→Prop:=Paired fun (p:κ × V) (q:κ × Value)=>p.1 = q.1∧RelV p.2 q.2
def kV:Key→V
 | .inl i=>.int i
 | .inr x=>.str x
inductive HO where
 | lst (xs:List V)
 | tup (xs:List V)
 | dK (kvs:List (Key × V)) | dT (kvs:List (List Key × V))
 | set (S:Int→Bool) (n:Nat)
 | ins (C dx:Addr) (fs:List (Str × V))
 | own (x:Addr)
 | xd (fs:List (Str × V))
 | met (f x:Addr)
 | rng (lo hi:Int)
 | frz (o:Obj) (u:HO)
 | tbl (ps:Array Value)
 | ext (φ:Heap→Prop)
abbrev Hp:=Addr→Option HO
def upd (H:Hp) (a:Addr) (o:HO):Hp:=fun b=>if b = a then some o else H b
theorem upd_same {H:Hp} {a:Addr} {o:HO}:upd H a o a = some o:=by unfold upd; rw [if_pos rfl]
theorem upd_ne {H:Hp} {a b:Addr} {o:HO} (h:b ≠ a):upd H a o b = H b:=by unfold upd; rw [if_neg h]
theorem ne_of {H:Hp} {a b:Addr} {o u:HO} (h:H a = some o) (h':H b = some u) (d:o ≠ u):a ≠ b:=by
 intro e; subst e; rw [h] at h'; exact d (Option.some.inj h')
theorem ne_of_none {H:Hp} {a b:Addr} {o:HO} (h:H a = some o) (h':H b = none):a ≠ b:=by
 intro e; subst e; rw [h] at h'; cases h'
section
variable (P:Program) (w:World)
def ObjOk (H:Hp) (h:Heap) (a:Addr):HO→Prop
 | .lst xs=>xs.length ≤ sizeLine∧∃ (its:List Value) (n:Nat),Vals xs its∧h.get? a = some { cls:=.type "list",data:=.seq its.toArray n }
 | .tup xs=>xs.length ≤ sizeLine∧∃ its:List Value,Vals xs its∧IsTup h a its.toArray
 | .dK kvs=>kvs.length ≤ sizeLine∧(a == sysModules) = false∧∃ vs,KV kvs vs∧h.DictOf (mixKind P w) a vs
 | .dT kvs=>kvs.length ≤ sizeLine∧(a == sysModules) = false∧∃ xs:List (List Key × Addr × Value),
   Paired (fun (p:List Key × V) (q:List Key × Addr × Value)=>p.1 = q.1∧H q.2.1 = some (.tup (p.1.map kV))∧RelV p.2 q.2.2) kvs xs ∧
   ∃ o es ep,h.get? a = some o∧o.ExactDict∧o.data = .dict es ep∧es.toList = xs.map (entryOfKey (tupleKind (mixKind P w)))∧(xs.map (·.1)).Nodup
 | .set S n=>h.SetOf (intKind P w) a S n
 | .ins C dx fs=>H dx = some (.own a)∧fs.length ≤ 1000∧dx ≠ a∧h.get? a = some (PySem.W.instObj C dx) ∧
   ∃ mA,h.Ns1 dx mA∧(∀ f,RelO (fs.lookup f) (mA f))∧PySem.Within mA (fs.map (·.1))
 | .own _=>∃ o,h.get? a = some o
 | .xd fs=>∃ mA,h.Ns1 a mA∧∀ f,RelO (fs.lookup f) (mA f)
 | .rng lo hi=>∃ t u v,h.get? a = some { cls:=.type "range",data:=.fields #[.int lo t,.int hi u,.int 1 v] }
 | .frz o u=>h.get? a = some o∧ObjOk H h a u
 | .tbl ps=>h.get? a = some { cls:=.none,data:=.fields ps }
 | .met f x=>h.get? a = some (PySem.W.methodObj (.ref f) (.ref x))
 | .ext φ=>φ h∧(∃ o,h.get? a = some o)∧∀ h1 h2:Heap,φ h1→(∀ o,h1.get? a = some o→h2.get? a = some o)→φ h2
def HOk (H:Hp) (h:Heap):Prop:=∀ a o,H a = some o→ObjOk P w H h a o
end
section
variable {P:Program} {w:World} {H H':Hp} {h h':Heap} {a:Addr} {o:HO}
theorem ObjOk.lt (x:ObjOk P w H h a o):a < h.objs.size:=by
 cases o with
 | lst xs=>obtain ⟨_,_,_,_,e⟩:=x; exact Heap.lt_size e
 | tup xs=>obtain ⟨_,_,_,p⟩:=x; exact p.lt
 | dK kvs=>obtain ⟨_,_,_,_,o,_,_,e,_⟩:=x; exact Heap.lt_size e
 | dT kvs=>obtain ⟨_,_,_,_,o,_,_,e,_⟩:=x; exact Heap.lt_size e
 | set S n=>obtain ⟨o,_,_,_,e,_⟩:=x; exact Heap.lt_size e
 | ins C dx fs=>obtain ⟨_,_,_,e,_⟩:=x; exact Heap.lt_size e
 | own y=>obtain ⟨_,e⟩:=x; exact Heap.lt_size e
 | xd fs=>obtain ⟨_,⟨_,_,_,e,_⟩,_⟩:=x; exact Heap.lt_size e
 | rng lo hi=>obtain ⟨_,_,_,e⟩:=x; exact Heap.lt_size e
 | frz ob u=>obtain ⟨e,_⟩:=x; exact Heap.lt_size e
 | tbl ps=>exact Heap.lt_size (show h.get? a = some _ from x)
 | met f y=>exact Heap.lt_size (show h.get? a = some _ from x)
 | ext φ=>obtain ⟨_,⟨_,e⟩,_⟩:=x; exact Heap.lt_size e
theorem Paired.mapP {α β:Type} {F G:α→β→Prop}:∀ {l₁:List α} {l₂:List β},Paired F l₁ l₂→(∀ a b,F a b→G a b)→Paired G l₁ l₂
 | _,_,.nil,_=>.nil
 | _,_,.cons r t,f=>.cons (f _ _ r) (Paired.mapP t f)
theorem ObjOk.stay (x:ObjOk P w H h a o) (k:∀ b u,(b = a ∨ H b = some (.own a))→h.get? b = some u→h'.get? b = some u)
  (ho:∀ b,H b = some (.own a)→H' b = some (.own a)) (ht:∀ b xs,H b = some (.tup xs)→H' b = some (.tup xs)):ObjOk P w H' h' a o:=by
 induction o with
 | lst xs=>obtain ⟨z,its,n,r,e⟩:=x; exact ⟨z,its,n,r,k _ _ (.inl rfl) e⟩
 | tup xs=>obtain ⟨z,its,r,ob,e,c⟩:=x; exact ⟨z,its,r,ob,k _ _ (.inl rfl) e,c⟩
 | dK kvs=>obtain ⟨z,y,vs,r,ob,es,ep,e,c⟩:=x; exact ⟨z,y,vs,r,ob,es,ep,k _ _ (.inl rfl) e,c⟩
 | dT kvs =>
  obtain ⟨z,y,xs,r,ob,es,ep,e,c⟩:=x
  exact ⟨z,y,xs,Paired.mapP r fun p q z=>⟨z.1,ht _ _ z.2.1,z.2.2⟩,ob,es,ep,k _ _ (.inl rfl) e,c⟩
 | set S n=>obtain ⟨ob,es,ep,t,e,c⟩:=x; exact ⟨ob,es,ep,t,k _ _ (.inl rfl) e,c⟩
 | ins C dx fs =>
  obtain ⟨d,z,ne,e,mA,⟨od,es,ep,e2,c⟩,r⟩:=x
  exact ⟨ho _ d,z,ne,k _ _ (.inl rfl) e,mA,⟨od,es,ep,k _ _ (.inr d) e2,c⟩,r⟩
 | own y=>obtain ⟨ob,e⟩:=x; exact ⟨ob,k _ _ (.inl rfl) e⟩
 | xd fs=>obtain ⟨mA,⟨od,es,ep,e,c⟩,r⟩:=x; exact ⟨mA,⟨od,es,ep,k _ _ (.inl rfl) e,c⟩,r⟩
 | rng lo hi=>obtain ⟨t,u,v,e⟩:=x; exact ⟨t,u,v,k _ _ (.inl rfl) e⟩
 | frz ob u ih=>obtain ⟨e,q⟩:=x; exact ⟨k _ _ (.inl rfl) e,ih q⟩
 | tbl ps =>
  have e:h.get? a = some { cls:=.none,data:=.fields ps }:=x
  show h'.get? a = some { cls:=.none,data:=.fields ps }
  exact k a _ (.inl rfl) e
 | met f y =>
  have e:h.get? a = some (PySem.W.methodObj (.ref f) (.ref y)):=x
  show h'.get? a = some (PySem.W.methodObj (.ref f) (.ref y))
  exact k a _ (.inl rfl) e
 | ext φ=>obtain ⟨p,⟨o,e⟩,st⟩:=x; exact ⟨st _ _ p fun o q=>k _ _ (.inl rfl) q,⟨o,k _ _ (.inl rfl) e⟩,st⟩
theorem HOk.lt (x:HOk P w H h) (e:H a = some o):a < h.objs.size:=(x a o e).lt
theorem HOk.fresh (x:HOk P w H h) (e:h.objs.size ≤ a):H a = none:=by
 cases q:H a with
 | none=>rfl
 | some u=>exact absurd (Nat.lt_of_lt_of_le (x.lt q) e) (Nat.lt_irrefl _)
theorem HOk.kept (x:HOk P w H h) (k:∀ b u,h.get? b = some u→h'.get? b = some u):HOk P w H h':=fun a o e =>
 (x a o e).stay (fun b u _ q=>k b u q) (fun _ q=>q) fun _ _ q=>q
theorem HOk.laid (x:HOk P w H h) (k:∀ b u,h.get? b = some u→h'.get? b = some u) (hp:h.objs.size ≤ a) (new:ObjOk P w (upd H a o) h' a o):HOk P w (upd H a o) h':=fun b u e=>by
 have hn:=x.fresh hp
 by_cases hb:b = a
 ·subst hb; rw [upd_same] at e; cases e; exact new
 ·rw [upd_ne hb] at e
  exact (x b u e).stay (fun c v _ q=>k c v q) (fun c q=>by rw [upd_ne (ne_of_none q hn)]; exact q) fun c xs q=>by rw [upd_ne (ne_of_none q hn)]; exact q
end
def Rd (H:Hp) (a:Addr) (u:HO):Prop:=H a = some u ∨ ∃ o,H a = some (.frz o u)
theorem Rd.ok {P:Program} {w:World} {H:Hp} {h:Heap} {a:Addr} {u:HO} (r:Rd H a u) (x:HOk P w H h):ObjOk P w H h a u:=by
 rcases r with r | ⟨o,r⟩
 ·exact x a u r
 ·obtain ⟨_,q⟩:=x a _ r
  exact q
def Mut:Option HO→Prop
 | some (.lst _)=>True
 | some (.dK _)=>True
 | some (.dT _)=>True
 | some (.set _ _)=>True
 | some (.ins _ _ _)=>True
 | some (.ext _)=>True
 | _=>False
section
variable {P:Program} {w:World} {H:Hp} {h h':Heap} {x e:Addr} {o':HO}
theorem HOk.write (ok:HOk P w H h) (mu:Mut (H x)) (he:e = x ∨ H e = some (.own x)) (k:∀ b u,b ≠ e→h.get? b = some u→h'.get? b = some u) (heo:∃ u,h'.get? e = some u)
  (new:ObjOk P w (upd H x o') h' x o'):HOk P w (upd H x o') h':=fun b u q=>by
 have nown:∀ c y,H c = some (.own y)→c ≠ x:=fun c y r z=>by subst z; rw [r] at mu; exact mu
 have ntup:∀ c xs,H c = some (.tup xs)→c ≠ x:=fun c xs r z=>by subst z; rw [r] at mu; exact mu
 by_cases hb:b = x
 ·subst hb; rw [upd_same] at q; cases q; exact new
 ·rw [upd_ne hb] at q
  by_cases hbe:b = e
  ·have q':H b = some (.own x):=by
    rcases he with z | z
    ·exact absurd (hbe.trans z) hb
    ·rw [hbe]; exact z
   rw [q] at q'; cases q'
   obtain ⟨v,hv⟩:=heo
   exact ⟨v,by rw [hbe]; exact hv⟩
  ·refine (ok b u q).stay (fun c v hc r=>k c v ?_ r) (fun c r=>by rw [upd_ne (nown c b r)]; exact r) fun c xs r=>by rw [upd_ne (ntup c xs r)]; exact r
   rcases hc with rfl | hc
   ·exact hbe
   ·rintro rfl
    rcases he with z | z
    ·exact nown c b hc z
    ·rw [hc] at z; cases z; exact hb rfl
end
structure Un (fs ex:List Addr) (H H':Hp) (h h':Heap):Prop where
 keep:∀ b o,h.get? b = some o→H b = none→b ∉ fs→b ∉ ex→h'.get? b = some o
 slot:∀ b o,h.get? b = some o→H b = none→b ∈ fs→b ∉ ex→∃ sl,h'.get? b = some { o with slots:=sl }
 free:∀ b o,h.get? b = some o→H b = none→b ∉ ex→H' b = none
 there:∀ b o,h.get? b = some o→b ∉ ex→∃ o',h'.get? b = some o'
 tups:∀ b xs,H b = some (.tup xs)→H' b = some (.tup xs)
 frzs:∀ b o u,H b = some (.frz o u)→H' b = some (.frz o u)
 tbls:∀ b ps,H b = some (.tbl ps)→∃ more,H' b = some (.tbl (ps ++ more))
section
variable {fs fs' ex ex':List Addr} {H H1 H2:Hp} {h h1 h2 h':Heap} {a x e:Addr} {o:HO}
theorem Un.any (u:Un fs ex H H1 h h1) {b:Addr} {ob:Obj} (q:h.get? b = some ob) (n:H b = none) (hx:b ∉ ex):∃ sl,h1.get? b = some { ob with slots:=sl }:=by
 by_cases hb:b ∈ fs
 ·exact u.slot b ob q n hb hx
 ·exact ⟨ob.slots,u.keep b ob q n hb hx⟩
theorem Un.kept (k:∀ b u,h.get? b = some u→h'.get? b = some u):Un fs ex H H h h' :=
 ⟨fun b ob q _ _ _=>k b ob q,fun b ob q _ _ _=>⟨ob.slots,k b ob q⟩,fun _ _ _ n _=>n,fun b ob q _=>⟨ob,k b ob q⟩,fun _ _ q=>q,fun _ _ _ q=>q,fun _ ps q=>⟨#[],by rw [q]; simp⟩⟩
theorem Un.refl:Un fs ex H H h h:=Un.kept fun _ _ q=>q
theorem Un.laid (k:∀ b u,h.get? b = some u→h'.get? b = some u) (hp:h.objs.size ≤ a) (hn:H a = none):Un fs ex H (upd H a o) h h' where
 keep:=fun b u q _ _ _=>k b u q
 slot:=fun b u q _ _ _=>⟨u.slots,k b u q⟩
 free:=fun b u q n _=>by rw [upd_ne (Nat.ne_of_lt (Nat.lt_of_lt_of_le (Heap.lt_size q) hp))]; exact n
 there:=fun b u q _=>⟨u,k b u q⟩
 tups:=fun b xs q=>by rw [upd_ne (ne_of_none q hn)]; exact q
 frzs:=fun b u xs q=>by rw [upd_ne (ne_of_none q hn)]; exact q
 tbls:=fun b ps q=>⟨#[],by rw [upd_ne (ne_of_none q hn),q]; simp⟩
theorem Un.write (mu:Mut (H x)) (he:e = x ∨ H e = some (.own x)) (k:∀ b u,b ≠ e→h.get? b = some u→h'.get? b = some u) (heo:∃ u,h'.get? e = some u):Un fs ex H (upd H x o) h h':=by
 have hx:∀ b,H b = none→b ≠ x:=fun b n z=>by subst z; rw [n] at mu; exact mu
 have hb:∀ b,H b = none→b ≠ e:=fun b n z=>by
  subst z
  rcases he with r | r
  ·exact hx b n r
  ·rw [n] at r; cases r
 have hm:∀ b u,H b = some u→¬ Mut (some u)→b ≠ x:=fun b u q nm z=>by subst z; rw [q] at mu; exact nm mu
 refine ⟨fun b u q n _ _=>k b u (hb b n) q,fun b u q n _ _=>⟨u.slots,k b u (hb b n) q⟩,fun b u q n _=>by rw [upd_ne (hx b n)]; exact n,fun b u q _=>?_,
  fun b xs q=>by rw [upd_ne (hm b _ q fun z=>z)]; exact q,fun b u xs q=>by rw [upd_ne (hm b _ q fun z=>z)]; exact q,fun b ps q=>⟨#[],by rw [upd_ne (hm b _ q fun z=>z),q]; simp⟩⟩
 by_cases hbe:b = e
 ·subst hbe; exact heo
 ·exact ⟨u,k b u hbe q⟩
end
def trk (h:Heap) (H:Hp):List Addr:=(List.range h.objs.size).filter fun a=>(H a).isSome
def hidT (h:Heap) (H:Hp):Heap:=PySem.W.hideAll h (trk h H)
theorem hidT_size (h:Heap) (H:Hp):(hidT h H).objs.size = h.objs.size:=PySem.W.hideAll_size _ _
theorem hidT_get {h:Heap} {H:Hp} {b:Addr} {o:Obj} (e:h.get? b = some o) (n:H b = none):(hidT h H).get? b = some o :=
 PySem.W.hideAll_get _ e fun hm=>by
  have q:(H b).isSome = true:=(List.mem_filter.mp hm).2
  rw [n] at q; simp at q
theorem of_hidT {h:Heap} {H:Hp} {b:Addr} {o:Obj} (e:(hidT h H).get? b = some o):h.get? b = some o∧H b = none:=by
 have e':h.get? b = some o:=PySem.W.of_hideAll (trk h H) e
 refine ⟨e',?_⟩
 cases q:H b with
 | none=>rfl
 | some x =>
  have hm:b ∈ trk h H:=List.mem_filter.mpr ⟨List.mem_range.mpr (Heap.lt_size e'),by simp [q]⟩
  have z:(hidT h H).get? b = none:=PySem.W.hideAll_none (trk h H) hm
  rw [z] at e; cases e
structure Mod (K:PySem.W.Frag) (mg:Str→Option Value) (base:Heap):Prop where
 kin:K.In base
 glob:base.Ns mainGlobals mg
 blt:∃ mb,base.Ns builtinsNs mb∧∀ x:Str,x ≠ "__name__"→mb x = bootBuiltins x
 nolimit:base.NoLimit
structure Cx where
 prog:Program
 w:World
 K:PySem.W.Frag
 mg:Str→Option Value
 base:Heap
 A:Around
 N:List Str
 s_0:Shared
 H_0:Hp
 env:Env
 outer:List Env
 stack:List Env
 ex:List Addr
 fn:Str→Bool
 calm:Bool
 pn:List (Addr × Obj)
 xe:Value→Shared→Prop
def frs (l:List Env):List Addr:=l.filterMap (·.frame)
abbrev Cx.fs (X:Cx):List Addr:=frs X.outer
def Vis (sc:Scope) (x:Str):Prop:=sc.names.lookup x = some .local ∨ sc.names.lookup x = some .cell ∨ sc.names.lookup x = some .free
def Loc (sc:Scope) (x:Str):Prop:=sc.names.lookup x = some .local ∨ sc.names.lookup x = some .cell
def Look (env:Env) (h:Heap) (m:Str→Option Value) (x:Str) (u:Value):Prop :=
 (env.kindOf x = some .local∧m x = some u) ∨ ((env.kindOf x = some .cell ∨ env.kindOf x = some .free)∧∃ c,env.cells.lookup x = some c∧h.IsCell c (some u))
structure Cx.Ok (X:Cx):Prop where
 mod:Mod X.K X.mg X.base
 kind:X.env.scope.kind = .function
 glob:X.env.globals = mainGlobals
 blt:X.env.builtins = builtinsNs
 above:X.s_0.heap.objs.size ≤ X.env.locals
 inj:∀ x y c,X.env.cells.lookup x = some c→X.env.cells.lookup y = some c→x = y
 has:∀ x,(X.env.kindOf x = some .cell ∨ X.env.kindOf x = some .free)→∃ c,X.env.cells.lookup x = some c
 cab:∀ x c,X.fn x = true→X.env.cells.lookup x = some c→X.s_0.heap.objs.size ≤ c
 hd:X.calm = true→X.A.handled = none
 frames:X.A.frames = some X.stack
 stk:X.stack = X.outer ∨ (X.stack = X.env :: X.outer∧X.env.frame = some X.env.locals)
 exf:∀ b ∈ X.ex,b ≠ X.env.locals∧∀ x c,X.env.cells.lookup x = some c→c ≠ b
 bs:∀ b o,X.base.get? b = some o→X.s_0.heap.get? b = some o∧X.H_0 b = none
 bsz:X.base.objs.size ≤ X.s_0.heap.objs.size
 noex:∀ b o,X.base.get? b = some o→b ∉ X.ex
 exfs:∀ b ∈ X.ex,b ∉ X.fs
 funs:X.s_0.heap.FunFrames X.base X.outer
 frf:∀ b ∈ X.fs,X.H_0 b = none
structure Inv (X:Cx) (pins:List (Addr × Obj)) (σ:List (Option V)) (H:Hp) (s:Shared):Prop where
 ok:X.Ok
 os:s.os = X.s_0.os
 bare:AllBare s.gens
 base:Un X.fs X.ex X.H_0 H X.s_0.heap s.heap
 loc:∃ m,s.heap.Ns X.env.locals m∧∀ (i:Nat) (x:Str) (v:V),X.N[i]? = some x→σ[i]? = some (some v)→Vis X.env.scope x→∃ u,RelV v u∧Look X.env s.heap m x u
 cell:∀ x c,X.env.cells.lookup x = some c→∃ v,s.heap.IsCell c v
 free:H X.env.locals = none
 freeC:∀ x c,X.env.cells.lookup x = some c→H c = none
 pin:∀ p ∈ X.pn ++ pins,s.heap.get? p.1 = some p.2∧H p.1 = none∧p.1 ≠ X.env.locals∧p.1 ∉ X.fs∧∀ v,p.2.data ≠ .cell v
 hok:HOk X.prog X.w H s.heap
 len:σ.length = X.N.length
section
variable {X:Cx} {pins:List (Addr × Obj)} {σ:List (Option V)} {H H':Hp} {s:Shared} {h':Heap}
theorem Cx.Ok.nofr (ok:X.Ok) {b:Addr} {o:Obj} (e:X.base.get? b = some o):b ∉ X.fs:=fun hb=>by
 have:=(ok.funs.mem hb).1
 rw [e] at this; cases this
theorem Inv.bs (I:Inv X pins σ H s):∀ b o,X.base.get? b = some o→s.heap.get? b = some o∧H b = none:=fun b o e =>
 ⟨I.base.keep b o (I.ok.bs b o e).1 (I.ok.bs b o e).2 (I.ok.nofr e) (I.ok.noex b o e),I.base.free b o (I.ok.bs b o e).1 (I.ok.bs b o e).2 (I.ok.noex b o e)⟩
theorem Inv.bk (I:Inv X pins σ H s):∀ b o,X.base.get? b = some o→s.heap.get? b = some o:=fun b o e=>(I.bs b o e).1
theorem Inv.mod (I:Inv X pins σ H s):Mod X.K X.mg X.base:=I.ok.mod
theorem Inv.kIn (I:Inv X pins σ H s):X.K.In s.heap:=I.ok.mod.kin.keeps I.bk
theorem Inv.fr (I:Inv X pins σ H s):∃ m,Fr X.base X.env.locals s.heap m :=
 let ⟨m,hn,_⟩:=I.loc
 ⟨m,hn,I.bk,Nat.le_trans I.ok.bsz I.ok.above⟩
theorem Inv.lt (I:Inv X pins σ H s):X.env.locals < s.heap.objs.size:=let ⟨_,hn,_⟩:=I.loc; hn.lt
theorem Inv.sz (I:Inv X pins σ H s):X.s_0.heap.objs.size ≤ s.heap.objs.size:=Nat.le_trans I.ok.above (Nat.le_of_lt I.lt)
theorem Inv.nofs (I:Inv X pins σ H s) {a:Addr} (h:s.heap.objs.size ≤ a):a ∉ X.fs:=fun hb=>by
 obtain ⟨_,o,ho,_⟩:=I.ok.funs.mem hb
 exact absurd (Nat.lt_of_lt_of_le (Heap.lt_size ho) (Nat.le_trans I.sz h)) (Nat.lt_irrefl _)
theorem Inv.cne (I:Inv X pins σ H s):∀ x c,X.env.cells.lookup x = some c→c ≠ X.env.locals:=fun x c e z=>by
 obtain ⟨v,o,ho,hd⟩:=I.cell x c e
 obtain ⟨m,⟨o',es,ep,ho',hd',_⟩,_⟩:=I.loc
 rw [z,ho'] at ho; cases ho; rw [hd'] at hd; cases hd
theorem Inv.funs (I:Inv X pins σ H s):s.heap.FunFrames X.base X.outer:=by
 have all:∀ (l:List Env),(∀ b ∈ frs l,b ∈ X.fs)→X.s_0.heap.FunFrames X.base l→s.heap.FunFrames X.base l:=by
  intro l
  induction l with
  | nil=>intro _ _; trivial
  | cons env r ih =>
   intro hs hl
   obtain ⟨hk,⟨L,o,hf,hn,ho,hd⟩,hr⟩:=hl
   have hL:L ∈ X.fs:=hs L (by unfold frs; rw [List.filterMap_cons,hf]; exact List.mem_cons_self)
   obtain ⟨sl,e⟩:=I.base.slot L o ho (I.ok.frf L hL) hL fun z=>I.ok.exfs L z hL
   exact ⟨hk,⟨L,_,hf,hn,e,hd⟩,ih (fun b hb=>hs b (by unfold frs; rw [List.filterMap_cons,hf]; exact List.mem_cons_of_mem _ hb)) hr⟩
 exact all X.outer (fun _ hb=>hb) I.ok.funs
theorem Inv.stack (I:Inv X pins σ H s):s.heap.FunFrames X.base X.stack:=by
 rcases I.ok.stk with e | ⟨e,hf⟩
 ·rw [e]; exact I.funs
 ·rw [e]
  obtain ⟨m,hn,_⟩:=I.loc
  refine .cons (by rw [I.ok.kind]; decide) hf hn ?_ I.funs
  exact Heap.get?_none_of_le (Nat.le_trans I.ok.bsz I.ok.above)
theorem Inv.stkSub (I:Inv X pins σ H s):∀ b ∈ frs X.stack,b ∈ X.env.locals :: X.fs:=fun b hb=>by
 rcases I.ok.stk with e | ⟨e,hf⟩
 ·rw [e] at hb; exact List.mem_cons_of_mem _ hb
 ·rw [e] at hb
  unfold frs at hb
  rw [List.filterMap_cons,hf] at hb
  exact hb
theorem Inv.stkFree (I:Inv X pins σ H s):∀ b ∈ frs X.stack,H b = none:=fun b hb=>by
 rcases List.mem_cons.mp (I.stkSub b hb) with e | hb
 ·rw [e]; exact I.free
 ·obtain ⟨_,o,ho,_⟩:=I.ok.funs.mem hb
  exact I.base.free b o ho (I.ok.frf b hb) fun z=>I.ok.exfs b z hb
theorem Inv.step {g':Array GenState} {t':Nat} {d':Drawn} {ch:List Addr} (I:Inv X pins σ H s)
  (hch:∀ b ∈ ch,(b ∈ X.ex ∨ X.s_0.heap.objs.size ≤ b)∧b ≠ X.env.locals∧(∀ x c,X.env.cells.lookup x = some c→c ≠ b)∧∀ p ∈ X.pn ++ pins,p.1 ≠ b)
  (keep:∀ b o,b ≠ X.env.locals→b ∉ X.fs→b ∉ ch→s.heap.get? b = some o→H b = none→h'.get? b = some o)
  (slot:∀ b o,b ≠ X.env.locals→b ∈ X.fs→b ∉ ch→s.heap.get? b = some o→H b = none→∃ sl,h'.get? b = some { o with slots:=sl }) (free:∀ b o,b ∉ ch→s.heap.get? b = some o→H b = none→H' b = none)
  (there:∀ b o,b ∉ ch→s.heap.get? b = some o→∃ o',h'.get? b = some o')
  (tups:∀ b xs,H b = some (.tup xs)→H' b = some (.tup xs)) (frzs:∀ b o u,H b = some (.frz o u)→H' b = some (.frz o u)) (tbls:∀ b ps,H b = some (.tbl ps)→∃ more,H' b = some (.tbl (ps ++ more)))
  (ns:∀ m,s.heap.Ns X.env.locals m→h'.Ns X.env.locals m) (hok:HOk X.prog X.w H' h') (hg:AllBare g') :
  Inv X pins σ H' { s with heap:=h',gens:=g',drawn:=d',toks:=t' }:=by
 have neL:∀ b o,X.s_0.heap.get? b = some o→b ≠ X.env.locals:=fun b o e=>Nat.ne_of_lt (Nat.lt_of_lt_of_le (Heap.lt_size e) I.ok.above)
 have neC:∀ b o,X.s_0.heap.get? b = some o→b ∉ X.ex→b ∉ ch:=fun b o e hx hb=>by
  rcases (hch b hb).1 with z | z
  ·exact hx z
  ·exact absurd (Nat.lt_of_lt_of_le (Heap.lt_size e) z) (Nat.lt_irrefl _)
 have cellK:∀ x c,X.env.cells.lookup x = some c→∀ v,s.heap.IsCell c v→h'.IsCell c v:=fun x c e v ⟨o,ho,hd⟩=>by
  have nch:c ∉ ch:=fun z=>(hch c z).2.2.1 x c e rfl
  by_cases hc:c ∈ X.fs
  ·obtain ⟨sl,q⟩:=slot c o (I.cne x c e) hc nch ho (I.freeC x c e)
   exact ⟨_,q,hd⟩
  ·exact ⟨o,keep c o (I.cne x c e) hc nch ho (I.freeC x c e),hd⟩
 refine ⟨I.ok,I.os,hg,⟨fun b o e n hb hx=>?_,fun b o e n hb hx=>?_,fun b o e n hx=>?_,fun b o e hx=>?_,fun b xs e=>tups b xs (I.base.tups b xs e),fun b o xs e=>frzs b o xs (I.base.frzs b o xs e),fun b ps e=>?_⟩,?_,fun x c e=>?_,?_,fun x c e=>?_,fun p hp=>?_,hok,I.len⟩
 ·exact keep b o (neL b o e) hb (neC b o e hx) (I.base.keep b o e n hb hx) (I.base.free b o e n hx)
 ·obtain ⟨sl,e1⟩:=I.base.slot b o e n hb hx
  obtain ⟨sl',e2⟩:=slot b _ (neL b o e) hb (neC b o e hx) e1 (I.base.free b o e n hx)
  exact ⟨sl',e2⟩
 ·obtain ⟨o',e1⟩:=I.base.there b o e hx
  exact free b o' (neC b o e hx) e1 (I.base.free b o e n hx)
 ·obtain ⟨o',e1⟩:=I.base.there b o e hx
  exact there b o' (neC b o e hx) e1
 ·obtain ⟨m1,e1⟩:=I.base.tbls b ps e
  obtain ⟨m2,e2⟩:=tbls b _ e1
  exact ⟨m1 ++ m2,by rw [e2,Array.append_assoc]⟩
 ·obtain ⟨m,hn,hl⟩:=I.loc
  refine ⟨m,ns m hn,fun i x v e1 e2 e3=>?_⟩
  obtain ⟨u,r,l⟩:=hl i x v e1 e2 e3
  refine ⟨u,r,?_⟩
  rcases l with l | ⟨k,c,e,z⟩
  ·exact .inl l
  ·exact .inr ⟨k,c,e,cellK x c e _ z⟩
 ·obtain ⟨v,z⟩:=I.cell x c e
  exact ⟨v,cellK x c e v z⟩
 ·obtain ⟨m,⟨o,_,_,ho,_⟩,_⟩:=I.loc
  exact free _ o (fun z=>(hch _ z).2.1 rfl) ho I.free
 ·obtain ⟨v,o,ho,hd⟩:=I.cell x c e
  exact free c o (fun z=>(hch c z).2.2.1 x c e rfl) ho (I.freeC x c e)
 ·obtain ⟨e,n,ne,nf,d⟩:=I.pin p hp
  have nch:p.1 ∉ ch:=fun z=>(hch p.1 z).2.2.2 p hp rfl
  exact ⟨keep p.1 p.2 ne nf nch e n,free p.1 p.2 nch e n,ne,nf,d⟩
theorem Inv.un {t':Nat} (I:Inv X pins σ H s) (u:Un X.fs [] H H' s.heap h') (hok:HOk X.prog X.w H' h'):Inv X pins σ H' { s with heap:=h',toks:=t' }:=by
 obtain ⟨m,⟨o,es,ep,ho,r⟩,_⟩:=id I.loc
 obtain ⟨sl,hL⟩:=u.any ho I.free (by simp)
 exact I.step (g':=s.gens) (d':=s.drawn) (ch:=[]) (fun _ z=>nomatch z) (fun b o _ hb _ e n=>u.keep b o e n hb (by simp)) (fun b o _ hb _ e n=>u.slot b o e n hb (by simp)) (fun b o _ e n=>u.free b o e n (by simp)) (fun b o _ e=>u.there b o e (by simp)) u.tups u.frzs u.tbls (fun m' hm=>by
  obtain ⟨o',es',ep',ho',r'⟩:=hm
  rw [ho] at ho'; cases ho'
  exact ⟨_,es',ep',hL,r'⟩) hok I.bare
theorem Inv.call {g':Array GenState} {t':Nat} {d':Drawn} {ch:List Addr} (I:Inv X pins σ H s) (u:Un (frs X.stack) ch H H' s.heap h') (hok:HOk X.prog X.w H' h') (hg:AllBare g')
  (hch:∀ b ∈ ch,(b ∈ X.ex ∨ X.s_0.heap.objs.size ≤ b)∧b ≠ X.env.locals∧(∀ x c,X.env.cells.lookup x = some c→c ≠ b)∧∀ p ∈ X.pn ++ pins,p.1 ≠ b) :
  Inv X pins σ H' { s with heap:=h',gens:=g',drawn:=d',toks:=t' }:=by
 obtain ⟨m,⟨o,es,ep,ho,r⟩,_⟩:=id I.loc
 obtain ⟨sl,hL⟩:=u.any ho I.free fun z=>(hch _ z).2.1 rfl
 exact I.step (ch:=ch) hch (fun b o hL hb hc e n=>u.keep b o e n (fun z=>(List.mem_cons.mp (I.stkSub b z)).elim hL hb) hc) (fun b o _ _ hc e n=>u.any e n hc) (fun b o hc e n=>u.free b o e n hc) (fun b o hc e=>u.there b o e hc) u.tups u.frzs u.tbls (fun m' hm=>by
  obtain ⟨o',es',ep',ho',r'⟩:=hm
  rw [ho] at ho'; cases ho'
  exact ⟨_,es',ep',hL,r'⟩) hok hg
theorem Inv.turned {t':Nat} {it:Addr} (I:Inv X pins σ H s) (k:∀ b o,b ≠ it→s.heap.get? b = some o→h'.get? b = some o) (hn:H it = none) (hL:it ≠ X.env.locals)
  (h1:it ∈ X.ex ∨ X.s_0.heap.objs.size ≤ it) (h2:∀ x c,X.env.cells.lookup x = some c→c ≠ it) (h3:∀ p ∈ X.pn ++ pins,p.1 ≠ it):Inv X pins σ H { s with heap:=h',toks:=t' }:=by
 have nit:∀ b u,H b = some u→b ≠ it:=fun b u e z=>by rw [z,hn] at e; cases e
 refine I.step (g':=s.gens) (d':=s.drawn) (ch:=[it]) (fun b hb=>?_) (fun b o _ _ hc e _=>k b o (fun z=>hc (by simp [z])) e) (fun b o _ _ hc e _=>⟨o.slots,k b o (fun z=>hc (by simp [z])) e⟩) (fun _ _ _ _ n=>n)
  (fun b o hc e=>⟨o,k b o (fun z=>hc (by simp [z])) e⟩) (fun _ _ e=>e) (fun _ _ _ e=>e) (fun b ps e=>⟨#[],by rw [e]; simp⟩) (fun m hm=>?_) (fun b u e=>?_) I.bare
 ·have e:b = it:=by simpa using hb
  subst e
  exact ⟨h1,hL,h2,h3⟩
 ·obtain ⟨o,es,ep,ho,r⟩:=hm
  exact ⟨o,es,ep,k _ o (Ne.symm hL) ho,r⟩
 ·refine (I.hok b u e).stay (fun c v hc q=>k c v ?_ q) (fun _ q=>q) fun _ _ q=>q
  rcases hc with z | z
  ·rw [z]; exact nit b u e
  ·exact nit c _ z
theorem Inv.tok (I:Inv X pins σ H s) (t:Nat):Inv X pins σ H { s with toks:=t }:=I.un (h':=s.heap) (t':=t) Un.refl I.hok
theorem Inv.kept {t':Nat} (I:Inv X pins σ H s) (k:∀ b u,s.heap.get? b = some u→h'.get? b = some u):Inv X pins σ H { s with heap:=h',toks:=t' }:=I.un (Un.kept k) (I.hok.kept k)
theorem Inv.laid {a:Addr} {o:HO} {t':Nat} (I:Inv X pins σ H s) (k:∀ b u,s.heap.get? b = some u→h'.get? b = some u) (hp:s.heap.objs.size ≤ a) (new:ObjOk X.prog X.w (upd H a o) h' a o) :
  Inv X pins σ (upd H a o) { s with heap:=h',toks:=t' }:=I.un (Un.laid k hp (I.hok.fresh hp)) (I.hok.laid k hp new)
theorem Inv.write {x e:Addr} {o:HO} {t':Nat} (I:Inv X pins σ H s) (mu:Mut (H x)) (he:e = x ∨ H e = some (.own x)) (k:∀ b u,b ≠ e→s.heap.get? b = some u→h'.get? b = some u) (heo:∃ u,h'.get? e = some u)
  (new:ObjOk X.prog X.w (upd H x o) h' x o):Inv X pins σ (upd H x o) { s with heap:=h',toks:=t' }:=I.un (Un.write mu he k heo) (I.hok.write mu he k heo new)
theorem Inv.weak {σ':List (Option V)} (I:Inv X pins σ H s) (hl:σ'.length = σ.length) (w:∀ (i:Nat) v,σ'[i]? = some (some v)→σ[i]? = some (some v)):Inv X pins σ' H s :=
 ⟨I.ok,I.os,I.bare,I.base,let ⟨m,hn,hl'⟩:=I.loc; ⟨m,hn,fun i x v e1 e2 e3=>hl' i x v e1 (w i v e2) e3⟩,I.cell,I.free,I.freeC,I.pin,I.hok,hl.trans I.len⟩
theorem Inv.pins_of {pins':List (Addr × Obj)} (I:Inv X pins σ H s) (h:∀ p ∈ pins',s.heap.get? p.1 = some p.2∧H p.1 = none∧p.1 ≠ X.env.locals∧p.1 ∉ X.fs∧∀ v,p.2.data ≠ .cell v):Inv X pins' σ H s :=
 ⟨I.ok,I.os,I.bare,I.base,I.loc,I.cell,I.free,I.freeC,fun p hp=>(List.mem_append.mp hp).elim (fun z=>I.pin p (List.mem_append_left _ z)) (h p),I.hok,I.len⟩
theorem nodup_ix {N:List Str} (hN:N.Nodup) {i j:Nat} {x:Str} (a:N[i]? = some x) (b:N[j]? = some x):i = j:=by
 obtain ⟨h1,e1⟩:=List.getElem?_eq_some_iff.mp a
 obtain ⟨h2,e2⟩:=List.getElem?_eq_some_iff.mp b
 exact (List.getElem_inj hN).mp (e1.trans e2.symm)
theorem store_ok2 {M:Model} {A:Around} {E:Value→Shared→Prop} {i:Nat} {x:Str} {v:V} {u:Value} {Q:Unit→Shared→Prop} (I:Inv X pins σ H s) (hN:X.N.Nodup) (hi:X.N[i]? = some x) (hx:Loc X.env.scope x) (r:RelV v u)
  (h:∀ s',Inv X pins (σ.set i (some v)) H s'→(∃ a,Heap.SameBut a s.heap s'.heap∧(a = X.env.locals ∨ X.env.cells.lookup x = some a))→Q () s') (hf:X.fn x = true ∨ X.env.scope.names.lookup x = some .local:=by first | exact .inl rfl | exact .inr rfl | assumption):wpAny M A (storeName X.env x u) Q E s:=by
 obtain ⟨m,hn,hl⟩:=id I.loc
 have hcls:(X.env.scope.kind == .class || (X.env.scope.kind == .module && X.env.locals != X.env.globals)) = false:=by rw [I.ok.kind]; rfl
 have hiσ:i < σ.length:=by rw [I.len]; exact (List.getElem?_eq_some_iff.mp hi).1
 have cne:=I.cne
 have tracked:∀ {a:Addr} {h':Heap},(∃ o,s.heap.get? a = some o∧H a = none)→Heap.SameBut a s.heap h'→HOk X.prog X.w H h':=fun {a h'} ha hs b ob e=>by
  obtain ⟨_,_,hfree⟩:=ha
  refine (I.hok b ob e).stay (fun c w' hc q=>(hs.2 c ?_).trans q) (fun _ q=>q) fun _ _ q=>q
  rintro rfl
  rcases hc with rfl | hc
  ·rw [hfree] at e; cases e
  ·rw [hfree] at hc; cases hc
 rcases hx with hk | hk
 ·refine wpAny_storeName_local hk hn (fun h' hn' hs=>?_) hcls
  obtain ⟨oL,_,_,hoL,_⟩:=id hn
  refine h _ ⟨I.ok,I.os,I.bare,⟨fun b o e n hb hx=>?_,fun b o e n hb hx=>?_,I.base.free,fun b o e hx=>?_,I.base.tups,I.base.frzs,I.base.tbls⟩,⟨_,hn',fun j y v' e1 e2 e3=>?_⟩,fun y c e=>?_,I.free,I.freeC,fun p hp=>?_,tracked ⟨oL,hoL,I.free⟩ hs,by simpa using I.len⟩ ⟨_,hs,.inl rfl⟩
  ·exact (hs.2 b (Nat.ne_of_lt (Nat.lt_of_lt_of_le (Heap.lt_size e) I.ok.above))).trans (I.base.keep b o e n hb hx)
  ·obtain ⟨sl,e1⟩:=I.base.slot b o e n hb hx
   exact ⟨sl,(hs.2 b (Nat.ne_of_lt (Nat.lt_of_lt_of_le (Heap.lt_size e) I.ok.above))).trans e1⟩
  ·obtain ⟨o',e1⟩:=I.base.there b o e hx
   exact ⟨o',(hs.2 b (Nat.ne_of_lt (Nat.lt_of_lt_of_le (Heap.lt_size e) I.ok.above))).trans e1⟩
  ·by_cases hj:j = i
   ·subst hj
    rw [hi] at e1; cases e1
    rw [List.getElem?_set_self hiσ] at e2
    cases e2
    exact ⟨u,r,.inl ⟨hk,by simp⟩⟩
   ·rw [List.getElem?_set_ne (Ne.symm hj)] at e2
    obtain ⟨u',r',q⟩:=hl j y v' e1 e2 e3
    refine ⟨u',r',?_⟩
    rcases q with ⟨k,e⟩ | ⟨k,c,e,z⟩
    ·refine .inl ⟨k,?_⟩
     have:y ≠ x:=fun e=>hj (nodup_ix hN e1 (e ▸ hi))
     simp [this,e]
    ·exact .inr ⟨k,c,e,z.sameBut hs (cne y c e)⟩
  ·obtain ⟨w',z⟩:=I.cell y c e
   exact ⟨w',z.sameBut hs (cne y c e)⟩
  ·obtain ⟨e,n,ne,nf,d⟩:=I.pin p hp
   exact ⟨(hs.2 p.1 ne).trans e,n,ne,nf,d⟩
 ·have hfn:X.fn x = true:=by
   rcases hf with z | z
   ·exact z
   ·rw [z] at hk; cases hk
  obtain ⟨c,hc⟩:=I.ok.has x (.inl hk)
  obtain ⟨w',z⟩:=I.cell x c hc
  refine wpAny_storeName_cell I.ok.kind hk hc z (fun h' hc' hs=>?_)
  obtain ⟨oc,hoc,hocd⟩:=id z
  refine h { s with heap:=h' } ⟨I.ok,I.os,I.bare,⟨fun b o e n hb hx=>?_,fun b o e n hb hx=>?_,I.base.free,fun b o e hx=>?_,I.base.tups,I.base.frzs,I.base.tbls⟩,⟨m,hn.sameBut hs (Ne.symm (cne x c hc)),fun j y v' e1 e2 e3=>?_⟩,fun y c' e=>?_,I.free,I.freeC,fun p hp=>?_,tracked ⟨oc,hoc,I.freeC x c hc⟩ hs,by simpa using I.len⟩ ⟨c,hs,.inr hc⟩
  ·exact (hs.2 b (Nat.ne_of_lt (Nat.lt_of_lt_of_le (Heap.lt_size e) (I.ok.cab x c hfn hc)))).trans (I.base.keep b o e n hb hx)
  ·obtain ⟨sl,e1⟩:=I.base.slot b o e n hb hx
   exact ⟨sl,(hs.2 b (Nat.ne_of_lt (Nat.lt_of_lt_of_le (Heap.lt_size e) (I.ok.cab x c hfn hc)))).trans e1⟩
  ·obtain ⟨o',e1⟩:=I.base.there b o e hx
   exact ⟨o',(hs.2 b (Nat.ne_of_lt (Nat.lt_of_lt_of_le (Heap.lt_size e) (I.ok.cab x c hfn hc)))).trans e1⟩
  ·by_cases hj:j = i
   ·subst hj
    rw [hi] at e1; cases e1
    rw [List.getElem?_set_self hiσ] at e2
    cases e2
    exact ⟨u,r,.inr ⟨.inl hk,c,hc,hc'⟩⟩
   ·rw [List.getElem?_set_ne (Ne.symm hj)] at e2
    obtain ⟨u',r',q⟩:=hl j y v' e1 e2 e3
    refine ⟨u',r',?_⟩
    rcases q with q | ⟨k,c',e,z'⟩
    ·exact .inl q
    ·refine .inr ⟨k,c',e,z'.sameBut hs ?_⟩
     rintro rfl
     exact hj (nodup_ix hN e1 (I.ok.inj _ _ _ e hc ▸ hi))
  ·by_cases hcc:c' = c
   ·subst hcc; exact ⟨_,hc'⟩
   ·obtain ⟨w2,z2⟩:=I.cell y c' e
    exact ⟨w2,z2.sameBut hs hcc⟩
  ·obtain ⟨e,n,ne,nf,d⟩:=I.pin p hp
   refine ⟨(hs.2 p.1 ?_).trans e,n,ne,nf,d⟩
   intro q
   rw [q,hoc] at e
   have q':oc = p.2:=Option.some.inj e
   exact d w' (by rw [← q']; exact hocd)
theorem store_ok {M:Model} {A:Around} {E:Value→Shared→Prop} {i:Nat} {x:Str} {v:V} {u:Value} {Q:Unit→Shared→Prop} (I:Inv X pins σ H s) (hN:X.N.Nodup) (hi:X.N[i]? = some x) (hx:Loc X.env.scope x) (r:RelV v u)
  (h:∀ s',Inv X pins (σ.set i (some v)) H s'→Q () s') (hf:X.fn x = true ∨ X.env.scope.names.lookup x = some .local:=by first | exact .inl rfl | exact .inr rfl | assumption):wpAny M A (storeName X.env x u) Q E s :=
 store_ok2 I hN hi hx r (fun s' I' _=>h s' I') hf
theorem Inv.call' {s':Shared} {ch:List Addr} (I:Inv X pins σ H s) (ho:s'.os = s.os) (u:Un (frs X.stack) ch H H' s.heap s'.heap) (hok:HOk X.prog X.w H' s'.heap) (hg:AllBare s'.gens)
  (hch:∀ b ∈ ch,(b ∈ X.ex ∨ X.s_0.heap.objs.size ≤ b)∧b ≠ X.env.locals∧(∀ x c,X.env.cells.lookup x = some c→c ≠ b)∧∀ p ∈ X.pn ++ pins,p.1 ≠ b):Inv X pins σ H' s':=by
 obtain ⟨h',g',d',t',o'⟩:=s'
 have e:o' = s.os:=ho
 subst e
 exact I.call (g':=g') (t':=t') (d':=d') u hok hg hch
end
abbrev XK:=Value→Option Addr→Hp→Prop
abbrev St:=List (Option V)
abbrev VK:=V→Hp→Prop
abbrev TE:=St→Hp→VK→Prop
abbrev TT:=St→Hp→(Bool→Hp→Prop)→Prop
abbrev TA:=St→Hp→(List V→Hp→Prop)→Prop
structure Ends where
 nx:St→Hp→Prop
 rt:VK
 bk:St→Hp→Prop:=fun _ _=>False
 ct:St→Hp→Prop:=fun _ _=>False
abbrev TS:=Ends→St→Hp→Prop
inductive EP (X:Cx) (pins:List (Addr × Obj)) (σ:St) (Q:VK) (u:Value) (s':Shared):Prop
 | mk (v:V) (H':Hp) (_:Inv X pins σ H' s') (_:RelV v u) (_:Q v H')
inductive TP (X:Cx) (pins:List (Addr × Obj)) (σ:St) (Q:Bool→Hp→Prop) (b:Bool) (s':Shared):Prop
 | mk (H':Hp) (_:Inv X pins σ H' s') (_:Q b H')
inductive AP (X:Cx) (pins:List (Addr × Obj)) (σ:St) (Q:List V→Hp→Prop) (us:List Value) (s':Shared):Prop
 | mk (vs:List V) (H':Hp) (_:Inv X pins σ H' s') (_:Vals vs us) (_:Q vs H')
inductive SN (X:Cx) (pins:List (Addr × Obj)) (F:St→Hp→Prop) (s':Shared):Prop
 | mk (σ':St) (H':Hp) (_:Inv X pins σ' H' s') (_:F σ' H')
inductive SR (X:Cx) (pins:List (Addr × Obj)) (F:VK) (u:Value) (s':Shared):Prop
 | mk (v:V) (σ':St) (H':Hp) (_:Inv X pins σ' H' s') (_:RelV v u) (_:F v H')
def SP (X:Cx) (pins:List (Addr × Obj)) (D:Ends) (f:Flow) (s':Shared):Prop :=
 match f with
 | .next=>SN X pins D.nx s'
 | .brk=>SN X pins D.bk s'
 | .cont=>SN X pins D.ct s'
 | .ret u=>SR X pins D.rt u s'
def PE (X:Cx) (e:Expr) (t:TE):Prop :=
 ∀ (pins:List (Addr × Obj)) (s:Shared) (σ:St) (H:Hp) (Q:VK),Inv X pins σ H s→t σ H Q→wpAny (model X.prog X.w) X.A (eval e X.env) (EP X pins σ Q) X.xe s
def PT (X:Cx) (e:Expr) (t:TT):Prop :=
 ∀ (pins:List (Addr × Obj)) (s:Shared) (σ:St) (H:Hp) (Q:Bool→Hp→Prop),Inv X pins σ H s→t σ H Q→wpAny (model X.prog X.w) X.A (isTrue e X.env (eval e X.env)) (TP X pins σ Q) X.xe s
def PW (X:Cx) (e:Expr) (t:TT):Prop :=
 ∀ (whole:Sem Value) (pins:List (Addr × Obj)) (s:Shared) (σ:St) (H:Hp) (Q:Bool→Hp→Prop),Inv X pins σ H s→t σ H Q→wpAny (model X.prog X.w) X.A (isTrue e X.env whole) (TP X pins σ Q) X.xe s
theorem PW.pt {X:Cx} {e:Expr} {t:TT} (h:PW X e t):PT X e t:=h _
def PA (X:Cx) (es:List Expr) (t:TA):Prop :=
 ∀ (pos:Pos) (pins:List (Addr × Obj)) (s:Shared) (σ:St) (H:Hp) (Q:List V→Hp→Prop),Inv X pins σ H s→t σ H Q→wpAny (model X.prog X.w) X.A (spliced (backTo pos (starEach es X.env))) (AP X pins σ Q) X.xe s
def PS (X:Cx) (st:Stmt) (t:TS):Prop :=
 ∀ (pins:List (Addr × Obj)) (s:Shared) (σ:St) (H:Hp) (D:Ends),Inv X pins σ H s→t D σ H→wpAny (model X.prog X.w) X.A (exec st X.env) (SP X pins D) X.xe s
def PSs (X:Cx) (st:List Stmt) (t:TS):Prop :=
 ∀ (pins:List (Addr × Obj)) (s:Shared) (σ:St) (H:Hp) (D:Ends),Inv X pins σ H s→t D σ H→wpAny (model X.prog X.w) X.A (execs st X.env) (SP X pins D) X.xe s
theorem thn {α:Type} {t:Sem α} {Q Q':α→Shared→Prop} {M:Model} {A:Around} {E:Value→Shared→Prop} {s:Shared} (h:wpAny M A t Q E s) (hQ:∀ a s,Q a s→Q' a s):wpAny M A t Q' E s:=wpAny_mono h hQ fun _ _ x=>x
section
variable {X:Cx}
inductive tVar (i:Nat) (σ:St) (H:Hp) (Q:VK):Prop
 | mk (v:V) (_:σ[i]? = some (some v)) (_:Q v H)
def tC (v:V):TE:=fun _ H Q=>Q v H
theorem pe_var {i:Nat} {x:Str} {pos:Pos} (hN:X.N[i]? = some x) (hv:Vis X.env.scope x) (hd:(x == ("__debug__":Str)) = false:=by decide) (hcd:(x == ("__classdict__":Str)) = false:=by decide):PE X (.Name x pos) (tVar i):=by
 intro pins s σ H Q I h
 obtain ⟨v,e,h⟩:=h
 obtain ⟨m,hn,hl⟩:=I.loc
 obtain ⟨u,r,l⟩:=hl i x v hN e hv
 have fin:EP X pins σ Q u s:=⟨v,H,I,r,h⟩
 rcases l with ⟨hk,hm⟩ | ⟨hk,c,hc,hcell⟩
 ·exact wpAny_Name (wpAny_loadName_local I.ok.kind hk hn hm fin) hd
 ·rcases hk with hk | hk
  ·exact wpAny_Name (wpAny_loadName_cell I.ok.kind hk hc hcell fin) hd
  ·exact wpAny_Name (wpAny_loadName_free I.ok.kind hk hc hcell fin hcd) hd
theorem pe_int {i j pos}:PE X (.Constant (.int i) j pos) (tC (.int i)):=fun _ _ _ H _ I h=>wpAny_Constant_int ⟨.int i,H,I.tok _,⟨_,rfl⟩,h⟩
theorem pe_bl {b j pos}:PE X (.Constant (.bool b) j pos) (tC (.bl b)):=fun _ _ _ H _ I h=>Constant_bool ⟨.bl b,H,I,rfl,h⟩
theorem pe_non {j pos}:PE X (.Constant .none j pos) (tC .non):=fun _ _ _ H _ I h=>Constant_none ⟨.non,H,I,rfl,h⟩
theorem pe_str {x j pos}:PE X (.Constant (.str x) j pos) (tC (.str x)):=fun _ _ _ H _ I h=>Calls.Constant_str ⟨.str x,H,I.tok _,⟨_,rfl⟩,h⟩
def Gl (X:Cx) (x:Str):Prop:=X.env.kindOf x = some .globalImplicit
theorem ld_glob {E:Value→Shared→Prop} {pins:List (Addr × Obj)} {s:Shared} {σ:St} {H:Hp} {x:Str} {u:Value} {pos:Pos} {Q:Value→Shared→Prop} (I:Inv X pins σ H s) (hg:Gl X x) (hm:X.mg x = some u) (h:Q u s)
  (hd:(x == ("__debug__":Str)) = false:=by decide):wpAny (model X.prog X.w) X.A (eval (.Name x pos) X.env) Q E s :=
 Calls.Name_function_global I.ok.kind hg (Calls.loadGlobal_global (by rw [I.ok.glob]; exact I.mod.glob.keeps I.bk) hm h) hd
theorem ld_blt {E:Value→Shared→Prop} {pins:List (Addr × Obj)} {s:Shared} {σ:St} {H:Hp} {x:Str} {u:Value} {pos:Pos} {Q:Value→Shared→Prop} (I:Inv X pins σ H s) (hg:Gl X x) (hm:X.mg x = none) (hv:bootBuiltins x = some u) (h:Q u s)
  (hn:x ≠ "__name__":=by decide) (hd:(x == ("__debug__":Str)) = false:=by decide):wpAny (model X.prog X.w) X.A (eval (.Name x pos) X.env) Q E s:=by
 obtain ⟨mb,h1,h2⟩:=I.mod.blt
 exact Calls.Name_function_global I.ok.kind hg (Calls.loadGlobal_builtin (by rw [I.ok.glob]; exact I.mod.glob.keeps I.bk) hm (by rw [I.ok.blt]; exact h1.keeps I.bk) ((h2 x hn).trans hv) h) hd
theorem pe_glob {x:Str} {v:V} {u:Value} {pos:Pos} (hg:Gl X x) (hm:X.mg x = some u) (r:RelV v u) (hd:(x == ("__debug__":Str)) = false:=by decide):PE X (.Name x pos) (tC v) :=
 fun _ _ _ H _ I h=>ld_glob I hg hm ⟨v,H,I,r,h⟩ hd
variable {a b:Expr} {ta tb:TE} {pos:Pos}
def PC (X:Cx) (op:CmpOp) (a b:Expr) (t:TE):Prop :=
 ∀ (pins:List (Addr × Obj)) (s:Shared) (σ:St) (H:Hp) (Q:VK),Inv X pins σ H s→t σ H Q →
  wpAny (model X.prog X.w) X.A (eval a X.env) (fun v s₁=>wpAny (model X.prog X.w) X.A (eval b X.env) (fun u s₂=>wpAny (model X.prog X.w) X.A (compareOp op v u) (EP X pins σ Q) X.xe s₂) X.xe s₁) X.xe s
theorem nobehind (b:Expr) {op:CmpOp} (h:op ≠ .In) (h2:op ≠ .NotIn):behindInMarks op b = false:=by
 have e1:(op == CmpOp.In) = false:=by cases op <;> first | rfl | exact absurd rfl h
 have e2:(op == CmpOp.NotIn) = false:=by cases op <;> first | rfl | exact absurd rfl h2
 cases b <;> simp [behindInMarks,e1,e2]
def tIsN (ta:TE):TE:=fun σ H Q=>ta σ H fun x H1=>Q (.bl (decide (x = .non))) H1
def tNotN (ta:TE):TE:=fun σ H Q=>ta σ H fun x H1=>Q (.bl (!decide (x = .non))) H1
theorem RelV.none_iff {x:V} {v:Value} (r:RelV x v):(v == Value.none) = decide (x = .non):=by
 cases x with
 | non=>cases r; rfl
 | bl _=>cases r; rfl
 | int _=>obtain ⟨t,rfl⟩:=r; rfl
 | str _=>obtain ⟨t,rfl⟩:=r; rfl
 | byt _=>obtain ⟨t,rfl⟩:=r; rfl
 | flt _=>obtain ⟨t,rfl⟩:=r; rfl
 | ref _=>cases r; rfl
 | ty _=>cases r; rfl
theorem pc_isN {j pos'} (ha:PE X a ta):PC X .Is a (.Constant .none j pos') (tIsN ta):=by
 intro pins s σ H Q I h
 refine thn (ha pins s σ H _ I h) fun v s1 ⟨x,H1,I1,r1,q1⟩=>?_
 exact Constant_none (is_none_gen ⟨.bl _,H1,I1,by rw [r1.none_iff]; rfl,q1⟩)
theorem pc_notN {j pos'} (ha:PE X a ta):PC X .IsNot a (.Constant .none j pos') (tNotN ta):=by
 intro pins s σ H Q I h
 refine thn (ha pins s σ H _ I h) fun v s1 ⟨x,H1,I1,r1,q1⟩=>?_
 exact Constant_none (isnot_none_gen ⟨.bl _,H1,I1,by rw [r1.none_iff]; rfl,q1⟩)
inductive IsB (Q:Bool→Prop) (x:V):Prop
 | mk (c:Bool) (_:x = .bl c) (_:Q c)
def tB (t:TE):TT:=fun σ H Q=>t σ H fun x H1=>IsB (fun c=>Q c H1) x
theorem pe_cmp {op:CmpOp} {t:TE} (h:PC X op a b t) (h1:behindInMarks op b = false:=by first | exact nobehind _ (by decide) (by decide) | rfl):PE X (.Compare a [op] [b] pos) t:=fun pins s σ H Q I hw=>wpAny_Compare1 (h pins s σ H Q I hw) h1
theorem pt_cmp {op:CmpOp} {t:TE} (h:PC X op a b t) (h1:behindInMarks op b = false:=by first | exact nobehind _ (by decide) (by decide) | rfl):PT X (.Compare a [op] [b] pos) (tB t):=by
 intro pins s σ H Q I hw
 refine wpAny_isTrue_Compare1 (thn (h pins s σ H _ I hw) fun v s1 h1=>thn h1 fun u s2 h2=>thn h2 fun c s3 ⟨x,H1,I1,r1,q1⟩=>?_) h1
 obtain ⟨d,rfl,q⟩:=q1
 cases r1
 exact wpAny_truthy_bool ⟨H1,I1,q⟩
theorem pt_val {e:Expr} {t:TE} (h:PE X e t) (he:∀ whole,isTrue e X.env whole = (do let v ← whole; standAt e.pos; holding [v] (truthy v)):=by intro _; rfl):PT X e (tB t):=by
 intro pins s σ H Q I hw
 refine isTrue_plain (thn (h pins s σ H _ I hw) fun v s1 ⟨x,H1,I1,r1,q1⟩=>?_) (he _)
 obtain ⟨d,rfl,q⟩:=q1
 cases r1
 exact wpAny_truthy_bool ⟨H1,I1,q⟩
variable {tA tB':TT} {rest:List Expr}
def tAnd (t u:TT):TT:=fun σ H Q=>t σ H fun c H1=>if c = true then u σ H1 Q else Q false H1
def tOr (t u:TT):TT:=fun σ H Q=>t σ H fun c H1=>if c = true then Q true H1 else u σ H1 Q
def tNot (t:TT):TT:=fun σ H Q=>t σ H fun c H1=>Q (!c) H1
theorem pw_and1 (ha:PT X a tA):PW X (.BoolOp .And [a] pos) tA:=by
 intro wh pins s σ H Q I h
 refine isTrue_and (thn (ha pins s σ H Q I h) fun c s1 e=>?_)
 cases c with
 | true=>exact isTrue_and_nil e
 | false=>exact e
theorem pw_or1 (ha:PT X a tA):PW X (.BoolOp .Or [a] pos) tA:=by
 intro wh pins s σ H Q I h
 refine isTrue_or (thn (ha pins s σ H Q I h) fun c s1 e=>?_)
 cases c with
 | false=>exact isTrue_or_nil e
 | true=>exact e
theorem pw_and (ha:PT X a tA) (hb:PW X (.BoolOp .And (b :: rest) pos) tB'):PW X (.BoolOp .And (a :: b :: rest) pos) (tAnd tA tB'):=by
 intro wh pins s σ H Q I h
 refine isTrue_and (thn (ha pins s σ H _ I h) fun c s1 ⟨H1,I1,q1⟩=>?_)
 cases c with
 | true=>exact hb wh pins s1 σ H1 Q I1 q1
 | false=>exact ⟨H1,I1,q1⟩
theorem pw_or (ha:PT X a tA) (hb:PW X (.BoolOp .Or (b :: rest) pos) tB'):PW X (.BoolOp .Or (a :: b :: rest) pos) (tOr tA tB'):=by
 intro wh pins s σ H Q I h
 refine isTrue_or (thn (ha pins s σ H _ I h) fun c s1 ⟨H1,I1,q1⟩=>?_)
 cases c with
 | true=>exact ⟨H1,I1,q1⟩
 | false=>exact hb wh pins s1 σ H1 Q I1 q1
theorem pt_not (ha:PT X a tA):PT X (.UnaryOp .Not a pos) (tNot tA):=by
 intro pins s σ H Q I h
 exact isTrue_not (thn (ha pins s σ H (fun c H1=>Q (!c) H1) I h) fun c s1 ⟨H1,I1,q1⟩=>⟨H1,I1,q1⟩)
def tAndV (ta tb:TE):TE:=fun σ H Q=>ta σ H fun x H1=>IsB (fun c=>if c = true then tb σ H1 Q else Q (.bl false) H1) x
def tOrV (ta tb:TE):TE:=fun σ H Q=>ta σ H fun x H1=>IsB (fun c=>if c = true then Q (.bl true) H1 else tb σ H1 Q) x
def tNotV (ta:TE):TE:=fun σ H Q=>ta σ H fun x H1=>IsB (fun c=>Q (.bl (!c)) H1) x
theorem pe_one {op} {t:TE} (h:PE X a t):PE X (.BoolOp op [a] pos) t:=fun pins s σ H Q I hw=>BoolOp_one (h pins s σ H Q I hw)
theorem pe_and (ha:PE X a ta) (hb:PE X (.BoolOp .And (b :: rest) pos) tb):PE X (.BoolOp .And (a :: b :: rest) pos) (tAndV ta tb):=by
 intro pins s σ H Q I h
 refine BoolOp_and (thn (ha pins s σ H _ I h) fun v s1 ⟨x,H1,I1,r1,q1⟩=>?_)
 obtain ⟨c,rfl,q1⟩:=q1
 cases r1
 refine wpAny_truthy_bool ?_
 cases c with
 | true=>exact hb pins s1 σ H1 Q I1 q1
 | false=>exact ⟨.bl false,H1,I1,rfl,q1⟩
theorem pe_or (ha:PE X a ta) (hb:PE X (.BoolOp .Or (b :: rest) pos) tb):PE X (.BoolOp .Or (a :: b :: rest) pos) (tOrV ta tb):=by
 intro pins s σ H Q I h
 refine BoolOp_or (thn (ha pins s σ H _ I h) fun v s1 ⟨x,H1,I1,r1,q1⟩=>?_)
 obtain ⟨c,rfl,q1⟩:=q1
 cases r1
 refine wpAny_truthy_bool ?_
 cases c with
 | false=>exact hb pins s1 σ H1 Q I1 q1
 | true=>exact ⟨.bl true,H1,I1,rfl,q1⟩
theorem pe_not (ha:PE X a ta):PE X (.UnaryOp .Not a pos) (tNotV ta):=by
 intro pins s σ H Q I h
 refine UnaryOp_ (thn (ha pins s σ H _ I h) fun v s1 ⟨x,H1,I1,r1,q1⟩=>?_)
 obtain ⟨c,rfl,q1⟩:=q1
 cases r1
 exact not_of (wpAny_truthy_bool ⟨.bl (!c),H1,I1,rfl,q1⟩)
def tIf (t:TT) (ta tb:TE):TE:=fun σ H Q=>t σ H fun c H1=>if c = true then ta σ H1 Q else tb σ H1 Q
theorem pe_ifExp {c:Expr} (hc:PT X c tA) (ha:PE X a ta) (hb:PE X b tb):PE X (.IfExp c a b pos) (tIf tA ta tb):=by
 intro pins s σ H Q I h
 refine wpAny_IfExp (thn (hc pins s σ H _ I h) fun d s1 ⟨H1,I1,q1⟩=>?_)
 cases d with
 | true=>exact ha pins s1 σ H1 Q I1 q1
 | false=>exact hb pins s1 σ H1 Q I1 q1
end
def SqL (K:PySem.W.Frag) (H:Hp) (a:Addr) (xs:List V):Prop :=
 Rd H a (.lst xs) ∨
  ∃ (o:Obj) (its:Array Value) (n:Nat),K.lookup a = some o∧o.cls = .type "list"∧o.dict = none∧o.data = .seq its n∧its.size ≤ sizeLine∧Vals xs its.toList
def SqT (K:PySem.W.Frag) (H:Hp) (a:Addr) (xs:List V):Prop :=
 Rd H a (.tup xs) ∨
  ∃ (o:Obj) (its:Array Value) (n:Nat),K.lookup a = some o∧o.cls = .type "tuple"∧o.data = .seq its n∧its.size ≤ sizeLine∧Vals xs its.toList
def absV:Value→Option V
 | .none=>some .non
 | .bool b=>some (.bl b)
 | .int i _=>some (.int i)
 | .str x _=>some (.str x)
 | .bytes b _=>some (.byt b)
 | .float b _=>some (.flt b)
 | .ref a=>some (.ref a)
 | .type n=>some (.ty n)
 | _=>none
theorem RelV.abs {x:V} {u:Value} (r:RelV x u):absV u = some x:=by
 cases x with
 | non=>cases r; rfl
 | bl _=>cases r; rfl
 | int _=>obtain ⟨t,rfl⟩:=r; rfl
 | str _=>obtain ⟨t,rfl⟩:=r; rfl
 | byt _=>obtain ⟨t,rfl⟩:=r; rfl
 | flt _=>obtain ⟨t,rfl⟩:=r; rfl
 | ref _=>cases r; rfl
 | ty _=>cases r; rfl
theorem RelV.inj {x y:V} {u:Value} (r:RelV x u) (q:RelV y u):x = y:=Option.some.inj (r.abs.symm.trans q.abs)
theorem Vals.inj:∀ {xs ys:List V} {us:List Value},Vals xs us→Vals ys us→xs = ys
 | _,_,_,.nil,.nil=>rfl
 | _,_,_,.cons r t,.cons r' t'=>by rw [r.inj r',Vals.inj t t']
section
variable {X:Cx} {pins:List (Addr × Obj)} {σ:St} {H:Hp} {s:Shared} {a:Addr} {xs ys:List V}
theorem SqL.of {K:PySem.W.Frag} (h:H a = some (.lst xs)):SqL K H a xs:=.inl (.inl h)
theorem SqT.of {K:PySem.W.Frag} (h:H a = some (.tup xs)):SqT K H a xs:=.inl (.inl h)
theorem Inv.list (I:Inv X pins σ H s) (h:SqL X.K H a xs):∃ its:List Value,Vals xs its∧PlainL s.heap a its.toArray∧xs.length ≤ sizeLine:=by
 rcases h with h | ⟨o,its,n,hk,hc,hd,hs,hz,r⟩
 ·obtain ⟨z,its,n,r,e⟩:=h.ok I.hok
  exact ⟨its,r,⟨_,n,e,rfl,rfl,rfl⟩,z⟩
 ·refine ⟨its.toList,r,⟨o,n,I.kIn a o hk,hc,hd,by simpa using hs⟩,?_⟩
  have e:=r.length
  simp only [Array.length_toList] at e
  omega
theorem Inv.tuple (I:Inv X pins σ H s) (h:SqT X.K H a xs):∃ its:List Value,Vals xs its∧IsTup s.heap a its.toArray∧xs.length ≤ sizeLine:=by
 rcases h with h | ⟨o,its,n,hk,hc,hs,hz,r⟩
 ·obtain ⟨z,its,r,p⟩:=h.ok I.hok
  exact ⟨its,r,p,z⟩
 ·refine ⟨its.toList,r,⟨o,I.kIn a o hk,hc,n,by simpa using hs⟩,?_⟩
  have e:=r.length
  simp only [Array.length_toList] at e
  omega
theorem Inv.list_inj (I:Inv X pins σ H s) (h:SqL X.K H a xs) (h':SqL X.K H a ys):xs = ys:=by
 obtain ⟨its,r,⟨o,n,e,_,_,d⟩,_⟩:=I.list h
 obtain ⟨its',r',⟨o',n',e',_,_,d'⟩,_⟩:=I.list h'
 rw [e] at e'; cases e'
 rw [d] at d'
 injection d' with d1 _
 have:its = its':=by simpa using congrArg Array.toList d1
 subst this
 exact r.inj r'
end
section
variable {X:Cx} {st:Stmt} {rest:List Stmt} {t u:TS} {e:Expr} {te:TE} {pos:Pos}
def tNext:TS:=fun D σ H=>D.nx σ H
def tSeq (t u:TS):TS:=fun D σ H=>t { D with nx:=u D } σ H
theorem pss_nil:PSs X [] tNext:=fun _ _ σ H _ I h=>wpAny_execs_nil ⟨σ,H,I,h⟩
theorem pss_cons (h1:PS X st t) (h2:PSs X rest u):PSs X (st :: rest) (tSeq t u):=by
 intro pins s σ H D I h
 refine wpAny_execs_cons (thn (h1 pins s σ H { D with nx:=u D } I h) fun f s1 q=>?_)
 cases f with
 | next =>
  obtain ⟨σ',H',I',q⟩:=q
  exact h2 pins s1 σ' H' D I' q
 | ret v=>exact q
 | brk=>exact q
 | cont=>exact q
theorem pss_one (h1:PS X st t):PSs X [st] t:=by
 intro pins s σ H D I h
 refine wpAny_execs_cons (thn (h1 pins s σ H D I h) fun f s1 q=>?_)
 cases f with
 | next=>exact wpAny_execs_nil q
 | ret v=>exact q
 | brk=>exact q
 | cont=>exact q
theorem Inv.quiet {pins:List (Addr × Obj)} {σ:St} {H:Hp} {s:Shared} (I:Inv X pins σ H s):interactive X.env = false:=by simp [interactive,I.ok.kind]
def tDrop (te:TE):TS:=fun D σ H=>te σ H fun _ H1=>D.nx σ H1
theorem ps_expr (he:PE X e te) (hs:swapsWith e none pos.line X.env = pure false:=by rfl):PS X (.Expr e pos) (tDrop te):=by
 intro pins s σ H D I h
 exact wpAny_Expr_any (thn (he pins s σ H _ I h) fun v s1 ⟨x,H1,I1,r1,q1⟩=>⟨σ,H1,I1,q1⟩) I.quiet hs
def tRet (te:TE):TS:=fun D σ H=>te σ H D.rt
theorem ps_ret (he:PE X e te):PS X (.Return (some e) pos) (tRet te):=by
 intro pins s σ H D I h
 exact wpAny_Return_some (thn (he pins s σ H _ I h) fun v s1 ⟨x,H1,I1,r1,q1⟩=>⟨x,σ,H1,I1,r1,q1⟩)
def tIfS (c:TT) (t u:TS):TS:=fun D σ H=>c σ H fun b H1=>if b = true then t D σ H1 else u D σ H1
theorem ps_if {c:Expr} {a b:List Stmt} {tc:TT} (hc:PT X c tc) (ha:PSs X a t) (hb:PSs X b u):PS X (.If c a b pos) (tIfS tc t u):=by
 intro pins s σ H D I h
 refine wpAny_If (thn (hc pins s σ H _ I h) fun d s1 ⟨H1,I1,q1⟩=>?_)
 cases d with
 | true=>exact ha pins s1 σ H1 D I1 q1
 | false=>exact hb pins s1 σ H1 D I1 q1
end
abbrev TG:=V→St→Hp→(St→Hp→Prop)→Prop
abbrev TGs:=List V→St→Hp→(St→Hp→Prop)→Prop
def PG (X:Cx) (target:Expr) (t:TG):Prop :=
 ∀ (pins:List (Addr × Obj)) (s:Shared) (σ:St) (H:Hp) (v:V) (u:Value) (Q:St→Hp→Prop),Inv X pins σ H s→RelV v u→t v σ H Q →
  wpAny (model X.prog X.w) X.A (assign target X.env u) (fun _ s'=>∃ σ' H',Inv X pins σ' H' s'∧Q σ' H') X.xe s
def PGs (X:Cx) (ts:List Expr) (t:TGs):Prop :=
 ∀ (pins:List (Addr × Obj)) (s:Shared) (σ:St) (H:Hp) (vs:List V) (us:List Value) (Q:St→Hp→Prop),Inv X pins σ H s→Vals vs us→t vs σ H Q →
  wpAny (model X.prog X.w) X.A (assignInOrder ((assignEach ts X.env).map (·.2)) us) (fun _ s'=>∃ σ' H',Inv X pins σ' H' s'∧Q σ' H') X.xe s
abbrev TIp:=V→V→Hp→VK→Prop
def PIp (X:Cx) (op:Operator) (t:TIp):Prop :=
 ∀ (pins:List (Addr × Obj)) (s:Shared) (σ:St) (H:Hp) (x y:V) (v u:Value) (Q:VK),Inv X pins σ H s→RelV x v→RelV y u→t x y H Q →
  wpAny (model X.prog X.w) X.A (inplaceOp op v u) (EP X pins σ Q) X.xe s
section
variable {X:Cx} {pos:Pos}
def gName (i:Nat):TG:=fun v σ H Q=>Q (σ.set i (some v)) H
theorem pg_name {i:Nat} {x:Str} (hN:X.N.Nodup) (hi:X.N[i]? = some x) (hx:Loc X.env.scope x) (hf:X.fn x = true ∨ X.env.scope.names.lookup x = some .local:=by first | exact .inl rfl | exact .inr rfl | assumption):PG X (.Name x pos) (gName i):=by
 intro pins s σ H v u Q I r h
 exact wpAny_assign_Name (store_ok I hN hi hx r (fun s' I'=>⟨_,H,I',h⟩) hf)
def gNil:TGs:=fun vs σ H Q=>vs = []∧Q σ H
def gCons (t:TG) (u:TGs):TGs:=fun vs σ H Q=>∃ v r,vs = v :: r∧t v σ H fun σ' H'=>u r σ' H' Q
theorem pgs_nil:PGs X [] gNil:=by
 intro pins s σ H vs us Q I r h
 obtain ⟨e,h⟩:=h
 subst e
 cases r
 exact assignInOrder_nil ⟨σ,H,I,h⟩
theorem pgs_cons {e:Expr} {es:List Expr} {t:TG} {u:TGs} (h1:PG X e t) (h2:PGs X es u)
  (hs:(assignEach (e :: es) X.env).map (·.2) = assign e X.env :: (assignEach es X.env).map (·.2):=by rfl):PGs X (e :: es) (gCons t u):=by
 intro pins s σ H vs us Q I r h
 obtain ⟨v,vr,e1,h⟩:=h
 subst e1
 cases r with
 | cons r rr =>
  rw [hs]
  refine assignInOrder_cons (thn (h1 pins s σ H _ _ _ I r h) fun _ s1 ⟨σ1,H1,I1,q1⟩=>?_)
  exact h2 pins s1 σ1 H1 _ _ Q I1 rr q1
inductive gTup (K:PySem.W.Frag) (n:Nat) (t:TGs) (v:V) (σ:St) (H:Hp) (Q:St→Hp→Prop):Prop
 | mk (a:Addr) (xs:List V) (_:v = .ref a) (_:SqT K H a xs) (_:xs.length = n) (_:t xs σ H Q)
theorem pg_tup {es:List Expr} {k:Nat} {t:TGs} {n:Nat} (hc:X.calm = true) (h:PGs X es t)
  (hn:(assignEach es X.env).length = n:=by rfl) (hst:(assignEach es X.env).findIdx? (·.1) = none:=by rfl):PG X (.Tuple es k pos) (gTup X.K n t):=by
 intro pins s σ H v u Q I r hw
 obtain ⟨a,xs,e1,hq,hl,hw⟩:=hw
 subst e1
 cases r
 obtain ⟨its,rv,ht,hz⟩:=I.tuple hq
 refine assign_Tuple_tuple (I.ok.hd hc) ht (by simp [hn,← hl,rv.length]) hst fun h' hx=>?_
 have I1:Inv X pins σ H { s with heap:=h' }:=I.kept (t':=s.toks) fun b o e=>hx b o (Nat.ne_of_lt (Heap.lt_size e)) e
 exact h pins _ σ H xs _ Q I1 (by simpa using rv) hw
def tAsg (te:TE) (g:TG):TS:=fun D σ H=>te σ H fun x H1=>g x σ H1 D.nx
theorem ps_set {i:Nat} {x:Str} {e:Expr} {te:TE} {pos':Pos} (hN:X.N.Nodup) (hi:X.N[i]? = some x) (hx:Loc X.env.scope x) (he:PE X e te) (hs:swapsWith e (some (.Name x pos')) pos.line X.env = pure false:=by rfl) (hf:X.fn x = true ∨ X.env.scope.names.lookup x = some .local:=by first | exact .inl rfl | exact .inr rfl | assumption) :
  PS X (.Assign [.Name x pos'] e pos) (tAsg te (gName i)):=by
 intro pins s σ H D I h
 refine wpAny_Assign_Name (thn (he pins s σ H _ I h) fun v s1 ⟨y,H1,I1,r1,q1⟩=>?_) hs
 exact store_ok I1 hN hi hx r1 (fun s2 I2=>⟨_,H1,I2,q1⟩) hf
def tAug (i:Nat) (te:TE) (ti:TIp):TS:=fun D σ H=>∃ x,σ[i]? = some (some x)∧te σ H fun y H1=>ti x y H1 fun z H2=>D.nx (σ.set i (some z)) H2
theorem ps_aug {i:Nat} {x:Str} {e:Expr} {te:TE} {op:Operator} {ti:TIp} {pos':Pos} (hN:X.N.Nodup) (hi:X.N[i]? = some x) (hx:Loc X.env.scope x) (he:PE X e te) (ho:PIp X op ti) (hf:X.fn x = true ∨ X.env.scope.names.lookup x = some .local:=by first | exact .inl rfl | exact .inr rfl | assumption) :
  PS X (.AugAssign (.Name x pos') op e pos) (tAug i te ti):=by
 intro pins s σ H D I h
 obtain ⟨v,e1,h⟩:=h
 obtain ⟨m,hn,hl⟩:=I.loc
 have vis:Vis X.env.scope x:=by rcases hx with k | k; exact .inl k; exact .inr (.inl k)
 obtain ⟨u,r,l⟩:=hl i x v hi e1 vis
 refine wpAny_AugAssign_Name ?_
 have go:wpAny (model X.prog X.w) X.A (eval e X.env) (fun w s₂=>wpAny (model X.prog X.w) X.A (inplaceOp op u w) (fun r s₃=>wpAny (model X.prog X.w) X.A (storeName X.env x r) (fun _=>SP X pins D .next) X.xe s₃) X.xe s₂) X.xe s:=by
  refine thn (he pins s σ H _ I h) fun w s1 ⟨y,H1,I1,r1,q1⟩=>?_
  refine thn (ho pins s1 σ H1 v y u w _ I1 r r1 q1) fun z s2 ⟨zv,H2,I2,r2,q2⟩=>?_
  exact store_ok I2 hN hi hx r2 (fun s3 I3=>⟨_,H2,I3,q2⟩) hf
 rcases l with ⟨hk,hm⟩ | ⟨hk,c,hc,hcell⟩
 ·exact wpAny_loadName_local I.ok.kind hk hn hm go
 ·rcases hk with hk | hk
  ·exact wpAny_loadName_cell I.ok.kind hk hc hcell go
  ·rcases hx with k | k
   ·have:X.env.scope.names.lookup x = some .free:=hk
    rw [k] at this; cases this
   ·have:X.env.scope.names.lookup x = some .free:=hk
    rw [k] at this; cases this
def ipI (f:Int→Int→Int):TIp:=fun x y H Q=>∃ i j,x = .int i∧y = .int j∧Q (.int (f i j)) H
theorem ip_add:PIp X .Add (ipI fun i j=>i + j):=by
 intro pins s σ H x y v u Q I r1 r2 h
 obtain ⟨i,j,e1,e2,q⟩:=h
 subst e1; subst e2
 obtain ⟨t,rfl⟩:=r1
 obtain ⟨t',rfl⟩:=r2
 exact iadd_int ⟨.int _,H,I.tok _,⟨_,rfl⟩,q⟩
theorem ip_sub:PIp X .Sub (ipI fun i j=>i - j):=by
 intro pins s σ H x y v u Q I r1 r2 h
 obtain ⟨i,j,e1,e2,q⟩:=h
 subst e1; subst e2
 obtain ⟨t,rfl⟩:=r1
 obtain ⟨t',rfl⟩:=r2
 exact isub_int ⟨.int _,H,I.tok _,⟨_,rfl⟩,q⟩
end
section
variable {X:Cx} {pos:Pos}
def tWhile (c:TT) (tb:TS):TS:=fun D σ H=>∃ W:Nat→St→Hp→Prop,(∃ m,W m σ H)∧∀ m σ H,W m σ H →
 c σ H fun b H1=>if b = true then ∃ N:St→Hp→Prop,(∀ σ' H',N σ' H'→∃ m',m' < m∧W m' σ' H')∧tb { D with nx:=N,ct:=N,bk:=D.nx } σ H1 else D.nx σ H1
theorem ps_while {c:Expr} {body:List Stmt} {tc:TT} {tb:TS} (hp:PassesOwn (model X.prog X.w) X.A X.env X.xe) (hc:PT X c tc) (hb:PSs X body tb):PS X (.While c body [] pos) (tWhile tc tb):=by
 intro pins s σ H D I h
 obtain ⟨W,⟨m0,w0⟩,turn⟩:=h
 refine wpAny_While (codeAny_whileLoop (fun n s'=>∃ σ' H',Inv X pins σ' H' s'∧W n σ' H') ?_ m0 ⟨σ,H,I,w0⟩)
 rintro n s1 ⟨σ1,H1,I1,w1⟩
 refine wpAny_passesOwn hp (thn (hc pins s1 σ1 H1 _ I1 (turn n σ1 H1 w1)) fun b s2 ⟨H2,I2,q2⟩=>?_)
 cases b with
 | true =>
  obtain ⟨N,hN,q2⟩:=q2
  rw [if_pos rfl]
  refine wpAny_passesOwn hp (thn (hb pins s2 σ1 H2 _ I2 q2) fun f s3 q3=>?_)
  cases f with
  | next =>
   obtain ⟨σ3,H3,I3,n3⟩:=q3
   obtain ⟨m',hm,w3⟩:=hN σ3 H3 n3
   exact ⟨m',hm,σ3,H3,I3,w3⟩
  | cont =>
   obtain ⟨σ3,H3,I3,n3⟩:=q3
   obtain ⟨m',hm,w3⟩:=hN σ3 H3 n3
   exact ⟨m',hm,σ3,H3,I3,w3⟩
  | brk=>exact q3
  | ret v=>exact q3
 | false =>
  rw [if_neg Bool.false_ne_true]
  exact wpAny_execs_nil ⟨σ1,H2,I2,q2⟩
end
structure It where
 go:Nat→Hp→Prop
 yld:Nat→Hp→V→Hp→Prop
 stop:Nat→Hp→Prop
def FpOk (X:Cx) (pins:List (Addr × Obj)) (H:Hp) (b:Addr):Prop :=
 H b = none∧b ≠ X.env.locals∧b ∉ X.fs∧(b ∈ X.ex ∨ X.s_0.heap.objs.size ≤ b)∧(∀ x c,X.env.cells.lookup x = some c→c ≠ b)∧∀ p ∈ X.pn ++ pins,p.1 ≠ b
theorem Inv.fpOk {X:Cx} {pins:List (Addr × Obj)} {σ:St} {H H':Hp} {s:Shared} {b:Addr} (I:Inv X pins σ H s) (hb:s.heap.objs.size ≤ b) (hn:H' b = none):FpOk X pins H' b:=by
 refine ⟨hn,Nat.ne_of_gt (Nat.lt_of_lt_of_le I.lt hb),I.nofs hb,.inr (Nat.le_trans I.sz hb),fun x c e z=>?_,fun p hp z=>?_⟩
 ·obtain ⟨v,q⟩:=I.cell x c e
  exact absurd (Nat.lt_of_lt_of_le q.lt (by rw [z]; exact hb)) (Nat.lt_irrefl _)
 ·exact absurd (Nat.lt_of_lt_of_le (Heap.lt_size (I.pin p hp).1) (by rw [z]; exact hb)) (Nat.lt_irrefl _)
structure Turn (P:Program) (w:World) (K:PySem.W.Frag) (tg:Expr) (J:It) (fp:List Addr) (it:Addr) (tn:Nat→Heap→Prop):Prop where
 mem:it ∈ fp
 obj:∀ i h,tn i h→∀ b ∈ fp,∃ o,h.get? b = some o∧∀ v,o.data ≠ .cell v
 keep:∀ i h h',tn i h→(∀ b ∈ fp,∀ o,h.get? b = some o→h'.get? b = some o)→tn i h'
 item:∀ (X:Cx),X.prog = P→X.w = w→X.K = K→X.calm = true→∀ (i:Nat) (pins:List (Addr × Obj)) (s:Shared) (σ:St) (H:Hp) (E:Value→Shared→Prop),Inv X pins σ H s→(∀ b ∈ fp,FpOk X pins H b)→tn i s.heap→J.go i H →
  wpAny (model P w) X.A (pyNext (.ref it)) (fun r s1=>∃ u,r = some u ∧
   wpAny (model P w) X.A (letOwnedTupleGo tg (.ref it) u) (fun _ s2=>∃ x H',Inv X pins σ H' s2∧RelV x u∧J.yld i H x H'∧tn (i + 1) s2.heap∧∀ b ∈ fp,H' b = none) E s1) E s
 done:∀ (X:Cx),X.prog = P→X.w = w→X.K = K→X.calm = true→∀ (i:Nat) (pins:List (Addr × Obj)) (s:Shared) (σ:St) (H:Hp) (E:Value→Shared→Prop),Inv X pins σ H s→(∀ b ∈ fp,FpOk X pins H b)→tn i s.heap→J.stop i H →
  wpAny (model P w) X.A (pyNext (.ref it)) (fun r s1=>r = none∧Inv X pins σ H s1) E s
 self:∀ (A:Around) (i:Nat) (s:Shared) (Q:Value→Shared→Prop) (E:Value→Shared→Prop),tn i s.heap→Q (.ref it) s→wpAny (model P w) A (pyIter (.ref it)) Q E s
abbrev TI:=St→Hp→(It→Hp→Prop)→Prop
inductive PIE (X:Cx) (pins:List (Addr × Obj)) (σ:St) (tg:Expr) (R:It→Hp→Prop) (itv:Value) (s2:Shared):Prop
 | mk (it:Addr) (fp:List Addr) (tn:Nat→Heap→Prop) (J:It) (H':Hp) (_:itv = .ref it) (_:Inv X pins σ H' s2) (_:Turn X.prog X.w X.K tg J fp it tn) (_:tn 0 s2.heap) (_:∀ b ∈ fp,FpOk X pins H' b) (_:R J H')
def PI (X:Cx) (tg iter:Expr) (wi:TI):Prop :=
 ∀ (pins:List (Addr × Obj)) (s:Shared) (σ:St) (H:Hp) (R:It→Hp→Prop),Inv X pins σ H s→wi σ H R →
  wpAny (model X.prog X.w) X.A (eval iter X.env) (fun v s1=>wpAny (model X.prog X.w) X.A (pyIter v) (PIE X pins σ tg R) X.xe s1) X.xe s
theorem go_of {M:Model} {A:Around} {E:Value→Shared→Prop} {s:Shared} {tg:Expr} {it:Addr} {u:Value} {o:Obj} {n:String} {vs:Array Value} {Q:Unit→Shared→Prop} (ho:s.heap.get? it = some o) (hc:o.cls = .type n) (hd:o.data = .fields vs)
  (hn:["enumerate","zip","dict_itemiterator","dict_reverseitemiterator","odict_iterator","itertools.zip_longest","itertools.pairwise"].contains n = false) (hQ:Q () s):wpAny M A (letOwnedTupleGo tg (.ref it) u) Q E s:=by
 unfold letOwnedTupleGo
 cases tg <;> first
  | exact wpAny_pure hQ
  | (cases u <;> first
    | exact wpAny_pure hQ
    | (refine wpAny_bind (wpAny_load ho ?_)
       rw [hc,hd]
       show wpAny M A (if (["enumerate","zip","dict_itemiterator","dict_reverseitemiterator","odict_iterator","itertools.zip_longest","itertools.pairwise"].contains n && vs[0]? == some (rawInt _)) = true then _ else _) Q E s
       rw [if_neg (by intro h; rw [hn,Bool.false_and] at h; cases h)]
       exact wpAny_pure hQ))
def Itl (K:PySem.W.Frag) (a:Addr):It :=
 ⟨fun i H=>∃ xs x,SqL K H a xs∧xs[i]? = some x,fun i H x H'=>H' = H∧∀ xs,SqL K H a xs→xs[i]? = some x,fun i H=>∃ xs,SqL K H a xs∧xs.length ≤ i⟩
theorem turn_list {P:Program} {w:World} {K:PySem.W.Frag} {tg:Expr} (a it:Addr):Turn P w K tg (Itl K a) [it] it (fun i h=>h.IsListIter it a i) where
 mem:=by simp
 obj:=fun i h st b hb=>by
  have e:b = it:=by simpa using hb
  subst e
  obtain ⟨o,e,c,d⟩:=st
  exact ⟨o,e,fun v z=>by rw [d] at z; cases z⟩
 keep:=fun i h h' st k=>st.at fun o e=>k it (by simp) o e
 item:=by
  intro X hP hw hK hc i pins s σ H E I hf st hg
  subst hP hw hK
  obtain ⟨xs,x,hq,hx⟩:=hg
  obtain ⟨its,rv,p,hz⟩:=I.list hq
  obtain ⟨u,hu,ru⟩:=rv.get hx
  obtain ⟨f0,f1,f2,f3,f4,f5⟩:=hf it (by simp)
  refine wpAny_pyNext_list_item st p.isList (x:=u) (by simpa using hu) fun h' st' sb=>?_
  have I1:Inv X pins σ H { s with heap:=h' }:=I.turned (t':=s.toks) (fun b o hb e=>(sb.2 b hb).trans e) f0 f1 f3 f4 f5
  obtain ⟨o,e,c,d⟩:=id st'
  exact ⟨u,rfl,go_of (s:={ s with heap:=h' }) e c d (by decide) ⟨x,H,I1,ru,⟨rfl,fun ys hy=>by rw [I.list_inj hy hq]; exact hx⟩,st',fun b hb=>(hf b hb).1⟩⟩
 done:=by
  intro X hP hw hK hc i pins s σ H E I hf st hg
  subst hP hw hK
  obtain ⟨xs,hq,hx⟩:=hg
  obtain ⟨its,rv,p,hz⟩:=I.list hq
  obtain ⟨f0,f1,f2,f3,f4,f5⟩:=hf it (by simp)
  have hl:=rv.length
  exact wpAny_pyNext_list_end (I.ok.hd hc) st p.isList (by simp; omega) fun h' eb=>⟨rfl,I.turned (t':=s.toks) (fun b o hb e=>eb b o hb e) f0 f1 f3 f4 f5⟩
 self:=fun _ _ _ _ _ st h=>wpAny_pyIter_listiter st h
section
variable {X:Cx} {tg:Expr}
def iList (K:PySem.W.Frag) (tl:TE):TI:=fun σ H R=>tl σ H fun x H1=>∃ a,x = .ref a∧(∃ xs,SqL K H1 a xs)∧R (Itl K a) H1
theorem pi_list {l:Expr} {tl:TE} (hl:PE X l tl):PI X tg l (iList X.K tl):=by
 intro pins s σ H R I h
 refine thn (hl pins s σ H _ I h) fun v s1 ⟨x,H1,I1,r1,q1⟩=>?_
 obtain ⟨a,e,⟨xs,hq⟩,q⟩:=q1
 subst e
 cases r1
 obtain ⟨its,rv,p,hz⟩:=I1.list hq
 refine wpAny_pyIter_list p.isList ?_
 refine ⟨s1.heap.objs.size,[s1.heap.objs.size],_,_,H1,rfl,I1.kept (t':=s1.toks) fun b o e=>Heap.get?_push_of_some _ e,turn_list a _,⟨_,Heap.get?_push_size _ rfl,rfl,rfl⟩,fun b hb=>?_,q⟩
 have e:b = s1.heap.objs.size:=by simpa using hb
 subst e
 exact I1.fpOk (Nat.le_refl _) (I1.hok.fresh (Nat.le_refl _))
def tFor (wi:TI) (g:TG) (tb:TS):TS:=fun D σ H=>wi σ H fun J H1=>∃ W:Nat→Nat→St→Hp→Prop,(∃ m,W 0 m σ H1)∧∀ i m σ H,W i m σ H →
 (J.stop i H∧D.nx σ H) ∨ (J.go i H∧∃ N:St→Hp→Prop,(∀ σ' H',N σ' H'→∃ m',m' < m∧W (i + 1) m' σ' H')∧∀ x H',J.yld i H x H'→g x σ H' fun σ2 H2=>tb { D with nx:=N,ct:=N,bk:=D.nx } σ2 H2)
def pinsAt (fp:List Addr) (h:Heap):List (Addr × Obj):=fp.filterMap fun b=>(h.get? b).map fun o=>(b,o)
theorem mem_pinsAt {fp:List Addr} {h:Heap} {b:Addr} {o:Obj} (hb:b ∈ fp) (e:h.get? b = some o):(b,o) ∈ pinsAt fp h:=List.mem_filterMap.mpr ⟨b,hb,by rw [e]; rfl⟩
theorem of_pinsAt {fp:List Addr} {h:Heap} {p:Addr × Obj} (hp:p ∈ pinsAt fp h):p.1 ∈ fp∧h.get? p.1 = some p.2:=by
 obtain ⟨b,hb,e⟩:=List.mem_filterMap.mp hp
 cases q:h.get? b with
 | none=>rw [q] at e; cases e
 | some o =>
  rw [q] at e
  have e':(b,o) = p:=Option.some.inj e
  subst e'
  exact ⟨hb,q⟩
theorem Inv.pinned {pins:List (Addr × Obj)} {σ:St} {H:Hp} {s:Shared} {fp:List Addr} (I:Inv X pins σ H s) (hf:∀ b ∈ fp,FpOk X pins H b) (ho:∀ b ∈ fp,∃ o,s.heap.get? b = some o∧∀ v,o.data ≠ .cell v):Inv X (pins ++ pinsAt fp s.heap) σ H s :=
 I.pins_of fun p hp=>(List.mem_append.mp hp).elim (fun z=>I.pin p (List.mem_append_right _ z)) fun z=>by
  obtain ⟨hb,e⟩:=of_pinsAt z
  obtain ⟨f0,f1,f2,_⟩:=hf p.1 hb
  obtain ⟨o,e',d⟩:=ho p.1 hb
  rw [e] at e'; cases e'
  exact ⟨e,f0,f1,f2,d⟩
theorem Inv.unpinned {pins pl:List (Addr × Obj)} {σ:St} {H:Hp} {s:Shared} (I:Inv X (pins ++ pl) σ H s):Inv X pins σ H s:=I.pins_of fun p hp=>I.pin p (List.mem_append_right _ (List.mem_append_left _ hp))
theorem ps_for {iter:Expr} {body:List Stmt} {wi:TI} {g:TG} {tb:TS} {pos:Pos} (hp:PassesOwn (model X.prog X.w) X.A X.env X.xe) (hc:X.calm = true) (hi:PI X tg iter wi) (hg:PG X tg g) (hb:PSs X body tb)
  (hs:∀ x,foldedSetIterable iter X.env x = pure x:=by intro _; rfl):PS X (.For tg iter body [] pos) (tFor wi g tb):=by
 intro pins s σ H D I h
 refine wpAny_For (thn (hi pins s σ H _ I h) fun v s1 h1=>thn h1 fun itv s2 h2=>?_) hs
 obtain ⟨it,fp,tn,J,H2,e,I2,T,st2,f2,W,⟨m0,w0⟩,turn⟩:=h2
 subst e
 have stat:∀ {H':Hp},(∀ b ∈ fp,H' b = none)→∀ b ∈ fp,FpOk X pins H' b:=fun hn b hb=>⟨hn b hb,(f2 b hb).2⟩
 refine codeAny_forLoop_any (fun n s'=>∃ i σ' H',Inv X pins σ' H' s'∧tn i s'.heap∧(∀ b ∈ fp,H' b = none)∧W i n σ' H') ?_ m0 ⟨0,σ,H2,I2,st2,fun b hb=>(f2 b hb).1,w0⟩
 rintro n s3 ⟨i,σ3,H3,I3,st3,fr3,w3⟩
 rcases turn i n σ3 H3 w3 with ⟨stop,qn⟩ | ⟨go,N,hN,step⟩
 ·refine wpAny_passesOwn hp (thn (T.done X rfl rfl rfl hc i pins s3 σ3 H3 X.xe I3 (stat fr3) st3 stop) fun r s4 ⟨hr,I4⟩=>?_)
  subst hr
  exact wpAny_execs_nil ⟨σ3,H3,I4,qn⟩
 ·refine wpAny_passesOwn hp (thn (T.item X rfl rfl rfl hc i pins s3 σ3 H3 X.xe I3 (stat fr3) st3 go) fun r s4 ⟨u,hr,h4⟩=>?_)
  subst hr
  refine wpAny_passesOwn hp (thn h4 fun _ s5 ⟨x,H5,I5,r5,y5,st5,fr5⟩=>?_)
  have I5':=I5.pinned (stat fr5) (T.obj _ _ st5)
  refine wpAny_passesOwn hp (thn (hg _ s5 σ3 H5 x u _ I5' r5 (step x H5 y5)) fun _ s6 ⟨σ6,H6,I6,q6⟩=>?_)
  refine wpAny_passesOwn hp (thn (hb _ s6 σ6 H6 _ I6 q6) fun f s7 q7=>?_)
  have again:∀ {σ7:St} {H7:Hp},Inv X (pins ++ pinsAt fp s5.heap) σ7 H7 s7→N σ7 H7→∃ m,m < n∧∃ i σ' H',Inv X pins σ' H' s7∧tn i s7.heap∧(∀ b ∈ fp,H' b = none)∧W i m σ' H':=fun {σ7 H7} I7 n7=>by
   obtain ⟨m',hm,w7⟩:=hN σ7 H7 n7
   refine ⟨m',hm,i + 1,σ7,H7,I7.unpinned,T.keep _ _ _ st5 fun b hb o e=>(I7.pin (b,o) (List.mem_append_right _ (List.mem_append_right _ (mem_pinsAt hb e)))).1,fun b hb=>?_,w7⟩
   obtain ⟨o,e,d⟩:=T.obj _ _ st5 b hb
   exact (I7.pin (b,o) (List.mem_append_right _ (List.mem_append_right _ (mem_pinsAt hb e)))).2.1
  cases f with
  | next=>obtain ⟨σ7,H7,I7,n7⟩:=q7; exact again I7 n7
  | cont=>obtain ⟨σ7,H7,I7,n7⟩:=q7; exact again I7 n7
  | brk=>obtain ⟨σ7,H7,I7,q7⟩:=q7; exact ⟨σ7,H7,I7.unpinned,q7⟩
  | ret v=>obtain ⟨x7,σ7,H7,I7,r7,q7⟩:=q7; exact ⟨x7,σ7,H7,I7.unpinned,r7,q7⟩
end
theorem for_list {K:PySem.W.Frag} {a:Addr} {xs:List V} {g:TG} {tb:TS} {D:Ends} {σ:St} {H:Hp} (Pv:Nat→St→Hp→Prop) (h0:Pv 0 σ H) (hl:∀ i σ H,i ≤ xs.length→Pv i σ H→SqL K H a xs)
  (hs:∀ i x σ H,xs[i]? = some x→Pv i σ H→g x σ H fun σ2 H2=>tb { D with nx:=Pv (i + 1),ct:=Pv (i + 1),bk:=D.nx } σ2 H2) (hd:∀ σ H,Pv xs.length σ H→D.nx σ H) :
  ∃ W:Nat→Nat→St→Hp→Prop,(∃ m,W 0 m σ H)∧∀ i m σ H,W i m σ H →
   ((Itl K a).stop i H∧D.nx σ H) ∨ ((Itl K a).go i H∧∃ N:St→Hp→Prop,(∀ σ' H',N σ' H'→∃ m',m' < m∧W (i + 1) m' σ' H')∧∀ x H',(Itl K a).yld i H x H'→g x σ H' fun σ2 H2=>tb { D with nx:=N,ct:=N,bk:=D.nx } σ2 H2):=by
 refine ⟨fun i m σ H=>m = xs.length - i∧i ≤ xs.length∧Pv i σ H,⟨xs.length,by simp,Nat.zero_le _,h0⟩,?_⟩
 rintro i m σ H ⟨rfl,hi,p⟩
 have q:=hl i σ H hi p
 by_cases hlt:i < xs.length
 ·refine .inr ⟨⟨xs,xs[i],q,by simp [hlt]⟩,Pv (i + 1),fun σ' H' p'=>⟨xs.length - (i + 1),by omega,rfl,hlt,p'⟩,fun x H' y=>?_⟩
  obtain ⟨e,y⟩:=y
  subst e
  exact hs i x σ _ (y xs q) p
 ·have e:i = xs.length:=by omega
  subst e
  exact .inl ⟨⟨xs,q,Nat.le_refl _⟩,hd σ H p⟩
abbrev R2:=V→V→Hp→VK→Prop
def OpR (X:Cx) (f:Value→Value→Sem Value) (r:R2):Prop :=
 ∀ (pins:List (Addr × Obj)) (s:Shared) (σ:St) (H:Hp) (x y:V) (v u:Value) (Q:VK),Inv X pins σ H s→RelV x v→RelV y u→r x y H Q →
  wpAny (model X.prog X.w) X.A (f v u) (EP X pins σ Q) X.xe s
def UnR (X:Cx) (f:Value→Sem Value) (r:V→Hp→VK→Prop):Prop :=
 ∀ (pins:List (Addr × Obj)) (s:Shared) (σ:St) (H:Hp) (x:V) (v:Value) (Q:VK),Inv X pins σ H s→RelV x v→r x H Q →
  wpAny (model X.prog X.w) X.A (f v) (EP X pins σ Q) X.xe s
def CallR (X:Cx) (f:Value) (r:List V→Hp→VK→Prop):Prop :=
 ∀ (pins:List (Addr × Obj)) (s:Shared) (σ:St) (H:Hp) (xs:List V) (us:List Value) (Q:VK),Inv X pins σ H s→Vals xs us→r xs H Q →
  wpAny (model X.prog X.w) X.A (call f us) (EP X pins σ Q) X.xe s
def TruR (X:Cx) (r:V→Hp→(Bool→Hp→Prop)→Prop):Prop :=
 ∀ (pins:List (Addr × Obj)) (s:Shared) (σ:St) (H:Hp) (x:V) (v:Value) (Q:Bool→Hp→Prop),Inv X pins σ H s→RelV x v→r x H Q →
  wpAny (model X.prog X.w) X.A (truthy v) (TP X pins σ Q) X.xe s
def tOp (r:R2) (ta tb:TE):TE:=fun σ H Q=>ta σ H fun x H1=>tb σ H1 fun y H2=>r x y H2 Q
def tUn (r:V→Hp→VK→Prop) (ta:TE):TE:=fun σ H Q=>ta σ H fun x H1=>r x H1 Q
inductive rI (C:Int→Int→Prop) (g:Int→Int→V) (x y:V) (H:Hp) (Q:VK):Prop
 | mk (i j:Int) (_:x = .int i) (_:y = .int j) (_:C i j) (_:Q (g i j) H)
inductive rI0 (g:Int→Int→V) (x y:V) (H:Hp) (Q:VK):Prop
 | mk (i j:Int) (_:x = .int i) (_:y = .int j) (_:Q (g i j) H)
inductive rU (g:Int→V) (x:V) (H:Hp) (Q:VK):Prop
 | mk (i:Int) (_:x = .int i) (_:Q (g i) H)
section
variable {X:Cx} {a b c:Expr} {ta tb tc:TE} {pos:Pos}
theorem binT (ha:PE X a ta) (hb:PE X b tb) {pins:List (Addr × Obj)} {s:Shared} {σ:St} {H:Hp} {R:V→V→Hp→Prop} (I:Inv X pins σ H s)
  (h:ta σ H fun x H1=>tb σ H1 fun y H2=>R x y H2) {Q:Value→Shared→Prop} {f:Value→Value→Sem Value}
  (hf:∀ v u s2 x y H2,Inv X pins σ H2 s2→RelV x v→RelV y u→R x y H2→wpAny (model X.prog X.w) X.A (f v u) Q X.xe s2) :
  wpAny (model X.prog X.w) X.A (eval a X.env) (fun v s₁=>wpAny (model X.prog X.w) X.A (eval b X.env) (fun u s₂=>wpAny (model X.prog X.w) X.A (f v u) Q X.xe s₂) X.xe s₁) X.xe s:=by
 refine thn (ha pins s σ H _ I h) fun v s1 ⟨x,H1,I1,r1,q1⟩=>?_
 refine thn (hb pins s1 σ H1 _ I1 q1) fun u s2 ⟨y,H2,I2,r2,q2⟩=>?_
 exact hf v u s2 x y H2 I2 r1 r2 q2
theorem pe_op {op:Operator} {r:R2} (ho:OpR X (binaryOp op) r) (ha:PE X a ta) (hb:PE X b tb):PE X (.BinOp a op b pos) (tOp r ta tb):=by
 intro pins s σ H Q I h
 exact wpAny_BinOp (binT ha hb I h fun v u s2 x y H2 I2 rx ry q=>ho pins s2 σ H2 x y v u Q I2 rx ry q)
theorem pe_un {op:UnaryOp} {r:V→Hp→VK→Prop} (ho:UnR X (unaryOp op) r) (ha:PE X a ta):PE X (.UnaryOp op a pos) (tUn r ta):=by
 intro pins s σ H Q I h
 exact UnaryOp_ (thn (ha pins s σ H _ I h) fun v s1 ⟨x,H1,I1,r1,q1⟩=>ho pins s1 σ H1 x v Q I1 r1 q1)
theorem opI {f:Value→Value→Sem Value} {C:Int→Int→Prop} {g:Int→Int→Int}
  (rule:∀ (i j:Int) (t u:Tok) (s:Shared) (Q:Value→Shared→Prop) (E:Value→Shared→Prop),C i j→Q (.int (g i j) s.toks) { s with toks:=s.toks + 1 }→wpAny (model X.prog X.w) X.A (f (.int i t) (.int j u)) Q E s) :
  OpR X f (rI C fun i j=>.int (g i j)):=by
 intro pins s σ H x y v u Q I rx ry h
 obtain ⟨i,j,rfl,rfl,hc,q⟩:=h
 obtain ⟨t,rfl⟩:=rx
 obtain ⟨t',rfl⟩:=ry
 exact rule i j t t' s _ _ hc ⟨.int (g i j),H,I.tok _,⟨_,rfl⟩,q⟩
theorem opI0 {f:Value→Value→Sem Value} {g:Int→Int→Int}
  (rule:∀ (i j:Int) (t u:Tok) (s:Shared) (Q:Value→Shared→Prop) (E:Value→Shared→Prop),Q (.int (g i j) s.toks) { s with toks:=s.toks + 1 }→wpAny (model X.prog X.w) X.A (f (.int i t) (.int j u)) Q E s) :
  OpR X f (rI0 fun i j=>.int (g i j)):=by
 intro pins s σ H x y v u Q I rx ry h
 obtain ⟨i,j,rfl,rfl,q⟩:=h
 obtain ⟨t,rfl⟩:=rx
 obtain ⟨t',rfl⟩:=ry
 exact rule i j t t' s _ _ ⟨.int (g i j),H,I.tok _,⟨_,rfl⟩,q⟩
theorem opB0 {f:Value→Value→Sem Value} {g:Int→Int→Bool}
  (rule:∀ (i j:Int) (t u:Tok) (s:Shared) (Q:Value→Shared→Prop) (E:Value→Shared→Prop),Q (.bool (g i j)) s→wpAny (model X.prog X.w) X.A (f (.int i t) (.int j u)) Q E s) :
  OpR X f (rI0 fun i j=>.bl (g i j)):=by
 intro pins s σ H x y v u Q I rx ry h
 obtain ⟨i,j,rfl,rfl,q⟩:=h
 obtain ⟨t,rfl⟩:=rx
 obtain ⟨t',rfl⟩:=ry
 exact rule i j t t' s _ _ ⟨.bl (g i j),H,I,rfl,q⟩
def CMul (i j:Int):Prop:=(-(2 ^ 64) < i∧i < 2 ^ 64) ∨ (-(2 ^ 64) < j∧j < 2 ^ 64)
theorem CMul.ok {i j:Int} (h:CMul i j):IntMulOk i j:=by
 rcases h with ⟨h1,h2⟩ | ⟨h1,h2⟩
 ·exact .of_left (intBits_le_64 h1 h2)
 ·exact .of_right (intBits_le_64 h1 h2)
theorem op_add:OpR X (binaryOp .Add) (rI0 fun i j=>.int (i + j)):=opI0 fun _ _ _ _ _ _ _ q=>add_int q
theorem op_sub:OpR X (binaryOp .Sub) (rI0 fun i j=>.int (i - j)):=opI0 fun _ _ _ _ _ _ _ q=>sub_int q
theorem op_mul:OpR X (binaryOp .Mult) (rI CMul fun i j=>.int (i * j)):=opI fun _ _ _ _ _ _ _ hc q=>mul_int q hc.ok
theorem op_mod:OpR X (binaryOp .Mod) (rI (fun _ j=>0 < j) fun i j=>.int (i % j)):=opI fun i j _ _ _ _ _ hc q=>by
 have h1:(0:Int) < j:=hc
 exact mod_int' (by omega) (by rw [Int.fmod_eq_emod_of_nonneg i (by omega)]; exact q)
theorem op_and:OpR X (binaryOp .BitAnd) (rI0 fun i j=>.int (Builtin.bitAnd i j)):=opI0 fun _ _ _ _ _ _ _ q=>and_int q
theorem unI {f:Value→Sem Value} {g:Int→Int}
  (rule:∀ (i:Int) (t:Tok) (s:Shared) (Q:Value→Shared→Prop) (E:Value→Shared→Prop),Q (.int (g i) s.toks) { s with toks:=s.toks + 1 }→wpAny (model X.prog X.w) X.A (f (.int i t)) Q E s) :
  UnR X f (rU fun i=>.int (g i)):=by
 intro pins s σ H x v Q I rx h
 obtain ⟨i,rfl,q⟩:=h
 obtain ⟨t,rfl⟩:=rx
 exact rule i t s _ _ ⟨.int (g i),H,I.tok _,⟨_,rfl⟩,q⟩
theorem un_neg:UnR X (unaryOp .USub) (rU fun i=>.int (-i)):=unI fun _ _ _ _ _ q=>neg_int q
end
def scal:V→V→Bool
 | .non,.non=>true | .non,.int _=>true | .int _,.non=>true | .non,.bl _=>true | .bl _,.non=>true | .non,.str _=>true | .str _,.non=>true
 | .int _,.int _=>true | .bl _,.bl _=>true | .str _,.str _=>true | .byt _,.byt _=>true
 | .int _,.str _=>true | .str _,.int _=>true | .bl _,.str _=>true | .str _,.bl _=>true
 | _,_=>false
def rEq:R2:=fun x y H Q=>scal x y = true∧Q (.bl (decide (x = y))) H
def rNe:R2:=fun x y H Q=>scal x y = true∧Q (.bl (!decide (x = y))) H
theorem dec_int {i j:Int}:decide (V.int i = V.int j) = (i == j):=by
 rw [Bool.eq_iff_iff]
 simp
theorem dec_bl {i j:Bool}:decide (V.bl i = V.bl j) = (i == j):=by
 rw [Bool.eq_iff_iff]
 simp
theorem dec_str {i j:Str}:decide (V.str i = V.str j) = (i == j):=by
 rw [Bool.eq_iff_iff]
 simp
theorem dec_byt {i j:Array UInt8}:decide (V.byt i = V.byt j) = (i.toList == j.toList):=by
 rw [Bool.eq_iff_iff]
 cases i
 cases j
 simp
section
variable {X:Cx} {a b c:Expr} {ta tb tc:TE} {pos:Pos}
theorem fin_bl {pins:List (Addr × Obj)} {σ:St} {H:Hp} {s:Shared} {Q:VK} {k k':Bool} (I:Inv X pins σ H s) (q:Q (.bl k) H) (e:k = k'):EP X pins σ Q (.bool k') s:=by
 subst e
 exact ⟨.bl k,H,I,rfl,q⟩
theorem op_eq:OpR X (compareOp .Eq) rEq:=by
 intro pins s σ H x y v u Q I rx ry h
 obtain ⟨hs,q⟩:=h
 cases x with
 | non =>
  cases rx
  cases y with
  | non=>cases ry; exact PySem.EqNone.eq_none_none (fin_bl I q (by simp))
  | bl j=>cases ry; exact PySem.EqNone.eq_none_bool (fin_bl I q (by simp))
  | int j=>obtain ⟨t',rfl⟩:=ry; exact PySem.EqNone.eq_none_int (fin_bl I q (by simp))
  | str j=>obtain ⟨t',rfl⟩:=ry; exact PySem.EqNone.eq_none_str (fin_bl I q (by simp))
  | _=>exact absurd (show false = true from hs) Bool.false_ne_true
 | bl i =>
  cases rx
  cases y with
  | non=>cases ry; exact PySem.EqNone.eq_bool_none (fin_bl I q (by simp))
  | bl j=>cases ry; exact eq_bool (fin_bl I q dec_bl)
  | str j=>obtain ⟨t',rfl⟩:=ry; exact PySem.EqMixed.eq_bool_str (fin_bl I q (by simp))
  | _=>exact absurd (show false = true from hs) Bool.false_ne_true
 | int i =>
  obtain ⟨t,rfl⟩:=rx
  cases y with
  | non=>cases ry; exact PySem.EqNone.eq_int_none (fin_bl I q (by simp))
  | int j=>obtain ⟨t',rfl⟩:=ry; exact eq_int (fin_bl I q dec_int)
  | str j=>obtain ⟨t',rfl⟩:=ry; exact PySem.EqMixed.eq_int_str (fin_bl I q (by simp))
  | _=>exact absurd (show false = true from hs) Bool.false_ne_true
 | str i =>
  obtain ⟨t,rfl⟩:=rx
  cases y with
  | non=>cases ry; exact PySem.EqNone.eq_str_none (fin_bl I q (by simp))
  | bl j=>cases ry; exact PySem.EqMixed.eq_str_bool (fin_bl I q (by simp))
  | int j=>obtain ⟨t',rfl⟩:=ry; exact PySem.EqMixed.eq_str_int (fin_bl I q (by simp))
  | str j=>obtain ⟨t',rfl⟩:=ry; exact eq_str (fin_bl I q dec_str)
  | _=>exact absurd (show false = true from hs) Bool.false_ne_true
 | byt i =>
  obtain ⟨t,rfl⟩:=rx
  cases y with
  | byt j=>obtain ⟨t',rfl⟩:=ry; exact PySem.W.eq_bytes (fin_bl I q dec_byt)
  | _=>exact absurd (show false = true from hs) Bool.false_ne_true
 | _=>cases y <;> exact absurd (show false = true from hs) Bool.false_ne_true
theorem op_ne:OpR X (compareOp .NotEq) rNe:=by
 intro pins s σ H x y v u Q I rx ry h
 obtain ⟨hs,q⟩:=h
 cases x with
 | non =>
  cases rx
  cases y with
  | non=>cases ry; exact PySem.EqNone.ne_none_none (fin_bl I q (by simp))
  | bl j=>cases ry; exact PySem.EqNone.ne_none_bool (fin_bl I q (by simp))
  | int j=>obtain ⟨t',rfl⟩:=ry; exact PySem.EqNone.ne_none_int (fin_bl I q (by simp))
  | str j=>obtain ⟨t',rfl⟩:=ry; exact PySem.EqNone.ne_none_str (fin_bl I q (by simp))
  | _=>exact absurd (show false = true from hs) Bool.false_ne_true
 | bl i =>
  cases rx
  cases y with
  | non=>cases ry; exact PySem.EqNone.ne_bool_none (fin_bl I q (by simp))
  | bl j=>cases ry; exact ne_bool (fin_bl I q (congrArg not dec_bl))
  | str j=>obtain ⟨t',rfl⟩:=ry; exact PySem.EqMixed.ne_bool_str (fin_bl I q (by simp))
  | _=>exact absurd (show false = true from hs) Bool.false_ne_true
 | int i =>
  obtain ⟨t,rfl⟩:=rx
  cases y with
  | non=>cases ry; exact PySem.EqNone.ne_int_none (fin_bl I q (by simp))
  | int j=>obtain ⟨t',rfl⟩:=ry; exact ne_int (fin_bl I q (congrArg not dec_int))
  | str j=>obtain ⟨t',rfl⟩:=ry; exact PySem.EqMixed.ne_int_str (fin_bl I q (by simp))
  | _=>exact absurd (show false = true from hs) Bool.false_ne_true
 | str i =>
  obtain ⟨t,rfl⟩:=rx
  cases y with
  | non=>cases ry; exact PySem.EqNone.ne_str_none (fin_bl I q (by simp))
  | bl j=>cases ry; exact PySem.EqMixed.ne_str_bool (fin_bl I q (by simp))
  | int j=>obtain ⟨t',rfl⟩:=ry; exact PySem.EqMixed.ne_str_int (fin_bl I q (by simp))
  | str j=>obtain ⟨t',rfl⟩:=ry; exact ne_str (fin_bl I q (congrArg not dec_str))
  | _=>exact absurd (show false = true from hs) Bool.false_ne_true
 | byt i =>
  obtain ⟨t,rfl⟩:=rx
  cases y with
  | byt j=>obtain ⟨t',rfl⟩:=ry; exact PySem.W.ne_bytes (fin_bl I q (congrArg not dec_byt))
  | _=>exact absurd (show false = true from hs) Bool.false_ne_true
 | _=>cases y <;> exact absurd (show false = true from hs) Bool.false_ne_true
theorem op_lt:OpR X (compareOp .Lt) (rI0 fun i j=>.bl (decide (i < j))):=opB0 fun _ _ _ _ _ _ _ q=>lt_int q
theorem op_le:OpR X (compareOp .LtE) (rI0 fun i j=>.bl (decide (i ≤ j))):=opB0 fun _ _ _ _ _ _ _ q=>le_int q
theorem op_gt:OpR X (compareOp .Gt) (rI0 fun i j=>.bl (decide (j < i))):=opB0 fun _ _ _ _ _ _ _ q=>gt_int q
theorem op_ge:OpR X (compareOp .GtE) (rI0 fun i j=>.bl (decide (j ≤ i))):=opB0 fun _ _ _ _ _ _ _ q=>ge_int q
theorem op_isN:OpR X (compareOp .Is) (fun x y H Q=>y = .non∧Q (.bl (decide (x = .non))) H):=by
 intro pins s σ H x y v u Q I rx ry h
 obtain ⟨rfl,q⟩:=h
 cases ry
 refine is_none_gen (fin_bl I q ?_)
 cases x <;> first
  | (cases rx; rfl)
  | (obtain ⟨t,rfl⟩:=rx; rfl)
theorem op_notN:OpR X (compareOp .IsNot) (fun x y H Q=>y = .non∧Q (.bl (!decide (x = .non))) H):=by
 intro pins s σ H x y v u Q I rx ry h
 obtain ⟨rfl,q⟩:=h
 cases ry
 refine isnot_none_gen (fin_bl I q ?_)
 cases x <;> first
  | (cases rx; rfl)
  | (obtain ⟨t,rfl⟩:=rx; rfl)
theorem nomark (b:Expr) {op:CmpOp} (h:op ≠ .In:=by decide) (h2:op ≠ .NotIn:=by decide):behindInMarks op b = false:=by
 have e1:(op == CmpOp.In) = false:=by cases op <;> first | rfl | exact absurd rfl h
 have e2:(op == CmpOp.NotIn) = false:=by cases op <;> first | rfl | exact absurd rfl h2
 cases b <;> simp [behindInMarks,e1,e2]
theorem pe_cmpR {op:CmpOp} {r:R2} (ho:OpR X (compareOp op) r) (ha:PE X a ta) (hb:PE X b tb) (hm:behindInMarks op b = false):PE X (.Compare a [op] [b] pos) (tOp r ta tb):=by
 intro pins s σ H Q I h
 exact wpAny_Compare1 (binT ha hb I h fun v u s2 x y H2 I2 rx ry q=>ho pins s2 σ H2 x y v u Q I2 rx ry q) hm
def tTest (t:TE):TT:=fun σ H Q=>t σ H fun x H1=>IsB (fun c=>Q c H1) x
theorem pt_cmpR {op:CmpOp} {r:R2} (ho:OpR X (compareOp op) r) (ha:PE X a ta) (hb:PE X b tb) (hm:behindInMarks op b = false):PT X (.Compare a [op] [b] pos) (tTest (tOp r ta tb)):=by
 intro pins s σ H Q I h
 refine wpAny_isTrue_Compare1 (thn (ha pins s σ H _ I h) fun v s1 ⟨x,H1,I1,r1,q1⟩=>thn (hb pins s1 σ H1 _ I1 q1) fun u s2 ⟨y,H2,I2,r2,q2⟩ =>
  thn (ho pins s2 σ H2 x y v u _ I2 r1 r2 q2) fun c s3 ⟨z,H3,I3,r3,k,e,q3⟩=>?_) hm
 subst e
 cases r3
 exact wpAny_truthy_bool ⟨H3,I3,q3⟩
def tChain (r r':R2) (ta tb tc:TE):TE:=fun σ H Q=>ta σ H fun x H1=>tb σ H1 fun y H2=>r x y H2 fun z H3=>∃ k,z = .bl k ∧
 (if k = true then tc σ H3 fun w' H4=>r' y w' H4 Q else Q (.bl false) H3)
theorem pe_chain {op op':CmpOp} {r r':R2} (ho:OpR X (compareOp op) r) (ho':OpR X (compareOp op') r') (ha:PE X a ta) (hb:PE X b tb) (hc:PE X c tc)
  (hm:lastMarks [op,op'] [b,c] = false:=by with_unfolding_all rfl):PE X (.Compare a [op,op'] [b,c] pos) (tChain r r' ta tb tc):=by
 intro pins s σ H Q I h
 refine Compare_chain (thn (ha pins s σ H _ I h) fun v s1 ⟨x,H1,I1,r1,q1⟩=>chain_link (thn (hb pins s1 σ H1 _ I1 q1) fun u s2 ⟨y,H2,I2,r2,q2⟩ =>
  thn (ho pins s2 σ H2 x y v u _ I2 r1 r2 q2) fun d s3 ⟨z,H3,I3,r3,k,e,q3⟩=>?_)) hm
 subst e
 cases r3
 refine wpAny_truthy_bool ?_
 cases k with
 | false=>exact ite_ff ⟨.bl false,H3,I3,rfl,q3⟩
 | true=>exact ite_tt (chain_last (thn (hc pins s3 σ H3 _ I3 q3) fun w' s4 ⟨z',H4,I4,r4,q4⟩=>ho' pins s4 σ H4 y z' u w' Q I4 r2 r4 q4))
theorem pt_chain {op op':CmpOp} {r r':R2} (ho:OpR X (compareOp op) r) (ho':OpR X (compareOp op') r') (ha:PE X a ta) (hb:PE X b tb) (hc:PE X c tc)
  (hm:lastMarks [op,op'] [b,c] = false:=by with_unfolding_all rfl):PT X (.Compare a [op,op'] [b,c] pos) (tTest (tChain r r' ta tb tc)):=by
 intro pins s σ H Q I h
 refine isTrue_chain (thn (ha pins s σ H _ I h) fun v s1 ⟨x,H1,I1,r1,q1⟩=>test_link (thn (hb pins s1 σ H1 _ I1 q1) fun u s2 ⟨y,H2,I2,r2,q2⟩ =>
  thn (ho pins s2 σ H2 x y v u _ I2 r1 r2 q2) fun d s3 ⟨z,H3,I3,r3,k,e,q3⟩=>?_)) hm
 subst e
 cases r3
 refine wpAny_truthy_bool ?_
 cases k with
 | false =>
  obtain ⟨k',e',q'⟩:=q3
  cases e'
  exact ite_ff ⟨H3,I3,q'⟩
 | true =>
  refine ite_tt (test_last (thn (hc pins s3 σ H3 _ I3 q3) fun w' s4 ⟨z',H4,I4,r4,q4⟩=>thn (ho' pins s4 σ H4 y z' u w' _ I4 r2 r4 q4) fun d' s5 ⟨z2,H5,I5,r5,k2,e2,q5⟩=>?_))
  subst e2
  cases r5
  exact wpAny_truthy_bool ⟨H5,I5,q5⟩
def TruV (K:PySem.W.Frag) (x:V) (H:Hp) (k:Bool):Prop :=
 match x with
 | .non=>k = false
 | .bl b=>k = b
 | .int i=>k = (i != 0)
 | .str y=>y.length ≤ sizeLine∧k = ((y.length:Int) != 0)
 | .byt y=>y.size ≤ sizeLine∧k = ((y.size:Int) != 0)
 | .ref p=>(∃ xs,SqL K H p xs∧k = !xs.isEmpty) ∨ (∃ xs,SqT K H p xs∧k = !xs.isEmpty) ∨ ∃ kvs,H p = some (.dK kvs)∧k = !kvs.isEmpty
 | _=>False
theorem isEmpty_kv {κ:Type} {kvs:List (κ × V)} {vs:List (κ × Value)} (r:KV kvs vs):(!vs.isEmpty) = !kvs.isEmpty:=by
 cases r <;> rfl
theorem isEmpty_of {xs:List V} {its:List Value} (r:Vals xs its):(!its.toArray.isEmpty) = !xs.isEmpty:=by
 cases r <;> simp
theorem line63:(sizeLine:Nat) < 2 ^ 63:=by rw [sizeLine_eq]; decide
theorem tru_ok:TruR X (fun x H Q=>∃ k,TruV X.K x H k∧Q k H):=by
 intro pins s σ H x v Q I rx h
 obtain ⟨k,e,q⟩:=h
 have hl:=line63
 have hs:sizeLine = 16777216:=sizeLine_eq
 cases x with
 | non =>
  cases rx
  have e':k = false:=e
  subst e'
  exact truthy_none ⟨H,I,q⟩
 | bl b =>
  cases rx
  have e':k = b:=e
  subst e'
  exact wpAny_truthy_bool ⟨H,I,q⟩
 | int i =>
  obtain ⟨t,rfl⟩:=rx
  have e':k = (i != 0):=e
  subst e'
  exact PySem.P.truthy_int ⟨H,I,q⟩
 | str y =>
  obtain ⟨t,rfl⟩:=rx
  obtain ⟨hy,e'⟩:y.length ≤ sizeLine∧k = ((y.length:Int) != 0):=e
  subst e'
  exact PySem.P.truthy_str (by omega) ⟨H,I.tok _,q⟩
 | byt y =>
  obtain ⟨t,rfl⟩:=rx
  obtain ⟨hy,e'⟩:y.size ≤ sizeLine∧k = ((y.size:Int) != 0):=e
  subst e'
  exact PySem.W.truthy_bytes (by omega) ⟨H,I.tok _,q⟩
 | ref p =>
  cases rx
  have e':(∃ xs,SqL X.K H p xs∧k = !xs.isEmpty) ∨ (∃ xs,SqT X.K H p xs∧k = !xs.isEmpty) ∨ ∃ kvs,H p = some (.dK kvs)∧k = !kvs.isEmpty:=e
  rcases e' with ⟨xs,hx,e'⟩ | ⟨xs,hx,e'⟩ | ⟨kvs,hx,e'⟩
  ·subst e'
   obtain ⟨its,r,pl,hz⟩:=I.list hx
   have hlen:=r.length
   exact wpAny_truthy_list pl.isList (by simp only [List.size_toArray]; omega) ⟨H,I.tok _,by rw [isEmpty_of r]; exact q⟩
  ·subst e'
   obtain ⟨its,r,pl,hz⟩:=I.tuple hx
   have hlen:=r.length
   exact truthy_tuple pl (by simp only [List.size_toArray]; omega) ⟨H,I.tok _,by rw [isEmpty_of r]; exact q⟩
  ·subst e'
   obtain ⟨hz,hS,vs,r,m⟩:kvs.length ≤ sizeLine∧(p == sysModules) = false∧∃ vs,KV kvs vs∧s.heap.DictOf (mixKind X.prog X.w) p vs:=I.hok p _ hx
   have hlen:kvs.length = vs.length:=Paired.length r
   exact wpAny_truthy_dict hS m (by omega) ⟨H,I.tok _,by rw [isEmpty_kv r]; exact q⟩
 | _=>exact (show False from e).elim
theorem pt_truth (ha:PE X a ta) (he:∀ whole,isTrue a X.env whole = (do let v ← whole; standAt a.pos; holding [v] (truthy v))) :
  PT X a (fun σ H Q=>ta σ H fun x H'=>∃ k,TruV X.K x H' k∧Q k H'):=by
 intro pins s σ H Q I h
 exact isTrue_plain (thn (ha pins s σ H _ I h) fun v s1 ⟨x,H1,I1,r1,q1⟩=>tru_ok pins s1 σ H1 x v Q I1 r1 q1) (he _)
theorem vals1 {x:V} {us:List Value} (r:Vals [x] us):∃ u,us = [u]∧RelV x u:=by
 cases r with
 | cons r1 r2=>cases r2; exact ⟨_,rfl,r1⟩
theorem call_ord:CallR X (.builtin "ord") (fun xs H Q=>∃ x,xs = [.str x]∧x.length = 1∧Q (.int (x.cps.getD 0 0:Nat)) H):=by
 intro pins s σ H xs us Q I r h
 obtain ⟨x,rfl,hz,q⟩:=h
 obtain ⟨u,rfl,t,rfl⟩:=vals1 r
 exact ord_of_one hz ⟨.int _,H,I.tok _,⟨_,rfl⟩,q⟩
end
structure ObjM (h:Heap) (x dx C:Addr) (mA:Str→Option Value):Prop where
 obj:h.get? x = some (PySem.W.instObj C dx)
 ns:h.Ns1 dx mA
 ne:dx ≠ x
theorem lookIn_ns {h:Heap} {dx:Addr} {mA:Str→Option Value} (n:h.Ns1 dx mA):∃ od,h.get? dx = some od∧∀ name,PySem.W.lookIn name od = some (mA name):=by
 obtain ⟨o,es,ep,ho,hd,hk,_,hm⟩:=n
 refine ⟨o,ho,fun name=>?_⟩
 have e:=hm name
 unfold nsFind findBy at e
 rw [← Array.find?_toList] at e
 unfold PySem.W.lookIn
 rw [hd]
 dsimp only
 split
 ·rename_i y q
  rw [q] at e
  exact congrArg some e
 ·rename_i q
  rw [q] at e
  have a:es.toList.any (·.refKey) = false:=by
   rw [List.any_eq_false]
   intro y hy
   obtain ⟨z,t,hkey⟩:=hk y (Array.mem_toList_iff.mp hy)
   simp [DictEntry.refKey,hkey]
  have a':¬ es.toList.any (·.refKey) = true:=by rw [a]; exact Bool.false_ne_true
  rw [if_neg a']
  exact congrArg some e
theorem ObjM.look {h:Heap} {x dx C:Addr} {mA:Str→Option Value} (I:ObjM h x dx C mA):∃ od,PySem.W.InstAt h x (PySem.W.instObj C dx) C (some od)∧∀ name,PySem.W.lookIn name od = some (mA name) :=
 let ⟨od,ho,hl⟩:=lookIn_ns I.ns
 ⟨od,⟨I.obj,rfl,rfl,ho⟩,hl⟩
section
variable {prog:Program} {w:World} {A:Around} {E:Value→Shared→Prop} {s:Shared} {K:PySem.W.Frag} {x dx C f:Addr} {mA:Str→Option Value} {name:Str} {v:Value}
theorem get_map {expr:Bool} {Q:Value→Shared→Prop} (X:K.In s.heap) (I:ObjM s.heap x dx C mA) (hg:PySem.W.plainGet K C name = true) (hh:PySem.W.hasDictIn K C = true)
  (ha:PySem.W.findIn K (.ref C) name = some none) (hv:mA name = some v) (hv':PySem.W.handedIn v = true) (h:Q v { s with toks:=s.toks + 1 }) :
  wpAny (model prog w) A (getAttr (.ref x) name expr) Q E s:=by
 obtain ⟨od,J,hl⟩:=I.look
 exact PySem.W.get_value X J (PySem.W.plainGet_of hg).1 (PySem.W.findObj_own hh ha rfl (by rw [hl,hv])) hv' h
theorem get_meth {pl:Sem Bool} {Q:Value × List Value→Shared→Prop} (X:K.In s.heap) (I:ObjM s.heap x dx C mA) (hg:PySem.W.plainGet K C name = true)
  (hf:PySem.W.findIn K (.ref C) name = some (some (.ref f))) (ht:PySem.W.isFn K (.ref f) = true) (hv:mA name = none) (h:Q (.ref f,[.ref x]) s) :
  wpAny (model prog w) A (getMethod (.ref x) name pl) Q E s:=by
 obtain ⟨od,J,hl⟩:=I.look
 exact PySem.W.method_fn X J (PySem.W.plainGet_of hg).1 (PySem.W.plainGet_of hg).2 hf (beq_iff_eq.mp ht) (by show (PySem.W.lookIn name od).map (·.isSome) = some false; rw [hl,hv]; rfl) h
theorem set_map {ns:List Str} {Q:Unit→Shared→Prop} (X:K.In s.heap) (I:ObjM s.heap x dx C mA)
  (hs:PySem.W.findIn K (.ref C) "__setattr__" = some (some (.builtin "object.__setattr__"))) (hp:PySem.W.plainOver K C = true) (ht:PySem.W.takerIn K C name = some none) (hh:PySem.W.hasDictIn K C = true)
  (hw:PySem.Within mA ns) (hsz:ns.length ≤ sizeLine)
  (h:∀ h',ObjM h' x dx C (fun y=>if y = name then some v else mA y)→Heap.SameBut dx s.heap h'→Q () { s with heap:=h',toks:=s.toks + 2 }) :
  wpAny (model prog w) A (setAttr (.ref x) name v) Q E s:=by
 obtain ⟨od,J,hl⟩:=I.look
 refine PySem.W.set_plain X J hs (PySem.W.osa_open (s:={ s with toks:=s.toks + 1 }) (r:=none) X J hp ht fun b=>?_)
 obtain ⟨cd,hc,hd'⟩:=PySem.W.any_some hh
 have hx:s.heap.get? x = some ⟨.ref C,some dx,.plain,#[]⟩:=I.obj
 refine wpAny_bind (wpAny_pure (wpAny_bind (wpAny_bind (wpAny_loadPart hx (wpAny_bind (PySem.W.Looks.here (s:={ s with toks:=s.toks + 1 }) (PySem.W.looks_clsIn X hc) ?_))))))
 rw [hd']
 refine wpAny_pure (a:=some dx) (wpAny_bind (wpAny_pure (wpAny_bind ?_)))
 refine wpAny_nsSet1 (s:={ s with toks:=s.toks + 1 }) I.ns fun h' hn2 hs2=>?_
 obtain ⟨oD,esD,epD,hoD,hdD,hcD⟩:=hn2.count (PySem.Within.cons name v hw)
 refine wpAny_bind (wpAny_lookBehind hoD (by rw [hdD]; exact pastItsLine_dict (Nat.le_trans hcD (by rw [List.length_cons]; omega))) ?_)
 exact wpAny_pure (h _ ⟨(hs2.2 _ (Ne.symm I.ne)).trans I.obj,hn2,I.ne⟩ hs2)
theorem make_map {R:Result→Shared→Prop} {vs:List Value} {kw:List (Str × Value)} (X:K.In s.heap) (hm:PySem.W.makesIn K C = true)
  (hi:PySem.W.findIn K (.ref C) "__init__" = some (some (.ref f))) (hf:PySem.W.typeIn K (.ref f) = some (.type "function"))
  (h:codeAny (model prog w) (A.under (.builtin "type.__call__" ⟨.ref C :: vs,kw⟩)) (.call (.ref f) ⟨.ref (s.heap.objs.size + 1) :: vs,kw⟩) (PySem.W.InitBack (s.heap.objs.size + 1) R)
   { s with heap:=(s.heap.push PySem.W.emptyDict).push (PySem.W.instObj C s.heap.objs.size) }) :
  codeAny (model prog w) A (.call (.ref C) ⟨vs,kw⟩) R s:=by
 obtain ⟨hh,g,d,t,os⟩:=s
 exact PySem.W.make_core (PySem.W.makes_of X hm) (PySem.W.looks_findIn X hi) (fun self=>PySem.W.bind_fn X self hf) (.inl rfl) h
end
def putF (f:Str) (v:V):List (Str × V)→List (Str × V)
 | []=>[(f,v)]
 | (g,x) :: r=>if g = f then (g,v) :: r else (g,x) :: putF f v r
theorem lookup_putF (f g:Str) (v:V):∀ fs:List (Str × V),(putF f v fs).lookup g = if g = f then some v else fs.lookup g
 | []=>by
  show List.lookup g [(f,v)] = _
  by_cases h:g = f
  ·have hb:(g == f) = true:=beq_iff_eq.mpr h
   simp only [List.lookup,hb,if_pos h]
  ·have hb:(g == f) = false:=beq_eq_false_iff_ne.mpr h
   simp only [List.lookup,hb,if_neg h]
 | (k,x) :: r=>by
  have ih:=lookup_putF f g v r
  rw [show putF f v ((k,x) :: r) = (if k = f then (k,v) :: r else (k,x) :: putF f v r) from rfl]
  by_cases hk:k = f
  ·rw [if_pos hk]
   by_cases h:g = k
   ·have hb:(g == k) = true:=beq_iff_eq.mpr h
    simp only [List.lookup,hb,if_pos (h.trans hk)]
   ·have hb:(g == k) = false:=beq_eq_false_iff_ne.mpr h
    simp only [List.lookup,hb,if_neg (fun e:g = f=>h (e.trans hk.symm))]
  ·rw [if_neg hk]
   by_cases h:g = k
   ·have hb:(g == k) = true:=beq_iff_eq.mpr h
    simp only [List.lookup,hb,if_neg (fun e:g = f=>hk (h.symm.trans e))]
   ·have hb:(g == k) = false:=beq_eq_false_iff_ne.mpr h
    simp only [List.lookup,hb]
    exact ih
theorem keys_putF (f:Str) (v:V):∀ fs:List (Str × V),f ∈ (putF f v fs).map (·.1)∧∀ g,g ∈ fs.map (·.1)→g ∈ (putF f v fs).map (·.1)
 | []=>⟨by simp [putF],fun g h=>by simp at h⟩
 | (k,x) :: r=>by
  obtain ⟨i1,i2⟩:=keys_putF f v r
  rw [show putF f v ((k,x) :: r) = (if k = f then (k,v) :: r else (k,x) :: putF f v r) from rfl]
  by_cases hk:k = f
  ·rw [if_pos hk]
   subst hk
   exact ⟨by simp,fun g h=>by simpa using h⟩
  ·rw [if_neg hk]
   refine ⟨?_,fun g h=>?_⟩
   ·rw [List.map_cons]
    exact List.mem_cons_of_mem _ i1
   ·rw [List.map_cons] at h ⊢
    rcases List.mem_cons.mp h with e | e
    ·exact List.mem_cons.mpr (.inl e)
    ·exact List.mem_cons_of_mem _ (i2 g e)
theorem length_putF (f:Str) (v:V):∀ fs:List (Str × V),(putF f v fs).length ≤ fs.length + 1
 | []=>by simp [putF]
 | (k,x) :: r=>by
  have ih:=length_putF f v r
  rw [show putF f v ((k,x) :: r) = (if k = f then (k,v) :: r else (k,x) :: putF f v r) from rfl]
  by_cases hk:k = f
  ·rw [if_pos hk,List.length_cons,List.length_cons]; omega
  ·rw [if_neg hk,List.length_cons,List.length_cons]; omega
theorem RelO.some_of {v:V} {o:Option Value} (r:RelO (some v) o):∃ u,o = some u∧RelV v u:=by
 cases o with
 | none=>exact (show False from r).elim
 | some u=>exact ⟨u,rfl,r⟩
theorem RelO.none_of {o:Option Value} (r:RelO none o):o = none:=by
 cases o with
 | none=>rfl
 | some u=>exact (show False from r).elim
theorem handed_of {v:V} {u:Value} (r:RelV v u):PySem.W.handedIn u = true:=by
 cases v with
 | non=>cases (show u = Value.none from r); rfl
 | bl b=>cases (show u = Value.bool b from r); rfl
 | int i=>obtain ⟨t,e⟩:=(show ∃ t,u = Value.int i t from r); cases e; rfl
 | str x=>obtain ⟨t,e⟩:=(show ∃ t,u = Value.str x t from r); cases e; rfl
 | byt b=>obtain ⟨t,e⟩:=(show ∃ t,u = Value.bytes b t from r); cases e; rfl
 | flt b=>obtain ⟨t,e⟩:=(show ∃ t,u = Value.float b t from r); cases e; rfl
 | ref a=>cases (show u = Value.ref a from r); rfl
 | ty n=>cases (show u = Value.type n from r); rfl
section
variable {P:Program} {w:World} {H H':Hp} {h h':Heap} {a C dx:Addr} {fs fs':List (Str × V)}
theorem ins_get (hok:HOk P w H h) (e:H a = some (.ins C dx fs)):∃ mA,ObjM h a dx C mA∧(∀ f,RelO (fs.lookup f) (mA f))∧PySem.Within mA (fs.map (·.1))∧fs.length ≤ 1000∧H dx = some (.own a):=by
 obtain ⟨d,z,ne,ob,mA,n,r,q⟩:=(show ObjOk P w H h a (.ins C dx fs) from hok a _ e)
 exact ⟨mA,⟨ob,n,ne⟩,r,q,z,d⟩
end
structure Cls (K:PySem.W.Frag) (C:Addr):Prop where
 pg:PySem.W.plainGet K C Str.empty = true
 hd:PySem.W.hasDictIn K C = true
 po:PySem.W.plainOver K C = true
 sa:PySem.W.findIn K (.ref C) "__setattr__" = some (some (.builtin "object.__setattr__"))
theorem Cls.get {K:PySem.W.Frag} {C:Addr} (c:Cls K C) (f:Str):PySem.W.plainGet K C f = true:=c.pg
def NoAttr (K:PySem.W.Frag) (C:Addr) (f:Str):Prop:=PySem.W.findIn K (.ref C) f = some none
theorem NoAttr.taker {K:PySem.W.Frag} {C:Addr} {f:Str} (n:NoAttr K C f):PySem.W.takerIn K C f = some none:=by
 unfold PySem.W.takerIn
 rw [show PySem.W.findIn K (.ref C) f = some none from n]
 rfl
structure Meth (K:PySem.W.Frag) (C:Addr) (m:Str) (f:Addr):Prop where
 at_:PySem.W.findIn K (.ref C) m = some (some (.ref f))
 fn:PySem.W.isFn K (.ref f) = true
 kp:PySem.W.keepIn K (.ref f) = true
section
variable {X:Cx} {pins:List (Addr × Obj)} {σ:St} {H:Hp} {s:Shared} {a C dx:Addr} {fs:List (Str × V)} {f:Str} {v:V} {A:Around} {E:Value→Shared→Prop}
theorem getattr_ok {b:Bool} {Q:Value→Shared→Prop} (I:Inv X pins σ H s) (e:H a = some (.ins C dx fs)) (c:Cls X.K C) (n:NoAttr X.K C f) (l:fs.lookup f = some v)
  (h:∀ u s',Inv X pins σ H s'→RelV v u→Q u s'):wpAny (model X.prog X.w) A (getAttr (.ref a) f b) Q E s:=by
 obtain ⟨mA,O,r,_,_,_⟩:=ins_get I.hok e
 obtain ⟨u,hu,ru⟩:=RelO.some_of (v:=v) (o:=mA f) (by rw [← l]; exact r f)
 exact get_map I.kIn O (c.get f) c.hd n hu (handed_of ru) (h u _ (I.tok _) ru)
theorem getmeth_ok {m:Str} {g:Addr} {pl:Sem Bool} {Q:Value × List Value→Shared→Prop} (I:Inv X pins σ H s) (e:H a = some (.ins C dx fs)) (c:Cls X.K C) (k:Meth X.K C m g) (l:fs.lookup m = none)
  (h:Q (.ref g,[.ref a]) s):wpAny (model X.prog X.w) A (getMethod (.ref a) m pl) Q E s:=by
 obtain ⟨mA,O,r,_,_,_⟩:=ins_get I.hok e
 have hn:mA m = none:=RelO.none_of (by rw [← l]; exact r m)
 exact get_meth I.kIn O (c.get m) k.at_ k.fn hn h
theorem setattr_ok {y:V} {u:Value} {Q:Unit→Shared→Prop} (I:Inv X pins σ H s) (e:H a = some (.ins C dx fs)) (c:Cls X.K C) (n:NoAttr X.K C f) (hl:fs.length < 1000) (ry:RelV y u)
  (h:∀ s',Inv X pins σ (upd H a (.ins C dx (putF f y fs))) s'→Q () s'):wpAny (model X.prog X.w) A (setAttr (.ref a) f u) Q E s:=by
 obtain ⟨mA,O,r,wi,_,ho⟩:=ins_get I.hok e
 have hz:(fs.map (·.1)).length ≤ sizeLine:=by rw [List.length_map,sizeLine_eq]; omega
 refine set_map I.kIn O c.sa c.po n.taker c.hd wi hz fun h' O' sb=>h _ ?_
 have hd:∃ o,h'.get? dx = some o:=let ⟨o,_,_,e',_⟩:=O'.ns; ⟨o,e'⟩
 refine I.write (x:=a) (e:=dx) (by rw [e]; exact True.intro) (.inr ho) (fun b q hb z=>(sb.2 b hb).trans z) hd ?_
 refine ⟨by rw [upd_ne O.ne]; exact ho,?_,O.ne,O'.obj,_,O'.ns,fun g=>?_,fun g hg=>?_⟩
 ·have:=length_putF f y fs; omega
 ·show RelO ((putF f y fs).lookup g) (if g = f then some u else mA g)
  rw [lookup_putF]
  by_cases q:g = f
  ·rw [if_pos q,if_pos q]; exact ry
  ·rw [if_neg q,if_neg q]; exact r g
 ·by_cases q:g = f
  ·rw [q]; exact (keys_putF f y fs).1
  ·refine (keys_putF f y fs).2 g (wi g fun z=>hg ?_)
   show (if g = f then some u else mA g) = none
   rw [if_neg q]; exact z
theorem Inv.made (I:Inv X pins σ H s):Inv X pins σ (upd (upd H s.heap.objs.size (.own (s.heap.objs.size + 1))) (s.heap.objs.size + 1) (.ins C s.heap.objs.size []))
  { s with heap:=(s.heap.push PySem.W.emptyDict).push (PySem.W.instObj C s.heap.objs.size) }:=by
 have e1:(s.heap.push PySem.W.emptyDict).get? s.heap.objs.size = some PySem.W.emptyDict:=Heap.get?_push_size s.heap rfl
 have e2:((s.heap.push PySem.W.emptyDict).push (PySem.W.instObj C s.heap.objs.size)).get? (s.heap.objs.size + 1) = some (PySem.W.instObj C s.heap.objs.size):=by
  have:=Heap.get?_push_size (s.heap.push PySem.W.emptyDict) (o:=PySem.W.instObj C s.heap.objs.size) rfl
  rwa [Heap.size_push] at this
 have e3:(s.heap.push PySem.W.emptyDict).Ns s.heap.objs.size (fun _=>none):=⟨PySem.W.emptyDict,#[],_,e1,rfl,(fun e he=>absurd he (by simp)),fun _=>rfl⟩
 have I1:=I.laid (a:=s.heap.objs.size) (o:=.own (s.heap.objs.size + 1)) (h':=s.heap.push PySem.W.emptyDict) (t':=s.toks) (fun b u q=>Heap.get?_push_of_some _ q) (Nat.le_refl _) ⟨_,e1⟩
 refine I1.laid (a:=s.heap.objs.size + 1) (o:=.ins C s.heap.objs.size []) (t':=s.toks) (fun b u q=>Heap.get?_push_of_some _ q) (Nat.le_of_eq (Heap.size_push _ _)) ?_
 have ne:s.heap.objs.size ≠ s.heap.objs.size + 1:=Nat.ne_of_lt (Nat.lt_succ_self _)
 refine ⟨by rw [upd_ne ne,upd_same],Nat.zero_le _,ne,e2,fun _=>none,(Heap.Ns1.of_empty e3).at fun o q=>Heap.get?_push_of_some _ q,fun _=>True.intro,fun y hy=>absurd rfl hy⟩
theorem attr_of {prog:Program} {w:World} {env:Env} {e:Expr} {f:Str} {pos:Pos} {s:Shared} {Q:Value→Shared→Prop} (hb:attributeBase e f env (eval e env) = eval e env)
  (h:wpAny (model prog w) A (eval e env) (fun o s₁=>wpAny (model prog w) A (getAttr o f true) Q E s₁) E s):wpAny (model prog w) A (eval (.Attribute e f pos) env) Q E s :=
 Attribute_any_ h (by rw [arm_eval_Attribute,hb])
end
inductive FldI (K:PySem.W.Frag) (f:Str) (Q:VK) (x:V) (H1:Hp):Prop
 | mk (a C dx:Addr) (fs:List (Str × V)) (v:V) (_:x = .ref a) (_:H1 a = some (.ins C dx fs)) (_:Cls K C) (_:NoAttr K C f) (_:fs.lookup f = some v) (_:Q v H1)
def tFld (K:PySem.W.Frag) (ta:TE) (f:Str):TE:=fun σ H Q=>ta σ H (FldI K f Q)
inductive SFldI (K:PySem.W.Frag) (f:Str) (y:V) (F:Hp→Prop) (x:V) (H2:Hp)  : Prop
 | mk (a C dx:Addr) (fs:List (Str × V)) (_:x = .ref a) (_:H2 a = some (.ins C dx fs)) (_:Cls K C) (_:NoAttr K C f) (_:fs.length < 1000) (_:F (upd H2 a (.ins C dx (putF f y fs))))
def sFld (K:PySem.W.Frag) (ta tv:TE) (f:Str):TS:=fun D σ H=>tv σ H fun y H1=>ta σ H1 (SFldI K f y (D.nx σ))
def InOp (X:Cx) (op:Operator) (rd:V→V→Hp→VK→Prop):Prop :=
 ∀ (pins:List (Addr × Obj)) (s:Shared) (σ:St) (H:Hp) (x y:V) (u v:Value) (Q:VK),Inv X pins σ H s→RelV x u→RelV y v→rd x y H Q→wpAny (model X.prog X.w) X.A (inplaceOp op u v) (EP X pins σ Q) X.xe s
def sFldAug (K:PySem.W.Frag) (ta tv:TE) (rd:V→V→Hp→VK→Prop) (f:Str):TS:=fun D σ H=>ta σ H fun x H1=>∃ a C dx fs v,x = .ref a∧H1 a = some (.ins C dx fs)∧Cls K C∧NoAttr K C f∧fs.lookup f = some v ∧
 tv σ H1 fun y H2=>rd v y H2 fun z H3=>∃ dx' fs',H3 a = some (.ins C dx' fs')∧fs'.length < 1000∧D.nx σ (upd H3 a (.ins C dx' (putF f z fs')))
section
variable {X:Cx} {o e value:Expr} {f:Str} {pos pos' tpos:Pos} {ta tv:TE}
theorem pe_fld (he:PE X e ta) (hb:attributeBase e f X.env (eval e X.env) = eval e X.env):PE X (.Attribute e f pos) (tFld X.K ta f):=by
 intro pins s σ H Q I h
 refine attr_of hb (thn (he pins s σ H _ I h) fun u s1 ⟨x,H1,I1,rx,a,C,dx,fs,v,ex,ea,c,n,l,q⟩=>?_)
 subst ex
 obtain rfl:u = Value.ref a:=rx
 exact getattr_ok I1 ea c n l fun u' s2 I2 ru=>⟨v,H1,I2,ru,q⟩
theorem ps_fld (ha:PE X o ta) (hv:PE X value tv) (hs:swapsWith value (some (.Attribute o f pos')) pos.line X.env = pure false):PS X (.Assign [.Attribute o f pos'] value pos) (sFld X.K ta tv f):=by
 intro pins s σ H D I h
 refine plainObj_wpAny_Assign_Attribute (thn (hv pins s σ H _ I h) fun u s1 ⟨y,H1,I1,ry,q⟩=>thn (ha pins s1 σ H1 _ I1 q) fun ov s2 ⟨x,H2,I2,rx,a,C,dx,fs,ex,ea,c,n,l,q2⟩=>?_) hs
 subst ex
 obtain rfl:ov = Value.ref a:=rx
 exact setattr_ok I2 ea c n l ry fun s3 I3=>⟨σ,_,I3,q2⟩
theorem ps_fldaug {op:Operator} {rd:V→V→Hp→VK→Prop} (ha:PE X o ta) (hv:PE X value tv) (hop:InOp X op rd):PS X (.AugAssign (.Attribute o f tpos) op value pos) (sFldAug X.K ta tv rd f):=by
 intro pins s σ H D I h
 refine wpAny_AugAssign_AttributeAny (thn (ha pins s σ H _ I h) fun ov s1 ⟨x,H1,I1,rx,a,C,dx,fs,v,ex,ea,c,n,l,q⟩=>?_)
 subst ex
 obtain rfl:ov = Value.ref a:=rx
 refine getattr_ok I1 ea c n l fun u s2 I2 ru=>thn (hv pins s2 σ H1 _ I2 q) fun w3 s3 ⟨y,H2,I3,ry,q3⟩=>thn (hop pins s3 σ H2 v y u w3 _ I3 ru ry q3) fun w4 s4 ⟨z,H3,I4,rz,dx',fs',ea',l',q4⟩=>?_
 exact setattr_ok I4 ea' c n l' rz fun s5 I5=>⟨σ,_,I5,q4⟩
inductive rAdd (x y:V) (H:Hp) (Q:VK):Prop
 | mk (i j:Int) (_:x = .int i) (_:y = .int j) (_:Q (.int (i + j)) H)
theorem in_add:InOp X .Add rAdd:=by
 rintro pins s σ H x y u v Q I rx ry ⟨i,j,rfl,rfl,q⟩
 obtain ⟨t,rfl⟩:=(show ∃ t,u = Value.int i t from rx)
 obtain ⟨t',rfl⟩:=(show ∃ t',v = Value.int j t' from ry)
 exact PyProof.Rows.iadd_int ⟨.int (i + j),H,I.tok _,⟨_,rfl⟩,q⟩
end
structure Room (k:Nat) (A:Around):Prop where
 hd:A.handled = none
 dp:A.depth + 3 * k + 5 < recursionLimit
 un:A.units + 16 * k + 200 < cLine
theorem Room.mono {j k:Nat} {A:Around} (r:Room k A) (h:j ≤ k):Room j A:=⟨r.hd,by have:=r.dp; omega,by have:=r.un; omega⟩
theorem Room.deeper {k:Nat} {A:Around} (r:Room (k + 1) A) (env:Env):Room k (A.deeper env) :=
 ⟨r.hd,by have:=r.dp; show A.depth + 1 + 3 * k + 5 < _; omega,by have:=r.un; show A.units + 3 + 16 * k + 200 < _; omega⟩
theorem make_depth {A:Around} {C:Addr} {us:List Value} {kw:List (Str × Value)}:(A.under (.builtin "type.__call__" ⟨.ref C :: us,kw⟩)).depth = A.depth + 1:=by
 first | rfl | simp [Around.under,Code.weight,Code.isCreation,Code.isGuard,Code.isCaller,Code.frames,Code.isFrame,guardIds]
theorem make_units {A:Around} {C:Addr} {us:List Value} {kw:List (Str × Value)}:(A.under (.builtin "type.__call__" ⟨.ref C :: us,kw⟩)).units = A.units + 1:=by
 first | rfl | simp [Around.under,Code.cUnits,Code.frames,Code.isFrame]
theorem Room.make {k:Nat} {A:Around} (r:Room (k + 1) A) (C:Addr) (us:List Value) (kw:List (Str × Value)):Room k (A.under (.builtin "type.__call__" ⟨.ref C :: us,kw⟩)) :=
 ⟨r.hd,by have:=r.dp; rw [make_depth]; omega,by have:=r.un; rw [make_units]; omega⟩
theorem Room.depth {k:Nat} {A:Around} (r:Room k A):A.depth < recursionLimit:=by have:=r.dp; omega
theorem Room.units {k:Nat} {A:Around} (r:Room k A):A.units + 64 < cLine:=by have:=r.un; omega
def tNil:TA:=fun _ H Q=>Q [] H
def tCons (ta:TE) (tr:TA):TA:=fun σ H Q=>ta σ H fun x H1=>tr σ H1 fun xs H2=>Q (x :: xs) H2
section
variable {X:Cx} {e:Expr} {es:List Expr} {te:TE} {t:TA} {pos:Pos}
theorem pa_nil:PA X [] tNil:=fun _ _ _ _ H Q I h=>Calls.spliced_nil ⟨[],H,I,.nil,h⟩
theorem pa_cons (ha:PE X e te) (hr:PA X es t) (hs:starEach (e :: es) X.env = (false,eval e X.env) :: starEach es X.env:=by rfl):PA X (e :: es) (tCons te t):=by
 intro pos pins s σ H Q I h
 rw [hs]
 show wpAny _ _ (spliced ((false,eval e X.env) :: backTo pos (starEach es X.env))) _ _ s
 refine Calls.spliced_cons (thn (ha pins s σ H _ I h) fun u s1 ⟨x,H1,I1,r1,q1⟩=>?_)
 exact thn (hr pos pins s1 σ H1 _ I1 q1) fun us s2 ⟨xs,H2,I2,r2,q2⟩=>⟨x :: xs,H2,I2,.cons r1 r2,q2⟩
def tTup (t:TA):TE:=fun σ H Q=>t σ H fun xs H1=>xs.length ≤ sizeLine∧∀ p,H1 p = none→Q (.ref p) (upd H1 p (.tup xs))
def tLst (t:TA):TE:=fun σ H Q=>t σ H fun xs H1=>xs.length ≤ sizeLine∧∀ p,H1 p = none→Q (.ref p) (upd H1 p (.lst xs))
theorem pe_tup {x1} (h:PA X es t):PE X (.Tuple es x1 pos) (tTup t):=by
 intro pins s σ H Q I hq
 refine wpAny_Tuple_spliced (thn (h pos pins s σ H _ I hq) fun us s1 ⟨xs,H1,I1,r,z,q⟩=>⟨by rw [← r.length]; exact z,?_⟩)
 have hf:H1 s1.heap.objs.size = none:=I1.hok.fresh (Nat.le_refl _)
 refine ⟨.ref s1.heap.objs.size,upd H1 s1.heap.objs.size (.tup xs),I1.laid (t':=s1.toks) (fun b u e=>Heap.get?_push_of_some _ e) (Nat.le_refl _) ?_,rfl,q _ hf⟩
 exact ⟨z,us,r,⟨_,Heap.get?_push_size _ rfl,rfl,_,rfl⟩⟩
theorem pe_lst (h:PA X es t):PE X (.List es pos) (tLst t):=by
 intro pins s σ H Q I hq
 refine wpAny_List_spliced (thn (h pos pins s σ H _ I hq) fun us s1 ⟨xs,H1,I1,r,z,q⟩=>⟨by rw [← r.length]; exact z,?_⟩)
 have hf:H1 s1.heap.objs.size = none:=I1.hok.fresh (Nat.le_refl _)
 refine ⟨.ref s1.heap.objs.size,upd H1 s1.heap.objs.size (.lst xs),I1.laid (t':=s1.toks) (fun b u e=>Heap.get?_push_of_some _ e) (Nat.le_refl _) ?_,rfl,q _ hf⟩
 exact ⟨z,us,0,r,Heap.get?_push_size _ rfl⟩
end
abbrev Sp:=List V→Hp→VK→XK→Prop
abbrev CXT:=List Env→Hp→Shared→XK→Value→Shared→Prop
structure Env0 (P:Program) (w:World) (K:PySem.W.Frag) (mg:Str→Option Value) (base:Heap) (A:Around) (outer:List Env) (s:Shared) (H:Hp):Prop where
 frames:A.frames = some outer
 mod:Mod K mg base
 bs:∀ b o,base.get? b = some o→s.heap.get? b = some o∧H b = none
 bsz:base.objs.size ≤ s.heap.objs.size
 funs:s.heap.FunFrames base outer
 frf:∀ b ∈ frs outer,H b = none
 hok:HOk P w H s.heap
 bare:AllBare s.gens
inductive CE (outer:List Env) (P:Program) (w:World) (H:Hp) (s:Shared) (Q:VK) (u:Value) (s':Shared):Prop
 | mk (v:V) (H':Hp) (_:s'.os = s.os) (_:AllBare s'.gens) (_:Un (frs outer) [] H H' s.heap s'.heap) (_:HOk P w H' s'.heap) (_:RelV v u) (_:Q v H')
def CR (CX:CXT) (outer:List Env) (P:Program) (w:World) (H:Hp) (s:Shared) (Q:VK) (E:XK) (r:Result) (s':Shared):Prop :=
 match r with
 | .ok (.ret u)=>CE outer P w H s Q u s'
 | .ok _=>False
 | .error e=>CX outer H s E e s'
structure FnOk (P:Program) (w:World) (K:PySem.W.Frag) (mg:Str→Option Value) (base:Heap) (CX:CXT) (k:Nat) (f:Addr) (fd:FuncData) (ps:List Str) (sp:Sp):Prop where
 len:∀ vs H Q E,sp vs H Q E→vs.length = ps.length
 run:∀ (A:Around) (outer:List Env) (s:Shared) (H:Hp) (args:Args) (us:List Value) (vs:List V) (Q:VK) (E:XK),Room k A→Env0 P w K mg base A outer s H→BindsTo s fd args (ps.zip us)→Vals vs us→sp vs H Q E →
  codeAny (model P w) A (.call (.ref f) args) (CR CX outer P w H s Q E) s
theorem FnOk.mono {P:Program} {w:World} {K:PySem.W.Frag} {mg:Str→Option Value} {base:Heap} {CX:CXT} {j k:Nat} {f:Addr} {fd:FuncData} {ps:List Str} {sp:Sp} (F:FnOk P w K mg base CX j f fd ps sp) (h:j ≤ k) :
  FnOk P w K mg base CX k f fd ps sp:=⟨F.len,fun A outer s H args us vs Q E hr=>F.run A outer s H args us vs Q E (hr.mono h)⟩
theorem Env0.make {P:Program} {w:World} {K:PySem.W.Frag} {mg:Str→Option Value} {base:Heap} {A:Around} {outer:List Env} {s:Shared} {H:Hp} (e:Env0 P w K mg base A outer s H) (C:Addr) (us:List Value) (kw:List (Str × Value)) :
  Env0 P w K mg base (A.under (.builtin "type.__call__" ⟨.ref C :: us,kw⟩)) outer s H:=⟨by first | exact e.frames | (simpa [Around.under,Code.envs,Code.isFrame,pushEnvs] using e.frames),e.mod,e.bs,e.bsz,e.funs,e.frf,e.hok,e.bare⟩
section
variable {X:Cx} {pins:List (Addr × Obj)} {σ:St} {H:Hp} {s s':Shared}
theorem Inv.env0 (I:Inv X pins σ H s):Env0 X.prog X.w X.K X.mg X.base X.A X.stack s H :=
 ⟨I.ok.frames,I.ok.mod,I.bs,Nat.le_trans I.ok.bsz I.sz,I.stack,I.stkFree,I.hok,I.bare⟩
theorem Inv.after {Q:VK} {u:Value} (I:Inv X pins σ H s) (h:CE X.stack X.prog X.w H s Q u s'):EP X pins σ Q u s':=by
 obtain ⟨v,H',os,bare,un,hok,r,q⟩:=h
 obtain ⟨hh,g,d,t,os'⟩:=s'
 obtain rfl:os' = s.os:=os
 exact ⟨v,H',I.call (h':=hh) (g':=g) (d':=d) (t':=t) (ch:=[]) un hok bare (fun b z=>absurd z (by simp)),r,q⟩
end
def tCall (sp:Sp) (dvs:List V) (E:XK) (t:TA):TE:=fun σ H Q=>t σ H fun vs H1=>sp (vs ++ dvs) H1 Q E
inductive MethI (C:Addr) (m:Str) (F:Prop) (x:V) (H1:Hp)  : Prop
 | mk (a dx:Addr) (fs:List (Str × V)) (_:x = .ref a) (_:H1 a = some (.ins C dx fs)) (_:fs.lookup m = none) (_:F)
def tMeth (C:Addr) (m:Str) (sp:Sp) (dvs:List V) (E:XK) (ta:TE) (t:TA):TE:=fun σ H Q=>ta σ H fun x H1=>MethI C m (t σ H1 fun vs H2=>sp (x :: (vs ++ dvs)) H2 Q E) x H1
def tMake (C:Addr) (sp:Sp) (dvs:List V) (E:XK) (t:TA):TE:=fun σ H Q=>t σ H fun vs H1=>∀ x dx,H1 x = none→H1 dx = none→dx ≠ x →
 sp (.ref x :: (vs ++ dvs)) (upd (upd H1 dx (.own x)) x (.ins C dx [])) (fun v H2=>v = .non∧Q (.ref x) H2) E
def Binds (K:PySem.W.Frag) (fd:FuncData) (ps:List Str) (ds:List Value):Prop :=
 ∀ (s:Shared) (us:List Value),K.In s.heap→(us ++ ds).length = ps.length→BindsTo s fd ⟨us,[]⟩ (ps.zip (us ++ ds))
theorem Binds.all {K:PySem.W.Frag} {fd:FuncData} {ps:List Str} (h:∀ us:List Value,us.length = ps.length→bindArgs fd ⟨us,[]⟩ = pure (ps.zip us)):Binds K fd ps []:=fun s us _ hl=>by
 rw [List.append_nil] at hl ⊢
 exact .of_eq (h us hl)
def Passes (CX:CXT) (X:Cx) (E:XK):Prop:=∀ (pins:List (Addr × Obj)) (σ:St) (H:Hp) (s:Shared) (e:Value) (s':Shared),Inv X pins σ H s→CX X.stack H s E e s'→X.xe e s'
section
variable {X:Cx} {CX:CXT} {k:Nat} {f C:Addr} {fd:FuncData} {ps:List Str} {sp:Sp} {dvs:List V} {ds:List Value} {E:XK} {x m:Str} {p pos apos:Pos} {e o:Expr} {es:List Expr} {ta:TE} {t:TA}
theorem run_fn {pins:List (Addr × Obj)} {σ:St} {H:Hp} {s:Shared} {Q:VK} {us:List Value} {vs:List V} (F:FnOk X.prog X.w X.K X.mg X.base CX k f fd ps sp) (hr:Room k X.A) (hb:Binds X.K fd ps ds) (hd:Vals dvs ds) (hx:Passes CX X E)
  (I:Inv X pins σ H s) (r:Vals vs us) (h:sp (vs ++ dvs) H Q E):wpAny (model X.prog X.w) X.A (call (.ref f) us) (EP X pins σ Q) X.xe s:=by
 have r2:Vals (vs ++ dvs) (us ++ ds):=r.append hd
 have hl:(us ++ ds).length = ps.length:=by rw [← r2.length]; exact F.len _ _ _ _ h
 refine wpAny_call (codeAny_mono (F.run X.A X.stack s H ⟨us,[]⟩ (us ++ ds) (vs ++ dvs) Q E hr I.env0 (hb s us I.kIn hl) r2 h) fun r s' hq=>?_)
 cases r with
 | error e=>exact hx pins σ H s e s' I hq
 | ok fl =>
  cases fl with
  | ret u=>exact I.after hq
  | next=>exact False.elim hq
  | brk=>exact False.elim hq
  | cont=>exact False.elim hq
theorem pe_call (F:FnOk X.prog X.w X.K X.mg X.base CX k f fd ps sp) (hr:Room k X.A) (hg:Gl X x) (hm:X.mg x = some (.ref f)) (hk:PySem.W.keepIn X.K (.ref f) = true) (hb:Binds X.K fd ps ds) (hd:Vals dvs ds) (hx:Passes CX X E)
  (ha:PA X (e :: es) t) (hdb:(x == ("__debug__":Str)) = false:=by decide) (he:starEach (e :: es) X.env = (false,eval e X.env) :: starEach es X.env:=by rfl) (hpl:(backTo pos (starEach es X.env)).any (·.1) = false:=by rfl) :
  PE X (.Call (.Name x p) (e :: es) [] pos) (tCall sp dvs E t):=by
 intro pins s σ H Q I h
 refine wpAny_Call_Name_kw (ld_glob I hg hm ?_ hdb)
 refine PySem.W.callWith_K (h₀:=X.base) I.ok.mod.kin hk (thn (ha pos pins s σ H _ I h) fun us s1 ⟨vs,H1,I1,r,q⟩=>⟨I1.kIn,?_⟩) he hpl
 exact run_fn F hr hb hd hx I1 r q
theorem pe_meth {pl:Sem Bool} (he:PE X o ta) (c:Cls X.K C) (hm:Meth X.K C m f) (F:FnOk X.prog X.w X.K X.mg X.base CX k f fd ps sp) (hr:Room k X.A) (hb:Binds X.K fd ps ds) (hd:Vals dvs ds) (hx:Passes CX X E) (ha:PA X (e :: es) t)
  (hst:starEach (e :: es) X.env = (false,eval e X.env) :: starEach es X.env:=by rfl) (hpl:(backTo pos (starEach es X.env)).any (·.1) = false:=by rfl)
  (ht:eval (.Call (.Attribute o m apos) (e :: es) [] pos) X.env = (do
   let ov ← eval o X.env
   standAt apos.atName
   let (f,first) ← holding [ov] (getMethod ov m pl)
   callWith pos f first (backTo pos (starEach (e :: es) X.env)) (backToKw pos (keywordEach [] X.env))):=by rfl) :
  PE X (.Call (.Attribute o m apos) (e :: es) [] pos) (tMeth C m sp dvs E ta t):=by
 intro pins s σ H Q I h
 refine PySem.W.methodCall_KW (pl:=pl) (thn (he pins s σ H _ I h) fun u s1 ⟨x,H1,I1,rx,a,dx,fs,ex,ea,l,q⟩=>?_) ht
 subst ex
 obtain rfl:u = Value.ref a:=rx
 refine getmeth_ok I1 ea c hm l ?_
 refine PySem.W.callWith_K (first:=[.ref a]) (h₀:=X.base) I.ok.mod.kin hm.kp (thn (ha pos pins s1 σ H1 _ I1 q) fun us s2 ⟨vs,H2,I2,r,q2⟩=>⟨I2.kIn,?_⟩) hst hpl
 exact run_fn (us:=.ref a :: us) (vs:=.ref a :: vs) F hr hb hd hx I2 (.cons rfl r) q2
theorem pe_meth0 {pl:Sem Bool} (he:PE X o ta) (c:Cls X.K C) (hm:Meth X.K C m f) (F:FnOk X.prog X.w X.K X.mg X.base CX k f fd ps sp) (hr:Room k X.A) (hb:Binds X.K fd ps ds) (hd:Vals dvs ds) (hx:Passes CX X E)
  (ht:eval (.Call (.Attribute o m apos) [] [] pos) X.env = (do
   let ov ← eval o X.env
   standAt apos.atName
   let (f,first) ← holding [ov] (getMethod ov m pl)
   callWith pos f first (backTo pos (starEach [] X.env)) (backToKw pos (keywordEach [] X.env))):=by rfl) :
  PE X (.Call (.Attribute o m apos) [] [] pos) (tMeth C m sp dvs E ta tNil):=by
 intro pins s σ H Q I h
 refine PySem.W.methodCall_KW (pl:=pl) (thn (he pins s σ H _ I h) fun u s1 ⟨x,H1,I1,rx,a,dx,fs,ex,ea,l,q⟩=>?_) ht
 subst ex
 obtain rfl:u = Value.ref a:=rx
 refine getmeth_ok I1 ea c hm l ?_
 exact PySem.W.callWith_K0 (first:=[.ref a]) I1.kIn hm.kp (run_fn (us:=[.ref a]) (vs:=[.ref a]) F hr hb hd hx I1 (.cons rfl .nil) q)
structure Mk (K:PySem.W.Frag) (C f:Addr):Prop where
 makes:PySem.W.makesIn K C = true
 init:PySem.W.findIn K (.ref C) "__init__" = some (some (.ref f))
 fn:PySem.W.isFn K (.ref f) = true
 kp:PySem.W.keepIn K (.ref C) = true
theorem run_make {pins:List (Addr × Obj)} {σ:St} {H:Hp} {s:Shared} {Q:VK} {us:List Value} {vs:List V} (M:Mk X.K C f) (F:FnOk X.prog X.w X.K X.mg X.base CX k f fd ps sp) (hr:Room (k + 1) X.A) (hb:Binds X.K fd ps ds) (hd:Vals dvs ds)
  (hx:Passes CX X E) (I:Inv X pins σ H s) (r:Vals vs us)
  (h:∀ x dx,H x = none→H dx = none→dx ≠ x→sp (.ref x :: (vs ++ dvs)) (upd (upd H dx (.own x)) x (.ins C dx [])) (fun v H2=>v = .non∧Q (.ref x) H2) E) :
  wpAny (model X.prog X.w) X.A (call (.ref C) us) (EP X pins σ Q) X.xe s:=by
 have hq:=h (s.heap.objs.size + 1) s.heap.objs.size (I.hok.fresh (Nat.le_succ _)) (I.hok.fresh (Nat.le_refl _)) (Nat.ne_of_lt (Nat.lt_succ_self _))
 have I2:=Inv.made (C:=C) I
 have r2:Vals (V.ref (s.heap.objs.size + 1) :: (vs ++ dvs)) (Value.ref (s.heap.objs.size + 1) :: (us ++ ds)):=.cons rfl (r.append hd)
 have hl:(Value.ref (s.heap.objs.size + 1) :: us ++ ds).length = ps.length:=by
  have e:=r2.length
  rw [F.len _ _ _ _ hq] at e
  exact e.symm
 refine wpAny_call (make_map (f:=f) I.kIn M.makes M.init (beq_iff_eq.mp M.fn) (codeAny_mono (F.run _ X.stack _ _ ⟨Value.ref (s.heap.objs.size + 1) :: us,[]⟩ (Value.ref (s.heap.objs.size + 1) :: (us ++ ds)) _ _ E (hr.make C us [])
  (I2.env0.make C us []) (hb _ (Value.ref (s.heap.objs.size + 1) :: us) I2.kIn hl) r2 hq) fun r s' hq'=>?_))
 cases r with
 | error e=>exact hx pins σ _ _ e s' I2 hq'
 | ok fl =>
  cases fl with
  | ret u =>
   obtain ⟨v,H',I3,rv,ev,q3⟩:=I2.after hq'
   subst ev
   exact ⟨rv,⟨V.ref (s.heap.objs.size + 1),H',I3,rfl,q3⟩⟩
  | next=>exact False.elim hq'
  | brk=>exact False.elim hq'
  | cont=>exact False.elim hq'
theorem pe_make (M:Mk X.K C f) (F:FnOk X.prog X.w X.K X.mg X.base CX k f fd ps sp) (hr:Room (k + 1) X.A) (hg:Gl X x) (hm:X.mg x = some (.ref C)) (hb:Binds X.K fd ps ds) (hd:Vals dvs ds) (hx:Passes CX X E)
  (ha:PA X (e :: es) t) (hdb:(x == ("__debug__":Str)) = false:=by decide) (he:starEach (e :: es) X.env = (false,eval e X.env) :: starEach es X.env:=by rfl) (hpl:(backTo pos (starEach es X.env)).any (·.1) = false:=by rfl) :
  PE X (.Call (.Name x p) (e :: es) [] pos) (tMake C sp dvs E t):=by
 intro pins s σ H Q I h
 refine wpAny_Call_Name_kw (ld_glob I hg hm ?_ hdb)
 refine PySem.W.callWith_K (h₀:=X.base) I.ok.mod.kin M.kp (thn (ha pos pins s σ H _ I h) fun us s1 ⟨vs,H1,I1,r,q⟩=>⟨I1.kIn,?_⟩) he hpl
 exact run_make M F hr hb hd hx I1 r q
theorem pe_make0 (M:Mk X.K C f) (F:FnOk X.prog X.w X.K X.mg X.base CX k f fd ps sp) (hr:Room (k + 1) X.A) (hg:Gl X x) (hm:X.mg x = some (.ref C)) (hb:Binds X.K fd ps ds) (hd:Vals dvs ds) (hx:Passes CX X E)
  (hdb:(x == ("__debug__":Str)) = false:=by decide):PE X (.Call (.Name x p) [] [] pos) (tMake C sp dvs E tNil):=by
 intro pins s σ H Q I h
 refine wpAny_Call_Name_kw (ld_glob I hg hm ?_ hdb)
 exact PySem.W.callWith_K0 I.kIn M.kp (run_make (us:=[]) M F hr hb hd hx I .nil h)
end
structure FnScope (N P:List Str) (sc:Scope):Prop where
 kind:sc.kind = .function
 co:sc.isCoroutine = false
 gen:sc.isGenerator = false
 nd:N.Nodup
 pre:N.take P.length = P
 par:∀ x ∈ P,sc.names.lookup x = some .local ∨ sc.names.lookup x = some .cell
 nofree:∀ y ∈ sc.names,y.2 ≠ .free
theorem bindL_out {kindOf:Str→Option NameKind} {x:Str}:∀ {binds:List (Str × Value)} {m:Str→Option Value},(∀ v,(x,v) ∉ binds)→bindL kindOf binds m x = m x
 | [],_,_=>rfl
 | (n,v) :: r,m,h=>by
  unfold bindL
  rw [bindL_out fun w hw=>h w (List.mem_cons_of_mem _ hw)]
  split
  ·have:x ≠ n:=by rintro rfl; exact h v List.mem_cons_self
   simp [this]
  ·rfl
theorem bindC_out {kindOf:Str→Option NameKind} {x:Str}:∀ {binds:List (Str × Value)} {m:Str→Option Value},(∀ v,(x,v) ∉ binds)→bindC kindOf binds m x = m x
 | [],_,_=>rfl
 | (n,v) :: r,m,h=>by
  unfold bindC
  rw [bindC_out fun w hw=>h w (List.mem_cons_of_mem _ hw)]
  split
  ·rfl
  ·have:x ≠ n:=by rintro rfl; exact h v List.mem_cons_self
   simp [this]
theorem bindL_get {kindOf:Str→Option NameKind} {x:Str} {v:Value}:∀ {P:List Str} {vs:List Value} {i:Nat} {m:Str→Option Value},P.Nodup→P[i]? = some x→vs[i]? = some v→kindOf x = some .local →
  bindL kindOf (P.zip vs) m x = some v
 | [],_,_,_,_,h,_,_=>by simp at h
 | _ :: _,[],_,_,_,_,h,_=>by simp at h
 | p :: P,w :: vs,0,m,nd,h1,h2,hk=>by
  simp at h1 h2; subst h1; subst h2
  show bindL kindOf ((p,w) :: P.zip vs) m p = _
  unfold bindL
  rw [bindL_out fun v hv=>(List.nodup_cons.mp nd).1 (List.of_mem_zip hv).1,if_pos hk]
  simp
 | p :: P,w :: vs,i + 1,m,nd,h1,h2,hk=>by
  show bindL kindOf ((p,w) :: P.zip vs) m x = _
  unfold bindL
  exact bindL_get (i:=i) (List.nodup_cons.mp nd).2 (by simpa using h1) (by simpa using h2) hk
theorem bindC_get {kindOf:Str→Option NameKind} {x:Str} {v:Value}:∀ {P:List Str} {vs:List Value} {i:Nat} {m:Str→Option Value},P.Nodup→P[i]? = some x→vs[i]? = some v→kindOf x ≠ some .local →
  bindC kindOf (P.zip vs) m x = some v
 | [],_,_,_,_,h,_,_=>by simp at h
 | _ :: _,[],_,_,_,_,h,_=>by simp at h
 | p :: P,w :: vs,0,m,nd,h1,h2,hk=>by
  simp at h1 h2; subst h1; subst h2
  show bindC kindOf ((p,w) :: P.zip vs) m p = _
  unfold bindC
  rw [bindC_out fun v hv=>(List.nodup_cons.mp nd).1 (List.of_mem_zip hv).1,if_neg hk]
  simp
 | p :: P,w :: vs,i + 1,m,nd,h1,h2,hk=>by
  show bindC kindOf ((p,w) :: P.zip vs) m x = _
  unfold bindC
  exact bindC_get (i:=i) (List.nodup_cons.mp nd).2 (by simpa using h1) (by simpa using h2) hk
def start (N:List Str) (vs:List V):St:=vs.map some ++ List.replicate (N.length - vs.length) none
def cxOf (CX:CXT) (P:Program) (w:World) (K:PySem.W.Frag) (mg:Str→Option Value) (base:Heap) (N:List Str) (qual:Str) (scope:Scope) (f:Addr) (cd:Value) (A:Around) (outer:List Env) (s:Shared) (H:Hp) (E:XK):Cx where
 prog:=P
 w:=w
 K:=K
 mg:=mg
 base:=base
 A:=A.deeper (envOfC qual scope s.heap.objs.size f cd)
 N:=N
 s_0:=s
 H_0:=H
 env:=envOfC qual scope s.heap.objs.size f cd
 outer:=outer
 stack:=envOfC qual scope s.heap.objs.size f cd :: outer
 ex:=[]
 calm:=true
 fn:=fun _=>true
 pn:=[]
 xe:=fun e s'=>wpAny (model P w) (A.deeper (envOfC qual scope s.heap.objs.size f cd)) (leaving (envOfC qual scope s.heap.objs.size f cd) e) (fun _ s''=>CX outer H s E e s'') (fun e' s''=>CX outer H s E e' s'') s'
theorem cell_has {sc:Scope} {n:Nat} {x:Str} (h:sc.names.lookup x = some .cell):∃ c,(cellsFrom n sc.names []).lookup x = some c:=by
 have q:=PySem.W.cellsFrom_some sc.names n [] (.inl h)
 exact Option.isSome_iff_exists.mp q
theorem inv_start {CX:CXT} {P:Program} {w:World} {K:PySem.W.Frag} {mg:Str→Option Value} {base:Heap} {N ps:List Str} {qual:Str} {scope:Scope} {f:Addr} {cd:Value} {A:Around} {outer:List Env} {s s1:Shared} {H:Hp} {E:XK} {us:List Value} {vs:List V}
  (S:FnScope N ps scope) (hd:A.handled = none) (e0:Env0 P w K mg base A outer s H) (hl:vs.length = ps.length) (r:Vals vs us)
  (x:InCallC s s.heap.objs.size (bindL (envOfC qual scope s.heap.objs.size f cd).kindOf (ps.zip us) fun _=>none) (cellsFrom (s.heap.objs.size + 1) scope.names []) (bindC (envOfC qual scope s.heap.objs.size f cd).kindOf (ps.zip us) fun _=>none) s1) :
  Inv (cxOf CX P w K mg base N qual scope f cd A outer s H E) [] (start N vs) H s1:=by
 have hpl:ps.length ≤ N.length:=by have:=congrArg List.length S.pre; rw [List.length_take] at this; omega
 obtain ⟨h1,tk,rfl,hk⟩:=x.done
 have noA:∀ b:Addr,b ∉ (cxOf CX P w K mg base N qual scope f cd A outer s H E).ex:=fun b z=>absurd (show b ∈ ([]:List Addr) from z) (by simp)
 refine ⟨⟨e0.mod,S.kind,rfl,rfl,Nat.le_refl _,fun y z c h1 h2=>?_,fun y hy=>?_,fun y c _ h=>?_,fun _=>hd,Around.frames_deeper e0.frames,.inr ⟨rfl,rfl⟩,fun b z=>absurd z (noA b),e0.bs,e0.bsz,fun b _ _=>noA b,fun b z=>absurd z (noA b),e0.funs,e0.frf⟩,
  rfl,e0.bare,Un.kept hk,⟨_,x.toInCall.ns,fun i y v h1 h2 h3=>?_⟩,fun y c h=>⟨_,x.cell y c h⟩,e0.hok.fresh (Nat.le_refl _),fun y c h=>?_,fun p hp=>absurd (show p ∈ ([]:List (Addr × Obj)) from hp) (by simp),e0.hok.kept hk,?_⟩
 ·exact name_of_addr x.apart (PySem.mem_of_lookup h1) (PySem.mem_of_lookup h2)
 ·have hy:scope.names.lookup y = some .cell ∨ scope.names.lookup y = some .free:=hy
  rcases hy with hy | hy
  ·exact cell_has hy
  ·exact absurd rfl (S.nofree _ (PySem.mem_of_lookup hy))
 ·exact Nat.le_of_lt (x.above y c (PySem.mem_of_lookup h))
 ·have hi:i < vs.length:=by
   unfold start at h2
   by_cases hi:i < vs.length
   ·exact hi
   ·rw [List.getElem?_append_right (by simpa using hi)] at h2
    rw [List.getElem?_replicate] at h2
    split at h2 <;> cases h2
  have ha:vs[i]? = some v:=by
   unfold start at h2
   rw [List.getElem?_append_left (by simpa using hi),List.getElem?_map] at h2
   cases e:vs[i]? with
   | none=>rw [e] at h2; cases h2
   | some a=>rw [e] at h2; cases h2; rfl
  obtain ⟨u,hu,rv⟩:=r.get ha
  have hp:ps[i]? = some y:=by
   rw [← S.pre,List.getElem?_take_of_lt (by omega)]; exact h1
  have ndP:ps.Nodup:=by rw [← S.pre]; exact S.nd.sublist (List.take_sublist _ _)
  refine ⟨u,rv,?_⟩
  rcases S.par y (List.mem_of_getElem? hp) with k | k
  ·exact .inl ⟨k,bindL_get ndP hp hu k⟩
  ·obtain ⟨c,e⟩:=cell_has (n:=s.heap.objs.size + 1) k
   refine .inr ⟨.inl k,c,e,?_⟩
   have q:=x.cell y c e
   rw [bindC_get ndP hp hu (by show scope.names.lookup y ≠ _; rw [k]; decide)] at q
   exact q
 ·exact e0.hok.fresh (Nat.le_of_lt (x.above y c (PySem.mem_of_lookup h)))
 ·unfold start
  show _ = N.length
  rw [List.length_append,List.length_map,List.length_replicate]
  omega
theorem fn_of {CX:CXT} {P:Program} {w:World} {K:PySem.W.Frag} {mg:Str→Option Value} {base:Heap} {k:Nat} {f:Addr} {name qual:Str} {params:Arguments} {body:List Stmt} {scope:Scope} {dV kV doc pm cdv ct oc:Value} {an od:Option Addr}
  {osl:Array (Option Value)} {N ps:List Str} {sp:Sp} (lk:K.lookup f = some ⟨oc,od,.func (PySem.W.fnOf name qual params body scope dV kV doc pm an cdv ct),osl⟩) (hcd:PySem.W.codeIn K cdv qual = true) (S:FnScope N ps scope)
  (len:∀ vs H Q E,sp vs H Q E→vs.length = ps.length)
  (hbody:∀ (A:Around) (outer:List Env) (s:Shared) (H:Hp) (vs:List V) (Q:VK) (E:XK),Room k (A.deeper (envOfC qual scope s.heap.objs.size f cdv))→sp vs H Q E →
   ∃ t,PSs (cxOf CX P w K mg base N qual scope f cdv A outer s H E) body t∧t { nx:=fun _ H'=>Q .non H',rt:=Q } (start N vs) H) :
  FnOk P w K mg base CX (k + 1) f (PySem.W.fnOf name qual params body scope dV kV doc pm an cdv ct) ps sp:=by
 refine ⟨len,fun A outer s H args us vs Q E hr e0 hb r hsp=>?_⟩
 have hl:=len _ _ _ _ hsp
 have KX:K.In s.heap:=e0.mod.kin.keeps fun b o e=>(e0.bs b o e).1
 have lim:s.heap.NoLimit:=e0.mod.nolimit.keeps fun b o e=>(e0.bs b o e).1
 have hkind:∀ y ∈ ps.zip us,scope.names.lookup y.1 = some .local ∨ (scope.names.lookup y.1 = some .cell∧((cellsFrom (s.heap.objs.size + 1) scope.names []).lookup y.1).isSome = true):=fun ⟨n,v⟩ hy=>by
  rcases S.par n (List.of_mem_zip hy).1 with q | q
  ·exact .inl q
  ·exact .inr ⟨q,PySem.W.cellsFrom_some _ _ _ (.inl q)⟩
 refine codeAny_call_function hr.depth (KX _ _ lk) rfl S.co S.gen rfl (PySem.W.codeRec_of KX hcd) (hb _ _ _ _ ?_)
 refine wpAny_newFunctionEnv_cells S.kind hkind fun env he s1 x=>?_
 subst he
 refine ⟨lim.keeps x.toInCall.keep,codeAny_func ?_⟩
 obtain ⟨t,ht,hq⟩:=hbody A outer s H vs Q E (hr.deeper _) hsp
 have I:Inv (cxOf CX P w K mg base N qual scope f cdv A outer s H E) [] (start N vs) H s1:=inv_start S hr.hd e0 hl r x
 refine wpAny_mono (ht [] s1 (start N vs) H _ I hq) (fun fl s' hs=>?_) fun e s' hs=>hs
 have fin:∀ {σ':St} {H':Hp} {v:V} {u:Value},Inv (cxOf CX P w K mg base N qual scope f cdv A outer s H E) [] σ' H' s'→RelV v u→Q v H'→CE outer P w H s Q u s' :=
  fun {σ' H' v u} J rv q=>⟨v,H',J.os,J.bare,J.base,J.hok,rv,q⟩
 cases fl with
 | ret u =>
  obtain ⟨v,σ',H',J,rv,q⟩:=hs
  exact fin J rv q
 | next =>
  obtain ⟨σ',H',J,q⟩:=hs
  exact fin (v:=V.non) (u:=Value.none) J rfl q
 | brk =>
  obtain ⟨_,_,_,q⟩:=hs
  exact False.elim q
 | cont =>
  obtain ⟨_,_,_,q⟩:=hs
  exact False.elim q
section
variable {X:Cx} {x:Str} {p pos:Pos} {e:Expr} {es:List Expr} {t:TA} {id T:String} {r:List V→Hp→VK→Prop}
def tCB (r:List V→Hp→VK→Prop) (t:TA):TE:=fun σ H Q=>t σ H fun vs H1=>r vs H1 Q
theorem pe_callB (hc:CallR X (.builtin id) r) (hg:Gl X x) (hm:X.mg x = none) (hv:bootBuiltins x = some (.builtin id)) (ha:PA X (e :: es) t) (hn:x ≠ "__name__":=by decide) (hdb:(x == ("__debug__":Str)) = false:=by decide)
  (he:starEach (e :: es) X.env = (false,eval e X.env) :: starEach es X.env:=by rfl) (hpl:(backTo pos (starEach es X.env)).any (·.1) = false:=by rfl):PE X (.Call (.Name x p) (e :: es) [] pos) (tCB r t):=by
 intro pins s σ H Q I h
 refine wpAny_Call_Name_kw (ld_blt I hg hm hv ?_ hn hdb)
 exact PyProof.Rows.callWith_builtin1 (thn (ha pos pins s σ H _ I h) fun us s1 ⟨vs,H1,I1,r1,q1⟩=>hc pins s1 σ H1 vs us Q I1 r1 q1) he hpl
theorem pe_callTy (hc:CallR X (.type T) r) (hg:Gl X x) (hm:X.mg x = none) (hv:bootBuiltins x = some (.type T)) (ha:PA X (e :: es) t) (hn:x ≠ "__name__":=by decide) (hdb:(x == ("__debug__":Str)) = false:=by decide)
  (he:starEach (e :: es) X.env = (false,eval e X.env) :: starEach es X.env:=by rfl) (hpl:(backTo pos (starEach es X.env)).any (·.1) = false:=by rfl):PE X (.Call (.Name x p) (e :: es) [] pos) (tCB r t):=by
 intro pins s σ H Q I h
 refine wpAny_Call_Name_kw (ld_blt I hg hm hv ?_ hn hdb)
 exact PyProof.Rows.callWith_type1 (thn (ha pos pins s σ H _ I h) fun us s1 ⟨vs,H1,I1,r1,q1⟩=>hc pins s1 σ H1 vs us Q I1 r1 q1) he hpl
end
end L2
namespace HT
open PySem PyProof.Rows
section
variable {prog:Program} {w:World} {A:Around} {E:Value→Shared→Prop} {s:Shared}
def sIx (n d:Nat):Option Int→Nat
 | none=>d
 | some v=>if v < 0 then (v + (n:Int)).toNat else min v.toNat n
theorem sIx_none (n d:Nat):sIx n d none = d:=rfl
theorem sIx_nat (n d k:Nat):sIx n d (some (k:Int)) = min k n:=by
 show (if (k:Int) < 0 then ((k:Int) + (n:Int)).toNat else min (k:Int).toNat n) = min k n
 rw [if_neg (by omega),Int.toNat_natCast]
end
end HT
namespace L2
open PySem PySem.Spec PyProof.Rows
abbrev TO:=St→Hp→(Option Int→Hp→Prop)→Prop
def PO (X:Cx) (e:Option Expr) (t:TO):Prop :=
 ∀ (pins:List (Addr × Obj)) (s:Shared) (σ:St) (H:Hp) (Q:Option Int→Hp→Prop),Inv X pins σ H s→t σ H Q →
  wpAny (model X.prog X.w) X.A (evalPart e X.env) (fun u s'=>∃ o H',Inv X pins σ H' s'∧IsPart u o∧Q o H') X.xe s
def tNoPart:TO:=fun _ H Q=>Q none H
inductive IsI (Q:Int→Prop) (x:V):Prop
 | mk (i:Int) (_:x = .int i) (_:Q i)
def tPart (t:TE):TO:=fun σ H Q=>t σ H fun x H1=>IsI (fun i=>Q (some i) H1) x
section
variable {X:Cx} {e:Expr} {te:TE} {lo hi:Option Expr} {tl th:TO} {pos p2:Pos}
theorem po_none:PO X none tNoPart:=by
 intro pins s σ H Q I h
 rw [evalPart_none]
 exact wpAny_pure ⟨none,H,I,.none,h⟩
theorem po_some (h:PE X e te):PO X (some e) (tPart te):=by
 intro pins s σ H Q I hw
 rw [evalPart_some]
 refine thn (h pins s σ H _ I hw) fun u s1 ⟨x,H1,I1,r1,q1⟩=>?_
 obtain ⟨i,rfl,q⟩:=q1
 obtain ⟨t,rfl⟩:=r1
 exact ⟨some i,H1,I1,.int i t,q⟩
def SlR (X:Cx) (r:V→Option Int→Option Int→Hp→VK→Prop):Prop :=
 ∀ (pins:List (Addr × Obj)) (s:Shared) (σ:St) (H:Hp) (x:V) (v vl vu:Value) (lo hi:Option Int) (sl:Addr) (Q:VK),Inv X pins σ H s→RelV x v→s.heap.IsSliceOf sl vl vu .none→IsPart vl lo→IsPart vu hi→r x lo hi H Q →
  ∃ T id,typeLookup (.type T) "__getitem__" = pure (some (.builtin id))∧s.TypeIs v T∧wpAny (model X.prog X.w) X.A (getItem v (.ref sl)) (EP X pins σ Q) X.xe s
def tSl (r:V→Option Int→Option Int→Hp→VK→Prop) (te:TE) (tl th:TO):TE:=fun σ H Q=>te σ H fun x H1=>tl σ H1 fun l H2=>th σ H2 fun u H3=>r x l u H3 Q
theorem pe_slice {r:V→Option Int→Option Int→Hp→VK→Prop} (hr:SlR X r) (he:PE X e te) (hl:PO X lo tl) (hu:PO X hi th):PE X (.Subscript e (.Slice lo hi none p2) pos) (tSl r te tl th):=by
 intro pins s σ H Q I h
 refine Subscript_ (thn (he pins s σ H _ I h) fun v s1 ⟨x,H1,I1,r1,q1⟩=>?_)
 refine wpAny_Slice (thn (hl pins s1 σ H1 _ I1 q1) fun vl s2 ⟨l,H2,I2,pl,q2⟩=>thn (hu pins s2 σ H2 _ I2 q2) fun vu s3 ⟨u,H3,I3,pu,q3⟩=>?_)
 rw [evalPart_none]
 refine wpAny_pure ?_
 have I4:Inv X pins σ H3 { s3 with heap:=s3.heap.push { cls:=.type "slice",data:=.fields #[vl,vu,.none] } }:=I3.kept (t':=s3.toks) fun b ob q=>Heap.get?_push_of_some _ q
 obtain ⟨T,id,hT,ht,hg⟩:=hr pins { s3 with heap:=s3.heap.push { cls:=.type "slice",data:=.fields #[vl,vu,.none] } } σ H3 x v vl vu l u s3.heap.objs.size Q I4 r1 (Heap.IsSliceOf.new ..) pl pu q3
 show wpAny (model X.prog X.w) X.A (subscriptTail e (.Slice lo hi none p2) v (.ref s3.heap.objs.size)) (EP X pins σ Q) X.xe { s3 with heap:=s3.heap.push { cls:=.type "slice",data:=.fields #[vl,vu,.none] } }
 exact tail_any (ops:=[.ref s3.heap.objs.size,v]) ht hT hg (by with_unfolding_all rfl)
def cutV (xs:List V) (lo hi:Option Int):List V:=(xs.drop (HT.sIx xs.length 0 lo)).take (HT.sIx xs.length xs.length hi - HT.sIx xs.length 0 lo)
theorem cutV_length (xs:List V) (lo hi:Option Int):(cutV xs lo hi).length ≤ xs.length:=by
 unfold cutV
 rw [List.length_take,List.length_drop]
 omega
end
def ixN (n:Nat) (i:Int):Option Nat:=if 0 ≤ i then (if i < n then some i.toNat else none) else if -(n:Int) ≤ i then some (i + n).toNat else none
def atI {α:Type} (xs:List α) (i:Int):Option α:=(ixN xs.length i).bind fun j=>xs[j]?
theorem ixN_seq {n:Nat} {i:Int} {j:Nat} (h:ixN n i = some j):seqIndex? i n = some j∧j < n∧-(n:Int) ≤ i∧i < n:=by
 unfold ixN at h
 by_cases h0:0 ≤ i
 ·rw [if_pos h0] at h
  by_cases h1:i < n
  ·rw [if_pos h1] at h
   have e:i.toNat = j:=Option.some.inj h
   exact ⟨by rw [seqIndex_of h0 h1,e],by omega,by omega,h1⟩
  ·rw [if_neg h1] at h; cases h
 ·rw [if_neg h0] at h
  by_cases h1:-(n:Int) ≤ i
  ·rw [if_pos h1] at h
   have e:(i + n).toNat = j:=Option.some.inj h
   exact ⟨by rw [seqIndex_neg (by omega) h1,e],by omega,h1,by omega⟩
  ·rw [if_neg h1] at h; cases h
theorem atI_get {α:Type} {xs:List α} {i:Int} {v:α} (h:atI xs i = some v):∃ j,seqIndex? i xs.length = some j∧xs[j]? = some v∧j < xs.length∧-(xs.length:Int) ≤ i∧i < xs.length:=by
 unfold atI at h
 cases e:ixN xs.length i with
 | none=>rw [e] at h; cases h
 | some j =>
  rw [e] at h
  obtain ⟨h1,h2,h3,h4⟩:=ixN_seq e
  exact ⟨j,h1,h,h2,h3,h4⟩
theorem atI_nat {α:Type} {xs:List α} {j:Nat} {v:α} (h:xs[j]? = some v):atI xs (j:Int) = some v:=by
 have hj:j < xs.length:=(List.getElem?_eq_some_iff.mp h).1
 have e:ixN xs.length (j:Int) = some j:=by
  unfold ixN
  rw [if_pos (by omega),if_pos (by omega)]; simp
 unfold atI; rw [e]; exact h
def PlainIx (b:Expr):Prop:=∀ o i,subscripted b false o i = operate [o,i] (getItem o i)
def IxR (X:Cx) (r:R2):Prop :=
 ∀ (value slice:Expr) (pins:List (Addr × Obj)) (s:Shared) (σ:St) (H:Hp) (x y:V) (v u:Value) (Q:VK),Inv X pins σ H s→RelV x v→RelV y u→r x y H Q →
  subscripted slice false v u = operate [v,u] (getItem v u)→wpAny (model X.prog X.w) X.A (subscriptTail value slice v u) (EP X pins σ Q) X.xe s
def MtR (X:Cx) (id:String) (r:V→List V→Hp→VK→Prop):Prop :=
 ∀ (pins:List (Addr × Obj)) (s:Shared) (σ:St) (H:Hp) (x:V) (xs:List V) (v:Value) (us:List Value) (Q:VK),Inv X pins σ H s→RelV x v→Vals xs us→r x xs H Q →
  wpAny (model X.prog X.w) X.A (call (.builtin id) (v :: us)) (EP X pins σ Q) X.xe s
section
variable {X:Cx} {a b:Expr} {ta tb:TE} {pos:Pos}
theorem pe_ix {r:R2} (hr:IxR X r) (ha:PE X a ta) (hb:PE X b tb) (hs:PlainIx b):PE X (.Subscript a b pos) (tOp r ta tb):=by
 intro pins s σ H Q I h
 exact Subscript_ (binT ha hb I h fun v u s2 x y H2 I2 rx ry q=>hr a b pins s2 σ H2 x y v u Q I2 rx ry q (hs _ _))
inductive rIxL (K:PySem.W.Frag) (x y:V) (H:Hp) (Q:VK):Prop
 | mk (p:Addr) (xs:List V) (i:Int) (v:V) (_:x = .ref p) (_:y = .int i) (_:SqL K H p xs) (_:atI xs i = some v) (_:Q v H)
inductive rIxT (K:PySem.W.Frag) (x y:V) (H:Hp) (Q:VK):Prop
 | mk (p:Addr) (xs:List V) (i:Int) (v:V) (_:x = .ref p) (_:y = .int i) (_:SqT K H p xs) (_:atI xs i = some v) (_:Q v H)
theorem ix_list:IxR X (rIxL X.K):=by
 intro value slice pins s σ H x y v u Q I rx ry h hs
 obtain ⟨p,xs,i,z,rfl,rfl,hq,he,q⟩:=h
 cases rx
 obtain ⟨t,rfl⟩:=ry
 obtain ⟨its,r,pl,hz⟩:=I.list hq
 obtain ⟨j,h1,h2,h3,h4,h5⟩:=atI_get he
 obtain ⟨w,ew,rw'⟩:=r.get h2
 have hl:=r.length
 have hn:=line63
 have fin:EP X pins σ Q w s:=⟨z,H,I,rw',q⟩
 by_cases h0:0 ≤ i
 ·have hj:i.toNat = j:=by
   rw [seqIndex_of h0 h5] at h1
   exact Option.some.inj h1
  exact item_listR pl.isList h0 (by omega) (by rw [hj]; simpa using ew) fin hs
 ·have hj:(i + (its.toArray.size:Int)).toNat = j:=by
   rw [seqIndex_neg (by omega) h4] at h1
   rw [List.size_toArray,← hl]
   exact Option.some.inj h1
  exact subscriptTail_builtinR (x:=w) pl.isList.typeIs slot_list_getitem.lookup
   (wpAny_getItem_list_neg (Q:=fun r s'=>r = w∧EP X pins σ Q r s') pl.isList (by omega) (by rw [List.size_toArray] <;> omega) (by omega) (by rw [hj]; simpa using ew) ⟨rfl,fin⟩) hs
theorem ix_tup:IxR X (rIxT X.K):=by
 intro value slice pins s σ H x y v u Q I rx ry h hs
 obtain ⟨p,xs,i,z,rfl,rfl,hq,he,q⟩:=h
 cases rx
 obtain ⟨t,rfl⟩:=ry
 obtain ⟨its,r,pl,hz⟩:=I.tuple hq
 obtain ⟨j,h1,h2,h3,h4,h5⟩:=atI_get he
 obtain ⟨w,ew,rw'⟩:=r.get h2
 have hl:=r.length
 have hn:=line63
 have fin:EP X pins σ Q w s:=⟨z,H,I,rw',q⟩
 exact subscriptTail_builtinR (x:=w) pl.typeIs slot_tuple_getitem.lookup
  (getItem_tuple (j:=j) (Q:=fun r s'=>r = w∧EP X pins σ Q r s') pl (by omega) (by omega) (by rw [List.size_toArray,← hl]; exact h1) (by simpa using ew) ⟨rfl,fin⟩) hs
theorem slice_bounds (lo hi:Option Int) (n:Nat):(sliceBounds lo hi none n).1 = ((HT.sIx n 0 lo:Nat):Int)∧(sliceBounds lo hi none n).2.1 = ((HT.sIx n n hi:Nat):Int)∧(sliceBounds lo hi none n).2.2 = 1:=by
 refine ⟨?_,?_,rfl⟩
 ·cases lo with
  | none=>simp [sliceBounds,HT.sIx]
  | some i =>
   simp only [sliceBounds,HT.sIx,Option.getD_none,show (1:Int) > 0 by decide,if_true]
   by_cases h:i < 0
   ·simp only [h,if_true] <;> omega
   ·simp only [h,if_false] <;> omega
 ·cases hi with
  | none=>simp [sliceBounds,HT.sIx]
  | some i =>
   simp only [sliceBounds,HT.sIx,Option.getD_none,show (1:Int) > 0 by decide,if_true]
   by_cases h:i < 0
   ·simp only [h,if_true] <;> omega
   ·simp only [h,if_false] <;> omega
theorem slicePick_cut (its:List Value) (lo hi:Option Int):slicePick its.toArray lo hi none = ((its.drop (HT.sIx its.length 0 lo)).take (HT.sIx its.length its.length hi - HT.sIx its.length 0 lo)).toArray:=by
 obtain ⟨h1,h2,h3⟩:=slice_bounds lo hi its.toArray.size
 unfold slicePick
 rw [h1,h2,h3]
 simp only [sliceRange_one,pick_run,List.size_toArray] <;> rfl
inductive rSlL (K:PySem.W.Frag) (x:V) (lo hi:Option Int) (H:Hp) (Q:VK):Prop
 | mk (a:Addr) (xs:List V) (_:x = .ref a) (_:SqL K H a xs) (_:∀ p,H p = none→Q (.ref p) (upd H p (.lst (cutV xs lo hi))))
theorem sl_list:SlR X (rSlL X.K):=by
 intro pins s σ H x v vl vu lo hi sl Q I rx hs pl pu h
 obtain ⟨a,xs,rfl,hx,q⟩:=h
 cases rx
 obtain ⟨its,r,ht,hz⟩:=I.list hx
 have hlen:=r.length
 refine ⟨"list",_,slot_list_getitem.lookup,ht.isList.typeIs,?_⟩
 refine wpAny_getItem_list_slice ht.isList hs pl pu .none (by simp) ?_ (by rw [List.size_toArray] <;> omega)
 rw [slicePick_cut,← hlen]
 refine ⟨.ref s.heap.objs.size,_,I.laid (t':=s.toks) (o:=.lst (cutV xs lo hi)) (fun b ob q=>Heap.get?_push_of_some _ q) (Nat.le_refl _) ?_,rfl,q _ (I.hok.fresh (Nat.le_refl _))⟩
 exact ⟨Nat.le_trans (cutV_length xs lo hi) hz,_,0,(r.drop (HT.sIx xs.length 0 lo)).take (HT.sIx xs.length xs.length hi - HT.sIx xs.length 0 lo),Heap.get?_push_size _ rfl⟩
def flatV:V→Bool
 | .non=>true
 | .bl _=>true
 | .int _=>true
 | .str _=>true
 | _=>false
def eqV:V→V→Bool
 | .non,.non=>true
 | .bl a,.bl b=>a == b
 | .bl a,.int b=>(if a then 1 else 0) == b
 | .int a,.bl b=>a == (if b then 1 else 0)
 | .int a,.int b=>a == b
 | .str a,.str b=>a == b
 | _,_=>false
theorem eqAt_V {A:Around} {s:Shared} {y x:V} {u v:Value} (ry:RelV y u) (rx:RelV x v) (fy:flatV y = true) (fx:flatV x = true):SeqAt.EqAt A s u v (eqV y x):=by
 cases y with
 | non =>
  cases ry
  cases x with
  | non=>cases rx; exact SeqAt.EqAt.same _
  | bl b=>cases rx; exact SeqAt.EqAt.none_bool b
  | int b=>obtain ⟨t,rfl⟩:=rx; exact SeqAt.EqAt.none_int b t
  | str b=>obtain ⟨t,rfl⟩:=rx; exact SeqAt.EqAt.none_str b t
  | _=>exact absurd (show false = true from fx) Bool.false_ne_true
 | bl a =>
  cases ry
  cases x with
  | non=>cases rx; exact SeqAt.EqAt.bool_none a
  | bl b=>cases rx; exact SeqAt.EqAt.bool_bool a b
  | int b=>obtain ⟨t,rfl⟩:=rx; exact SeqAt.EqAt.bool_int a b t
  | str b=>obtain ⟨t,rfl⟩:=rx; exact SeqAt.EqAt.bool_str a b t
  | _=>exact absurd (show false = true from fx) Bool.false_ne_true
 | int a =>
  obtain ⟨t',rfl⟩:=ry
  cases x with
  | non=>cases rx; exact SeqAt.EqAt.int_none a t'
  | bl b=>cases rx; exact SeqAt.EqAt.int_bool a t' b
  | int b=>obtain ⟨t,rfl⟩:=rx; exact SeqAt.EqAt.int_int a t' b t
  | str b=>obtain ⟨t,rfl⟩:=rx; exact SeqAt.EqAt.int_str a t' b t
  | _=>exact absurd (show false = true from fx) Bool.false_ne_true
 | str a =>
  obtain ⟨t',rfl⟩:=ry
  cases x with
  | non=>cases rx; exact SeqAt.EqAt.str_none a t'
  | bl b=>cases rx; exact SeqAt.EqAt.str_bool a t' b
  | int b=>obtain ⟨t,rfl⟩:=rx; exact SeqAt.EqAt.str_int a t' b t
  | str b=>obtain ⟨t,rfl⟩:=rx; exact SeqAt.EqAt.str_str a t' b t
  | _=>exact absurd (show false = true from fx) Bool.false_ne_true
 | _=>exact absurd (show false = true from fy) Bool.false_ne_true
def eqU (x:V) (u:Value):Bool:=match u with
 | .none=>eqV .non x
 | .bool b=>eqV (.bl b) x
 | .int i _=>eqV (.int i) x
 | .str z _=>eqV (.str z) x
 | _=>false
theorem eqU_of {x y:V} {u:Value} (r:RelV y u) (f:flatV y = true):eqU x u = eqV y x:=by
 cases y with
 | non=>cases r; rfl
 | bl b=>cases r; rfl
 | int i=>obtain ⟨t,rfl⟩:=r; rfl
 | str z=>obtain ⟨t,rfl⟩:=r; rfl
 | _=>exact absurd (show false = true from f) Bool.false_ne_true
theorem any_eqU {x:V}:∀ {xs:List V} {us:List Value},Vals xs us→xs.all flatV = true→us.any (eqU x) = xs.any fun y=>eqV y x
 | _,_,.nil,_=>rfl
 | y :: xs,u :: us,.cons r t,f=>by
  rw [List.all_cons,Bool.and_eq_true] at f
  rw [List.any_cons,List.any_cons,eqU_of r f.1,any_eqU t f.2]
theorem mem_eqAt {A:Around} {s:Shared} {x:V} {v:Value} (rx:RelV x v) (fx:flatV x = true):∀ {xs:List V} {us:List Value},Vals xs us→xs.all flatV = true→∀ u ∈ us,SeqAt.EqAt A s u v (eqU x u)
 | _,_,.nil,_=>fun u hu=>by cases hu
 | y :: xs,u :: us,.cons r t,f=>fun u' hu=>by
  rw [List.all_cons,Bool.and_eq_true] at f
  rcases List.mem_cons.mp hu with rfl | hu
  ·rw [eqU_of r f.1]; exact eqAt_V r rx f.1 fx
  ·exact mem_eqAt rx fx t f.2 u' hu
def inV (x:V) (xs:List V):Bool:=xs.any fun y=>eqV y x
def rIn (K:PySem.W.Frag) (neg:Bool):R2:=fun x y H Q=>∃ p xs,y = .ref p∧(SqL K H p xs ∨ SqT K H p xs)∧flatV x = true∧xs.all flatV = true∧Q (.bl (if neg then !inV x xs else inV x xs)) H
theorem op_in_seq:OpR X (compareOp .In) (rIn X.K false):=by
 intro pins s σ H x y v u Q I rx ry h
 obtain ⟨p,xs,rfl,hq,fx,fs,q⟩:=h
 cases ry
 rcases hq with hq | hq
 ·obtain ⟨its,r,pl,hz⟩:=I.list hq
  refine SeqAt.in_listAt (eqU x) pl.isList (fun w hw=>mem_eqAt rx fx r fs w (by simpa using hw)) ⟨.bl _,H,I,rfl,?_⟩
  rw [show its.toArray.any (eqU x) = its.any (eqU x) by simp,any_eqU r fs]
  exact q
 ·obtain ⟨its,r,pl,hz⟩:=I.tuple hq
  refine SeqAt.in_tupleAt (eqU x) pl (fun w hw=>mem_eqAt rx fx r fs w (by simpa using hw)) ⟨.bl _,H,I,rfl,?_⟩
  rw [show its.toArray.any (eqU x) = its.any (eqU x) by simp,any_eqU r fs]
  exact q
theorem op_notIn_seq:OpR X (compareOp .NotIn) (rIn X.K true):=by
 intro pins s σ H x y v u Q I rx ry h
 obtain ⟨p,xs,rfl,hq,fx,fs,q⟩:=h
 cases ry
 rcases hq with hq | hq
 ·obtain ⟨its,r,pl,hz⟩:=I.list hq
  refine SeqAt.notIn_listAt (eqU x) pl.isList (fun w hw=>mem_eqAt rx fx r fs w (by simpa using hw)) ⟨.bl _,H,I,rfl,?_⟩
  rw [show its.toArray.any (eqU x) = its.any (eqU x) by simp,any_eqU r fs]
  exact q
 ·obtain ⟨its,r,pl,hz⟩:=I.tuple hq
  refine SeqAt.notIn_tupleAt (eqU x) pl (fun w hw=>mem_eqAt rx fx r fs w (by simpa using hw)) ⟨.bl _,H,I,rfl,?_⟩
  rw [show its.toArray.any (eqU x) = its.any (eqU x) by simp,any_eqU r fs]
  exact q
theorem call_len_seq:CallR X (.builtin "len") (fun xs H Q=>∃ p ys,xs = [.ref p]∧(SqL X.K H p ys ∨ SqT X.K H p ys)∧Q (.int ys.length) H):=by
 intro pins s σ H xs us Q I r h
 obtain ⟨p,ys,rfl,hq,q⟩:=h
 obtain ⟨u,rfl,rx⟩:=vals1 r
 cases rx
 have hn:=line63
 rcases hq with hq | hq
 ·obtain ⟨its,r',pl,hz⟩:=I.list hq
  have hlen:=r'.length
  exact Calls.call_len_list pl.isList (by simp only [List.size_toArray] <;> omega) ⟨.int ys.length,H,I.tok _,⟨s.toks + 1,by rw [List.size_toArray,hlen]⟩,q⟩
 ·obtain ⟨its,r',pl,hz⟩:=I.tuple hq
  have hlen:=r'.length
  exact len_tuple pl (by simp only [List.size_toArray] <;> omega) ⟨.int ys.length,H,I.tok _,⟨s.toks + 1,by rw [List.size_toArray,hlen]⟩,q⟩
theorem call_tuple_of:CallR X (.type "tuple") (fun xs H Q=>∃ p ys,xs = [.ref p]∧((SqL X.K H p ys∧∀ l,H l = none→Q (.ref l) (upd H l (.tup ys))) ∨ (SqT X.K H p ys∧Q (.ref p) H))):=by
 intro pins s σ H xs us Q I r h
 obtain ⟨p,ys,rfl,h⟩:=h
 obtain ⟨u,rfl,rx⟩:=vals1 r
 cases rx
 rcases h with ⟨hq,q⟩ | ⟨hq,q⟩
 ·obtain ⟨its,r',pl,hz⟩:=I.list hq
  have hlen:=r'.length
  refine call_tuple_list pl.isList (fun h' kp=>?_) (by simp only [List.size_toArray] <;> omega)
  have I1:Inv X pins σ H { s with heap:=h' }:=I.kept (t':=s.toks) kp
  have I2:Inv X pins σ (upd H h'.objs.size (.tup ys)) { s with heap:=h'.push { cls:=.type "tuple",data:=.seq its.toArray } } :=
   I1.laid (t':=s.toks) (fun b o e=>Heap.get?_push_of_some _ e) (Nat.le_refl _) (show ObjOk X.prog X.w _ _ _ (.tup ys) from ⟨hz,its,r',IsTup.new _ _⟩)
  exact ⟨.ref h'.objs.size,_,I2,rfl,q _ (I1.hok.fresh (Nat.le_refl _))⟩
 ·obtain ⟨its,r',pl,hz⟩:=I.tuple hq
  exact call_tuple_same pl ⟨.ref p,H,I,rfl,q⟩
def tyV (K:PySem.W.Frag) (T:String) (x:V) (H:Hp):Prop:=match x with
 | .str _=>T = "str"
 | .int _=>T = "int"
 | .ref p=>(T = "list"∧∃ xs,SqL K H p xs) ∨ (T = "tuple"∧∃ o,K.lookup p = some o∧o.cls = .type "tuple"∧o.dict = none) ∨
   (T = "dict"∧((∃ kvs,H p = some (.dK kvs)) ∨ ∃ kvs,H p = some (.dT kvs))) ∨ (T = "set"∧∃ S n,H p = some (.set S n))
 | _=>False
theorem tyV_is {pins:List (Addr × Obj)} {σ:St} {H:Hp} {s:Shared} {T:String} {x:V} {v:Value} (I:Inv X pins σ H s) (r:RelV x v) (ty:tyV X.K T x H) :
  s.TypeIs v T∧∀ a,v = .ref a→∃ ob,s.heap.get? a = some ob∧ob.dict = none:=by
 cases x with
 | str z =>
  obtain ⟨t,rfl⟩:=r
  cases (show T = "str" from ty)
  exact ⟨typeIs_str s z t,fun _ e=>nomatch e⟩
 | int i =>
  obtain ⟨t,rfl⟩:=r
  cases (show T = "int" from ty)
  exact ⟨typeIs_int s i t,fun _ e=>nomatch e⟩
 | ref p =>
  cases r
  rcases ty with ⟨rfl,xs,hq⟩ | ⟨rfl,o,hk,hc,hd⟩ | ⟨rfl,hk⟩ | ⟨rfl,S,n,hk⟩
  ·obtain ⟨its,_,pl,_⟩:=I.list hq
   refine ⟨pl.isList.typeIs,fun a e=>?_⟩
   cases e
   obtain ⟨o,n,e,c,hd,_⟩:=pl
   exact ⟨o,e,hd⟩
  ·refine ⟨⟨o,I.kIn p o hk,hc⟩,fun a e=>?_⟩
   cases e
   exact ⟨o,I.kIn _ o hk,hd⟩
  ·have z:∃ o,s.heap.get? p = some o∧o.ExactDict:=by
    rcases hk with ⟨kvs,hk⟩ | ⟨kvs,hk⟩
    ·obtain ⟨_,_,_,_,o,_,_,e,ex,_⟩:=I.hok p _ hk
     exact ⟨o,e,ex⟩
    ·obtain ⟨_,_,_,_,o,_,_,e,ex,_⟩:=I.hok p _ hk
     exact ⟨o,e,ex⟩
   obtain ⟨o,e,ex⟩:=z
   refine ⟨⟨o,e,ex.1⟩,fun a e2=>?_⟩
   cases e2
   exact ⟨o,e,ex.2.1⟩
  ·obtain ⟨o,_,_,_,e,ex,_⟩:=I.hok p _ hk
   refine ⟨⟨o,e,ex.1⟩,fun a e2=>?_⟩
   cases e2
   exact ⟨o,e,ex.2.1⟩
 | _=>exact False.elim ty
def tBM (K:PySem.W.Frag) (T:String) (r:V→List V→Hp→VK→Prop) (to:TE) (t:TA):TE:=fun σ H Q=>to σ H fun x H1=>tyV K T x H1∧t σ H1 fun xs H2=>r x xs H2 Q
variable {o e:Expr} {es:List Expr} {to:TE} {t:TA} {name:Str} {apos cpos:Pos} {T id:String} {r:V→List V→Hp→VK→Prop}
theorem pe_bm (pa:PlainAttrs T) (slot:Slot T name id) (hty:typeOf (.builtin id) = pure (.type "method_descriptor")) (hm:MtR X id r) (ho:PE X o to) (ha:PA X (e :: es) t)
  (hbase:attributeBase o name X.env (eval o X.env) = eval o X.env:=by rfl)
  (hfew:((backTo cpos (starEach (e :: es) X.env)).all (fun x=>!x.1) && (backToKw cpos (keywordEach [] X.env)).all (fun x=>x.1.isSome)
   && decide ((e :: es).length + ([]:List Keyword).length + (if ([]:List Keyword).isEmpty then 0 else 1) < 30)) = true:=by rfl)
  (hline:(apos.endLine == cpos.line) = true:=by rfl) (hs:starEach (e :: es) X.env = (false,eval e X.env) :: starEach es X.env:=by rfl) (hplain:(backTo cpos (starEach es X.env)).any (·.1) = false:=by rfl) :
  PE X (.Call (.Attribute o name apos) (e :: es) [] cpos) (tBM X.K T r to t):=by
 intro pins s σ H Q I h
 refine wpAny_Call_method_late hbase hfew hline rfl (thn (ho pins s σ H _ I h) fun v s1 ⟨x,H1,I1,r1,ty,q1⟩=>?_)
 obtain ⟨h1,h2⟩:=tyV_is I1 r1 ty
 refine ⟨T,id,pa,slot,hty,h1,h2,?_⟩
 have hA:=ha cpos pins s1 σ H1 _ I1 q1
 rw [hs] at hA ⊢
 refine Calls.callWith_builtin (by show (false || (backTo cpos (starEach es X.env)).any (·.1)) = false; rw [hplain] <;> rfl) (Calls.evalArgs_plain ?_)
 exact thn hA fun us s2 ⟨vs,H2,I2,r2,q2⟩=>hm pins s2 σ H2 x vs v us Q I2 r1 r2 q2
end
def MtM (X:Cx) (id:String) (r:V→List V→Hp→VK→Prop):Prop :=
 ∀ (pins:List (Addr × Obj)) (s:Shared) (σ:St) (H:Hp) (x:V) (xs:List V) (v:Value) (us:List Value) (Q:VK),Inv X pins σ H s→RelV x v→Vals xs us→r x xs H Q →
  wpAny (model X.prog X.w) X.A (call (.builtin id) (v :: us)) (EP X pins σ Q) X.xe s
theorem Vals.zero:∀ {us:List Value},Vals [] us→us = []
 | _,.nil=>rfl
theorem Vals.inv {x:V}:∀ {xs:List V} {us:List Value},Vals (x :: xs) us→∃ u t,us = u :: t∧RelV x u∧Vals xs t
 | _,_,.cons r t=>⟨_,_,rfl,r,t⟩
theorem Vals.one {x:V} {us:List Value} (h:Vals [x] us):∃ u,us = [u]∧RelV x u:=by
 obtain ⟨u,t,rfl,r,h⟩:=h.inv
 exact ⟨u,congrArg _ h.zero,r⟩
theorem Vals.two {x y:V} {us:List Value} (h:Vals [x,y] us):∃ u v,us = [u,v]∧RelV x u∧RelV y v:=by
 obtain ⟨u,t,rfl,r,h⟩:=h.inv
 obtain ⟨v,rfl,q⟩:=h.one
 exact ⟨u,v,rfl,r,q⟩
section
variable {X:Cx} {pins:List (Addr × Obj)} {σ:St} {H:Hp} {s:Shared} {l b:Addr} {xs ys zs:List V}
theorem Inv.lset {its its':List Value} {n:Nat} {f:Array Value→Array Value} {t':Nat} (I:Inv X pins σ H s) (hH:H l = some (.lst xs))
  (e:s.heap.get? l = some { cls:=.type "list",data:=.seq its.toArray n }) (hf:f its.toArray = its'.toArray) (hv:Vals ys its') (hz:ys.length ≤ sizeLine) :
  Inv X pins σ (upd H l (.lst ys)) { s with heap:=s.heap.update l (Obj.mapSeq f),toks:=t' }:=by
 have q:=PySem.IsL.update e f
 rw [hf] at q
 refine I.write (x:=l) (e:=l) (by rw [hH]; exact trivial) (.inl rfl) (fun b' u hb hu=>(Heap.get?_update_other s.heap (Obj.mapSeq f) (Ne.symm hb)).trans hu) ⟨_,q⟩ ?_
 exact ⟨hz,its',_,hv,q⟩
theorem Inv.lnew {its:List Value} {t':Nat} (I:Inv X pins σ H s) (hv:Vals ys its) (hz:ys.length ≤ sizeLine) :
  Inv X pins σ (upd H s.heap.objs.size (.lst ys)) { s with heap:=s.heap.push { cls:=.type "list",data:=.seq its.toArray },toks:=t' } :=
 I.laid (fun _ _ q=>Heap.get?_push_of_some _ q) (Nat.le_refl _) ⟨hz,its,0,hv,Heap.get?_push_size _ rfl⟩
theorem Inv.fresh (I:Inv X pins σ H s):H s.heap.objs.size = none:=I.hok.fresh (Nat.le_refl _)
theorem Inv.lstM (I:Inv X pins σ H s) (hH:H l = some (.lst xs)):xs.length ≤ sizeLine∧∃ (its:List Value) (n:Nat),Vals xs its∧xs.length = its.length∧s.heap.get? l = some { cls:=.type "list",data:=.seq its.toArray n }:=by
 obtain ⟨z,its,n,r,e⟩:=I.hok l _ hH
 exact ⟨z,its,n,r,r.length,e⟩
theorem notLongL {n:Nat} (h:n ≤ sizeLine):Builtin.List.listTooLong n = false:=by
 unfold Builtin.List.listTooLong
 exact decide_eq_false (by omega)
end
section
variable {X:Cx}
inductive rAppend (x:V) (vs:List V) (H:Hp) (Q:VK):Prop
 | mk (l:Addr) (xs:List V) (y:V) (_:x = .ref l) (_:vs = [y]) (_:H l = some (.lst xs)) (_:xs.length < sizeLine) (_:Q .non (upd H l (.lst (xs ++ [y]))))
theorem mt_append:MtM X "list.append" rAppend:=by
 intro pins s σ H x vs v us Q I rx rv h
 obtain ⟨l,xs,y,rfl,rfl,hH,hz,q⟩:=h
 cases rx
 obtain ⟨u,rfl,ru⟩:=rv.one
 obtain ⟨z,its,n,r,hl,e⟩:=I.lstM hH
 refine call_meets F.slot_list_append ⟨_,e,rfl⟩ F.entry_list_append (F.args_list_append_2 _ _) (PySem.list_append l its.toArray n u (by rw [List.size_toArray]; omega)) ⟨e,?_⟩
 refine ⟨.non,_,I.lset (its':=its ++ [u]) hH e (by simp) (r.append (.cons ru .nil)) ?_,rfl,q⟩
 rw [List.length_append,List.length_singleton]
 omega
def rExtend:V→List V→Hp→VK→Prop:=fun x vs H Q=>∃ l b xs zs,x = .ref l∧vs = [.ref b]∧H l = some (.lst xs)∧H b = some (.lst zs)∧xs.length + zs.length ≤ sizeLine∧Q .non (upd H l (.lst (xs ++ zs)))
theorem mt_extend:MtM X "list.extend" rExtend:=by
 intro pins s σ H x vs v us Q I rx rv h
 obtain ⟨l,b,xs,zs,rfl,rfl,hH,hB,hz,q⟩:=h
 cases rx
 obtain ⟨u,rfl,ru⟩:=rv.one
 cases ru
 obtain ⟨z,its,n,r,hl,e⟩:=I.lstM hH
 obtain ⟨z2,its2,n2,r2,hl2,e2⟩:=I.lstM hB
 have hsz:its.toArray.size + its2.toArray.size ≤ sizeLine:=by rw [List.size_toArray,List.size_toArray]; omega
 have hlong:¬ (!its.toArray.isEmpty && Builtin.List.listTooLong (its.toArray.size + its2.toArray.size)) = true:=by
  rw [notLongL hsz,Bool.and_false]
  exact Bool.false_ne_true
 refine call_meets F.slot_list_extend ⟨_,e,rfl⟩ F.entry_list_extend (F.args_list_extend_2 _ _)
  (AutoSeq1.list_extend_list_list_0 l its.toArray n b its2.toArray n2 hlong (by rw [List.size_toArray]; omega) (by omega)) ⟨e,e2,?_⟩
 refine ⟨.non,_,I.lset (its':=its ++ its2) hH e (by simp) (r.append r2) ?_,rfl,q⟩
 rw [List.length_append]
 omega
def rCat:R2:=fun x y H Q=>∃ l b xs zs,x = .ref l∧y = .ref b∧H l = some (.lst xs)∧H b = some (.lst zs)∧xs.length + zs.length ≤ sizeLine∧∀ p,H p = none→Q (.ref p) (upd H p (.lst (xs ++ zs)))
theorem op_cat:OpR X (binaryOp .Add) rCat:=by
 intro pins s σ H x y v u Q I rx ry h
 obtain ⟨l,b,xs,zs,rfl,rfl,hH,hB,hz,q⟩:=h
 cases rx
 cases ry
 obtain ⟨z,its,n,r,hl,e⟩:=I.lstM hH
 obtain ⟨z2,its2,n2,r2,hl2,e2⟩:=I.lstM hB
 refine PySem.P.add_list e e2 ?_ (by rw [List.size_toArray,List.size_toArray]; omega)
 have ea:its.toArray ++ its2.toArray = (its ++ its2).toArray:=by simp
 rw [ea]
 exact ⟨.ref _,_,I.lnew (t':=s.toks) (r.append r2) (by rw [List.length_append]; omega),rfl,q _ I.fresh⟩
end
theorem Vals.bls:∀ {bs:List Bool} {us:List Value},Vals (bs.map V.bl) us→us = bs.map Value.bool
 | [],us,h=>by
  rw [List.map_nil] at h
  cases h
  rfl
 | b :: bs,us,h=>by
  rw [List.map_cons] at h
  cases h with
  | cons r t =>
   cases r
   rw [Vals.bls t,List.map_cons]
theorem Vals.ref1 {a:Addr} {us:List Value} (r:Vals [V.ref a] us):us = [Value.ref a]:=by
 cases r with
 | cons r t =>
  cases t
  cases r
  rfl
theorem iter_any {prog:Program} {w:World} {A:Around} {E:Value→Shared→Prop} {s:Shared} {l:Addr} {items:Array Value} {Q:Value→Shared→Prop} (hl:s.heap.IsList l items)
  (h:∀ s₂:Shared,s₂ = { s with heap:=s.heap.push { cls:=.type "list_iterator",data:=.fields #[.ref l,.int 0 0] } } →
   (s₂.heap.IsListIter s.heap.objs.size l 0∧s₂.heap.IsList l items)→l ≠ s.heap.objs.size→Q (.ref s.heap.objs.size) s₂):wpAny (model prog w) A (pyIter (.ref l)) Q E s:=by
 have hlt:l < s.heap.objs.size:=by obtain ⟨_,e,_⟩:=hl; exact Heap.lt_size e
 exact wpAny_pyIter_list hl (h _ rfl ⟨⟨_,Heap.get?_push_size _ rfl,rfl,rfl⟩,hl.push _⟩ (Nat.ne_of_lt hlt))
theorem truth_bools {prog:Program} {w:World} {A:Around} {bs:List Bool} {its:List Value} (e:its = bs.map Value.bool) :
  TruthOf prog w A (fun i v=>its.toArray[i]? = some v) (fun i=>bs.getD i false):=fun i v s Q E hv hq=>by
 have hv':its[i]? = some v:=by simpa using hv
 rw [e,List.getElem?_map] at hv'
 obtain ⟨b,hb,rfl⟩:=Option.map_eq_some_iff.mp hv'
 have hg:bs.getD i false = b:=by rw [List.getD_eq_getElem?_getD,hb] <;> rfl
 have hq':Q (bs.getD i false) s:=hq
 rw [hg] at hq'
 exact wpAny_truthy_bool hq'
theorem any_range:∀ bs:List Bool,(List.range bs.length).any (fun i=>bs.getD i false) = bs.any id
 | []=>rfl
 | b :: bs=>by
  rw [List.length_cons,List.range_succ_eq_map,List.any_cons,List.any_map,List.any_cons,← any_range bs]
  all_goals rfl
theorem all_range:∀ bs:List Bool,(List.range bs.length).all (fun i=>bs.getD i false) = bs.all id
 | []=>rfl
 | b :: bs=>by
  rw [List.length_cons,List.range_succ_eq_map,List.all_cons,List.all_map,List.all_cons,← all_range bs]
  all_goals rfl
section
variable {X:Cx}
def rAny (K:PySem.W.Frag):List V→Hp→VK→Prop:=fun vs H Q=>∃ (a:Addr) (bs:List Bool),vs = [V.ref a]∧SqL K H a (bs.map V.bl)∧Q (.bl (bs.any id)) H
def rAll (K:PySem.W.Frag):List V→Hp→VK→Prop:=fun vs H Q=>∃ (a:Addr) (bs:List Bool),vs = [V.ref a]∧SqL K H a (bs.map V.bl)∧Q (.bl (bs.all id)) H
theorem cr_any (hc:X.calm = true):CallR X (.builtin "any") (rAny X.K):=by
 intro pins s σ H vs us Q I r h
 obtain ⟨a,bs,rfl,hs,q⟩:=h
 obtain ⟨its,rv,hl,_⟩:=I.list hs
 rw [Vals.ref1 r]
 have hb:=rv.bls
 refine call_any_walk (iter_any hl.isList fun s₂ e2 st hne=>?_)
 subst e2
 refine ⟨_,_,_,_,_,_,_,rfl,Walks.list (A:=X.A.in1) (I.ok.hd hc) _ a hne its.toArray,st,truth_bools hb,fun h' tk hk=>?_⟩
 refine ⟨.bl _,H,I.kept fun b o eo=>hk b o (fun hmem=>?_) (Heap.get?_push_of_some _ eo),?_,q⟩
 ·rcases List.mem_cons.mp hmem with e1 | hmem
  ·exact absurd (e1 ▸ Heap.lt_size eo) (Nat.lt_irrefl _)
  ·cases hmem
 ·show Value.bool _ = Value.bool _
  rw [← any_range,hb,List.size_toArray,List.length_map]
theorem cr_all (hc:X.calm = true):CallR X (.builtin "all") (rAll X.K):=by
 intro pins s σ H vs us Q I r h
 obtain ⟨a,bs,rfl,hs,q⟩:=h
 obtain ⟨its,rv,hl,_⟩:=I.list hs
 rw [Vals.ref1 r]
 have hb:=rv.bls
 refine call_all_walk (iter_any hl.isList fun s₂ e2 st hne=>?_)
 subst e2
 refine ⟨_,_,_,_,_,_,_,rfl,Walks.list (A:=X.A.in1) (I.ok.hd hc) _ a hne its.toArray,st,truth_bools hb,fun h' tk hk=>?_⟩
 refine ⟨.bl _,H,I.kept fun b o eo=>hk b o (fun hmem=>?_) (Heap.get?_push_of_some _ eo),?_,q⟩
 ·rcases List.mem_cons.mp hmem with e1 | hmem
  ·exact absurd (e1 ▸ Heap.lt_size eo) (Nat.lt_irrefl _)
  ·cases hmem
 ·show Value.bool _ = Value.bool _
  rw [← all_range,hb,List.size_toArray,List.length_map]
end
mutual
inductive Dp (K:PySem.W.Frag) (H:Hp):V→PyData→Prop
 | non:Dp K H .non .none
 | bl (b:Bool):Dp K H (.bl b) (.bool b)
 | int (i:Int):Dp K H (.int i) (.int i)
 | str (x:Str):Dp K H (.str x) (.str x)
 | lst {a:Addr} {xs:List V} {ds:List PyData}:SqL K H a xs→DpAll K H xs ds→Dp K H (.ref a) (.list ds)
 | tup {a:Addr} {xs:List V} {ds:List PyData}:SqT K H a xs→DpAll K H xs ds→Dp K H (.ref a) (.tuple ds)
inductive DpAll (K:PySem.W.Frag) (H:Hp):List V→List PyData→Prop
 | nil:DpAll K H [] []
 | cons {v:V} {vs:List V} {d:PyData} {ds:List PyData}:Dp K H v d→DpAll K H vs ds→DpAll K H (v :: vs) (d :: ds)
end
section
variable {X:Cx} {pins:List (Addr × Obj)} {σ:St} {H:Hp} {s:Shared}
mutual
theorem Dp.reads (I:Inv X pins σ H s):∀ (d:PyData) (v:V) (u:Value),Dp X.K H v d→RelV v u→∃ as,Reads s.heap u d as
 | .none,_,_,h,r=>by
  cases h
  cases r
  exact ⟨_,Reads.none⟩
 | .bool b,_,_,h,r=>by
  cases h
  cases r
  exact ⟨_,Reads.bool b⟩
 | .int i,_,_,h,r=>by
  cases h
  obtain ⟨t,rfl⟩:=r
  exact ⟨_,Reads.int i t⟩
 | .str x,_,_,h,r=>by
  cases h
  obtain ⟨t,rfl⟩:=r
  exact ⟨_,Reads.str x t⟩
 | .list ds,_,_,h,r=>by
  cases h with
  | lst hs ha =>
   cases r
   obtain ⟨its,rv,⟨o,n,ho,hc,_,hd⟩,_⟩:=I.list hs
   obtain ⟨as,hr⟩:=Dp.readsAll I ds _ its ha rv
   exact ⟨_,Reads.list ho hc hd hr⟩
 | .tuple ds,_,_,h,r=>by
  cases h with
  | tup hs ha =>
   cases r
   obtain ⟨its,rv,⟨o,ho,hc,n,hd⟩,_⟩:=I.tuple hs
   obtain ⟨as,hr⟩:=Dp.readsAll I ds _ its ha rv
   exact ⟨_,Reads.tuple ho hc hd hr⟩
 | .dict _,_,_,h,_=>by cases h
theorem Dp.readsAll (I:Inv X pins σ H s):∀ (ds:List PyData) (vs:List V) (us:List Value),DpAll X.K H vs ds→Vals vs us→∃ as,ReadsAll s.heap us ds as
 | [],_,_,h,r=>by
  cases h
  cases r
  exact ⟨_,ReadsAll.nil⟩
 | d :: ds,_,_,h,r=>by
  cases h with
  | cons h1 h2 =>
   cases r with
   | cons r1 r2 =>
    obtain ⟨as,q1⟩:=Dp.reads I d _ _ h1 r1
    obtain ⟨bs,q2⟩:=Dp.readsAll I ds _ _ h2 r2
    exact ⟨_,ReadsAll.cons q1 q2⟩
end
end
section
variable {X:Cx}
def rEqD (K:PySem.W.Frag):R2:=fun x y H Q=>∃ d e,Dp K H x d∧Dp K H y e∧SeqAt.shaped d = true∧SeqAt.shaped e = true∧Q (.bl (PyData.eqv d e)) H
def rNeD (K:PySem.W.Frag):R2:=fun x y H Q=>∃ d e,Dp K H x d∧Dp K H y e∧SeqAt.shaped d = true∧SeqAt.shaped e = true∧Q (.bl (!PyData.eqv d e)) H
theorem op_eqD (hu:X.A.units + 64 < cLine):OpR X (compareOp .Eq) (rEqD X.K):=by
 intro pins s σ H x y v u Q I rx ry h
 obtain ⟨d,e,hd,he,sd,se,q⟩:=h
 obtain ⟨as,r1⟩:=Dp.reads I d x v hd rx
 obtain ⟨bs,r2⟩:=Dp.reads I e y u he ry
 exact SeqAt.compareEq_shaped r1 r2 sd se hu ⟨.bl _,H,I,rfl,q⟩
theorem op_neD (hu:X.A.units + 64 < cLine):OpR X (compareOp .NotEq) (rNeD X.K):=by
 intro pins s σ H x y v u Q I rx ry h
 obtain ⟨d,e,hd,he,sd,se,q⟩:=h
 obtain ⟨as,r1⟩:=Dp.reads I d x v hd rx
 obtain ⟨bs,r2⟩:=Dp.reads I e y u he ry
 exact SeqAt.compareNe_shaped r1 r2 sd se hu ⟨.bl _,H,I,rfl,q⟩
end
abbrev CellAt (h:Heap) (c:Addr) (v:Option Value):Prop:=h.IsCell c v
def relS (scope sc:Scope):Scope :=
 { scope with names:=scope.names.map fun (n,k)=>if (k == .free && sc.kind == .function && sc.names.lookup n == some .cell) then (n,.cell) else (n,k) }
def cloFrom (cells:List (Str × Addr)):List (Str × NameKind)→List (Str × Addr)→List (Str × Addr)
 | [],acc=>acc
 | (n,k) :: r,acc=>if k == .free then cloFrom cells r ((n,(cells.lookup n).getD 0) :: acc) else cloFrom cells r acc
theorem closure_loop (env:Env) (f:Str × NameKind→List (Str × Addr)→Sem (ForInStep (List (Str × Addr))))
  (hf:∀ n k c,f (n,k) c = if k == .free then (do let a ← cellOf env n; pure (.yield ((n,a) :: c))) else pure (.yield c)) :
  ∀ (names:List (Str × NameKind)) (acc:List (Str × Addr)),(∀ y ∈ names,y.2 = .free→∃ c,env.cells.lookup y.1 = some c)→forIn names acc f = pure (cloFrom env.cells names acc)
 | [],acc,_=>by rw [List.forIn_nil]; rfl
 | (n,k) :: r,acc,h=>by
  rw [List.forIn_cons,hf]
  have ih:=fun acc=>closure_loop env f hf r acc fun y hy=>h y (List.mem_cons_of_mem _ hy)
  unfold cloFrom
  by_cases hk:(k == NameKind.free) = true
  ·rw [if_pos hk,if_pos hk]
   obtain ⟨c,hc⟩:=h (n,k) List.mem_cons_self (by simpa using hk)
   have e:cellOf env n = pure c:=by unfold cellOf; rw [hc]
   rw [e]
   have e2:(env.cells.lookup n).getD 0 = c:=by rw [hc]; rfl
   rw [e2]
   exact ih _
  ·rw [if_neg hk,if_neg hk]
   exact ih _
theorem closure_ok {scope:Scope} {env:Env} (h:∀ y ∈ scope.names,y.2 = .free→∃ c,env.cells.lookup y.1 = some c):closureFor scope env = pure (cloFrom env.cells scope.names []):=by
 simp only [closureFor]
 rw [closure_loop env _ (fun n k c=>rfl) scope.names [] h]
 rfl
theorem mem_lookup {α:Type}:∀ {l:List (Str × α)} {n:Str} {c:α},(n,c) ∈ l→∃ c',l.lookup n = some c'
 | (k,v) :: r,n,c,h=>by
  rw [List.lookup_cons]
  cases hb:n == k with
  | true=>exact ⟨_,rfl⟩
  | false =>
   rcases List.mem_cons.mp h with e | h
   ·cases e; simp at hb
   ·exact mem_lookup h
theorem cloFrom_mem {cells:List (Str × Addr)}:∀ {names:List (Str × NameKind)} {acc:List (Str × Addr)} {n:Str} {c:Addr},(n,c) ∈ cloFrom cells names acc→(n,c) ∈ acc ∨ ((n,.free) ∈ names∧c = (cells.lookup n).getD 0)
 | [],_,_,_,h=>.inl h
 | (m,k) :: r,acc,n,c,h=>by
  unfold cloFrom at h
  split at h
  ·rename_i hk
   have hk:k = .free:=by simpa using hk
   rcases cloFrom_mem h with h | ⟨h1,h2⟩
   ·rcases List.mem_cons.mp h with e | h
    ·cases e; exact .inr ⟨hk ▸ List.mem_cons_self,rfl⟩
    ·exact .inl h
   ·exact .inr ⟨List.mem_cons_of_mem _ h1,h2⟩
  ·rcases cloFrom_mem h with h | ⟨h1,h2⟩
   ·exact .inl h
   ·exact .inr ⟨List.mem_cons_of_mem _ h1,h2⟩
theorem cloFrom_acc {cells:List (Str × Addr)}:∀ {names:List (Str × NameKind)} {acc:List (Str × Addr)} {p:Str × Addr},p ∈ acc→p ∈ cloFrom cells names acc
 | [],_,_,h=>h
 | (m,k) :: r,acc,p,h=>by
  unfold cloFrom
  split
  ·exact cloFrom_acc (List.mem_cons_of_mem _ h)
  ·exact cloFrom_acc h
theorem cloFrom_has {cells:List (Str × Addr)}:∀ {names:List (Str × NameKind)} {acc:List (Str × Addr)} {n:Str},(n,.free) ∈ names→(n,(cells.lookup n).getD 0) ∈ cloFrom cells names acc
 | (m,k) :: r,acc,n,h=>by
  unfold cloFrom
  rcases List.mem_cons.mp h with e | h
  ·cases e
   exact cloFrom_acc List.mem_cons_self
  ·split
   ·exact cloFrom_has h
   ·exact cloFrom_has h
theorem cells_mem:∀ {names:List (Str × NameKind)} {h:Heap} {acc:List (Str × Addr)} {x:Str} {c:Addr},(x,c) ∈ cellsFrom h.objs.size names acc →
  (x,c) ∈ acc ∨ ((x,.cell) ∈ names∧h.objs.size ≤ c∧CellAt (pushCells h names) c none)
 | [],_,_,_,_,h=>.inl h
 | (n,k) :: r,h,acc,x,c,hm=>by
  unfold cellsFrom at hm
  unfold pushCells
  split at hm
  ·rename_i hk
   rw [if_pos hk]
   have hk:k = .cell:=by simpa using hk
   rw [← Heap.size_push h { cls:=.type "cell",data:=.cell none }] at hm
   rcases cells_mem hm with hm | ⟨h1,h2,h3⟩
   ·rcases List.mem_cons.mp hm with e | hm
    ·cases e
     exact .inr ⟨hk ▸ List.mem_cons_self,Nat.le_refl _,_,pushCells_keeps r _ _ _ (Heap.get?_push_size _ rfl),rfl⟩
    ·exact .inl hm
   ·rw [Heap.size_push] at h2
    exact .inr ⟨List.mem_cons_of_mem _ h1,Nat.le_of_succ_le h2,h3⟩
  ·rename_i hk
   rw [if_neg hk]
   rcases cells_mem hm with hm | ⟨h1,h2,h3⟩
   ·exact .inl hm
   ·exact .inr ⟨List.mem_cons_of_mem _ h1,h2,h3⟩
theorem cells_acc:∀ {names:List (Str × NameKind)} {n:Nat} {acc:List (Str × Addr)} {p:Str × Addr},p ∈ acc→p ∈ cellsFrom n names acc
 | [],_,_,_,h=>h
 | (m,k) :: r,n,acc,p,h=>by
  unfold cellsFrom
  split
  ·exact cells_acc (List.mem_cons_of_mem _ h)
  ·exact cells_acc h
theorem cells_has:∀ {names:List (Str × NameKind)} {n:Nat} {acc:List (Str × Addr)} {x:Str},(x,.cell) ∈ names→∃ c,(x,c) ∈ cellsFrom n names acc
 | (m,k) :: r,n,acc,x,h=>by
  unfold cellsFrom
  rcases List.mem_cons.mp h with e | h
  ·cases e
   exact ⟨n,cells_acc List.mem_cons_self⟩
  ·split
   ·exact cells_has h
   ·exact cells_has h
theorem cells_inj:∀ {names:List (Str × NameKind)} {h:Heap} {acc:List (Str × Addr)} {x y:Str} {c:Addr},(∀ p ∈ acc,p.2 < h.objs.size)→(∀ x y c,(x,c) ∈ acc→(y,c) ∈ acc→x = y) →
  (x,c) ∈ cellsFrom h.objs.size names acc→(y,c) ∈ cellsFrom h.objs.size names acc→x = y
 | [],_,_,_,_,_,_,hi,h1,h2=>hi _ _ _ h1 h2
 | (n,k) :: r,h,acc,x,y,c,hl,hi,h1,h2=>by
  unfold cellsFrom at h1 h2
  split at h1
  ·rename_i hk
   rw [if_pos hk] at h2
   rw [← Heap.size_push h { cls:=.type "cell",data:=.cell none }] at h1 h2
   refine cells_inj (h:=h.push _) (fun p hp=>?_) (fun x y c a b=>?_) h1 h2
   ·rw [Heap.size_push]
    rcases List.mem_cons.mp hp with rfl | hp
    ·exact Nat.lt_succ_self _
    ·exact Nat.lt_succ_of_lt (hl p hp)
   ·rcases List.mem_cons.mp a with e | a <;> rcases List.mem_cons.mp b with e' | b
    ·cases e; cases e'; rfl
    ·cases e; exact absurd (hl _ b) (Nat.lt_irrefl _)
    ·cases e'; exact absurd (hl _ a) (Nat.lt_irrefl _)
    ·exact hi _ _ _ a b
  ·rename_i hk
   rw [if_neg hk] at h2
   exact cells_inj hl hi h1 h2
theorem newEnv_comp {M:Model} {A:Around} {E:Value→Shared→Prop} {s:Shared} {scope:Scope} {globals:Addr} {closure:List (Str × Addr)} {qual:Str} {func:Option Addr} {code:Value} {around:Env} {builtins:Addr} {Q:Env→Shared→Prop}
  (h:Q (newEnv scope s.heap.objs.size globals (cellsFrom (s.heap.objs.size + 1) scope.names closure) qual func code (some around) builtins)
   { s with heap:=pushCells (s.heap.push { cls:=.type "dict",data:=.dict #[] }) scope.names }) :
  wpAny M A (newFunctionEnv scope globals closure [] qual func code (some around) builtins) Q E s:=by
 simp only [newFunctionEnv,Option.isSome_some,if_true]
 refine wpAny_bind (wpAny_alloc ?_)
 refine wpAny_bind (wpAny_layCells _ (fun n k c=>rfl) scope.names closure _ _ ?_)
 rw [show ({ s with heap:=s.heap.push { cls:=.type "dict",data:=.dict #[] } }:Shared).heap.objs.size = s.heap.objs.size + 1 from Heap.size_push ..]
 rw [List.forIn_nil]
 exact wpAny_bind (wpAny_pure (wpAny_pure h))
theorem lookup_relS {sc:Scope}:∀ {names:List (Str × NameKind)} {x:Str} {k:NameKind},
  (names.map fun (n,k)=>if (k == NameKind.free && sc.kind == .function && sc.names.lookup n == some .cell) then (n,NameKind.cell) else (n,k)).lookup x = some k →
  ∃ k',names.lookup x = some k'∧(k = k' ∨ (k' = .free∧k = .cell))
 | [],_,_,h=>by simp at h
 | (n,k₀) :: r,x,k,h=>by
  have ih:=@lookup_relS sc r x k
  have h':List.lookup x ((if (k₀ == NameKind.free && sc.kind == .function && sc.names.lookup n == some .cell) = true then (n,NameKind.cell) else (n,k₀)) :: (r.map _)) = some k:=h
  cases hx:x == n with
  | true =>
   simp only [List.lookup_cons,hx]
   by_cases hc:(k₀ == NameKind.free && sc.kind == .function && sc.names.lookup n == some .cell) = true
   ·rw [if_pos hc] at h'
    simp only [List.lookup_cons,hx] at h'
    cases h'
    simp only [Bool.and_eq_true,beq_iff_eq] at hc
    exact ⟨k₀,rfl,.inr ⟨hc.1.1,rfl⟩⟩
   ·rw [if_neg hc] at h'
    simp only [List.lookup_cons,hx] at h'
    cases h'
    exact ⟨_,rfl,.inl rfl⟩
  | false =>
   simp only [List.lookup_cons,hx]
   by_cases hc:(k₀ == NameKind.free && sc.kind == .function && sc.names.lookup n == some .cell) = true
   ·rw [if_pos hc] at h'
    simp only [List.lookup_cons,hx] at h'
    exact ih h'
   ·rw [if_neg hc] at h'
    simp only [List.lookup_cons,hx] at h'
    exact ih h'
structure BlkOk (N:List Str) (sc scope:Scope) (own:List (Str × Nat)):Prop where
 kind:scope.kind = .function
 uniq:∀ y ∈ scope.names,scope.names.lookup y.1 = some y.2
 ix:∀ p ∈ own,N[p.2]? = some p.1
 free:∀ y ∈ scope.names,y.2 = .free→sc.names.lookup y.1 = some .cell ∨ sc.names.lookup y.1 = some .free
 own:∀ y ∈ scope.names,y.2 = .local ∨ y.2 = .cell→y.1 ∈ own.map (·.1) ∨ y.1 ∉ N
def wipe (σ:St):List Nat→St
 | []=>σ
 | v :: vs=>(wipe σ vs).set v none
theorem wipe_length (σ:St):∀ vs:List Nat,(wipe σ vs).length = σ.length
 | []=>rfl
 | v :: vs=>by unfold wipe; rw [List.length_set,wipe_length σ vs]
theorem wipe_some {σ:St} {i:Nat} {x:V}:∀ {vs:List Nat},(wipe σ vs)[i]? = some (some x)→σ[i]? = some (some x)∧i ∉ vs
 | [],h=>⟨h,by simp⟩
 | v :: vs,h=>by
  unfold wipe at h
  by_cases hi:v = i
  ·subst hi
   by_cases hv:v < (wipe σ vs).length
   ·rw [List.getElem?_set_self hv] at h; cases h
   ·rw [List.getElem?_eq_none (by simpa using hv)] at h; cases h
  ·rw [List.getElem?_set_ne hi] at h
   obtain ⟨h1,h2⟩:=wipe_some h
   exact ⟨h1,by simp only [List.mem_cons,not_or]; exact ⟨fun e=>hi e.symm,h2⟩⟩
abbrev Cx.blk (X:Cx) (s:Shared) (H:Hp) (scope:Scope) (cenv:Env) (fp:List Addr):Cx:={ X with s_0:=s,H_0:=H,env:=cenv,outer:=X.stack,ex:=fp,fn:=fun x=>scope.names.lookup x == some .cell,pn:=[],xe:=fun _ _=>False }
section
variable {X:Cx} {pins:List (Addr × Obj)} {σ:St} {H:Hp} {s:Shared}
theorem block_start {scope:Scope} {own:List (Str × Nat)} {fp:List Addr} (I:Inv X pins σ H s) (ok:BlkOk X.N X.env.scope scope own) (hN:X.N.Nodup) (hfp:∀ b ∈ fp,FpOk X pins H b∧b < s.heap.objs.size) :
  Inv (X.blk s H scope (compEnvC scope (cellsFrom (s.heap.objs.size + 1) scope.names (cloFrom X.env.cells scope.names [])) s.heap.objs.size X.env) fp) [] (wipe σ (own.map (·.2))) H { s with heap:=pushCells (s.heap.push { cls:=.type "dict",data:=.dict #[] }) scope.names }:=by
 have hfree:∀ y ∈ scope.names,y.2 = .free→∃ c,X.env.cells.lookup y.1 = some c:=fun y hy e=>by
  rcases ok.free y hy e with k | k
  ·exact I.ok.has _ (.inl k)
  ·exact I.ok.has _ (.inr k)
 generalize hcenv:compEnvC scope (cellsFrom (s.heap.objs.size + 1) scope.names (cloFrom X.env.cells scope.names [])) s.heap.objs.size X.env = cenv
 have kp:∀ b o,s.heap.get? b = some o→(pushCells (s.heap.push { cls:=.type "dict",data:=.dict #[] }) scope.names).get? b = some o:=fun b o e=>pushCells_keeps _ _ _ _ (Heap.get?_push_of_some _ e)
 have hL:cenv.locals = s.heap.objs.size:=by rw [← hcenv]; rfl
 have hcl:cenv.cells = cellsFrom (s.heap.objs.size + 1) scope.names (cloFrom X.env.cells scope.names []):=by rw [← hcenv]; rfl
 have hsc:cenv.scope = relS scope X.env.scope:=by rw [← hcenv]; rfl
 rw [← Heap.size_push s.heap { cls:=.type "dict",data:=.dict #[] }] at hcl
 have cm:∀ {y c},(y,c) ∈ cloFrom X.env.cells scope.names []→X.env.cells.lookup y = some c∧c < s.heap.objs.size:=fun {y c} hm=>by
  rcases cloFrom_mem hm with hm | ⟨h1,rfl⟩
  ·cases hm
  ·obtain ⟨c,hc⟩:=hfree _ h1 rfl
   rw [hc]
   obtain ⟨w,z⟩:=I.cell _ _ hc
   exact ⟨rfl,z.lt⟩
 have mem:∀ {y c},cenv.cells.lookup y = some c→(X.env.cells.lookup y = some c∧c < s.heap.objs.size) ∨ (s.heap.objs.size + 1 ≤ c∧CellAt (pushCells (s.heap.push { cls:=.type "dict",data:=.dict #[] }) scope.names) c none):=fun {y c} e=>by
  rw [hcl] at e
  rcases cells_mem (PySem.mem_of_lookup e) with hm | ⟨_,h2,h3⟩
  ·exact .inl (cm hm)
  ·rw [Heap.size_push] at h2; exact .inr ⟨h2,h3⟩
 have look:∀ {y},scope.names.lookup y = some .free→∃ c,cenv.cells.lookup y = some c∧X.env.cells.lookup y = some c:=fun {y} hl=>by
  have hy:(y,NameKind.free) ∈ scope.names:=PySem.mem_of_lookup hl
  obtain ⟨c',e'⟩:=mem_lookup (cells_acc (names:=scope.names) (n:=(s.heap.push { cls:=.type "dict",data:=.dict #[] }).objs.size) (cloFrom_has (cells:=X.env.cells) (acc:=[]) hy))
  rw [← hcl] at e'
  refine ⟨c',e',?_⟩
  rw [hcl] at e'
  rcases cells_mem (PySem.mem_of_lookup e') with hm | ⟨h1,_,_⟩
  ·exact (cm hm).1
  ·have:=ok.uniq _ h1
   rw [hl] at this; cases this
 have okB:(X.blk s H scope cenv fp).Ok:=by
  refine ⟨I.ok.mod,by show cenv.scope.kind = _; rw [hsc]; exact ok.kind,by show cenv.globals = _; rw [← hcenv]; exact I.ok.glob,by show cenv.builtins = _; rw [← hcenv]; exact I.ok.blt,by show s.heap.objs.size ≤ cenv.locals; rw [hL]; exact Nat.le_refl _,
   fun y z c e1 e2=>?_,fun y hy=>?_,fun y c z e=>?_,I.ok.hd,I.ok.frames,.inl rfl,fun b hb=>⟨?_,fun y c e z=>?_⟩,I.bs,Nat.le_trans I.ok.bsz I.sz,fun b o e hb=>?_,fun b hb z=>?_,I.stack,I.stkFree⟩
  ·have e1:cenv.cells.lookup y = some c:=e1
   have e2:cenv.cells.lookup z = some c:=e2
   rw [hcl] at e1 e2
   refine cells_inj (fun p hp=>?_) (fun y z c a b=>I.ok.inj y z c (cm a).1 (cm b).1) (PySem.mem_of_lookup e1) (PySem.mem_of_lookup e2)
   rw [Heap.size_push]
   exact Nat.lt_succ_of_lt (cm (y:=p.1) (c:=p.2) hp).2
  ·show ∃ c,cenv.cells.lookup y = some c
   have key:∀ k,cenv.kindOf y = some k→(k = .cell ∨ k = .free)→∃ c,cenv.cells.lookup y = some c:=fun k hk hk'=>by
    unfold Env.kindOf at hk
    rw [hsc] at hk
    obtain ⟨k',e,r⟩:=lookup_relS hk
    have:k' = .cell ∨ k' = .free:=by
     rcases r with rfl | ⟨rfl,_⟩
     ·exact hk'
     ·exact .inr rfl
    rcases this with rfl | rfl
    ·obtain ⟨c,hm⟩:=cells_has (n:=(s.heap.push { cls:=.type "dict",data:=.dict #[] }).objs.size) (acc:=cloFrom X.env.cells scope.names []) (PySem.mem_of_lookup e)
     obtain ⟨c',e'⟩:=mem_lookup hm
     exact ⟨c',by rw [hcl]; exact e'⟩
    ·obtain ⟨c,h1,_⟩:=look e
     exact ⟨c,h1⟩
   rcases hy with hy | hy
   ·exact key _ hy (.inl rfl)
   ·exact key _ hy (.inr rfl)
  ·have z:(scope.names.lookup y == some NameKind.cell) = true:=z
   have z:scope.names.lookup y = some .cell:=by simpa using z
   have e:cenv.cells.lookup y = some c:=e
   rw [hcl] at e
   rcases cells_mem (PySem.mem_of_lookup e) with hm | ⟨_,h2,_⟩
   ·rcases cloFrom_mem hm with hm | ⟨h1,_⟩
    ·cases hm
    ·have q:=ok.uniq _ h1
     rw [z] at q; cases q
   ·rw [Heap.size_push] at h2
    exact Nat.le_of_succ_le h2
  ·show b ≠ cenv.locals
   rw [hL]; exact Nat.ne_of_lt (hfp b hb).2
  ·have e:cenv.cells.lookup y = some c:=e
   rcases mem e with ⟨h1,_⟩ | ⟨h1,_⟩
   ·exact (hfp b hb).1.2.2.2.2.1 y c h1 z
   ·have h2:s.heap.objs.size + 1 ≤ b:=by rw [← z]; exact h1
    exact absurd (Nat.lt_of_lt_of_le (hfp b hb).2 (Nat.le_of_succ_le h2)) (Nat.lt_irrefl _)
  ·rcases (hfp b hb).1.2.2.2.1 with z | z
   ·exact I.ok.noex b o e z
   ·exact absurd (Nat.lt_of_lt_of_le (Heap.lt_size e) (Nat.le_trans I.ok.bsz z)) (Nat.lt_irrefl _)
  ·rcases List.mem_cons.mp (I.stkSub b z) with z | z
   ·exact (hfp b hb).1.2.1 z
   ·exact (hfp b hb).1.2.2.1 z
 refine ⟨okB,rfl,I.bare,Un.kept kp,⟨fun _=>none,?_,fun i y av e1 e2 e3=>?_⟩,fun y c e=>?_,?_,fun y c e=>?_,fun p hp=>?_,I.hok.kept kp,by rw [wipe_length]; exact I.len⟩
 ·show Heap.Ns _ cenv.locals _
  rw [hL]
  exact Heap.Ns.keeps (Heap.Ns.new ..) fun b o e=>pushCells_keeps _ _ _ _ e
 ·obtain ⟨e2,hne⟩:=wipe_some e2
  have hfr:scope.names.lookup y = some .free∧(cenv.kindOf y = some .cell ∨ cenv.kindOf y = some .free):=by
   have key:∀ k,cenv.scope.names.lookup y = some k→k = .local ∨ k = .cell ∨ k = .free→scope.names.lookup y = some .free∧(cenv.kindOf y = some .cell ∨ cenv.kindOf y = some .free):=fun k hk hk'=>by
    have hk0:=hk
    rw [hsc] at hk
    obtain ⟨k',e,r⟩:=lookup_relS hk
    have no:¬ (k' = .local ∨ k' = .cell):=fun hh=>by
     rcases ok.own _ (PySem.mem_of_lookup e) hh with e' | e'
     ·obtain ⟨p,hp,hpy⟩:=List.mem_map.mp e'
      have e3:=ok.ix p hp
      have:p.1 = y:=hpy
      rw [this] at e3
      exact hne (List.mem_map.mpr ⟨p,hp,nodup_ix hN e3 e1⟩)
     ·exact e' (List.mem_of_getElem? e1)
    rcases r with rfl | ⟨rfl,rfl⟩
    ·rcases hk' with rfl | rfl | rfl
     ·exact absurd (.inl rfl) no
     ·exact absurd (.inr rfl) no
     ·exact ⟨e,.inr hk0⟩
    ·exact ⟨e,.inl hk0⟩
   have e3:Vis cenv.scope y:=e3
   rcases e3 with e3 | e3 | e3
   ·exact key _ e3 (.inl rfl)
   ·exact key _ e3 (.inr (.inl rfl))
   ·exact key _ e3 (.inr (.inr rfl))
  obtain ⟨m,hn,hl⟩:=I.loc
  have hvis:Vis X.env.scope y:=(ok.free _ (PySem.mem_of_lookup hfr.1) rfl).elim (fun k=>.inr (.inl k)) (fun k=>.inr (.inr k))
  obtain ⟨w,r,q⟩:=hl i y av e1 e2 hvis
  refine ⟨w,r,.inr ⟨hfr.2,?_⟩⟩
  obtain ⟨c,h1,h2⟩:=look hfr.1
  rcases q with ⟨k,_⟩ | ⟨_,c',e',z⟩
  ·have k:X.env.scope.names.lookup y = some .local:=k
   rcases ok.free _ (PySem.mem_of_lookup hfr.1) rfl with k' | k' <;> rw [show X.env.scope.names.lookup y = _ from k'] at k <;> cases k
  ·rw [h2] at e'; cases e'
   exact ⟨c,h1,z.keeps kp⟩
 ·have e:cenv.cells.lookup y = some c:=e
  rcases mem e with ⟨h1,_⟩ | ⟨_,z⟩
  ·obtain ⟨w,z⟩:=I.cell y c h1
   exact ⟨w,z.keeps kp⟩
  ·exact ⟨_,z⟩
 ·show H cenv.locals = none
  rw [hL]; exact I.hok.fresh (Nat.le_refl _)
 ·have e:cenv.cells.lookup y = some c:=e
  rcases mem e with ⟨h1,_⟩ | ⟨h1,_⟩
  ·exact I.freeC y c h1
  ·exact I.hok.fresh (Nat.le_of_succ_le h1)
 ·exact absurd (show p ∈ ([]:List (Addr × Obj)) ++ [] from hp) (by simp)
theorem app_ok {E:Value→Shared→Prop} {D:Addr} {xs:List V} {y:V} {v:Value} {Q:Value→Shared→Prop} (I:Inv X pins σ H s) (hD:H D = some (.lst xs)) (hz:xs.length < sizeLine) (r:RelV y v)
  (h:∀ s',Inv X pins σ (upd H D (.lst (xs ++ [y]))) s'→Q .none s'):wpAny (model X.prog X.w) X.A (call (.builtin "list.append") [.ref D,v]) Q E s:=by
 obtain ⟨hz',its,n,ri,e⟩:=I.hok D _ hD
 have hl:=ri.length
 refine append_at (hsz:=by rw [List.size_toArray]; omega) e fun h' sb ho'=>?_
 refine h { s with heap:=h' } (I.write (t':=s.toks) (by rw [hD]; trivial) (.inl rfl) (fun b u hb q=>(sb.2 b hb).trans q) ⟨_,ho'⟩ ⟨by rw [List.length_append]; exact hz,its ++ [v],n + 1,ri.append (.cons r .nil),?_⟩)
 rw [ho']
 simp
def PTs (X:Cx) (ifs:List Expr) (t:TT):Prop :=
 ∀ (pins:List (Addr × Obj)) (s:Shared) (σ:St) (H:Hp) (Q:Bool→Hp→Prop),Inv X pins σ H s→t σ H Q →
  wpAny (model X.prog X.w) X.A (forIn ifs true fun c r=>if r = true then do let ok ← isTrue c X.env (eval c X.env); pure (ForInStep.yield ok) else pure (ForInStep.yield r)) (TP X pins σ Q) X.xe s
def tYes:TT:=fun _ H Q=>Q true H
theorem pts_nil:PTs X [] tYes:=fun _ _ _ H _ I h=>wpAny_tests_nil ⟨H,I,h⟩
theorem pts_one {c:Expr} {t:TT} (h:PT X c t):PTs X [c] t:=fun pins s σ H Q I hw=>wpAny_tests_one (h pins s σ H Q I hw)
end
theorem thnF {α:Type} {t:Sem α} {Q Q':α→Shared→Prop} {M:Model} {A:Around} {E:Value→Shared→Prop} {s:Shared} (h:wpAny M A t Q (fun _ _=>False) s) (hQ:∀ a s,Q a s→Q' a s):wpAny M A t Q' E s:=wpAny_mono h hQ fun _ _ z=>False.elim z
theorem compLoop_any {prog:Program} {w:World} {A:Around} {R:Result→Shared→Prop} {s:Shared} {elt target iter:Expr} {ifs:List Expr} {scope:Scope} {pos:Pos} {it acc:Value} {env:Env} (I:Nat→Shared→Prop)
  (turn:∀ n s,I n s→wpAny (model prog w) A (pyNext it) (fun r s₁=>match r with
   | none=>R (.ok .next) s₁
   | some v=>wpAny (model prog w) A (letOwnedTupleGo target it v) (fun _ s₁'=>wpAny (model prog w) A (assign target env v) (fun _ s₂ =>
     wpAny (model prog w) A (forIn ifs true fun c r=>if r = true then do let ok ← isTrue c env (eval c env); pure (ForInStep.yield ok) else pure (ForInStep.yield r)) (fun ok s₃ =>
      if ok = true then wpAny (model prog w) A (eval elt env) (fun x s₄ =>
       wpAny (model prog w) A (call (.builtin "list.append") [acc,x]) (fun _ s₅=>∃ m,m < n∧I m s₅) (notedBy (model prog w) A env fun e s'=>R (.error e) s') s₄) (notedBy (model prog w) A env fun e s'=>R (.error e) s') s₃
      else ∃ m,m < n∧I m s₃) (notedBy (model prog w) A env fun e s'=>R (.error e) s') s₂) (notedBy (model prog w) A env fun e s'=>R (.error e) s') s₁') (notedBy (model prog w) A env fun e s'=>R (.error e) s') s₁) (notedBy (model prog w) A env fun e s'=>R (.error e) s') s)
  (n:Nat) (h:I n s) :
  codeAny (model prog w) A (.compLoop (.ListComp elt [⟨target,iter,ifs,0⟩] scope pos) 0 it acc env) R s:=by
 refine codeAny_loop rfl I (fun n s hI=>?_) n h
 show wpAny _ A ((compTurn (.ListComp elt [⟨target,iter,ifs,0⟩] scope pos) 0 it acc env).onRaise (fun x=>do noteFrame x env; theTreesLotGoes x)) _ _ s
 refine wpAny_noted ?_
 rw [compTurn_list]
 refine wpAny_bind (wpAny_standAt (wpAny_bind (wpAny_mono (turn n s hI) (fun r s₁ h₁=>?_) fun _ _ h'=>h')))
 cases r with
 | none=>exact wpAny_pure h₁
 | some v =>
  refine wpAny_bind (wpAny_mono h₁ (fun _ s₁' h₁'=>?_) fun _ _ h'=>h')
  refine wpAny_bind (wpAny_mono h₁' (fun _ s₂ h₂=>wpAny_bind (wpAny_mono h₂ (fun ok s₃ h₃=>?_) fun _ _ h'=>h')) fun _ _ h'=>h')
  cases ok with
  | false=>exact wpAny_pure ⟨rfl,h₃⟩
  | true =>
   exact wpAny_bind (wpAny_bind (wpAny_mono h₃ (fun x s₄ h₄=>wpAny_bind (wpAny_mono h₄ (fun _ s₅ h₅=>wpAny_pure (wpAny_pure ⟨rfl,h₅⟩)) fun _ _ h'=>h')) fun _ _ h'=>h'))
section
variable {X:Cx}
def tLc (wi:TI) (g:TG) (tt:TT) (te:TE) (vs:List Nat):TE:=fun σ H Q=>wi σ H fun J H1=>∀ D,H1 D = none→∃ W:Nat→Nat→Hp→Prop,(∃ m,W 0 m (upd H1 D (.lst [])))∧∀ i m H,W i m H →
 (J.stop i H∧Q (.ref D) H) ∨ (J.go i H∧∃ Nx:Hp→Prop,(∀ H',Nx H'→∃ m',m' < m∧W (i + 1) m' H')∧∀ x H',J.yld i H x H'→g x (wipe σ vs) H' fun σ2 H2=>wipe σ2 vs = wipe σ vs∧tt σ2 H2 fun b H3 =>
  if b = true then te σ2 H3 fun y H4=>∃ acc,H4 D = some (.lst acc)∧acc.length < sizeLine∧Nx (upd H4 D (.lst (acc ++ [y]))) else Nx H3)
theorem lc_core {pins:List (Addr × Obj)} {s:Shared} {σ:St} {H:Hp} {Q:VK} {elt tg iter:Expr} {ifs:List Expr} {scope:Scope} {own:List (Str × Nat)} {pos pos':Pos} {wi:TI} {g:TG} {tt:TT} {te:TE} {use:Option (Value→Sem Unit)} {Qf:Value→Shared→Prop}
  (hc:X.calm = true) (hN:X.N.Nodup) (I:Inv X pins σ H s) (hi:PI X tg iter wi) (ok:BlkOk X.N X.env.scope scope own)
  (hg:∀ (s:Shared) (H:Hp) (C:Addr) (cl:List (Str × Addr)) (fp:List Addr),PG (X.blk s H scope (compEnvC scope cl C X.env) fp) tg g) (ht:∀ (s:Shared) (H:Hp) (C:Addr) (cl:List (Str × Addr)) (fp:List Addr),PTs (X.blk s H scope (compEnvC scope cl C X.env) fp) ifs tt)
  (he:∀ (s:Shared) (H:Hp) (C:Addr) (cl:List (Str × Addr)) (fp:List Addr),PE (X.blk s H scope (compEnvC scope cl C X.env) fp) elt te) (hs:∀ x,foldedSetIterable iter X.env x = pure x)
  (h:tLc wi g tt te (own.map (·.2)) σ H Q)
  (hRR:∀ D C s' m H',Inv X pins σ H' s'→Q (.ref D) H'→s'.heap.Ns C m→FpOk X pins H' C→compPost (model X.prog X.w) X.A X.xe use Qf (.ref D) C (.ok .next) s') :
  wpAny (model X.prog X.w) X.A (comprehension (.ListComp elt [⟨tg,iter,ifs,0⟩] scope pos) scope X.env pos' (newList []) false (eval iter X.env) use) Qf X.xe s:=by
 have hfree:∀ y ∈ scope.names,y.2 = .free→∃ c,X.env.cells.lookup y.1 = some c:=fun y hy e=>by
  rcases ok.free y hy e with k | k
  ·exact I.ok.has _ (.inl k)
  ·exact I.ok.has _ (.inr k)
 refine wpAny_comprehension_free (use:=use) rfl hs (closure_ok hfree) ok.kind (fun y hy e=>by rw [ok.uniq y hy,e])
  (thn (hi pins s σ H _ I h) fun xv s1 hx=>thn hx fun itv s2 h2=>?_)
 obtain ⟨it,fp,tn,J,H2,e,I2,T,st2,f2,q⟩:=h2
 subst e
 refine wpAny_newObj_type (newEnv_comp ?_) (by show 0 ≤ sizeLine; decide)
 generalize hD:s2.heap.objs.size = D
 have hDn:H2 D = none:=I2.hok.fresh (Nat.le_of_eq hD)
 obtain ⟨W,⟨m0,w0⟩,turn⟩:=q D hDn
 generalize hs3:({ s2 with heap:=s2.heap.push { cls:=.type "list",data:=.seq ([]:List Value).toArray } }:Shared) = s3
 have I3:Inv X pins σ (upd H2 D (.lst [])) s3:=by
  rw [← hs3]
  refine I2.laid (t':=s2.toks) (fun b o e=>Heap.get?_push_of_some _ e) (Nat.le_of_eq hD) ⟨Nat.zero_le _,[],0,.nil,?_⟩
  rw [← hD]
  exact Heap.get?_push_size _ rfl
 have h3:s3.heap = s2.heap.push { cls:=.type "list",data:=.seq ([]:List Value).toArray }:=by rw [← hs3]
 have sz:∀ b ∈ fp,b < s2.heap.objs.size:=fun b hb=>by
  obtain ⟨o,e,_⟩:=T.obj _ _ st2 b hb
  exact Heap.lt_size e
 have f3:∀ b ∈ fp,FpOk X pins (upd H2 D (.lst [])) b∧b < s3.heap.objs.size:=fun b hb=>by
  have hlt:=sz b hb
  refine ⟨⟨?_,(f2 b hb).2⟩,by rw [h3,Heap.size_push]; exact Nat.lt_succ_of_lt hlt⟩
  rw [upd_ne (by rw [← hD]; exact Nat.ne_of_lt hlt)]
  exact (f2 b hb).1
 have st3:tn 0 s3.heap:=T.keep _ _ _ st2 fun b _ o e=>by rw [h3]; exact Heap.get?_push_of_some _ e
 have I4:=block_start I3 ok hN f3
 have pg:=hg s3 (upd H2 D (.lst [])) s3.heap.objs.size (cellsFrom (s3.heap.objs.size + 1) scope.names (cloFrom X.env.cells scope.names [])) fp
 have pt:=ht s3 (upd H2 D (.lst [])) s3.heap.objs.size (cellsFrom (s3.heap.objs.size + 1) scope.names (cloFrom X.env.cells scope.names [])) fp
 have pe:=he s3 (upd H2 D (.lst [])) s3.heap.objs.size (cellsFrom (s3.heap.objs.size + 1) scope.names (cloFrom X.env.cells scope.names [])) fp
 show codeAny _ _ (.compStart (.ListComp elt [⟨tg,iter,ifs,0⟩] scope pos) 0 (.ref it) (.ref D) (compEnvC scope (cellsFrom (s3.heap.objs.size + 1) scope.names (cloFrom X.env.cells scope.names [])) s3.heap.objs.size X.env)) (compPost (model X.prog X.w) X.A X.xe use Qf (.ref D) s3.heap.objs.size) { s3 with heap:=pushCells (s3.heap.push { cls:=.type "dict",data:=.dict #[] }) scope.names }
 have nfp:∀ b ∈ fp,(upd H2 D (.lst [])) b = none:=fun b hb=>(f3 b hb).1.1
 generalize hce:compEnvC scope (cellsFrom (s3.heap.objs.size + 1) scope.names (cloFrom X.env.cells scope.names [])) s3.heap.objs.size X.env = ce at I4 pg pt pe ⊢
 have cL:ce.locals = s3.heap.objs.size:=by subst hce; rfl
 generalize hH3:upd H2 D (.lst []) = H3 at I3 I4 pg pt pe w0 nfp f3
 generalize hs4:({ s3 with heap:=pushCells (s3.heap.push { cls:=.type "dict",data:=.dict #[] }) scope.names }:Shared) = s4 at I4 ⊢
 have st4:tn 0 s4.heap:=T.keep _ _ _ st3 fun b _ o e=>by rw [← hs4]; exact pushCells_keeps _ _ _ _ (Heap.get?_push_of_some _ e)
 have stat:∀ {σ':St} {H':Hp} {s':Shared},Inv (X.blk s3 H3 scope ce fp) [] σ' H' s'→(∀ b ∈ fp,H' b = none)→∀ b ∈ fp,FpOk (X.blk s3 H3 scope ce fp) [] H' b:=fun {σ' H' s'} I' hn b hb =>
  ⟨hn b hb,(I'.ok.exf b hb).1,I'.ok.exfs b hb,.inl hb,fun x c e=>(I'.ok.exf b hb).2 x c e,fun p hp=>absurd (show p ∈ ([]:List (Addr × Obj)) ++ [] from hp) (by simp)⟩
 have loop:codeAny (model X.prog X.w) X.A (.compLoop (.ListComp elt [⟨tg,iter,ifs,0⟩] scope pos) 0 (.ref it) (.ref D) ce) (compPost (model X.prog X.w) X.A X.xe use Qf (.ref D) s3.heap.objs.size) s4:=by
  refine compLoop_any (fun n s'=>∃ i H',Inv (X.blk s3 H3 scope ce fp) [] (wipe σ (own.map (·.2))) H' s'∧tn i s'.heap∧(∀ b ∈ fp,H' b = none)∧W i n H') ?_ m0 ⟨0,H3,I4,st4,nfp,w0⟩
  rintro n s5 ⟨i,H5,I5,st5,n5,w5⟩
  rcases turn i n H5 w5 with ⟨stop,qq⟩ | ⟨go,Nx,hNx,step⟩
  ·have td:=T.done (X.blk s3 H3 scope ce fp) rfl rfl rfl hc i [] s5 _ H5 (fun _ _=>False) I5 (stat I5 n5) st5 stop
   refine thnF td fun r s6 ⟨hr,I6⟩=>?_
   subst hr
   have I7:Inv X pins σ H5 s6:=I3.call' (ch:=fp) I6.os I6.base I6.hok I6.bare fun b hb=>⟨(f3 b hb).1.2.2.2.1,(f3 b hb).1.2.1,(f3 b hb).1.2.2.2.2.1,(f3 b hb).1.2.2.2.2.2⟩
   have nC:H5 s3.heap.objs.size = none:=by
    have z:H5 ce.locals = none:=I6.free
    rw [cL] at z
    exact z
   obtain ⟨m,hn,_⟩:=I6.loc
   have hn:s6.heap.Ns ce.locals m:=hn
   rw [cL] at hn
   exact hRR D s3.heap.objs.size s6 m H5 I7 qq hn (I3.fpOk (Nat.le_refl _) nC)
  ·have ti:=T.item (X.blk s3 H3 scope ce fp) rfl rfl rfl hc i [] s5 _ H5 (fun _ _=>False) I5 (stat I5 n5) st5 go
   refine thnF ti fun r s6 ⟨u,hr,h6⟩=>?_
   subst hr
   refine thnF h6 fun _ s7 ⟨x,H7,I7,r7,y7,st7,n7⟩=>?_
   have I7':=I7.pinned (stat I7 n7) (T.obj _ _ st7)
   refine thnF (pg _ s7 _ H7 x u _ I7' r7 (step x H7 y7)) fun _ s8 ⟨σ8,H8,I8,hw8,q8⟩=>?_
   refine thnF (pt _ s8 σ8 H8 _ I8 q8) fun b s9 ⟨H9,I9,q9⟩=>?_
   have fin:∀ {s':Shared} {H':Hp},Inv (X.blk s3 H3 scope ce fp) ([] ++ pinsAt fp s7.heap) σ8 H' s'→Nx H'→∃ m,m < n∧∃ i H',Inv (X.blk s3 H3 scope ce fp) [] (wipe σ (own.map (·.2))) H' s'∧tn i s'.heap∧(∀ b ∈ fp,H' b = none)∧W i m H':=fun {s' H'} I' nx=>by
    obtain ⟨m',hm,w'⟩:=hNx H' nx
    have pin':∀ b ∈ fp,∀ o,s7.heap.get? b = some o→s'.heap.get? b = some o∧H' b = none:=fun b hb o e =>
     let z:=I'.pin (b,o) (List.mem_append_right _ (List.mem_append_right _ (mem_pinsAt hb e)))
     ⟨z.1,z.2.1⟩
    have hl:(wipe σ (own.map (·.2))).length = σ8.length:=by rw [← hw8,wipe_length]
    refine ⟨m',hm,i + 1,H',(I'.unpinned (pins:=[])).weak hl (fun j v e=>?_),T.keep _ _ _ st7 fun b hb o e=>(pin' b hb o e).1,fun b hb=>?_,w'⟩
    ·rw [← hw8] at e
     exact (wipe_some e).1
    ·obtain ⟨o,e,_⟩:=T.obj _ _ st7 b hb
     exact (pin' b hb o e).2
   cases b with
   | false =>
    simp only [Bool.false_eq_true,if_false] at q9 ⊢
    exact fin I9 q9
   | true =>
    simp only [if_true] at q9 ⊢
    refine thnF (pe _ s9 σ8 H9 _ I9 q9) fun z s10 ⟨yv,H10,I10,r10,acc,hD10,hz10,nx⟩=>?_
    exact app_ok (X:=X.blk s3 H3 scope ce fp) I10 hD10 hz10 r10 fun s11 I11=>fin I11 nx
 exact codeAny_compStart_list loop (T.self X.A 0 _ _ _ st4 loop)
theorem pe_lc {elt tg iter:Expr} {ifs:List Expr} {scope:Scope} {own:List (Str × Nat)} {pos:Pos} {wi:TI} {g:TG} {tt:TT} {te:TE} (hc:X.calm = true) (hN:X.N.Nodup) (hi:PI X tg iter wi) (ok:BlkOk X.N X.env.scope scope own)
  (hg:∀ (s:Shared) (H:Hp) (C:Addr) (cl:List (Str × Addr)) (fp:List Addr),PG (X.blk s H scope (compEnvC scope cl C X.env) fp) tg g) (ht:∀ (s:Shared) (H:Hp) (C:Addr) (cl:List (Str × Addr)) (fp:List Addr),PTs (X.blk s H scope (compEnvC scope cl C X.env) fp) ifs tt)
  (he:∀ (s:Shared) (H:Hp) (C:Addr) (cl:List (Str × Addr)) (fp:List Addr),PE (X.blk s H scope (compEnvC scope cl C X.env) fp) elt te) (hs:∀ x,foldedSetIterable iter X.env x = pure x:=by intro _; rfl) :
  PE X (.ListComp elt [⟨tg,iter,ifs,0⟩] scope pos) (tLc wi g tt te (own.map (·.2))):=by
 intro pins s σ H Q I h
 rw [eval_ListComp]
 refine lc_core hc hN I hi ok hg ht he hs h fun D C s' m H' I' q hn f=>⟨m,hn,fun h'' sb=>?_⟩
 obtain ⟨f0,f1,f2,f3,f4,f5⟩:=f
 exact ⟨.ref D,H',I'.turned (t':=s'.toks) (fun b o hb e=>(sb.2 b hb).trans e) f0 f1 f3 f4 f5,rfl,q⟩
theorem ps_setLc {i:Nat} {y:Str} {py:Pos} {elt tg iter:Expr} {ifs:List Expr} {scope:Scope} {own:List (Str × Nat)} {pos spos:Pos} {wi:TI} {g:TG} {tt:TT} {te:TE} (hc:X.calm = true) (hN:X.N.Nodup) (hy:X.N[i]? = some y) (hyl:X.env.scope.names.lookup y = some .local)
  (hsw:swapsWith (.ListComp elt [⟨tg,iter,ifs,0⟩] scope pos) (some (.Name y py)) spos.line X.env = pure true) (hi:PI X tg iter wi) (ok:BlkOk X.N X.env.scope scope own)
  (hg:∀ (s:Shared) (H:Hp) (C:Addr) (cl:List (Str × Addr)) (fp:List Addr),PG (X.blk s H scope (compEnvC scope cl C X.env) fp) tg g) (ht:∀ (s:Shared) (H:Hp) (C:Addr) (cl:List (Str × Addr)) (fp:List Addr),PTs (X.blk s H scope (compEnvC scope cl C X.env) fp) ifs tt)
  (he:∀ (s:Shared) (H:Hp) (C:Addr) (cl:List (Str × Addr)) (fp:List Addr),PE (X.blk s H scope (compEnvC scope cl C X.env) fp) elt te) (hs:∀ x,foldedSetIterable iter X.env x = pure x:=by intro _; rfl) :
  PS X (.Assign [.Name y py] (.ListComp elt [⟨tg,iter,ifs,0⟩] scope pos) spos) (tAsg (tLc wi g tt te (own.map (·.2))) (gName i)):=by
 intro pins s σ H D I h
 rw [exec_Assign_Name_used _ _ _ _ hsw]
 refine wpAny_bind (wpAny_standAt (wpAny_bind ?_))
 show wpAny _ X.A (do let _ ← comprehension (.ListComp elt [⟨tg,iter,ifs,0⟩] scope pos) scope X.env (firstIterPos [⟨tg,iter,ifs,0⟩] pos) (newList []) false (eval iter X.env) (some (assign (.Name y py) X.env))) _ _ s
 have h:tLc wi g tt te (own.map (·.2)) σ H (fun x H1=>gName i x σ H1 D.nx):=h
 refine wpAny_bind (thn (lc_core (Qf:=fun _ s'=>SP X pins D .next s') hc hN I hi ok hg ht he hs h fun L C s' m H' I' q hn f=>?_) fun _ s' hq=>wpAny_pure (wpAny_pure hq))
 show wpAny _ _ (assign (.Name y py) X.env (.ref L)) _ _ _
 refine wpAny_assign_Name (store_ok2 (v:=V.ref L) I' hN hy (.inl hyl) rfl (fun s2 I2 ⟨a,sb,ha⟩=>?_) (.inr hyl))
 obtain ⟨f0,f1,f2,f3,f4,f5⟩:=f
 have haC:C ≠ a:=by
  rcases ha with z | z
  ·rw [z]; exact f1
  ·exact fun e=>f4 y a z e.symm
 refine ⟨m,hn.sameBut sb haC,fun h3 sb3=>?_⟩
 exact ⟨_,H',I2.turned (t':=s2.toks) (fun b o hb e=>(sb3.2 b hb).trans e) f0 f1 f3 f4 f5,q⟩
end
theorem lc_list {K:PySem.W.Frag} {a:Addr} {xs:List V} {g:TG} {tt:TT} {te:TE} {vs:List Nat} {σ:St} {H1:Hp} {D:Addr} {Qd:Hp→Prop} (Pv:Nat→Hp→Prop) (h0:Pv 0 (upd H1 D (.lst []))) (hl:∀ i H,i ≤ xs.length→Pv i H→SqL K H a xs)
  (hs:∀ i x H,xs[i]? = some x→Pv i H→g x (wipe σ vs) H fun σ2 H2=>wipe σ2 vs = wipe σ vs∧tt σ2 H2 fun b H3 =>
   if b = true then te σ2 H3 fun y H4=>∃ acc,H4 D = some (.lst acc)∧acc.length < sizeLine∧Pv (i + 1) (upd H4 D (.lst (acc ++ [y]))) else Pv (i + 1) H3) (hd:∀ H,Pv xs.length H→Qd H) :
  ∃ W:Nat→Nat→Hp→Prop,(∃ m,W 0 m (upd H1 D (.lst [])))∧∀ i m H,W i m H →
   ((Itl K a).stop i H∧Qd H) ∨ ((Itl K a).go i H∧∃ Nx:Hp→Prop,(∀ H',Nx H'→∃ m',m' < m∧W (i + 1) m' H')∧∀ x H',(Itl K a).yld i H x H'→g x (wipe σ vs) H' fun σ2 H2=>wipe σ2 vs = wipe σ vs∧tt σ2 H2 fun b H3 =>
    if b = true then te σ2 H3 fun y H4=>∃ acc,H4 D = some (.lst acc)∧acc.length < sizeLine∧Nx (upd H4 D (.lst (acc ++ [y]))) else Nx H3):=by
 refine ⟨fun i m H=>m = xs.length - i∧i ≤ xs.length∧Pv i H,⟨xs.length,by simp,Nat.zero_le _,h0⟩,?_⟩
 rintro i m H ⟨rfl,hi,p⟩
 have q:=hl i H hi p
 by_cases hlt:i < xs.length
 ·refine .inr ⟨⟨xs,xs[i],q,by simp [hlt]⟩,Pv (i + 1),fun H' p'=>⟨xs.length - (i + 1),by omega,rfl,hlt,p'⟩,fun x H' y=>?_⟩
  obtain ⟨e,y⟩:=y
  subst e
  exact hs i x _ (y xs q) p
 ·have e:i = xs.length:=by omega
  subst e
  exact .inl ⟨⟨xs,q,Nat.le_refl _⟩,hd H p⟩
def blkC (N:List Str) (sc scope:Scope) (own:List (Str × Nat)):Bool :=
 (match scope.kind with | .function=>true | _=>false) && (scope.names.all fun y=>decide (scope.names.lookup y.1 = some y.2)) && (own.all fun p=>decide (N[p.2]? = some p.1)) &&
  (scope.names.all fun y=>match y.2 with
   | .free=>(match sc.names.lookup y.1 with | some .cell=>true | some .free=>true | _=>false)
   | .local=>decide (y.1 ∈ own.map (·.1)) || decide (y.1 ∉ N)
   | .cell=>decide (y.1 ∈ own.map (·.1)) || decide (y.1 ∉ N)
   | _=>true)
theorem blkOk_by {N:List Str} {sc scope:Scope} {own:List (Str × Nat)} (h:blkC N sc scope own = true):BlkOk N sc scope own:=by
 unfold blkC at h
 simp only [Bool.and_eq_true,List.all_eq_true,decide_eq_true_eq] at h
 obtain ⟨⟨⟨h1,h2⟩,h3⟩,h4⟩:=h
 refine ⟨?_,h2,h3,fun y hy e=>?_,fun y hy e=>?_⟩
 ·split at h1
  ·assumption
  ·cases h1
 ·have q:=h4 y hy
  simp only [e] at q
  split at q <;> first | exact .inl (by assumption) | exact .inr (by assumption) | cases q
 ·have q:=h4 y hy
  rcases e with e | e <;> (simp only [e,Bool.or_eq_true,decide_eq_true_eq] at q; exact q)
section
variable {κ:Type} [DecidableEq κ]
def valV (kvs:List (κ × V)) (k:κ):Option V:=(kvs.find? fun kv=>decide (kv.1 = k)).map (·.2)
def putK (kvs:List (κ × V)) (k:κ) (v:V):List (κ × V) :=
 if (kvs.any fun kv=>decide (kv.1 = k)) = true then kvs.map (fun kv=>if kv.1 = k then (kv.1,v) else kv) else kvs ++ [(k,v)]
theorem valV_pos {p:κ × V} {r:List (κ × V)} {k:κ} (e:p.1 = k):valV (p :: r) k = some p.2:=by simp [valV,List.find?_cons,e]
theorem valV_neg {p:κ × V} {r:List (κ × V)} {k:κ} (e:¬ p.1 = k):valV (p :: r) k = valV r k:=by simp [valV,List.find?_cons,e]
theorem valV_any (k:κ):∀ kvs:List (κ × V),(kvs.any fun kv=>decide (kv.1 = k)) = (valV kvs k).isSome
 | []=>rfl
 | p :: r=>by
  rw [List.any_cons]
  by_cases e:p.1 = k
  ·simp only [valV_pos e,decide_eq_true e,Bool.true_or,Option.isSome_some]
  ·rw [valV_neg e,decide_eq_false e,Bool.false_or]; exact valV_any k r
theorem length_putK (kvs:List (κ × V)) (k:κ) (v:V):(putK kvs k v).length ≤ kvs.length + 1:=by
 unfold putK
 split
 ·rw [List.length_map]; omega
 ·rw [List.length_append,List.length_cons,List.length_nil]; omega
theorem RelO.isSome_eq {o:Option V} {u:Option Value} (r:RelO o u):o.isSome = u.isSome:=by
 cases o with
 | none=>cases u with
  | none=>rfl
  | some _=>exact (show False from r).elim
 | some _=>cases u with
  | none=>exact (show False from r).elim
  | some _=>rfl
theorem RelO.getD {o:Option V} {u:Option Value} {d:V} {d':Value} (r:RelO o u) (rd:RelV d d'):RelV (o.getD d) (u.getD d'):=by
 cases o with
 | none=>cases u with
  | none=>exact rd
  | some _=>exact (show False from r).elim
 | some _=>cases u with
  | none=>exact (show False from r).elim
  | some _=>exact r
theorem KV.val {kvs:List (κ × V)} {vs:List (κ × Value)} (r:KV kvs vs) (k:κ):RelO (valV kvs k) (valueAt vs k):=by
 unfold KV at r
 induction r with
 | nil=>exact True.intro
 | @cons p q ps qs h t ih =>
  obtain ⟨h1,h2⟩:=h
  by_cases e:p.1 = k
  ·have e':q.1 = k:=h1.symm.trans e
   have b:valueAt (q :: qs) k = some q.2:=by simp [valueAt,List.find?_cons,e']
   rw [valV_pos e,b]; exact h2
  ·have e':¬ q.1 = k:=fun z=>e (h1.trans z)
   have b:valueAt (q :: qs) k = valueAt qs k:=by simp [valueAt,List.find?_cons,e']
   rw [valV_neg e,b]; exact ih
theorem KV.any {kvs:List (κ × V)} {vs:List (κ × Value)} (r:KV kvs vs) (k:κ):(kvs.any fun kv=>decide (kv.1 = k)) = vs.any fun kv=>decide (kv.1 = k):=by
 unfold KV at r
 induction r with
 | nil=>rfl
 | cons h t ih=>rw [List.any_cons,List.any_cons,ih,h.1]
theorem KV.repl {kvs:List (κ × V)} {vs:List (κ × Value)} (r:KV kvs vs) (k:κ) {y:V} {u:Value} (ry:RelV y u) :
  KV (kvs.map fun kv=>if kv.1 = k then (kv.1,y) else kv) (vs.map fun kv=>if kv.1 = k then (kv.1,u) else kv):=by
 unfold KV at r ⊢
 induction r with
 | nil=>exact .nil
 | @cons p q ps qs h t ih =>
  rw [List.map_cons,List.map_cons]
  refine .cons ?_ ih
  obtain ⟨h1,h2⟩:=h
  by_cases e:p.1 = k
  ·rw [if_pos e,if_pos (h1.symm.trans e)]; exact ⟨h1,ry⟩
  ·rw [if_neg e,if_neg (fun z=>e (h1.trans z))]; exact ⟨h1,h2⟩
theorem KV.put {kvs:List (κ × V)} {vs:List (κ × Value)} (r:KV kvs vs) (k:κ) {y:V} {u:Value} (ry:RelV y u):KV (putK kvs k y) (stored vs k u):=by
 unfold putK stored
 rw [r.any k]
 by_cases e:(vs.any fun kv=>decide (kv.1 = k)) = true
 ·rw [if_pos e,if_pos e]; exact r.repl k ry
 ·rw [if_neg e,if_neg e]; exact Paired.snoc r ⟨rfl,ry⟩
theorem KV.length {kvs:List (κ × V)} {vs:List (κ × Value)} (r:KV kvs vs):kvs.length = vs.length:=Paired.length r
end
theorem kV_is {P:Program} {w:World} {k:Key} {u:Value} (r:RelV (kV k) u):(mixKind P w).is k u = true:=by
 cases k with
 | inl i=>obtain ⟨t,e⟩:=(show ∃ t,u = Value.int i t from r); subst e; exact mixKind_int P w i t
 | inr x=>obtain ⟨t,e⟩:=(show ∃ t,u = Value.str x t from r); subst e; exact mixKind_str P w x t
theorem items_are {P:Program} {w:World}:∀ {ks:List Key} {us:List Value},Vals (ks.map kV) us→ItemsAre (mixKind P w) ks us
 | [],_,r=>by rw [List.map_nil] at r; cases r; exact .nil
 | k :: ks,_,r=>by
  rw [List.map_cons] at r
  cases r with
  | cons h t=>exact .cons (kV_is h) (items_are t)
abbrev KT (H:Hp):List (List Key × V)→List (List Key × Addr × Value)→Prop:=Paired fun p q=>p.1 = q.1∧H q.2.1 = some (.tup (p.1.map kV))∧RelV p.2 q.2.2
theorem KT.val {H:Hp} {kvs:List (List Key × V)} {xs:List (List Key × Addr × Value)} (r:KT H kvs xs) (k:List Key):RelO (valV kvs k) ((atKey xs k).map (·.2)):=by
 induction r with
 | nil=>exact True.intro
 | @cons p q ps qs h t ih =>
  obtain ⟨h1,_,h2⟩:=h
  by_cases e:p.1 = k
  ·have e':q.1 = k:=h1.symm.trans e
   have b:atKey (q :: qs) k = some q.2:=by simp [atKey,List.find?_cons,e']
   rw [valV_pos e,b]; exact h2
  ·have e':¬ q.1 = k:=fun z=>e (h1.trans z)
   have b:atKey (q :: qs) k = atKey qs k:=by simp [atKey,List.find?_cons,e']
   rw [valV_neg e,b]; exact ih
theorem KT.repl {H:Hp} {kvs:List (List Key × V)} {xs:List (List Key × Addr × Value)} (r:KT H kvs xs) (k:List Key) {y:V} {u:Value} (ry:RelV y u) :
  KT H (kvs.map fun kv=>if kv.1 = k then (kv.1,y) else kv) (xs.map (putAt k u)):=by
 induction r with
 | nil=>exact .nil
 | @cons p q ps qs h t ih =>
  rw [List.map_cons,List.map_cons]
  refine .cons ?_ ih
  obtain ⟨h1,h2,h3⟩:=h
  unfold putAt
  by_cases e:p.1 = k
  ·rw [if_pos e,if_pos (h1.symm.trans e)]; exact ⟨h1,h2,ry⟩
  ·rw [if_neg e,if_neg (fun z=>e (h1.trans z))]; exact ⟨h1,h2,h3⟩
theorem KT.put {H:Hp} {kvs:List (List Key × V)} {xs:List (List Key × Addr × Value)} (r:KT H kvs xs) (k:List Key) {b:Addr} {y:V} {u:Value} (hb:H b = some (.tup (k.map kV))) (ry:RelV y u) :
  KT H (putK kvs k y) (storedH xs k b u):=by
 have e:(kvs.any fun kv=>decide (kv.1 = k)) = (atKey xs k).isSome:=by
  rw [valV_any,(r.val k).isSome_eq,Option.isSome_map]
 unfold putK storedH
 rw [e]
 by_cases q:(atKey xs k).isSome = true
 ·rw [if_pos q,if_pos q]; exact r.repl k ry
 ·rw [if_neg q,if_neg q]; exact Paired.snoc r ⟨rfl,hb,ry⟩
theorem KT.keeps {H H':Hp} {kvs:List (List Key × V)} {xs:List (List Key × Addr × Value)} (r:KT H kvs xs) (ht:∀ b ys,H b = some (.tup ys)→H' b = some (.tup ys)):KT H' kvs xs :=
 Paired.mapP r fun _ _ z=>⟨z.1,ht _ _ z.2.1,z.2.2⟩
section
variable {P:Program} {w:World} {H:Hp} {h:Heap} {a:Addr}
theorem rd_of {u:HO} (ok:HOk P w H h) (e:Rd H a u):ObjOk P w H h a u:=e.ok ok
theorem dk_rd {kvs:List (Key × V)} (ok:HOk P w H h) (e:Rd H a (.dK kvs)):kvs.length ≤ sizeLine∧(a == sysModules) = false∧∃ vs,KV kvs vs∧h.DictOf (mixKind P w) a vs :=
 show ObjOk P w H h a (.dK kvs) from rd_of ok e
theorem dk_of {kvs:List (Key × V)} (ok:HOk P w H h) (e:H a = some (.dK kvs)):kvs.length ≤ sizeLine∧(a == sysModules) = false∧∃ vs,KV kvs vs∧h.DictOf (mixKind P w) a vs:=dk_rd ok (.inl e)
theorem key_of {ks:List Key} (ok:HOk P w H h) (e:H a = some (.tup (ks.map kV))):(tupleKind (mixKind P w)).is h ks a:=by
 obtain ⟨_,its,r,o,h1,h2,n,h3⟩:=(show ObjOk P w H h a (.tup (ks.map kV)) from ok a _ e)
 exact ⟨o,its.toArray,n,h1,h2,h3,by simpa using items_are r⟩
theorem dt_rd {kvs:List (List Key × V)} (ok:HOk P w H h) (e:Rd H a (.dT kvs)):kvs.length ≤ sizeLine∧(a == sysModules) = false ∧
  ∃ xs,KT H kvs xs∧h.DictOfH (tupleKind (mixKind P w)) a xs:=by
 obtain ⟨z,y,xs,r,o,es,ep,h1,h2,h3,h4,h5⟩:=(show ObjOk P w H h a (.dT kvs) from rd_of ok e)
 refine ⟨z,y,xs,r,o,es,ep,h1,h2,h3,h4,fun x hx=>?_,h5⟩
 have all:∀ {l:List (List Key × V)} {m:List (List Key × Addr × Value)},KT H l m→∀ x ∈ m,(tupleKind (mixKind P w)).is h x.1 x.2.1:=by
  intro l m q
  induction q with
  | nil=>intro x hx; exact nomatch hx
  | @cons p q ps qs hq t ih =>
   intro x hx
   rcases List.mem_cons.mp hx with e | hx
   ·subst e
    exact key_of ok (by rw [← hq.1]; exact hq.2.1)
   ·exact ih x hx
 exact all r x hx
theorem dt_of {kvs:List (List Key × V)} (ok:HOk P w H h) (e:H a = some (.dT kvs)):kvs.length ≤ sizeLine∧(a == sysModules) = false ∧
  ∃ xs,KT H kvs xs∧h.DictOfH (tupleKind (mixKind P w)) a xs:=dt_rd ok (.inl e)
end
def DGet (H:Hp) (a:Addr) (y:V) (r:Option V):Prop :=
 (∃ kvs k,Rd H a (.dK kvs)∧y = kV k∧r = valV kvs k) ∨ ∃ kvs k b,Rd H a (.dT kvs)∧y = .ref b∧H b = some (.tup (k.map kV))∧r = valV kvs k
def DPut (H:Hp) (a:Addr) (y v:V) (H':Hp):Prop :=
 (∃ kvs k,H a = some (.dK kvs)∧y = kV k∧kvs.length < sizeLine∧H' = upd H a (.dK (putK kvs k v))) ∨
 ∃ kvs k b,H a = some (.dT kvs)∧y = .ref b∧H b = some (.tup (k.map kV))∧kvs.length < sizeLine∧H' = upd H a (.dT (putK kvs k v))
theorem DGet.t {H:Hp} {a b:Addr} {kvs:List (List Key × V)} {k:List Key} (e:H a = some (.dT kvs)) (eb:H b = some (.tup (k.map kV))):DGet H a (.ref b) (valV kvs k):=.inr ⟨kvs,k,b,.inl e,rfl,eb,rfl⟩
theorem DPut.t {H:Hp} {a b:Addr} {kvs:List (List Key × V)} {k:List Key} {v:V} (e:H a = some (.dT kvs)) (eb:H b = some (.tup (k.map kV))) (hl:kvs.length < sizeLine) :
  DPut H a (.ref b) v (upd H a (.dT (putK kvs k v))):=.inr ⟨kvs,k,b,e,rfl,eb,hl,rfl⟩
section
variable {X:Cx} {pins:List (Addr × Obj)} {σ:St} {H:Hp} {s:Shared} {a:Addr} {y v:V} {u r:Value} {o:Option V} {A:Around} {E:Value→Shared→Prop}
theorem Inv.big (I:Inv X pins σ H s):sysModules < s.heap.objs.size:=by
 have h:mainGlobals < s.heap.objs.size:=(I.mod.glob.keeps I.bk).lt
 exact Nat.lt_trans (by decide) h
theorem d_notIn {Q:Value→Shared→Prop} (hu:A.units + 1 < cLine) (I:Inv X pins σ H s) (g:DGet H a y o) (ry:RelV y u) (h:∀ s',Inv X pins σ H s'→Q (.bool (!o.isSome)) s') :
  wpAny (model X.prog X.w) A (compareOp .NotIn u (.ref a)) Q E s:=by
 rcases g with ⟨kvs,k,e,ey,l⟩ | ⟨kvs,k,b,e,ey,eb,l⟩
 ·subst ey
  obtain ⟨z,hd,vs,rel,dd⟩:=dk_rd I.hok e
  refine wpAny_notIn_of (kV_is ry) hd dd.mapOf ?_
  rw [← (rel.val k).isSome_eq,← l]
  exact h _ (I.tok _)
 ·subst ey
  cases (show u = Value.ref b from ry)
  obtain ⟨z,hd,xs,rel,dd⟩:=dt_rd I.hok e
  refine wpAny_notIn_heap (tupleKind_room_in1 hu) (key_of I.hok eb) hd dd ?_
  have q:=(rel.val k).isSome_eq
  rw [Option.isSome_map] at q
  rw [← q,← l]
  exact h _ (I.tok _)
theorem d_write {h':Heap} {t':Nat} {ob:HO} (I:Inv X pins σ H s) (mu:Mut (H a)) (hs:Heap.SameBut a s.heap h') (he:∃ q,h'.get? a = some q) (new:ObjOk X.prog X.w (upd H a ob) h' a ob) :
  Inv X pins σ (upd H a ob) { s with heap:=h',toks:=t' } :=
 I.write (x:=a) (e:=a) mu (.inl rfl) (fun b q hb z=>(hs.2 b hb).trans z) he new
theorem dk_new {P:Program} {w:World} {H':Hp} {h':Heap} {kvs:List (Key × V)} {vs:List (Key × Value)} (z:kvs.length ≤ sizeLine) (hd:(a == sysModules) = false) (rel:KV kvs vs) (dd:h'.DictOf (mixKind P w) a vs) :
  ObjOk P w H' h' a (.dK kvs):=⟨z,hd,vs,rel,dd⟩
theorem d_setItem {H':Hp} {Q:Unit→Shared→Prop} (hu:A.units + 1 < cLine) (I:Inv X pins σ H s) (g:DPut H a y v H') (ry:RelV y u) (rv:RelV v r) (h:∀ s',Inv X pins σ H' s'→Q () s') :
  wpAny (model X.prog X.w) A (setItem (.ref a) u r) Q E s:=by
 rcases g with ⟨kvs,k,e,ey,l,eH⟩ | ⟨kvs,k,b,e,ey,eb,l,eH⟩
 ·subst ey eH
  obtain ⟨z,hd,vs,rel,dd⟩:=dk_of I.hok e
  have hz:vs.length ≤ sizeLine:=by rw [← rel.length]; exact z
  have hl:(putK kvs k v).length ≤ sizeLine:=by have:=length_putK kvs k v; omega
  refine wpAny_setItem_pairs (hsz:=hz) (kV_is ry) dd fun h' dd' hs=>h _ ?_
  have he:∃ q,h'.get? a = some q:=let ⟨q,_,_,hq,_⟩:=dd'; ⟨q,hq⟩
  exact d_write I (by rw [e]; exact True.intro) hs he (dk_new hl hd (rel.put k rv) dd')
 ·subst ey eH
  cases (show u = Value.ref b from ry)
  obtain ⟨z,hd,xs,rel,dd⟩:=dt_of I.hok e
  have hz:xs.length ≤ sizeLine:=by rw [← Paired.length rel]; exact z
  have hl:(putK kvs k v).length ≤ sizeLine:=by have:=length_putK kvs k v; omega
  refine wpAny_setItem_heap (hsz:=hz) (tupleKind_room_in1 hu) (key_of I.hok eb) dd fun h' dd' hs=>h _ ?_
  obtain ⟨q,es,ep,hq,h2,h3,h4,_,h5⟩:=dd'
  refine d_write I (by rw [e]; exact True.intro) hs ⟨q,hq⟩ ⟨hl,hd,_,(rel.put k eb rv).keeps fun c ys ec=>?_,q,es,ep,hq,h2,h3,h4,h5⟩
  rw [upd_ne (ne_of ec e (fun z=>nomatch z))]
  exact ec
end
def NoSl (i:Expr):Prop:=∀ ov iv,subscripted i false ov iv = operate [ov,iv] (getItem ov iv)
theorem subD_of {prog:Program} {w:World} {A:Around} {E:Value→Shared→Prop} {s:Shared} {env:Env} {value slice:Expr} {pos:Pos} {T id:String} {Q:Value→Shared→Prop}
  (hl:typeLookup (.type T) "__getitem__" = pure (some (.builtin id))) (hs:NoSl slice)
  (h:wpAny (model prog w) A (eval value env) (fun o s₁=>wpAny (model prog w) A (eval slice env) (fun i s₂=>s₂.TypeIs o T∧wpAny (model prog w) A (getItem o i) Q E s₂) E s₁) E s) :
  wpAny (model prog w) A (eval (.Subscript value slice pos) env) Q E s:=by
 refine Subscript_ (wpAny_mono h (fun o s₁ h₁=>wpAny_mono h₁ (fun i s₂ h₂=>?_) fun _ _ x=>x) fun _ _ x=>x)
 obtain ⟨hT,h₂⟩:=h₂
 unfold subscriptTail
 refine wpAny_bind ?_
 rw [getitemInPython_of_ne hT.not_modules]
 refine wpAny_bind (wpAny_specialOf hT hl ?_)
 have fin:wpAny (model prog w) A (subscripted slice false o i) (fun r s₃=>wpAny (model prog w) A (letTemporaryGo value o r >>= fun _=>pure r) Q E s₃) E s₂:=by
  rw [hs o i]
  exact wpAny_operating (wpAny_mono h₂ (fun r s₃ h₃=>wpAny_bind (wpAny_letTemporaryGo (wpAny_pure h₃))) fun _ _ x=>x)
 first
  | exact wpAny_pure (wpAny_bind fin)
  | exact wpAny_bind (wpAny_pure (wpAny_bind fin))
  | exact wpAny_bind fin
def tDNotIn (ty td:TE):TE:=fun σ H Q=>ty σ H fun y H1=>td σ H1 fun x H2=>∃ a o,x = .ref a∧DGet H2 a y o∧Q (.bl (!o.isSome)) H2
def sDPut (td ty tv:TE):TS:=fun D σ H=>tv σ H fun v H1=>td σ H1 fun x H2=>ty σ H2 fun y H3=>∃ a H4,x = .ref a∧DPut H3 a y v H4∧D.nx σ H4
section
variable {X:Cx} {o i e value:Expr} {pos pos' tpos:Pos} {td ty tv:TE}
theorem pc_dnotin (hu:X.A.units + 1 < cLine) (hi:PE X i ty) (ho:PE X o td):PC X .NotIn i o (tDNotIn ty td):=by
 intro pins s σ H Q I h
 refine thn (hi pins s σ H _ I h) fun iv s1 ⟨y,H1,I1,ry,q1⟩=>thn (ho pins s1 σ H1 _ I1 q1) fun u s2 ⟨x,H2,I2,rx,a,ov,ex,g,q2⟩=>?_
 subst ex
 obtain rfl:u = Value.ref a:=rx
 exact d_notIn hu I2 g ry fun s3 I3=>⟨.bl (!ov.isSome),H2,I3,rfl,q2⟩
theorem ps_dput (hu:X.A.units + 1 < cLine) (ho:PE X o td) (hi:PE X i ty) (hv:PE X value tv) (hs:swapsWith value (some (.Subscript o i pos')) pos.line X.env = pure false) :
  PS X (.Assign [.Subscript o i pos'] value pos) (sDPut td ty tv):=by
 intro pins s σ H D I h
 refine wpAny_Assign_Subscript (thn (hv pins s σ H _ I h) fun r s1 ⟨v,H1,I1,rv,q1⟩=>thn (ho pins s1 σ H1 _ I1 q1) fun u s2 ⟨x,H2,I2,rx,q2⟩=>thn (hi pins s2 σ H2 _ I2 q2) fun iv s3 ⟨y,H3,I3,ry,a,H4,ex,g,q3⟩=>?_) hs
 subst ex
 obtain rfl:u = Value.ref a:=rx
 exact d_setItem hu I3 g ry rv fun s4 I4=>⟨σ,H4,I4,q3⟩
end
theorem dt_empty {P:Program} {w:World} {H:Hp} (h:Heap) (hb:sysModules < h.objs.size):ObjOk P w H (h.push { cls:=.type "dict",data:=.dict #[] }) h.objs.size (.dT []) :=
 ⟨Nat.zero_le _,beq_eq_false_iff_ne.mpr (Ne.symm (Nat.ne_of_lt hb)),[],.nil,_,#[],0,Heap.get?_push_size _ rfl,⟨rfl,rfl,rfl⟩,rfl,rfl,List.nodup_nil⟩
def tDNewT:TE:=fun _ H Q=>∀ p,H p = none→Q (.ref p) (upd H p (.dT []))
section
variable {X:Cx} {pos:Pos}
theorem pe_dnewT:PE X (.Dict [] [] pos) tDNewT:=fun pins s σ H Q I h =>
 wpAny_Dict_empty ⟨.ref s.heap.objs.size,_,I.laid (a:=s.heap.objs.size) (o:=.dT []) (t':=s.toks) (fun _ _ q=>Heap.get?_push_of_some _ q) (Nat.le_refl _) (dt_empty s.heap I.big),rfl,h _ (I.hok.fresh (Nat.le_refl _))⟩
end
structure M2 (X:Cx) (o:Expr) (m:Str) (apos:Pos) (e f:Expr) (cpos:Pos):Prop where
 base:attributeBase o m X.env (eval o X.env) = eval o X.env
 few:((backTo cpos (starEach [e,f] X.env)).all (fun x=>!x.1) && (backToKw cpos (keywordEach [] X.env)).all (fun x=>x.1.isSome)
  && decide (([e,f]:List Expr).length + ([]:List Keyword).length + (if ([]:List Keyword).isEmpty then 0 else 1) < 30)) = true
 line:(apos.endLine == cpos.line) = true
 trees:backTo cpos (starEach [e,f] X.env) = [(false,eval e X.env),(false,eval f X.env)]
section
variable {X:Cx} {pins:List (Addr × Obj)} {σ:St} {H:Hp} {s:Shared} {h':Heap}
theorem Inv.turnedNew {t':Nat} {ch:List Addr} {T:Addr} {ob:HO} (I:Inv X pins σ H s) (k:∀ b o,b ∉ ch→s.heap.get? b = some o→h'.get? b = some o) (hf:∀ b ∈ ch,FpOk X pins H b) (hT:s.heap.objs.size ≤ T)
  (new:ObjOk X.prog X.w (upd H T ob) h' T ob):Inv X pins σ (upd H T ob) { s with heap:=h',toks:=t' }:=by
 have hn:H T = none:=I.hok.fresh hT
 have nit:∀ b u,H b = some u→b ∉ ch:=fun b u e z=>by
  have q:=(hf b z).1
  rw [q] at e; cases e
 refine I.step (g':=s.gens) (d':=s.drawn) (ch:=ch) (fun b hb=>⟨(hf b hb).2.2.2.1,(hf b hb).2.1,(hf b hb).2.2.2.2.1,(hf b hb).2.2.2.2.2⟩) (fun b o _ _ hc e _=>k b o hc e) (fun b o _ _ hc e _=>⟨o.slots,k b o hc e⟩)
  (fun b o _ e n=>?_) (fun b o hc e=>⟨o,k b o hc e⟩) (fun b xs e=>?_) (fun b o u e=>?_) (fun b ps e=>⟨#[],?_⟩) (fun m hm=>?_) (fun b u e=>?_) I.bare
 ·rw [upd_ne (Nat.ne_of_lt (Nat.lt_of_lt_of_le (Heap.lt_size e) hT))]; exact n
 ·rw [upd_ne (ne_of_none e hn)]; exact e
 ·rw [upd_ne (ne_of_none e hn)]; exact e
 ·rw [upd_ne (ne_of_none e hn),e]; simp
 ·obtain ⟨o,es,ep,ho,r⟩:=hm
  exact ⟨o,es,ep,k _ o (fun z=>(hf _ z).2.1 rfl) ho,r⟩
 ·by_cases hb:b = T
  ·subst hb
   rw [upd_same] at e
   cases e
   exact new
  ·rw [upd_ne hb] at e
   refine (I.hok b u e).stay (fun c v hc q=>k c v ?_ q) (fun c q=>by rw [upd_ne (ne_of_none q hn)]; exact q) fun c xs q=>by rw [upd_ne (ne_of_none q hn)]; exact q
   rcases hc with z | z
   ·rw [z]; exact nit b u e
   ·exact nit c _ z
end
section
variable {X:Cx}
theorem pi_one {tg:Expr} {pins:List (Addr × Obj)} {σ:St} {H:Hp} {s:Shared} {R:It→Hp→Prop} {J:It} {tn:Nat→Heap→Prop} {tk:Nat} (I:Inv X pins σ H s) (o:Obj)
  (T:Turn X.prog X.w X.K tg J [s.heap.objs.size] s.heap.objs.size tn) (st:tn 0 (s.heap.push o)) (q:R J H):PIE X pins σ tg R (.ref s.heap.objs.size) { s with heap:=s.heap.push o,toks:=tk }:=by
 refine ⟨s.heap.objs.size,[s.heap.objs.size],tn,J,H,rfl,I.kept fun b ob e=>Heap.get?_push_of_some _ e,T,st,fun b hb=>?_,q⟩
 have e:b = s.heap.objs.size:=by simpa using hb
 subst e
 exact I.fpOk (Nat.le_refl _) (I.hok.fresh (Nat.le_refl _))
end
def Its (x:Str):It:=⟨fun i _=>i < x.cps.size,fun i H v H'=>H' = H∧∃ c,x.cps[i]? = some c∧v = .str ⟨#[c]⟩,fun i _=>x.cps.size ≤ i⟩
theorem turn_str {P:Program} {w:World} {K:PySem.W.Frag} {tg:Expr} (it:Addr) (x:Str) (t:Tok) (ty:String) (hty:ty = "str_ascii_iterator" ∨ ty = "str_iterator") :
  Turn P w K tg (Its x) [it] it (fun i h=>h.IsStrIter it ty x t i) where
 mem:=by simp
 obj:=fun i h st b hb=>by
  have e:b = it:=by simpa using hb
  subst e
  obtain ⟨o,e,c,d⟩:=st
  exact ⟨o,e,fun v z=>by rw [d] at z; cases z⟩
 keep:=fun i h h' st k=>let ⟨o,ho,r⟩:=st; ⟨o,k it (by simp) o ho,r⟩
 item:=by
  intro X hP hw hK hc i pins s σ H E I hf st hg
  subst hP hw hK
  obtain ⟨f0,f1,f2,f3,f4,f5⟩:=hf it (by simp)
  have W:Walks X.prog X.w X.A it [it] [it] x.cps.size (SignAt x) (fun i h=>h.IsStrIter it ty x t i):=by
   rcases hty with e | e
   ·rw [e]; exact Walks.strAscii (I.ok.hd hc) it x t
   ·rw [e]; exact Walks.strWide (I.ok.hd hc) it x t
  have hno:["enumerate","zip","dict_itemiterator","dict_reverseitemiterator","odict_iterator","itertools.zip_longest","itertools.pairwise"].contains ty = false:=by
   rcases hty with e | e
   ·rw [e]; decide
   ·rw [e]; decide
  refine W.item i s _ _ hg st fun v h' tk hv st' kk=>?_
  obtain ⟨c,u,hcx,rfl⟩:=hv
  have I1:Inv X pins σ H { s with heap:=h',toks:=tk }:=I.turned (fun b o hb e=>kk b o (by simpa using hb) e) f0 f1 f3 f4 f5
  obtain ⟨oi,e,cc,dd⟩:=id st'
  exact ⟨_,rfl,go_of (s:={ s with heap:=h',toks:=tk }) e cc dd hno ⟨.str ⟨#[c]⟩,H,I1,⟨u,rfl⟩,⟨rfl,c,hcx,rfl⟩,st',fun b hb=>(hf b hb).1⟩⟩
 done:=by
  intro X hP hw hK hc i pins s σ H E I hf st hg
  subst hP hw hK
  obtain ⟨f0,f1,f2,f3,f4,f5⟩:=hf it (by simp)
  have hx:x.cps[i]? = none:=Array.getElem?_eq_none hg
  rcases hty with e | e
  ·rw [e] at st
   exact wpAny_pyNext_ascii_end (I.ok.hd hc) st hx fun h' eb=>⟨rfl,I.turned (t':=s.toks) (fun b o hb e=>eb b o hb e) f0 f1 f3 f4 f5⟩
  ·rw [e] at st
   exact wpAny_pyNext_wide_end (I.ok.hd hc) st hx fun h' eb=>⟨rfl,I.turned (t':=s.toks) (fun b o hb e=>eb b o hb e) f0 f1 f3 f4 f5⟩
 self:=fun A i s Q E st h=>by
  rcases hty with e | e
  ·rw [e] at st; exact wpAny_pyIter_striter_ascii st h
  ·rw [e] at st; exact wpAny_pyIter_striter_wide st h
def iStr (te:TE):TI:=fun σ H R=>te σ H fun v H1=>∃ x,v = .str x∧R (Its x) H1
theorem pi_str {X:Cx} {tg e:Expr} {te:TE} (he:PE X e te):PI X tg e (iStr te):=by
 intro pins s σ H R I h
 refine thn (he pins s σ H _ I h) fun v s1 ⟨y,H1,I1,r1,x,ex,q⟩=>?_
 subst ex
 obtain ⟨t,rfl⟩:=r1
 cases ha:x.cps.all (· < 128)
 ·exact wpAny_pyIter_wide ha (pi_one (tk:=s1.toks) I1 _ (turn_str _ x t "str_iterator" (.inr rfl)) ⟨_,Heap.get?_push_size _ rfl,rfl,rfl⟩ q)
 ·exact wpAny_pyIter_ascii ha (pi_one (tk:=s1.toks) I1 _ (turn_str _ x t "str_ascii_iterator" (.inl rfl)) ⟨_,Heap.get?_push_size _ rfl,rfl,rfl⟩ q)
def Ite (K:PySem.W.Frag) (a:Addr):It :=
 ⟨fun i H=>∃ (xs:List V) (x:V),SqL K H a xs∧xs[i]? = some x,fun i H v H'=>∃ T x,v = .ref T∧H T = none∧H' = upd H T (.tup [.int (i:Nat),x])∧∀ xs,SqL K H a xs→xs[i]? = some x,fun i H=>∃ xs:List V,SqL K H a xs∧xs.length ≤ i⟩
theorem turn_enum {P:Program} {w:World} {K:PySem.W.Frag} {elts:List Expr} {kk:Nat} {tpos:Pos} (a e it:Addr) :
  Turn P w K (.Tuple elts kk tpos) (Ite K a) [e,it] e (fun i h=>(∃ old,IsEnum h e it ((i:Nat):Int) old)∧h.IsListIter it a i∧e ≠ it) where
 mem:=by simp
 obj:=fun i h st b hb=>by
  obtain ⟨⟨old,he⟩,⟨o,ho,hc,hd⟩,_⟩:=st
  have e':b = e ∨ b = it:=by simpa using hb
  rcases e' with z | z
  ·rw [z]; exact ⟨_,he,fun v q=>nomatch q⟩
  ·rw [z]; exact ⟨o,ho,fun v q=>by rw [hd] at q; cases q⟩
 keep:=fun i h h' st k=>let ⟨⟨old,he⟩,hi,hne⟩:=st; ⟨⟨old,k e (by simp) _ he⟩,hi.at fun o q=>k it (by simp) o q,hne⟩
 item:=by
  intro X hP hw hK hc i pins s σ H E I hf st hg
  subst hP hw hK
  obtain ⟨⟨old,he⟩,hit,hne⟩:=st
  obtain ⟨xs,x,hq,hx⟩:=hg
  obtain ⟨its,rv,p,hz⟩:=I.list hq
  obtain ⟨u,hu,ru⟩:=rv.get hx
  have hel:e < s.heap.objs.size:=Heap.lt_size he
  have hil:it < s.heap.objs.size:=by obtain ⟨_,q,_⟩:=hit; exact Heap.lt_size q
  refine wpAny_pyNext_enum_item he hit p.isList (x:=u) (by simpa using hu) hne fun h' ho hit' hT hsz hk=>?_
  refine ⟨_,rfl,wpAny_letOwnedTupleGo_enum (s:={ s with heap:=h',toks:=s.toks + 1 }) ho fun h'' he' sb=>?_⟩
  have hT2:h''.get? s.heap.objs.size = some { cls:=.type "tuple",data:=.seq #[.int i s.toks,u] }:=(sb.2 _ (Nat.ne_of_gt hel)).trans hT
  have new:ObjOk X.prog X.w (upd H s.heap.objs.size (.tup [.int (i:Nat),x])) h'' s.heap.objs.size (.tup [.int (i:Nat),x]) :=
   ⟨by show 2 ≤ sizeLine; decide,[.int i s.toks,u],.cons ⟨_,rfl⟩ (.cons ru .nil),⟨_,hT2,rfl,_,rfl⟩⟩
  have I1:Inv X pins σ (upd H s.heap.objs.size (.tup [.int (i:Nat),x])) { s with heap:=h'',toks:=s.toks + 1 } :=
   I.turnedNew (ch:=[e,it]) (fun b ob hb q=>(sb.2 b (fun z=>hb (by simp [z]))).trans (hk b ob (fun z=>hb (by simp [z])) (fun z=>hb (by simp [z])) q)) hf (Nat.le_refl _) new
  refine ⟨.ref s.heap.objs.size,_,I1,rfl,⟨_,x,rfl,I.hok.fresh (Nat.le_refl _),rfl,fun ys hy=>by rw [I.list_inj hy hq]; exact hx⟩,⟨⟨u,?_⟩,hit'.at fun o q=>(sb.2 it (Ne.symm hne)).trans q,hne⟩,fun b hb=>?_⟩
  ·have e1:((i + 1:Nat):Int) = (i:Int) + 1:=by omega
   rw [e1]; exact he'
  ·have hb':b < s.heap.objs.size:=by
    have e':b = e ∨ b = it:=by simpa using hb
    rcases e' with z | z
    ·rw [z]; exact hel
    ·rw [z]; exact hil
   rw [upd_ne (Nat.ne_of_lt hb')]
   exact (hf b hb).1
 done:=by
  intro X hP hw hK hc i pins s σ H E I hf st hg
  subst hP hw hK
  obtain ⟨⟨old,he⟩,hit,hne⟩:=st
  obtain ⟨xs,hq,hx⟩:=hg
  obtain ⟨its,rv,p,hz⟩:=I.list hq
  obtain ⟨f0,f1,f2,f3,f4,f5⟩:=hf it (by simp)
  have hl:=rv.length
  exact wpAny_pyNext_enum_end (I.ok.hd hc) he hit p.isList (by simp; omega) fun h' eb=>⟨rfl,I.turned (t':=s.toks) (fun b o hb q=>eb b o hb q) f0 f1 f3 f4 f5⟩
 self:=fun A i s Q E st h=>let ⟨⟨_,he⟩,_⟩:=st; wpAny_pyIter_enum he h
def iEnum (K:PySem.W.Frag) (ta:TA):TI:=fun σ H R=>ta σ H fun vs H1=>∃ a xs,vs = [.ref a]∧SqL K H1 a xs∧R (Ite K a) H1
theorem pi_enum {X:Cx} {e:Expr} {ta:TA} {p pos tpos:Pos} {elts:List Expr} {kk:Nat} (hg:Gl X "enumerate") (hm:X.mg "enumerate" = none) (ha:PA X [e] ta) (hs:starEach [e] X.env = [(false,eval e X.env)]:=by rfl) :
  PI X (.Tuple elts kk tpos) (.Call (.Name "enumerate" p) [e] [] pos) (iEnum X.K ta):=by
 intro pins s σ H R I h
 refine Call_ (ld_blt I hg hm boot_enumerate (PyProof.Rows.callWith_type1 (thn (ha pos pins s σ H _ I h) fun us s1 ⟨vs,H1,I1,r1,q1⟩=>?_) hs rfl))
 obtain ⟨a,xs,ex,hq,q⟩:=q1
 subst ex
 cases r1 with
 | cons r rr =>
  cases rr
  cases r
  obtain ⟨its,rv,p',hz⟩:=I1.list hq
  refine call_enumerate_list p'.isList fun h' he hit hsz hk=>wpAny_pyIter_enum he ?_
  have I2:Inv X pins σ H1 { s1 with heap:=h' }:=I1.kept (t':=s1.toks) hk
  refine ⟨s1.heap.objs.size + 1,[s1.heap.objs.size + 1,s1.heap.objs.size],_,_,H1,rfl,I2,turn_enum a (s1.heap.objs.size + 1) s1.heap.objs.size,⟨⟨.none,he⟩,hit,Nat.succ_ne_self _⟩,fun b hb=>?_,q⟩
  have e':b = s1.heap.objs.size + 1 ∨ b = s1.heap.objs.size:=by simpa using hb
  have hle:s1.heap.objs.size ≤ b:=by
   rcases e' with z | z
   ·rw [z]; exact Nat.le_add_right _ _
   ·rw [z]; exact Nat.le_refl _
  exact I1.fpOk hle (I1.hok.fresh hle)
end L2
section
end
section
end
namespace L2
open PySem PySem.Spec PyProof.Rows
def inClass (s:Stmt) (j:Nat):Stmt:=match s with
 | .ClassDef _ _ _ body _ _ _ _ _ _ _=>body.getD j (.Pass ⟨0,0,0,0⟩)
 | _=>.Pass ⟨0,0,0,0⟩
def defArgs (s:Stmt):Arguments:=match s with
 | .FunctionDef _ a _ _ _ _ _ _ _ _=>a
 | _=>{ posonlyargs:=[],args:=[],vararg:=none,kwonlyargs:=[],kw_defaults:=[],kwarg:=none,defaults:=[] }
def defBody (s:Stmt):List Stmt:=match s with
 | .FunctionDef _ _ b _ _ _ _ _ _ _=>b
 | _=>[]
def defScope (s:Stmt):Scope:=match s with
 | .FunctionDef _ _ _ _ _ _ sc _ _ _=>sc
 | _=>{ kind:=.function,names:=[],isGenerator:=false,isCoroutine:=false }
structure Fun (K:PySem.W.Frag) (x qual:Str) (st:Stmt) (f:Addr) (fd:FuncData):Prop where
 ex:∃ (oc:Value) (od:Option Addr) (kV doc pm:Value) (an:Option Addr) (cdv ct:Value) (osl:Array (Option Value)),
  fd = PySem.W.fnOf x qual (defArgs st) (defBody st) (defScope st) .none kV doc pm an cdv ct∧K.lookup f = some ⟨oc,od,.func fd,osl⟩∧PySem.W.codeIn K cdv qual = true
 kp:PySem.W.keepIn K (.ref f) = true
section
variable {P:Program} {w:World} {K:PySem.W.Frag} {mg:Str→Option Value} {base:Heap}
theorem Fun.binds {x qual:Str} {st:Stmt} {f:Addr} {fd:FuncData} {ps:List Str} (F:Fun K x qual st f fd)
  (h:∀ (kV doc pm:Value) (an:Option Addr) (cdv ct:Value) (us:List Value),us.length = ps.length→bindArgs (PySem.W.fnOf x qual (defArgs st) (defBody st) (defScope st) .none kV doc pm an cdv ct) ⟨us,[]⟩ = pure (ps.zip us)):Binds K fd ps []:=by
 obtain ⟨oc,od,kV,doc,pm,an,cdv,ct,osl,rfl,lk,hcd⟩:=F.ex
 exact .all (h kV doc pm an cdv ct)
theorem fun_mk {x qual:Str} {st:Stmt} {f:Addr} {oc:Value} {od an:Option Addr} {osl:Array (Option Value)} {kV doc pm cdv ct:Value} (l:K.lookup f = some ⟨oc,od,.func (PySem.W.fnOf x qual (defArgs st) (defBody st) (defScope st) .none kV doc pm an cdv ct),osl⟩)
  (c:PySem.W.codeIn K cdv qual = true) (k:PySem.W.keepIn K (.ref f) = true):Fun K x qual st f (PySem.W.fnOf x qual (defArgs st) (defBody st) (defScope st) .none kV doc pm an cdv ct):=⟨⟨oc,od,kV,doc,pm,an,cdv,ct,osl,rfl,l,c⟩,k⟩
end
section
variable {X:Cx}
theorem pv (i:Nat) {x:Str} {pos:Pos} (hN:X.N[i]? = some x:=by rfl) (hv:Vis X.env.scope x:=by first | exact Or.inl rfl | exact Or.inr (Or.inl rfl) | exact Or.inr (Or.inr rfl)) (hd:(x == ("__debug__":Str)) = false:=by decide)
  (hcd:(x == ("__classdict__":Str)) = false:=by decide):PE X (.Name x pos) (tVar i):=pe_var hN hv hd hcd
end
def Same (H H':Hp):Prop:=∀ b o,H b = some o→H' b = some o
theorem Same.trans {H H1 H2:Hp} (a:Same H H1) (b:Same H1 H2):Same H H2:=fun c o h=>b c o (a c o h)
theorem at_of {xs:List V} {z:Int} {j:Nat} {v:V} (e:z = (j:Int)) (h:xs[j]? = some v):atI xs z = some v:=by
 rw [e]
 exact atI_nat h
end L2
namespace L2
open PySem PySem.Spec PyProof.Rows
open PySem.W (WData Codec OpenSpec Well WellAll ReadsW ReadsAllW)
mutual
inductive Dw (K:PySem.W.Frag) (H:Hp):V→WData→Prop
 | non:Dw K H .non .none
 | bl (b:Bool):Dw K H (.bl b) (.bool b)
 | int (i:Int):Dw K H (.int i) (.int i)
 | str (x:Str):Dw K H (.str x) (.str x)
 | byt (b:Array UInt8):Dw K H (.byt b) (.bytes b.toList)
 | lst {a:Addr} {xs:List V} {ds:List WData}:SqL K H a xs→DwAll K H xs ds→Dw K H (.ref a) (.list ds)
 | tup {a:Addr} {xs:List V} {ds:List WData}:SqT K H a xs→DwAll K H xs ds→Dw K H (.ref a) (.tuple ds)
inductive DwAll (K:PySem.W.Frag) (H:Hp):List V→List WData→Prop
 | nil:DwAll K H [] []
 | cons {v:V} {vs:List V} {d:WData} {ds:List WData}:Dw K H v d→DwAll K H vs ds→DwAll K H (v :: vs) (d :: ds)
end
theorem dw_ints {K:PySem.W.Frag} {H:Hp}:∀ ns:List Int,DwAll K H (ns.map V.int) (ns.map WData.int)
 | []=>.nil
 | n :: r=>.cons (.int n) (dw_ints r)
theorem ints_dw {K:PySem.W.Frag} {H:Hp}:∀ (ns:List Int) (xs:List V),DwAll K H xs (ns.map WData.int)→xs = ns.map V.int
 | [],xs,h=>by
  cases h
  rfl
 | n :: r,xs,h=>by
  cases h with
  | cons h1 h2 =>
   cases h1
   rw [ints_dw r _ h2] <;> rfl
section
variable {P:Program} {w:World} {K:PySem.W.Frag} {H:Hp} {h:Heap} {R:PySem.W.WRecords} {cl:Str→Option Addr}
theorem sqL_at {a:Addr} {xs:List V} (hok:HOk P w H h) (KX:K.In h) (q:SqL K H a xs):∃ (its:List Value) (o:Obj) (n:Nat),Vals xs its∧h.get? a = some o∧o.cls = .type "list"∧o.data = .seq its.toArray n:=by
 rcases q with q | ⟨o,its,n,e,hc,_,hd,_,hv⟩
 ·obtain ⟨_,its,n,hv,e⟩:=(show ObjOk P w H h a (.lst xs) from q.ok hok)
  exact ⟨its,_,n,hv,e,rfl,rfl⟩
 ·exact ⟨its.toList,o,n,hv,KX _ _ e,hc,by simp [hd]⟩
theorem sqT_at {a:Addr} {xs:List V} (hok:HOk P w H h) (KX:K.In h) (q:SqT K H a xs):∃ (its:List Value) (o:Obj) (n:Nat),Vals xs its∧h.get? a = some o∧o.cls = .type "tuple"∧o.data = .seq its.toArray n:=by
 rcases q with q | ⟨o,its,n,e,hc,hd,_,hv⟩
 ·obtain ⟨_,its,hv,o,e,hc,n,hd⟩:=(show ObjOk P w H h a (.tup xs) from q.ok hok)
  exact ⟨its,o,n,hv,e,hc,hd⟩
 ·exact ⟨its.toList,o,n,hv,KX _ _ e,hc,by simp [hd]⟩
mutual
theorem Dw.reads (hok:HOk P w H h) (KX:K.In h):∀ (d:WData) (v:V) (u:Value),Dw K H v d→RelV v u→∃ as,ReadsW R cl h u d as
 | .none,_,_,x,r=>by
  cases x
  cases r
  exact ⟨_,ReadsW.none⟩
 | .bool b,_,_,x,r=>by
  cases x
  cases r
  exact ⟨_,ReadsW.bool b⟩
 | .int i,_,_,x,r=>by
  cases x
  obtain ⟨t,rfl⟩:=r
  exact ⟨_,ReadsW.int i t⟩
 | .str s,_,_,x,r=>by
  cases x
  obtain ⟨t,rfl⟩:=r
  exact ⟨_,ReadsW.str s t⟩
 | .bytes b,_,_,x,r=>by
  cases x
  obtain ⟨t,rfl⟩:=r
  exact ⟨_,ReadsW.bytes _ t⟩
 | .list ds,_,_,x,r=>by
  cases x with
  | lst hs ha =>
   cases r
   obtain ⟨its,o,n,rv,ho,hc,hd⟩:=sqL_at hok KX hs
   obtain ⟨as,hr⟩:=Dw.readsAll hok KX ds _ its ha rv
   exact ⟨_,ReadsW.list ho hc hd hr⟩
 | .tuple ds,_,_,x,r=>by
  cases x with
  | tup hs ha =>
   cases r
   obtain ⟨its,o,n,rv,ho,hc,hd⟩:=sqT_at hok KX hs
   obtain ⟨as,hr⟩:=Dw.readsAll hok KX ds _ its ha rv
   exact ⟨_,ReadsW.tuple ho hc hd hr⟩
 | .float _,_,_,x,_=>by cases x
 | .dict _,_,_,x,_=>by cases x
 | .bytearray _,_,_,x,_=>by cases x
 | .set _,_,_,x,_=>by cases x
 | .frozenset _,_,_,x,_=>by cases x
 | .obj _ _,_,_,x,_=>by cases x
theorem Dw.readsAll (hok:HOk P w H h) (KX:K.In h):∀ (ds:List WData) (vs:List V) (us:List Value),DwAll K H vs ds→Vals vs us→∃ as,ReadsAllW R cl h us ds as
 | [],_,_,x,r=>by
  cases x
  cases r
  exact ⟨_,ReadsAllW.nil⟩
 | d :: ds,_,_,x,r=>by
  cases x with
  | cons h1 h2 =>
   cases r with
   | cons r1 r2 =>
    obtain ⟨as,q1⟩:=Dw.reads hok KX d _ _ h1 r1
    obtain ⟨bs,q2⟩:=Dw.readsAll hok KX ds _ _ h2 r2
    exact ⟨_,ReadsAllW.cons q1 q2⟩
end
end
mutual
def plW:WData→Bool
 | .none=>true
 | .bool _=>true
 | .int _=>true
 | .str _=>true
 | .bytes _=>true
 | .list xs=>plWs xs
 | .tuple xs=>plWs xs
 | _=>false
def plWs:List WData→Bool
 | []=>true
 | x :: r=>plW x && plWs r
end
theorem plWs_map {α:Type} {f:α→WData} (h:∀ a,plW (f a) = true):∀ l:List α,plWs (l.map f) = true
 | []=>rfl
 | x :: r=>by
  show (plW (f x) && plWs (r.map f)) = true
  rw [h x,plWs_map h r] <;> rfl
theorem pl_enc:∀ (c:Codec) (a:c.denote),plW (c.enc a) = true
 | .unit,_=>rfl
 | .bool,_=>rfl
 | .int _ _,_=>rfl
 | .nat _ _,_=>rfl
 | .u8,_=>rfl
 | .bytes _ _,_=>rfl
 | .text _ _ _ _,_=>rfl
 | .list _ _ c,a=>plWs_map (fun x=>pl_enc c x) a
 | .pair c d,a=>by
  show (plW (c.enc a.1) && (plW (d.enc a.2) && true)) = true
  rw [pl_enc c a.1,pl_enc d a.2] <;> rfl
 | .triple c d e,a=>by
  show (plW (c.enc a.1) && (plW (d.enc a.2.1) && (plW (e.enc a.2.2) && true))) = true
  rw [pl_enc c a.1,pl_enc d a.2.1,pl_enc e a.2.2] <;> rfl
 | .option c,none=>rfl
 | .option c,some x=>pl_enc c x
theorem pl_encAll:∀ (cs:List Codec) (a:Codec.denoteAll cs),plWs (Codec.encAll cs a) = true
 | [],_=>rfl
 | c :: cs,a=>by
  show (plW (c.enc a.1) && plWs (Codec.encAll cs a.2)) = true
  rw [pl_enc c a.1,pl_encAll cs a.2] <;> rfl
theorem weight_mem:∀ {xs:List WData} {d:WData},d ∈ xs→d.weight ≤ WData.weightAll xs
 | [],d,h=>absurd h (by simp)
 | x :: r,d,h=>by
  show d.weight ≤ x.weight + 1 + WData.weightAll r
  rcases List.mem_cons.mp h with e | m
  ·rw [e]
   omega
  ·have z:=weight_mem m
   omega
def toV:Value→V
 | .none=>.non
 | .bool b=>.bl b
 | .int i _=>.int i
 | .str x _=>.str x
 | .bytes b _=>.byt b
 | .ref a=>.ref a
 | _=>.non
def OkU (A:List Addr):Value→Prop
 | .none=>True
 | .bool _=>True
 | .int _ _=>True
 | .str _ _=>True
 | .bytes _ _=>True
 | .ref a=>a ∈ A
 | _=>False
theorem OkU.mono {A B:List Addr} (h:∀ a ∈ A,a ∈ B):∀ {u:Value},OkU A u→OkU B u:=fun {u} x=>by
 cases u with
 | ref a=>exact h a x
 | none=>trivial
 | bool b=>trivial
 | int i t=>trivial
 | str s t=>trivial
 | bytes b t=>trivial
 | _=>exact False.elim x
theorem relV_toV {A:List Addr} {u:Value} (x:OkU A u):RelV (toV u) u:=by
 cases u with
 | ref a=>rfl
 | none=>rfl
 | bool b=>rfl
 | int i t=>exact ⟨t,rfl⟩
 | str s t=>exact ⟨t,rfl⟩
 | bytes b t=>exact ⟨t,rfl⟩
 | _=>exact False.elim x
theorem vals_toV {A:List Addr}:∀ {vs:List Value},(∀ u ∈ vs,OkU A u)→Vals (vs.map toV) vs
 | [],_=>.nil
 | u :: r,h=>.cons (relV_toV (h u (List.mem_cons_self ..))) (vals_toV fun x hx=>h x (List.mem_cons_of_mem _ hx))
def ArgOb (h:Heap) (A:List Addr) (a:Addr):Prop:=∃ vs:List Value,vs.length ≤ sizeLine∧(∀ u ∈ vs,OkU A u) ∧
 (h.get? a = some { cls:=.type "list",data:=.seq vs.toArray } ∨ h.get? a = some { cls:=.type "tuple",data:=.seq vs.toArray })
theorem ArgOb.mono {h:Heap} {A B:List Addr} {a:Addr} (k:∀ a ∈ A,a ∈ B) (x:ArgOb h A a):ArgOb h B a:=by
 obtain ⟨vs,h1,h2,h3⟩:=x
 exact ⟨vs,h1,fun u hu=>(h2 u hu).mono k,h3⟩
theorem wellAll_len {P:Params} {h:Heap}:∀ {vs:List Value} {ds:List WData},WellAll P h vs ds→vs.length = ds.length
 | _,_,.nil=>rfl
 | _,_,.cons _ b=>by
  show _ + 1 = _ + 1
  rw [wellAll_len b]
theorem well_list {P:Params} {h:Heap} {v:Value} {ds:List WData} (x:Well P h v (.list ds)):∃ (a:Addr) (vs:List Value),v = .ref a∧h.get? a = some { cls:=.type "list",data:=.seq vs.toArray }∧WellAll P h vs ds:=by
 cases x with
 | list ho hall=>exact ⟨_,_,rfl,ho,hall⟩
theorem well_tuple {P:Params} {h:Heap} {v:Value} {ds:List WData} (x:Well P h v (.tuple ds)):∃ (a:Addr) (vs:List Value),v = .ref a∧h.get? a = some { cls:=.type "tuple",data:=.seq vs.toArray }∧WellAll P h vs ds:=by
 cases x with
 | tuple ho hall=>exact ⟨_,_,rfl,ho,hall⟩
theorem well_cons {P:Params} {h:Heap} {us:List Value} {d:WData} {ds:List WData} (x:WellAll P h us (d :: ds)):∃ (v:Value) (vs:List Value),us = v :: vs∧Well P h v d∧WellAll P h vs ds:=by
 cases x with
 | cons a b=>exact ⟨_,_,rfl,a,b⟩
theorem line_of {n:Nat} (h:n ≤ 1048576):n ≤ sizeLine:=Nat.le_trans h (by decide)
section
variable {P:Params} {h:Heap}
mutual
theorem area_one:∀ (d:WData) (v:Value),Well P h v d→plW d = true→d.weight ≤ 1048576→∃ A:List Addr,OkU A v∧∀ a ∈ A,ArgOb h A a
 | .none,_,x,_,_=>by
  cases x
  exact ⟨[],trivial,fun a m=>absurd m (by simp)⟩
 | .bool b,_,x,_,_=>by
  cases x
  exact ⟨[],trivial,fun a m=>absurd m (by simp)⟩
 | .int i,_,x,_,_=>by
  cases x
  exact ⟨[],trivial,fun a m=>absurd m (by simp)⟩
 | .str s,_,x,_,_=>by
  cases x
  exact ⟨[],trivial,fun a m=>absurd m (by simp)⟩
 | .bytes b,_,x,_,_=>by
  cases x
  exact ⟨[],trivial,fun a m=>absurd m (by simp)⟩
 | .list ds,_,x,p,z=>by
  obtain ⟨a,vs,rfl,ho,hall⟩:=well_list x
  have z2:WData.weightAll ds ≤ 1048576:=z
  obtain ⟨A,h1,h2⟩:=area_all ds _ hall p fun d hd=>Nat.le_trans (weight_mem hd) z2
  have k:∀ b ∈ A,b ∈ a :: A:=fun b hb=>List.mem_cons_of_mem _ hb
  refine ⟨a :: A,List.mem_cons_self ..,fun b hb=>?_⟩
  rcases List.mem_cons.mp hb with e | m
  ·rw [e]
   exact ⟨vs,line_of (by rw [wellAll_len hall]; exact Nat.le_trans (PySem.W.length_le_weightAllW ds) z2),fun u hu=>(h1 u hu).mono k,.inl ho⟩
  ·exact (h2 b m).mono k
 | .tuple ds,_,x,p,z=>by
  obtain ⟨a,vs,rfl,ho,hall⟩:=well_tuple x
  have z2:WData.weightAll ds ≤ 1048576:=z
  obtain ⟨A,h1,h2⟩:=area_all ds _ hall p fun d hd=>Nat.le_trans (weight_mem hd) z2
  have k:∀ b ∈ A,b ∈ a :: A:=fun b hb=>List.mem_cons_of_mem _ hb
  refine ⟨a :: A,List.mem_cons_self ..,fun b hb=>?_⟩
  rcases List.mem_cons.mp hb with e | m
  ·rw [e]
   exact ⟨vs,line_of (by rw [wellAll_len hall]; exact Nat.le_trans (PySem.W.length_le_weightAllW ds) z2),fun u hu=>(h1 u hu).mono k,.inr ho⟩
  ·exact (h2 b m).mono k
 | .float _,_,_,p,_=>Bool.noConfusion (show false = true from p)
 | .dict _,_,_,p,_=>Bool.noConfusion (show false = true from p)
 | .bytearray _,_,_,p,_=>Bool.noConfusion (show false = true from p)
 | .set _,_,_,p,_=>Bool.noConfusion (show false = true from p)
 | .frozenset _,_,_,p,_=>Bool.noConfusion (show false = true from p)
 | .obj _ _,_,_,p,_=>Bool.noConfusion (show false = true from p)
theorem area_all:∀ (ds:List WData) (vs:List Value),WellAll P h vs ds→plWs ds = true→(∀ d ∈ ds,d.weight ≤ 1048576)→∃ A:List Addr,(∀ u ∈ vs,OkU A u)∧∀ a ∈ A,ArgOb h A a
 | [],_,x,_,_=>by
  cases x
  exact ⟨[],fun u m=>absurd m (by simp),fun a m=>absurd m (by simp)⟩
 | d :: ds,_,x,p,z=>by
  obtain ⟨v,vs,rfl,x1,x2⟩:=well_cons x
  have q:plW d = true∧plWs ds = true:=Bool.and_eq_true_iff.mp p
  obtain ⟨A,a1,a2⟩:=area_one d v x1 q.1 (z d (List.mem_cons_self ..))
  obtain ⟨B,b1,b2⟩:=area_all ds vs x2 q.2 fun e he=>z e (List.mem_cons_of_mem _ he)
  have kA:∀ b ∈ A,b ∈ A ++ B:=fun b hb=>List.mem_append.mpr (.inl hb)
  have kB:∀ b ∈ B,b ∈ A ++ B:=fun b hb=>List.mem_append.mpr (.inr hb)
  refine ⟨A ++ B,fun u hu=>?_,fun b hb=>?_⟩
  ·rcases List.mem_cons.mp hu with e | m
   ·rw [e]
    exact a1.mono kA
   ·exact (b1 u m).mono kB
  ·rcases List.mem_append.mp hb with m | m
   ·exact (a2 b m).mono kA
   ·exact (b2 b m).mono kB
end
end
def hoOf (o:Obj):Option HO:=match o.data with
 | .seq vs _=>if (o.cls == Value.type "list") = true then some (.frz o (.lst (vs.toList.map toV))) else some (.frz o (.tup (vs.toList.map toV)))
 | _=>none
def argH (K:PySem.W.Frag) (h:Heap) (A:List Addr):Hp:=fun b=>if b ∈ A then (if (K.lookup b).isNone = true then (h.get? b).bind hoOf else none) else none
def OnlyF (H:Hp):Prop:=∀ b,H b = none ∨ ∃ o u,H b = some (.frz o u)
theorem hoOf_lst (vs:List Value):hoOf { cls:=.type "list",data:=.seq vs.toArray } = some (.frz { cls:=.type "list",data:=.seq vs.toArray } (.lst (vs.map toV))):=by
 show (if (Value.type "list" == Value.type "list") = true then some (HO.frz { cls:=.type "list",data:=.seq vs.toArray } (.lst (vs.toArray.toList.map toV))) else some (HO.frz { cls:=.type "list",data:=.seq vs.toArray } (.tup (vs.toArray.toList.map toV)))) = _
 rw [if_pos (beq_self_eq_true _)]
theorem hoOf_tup (vs:List Value):hoOf { cls:=.type "tuple",data:=.seq vs.toArray } = some (.frz { cls:=.type "tuple",data:=.seq vs.toArray } (.tup (vs.map toV))):=by
 show (if (Value.type "tuple" == Value.type "list") = true then some (HO.frz { cls:=.type "tuple",data:=.seq vs.toArray } (.lst (vs.toArray.toList.map toV))) else some (HO.frz { cls:=.type "tuple",data:=.seq vs.toArray } (.tup (vs.toArray.toList.map toV)))) = _
 rw [if_neg (by decide)]
section
variable {P:Program} {w:World} {K:PySem.W.Frag} {h:Heap} {A:List Addr}
theorem argH_at {b:Addr} {o:Obj} (hb:b ∈ A) (hk:K.lookup b = none) (e:h.get? b = some o):argH K h A b = hoOf o:=by
 unfold argH
 rw [if_pos hb,hk,if_pos (show (none:Option Obj).isNone = true from rfl),e] <;> rfl
theorem of_argH {b:Addr} {u:HO} (q:argH K h A b = some u):b ∈ A∧K.lookup b = none:=by
 unfold argH at q
 by_cases hb:b ∈ A
 ·rw [if_pos hb] at q
  cases hk:K.lookup b with
  | none=>exact ⟨hb,rfl⟩
  | some o =>
   rw [hk,if_neg (by simp)] at q
   cases q
 ·rw [if_neg hb] at q
  cases q
theorem argH_is (ar:∀ a ∈ A,ArgOb h A a) {b:Addr} {u:HO} (q:argH K h A b = some u):K.lookup b = none∧∃ vs:List Value,vs.length ≤ sizeLine∧(∀ u ∈ vs,OkU A u) ∧
  ((h.get? b = some { cls:=.type "list",data:=.seq vs.toArray }∧u = .frz { cls:=.type "list",data:=.seq vs.toArray } (.lst (vs.map toV))) ∨
   (h.get? b = some { cls:=.type "tuple",data:=.seq vs.toArray }∧u = .frz { cls:=.type "tuple",data:=.seq vs.toArray } (.tup (vs.map toV)))):=by
 obtain ⟨hb,hk⟩:=of_argH q
 obtain ⟨vs,h1,h2,h3⟩:=ar b hb
 refine ⟨hk,vs,h1,h2,?_⟩
 rcases h3 with e | e
 ·rw [argH_at hb hk e,hoOf_lst] at q
  exact .inl ⟨e,(Option.some.inj q).symm⟩
 ·rw [argH_at hb hk e,hoOf_tup] at q
  exact .inr ⟨e,(Option.some.inj q).symm⟩
theorem argH_only (ar:∀ a ∈ A,ArgOb h A a):OnlyF (argH K h A):=fun b=>by
 cases q:argH K h A b with
 | none=>exact .inl rfl
 | some u =>
  obtain ⟨_,vs,_,_,⟨_,e⟩ | ⟨_,e⟩⟩:=argH_is ar q
  ·exact .inr ⟨_,_,by rw [e]⟩
  ·exact .inr ⟨_,_,by rw [e]⟩
theorem argH_ok (ar:∀ a ∈ A,ArgOb h A a):HOk P w (argH K h A) h:=fun b u q=>by
 obtain ⟨_,vs,h1,h2,⟨e,rfl⟩ | ⟨e,rfl⟩⟩:=argH_is ar q
 ·exact ⟨e,by rw [List.length_map]; exact h1,vs,_,vals_toV h2,e⟩
 ·exact ⟨e,by rw [List.length_map]; exact h1,vs,vals_toV h2,_,e,rfl,_,rfl⟩
theorem seq_inj {c c':Value} {vs us:List Value} (e:(some { cls:=c,data:=.seq vs.toArray }:Option Obj) = some { cls:=c',data:=.seq us.toArray }):c = c'∧vs = us:=by
 have e1:=Option.some.inj e
 have e2:c = c':=congrArg Obj.cls e1
 have e3:Data.seq vs.toArray = Data.seq us.toArray:=congrArg Obj.data e1
 injection e3 with e4
 refine ⟨e2,?_⟩
 have e5:=congrArg Array.toList e4
 simpa using e5
theorem argL (KX:K.In h) (ar:∀ a ∈ A,ArgOb h A a) {a:Addr} {vs:List Value} (ha:a ∈ A) (e:h.get? a = some { cls:=.type "list",data:=.seq vs.toArray }):(∀ u ∈ vs,OkU A u)∧SqL K (argH K h A) a (vs.map toV):=by
 obtain ⟨us,h1,h2,h3⟩:=ar a ha
 have hu:us = vs:=by
  rcases h3 with q | q
  ·rw [e] at q
   exact (seq_inj q).2.symm
  ·rw [e] at q
   exact absurd (Value.type.inj (seq_inj q).1) (by decide)
 subst hu
 refine ⟨h2,?_⟩
 cases hk:K.lookup a with
 | none=>exact .inl (.inr ⟨_,by rw [argH_at ha hk e,hoOf_lst]⟩)
 | some o =>
  have e2:=KX a o hk
  rw [e] at e2
  obtain rfl:=Option.some.inj e2
  exact .inr ⟨_,us.toArray,_,hk,rfl,rfl,rfl,by rw [List.size_toArray]; exact h1,by simpa using vals_toV h2⟩
theorem argT (KX:K.In h) (ar:∀ a ∈ A,ArgOb h A a) {a:Addr} {vs:List Value} (ha:a ∈ A) (e:h.get? a = some { cls:=.type "tuple",data:=.seq vs.toArray }):(∀ u ∈ vs,OkU A u)∧SqT K (argH K h A) a (vs.map toV):=by
 obtain ⟨us,h1,h2,h3⟩:=ar a ha
 have hu:us = vs:=by
  rcases h3 with q | q
  ·rw [e] at q
   exact absurd (Value.type.inj (seq_inj q).1) (by decide)
  ·rw [e] at q
   exact (seq_inj q).2.symm
 subst hu
 refine ⟨h2,?_⟩
 cases hk:K.lookup a with
 | none=>exact .inl (.inr ⟨_,by rw [argH_at ha hk e,hoOf_tup]⟩)
 | some o =>
  have e2:=KX a o hk
  rw [e] at e2
  obtain rfl:=Option.some.inj e2
  exact .inr ⟨_,us.toArray,_,hk,rfl,rfl,by rw [List.size_toArray]; exact h1,by simpa using vals_toV h2⟩
mutual
theorem dw_one {Pm:Params} (KX:K.In h) (ar:∀ a ∈ A,ArgOb h A a):∀ (d:WData) (v:Value),Well Pm h v d→plW d = true→OkU A v→Dw K (argH K h A) (toV v) d
 | .none,_,x,_,_=>by
  cases x
  exact .non
 | .bool b,_,x,_,_=>by
  cases x
  exact .bl b
 | .int i,_,x,_,_=>by
  cases x
  exact .int i
 | .str s,_,x,_,_=>by
  cases x
  exact .str s
 | .bytes b,_,x,_,_=>by
  cases x
  have z:=Dw.byt (K:=K) (H:=argH K h A) b.toArray
  exact z
 | .list ds,_,x,p,hu=>by
  obtain ⟨a,vs,rfl,ho,hall⟩:=well_list x
  obtain ⟨h2,hs⟩:=argL KX ar hu ho
  exact .lst hs (dw_all KX ar ds _ hall p h2)
 | .tuple ds,_,x,p,hu=>by
  obtain ⟨a,vs,rfl,ho,hall⟩:=well_tuple x
  obtain ⟨h2,hs⟩:=argT KX ar hu ho
  exact .tup hs (dw_all KX ar ds _ hall p h2)
 | .float _,_,_,p,_=>Bool.noConfusion (show false = true from p)
 | .dict _,_,_,p,_=>Bool.noConfusion (show false = true from p)
 | .bytearray _,_,_,p,_=>Bool.noConfusion (show false = true from p)
 | .set _,_,_,p,_=>Bool.noConfusion (show false = true from p)
 | .frozenset _,_,_,p,_=>Bool.noConfusion (show false = true from p)
 | .obj _ _,_,_,p,_=>Bool.noConfusion (show false = true from p)
theorem dw_all {Pm:Params} (KX:K.In h) (ar:∀ a ∈ A,ArgOb h A a):∀ (ds:List WData) (vs:List Value),WellAll Pm h vs ds→plWs ds = true→(∀ u ∈ vs,OkU A u)→DwAll K (argH K h A) (vs.map toV) ds
 | [],_,x,_,_=>by
  cases x
  exact .nil
 | d :: ds,_,x,p,hu=>by
  obtain ⟨v,vs,rfl,x1,x2⟩:=well_cons x
  have q:plW d = true∧plWs ds = true:=Bool.and_eq_true_iff.mp p
  exact .cons (dw_one KX ar d v x1 q.1 (hu _ (List.mem_cons_self ..))) (dw_all KX ar ds vs x2 q.2 fun u m=>hu u (List.mem_cons_of_mem _ m))
end
end
theorem layable_weight {ds:List WData} (h:WData.layableAll ds = true):∀ d ∈ ds,d.weight ≤ 1048576:=fun d hd =>
 (PySem.W.layableW_iff.mp (List.all_eq_true.mp h d hd)).2.2
theorem encAll_len:∀ (cs:List Codec) (a:Codec.denoteAll cs),(Codec.encAll cs a).length = cs.length
 | [],_=>rfl
 | c :: cs,a=>by
  show (Codec.encAll cs a.2).length + 1 = cs.length + 1
  rw [encAll_len cs a.2]
end L2
namespace Cf
open CfFile
abbrev Bytes:=List UInt8
def Post {α:Type} (f:P α) (p:Nat) (OK:α→Nat→Prop) (ER:Nat→Nat→Prop):Prop :=
 match f p with
 | .ok x=>OK x.1 x.2
 | .error e=>ER e.1 e.2
theorem post_bind {α β:Type} (f:P α) (g:α→P β) (p:Nat) (OK:β→Nat→Prop) (ER:Nat→Nat→Prop) :
  Post (f >>= g) p OK ER = Post f p (fun x q=>Post (g x) q OK ER) ER:=by
 show Post (StateT.bind f g) p OK ER = _
 unfold Post StateT.bind
 show (match (f p >>= fun x=>g x.1 x.2) with
  | .ok x=>OK x.1 x.2
  | .error e=>ER e.1 e.2) = _
 cases f p with
 | ok x=>rfl
 | error e=>rfl
theorem post_pure {α:Type} (x:α) (p:Nat) (OK:α→Nat→Prop) (ER:Nat→Nat→Prop):Post (pure x) p OK ER = OK x p:=rfl
theorem post_here (p:Nat) (OK:Nat→Nat→Prop) (ER:Nat→Nat→Prop):Post here p OK ER = OK p p:=rfl
theorem post_must (c:Bool) (r e p:Nat) (OK:Unit→Nat→Prop) (ER:Nat→Nat→Prop):Post (must c r e) p OK ER = if c = true then OK () p else ER r e:=by
 cases c <;> rfl
theorem post_skip (b:Bytes) (n p:Nat) (OK:Nat→Nat→Prop) (ER:Nat→Nat→Prop):Post (skip b n) p OK ER = if p + n ≤ b.length then OK p (p + n) else ER 1 p:=by
 unfold Post skip
 by_cases h:p + n ≤ b.length
 ·simp only [if_pos h]
 ·simp only [if_neg h,CUT]
theorem post_num (b:Bytes) (n p:Nat) (OK:Nat→Nat→Prop) (ER:Nat→Nat→Prop):Post (num b n) p OK ER = if p + n ≤ b.length then OK (big b p n) (p + n) else ER 1 p:=by
 unfold num
 rw [post_bind,post_skip]
 rfl
theorem Post.mono {α:Type} {f:P α} {p:Nat} {OK OK':α→Nat→Prop} {ER ER':Nat→Nat→Prop} (h:Post f p OK ER) (h1:∀ x q,OK x q→OK' x q) (h2:∀ r e,ER r e→ER' r e):Post f p OK' ER':=by
 unfold Post at h ⊢
 cases e:f p with
 | ok x=>rw [e] at h; exact h1 _ _ h
 | error x=>rw [e] at h; exact h2 _ _ h
theorem post_ite {α:Type} (c:Prop) [Decidable c] (f g:P α) (p:Nat) (OK:α→Nat→Prop) (ER:Nat→Nat→Prop):Post (if c then f else g) p OK ER = if c then Post f p OK ER else Post g p OK ER:=by
 split <;> rfl
theorem post_many0 {α:Type} (f:P α) (p:Nat) (OK:List α→Nat→Prop) (ER:Nat→Nat→Prop):Post (many f 0) p OK ER = OK [] p:=rfl
theorem post_manyS {α:Type} (f:P α) (n p:Nat) (OK:List α→Nat→Prop) (ER:Nat→Nat→Prop) :
  Post (many f (n + 1)) p OK ER = Post f p (fun x q=>Post (many f n) q (fun l q'=>OK (x :: l) q') ER) ER:=by
 show Post (f >>= fun x=>many f n >>= fun l=>pure (x :: l)) p OK ER = _
 rw [post_bind]
 congr 1
 funext x q
 rw [post_bind]
 rfl
def charW:Bytes→Nat
 | []=>0
 | c :: r =>
  if 1 ≤ c.toNat∧c.toNat ≤ 127 then 1
  else if 192 ≤ c.toNat∧c.toNat ≤ 223 then (match r with
   | d :: _=>if goesOn d = true∧(c.toNat % 32 * 64 + d.toNat % 64 = 0 ∨ 128 ≤ c.toNat % 32 * 64 + d.toNat % 64) then 2 else 0
   | []=>0)
  else if 224 ≤ c.toNat∧c.toNat ≤ 239 then (match r with
   | d :: e :: _=>if goesOn d = true∧goesOn e = true∧2048 ≤ c.toNat % 16 * 4096 + d.toNat % 64 * 64 + e.toNat % 64 then 3 else 0
   | _=>0)
  else 0
theorem goesOn_iff (c:UInt8):goesOn c = true ↔ 128 ≤ c.toNat∧c.toNat ≤ 191:=by
 unfold goesOn
 rw [Bool.and_eq_true,decide_eq_true_iff,decide_eq_true_iff]
 omega
theorem charW_1 {c:UInt8} {r:Bytes} (h:1 ≤ c.toNat∧c.toNat ≤ 127):charW (c :: r) = 1:=by
 show (if _ then _ else _) = _
 rw [if_pos h]
theorem charW_2 {c d:UInt8} {r:Bytes} (h:192 ≤ c.toNat∧c.toNat ≤ 223):charW (c :: d :: r) = if goesOn d = true∧(c.toNat % 32 * 64 + d.toNat % 64 = 0 ∨ 128 ≤ c.toNat % 32 * 64 + d.toNat % 64) then 2 else 0:=by
 show (if _ then _ else if _ then _ else _) = _
 rw [if_neg (by omega),if_pos h]
theorem charW_2n {c:UInt8} (h:192 ≤ c.toNat∧c.toNat ≤ 223):charW [c] = 0:=by
 show (if _ then _ else if _ then _ else _) = _
 rw [if_neg (by omega),if_pos h]
theorem charW_3 {c d e:UInt8} {r:Bytes} (h:224 ≤ c.toNat∧c.toNat ≤ 239):charW (c :: d :: e :: r) = if goesOn d = true∧goesOn e = true∧2048 ≤ c.toNat % 16 * 4096 + d.toNat % 64 * 64 + e.toNat % 64 then 3 else 0:=by
 show (if _ then _ else if _ then _ else if _ then _ else _) = _
 rw [if_neg (by omega),if_neg (by omega),if_pos h]
theorem charW_3n {c:UInt8} {r:Bytes} (h:224 ≤ c.toNat∧c.toNat ≤ 239) (hr:r.length < 2):charW (c :: r) = 0:=by
 match r,hr with
 | [],_ =>
  show (if _ then _ else if _ then _ else if _ then _ else _) = _
  rw [if_neg (by omega),if_neg (by omega),if_pos h]
 | [d],_ =>
  show (if _ then _ else if _ then _ else if _ then _ else _) = _
  rw [if_neg (by omega),if_neg (by omega),if_pos h]
theorem charW_0 {c:UInt8} {r:Bytes} (h1:¬ (1 ≤ c.toNat∧c.toNat ≤ 127)) (h2:¬ (192 ≤ c.toNat∧c.toNat ≤ 223)) (h3:¬ (224 ≤ c.toNat∧c.toNat ≤ 239)):charW (c :: r) = 0:=by
 show (if _ then _ else if _ then _ else if _ then _ else _) = _
 rw [if_neg h1,if_neg h2,if_neg h3]
theorem chars_cons (g:Nat) (c:UInt8) (r:Bytes):chars (g + 1) (c :: r) = if charW (c :: r) = 0 then false else chars g ((c :: r).drop (charW (c :: r))):=by
 have hc:=c.toNat_lt
 conv=>lhs; unfold chars
 by_cases h0:c.toNat = 0
 ·rw [if_pos h0,charW_0 (by omega) (by omega) (by omega),if_pos rfl]
 rw [if_neg h0]
 by_cases h1:c.toNat < 128
 ·rw [if_pos h1,charW_1 (by omega),if_neg (by decide)]
  rfl
 rw [if_neg h1]
 by_cases h2:192 ≤ c.toNat∧c.toNat < 224
 ·rw [if_pos h2]
  cases r with
  | nil=>rw [charW_2n (by omega),if_pos rfl]
  | cons d q =>
   rw [charW_2 (by omega)]
   try dsimp only
   by_cases hd:goesOn d = true
   ·have hd':=(goesOn_iff d).mp hd
    by_cases hv:128 ≤ (c.toNat - 192) * 64 + (d.toNat - 128)
    ·rw [if_pos (show goesOn d = true∧(c.toNat % 32 * 64 + d.toNat % 64 = 0 ∨ 128 ≤ c.toNat % 32 * 64 + d.toNat % 64) from ⟨hd,Or.inr (by omega)⟩)]
     simp [hd,hv]
    ·by_cases hz:c.toNat = 192∧d.toNat = 128
     ·rw [if_pos (show goesOn d = true∧(c.toNat % 32 * 64 + d.toNat % 64 = 0 ∨ 128 ≤ c.toNat % 32 * 64 + d.toNat % 64) from ⟨hd,Or.inl (by omega)⟩)]
      simp [hd,hz]
     ·rw [if_neg (show ¬ (goesOn d = true∧(c.toNat % 32 * 64 + d.toNat % 64 = 0 ∨ 128 ≤ c.toNat % 32 * 64 + d.toNat % 64)) from fun ⟨_,q⟩=>by rcases q with q | q <;> omega)]
      simp [hv,hz]
   ·rw [if_neg (show ¬ (goesOn d = true∧(c.toNat % 32 * 64 + d.toNat % 64 = 0 ∨ 128 ≤ c.toNat % 32 * 64 + d.toNat % 64)) from fun q=>hd q.1)]
    simp [hd]
 rw [if_neg h2]
 by_cases h3:224 ≤ c.toNat∧c.toNat < 240
 ·rw [if_pos h3]
  match r with
  | []=>rw [charW_3n (by omega) (by simp),if_pos rfl]
  | [d]=>rw [charW_3n (by omega) (by simp),if_pos rfl]
  | d :: e :: q =>
   rw [charW_3 (by omega)]
   try dsimp only
   by_cases hd:goesOn d = true
   ·by_cases he:goesOn e = true
    ·have hd':=(goesOn_iff d).mp hd
     have he':=(goesOn_iff e).mp he
     by_cases hv:2048 ≤ (c.toNat - 224) * 4096 + (d.toNat - 128) * 64 + (e.toNat - 128)
     ·rw [if_pos (show goesOn d = true∧goesOn e = true∧2048 ≤ c.toNat % 16 * 4096 + d.toNat % 64 * 64 + e.toNat % 64 from ⟨hd,he,by omega⟩)]
      simp [hd,he,hv]
     ·rw [if_neg (show ¬ (goesOn d = true∧goesOn e = true∧2048 ≤ c.toNat % 16 * 4096 + d.toNat % 64 * 64 + e.toNat % 64) from fun q=>hv (by omega))]
      simp [hv]
    ·rw [if_neg (show ¬ (goesOn d = true∧goesOn e = true∧2048 ≤ c.toNat % 16 * 4096 + d.toNat % 64 * 64 + e.toNat % 64) from fun q=>he q.2.1)]
     simp [he]
   ·rw [if_neg (show ¬ (goesOn d = true∧goesOn e = true∧2048 ≤ c.toNat % 16 * 4096 + d.toNat % 64 * 64 + e.toNat % 64) from fun q=>hd q.1)]
    simp [hd]
 rw [if_neg h3,charW_0 (by omega) (by omega) (by omega),if_pos rfl]
theorem charW_le (s:Bytes):charW s ≤ s.length:=by
 match s with
 | []=>exact Nat.le_refl 0
 | c :: r =>
  by_cases h1:1 ≤ c.toNat∧c.toNat ≤ 127
  ·rw [charW_1 h1]
   exact Nat.le_add_left _ _
  by_cases h2:192 ≤ c.toNat∧c.toNat ≤ 223
  ·cases r with
   | nil=>rw [charW_2n h2]; exact Nat.zero_le _
   | cons d q =>
    rw [charW_2 h2]
    show _ ≤ q.length + 1 + 1
    split <;> omega
  by_cases h3:224 ≤ c.toNat∧c.toNat ≤ 239
  ·match r with
   | []=>rw [charW_3n h3 (by simp)]; exact Nat.zero_le _
   | [d]=>rw [charW_3n h3 (by simp)]; exact Nat.zero_le _
   | d :: e :: q =>
    rw [charW_3 h3]
    show _ ≤ q.length + 1 + 1 + 1
    split <;> omega
  ·rw [charW_0 h1 h2 h3]
   exact Nat.zero_le _
theorem chars_nil (g:Nat):chars g [] = true:=by cases g <;> rfl
def sign (l:List Nat) (s:Bytes):Bool:=l.any fun z=>s.any fun c=>c.toNat == z
theorem toNat_inj {a b:UInt8} (h:a.toNat = b.toNat):a = b:=UInt8.toNat_inj.mp h
theorem beq_lit (c d:UInt8):(c == d) = (c.toNat == d.toNat):=by
 rw [Bool.eq_iff_iff,beq_iff_eq,beq_iff_eq]
 exact ⟨fun h=>by rw [h],toNat_inj⟩
theorem not_sign (l:List Nat):∀ s:Bytes,(!sign l s) = s.all fun c=>!(l.any fun z=>c.toNat == z):=by
 intro s
 rw [Bool.eq_iff_iff]
 simp only [sign,Bool.not_eq_true',List.any_eq_false,List.all_eq_true]
 simp
 constructor
 ·intro h x hx z hz e
  exact h z hz x hx e
 ·intro h z hz x hx e
  exact h x hx z hz e
theorem simple_sign (s:Bytes):simple s = (decide (0 < s.length) && !sign [46,59,91,47] s):=by
 unfold simple
 rw [not_sign]
 congr 1
 ·cases s <;> simp
 ·congr 1
  funext c
  simp only [List.any_cons,List.any_nil,bne,beq_lit,Bool.not_or]
  simp [Bool.and_assoc]
theorem plain_sign (s:Bytes):(simple s && s.all fun c=>c != 60 && c != 62) = (simple s && !sign [60,62] s):=by
 rw [not_sign]
 congr 2
 funext c
 simp only [List.any_cons,List.any_nil,bne,beq_lit,Bool.not_or]
 simp
def slashes:Bool→Bytes→Bool
 | b,[]=>!b
 | b,c :: r=>if c = 47 then (if b = true then false else slashes true r) else slashes false r
def nb (c:UInt8):Bool:=c != 46 && c != 59 && c != 91 && c != 47
def nd (c:UInt8):Bool:=c != 46 && c != 59 && c != 91
theorem parts_ne:∀ s:Bytes,parts s ≠ []
 | []=>by simp [parts]
 | c :: r=>by
  unfold parts
  split
  ·simp
  ·split <;> simp
def conts (s:Bytes):Bool:=match parts s with
 | []=>false
 | p :: l=>p.all nb && l.all simple
theorem parts_walk:∀ s:Bytes,((parts s).all simple = (slashes true s && s.all nd))∧(conts s = (slashes false s && s.all nd))
 | []=>by constructor <;> rfl
 | c :: r=>by
  obtain ⟨h1,h2⟩:=parts_walk r
  by_cases hc:c = 47
  ·subst hc
   have e:parts (47 :: r) = [] :: parts r:=by
    conv=>lhs; unfold parts
    rw [if_pos rfl]
   constructor
   ·rw [e]
    simp [slashes,simple]
   ·unfold conts
    rw [e]
    dsimp only
    rw [h1]
    simp [slashes,nd]
  ·cases hp:parts r with
   | nil=>exact absurd hp (parts_ne r)
   | cons p l =>
    have e:parts (c :: r) = (c :: p) :: l:=by
     conv=>lhs; unfold parts
     rw [if_neg hc,hp]
    have h2':(p.all nb && l.all simple) = (slashes false r && r.all nd):=by
     rw [← h2]
     unfold conts
     rw [hp]
    have hnb:nb c = nd c:=by
     unfold nb nd
     have:(c != 47) = true:=by simpa using hc
     rw [this,Bool.and_true]
    have hsl:∀ b,slashes b (c :: r) = slashes false r:=fun b=>by
     show (if c = 47 then _ else _) = _
     rw [if_neg hc]
    constructor
    ·rw [e,hsl]
     show (simple (c :: p) && l.all simple) = _
     have:simple (c :: p) = (nb c && p.all nb):=by
      show (true && (c :: p).all nb) = _
      rw [Bool.true_and,List.all_cons]
     rw [this,hnb,List.all_cons,Bool.and_assoc,h2']
     cases nd c <;> simp
    ·unfold conts
     rw [e,hsl]
     dsimp only
     rw [List.all_cons,hnb,Bool.and_assoc,h2',List.all_cons]
     cases nd c <;> simp
theorem className_walk (s:Bytes):className s = (slashes true s && !sign [46,59,91] s):=by
 unfold className
 rw [(parts_walk s).1,not_sign]
 congr 2
 funext c
 simp only [nd,List.any_cons,List.any_nil,bne,beq_lit,Bool.not_or]
 simp [Bool.and_assoc]
def lead (s:Bytes):Nat:=(s.takeWhile fun c=>c == 91).length
def classLen (r:Bytes):Option Nat :=
 if (59:UInt8) ∈ r∧className (r.takeWhile fun d=>d != 59) = true then some ((r.takeWhile fun d=>d != 59).length + 1) else none
def basics:Bytes:=[66,67,68,70,73,74,83,90]
theorem basics_eq:ascii "BCDFIJSZ" = basics:=by decide
def fieldLenG (g:Nat) (s:Bytes):Option Nat :=
 if g < lead s then none else match s.drop (lead s) with
  | []=>none
  | c :: r=>if c = 76 then (classLen r).map (fun n=>lead s + 1 + n) else if c ∈ basics then some (lead s + 1) else none
abbrev fieldLen (s:Bytes):Option Nat:=fieldLenG 255 s
theorem lead_br (r:Bytes):lead (91 :: r) = lead r + 1:=by
 unfold lead
 rw [List.takeWhile_cons_of_pos (by decide)]
 rfl
theorem lead_no {c:UInt8} {r:Bytes} (h:c ≠ 91):lead (c :: r) = 0:=by
 unfold lead
 rw [List.takeWhile_cons_of_neg (by simpa using h)]
 rfl
theorem split59 {r:Bytes} (h:(59:UInt8) ∈ r):∃ t,r.dropWhile (fun d=>d != 59) = 59 :: t∧r = r.takeWhile (fun d=>d != 59) ++ 59 :: t:=by
 induction r with
 | nil=>cases h
 | cons c r ih =>
  by_cases hc:c = 59
  ·subst hc
   exact ⟨r,by simp,by simp⟩
  ·have h':(59:UInt8) ∈ r:=by
    rcases List.mem_cons.mp h with e | e
    ·exact absurd e.symm hc
    ·exact e
   obtain ⟨t,h1,h2⟩:=ih h'
   refine ⟨t,?_,?_⟩
   ·rw [List.dropWhile_cons_of_pos (by simpa using hc)]
    exact h1
   ·rw [List.takeWhile_cons_of_pos (by simpa using hc)]
    rw [List.cons_append,← h2]
theorem classLen_le {r:Bytes} {n:Nat} (h:classLen r = some n):n ≤ r.length:=by
 unfold classLen at h
 split at h
 ·rename_i q
  obtain ⟨t,_,e⟩:=split59 q.1
  cases h
  have:=congrArg List.length e
  rw [List.length_append,List.length_cons] at this
  omega
 ·cases h
theorem fieldType_len:∀ (s:Bytes) (g:Nat),fieldType g s = (fieldLenG g s).map fun n=>(s.take n,s.drop n)
 | [],g=>by
  unfold fieldLenG
  cases g <;> rfl
 | c :: r,g=>by
  by_cases hb:c = 91
  ·subst hb
   cases g with
   | zero =>
    have:fieldLenG 0 (91 :: r) = none:=by
     unfold fieldLenG
     rw [lead_br,if_pos (by omega)]
    rw [this]
    rfl
   | succ k =>
    have ih:=fieldType_len r k
    have e:fieldLenG (k + 1) (91 :: r) = (fieldLenG k r).map (· + 1):=by
     unfold fieldLenG
     rw [lead_br]
     by_cases hk:k < lead r
     ·rw [if_pos hk,if_pos (by omega)]
      rfl
     ·rw [if_neg hk,if_neg (by omega),List.drop_succ_cons]
      cases r.drop (lead r) with
      | nil=>rfl
      | cons d q =>
       dsimp only
       split
       ·cases classLen q with
        | none=>rfl
        | some n =>
         show some (lead r + 1 + 1 + n) = some (lead r + 1 + n + 1)
         congr 1
         omega
       ·split <;> rfl
    rw [e]
    conv=>lhs; unfold fieldType
    rw [if_pos rfl]
    dsimp only
    rw [ih]
    cases fieldLenG k r with
    | none=>rfl
    | some n=>rfl
  ·have hl:=lead_no (r:=r) hb
   conv=>lhs; unfold fieldType
   rw [if_neg hb]
   unfold fieldLenG
   rw [hl,if_neg (show ¬ g < 0 by omega)]
   show _ = Option.map _ (if c = 76 then _ else _)
   by_cases h76:c = 76
   ·rw [if_pos h76,if_pos h76]
    unfold classLen
    by_cases hq:(59:UInt8) ∈ r∧className (r.takeWhile fun d=>d != 59) = true
    ·rw [if_pos hq,if_pos hq]
     obtain ⟨t,e1,e2⟩:=split59 hq.1
     show some _ = some _
     congr 1
     have hL:(r.takeWhile fun d=>d != 59).length + 1 = (r.takeWhile (fun d=>d != 59) ++ [59]).length:=by simp
     have e3:r = (r.takeWhile (fun d=>d != 59) ++ [59]) ++ t:=by
      rw [List.append_assoc]
      exact e2
     have e4:0 + 1 + ((r.takeWhile fun d=>d != 59).length + 1) = (r.takeWhile (fun d=>d != 59) ++ [59]).length + 1:=by omega
     dsimp only
     rw [e4,List.take_succ_cons,List.drop_succ_cons,e1]
     have e5:r.take (r.takeWhile (fun d=>d != 59) ++ [59]).length = r.takeWhile (fun d=>d != 59) ++ [59]:=by
      conv=>lhs; arg 2; rw [e3]
      exact List.take_left
     have e6:r.drop (r.takeWhile (fun d=>d != 59) ++ [59]).length = t:=by
      conv=>lhs; arg 2; rw [e3]
      exact List.drop_left
     rw [e5,e6]
     rfl
    ·rw [if_neg hq,if_neg hq]
     rfl
   ·rw [if_neg h76,if_neg h76,basics_eq]
    by_cases hm:c ∈ basics
    ·rw [if_pos hm,if_pos hm]
     rfl
    ·rw [if_neg hm,if_neg hm]
     rfl
theorem fieldLen_le {g:Nat} {s:Bytes} {n:Nat} (h:fieldLenG g s = some n):n ≤ s.length∧0 < n:=by
 unfold fieldLenG at h
 split at h
 ·cases h
 ·cases e:s.drop (lead s) with
  | nil =>
   rw [e] at h
   cases h
  | cons c r =>
   rw [e] at h
   have hl:=congrArg List.length e
   rw [List.length_drop,List.length_cons] at hl
   try dsimp only at h
   split at h
   ·cases q:classLen r with
    | none =>
     rw [q] at h
     cases h
    | some k =>
     rw [q] at h
     have:=classLen_le q
     have e2:lead s + 1 + k = n:=Option.some.inj h
     omega
   ·split at h
    ·have e2:lead s + 1 = n:=Option.some.inj h
     omega
    ·cases h
theorem isField_len (s:Bytes):isField s = decide (fieldLen s = some s.length):=by
 unfold isField
 rw [fieldType_len]
 cases h:fieldLenG 255 s with
 | none=>simp [fieldLen,h]
 | some n =>
  have hn:=(fieldLen_le h).1
  show (match some (s.take n,s.drop n) with
   | some (_,[])=>true
   | _=>false) = _
  by_cases e:n = s.length
  ·subst e
   simp [h]
  ·have:s.drop n ≠ []:=by
    intro q
    have:=congrArg List.length q
    rw [List.length_drop] at this
    simp at this
    omega
   cases hd:s.drop n with
   | nil=>exact absurd hd this
   | cons a l =>
    simp [h,e]
def slotOf (c:UInt8):Nat:=if c = 74 ∨ c = 68 then 2 else 1
def isResult (t:Bytes):Bool:=decide (t = [86]) || isField t
def methodSlots (s:Bytes):Option Nat:=match methodType s with
 | some (l,_)=>if slots l ≤ 255 then some (slots l) else none
 | none=>none
theorem isMethod_slots (s:Bytes):isMethod s = (methodSlots s).isSome:=by
 unfold isMethod methodSlots
 cases methodType s with
 | none=>rfl
 | some x =>
  obtain ⟨l,t⟩:=x
  dsimp only
  by_cases h:slots l ≤ 255
  ·rw [if_pos h]
   simpa using h
  ·rw [if_neg h]
   simpa using h
theorem slots_cons (t:Bytes) (l:List Bytes):slots (t :: l) = (if t = [74] ∨ t = [68] then 2 else 1) + slots l:=by
 unfold slots
 rw [List.map_cons,List.sum_cons]
theorem slot_first {c:UInt8} {r t q:Bytes} (h:fieldType 255 (c :: r) = some (t,q)):(if t = [74] ∨ t = [68] then 2 else 1) = slotOf c:=by
 rw [fieldType_len] at h
 cases e:fieldLenG 255 (c :: r) with
 | none =>
  rw [e] at h
  cases h
 | some n =>
  rw [e] at h
  have ht:(c :: r).take n = t:=congrArg Prod.fst (Option.some.inj h)
  have hn:=(fieldLen_le e).2
  obtain ⟨m,rfl⟩:∃ m,n = m + 1:=⟨n - 1,by omega⟩
  rw [List.take_succ_cons] at ht
  unfold slotOf
  by_cases hc:c = 74 ∨ c = 68
  ·rw [if_pos hc]
   have hl:lead (c :: r) = 0:=lead_no (by rcases hc with rfl | rfl <;> decide)
   have hm:m = 0:=by
    unfold fieldLenG at e
    rw [hl,if_neg (by omega)] at e
    rw [List.drop_zero] at e
    try dsimp only at e
    rw [if_neg (by rcases hc with rfl | rfl <;> decide),if_pos (by rcases hc with rfl | rfl <;> decide)] at e
    have:=Option.some.inj e
    omega
   subst hm
   rw [List.take_zero] at ht
   subst ht
   rw [if_pos (by rcases hc with rfl | rfl <;> simp)]
  ·rw [if_neg hc,if_neg]
   intro q
   rw [← ht] at q
   rcases q with q | q
   ·injection q with q1 q2
    exact hc (Or.inl q1)
   ·injection q with q1 q2
    exact hc (Or.inr q1)
structure ArgsAt (r:Bytes) (G:Nat) (l0:List Bytes) (g:Nat) (s:Bytes):Prop where
 fuel:s.length ≤ g
 eq:argTypes G r = (argTypes g s).map fun y=>(l0 ++ y.1,y.2)
theorem ArgsAt.start {r:Bytes} {G:Nat} (h:r.length ≤ G):ArgsAt r G [] G r:=⟨h,by
 cases argTypes G r with
 | none=>rfl
 | some y=>rfl⟩
theorem ArgsAt.bad {r:Bytes} {G:Nat} {l0:List Bytes} {g:Nat} {c:UInt8} {q:Bytes} (a:ArgsAt r G l0 g (c :: q)) (h41:c ≠ 41) (h:fieldLen (c :: q) = none):argTypes G r = none:=by
 have hf:=a.fuel
 obtain ⟨k,rfl⟩:∃ k,g = k + 1:=⟨g - 1,by rw [List.length_cons] at hf; omega⟩
 rw [a.eq]
 have:argTypes (k + 1) (c :: q) = none:=by
  conv=>lhs; unfold argTypes
  rw [if_neg h41,fieldType_len]
  show (Option.map _ (fieldLen (c :: q))).bind _ = none
  rw [h]
  rfl
 rw [this]
 rfl
theorem ArgsAt.step {r:Bytes} {G:Nat} {l0:List Bytes} {g:Nat} {c:UInt8} {q:Bytes} {n:Nat} (a:ArgsAt r G l0 g (c :: q)) (h41:c ≠ 41) (h:fieldLen (c :: q) = some n) :
  ∃ t g',slots (l0 ++ [t]) = slots l0 + slotOf c∧ArgsAt r G (l0 ++ [t]) g' ((c :: q).drop n):=by
 have hf:=a.fuel
 obtain ⟨k,rfl⟩:∃ k,g = k + 1:=⟨g - 1,by rw [List.length_cons] at hf; omega⟩
 have hn:=fieldLen_le h
 have e1:fieldType 255 (c :: q) = some ((c :: q).take n,(c :: q).drop n):=by
  rw [fieldType_len]
  show Option.map _ (fieldLen (c :: q)) = _
  rw [h]
  rfl
 refine ⟨(c :: q).take n,k,?_,?_,?_⟩
 ·have:slots (l0 ++ [(c :: q).take n]) = slots l0 + slots [(c :: q).take n]:=by
   unfold slots
   rw [List.map_append,List.sum_append]
  rw [this,slots_cons,slot_first e1]
  rfl
 ·rw [List.length_drop,List.length_cons]
  rw [List.length_cons] at hf
  omega
 ·rw [a.eq]
  have:argTypes (k + 1) (c :: q) = (argTypes k ((c :: q).drop n)).map fun y=>((c :: q).take n :: y.1,y.2):=by
   conv=>lhs; unfold argTypes
   rw [if_neg h41,e1]
   rfl
  rw [this]
  cases argTypes k ((c :: q).drop n) with
  | none=>rfl
  | some y =>
   show some (l0 ++ (List.take n (c :: q) :: y.1),y.2) = some (l0 ++ [List.take n (c :: q)] ++ y.1,y.2)
   rw [List.append_assoc]
   rfl
theorem slots_app (a b:List Bytes):slots (a ++ b) = slots a + slots b:=by
 unfold slots
 rw [List.map_append,List.sum_append]
theorem methodType_40 (r:Bytes):methodType (40 :: r) = match argTypes ((40 :: r).length + 1) r with
  | some (l,t)=>if t = [86] ∨ isField t = true then some (l,t) else none
  | none=>none:=by
 rfl
theorem ArgsAt.many {s r:Bytes} {l0:List Bytes} {g:Nat} {q:Bytes} (hs:s = 40 :: r) (a:ArgsAt r (s.length + 1) l0 g q) (h:255 < slots l0):methodSlots s = none:=by
 unfold methodSlots
 subst hs
 rw [methodType_40]
 rw [a.eq]
 cases argTypes g q with
 | none=>rfl
 | some y =>
  dsimp only [Option.map]
  by_cases hz:y.2 = [86] ∨ isField y.2 = true
  ·rw [if_pos hz]
   dsimp only
   rw [if_neg]
   rw [slots_app]
   omega
  ·rw [if_neg hz]
theorem ArgsAt.none_ {s r:Bytes} (hs:s = 40 :: r) (h:argTypes (s.length + 1) r = none):methodSlots s = none:=by
 unfold methodSlots
 subst hs
 rw [methodType_40]
 rw [h]
theorem ArgsAt.fin {s r:Bytes} {l0:List Bytes} {g:Nat} {t:Bytes} (hs:s = 40 :: r) (a:ArgsAt r (s.length + 1) l0 g (41 :: t)) (h:slots l0 ≤ 255):methodSlots s = if isResult t = true then some (slots l0) else none:=by
 have hf:=a.fuel
 obtain ⟨k,rfl⟩:∃ k,g = k + 1:=⟨g - 1,by rw [List.length_cons] at hf; omega⟩
 have e:argTypes (k + 1) (41 :: t) = some ([],t):=by
  conv=>lhs; unfold argTypes
  rw [if_pos rfl]
 unfold methodSlots
 subst hs
 rw [methodType_40]
 rw [a.eq,e]
 dsimp only [Option.map]
 have hr:isResult t = true ↔ (t = [86] ∨ isField t = true):=by
  unfold isResult
  rw [Bool.or_eq_true,decide_eq_true_iff]
 by_cases hz:t = [86] ∨ isField t = true
 ·rw [if_pos hz,if_pos (hr.mpr hz)]
  dsimp only
  rw [List.append_nil,if_pos h]
 ·rw [if_neg hz,if_neg (fun q=>hz (hr.mp q))]
theorem ArgsAt.end_ {s r:Bytes} {l0:List Bytes} {g:Nat} (hs:s = 40 :: r) (a:ArgsAt r (s.length + 1) l0 g []):methodSlots s = none:=by
 refine ArgsAt.none_ hs ?_
 rw [a.eq]
 cases g <;> rfl
theorem method_head {s:Bytes} (h:s.head? ≠ some 40):methodSlots s = none:=by
 unfold methodSlots methodType
 split
 ·rename_i x l t e
  split at e
  ·exact absurd rfl h
  ·cases e
 ·rfl
theorem fieldLen_last {s:Bytes} (h:isField s = true):∃ c,s.getLast? = some c∧c ≠ 86:=by
 rw [isField_len] at h
 have h:fieldLen s = some s.length:=of_decide_eq_true h
 unfold fieldLen fieldLenG at h
 split at h
 ·cases h
 ·cases e:s.drop (lead s) with
  | nil =>
   rw [e] at h
   cases h
  | cons c r =>
   rw [e] at h
   have hs:s = s.take (lead s) ++ c :: r:=by
    rw [← e]
    exact (List.take_append_drop _ _).symm
   have hlast:s.getLast? = (c :: r).getLast?:=by
    rw [hs,List.getLast?_append,List.getLast?_cons]
    rfl
   have hl:=congrArg List.length e
   rw [List.length_drop,List.length_cons] at hl
   try dsimp only at h
   split at h
   ·cases q:classLen r with
    | none =>
     rw [q] at h
     cases h
    | some k =>
     rw [q] at h
     have e2:lead s + 1 + k = s.length:=Option.some.inj h
     have hk:k = r.length:=by omega
     unfold classLen at q
     split at q
     ·rename_i z
      obtain ⟨t,e1,e3⟩:=split59 z.1
      have e4:=Option.some.inj q
      have e5:=congrArg List.length e3
      rw [List.length_append,List.length_cons] at e5
      have:t = []:=List.eq_nil_of_length_eq_zero (by omega)
      subst this
      refine ⟨59,?_,by decide⟩
      rw [hlast,e3,List.getLast?_cons,List.getLast?_append]
      rfl
     ·cases q
   ·split at h
    ·rename_i hm
     have e2:lead s + 1 = s.length:=Option.some.inj h
     have:r = []:=List.eq_nil_of_length_eq_zero (by omega)
     subst this
     refine ⟨c,hlast,?_⟩
     intro q
     subst q
     exact absurd hm (by decide)
    ·cases h
theorem argTypes_suffix:∀ (g:Nat) (s:Bytes) (l:List Bytes) (t:Bytes),argTypes g s = some (l,t)→∃ a,s = a ++ 41 :: t
 | _,[],l,t,h=>by
  rename_i g
  cases g <;> cases h
 | 0,c :: r,l,t,h=>by cases h
 | g + 1,c :: r,l,t,h=>by
  unfold argTypes at h
  by_cases hc:c = 41
  ·rw [if_pos hc] at h
   have e:=Option.some.inj h
   injection e with e1 e2
   subst e2 hc
   exact ⟨[],rfl⟩
  ·rw [if_neg hc,fieldType_len] at h
   cases e:fieldLenG 255 (c :: r) with
   | none =>
    rw [e] at h
    cases h
   | some n =>
    rw [e] at h
    have h:((argTypes g ((c :: r).drop n)).map fun y=>((c :: r).take n :: y.1,y.2)) = some (l,t):=h
    cases q:argTypes g ((c :: r).drop n) with
    | none =>
     rw [q] at h
     cases h
    | some y =>
     rw [q] at h
     have e1:=Option.some.inj h
     injection e1 with e1 e2
     obtain ⟨a,ha⟩:=argTypes_suffix g _ y.1 y.2 q
     refine ⟨(c :: r).take n ++ a,?_⟩
     rw [List.append_assoc,← e2,← ha]
     exact (List.take_append_drop _ _).symm
theorem method_result {s:Bytes} (h:isMethod s = true):((methodType s).map (·.2) == some [86]) = decide (s.getLast? = some 86):=by
 unfold isMethod at h
 cases e:methodType s with
 | none =>
  rw [e] at h
  cases h
 | some x =>
  obtain ⟨l,t⟩:=x
  have key:∃ a,s = a ++ 41 :: t∧(t = [86] ∨ isField t = true):=by
   unfold methodType at e
   split at e
   ·rename_i r
    split at e
    ·rename_i l' t' q
     split at e
     ·rename_i z
      have e1:=Option.some.inj e
      injection e1 with e1 e2
      subst e1 e2
      obtain ⟨a,ha⟩:=argTypes_suffix _ _ _ _ q
      exact ⟨40 :: a,by rw [ha]; rfl,z⟩
     ·cases e
    ·cases e
   ·cases e
  obtain ⟨a,ha,hz⟩:=key
  rw [Bool.eq_iff_iff,decide_eq_true_iff]
  show ((some t == some [86]) = true) ↔ _
  rw [beq_iff_eq]
  rcases hz with rfl | hz
  ·simp [ha]
  ·obtain ⟨c,hc,hne⟩:=fieldLen_last hz
   have:s.getLast? = some c:=by
    rw [ha,List.getLast?_append]
    have:(41 :: t).getLast? = some c:=by
     rw [List.getLast?_cons,hc]
     rfl
    rw [this]
    rfl
   rw [this]
   constructor
   ·intro q
    cases q
    exact absurd (Option.some.inj hc).symm hne
   ·intro q
    exact absurd (Option.some.inj q) hne
theorem and_low (f m k:Nat) (h:m < 2 ^ k):f &&& m = (f % 2 ^ k) &&& m:=by
 apply Nat.eq_of_testBit_eq
 intro i
 rw [Nat.testBit_and,Nat.testBit_and,Nat.testBit_mod_two_pow]
 by_cases hi:i < k
 ·simp [hi]
 ·have:m.testBit i = false:=Nat.testBit_lt_two_pow (Nat.lt_of_lt_of_le h (Nat.pow_le_pow_right (by decide) (by omega)))
  simp [this]
theorem one_access (f:Nat):decide (ofThese f [1,2,4] ≤ 1) = ((f &&& 7) == 0 || (f &&& 7) == 1 || (f &&& 7) == 2 || (f &&& 7) == 4):=by
 have key:∀ m:Nat,m < 8→decide (ofThese m [1,2,4] ≤ 1) = ((m &&& 7) == 0 || (m &&& 7) == 1 || (m &&& 7) == 2 || (m &&& 7) == 4):=by decide
 have h:=key (f % 8) (Nat.mod_lt _ (by decide))
 have e1:ofThese f [1,2,4] = ofThese (f % 8) [1,2,4]:=by
  unfold ofThese has
  have a1:f / 1 % 2 = f % 8 / 1 % 2:=by omega
  have a2:f / 2 % 2 = f % 8 / 2 % 2:=by omega
  have a3:f / 4 % 2 = f % 8 / 4 % 2:=by omega
  simp only [List.filter,a1,a2,a3]
 rw [e1,and_low f 7 3 (by decide)]
 exact h
theorem final_volatile (f:Nat):(!(has f 16 && has f 64)) = ((f &&& 80) != 80):=by
 have key:∀ m:Nat,m < 128→(!(has m 16 && has m 64)) = ((m &&& 80) != 80):=by decide +kernel
 have h:=key (f % 128) (Nat.mod_lt _ (by decide))
 have a1:has f 16 = has (f % 128) 16:=by
  unfold has
  have:f / 16 % 2 = f % 128 / 16 % 2:=by omega
  rw [this]
 have a2:has f 64 = has (f % 128) 64:=by
  unfold has
  have:f / 64 % 2 = f % 128 / 64 % 2:=by omega
  rw [this]
 rw [a1,a2,and_low f 80 7 (by decide)]
 exact h
theorem has_and (f k:Nat):has f (2 ^ k) = ((f &&& 2 ^ k) != 0):=by
 unfold has
 rw [Bool.eq_iff_iff,beq_iff_eq,bne_iff_ne]
 have h1:f / 2 ^ k % 2 = 1 ↔ f.testBit k = true:=by
  rw [Nat.testBit_eq_decide_div_mod_eq,decide_eq_true_iff]
 rw [h1]
 constructor
 ·intro h q
  have:(f &&& 2 ^ k).testBit k = true:=by
   rw [Nat.testBit_and,h,Nat.testBit_two_pow]
   simp
  rw [q,Nat.zero_testBit] at this
  cases this
 ·intro h
  cases e:f.testBit k with
  | true=>rfl
  | false =>
   refine absurd (Nat.eq_of_testBit_eq fun i=>?_) h
   rw [Nat.testBit_and,Nat.testBit_two_pow,Nat.zero_testBit]
   by_cases q:k = i
   ·subst q
    rw [e]
    rfl
   ·simp [q]
theorem has_of (f b k:Nat) (h:b = 2 ^ k):has f b = ((f &&& b) != 0):=by
 rw [h]
 exact has_and f k
theorem or_zero {x y:Nat}:(x ||| y) = 0 ↔ x = 0∧y = 0:=by
 constructor
 ·intro h
  have key:∀ i,(x.testBit i || y.testBit i) = false:=fun i=>by
   rw [← Nat.testBit_or,h,Nat.zero_testBit]
  exact ⟨Nat.eq_of_testBit_eq fun i=>by rw [Nat.zero_testBit]; exact (Bool.or_eq_false_iff.mp (key i)).1,
   Nat.eq_of_testBit_eq fun i=>by rw [Nat.zero_testBit]; exact (Bool.or_eq_false_iff.mp (key i)).2⟩
 ·rintro ⟨rfl,rfl⟩
  rfl
theorem and_or_zero (f a b:Nat):((f &&& (a ||| b)) == 0) = ((f &&& a) == 0 && (f &&& b) == 0):=by
 have e:f &&& (a ||| b) = (f &&& a) ||| (f &&& b):=by
  apply Nat.eq_of_testBit_eq
  intro i
  simp only [Nat.testBit_and,Nat.testBit_or]
  cases f.testBit i <;> rfl
 rw [e,Bool.eq_iff_iff,Bool.and_eq_true,beq_iff_eq,beq_iff_eq,beq_iff_eq]
 exact or_zero
theorem no_abstract (f:Nat):(ofThese f [2,8,16,32,256,2048] == 0) = ((f &&& 2362) == 0):=by
 have e:(2362:Nat) = 2 ||| (8 ||| (16 ||| (32 ||| (256 ||| 2048)))):=by decide
 rw [e,and_or_zero,and_or_zero,and_or_zero,and_or_zero,and_or_zero]
 unfold ofThese
 have a1:=has_of f 2 1 rfl
 have a2:=has_of f 8 3 rfl
 have a3:=has_of f 16 4 rfl
 have a4:=has_of f 32 5 rfl
 have a5:=has_of f 256 8 rfl
 have a6:=has_of f 2048 11 rfl
 simp only [List.filter,a1,a2,a3,a4,a5,a6,bne]
 cases (f &&& 2) == 0 <;> cases (f &&& 8) == 0 <;> cases (f &&& 16) == 0 <;> cases (f &&& 32) == 0 <;> cases (f &&& 256) == 0 <;> cases (f &&& 2048) == 0 <;> rfl
theorem without_code (f:Nat):(has f 1024 || has f 256) = ((f &&& 1280) != 0):=by
 have e:(1280:Nat) = 1024 ||| 256:=by decide
 unfold bne
 rw [e,and_or_zero,has_of f 1024 10 rfl,has_of f 256 8 rfl]
 unfold bne
 cases (f &&& 1024) == 0 <;> cases (f &&& 256) == 0 <;> rfl
def tagW (t:Nat):Option (Nat × Nat) :=
 if t = 1 then some (2,0) else if t = 3 ∨ t = 4 then some (4,0) else if t = 5 ∨ t = 6 then some (8,0) else if t = 7 ∨ t = 8 ∨ t = 16 then some (2,0)
 else if t = 9 ∨ t = 10 ∨ t = 11 ∨ t = 12 ∨ t = 18 then some (2,2) else if t = 15 then some (1,2) else none
def mkC (t x y:Nat):Const :=
 if t = 3 ∨ t = 4 then .word t x else if t = 5 ∨ t = 6 then .wide t x else if t = 7 then .class_ x else if t = 8 then .string x else if t = 9 ∨ t = 10 ∨ t = 11 then .member t x y
 else if t = 12 then .named x y else if t = 15 then .handle x y else if t = 16 then .type_ x else .site x y
theorem big_zero (b:Bytes) (p:Nat):big b p 0 = 0:=by
 unfold big
 rw [List.take_zero]
 rfl
theorem post_constant (b:Bytes) (p:Nat) (OK:Const→Nat→Prop) (ER:Nat→Nat→Prop):Post (constant b) p OK ER =
  Post (num b 1) p (fun t q=>match tagW t with
   | none=>ER 5 p
   | some w=>Post (num b w.1) q (fun x q1=>if t = 1 then Post (skip b x) q1 (fun s q2=>if chars x ((b.drop s).take x) = true then OK (.text ((b.drop s).take x)) q2 else ER 6 p) ER
     else Post (num b w.2) q1 (fun y q2=>OK (mkC t x y) q2) ER) ER) ER:=by
 unfold constant
 rw [post_bind,post_here,post_bind]
 congr 1
 funext t q
 unfold tagW mkC
 have skip0:∀ (q1:Nat) (F:Nat→Nat→Prop),q1 ≤ b.length→Post (num b 0) q1 F ER = F 0 q1:=fun q1 F h=>by
  rw [post_num,if_pos (by omega),big_zero]
  rfl
 have one:∀ (w:Nat) (G:Nat→Const),Post (num b w >>= fun x=>pure (G x)) q OK ER = Post (num b w) q (fun x q1=>Post (num b 0) q1 (fun _ q2=>OK (G x) q2) ER) ER:=fun w G=>by
  rw [post_bind,post_num,post_num]
  by_cases h:q + w ≤ b.length
  ·rw [if_pos h,if_pos h,skip0 _ _ h]
   rfl
  ·rw [if_neg h,if_neg h]
 have two:∀ (w v:Nat) (G:Nat→Nat→Const),Post (num b w >>= fun x=>num b v >>= fun y=>pure (G x y)) q OK ER = Post (num b w) q (fun x q1=>Post (num b v) q1 (fun y q2=>OK (G x y) q2) ER) ER:=fun w v G=>by
  rw [post_bind]
  congr 1
  funext x q1
  rw [post_bind]
  rfl
 by_cases h1:t = 1
 ·subst h1
  rw [if_pos rfl,if_pos rfl]
  dsimp only
  rw [post_bind]
  congr 1
  funext x q1
  rw [if_pos rfl,post_bind]
  congr 1
  funext s q2
  rw [post_bind,post_must]
  rfl
 rw [if_neg h1,if_neg h1]
 by_cases h2:t = 3 ∨ t = 4
 ·rw [if_pos h2,if_pos h2]
  dsimp only
  simp only [if_neg h1,if_pos h2]
  exact one 4 fun x=>.word t x
 rw [if_neg h2,if_neg h2]
 by_cases h3:t = 5 ∨ t = 6
 ·rw [if_pos h3,if_pos h3]
  dsimp only
  simp only [if_neg h1,if_neg h2,if_pos h3]
  exact one 8 fun x=>.wide t x
 rw [if_neg h3,if_neg h3]
 by_cases h4:t = 7
 ·rw [if_pos h4,if_pos (Or.inl h4)]
  dsimp only
  simp only [if_neg h1,if_neg h2,if_neg h3,if_pos h4]
  exact one 2 fun x=>.class_ x
 rw [if_neg h4]
 by_cases h5:t = 8
 ·rw [if_pos h5,if_pos (Or.inr (Or.inl h5))]
  dsimp only
  simp only [if_neg h1,if_neg h2,if_neg h3,if_neg h4,if_pos h5]
  exact one 2 fun x=>.string x
 rw [if_neg h5]
 by_cases h6:t = 9 ∨ t = 10 ∨ t = 11
 ·rw [if_pos h6,if_neg (by omega),if_pos (by omega)]
  dsimp only
  simp only [if_neg h1,if_neg h2,if_neg h3,if_neg h4,if_neg h5,if_pos h6]
  exact two 2 2 fun x y=>.member t x y
 rw [if_neg h6]
 by_cases h7:t = 12
 ·rw [if_pos h7,if_neg (by omega),if_pos (by omega)]
  dsimp only
  simp only [if_neg h1,if_neg h2,if_neg h3,if_neg h4,if_neg h5,if_neg h6,if_pos h7]
  exact two 2 2 fun x y=>.named x y
 rw [if_neg h7]
 by_cases h8:t = 15
 ·rw [if_pos h8,if_neg (by omega),if_neg (by omega),if_pos (by omega)]
  dsimp only
  simp only [if_neg h1,if_neg h2,if_neg h3,if_neg h4,if_neg h5,if_neg h6,if_neg h7,if_pos h8]
  exact two 1 2 fun x y=>.handle x y
 rw [if_neg h8]
 by_cases h9:t = 16
 ·rw [if_pos h9,if_pos (by omega)]
  dsimp only
  simp only [if_neg h1,if_neg h2,if_neg h3,if_neg h4,if_neg h5,if_neg h6,if_neg h7,if_neg h8,if_pos h9]
  exact one 2 fun x=>.type_ x
 rw [if_neg h9]
 by_cases h10:t = 18
 ·rw [if_pos h10,if_neg (by omega),if_pos (by omega)]
  dsimp only
  simp only [if_neg h1,if_neg h2,if_neg h3,if_neg h4,if_neg h5,if_neg h6,if_neg h7,if_neg h8,if_neg h9]
  exact two 2 2 fun x y=>.site x y
 rw [if_neg h10,if_neg (by omega),if_neg (by omega),if_neg (by omega)]
 rfl
theorem post_constants (b:Bytes) (k p:Nat) (OK:Pool→Nat→Prop) (ER:Nat→Nat→Prop):Post (constants b (k + 1)) p OK ER =
  Post (constant b) p (fun c q=>if c.isWide = true then (if k = 0 then ER 7 p else Post (constants b (k - 1)) q (fun l q'=>OK (some (p,c) :: none :: l) q') ER)
   else Post (constants b k) q (fun l q'=>OK (some (p,c) :: l) q') ER) ER:=by
 cases k with
 | zero =>
  show Post (here >>= fun p=>constant b >>= fun c=>must (!c.isWide) SLOT p >>= fun _=>pure [some (p,c)]) p OK ER = _
  rw [post_bind,post_here,post_bind]
  congr 1
  funext c q
  rw [post_bind,post_must]
  cases c.isWide <;> rfl
 | succ k =>
  show Post (here >>= fun p=>constant b >>= fun c=>if c.isWide = true then (constants b k >>= fun l=>pure (some (p,c) :: none :: l)) else (constants b (k + 1) >>= fun l=>pure (some (p,c) :: l))) p OK ER = _
  rw [post_bind,post_here,post_bind]
  congr 1
  funext c q
  rw [post_ite]
  split
  ·rw [if_neg (by omega),post_bind]
   rfl
  ·rw [post_bind]
   rfl
def OkC (b:Bytes) (p:Nat):Const→Prop
 | .text s=>(b.drop (p + 3)).take s.length = s∧p + 3 + s.length ≤ b.length
 | .word k _=>k = 3 ∨ k = 4
 | .wide k _=>k = 5 ∨ k = 6
 | .member k _ _=>k = 9 ∨ k = 10 ∨ k = 11
 | _=>True
def fst (p:Nat):Const→Nat
 | .text _=>p + 3
 | .word _ x=>x
 | .wide _ x=>x
 | .class_ i=>i
 | .string i=>i
 | .member _ c _=>c
 | .named n _=>n
 | .handle k _=>k
 | .type_ d=>d
 | .site m _=>m
def snd:Const→Nat
 | .text s=>s.length
 | .member _ _ n=>n
 | .named _ d=>d
 | .handle _ i=>i
 | .site _ n=>n
 | _=>0
theorem mkC_ok {b:Bytes} {t x y:Nat} (p:Nat) {w:Nat × Nat} (h:tagW t = some w) (h1:t ≠ 1) (hy:w.2 = 0→y = 0) :
  OkC b p (mkC t x y)∧(mkC t x y).tag = t∧fst p (mkC t x y) = x∧snd (mkC t x y) = y:=by
 unfold tagW at h
 unfold mkC
 rw [if_neg h1] at h
 by_cases h2:t = 3 ∨ t = 4
 ·rw [if_pos h2] at h ⊢
  cases h
  exact ⟨h2,rfl,rfl,(hy rfl).symm⟩
 rw [if_neg h2] at h ⊢
 by_cases h3:t = 5 ∨ t = 6
 ·rw [if_pos h3] at h ⊢
  cases h
  exact ⟨h3,rfl,rfl,(hy rfl).symm⟩
 rw [if_neg h3] at h ⊢
 by_cases h4:t = 7
 ·rw [if_pos (Or.inl h4)] at h
  rw [if_pos h4]
  cases h
  exact ⟨trivial,h4.symm,rfl,(hy rfl).symm⟩
 rw [if_neg h4]
 by_cases h5:t = 8
 ·rw [if_pos (Or.inr (Or.inl h5))] at h
  rw [if_pos h5]
  cases h
  exact ⟨trivial,h5.symm,rfl,(hy rfl).symm⟩
 rw [if_neg h5]
 by_cases h6:t = 9 ∨ t = 10 ∨ t = 11
 ·rw [if_pos h6]
  exact ⟨h6,rfl,rfl,rfl⟩
 rw [if_neg h6]
 by_cases h7:t = 12
 ·rw [if_pos h7]
  exact ⟨trivial,h7.symm,rfl,rfl⟩
 rw [if_neg h7]
 by_cases h8:t = 15
 ·rw [if_pos h8]
  exact ⟨trivial,h8.symm,rfl,rfl⟩
 rw [if_neg h8]
 by_cases h9:t = 16
 ·rw [if_pos (Or.inr (Or.inr h9))] at h
  rw [if_pos h9]
  cases h
  exact ⟨trivial,h9.symm,rfl,(hy rfl).symm⟩
 rw [if_neg h9]
 by_cases h10:t = 18
 ·exact ⟨trivial,h10.symm,rfl,rfl⟩
 rw [if_neg (by omega),if_neg (by omega),if_neg (by omega)] at h
 cases h
theorem isWide_tag {b:Bytes} {p:Nat} {c:Const} (h:OkC b p c):c.isWide = (c.tag == 5 || c.tag == 6):=by
 cases c with
 | word k x=>rcases h with rfl | rfl <;> rfl
 | wide k x=>rcases h with rfl | rfl <;> rfl
 | member k c n=>rcases h with rfl | rfl | rfl <;> rfl
 | _=>rfl
def AllOk (b:Bytes) (l:Pool):Prop:=∀ (i p:Nat) (c:Const),l[i]? = some (some (p,c))→OkC b p c
def tagAt (l:Pool) (i:Nat):Nat:=match constAt l i with
 | some c=>c.tag
 | none=>0
theorem constAt_iff {l:Pool} {i:Nat} {c:Const}:constAt l i = some c ↔ ∃ p,l[i]? = some (some (p,c)):=by
 unfold constAt
 split
 ·rename_i p c' e
  constructor
  ·intro h
   cases h
   exact ⟨p,e⟩
  ·rintro ⟨q,h⟩
   rw [e] at h
   cases h
   rfl
 ·rename_i h
  constructor
  ·intro q
   cases q
  ·rintro ⟨p,e⟩
   exact absurd e (h p c)
theorem textAt_tag {b:Bytes} {l:Pool} (ok:AllOk b l) (i:Nat):(textAt l i).isSome = (tagAt l i == 1):=by
 unfold textAt tagAt
 cases e:constAt l i with
 | none=>rfl
 | some c =>
  obtain ⟨p,q⟩:=constAt_iff.mp e
  have h:=ok i p c q
  cases c with
  | word k x=>rcases h with rfl | rfl <;> rfl
  | wide k x=>rcases h with rfl | rfl <;> rfl
  | member k c n=>rcases h with rfl | rfl | rfl <;> rfl
  | _=>rfl
theorem isClass_tag {b:Bytes} {l:Pool} (ok:AllOk b l) (i:Nat):isClass l i = (tagAt l i == 7):=by
 unfold isClass tagAt
 cases e:constAt l i with
 | none=>rfl
 | some c =>
  obtain ⟨p,q⟩:=constAt_iff.mp e
  have h:=ok i p c q
  cases c with
  | word k x=>rcases h with rfl | rfl <;> rfl
  | wide k x=>rcases h with rfl | rfl <;> rfl
  | member k c n=>rcases h with rfl | rfl | rfl <;> rfl
  | _=>rfl
theorem isMember_tag {b:Bytes} {l:Pool} (ok:AllOk b l) (i:Nat) (ks:List Nat) (hk:∀ k ∈ ks,k = 9 ∨ k = 10 ∨ k = 11):isMember l i ks = ks.contains (tagAt l i):=by
 unfold isMember tagAt
 cases e:constAt l i with
 | none =>
  dsimp only
  rw [Bool.eq_iff_iff]
  constructor
  ·intro h
   cases h
  ·intro h
   have:=hk 0 (List.contains_iff_mem.mp h)
   omega
 | some c =>
  obtain ⟨p,q⟩:=constAt_iff.mp e
  have h:=ok i p c q
  have no:∀ t:Nat,(t ≠ 9∧t ≠ 10∧t ≠ 11)→false = ks.contains t:=fun t ht=>by
   rw [Bool.eq_iff_iff]
   constructor
   ·intro h
    cases h
   ·intro h
    have:=hk t (List.contains_iff_mem.mp h)
    omega
  cases c with
  | word k x =>
   rcases h with rfl | rfl
   ·exact no 3 (by decide)
   ·exact no 4 (by decide)
  | wide k x =>
   rcases h with rfl | rfl
   ·exact no 5 (by decide)
   ·exact no 6 (by decide)
  | member k c n=>rfl
  | text s=>exact no 1 (by decide)
  | class_ s=>exact no 7 (by decide)
  | string s=>exact no 8 (by decide)
  | named s t=>exact no 12 (by decide)
  | handle s t=>exact no 15 (by decide)
  | type_ s=>exact no 16 (by decide)
  | site s t=>exact no 18 (by decide)
end Cf
namespace L2
open PySem PySem.Spec PyProof.Rows
def Kd (h h':Heap):Prop:=∀ b o,h.get? b = some o→∃ o',h'.get? b = some o'∧o'.cls = o.cls∧o'.dict = o.dict
theorem Kd.refl (h:Heap):Kd h h:=fun _ o e=>⟨o,e,rfl,rfl⟩
theorem Kd.trans {h g k:Heap} (a:Kd h g) (b:Kd g k):Kd h k:=fun c o e=>by
 obtain ⟨o1,e1,c1,d1⟩:=a c o e
 obtain ⟨o2,e2,c2,d2⟩:=b c o1 e1
 exact ⟨o2,e2,c2.trans c1,d2.trans d1⟩
structure KdS {α:Type} (t:Sem α):Prop where
 out:∀ (M:Model) (G:PySem.Ctx) (P:α→Pos→Shared→Prop) (X:Value→Pos→Shared→Prop) (p:Pos) (s:Shared),
  Sem.wp M G t P X p s→Sem.wp M G t (fun a p' s'=>P a p' s'∧Kd s.heap s'.heap) X p s
namespace KdS
variable {α β:Type}
theorem pure (a:α):KdS (Pure.pure a:Sem α):=⟨fun _ _ _ _ _ s h=>⟨h,Kd.refl s.heap⟩⟩
theorem unsupported (w:String):KdS (PySem.unsupported w:Sem α):=⟨fun _ _ _ _ _ _ h=>h⟩
theorem bind {m:Sem α} {f:α→Sem β} (hm:KdS m) (hf:∀ a,KdS (f a)):KdS (m >>= f):=⟨fun M G P X p s h=>by
 rw [Sem.wp_bind'] at h ⊢
 refine Sem.wp_mono M G m (fun a p1 s1 h1=>?_) (fun _ _ _ x=>x) p s (hm.out M G _ X p s h)
 exact Sem.wp_mono M G (f a) (fun b p2 s2 h2=>⟨h2.1,h1.2.trans h2.2⟩) (fun _ _ _ x=>x) p1 s1 ((hf a).out M G P X p1 s1 h1.1)⟩
theorem ite {c:Prop} [Decidable c] {t u:Sem α} (ht:KdS t) (hu:KdS u):KdS (if c then t else u):=by split <;> assumption
theorem load (a:Addr):KdS (PySem.load a):=⟨fun M G P X p s h=>by
 unfold PySem.load at h ⊢
 rw [Sem.wp_load] at h ⊢
 obtain ⟨o,e,h⟩:=h
 exact ⟨o,e,h,Kd.refl s.heap⟩⟩
theorem stack:KdS PySem.stack:=⟨fun M G P X p s h=>by
 unfold PySem.stack at h ⊢
 rw [Sem.wp_stack] at h ⊢
 exact ⟨h,Kd.refl s.heap⟩⟩
theorem alloc (o:Obj):KdS (PySem.alloc o):=⟨fun M G P X p s h=>by
 unfold PySem.alloc at h ⊢
 rw [Sem.wp_alloc] at h ⊢
 exact ⟨h,fun b ob e=>⟨ob,Heap.get?_push_of_some _ e,rfl,rfl⟩⟩⟩
theorem field (v:Value) (i:Nat):KdS (PySem.field v i):=⟨fun M G P X p s h=>by
 rw [wp_field_iff] at h ⊢
 obtain ⟨a,o,vs,x,e,h1,h2,h3,h⟩:=h
 exact ⟨a,o,vs,x,e,h1,h2,h3,h,Kd.refl s.heap⟩⟩
theorem kd_update {h:Heap} {a:Addr} {f:Obj→Obj} (hf:∀ o,(f o).cls = o.cls∧(f o).dict = o.dict∧(f o).isFreed = o.isFreed):Kd h (h.update a f):=fun b o e=>by
 by_cases q:a = b
 ·subst q
  exact ⟨f o,Heap.get?_update_self f e ((hf o).2.2.trans (Heap.get?_some_iff.mp e).2),(hf o).1,(hf o).2.1⟩
 ·exact ⟨o,by rw [Heap.get?_update_other _ _ q]; exact e,rfl,rfl⟩
theorem mapFields_facts (g:Array Value→Array Value) (o:Obj):(o.mapFields g).cls = o.cls∧(o.mapFields g).dict = o.dict∧(o.mapFields g).isFreed = o.isFreed:=by
 obtain ⟨c,d,dt,sl⟩:=o
 cases dt <;> exact ⟨rfl,rfl,rfl⟩
theorem setField (v:Value) (i:Nat) (x:Value):KdS (PySem.setField v i x):=⟨fun M G P X p s h=>by
 rw [wp_setField_iff] at h ⊢
 obtain ⟨a,o,vs,e,h1,h2,h3,h⟩:=h
 exact ⟨a,o,vs,e,h1,h2,h3,h,kd_update (mapFields_facts _)⟩⟩
theorem slots (a:Addr) (g:Obj→Array (Option Value)):KdS (PySem.update a fun o=>{ o with slots:=g o }):=⟨fun M G P X p s h=>by
 unfold PySem.update at h ⊢
 rw [Sem.wp_update] at h ⊢
 refine ⟨h.1,h.2,kd_update fun o=>⟨rfl,rfl,?_⟩⟩
 obtain ⟨c,d,dt,sl⟩:=o
 cases dt <;> rfl⟩
end KdS
theorem kd_behind (env:Env) (l:List Env):KdS (behindIsImport env l):=by
 unfold behindIsImport
 repeat' first
  | assumption
  | exact KdS.pure _
  | exact KdS.unsupported _
  | exact KdS.load _
  | exact KdS.field _ _
  | exact KdS.setField _ _ _
  | exact KdS.slots _ _
  | exact KdS.alloc _
  | exact KdS.stack
  | apply KdS.ite
  | apply KdS.bind
  | intro _
  | split
theorem kd_under:KdS underTheClaimsCaller:=by
 unfold underTheClaimsCaller
 repeat' first
  | assumption
  | exact KdS.pure _
  | exact KdS.unsupported _
  | exact KdS.load _
  | exact KdS.field _ _
  | exact KdS.setField _ _ _
  | exact KdS.slots _ _
  | exact KdS.alloc _
  | exact KdS.stack
  | apply KdS.ite
  | apply KdS.bind
  | intro _
  | split
theorem kd_keptBack (env:Env) (i:Bool) (l:List Env):KdS (keptBack env i l):=by
 have h:=kd_under
 cases l <;> unfold keptBack
 all_goals
  repeat' first
   | assumption
   | exact KdS.pure _
   | exact KdS.unsupported _
   | exact KdS.load _
   | exact KdS.field _ _
   | exact KdS.setField _ _ _
   | exact KdS.slots _ _
   | exact KdS.alloc _
   | exact KdS.stack
   | apply KdS.ite
   | apply KdS.bind
   | intro _
   | split
theorem kd_ready:∀ l:List Env,KdS (readyFrames l)
 | []=>KdS.pure _
 | env :: outer=>by
  have ih:=kd_ready outer
  have h1:=kd_behind env outer
  have h2:=fun i=>kd_keptBack env i outer
  unfold readyFrames
  repeat' first
   | assumption
   | exact KdS.pure _
   | exact KdS.unsupported _
   | exact KdS.load _
   | exact KdS.field _ _
   | exact KdS.setField _ _ _
   | exact KdS.slots _ _
   | exact KdS.alloc _
   | exact KdS.stack
   | apply KdS.ite
   | apply KdS.bind
   | intro _
   | split
  all_goals exact h2 _
theorem kd_frameObject (l:List Env):KdS (frameObject l):=by
 cases l with
 | nil=>exact KdS.pure _
 | cons env outer =>
  have h:=kd_ready (env :: outer)
  unfold frameObject
  repeat' first
   | assumption
   | exact KdS.pure _
   | exact KdS.unsupported _
   | exact KdS.load _
   | exact KdS.field _ _
   | exact KdS.setField _ _ _
   | exact KdS.slots _ _
   | exact KdS.alloc _
   | exact KdS.stack
   | apply KdS.ite
   | apply KdS.bind
   | intro _
   | split
theorem kd_frameEnvs:KdS frameEnvs:=by
 unfold frameEnvs
 repeat' first
  | assumption
  | exact KdS.pure _
  | exact KdS.unsupported _
  | exact KdS.load _
  | exact KdS.field _ _
  | exact KdS.setField _ _ _
  | exact KdS.slots _ _
  | exact KdS.alloc _
  | exact KdS.stack
  | apply KdS.ite
  | apply KdS.bind
  | intro _
  | split
theorem kd_frameOf (env:Env):KdS (PySem.frameOf env):=by
 have h1:=kd_frameEnvs
 have h2:=kd_frameObject
 unfold PySem.frameOf
 repeat' first
  | assumption
  | exact KdS.pure _
  | exact KdS.unsupported _
  | exact KdS.load _
  | exact KdS.field _ _
  | exact KdS.setField _ _ _
  | exact KdS.slots _ _
  | exact KdS.alloc _
  | exact KdS.stack
  | apply KdS.ite
  | apply KdS.bind
  | intro _
  | split
 all_goals exact h2 _
theorem kd_place (f:Addr) (b:Bool):KdS (entryPlaceOf f b):=by
 unfold entryPlaceOf
 repeat' first
  | assumption
  | exact KdS.pure _
  | exact KdS.unsupported _
  | exact KdS.load _
  | exact KdS.field _ _
  | exact KdS.setField _ _ _
  | exact KdS.slots _ _
  | exact KdS.alloc _
  | exact KdS.stack
  | apply KdS.ite
  | apply KdS.bind
  | intro _
  | split
theorem kd_entry (a b c d e:Value) (l:List Value):KdS (EntryCells.newEntry a b c d e l):=by
 unfold EntryCells.newEntry newFields newObj newObjAsIs
 repeat' first
  | assumption
  | exact KdS.pure _
  | exact KdS.unsupported _
  | exact KdS.load _
  | exact KdS.field _ _
  | exact KdS.setField _ _ _
  | exact KdS.slots _ _
  | exact KdS.alloc _
  | exact KdS.stack
  | apply KdS.ite
  | apply KdS.bind
  | intro _
  | split
theorem kd_note (e:Value) (env:Env):KdS (noteFrame e env):=by
 have h1:=kd_frameOf env
 have h2:=kd_place
 have h3:=kd_entry
 unfold noteFrame
 cases env.frame with
 | none=>exact KdS.unsupported _
 | some f =>
  dsimp only
  repeat' first
   | assumption
   | exact KdS.pure _
   | exact KdS.unsupported _
   | exact KdS.load _
   | exact KdS.field _ _
   | exact KdS.setField _ _ _
   | exact KdS.slots _ _
   | exact KdS.alloc _
   | exact KdS.stack
   | apply KdS.ite
   | apply KdS.bind
   | intro _
   | split
  all_goals first
   | exact h2 _ _
   | exact h3 _ _ _ _ _ _
theorem kd_flight (e:Value) (o:Option Addr):KdS (setFlight e o):=by
 unfold setFlight
 repeat' first
  | assumption
  | exact KdS.pure _
  | exact KdS.unsupported _
  | exact KdS.load _
  | exact KdS.field _ _
  | exact KdS.setField _ _ _
  | exact KdS.slots _ _
  | exact KdS.alloc _
  | exact KdS.stack
  | apply KdS.ite
  | apply KdS.bind
  | intro _
  | split
theorem kd_leaving (env:Env) (e:Value):KdS (leaving env e):=by
 have h1:=kd_note e env
 have h2:=kd_flight e none
 unfold leaving
 repeat' first
  | assumption
  | exact KdS.pure _
  | exact KdS.unsupported _
  | exact KdS.load _
  | exact KdS.field _ _
  | exact KdS.setField _ _ _
  | exact KdS.slots _ _
  | exact KdS.alloc _
  | exact KdS.stack
  | apply KdS.ite
  | apply KdS.bind
  | intro _
  | split
theorem KdS.any {α:Type} {t:Sem α} (k:KdS t) {M:Model} {A:Around} {Q:α→Shared→Prop} {E:Value→Shared→Prop} {s:Shared} (h:wpAny M A t Q E s):wpAny M A t (fun a s'=>Q a s'∧Kd s.heap s'.heap) E s:=fun G p hG =>
 k.out M G _ _ p s (h G p hG)
end L2
namespace L2
open PySem
section
variable {prog:Program} {w:World} {K:Type} [DecidableEq K] {knd:KeyKind prog w K} {A:Around} {E:Value→Shared→Prop} {s:Shared}
def IsPair (knd:KeyKind prog w K) (h:Heap) (k:List K × List K) (a:Addr):Prop :=
 ∃ o n p q,h.get? a = some o∧o.cls = .type "tuple"∧o.data = .seq #[.ref p,.ref q] n∧IsTupleKey knd h k.1 p∧IsTupleKey knd h k.2 q
theorem IsPair.typeIs {k:List K × List K} {a:Addr} (x:IsPair knd s.heap k a):s.TypeIs (.ref a) "tuple":=let ⟨o,_,_,_,ho,hc,_⟩:=x; ⟨o,ho,hc⟩
def pairHash (knd:KeyKind prog w K) (k:List K × List K):Int:=reduceHash (Builtin.Tuple.tupleHashOf [tupleKeyHash knd k.1,tupleKeyHash knd k.2])
theorem pair_inj {h:Heap} {a:Addr} {x y:List K × List K} (hx:IsPair knd h x a) (hy:IsPair knd h y a):x = y:=by
 obtain ⟨o,n,p,q,h1,_,h3,h4,h5⟩:=hx
 obtain ⟨o',n',p',q',g1,_,g3,g4,g5⟩:=hy
 obtain rfl:o = o':=Option.some.inj (h1.symm.trans g1)
 rw [h3] at g3
 cases g3
 exact Prod.ext (h4.inj g4) (h5.inj g5)
theorem pair_keeps {h h':Heap} {k:List K × List K} {a d:Addr} {o:Obj} {es ep} (x:IsPair knd h k a) (ho:h.get? d = some o) (hd:o.data = .dict es ep) (hs:Heap.SameBut d h h'):IsPair knd h' k a:=by
 obtain ⟨o',n,p,q,h1,h2,h3,h4,h5⟩:=x
 have ne:a ≠ d:=by
  rintro rfl
  obtain rfl:o' = o:=Option.some.inj (h1.symm.trans ho)
  rw [hd] at h3; exact nomatch h3
 exact ⟨o',n,p,q,(hs.2 a ne).trans h1,h2,h3,h4.keeps ho hd hs,h5.keeps ho hd hs⟩
theorem pair_hash {k:List K × List K} {a:Addr} {Q:Int→Shared→Prop} (hu:A.units + 1 < cLine) (hk:IsPair knd s.heap k a) (h:Q (pairHash knd k) { s with toks:=s.toks + (k.1.length + 1 + (k.2.length + 1) + 1) }) :
  wpAny (model prog w) A (pyHash (.ref a)) Q E s:=by
 have hT:=hk.typeIs
 obtain ⟨o,n,p,q,ho,_,hd,hp,hq⟩:=hk
 unfold pyHash
 first | unfold pyHashByItsType | skip
 first | refine wpAny_bind (wpAny_cRoomFor_or (.inr (Nat.lt_of_succ_lt hu)) ?_) | skip
 refine wpAny_bind (wpAny_specialOf hT F.slot_tuple_hash.lookup ?_)
 show wpAny _ _ (if (some (Value.builtin "tuple.__hash__") == some Value.none) = true then _ else _) Q E s
 rw [if_neg (by rw [beq_builtin_none]; exact Bool.false_ne_true)]
 refine wpAny_bind (wpAny_specialOf hT F.slot_tuple_hash.lookup ?_)
 show wpAny _ _ (callSpecialIfBoundUnlessNone? (.ref a) "__hash__" _ >>= _) Q E s
 refine wpAny_bind (wpAny_callSpecialIfBoundUnlessNone?_slot hT F.slot_tuple_hash (wpAny_call_entry F.slot_tuple_hash hT F.entry_tuple_hash ?_ (F.args_tuple_hash_1 _)))
 show wpAny _ _ (Builtin.Tuple.tupleItemsOf (.ref a) >>= _) _ _ s
 refine wpAny_bind (wpAny_tupleItemsOf ho hd (wpAny_bind ?_))
 rw [← Array.forIn_toList]
 show wpAny _ _ (forIn [Value.ref p,Value.ref q] _ _) _ _ s
 simp only [List.forIn_cons,List.forIn_nil]
 refine wpAny_bind (wpAny_bind (wpAny_pyHash_tuple (knd:=knd) (ks:=k.1) hu hp ?_))
 refine wpAny_pure (wpAny_bind (wpAny_bind (wpAny_pyHash_tuple (knd:=knd) (ks:=k.2) hu hq (wpAny_pure (wpAny_pure ?_)))))
 show wpAny _ _ (retInt (Builtin.Tuple.tupleHashOf [tupleKeyHash knd k.1,tupleKeyHash knd k.2])) _ _ _
 refine wpAny_ret_mkInt ?_
 show wpAny _ _ (if (decide (-(2:Int) ^ 63 ≤ Builtin.Tuple.tupleHashOf [tupleKeyHash knd k.1,tupleKeyHash knd k.2]) && decide (Builtin.Tuple.tupleHashOf [tupleKeyHash knd k.1,tupleKeyHash knd k.2] < 2 ^ 63)) = true then _ else _) Q E _
 unfold pairHash reduceHash at h
 by_cases hr:(decide (-(2:Int) ^ 63 ≤ Builtin.Tuple.tupleHashOf [tupleKeyHash knd k.1,tupleKeyHash knd k.2]) && decide (Builtin.Tuple.tupleHashOf [tupleKeyHash knd k.1,tupleKeyHash knd k.2] < 2 ^ 63)) = true
 ·rw [if_pos hr] at h ⊢
  exact wpAny_pure (by simpa [Nat.add_assoc] using h)
 ·rw [if_neg hr] at h ⊢
  exact wpAny_bind (wpAny_rule (wpAny_pure (by simpa [Nat.add_assoc] using h)))
theorem pair_eq_tree {x y:List K × List K} {a b:Addr} {P:Fin→Shared→Prop} (hu:A.units < cLine) (hx:IsPair knd s.heap x a) (hy:IsPair knd s.heap y b) (h:P (.done (.ret (.bool (decide (x = y))))) s) :
  wpAny (model prog w) A (Builtin.«tuple.__eq__» ⟨[.ref a,.ref b],[]⟩) P E s:=by
 have hTb:=hy.typeIs
 obtain ⟨oa,na,p,q,hoa,_,hda,hp,hq⟩:=hx
 obtain ⟨ob,nb,p',q',hob,_,hdb,hp',hq'⟩:=hy
 show wpAny _ _ (isInstance (.ref b) (.type "tuple") >>= _) _ _ s
 refine wpAny_bind (wpAny_isInstance hTb isSubtype_tuple_tuple ?_)
 simp only [Bool.not_true,Bool.false_eq_true,if_false]
 refine wpAny_bind (wpAny_tupleItemsOf hoa hda (wpAny_bind (wpAny_tupleItemsOf hob hdb (wpAny_bind ?_))))
 show wpAny _ _ (forIn [(Value.ref p,Value.ref p'),(Value.ref q,Value.ref q')] _ _) _ _ s
 simp only [List.forIn_cons,List.forIn_nil]
 refine wpAny_bind (wpAny_bind (wpAny_eqBool_tuple (knd:=knd) hu hp hp' ?_))
 by_cases e1:x.1 = y.1
 ·rw [decide_eq_true e1]
  simp only [Bool.not_true,Bool.false_eq_true,if_false]
  refine wpAny_pure (wpAny_bind (wpAny_bind (wpAny_eqBool_tuple (knd:=knd) hu hq hq' ?_)))
  by_cases e2:x.2 = y.2
  ·rw [decide_eq_true e2]
   simp only [Bool.not_true,Bool.false_eq_true,if_false]
   refine wpAny_pure (wpAny_pure (wpAny_pure ?_))
   rw [decide_eq_true (Prod.ext e1 e2)] at h
   exact h
  ·rw [decide_eq_false e2]
   simp only [Bool.not_false,if_true]
   rw [decide_eq_false fun z=>e2 (by rw [z])] at h
   exact wpAny_bind (wpAny_pure (wpAny_pure (wpAny_pure (wpAny_pure h))))
 ·rw [decide_eq_false e1]
  simp only [Bool.not_false,if_true]
  rw [decide_eq_false fun z=>e1 (by rw [z])] at h
  exact wpAny_bind (wpAny_pure (wpAny_pure (wpAny_pure (wpAny_pure h))))
theorem pair_eq {x y:List K × List K} {a b:Addr} {Q:Bool→Shared→Prop} (hu:A.units + 1 < cLine) (hx:IsPair knd s.heap x a) (hy:IsPair knd s.heap y b) (h:Q (decide (x = y)) s) :
  wpAny (model prog w) A (eqBool (.ref a) (.ref b)) Q E s:=by
 unfold eqBool
 try with_reducible refine wpAny_holding ?_
 show wpAny _ _ (if (Value.ref a == Value.ref b) = true then _ else _) Q E s
 by_cases hab:(Value.ref a == Value.ref b) = true
 ·rw [if_pos hab]
  have e:a = b:=by have:=eq_of_beq hab; injection this
  subst e
  obtain rfl:=pair_inj hx hy
  exact wpAny_bind (wpAny_rule (wpAny_pure (by simpa using h)))
 ·rw [if_neg hab]
  exact wpAny_bind (wpAny_richCompare_same_room (op:=.Eq) hx.typeIs hy.typeIs F.slot_tuple_eq
   (wpAny_call_entry F.slot_tuple_eq hx.typeIs F.entry_tuple_eq (pair_eq_tree hu hx hy ⟨_,rfl,(fun e=>nomatch e),wpAny_truthy_bool h⟩) (F.args_tuple_eq_2 _ _)) (Nat.lt_of_succ_lt hu))
theorem flat_quiet {n:Nat} {ks:List K} {a:Addr} {Q:Bool→Shared→Prop} (hk:IsTupleKey knd s.heap ks a) (h:Q true s):wpAny (model prog w) A (eqIsQuiet (n + 1) (.ref a)) Q E s:=by
 have hT:=hk.typeIs
 obtain ⟨o,its,m,ho,_,hd,hi⟩:=hk
 unfold eqIsQuiet
 refine wpAny_bind (wpAny_specialOf hT F.slot_tuple_eq.lookup ?_)
 show wpAny _ _ (isInstance (.ref a) (.type "tuple") >>= _) _ _ s
 refine wpAny_bind (wpAny_isInstance hT isSubtype_tuple_tuple ?_)
 simp only [Bool.not_true,Bool.false_eq_true,if_false]
 refine wpAny_bind (wpAny_seqItems ho hd (wpAny_bind ?_))
 show wpAny _ _ (forIn its _ _) _ _ s
 rw [← Array.forIn_toList]
 refine wpAny_forIn_list _ (fun rest r s'=>r.1 = none∧s' = s∧∀ v ∈ rest,carriedByValue v = true) _ ?_ ?_ _ _ ⟨rfl,rfl,hi.byValue⟩
 ·rintro v rest r s' ⟨hr,rfl,all⟩
  rw [eqIsQuiet_byValue _ (all v List.mem_cons_self)]
  refine wpAny_bind (wpAny_pure ?_)
  simp only [Bool.not_true,Bool.false_eq_true,if_false]
  exact wpAny_pure ⟨rfl,rfl,fun u z=>all u (List.mem_cons_of_mem _ z)⟩
 ·rintro ⟨r1,r2⟩ s' ⟨hr,rfl,_⟩
  simp only at hr
  subst hr
  exact wpAny_pure h
theorem pair_quiet {k:List K × List K} {a:Addr} {Q:Bool→Shared→Prop} (hk:IsPair knd s.heap k a) (h:Q true s):wpAny (model prog w) A (eqIsQuiet 8 (.ref a)) Q E s:=by
 have hT:=hk.typeIs
 obtain ⟨o,n,p,q,ho,_,hd,hp,hq⟩:=hk
 unfold eqIsQuiet
 refine wpAny_bind (wpAny_specialOf hT F.slot_tuple_eq.lookup ?_)
 show wpAny _ _ (isInstance (.ref a) (.type "tuple") >>= _) _ _ s
 refine wpAny_bind (wpAny_isInstance hT isSubtype_tuple_tuple ?_)
 simp only [Bool.not_true,Bool.false_eq_true,if_false]
 refine wpAny_bind (wpAny_seqItems ho hd (wpAny_bind ?_))
 show wpAny _ _ (forIn #[Value.ref p,Value.ref q] _ _) _ _ s
 rw [← Array.forIn_toList]
 show wpAny _ _ (forIn [Value.ref p,Value.ref q] _ _) _ _ s
 simp only [List.forIn_cons,List.forIn_nil]
 refine wpAny_bind (wpAny_bind (flat_quiet (n:=6) (knd:=knd) hp ?_))
 simp only [Bool.not_true,Bool.false_eq_true,if_false]
 refine wpAny_pure (wpAny_bind (wpAny_bind (flat_quiet (n:=6) (knd:=knd) hq ?_)))
 simp only [Bool.not_true,Bool.false_eq_true,if_false]
 exact wpAny_pure (wpAny_pure (wpAny_pure h))
end
def pairKind {prog:Program} {w:World} {K:Type} [DecidableEq K] (knd:KeyKind prog w K):HeapKind prog w (List K × List K) where
 is:=IsPair knd
 hash:=pairHash knd
 draws:=fun k=>k.1.length + 1 + (k.2.length + 1) + 1
 room:=fun A=>A.units + 1 < cLine
 inj:=fun hx hy=>pair_inj hx hy
 keeps:=fun x ho hd hs=>pair_keeps x ho hd hs
 pyHash:=fun hu hk h=>pair_hash hu hk h
 eqBool:=fun hu hx hy h=>pair_eq hu hx hy h
 quiet:=fun hk h=>pair_quiet hk h
end L2
namespace L2
open PySem PySem.Spec PyProof.Rows
section
variable {P:Program} {w:World} {H:Hp} {h:Heap} {a:Addr} {o:HO}
theorem ObjOk.any (x:ObjOk P w H h a o):∃ ob,h.get? a = some ob:=by
 cases o with
 | lst xs=>obtain ⟨_,_,_,_,q⟩:=x; exact ⟨_,q⟩
 | tup xs=>obtain ⟨_,_,_,ob,q,_⟩:=x; exact ⟨ob,q⟩
 | dK kvs=>obtain ⟨_,_,_,_,ob,_,_,q,_⟩:=x; exact ⟨ob,q⟩
 | dT kvs=>obtain ⟨_,_,_,_,ob,_,_,q,_⟩:=x; exact ⟨ob,q⟩
 | set S n=>obtain ⟨ob,_,_,_,q,_⟩:=x; exact ⟨ob,q⟩
 | ins C dx fs=>obtain ⟨_,_,_,q,_⟩:=x; exact ⟨_,q⟩
 | own y=>exact x
 | xd fs=>obtain ⟨_,⟨ob,_,_,q,_⟩,_⟩:=x; exact ⟨ob,q⟩
 | rng lo hi=>obtain ⟨_,_,_,q⟩:=x; exact ⟨_,q⟩
 | frz ob u=>obtain ⟨q,_⟩:=x; exact ⟨_,q⟩
 | tbl ps=>exact ⟨_,(show h.get? a = some _ from x)⟩
 | met f y=>exact ⟨_,(show h.get? a = some _ from x)⟩
 | ext φ=>exact x.2.1
end
inductive XAt (h:Heap) (x:Addr) (cls:Value) (od:Option Addr) (T:Addr) (fl:Value)  : Prop
 | mk (ox:Obj) (vs:Array Value) (a0:Value) (oT:Obj) (ts:Array Value) (_:h.get? x = some ox) (_:ox.cls = cls) (_:ox.dict = od) (_:ox.data = .fields vs) (_:vs[0]? = some a0) (_:vs[1]? = some (.ref T)) (_:T ≠ x) (_:h.get? T = some oT) (_:oT.data = .fields ts) (_:ts[3]? = some fl)
def XNew (h:Heap) (x:Addr) (cls:Value) (od:Option Addr):Prop :=
 ∃ ox vs a0,h.get? x = some ox∧ox.cls = cls∧ox.dict = od∧ox.data = .fields vs∧vs[0]? = some a0∧vs[1]? = some .none
inductive CXR (P:Program) (w:World) (outer:List Env) (H:Hp) (s:Shared) (E:XK) (e:Value) (s':Shared):Prop
 | mk (x:Addr) (cls:Value) (od:Option Addr) (T:Addr) (H':Hp) (_:e = .ref x) (_:s'.os = s.os) (_:AllBare s'.gens) (_:Un (frs outer) [] H H' s.heap s'.heap) (_:HOk P w H' s'.heap) (_:XAt s'.heap x cls od T .none) (_:s.heap.get? x = none) (_:s.heap.get? T = none) (_:H' x = none) (_:H' T = none) (_:E cls od H')
theorem funs_rebase {h b b':Heap}:∀ {l:List Env},h.FunFrames b l→(∀ z ∈ frs l,b'.get? z = none)→h.FunFrames b' l
 | [],_,_=>trivial
 | env :: r,⟨k,⟨L,o,hf,_,ho,hd⟩,hr⟩,n=>⟨k,⟨L,o,hf,n L (by unfold frs; rw [List.filterMap_cons,hf]; exact List.mem_cons_self),ho,hd⟩,
   funs_rebase hr fun z hz=>n z (by unfold frs; rw [List.filterMap_cons,hf]; exact List.mem_cons_of_mem _ hz)⟩
section
variable {X:Cx} {pins:List (Addr × Obj)} {σ:St} {H:Hp} {s:Shared} {x:Addr} {cls:Value} {od:Option Addr}
theorem Inv.no0 (I:Inv X pins σ H s) (hex:X.ex = []) {b:Addr} (n:s.heap.get? b = none):X.s_0.heap.get? b = none:=by
 cases q:X.s_0.heap.get? b with
 | none=>rfl
 | some o =>
  obtain ⟨o',q'⟩:=I.base.there b o q (by rw [hex]; simp)
  rw [n] at q'; cases q'
theorem Inv.noH (I:Inv X pins σ H s) {b:Addr} (n:s.heap.get? b = none):H b = none:=by
 cases q:H b with
 | none=>rfl
 | some o =>
  obtain ⟨o',q'⟩:=(I.hok b o q).any
  rw [n] at q'; cases q'
theorem behind {h':Heap} {T0 T:Addr} {a0 fl:Value} (I:Inv X pins σ H s) (hex:X.ex = [])
  (hx0:X.s_0.heap.get? x = none) (hx:H x = none) (hT0:X.s_0.heap.get? T0 = none) (hT:H T0 = none)
  (k1:(PySem.W.hideAll s.heap (x :: T0 :: frs X.stack)).StaysIn h') (k2:h'.FunFrames (PySem.W.hideAll s.heap (x :: T0 :: frs X.stack)) X.stack)
  (k3:h'.TracedAtW (PySem.W.hideAll s.heap (x :: T0 :: frs X.stack)) x cls a0 fl)
  (k4:∀ b o,s.heap.get? b = some o→(∀ vs,o.data ≠ .fields vs)→∃ sl,h'.get? b = some { o with slots:=sl })
  (kd:Kd s.heap h') (hd:∃ ox,s.heap.get? x = some ox∧ox.dict = od) :
  ∃ T,Un X.fs [] X.H_0 H X.s_0.heap h'∧Un (frs X.stack) [x,T0] H H s.heap h'∧HOk X.prog X.w H h'∧XAt h' x cls od T fl∧X.s_0.heap.get? T = none∧H T = none∧(s.heap.get? T = none ∨ T = T0):=by
 obtain ⟨oe,vs,T,oT,ts,e1,⟨c1,z0⟩,d1,z1,nT,neT,eT,dT,z3⟩:=k3
 have keepb:∀ b o,s.heap.get? b = some o→b ≠ x→b ≠ T0→b ∉ frs X.stack→h'.get? b = some o:=fun b o e h1 h2 h3 =>
  k1 b o (PySem.W.hideAll_get _ e fun z=>by
   rcases List.mem_cons.mp z with z | z
   ·exact h1 z
   ·rcases List.mem_cons.mp z with z | z
    ·exact h2 z
    ·exact h3 z)
 have nfr:T ∉ frs X.stack:=fun z=>by
  obtain ⟨_,o,ho,hnf⟩:=k2.mem z
  rw [eT] at ho; cases ho
  exact hnf ts dT
 have hTT:s.heap.get? T = none ∨ T = T0:=by
  cases q:s.heap.get? T with
  | none=>exact .inl rfl
  | some o =>
   by_cases h2:T = T0
   ·exact .inr h2
   ·have q2:=PySem.W.hideAll_get (x :: T0 :: frs X.stack) q (fun z=>by
     rcases List.mem_cons.mp z with z | z
     ·exact neT z
     ·rcases List.mem_cons.mp z with z | z
      ·exact h2 z
      ·exact nfr z)
    rw [nT] at q2; cases q2
 have trk:∀ b u,H b = some u→b ≠ x∧b ≠ T0∧b ∉ frs X.stack:=fun b u e =>
  ⟨fun z=>(by rw [z,hx] at e; cases e),fun z=>(by rw [z,hT] at e; cases e),fun z=>(by rw [I.stkFree b z] at e; cases e)⟩
 have old:∀ b o,X.s_0.heap.get? b = some o→b ≠ x∧b ≠ T0∧b ≠ X.env.locals:=fun b o e =>
  ⟨fun z=>(by rw [z,hx0] at e; cases e),fun z=>(by rw [z,hT0] at e; cases e),fun z=>(by rw [z,Heap.get?_none_of_le I.ok.above] at e; cases e)⟩
 have exn:∀ b:Addr,b ∉ X.ex:=fun b z=>by rw [hex] at z; exact absurd z (by simp)
 obtain ⟨ox,hox,hod⟩:=hd
 have hdict:oe.dict = od:=by
  obtain ⟨o',q1,_,q2⟩:=kd x ox hox
  rw [e1] at q1; cases q1
  exact q2.trans hod
 refine ⟨T,⟨fun b o e n hb _=>?_,fun b o e n hb _=>?_,fun b o e n _=>I.base.free b o e n (exn b),fun b o e _=>?_,I.base.tups,I.base.frzs,I.base.tbls⟩,
  ⟨fun b o e n hb hc=>?_,fun b o e n hb hc=>?_,fun b o e n _=>n,fun b o e hc=>?_,fun _ _ q=>q,fun _ _ _ q=>q,fun b ps q=>⟨#[],by rw [q]; simp⟩⟩,fun a o e=>?_,
  ⟨oe,vs,a0,oT,ts,e1,c1,hdict,d1,z0,z1,neT,eT,dT,z3⟩,?_,?_,hTT⟩
 ·obtain ⟨n1,n2,n3⟩:=old b o e
  exact keepb b o (I.base.keep b o e n hb (exn b)) n1 n2 fun z=>(List.mem_cons.mp (I.stkSub b z)).elim n3 hb
 ·obtain ⟨sl,q1⟩:=I.base.slot b o e n hb (exn b)
  obtain ⟨_,o2,q2,hnf⟩:=I.funs.mem hb
  rw [q1] at q2; cases q2
  obtain ⟨sl',q3⟩:=k4 b _ q1 hnf
  exact ⟨sl',q3⟩
 ·obtain ⟨n1,n2,n3⟩:=old b o e
  obtain ⟨o',q1⟩:=I.base.there b o e (exn b)
  by_cases z:b ∈ frs X.stack
  ·obtain ⟨_,o2,q2,hnf⟩:=I.stack.mem z
   rw [q1] at q2; cases q2
   obtain ⟨sl,q3⟩:=k4 b _ q1 hnf
   exact ⟨_,q3⟩
  ·exact ⟨o',keepb b o' q1 n1 n2 z⟩
 ·exact keepb b o e (fun z=>hc (by simp [z])) (fun z=>hc (by simp [z])) hb
 ·obtain ⟨_,o2,q2,hnf⟩:=I.stack.mem hb
  rw [e] at q2; cases q2
  exact k4 b _ e hnf
 ·by_cases z:b ∈ frs X.stack
  ·obtain ⟨_,o2,q2,hnf⟩:=I.stack.mem z
   rw [e] at q2; cases q2
   obtain ⟨sl,q3⟩:=k4 b _ e hnf
   exact ⟨_,q3⟩
  ·exact ⟨o,keepb b o e (fun z=>hc (by simp [z])) (fun z=>hc (by simp [z])) z⟩
 ·exact (I.hok a o e).stay (fun b u hb q=>by
   have hu:∃ u',H b = some u':=hb.elim (fun z=>⟨o,by rw [z]; exact e⟩) fun z=>⟨_,z⟩
   obtain ⟨u',hu⟩:=hu
   obtain ⟨n1,n2,n3⟩:=trk b u' hu
   exact keepb b u q n1 n2 n3) (fun _ q=>q) fun _ _ q=>q
 ·rcases hTT with z | z
  ·exact I.no0 hex z
  ·rw [z]; exact hT0
 ·rcases hTT with z | z
  ·exact I.noH z
  ·rw [z]; exact hT
theorem leave_core {E:Value→Shared→Prop} {Q:Unit→Shared→Prop} (I:Inv X pins σ H s) (hs:X.stack = X.env :: X.outer) (hf:X.env.frame = some X.env.locals) (hex:X.ex = [])
  (hx0:X.s_0.heap.get? x = none) (hx:H x = none)
  (st:XNew s.heap x cls od ∨ ∃ T,XAt s.heap x cls od T .none∧X.s_0.heap.get? T = none∧H T = none)
  (q:∀ h' T,Un X.fs [] X.H_0 H X.s_0.heap h'→HOk X.prog X.w H h'→XAt h' x cls od T .none→X.s_0.heap.get? T = none→H T = none→Q () { s with heap:=h' }) :
  wpAny (model X.prog X.w) X.A (leaving X.env (.ref x)) Q E s:=by
 have hfr:X.A.frames = some (X.env :: X.outer):=by rw [← hs]; exact I.ok.frames
 have fl:=I.stack
 rcases st with ⟨ox,vs,a0,e1,c1,d1,f1,z0,z1⟩ | ⟨T0,⟨ox,vs,a0,oT,ts,e1,c1,d1,f1,z0,z1,ne,e2,f2,z3⟩,hT0,hT⟩
 ·have hl:s.heap.FunFrames (PySem.W.hideAll s.heap (x :: x :: frs X.stack)) (X.env :: X.outer):=by
   rw [← hs]; exact funs_rebase fl fun z hz=>PySem.W.hideAll_none _ (List.mem_cons_of_mem _ (List.mem_cons_of_mem _ hz))
  have hkb:(PySem.W.hideAll s.heap (x :: x :: frs X.stack)).StaysIn s.heap:=fun b o q=>PySem.W.of_hideAll _ q
  have hen:(PySem.W.hideAll s.heap (x :: x :: frs X.stack)).get? x = none:=PySem.W.hideAll_none _ List.mem_cons_self
  refine thn ((kd_leaving X.env (.ref x)).any (wpAny_leaving_firstW (E:=E) (Q:=fun _ s'=>∃ h',s' = { s with heap:=h' }∧Heap.LeftW (PySem.W.hideAll s.heap (x :: x :: frs X.stack)) (X.env :: X.outer) x ox.cls a0 s.heap h') hfr hl hf e1 hkb hen f1 z1 z0 fun h' L=>⟨h',rfl,L⟩)) ?_
  rintro _ _ ⟨⟨h',rfl,k1,k2,k3,k4⟩,kd⟩
  rw [c1] at k3
  rw [← hs] at k2
  obtain ⟨T,u,_,ok,xa,n1,n2,_⟩:=behind (T0:=x) (od:=od) (T:=x) I hex hx0 hx hx0 hx k1 k2 k3 k4 kd ⟨ox,e1,d1⟩
  exact q h' T u ok xa n1 n2
 ·have hl:s.heap.FunFrames (PySem.W.hideAll s.heap (x :: T0 :: frs X.stack)) (X.env :: X.outer):=by
   rw [← hs]; exact funs_rebase fl fun z hz=>PySem.W.hideAll_none _ (List.mem_cons_of_mem _ (List.mem_cons_of_mem _ hz))
  have hkb:(PySem.W.hideAll s.heap (x :: T0 :: frs X.stack)).StaysIn s.heap:=fun b o q=>PySem.W.of_hideAll _ q
  have hen:(PySem.W.hideAll s.heap (x :: T0 :: frs X.stack)).get? x = none:=PySem.W.hideAll_none _ List.mem_cons_self
  have hnT:(PySem.W.hideAll s.heap (x :: T0 :: frs X.stack)).get? T0 = none:=PySem.W.hideAll_none _ (List.mem_cons_of_mem _ List.mem_cons_self)
  have ht:s.heap.TracedW (PySem.W.hideAll s.heap (x :: T0 :: frs X.stack)) x cls a0:=⟨ox,vs,T0,oT,ts,e1,⟨c1,z0⟩,f1,z1,hnT,ne,e2,f2,z3⟩
  refine thn ((kd_leaving X.env (.ref x)).any (wpAny_leaving_nextW (E:=E) (Q:=fun _ s'=>∃ h',s' = { s with heap:=h' }∧Heap.LeftW (PySem.W.hideAll s.heap (x :: T0 :: frs X.stack)) (X.env :: X.outer) x cls a0 s.heap h') hfr hl hf ht hkb hen fun h' L=>⟨h',rfl,L⟩)) ?_
  rintro _ _ ⟨⟨h',rfl,k1,k2,k3,k4⟩,kd⟩
  rw [← hs] at k2
  obtain ⟨T,u,_,ok,xa,n1,n2,_⟩:=behind (T0:=T0) (od:=od) (T:=x) I hex hx0 hx hT0 hT k1 k2 k3 k4 kd ⟨ox,e1,d1⟩
  exact q h' T u ok xa n1 n2
end
section
variable {P:Program} {w:World} {K:PySem.W.Frag} {mg:Str→Option Value} {base:Heap} {N:List Str} {qual:Str} {scope:Scope} {f:Addr} {cd:Value} {A:Around} {outer:List Env} {s:Shared} {H:Hp} {E:XK}
theorem raised_here {pins:List (Addr × Obj)} {σ:St} {H1:Hp} {s1:Shared} {x:Addr} {cls:Value} {od:Option Addr} (I:Inv (cxOf (CXR P w) P w K mg base N qual scope f cd A outer s H E) pins σ H1 s1)
  (hx0:s.heap.get? x = none) (hx:H1 x = none) (n:XNew s1.heap x cls od) (hE:E cls od H1):(cxOf (CXR P w) P w K mg base N qual scope f cd A outer s H E).xe (.ref x) s1 :=
 leave_core I rfl rfl rfl hx0 hx (.inl n) fun h' T a b c d e=>⟨x,cls,od,T,H1,rfl,I.os,I.bare,a,b,c,hx0,d,hx,e,hE⟩
theorem passR:Passes (CXR P w) (cxOf (CXR P w) P w K mg base N qual scope f cd A outer s H E) E:=by
 rintro pins σ H1 s1 e s' I ⟨x,cls,od,T,H',rfl,ho,bare,un,hok,xa,nx,nT,hx,hT,hE⟩
 have I':Inv (cxOf (CXR P w) P w K mg base N qual scope f cd A outer s H E) pins σ H' s':=I.call' (ch:=[]) ho un hok bare fun b z=>absurd z (by simp)
 have nx0:s.heap.get? x = none:=I.no0 rfl nx
 have nT0:s.heap.get? T = none:=I.no0 rfl nT
 exact leave_core I' rfl rfl rfl nx0 hx (.inr ⟨T,xa,nT0,hT⟩) fun h' T' a b c d e=>⟨x,cls,od,T',H',rfl,I'.os,I'.bare,a,b,c,nx0,d,hx,e,hE⟩
theorem ownR:PassesOwn (model P w) (cxOf (CXR P w) P w K mg base N qual scope f cd A outer s H E).A (cxOf (CXR P w) P w K mg base N qual scope f cd A outer s H E).env (cxOf (CXR P w) P w K mg base N qual scope f cd A outer s H E).xe :=
 PassesOwn.leaving
end
abbrev xBm:List Value:=[.type "Exception",.type "BaseException",.type "object"]
structure XCls (K:PySem.W.Frag) (C N:Addr):Prop where
 ob:∃ nm q bs sn sub ab col dd k0 k1 k2 k3 k5,K.lookup C = some (excClassObj nm q C N bs xBm true sn sub ab col dd k0 k1 k2 k3 k5 "Exception.__new__")
 ns:PySem.W.nsOkIn K N = true
 kp:PySem.W.keepIn K (.ref C) = true
def NoX (K:PySem.W.Frag) (N:Addr) (f:Str):Prop:=PySem.W.nsIn K N f = some none
theorem XCls.map {K:PySem.W.Frag} {C N:Addr} (c:XCls K C N) {h:Heap} (X:K.In h):h.Ns N (h.nsMap N):=.of_isNs (PySem.W.isNs_of_in X c.ns)
theorem XCls.no {K:PySem.W.Frag} {C N:Addr} (c:XCls K C N) {h:Heap} (X:K.In h) {f:Str} (n:NoX K N f):h.nsMap N f = none:=PySem.W.nsMap_none_of_in X c.ns n
theorem ns_yes {K:PySem.W.Frag} {h:Heap} {N:Addr} {m:Str→Option Value} {n:Str} {v:Value} (X:K.In h) (G:h.Ns N m) (e:PySem.W.nsIn K N n = some (some v)):m n = some v:=by
 obtain ⟨o,es,ep,q1,q2,_,q3⟩:=G
 unfold PySem.W.nsIn at e
 split at e
 ·rename_i c d es' n' sl q
  have z:=X _ _ q
  rw [q1] at z
  cases z
  cases q2
  split at e
  ·rename_i en hen
   cases e
   rw [← q3]
   unfold nsFind findBy
   rw [← Array.find?_toList,hen]
   rfl
  ·split at e <;> cases e
 ·cases e
theorem XCls.has {K:PySem.W.Frag} {C N:Addr} (c:XCls K C N) {h:Heap} (X:K.In h) {f:Str} {v:Value} (n:PySem.W.nsIn K N f = some (some v)):h.nsMap N f = some v:=ns_yes X (c.map X) n
section
open Builtin Builtin.ObjectAttr
variable {prog:Program} {w:World} {A:Around} {E:Value→Shared→Prop} {h:Heap} {g:Array GenState} {d:Drawn} {t:Nat} {os:OsState}
variable {nm q:Str} {C N x:Addr} {bs:List Value} {sn:List Str} {sub:List Value} {ab:Bool} {col:Option Bool} {dd:Option Addr} {k0 k1 k2 k3 k5:Option Value} {newId:String} {mN:Str→Option Value} {name:Str} {v:Value} {ox:Obj}
theorem first_entry {tk:Tok} {Q:Fin→Shared→Prop} {sa owner:String} (SF:StoreFacts "Exception" xBm sa owner) (oC:h.get? C = some (excClassObj nm q C N bs xBm true sn sub ab col dd k0 k1 k2 k3 k5 newId)) (oN:h.Ns N mN) (na:mN name = none)
  (lB:typeLookup (.type "Exception") name = pure none) (oX:h.get? x = some ox) (cX:ox.cls = .ref C) (dX:∀ c,ox.data ≠ .cls c) (iX:ox.dict = none)
  (k:∀ h' tk',h'.Ns1 h.objs.size (fun y=>if y = name then some v else none)→h'.get? x = some { cls:=ox.cls,dict:=some h.objs.size,data:=ox.data,slots:=ox.slots } →
   (∀ b o,b ≠ x→h.get? b = some o→h'.get? b = some o)→Q (.done (.ret .none)) ⟨h',g,d,tk',os⟩) :
  wpAny (model prog w) A (Builtin.«object.__setattr__» ⟨[.ref x,.str name tk,v],[]⟩) Q E ⟨h,g,d,t,os⟩:=by
 have pa:=SF.passes (.ref x)
 unfold Builtin.«object.__setattr__»
 repeat (first
  | rw [refuse_eq]
  | rw [refuseLoop_ref,pa]
  | (with_reducible refine wpAny_loadPart_at oX ?_; rw [cX])
  | with_reducible refine wpAny_mroOf_exc oC ?_
  | (with_reducible refine wpAny_typeLookup_exc oC oN SF.mro lB ?_; rw [na])
  | wp_step)
 rw [iX,if_neg (by simp [typeHasDict])]
 split
 ·rename_i z
  cases z
 split
 ·rename_i c z
  exact absurd z (dX c)
 ·have o1:(h.push { cls:=.type "dict",data:=.dict #[] }).get? x = some ox:=Heap.get?_push_of_some _ oX
  have ne:x ≠ h.objs.size:=Nat.ne_of_lt (Heap.lt_size oX)
  refine wpAny_bind (wpAny_alloc' (wpAny_bind (wpAny_update' o1 (wpAny_pure ?_))))
  have o2:((h.push { cls:=.type "dict",data:=.dict #[] }).update x fun o=>{ cls:=o.cls,dict:=some h.objs.size,data:=o.data,slots:=o.slots }).get? h.objs.size
    = some { cls:=.type "dict",data:=.dict #[] }:=(Heap.get?_update_ne _ _ _ _ ne.symm).trans (Heap.get?_push_at rfl rfl)
  have n2:((h.push { cls:=.type "dict",data:=.dict #[] }).update x fun o=>{ cls:=o.cls,dict:=some h.objs.size,data:=o.data,slots:=o.slots }).Ns h.objs.size (fun _=>none) :=
   ⟨_,#[],_,o2,rfl,fun _ z=>absurd z (by simp),fun _=>rfl⟩
  show wpAny _ _ (storeInDict h.objs.size (.str name tk) name v) _ _ _
  unfold storeInDict newKeyGuard
  refine wpAny_bind (wpAny_pure (wpAny_bind (wpAny_nsSet1 (Heap.Ns1.of_empty n2) fun h' n3 sb=>?_)))
  obtain ⟨oD,esD,epD,q1,q2,q3⟩:=n3.count (Within.cons name v Within.nil)
  refine wpAny_bind (wpAny_lookBehind q1 (by rw [q2]; exact pastItsLine_dict (Nat.le_trans q3 (by rw [List.length_cons,List.length_nil,sizeLine_eq]; omega))) ?_)
  wp_walk
  refine k h' _ n3 ?_ fun b ob bx e=>?_
  ·refine (sb.2 x ne).trans (Heap.get?_update_self _ o1 ?_)
   have fr:=(Heap.get?_some_iff.mp oX).2
   obtain ⟨oc,od,odt,osl⟩:=ox
   cases odt <;> first | rfl | exact fr
  ·exact (sb.2 b (Nat.ne_of_lt (Heap.lt_size e))).trans ((Heap.get?_update_ne _ _ _ _ bx).trans (Heap.get?_push_of_some _ e))
theorem first_attr {Q:Unit→Shared→Prop} {sa owner:String} (SF:StoreFacts "Exception" xBm sa owner) (oC:h.get? C = some (excClassObj nm q C N bs xBm true sn sub ab col dd k0 k1 k2 k3 k5 newId)) (oN:h.Ns N mN) (ns:mN "__setattr__" = none) (na:mN name = none)
  (lB:typeLookup (.type "Exception") name = pure none) (oX:h.get? x = some ox) (cX:ox.cls = .ref C) (dX:∀ c,ox.data ≠ .cls c) (iX:ox.dict = none)
  (k:∀ h' tk',h'.Ns1 h.objs.size (fun y=>if y = name then some v else none)→h'.get? x = some { cls:=ox.cls,dict:=some h.objs.size,data:=ox.data,slots:=ox.slots } →
   (∀ b o,b ≠ x→h.get? b = some o→h'.get? b = some o)→Q () ⟨h',g,d,tk',os⟩) :
  wpAny (model prog w) A (setAttr (.ref x) name v) Q E ⟨h,g,d,t,os⟩:=by
 have f3:=SF.slot.bind (.ref x)
 unfold setAttr callSpecial? specialOf
 repeat (any_goals (first
  | assumption
  | (with_reducible refine wpAny_loadPart_at oX ?_; rw [cX])
  | (with_reducible refine wpAny_typeLookup_exc oC oN SF.mro SF.slot.lookup ?_; rw [ns])
  | wp_step))
 refine codeAny_call_builtin SF.slot.plain SF.entry (wpAny_check_sa SF oC oX cX (first_entry SF oC oN na lB oX cX dX iX fun h' tk' a1 a2 a3=>?_))
 repeat (any_goals (first | assumption | wp_step))
 exact k h' tk' a1 a2 a3
theorem load_x (FB:ExcAttrBase "Exception" xBm) {expr:Bool} {dx:Addr} {mA:Str→Option Value} {Q:Value→Shared→Prop} (oC:h.get? C = some (excClassObj nm q C N bs xBm true sn sub ab col dd k0 k1 k2 k3 k5 newId)) (oN:h.Ns N mN)
  (g1:mN "__getattribute__" = none) (g2:mN "__getattr__" = none) (na:mN name = none) (lB:typeLookup (.type "Exception") name = pure none)
  (oX:h.get? x = some ox) (cX:ox.cls = .ref C) (dX:∀ c,ox.data ≠ .cls c) (iX:ox.dict = some dx) (nX:h.Ns1 dx mA) (vX:mA name = some v) (hv:handedOut v = pure v) (k:Q v ⟨h,g,d,t + 1,os⟩) :
  wpAny (model prog w) A (getAttr (.ref x) name expr) Q E ⟨h,g,d,t,os⟩:=by
 have f3:=FB.ga.bind (.ref x)
 have hx0:(expr && onTheHeap (Value.builtin "BaseException.__getattribute__")) = false:=by cases expr <;> rfl
 have hx2:(Value.builtin "BaseException.__getattribute__" == Value.builtin "object.__getattribute__") = false:=by decide +kernel
 have hx1:(onTheHeap (Value.ref C) && Value.builtin "BaseException.__getattribute__" == Value.builtin "object.__getattribute__") = false:=by rw [hx2]; rfl
 have hk:builtinKind "BaseException.__getattribute__" = some .slot:=by decide +kernel
 have hsp:splitId "BaseException.__getattribute__" = some ("BaseException","__getattribute__"):=by decide +kernel
 have hcB:(Value.ref C :: xBm).contains (.type "BaseException") = true:=by rw [List.contains_cons]; rfl
 unfold getAttr
 repeat (any_goals (first
  | assumption
  | (with_reducible refine wpAny_loadPart_at oX ?_; rw [cX])
  | (with_reducible refine wpAny_typeLookup_exc oC oN FB.mro FB.ga.lookup ?_; rw [g1])
  | (with_reducible refine wpAny_typeLookup_exc oC oN FB.mro FB.noGetattr ?_; rw [g2])
  | wp_step))
 refine codeAny_call_builtin FB.ga.plain PySem.F.entry_bexc_ga (wpAny_check_ga_own FB oC .base oX cX ?_)
 unfold Builtin.«object.__getattribute__»
 repeat (any_goals (first
  | assumption
  | (with_reducible refine wpAny_loadPart_at oX ?_; rw [cX])
  | (with_reducible refine wpAny_typeLookup_exc oC oN FB.mro lB ?_; rw [na])
  | wp_step))
 split
 ·rename_i c z
  exact absurd z (dX c)
 unfold instanceDict
 repeat (first
  | (with_reducible refine wpAny_loadPart_at oX ?_; rw [cX])
  | with_reducible refine wpAny_loadPart_at oC ?_
  | wp_step)
 rw [iX]
 repeat (first
  | (with_reducible refine wpAny_nsGet nX.ns ?_; rw [vX])
  | wp_step)
 exact k
end
def X0 (x C:Addr):HO:=.ext fun h=>∃ t,h.get? x = some { cls:=.ref C,data:=.fields #[.ref t,.none,.none,.none,.bool false,.none] }
def X1 (x C d:Addr):HO:=.ext fun h=>∃ t,h.get? x = some { cls:=.ref C,dict:=some d,data:=.fields #[.ref t,.none,.none,.none,.bool false,.none] }
def XD (d:Addr) (fs:List (Str × V)):HO:=.ext fun h=>∃ mA,h.Ns1 d mA∧(∀ f,RelO (fs.lookup f) (mA f))∧PySem.Within mA (fs.map (·.1))
section
variable {P:Program} {w:World} {H:Hp} {h:Heap} {x C d t:Addr} {fs:List (Str × V)}
theorem x0_ok (e:h.get? x = some { cls:=.ref C,data:=.fields #[.ref t,.none,.none,.none,.bool false,.none] }):ObjOk P w H h x (X0 x C) :=
 ⟨⟨t,e⟩,⟨_,e⟩,fun _ _ ⟨t',q⟩ k=>⟨t',k _ q⟩⟩
theorem x1_ok (e:h.get? x = some { cls:=.ref C,dict:=some d,data:=.fields #[.ref t,.none,.none,.none,.bool false,.none] }):ObjOk P w H h x (X1 x C d) :=
 ⟨⟨t,e⟩,⟨_,e⟩,fun _ _ ⟨t',q⟩ k=>⟨t',k _ q⟩⟩
theorem xd_ok {mA:Str→Option Value} (n:h.Ns1 d mA) (r:∀ f,RelO (fs.lookup f) (mA f)) (wi:PySem.Within mA (fs.map (·.1))):ObjOk P w H h d (XD d fs) :=
 ⟨⟨mA,n,r,wi⟩,(let ⟨o,_,_,q,_⟩:=n; ⟨o,q⟩),fun _ _ ⟨mB,⟨o,es,ep,q,z⟩,y⟩ k=>⟨mB,⟨o,es,ep,k _ q,z⟩,y⟩⟩
end
section
variable {X:Cx} {pins:List (Addr × Obj)} {σ:St} {H:Hp} {s:Shared} {h':Heap} {t':Nat} {a d:Addr}
theorem Inv.laidN {o:HO} (I:Inv X pins σ H s) (k:∀ b u,s.heap.get? b = some u→h'.get? b = some u) (hn:s.heap.get? a = none) (new:ObjOk X.prog X.w (upd H a o) h' a o) :
  Inv X pins σ (upd H a o) { s with heap:=h',toks:=t' }:=by
 have ha:=I.noH hn
 have ne:∀ b u,s.heap.get? b = some u→b ≠ a:=fun b u e z=>by rw [z,hn] at e; cases e
 refine I.un ⟨fun b u e _ _ _=>k b u e,fun b u e _ _ _=>⟨u.slots,k b u e⟩,fun b u e n _=>by rw [upd_ne (ne b u e)]; exact n,fun b u e _=>⟨u,k b u e⟩,
  fun b xs q=>by rw [upd_ne (ne_of_none q ha)]; exact q,fun b u xs q=>by rw [upd_ne (ne_of_none q ha)]; exact q,fun b ps q=>⟨#[],by rw [upd_ne (ne_of_none q ha),q]; simp⟩⟩ fun b u e=>?_
 by_cases hb:b = a
 ·subst hb; rw [upd_same] at e; cases e; exact new
 ·rw [upd_ne hb] at e
  exact (I.hok b u e).stay (fun c v _ q=>k c v q) (fun c q=>by rw [upd_ne (ne_of_none q ha)]; exact q) fun c xs q=>by rw [upd_ne (ne_of_none q ha)]; exact q
def dropH (H:Hp) (a:Addr):Hp:=fun b=>if b = a then none else H b
theorem drop_same (H:Hp) (a:Addr):dropH H a a = none:=by unfold dropH; rw [if_pos rfl]
theorem drop_ne {H:Hp} {a b:Addr} (h:b ≠ a):dropH H a b = H b:=by unfold dropH; rw [if_neg h]
theorem Inv.drop {φ:Heap→Prop} (I:Inv X pins σ H s) (e:H a = some (.ext φ)) (hn:X.s_0.heap.get? a = none):Inv X pins σ (dropH H a) s:=by
 have no:∀ b u,H b = some u→(∀ ψ,u ≠ .ext ψ)→b ≠ a:=fun b u q n z=>by rw [z,e] at q; cases q; exact n φ rfl
 have sub:∀ b,H b = none→dropH H a b = none:=fun b n=>by
  by_cases z:b = a
  ·rw [z]; exact drop_same H a
  ·rw [drop_ne z]; exact n
 refine ⟨I.ok,I.os,I.bare,⟨I.base.keep,I.base.slot,fun b o q n hx=>sub b (I.base.free b o q n hx),I.base.there,fun b xs q=>?_,fun b o u q=>?_,fun b ps q=>?_⟩,I.loc,I.cell,sub _ I.free,fun y c q=>sub _ (I.freeC y c q),
  fun p hp=>let ⟨p1,p2,p3⟩:=I.pin p hp; ⟨p1,sub _ p2,p3⟩,fun b o q=>?_,I.len⟩
 ·have z:=I.base.tups b xs q
  rw [drop_ne (no b _ z fun _ y=>by cases y)]; exact z
 ·have z:=I.base.frzs b o u q
  rw [drop_ne (no b _ z fun _ y=>by cases y)]; exact z
 ·obtain ⟨m,z⟩:=I.base.tbls b ps q
  exact ⟨m,by rw [drop_ne (no b _ z fun _ y=>by cases y)]; exact z⟩
 ·have hb:b ≠ a:=fun z=>by rw [z,drop_same] at q; cases q
  rw [drop_ne hb] at q
  exact (I.hok b o q).stay (fun c v _ z=>z) (fun c z=>by rw [drop_ne (no c _ z fun _ y=>by cases y)]; exact z) fun c xs z=>by rw [drop_ne (no c _ z fun _ y=>by cases y)]; exact z
theorem Inv.xput {φ:Heap→Prop} {o1 o2:HO} (I:Inv X pins σ H s) (ea:H a = some (.ext φ)) (hn:s.heap.get? d = none) (k:∀ b u,b ≠ a→s.heap.get? b = some u→h'.get? b = some u) (hx:∃ u,h'.get? a = some u)
  (n1:ObjOk X.prog X.w (upd (upd H d o2) a o1) h' a o1) (n2:ObjOk X.prog X.w (upd (upd H d o2) a o1) h' d o2):Inv X pins σ (upd (upd H d o2) a o1) { s with heap:=h',toks:=t' }:=by
 have hd:=I.noH hn
 have no:∀ b u,H b = some u→(∀ ψ,u ≠ .ext ψ)→b ≠ a:=fun b u q n z=>by rw [z,ea] at q; cases q; exact n φ rfl
 have nn:∀ b,H b = none→b ≠ a:=fun b n z=>by rw [z,ea] at n; cases n
 have up:∀ b u,H b = some u→(∀ ψ,u ≠ .ext ψ)→upd (upd H d o2) a o1 b = some u:=fun b u q n=>by
  rw [upd_ne (no b u q n),upd_ne (ne_of_none q hd)]; exact q
 refine I.un ⟨fun b u e n _ _=>k b u (nn b n) e,fun b u e n _ _=>⟨u.slots,k b u (nn b n) e⟩,fun b u e n _=>?_,fun b u e _=>?_,fun b xs q=>up b _ q fun _ y=>(by cases y),fun b o u q=>up b _ q fun _ y=>(by cases y),
  fun b ps q=>⟨#[],by rw [up b _ q fun _ y=>(by cases y)]; simp⟩⟩ fun b u e=>?_
 ·rw [upd_ne (nn b n),upd_ne fun z=>by rw [z,hn] at e; cases e]; exact n
 ·by_cases z:b = a
  ·rw [z]; exact hx
  ·exact ⟨u,k b u z e⟩
 ·by_cases z:b = a
  ·subst z; rw [upd_same] at e; cases e; exact n1
  ·rw [upd_ne z] at e
   by_cases y:b = d
   ·subst y; rw [upd_same] at e; cases e; exact n2
   ·rw [upd_ne y] at e
    refine (I.hok b u e).stay (fun c v hc q=>k c v ?_ q) (fun c q=>up c _ q fun _ y=>(by cases y)) fun c xs q=>up c _ q fun _ y=>(by cases y)
    rcases hc with rfl | hc
    ·exact z
    ·exact no c _ hc fun _ y=>by cases y
end
section
variable {X:Cx} {o value:Expr} {f:Str} {pos pos':Pos} {ta tv:TE} {C N:Addr}
def sX0 (C:Addr) (f:Str) (ta tv:TE):TS:=fun D σ H=>tv σ H fun y H1=>ta σ H1 fun x H2=>∃ a,x = .ref a∧H2 a = some (X0 a C)∧∀ d,H2 d = none→d ≠ a→D.nx σ (upd (upd H2 d (XD d [(f,y)])) a (X1 a C d))
def sX1 (C:Addr) (f:Str) (ta tv:TE):TS:=fun D σ H=>tv σ H fun y H1=>ta σ H1 fun x H2=>∃ a d fs,x = .ref a∧H2 a = some (X1 a C d)∧H2 d = some (XD d fs)∧d ≠ a∧fs.length < 1000∧D.nx σ (upd H2 d (XD d (putF f y fs)))
theorem ps_x0 (c:XCls X.K C N) (n1:NoX X.K N "__setattr__") (n2:NoX X.K N f) (lB:typeLookup (.type "Exception") f = pure none) (ha:PE X o ta) (hv:PE X value tv)
  (hs:swapsWith value (some (.Attribute o f pos')) pos.line X.env = pure false):PS X (.Assign [.Attribute o f pos'] value pos) (sX0 C f ta tv):=by
 intro pins s σ H D I h
 refine plainObj_wpAny_Assign_Attribute (thn (hv pins s σ H _ I h) fun u s1 ⟨y,H1,I1,ry,q⟩=>thn (ha pins s1 σ H1 _ I1 q) fun ov s2 ⟨x,H2,I2,rx,a,ex,ea,q2⟩=>?_) hs
 subst ex
 obtain rfl:ov = Value.ref a:=rx
 obtain ⟨⟨t,oX⟩,_,_⟩:=I2.hok a _ ea
 obtain ⟨nm,q0,bs,sn,sub,ab,col,dd,k0,k1,k2,k3,k5,lk⟩:=c.ob
 obtain ⟨hp,g,dr,tk,os⟩:=s2
 have ne:hp.objs.size ≠ a:=Nat.ne_of_gt (Heap.lt_size oX)
 refine first_attr PySem.F.store_Exception (I2.kIn _ _ lk) (c.map I2.kIn) (c.no I2.kIn n1) (c.no I2.kIn n2) lB oX rfl (fun _ z=>by cases z) rfl fun h' tk' n3 o3 kp=>?_
 have hnone:hp.get? hp.objs.size = none:=Heap.get?_none_of_le (Nat.le_refl _)
 have w3:PySem.Within (fun y=>if y = f then some u else none) ([(f,y)].map (·.1)):=fun g hg=>by
  by_cases z:g = f
  ·simp [z]
  ·exact absurd (if_neg z) hg
 have r3:∀ g,RelO (([(f,y)]:List (Str × V)).lookup g) (if g = f then some u else none):=fun g=>by
  by_cases z:g = f
  ·subst z
   simp only [List.lookup,beq_self_eq_true,if_true]
   exact ry
  ·have hb:(g == f) = false:=beq_eq_false_iff_ne.mpr z
   simp only [List.lookup,hb,if_neg z]
   trivial
 exact ⟨σ,_,I2.xput (s:=⟨hp,g,dr,tk,os⟩) (t':=tk') ea hnone kp ⟨_,o3⟩ (x1_ok o3) (xd_ok n3 r3 w3),q2 _ (I2.noH (s:=⟨hp,g,dr,tk,os⟩) hnone) ne⟩
theorem ps_x1 (c:XCls X.K C N) (n1:NoX X.K N "__setattr__") (n2:NoX X.K N f) (lB:typeLookup (.type "Exception") f = pure none) (ha:PE X o ta) (hv:PE X value tv)
  (hs:swapsWith value (some (.Attribute o f pos')) pos.line X.env = pure false):PS X (.Assign [.Attribute o f pos'] value pos) (sX1 C f ta tv):=by
 intro pins s σ H D I h
 refine plainObj_wpAny_Assign_Attribute (thn (hv pins s σ H _ I h) fun u s1 ⟨y,H1,I1,ry,q⟩=>thn (ha pins s1 σ H1 _ I1 q) fun ov s2 ⟨x,H2,I2,rx,a,d,fs,ex,ea,ed,ne,hl,q2⟩=>?_) hs
 subst ex
 obtain rfl:ov = Value.ref a:=rx
 obtain ⟨⟨t,oX⟩,_,_⟩:=I2.hok a _ ea
 obtain ⟨⟨mA,nD,rD,wD⟩,_,_⟩:=I2.hok d _ ed
 obtain ⟨nm,q0,bs,sn,sub,ab,col,dd,k0,k1,k2,k3,k5,lk⟩:=c.ob
 obtain ⟨hp,g,dr,tk,os⟩:=s2
 have hC:=I2.kIn _ _ lk
 have xC:a ≠ C:=fun z=>by
  rw [z] at oX
  have w:=oX.symm.trans hC
  cases w
 refine store_attr PySem.F.store_Exception hC (c.map I2.kIn) (c.no I2.kIn n1) (c.no I2.kIn n2) lB xC ⟨_,oX,rfl,(fun _ z=>by cases z),.inr ⟨d,rfl,ne,nD⟩⟩ (fun h' tk' In kp ob=>?_) wD (by rw [List.length_map,sizeLine_eq]; omega)
 obtain ⟨o1,e1,c1,d1,s1',dd1⟩:=ob _ oX
 obtain ⟨o2,e2,c2,_,dn⟩:=In
 have e12:o1 = o2:=Option.some.inj (e1.symm.trans e2)
 have hdx:o1.dict = some d:=dd1 d rfl
 have oX':h'.get? a = some { cls:=.ref C,dict:=some d,data:=.fields #[.ref t,.none,.none,.none,.bool false,.none] }:=by
  rw [e1]
  obtain ⟨oc,od,odt,osl⟩:=o1
  cases c1; cases d1; cases s1'; cases hdx
  rfl
 have nD':h'.Ns1 d (fun y'=>if y' = f then some u else mA y'):=by
  rcases dn with ⟨z,_⟩ | ⟨d',z,_,nn⟩
  ·rw [← e12,hdx] at z; cases z
  ·rw [← e12,hdx] at z; cases z; exact nn
 have kk:∀ b ob,b ≠ d→hp.get? b = some ob→h'.get? b = some ob:=fun b ob hb e=>by
  by_cases z:b = a
  ·rw [z] at e ⊢
   rw [oX] at e; cases e
   exact oX'
  ·exact kp b ob z (fun o0 dx q1 q2=>by rw [oX] at q1; cases q1; cases q2; exact hb) e
 have hd:∃ ob,h'.get? d = some ob:=let ⟨ob,_,_,z,_⟩:=nD'; ⟨ob,z⟩
 refine ⟨σ,_,I2.write (s:=⟨hp,g,dr,tk,os⟩) (t':=tk') (x:=d) (e:=d) (by rw [ed]; exact True.intro) (.inl rfl) kk hd (xd_ok nD' (fun g=>?_) fun g hg=>?_),q2⟩
 ·show RelO ((putF f y fs).lookup g) (if g = f then some u else mA g)
  rw [lookup_putF]
  by_cases z:g = f
  ·rw [if_pos z,if_pos z]; exact ry
  ·rw [if_neg z,if_neg z]; exact rD g
 ·by_cases z:g = f
  ·rw [z]; exact (keys_putF f y fs).1
  ·refine (keys_putF f y fs).2 g (wD g fun z2=>hg ?_)
   show (if g = f then some u else mA g) = none
   rw [if_neg z]; exact z2
end
theorem passF {P:Program} {w:World} {X:Cx}:Passes (CXR P w) X (fun _ _ _=>False):=fun _ _ _ _ _ _ _ ⟨_,_,_,_,_,_,_,_,_,_,_,_,_,_,_,h⟩=>h.elim
def eqVb:V→Value→Bool
 | .int i,u=>Value.isInt i u
 | .ref a,u=>u == .ref a
 | _,_=>false
theorem eqVb_rel:∀ {v:V} {u:Value},eqVb v u = true→RelV v u
 | .int i,u,h=>Value.isInt_shape (k:=i) (v:=u) h
 | .ref a,u,h=>beq_iff_eq.mp h
 | .non,_,h=>by cases h
 | .bl _,_,h=>by cases h
 | .str _,_,h=>by cases h
 | .byt _,_,h=>by cases h
 | .flt _,_,h=>by cases h
 | .ty _,_,h=>by cases h
def kdChk:List (Int × V)→List DictEntry→Bool
 | [],[]=>true
 | (k,v) :: r,e :: es=>Value.isInt k e.key && (e.hash == hashInt k) && eqVb v e.val && kdChk r es
 | _,_=>false
structure KD (K:PySem.W.Frag) (a:Addr) (kvs:List (Int × V)):Prop where
 at_:∃ es ep,K.lookup a = some { cls:=.type "dict",dict:=none,data:=.dict es ep,slots:=#[] }∧kdChk kvs es.toList = true
 ns:(a == sysModules) = false
def valK (kvs:List (Int × V)) (k:Int):Option V:=(kvs.find? fun kv=>decide (kv.1 = k)).map (·.2)
theorem kd_find {P:Program} {w:World}:∀ {kvs:List (Int × V)} {es:List DictEntry},kdChk kvs es = true →
  (∀ e ∈ es,∃ k,(intKind P w).is k e.key = true∧e.hash = (intKind P w).hash k)∧∀ k,RelO (valK kvs k) ((es.find? fun e=>(intKind P w).is k e.key).map (·.val))
 | [],[],_=>⟨fun _ h=>(nomatch h),fun _=>trivial⟩
 | [],_ :: _,h=>by cases h
 | _ :: _,[],h=>by cases h
 | (k0,v) :: r,e :: es,h=>by
  have h':((Value.isInt k0 e.key = true∧(e.hash == hashInt k0) = true)∧eqVb v e.val = true)∧kdChk r es = true:=by
   simpa [kdChk,Bool.and_eq_true] using h
  obtain ⟨⟨⟨h1,h2⟩,h3⟩,h4⟩:=h'
  obtain ⟨i1,i2⟩:=kd_find (P:=P) (w:=w) h4
  refine ⟨fun x hx=>?_,fun k=>?_⟩
  ·rcases List.mem_cons.mp hx with z | z
   ·rw [z]; exact ⟨k0,h1,beq_iff_eq.mp h2⟩
   ·exact i1 x z
  ·by_cases q:k0 = k
   ·have q1:(intKind P w).is k e.key = true:=by rw [← q]; exact h1
    unfold valK
    rw [List.find?_cons_of_pos (by simp [q]),List.find?_cons_of_pos (p:=fun e:DictEntry=>(intKind P w).is k e.key) (a:=e) q1]
    exact eqVb_rel h3
   ·have q1:¬ (intKind P w).is k e.key = true:=fun z=>q ((intKind P w).inj _ _ _ h1 z)
    unfold valK
    rw [List.find?_cons_of_neg (by simp [q]),List.find?_cons_of_neg (p:=fun e:DictEntry=>(intKind P w).is k e.key) (a:=e) q1]
    exact i2 k
theorem KD.map {K:PySem.W.Frag} {a:Addr} {kvs:List (Int × V)} (d:KD K a kvs) {h:Heap} (X:K.In h) (P:Program) (w:World) :
  ∃ f:Int→Option Value,h.MapOf (intKind P w) a f∧∀ k,RelO (valK kvs k) (f k):=by
 obtain ⟨es,ep,e,c⟩:=d.at_
 obtain ⟨h1,h2⟩:=kd_find (P:=P) (w:=w) c
 refine ⟨fun k=>findBy (intKind P w).is es k,⟨_,es,ep,X _ _ e,⟨rfl,rfl,rfl⟩,rfl,fun en hen=>h1 en (by simpa using hen),fun _=>rfl⟩,fun k=>?_⟩
 have q:=h2 k
 show RelO (valK kvs k) (Option.map (fun x=>x.val) (Array.find? (fun e=>(intKind P w).is k e.key) es))
 rw [← Array.find?_toList]
 exact q
section
variable {X:Cx} {x:Str} {p pos apos cpos:Pos} {i e f:Expr} {ty tx:TE} {a:Addr} {kvs:List (Int × V)}
def tKGet (kvs:List (Int × V)) (ty:TE):TE:=fun σ H Q=>ty σ H fun y H1=>∃ k v,y = .int k∧valK kvs k = some v∧Q v H1
def tKIn (kvs:List (Int × V)) (ty:TE):TE:=fun σ H Q=>ty σ H fun y H1=>∃ k,y = .int k∧Q (.bl (valK kvs k).isSome) H1
def tKGet2 (kvs:List (Int × V)) (ty tx:TE):TE:=fun σ H Q=>ty σ H fun y H1=>tx σ H1 fun z H2=>∃ k,y = .int k∧Q ((valK kvs k).getD z) H2
theorem pe_kget (d:KD X.K a kvs) (hg:Gl X x) (hm:X.mg x = some (.ref a)) (hi:PE X i ty) (hs:NoSl i) (hd:(x == ("__debug__":Str)) = false:=by decide):PE X (.Subscript (.Name x p) i pos) (tKGet kvs ty):=by
 intro pins s σ H Q I h
 refine subD_of PySem.F.slot_dict_getitem.lookup hs (ld_glob I hg hm (thn (hi pins s σ H _ I h) fun iv s2 ⟨y,H2,I2,ry,k,v,ey,hv,q2⟩=>?_) hd)
 subst ey
 obtain ⟨t,rfl⟩:=ry
 obtain ⟨f,mo,rel⟩:=d.map I2.kIn X.prog X.w
 obtain ⟨u,hu,ru⟩:=RelO.some_of (v:=v) (o:=f k) (by rw [← hv]; exact rel k)
 exact ⟨mo.typeIs,wpAny_getItem_of (knd:=intKind X.prog X.w) (k:=k) (by simp [intKind,Value.isInt]) mo hu ⟨v,H2,I2.tok _,ru,q2⟩⟩
theorem pc_kin (d:KD X.K a kvs) (hg:Gl X x) (hm:X.mg x = some (.ref a)) (hi:PE X i ty) (hd:(x == ("__debug__":Str)) = false:=by decide):PC X .In i (.Name x p) (tKIn kvs ty):=by
 intro pins s σ H Q I h
 refine thn (hi pins s σ H _ I h) fun iv s1 ⟨y,H1,I1,ry,k,ey,q1⟩=>?_
 subst ey
 obtain ⟨t,rfl⟩:=ry
 refine ld_glob I1 hg hm ?_ hd
 obtain ⟨f,mo,rel⟩:=d.map I1.kIn X.prog X.w
 refine wpAny_in_of (knd:=intKind X.prog X.w) (k:=k) (by simp [intKind,Value.isInt]) d.ns mo ?_
 rw [← (rel k).isSome_eq]
 exact ⟨.bl (valK kvs k).isSome,H1,I1.tok _,rfl,q1⟩
theorem pe_kget2 (d:KD X.K a kvs) (hg:Gl X x) (hm:X.mg x = some (.ref a)) (he:PE X e ty) (hf:PE X f tx) (m:M2 X (.Name x p) "get" apos e f cpos) (hd:(x == ("__debug__":Str)) = false:=by decide) :
  PE X (.Call (.Attribute (.Name x p) "get" apos) [e,f] [] cpos) (tKGet2 kvs ty tx):=by
 intro pins s σ H Q I h
 refine wpAny_Call_method m.base m.few m.line PySem.F.plainAttrs_dict PySem.F.slot_dict_get PySem.F.type_dict_get (ld_glob I hg hm ?_ hd)
 obtain ⟨g,mo,_⟩:=d.map I.kIn X.prog X.w
 refine ⟨mo.typeIs,mo.noDict,?_⟩
 rw [m.trees]
 refine Calls.callWith_builtin rfl (Calls.evalArgs_plain (Calls.spliced_cons (thn (he pins s σ H _ I h) fun iv s2 ⟨y,H2,I2,ry,q2⟩ =>
  Calls.spliced_cons (thn (hf pins s2 σ H2 _ I2 q2) fun fv s3 ⟨z,H3,I3,rz,k,ey,q3⟩=>Calls.spliced_nil ?_))))
 subst ey
 obtain ⟨t,rfl⟩:=ry
 obtain ⟨g3,mo3,rel3⟩:=d.map I3.kIn X.prog X.w
 refine call_meetsIn PySem.F.slot_dict_get mo3.typeIs PySem.F.entry_dict_get (PySem.F.args_dict_get_3 _ _ _) (meets_dict_get_default (intKind X.prog X.w) a (k:=k) (by simp [intKind,Value.isInt]) d.ns fv) ⟨_,mo3,?_⟩
 exact ⟨_,H3,I3.tok _,(rel3 k).getD rz,q3⟩
end
theorem lc_str {x:Str} {g:TG} {tt:TT} {te:TE} {vs:List Nat} {σ:St} {H1:Hp} {D:Addr} {Qd:Hp→Prop} (Pv:Nat→Hp→Prop) (h0:Pv 0 (upd H1 D (.lst [])))
  (hs:∀ i c H,x.cps[i]? = some c→Pv i H→g (.str ⟨#[c]⟩) (wipe σ vs) H fun σ2 H2=>wipe σ2 vs = wipe σ vs∧tt σ2 H2 fun b H3 =>
   if b = true then te σ2 H3 fun y H4=>∃ acc,H4 D = some (.lst acc)∧acc.length < sizeLine∧Pv (i + 1) (upd H4 D (.lst (acc ++ [y]))) else Pv (i + 1) H3) (hd:∀ H,Pv x.cps.size H→Qd H) :
  ∃ W:Nat→Nat→Hp→Prop,(∃ m,W 0 m (upd H1 D (.lst [])))∧∀ i m H,W i m H →
   ((Its x).stop i H∧Qd H) ∨ ((Its x).go i H∧∃ Nx:Hp→Prop,(∀ H',Nx H'→∃ m',m' < m∧W (i + 1) m' H')∧∀ v H',(Its x).yld i H v H'→g v (wipe σ vs) H' fun σ2 H2=>wipe σ2 vs = wipe σ vs∧tt σ2 H2 fun b H3 =>
    if b = true then te σ2 H3 fun y H4=>∃ acc,H4 D = some (.lst acc)∧acc.length < sizeLine∧Nx (upd H4 D (.lst (acc ++ [y]))) else Nx H3):=by
 refine ⟨fun i m H=>m = x.cps.size - i∧i ≤ x.cps.size∧Pv i H,⟨x.cps.size,by simp,Nat.zero_le _,h0⟩,?_⟩
 rintro i m H ⟨rfl,hi,p⟩
 by_cases hlt:i < x.cps.size
 ·refine .inr ⟨hlt,Pv (i + 1),fun H' p'=>⟨x.cps.size - (i + 1),by omega,rfl,hlt,p'⟩,fun v H' y=>?_⟩
  obtain ⟨rfl,c,hc,rfl⟩:=y
  exact hs i c _ hc p
 ·have e:i = x.cps.size:=by omega
  subst e
  exact .inl ⟨Nat.le_refl _,hd H p⟩
section
variable {M:Model} {A:Around} {E:Value→Shared→Prop} {env:Env}
variable {nm q:Str} {C N:Addr} {bs:List Value} {hdct:Bool} {sn:List Str} {sub:List Value} {ab:Bool} {col:Option Bool} {dd:Option Addr} {k0 k1 k2 k3 k5:Option Value} {newId:String}
theorem raise_made {s:Shared} {x:Sem Value} {Q:Flow→Shared→Prop} (hh:A.handled = none)
  (h:wpAny M A x (fun v s1=>∃ e t od,v = .ref e∧s1.heap.get? C = some (excClassObj nm q C N bs xBm hdct sn sub ab col dd k0 k1 k2 k3 k5 newId) ∧
   s1.heap.get? e = some { cls:=.ref C,dict:=od,data:=.fields #[.ref t,.none,.none,.none,.bool false,.none] }∧E (.ref e) s1) E s) :
  wpAny M A (raiseStmt env (some x) none) Q E s:=by
 have hcB:(Value.ref C :: xBm).contains (.type "BaseException") = true:=by rw [List.contains_cons]; rfl
 unfold raiseStmt
 refine wpAny_bind (wpAny_mono h (fun v s1 h1=>?_) fun _ _ z=>z)
 obtain ⟨e,t,od,rfl,oC,oE,hE⟩:=h1
 obtain ⟨hp,g,d,tk,os⟩:=s1
 repeat (first
  | with_reducible refine wpAny_loadPart_at oE ?_
  | with_reducible refine wpAny_loadPart_at oC ?_
  | (with_reducible refine wpAny_isSubtype_exc oC ?_; rw [hcB])
  | wp_step)
 exact wpAny_raiseNew_none hh hE
theorem matches_own {h:Heap} {g:Array GenState} {d:Drawn} {t:Nat} {os:OsState} {e C2 N2:Addr} {oe:Obj} {Q:Bool→Shared→Prop}
  {nm2 q2:Str} {bs2:List Value} {hd2:Bool} {sn2:List Str} {sub2:List Value} {ab2:Bool} {col2:Option Bool} {dd2:Option Addr} {j0 j1 j2 j3 j5:Option Value} {new2:String}
  (oC:h.get? C = some (excClassObj nm q C N bs xBm hdct sn sub ab col dd k0 k1 k2 k3 k5 newId)) (oC2:h.get? C2 = some (excClassObj nm2 q2 C2 N2 bs2 xBm hd2 sn2 sub2 ab2 col2 dd2 j0 j1 j2 j3 j5 new2))
  (he:h.get? e = some oe) (hcls:oe.cls = .ref C) (hq:Q (decide (C = C2)) ⟨h,g,d,t,os⟩):wpAny M A (excMatches (.ref e) (.ref C2)) Q E ⟨h,g,d,t,os⟩:=by
 have hcB:(Value.ref C2 :: xBm).contains (.type "BaseException") = true:=by rw [List.contains_cons]; rfl
 have hcC:(Value.ref C :: xBm).contains (.ref C2) = decide (C = C2):=by
  by_cases z:C = C2
  ·subst z; simp
  ·have z1:(Value.ref C2 == Value.ref C) = false:=beq_eq_false_iff_ne.mpr fun y=>z (by cases y; rfl)
   rw [List.contains_cons,z1,decide_eq_false z]
   rfl
 have f:=tc_notTuple
 unfold excMatches
 repeat (first
  | (with_reducible refine wpAny_loadPart_at he ?_; rw [hcls])
  | with_reducible refine wpAny_loadPart_at oC2 ?_
  | (with_reducible refine wpAny_isSubtype_exc oC2 ?_; rw [hcB])
  | (with_reducible refine wpAny_isSubtype_exc oC ?_; rw [hcC])
  | wp_step)
 by_cases z:C = C2
 ·rw [decide_eq_true z] at hq ⊢
  wp_walk
  exact hq
 ·rw [decide_eq_false z] at hq ⊢
  wp_walk
  exact hq
end
inductive spXI (C:Addr) (f1 f2:Str) (vs:List V) (H:Hp) (Q:VK) (E:XK):Prop
 | mk (x:Addr) (v1:V) (v2:V) (_:vs = [.ref x,v1,v2]) (_:H x = some (X0 x C)) (_:∀ d,H d = none→d ≠ x→Q .non (upd (upd H d (XD d [(f1,v1),(f2,v2)])) x (X1 x C d)))
section
variable {P:Program} {w:World} {K:PySem.W.Frag} {mg:Str→Option Value} {base:Heap} {N:List Str} {qual:Str} {scope:Scope} {f:Addr} {cd:Value} {A:Around} {outer:List Env} {s0:Shared} {H0:Hp} {E:XK}
 {C Nx fI:Addr} {fdI:FuncData} {k:Nat} {x f1 f2:Str} {np cpos pos:Pos} {e1 e2:Expr} {t:TA}
def tRaise2 (C:Addr) (f1 f2:Str) (E:XK) (t:TA):TS:=fun _ σ H=>t σ H fun vs H1=>∃ v1 v2,vs = [v1,v2]∧∀ d,H1 d = none→E (.ref C) (some d) (upd H1 d (XD d [(f1,v1),(f2,v2)]))
theorem fn_cls {K:PySem.W.Frag} {f:Addr} (h:PySem.W.isFn K (.ref f) = true):∃ o,K.lookup f = some o∧o.cls = .type "function":=by
 have e:PySem.W.typeIn K (.ref f) = some (.type "function"):=beq_iff_eq.mp h
 have e':(K.lookup f).map (·.cls) = some (.type "function"):=e
 obtain ⟨o,q1,q2⟩:=Option.map_eq_some_iff.mp e'
 exact ⟨o,q1,q2⟩
theorem ps_raise2 (c:XCls K C Nx) (hi:PySem.W.nsIn K Nx "__init__" = some (some (.ref fI))) (hfI:PySem.W.isFn K (.ref fI) = true) (F:FnOk P w K mg base (CXR P w) k fI fdI ["self",f1,f2] (spXI C f1 f2)) (b:Binds K fdI ["self",f1,f2] [])
  (hr:Room (k + 1) (cxOf (CXR P w) P w K mg base N qual scope f cd A outer s0 H0 E).A) (hg:Gl (cxOf (CXR P w) P w K mg base N qual scope f cd A outer s0 H0 E) x) (hm:mg x = some (.ref C))
  (ha:PA (cxOf (CXR P w) P w K mg base N qual scope f cd A outer s0 H0 E) [e1,e2] t) (hdb:(x == ("__debug__":Str)) = false:=by decide)
  (he:starEach (e1 :: [e2]) (cxOf (CXR P w) P w K mg base N qual scope f cd A outer s0 H0 E).env = (false,eval e1 (cxOf (CXR P w) P w K mg base N qual scope f cd A outer s0 H0 E).env) :: starEach [e2] (cxOf (CXR P w) P w K mg base N qual scope f cd A outer s0 H0 E).env:=by rfl)
  (hpl:(backTo cpos (starEach [e2] (cxOf (CXR P w) P w K mg base N qual scope f cd A outer s0 H0 E).env)).any (·.1) = false:=by rfl) :
  PS (cxOf (CXR P w) P w K mg base N qual scope f cd A outer s0 H0 E) (.Raise (some (.Call (.Name x np) [e1,e2] [] cpos)) none pos) (tRaise2 C f1 f2 E t):=by
 intro pins s σ H D I h
 obtain ⟨nm,q0,bs,sn,sub,ab,col,dd,k0,k1,k2,k3,k5,lk⟩:=c.ob
 obtain ⟨oI,lI,cI⟩:=fn_cls hfI
 rw [arm_exec_Raise]
 refine wpAny_bind (wpAny_standAt (raise_made (C:=C) (nm:=nm) (q:=q0) (N:=Nx) (bs:=bs) (hdct:=true) (sn:=sn) (sub:=sub) (ab:=ab) (col:=col) (dd:=dd) (k0:=k0) (k1:=k1) (k2:=k2) (k3:=k3) (k5:=k5) (newId:="Exception.__new__") hr.hd ?_))
 refine wpAny_bind (wpAny_mono (wpAny_Call_Name_kw (ld_glob I hg hm ?_ hdb)) (fun v s3 h3=>wpAny_bind (wpAny_standAt (wpAny_pure h3))) fun _ _ z=>z)
 refine PySem.W.callWith_K (h₀:=base) I.ok.mod.kin c.kp (thn (ha cpos pins s σ H _ I h) fun us s1 ⟨vs,H1,I1,r,v1,v2,ev,qE⟩=>⟨I1.kIn,?_⟩) he hpl
 subst ev
 obtain ⟨u1,u2,rfl,r1,r2⟩:=r.two
 have hC:=I1.kIn _ _ lk
 obtain ⟨hp,g,dr,tk,os⟩:=s1
 refine wpAny_call_exc_init PySem.F.excBase_Exception hC (c.map I1.kIn) (c.has I1.kIn hi) (I1.kIn _ _ lI) cI fun h' e mE=>?_
 obtain ⟨t0,oE,_,_⟩:=mE.there
 have I2:=I1.laidN (s:=⟨hp,g,dr,tk,os⟩) (h':=h') (t':=tk) (a:=e) (o:=X0 e C) mE.keeps mE.new (x0_ok oE)
 have hq:spXI C f1 f2 [.ref e,v1,v2] (upd H1 e (X0 e C)) (fun v H2=>v = .non∧∃ d,H1 d = none∧d ≠ e∧H2 = upd (upd (upd H1 e (X0 e C)) d (XD d [(f1,v1),(f2,v2)])) e (X1 e C d)) (fun _ _ _=>False) :=
  ⟨e,v1,v2,rfl,upd_same,fun d hd ne=>⟨rfl,d,by rw [upd_ne ne] at hd; exact hd,ne,rfl⟩⟩
 have r3:Vals [V.ref e,v1,v2] [Value.ref e,u1,u2]:=.cons rfl (.cons r1 (.cons r2 .nil))
 refine wpAny_call (codeAny_mono (F.run _ _ _ _ ⟨[Value.ref e,u1,u2],[]⟩ [Value.ref e,u1,u2] _ _ _ (hr.make C [u1,u2] []) (I2.env0.make C [u1,u2] []) (by have z:=b ⟨h',g,dr,tk,os⟩ [Value.ref e,u1,u2] I2.kIn rfl; exact z) r3 hq) fun r s' hq'=>?_)
 cases r with
 | error x =>
  obtain ⟨_,_,_,_,_,_,_,_,_,_,_,_,_,_,_,z⟩:=hq'
  exact z.elim
 | ok fl =>
  cases fl with
  | next=>exact False.elim hq'
  | brk=>exact False.elim hq'
  | cont=>exact False.elim hq'
  | ret u =>
   obtain ⟨v,H',I3,rv,ev,d,hd,ne,eH⟩:=I2.after hq'
   subst ev eH
   have ex:upd (upd (upd H1 e (X0 e C)) d (XD d [(f1,v1),(f2,v2)])) e (X1 e C d) e = some (X1 e C d):=upd_same
   obtain ⟨⟨t1,oE1⟩,_,_⟩:=I3.hok e _ ex
   have n0:s0.heap.get? e = none:=I1.no0 (s:=⟨hp,g,dr,tk,os⟩) rfl mE.new
   have h1e:H1 e = none:=I1.noH (s:=⟨hp,g,dr,tk,os⟩) mE.new
   have I4:=I3.drop ex n0
   have eH:dropH (upd (upd (upd H1 e (X0 e C)) d (XD d [(f1,v1),(f2,v2)])) e (X1 e C d)) e = upd H1 d (XD d [(f1,v1),(f2,v2)]):=by
    funext z
    by_cases ze:z = e
    ·subst ze
     rw [drop_same,upd_ne (Ne.symm ne),h1e]
    ·rw [drop_ne ze,upd_ne ze]
     by_cases zd:z = d
     ·subst zd; rw [upd_same,upd_same]
     ·rw [upd_ne zd,upd_ne zd,upd_ne ze]
   rw [eH] at I4
   refine ⟨rv,e,t1,some d,rfl,I3.kIn _ _ lk,oE1,?_⟩
   exact raised_here I4 n0 (by rw [upd_ne (Ne.symm ne)]; exact h1e) ⟨_,_,_,oE1,rfl,rfl,rfl,rfl,rfl⟩ (qE d hd)
def tRaise0 (C:Addr) (E:XK):TS:=fun _ _ H=>E (.ref C) none H
theorem ps_raise0 (c:XCls K C Nx) (hi:NoX K Nx "__init__") (hh:(cxOf (CXR P w) P w K mg base N qual scope f cd A outer s0 H0 E).A.handled = none)
  (hg:Gl (cxOf (CXR P w) P w K mg base N qual scope f cd A outer s0 H0 E) x) (hm:mg x = some (.ref C)) (hdb:(x == ("__debug__":Str)) = false:=by decide) :
  PS (cxOf (CXR P w) P w K mg base N qual scope f cd A outer s0 H0 E) (.Raise (some (.Call (.Name x np) [] [] cpos)) none pos) (tRaise0 C E):=by
 intro pins s σ H D I h
 obtain ⟨nm,q0,bs,sn,sub,ab,col,dd,k0,k1,k2,k3,k5,lk⟩:=c.ob
 rw [arm_exec_Raise]
 refine wpAny_bind (wpAny_standAt (raise_made (C:=C) (nm:=nm) (q:=q0) (N:=Nx) (bs:=bs) (hdct:=true) (sn:=sn) (sub:=sub) (ab:=ab) (col:=col) (dd:=dd) (k0:=k0) (k1:=k1) (k2:=k2) (k3:=k3) (k5:=k5) (newId:="Exception.__new__") hh ?_))
 refine wpAny_bind (wpAny_mono (wpAny_Call_Name_kw (ld_glob I hg hm ?_ hdb)) (fun v s3 h3=>wpAny_bind (wpAny_standAt (wpAny_pure h3))) fun _ _ z=>z)
 refine PySem.W.callWith_K0 I.kIn c.kp ?_
 have hC:=I.kIn _ _ lk
 obtain ⟨hp,g,dr,tk,os⟩:=s
 refine wpAny_call_exc_sub PySem.F.excBase_Exception hC (c.map I.kIn) (c.no I.kIn hi) fun h' e mE=>?_
 obtain ⟨t0,oE,_,_⟩:=mE.there
 have I2:=I.kept (s:=⟨hp,g,dr,tk,os⟩) (h':=h') (t':=tk) mE.keeps
 have n0:s0.heap.get? e = none:=I.no0 (s:=⟨hp,g,dr,tk,os⟩) rfl mE.new
 refine ⟨e,t0,none,rfl,I2.kIn _ _ lk,oE,?_⟩
 exact raised_here I2 n0 (I.noH (s:=⟨hp,g,dr,tk,os⟩) mE.new) ⟨_,_,_,oE,rfl,rfl,rfl,rfl,rfl⟩ h
end
section
variable {X:Cx} {σ:St} {H:Hp} {s:Shared} {h':Heap} {x T:Addr} {cls fl:Value} {od:Option Addr}
theorem Inv.aside {t':Nat} (I:Inv X [] σ H s) (hpn:X.pn = []) (hex:X.ex = []) (k:∀ b o,s.heap.get? b = some o→(∀ vs,o.data ≠ .fields vs)→∃ sl,h'.get? b = some { o with slots:=sl })
  (u:Un X.fs [] X.H_0 H X.s_0.heap h') (hok:HOk X.prog X.w H h'):Inv X [] σ H { s with heap:=h',toks:=t' }:=by
 refine ⟨I.ok,I.os,I.bare,by rw [hex]; exact u,?_,fun y c e=>?_,I.free,I.freeC,fun p hp=>?_,hok,I.len⟩
 ·obtain ⟨m,⟨o,es,ep,q1,q2,q3⟩,l⟩:=I.loc
  obtain ⟨sl,q⟩:=k _ o q1 fun vs z=>by rw [q2] at z; cases z
  refine ⟨m,⟨_,es,ep,q,q2,q3⟩,fun i y v e1 e2 e3=>?_⟩
  obtain ⟨w1,r,lk⟩:=l i y v e1 e2 e3
  refine ⟨w1,r,?_⟩
  rcases lk with z | ⟨z,c,z1,o2,z2,z3⟩
  ·exact .inl z
  ·obtain ⟨sl2,q5⟩:=k c o2 z2 fun vs y=>by rw [z3] at y; cases y
   exact .inr ⟨z,c,z1,_,q5,z3⟩
 ·obtain ⟨v,o,q1,q2⟩:=I.cell y c e
  obtain ⟨sl,q⟩:=k c o q1 fun vs z=>by rw [q2] at z; cases z
  exact ⟨v,_,q,q2⟩
 ·rw [hpn] at hp; exact absurd hp (by simp)
theorem Inv.one {t':Nat} {oT oT':Obj} {ts:Array Value} (I:Inv X [] σ H s) (hpn:X.pn = []) (hex:X.ex = []) (k:∀ b,b ≠ T→h'.get? b = s.heap.get? b) (e:s.heap.get? T = some oT) (d:oT.data = .fields ts) (e':h'.get? T = some oT')
  (n0:X.s_0.heap.get? T = none) (nT:H T = none):Inv X [] σ H { s with heap:=h',toks:=t' }:=by
 have exn:∀ b:Addr,b ∉ X.ex:=fun b z=>by rw [hex] at z; exact absurd z (by simp)
 have old:∀ b o,X.s_0.heap.get? b = some o→b ≠ T:=fun b o q z=>by rw [z,n0] at q; cases q
 refine I.aside hpn hex (fun b o q nf=>⟨o.slots,?_⟩) ⟨fun b o q n hb _=>?_,fun b o q n hb _=>?_,fun b o q n _=>I.base.free b o q n (exn b),fun b o q _=>?_,I.base.tups,I.base.frzs,I.base.tbls⟩ fun b o q=>?_
 ·rw [k b fun z=>by rw [z,e] at q; cases q; exact nf ts d]; exact q
 ·rw [k b (old b o q)]; exact I.base.keep b o q n hb (exn b)
 ·rw [k b (old b o q)]; exact I.base.slot b o q n hb (exn b)
 ·rw [k b (old b o q)]; exact I.base.there b o q (exn b)
 ·refine (I.hok b o q).stay (fun c u hc z=>?_) (fun _ z=>z) fun _ _ z=>z
  rw [k c fun y=>?_]
  ·exact z
  ·rcases hc with y2 | y2
   ·rw [← y2,y,nT] at q; cases q
   ·rw [y,nT] at y2; cases y2
theorem XAt.there {h:Heap} (a:XAt h x cls od T fl):∃ o,h.get? x = some o∧o.cls = cls∧o.dict = od:=by
 obtain ⟨o,_,_,_,_,e,c,d,_⟩:=a
 exact ⟨o,e,c,d⟩
theorem flight_core {M:Model} {A:Around} {E:Value→Shared→Prop} {Q:Unit→Shared→Prop} (I:Inv X [] σ H s) (hpn:X.pn = []) (hex:X.ex = []) (xa:XAt s.heap x cls od T fl) (n0:X.s_0.heap.get? T = none) (nT:H T = none)
  (q:∀ h',Inv X [] σ H { s with heap:=h' }→XAt h' x cls od T .none→Q () { s with heap:=h' }):wpAny M A (setFlight (.ref x) none) Q E s:=by
 obtain ⟨ox,vs,a0,oT,ts,e1,c1,d1,f1,z0,z1,ne,e2,f2,z3⟩:=xa
 have sz:3 < ts.size:=(Array.getElem?_eq_some_iff.mp z3).1
 refine wpAny_setFlight_none e1 f1 z1 e2 f2 sz (q _ ?_ ?_)
 ·exact I.one (t':=s.toks) hpn hex (fun b hb=>Heap.get?_update_other _ _ (Ne.symm hb)) e2 f2 (Heap.get?_update_self _ e2 (Obj.isFreed_of_fields (Obj.data_mapFields f2 _))) n0 nT
 ·exact ⟨ox,vs,a0,_,_,(Heap.get?_update_other _ _ ne).trans e1,c1,d1,f1,z0,z1,ne,Heap.get?_update_self _ e2 (Obj.isFreed_of_fields (Obj.data_mapFields f2 _)),Obj.data_mapFields f2 _,by simp [sz]⟩
theorem catch_core {E:Value→Shared→Prop} {Q:Shared→Prop} (I:Inv X [] σ H s) (hpn:X.pn = []) (hex:X.ex = []) (hs:X.stack = X.env :: X.outer) (hf:X.env.frame = some X.env.locals)
  (hx0:X.s_0.heap.get? x = none) (hx:H x = none) (xa:XAt s.heap x cls od T .none) (hT0:X.s_0.heap.get? T = none) (hT:H T = none)
  (q:∀ h' T',Inv X [] σ H { s with heap:=h' }→XAt h' x cls od T' .none→X.s_0.heap.get? T' = none→H T' = none→Q { s with heap:=h' }) :
  wpAny (model X.prog X.w) X.A (noteFrame (.ref x) X.env) (fun _ s2=>wpAny (model X.prog X.w) X.A (setFlight (.ref x) none) (fun _ s3=>Q s3) E s2) E s:=by
 have hfr:X.A.frames = some (X.env :: X.outer):=by rw [← hs]; exact I.ok.frames
 obtain ⟨ox,vs,a0,oT,ts,e1,c1,d1,f1,z0,z1,ne,e2,f2,z3⟩:=xa
 have hl:s.heap.FunFrames (PySem.W.hideAll s.heap (x :: T :: frs X.stack)) (X.env :: X.outer):=by
  rw [← hs]; exact funs_rebase I.stack fun z hz=>PySem.W.hideAll_none _ (List.mem_cons_of_mem _ (List.mem_cons_of_mem _ hz))
 have hkb:(PySem.W.hideAll s.heap (x :: T :: frs X.stack)).StaysIn s.heap:=fun b o q=>PySem.W.of_hideAll _ q
 have hen:(PySem.W.hideAll s.heap (x :: T :: frs X.stack)).get? x = none:=PySem.W.hideAll_none _ List.mem_cons_self
 have hnT:(PySem.W.hideAll s.heap (x :: T :: frs X.stack)).get? T = none:=PySem.W.hideAll_none _ (List.mem_cons_of_mem _ List.mem_cons_self)
 have ht:s.heap.TracedW (PySem.W.hideAll s.heap (x :: T :: frs X.stack)) x cls a0:=⟨ox,vs,T,oT,ts,e1,⟨c1,z0⟩,f1,z1,hnT,ne,e2,f2,z3⟩
 refine thn ((kd_note (.ref x) X.env).any (wpAny_noteFrame_onW (E:=E) (Q:=fun _ s'=>∃ h',s' = { s with heap:=h' }∧Heap.NotedW (PySem.W.hideAll s.heap (x :: T :: frs X.stack)) (X.env :: X.outer) x cls a0 (rawInt X.env.locals) s.heap h') hfr hl hf ht hkb hen fun h' L=>⟨h',rfl,L⟩)) ?_
 rintro _ _ ⟨⟨h',rfl,k1,k2,k3,k4⟩,kd⟩
 rw [← hs] at k2
 obtain ⟨T',u,_,ok,xa',n1,n2,_⟩:=behind (T0:=T) (od:=od) (T:=x) I hex hx0 hx hT0 hT k1 k2 k3 k4 kd ⟨ox,e1,d1⟩
 have I2:Inv X [] σ H { s with heap:=h' }:=I.aside (t':=s.toks) hpn hex k4 u ok
 exact flight_core (s:={ s with heap:=h' }) I2 hpn hex xa' n1 n2 fun h2 I3 xa3=>q h2 T' I3 xa3 n1 n2
abbrev Cx.suite (X:Cx) (x:Addr) (pn:List (Addr × Obj)):Cx:={ X with A:=X.A.mark (some (.ref x)),calm:=false,pn:=pn,xe:=fun _ _=>False }
theorem Inv.suite {pn:List (Addr × Obj)} (I:Inv X [] σ H s) (hp:∀ p ∈ pn,s.heap.get? p.1 = some p.2∧H p.1 = none∧p.1 ≠ X.env.locals∧p.1 ∉ X.fs∧∀ v,p.2.data ≠ .cell v):Inv (X.suite x pn) [] σ H s :=
 ⟨⟨I.ok.mod,I.ok.kind,I.ok.glob,I.ok.blt,I.ok.above,I.ok.inj,I.ok.has,I.ok.cab,(fun z=>by cases z),I.ok.frames,I.ok.stk,I.ok.exf,I.ok.bs,I.ok.bsz,I.ok.noex,I.ok.exfs,I.ok.funs,I.ok.frf⟩,
  I.os,I.bare,I.base,I.loc,I.cell,I.free,I.freeC,fun p hq=>hp p (by simpa using hq),I.hok,I.len⟩
theorem Inv.unsuite {pn:List (Addr × Obj)} (ok:X.Ok) (hpn:X.pn = []) (I:Inv (X.suite x pn) [] σ H s):Inv X [] σ H s :=
 ⟨ok,I.os,I.bare,I.base,I.loc,I.cell,I.free,I.freeC,fun p hq=>by rw [hpn] at hq; exact absurd hq (by simp),I.hok,I.len⟩
end
abbrev Key2:=List Key × List Key
def PDat (P:Program) (w:World) (a:Addr) (xs:List (Key2 × Addr × Value)) (h:Heap):Prop :=
 (a == sysModules) = false∧∃ o es ep,h.get? a = some o∧o.ExactDict∧o.data = .dict es ep∧es.toList = xs.map (entryOfKey (pairKind (mixKind P w)))∧(xs.map (·.1)).Nodup
def PairAt (H:Hp) (k:Key2) (b:Addr):Prop:=∃ t1 t2,H b = some (.tup [.ref t1,.ref t2])∧H t1 = some (.tup (k.1.map kV))∧H t2 = some (.tup (k.2.map kV))
def SeenAt (P:Program) (w:World) (H:Hp) (d:Addr) (ks:List Key2):Prop:=∃ xs:List (Key2 × Addr × Value),H d = some (.ext (PDat P w d xs))∧xs.map (·.1) = ks∧∀ x ∈ xs,PairAt H x.1 x.2.1
theorem PairAt.up {H H':Hp} {k:Key2} {b:Addr} (p:PairAt H k b) (ht:∀ b ys,H b = some (.tup ys)→H' b = some (.tup ys)):PairAt H' k b :=
 let ⟨t1,t2,h0,h1,h2⟩:=p; ⟨t1,t2,ht _ _ h0,ht _ _ h1,ht _ _ h2⟩
theorem pair_of {P:Program} {w:World} {H:Hp} {h:Heap} {k:Key2} {b:Addr} (ok:HOk P w H h) (p:PairAt H k b):(pairKind (mixKind P w)).is h k b:=by
 obtain ⟨t1,t2,h0,h1,h2⟩:=p
 obtain ⟨_,its,r,o,e1,e2,n,e3⟩:=(show ObjOk P w H h b (.tup [.ref t1,.ref t2]) from ok b _ h0)
 have hits:its = [.ref t1,.ref t2]:=by
  cases r with
  | cons r1 r2=>cases r2 with
   | cons r2 r3=>cases r3; cases r1; cases r2; rfl
 subst hits
 exact ⟨o,n,t1,t2,e1,e2,e3,key_of ok h1,key_of ok h2⟩
theorem seen_of {P:Program} {w:World} {H:Hp} {h:Heap} {d:Addr} {xs:List (Key2 × Addr × Value)} (ok:HOk P w H h) (e:H d = some (.ext (PDat P w d xs))) (al:∀ x ∈ xs,PairAt H x.1 x.2.1) :
  (d == sysModules) = false∧h.DictOfH (pairKind (mixKind P w)) d xs:=by
 obtain ⟨⟨hd,o,es,ep,h1,h2,h3,h4,h5⟩,_⟩:=(show ObjOk P w H h d (.ext (PDat P w d xs)) from ok d _ e)
 exact ⟨hd,o,es,ep,h1,h2,h3,h4,fun x hx=>pair_of ok (al x hx),h5⟩
theorem pd_stay {P:Program} {w:World} {d:Addr} {xs:List (Key2 × Addr × Value)} (h1 h2:Heap) (p:PDat P w d xs h1) (k:∀ o,h1.get? d = some o→h2.get? d = some o):PDat P w d xs h2 :=
 let ⟨hd,o,es,ep,e,r⟩:=p; ⟨hd,o,es,ep,k _ e,r⟩
def hasK (ks:List Key2) (k:Key2):Bool:=ks.any fun x=>decide (x = k)
theorem atKey_mem {xs:List (Key2 × Addr × Value)} {k:Key2}:(atKey xs k).isSome = hasK (xs.map (·.1)) k:=by
 unfold atKey hasK
 rw [Option.isSome_map,List.any_map]
 induction xs with
 | nil=>rfl
 | cons x xs ih =>
  rw [List.any_cons,List.find?_cons,← ih]
  show _ = (decide (x.1 = k) || _)
  cases decide (x.1 = k) with
  | true=>rfl
  | false=>rfl
def tPNotIn (P:Program) (w:World) (ty td:TE):TE:=fun σ H Q=>ty σ H fun y H1=>td σ H1 fun x H2=>∃ a ks k b,x = .ref a∧y = .ref b∧SeenAt P w H2 a ks∧PairAt H2 k b∧Q (.bl (!hasK ks k)) H2
def sPPut (P:Program) (w:World) (td ty tv:TE):TS:=fun D σ H=>tv σ H fun v H1=>td σ H1 fun x H2=>ty σ H2 fun y H3=>∃ a ks k b,x = .ref a∧y = .ref b∧SeenAt P w H3 a ks∧PairAt H3 k b∧hasK ks k = false∧ks.length < sizeLine ∧
 ∀ H4,(∀ z,z ≠ a→H4 z = H3 z)→SeenAt P w H4 a (ks ++ [k])→D.nx σ H4
def tPNew (P:Program) (w:World):TE:=fun _ H Q=>∀ p H',H p = none→(∀ z,z ≠ p→H' z = H z)→SeenAt P w H' p []→Q (.ref p) H'
section
variable {X:Cx} {o i e value:Expr} {pos pos' tpos:Pos} {td ty tv:TE}
theorem pc_pnotin (hu:X.A.units + 2 < cLine) (hi:PE X i ty) (ho:PE X o td):PC X .NotIn i o (tPNotIn X.prog X.w ty td):=by
 intro pins s σ H Q I h
 refine thn (hi pins s σ H _ I h) fun iv s1 ⟨y,H1,I1,ry,q1⟩=>thn (ho pins s1 σ H1 _ I1 q1) fun u s2 ⟨x,H2,I2,rx,a,ks,k,b,ex,ey,⟨xs,e,hk,al⟩,pa,q2⟩=>?_
 subst ex ey
 obtain rfl:u = Value.ref a:=rx
 obtain rfl:iv = Value.ref b:=ry
 obtain ⟨hd,dd⟩:=seen_of I2.hok e al
 refine wpAny_notIn_heap (knd:=pairKind (mixKind X.prog X.w)) (show X.A.in1.units + 1 < cLine from hu) (pair_of I2.hok pa) hd dd ?_
 rw [atKey_mem,hk]
 exact ⟨.bl (!hasK ks k),H2,I2.tok _,rfl,q2⟩
theorem ps_pput (hu:X.A.units + 2 < cLine) (ho:PE X o td) (hi:PE X i ty) (hv:PE X value tv) (hs:swapsWith value (some (.Subscript o i pos')) pos.line X.env = pure false) :
  PS X (.Assign [.Subscript o i pos'] value pos) (sPPut X.prog X.w td ty tv):=by
 intro pins s σ H D I h
 refine wpAny_Assign_Subscript (thn (hv pins s σ H _ I h) fun r s1 ⟨v,H1,I1,rv,q1⟩=>thn (ho pins s1 σ H1 _ I1 q1) fun u s2 ⟨x,H2,I2,rx,q2⟩=>thn (hi pins s2 σ H2 _ I2 q2) fun iv s3 ⟨y,H3,I3,ry,a,ks,k,b,ex,ey,⟨xs,e,hk,al⟩,pa,nk,hl,q3⟩=>?_) hs
 subst ex ey
 obtain rfl:u = Value.ref a:=rx
 obtain rfl:iv = Value.ref b:=ry
 obtain ⟨hd,dd⟩:=seen_of I3.hok e al
 have hz:xs.length ≤ sizeLine:=by
  have:=congrArg List.length hk
  rw [List.length_map] at this
  omega
 refine wpAny_setItem_heap (hsz:=hz) (knd:=pairKind (mixKind X.prog X.w)) (show X.A.in1.units + 1 < cLine from hu) (pair_of I3.hok pa) dd fun h' dd' hs=>?_
 have hn:atKey xs k = none:=by
  have:=atKey_mem (xs:=xs) (k:=k)
  rw [hk,nk] at this
  cases z:atKey xs k with
  | none=>rfl
  | some _=>rw [z] at this; cases this
 rw [storedH_new hn] at dd'
 obtain ⟨q,es,ep,hq,h2,h3,h4,_,h5⟩:=dd'
 have pd:PDat X.prog X.w a (xs ++ [(k,b,r)]) h':=⟨hd,q,es,ep,hq,h2,h3,h4,h5⟩
 have ntup:∀ c ys,H3 c = some (.tup ys)→c ≠ a:=fun c ys ec=>ne_of ec e (fun z=>nomatch z)
 refine ⟨σ,_,d_write (ob:=.ext (PDat X.prog X.w a (xs ++ [(k,b,r)]))) I3 (by rw [e]; exact True.intro) hs ⟨q,hq⟩ ⟨pd,⟨q,hq⟩,pd_stay⟩,q3 _ (fun z hz=>upd_ne hz) ⟨_,upd_same,by rw [List.map_append,hk]; rfl,fun x hx=>?_⟩⟩
 have up:∀ c ys,H3 c = some (.tup ys)→upd H3 a (.ext (PDat X.prog X.w a (xs ++ [(k,b,r)]))) c = some (.tup ys):=fun c ys ec=>by rw [upd_ne (ntup c ys ec)]; exact ec
 rcases List.mem_append.mp hx with hx | hx
 ·exact (al x hx).up up
 ·rw [List.mem_singleton.mp hx]
  exact pa.up up
theorem pe_pnew:PE X (.Dict [] [] pos) (tPNew X.prog X.w):=fun pins s σ H Q I h=>by
 have pd:PDat X.prog X.w s.heap.objs.size [] (s.heap.push { cls:=.type "dict",data:=.dict #[] }):=⟨beq_eq_false_iff_ne.mpr (Ne.symm (Nat.ne_of_lt I.big)),_,#[],0,Heap.get?_push_size _ rfl,⟨rfl,rfl,rfl⟩,rfl,rfl,List.nodup_nil⟩
 exact wpAny_Dict_empty ⟨.ref s.heap.objs.size,_,I.laid (a:=s.heap.objs.size) (o:=.ext (PDat X.prog X.w s.heap.objs.size [])) (t':=s.toks) (fun _ _ q=>Heap.get?_push_of_some _ q) (Nat.le_refl _) ⟨pd,⟨_,Heap.get?_push_size _ rfl⟩,pd_stay⟩,rfl,
  h _ _ (I.hok.fresh (Nat.le_refl _)) (fun z hz=>upd_ne hz) ⟨[],upd_same,rfl,fun x hx=>nomatch hx⟩⟩
end
def tAndT (K:PySem.W.Frag) (ta tb:TE):TE:=fun σ H Q=>ta σ H fun x H1=>∃ c,TruV K x H1 c∧if c = true then tb σ H1 Q else Q x H1
def tNotT (K:PySem.W.Frag) (ta:TE):TE:=fun σ H Q=>ta σ H fun x H1=>∃ c,TruV K x H1 c∧Q (.bl (!c)) H1
section
variable {X:Cx} {a b:Expr} {rest:List Expr} {pos:Pos} {ta tb:TE}
theorem pe_andT (ha:PE X a ta) (hb:PE X (.BoolOp .And (b :: rest) pos) tb):PE X (.BoolOp .And (a :: b :: rest) pos) (tAndT X.K ta tb):=by
 intro pins s σ H Q I h
 refine BoolOp_and (thn (ha pins s σ H _ I h) fun v s1 ⟨x,H1,I1,r1,c,tv,q1⟩=>?_)
 refine thn (tru_ok pins s1 σ H1 x v (fun c' H2=>c' = c∧H2 = H1) I1 r1 ⟨c,tv,rfl,rfl⟩) fun c' s2 ⟨H2,I2,e1,e2⟩=>?_
 subst e1 e2
 cases c' with
 | true=>exact hb pins s2 σ _ Q I2 q1
 | false=>exact ⟨x,_,I2,r1,q1⟩
theorem pe_notT (ha:PE X a ta):PE X (.UnaryOp .Not a pos) (tNotT X.K ta):=by
 intro pins s σ H Q I h
 refine UnaryOp_ (thn (ha pins s σ H _ I h) fun v s1 ⟨x,H1,I1,r1,c,tv,q1⟩=>?_)
 refine not_of (thn (tru_ok pins s1 σ H1 x v (fun c' H2=>c' = c∧H2 = H1) I1 r1 ⟨c,tv,rfl,rfl⟩) fun c' s2 ⟨H2,I2,e1,e2⟩=>?_)
 subst e1 e2
 exact ⟨.bl (!c'),_,I2,rfl,q1⟩
end
theorem for_enum {K:PySem.W.Frag} {a:Addr} {xs:List V} {g:TG} {tb:TS} {D:Ends} {σ:St} {H:Hp} (Pv:Nat→St→Hp→Prop) (h0:Pv 0 σ H) (hl:∀ i σ H,i ≤ xs.length→Pv i σ H→SqL K H a xs)
  (hs:∀ i x σ H T,xs[i]? = some x→Pv i σ H→H T = none→g (.ref T) σ (upd H T (.tup [.int (i:Nat),x])) fun σ2 H2=>tb { D with nx:=Pv (i + 1),ct:=Pv (i + 1),bk:=D.nx } σ2 H2) (hd:∀ σ H,Pv xs.length σ H→D.nx σ H) :
  ∃ W:Nat→Nat→St→Hp→Prop,(∃ m,W 0 m σ H)∧∀ i m σ H,W i m σ H →
   ((Ite K a).stop i H∧D.nx σ H) ∨ ((Ite K a).go i H∧∃ N:St→Hp→Prop,(∀ σ' H',N σ' H'→∃ m',m' < m∧W (i + 1) m' σ' H')∧∀ x H',(Ite K a).yld i H x H'→g x σ H' fun σ2 H2=>tb { D with nx:=N,ct:=N,bk:=D.nx } σ2 H2):=by
 refine ⟨fun i m σ H=>m = xs.length - i∧i ≤ xs.length∧Pv i σ H,⟨xs.length,by simp,Nat.zero_le _,h0⟩,?_⟩
 rintro i m σ H ⟨rfl,hi,p⟩
 have q:=hl i σ H hi p
 by_cases hlt:i < xs.length
 ·refine .inr ⟨⟨xs,xs[i],q,by simp [hlt]⟩,Pv (i + 1),fun σ' H' p'=>⟨xs.length - (i + 1),by omega,rfl,hlt,p'⟩,fun x H' y=>?_⟩
  obtain ⟨T,v,rfl,hT,rfl,y⟩:=y
  exact hs i v σ H T (y xs q) p hT
 ·have e:i = xs.length:=by omega
  subst e
  exact .inl ⟨⟨xs,q,Nat.le_refl _⟩,hd σ H p⟩
theorem lc_enum {K:PySem.W.Frag} {a:Addr} {xs:List V} {g:TG} {tt:TT} {te:TE} {vs:List Nat} {σ:St} {H1:Hp} {D:Addr} {Qd:Hp→Prop} (Pv:Nat→Hp→Prop) (h0:Pv 0 (upd H1 D (.lst []))) (hl:∀ i H,i ≤ xs.length→Pv i H→SqL K H a xs)
  (hs:∀ i x H T,xs[i]? = some x→Pv i H→H T = none→g (.ref T) (wipe σ vs) (upd H T (.tup [.int (i:Nat),x])) fun σ2 H2=>wipe σ2 vs = wipe σ vs∧tt σ2 H2 fun b H3 =>
   if b = true then te σ2 H3 fun y H4=>∃ acc,H4 D = some (.lst acc)∧acc.length < sizeLine∧Pv (i + 1) (upd H4 D (.lst (acc ++ [y]))) else Pv (i + 1) H3) (hd:∀ H,Pv xs.length H→Qd H) :
  ∃ W:Nat→Nat→Hp→Prop,(∃ m,W 0 m (upd H1 D (.lst [])))∧∀ i m H,W i m H →
   ((Ite K a).stop i H∧Qd H) ∨ ((Ite K a).go i H∧∃ Nx:Hp→Prop,(∀ H',Nx H'→∃ m',m' < m∧W (i + 1) m' H')∧∀ x H',(Ite K a).yld i H x H'→g x (wipe σ vs) H' fun σ2 H2=>wipe σ2 vs = wipe σ vs∧tt σ2 H2 fun b H3 =>
    if b = true then te σ2 H3 fun y H4=>∃ acc,H4 D = some (.lst acc)∧acc.length < sizeLine∧Nx (upd H4 D (.lst (acc ++ [y]))) else Nx H3):=by
 refine ⟨fun i m H=>m = xs.length - i∧i ≤ xs.length∧Pv i H,⟨xs.length,by simp,Nat.zero_le _,h0⟩,?_⟩
 rintro i m H ⟨rfl,hi,p⟩
 have q:=hl i H hi p
 by_cases hlt:i < xs.length
 ·refine .inr ⟨⟨xs,xs[i],q,by simp [hlt]⟩,Pv (i + 1),fun H' p'=>⟨xs.length - (i + 1),by omega,rfl,hlt,p'⟩,fun x H' y=>?_⟩
  obtain ⟨T,v,rfl,hT,rfl,y⟩:=y
  exact hs i v H T (y xs q) p hT
 ·have e:i = xs.length:=by omega
  subst e
  exact .inl ⟨⟨xs,q,Nat.le_refl _⟩,hd H p⟩
end L2
namespace Cf
open PySem PySem.Spec PyProof.Rows L2
def But (W:List Addr) (H H':Hp):Prop:=∀ a o,H a = some o→a ∉ W→H' a = some o
theorem hb1 {F:List Value→Prop} (h:∀ a,F [a]):∀ us,us.length = 1→F us:=fun us l=>match us,l with | [_],_=>h _
theorem hb2 {F:List Value→Prop} (h:∀ a b,F [a,b]):∀ us,us.length = 2→F us:=fun us l=>match us,l with | [_,_],_=>h _ _
theorem hb3 {F:List Value→Prop} (h:∀ a b c,F [a,b,c]):∀ us,us.length = 3→F us:=fun us l=>match us,l with | [_,_,_],_=>h _ _ _
theorem hb4 {F:List Value→Prop} (h:∀ a b c d,F [a,b,c,d]):∀ us,us.length = 4→F us:=fun us l=>match us,l with | [_,_,_,_],_=>h _ _ _ _
theorem hb5 {F:List Value→Prop} (h:∀ a b c d e,F [a,b,c,d,e]):∀ us,us.length = 5→F us:=fun us l=>match us,l with | [_,_,_,_,_],_=>h _ _ _ _ _
theorem scB {N P:List Str} {sc:Scope} (a:sc.kind = .function:=by rfl) (b:sc.isCoroutine = false:=by rfl) (c:sc.isGenerator = false:=by rfl) (d:N.Nodup:=by decide +kernel) (e:N.take P.length = P:=by rfl) (f:∀ x ∈ P,sc.names.lookup x = some .local ∨ sc.names.lookup x = some .cell:=by decide +kernel) (g:∀ y ∈ sc.names,y.2 ≠ .free:=by decide +kernel):FnScope N P sc:=⟨a,b,c,d,e,f,g⟩
theorem rm {j k:Nat} {A:Around} (r:Room k A) (h:j ≤ k:=by decide):Room j A:=r.mono h
theorem But.refl (W:List Addr) (H:Hp):But W H H:=fun _ _ h _=>h
theorem But.trans {W:List Addr} {H H1 H2:Hp} (a:But W H H1) (b:But W H1 H2):But W H H2:=fun x o h n=>b x o (a x o h n) n
theorem But.mono {W W':List Addr} {H H':Hp} (a:But W H H') (h:∀ x ∈ W,x ∈ W'):But W' H H':=fun x o e n=>a x o e fun z=>n (h x z)
theorem Same.but {W:List Addr} {H H':Hp} (a:Same H H'):But W H H':=fun x o h _=>a x o h
theorem But.same {H H':Hp} (a:But [] H H'):Same H H':=fun x o h=>a x o h (by simp)
theorem same_refl (H:Hp):Same H H:=fun _ _ h=>h
theorem same_new {H:Hp} {p:Addr} {o:HO} (h:H p = none):Same H (upd H p o):=fun b u e=>by
 rw [upd_ne (ne_of_none e h)]; exact e
theorem but_upd {H:Hp} {p:Addr} {o:HO}:But [p] H (upd H p o):=fun b u e n=>by
 rw [upd_ne fun z=>n (by simp [z])]; exact e
theorem updu {H:Hp} {a:Addr} {o u:HO}:upd (upd H a o) a u = upd H a u:=by
 funext z
 by_cases h:z = a
 ·subst h; rw [upd_same,upd_same]
 ·rw [upd_ne h,upd_ne h,upd_ne h]
structure Grow (S H S1 H1:Hp):Prop where
 le:Same S S1
 up:Same S1 H1
 new:∀ x,(H x).isSome = true→S x = none→S1 x = none
theorem Grow.stay {S H H1:Hp} (u:Same S H1):Grow S H S H1:=⟨same_refl S,u,fun _ _ h=>h⟩
theorem But.keeps {W:List Addr} {S H H1:Hp} (b:But W H H1) (s:Same S H) (n:∀ x ∈ W,S x = none):Same S H1:=fun a o e =>
 b a o (s a o e) fun z=>by rw [n a z] at e; cases e
theorem but1 {c:Addr} {S H H1:Hp} (b:But [c] H H1) (s:Same S H) (n:S c = none):Same S H1:=b.keeps s fun x hx=>by
 rw [List.mem_singleton.mp hx]; exact n
theorem isSome_of {H:Hp} {a:Addr} {o:HO} (h:H a = some o):(H a).isSome = true:=by rw [h]; rfl
theorem some_isSome {H:Hp} {a:Addr} (h:(H a).isSome = true):∃ o,H a = some o:=Option.isSome_iff_exists.mp h
theorem zip_lookup:∀ {ks:List Str} {vs:List V} {i:Nat} {f:Str} {v:V},ks.Nodup→ks[i]? = some f→vs[i]? = some v→(ks.zip vs).lookup f = some v
 | [],_,_,_,_,_,h,_=>by simp at h
 | _ :: _,[],_,_,_,_,_,h=>by simp at h
 | k :: ks,u :: vs,0,f,v,_,h1,h2=>by
  have e1:k = f:=Option.some.inj h1
  have e2:u = v:=Option.some.inj h2
  subst e1 e2
  simp [List.lookup]
 | k :: ks,u :: vs,i + 1,f,v,nd,h1,h2=>by
  have h1':ks[i]? = some f:=by simpa using h1
  have h2':vs[i]? = some v:=by simpa using h2
  have ne:(f == k) = false:=beq_eq_false_iff_ne.mpr fun z=>(List.nodup_cons.mp nd).1 (by rw [← z]; exact List.mem_of_getElem? h1')
  show List.lookup f ((k,u) :: ks.zip vs) = some v
  simp only [List.lookup,ne]
  exact zip_lookup (List.nodup_cons.mp nd).2 h1' h2'
theorem zip_none:∀ {ks:List Str} {vs:List V} {f:Str},f ∉ ks→(ks.zip vs).lookup f = none
 | [],_,_,_=>rfl
 | _ :: _,[],_,_=>rfl
 | k :: ks,u :: vs,f,h=>by
  have ne:(f == k) = false:=beq_eq_false_iff_ne.mpr fun z=>h (by simp [z])
  show List.lookup f ((k,u) :: ks.zip vs) = none
  simp only [List.lookup,ne]
  exact zip_none fun z=>h (List.mem_cons_of_mem _ z)
theorem zip_put:∀ {ks:List Str} {vs:List V} {i:Nat} {f:Str} {v:V},ks.Nodup→ks[i]? = some f→vs.length = ks.length→putF f v (ks.zip vs) = ks.zip (vs.set i v)
 | [],_,_,_,_,_,h,_=>by simp at h
 | _ :: _,[],_,_,_,_,_,h=>by simp at h
 | k :: ks,u :: vs,0,f,v,_,h1,_=>by
  have e1:k = f:=Option.some.inj h1
  subst e1
  show putF k v ((k,u) :: ks.zip vs) = _
  unfold putF
  rw [if_pos rfl]
  rfl
 | k :: ks,u :: vs,i + 1,f,v,nd,h1,hl=>by
  have h1':ks[i]? = some f:=by simpa using h1
  have ne:¬ k = f:=fun z=>(List.nodup_cons.mp nd).1 (by rw [z]; exact List.mem_of_getElem? h1')
  show putF f v ((k,u) :: ks.zip vs) = (k,u) :: ks.zip (vs.set i v)
  unfold putF
  rw [if_neg ne,zip_put (List.nodup_cons.mp nd).2 h1' (by simpa using hl)]
theorem zip_init:∀ {ks:List Str} {vs:List V} {i:Nat} {f:Str} {v:V},ks.Nodup→ks[i]? = some f→vs.length = i→putF f v ((ks.take i).zip vs) = (ks.take (i + 1)).zip (vs ++ [v])
 | [],_,_,_,_,_,h,_=>by simp at h
 | k :: ks,[],0,f,v,_,h1,_=>by
  have e1:k = f:=Option.some.inj h1
  subst e1
  rfl
 | k :: ks,u :: vs,0,f,v,_,_,hl=>by simp at hl
 | k :: ks,[],i + 1,f,v,_,_,hl=>by simp at hl
 | k :: ks,u :: vs,i + 1,f,v,nd,h1,hl=>by
  have h1':ks[i]? = some f:=by simpa using h1
  have ne:¬ k = f:=fun z=>(List.nodup_cons.mp nd).1 (by rw [z]; exact List.mem_of_getElem? h1')
  show putF f v ((k,u) :: (ks.take i).zip vs) = (k,u) :: (ks.take (i + 1)).zip (vs ++ [v])
  unfold putF
  rw [if_neg ne,zip_init (List.nodup_cons.mp nd).2 h1' (by simpa using hl)]
structure Kl (K:PySem.W.Frag) (C:Addr) (ks:List Str):Prop where
 cl:Cls K C
 no:∀ f ∈ ks,NoAttr K C f
 nd:ks.Nodup
 few:ks.length < 1000
section
variable {K:PySem.W.Frag} {H:Hp} {a C dx:Addr} {ks:List Str} {vs:List V} {f m:Str} {v y:V} {i:Nat}
theorem fldgo (Q:V→Hp→Prop) (c:Kl K C ks) (h:H a = some (.ins C dx (ks.zip vs))) (hi:ks[i]? = some f) (hv:vs[i]? = some v) (q:Q v H) :
  FldI K f Q (V.ref a) H :=
 ⟨a,C,dx,_,v,rfl,h,c.cl,c.no f (List.mem_of_getElem? hi),zip_lookup c.nd hi hv,q⟩
theorem methgo {Q:Prop} (h:H a = some (.ins C dx (ks.zip vs))) (hm:m ∉ ks) (q:Q) :
  MethI C m Q (V.ref a) H:=⟨a,dx,_,rfl,h,zip_none hm,q⟩
theorem setgo {Q:Hp→Prop} (c:Kl K C ks) (h:H a = some (.ins C dx (ks.zip vs))) (hi:ks[i]? = some f) (hl:vs.length = ks.length) (q:Q (upd H a (.ins C dx (ks.zip (vs.set i y))))) :
  SFldI K f y Q (V.ref a) H :=
 ⟨a,C,dx,_,rfl,h,c.cl,c.no f (List.mem_of_getElem? hi),by rw [List.length_zip]; have:=c.few; omega,by rw [zip_put c.nd hi hl]; exact q⟩
theorem initgo {Q:Hp→Prop} (c:Kl K C ks) (h:H a = some (.ins C dx ((ks.take i).zip vs))) (hi:ks[i]? = some f) (hl:vs.length = i) (q:Q (upd H a (.ins C dx ((ks.take (i + 1)).zip (vs ++ [y]))))) :
  SFldI K f y Q (V.ref a) H :=
 ⟨a,C,dx,_,rfl,h,c.cl,c.no f (List.mem_of_getElem? hi),by rw [List.length_zip,List.length_take]; have:=c.few; omega,by rw [zip_init c.nd hi hl]; exact q⟩
end
def Src (K:PySem.W.Frag) (x:Str) (st:Stmt):Prop:=∃ f fd,Fun K x x st f fd∧PySem.W.nsIn K mainGlobals x = some (some (.ref f))
def MSrc (K:PySem.W.Frag) (C:Addr) (m qual:Str) (st:Stmt):Prop:=∃ f fd,Fun K m qual st f fd∧Meth K C m f
def Def (P:Program) (w:World) (K:PySem.W.Frag) (mg:Str→Option Value) (base:Heap) (k:Nat) (x:Str) (ps:List Str) (sp:Sp):Prop :=
 ∃ f fd,mg x = some (.ref f)∧PySem.W.keepIn K (.ref f) = true∧FnOk P w K mg base (CXR P w) k f fd ps sp∧Binds K fd ps []
inductive MDef (P:Program) (w:World) (K:PySem.W.Frag) (mg:Str→Option Value) (base:Heap) (k:Nat) (C:Addr) (m:Str) (ps:List Str) (sp:Sp)  : Prop
 | mk (f:Addr) (fd:FuncData) (_:Meth K C m f) (_:FnOk P w K mg base (CXR P w) k f fd ps sp) (_:Binds K fd ps [])
section
variable {P:Program} {w:World} {K:PySem.W.Frag} {mg:Str→Option Value} {base:Heap}
theorem funR {x qual:Str} {st:Stmt} {f:Addr} {fd:FuncData} {N ps:List Str} {k:Nat} {sp:Sp} (F:Fun K x qual st f fd) (S:FnScope N ps (defScope st)) (len:∀ vs H Q E,sp vs H Q E→vs.length = ps.length)
  (hbody:∀ (cdv:Value) (A:Around) (outer:List Env) (s:Shared) (H:Hp) (vs:List V) (Q:VK) (E:XK),Room k (A.deeper (envOfC qual (defScope st) s.heap.objs.size f cdv))→sp vs H Q E →
   ∃ t,PSs (cxOf (CXR P w) P w K mg base N qual (defScope st) f cdv A outer s H E) (defBody st) t∧t { nx:=fun _ H'=>Q .non H',rt:=Q } (start N vs) H):FnOk P w K mg base (CXR P w) (k + 1) f fd ps sp:=by
 obtain ⟨oc,od,kV,doc,pm,an,cdv,ct,osl,rfl,lk,hcd⟩:=F.ex
 exact fn_of lk hcd S len fun A outer s H vs Q E hr hsp=>hbody cdv A outer s H vs Q E hr hsp
theorem defR {x:Str} {st:Stmt} {N ps:List Str} {k:Nat} {sp:Sp} (src:Src K x st) (KX:∃ h,K.In h∧h.Ns mainGlobals mg) (S:FnScope N ps (defScope st)) (len:∀ vs H Q E,sp vs H Q E→vs.length = ps.length)
  (hbody:∀ (f:Addr) (cdv:Value) (A:Around) (outer:List Env) (s:Shared) (H:Hp) (vs:List V) (Q:VK) (E:XK),Room k (A.deeper (envOfC x (defScope st) s.heap.objs.size f cdv))→sp vs H Q E →
   ∃ t,PSs (cxOf (CXR P w) P w K mg base N x (defScope st) f cdv A outer s H E) (defBody st) t∧t { nx:=fun _ H'=>Q .non H',rt:=Q } (start N vs) H)
  (hb:∀ (kV doc pm:Value) (an:Option Addr) (cdv ct:Value) (us:List Value),us.length = ps.length→bindArgs (PySem.W.fnOf x x (defArgs st) (defBody st) (defScope st) .none kV doc pm an cdv ct) ⟨us,[]⟩ = pure (ps.zip us):=by first | exact fun _ _ _ _ _ _=>hb1 fun _=>rfl | exact fun _ _ _ _ _ _=>hb2 fun _ _=>rfl | exact fun _ _ _ _ _ _=>hb3 fun _ _ _=>rfl | exact fun _ _ _ _ _ _=>hb4 fun _ _ _ _=>rfl | exact fun _ _ _ _ _ _=>hb5 fun _ _ _ _ _=>rfl):Def P w K mg base (k + 1) x ps sp:=by
 obtain ⟨f,fd,F,n⟩:=src
 obtain ⟨h,k1,k2⟩:=KX
 exact ⟨f,fd,PySem.W.mg_of k1 k2 n,F.kp,funR F S len (hbody f),F.binds hb⟩
theorem mdefR {C:Addr} {m qual:Str} {st:Stmt} {N ps:List Str} {k:Nat} {sp:Sp} (src:MSrc K C m qual st) (S:FnScope N ps (defScope st)) (len:∀ vs H Q E,sp vs H Q E→vs.length = ps.length)
  (hbody:∀ (f:Addr) (cdv:Value) (A:Around) (outer:List Env) (s:Shared) (H:Hp) (vs:List V) (Q:VK) (E:XK),Room k (A.deeper (envOfC qual (defScope st) s.heap.objs.size f cdv))→sp vs H Q E →
   ∃ t,PSs (cxOf (CXR P w) P w K mg base N qual (defScope st) f cdv A outer s H E) (defBody st) t∧t { nx:=fun _ H'=>Q .non H',rt:=Q } (start N vs) H)
  (hb:∀ (kV doc pm:Value) (an:Option Addr) (cdv ct:Value) (us:List Value),us.length = ps.length→bindArgs (PySem.W.fnOf m qual (defArgs st) (defBody st) (defScope st) .none kV doc pm an cdv ct) ⟨us,[]⟩ = pure (ps.zip us):=by first | exact fun _ _ _ _ _ _=>hb1 fun _=>rfl | exact fun _ _ _ _ _ _=>hb2 fun _ _=>rfl | exact fun _ _ _ _ _ _=>hb3 fun _ _ _=>rfl | exact fun _ _ _ _ _ _=>hb4 fun _ _ _ _=>rfl | exact fun _ _ _ _ _ _=>hb5 fun _ _ _ _ _=>rfl):MDef P w K mg base (k + 1) C m ps sp:=by
 obtain ⟨f,fd,F,n⟩:=src
 exact ⟨f,fd,n,funR F S len (hbody f),F.binds hb⟩
end
section
variable {X:Cx} {k:Nat} {ps:List Str} {sp:Sp} {E:XK} {x m:Str} {p pos apos:Pos} {e o:Expr} {es:List Expr} {ta:TE} {t:TA} {C:Addr}
theorem pe_d (D:Def X.prog X.w X.K X.mg X.base k x ps sp) (hr:Room k X.A) (hg:Gl X x) (hx:Passes (CXR X.prog X.w) X E) (ha:PA X (e :: es) t)
  (hdb:(x == ("__debug__":Str)) = false:=by decide) (he:starEach (e :: es) X.env = (false,eval e X.env) :: starEach es X.env:=by rfl) (hpl:(backTo pos (starEach es X.env)).any (·.1) = false:=by rfl) :
  PE X (.Call (.Name x p) (e :: es) [] pos) (tCall sp [] E t):=by
 obtain ⟨f,fd,hm,hk,F,b⟩:=D
 exact pe_call F hr hg hm hk b .nil hx ha hdb he hpl
theorem pe_md {pl:Sem Bool} (D:MDef X.prog X.w X.K X.mg X.base k C m ps sp) (he:PE X o ta) (c:Cls X.K C) (hr:Room k X.A) (hx:Passes (CXR X.prog X.w) X E) (ha:PA X (e :: es) t)
  (hst:starEach (e :: es) X.env = (false,eval e X.env) :: starEach es X.env:=by rfl) (hpl:(backTo pos (starEach es X.env)).any (·.1) = false:=by rfl)
  (ht:eval (.Call (.Attribute o m apos) (e :: es) [] pos) X.env = (do
   let ov ← eval o X.env
   standAt apos.atName
   let (f,first) ← holding [ov] (getMethod ov m pl)
   callWith pos f first (backTo pos (starEach (e :: es) X.env)) (backToKw pos (keywordEach [] X.env))):=by rfl) :
  PE X (.Call (.Attribute o m apos) (e :: es) [] pos) (tMeth C m sp [] E ta t):=by
 obtain ⟨f,fd,hm,F,b⟩:=D
 exact pe_meth he c hm F hr b .nil hx ha hst hpl ht
theorem pe_md0 {pl:Sem Bool} (D:MDef X.prog X.w X.K X.mg X.base k C m ps sp) (he:PE X o ta) (c:Cls X.K C) (hr:Room k X.A) (hx:Passes (CXR X.prog X.w) X E)
  (ht:eval (.Call (.Attribute o m apos) [] [] pos) X.env = (do
   let ov ← eval o X.env
   standAt apos.atName
   let (f,first) ← holding [ov] (getMethod ov m pl)
   callWith pos f first (backTo pos (starEach [] X.env)) (backToKw pos (keywordEach [] X.env))):=by rfl) :
  PE X (.Call (.Attribute o m apos) [] [] pos) (tMeth C m sp [] E ta tNil):=by
 obtain ⟨f,fd,hm,F,b⟩:=D
 exact pe_meth0 he c hm F hr b .nil hx ht
theorem pe_mk (D:MDef X.prog X.w X.K X.mg X.base k C "__init__" ps sp) (hmk:PySem.W.makesIn X.K C = true) (hkp:PySem.W.keepIn X.K (.ref C) = true) (hr:Room (k + 1) X.A) (hg:Gl X x) (hm:X.mg x = some (.ref C)) (hx:Passes (CXR X.prog X.w) X E)
  (ha:PA X (e :: es) t) (hdb:(x == ("__debug__":Str)) = false:=by decide) (he:starEach (e :: es) X.env = (false,eval e X.env) :: starEach es X.env:=by rfl) (hpl:(backTo pos (starEach es X.env)).any (·.1) = false:=by rfl) :
  PE X (.Call (.Name x p) (e :: es) [] pos) (tMake C sp [] E t):=by
 obtain ⟨f,fd,h,F,b⟩:=D
 exact pe_make ⟨hmk,h.at_,h.fn,hkp⟩ F hr hg hm b .nil hx ha hdb he hpl
theorem pe_mk0 (D:MDef X.prog X.w X.K X.mg X.base k C "__init__" ps sp) (hmk:PySem.W.makesIn X.K C = true) (hkp:PySem.W.keepIn X.K (.ref C) = true) (hr:Room (k + 1) X.A) (hg:Gl X x) (hm:X.mg x = some (.ref C)) (hx:Passes (CXR X.prog X.w) X E)
  (hdb:(x == ("__debug__":Str)) = false:=by decide):PE X (.Call (.Name x p) [] [] pos) (tMake C sp [] E tNil):=by
 obtain ⟨f,fd,h,F,b⟩:=D
 exact pe_make0 ⟨hmk,h.at_,h.fn,hkp⟩ F hr hg hm b .nil hx hdb
theorem ptw {t:TT} (h:PW X e t):PT X e t:=h.pt
def Cal (X:Cx) (k:Nat) (f:Addr) (sp:Sp):Prop:=∃ fd ps,FnOk X.prog X.w X.K X.mg X.base (CXR X.prog X.w) k f fd ps sp∧PySem.W.keepIn X.K (.ref f) = true∧Binds X.K fd ps []
def tCalV (X:Cx) (k:Nat) (E:XK) (tf:TE) (t:TA):TE:=fun σ H Q=>tf σ H fun v H1=>∃ f sp,v = .ref f∧Cal X k f sp∧t σ H1 fun vs H2=>sp vs H2 Q E
theorem pe_cv {fe:Expr} {tf:TE} (hf:PE X fe tf) (hr:Room k X.A) (hx:Passes (CXR X.prog X.w) X E) (ha:PA X (e :: es) t)
  (ht:eval (.Call fe (e :: es) [] pos) X.env = (do
   let f ← eval fe X.env
   callWith pos f [] (backTo pos (starEach (e :: es) X.env)) (backToKw pos (keywordEach [] X.env))):=by rfl)
  (he:starEach (e :: es) X.env = (false,eval e X.env) :: starEach es X.env:=by rfl) (hpl:(backTo pos (starEach es X.env)).any (·.1) = false:=by rfl) :
  PE X (.Call fe (e :: es) [] pos) (tCalV X k E tf t):=by
 intro pins s σ H Q I h
 rw [ht]
 refine wpAny_bind (thn (hf pins s σ H _ I h) fun u s1 ⟨v,H1,I1,rv,f,sp,ev,⟨fd,ps,F,hk,b⟩,q⟩=>?_)
 subst ev
 obtain rfl:u = Value.ref f:=rv
 refine PySem.W.callWith_K (h₀:=X.base) I.ok.mod.kin hk (thn (ha pos pins s1 σ H1 _ I1 q) fun us s2 ⟨vs,H2,I2,r,q2⟩=>⟨I2.kIn,?_⟩) he hpl
 exact run_fn F hr b .nil hx I2 r (by rw [List.append_nil]; exact q2)
end
theorem sg {t u:TS} {n:L2.St→Hp→Prop} {r:VK} {b c:L2.St→Hp→Prop} {σ:L2.St} {H:Hp} (h:∀ R:L2.St→Hp→Prop,(∀ σ H,(let s:=σ; u ⟨n,r,b,c⟩ s H)→R σ H)→t ⟨R,r,b,c⟩ σ H):tSeq t u ⟨n,r,b,c⟩ σ H:=h _ fun _ _ x=>x
theorem sl {t:TS} {D:Ends} {σ:L2.St} {H:Hp} (h:let s:=σ; t D s H):t D σ H:=h
end Cf
local macro_rules | `(tactic| exists $a:ident)=>`(tactic| (refine $a _ _ ?_; clear $a; intro s))
local macro_rules | `(tactic| exists $a:ident,$b:ident)=>`(tactic| (refine $a _ _ ?_; clear $a; intro s; refine Cf.sg fun R $b=>?_))
local macro_rules | `(tactic| exists _,$b:ident)=>`(tactic| (refine Cf.sl ?_; intro s; refine Cf.sg fun R $b=>?_))
namespace Cf
open PySem PySem.Spec PyProof.Rows L2
open CfFile (Pool Attr Member File)
structure Adr where
 cRB:Addr
 nRB:Addr
 cTM:Addr
 nTM:Addr
 cNF:Addr
 nNF:Addr
 cNT:Addr
 nNT:Addr
 cCur:Addr
 cAtt:Addr
 cBod:Addr
 cMem:Addr
 cCon:Addr
 cPoo:Addr
 cFil:Addr
 cDes:Addr
 cLis:Addr
 aBS:Addr
 aHD:Addr
 aWI:Addr
 aFO:Addr
 aCH:Addr
 aTE:Addr
 aAN:Addr
 aFN:Addr
 aSN:Addr
 aPA:Addr
abbrev kCur:List Str:=["content","place"]
abbrev kAtt:List Str:=["name","start","size"]
abbrev kBod:List Str:=["stack","variables","start","size","attributes"]
abbrev kMem:List Str:=["place","flags","name","descriptor","attributes","body"]
abbrev kCon:List Str:=["tag","place","first","second"]
abbrev kPoo:List Str:=["content","constants"]
abbrev kFil:List Str:=["minor","major","pool","flags","this_class","super_class","interfaces","fields","methods","attributes"]
abbrev kDes:List Str:=["held"]
abbrev kLis:List Str:=["calls","at"]
structure Mk1 (K:PySem.W.Frag) (mg:Str→Option Value) (x:Str) (C:Addr):Prop where
 g:mg x = some (.ref C)
 mak:PySem.W.makesIn K C = true
 kp:PySem.W.keepIn K (.ref C) = true
def IntG (mg:Str→Option Value) (x:Str) (n:Int):Prop:=∃ t,mg x = some (.int n t)
def KTup (K:PySem.W.Frag) (a:Addr) (xs:List V):Prop:=∃ o its n,K.lookup a = some o∧o.cls = .type "tuple"∧o.data = .seq its n∧its.size ≤ sizeLine∧Vals xs its.toList
theorem KTup.sq {K:PySem.W.Frag} {a:Addr} {xs:List V} (h:KTup K a xs) (H:Hp):SqT K H a xs:=.inr h
def DTup (K:PySem.W.Frag) (a:Addr) (kts:List (Int × List V)):Prop:=∃ kvs,KD K a kvs∧Paired (fun (t:Int × List V) (v:Int × V)=>t.1 = v.1∧∃ p,v.2 = .ref p∧KTup K p t.2) kts kvs
def DFn (K:PySem.W.Frag) (mg:Str→Option Value) (a:Addr) (kns:List (Int × Str)):Prop:=∃ kvs,KD K a kvs∧Paired (fun (n:Int × Str) (v:Int × V)=>n.1 = v.1∧∃ f,v.2 = .ref f∧mg n.2 = some (.ref f)) kns kvs
def basicKV:List (Int × V):=[(66,.int 1),(67,.int 1),(68,.int 2),(70,.int 1),(73,.int 1),(74,.int 2),(83,.int 1),(90,.int 1)]
def handledT:List (Int × List V):=[(1,[.int 9]),(2,[.int 9]),(3,[.int 9]),(4,[.int 9]),(5,[.int 10]),(6,[.int 10,.int 11]),(7,[.int 10,.int 11]),(8,[.int 10]),(9,[.int 11])]
def widthsT:List (Int × List V):=[(1,[.int 2,.int 0]),(3,[.int 4,.int 0]),(4,[.int 4,.int 0]),(5,[.int 8,.int 0]),(6,[.int 8,.int 0]),(7,[.int 2,.int 0]),(8,[.int 2,.int 0]),(9,[.int 2,.int 2]),(10,[.int 2,.int 2]),(11,[.int 2,.int 2]),
 (12,[.int 2,.int 2]),(15,[.int 1,.int 2]),(16,[.int 2,.int 0]),(18,[.int 2,.int 2])]
def formsT:List (Int × List V):=[(1,[.int 0,.int 1]),(2,[.int 0,.int 1]),(3,[.int 0,.int 0]),(4,[.int 1,.int 0]),(5,[.int 1,.int 0]),(6,[.int 1,.int 0]),(7,[.int 1,.int 0]),(8,[.int 1,.int 0]),(9,[.int 1,.int 0]),(10,[.int 2,.int 0]),
 (11,[.int 3,.int 0]),(12,[.int 1,.int 0]),(13,[.int 1,.int 2]),(14,[.int 1,.int 0]),(15,[.int 1,.int 0]),(16,[.int 1,.int 0])]
def checksN:List (Int × Str):=[(7,"check_class"),(8,"check_string"),(9,"check_field"),(10,"check_method"),(11,"check_method"),(12,"check_named"),(15,"check_handle"),(16,"check_signature"),(18,"check_call_site")]
def tellersN:List (Int × Str):=[(1,"tell_text"),(7,"tell_first"),(8,"tell_first"),(9,"tell_owned"),(10,"tell_owned"),(11,"tell_owned"),(12,"tell_named"),(16,"tell_first"),(18,"tell_call_site")]
def answersN:List (Int × Str):=[(3,"answer_head"),(4,"answer_count"),(5,"answer_face"),(6,"answer_tag"),(7,"answer_text"),(8,"answer_number"),(9,"answer_pair"),(10,"answer_member"),(11,"answer_attr"),(12,"answer_code"),(13,"answer_find"),(14,"answer_slots"),(15,"answer_uses"),(16,"answer_told")]
structure Txt (K:PySem.W.Frag) (mg:Str→Option Value) (A:Adr):Prop where
 kx:∃ h,K.In h∧h.Ns mainGlobals mg
 xRB:XCls K A.cRB A.nRB
 xTM:XCls K A.cTM A.nTM
 xNF:XCls K A.cNF A.nNF
 xNT:XCls K A.cNT A.nNT
 gRB:mg "RuleBroken" = some (.ref A.cRB)
 gTM:mg "TooManyBytes" = some (.ref A.cTM)
 gNF:mg "NoFileHeld" = some (.ref A.cNF)
 gNT:mg "NotThere" = some (.ref A.cNT)
 cur:Kl K A.cCur kCur
 att:Kl K A.cAtt kAtt
 bod:Kl K A.cBod kBod
 mem:Kl K A.cMem kMem
 con:Kl K A.cCon kCon
 poo:Kl K A.cPoo kPoo
 fil:Kl K A.cFil kFil
 des:Kl K A.cDes kDes
 lis:Kl K A.cLis kLis
 mCur:Mk1 K mg "Cursor" A.cCur
 mAtt:Mk1 K mg "Attribute" A.cAtt
 mBod:Mk1 K mg "Body" A.cBod
 mMem:Mk1 K mg "Member" A.cMem
 mCon:Mk1 K mg "Constant" A.cCon
 mPoo:Mk1 K mg "Pool" A.cPoo
 mFil:Mk1 K mg "ClassFile" A.cFil
 mDes:Mk1 K mg "Desk" A.cDes
 mLis:Mk1 K mg "CallList" A.cLis
 nLen:mg "len" = none
 nOrd:mg "ord" = none
 nAny:mg "any" = none
 nAll:mg "all" = none
 nTup:mg "tuple" = none
 nEnu:mg "enumerate" = none
 rbS:NoX K A.nRB "__setattr__"
 rbR:NoX K A.nRB "rule"
 rbP:NoX K A.nRB "place"
 rbG:NoX K A.nRB "__getattribute__"
 rbA:NoX K A.nRB "__getattr__"
 tmI:NoX K A.nTM "__init__"
 nfI:NoX K A.nNF "__init__"
 ntI:NoX K A.nNT "__init__"
 g_MOST_DIMENSIONS:IntG mg "MOST_DIMENSIONS" 255
 g_MOST_SLOTS:IntG mg "MOST_SLOTS" 255
 g_TEXT:IntG mg "TEXT" 1
 g_INTEGER:IntG mg "INTEGER" 3
 g_FLOATING:IntG mg "FLOATING" 4
 g_LONG:IntG mg "LONG" 5
 g_DOUBLE:IntG mg "DOUBLE" 6
 g_CLASS:IntG mg "CLASS" 7
 g_STRING:IntG mg "STRING" 8
 g_METHOD:IntG mg "METHOD" 10
 g_NAMED:IntG mg "NAMED" 12
 g_OF_FIELD:IntG mg "OF_FIELD" 1
 g_OF_METHOD:IntG mg "OF_METHOD" 2
 g_OF_FILE:IntG mg "OF_FILE" 3
 g_OF_CODE:IntG mg "OF_CODE" 4
 g_MOST_CODE:IntG mg "MOST_CODE" 65535
 g_FINAL_VOLATILE:IntG mg "FINAL_VOLATILE" 80
 g_ABSTRACT_members:IntG mg "ABSTRACT_members" 1024
 g_NOT_ABSTRACT:IntG mg "NOT_ABSTRACT" 2362
 g_WITHOUT_CODE:IntG mg "WITHOUT_CODE" 1280
 g_MAGIC:IntG mg "MAGIC" 3405691582
 g_FIRST_MAJOR:IntG mg "FIRST_MAJOR" 45
 g_LAST_MAJOR:IntG mg "LAST_MAJOR" 65
 g_FINAL:IntG mg "FINAL" 16
 g_INTERFACE:IntG mg "INTERFACE" 512
 g_ABSTRACT_whole:IntG mg "ABSTRACT_whole" 1024
 g_READ:IntG mg "READ" 1
 g_JUDGE:IntG mg "JUDGE" 2
 g_MOST_BYTES:IntG mg "MOST_BYTES" 4096
 gBS:mg "BASIC_SLOTS" = some (.ref A.aBS)
 dBS:KD K A.aBS basicKV
 gHD:mg "HANDLED" = some (.ref A.aHD)
 dHD:DTup K A.aHD handledT
 gWI:mg "WIDTHS" = some (.ref A.aWI)
 dWI:DTup K A.aWI widthsT
 gFO:mg "FORMS" = some (.ref A.aFO)
 dFO:DTup K A.aFO formsT
 gCH:mg "CHECKS" = some (.ref A.aCH)
 dCH:DFn K mg A.aCH checksN
 gTE:mg "TELLERS" = some (.ref A.aTE)
 dTE:DFn K mg A.aTE tellersN
 gAN:mg "ANSWERS" = some (.ref A.aAN)
 dAN:DFn K mg A.aAN answersN
 gFN:mg "FIRST_NAMES" = some (.ref A.aFN)
 dFN:KTup K A.aFN [.int 7,.int 8,.int 9,.int 10,.int 11,.int 12,.int 16]
 gSN:mg "SECOND_NAMES" = some (.ref A.aSN)
 dSN:KTup K A.aSN [.int 9,.int 10,.int 11,.int 12,.int 15,.int 18]
 gPA:mg "PAIRED" = some (.ref A.aPA)
 dPA:KTup K A.aPA [.int 7,.int 8,.int 9,.int 10,.int 11,.int 12,.int 15,.int 16,.int 18]
section
variable {X:Cx} {x:Str} {p:Pos}
theorem pe_gi {n:Int} (h:IntG X.mg x n) (hg:Gl X x) (hd:(x == ("__debug__":Str)) = false:=by decide):PE X (.Name x p) (tC (.int n)):=by
 obtain ⟨t,e⟩:=h
 exact pe_glob hg e ⟨t,rfl⟩ hd
end
def top (i:Nat):Stmt:=PySem.Challenge.pw_classfiles_s01_answers.main.body.getD i (.Pass ⟨0,0,0,0⟩)
def bv (b:List UInt8):List V:=b.map fun c=>V.int (c.toNat:Int)
theorem bv_len (b:List UInt8):(bv b).length = b.length:=by unfold bv; rw [List.length_map]
def rb (r p:Int):List (Str × V):=[("rule",.int r),("place",.int p)]
def Fails (A:Adr) (W:List Addr) (H:Hp) (E:XK) (r p:Int):Prop:=∀ H' d,But W H H'→H' d = some (XD d (rb r p))→E (.ref A.cRB) (some d) H'
theorem Fails.next {A:Adr} {W W':List Addr} {H H1:Hp} {E:XK} {r p:Int} (f:Fails A W H E r p) (b:But W H H1) (h:∀ x ∈ W',x ∈ W):Fails A W' H1 E r p:=fun H' d b' e =>
 f H' d (b.trans (b'.mono h)) e
theorem Fails.same {A:Adr} {W:List Addr} {H H1:Hp} {E:XK} {r p:Int} (f:Fails A W H E r p) (b:Same H H1):Fails A W H1 E r p:=f.next (Same.but b) fun _ h=>h
def CurIs (A:Adr) (H:Hp) (c a:Addr) (p:Nat):Prop:=∃ dx,H c = some (.ins A.cCur dx (kCur.zip [.ref a,.int (p:Int)]))
structure St (A:Adr) (S H:Hp) (c a:Addr) (b:List UInt8) (p:Nat):Prop where
 le:Same S H
 nc:S c = none
 ct:S a = some (.lst (bv b))
 cu:CurIs A H c a p
theorem St.step {A:Adr} {S H H1:Hp} {c a:Addr} {b:List UInt8} {p q:Nat} (h:St A S H c a b p) (bt:But [c] H H1) (cu:CurIs A H1 c a q):St A S H1 c a b q:=⟨but1 bt h.le h.nc,h.nc,h.ct,cu⟩
theorem St.same {A:Adr} {S H H1:Hp} {c a:Addr} {b:List UInt8} {p:Nat} (h:St A S H c a b p) (s:Same H H1):St A S H1 c a b p :=
 ⟨h.le.trans s,h.nc,h.ct,let ⟨dx,e⟩:=h.cu; ⟨dx,s _ _ e⟩⟩
theorem St.grow {A:Adr} {S H S1 H1:Hp} {c a:Addr} {b:List UInt8} {p q:Nat} (h:St A S H c a b p) (g:Grow S H S1 H1) (cu:CurIs A H1 c a q):St A S1 H1 c a b q :=
 ⟨g.up,g.new c (let ⟨_,e⟩:=h.cu; isSome_of e) h.nc,g.le _ _ h.ct,cu⟩
def CoAt (A:Adr) (S:Hp) (k:Addr) (p:Nat) (c:CfFile.Const):Prop:=∃ dk,S k = some (.ins A.cCon dk (kCon.zip [.int (c.tag:Int),.int (p:Int),.int (fst p c:Int),.int (snd c:Int)]))
def CoIs (A:Adr) (S:Hp):Option (Nat × CfFile.Const)→V→Prop
 | none,v=>v = .non
 | some (p,c),v=>∃ k,v = .ref k∧CoAt A S k p c
structure PoolAt (A:Adr) (S:Hp) (q a:Addr) (b:List UInt8) (l:Pool):Prop where
 ob:∃ dx cl vs,S q = some (.ins A.cPoo dx (kPoo.zip [.ref a,.ref cl]))∧S cl = some (.lst vs)∧Paired (CoIs A S) l vs
 ct:S a = some (.lst (bv b))
 ok:AllOk b l
theorem co_up {A:Adr} {S S1:Hp} (s:Same S S1):∀ {o:Option (Nat × CfFile.Const)} {v:V},CoIs A S o v→CoIs A S1 o v
 | none,_,h=>h
 | some (_,_),_,⟨k,e,dk,h⟩=>⟨k,e,dk,s _ _ h⟩
theorem PoolAt.up {A:Adr} {S S1:Hp} {q a:Addr} {b:List UInt8} {l:Pool} (h:PoolAt A S q a b l) (s:Same S S1):PoolAt A S1 q a b l:=by
 obtain ⟨dx,cl,vs,h1,h2,h3⟩:=h.ob
 exact ⟨⟨dx,cl,vs,s _ _ h1,s _ _ h2,Paired.mapP h3 fun _ _ z=>co_up s z⟩,s _ _ h.ct,h.ok⟩
def AtAt (A:Adr) (S:Hp) (k:Addr) (x:Attr):Prop:=∃ dk,S k = some (.ins A.cAtt dk (kAtt.zip [.int (x.name:Int),.int (x.place:Int),.int (x.len:Int)]))
def AtsAt (A:Adr) (S:Hp) (la:Addr) (xs:List Attr):Prop:=∃ ks:List Addr,S la = some (.lst (ks.map V.ref))∧Paired (fun k x=>AtAt A S k x) ks xs
theorem AtAt.up {A:Adr} {S S1:Hp} {k:Addr} {x:Attr} (h:AtAt A S k x) (s:Same S S1):AtAt A S1 k x:=let ⟨dk,e⟩:=h; ⟨dk,s _ _ e⟩
theorem AtsAt.up {A:Adr} {S S1:Hp} {la:Addr} {xs:List Attr} (h:AtsAt A S la xs) (s:Same S S1):AtsAt A S1 la xs:=let ⟨ks,e,r⟩:=h; ⟨ks,s _ _ e,Paired.mapP r fun _ _ z=>z.up s⟩
def BoAt (A:Adr) (S:Hp) (k:Addr) (y:CfFile.Body):Prop:=∃ dk la,S k = some (.ins A.cBod dk (kBod.zip [.int (y.stack:Int),.int (y.locals:Int),.int (y.place:Int),.int (y.len:Int),.ref la]))∧AtsAt A S la y.attrs
theorem BoAt.up {A:Adr} {S S1:Hp} {k:Addr} {y:CfFile.Body} (h:BoAt A S k y) (s:Same S S1):BoAt A S1 k y:=let ⟨dk,la,e,r⟩:=h; ⟨dk,la,s _ _ e,r.up s⟩
def BoIs (A:Adr) (S:Hp):Option CfFile.Body→V→Prop
 | none,v=>v = .non
 | some y,v=>∃ k,v = .ref k∧BoAt A S k y
theorem BoIs.up {A:Adr} {S S1:Hp} (s:Same S S1):∀ {o:Option CfFile.Body} {v:V},BoIs A S o v→BoIs A S1 o v
 | none,_,h=>h
 | some _,_,⟨k,e,h⟩=>⟨k,e,h.up s⟩
def MeAt (A:Adr) (S:Hp) (l:Pool) (k:Addr) (m:Member):Prop:=∃ (dk la:Addr) (pl:Nat) (bo:V),S k = some (.ins A.cMem dk (kMem.zip [.int (pl:Int),.int (m.flags:Int),.int (m.nameAt:Int),.int (m.typeAt:Int),.ref la,bo])) ∧
 AtsAt A S la m.attrs∧BoIs A S m.body bo∧CfFile.textAt l m.nameAt = some m.name∧CfFile.textAt l m.typeAt = some m.type_
def MesAt (A:Adr) (S:Hp) (l:Pool) (lm:Addr) (ms:List Member):Prop:=∃ ks:List Addr,S lm = some (.lst (ks.map V.ref))∧Paired (fun k m=>MeAt A S l k m) ks ms
theorem MeAt.up {A:Adr} {S S1:Hp} {l:Pool} {k:Addr} {m:Member} (h:MeAt A S l k m) (s:Same S S1):MeAt A S1 l k m :=
 let ⟨dk,la,pl,bo,e,r1,r2,r3⟩:=h; ⟨dk,la,pl,bo,s _ _ e,r1.up s,BoIs.up s r2,r3⟩
theorem MesAt.up {A:Adr} {S S1:Hp} {l:Pool} {lm:Addr} {ms:List Member} (h:MesAt A S l lm ms) (s:Same S S1):MesAt A S1 l lm ms:=let ⟨ks,e,r⟩:=h; ⟨ks,s _ _ e,Paired.mapP r fun _ _ z=>z.up s⟩
structure FiAt (A:Adr) (S:Hp) (k:Addr) (x:File):Prop where
 ob:∃ dk q li lf lm la,S k = some (.ins A.cFil dk (kFil.zip [.int (x.minor:Int),.int (x.major:Int),.ref q,.int (x.flags:Int),.int (x.this_:Int),.int (x.super:Int),.ref li,.ref lf,.ref lm,.ref la])) ∧
  (∃ a,PoolAt A S q a x.bytes x.pool)∧S li = some (.lst (x.interfaces.map fun (i:Nat)=>V.int (i:Int)))∧MesAt A S x.pool lf x.fields∧MesAt A S x.pool lm x.methods∧AtsAt A S la x.attrs
theorem FiAt.up {A:Adr} {S S1:Hp} {k:Addr} {x:File} (h:FiAt A S k x) (s:Same S S1):FiAt A S1 k x:=by
 obtain ⟨dk,q,li,lf,lm,la,h1,⟨a,h2⟩,h3,h4,h5,h6⟩:=h.ob
 exact ⟨dk,q,li,lf,lm,la,s _ _ h1,⟨a,h2.up s⟩,s _ _ h3,h4.up s,h5.up s,h6.up s⟩
end Cf
namespace Cf
open PySem PySem.Spec PyProof.Rows L2
theorem lk_rule:typeLookup (.type "Exception") "rule" = pure none:=by rw [typeLookup_type,builtinLookup_eq_fast]; kernel_rfl
theorem lk_place:typeLookup (.type "Exception") "place" = pure none:=by rw [typeLookup_type,builtinLookup_eq_fast]; kernel_rfl
abbrev sRBI:Stmt:=inClass (top 1) 0
abbrev sDemand:Stmt:=top 5
def XSrc (K:PySem.W.Frag) (N:Addr):Prop:=∃ f fd,Fun K "__init__" "RuleBroken.__init__" sRBI f fd∧PySem.W.nsIn K N "__init__" = some (some (.ref f))∧PySem.W.isFn K (.ref f) = true
section
variable {P:Program} {w:World} {K:PySem.W.Frag} {mg:Str→Option Value} {base:Heap} {A:Adr}
theorem scRBI:FnScope ["self","rule","place"] ["self","rule","place"] (defScope sRBI):=scB
theorem ok_rbi {f:Addr} {fd:FuncData} (F:Fun K "__init__" "RuleBroken.__init__" sRBI f fd) (T:Txt K mg A):FnOk P w K mg base (CXR P w) 1 f fd ["self","rule","place"] (spXI A.cRB "rule" "place"):=by
 refine funR F scRBI (fun vs H Q E h=>?_) (fun cdv A' outer s H vs Q E hr h=>?_)
 ·obtain ⟨x,v1,v2,rfl,_⟩:=h
  rfl
 ·obtain ⟨x,v1,v2,rfl,hx,k⟩:=h
  refine ⟨_,pss_cons (ps_x0 T.xRB T.rbS T.rbR lk_rule (pv 0) (pv 1) rfl) (pss_one (ps_x1 T.xRB T.rbS T.rbP lk_place (pv 0) (pv 2) rfl)),?_⟩
  refine ⟨_,rfl,_,rfl,x,rfl,hx,fun d hd ne=>?_⟩
  refine ⟨_,rfl,_,rfl,x,d,_,rfl,upd_same,(by rw [upd_ne ne]; exact upd_same),ne,(by show 1 < 1000; decide),?_⟩
  have e1:putF "place" v2 [(("rule":Str),v1)] = ([("rule",v1),("place",v2)]:List (Str × V)):=by
   show (if ("rule":Str) = "place" then _ else _) = _
   rw [if_neg (by decide +kernel)]
   rfl
  have e2:upd (upd (upd H d (XD d [("rule",v1)])) x (X1 x A.cRB d)) d (XD d (putF "place" v2 [("rule",v1)])) = upd (upd H d (XD d [("rule",v1),("place",v2)])) x (X1 x A.cRB d):=by
   rw [e1]
   funext z
   by_cases zd:z = d
   ·subst zd; rw [upd_same,upd_ne ne,upd_same]
   ·rw [upd_ne zd]
    by_cases zx:z = x
    ·subst zx; rw [upd_same,upd_same]
    ·rw [upd_ne zx,upd_ne zx,upd_ne zd,upd_ne zd]
  show Q .non _
  rw [e2]
  exact k d hd ne
inductive spDemand (A:Adr) (vs:List V) (H:Hp) (Q:VK) (E:XK):Prop
 | mk (k:Bool) (r p:Int) (_:vs = [.bl k,.int r,.int p]) (_:if k = true then Q .non H else Fails A [] H E r p)
theorem scDem:FnScope ["kept","rule","place"] ["kept","rule","place"] (defScope sDemand):=scB
theorem d_demand (T:Txt K mg A) (src:Src K "demand" sDemand) (xs:XSrc K A.nRB):Def P w K mg base 3 "demand" ["kept","rule","place"] (spDemand A):=by
 obtain ⟨fI,fdI,FI,nI,iI⟩:=xs
 have GI:FnOk P w K mg base (CXR P w) 1 fI fdI ["self","rule","place"] (spXI A.cRB "rule" "place"):=ok_rbi FI T
 have bI:Binds K fdI ["self","rule","place"] []:=FI.binds fun _ _ _ _ _ _=>hb3 fun _ _ _=>rfl
 refine defR src T.kx scDem (fun vs H Q E h=>?_) (fun f cdv A' outer s H vs Q E hr h=>?_)
 ·obtain ⟨k,r,p,rfl,_⟩:=h
  rfl
 ·obtain ⟨k,r,p,rfl,h⟩:=h
  refine ⟨_,pss_one (ps_if (pt_not (pt_val (pv 0))) (pss_one (ps_raise2 T.xRB nI iI GI bI hr rfl T.gRB (pa_cons (pv 1) (pa_cons (pv 2) pa_nil)))) pss_nil),?_⟩
  refine ⟨_,rfl,k,rfl,?_⟩
  cases k with
  | true=>exact h
  | false =>
   refine ⟨_,rfl,_,rfl,_,_,rfl,fun d hd=>?_⟩
   exact h _ d (Same.but (same_new hd)) upd_same
end
abbrev sCurI:Stmt:=inClass (top 90) 0
abbrev sAttI:Stmt:=inClass (top 93) 0
abbrev sBodI:Stmt:=inClass (top 94) 0
abbrev sMemI:Stmt:=inClass (top 106) 0
abbrev sConI:Stmt:=inClass (top 117) 0
abbrev sPooI:Stmt:=inClass (top 118) 0
abbrev sFilI:Stmt:=inClass (top 129) 0
abbrev sDesI:Stmt:=inClass (top 140) 0
abbrev sLisI:Stmt:=inClass (top 141) 0
inductive spIni (C:Addr) (ks:List Str) (vs:List V) (H:Hp) (Q:VK) (E:XK):Prop
 | mk (x:Addr) (dx:Addr) (us:List V) (_:vs = .ref x :: us) (_:us.length = ks.length) (_:H x = some (.ins C dx [])) (_:Q .non (upd H x (.ins C dx (ks.zip us))))
theorem makego {C:Addr} {ks:List Str} {us:List V} {H:Hp} {Q:VK} {E:XK} (hl:us.length = ks.length) (q:∀ H' x dx,Same H H'→H x = none→H' x = some (.ins C dx (ks.zip us))→Q (.ref x) H') :
  ∀ x dx,H x = none→H dx = none→dx ≠ x→spIni C ks (.ref x :: (us ++ [])) (upd (upd H dx (.own x)) x (.ins C dx [])) (fun v H2=>v = .non∧Q (.ref x) H2) E:=fun x dx hx hd ne=>by
 rw [List.append_nil]
 refine ⟨x,dx,us,rfl,hl,upd_same,rfl,q _ x dx (fun b o e=>?_) hx upd_same⟩
 rw [upd_ne (ne_of_none e hx),upd_ne (ne_of_none e hx),upd_ne (ne_of_none e hd)]
 exact e
theorem len2 {α:Type} {l:List α} (h:l.length = 2):∃ a b,l = [a,b]:=match l,h with | [a,b],_=>⟨a,b,rfl⟩
theorem len3 {α:Type} {l:List α} (h:l.length = 3):∃ a b c,l = [a,b,c]:=match l,h with | [a,b,c],_=>⟨a,b,c,rfl⟩
theorem len4 {α:Type} {l:List α} (h:l.length = 4):∃ a b c d,l = [a,b,c,d]:=match l,h with | [a,b,c,d],_=>⟨a,b,c,d,rfl⟩
section
variable {P:Program} {w:World} {K:PySem.W.Frag} {mg:Str→Option Value} {base:Heap} {A:Adr}
theorem scCurI:FnScope ["self","content","place"] ["self","content","place"] (defScope sCurI):=scB
theorem d_curI (T:Txt K mg A) (src:MSrc K A.cCur "__init__" "Cursor.__init__" sCurI):MDef P w K mg base 1 A.cCur "__init__" ["self","content","place"] (spIni A.cCur kCur):=by
 refine mdefR src scCurI (fun vs H Q E h=>?_) (fun f cdv A' outer s H vs Q E hr h=>?_)
 ·obtain ⟨x,dx,us,rfl,hl,_⟩:=h
  show us.length + 1 = 3
  rw [hl]; rfl
 ·obtain ⟨x,dx,us,rfl,hl,hx,k⟩:=h
  obtain ⟨v1,v2,rfl⟩:=len2 hl
  refine ⟨_,pss_cons (ps_fld (pv 0) (pv 1) rfl) (pss_one (ps_fld (pv 0) (pv 2) rfl)),?_⟩
  refine ⟨_,rfl,_,rfl,initgo (vs:=[]) T.cur hx (i:=0) rfl rfl ?_⟩
  refine ⟨_,rfl,_,rfl,initgo (vs:=[v1]) T.cur upd_same (i:=1) rfl rfl ?_⟩
  rw [updu]
  exact k
theorem scPooI:FnScope ["self","content","constants"] ["self","content","constants"] (defScope sPooI):=scB
theorem d_pooI (T:Txt K mg A) (src:MSrc K A.cPoo "__init__" "Pool.__init__" sPooI):MDef P w K mg base 1 A.cPoo "__init__" ["self","content","constants"] (spIni A.cPoo kPoo):=by
 refine mdefR src scPooI (fun vs H Q E h=>?_) (fun f cdv A' outer s H vs Q E hr h=>?_)
 ·obtain ⟨x,dx,us,rfl,hl,_⟩:=h
  show us.length + 1 = 3
  rw [hl]; rfl
 ·obtain ⟨x,dx,us,rfl,hl,hx,k⟩:=h
  obtain ⟨v1,v2,rfl⟩:=len2 hl
  refine ⟨_,pss_cons (ps_fld (pv 0) (pv 1) rfl) (pss_one (ps_fld (pv 0) (pv 2) rfl)),?_⟩
  refine ⟨_,rfl,_,rfl,initgo (vs:=[]) T.poo hx (i:=0) rfl rfl ?_⟩
  refine ⟨_,rfl,_,rfl,initgo (vs:=[v1]) T.poo upd_same (i:=1) rfl rfl ?_⟩
  rw [updu]
  exact k
theorem scAttI:FnScope ["self","name","start","size"] ["self","name","start","size"] (defScope sAttI):=scB
theorem d_attI (T:Txt K mg A) (src:MSrc K A.cAtt "__init__" "Attribute.__init__" sAttI):MDef P w K mg base 1 A.cAtt "__init__" ["self","name","start","size"] (spIni A.cAtt kAtt):=by
 refine mdefR src scAttI (fun vs H Q E h=>?_) (fun f cdv A' outer s H vs Q E hr h=>?_)
 ·obtain ⟨x,dx,us,rfl,hl,_⟩:=h
  show us.length + 1 = 4
  rw [hl]; rfl
 ·obtain ⟨x,dx,us,rfl,hl,hx,k⟩:=h
  obtain ⟨v1,v2,v3,rfl⟩:=len3 hl
  refine ⟨_,pss_cons (ps_fld (pv 0) (pv 1) rfl) (pss_cons (ps_fld (pv 0) (pv 2) rfl) (pss_one (ps_fld (pv 0) (pv 3) rfl))),?_⟩
  refine ⟨_,rfl,_,rfl,initgo (vs:=[]) T.att hx (i:=0) rfl rfl ?_⟩
  refine ⟨_,rfl,_,rfl,initgo (vs:=[v1]) T.att upd_same (i:=1) rfl rfl ?_⟩
  refine ⟨_,rfl,_,rfl,initgo (vs:=[v1,v2]) T.att upd_same (i:=2) rfl rfl ?_⟩
  rw [updu,updu]
  exact k
theorem scConI:FnScope ["self","tag","place","first","second"] ["self","tag","place","first","second"] (defScope sConI):=scB
theorem d_conI (T:Txt K mg A) (src:MSrc K A.cCon "__init__" "Constant.__init__" sConI):MDef P w K mg base 1 A.cCon "__init__" ["self","tag","place","first","second"] (spIni A.cCon kCon):=by
 refine mdefR src scConI (fun vs H Q E h=>?_) (fun f cdv A' outer s H vs Q E hr h=>?_)
 ·obtain ⟨x,dx,us,rfl,hl,_⟩:=h
  show us.length + 1 = 5
  rw [hl]; rfl
 ·obtain ⟨x,dx,us,rfl,hl,hx,k⟩:=h
  obtain ⟨v1,v2,v3,v4,rfl⟩:=len4 hl
  refine ⟨_,pss_cons (ps_fld (pv 0) (pv 1) rfl) (pss_cons (ps_fld (pv 0) (pv 2) rfl) (pss_cons (ps_fld (pv 0) (pv 3) rfl) (pss_one (ps_fld (pv 0) (pv 4) rfl)))),?_⟩
  refine ⟨_,rfl,_,rfl,initgo (vs:=[]) T.con hx (i:=0) rfl rfl ?_⟩
  refine ⟨_,rfl,_,rfl,initgo (vs:=[v1]) T.con upd_same (i:=1) rfl rfl ?_⟩
  refine ⟨_,rfl,_,rfl,initgo (vs:=[v1,v2]) T.con upd_same (i:=2) rfl rfl ?_⟩
  refine ⟨_,rfl,_,rfl,initgo (vs:=[v1,v2,v3]) T.con upd_same (i:=3) rfl rfl ?_⟩
  rw [updu,updu,updu]
  exact k
inductive spBodI (A:Adr) (vs:List V) (H:Hp) (Q:VK) (E:XK):Prop
 | mk (x:Addr) (dx:Addr) (v1:V) (v2:V) (v3:V) (v4:V) (_:vs = [.ref x,v1,v2,v3,v4]) (_:H x = some (.ins A.cBod dx [])) (_:∀ H' l,But [x] H H'→H l = none→H' l = some (.lst [])→H' x = some (.ins A.cBod dx (kBod.zip [v1,v2,v3,v4,.ref l]))→Q .non H')
theorem scBodI:FnScope ["self","stack","variables","start","size"] ["self","stack","variables","start","size"] (defScope sBodI):=scB
theorem d_bodI (T:Txt K mg A) (src:MSrc K A.cBod "__init__" "Body.__init__" sBodI):MDef P w K mg base 1 A.cBod "__init__" ["self","stack","variables","start","size"] (spBodI A):=by
 refine mdefR src scBodI (fun vs H Q E h=>?_) (fun f cdv A' outer s H vs Q E hr h=>?_)
 ·obtain ⟨x,dx,v1,v2,v3,v4,rfl,_⟩:=h
  rfl
 ·obtain ⟨x,dx,v1,v2,v3,v4,rfl,hx,k⟩:=h
  refine ⟨_,pss_cons (ps_fld (pv 0) (pv 1) rfl) (pss_cons (ps_fld (pv 0) (pv 2) rfl) (pss_cons (ps_fld (pv 0) (pv 3) rfl) (pss_cons (ps_fld (pv 0) (pv 4) rfl) (pss_one (ps_fld (pv 0) (pe_lst pa_nil) rfl))))),?_⟩
  refine ⟨_,rfl,_,rfl,initgo (vs:=[]) T.bod hx (i:=0) rfl rfl ?_⟩
  refine ⟨_,rfl,_,rfl,initgo (vs:=[v1]) T.bod upd_same (i:=1) rfl rfl ?_⟩
  refine ⟨_,rfl,_,rfl,initgo (vs:=[v1,v2]) T.bod upd_same (i:=2) rfl rfl ?_⟩
  refine ⟨_,rfl,_,rfl,initgo (vs:=[v1,v2,v3]) T.bod upd_same (i:=3) rfl rfl ?_⟩
  rw [updu,updu,updu]
  refine ⟨Nat.zero_le _,fun l hl=>?_⟩
  have nl:l ≠ x:=fun z=>by rw [z,upd_same] at hl; cases hl
  rw [upd_ne nl] at hl
  refine ⟨_,rfl,initgo (vs:=[v1,v2,v3,v4]) T.bod (by rw [upd_ne (Ne.symm nl)]; exact upd_same) (i:=4) rfl rfl ?_⟩
  refine k _ l (fun b o e n=>?_) hl (by rw [upd_ne nl]; exact upd_same) upd_same
  have nb:b ≠ x:=fun z=>n (by simp [z])
  rw [upd_ne nb,upd_ne (ne_of_none e hl),upd_ne nb]
  exact e
inductive spMemI (A:Adr) (vs:List V) (H:Hp) (Q:VK) (E:XK):Prop
 | mk (x:Addr) (dx:Addr) (v1:V) (v2:V) (v3:V) (v4:V) (_:vs = [.ref x,v1,v2,v3,v4]) (_:H x = some (.ins A.cMem dx [])) (_:∀ H' l,But [x] H H'→H l = none→H' l = some (.lst [])→H' x = some (.ins A.cMem dx (kMem.zip [v1,v2,v3,v4,.ref l,.non]))→Q .non H')
theorem scMemI:FnScope ["self","place","flags","name","descriptor"] ["self","place","flags","name","descriptor"] (defScope sMemI):=scB
theorem d_memI (T:Txt K mg A) (src:MSrc K A.cMem "__init__" "Member.__init__" sMemI):MDef P w K mg base 1 A.cMem "__init__" ["self","place","flags","name","descriptor"] (spMemI A):=by
 refine mdefR src scMemI (fun vs H Q E h=>?_) (fun f cdv A' outer s H vs Q E hr h=>?_)
 ·obtain ⟨x,dx,v1,v2,v3,v4,rfl,_⟩:=h
  rfl
 ·obtain ⟨x,dx,v1,v2,v3,v4,rfl,hx,k⟩:=h
  refine ⟨_,pss_cons (ps_fld (pv 0) (pv 1) rfl) (pss_cons (ps_fld (pv 0) (pv 2) rfl) (pss_cons (ps_fld (pv 0) (pv 3) rfl) (pss_cons (ps_fld (pv 0) (pv 4) rfl) (pss_cons (ps_fld (pv 0) (pe_lst pa_nil) rfl) (pss_one (ps_fld (pv 0) pe_non rfl)))))),?_⟩
  refine ⟨_,rfl,_,rfl,initgo (vs:=[]) T.mem hx (i:=0) rfl rfl ?_⟩
  refine ⟨_,rfl,_,rfl,initgo (vs:=[v1]) T.mem upd_same (i:=1) rfl rfl ?_⟩
  refine ⟨_,rfl,_,rfl,initgo (vs:=[v1,v2]) T.mem upd_same (i:=2) rfl rfl ?_⟩
  refine ⟨_,rfl,_,rfl,initgo (vs:=[v1,v2,v3]) T.mem upd_same (i:=3) rfl rfl ?_⟩
  rw [updu,updu,updu]
  refine ⟨Nat.zero_le _,fun l hl=>?_⟩
  have nl:l ≠ x:=fun z=>by rw [z,upd_same] at hl; cases hl
  rw [upd_ne nl] at hl
  refine ⟨_,rfl,initgo (vs:=[v1,v2,v3,v4]) T.mem (by rw [upd_ne (Ne.symm nl)]; exact upd_same) (i:=4) rfl rfl ?_⟩
  refine ⟨_,rfl,initgo (vs:=[v1,v2,v3,v4,.ref l]) T.mem upd_same (i:=5) rfl rfl ?_⟩
  rw [updu]
  refine k _ l (fun b o e n=>?_) hl (by rw [upd_ne nl]; exact upd_same) upd_same
  have nb:b ≠ x:=fun z=>n (by simp [z])
  rw [upd_ne nb,upd_ne (ne_of_none e hl),upd_ne nb]
  exact e
theorem scDesI:FnScope ["self"] ["self"] (defScope sDesI):=scB
inductive spDesI (A:Adr) (vs:List V) (H:Hp) (Q:VK) (E:XK):Prop
 | mk (x:Addr) (dx:Addr) (_:vs = [.ref x]) (_:H x = some (.ins A.cDes dx [])) (_:Q .non (upd H x (.ins A.cDes dx (kDes.zip [.non]))))
theorem d_desI (T:Txt K mg A) (src:MSrc K A.cDes "__init__" "Desk.__init__" sDesI):MDef P w K mg base 1 A.cDes "__init__" ["self"] (spDesI A):=by
 refine mdefR src scDesI (fun vs H Q E h=>?_) (fun f cdv A' outer s H vs Q E hr h=>?_)
 ·obtain ⟨x,dx,rfl,_⟩:=h
  rfl
 ·obtain ⟨x,dx,rfl,hx,k⟩:=h
  refine ⟨_,pss_one (ps_fld (pv 0) pe_non rfl),?_⟩
  exact ⟨_,rfl,initgo (vs:=[]) T.des hx (i:=0) rfl rfl k⟩
theorem scLisI:FnScope ["self","calls"] ["self","calls"] (defScope sLisI):=scB
inductive spLisI (A:Adr) (vs:List V) (H:Hp) (Q:VK) (E:XK):Prop
 | mk (x:Addr) (dx:Addr) (v:V) (_:vs = [.ref x,v]) (_:H x = some (.ins A.cLis dx [])) (_:Q .non (upd H x (.ins A.cLis dx (kLis.zip [v,.int 0]))))
theorem d_lisI (T:Txt K mg A) (src:MSrc K A.cLis "__init__" "CallList.__init__" sLisI):MDef P w K mg base 1 A.cLis "__init__" ["self","calls"] (spLisI A):=by
 refine mdefR src scLisI (fun vs H Q E h=>?_) (fun f cdv A' outer s H vs Q E hr h=>?_)
 ·obtain ⟨x,dx,v,rfl,_⟩:=h
  rfl
 ·obtain ⟨x,dx,v,rfl,hx,k⟩:=h
  refine ⟨_,pss_cons (ps_fld (pv 0) (pv 1) rfl) (pss_one (ps_fld (pv 0) pe_int rfl)),?_⟩
  refine ⟨_,rfl,_,rfl,initgo (vs:=[]) T.lis hx (i:=0) rfl rfl ?_⟩
  refine ⟨_,rfl,initgo (vs:=[v]) T.lis upd_same (i:=1) rfl rfl ?_⟩
  rw [updu]
  exact k
end
theorem bv_get (b:List UInt8) (i:Nat):(bv b)[i]? = (b[i]?).map fun c=>V.int (c.toNat:Int):=by unfold bv; rw [List.getElem?_map]
theorem bv_drop (b:List UInt8) (i:Nat):(bv b).drop i = bv (b.drop i):=by unfold bv; rw [List.map_drop]
theorem bv_take (b:List UInt8) (i:Nat):(bv b).take i = bv (b.take i):=by unfold bv; rw [List.map_take]
theorem bv_app (a b:List UInt8):bv (a ++ b) = bv a ++ bv b:=by unfold bv; rw [List.map_append]
theorem cut_nat {α:Type} (xs:List α) (i j:Nat):(xs.drop (min i xs.length)).take (min j xs.length - min i xs.length) = (xs.drop i).take (j - i):=by
 by_cases h:i ≤ xs.length
 ·rw [Nat.min_eq_left h]
  by_cases h2:j ≤ xs.length
  ·rw [Nat.min_eq_left h2]
  ·rw [Nat.min_eq_right (show xs.length ≤ j by omega),List.take_of_length_le (by rw [List.length_drop]; omega),List.take_of_length_le (by rw [List.length_drop]; omega)]
 ·rw [Nat.min_eq_right (show xs.length ≤ i by omega),List.drop_of_length_le (Nat.le_refl _),List.drop_of_length_le (show xs.length ≤ i by omega)]
  simp
theorem cutV_nat (xs:List V) (i j:Nat):cutV xs (some (i:Int)) (some (j:Int)) = (xs.drop i).take (j - i):=by
 unfold cutV
 rw [HT.sIx_nat,HT.sIx_nat]
 exact cut_nat xs i j
theorem cutV_to (xs:List V) (j:Nat):cutV xs none (some (j:Int)) = xs.take j:=by
 unfold cutV
 rw [HT.sIx_nat,HT.sIx_none]
 by_cases h:j ≤ xs.length
 ·rw [Nat.min_eq_left h]; rfl
 ·rw [Nat.min_eq_right (by omega),List.take_of_length_le (by simp),List.take_of_length_le (by omega)]; rfl
theorem cutV_from (xs:List V) (i:Nat):cutV xs (some (i:Int)) none = xs.drop i:=by
 unfold cutV
 rw [HT.sIx_nat,HT.sIx_none]
 by_cases h:i ≤ xs.length
 ·rw [Nat.min_eq_left h,List.take_of_length_le (by rw [List.length_drop]; omega)]
 ·rw [Nat.min_eq_right (by omega),List.drop_of_length_le (Nat.le_refl _),List.drop_of_length_le (by omega)]; simp
theorem cut_bv (b:List UInt8) (i j:Nat):cutV (bv b) (some (i:Int)) (some (j:Int)) = bv ((b.drop i).take (j - i)):=by rw [cutV_nat,bv_drop,bv_take]
theorem tk_snoc {α:Type} {l:List α} {i:Nat} {x:α} (h:l[i]? = some x):l.take (i + 1) = l.take i ++ [x]:=by
 rw [List.take_succ,h]; rfl
abbrev sSkip:Stmt:=inClass (top 90) 1
abbrev sUns:Stmt:=inClass (top 90) 2
inductive spSkip (A:Adr) (vs:List V) (H:Hp) (Q:VK) (E:XK):Prop
 | mk (c a:Addr) (b:List UInt8) (p n:Nat) (_:vs = [.ref c,.int (n:Int)]) (_:CurIs A H c a p) (_:H a = some (.lst (bv b))) (_:if p + n ≤ b.length then ∀ H',But [c] H H'→CurIs A H' c a (p + n)→Q (.int (p:Int)) H' else Fails A [] H E 1 p)
inductive spUns (A:Adr) (vs:List V) (H:Hp) (Q:VK) (E:XK):Prop
 | mk (c a:Addr) (b:List UInt8) (p n:Nat) (_:vs = [.ref c,.int (n:Int)]) (_:CurIs A H c a p) (_:H a = some (.lst (bv b))) (_:if p + n ≤ b.length then ∀ H',But [c] H H'→CurIs A H' c a (p + n)→Q (.int (CfFile.big b p n:Int)) H' else Fails A [] H E 1 p)
section
variable {P:Program} {w:World} {K:PySem.W.Frag} {mg:Str→Option Value} {base:Heap} {A:Adr}
theorem scSkip:FnScope ["self","size","start"] ["self","size"] (defScope sSkip):=scB
theorem d_skip (T:Txt K mg A) (src:MSrc K A.cCur "skip" "Cursor.skip" sSkip) (Dd:Def P w K mg base 3 "demand" ["kept","rule","place"] (spDemand A)):MDef P w K mg base 4 A.cCur "skip" ["self","size"] (spSkip A):=by
 refine mdefR src scSkip (fun vs H Q E h=>?_) (fun f cdv A' outer s H vs Q E hr h=>?_)
 ·obtain ⟨c,a,b,p,n,rfl,_⟩:=h
  rfl
 ·obtain ⟨c,a,b,p,n,rfl,⟨dx,hc⟩,ha,k⟩:=h
  refine ⟨_,pss_cons (ps_set (i:=2) scSkip.nd rfl (Or.inl rfl) (pe_fld (pv 0) rfl))
   (pss_cons (ps_expr (pe_d Dd hr rfl passR (pa_cons (pe_cmpR op_le (pe_op op_add (pv 2) (pv 1)) (pe_callB call_len_seq (by rfl) T.nLen PySem.boot_len (pa_cons (pe_fld (pv 0) rfl) pa_nil)) (nomark _)) (pa_cons pe_int (pa_cons (pv 2) pa_nil)))))
   (pss_cons (ps_fld (pv 0) (pe_op op_add (pv 2) (pv 1)) rfl)
   (pss_one (ps_ret (pv 2))))),?_⟩
  refine ⟨_,rfl,fldgo (fun _ _=>_) T.cur hc (i:=1) rfl rfl ?_⟩
  refine ⟨_,rfl,_,rfl,_,_,rfl,rfl,_,rfl,fldgo (fun _ _=>_) T.cur hc (i:=0) rfl rfl ⟨a,_,rfl,.inl (SqL.of ha),_,_,rfl,rfl,_,rfl,_,_,_,rfl,?_⟩⟩
  rw [bv_len]
  by_cases hle:p + n ≤ b.length
  ·rw [if_pos hle] at k
   rw [if_pos (decide_eq_true (by omega))]
   refine ⟨_,rfl,_,rfl,_,_,rfl,rfl,_,rfl,setgo T.cur hc (i:=1) rfl rfl ?_⟩
   refine ⟨_,rfl,k _ but_upd ⟨dx,?_⟩⟩
   rw [upd_same]
   rfl
  ·rw [if_neg hle] at k
   rw [if_neg (by rw [decide_eq_true_iff]; omega)]
   exact k
theorem scUns:FnScope ["self","width","start","value","byte"] ["self","width"] (defScope sUns):=scB
theorem d_uns (T:Txt K mg A) (src:MSrc K A.cCur "unsigned" "Cursor.unsigned" sUns) (Ds:MDef P w K mg base 4 A.cCur "skip" ["self","size"] (spSkip A)):MDef P w K mg base 5 A.cCur "unsigned" ["self","width"] (spUns A):=by
 refine mdefR src scUns (fun vs H Q E h=>?_) (fun f cdv A' outer s H vs Q E hr h=>?_)
 ·obtain ⟨c,a,b,p,n,rfl,_⟩:=h
  rfl
 ·obtain ⟨c,a,b,p,n,rfl,hcu,ha,k⟩:=h
  have ⟨dx,hc⟩:=hcu
  refine ⟨_,pss_cons (ps_set (i:=2) scUns.nd rfl (Or.inl rfl) (pe_md Ds (pv 0) T.cur.cl hr passR (pa_cons (pv 1) pa_nil)))
   (pss_cons (ps_set (i:=3) scUns.nd rfl (Or.inl rfl) pe_int)
   (pss_cons (ps_for ownR rfl (pi_list (pe_slice sl_list (pe_fld (pv 0) rfl) (po_some (pv 2)) (po_some (pe_op op_add (pv 2) (pv 1))))) (pg_name (i:=4) scUns.nd rfl (Or.inl rfl))
    (pss_one (ps_set (i:=3) scUns.nd rfl (Or.inl rfl) (pe_op op_add (pe_op op_mul (pv 3) pe_int) (pv 4)))))
   (pss_one (ps_ret (pv 3))))),?_⟩
  refine ⟨_,rfl,methgo hc (by decide +kernel) ⟨_,rfl,c,a,b,p,n,rfl,hcu,ha,?_⟩⟩
  by_cases hle:p + n ≤ b.length
  ·rw [if_pos hle] at k ⊢
   intro H1 b1 ⟨dx1,hc1⟩
   have na:a ≠ c:=ne_of ha hc (by intro z; cases z)
   have ha1:H1 a = some (.lst (bv b)):=b1 a _ ha (by simpa using na)
   refine ⟨_,rfl,?_⟩
   refine fldgo (fun _ _=>_) T.cur hc1 (i:=0) rfl rfl ?_
   refine ⟨_,rfl,_,rfl,_,rfl,_,rfl,_,_,rfl,rfl,_,rfl,a,_,rfl,SqL.of ha1,fun sl hsl=>?_⟩
   have ecut:cutV (bv b) (some (p:Int)) (some ((p:Int) + (n:Int))) = bv ((b.drop p).take n):=by
    have e:(p:Int) + (n:Int) = ((p + n:Nat):Int):=by omega
    rw [e,cut_bv,Nat.add_sub_cancel_left]
   rw [ecut]
   refine ⟨sl,rfl,⟨_,SqL.of upd_same⟩,for_list (K:=K) (a:=sl) (xs:=bv ((b.drop p).take n))
    (fun i σ H'=>∃ vb:Option V,σ = [some (.ref c),some (.int (n:Int)),some (.int (p:Int)),some (.int ((((b.drop p).take n).take i).foldl (fun x (c:UInt8)=>256 * x + c.toNat) 0:Nat)),vb]∧Same (upd H1 sl (.lst (bv ((b.drop p).take n)))) H')
    ⟨none,rfl,same_refl _⟩ (fun i σ H' _ ⟨_,_,s5⟩=>SqL.of (s5 _ _ upd_same)) ?_ ?_⟩
   ·rintro i y σ H' hi ⟨vb,rfl,s5⟩
    rw [bv_get] at hi
    obtain ⟨ch,hch,rfl⟩:=Option.map_eq_some_iff.mp hi
    refine ⟨_,rfl,_,_,rfl,rfl,.inr ⟨by decide,by decide⟩,_,rfl,_,_,rfl,rfl,?_⟩
    refine ⟨some (.int (ch.toNat:Int)),?_,s5⟩
    rw [tk_snoc hch,List.foldl_append]
    have e:∀ z:Nat,(z:Int) * 256 + (ch.toNat:Int) = ((256 * z + ch.toNat:Nat):Int):=fun z=>by omega
    exact congrArg (fun q=>[some (V.ref c),some (V.int (n:Int)),some (V.int (p:Int)),some (V.int q),some (V.int (ch.toNat:Int))]) (e _)
   ·rintro σ H' ⟨vb,rfl,s5⟩
    rw [bv_len,List.take_length]
    refine ⟨_,rfl,k H' (fun x o e nx=>s5 x o ?_) ⟨dx1,s5 _ _ ?_⟩⟩
    ·have e1:=b1 x o e nx
     rw [upd_ne (ne_of_none e1 hsl)]; exact e1
    ·rw [upd_ne (ne_of_none hc1 hsl)]; exact hc1
  ·rw [if_neg hle] at k ⊢
   exact k
end
abbrev sRowOf:Stmt:=top 10
abbrev sHasSign:Stmt:=top 11
def cv (x:Str):List V:=x.cps.toList.map fun (c:Nat)=>V.int (c:Int)
inductive spRowOf (vs:List V) (H:Hp) (Q:VK) (E:XK):Prop
 | mk (x:Str) (_:vs = [.str x]) (_:x.cps.size ≤ 1000) (_:∀ H' p,Same H H'→H' p = some (.lst (cv x))→Q (.ref p) H')
theorem small {n:Nat} (h:n ≤ 1000):n < sizeLine:=by rw [sizeLine_eq]; omega
section
variable {P:Program} {w:World} {K:PySem.W.Frag} {mg:Str→Option Value} {base:Heap} {A:Adr}
theorem scRowOf:FnScope ["word","sign"] ["word"] (defScope sRowOf):=scB
theorem d_rowof (T:Txt K mg A) (src:Src K "row_of" sRowOf):Def P w K mg base 1 "row_of" ["word"] spRowOf:=by
 refine defR src T.kx scRowOf (fun vs H Q E h=>?_) (fun f cdv A' outer s H vs Q E hr h=>?_)
 ·obtain ⟨x,rfl,_⟩:=h
  rfl
 ·obtain ⟨x,rfl,hz,k⟩:=h
  refine ⟨_,pss_one (ps_ret (pe_lc (own:=[("sign",1)]) rfl scRowOf.nd (pi_str (pv 0)) (blkOk_by (by show blkC ["word","sign"] (defScope sRowOf) _ [("sign",1)] = true; decide +kernel)) (fun s H C cl fp=>pg_name (i:=1) scRowOf.nd rfl (Or.inl rfl)) (fun s H C cl fp=>pts_nil)
   (fun s H C cl fp=>pe_callB call_ord (by rfl) T.nOrd PyProof.Rows.boot_ord (pa_cons (pv 1) pa_nil)))),?_⟩
  refine ⟨_,rfl,x,rfl,fun D hD=>?_⟩
  refine lc_str (x:=x) (fun i H'=>H' D = some (.lst ((x.cps.toList.take i).map fun (c:Nat)=>V.int (c:Int)))∧Same H H') ⟨upd_same,same_new hD⟩ ?_ ?_
  ·rintro i c H' hc ⟨h1,h2⟩
   refine ⟨rfl,?_⟩
   refine ⟨_,rfl,⟨#[c]⟩,rfl,rfl,_,h1,?_,upd_same.trans ?_,fun b o e=>?_⟩
   ·rw [List.length_map,List.length_take]
    exact small (Nat.le_trans (Nat.min_le_right _ _) (by simpa using hz))
   ·have hc':x.cps.toList[i]? = some c:=by simpa using hc
    rw [tk_snoc hc',List.map_append]
    rfl
   ·rw [upd_ne (ne_of_none e hD)]; exact h2 b o e
  ·rintro H' ⟨h1,h2⟩
   refine k H' D h2 ?_
   rw [h1]
   unfold cv
   rw [List.take_of_length_le (by simp)]
end
def bd (b:List UInt8):List PyData:=b.map fun c=>PyData.int (c.toNat:Int)
theorem dp_bv {K:PySem.W.Frag} {H:Hp}:∀ b:List UInt8,DpAll K H (bv b) (bd b)
 | []=>.nil
 | _ :: r=>.cons (.int _) (dp_bv r)
theorem eqv_bd:∀ s t:List UInt8,PyData.eqvAll (bd s) (bd t) = decide (s = t)
 | [],[]=>rfl
 | [],_ :: _=>rfl
 | _ :: _,[]=>rfl
 | x :: s,y :: t=>by
  show (((x.toNat:Int) == (y.toNat:Int)) && PyData.eqvAll (bd s) (bd t)) = _
  rw [eqv_bd s t]
  by_cases h:x = y
  ·subst h
   by_cases h2:s = t
   ·subst h2; simp
   ·simp [h2]
  ·have h':((x.toNat:Int) == (y.toNat:Int)) = false:=beq_eq_false_iff_ne.mpr fun z=>h (toNat_inj (by omega))
   rw [h',decide_eq_false fun z=>h (List.cons.inj z).1]
   rfl
theorem lay_bd:∀ b:List UInt8,PyData.canLayAll0 (bd b) = true
 | []=>rfl
 | _ :: r=>by
  show (true && PyData.canLayAll0 (bd r)) = true
  rw [lay_bd r]; rfl
theorem depth_bd:∀ b:List UInt8,PyData.depthAll (bd b) = 0
 | []=>rfl
 | _ :: r=>by
  show max 0 (PyData.depthAll (bd r)) = 0
  rw [depth_bd r]; rfl
theorem shaped_bd (b:List UInt8):SeqAt.shaped (.list (bd b)) = true:=by
 show (PyData.canLayAll0 (bd b) && decide (PyData.depthAll (bd b) + 1 ≤ 64)) = true
 rw [lay_bd,depth_bd]; rfl
def rEqB:R2:=fun x y H Q=>∃ (a b:Addr) (s t:List UInt8),x = .ref a∧y = .ref b∧H a = some (.lst (bv s))∧H b = some (.lst (bv t))∧Q (.bl (decide (s = t))) H
def rNeB:R2:=fun x y H Q=>∃ (a b:Addr) (s t:List UInt8),x = .ref a∧y = .ref b∧H a = some (.lst (bv s))∧H b = some (.lst (bv t))∧Q (.bl (!decide (s = t))) H
theorem op_eqB {X:Cx} (hu:X.A.units + 64 < cLine):OpR X (compareOp .Eq) rEqB:=by
 intro pins s σ H x y v u Q I rx ry h
 obtain ⟨a,b,s1,t1,rfl,rfl,h1,h2,q⟩:=h
 refine op_eqD hu pins s σ H _ _ v u Q I rx ry ⟨.list (bd s1),.list (bd t1),.lst (SqL.of h1) (dp_bv _),.lst (SqL.of h2) (dp_bv _),shaped_bd _,shaped_bd _,?_⟩
 rw [show PyData.eqv (.list (bd s1)) (.list (bd t1)) = decide (s1 = t1) from eqv_bd s1 t1]
 exact q
theorem op_neB {X:Cx} (hu:X.A.units + 64 < cLine):OpR X (compareOp .NotEq) rNeB:=by
 intro pins s σ H x y v u Q I rx ry h
 obtain ⟨a,b,s1,t1,rfl,rfl,h1,h2,q⟩:=h
 refine op_neD hu pins s σ H _ _ v u Q I rx ry ⟨.list (bd s1),.list (bd t1),.lst (SqL.of h1) (dp_bv _),.lst (SqL.of h2) (dp_bv _),shaped_bd _,shaped_bd _,?_⟩
 rw [show PyData.eqv (.list (bd s1)) (.list (bd t1)) = decide (s1 = t1) from eqv_bd s1 t1]
 exact q
theorem flat_bv (b:List UInt8):(bv b).all flatV = true:=by
 unfold bv; rw [List.all_map]; exact List.all_eq_true.mpr fun _ _=>rfl
theorem in_bv (c:Nat) (b:List UInt8):inV (.int (c:Int)) (bv b) = b.any fun d=>d.toNat == c:=by
 unfold inV bv
 rw [List.any_map]
 congr 1
 funext d
 show ((d.toNat:Int) == (c:Int)) = (d.toNat == c)
 by_cases h:d.toNat = c
 ·rw [h]; simp
 ·rw [beq_eq_false_iff_ne.mpr h,beq_eq_false_iff_ne.mpr fun z=>h (by omega)]
inductive spRow (g:List UInt8→V) (vs:List V) (H:Hp) (Q:VK) (E:XK):Prop
 | mk (a:Addr) (b:List UInt8) (_:vs = [.ref a]) (_:H a = some (.lst (bv b))) (_:∀ H',Same H H'→Q (g b) H')
theorem spRow.len {g:List UInt8→V} {vs:List V} {H:Hp} {Q:VK} {E:XK} (h:spRow g vs H Q E):vs.length = (["row"]:List Str).length:=by
 obtain ⟨a,b,rfl,_⟩:=h
 rfl
inductive spHas (vs:List V) (H:Hp) (Q:VK) (E:XK):Prop
 | mk (a:Addr) (b:List UInt8) (x:Str) (_:vs = [.ref a,.str x]) (_:H a = some (.lst (bv b))) (_:x.cps.size ≤ 1000) (_:∀ H',Same H H'→Q (.bl (sign x.cps.toList b)) H')
abbrev sSimple:Stmt:=top 15
abbrev sIsInit:Stmt:=top 16
abbrev sPlainM:Stmt:=top 17
abbrev sMethName:Stmt:=top 18
abbrev sIsArray:Stmt:=top 20
abbrev sGives:Stmt:=top 27
section
variable {P:Program} {w:World} {K:PySem.W.Frag} {mg:Str→Option Value} {base:Heap} {A:Adr}
theorem scHas:FnScope ["row","signs","sign"] ["row","signs"] (defScope sHasSign):=scB
theorem d_has (T:Txt K mg A) (src:Src K "has_sign" sHasSign):Def P w K mg base 1 "has_sign" ["row","signs"] spHas:=by
 refine defR src T.kx scHas (fun vs H Q E h=>?_) (fun f cdv A' outer s H vs Q E hr h=>?_)
 ·obtain ⟨a,b,x,rfl,_⟩:=h
  rfl
 ·obtain ⟨a,b,x,rfl,ha,hz,k⟩:=h
  refine ⟨_,pss_one (ps_ret (pe_callB (cr_any rfl) (by rfl) T.nAny PyProof.Rows.boot_any (pa_cons (pe_lc (own:=[("sign",2)]) rfl scHas.nd (pi_str (pv 1)) (blkOk_by (by show blkC ["row","signs","sign"] (defScope sHasSign) _ [("sign",2)] = true; decide +kernel))
   (fun s H C cl fp=>pg_name (i:=2) scHas.nd rfl (Or.inl rfl)) (fun s H C cl fp=>pts_nil)
   (fun s H C cl fp=>pe_cmpR (show OpR _ (compareOp .In) (rIn K false) from op_in_seq) (pe_callB call_ord (by rfl) T.nOrd PyProof.Rows.boot_ord (pa_cons (pv 2) pa_nil)) (pv 0) rfl)) pa_nil))),?_⟩
  refine ⟨_,rfl,x,rfl,fun D hD=>?_⟩
  refine lc_str (x:=x) (fun i H'=>H' D = some (.lst (((x.cps.toList.take i).map fun (c:Nat)=>b.any fun d=>d.toNat == c).map V.bl))∧Same H H') ⟨upd_same,same_new hD⟩ ?_ ?_
  ·rintro i c H' hc ⟨h1,h2⟩
   refine ⟨rfl,?_⟩
   refine ⟨_,rfl,⟨#[c]⟩,rfl,rfl,_,rfl,a,_,rfl,.inl (SqL.of (h2 _ _ ha)),rfl,flat_bv b,_,h1,?_,upd_same.trans ?_,fun b' o e=>?_⟩
   ·rw [List.length_map,List.length_map,List.length_take]
    exact small (Nat.le_trans (Nat.min_le_right _ _) (by simpa using hz))
   ·have hc':x.cps.toList[i]? = some c:=by simpa using hc
    rw [tk_snoc hc',List.map_append,List.map_append]
    show some (HO.lst (_ ++ [V.bl (inV (.int (c:Int)) (bv b))])) = _
    rw [in_bv]
    rfl
   ·rw [upd_ne (ne_of_none e hD)]; exact h2 b' o e
  ·rintro H' ⟨h1,h2⟩
   refine ⟨D,_,rfl,SqL.of h1,?_⟩
   rw [List.take_of_length_le (by simp)]
   have e:(List.map (fun (c:Nat)=>b.any fun d=>d.toNat == c) x.cps.toList).any id = sign x.cps.toList b:=by
    unfold sign
    rw [List.any_map]
    rfl
   rw [e]
   exact k H' h2
theorem scSimple:FnScope ["row"] ["row"] (defScope sSimple):=scB
theorem d_simple (T:Txt K mg A) (src:Src K "is_simple_name" sSimple) (Dh:Def P w K mg base 1 "has_sign" ["row","signs"] spHas):Def P w K mg base 2 "is_simple_name" ["row"] (spRow fun b=>.bl (CfFile.simple b)):=by
 refine defR src T.kx scSimple (fun vs H Q E h=>h.len) (fun f cdv A' outer s H vs Q E hr h=>?_)
 obtain ⟨a,b,rfl,ha,k⟩:=h
 try dsimp only at k
 refine ⟨_,pss_one (ps_ret (pe_and (pe_cmpR op_gt (pe_callB call_len_seq (by rfl) T.nLen PySem.boot_len (pa_cons (pv 0) pa_nil)) pe_int (nomark _)) (pe_one (pe_not (pe_d Dh hr rfl passR (pa_cons (pv 0) (pa_cons pe_str pa_nil))))))),?_⟩
 refine ⟨_,rfl,a,_,rfl,.inl (SqL.of ha),_,_,rfl,rfl,_,rfl,?_⟩
 rw [bv_len]
 have es:CfFile.simple b = (decide (0 < b.length) && !sign [46,59,91,47] b):=simple_sign b
 by_cases h0:0 < b.length
 ·rw [if_pos (decide_eq_true (by omega))]
  refine ⟨_,rfl,a,b,_,rfl,ha,(by decide +kernel),fun H' s'=>⟨_,rfl,?_⟩⟩
  have e2:(".;[/":Str).cps.toList = [46,59,91,47]:=by decide +kernel
  rw [e2]
  rw [es,decide_eq_true h0] at k
  exact k H' s'
 ·rw [if_neg (by rw [decide_eq_true_iff]; omega)]
  rw [es,decide_eq_false h0] at k
  exact k H (same_refl H)
theorem scIsInit:FnScope ["row"] ["row"] (defScope sIsInit):=scB
theorem d_isinit (T:Txt K mg A) (src:Src K "is_init" sIsInit) (Dr:Def P w K mg base 1 "row_of" ["word"] spRowOf):Def P w K mg base 2 "is_init" ["row"] (spRow fun b=>.bl (decide (b = CfFile.ascii "<init>"))):=by
 refine defR src T.kx scIsInit (fun vs H Q E h=>h.len) (fun f cdv A' outer s H vs Q E hr h=>?_)
 obtain ⟨a,b,rfl,ha,k⟩:=h
 try dsimp only at k
 refine ⟨_,pss_one (ps_ret (pe_cmpR (op_eqB hr.units) (pv 0) (pe_d Dr hr rfl passR (pa_cons pe_str pa_nil)) (nomark _))),?_⟩
 refine ⟨_,rfl,_,rfl,(by decide +kernel),fun H' p s' hp=>⟨a,p,b,CfFile.ascii "<init>",rfl,rfl,s' _ _ ha,?_,k H' s'⟩⟩
 rw [hp,show cv "<init>" = bv (CfFile.ascii "<init>") by decide +kernel]
theorem scPlainM:FnScope ["row"] ["row"] (defScope sPlainM):=scB
def plainM (b:List UInt8):Bool:=CfFile.simple b && !sign [60,62] b
theorem d_plainM (T:Txt K mg A) (src:Src K "is_plain_method_name" sPlainM) (Dh:Def P w K mg base 1 "has_sign" ["row","signs"] spHas) (Ds:Def P w K mg base 2 "is_simple_name" ["row"] (spRow fun b=>.bl (CfFile.simple b))) :
  Def P w K mg base 3 "is_plain_method_name" ["row"] (spRow fun b=>.bl (plainM b)):=by
 refine defR src T.kx scPlainM (fun vs H Q E h=>h.len) (fun f cdv A' outer s H vs Q E hr h=>?_)
 obtain ⟨a,b,rfl,ha,k⟩:=h
 try dsimp only at k
 refine ⟨_,pss_one (ps_ret (pe_and (pe_d Ds hr rfl passR (pa_cons (pv 0) pa_nil)) (pe_one (pe_not (pe_d Dh (rm hr) rfl passR (pa_cons (pv 0) (pa_cons pe_str pa_nil))))))),?_⟩
 refine ⟨_,rfl,a,b,rfl,ha,fun H1 s1=>⟨_,rfl,?_⟩⟩
 unfold plainM at k
 cases e:CfFile.simple b with
 | false =>
  rw [e] at k
  exact k H1 s1
 | true =>
  rw [e] at k
  refine ⟨_,rfl,a,b,_,rfl,s1 _ _ ha,(by decide +kernel),fun H' s'=>⟨_,rfl,?_⟩⟩
  have e2:("<>":Str).cps.toList = [60,62]:=by decide +kernel
  rw [e2]
  exact k H' (s1.trans s')
theorem scMethName:FnScope ["row"] ["row"] (defScope sMethName):=scB
theorem methodName_eq (b:List UInt8):CfFile.methodName b = (plainM b || (decide (b = CfFile.ascii "<init>") || decide (b = CfFile.ascii "<clinit>"))):=by
 unfold CfFile.methodName plainM
 rw [plain_sign]
 have e:∀ x y:List UInt8,(x == y) = decide (x = y):=fun x y=>by
  by_cases h:x = y
  ·subst h; simp
  ·rw [decide_eq_false h]; exact beq_eq_false_iff_ne.mpr h
 rw [e,e]
 cases decide (b = CfFile.ascii "<init>") <;> cases decide (b = CfFile.ascii "<clinit>") <;> cases (CfFile.simple b && !sign [60,62] b) <;> rfl
theorem d_methName (T:Txt K mg A) (src:Src K "is_method_name" sMethName) (Dr:Def P w K mg base 1 "row_of" ["word"] spRowOf) (Dp:Def P w K mg base 3 "is_plain_method_name" ["row"] (spRow fun b=>.bl (plainM b)))
  (Di:Def P w K mg base 2 "is_init" ["row"] (spRow fun b=>.bl (decide (b = CfFile.ascii "<init>")))):Def P w K mg base 4 "is_method_name" ["row"] (spRow fun b=>.bl (CfFile.methodName b)):=by
 refine defR src T.kx scMethName (fun vs H Q E h=>h.len) (fun f cdv A' outer s H vs Q E hr h=>?_)
 obtain ⟨a,b,rfl,ha,k⟩:=h
 try dsimp only at k
 refine ⟨_,pss_one (ps_ret (pe_or (pe_d Dp hr rfl passR (pa_cons (pv 0) pa_nil)) (pe_or (pe_d Di (rm hr) rfl passR (pa_cons (pv 0) pa_nil)) (pe_one (pe_cmpR (op_eqB hr.units) (pv 0) (pe_d Dr (rm hr) rfl passR (pa_cons pe_str pa_nil)) (nomark _)))))),?_⟩
 rw [methodName_eq] at k
 refine ⟨_,rfl,a,b,rfl,ha,fun H1 s1=>⟨_,rfl,?_⟩⟩
 cases e:plainM b with
 | true =>
  rw [e] at k
  exact k H1 s1
 | false =>
  rw [e] at k
  refine ⟨_,rfl,a,b,rfl,s1 _ _ ha,fun H2 s2=>⟨_,rfl,?_⟩⟩
  by_cases e1:b = CfFile.ascii "<init>"
  ·rw [decide_eq_true e1] at k ⊢
   exact k H2 (s1.trans s2)
  ·rw [decide_eq_false e1] at k ⊢
   refine ⟨_,rfl,_,rfl,(by decide +kernel),fun H3 p s3 hp=>⟨a,p,b,CfFile.ascii "<clinit>",rfl,rfl,s3 _ _ (s2 _ _ (s1 _ _ ha)),?_,k H3 ((s1.trans s2).trans s3)⟩⟩
   rw [hp,show cv "<clinit>" = bv (CfFile.ascii "<clinit>") by decide +kernel]
theorem scIsArray:FnScope ["row"] ["row"] (defScope sIsArray):=scB
theorem take1 (b:List UInt8) (c:UInt8):decide (b.take 1 = [c]) = decide (b.head? = some c):=by
 cases b with
 | nil=>simp
 | cons x r=>simp
theorem d_isarr (T:Txt K mg A) (src:Src K "is_array" sIsArray) (Dr:Def P w K mg base 1 "row_of" ["word"] spRowOf):Def P w K mg base 2 "is_array" ["row"] (spRow fun b=>.bl (decide (b.head? = some 91))):=by
 refine defR src T.kx scIsArray (fun vs H Q E h=>h.len) (fun f cdv A' outer s H vs Q E hr h=>?_)
 obtain ⟨a,b,rfl,ha,k⟩:=h
 try dsimp only at k
 refine ⟨_,pss_one (ps_ret (pe_cmpR (op_eqB hr.units) (pe_slice sl_list (pv 0) po_none (po_some pe_int)) (pe_d Dr hr rfl passR (pa_cons pe_str pa_nil)) (nomark _))),?_⟩
 refine ⟨_,rfl,_,rfl,a,_,rfl,SqL.of ha,fun sl hsl=>?_⟩
 refine ⟨_,rfl,(by decide +kernel),fun H' p s' hp=>⟨sl,p,b.take 1,[91],rfl,rfl,(s' _ _ upd_same).trans ?_,?_,?_⟩⟩
 ·have e:cutV (bv b) none (some (1:Int)) = (bv b).take 1:=cutV_to (bv b) 1
  rw [e,bv_take]
 ·rw [hp,show cv "[" = bv [91] by decide +kernel]
 ·rw [take1]
  exact k H' ((same_new hsl).trans s')
theorem scGives:FnScope ["row"] ["row"] (defScope sGives):=scB
theorem last1 (b:List UInt8) (c:UInt8):decide (b.drop (b.length - 1) = [c]) = decide (b.getLast? = some c):=by
 have e:b.drop (b.length - 1) = b.getLast?.toList:=by
  rcases List.eq_nil_or_concat b with h | ⟨r,x,h⟩
  ·subst h; rfl
  ·subst h
   simp
 rw [e]
 cases b.getLast? with
 | none=>simp
 | some x=>simp
theorem d_gives (T:Txt K mg A) (src:Src K "gives_nothing" sGives) (Dr:Def P w K mg base 1 "row_of" ["word"] spRowOf):Def P w K mg base 2 "gives_nothing" ["row"] (spRow fun b=>.bl (decide (b.getLast? = some 86))):=by
 refine defR src T.kx scGives (fun vs H Q E h=>h.len) (fun f cdv A' outer s H vs Q E hr h=>?_)
 obtain ⟨a,b,rfl,ha,k⟩:=h
 try dsimp only at k
 refine ⟨_,pss_one (ps_ret (pe_cmpR (op_eqB hr.units) (pe_slice sl_list (pv 0) (po_some (pe_un un_neg pe_int)) po_none) (pe_d Dr hr rfl passR (pa_cons pe_str pa_nil)) (nomark _))),?_⟩
 refine ⟨_,rfl,_,rfl,_,rfl,a,_,rfl,SqL.of ha,fun sl hsl=>?_⟩
 refine ⟨_,rfl,(by decide +kernel),fun H' p s' hp=>⟨sl,p,b.drop (b.length - 1),[86],rfl,rfl,(s' _ _ upd_same).trans ?_,?_,?_⟩⟩
 ·have e:cutV (bv b) (some (-(1:Int))) none = (bv b).drop ((bv b).length - 1):=by
   unfold cutV
   have e1:HT.sIx (bv b).length 0 (some (-(1:Int))) = (bv b).length - 1:=by
    show (if (-(1:Int)) < 0 then (-(1:Int) + ((bv b).length:Int)).toNat else min (-(1:Int)).toNat (bv b).length) = _
    rw [if_pos (by decide)]
    omega
   rw [e1,HT.sIx_none,List.take_of_length_le (by rw [List.length_drop]; omega)]
  rw [e,bv_len,bv_drop]
 ·rw [hp,show cv "V" = bv [86] by decide +kernel]
 ·rw [last1]
  exact k H' ((same_new hsl).trans s')
end
abbrev sCharRow:Stmt:=top 12
abbrev sCharW:Stmt:=top 13
abbrev sTail:Stmt:=top 14
abbrev sClassName:Stmt:=top 19
theorem chain_go {lo x hi:Int} {i:Nat} {σ:L2.St} {H:Hp} {Q:VK} (h:σ[i]? = some (some (.int x))) (q:Q (.bl (decide (lo ≤ x) && decide (x ≤ hi))) H) :
  tChain (rI0 fun i j=>.bl (decide (i ≤ j))) (rI0 fun i j=>.bl (decide (i ≤ j))) (tC (.int lo)) (tVar i) (tC (.int hi)) σ H Q:=by
 refine ⟨_,h,_,_,rfl,rfl,_,rfl,?_⟩
 by_cases h1:lo ≤ x
 ·rw [decide_eq_true h1] at q ⊢
  exact ⟨_,_,rfl,rfl,q⟩
 ·rw [decide_eq_false h1] at q ⊢
  exact q
def tailOk (b:List UInt8) (s e:Nat):Bool:=decide (e ≤ b.length) && ((b.drop s).take (e - s)).all CfFile.goesOn
inductive spTail (vs:List V) (H:Hp) (Q:VK) (E:XK):Prop
 | mk (a:Addr) (b:List UInt8) (s e:Nat) (_:vs = [.ref a,.int (s:Int),.int (e:Int)]) (_:H a = some (.lst (bv b))) (_:(e - s) ≤ 1000) (_:∀ H',Same H H'→Q (.bl (tailOk b s e)) H')
inductive spCharW (vs:List V) (H:Hp) (Q:VK) (E:XK):Prop
 | mk (a:Addr) (b:List UInt8) (i:Nat) (_:vs = [.ref a,.int (i:Int)]) (_:H a = some (.lst (bv b))) (_:i < b.length) (_:∀ H',Same H H'→Q (.int (charW (b.drop i):Int)) H')
theorem goes_dec (c:UInt8):(decide ((128:Int) ≤ (c.toNat:Int)) && decide ((c.toNat:Int) ≤ 191)) = CfFile.goesOn c:=by
 unfold CfFile.goesOn
 congr 1
 ·exact decide_eq_decide.mpr (by omega)
 ·exact decide_eq_decide.mpr (by omega)
theorem tail2 {b:List UInt8} {i:Nat} {c:UInt8} {r:List UInt8} (h:b.drop i = c :: r):tailOk b (i + 1) (i + 2) = match r with | d :: _=>CfFile.goesOn d | []=>false:=by
 have hl:b.length - i = r.length + 1:=by rw [← List.length_drop,h]; rfl
 have hr:b.drop (i + 1) = r:=by rw [← List.drop_drop,h]; rfl
 unfold tailOk
 rw [hr,show i + 2 - (i + 1) = 1 by omega]
 cases r with
 | nil=>rw [decide_eq_false (by have:b.length - i = 1:=hl; omega)]; rfl
 | cons d q=>rw [decide_eq_true (by have:b.length - i = q.length + 1 + 1:=hl; omega)]; simp
theorem tail3 {b:List UInt8} {i:Nat} {c:UInt8} {r:List UInt8} (h:b.drop i = c :: r):tailOk b (i + 1) (i + 3) = match r with | d :: e :: _=>CfFile.goesOn d && CfFile.goesOn e | _=>false:=by
 have hl:b.length - i = r.length + 1:=by rw [← List.length_drop,h]; rfl
 have hr:b.drop (i + 1) = r:=by rw [← List.drop_drop,h]; rfl
 unfold tailOk
 rw [hr,show i + 3 - (i + 1) = 2 by omega]
 match r,hl with
 | [],hl=>rw [decide_eq_false (by have:b.length - i = 1:=hl; omega)]; rfl
 | [d],hl=>rw [decide_eq_false (by have:b.length - i = 2:=hl; omega)]; rfl
 | d :: e :: q,hl=>rw [decide_eq_true (by have:b.length - i = q.length + 1 + 1 + 1:=hl; omega)]; simp
section
variable {P:Program} {w:World} {K:PySem.W.Frag} {mg:Str→Option Value} {base:Heap} {A:Adr}
theorem scTail:FnScope ["row","start","end","byte"] ["row","start","end"] (defScope sTail):=scB
theorem d_tail (T:Txt K mg A) (src:Src K "are_tail_bytes" sTail):Def P w K mg base 1 "are_tail_bytes" ["row","start","end"] spTail:=by
 refine defR src T.kx scTail (fun vs H Q E h=>?_) (fun f cdv A' outer s H vs Q E hr h=>?_)
 ·obtain ⟨a,b,i,j,rfl,_⟩:=h
  rfl
 ·obtain ⟨a,b,i,j,rfl,ha,hz,k⟩:=h
  refine ⟨_,pss_one (ps_ret (pe_and (pe_cmpR op_le (pv 2) (pe_callB call_len_seq (by rfl) T.nLen PySem.boot_len (pa_cons (pv 0) pa_nil)) (nomark _)) (pe_one (pe_callB (cr_all rfl) (by rfl) T.nAll PyProof.Rows.boot_all
   (pa_cons (pe_lc (own:=[("byte",3)]) rfl scTail.nd (pi_list (pe_slice sl_list (pv 0) (po_some (pv 1)) (po_some (pv 2)))) (blkOk_by (by show blkC ["row","start","end","byte"] (defScope sTail) _ [("byte",3)] = true; decide +kernel))
    (fun s H C cl fp=>pg_name (i:=3) scTail.nd rfl (Or.inl rfl)) (fun s H C cl fp=>pts_nil) (fun s H C cl fp=>pe_chain op_le op_le pe_int (pv 3) pe_int)) pa_nil))))),?_⟩
  refine ⟨_,rfl,_,rfl,a,_,rfl,.inl (SqL.of ha),_,_,rfl,rfl,_,rfl,?_⟩
  rw [bv_len]
  unfold tailOk at k
  by_cases hj:j ≤ b.length
  ·rw [decide_eq_true (by omega)]
   rw [decide_eq_true hj] at k
   refine ⟨_,rfl,_,rfl,_,rfl,_,rfl,_,rfl,a,_,rfl,SqL.of ha,fun sl hsl=>?_⟩
   rw [cut_bv]
   refine ⟨sl,rfl,⟨_,SqL.of upd_same⟩,fun D hD=>?_⟩
   have nD:sl ≠ D:=fun z=>by rw [← z,upd_same] at hD; cases hD
   refine lc_list (K:=K) (a:=sl) (xs:=bv ((b.drop i).take (j - i))) (fun n H'=>H' D = some (.lst (((((b.drop i).take (j - i)).take n).map CfFile.goesOn).map V.bl))∧Same (upd H sl (.lst (bv ((b.drop i).take (j - i))))) H')
    ⟨upd_same,same_new hD⟩ (fun n H' _ h=>SqL.of (h.2 _ _ upd_same)) ?_ ?_
   ·rintro n y H' hn ⟨h1,h2⟩
    rw [bv_get] at hn
    obtain ⟨ch,hch,rfl⟩:=Option.map_eq_some_iff.mp hn
    refine ⟨rfl,?_⟩
    refine chain_go rfl ⟨_,h1,?_,upd_same.trans ?_,fun b' o e=>?_⟩
    ·rw [List.length_map,List.length_map,List.length_take,List.length_take]
     exact small (by omega)
    ·rw [goes_dec,tk_snoc hch,List.map_append,List.map_append]
     rfl
    ·rw [upd_ne (ne_of_none e hD)]; exact h2 b' o e
   ·rintro H' ⟨h1,h2⟩
    refine ⟨D,_,rfl,SqL.of h1,?_⟩
    rw [bv_len,List.take_length,List.all_map]
    exact k H' ((same_new hsl).trans h2)
  ·rw [decide_eq_false (by omega)]
   rw [decide_eq_false hj] at k
   exact k H (same_refl H)
theorem scCharW:FnScope ["row","at","first","value"] ["row","at"] (defScope sCharW):=scB
theorem d_charW (T:Txt K mg A) (src:Src K "character_width" sCharW) (Dt:Def P w K mg base 1 "are_tail_bytes" ["row","start","end"] spTail):Def P w K mg base 2 "character_width" ["row","at"] spCharW:=by
 refine defR src T.kx scCharW (fun vs H Q E h=>?_) (fun f cdv A' outer s H vs Q E hr h=>?_)
 ·obtain ⟨a,b,i,rfl,_⟩:=h
  rfl
 ·obtain ⟨a,b,i,rfl,ha,hi,k⟩:=h
  obtain ⟨c,r,hcr⟩:∃ c r,b.drop i = c :: r:=by
   cases e:b.drop i with
   | nil=>have:=List.length_drop (i:=i) (l:=b); rw [e] at this; simp at this; omega
   | cons c r=>exact ⟨c,r,rfl⟩
  have hc:b[i]? = some c:=by rw [← List.head?_drop,hcr]; rfl
  have hr1:b.drop (i + 1) = r:=by rw [← List.drop_drop,hcr]; rfl
  have t2:=tail2 hcr
  have t3:=tail3 hcr
  rw [hcr] at k
  refine ⟨_,pss_cons (ps_set (i:=2) scCharW.nd rfl (Or.inl rfl) (pe_ix ix_list (pv 0) (pv 1) (fun _ _=>rfl)))
   (pss_cons (ps_if (pt_chain op_le op_le pe_int (pv 2) pe_int) (pss_one (ps_ret pe_int)) pss_nil)
   (pss_cons (ps_if (ptw (pw_and (pt_chain op_le op_le pe_int (pv 2) pe_int) (pw_and1 (pt_val (pe_d Dt hr rfl passR (pa_cons (pv 0) (pa_cons (pe_op op_add (pv 1) pe_int) (pa_cons (pe_op op_add (pv 1) pe_int) pa_nil))))))))
    (pss_cons (ps_set (i:=3) scCharW.nd rfl (Or.inl rfl) (pe_op op_add (pe_op op_mul (pe_op op_mod (pv 2) pe_int) pe_int) (pe_op op_mod (pe_ix ix_list (pv 0) (pe_op op_add (pv 1) pe_int) (fun _ _=>rfl)) pe_int)))
     (pss_one (ps_ret (pe_ifExp (ptw (pw_or (pt_cmpR op_eq (pv 3) pe_int (nomark _)) (pw_or1 (pt_cmpR op_ge (pv 3) pe_int (nomark _))))) pe_int pe_int)))) pss_nil)
   (pss_cons (ps_if (ptw (pw_and (pt_chain op_le op_le pe_int (pv 2) pe_int) (pw_and1 (pt_val (pe_d Dt hr rfl passR (pa_cons (pv 0) (pa_cons (pe_op op_add (pv 1) pe_int) (pa_cons (pe_op op_add (pv 1) pe_int) pa_nil))))))))
    (pss_cons (ps_set (i:=3) scCharW.nd rfl (Or.inl rfl) (pe_op op_add (pe_op op_add (pe_op op_mul (pe_op op_mod (pv 2) pe_int) pe_int) (pe_op op_mul (pe_op op_mod (pe_ix ix_list (pv 0) (pe_op op_add (pv 1) pe_int) (fun _ _=>rfl)) pe_int) pe_int)) (pe_op op_mod (pe_ix ix_list (pv 0) (pe_op op_add (pv 1) pe_int) (fun _ _=>rfl)) pe_int)))
     (pss_one (ps_ret (pe_ifExp (pt_cmpR op_ge (pv 3) pe_int (nomark _)) pe_int pe_int)))) pss_nil)
   (pss_one (ps_ret pe_int))))),?_⟩
  exists _,z0
  refine ⟨_,rfl,_,rfl,a,_,_,_,rfl,rfl,SqL.of ha,atI_nat (v:=.int (c.toNat:Int)) (by rw [bv_get,hc]; rfl),?_⟩
  exists z0,z0
  refine chain_go rfl ⟨_,rfl,?_⟩
  by_cases h1:1 ≤ c.toNat∧c.toNat ≤ 127
  ·rw [decide_eq_true (by omega),decide_eq_true (by omega)]
   rw [charW_1 h1] at k
   exact k H (same_refl H)
  rw [show (decide ((1:Int) ≤ (c.toNat:Int)) && decide ((c.toNat:Int) ≤ 127)) = false by
   rw [← Bool.decide_and,decide_eq_false (by omega)]]
  exists z0,z0
  refine chain_go rfl ⟨_,rfl,?_⟩
  by_cases h2:192 ≤ c.toNat∧c.toNat ≤ 223
  ·rw [decide_eq_true (show (192:Int) ≤ (c.toNat:Int) by omega),decide_eq_true (show (c.toNat:Int) ≤ 223 by omega)]
   refine ⟨_,rfl,_,rfl,_,_,rfl,rfl,_,rfl,_,_,rfl,rfl,a,b,i + 1,i + 2,rfl,ha,(by omega),fun H1 s1=>⟨_,rfl,?_⟩⟩
   have no3:(decide ((224:Int) ≤ (c.toNat:Int)) && decide ((c.toNat:Int) ≤ 239)) = false:=by
    rw [← Bool.decide_and,decide_eq_false (by omega)]
   rw [t2]
   cases r with
   | nil =>
    rw [charW_2n h2] at k
    exists z0,z0
    refine chain_go rfl ⟨_,rfl,?_⟩
    rw [no3]
    exists z0
    exact k H1 s1
   | cons d q =>
    rw [charW_2 h2] at k
    dsimp only
    cases e:CfFile.goesOn d with
    | false =>
     rw [e,if_neg (by simp)] at k
     exists z0,z0
     refine chain_go rfl ⟨_,rfl,?_⟩
     rw [no3]
     exists z0
     exact k H1 s1
    | true =>
     rw [e] at k
     have hd:b[i + 1]? = some d:=by rw [← List.head?_drop,hr1]; rfl
     refine ⟨_,rfl,_,_,rfl,rfl,(by show (0:Int) < 32; decide),_,_,rfl,rfl,.inr ⟨by decide,by decide⟩,_,rfl,_,rfl,_,_,rfl,rfl,a,_,_,_,rfl,rfl,SqL.of (s1 _ _ ha),at_of (j:=i + 1) (v:=.int (d.toNat:Int)) rfl (by rw [bv_get,hd]; rfl),_,_,rfl,rfl,(by show (0:Int) < 64; decide),_,_,rfl,rfl,?_⟩
     refine ⟨_,rfl,rfl,_,rfl,?_⟩
     by_cases hz:c.toNat % 32 * 64 + d.toNat % 64 = 0
     ·rw [decide_eq_true (show V.int ((c.toNat:Int) % 32 * 64 + (d.toNat:Int) % 64) = V.int 0 from congrArg V.int (by omega))]
      rw [if_pos ⟨rfl,Or.inl hz⟩] at k
      exact k H1 s1
     ·rw [decide_eq_false (show ¬ V.int ((c.toNat:Int) % 32 * 64 + (d.toNat:Int) % 64) = V.int 0 from fun z=>hz (by injection z with z; omega))]
      refine ⟨_,rfl,_,_,rfl,rfl,_,rfl,?_⟩
      by_cases hy:128 ≤ c.toNat % 32 * 64 + d.toNat % 64
      ·rw [decide_eq_true (show (128:Int) ≤ (c.toNat:Int) % 32 * 64 + (d.toNat:Int) % 64 by omega)]
       rw [if_pos ⟨rfl,Or.inr hy⟩] at k
       exact k H1 s1
      ·rw [decide_eq_false (show ¬ (128:Int) ≤ (c.toNat:Int) % 32 * 64 + (d.toNat:Int) % 64 by omega)]
       rw [if_neg (fun z=>by rcases z.2 with y | y <;> omega)] at k
       exact k H1 s1
  ·rw [show (decide ((192:Int) ≤ (c.toNat:Int)) && decide ((c.toNat:Int) ≤ 223)) = false by
    rw [← Bool.decide_and,decide_eq_false (by omega)]]
   exists z0,z0
   refine chain_go rfl ⟨_,rfl,?_⟩
   by_cases h3:224 ≤ c.toNat∧c.toNat ≤ 239
   ·rw [decide_eq_true (show (224:Int) ≤ (c.toNat:Int) by omega),decide_eq_true (show (c.toNat:Int) ≤ 239 by omega)]
    refine ⟨_,rfl,_,rfl,_,_,rfl,rfl,_,rfl,_,_,rfl,rfl,a,b,i + 1,i + 3,rfl,ha,(by omega),fun H1 s1=>⟨_,rfl,?_⟩⟩
    rw [t3]
    match r,hr1,k with
    | [],_,k =>
     rw [charW_3n h3 (by simp)] at k
     exists z0
     exact k H1 s1
    | [d],_,k =>
     rw [charW_3n h3 (by simp)] at k
     exists z0
     exact k H1 s1
    | d :: e' :: q,hr1,k =>
     rw [charW_3 h3] at k
     dsimp only
     cases e:CfFile.goesOn d with
     | false =>
      rw [e,if_neg (by simp)] at k
      exists z0
      exact k H1 s1
     | true =>
      cases e2:CfFile.goesOn e' with
      | false =>
       rw [e2,if_neg (by simp)] at k
       exists z0
       exact k H1 s1
      | true =>
       rw [e,e2] at k
       have hd:b[i + 1]? = some d:=by rw [← List.head?_drop,hr1]; rfl
       have he:b[i + 2]? = some e':=by rw [show i + 2 = (i + 1) + 1 by omega,← List.getElem?_drop,hr1]; rfl
       refine ⟨_,rfl,_,_,rfl,rfl,(by show (0:Int) < 16; decide),_,_,rfl,rfl,.inr ⟨by decide,by decide⟩,
        _,rfl,_,rfl,_,_,rfl,rfl,a,_,_,_,rfl,rfl,SqL.of (s1 _ _ ha),at_of (j:=i + 1) (v:=.int (d.toNat:Int)) rfl (by rw [bv_get,hd]; rfl),_,_,rfl,rfl,(by show (0:Int) < 64; decide),_,_,rfl,rfl,.inr ⟨by decide,by decide⟩,_,_,rfl,rfl,
        _,rfl,_,rfl,_,_,rfl,rfl,a,_,_,_,rfl,rfl,SqL.of (s1 _ _ ha),at_of (j:=i + 2) (v:=.int (e'.toNat:Int)) rfl (by rw [bv_get,he]; rfl),_,_,rfl,rfl,(by show (0:Int) < 64; decide),_,_,rfl,rfl,?_⟩
       refine ⟨_,rfl,_,_,rfl,rfl,_,rfl,?_⟩
       by_cases hy:2048 ≤ c.toNat % 16 * 4096 + d.toNat % 64 * 64 + e'.toNat % 64
       ·rw [decide_eq_true (show (2048:Int) ≤ (c.toNat:Int) % 16 * 4096 + (d.toNat:Int) % 64 * 64 + (e'.toNat:Int) % 64 by omega)]
        rw [if_pos ⟨rfl,rfl,hy⟩] at k
        exact k H1 s1
       ·rw [decide_eq_false (show ¬ (2048:Int) ≤ (c.toNat:Int) % 16 * 4096 + (d.toNat:Int) % 64 * 64 + (e'.toNat:Int) % 64 by omega)]
        rw [if_neg (fun z=>hy z.2.2)] at k
        exact k H1 s1
   ·rw [show (decide ((224:Int) ≤ (c.toNat:Int)) && decide ((c.toNat:Int) ≤ 239)) = false by
     rw [← Bool.decide_and,decide_eq_false (by omega)]]
    rw [charW_0 h1 h2 h3] at k
    exists z0
    exact k H (same_refl H)
end
abbrev sFieldEnd:Stmt:=top 21
abbrev sClassEnd:Stmt:=top 22
abbrev sIsField:Stmt:=top 23
theorem pe_oc {X:Cx} {x:Str} {n j:Nat} {p p2 pos:Pos} (hg:Gl X "ord") (hm:X.mg "ord" = none) (h1:x.length = 1∧x.cps.getD 0 0 = n):PE X (.Call (.Name "ord" p) [.Constant (.str x) j p2] [] pos) (tC (.int (n:Int))):=by
 intro pins s σ H Q I h
 have hp:PE X (.Call (.Name "ord" p) [.Constant (.str x) j p2] [] pos) _:=pe_callB call_ord hg hm PyProof.Rows.boot_ord (pa_cons pe_str pa_nil)
 refine hp pins s σ H Q I ⟨x,rfl,h1.1,?_⟩
 rw [h1.2]
 exact h
theorem drop_at {b:List UInt8} {i:Nat} (h:i < b.length):∃ c,b[i]? = some c∧b.drop i = c :: b.drop (i + 1):=by
 refine ⟨b[i],by simp [h],?_⟩
 exact (List.drop_eq_getElem_cons h)
def oInt (s:Nat):Option Nat→V
 | some n=>.int ((s + n:Nat):Int)
 | none=>.non
inductive spEnd (g:List UInt8→Option Nat) (vs:List V) (H:Hp) (Q:VK) (E:XK):Prop
 | mk (a:Addr) (b:List UInt8) (i:Nat) (_:vs = [.ref a,.int (i:Int)]) (_:H a = some (.lst (bv b))) (_:i ≤ b.length) (_:∀ H',Same H H'→Q (oInt i (g (b.drop i))) H')
theorem tw_step {p:UInt8→Bool} {b:List UInt8} {i:Nat} {c:UInt8} {r:List UInt8} (h:b.drop i = c :: r) (hp:p c = true):(b.drop i).takeWhile p = c :: (b.drop (i + 1)).takeWhile p:=by
 have e:b.drop (i + 1) = r:=by rw [← List.drop_drop,h]; rfl
 rw [h,e,List.takeWhile_cons,hp]; rfl
theorem byte_all {p:UInt8→Prop} (h:∀ n:Fin 256,p (UInt8.ofNat n.val)) (c:UInt8):p c:=by
 have e:=h ⟨c.toNat,c.toNat_lt⟩
 rwa [UInt8.ofNat_toNat] at e
theorem basic_in (c:UInt8):(valK basicKV (c.toNat:Int)).isSome = decide (c ∈ basics) :=
 byte_all (p:=fun c=>(valK basicKV (c.toNat:Int)).isSome = decide (c ∈ basics)) (by decide +kernel) c
theorem basic_get (c:UInt8):(valK basicKV (c.toNat:Int)).getD (.int 1) = .int (slotOf c:Int) :=
 byte_all (p:=fun c=>(valK basicKV (c.toNat:Int)).getD (.int 1) = .int (slotOf c:Int)) (by decide +kernel) c
section
variable {P:Program} {w:World} {K:PySem.W.Frag} {mg:Str→Option Value} {base:Heap} {A:Adr}
theorem scCharRow:FnScope ["row","at","width"] ["row"] (defScope sCharRow):=scB
theorem d_charRow (T:Txt K mg A) (src:Src K "is_character_row" sCharRow) (Dw:Def P w K mg base 2 "character_width" ["row","at"] spCharW):Def P w K mg base 3 "is_character_row" ["row"] (spRow fun b=>.bl (CfFile.chars b.length b)):=by
 refine defR src T.kx scCharRow (fun vs H Q E h=>h.len) (fun f cdv A' outer s H vs Q E hr h=>?_)
 obtain ⟨a,b,rfl,ha,k⟩:=h
 try dsimp only at k
 refine ⟨_,pss_cons (ps_set (i:=1) scCharRow.nd rfl (Or.inl rfl) pe_int)
  (pss_cons (ps_while ownR (pt_cmpR op_lt (pv 1) (pe_callB call_len_seq (by rfl) T.nLen PySem.boot_len (pa_cons (pv 0) pa_nil)) (nomark _))
   (pss_cons (ps_set (i:=2) scCharRow.nd rfl (Or.inl rfl) (pe_d Dw hr rfl passR (pa_cons (pv 0) (pa_cons (pv 1) pa_nil))))
   (pss_cons (ps_if (pt_cmpR op_eq (pv 2) pe_int (nomark _)) (pss_one (ps_ret pe_bl)) pss_nil)
   (pss_one (ps_aug (i:=1) scCharRow.nd rfl (Or.inl rfl) (pv 2) ip_add)))))
  (pss_one (ps_ret pe_bl))),?_⟩
 refine ⟨fun m σ H'=>∃ (i:Nat) (v2:Option V),σ = [some (.ref a),some (.int (i:Int)),v2]∧m = b.length - i∧i ≤ b.length∧Same H H'∧∃ g,(b.drop i).length ≤ g∧CfFile.chars g (b.drop i) = CfFile.chars b.length b,
  ⟨b.length,0,none,rfl,rfl,Nat.zero_le _,same_refl H,b.length,by simp,rfl⟩,?_⟩
 rintro m σ H' ⟨i,v2,rfl,rfl,hi,s1,g,hg,hch⟩
 refine ⟨_,rfl,_,rfl,a,_,rfl,.inl (SqL.of (s1 _ _ ha)),_,_,rfl,rfl,_,rfl,?_⟩
 rw [bv_len]
 by_cases hlt:i < b.length
 ·rw [decide_eq_true (by omega)]
  obtain ⟨c,hc,hd⟩:=drop_at hlt
  obtain ⟨g',rfl⟩:∃ g',g = g' + 1:=⟨g - 1,by rw [hd,List.length_cons] at hg; omega⟩
  refine ⟨fun σ' H2=>∃ m',m' < b.length - i∧∃ (i:Nat) (v2:Option V),σ' = [some (.ref a),some (.int (i:Int)),v2]∧m' = b.length - i∧i ≤ b.length∧Same H H2∧∃ g,(b.drop i).length ≤ g∧CfFile.chars g (b.drop i) = CfFile.chars b.length b,fun _ _ h=>h,?_⟩
  exists _,z0
  refine ⟨_,rfl,_,rfl,a,b,i,rfl,s1 _ _ ha,hlt,fun H2 s2=>?_⟩
  exists z0,z0
  refine ⟨_,rfl,rfl,_,rfl,?_⟩
  rw [hd,chars_cons,← hd] at hch
  have hle:=charW_le (b.drop i)
  rw [List.length_drop] at hle hg
  by_cases h0:charW (b.drop i) = 0
  ·rw [if_pos h0] at hch
   rw [decide_eq_true (show V.int (charW (b.drop i):Int) = V.int 0 from congrArg V.int (by omega))]
   rw [← hch] at k
   exact k H2 (s1.trans s2)
  ·rw [if_neg h0,List.drop_drop] at hch
   rw [decide_eq_false (show ¬ V.int (charW (b.drop i):Int) = V.int 0 from fun z=>h0 (by injection z with z; omega))]
   exists z0
   refine ⟨_,rfl,_,rfl,_,_,rfl,rfl,b.length - (i + charW (b.drop i)),by omega,i + charW (b.drop i),some (.int (charW (b.drop i):Int)),rfl,rfl,by omega,s1.trans s2,g',?_,hch⟩
   rw [List.length_drop]; omega
 ·rw [decide_eq_false (by omega)]
  rw [List.drop_of_length_le (by omega),chars_nil] at hch
  rw [← hch] at k
  exact k H' s1
theorem scClassName:FnScope ["row","before","byte"] ["row"] (defScope sClassName):=scB
theorem d_className (T:Txt K mg A) (src:Src K "is_class_name" sClassName) (Dh:Def P w K mg base 1 "has_sign" ["row","signs"] spHas):Def P w K mg base 2 "is_class_name" ["row"] (spRow fun b=>.bl (CfFile.className b)):=by
 refine defR src T.kx scClassName (fun vs H Q E h=>h.len) (fun f cdv A' outer s H vs Q E hr h=>?_)
 obtain ⟨a,b,rfl,ha,k⟩:=h
 try dsimp only at k
 rw [className_walk] at k
 refine ⟨_,pss_cons (ps_set (i:=1) scClassName.nd rfl (Or.inl rfl) (pe_oc (n:=47) rfl T.nOrd (by decide +kernel)))
  (pss_cons (ps_for ownR rfl (pi_list (pv 0)) (pg_name (i:=2) scClassName.nd rfl (Or.inl rfl))
   (pss_cons (ps_if (ptw (pw_and (pt_cmpR op_eq (pv 2) (pe_oc (n:=47) rfl T.nOrd (by decide +kernel)) (nomark _)) (pw_and1 (pt_cmpR op_eq (pv 1) (pe_oc (n:=47) rfl T.nOrd (by decide +kernel)) (nomark _))))) (pss_one (ps_ret pe_bl)) pss_nil)
   (pss_one (ps_set (i:=1) scClassName.nd rfl (Or.inl rfl) (pv 2)))))
  (pss_one (ps_ret (pe_and (pe_cmpR op_ne (pv 1) (pe_oc (n:=47) rfl T.nOrd (by decide +kernel)) (nomark _)) (pe_one (pe_not (pe_d Dh hr rfl passR (pa_cons (pv 0) (pa_cons pe_str pa_nil))))))))),?_⟩
 refine ⟨_,rfl,a,rfl,⟨_,SqL.of ha⟩,for_list (K:=K) (a:=a) (xs:=bv b) (fun i σ H'=>∃ (pb:Nat) (vb:Option V),σ = [some (.ref a),some (.int (pb:Int)),vb]∧Same H H'∧slashes (decide (pb = 47)) (b.drop i) = slashes true b)
  ⟨47,none,rfl,same_refl H,rfl⟩ (fun i σ H' _ ⟨_,_,_,s5,_⟩=>SqL.of (s5 _ _ ha)) ?_ ?_⟩
 ·rintro i y σ H' hi ⟨pb,vb,rfl,s1,hs⟩
  rw [bv_get] at hi
  obtain ⟨ch,hch,rfl⟩:=Option.map_eq_some_iff.mp hi
  have hlt:i < b.length:=(List.getElem?_eq_some_iff.mp hch).1
  obtain ⟨c,hc,hd⟩:=drop_at hlt
  obtain rfl:ch = c:=Option.some.inj (hch.symm.trans hc)
  rw [hd] at hs
  refine ⟨_,rfl,rfl,_,rfl,?_⟩
  by_cases h47:ch = 47
  ·rw [decide_eq_true (show V.int (ch.toNat:Int) = V.int ((47:Nat):Int) by rw [h47]; rfl)]
   refine ⟨_,rfl,rfl,_,rfl,?_⟩
   by_cases hp:pb = 47
   ·rw [decide_eq_true (show V.int (pb:Int) = V.int ((47:Nat):Int) by rw [hp])]
    have e:slashes true b = false:=by rw [← hs,h47,decide_eq_true hp]; rfl
    rw [e] at k
    exact k H' s1
   ·rw [decide_eq_false (show ¬ V.int (pb:Int) = V.int ((47:Nat):Int) from fun z=>hp (by injection z with z; omega))]
    refine ⟨_,rfl,ch.toNat,some (.int (ch.toNat:Int)),rfl,s1,?_⟩
    rw [← hs,h47,decide_eq_false hp]
    rfl
  ·have hne:ch.toNat ≠ 47:=fun z=>h47 (toNat_inj z)
   rw [decide_eq_false (show ¬ V.int (ch.toNat:Int) = V.int ((47:Nat):Int) from fun z=>hne (by injection z with z; omega))]
   refine ⟨_,rfl,ch.toNat,some (.int (ch.toNat:Int)),rfl,s1,?_⟩
   rw [← hs,decide_eq_false hne]
   show _ = (if ch = 47 then _ else _)
   rw [if_neg h47]
 ·rintro σ H' ⟨pb,vb,rfl,s1,hs⟩
  rw [bv_len,List.drop_of_length_le (Nat.le_refl _)] at hs
  refine ⟨_,rfl,rfl,_,rfl,?_⟩
  by_cases hp:pb = 47
  ·rw [decide_eq_true (show V.int (pb:Int) = V.int ((47:Nat):Int) by rw [hp])]
   have e:slashes true b = false:=by rw [← hs,decide_eq_true hp]; rfl
   rw [e] at k
   exact k H' s1
  ·rw [decide_eq_false (show ¬ V.int (pb:Int) = V.int ((47:Nat):Int) from fun z=>hp (by injection z with z; omega))]
   have e:slashes true b = true:=by rw [← hs,decide_eq_false hp]; rfl
   rw [e] at k
   refine ⟨_,rfl,a,b,_,rfl,s1 _ _ ha,(by decide +kernel),fun H2 s2=>⟨_,rfl,?_⟩⟩
   have e2:(".;[":Str).cps.toList = [46,59,91]:=by decide +kernel
   rw [e2]
   exact k H2 (s1.trans s2)
theorem scClassEnd:FnScope ["row","start","at"] ["row","start"] (defScope sClassEnd):=scB
theorem tw_eq_take {b:List UInt8} {s i:Nat} {p:UInt8→Bool} (h:(b.drop s).takeWhile p = (b.drop s).take i ++ (b.drop (s + i)).takeWhile p) (hn:(b.drop (s + i)).takeWhile p = []):(b.drop s).takeWhile p = (b.drop s).take i:=by rw [h,hn,List.append_nil]
theorem tw_all {p:UInt8→Bool}:∀ {l:List UInt8},l.takeWhile p = l→∀ x ∈ l,p x = true
 | [],_,x,h=>by simp at h
 | c :: r,e,x,h=>by
  rw [List.takeWhile_cons] at e
  cases hp:p c with
  | false=>rw [hp] at e; simp at e
  | true =>
   rw [hp] at e
   rcases List.mem_cons.mp h with z | z
   ·rw [z]; exact hp
   ·exact tw_all (List.cons.inj e).2 x z
theorem d_classEnd (T:Txt K mg A) (src:Src K "class_end" sClassEnd) (Dc:Def P w K mg base 2 "is_class_name" ["row"] (spRow fun b=>.bl (CfFile.className b))):Def P w K mg base 3 "class_end" ["row","start"] (spEnd classLen):=by
 refine defR src T.kx scClassEnd (fun vs H Q E h=>?_) (fun f cdv A' outer s H vs Q E hr h=>?_)
 ·obtain ⟨a,b,i,rfl,_⟩:=h
  rfl
 obtain ⟨a,b,i0,rfl,ha,hi0,k⟩:=h
 refine ⟨_,pss_cons (ps_set (i:=2) scClassEnd.nd rfl (Or.inl rfl) (pv 1))
  (pss_cons (ps_while ownR (ptw (pw_and (pt_cmpR op_lt (pv 2) (pe_callB call_len_seq (by rfl) T.nLen PySem.boot_len (pa_cons (pv 0) pa_nil)) (nomark _)) (pw_and1 (pt_cmpR op_ne (pe_ix ix_list (pv 0) (pv 2) (fun _ _=>rfl)) (pe_oc (n:=59) rfl T.nOrd (by decide +kernel)) (nomark _)))))
   (pss_one (ps_aug (i:=2) scClassEnd.nd rfl (Or.inl rfl) pe_int ip_add)))
  (pss_cons (ps_if (ptw (pw_or (pt_cmpR op_eq (pv 2) (pe_callB call_len_seq (by rfl) T.nLen PySem.boot_len (pa_cons (pv 0) pa_nil)) (nomark _)) (pw_or1 (pt_not (pt_val (pe_d Dc hr rfl passR (pa_cons (pe_slice sl_list (pv 0) (po_some (pv 1)) (po_some (pv 2))) pa_nil))))))) (pss_one (ps_ret pe_non)) pss_nil)
  (pss_one (ps_ret (pe_op op_add (pv 2) pe_int))))),?_⟩
 exists _,z0
 refine ⟨_,rfl,?_⟩
 exists z0,z0
 refine ⟨fun m σ H'=>∃ (j:Nat),σ = [some (.ref a),some (.int (i0:Int)),some (.int ((i0 + j:Nat):Int))]∧m = b.length - (i0 + j)∧i0 + j ≤ b.length∧Same H H'∧(b.drop i0).takeWhile (fun d=>d != 59) = (b.drop i0).take j ++ (b.drop (i0 + j)).takeWhile (fun d=>d != 59),
  ⟨b.length - i0,0,rfl,rfl,hi0,same_refl H,by simp⟩,?_⟩
 rintro m σ H' ⟨j,rfl,rfl,hj,s1,htw⟩
 have out:(b.drop (i0 + j)).takeWhile (fun d=>d != 59) = []→(tSeq (tIfS (tOr (tTest (tOp rEq (tVar 2) (tCB (fun xs H Q=>∃ p ys,xs = [V.ref p]∧(SqL K H p ys ∨ SqT K H p ys)∧Q (V.int ys.length) H) (tCons (tVar 0) tNil)))) (tNot (tB (tCall (spRow fun b=>V.bl (CfFile.className b)) [] E (tCons (tSl (rSlL K) (tVar 0) (tPart (tVar 1)) (tPart (tVar 2))) tNil))))) (tRet (tC .non)) tNext) (tRet (tOp (rI0 fun i j=>.int (i + j)) (tVar 2) (tC (.int 1)))))
   { nx:=fun _ H'=>Q .non H',rt:=Q } [some (.ref a),some (.int (i0:Int)),some (.int ((i0 + j:Nat):Int))] H':=fun hn=>by
  have htk:=tw_eq_take htw hn
  exists _,z1
  refine ⟨_,rfl,_,rfl,a,_,rfl,.inl (SqL.of (s1 _ _ ha)),rfl,_,rfl,?_⟩
  rw [bv_len]
  by_cases he:i0 + j = b.length
  ·rw [decide_eq_true (congrArg V.int (by omega))]
   have hno:(59:UInt8) ∉ b.drop i0:=fun hm=>by
    have e:(b.drop i0).takeWhile (fun d=>d != 59) = b.drop i0:=by rw [htk,List.take_of_length_le (by rw [List.length_drop]; omega)]
    have:=tw_all e 59 hm
    simp at this
   have e:classLen (b.drop i0) = none:=by unfold classLen; rw [if_neg fun z=>hno z.1]
   rw [e] at k
   exact k H' s1
  ·rw [decide_eq_false (fun z=>he (by injection z with z; omega))]
   have hlt:i0 + j < b.length:=by omega
   obtain ⟨c,hc,hd⟩:=drop_at hlt
   have hc59:c = 59:=by
    rw [hd,List.takeWhile_cons] at hn
    by_cases z:c = 59
    ·exact z
    ·rw [if_pos (by simpa using z)] at hn; cases hn
   have hm:(59:UInt8) ∈ b.drop i0:=by
    rw [← hc59]
    refine List.mem_of_getElem? (i:=j) ?_
    rw [List.getElem?_drop]; exact hc
   refine ⟨_,rfl,_,rfl,_,rfl,_,rfl,_,rfl,a,_,rfl,SqL.of (s1 _ _ ha),fun sl hsl=>?_⟩
   refine ⟨sl,(b.drop i0).take j,rfl,upd_same.trans ?_,fun H2 s2=>⟨_,rfl,?_⟩⟩
   ·rw [cut_bv,Nat.add_sub_cancel_left]
   ·have hcl:classLen (b.drop i0) = if CfFile.className ((b.drop i0).take j) = true then some (j + 1) else none:=by
     unfold classLen
     rw [htk]
     have hl:((b.drop i0).take j).length = j:=by rw [List.length_take,List.length_drop]; omega
     rw [hl]
     by_cases z:CfFile.className ((b.drop i0).take j) = true
     ·rw [if_pos ⟨hm,z⟩,if_pos z]
     ·rw [if_neg fun y=>z y.2,if_neg z]
    rw [hcl] at k
    have s12:Same H H2:=s1.trans ((same_new hsl).trans s2)
    cases z:CfFile.className ((b.drop i0).take j) with
    | false =>
     rw [z] at k
     exact k H2 s12
    | true =>
     rw [z] at k
     exists z1
     refine ⟨_,rfl,_,_,rfl,rfl,?_⟩
     have e:(((i0 + j:Nat):Int) + 1) = ((i0 + (j + 1):Nat):Int):=by omega
     show Q (.int (((i0 + j:Nat):Int) + 1)) H2
     rw [e]
     exact k H2 s12
 refine ⟨_,rfl,_,rfl,a,_,rfl,.inl (SqL.of (s1 _ _ ha)),_,_,rfl,rfl,_,rfl,?_⟩
 rw [bv_len]
 by_cases hlt:i0 + j < b.length
 ·rw [decide_eq_true (by omega)]
  obtain ⟨c,hc,hd⟩:=drop_at hlt
  refine ⟨_,rfl,_,rfl,a,_,_,_,rfl,rfl,SqL.of (s1 _ _ ha),atI_nat (v:=.int (c.toNat:Int)) (by rw [bv_get,hc]; rfl),rfl,_,rfl,?_⟩
  by_cases h59:c = 59
  ·rw [decide_eq_true (show V.int (c.toNat:Int) = V.int ((59:Nat):Int) by rw [h59]; rfl)]
   exists z0
   exact out (by rw [hd,List.takeWhile_cons,h59]; rfl)
  ·rw [decide_eq_false (show ¬ V.int (c.toNat:Int) = V.int ((59:Nat):Int) from fun z=>h59 (toNat_inj (by injection z with z; show c.toNat = 59; omega)))]
   refine ⟨fun σ' H2=>∃ m',m' < b.length - (i0 + j)∧∃ (j:Nat),σ' = [some (.ref a),some (.int (i0:Int)),some (.int ((i0 + j:Nat):Int))]∧m' = b.length - (i0 + j)∧i0 + j ≤ b.length∧Same H H2∧(b.drop i0).takeWhile (fun d=>d != 59) = (b.drop i0).take j ++ (b.drop (i0 + j)).takeWhile (fun d=>d != 59),fun _ _ h=>h,?_⟩
   refine ⟨_,rfl,_,_,rfl,rfl,b.length - (i0 + (j + 1)),by omega,j + 1,rfl,rfl,by omega,s1,?_⟩
   rw [htw,tw_step hd (by simpa using h59),← Nat.add_assoc]
   have hg:(b.drop i0)[j]? = some c:=by rw [List.getElem?_drop]; exact hc
   rw [tk_snoc hg,List.append_assoc]
   rfl
 ·rw [decide_eq_false (by omega)]
  exists z0
  exact out (by rw [List.drop_of_length_le (by omega)]; rfl)
end
abbrev sArgs:Stmt:=top 24
abbrev sIsResult:Stmt:=top 25
abbrev sIsMethod:Stmt:=top 26
section
variable {P:Program} {w:World} {K:PySem.W.Frag} {mg:Str→Option Value} {base:Heap} {A:Adr}
theorem scFieldEnd:FnScope ["row","start","at"] ["row","start"] (defScope sFieldEnd):=scB
theorem d_fieldEnd (T:Txt K mg A) (src:Src K "field_end" sFieldEnd) (Dc:Def P w K mg base 3 "class_end" ["row","start"] (spEnd classLen)):Def P w K mg base 4 "field_end" ["row","start"] (spEnd fieldLen):=by
 refine defR src T.kx scFieldEnd (fun vs H Q E h=>?_) (fun f cdv A' outer s H vs Q E hr h=>?_)
 ·obtain ⟨a,b,i,rfl,_⟩:=h
  rfl
 obtain ⟨a,b,i0,rfl,ha,hi0,k⟩:=h
 refine ⟨_,pss_cons (ps_set (i:=2) scFieldEnd.nd rfl (Or.inl rfl) (pv 1))
  (pss_cons (ps_while ownR (ptw (pw_and (pt_cmpR op_lt (pv 2) (pe_callB call_len_seq (by rfl) T.nLen PySem.boot_len (pa_cons (pv 0) pa_nil)) (nomark _)) (pw_and1 (pt_cmpR op_eq (pe_ix ix_list (pv 0) (pv 2) (fun _ _=>rfl)) (pe_oc (n:=91) rfl T.nOrd (by decide +kernel)) (nomark _)))))
   (pss_one (ps_aug (i:=2) scFieldEnd.nd rfl (Or.inl rfl) pe_int ip_add)))
  (pss_cons (ps_if (ptw (pw_or (pt_cmpR op_gt (pe_op op_sub (pv 2) (pv 1)) (pe_gi T.g_MOST_DIMENSIONS rfl) (nomark _)) (pw_or1 (pt_cmpR op_eq (pv 2) (pe_callB call_len_seq (by rfl) T.nLen PySem.boot_len (pa_cons (pv 0) pa_nil)) (nomark _))))) (pss_one (ps_ret pe_non)) pss_nil)
  (pss_cons (ps_if (pt_cmpR op_eq (pe_ix ix_list (pv 0) (pv 2) (fun _ _=>rfl)) (pe_oc (n:=76) rfl T.nOrd (by decide +kernel)) (nomark _)) (pss_one (ps_ret (pe_d Dc hr rfl passR (pa_cons (pv 0) (pa_cons (pe_op op_add (pv 2) pe_int) pa_nil))))) pss_nil)
  (pss_one (ps_ret (pe_ifExp (pt_cmp (pc_kin T.dBS rfl T.gBS (pe_ix ix_list (pv 0) (pv 2) (fun _ _=>rfl)))) (pe_op op_add (pv 2) pe_int) pe_non)))))),?_⟩
 exists _,z0
 refine ⟨_,rfl,?_⟩
 exists z0,z0
 refine ⟨fun m σ H'=>∃ (j:Nat),σ = [some (.ref a),some (.int (i0:Int)),some (.int ((i0 + j:Nat):Int))]∧m = b.length - (i0 + j)∧i0 + j ≤ b.length∧Same H H'∧(b.drop i0).takeWhile (fun c=>c == 91) = (b.drop i0).take j ++ (b.drop (i0 + j)).takeWhile (fun c=>c == 91),
  ⟨b.length - i0,0,rfl,rfl,hi0,same_refl H,by simp⟩,?_⟩
 rintro m σ H' ⟨j,rfl,rfl,hj,s1,htw⟩
 have hn_lead:(b.drop (i0 + j)).takeWhile (fun c=>c == 91) = []→lead (b.drop i0) = j:=fun hn=>by
  unfold lead
  rw [tw_eq_take htw hn,List.length_take,List.length_drop]; omega
 refine ⟨_,rfl,_,rfl,a,_,rfl,.inl (SqL.of (s1 _ _ ha)),_,_,rfl,rfl,_,rfl,?_⟩
 rw [bv_len]
 by_cases hlt:i0 + j < b.length
 ·rw [decide_eq_true (by omega)]
  obtain ⟨c,hc,hd⟩:=drop_at hlt
  refine ⟨_,rfl,_,rfl,a,_,_,_,rfl,rfl,SqL.of (s1 _ _ ha),atI_nat (v:=.int (c.toNat:Int)) (by rw [bv_get,hc]; rfl),rfl,_,rfl,?_⟩
  by_cases h91:c = 91
  ·rw [decide_eq_true (show V.int (c.toNat:Int) = V.int ((91:Nat):Int) by rw [h91]; rfl)]
   refine ⟨fun σ' H2=>∃ m',m' < b.length - (i0 + j)∧∃ (j:Nat),σ' = [some (.ref a),some (.int (i0:Int)),some (.int ((i0 + j:Nat):Int))]∧m' = b.length - (i0 + j)∧i0 + j ≤ b.length∧Same H H2∧(b.drop i0).takeWhile (fun c=>c == 91) = (b.drop i0).take j ++ (b.drop (i0 + j)).takeWhile (fun c=>c == 91),fun _ _ h=>h,?_⟩
   refine ⟨_,rfl,_,_,rfl,rfl,b.length - (i0 + (j + 1)),by omega,j + 1,rfl,rfl,by omega,s1,?_⟩
   rw [htw,tw_step hd (by simpa using h91),← Nat.add_assoc]
   have hg:(b.drop i0)[j]? = some c:=by rw [List.getElem?_drop]; exact hc
   rw [tk_snoc hg,List.append_assoc]
   rfl
  ·rw [decide_eq_false (show ¬ V.int (c.toNat:Int) = V.int ((91:Nat):Int) from fun z=>h91 (toNat_inj (by injection z with z; show c.toNat = 91; omega)))]
   have hl:=hn_lead (by rw [hd,List.takeWhile_cons]; simp [h91])
   have hdd:(b.drop i0).drop j = c :: b.drop (i0 + j + 1):=by rw [List.drop_drop,hd]
   have hf:fieldLen (b.drop i0) = if 255 < j then none else if c = 76 then (classLen (b.drop (i0 + j + 1))).map (fun n=>j + 1 + n) else if c ∈ basics then some (j + 1) else none:=by
    unfold fieldLen fieldLenG
    rw [hl,hdd]
   rw [hf] at k
   exists z0,z0
   refine ⟨_,rfl,_,rfl,_,_,rfl,rfl,_,_,rfl,rfl,_,rfl,?_⟩
   by_cases hbig:255 < j
   ·rw [decide_eq_true (show (255:Int) < ((i0 + j:Nat):Int) - (i0:Int) by omega)]
    rw [if_pos hbig] at k
    exact k H' s1
   ·rw [decide_eq_false (show ¬ (255:Int) < ((i0 + j:Nat):Int) - (i0:Int) by omega)]
    rw [if_neg hbig] at k
    refine ⟨_,rfl,_,rfl,a,_,rfl,.inl (SqL.of (s1 _ _ ha)),rfl,_,rfl,?_⟩
    rw [bv_len,decide_eq_false (show ¬ V.int ((i0 + j:Nat):Int) = V.int (b.length:Int) from fun z=>by injection z with z; omega)]
    exists z0,z0
    refine ⟨_,rfl,_,rfl,a,_,_,_,rfl,rfl,SqL.of (s1 _ _ ha),atI_nat (v:=.int (c.toNat:Int)) (by rw [bv_get,hc]; rfl),rfl,_,rfl,?_⟩
    by_cases h76:c = 76
    ·rw [decide_eq_true (show V.int (c.toNat:Int) = V.int ((76:Nat):Int) by rw [h76]; rfl)]
     rw [if_pos h76] at k
     refine ⟨_,rfl,_,rfl,_,_,rfl,rfl,a,b,i0 + j + 1,rfl,s1 _ _ ha,by omega,fun H2 s2=>?_⟩
     have e:oInt (i0 + j + 1) (classLen (b.drop (i0 + j + 1))) = oInt i0 ((classLen (b.drop (i0 + j + 1))).map (fun n=>j + 1 + n)):=by
      cases classLen (b.drop (i0 + j + 1)) with
      | none=>rfl
      | some n=>exact congrArg V.int (by show ((i0 + j + 1 + n:Nat):Int) = ((i0 + (j + 1 + n):Nat):Int); omega)
     show Q (oInt (i0 + j + 1) (classLen (b.drop (i0 + j + 1)))) H2
     rw [e]
     exact k H2 (s1.trans s2)
    ·rw [decide_eq_false (show ¬ V.int (c.toNat:Int) = V.int ((76:Nat):Int) from fun z=>h76 (toNat_inj (by injection z with z; show c.toNat = 76; omega)))]
     rw [if_neg h76] at k
     exists z0
     refine ⟨_,rfl,_,rfl,a,_,_,_,rfl,rfl,SqL.of (s1 _ _ ha),atI_nat (v:=.int (c.toNat:Int)) (by rw [bv_get,hc]; rfl),_,rfl,_,rfl,?_⟩
     rw [basic_in]
     by_cases hb:c ∈ basics
     ·rw [decide_eq_true hb]
      rw [if_pos hb] at k
      refine ⟨_,rfl,_,_,rfl,rfl,?_⟩
      have e:(((i0 + j:Nat):Int) + 1) = ((i0 + (j + 1):Nat):Int):=by omega
      show Q (.int (((i0 + j:Nat):Int) + 1)) H'
      rw [e]
      exact k H' s1
     ·rw [decide_eq_false hb]
      rw [if_neg hb] at k
      exact k H' s1
 ·rw [decide_eq_false (by omega)]
  have hl:=hn_lead (by rw [List.drop_of_length_le (by omega)]; rfl)
  have hf:fieldLen (b.drop i0) = none:=by
   unfold fieldLen fieldLenG
   rw [hl,List.drop_drop,List.drop_of_length_le (by omega)]
   split <;> rfl
  rw [hf] at k
  exists z0,z0
  refine ⟨_,rfl,_,rfl,_,_,rfl,rfl,_,_,rfl,rfl,_,rfl,?_⟩
  by_cases hbig:255 < j
  ·rw [decide_eq_true (show (255:Int) < ((i0 + j:Nat):Int) - (i0:Int) by omega)]
   exact k H' s1
  ·rw [decide_eq_false (show ¬ (255:Int) < ((i0 + j:Nat):Int) - (i0:Int) by omega)]
   refine ⟨_,rfl,_,rfl,a,_,rfl,.inl (SqL.of (s1 _ _ ha)),rfl,_,rfl,?_⟩
   rw [bv_len,decide_eq_true (show V.int ((i0 + j:Nat):Int) = V.int (b.length:Int) from congrArg V.int (by omega))]
   exact k H' s1
theorem scIsField:FnScope ["row"] ["row"] (defScope sIsField):=scB
theorem d_isField (T:Txt K mg A) (src:Src K "is_field_descriptor" sIsField) (Df:Def P w K mg base 4 "field_end" ["row","start"] (spEnd fieldLen)):Def P w K mg base 5 "is_field_descriptor" ["row"] (spRow fun b=>.bl (CfFile.isField b)):=by
 refine defR src T.kx scIsField (fun vs H Q E h=>h.len) (fun f cdv A' outer s H vs Q E hr h=>?_)
 obtain ⟨a,b,rfl,ha,k⟩:=h
 try dsimp only at k
 refine ⟨_,pss_one (ps_ret (pe_cmpR op_eq (pe_d Df hr rfl passR (pa_cons (pv 0) (pa_cons pe_int pa_nil))) (pe_callB call_len_seq (by rfl) T.nLen PySem.boot_len (pa_cons (pv 0) pa_nil)) (nomark _))),?_⟩
 refine ⟨_,rfl,a,b,0,rfl,ha,Nat.zero_le _,fun H1 s1=>⟨_,rfl,a,_,rfl,.inl (SqL.of (s1 _ _ ha)),?_,?_⟩⟩
 ·cases fieldLen (b.drop 0) <;> rfl
 ·rw [bv_len,List.drop_zero]
  rw [isField_len] at k
  have e:decide (oInt 0 (fieldLen b) = V.int (b.length:Int)) = decide (fieldLen b = some b.length):=by
   apply decide_eq_decide.mpr
   cases fieldLen b with
   | none=>exact ⟨fun z=>(by cases z),fun z=>(by cases z)⟩
   | some n =>
    constructor
    ·intro z
     injection z with z
     exact congrArg some (by omega)
    ·intro z
     injection z with z
     exact congrArg V.int (by omega)
  show Q (.bl (decide (oInt 0 (fieldLen b) = V.int (b.length:Int)))) H1
  rw [e]
  exact k H1 s1
theorem scIsResult:FnScope ["row"] ["row"] (defScope sIsResult):=scB
theorem d_isResult (T:Txt K mg A) (src:Src K "is_result" sIsResult) (Dr:Def P w K mg base 1 "row_of" ["word"] spRowOf) (Df:Def P w K mg base 5 "is_field_descriptor" ["row"] (spRow fun b=>.bl (CfFile.isField b))) :
  Def P w K mg base 6 "is_result" ["row"] (spRow fun b=>.bl (isResult b)):=by
 refine defR src T.kx scIsResult (fun vs H Q E h=>h.len) (fun f cdv A' outer s H vs Q E hr h=>?_)
 obtain ⟨a,b,rfl,ha,k⟩:=h
 try dsimp only at k
 refine ⟨_,pss_one (ps_ret (pe_or (pe_cmpR (op_eqB hr.units) (pv 0) (pe_d Dr (rm hr) rfl passR (pa_cons pe_str pa_nil)) (nomark _)) (pe_one (pe_d Df hr rfl passR (pa_cons (pv 0) pa_nil))))),?_⟩
 refine ⟨_,rfl,_,rfl,(by decide +kernel),fun H1 p s1 hp=>⟨a,p,b,[86],rfl,rfl,s1 _ _ ha,?_,_,rfl,?_⟩⟩
 ·rw [hp,show cv "V" = bv [86] by decide +kernel]
 ·unfold isResult at k
  by_cases h:b = [86]
  ·rw [decide_eq_true h] at k ⊢
   exact k H1 s1
  ·rw [decide_eq_false h] at k ⊢
   exact ⟨_,rfl,a,b,rfl,s1 _ _ ha,fun H2 s2=>k H2 (s1.trans s2)⟩
theorem scArgs:FnScope ["row","slots","at"] ["row"] (defScope sArgs):=scB
def oNat:Option Nat→V
 | some n=>.int (n:Int)
 | none=>.non
theorem d_args (T:Txt K mg A) (src:Src K "argument_slots" sArgs) (Dr:Def P w K mg base 1 "row_of" ["word"] spRowOf) (Df:Def P w K mg base 4 "field_end" ["row","start"] (spEnd fieldLen))
  (Di:Def P w K mg base 6 "is_result" ["row"] (spRow fun b=>.bl (isResult b))):Def P w K mg base 7 "argument_slots" ["row"] (spRow fun b=>oNat (methodSlots b)):=by
 refine defR src T.kx scArgs (fun vs H Q E h=>h.len) (fun f cdv A' outer s H vs Q E hr h=>?_)
 obtain ⟨a,b,rfl,ha,k⟩:=h
 try dsimp only at k
 refine ⟨_,pss_cons (ps_if (pt_cmpR (op_neB hr.units) (pe_slice sl_list (pv 0) po_none (po_some pe_int)) (pe_d Dr (rm hr) rfl passR (pa_cons pe_str pa_nil)) (nomark _)) (pss_one (ps_ret pe_non)) pss_nil)
  (pss_cons (ps_set (i:=1) scArgs.nd rfl (Or.inl rfl) pe_int)
  (pss_cons (ps_set (i:=2) scArgs.nd rfl (Or.inl rfl) pe_int)
  (pss_cons (ps_while ownR (ptw (pw_and (pt_cmpR op_lt (pv 2) (pe_callB call_len_seq (by rfl) T.nLen PySem.boot_len (pa_cons (pv 0) pa_nil)) (nomark _)) (pw_and1 (pt_cmpR op_ne (pe_ix ix_list (pv 0) (pv 2) (fun _ _=>rfl)) (pe_oc (n:=41) rfl T.nOrd (by decide +kernel)) (nomark _)))))
   (pss_cons (ps_aug (i:=1) scArgs.nd rfl (Or.inl rfl) (pe_kget2 T.dBS rfl T.gBS (pe_ix ix_list (pv 0) (pv 2) (fun _ _=>rfl)) pe_int ⟨rfl,rfl,rfl,rfl⟩) ip_add)
   (pss_cons (ps_set (i:=2) scArgs.nd rfl (Or.inl rfl) (pe_d Df (rm hr) rfl passR (pa_cons (pv 0) (pa_cons (pv 2) pa_nil))))
   (pss_one (ps_if (ptw (pw_or (pt_cmpR op_isN (pv 2) pe_non (nomark _)) (pw_or1 (pt_cmpR op_gt (pv 1) (pe_gi T.g_MOST_SLOTS rfl) (nomark _))))) (pss_one (ps_ret pe_non)) pss_nil)))))
  (pss_one (ps_ret (pe_ifExp (pt_val (pe_d Di hr rfl passR (pa_cons (pe_slice sl_list (pv 0) (po_some (pe_op op_add (pv 2) pe_int)) po_none) pa_nil))) (pv 1) pe_non)))))),?_⟩
 exists _,z0
 refine ⟨_,rfl,_,rfl,a,_,rfl,SqL.of ha,fun sl hsl=>?_⟩
 refine ⟨_,rfl,(by decide +kernel),fun H1 p s1 hp=>⟨sl,p,b.take 1,[40],rfl,rfl,(s1 _ _ upd_same).trans ?_,?_,_,rfl,?_⟩⟩
 ·have e:cutV (bv b) none (some (1:Int)) = (bv b).take 1:=cutV_to (bv b) 1
  rw [e,bv_take]
 ·rw [hp,show cv "(" = bv [40] by decide +kernel]
 have s01:Same H H1:=(same_new hsl).trans s1
 by_cases h40:b.take 1 = [40]
 ·rw [decide_eq_true h40]
  obtain ⟨r,hb⟩:∃ r,b = 40 :: r:=by
   cases b with
   | nil=>cases h40
   | cons x r=>exact ⟨r,by rw [(List.cons.inj (show [x] = [40] from h40)).1]⟩
  have hbl:b.length = r.length + 1:=by rw [hb]; rfl
  exists z0
  refine ⟨fun m σ H'=>∃ (i:Nat) (l0:List (List UInt8)) (g:Nat),σ = [some (.ref a),some (.int (CfFile.slots l0:Int)),some (.int (i:Int))]∧m = b.length - i∧1 ≤ i∧i ≤ b.length∧Same H H'∧CfFile.slots l0 ≤ 255∧ArgsAt r (b.length + 1) l0 g (b.drop i),
   ⟨b.length - 1,1,[],b.length + 1,rfl,rfl,Nat.le_refl _,by omega,s01,by decide,by
    have e:b.drop 1 = r:=by rw [hb]; rfl
    rw [e]
    exact ArgsAt.start (by omega)⟩,?_⟩
  rintro m σ H' ⟨i,l0,g,rfl,rfl,hi1,hi,s2,hs,ha0⟩
  refine ⟨_,rfl,_,rfl,a,_,rfl,.inl (SqL.of (s2 _ _ ha)),_,_,rfl,rfl,_,rfl,?_⟩
  rw [bv_len]
  have out:∀ t,b.drop (i + 1) = t→(methodSlots b = if isResult t = true then some (CfFile.slots l0) else none) →
    (tRet (tIf (tB (tCall (spRow fun b=>V.bl (isResult b)) [] E (tCons (tSl (rSlL K) (tVar 0) (tPart (tOp (rI0 fun i j=>.int (i + j)) (tVar 2) (tC (.int 1)))) tNoPart) tNil))) (tVar 1) (tC .non)))
    { nx:=fun _ H'=>Q .non H',rt:=Q } [some (.ref a),some (.int (CfFile.slots l0:Int)),some (.int (i:Int))] H':=fun t ht hm=>by
   refine ⟨_,rfl,_,rfl,_,_,rfl,rfl,_,rfl,a,_,rfl,SqL.of (s2 _ _ ha),fun sl2 hsl2=>?_⟩
   refine ⟨sl2,t,rfl,upd_same.trans ?_,fun H3 s3=>⟨_,rfl,?_⟩⟩
   ·have e:cutV (bv b) (some ((i:Int) + 1)) none = (bv b).drop (i + 1):=cutV_from (bv b) (i + 1)
    rw [e,bv_drop,ht]
   ·rw [hm] at k
    have s13:Same H H3:=s2.trans ((same_new hsl2).trans s3)
    cases z:isResult t with
    | true =>
     rw [z] at k
     exact ⟨_,rfl,k H3 s13⟩
    | false =>
     rw [z] at k
     exact k H3 s13
  by_cases hlt:i < b.length
  ·rw [decide_eq_true (by omega)]
   obtain ⟨c,hc,hd⟩:=drop_at hlt
   refine ⟨_,rfl,_,rfl,a,_,_,_,rfl,rfl,SqL.of (s2 _ _ ha),atI_nat (v:=.int (c.toNat:Int)) (by rw [bv_get,hc]; rfl),rfl,_,rfl,?_⟩
   by_cases h41:c = 41
   ·rw [decide_eq_true (show V.int (c.toNat:Int) = V.int ((41:Nat):Int) by rw [h41]; rfl)]
    rw [hd,h41] at ha0
    exact out _ rfl (ha0.fin hb hs)
   ·rw [decide_eq_false (show ¬ V.int (c.toNat:Int) = V.int ((41:Nat):Int) from fun z=>h41 (toNat_inj (by injection z with z; show c.toNat = 41; omega)))]
    refine ⟨fun σ' H2=>∃ m',m' < b.length - i∧∃ (i:Nat) (l0:List (List UInt8)) (g:Nat),σ' = [some (.ref a),some (.int (CfFile.slots l0:Int)),some (.int (i:Int))]∧m' = b.length - i∧1 ≤ i∧i ≤ b.length∧Same H H2∧CfFile.slots l0 ≤ 255∧ArgsAt r (b.length + 1) l0 g (b.drop i),fun _ _ h=>h,?_⟩
    refine ⟨_,rfl,_,rfl,_,rfl,a,_,_,_,rfl,rfl,SqL.of (s2 _ _ ha),atI_nat (v:=.int (c.toNat:Int)) (by rw [bv_get,hc]; rfl),_,rfl,?_⟩
    rw [basic_get]
    refine ⟨_,_,rfl,rfl,_,rfl,_,rfl,a,b,i,rfl,s2 _ _ ha,hi,fun H3 s3=>?_⟩
    rw [hd] at ha0 ⊢
    cases hf:fieldLen (c :: b.drop (i + 1)) with
    | none =>
     refine ⟨_,rfl,rfl,_,rfl,?_⟩
     have e:=ArgsAt.none_ hb (ha0.bad h41 hf)
     rw [e] at k
     exact k H3 (s2.trans s3)
    | some n =>
     obtain ⟨t,g',hsl',ha1⟩:=ha0.step h41 hf
     have hn:=fieldLen_le hf
     have hnl:(c :: b.drop (i + 1)).length = b.length - i:=by rw [← hd,List.length_drop]
     rw [hnl] at hn
     refine ⟨_,rfl,rfl,_,rfl,?_⟩
     refine ⟨_,rfl,_,_,rfl,rfl,_,rfl,?_⟩
     by_cases hbig:255 < CfFile.slots l0 + slotOf c
     ·rw [decide_eq_true (show (255:Int) < (CfFile.slots l0:Int) + (slotOf c:Int) by omega)]
      have e:=ha1.many hb (by rw [hsl']; exact hbig)
      rw [e] at k
      exact k H3 (s2.trans s3)
     ·rw [decide_eq_false (show ¬ (255:Int) < (CfFile.slots l0:Int) + (slotOf c:Int) by omega)]
      refine ⟨b.length - (i + n),by omega,i + n,l0 ++ [t],g',?_,rfl,by omega,by omega,s2.trans s3,by rw [hsl']; omega,?_⟩
      ·rw [hsl']; rfl
      ·rw [← List.drop_drop,hd]; exact ha1
  ·rw [decide_eq_false (by omega)]
   have hnil:b.drop i = []:=List.drop_of_length_le (by omega)
   rw [hnil] at ha0
   refine out [] (List.drop_of_length_le (by omega)) ?_
   rw [ha0.end_ hb]
   rfl
 ·rw [decide_eq_false h40]
  have e:methodSlots b = none:=method_head fun z=>h40 (by
   cases b with
   | nil=>cases z
   | cons x r=>rw [show x = 40 from Option.some.inj z]; rfl)
  rw [e] at k
  exact k H1 s01
theorem scIsMethod:FnScope ["row"] ["row"] (defScope sIsMethod):=scB
theorem d_isMethod (T:Txt K mg A) (src:Src K "is_method_descriptor" sIsMethod) (Da:Def P w K mg base 7 "argument_slots" ["row"] (spRow fun b=>oNat (methodSlots b))):Def P w K mg base 8 "is_method_descriptor" ["row"] (spRow fun b=>.bl (CfFile.isMethod b)):=by
 refine defR src T.kx scIsMethod (fun vs H Q E h=>h.len) (fun f cdv A' outer s H vs Q E hr h=>?_)
 obtain ⟨a,b,rfl,ha,k⟩:=h
 try dsimp only at k
 refine ⟨_,pss_one (ps_ret (pe_cmpR op_notN (pe_d Da hr rfl passR (pa_cons (pv 0) pa_nil)) pe_non (nomark _))),?_⟩
 refine ⟨_,rfl,a,b,rfl,ha,fun H1 s1=>⟨rfl,?_⟩⟩
 rw [isMethod_slots] at k
 have e:(!decide (oNat (methodSlots b) = V.non)) = (methodSlots b).isSome:=by
  cases methodSlots b with
  | none=>rfl
  | some n=>rfl
 show Q (.bl (!decide (oNat (methodSlots b) = V.non))) H1
 rw [e]
 exact k H1 s1
end
end Cf
namespace Cf
open PySem PySem.Spec PyProof.Rows L2
open CfFile (Pool)
abbrev sTagOf:Stmt:=inClass (top 118) 1
abbrev sIsText:Stmt:=inClass (top 118) 2
abbrev sRow:Stmt:=inClass (top 118) 3
abbrev sIsNamed:Stmt:=inClass (top 118) 4
abbrev sFirstRow:Stmt:=inClass (top 118) 5
abbrev sSecondRow:Stmt:=inClass (top 118) 6
theorem paired_at {α β:Type} {F:α→β→Prop}:∀ {l:List α} {m:List β} {i:Nat} {x:α},Paired F l m→l[i]? = some x→∃ y,m[i]? = some y∧F x y
 | _,_,_,_,.nil,h=>by simp at h
 | _,_,0,x,.cons r _,h=>by simp at h; subst h; exact ⟨_,rfl,r⟩
 | _,_,i + 1,x,.cons _ t,h=>by
  obtain ⟨y,h1,h2⟩:=paired_at (i:=i) (x:=x) t (by simpa using h)
  exact ⟨y,by simpa using h1,h2⟩
theorem paired_len {α β:Type} {F:α→β→Prop}:∀ {l:List α} {m:List β},Paired F l m→l.length = m.length
 | _,_,.nil=>rfl
 | _,_,.cons _ t=>by show _ + 1 = _ + 1; rw [paired_len t]
theorem dec_nat (n m:Nat):decide (V.int (n:Int) = V.int (m:Int)) = (n == m):=by
 by_cases h:n = m
 ·subst h; simp
 ·rw [beq_eq_false_iff_ne.mpr h,decide_eq_false fun z=>h (by injection z with z; omega)]
theorem tagAt_none {l:Pool} {n:Nat} (h:∀ p c,l[n]? ≠ some (some (p,c))):tagAt l n = 0:=by
 unfold tagAt
 cases e:CfFile.constAt l n with
 | none=>rfl
 | some c =>
  obtain ⟨p,q⟩:=constAt_iff.mp e
  exact absurd q (h p c)
theorem tagAt_some {l:Pool} {n p:Nat} {c:CfFile.Const} (h:l[n]? = some (some (p,c))):tagAt l n = c.tag:=by
 unfold tagAt
 rw [constAt_iff.mpr ⟨p,h⟩]
inductive spPool (A:Adr) (g:Pool→Nat→V) (vs:List V) (H:Hp) (Q:VK) (E:XK):Prop
 | mk (S:Hp) (q a:Addr) (b:List UInt8) (l:Pool) (n:Nat) (_:vs = [.ref q,.int (n:Int)]) (_:PoolAt A S q a b l) (_:Same S H) (_:Q (g l n) H)
theorem spPool.len {A:Adr} {g:Pool→Nat→V} {vs:List V} {H:Hp} {Q:VK} {E:XK} (h:spPool A g vs H Q E):vs.length = (["self","number"]:List Str).length:=by
 obtain ⟨S,q,a,b,l,n,rfl,_⟩:=h
 rfl
inductive spGive (A:Adr) (g:Pool→Nat→Option (List UInt8)) (vs:List V) (H:Hp) (Q:VK) (E:XK):Prop
 | mk (S:Hp) (q a:Addr) (b:List UInt8) (l:Pool) (n:Nat) (s:List UInt8) (_:vs = [.ref q,.int (n:Int)]) (_:PoolAt A S q a b l) (_:Same S H) (_:g l n = some s) (_:∀ H' r,Same H H'→H r = none→H' r = some (.lst (bv s))→Q (.ref r) H')
theorem spGive.len {A:Adr} {g:Pool→Nat→Option (List UInt8)} {vs:List V} {H:Hp} {Q:VK} {E:XK} (h:spGive A g vs H Q E):vs.length = (["self","number"]:List Str).length:=by
 obtain ⟨S,q,a,b,l,n,s,rfl,_⟩:=h
 rfl
def firstOf (l:Pool) (n:Nat):Option (List UInt8):=match l[n]? with
 | some (some (p,c))=>CfFile.textAt l (fst p c)
 | _=>none
def secondOf (l:Pool) (n:Nat):Option (List UInt8):=match l[n]? with
 | some (some (_,c))=>CfFile.textAt l (snd c)
 | _=>none
theorem firstOf_at {l:Pool} {n:Nat} {s:List UInt8} (h:firstOf l n = some s):∃ p c,l[n]? = some (some (p,c))∧CfFile.textAt l (fst p c) = some s:=by
 unfold firstOf at h
 split at h
 ·rename_i p c e
  exact ⟨p,c,e,h⟩
 ·cases h
theorem secondOf_at {l:Pool} {n:Nat} {s:List UInt8} (h:secondOf l n = some s):∃ p c,l[n]? = some (some (p,c))∧CfFile.textAt l (snd c) = some s:=by
 unfold secondOf at h
 split at h
 ·rename_i p c e
  exact ⟨p,c,e,h⟩
 ·cases h
theorem textAt_at {l:Pool} {n:Nat} {s:List UInt8} (h:CfFile.textAt l n = some s):∃ p,l[n]? = some (some (p,.text s)):=by
 unfold CfFile.textAt at h
 split at h
 ·rename_i s' e
  cases h
  exact constAt_iff.mp e
 ·cases h
section
variable {P:Program} {w:World} {K:PySem.W.Frag} {mg:Str→Option Value} {base:Heap} {A:Adr}
theorem scTagOf:FnScope ["self","number"] ["self","number"] (defScope sTagOf):=scB
theorem d_tagOf (T:Txt K mg A) (src:MSrc K A.cPoo "tag_of" "Pool.tag_of" sTagOf):MDef P w K mg base 1 A.cPoo "tag_of" ["self","number"] (spPool A fun l n=>.int (tagAt l n:Int)):=by
 refine mdefR src scTagOf (fun vs H Q E h=>h.len) (fun f cdv A' outer s H vs Q E hr h=>?_)
 obtain ⟨S,q,a,b,l,n,rfl,po,le,k⟩:=h
 try dsimp only at k
 obtain ⟨dx,cl,us,h1,h2,pr⟩:=po.ob
 have hq:=le _ _ h1
 have hcl:=le _ _ h2
 have hlen:=paired_len pr
 refine ⟨_,pss_cons (ps_if (ptw (pw_or (pt_cmpR op_ge (pv 1) (pe_callB call_len_seq (by rfl) T.nLen PySem.boot_len (pa_cons (pe_fld (pv 0) rfl) pa_nil)) (nomark _)) (pw_or1 (pt_cmpR op_isN (pe_ix ix_list (pe_fld (pv 0) rfl) (pv 1) (fun _ _=>rfl)) pe_non (nomark _))))) (pss_one (ps_ret pe_int)) pss_nil)
  (pss_one (ps_ret (pe_fld (pe_ix ix_list (pe_fld (pv 0) rfl) (pv 1) (fun _ _=>rfl)) rfl))),?_⟩
 refine ⟨_,rfl,_,rfl,fldgo (fun _ _=>_) T.poo hq (i:=1) rfl rfl ⟨cl,_,rfl,.inl (SqL.of hcl),_,_,rfl,rfl,_,rfl,?_⟩⟩
 by_cases hn:l.length ≤ n
 ·rw [decide_eq_true (by omega)]
  rw [tagAt_none fun p c e=>by rw [List.getElem?_eq_none hn] at e; cases e] at k
  exact k
 ·rw [decide_eq_false (by omega)]
  obtain ⟨o,ho⟩:∃ o,l[n]? = some o:=⟨_,List.getElem?_eq_getElem (by omega)⟩
  obtain ⟨v,hv,co⟩:=paired_at pr ho
  refine ⟨_,rfl,fldgo (fun _ _=>_) T.poo hq (i:=1) rfl rfl ⟨_,rfl,cl,_,_,_,rfl,rfl,SqL.of hcl,atI_nat hv,rfl,_,rfl,?_⟩⟩
  cases o with
  | none =>
   have e:v = V.non:=co
   rw [e]
   rw [tagAt_none fun p c e=>by rw [ho] at e; cases e] at k
   exact k
  | some pc =>
   obtain ⟨p,c⟩:=pc
   obtain ⟨kk,rfl,dk,hk⟩:=co
   rw [decide_eq_false (fun z=>by cases z)]
   rw [tagAt_some ho] at k
   refine ⟨_,rfl,fldgo (fun _ _=>_) T.poo hq (i:=1) rfl rfl ⟨_,rfl,cl,_,_,_,rfl,rfl,SqL.of hcl,atI_nat hv,?_⟩⟩
   exact fldgo (fun _ _=>_) T.con (le _ _ hk) (i:=0) rfl rfl k
theorem scIsText:FnScope ["self","number"] ["self","number"] (defScope sIsText):=scB
theorem d_isText (T:Txt K mg A) (src:MSrc K A.cPoo "is_text" "Pool.is_text" sIsText) (Dt:MDef P w K mg base 1 A.cPoo "tag_of" ["self","number"] (spPool A fun l n=>.int (tagAt l n:Int))) :
  MDef P w K mg base 2 A.cPoo "is_text" ["self","number"] (spPool A fun l n=>.bl (tagAt l n == 1)):=by
 refine mdefR src scIsText (fun vs H Q E h=>h.len) (fun f cdv A' outer s H vs Q E hr h=>?_)
 obtain ⟨S,q,a,b,l,n,rfl,po,le,k⟩:=h
 try dsimp only at k
 obtain ⟨dx,cl,us,h1,h2,pr⟩:=id po.ob
 refine ⟨_,pss_one (ps_ret (pe_cmpR op_eq (pe_md Dt (pv 0) T.poo.cl hr passR (pa_cons (pv 1) pa_nil)) (pe_gi T.g_TEXT rfl) (nomark _))),?_⟩
 refine ⟨_,rfl,methgo (le _ _ h1) (by decide +kernel) ⟨_,rfl,S,q,a,b,l,n,rfl,po,le,rfl,?_⟩⟩
 show Q (.bl (decide (V.int (tagAt l n:Int) = V.int ((1:Nat):Int)))) H
 rw [dec_nat]
 exact k
theorem scRow:FnScope ["self","number","text"] ["self","number"] (defScope sRow):=scB
theorem d_row (T:Txt K mg A) (src:MSrc K A.cPoo "row" "Pool.row" sRow):MDef P w K mg base 1 A.cPoo "row" ["self","number"] (spGive A CfFile.textAt):=by
 refine mdefR src scRow (fun vs H Q E h=>h.len) (fun f cdv A' outer s H vs Q E hr h=>?_)
 obtain ⟨S,q,a,b,l,n,t,rfl,po,le,ht,k⟩:=h
 obtain ⟨dx,cl,us,h1,h2,pr⟩:=id po.ob
 have hq:=le _ _ h1
 have hcl:=le _ _ h2
 obtain ⟨p,hp⟩:=textAt_at ht
 obtain ⟨v,hv,kk,rfl,dk,hk⟩:=paired_at pr hp
 have ok:=po.ok n p _ hp
 refine ⟨_,pss_cons (ps_set (i:=2) scRow.nd rfl (Or.inl rfl) (pe_ix ix_list (pe_fld (pv 0) rfl) (pv 1) (fun _ _=>rfl)))
  (pss_one (ps_ret (pe_slice sl_list (pe_fld (pv 0) rfl) (po_some (pe_fld (pv 2) rfl)) (po_some (pe_op op_add (pe_fld (pv 2) rfl) (pe_fld (pv 2) rfl)))))),?_⟩
 exists _,z0
 refine ⟨_,rfl,fldgo (fun _ _=>_) T.poo hq (i:=1) rfl rfl ⟨_,rfl,cl,_,_,_,rfl,rfl,SqL.of hcl,atI_nat hv,?_⟩⟩
 exists z0
 refine ⟨_,rfl,fldgo (fun _ _=>_) T.poo hq (i:=0) rfl rfl ⟨_,rfl,fldgo (fun _ _=>_) T.con (le _ _ hk) (i:=2) rfl rfl ⟨_,rfl,_,rfl,fldgo (fun _ _=>_) T.con (le _ _ hk) (i:=2) rfl rfl ⟨_,rfl,fldgo (fun _ _=>_) T.con (le _ _ hk) (i:=3) rfl rfl ⟨_,_,rfl,rfl,_,rfl,a,_,rfl,SqL.of (le _ _ po.ct),fun sl hsl=>?_⟩⟩⟩⟩⟩
 have e:cutV (bv b) (some ((p + 3:Nat):Int)) (some (((p + 3:Nat):Int) + (t.length:Int))) = bv t:=by
  have e1:((p + 3:Nat):Int) + (t.length:Int) = ((p + 3 + t.length:Nat):Int):=by omega
  rw [e1,cut_bv,Nat.add_sub_cancel_left,ok.1]
 exact k _ sl (same_new hsl) hsl (upd_same.trans (congrArg (fun z=>some (HO.lst z)) e))
theorem scIsNamed:FnScope ["self","number","named"] ["self","number"] (defScope sIsNamed):=scB
theorem d_isNamed (T:Txt K mg A) (src:MSrc K A.cPoo "is_named" "Pool.is_named" sIsNamed) (Dt:MDef P w K mg base 1 A.cPoo "tag_of" ["self","number"] (spPool A fun l n=>.int (tagAt l n:Int)))
  (Dx:MDef P w K mg base 2 A.cPoo "is_text" ["self","number"] (spPool A fun l n=>.bl (tagAt l n == 1))):MDef P w K mg base 3 A.cPoo "is_named" ["self","number"] (spPool A fun l n=>.bl (CfFile.namedAt l n).isSome):=by
 refine mdefR src scIsNamed (fun vs H Q E h=>h.len) (fun f cdv A' outer s H vs Q E hr h=>?_)
 obtain ⟨S,q,a,b,l,n,rfl,po,le,k⟩:=h
 try dsimp only at k
 obtain ⟨dx,cl,us,h1,h2,pr⟩:=id po.ob
 have hq:=le _ _ h1
 have hcl:=le _ _ h2
 refine ⟨_,pss_cons (ps_if (pt_cmpR op_ne (pe_md Dt (pv 0) T.poo.cl (rm hr) passR (pa_cons (pv 1) pa_nil)) (pe_gi T.g_NAMED rfl) (nomark _)) (pss_one (ps_ret pe_bl)) pss_nil)
  (pss_cons (ps_set (i:=2) scIsNamed.nd rfl (Or.inl rfl) (pe_ix ix_list (pe_fld (pv 0) rfl) (pv 1) (fun _ _=>rfl)))
  (pss_one (ps_ret (pe_and (pe_md Dx (pv 0) T.poo.cl hr passR (pa_cons (pe_fld (pv 2) rfl) pa_nil)) (pe_one (pe_md Dx (pv 0) T.poo.cl hr passR (pa_cons (pe_fld (pv 2) rfl) pa_nil))))))),?_⟩
 exists _,z0
 refine ⟨_,rfl,methgo hq (by decide +kernel) ⟨_,rfl,S,q,a,b,l,n,rfl,po,le,rfl,_,rfl,?_⟩⟩
 by_cases h12:tagAt l n = 12
 ·rw [decide_eq_true (show V.int (tagAt l n:Int) = V.int 12 from congrArg V.int (by omega))]
  obtain ⟨p,c,hpc⟩:∃ p c,l[n]? = some (some (p,c)):=by
   cases e:CfFile.constAt l n with
   | none=>unfold tagAt at h12; rw [e] at h12; cases h12
   | some c=>obtain ⟨p,z⟩:=constAt_iff.mp e; exact ⟨p,c,z⟩
  have hct:c.tag = 12:=by rw [← tagAt_some hpc]; exact h12
  have okc:=po.ok n p c hpc
  obtain ⟨x,y,rfl⟩:∃ x y,c = .named x y:=by
   cases c with
   | named x y=>exact ⟨x,y,rfl⟩
   | text s=>cases hct
   | word k x=>have z:k = 12:=hct; rcases okc with y | y <;> omega
   | wide k x=>have z:k = 12:=hct; rcases okc with y | y <;> omega
   | class_ i=>cases hct
   | string i=>cases hct
   | member k c n=>have z:k = 12:=hct; rcases okc with y | y | y <;> omega
   | handle k i=>cases hct
   | type_ d=>cases hct
   | site m n=>cases hct
  obtain ⟨v,hv,kk,rfl,dk,hk⟩:=paired_at pr hpc
  exists z0,z0
  refine ⟨_,rfl,fldgo (fun _ _=>_) T.poo hq (i:=1) rfl rfl ⟨_,rfl,cl,_,_,_,rfl,rfl,SqL.of hcl,atI_nat hv,?_⟩⟩
  have hna:(CfFile.namedAt l n).isSome = ((tagAt l x == 1) && (tagAt l y == 1)):=by
   rw [← textAt_tag po.ok x,← textAt_tag po.ok y]
   unfold CfFile.namedAt
   rw [constAt_iff.mpr ⟨p,hpc⟩]
   dsimp only
   cases CfFile.textAt l x with
   | none=>rfl
   | some s1 =>
    cases CfFile.textAt l y with
    | none=>rfl
    | some s2=>rfl
  rw [hna] at k
  exists z0
  refine ⟨_,rfl,methgo hq (by decide +kernel) ⟨_,rfl,fldgo (fun _ _=>_) T.con (le _ _ hk) (i:=2) rfl rfl ⟨S,q,a,b,l,x,rfl,po,le,_,rfl,?_⟩⟩⟩
  cases e:(tagAt l x == 1) with
  | false =>
   rw [e] at k
   exact k
  | true =>
   rw [e] at k
   exact ⟨_,rfl,methgo hq (by decide +kernel) ⟨_,rfl,fldgo (fun _ _=>_) T.con (le _ _ hk) (i:=3) rfl rfl ⟨S,q,a,b,l,y,rfl,po,le,k⟩⟩⟩
 ·rw [decide_eq_false (show ¬ V.int (tagAt l n:Int) = V.int 12 from fun z=>h12 (by injection z with z; omega))]
  have hna:CfFile.namedAt l n = none:=by
   unfold CfFile.namedAt
   split
   ·rename_i x y e
    unfold tagAt at h12
    rw [e] at h12
    exact absurd rfl h12
   ·rfl
  rw [hna] at k
  exact k
theorem scFirstRow:FnScope ["self","number"] ["self","number"] (defScope sFirstRow):=scB
theorem d_firstRow (T:Txt K mg A) (src:MSrc K A.cPoo "first_row" "Pool.first_row" sFirstRow) (Dr:MDef P w K mg base 1 A.cPoo "row" ["self","number"] (spGive A CfFile.textAt)):MDef P w K mg base 2 A.cPoo "first_row" ["self","number"] (spGive A firstOf):=by
 refine mdefR src scFirstRow (fun vs H Q E h=>h.len) (fun f cdv A' outer s H vs Q E hr h=>?_)
 obtain ⟨S,q,a,b,l,n,t,rfl,po,le,ht,k⟩:=h
 obtain ⟨dx,cl,us,h1,h2,pr⟩:=id po.ob
 have hq:=le _ _ h1
 have hcl:=le _ _ h2
 obtain ⟨p,c,hpc,ht⟩:=firstOf_at ht
 obtain ⟨v,hv,kk,rfl,dk,hk⟩:=paired_at pr hpc
 refine ⟨_,pss_one (ps_ret (pe_md Dr (pv 0) T.poo.cl hr passR (pa_cons (pe_fld (pe_ix ix_list (pe_fld (pv 0) rfl) (pv 1) (fun _ _=>rfl)) rfl) pa_nil))),?_⟩
 refine ⟨_,rfl,methgo hq (by decide +kernel) ⟨_,rfl,fldgo (fun _ _=>_) T.poo hq (i:=1) rfl rfl ⟨_,rfl,cl,_,_,_,rfl,rfl,SqL.of hcl,atI_nat hv,fldgo (fun _ _=>_) T.con (le _ _ hk) (i:=2) rfl rfl ?_⟩⟩⟩
 exact ⟨S,q,a,b,l,fst p c,t,rfl,po,le,ht,k⟩
theorem scSecondRow:FnScope ["self","number"] ["self","number"] (defScope sSecondRow):=scB
theorem d_secondRow (T:Txt K mg A) (src:MSrc K A.cPoo "second_row" "Pool.second_row" sSecondRow) (Dr:MDef P w K mg base 1 A.cPoo "row" ["self","number"] (spGive A CfFile.textAt)):MDef P w K mg base 2 A.cPoo "second_row" ["self","number"] (spGive A secondOf):=by
 refine mdefR src scSecondRow (fun vs H Q E h=>h.len) (fun f cdv A' outer s H vs Q E hr h=>?_)
 obtain ⟨S,q,a,b,l,n,t,rfl,po,le,ht,k⟩:=h
 obtain ⟨dx,cl,us,h1,h2,pr⟩:=id po.ob
 have hq:=le _ _ h1
 have hcl:=le _ _ h2
 obtain ⟨p,c,hpc,ht⟩:=secondOf_at ht
 obtain ⟨v,hv,kk,rfl,dk,hk⟩:=paired_at pr hpc
 refine ⟨_,pss_one (ps_ret (pe_md Dr (pv 0) T.poo.cl hr passR (pa_cons (pe_fld (pe_ix ix_list (pe_fld (pv 0) rfl) (pv 1) (fun _ _=>rfl)) rfl) pa_nil))),?_⟩
 refine ⟨_,rfl,methgo hq (by decide +kernel) ⟨_,rfl,fldgo (fun _ _=>_) T.poo hq (i:=1) rfl rfl ⟨_,rfl,cl,_,_,_,rfl,rfl,SqL.of hcl,atI_nat hv,fldgo (fun _ _=>_) T.con (le _ _ hk) (i:=3) rfl rfl ?_⟩⟩⟩
 exact ⟨S,q,a,b,l,snd c,t,rfl,po,le,ht,k⟩
end
end Cf
namespace Cf
open PySem PySem.Spec PyProof.Rows L2
open CfFile (Pool big)
abbrev sReadPool:Stmt:=top 119
abbrev sReadConst:Stmt:=top 120
abbrev sReadText:Stmt:=top 121
def Dom (H H1:Hp):Prop:=∀ y,(H y).isSome = true→(H1 y).isSome = true
theorem Same.dom {H H1:Hp} (s:Same H H1):Dom H H1:=fun y h=>let ⟨o,e⟩:=some_isSome h; isSome_of (s y o e)
theorem dom_but1 {c:Addr} {H H1:Hp} (b:But [c] H H1) {o:HO} (h:H1 c = some o):Dom H H1:=fun y hy=>by
 by_cases z:y = c
 ·rw [z]; exact isSome_of h
 ·obtain ⟨u,e⟩:=some_isSome hy
  exact isSome_of (b y u e (by simpa using z))
theorem CurIs.dom {A:Adr} {c a:Addr} {p:Nat} {H H1:Hp} (h:CurIs A H1 c a p) (b:But [c] H H1):Dom H H1:=let ⟨_,e⟩:=h; dom_but1 b e
theorem dom_none {H H1:Hp} (d:Dom H H1) {y:Addr} (h:H1 y = none):H y = none:=by
 cases e:H y with
 | none=>rfl
 | some o=>have z:=d y (isSome_of e); rw [h] at z; cases z
theorem Dom.trans {H H1 H2:Hp} (a:Dom H H1) (b:Dom H1 H2):Dom H H2:=fun y h=>b y (a y h)
theorem Grow.trans {S H S1 H1 S2 H2:Hp} (a:Grow S H S1 H1) (d:Dom H H1) (b:Grow S1 H1 S2 H2):Grow S H S2 H2 :=
 ⟨a.le.trans b.le,b.up,fun x hx n=>b.new x (d x hx) (a.new x hx n)⟩
theorem Grow.add {S H S1 H1:Hp} {x:Addr} {o:HO} (g:Grow S H S1 H1) (hx:H x = none) (e:H1 x = some o) (n:S1 x = none):Grow S H (upd S1 x o) H1:=by
 refine ⟨fun b u q=>?_,fun b u q=>?_,fun y hy hn=>?_⟩
 ·rw [upd_ne (ne_of_none (g.le b u q) n)]; exact g.le b u q
 ·by_cases z:b = x
  ·subst z; rw [upd_same] at q; cases q; exact e
  ·rw [upd_ne z] at q; exact g.up b u q
 ·rw [upd_ne (fun z=>by rw [z,hx] at hy; cases hy)]; exact g.new y hy hn
theorem Grow.later {S H S1 H1 H2:Hp} (g:Grow S H S1 H1) (u:Same S1 H2):Grow S H S1 H2:=⟨g.le,u,g.new⟩
theorem same_none {S H:Hp} (s:Same S H) {x:Addr} (h:H x = none):S x = none:=by
 cases e:S x with
 | none=>rfl
 | some o=>rw [s x o e] at h; cases h
theorem Fails.now {A:Adr} {W:List Addr} {H H1:Hp} {E:XK} {r p:Int} (f:Fails A W H E r p) (b:But W H H1):Fails A [] H1 E r p:=f.next b fun _ h=>by simp at h
theorem St.has {A:Adr} {S H:Hp} {c a:Addr} {b:List UInt8} {p:Nat} (h:St A S H c a b p):(H c).isSome = true:=let ⟨_,e⟩:=h.cu; isSome_of e
theorem St.list {A:Adr} {S H:Hp} {c a:Addr} {b:List UInt8} {p:Nat} (h:St A S H c a b p):H a = some (.lst (bv b)):=h.le _ _ h.ct
theorem dt_find {K:PySem.W.Frag}:∀ {kts:List (Int × List V)} {kvs:List (Int × V)},Paired (fun (t:Int × List V) (v:Int × V)=>t.1 = v.1∧∃ p,v.2 = .ref p∧KTup K p t.2) kts kvs→∀ k,
  match (kts.find? fun t=>decide (t.1 = k)).map (·.2) with
  | some ts=>∃ p,valK kvs k = some (.ref p)∧KTup K p ts
  | none=>valK kvs k = none
 | _,_,.nil,k=>rfl
 | (k0,ts) :: kts,(k1,v) :: kvs,.cons ⟨e,p,e2,h⟩ t,k=>by
  have e':k0 = k1:=e
  have e2':v = .ref p:=e2
  subst e' e2'
  unfold valK
  by_cases z:k0 = k
  ·rw [List.find?_cons_of_pos (by simp [z]),List.find?_cons_of_pos (by simp [z])]
   exact ⟨p,rfl,h⟩
  ·rw [List.find?_cons_of_neg (by simp [z]),List.find?_cons_of_neg (by simp [z])]
   exact dt_find t k
theorem big1_lt (b:List UInt8) (p:Nat):big b p 1 < 256:=by
 unfold big
 cases e:(b.drop p).take 1 with
 | nil=>simp
 | cons c r =>
  have hr:r = []:=by
   have:=congrArg List.length e
   rw [List.length_take,List.length_cons] at this
   cases r with
   | nil=>rfl
   | cons _ _=>rw [List.length_cons] at this; omega
  subst hr
  have:=c.toNat_lt
  simp
  omega
theorem widths_tag:∀ n:Fin 256,(widthsT.find? fun t=>decide (t.1 = (n.val:Int))).map (·.2) = (tagW n.val).map fun w=>[V.int (w.1:Int),V.int (w.2:Int)]:=by decide +kernel
theorem widths_find {K:PySem.W.Frag} {kvs:List (Int × V)} (pr:Paired (fun (t:Int × List V) (v:Int × V)=>t.1 = v.1∧∃ p,v.2 = .ref p∧KTup K p t.2) widthsT kvs) {t:Nat} (h:t < 256) :
  match tagW t with
  | some w=>∃ p,valK kvs (t:Int) = some (.ref p)∧KTup K p [.int (w.1:Int),.int (w.2:Int)]
  | none=>valK kvs (t:Int) = none:=by
 have q:=dt_find pr (t:Int)
 have e:=widths_tag ⟨t,h⟩
 try dsimp only at e
 rw [e] at q
 cases z:tagW t with
 | none=>rw [z] at q; exact q
 | some w=>rw [z] at q; exact q
inductive spText (A:Adr) (vs:List V) (H:Hp) (Q:VK) (E:XK):Prop
 | mk (S:Hp) (c a:Addr) (b:List UInt8) (p pl n:Nat) (_:vs = [.ref c,.int (pl:Int),.int (n:Int)]) (_:St A S H c a b p) (_:Post (CfFile.skip b n) p (fun s q=>if CfFile.chars n ((b.drop s).take n) = true then
  (∀ H' S1 k dk,But [c] H H'→Grow S H S1 H'→CurIs A H' c a q→S1 k = some (.ins A.cCon dk (kCon.zip [.int 1,.int (pl:Int),.int (s:Int),.int (n:Int)]))→Q (.ref k) H') else Fails A [c] H E 6 pl) (fun r e=>Fails A [c] H E r e))
inductive spConst (A:Adr) (vs:List V) (H:Hp) (Q:VK) (E:XK):Prop
 | mk (S:Hp) (c a:Addr) (b:List UInt8) (p:Nat) (_:vs = [.ref c]) (_:St A S H c a b p) (_:Post (CfFile.constant b) p (fun x q=>∀ H' S1 k,But [c] H H'→Grow S H S1 H'→CurIs A H' c a q→CoAt A S1 k p x→OkC b p x→Q (.ref k) H') (fun r e=>Fails A [c] H E r e))
section
variable {P:Program} {w:World} {K:PySem.W.Frag} {mg:Str→Option Value} {base:Heap} {A:Adr}
theorem scReadText:FnScope ["cursor","place","size","start"] ["cursor","place","size"] (defScope sReadText):=scB
theorem d_readText (T:Txt K mg A) (src:Src K "read_text" sReadText) (Dd:Def P w K mg base 3 "demand" ["kept","rule","place"] (spDemand A)) (Ds:MDef P w K mg base 4 A.cCur "skip" ["self","size"] (spSkip A))
  (Dc:Def P w K mg base 3 "is_character_row" ["row"] (spRow fun b=>.bl (CfFile.chars b.length b))) (Dm:MDef P w K mg base 1 A.cCon "__init__" ["self","tag","place","first","second"] (spIni A.cCon kCon)) :
  Def P w K mg base 5 "read_text" ["cursor","place","size"] (spText A):=by
 refine defR src T.kx scReadText (fun vs H Q E h=>?_) (fun f cdv A' outer s H vs Q E hr h=>?_)
 ·obtain ⟨S,c,a,b,p,pl,n,rfl,_⟩:=h
  rfl
 obtain ⟨S,c,a,b,p,pl,n,rfl,st,k⟩:=h
 have ⟨dx,hc⟩:=st.cu
 refine ⟨_,pss_cons (ps_set (i:=3) scReadText.nd rfl (Or.inl rfl) (pe_md Ds (pv 0) T.cur.cl hr passR (pa_cons (pv 2) pa_nil)))
  (pss_cons (ps_expr (pe_d Dd (rm hr) rfl passR (pa_cons (pe_d Dc (rm hr) rfl passR (pa_cons (pe_slice sl_list (pe_fld (pv 0) rfl) (po_some (pv 3)) (po_some (pe_op op_add (pv 3) (pv 2)))) pa_nil)) (pa_cons pe_int (pa_cons (pv 1) pa_nil)))))
  (pss_one (ps_ret (pe_mk Dm T.mCon.mak T.mCon.kp (rm hr) rfl T.mCon.g passR (pa_cons (pe_gi T.g_TEXT rfl) (pa_cons (pv 1) (pa_cons (pv 3) (pa_cons (pv 2) pa_nil)))))))),?_⟩
 rw [post_skip] at k
 exists _,z0
 refine ⟨_,rfl,methgo hc (by decide +kernel) ⟨_,rfl,c,a,b,p,n,rfl,st.cu,st.list,?_⟩⟩
 by_cases hle:p + n ≤ b.length
 ·rw [if_pos hle] at k ⊢
  intro H1 b1 cu1
  have st1:=st.step b1 cu1
  have ⟨dx1,hc1⟩:=cu1
  exists z0,z0
  refine ⟨_,rfl,fldgo (fun _ _=>_) T.cur hc1 (i:=0) rfl rfl ⟨_,rfl,_,rfl,_,rfl,_,rfl,_,_,rfl,rfl,_,rfl,a,_,rfl,SqL.of st1.list,fun sl hsl=>?_⟩⟩
  have ecut:cutV (bv b) (some (p:Int)) (some ((p:Int) + (n:Int))) = bv ((b.drop p).take n):=by
   have e:(p:Int) + (n:Int) = ((p + n:Nat):Int):=by omega
   rw [e,cut_bv,Nat.add_sub_cancel_left]
  have hlen:((b.drop p).take n).length = n:=by rw [List.length_take,List.length_drop]; omega
  refine ⟨sl,(b.drop p).take n,rfl,upd_same.trans (congrArg (fun z=>some (HO.lst z)) ecut),fun H2 s2=>?_⟩
  have s12:Same H1 H2:=(same_new hsl).trans s2
  refine ⟨_,rfl,_,_,_,rfl,?_⟩
  rw [hlen]
  by_cases hch:CfFile.chars n ((b.drop p).take n) = true
  ·rw [if_pos hch] at k ⊢
   exists z0
   refine ⟨_,rfl,_,rfl,_,rfl,makego rfl fun H3 x dx' s3 hx e3=>?_⟩
   have b3:But [c] H H3:=(b1.trans (Same.but s12)).trans (Same.but s3)
   have d2:Dom H H2:=(cu1.dom b1).trans (Same.dom s12)
   have st3:=(st1.same s12).same s3
   exact k H3 _ x dx' b3 ((Grow.stay st3.le).add (dom_none d2 hx) e3 (same_none (st1.same s12).le hx)) st3.cu upd_same
  ·rw [if_neg hch] at k ⊢
   exact k.now (b1.trans (Same.but s12))
 ·rw [if_neg hle] at k ⊢
  exact k.now (But.refl _ _)
theorem scReadConst:FnScope ["cursor","place","tag","first","second"] ["cursor"] (defScope sReadConst):=scB
theorem d_readConst (T:Txt K mg A) (src:Src K "read_constant" sReadConst) (Dd:Def P w K mg base 3 "demand" ["kept","rule","place"] (spDemand A)) (Du:MDef P w K mg base 5 A.cCur "unsigned" ["self","width"] (spUns A))
  (Dt:Def P w K mg base 5 "read_text" ["cursor","place","size"] (spText A)) (Dm:MDef P w K mg base 1 A.cCon "__init__" ["self","tag","place","first","second"] (spIni A.cCon kCon)) :
  Def P w K mg base 6 "read_constant" ["cursor"] (spConst A):=by
 refine defR src T.kx scReadConst (fun vs H Q E h=>?_) (fun f cdv A' outer s H vs Q E hr h=>?_)
 ·obtain ⟨S,c,a,b,p,rfl,_⟩:=h
  rfl
 obtain ⟨S,c,a,b,p,rfl,st,k⟩:=h
 have ⟨dx,hc⟩:=st.cu
 obtain ⟨kvs,kd,pr⟩:=T.dWI
 refine ⟨_,pss_cons (ps_set (i:=1) scReadConst.nd rfl (Or.inl rfl) (pe_fld (pv 0) rfl))
  (pss_cons (ps_set (i:=2) scReadConst.nd rfl (Or.inl rfl) (pe_md Du (pv 0) T.cur.cl hr passR (pa_cons pe_int pa_nil)))
  (pss_cons (ps_expr (pe_d Dd (rm hr) rfl passR (pa_cons (pe_cmp (pc_kin kd rfl T.gWI (pv 2))) (pa_cons pe_int (pa_cons (pv 1) pa_nil)))))
  (pss_cons (ps_set (i:=3) scReadConst.nd rfl (Or.inl rfl) (pe_md Du (pv 0) T.cur.cl hr passR (pa_cons (pe_ix ix_tup (pe_kget kd rfl T.gWI (pv 2) (fun _ _=>rfl)) pe_int (fun _ _=>rfl)) pa_nil)))
  (pss_cons (ps_if (pt_cmpR op_eq (pv 2) (pe_gi T.g_TEXT rfl) (nomark _)) (pss_one (ps_ret (pe_d Dt hr rfl passR (pa_cons (pv 0) (pa_cons (pv 1) (pa_cons (pv 3) pa_nil)))))) pss_nil)
  (pss_cons (ps_set (i:=4) scReadConst.nd rfl (Or.inl rfl) (pe_md Du (pv 0) T.cur.cl hr passR (pa_cons (pe_ix ix_tup (pe_kget kd rfl T.gWI (pv 2) (fun _ _=>rfl)) pe_int (fun _ _=>rfl)) pa_nil)))
  (pss_one (ps_ret (pe_mk Dm T.mCon.mak T.mCon.kp (rm hr) rfl T.mCon.g passR (pa_cons (pv 2) (pa_cons (pv 1) (pa_cons (pv 3) (pa_cons (pv 4) pa_nil)))))))))))),?_⟩
 rw [post_constant,post_num] at k
 exists _,z0
 refine ⟨_,rfl,fldgo (fun _ _=>_) T.cur hc (i:=1) rfl rfl ?_⟩
 exists z0,z0
 refine ⟨_,rfl,methgo hc (by decide +kernel) ⟨c,a,b,p,1,rfl,st.cu,st.list,?_⟩⟩
 by_cases hle:p + 1 ≤ b.length
 ·rw [if_pos hle] at k ⊢
  intro H1 b1 cu1
  have st1:=st.step b1 cu1
  have ⟨dx1,hc1⟩:=cu1
  have wf:=widths_find pr (big1_lt b p)
  generalize htg:big b p 1 = tg at k wf
  exists z0,z0
  refine ⟨_,rfl,_,rfl,_,rfl,_,_,_,rfl,?_⟩
  cases hw:tagW tg with
  | none =>
   rw [hw] at k wf
   rw [wf]
   exact k.now b1
  | some ww =>
   rw [hw] at k wf
   obtain ⟨pt,hpt,ktp⟩:=wf
   rw [hpt]
   try dsimp only at k
   rw [post_num] at k
   exists z0,z0
   refine ⟨_,rfl,methgo hc1 (by decide +kernel) ⟨_,rfl,_,_,rfl,hpt,pt,_,_,_,rfl,rfl,ktp.sq _,atI_nat (j:=0) rfl,c,a,b,p + 1,ww.1,rfl,cu1,st1.list,?_⟩⟩
   by_cases hle2:p + 1 + ww.1 ≤ b.length
   ·rw [if_pos hle2] at k ⊢
    intro H2 b2 cu2
    have st2:=st1.step b2 cu2
    have ⟨dx2,hc2⟩:=cu2
    have b12:=b1.trans b2
    exists z0,z0
    refine ⟨_,rfl,rfl,_,rfl,?_⟩
    by_cases ht1:tg = 1
    ·rw [decide_eq_true (show V.int (tg:Int) = V.int 1 from congrArg V.int (by omega))]
     rw [if_pos ht1] at k
     refine ⟨_,rfl,_,rfl,_,rfl,S,c,a,b,p + 1 + ww.1,p,big b (p + 1) ww.1,rfl,st2,?_⟩
     rw [post_skip] at k ⊢
     have hww:ww.1 = 2:=by rw [ht1] at hw; cases hw; rfl
     by_cases hle3:p + 1 + ww.1 + big b (p + 1) ww.1 ≤ b.length
     ·rw [if_pos hle3] at k ⊢
      by_cases hch:CfFile.chars (big b (p + 1) ww.1) ((b.drop (p + 1 + ww.1)).take (big b (p + 1) ww.1)) = true
      ·rw [if_pos hch] at k ⊢
       intro H3 S1 kk dk b3 g3 cu3 e3
       have hlen:((b.drop (p + 1 + ww.1)).take (big b (p + 1) ww.1)).length = big b (p + 1) ww.1:=by rw [List.length_take,List.length_drop]; omega
       refine k H3 S1 kk (b12.trans b3) ((Grow.stay st2.le).trans (cu2.dom b12) g3) cu3 ⟨dk,?_⟩ ⟨?_,?_⟩
       ·rw [e3]
        show some (HO.ins A.cCon dk (kCon.zip [.int 1,.int (p:Int),.int ((p + 1 + ww.1:Nat):Int),.int (big b (p + 1) ww.1:Int)])) = some (HO.ins A.cCon dk (kCon.zip [.int 1,.int (p:Int),.int ((p + 3:Nat):Int),.int (((b.drop (p + 1 + ww.1)).take (big b (p + 1) ww.1)).length:Int)]))
        rw [hlen,show p + 1 + ww.1 = p + 3 by omega]
       ·rw [hlen,show p + 3 = p + 1 + ww.1 by omega]
       ·rw [hlen]; omega
      ·rw [if_neg hch] at k ⊢
       exact k.next b12 fun _ h=>h
     ·rw [if_neg hle3] at k ⊢
      exact k.next b12 fun _ h=>h
    ·rw [decide_eq_false (show ¬ V.int (tg:Int) = V.int 1 from fun z=>ht1 (by injection z with z; omega))]
     rw [if_neg ht1,post_num] at k
     exists z0,z0
     refine ⟨_,rfl,methgo hc2 (by decide +kernel) ⟨_,rfl,_,_,rfl,hpt,pt,_,_,_,rfl,rfl,ktp.sq _,atI_nat (j:=1) rfl,c,a,b,p + 1 + ww.1,ww.2,rfl,cu2,st2.list,?_⟩⟩
     by_cases hle3:p + 1 + ww.1 + ww.2 ≤ b.length
     ·rw [if_pos hle3] at k ⊢
      intro H3 b3 cu3
      have st3:=st2.step b3 cu3
      have b13:=b12.trans b3
      exists z0
      refine ⟨_,rfl,_,rfl,_,rfl,_,rfl,makego rfl fun H4 x dx' s4 hx e4=>?_⟩
      have st4:=st3.same s4
      have ok:=mkC_ok (b:=b) (x:=big b (p + 1) ww.1) (y:=big b (p + 1 + ww.1) ww.2) p hw ht1 (fun z=>by rw [z]; exact big_zero b _)
      refine k H4 _ x (b13.trans (Same.but s4)) ((Grow.stay st4.le).add (dom_none (cu3.dom b13) hx) e4 (same_none st3.le hx)) st4.cu ⟨dx',upd_same.trans ?_⟩ ok.1
      rw [ok.2.1,ok.2.2.1,ok.2.2.2]
     ·rw [if_neg hle3] at k ⊢
      exact k.now b12
   ·rw [if_neg hle2] at k ⊢
    exact k.now b1
 ·rw [if_neg hle] at k ⊢
  exact k.now (But.refl _ _)
end
theorem same_at {S H:Hp} {x:Addr} {o:HO} (s:Same S H) (n:S x = none):Same S (upd H x o):=fun y u e=>by
 rw [upd_ne (ne_of_none e n)]; exact s y u e
theorem but_at {W:List Addr} {H H1:Hp} {x:Addr} {o:HO} (b:But W H H1) (n:H x = none):But W H (upd H1 x o):=fun y u e nw=>by
 rw [upd_ne (ne_of_none e n)]; exact b y u e nw
theorem St.put {A:Adr} {S H:Hp} {c a x:Addr} {b:List UInt8} {p:Nat} {o:HO} (h:St A S H c a b p) (n:S x = none) (ne:c ≠ x):St A S (upd H x o) c a b p :=
 ⟨same_at h.le n,h.nc,h.ct,let ⟨dx,e⟩:=h.cu; ⟨dx,by rw [upd_ne ne]; exact e⟩⟩
theorem unsif {A:Adr} {S H0 H:Hp} {c a:Addr} {b:List UInt8} {p n:Nat} {OK:Nat→Nat→Prop} {R:Hp→Prop} {E:XK} (st:St A S H c a b p) (bt:But [c] H0 H)
  (k:Post (CfFile.num b n) p OK (fun r e=>Fails A [c] H0 E r e)) (q:∀ H1,But [c] H H1→But [c] H0 H1→St A S H1 c a b (p + n)→p + n ≤ b.length→OK (big b p n) (p + n)→R H1) :
  if p + n ≤ b.length then ∀ H',But [c] H H'→CurIs A H' c a (p + n)→R H' else Fails A [] H E 1 p:=by
 rw [post_num] at k
 by_cases h:p + n ≤ b.length
 ·rw [if_pos h] at k ⊢
  exact fun H1 b1 cu=>q H1 b1 (bt.trans b1) (st.step b1 cu) h k
 ·rw [if_neg h] at k ⊢
  exact k.now bt
theorem skipif {A:Adr} {S H0 H:Hp} {c a:Addr} {b:List UInt8} {p n:Nat} {OK:Nat→Nat→Prop} {R:Hp→Prop} {E:XK} (st:St A S H c a b p) (bt:But [c] H0 H)
  (k:Post (CfFile.skip b n) p OK (fun r e=>Fails A [c] H0 E r e)) (q:∀ H1,But [c] H H1→But [c] H0 H1→St A S H1 c a b (p + n)→p + n ≤ b.length→OK p (p + n)→R H1) :
  if p + n ≤ b.length then ∀ H',But [c] H H'→CurIs A H' c a (p + n)→R H' else Fails A [] H E 1 p:=by
 rw [post_skip] at k
 by_cases h:p + n ≤ b.length
 ·rw [if_pos h] at k ⊢
  exact fun H1 b1 cu=>q H1 b1 (bt.trans b1) (st.step b1 cu) h k
 ·rw [if_neg h] at k ⊢
  exact k.now bt
theorem demif {A:Adr} {W:List Addr} {H0 H:Hp} {c c':Bool} {r e p:Nat} {r' e':Int} {OK:Unit→Nat→Prop} {R:Prop} {E:XK} (bt:But W H0 H) (k:Post (CfFile.must c r e) p OK (fun r e=>Fails A W H0 E r e))
  (hr:r' = (r:Int)) (he:e' = (e:Int)) (hc:c' = c) (q:c = true→OK () p→R):if c' = true then R else Fails A [] H E r' e':=by
 subst hr he hc
 rw [post_must] at k
 by_cases h:c' = true
 ·rw [if_pos h] at k ⊢
  exact q h k
 ·rw [if_neg h] at k ⊢
  exact k.now bt
theorem big2_lt (b:List UInt8) (p:Nat):big b p 2 < 65536:=by
 unfold big
 match e:(b.drop p).take 2 with
 | []=>simp
 | [c]=>have:=c.toNat_lt; simp; omega
 | [c,d]=>have:=c.toNat_lt; have:=d.toNat_lt; simp; omega
 | c :: d :: g :: r =>
  have:=congrArg List.length e
  rw [List.length_take] at this
  simp at this
  omega
theorem szl {n:Nat} (h:n ≤ 70000):n < sizeLine:=by rw [sizeLine_eq]; omega
theorem in_ints (n:Nat) (ms:List Nat):inV (.int (n:Int)) (ms.map fun (m:Nat)=>V.int (m:Int)) = ms.any fun m=>m == n:=by
 unfold inV
 rw [List.any_map]
 congr 1
 funext d
 show ((d:Int) == (n:Int)) = (d == n)
 by_cases h:d = n
 ·rw [h]; simp
 ·rw [beq_eq_false_iff_ne.mpr h,beq_eq_false_iff_ne.mpr fun z=>h (by omega)]
theorem paired_snoc {α β:Type} {F:α→β→Prop}:∀ {l:List α} {m:List β} {x:α} {y:β},Paired F l m→F x y→Paired F (l ++ [x]) (m ++ [y])
 | _,_,_,_,.nil,h=>.cons h .nil
 | _,_,_,_,.cons r t,h=>.cons r (paired_snoc t h)
theorem ok_snoc {b:List UInt8} {l:Pool} (h:AllOk b l) {o:Option (Nat × CfFile.Const)} (ho:∀ p c,o = some (p,c)→OkC b p c):AllOk b (l ++ [o]):=fun i p c e=>by
 by_cases hi:i < l.length
 ·rw [List.getElem?_append_left hi] at e
  exact h i p c e
 ·rw [List.getElem?_append_right (by omega)] at e
  cases z:i - l.length with
  | zero =>
   rw [z] at e
   exact ho p c (by simpa using e)
  | succ j=>rw [z] at e; simp at e
def poolP (b:List UInt8):CfFile.P Pool:=do
 let pc ← CfFile.here
 let n ← CfFile.num b 2
 CfFile.must (decide (0 < n)) CfFile.COUNT pc
 let l0 ← CfFile.constants b (n - 1)
 return none :: l0
inductive spPoolR (A:Adr) (vs:List V) (H:Hp) (Q:VK) (E:XK):Prop
 | mk (S:Hp) (c a:Addr) (b:List UInt8) (p:Nat) (_:vs = [.ref c]) (_:St A S H c a b p) (_:Post (poolP b) p (fun l q=>∀ H' S1 k,But [c] H H'→Grow S H S1 H'→CurIs A H' c a q→PoolAt A S1 k a b l→Q (.ref k) H') (fun r e=>Fails A [c] H E r e))
section
variable {P:Program} {w:World} {K:PySem.W.Frag} {mg:Str→Option Value} {base:Heap} {A:Adr}
theorem scReadPool:FnScope ["cursor","place","size","constants","constant"] ["cursor"] (defScope sReadPool):=scB
inductive PooW (A:Adr) (c cl a:Addr) (b:List UInt8) (p N:Nat) (S H:Hp) (Q:VK) (E:XK) (m:Nat) (σ:L2.St) (H':Hp):Prop
 | mk (S1:Hp) (l:Pool) (vs:List V) (q:Nat) (vc:Option V) (_:σ = [some (.ref c),some (.int (p:Int)),some (.int (N:Int)),some (.ref cl),vc]) (_:m = N - l.length) (_:l.length ≤ N) (_:St A S1 H' c a b q) (_:Grow S H S1 H') (_:But [c] H H') (_:H' cl = some (.lst vs)) (_:S1 cl = none) (_:Paired (CoIs A S1) l vs) (_:AllOk b l) (_:Post (CfFile.constants b (N - l.length)) q (fun l' q'=>∀ H' S1 k,But [c] H H'→Grow S H S1 H'→CurIs A H' c a q'→PoolAt A S1 k a b (l ++ l')→Q (.ref k) H') (fun r e=>Fails A [c] H E r e))
theorem d_readPool (T:Txt K mg A) (src:Src K "read_pool" sReadPool) (Dd:Def P w K mg base 3 "demand" ["kept","rule","place"] (spDemand A)) (Du:MDef P w K mg base 5 A.cCur "unsigned" ["self","width"] (spUns A))
  (Dc:Def P w K mg base 6 "read_constant" ["cursor"] (spConst A)) (Dm:MDef P w K mg base 1 A.cPoo "__init__" ["self","content","constants"] (spIni A.cPoo kPoo)) :
  Def P w K mg base 7 "read_pool" ["cursor"] (spPoolR A):=by
 refine defR src T.kx scReadPool (fun vs H Q E h=>?_) (fun f cdv A' outer s H vs Q E hr h=>?_)
 ·obtain ⟨S,c,a,b,p,rfl,_⟩:=h
  rfl
 obtain ⟨S,c,a,b,p,rfl,st,k⟩:=h
 have ⟨dx,hc⟩:=st.cu
 refine ⟨_,pss_cons (ps_set (i:=1) scReadPool.nd rfl (Or.inl rfl) (pe_fld (pv 0) rfl))
  (pss_cons (ps_set (i:=2) scReadPool.nd rfl (Or.inl rfl) (pe_md Du (pv 0) T.cur.cl (rm hr) passR (pa_cons pe_int pa_nil)))
  (pss_cons (ps_expr (pe_d Dd (rm hr) rfl passR (pa_cons (pe_cmpR op_gt (pv 2) pe_int (nomark _)) (pa_cons pe_int (pa_cons (pv 1) pa_nil)))))
  (pss_cons (ps_set (i:=3) scReadPool.nd rfl (Or.inl rfl) (pe_lst (pa_cons pe_non pa_nil)))
  (pss_cons (ps_while ownR (pt_cmpR op_lt (pe_callB call_len_seq (by rfl) T.nLen PySem.boot_len (pa_cons (pv 3) pa_nil)) (pv 2) (nomark _))
   (pss_cons (ps_set (i:=4) scReadPool.nd rfl (Or.inl rfl) (pe_d Dc hr rfl passR (pa_cons (pv 0) pa_nil)))
   (pss_cons (ps_expr (pe_bm PySem.F.plainAttrs_list PySem.F.slot_list_append PySem.F.type_list_append mt_append (pv 3) (pa_cons (pv 4) pa_nil)))
   (pss_one (ps_if (pt_cmpR op_in_seq (pe_fld (pv 4) rfl) (pe_tup (pa_cons (pe_gi T.g_LONG rfl) (pa_cons (pe_gi T.g_DOUBLE rfl) pa_nil))) rfl)
    (pss_cons (ps_expr (pe_d Dd (rm hr) rfl passR (pa_cons (pe_cmpR op_lt (pe_callB call_len_seq (by rfl) T.nLen PySem.boot_len (pa_cons (pv 3) pa_nil)) (pv 2) (nomark _)) (pa_cons pe_int (pa_cons (pe_fld (pv 4) rfl) pa_nil)))))
    (pss_one (ps_expr (pe_bm PySem.F.plainAttrs_list PySem.F.slot_list_append PySem.F.type_list_append mt_append (pv 3) (pa_cons pe_non pa_nil))))) pss_nil)))))
  (pss_one (ps_ret (pe_mk Dm T.mPoo.mak T.mPoo.kp (rm hr) rfl T.mPoo.g passR (pa_cons (pe_fld (pv 0) rfl) (pa_cons (pv 3) pa_nil))))))))),?_⟩
 unfold poolP at k
 simp only [post_bind,post_here,post_pure] at k
 exists _,z0
 refine ⟨_,rfl,fldgo (fun _ _=>_) T.cur hc (i:=1) rfl rfl ?_⟩
 exists z0,z0
 refine ⟨_,rfl,methgo hc (by decide +kernel) ⟨c,a,b,p,2,rfl,st.cu,st.list,unsif st (But.refl _ _) k fun H1 _ b1 st1 hle k=>?_⟩⟩
 have hN:=big2_lt b p
 generalize big b p 2 = N at k hN
 exists z0,z0
 refine ⟨_,rfl,_,_,rfl,rfl,_,rfl,_,_,_,rfl,demif b1 k rfl rfl (by rw [decide_eq_decide]; omega) fun h0 k=>?_⟩
 have hN0:0 < N:=of_decide_eq_true h0
 exists z0,z0
 refine ⟨Nat.le_of_lt (szl (by decide:1 ≤ 70000)),fun cl hcl=>?_⟩
 have ⟨dx1,hc1⟩:=st1.cu
 have d1:Dom H H1:=dom_but1 b1 hc1
 have ncl:c ≠ cl:=ne_of_none hc1 hcl
 exists z0,z0
 refine ⟨PooW A c cl a b p N S H Q E,
  ⟨N - 1,S,[none],[.non],p + 2,none,rfl,rfl,hN0,st1.put (same_none st1.le hcl) ncl,Grow.stay (same_at st1.le (same_none st1.le hcl)),but_at b1 (dom_none d1 hcl),upd_same,same_none st1.le hcl,.cons rfl .nil,ok_snoc (l:=[]) (fun i p c e=>by simp at e) (fun p c e=>by cases e),k⟩,?_⟩
 rintro m σ H2 ⟨S2,l,us,q,vc,rfl,rfl,hl,st2,g2,b2,hcl2,ncl2,pr,ok,k⟩
 have hlen:=paired_len pr
 have ⟨dx2,hc2⟩:=st2.cu
 refine ⟨_,rfl,cl,_,rfl,.inl (SqL.of hcl2),_,rfl,_,_,rfl,rfl,_,rfl,?_⟩
 by_cases hlt:l.length < N
 ·rw [decide_eq_true (show (us.length:Int) < (N:Int) by omega)]
  refine ⟨fun σ' H'=>∃ m',m' < N - l.length∧PooW A c cl a b p N S H Q E m' σ' H',fun _ _ h=>h,?_⟩
  rw [show N - l.length = (N - l.length - 1) + 1 by omega,post_constants] at k
  exists _,z1
  refine ⟨_,rfl,S2,c,a,b,q,rfl,st2,k.mono (fun x q2 z H3 S3 kk b3 g3 cu3 co okc=>?_) (fun r e f=>f.next b2 fun _ h=>h)⟩
  have st3:=st2.grow g3 cu3
  have hcl3:H3 cl = some (.lst us):=b3 _ _ hcl2 (by simpa using Ne.symm ncl)
  have ncl3:S3 cl = none:=g3.new cl (isSome_of hcl2) ncl2
  have d2:Dom H H2:=dom_but1 b2 hc2
  have gg3:Grow S H S3 H3:=g2.trans d2 g3
  have b13:=b2.trans b3
  obtain ⟨dk,hk⟩:=id co
  have hclH:H cl = none:=dom_none d1 hcl
  exists z1,z1
  refine ⟨_,rfl,.inl ⟨rfl,_,SqL.of hcl3⟩,_,rfl,cl,_,_,rfl,rfl,hcl3,szl (by omega),?_⟩
  have st4:=st3.put (o:=.lst (us ++ [.ref kk])) ncl3 ncl
  have hk4:(upd H3 cl (.lst (us ++ [.ref kk]))) kk = some (.ins A.cCon dk (kCon.zip [.int (x.tag:Int),.int (q:Int),.int (fst q x:Int),.int (snd x:Int)])):=st4.le _ _ hk
  exists z1
  refine ⟨_,rfl,fldgo (fun _ _=>_) T.con hk4 (i:=0) rfl rfl ⟨Nat.le_of_lt (szl (by decide:2 ≤ 70000)),fun t ht=>⟨t,_,rfl,.inr (SqT.of upd_same),rfl,rfl,_,rfl,?_⟩⟩⟩
  have hin:inV (.int (x.tag:Int)) [.int 5,.int 6] = x.isWide:=by
   rw [isWide_tag okc]
   rw [show inV (.int (x.tag:Int)) [.int 5,.int 6] = _ from in_ints x.tag [5,6]]
   simp [Bool.beq_comm]
  rw [show (if false = true then !inV (V.int (x.tag:Int)) [V.int 5,V.int 6] else inV (V.int (x.tag:Int)) [V.int 5,V.int 6]) = x.isWide from hin]
  generalize hH4:upd H3 cl (.lst (us ++ [.ref kk])) = H4 at *
  have hcl4:H4 cl = some (.lst (us ++ [.ref kk])):=by rw [← hH4]; exact upd_same
  have b4:But [c] H H4:=by rw [← hH4]; exact but_at b13 hclH
  have g4:Grow S H S3 H4:=gg3.later st4.le
  have s5:Same H4 (upd H4 t (.tup [.int 5,.int 6])):=same_new ht
  have b5:=b4.trans (Same.but s5)
  have st5:=st4.same s5
  have g5:=g4.later st5.le
  have pr4:Paired (CoIs A S3) (l ++ [some (q,x)]) (us ++ [.ref kk]):=paired_snoc (Paired.mapP pr fun _ _ z=>co_up g3.le z) ⟨kk,rfl,co⟩
  have ok4:AllOk b (l ++ [some (q,x)]):=ok_snoc ok fun p c e=>by cases e; exact okc
  generalize hH5:upd H4 t (.tup [.int 5,.int 6]) = H5 at *
  have hcl5:=s5 _ _ hcl4
  cases hw:x.isWide with
  | true =>
   rw [hw] at z
   refine ⟨_,rfl,cl,_,rfl,.inl (SqL.of hcl5),_,rfl,_,_,rfl,rfl,_,rfl,fldgo (fun _ _=>_) T.con (s5 _ _ hk4) (i:=1) rfl rfl ?_⟩
   by_cases hlast:N - l.length - 1 = 0
   ·rw [if_pos rfl,if_pos hlast] at z
    refine ⟨_,_,_,rfl,?_⟩
    rw [decide_eq_false (by rw [List.length_append,List.length_singleton]; omega)]
    exact Fails.now z b5
   ·rw [if_pos rfl,if_neg hlast] at z
    refine ⟨_,_,_,rfl,?_⟩
    rw [decide_eq_true (by rw [List.length_append,List.length_singleton]; omega)]
    refine ⟨_,rfl,.inl ⟨rfl,_,SqL.of hcl5⟩,cl,_,_,rfl,rfl,hcl5,szl (by rw [List.length_append,List.length_singleton]; omega),?_⟩
    refine ⟨N - (l.length + 2),by omega,S3,l ++ [some (q,x)] ++ [none],us ++ [.ref kk] ++ [.non],q2,some (.ref kk),rfl,by simp only [List.length_append,List.length_singleton],by simp only [List.length_append,List.length_singleton]; omega,st5.put ncl3 ncl,g5.later (same_at st5.le ncl3),but_at b5 hclH,upd_same,ncl3,paired_snoc pr4 (show CoIs A S3 none .non from rfl),ok_snoc ok4 (fun p c e=>by cases e),?_⟩
    have ll:List.length (l ++ [some (q,x)] ++ [none]:Pool) = l.length + 2:=by simp
    rw [ll,show N - (l.length + 2) = N - l.length - 1 - 1 by omega]
    refine z.mono (fun l' q' zz H' S1 k' b' g' cu' po=>zz H' S1 k' b' g' cu' ?_) (fun _ _ f=>f)
    simpa using po
  | false =>
   rw [hw] at z
   refine ⟨N - (l.length + 1),by omega,S3,l ++ [some (q,x)],us ++ [.ref kk],q2,some (.ref kk),rfl,by simp only [List.length_append,List.length_singleton],by simp only [List.length_append,List.length_singleton]; omega,st5,g5,b5,hcl5,ncl3,pr4,ok4,?_⟩
   have ll:List.length (l ++ [some (q,x)]:Pool) = l.length + 1:=by simp
   rw [ll,show N - (l.length + 1) = N - l.length - 1 by omega]
   rw [if_neg (by decide)] at z
   refine z.mono (fun l' q' zz H' S1 k' b' g' cu' po=>zz H' S1 k' b' g' cu' ?_) (fun _ _ f=>f)
   simpa using po
 ·rw [decide_eq_false (show ¬ (us.length:Int) < (N:Int) by omega)]
  rw [show N - l.length = 0 by omega] at k
  have k:∀ H' S1 k,But [c] H H'→Grow S H S1 H'→CurIs A H' c a q→PoolAt A S1 k a b (l ++ [])→Q (.ref k) H':=k
  rw [List.append_nil] at k
  exists z0
  refine ⟨_,rfl,fldgo (fun _ _=>_) T.cur hc2 (i:=0) rfl rfl ⟨_,rfl,makego rfl fun H3 x dx' s3 hx e3=>?_⟩⟩
  have d2:Dom H H2:=dom_but1 b2 hc2
  have st3:=st2.same s3
  have nx:S2 x = none:=same_none st2.le hx
  have hclx:cl ≠ x:=ne_of_none hcl2 hx
  have hclH:H cl = none:=dom_none d1 hcl
  have gA:=(g2.later st3.le).add hclH (s3 _ _ hcl2) ncl2
  have gB:=gA.add (dom_none d2 hx) e3 (by rw [upd_ne (Ne.symm hclx)]; exact nx)
  refine k H3 _ x (b2.trans (Same.but s3)) gB st3.cu ⟨⟨dx',cl,us,upd_same,?_,?_⟩,?_,ok⟩
  ·rw [upd_ne hclx]; exact upd_same
  ·have sS:Same S2 (upd (upd S2 cl (.lst us)) x (.ins A.cPoo dx' (kPoo.zip [.ref a,.ref cl]))):=same_at (same_at (same_refl S2) ncl2) nx
   exact Paired.mapP pr fun _ _ z=>co_up sS z
  ·have sS:Same S2 (upd (upd S2 cl (.lst us)) x (.ins A.cPoo dx' (kPoo.zip [.ref a,.ref cl]))):=same_at (same_at (same_refl S2) ncl2) nx
   exact sS _ _ st2.ct
end
structure Lib (P:Program) (w:World) (K:PySem.W.Frag) (mg:Str→Option Value) (base:Heap) (A:Adr):Prop where
 dem:Def P w K mg base 3 "demand" ["kept","rule","place"] (spDemand A)
 skp:MDef P w K mg base 4 A.cCur "skip" ["self","size"] (spSkip A)
 uns:MDef P w K mg base 5 A.cCur "unsigned" ["self","width"] (spUns A)
 rof:Def P w K mg base 1 "row_of" ["word"] spRowOf
 sim:Def P w K mg base 2 "is_simple_name" ["row"] (spRow fun b=>.bl (CfFile.simple b))
 ini:Def P w K mg base 2 "is_init" ["row"] (spRow fun b=>.bl (decide (b = CfFile.ascii "<init>")))
 plm:Def P w K mg base 3 "is_plain_method_name" ["row"] (spRow fun b=>.bl (plainM b))
 mna:Def P w K mg base 4 "is_method_name" ["row"] (spRow fun b=>.bl (CfFile.methodName b))
 arr:Def P w K mg base 2 "is_array" ["row"] (spRow fun b=>.bl (decide (b.head? = some 91)))
 giv:Def P w K mg base 2 "gives_nothing" ["row"] (spRow fun b=>.bl (decide (b.getLast? = some 86)))
 cln:Def P w K mg base 2 "is_class_name" ["row"] (spRow fun b=>.bl (CfFile.className b))
 fld:Def P w K mg base 5 "is_field_descriptor" ["row"] (spRow fun b=>.bl (CfFile.isField b))
 arg:Def P w K mg base 7 "argument_slots" ["row"] (spRow fun b=>oNat (methodSlots b))
 mth:Def P w K mg base 8 "is_method_descriptor" ["row"] (spRow fun b=>.bl (CfFile.isMethod b))
 tag:MDef P w K mg base 1 A.cPoo "tag_of" ["self","number"] (spPool A fun l n=>.int (tagAt l n:Int))
 txt:MDef P w K mg base 2 A.cPoo "is_text" ["self","number"] (spPool A fun l n=>.bl (tagAt l n == 1))
 row:MDef P w K mg base 1 A.cPoo "row" ["self","number"] (spGive A CfFile.textAt)
 nam:MDef P w K mg base 3 A.cPoo "is_named" ["self","number"] (spPool A fun l n=>.bl (CfFile.namedAt l n).isSome)
 fro:MDef P w K mg base 2 A.cPoo "first_row" ["self","number"] (spGive A firstOf)
 sro:MDef P w K mg base 2 A.cPoo "second_row" ["self","number"] (spGive A secondOf)
 poo:Def P w K mg base 7 "read_pool" ["cursor"] (spPoolR A)
 iCur:MDef P w K mg base 1 A.cCur "__init__" ["self","content","place"] (spIni A.cCur kCur)
 iAtt:MDef P w K mg base 1 A.cAtt "__init__" ["self","name","start","size"] (spIni A.cAtt kAtt)
 iBod:MDef P w K mg base 1 A.cBod "__init__" ["self","stack","variables","start","size"] (spBodI A)
 iMem:MDef P w K mg base 1 A.cMem "__init__" ["self","place","flags","name","descriptor"] (spMemI A)
theorem className_br (r:List UInt8):CfFile.className (91 :: r) = false:=by
 unfold CfFile.className CfFile.parts
 rw [if_neg (by decide)]
 cases CfFile.parts r with
 | nil=>simp [CfFile.simple]
 | cons p l=>simp [CfFile.simple]
theorem class_fits (s:List UInt8):(if decide (s.head? = some 91) = true then CfFile.isField s else CfFile.className s) = (CfFile.className s || CfFile.arrayName s):=by
 unfold CfFile.arrayName
 cases s with
 | nil=>rfl
 | cons c r =>
  by_cases h:c = 91
  ·subst h
   rw [className_br]
   rfl
  ·have e:decide ((c :: r).head? = some 91) = false:=by simp [h]
   have e2:((c :: r).head? == some 91) = false:=by simp [h]
   rw [e,e2]
   simp
theorem named_second {l:Pool} {n:Nat} {s t:List UInt8} (h:CfFile.namedAt l n = some (s,t)):firstOf l n = some s∧secondOf l n = some t:=by
 unfold CfFile.namedAt at h
 split at h
 ·rename_i x y e
  obtain ⟨p,hp⟩:=constAt_iff.mp e
  split at h
  ·rename_i s' t' e1 e2
   cases h
   unfold firstOf secondOf
   rw [hp]
   exact ⟨e1,e2⟩
  ·cases h
 ·cases h
theorem plain_not:plainM (CfFile.ascii "<init>") = false∧plainM (CfFile.ascii "<clinit>") = false∧CfFile.ascii "<init>" ≠ CfFile.ascii "<clinit>":=by decide +kernel
theorem callable_eq (k:Nat) (s t:List UInt8) (h:CfFile.isMethod t = true):CfFile.callable k s t = if decide (s = CfFile.ascii "<init>") = true then (k == 10 && decide (t.getLast? = some 86)) else plainM s:=by
 unfold CfFile.callable
 rw [methodName_eq,method_result h]
 obtain ⟨h1,h2,h3⟩:=plain_not
 by_cases e:s = CfFile.ascii "<init>"
 ·rw [e,h1]
  simp [h3]
 ·by_cases e2:s = CfFile.ascii "<clinit>"
  ·rw [e2,h2]
   simp
   intro z
   exact absurd z.symm h3
  ·rw [show (s != CfFile.ascii "<clinit>") = true from bne_iff_ne.mpr e2,show (s != CfFile.ascii "<init>") = true from bne_iff_ne.mpr e,decide_eq_false e,decide_eq_false e2]
   simp
theorem callable_0 (s t:List UInt8):CfFile.callable 0 s t = plainM s:=by
 unfold CfFile.callable
 rw [methodName_eq]
 obtain ⟨h1,h2,h3⟩:=plain_not
 by_cases e:s = CfFile.ascii "<init>"
 ·rw [e,h1]
  simp
 ·by_cases e2:s = CfFile.ascii "<clinit>"
  ·rw [e2,h2]
   simp
  ·rw [show (s != CfFile.ascii "<clinit>") = true from bne_iff_ne.mpr e2,show (s != CfFile.ascii "<init>") = true from bne_iff_ne.mpr e,decide_eq_false e,decide_eq_false e2]
   simp
inductive spCk (A:Adr) (pat:CfFile.Const→Prop) (g:Pool→Nat→CfFile.Const→CfFile.P Unit) (vs:List V) (H:Hp) (Q:VK) (E:XK):Prop
 | mk (S:Hp) (q a:Addr) (b:List UInt8) (l:Pool) (k:Addr) (p:Nat) (x:CfFile.Const) (z:Nat) (_:vs = [.ref q,.ref k]) (_:PoolAt A S q a b l) (_:Same S H) (_:CoAt A S k p x) (_:pat x) (_:Post (g l p x) z (fun _ _=>∀ H',Same H H'→Q .non H') (fun r e=>Fails A [] H E r e))
theorem spCk.len {A:Adr} {pat:CfFile.Const→Prop} {g:Pool→Nat→CfFile.Const→CfFile.P Unit} {vs:List V} {H:Hp} {Q:VK} {E:XK} (h:spCk A pat g vs H Q E):vs.length = (["pool","constant"]:List Str).length:=by
 obtain ⟨S,q,a,b,l,k,p,x,z,rfl,_⟩:=h
 rfl
def ownerP (l:Pool) (p:Nat):CfFile.Const→CfFile.P Unit
 | .member _ c n=>do
  CfFile.must (CfFile.isClass l c) CfFile.REF p
  CfFile.must (CfFile.namedAt l n).isSome CfFile.REF p
 | _=>pure ()
abbrev sCkClass:Stmt:=top 42
abbrev sCkString:Stmt:=top 43
abbrev sCkNamed:Stmt:=top 44
abbrev sCkField:Stmt:=top 45
abbrev sCkMethod:Stmt:=top 46
abbrev sCkOwner:Stmt:=top 47
abbrev sCkHandle:Stmt:=top 48
abbrev sCkSig:Stmt:=top 49
abbrev sCkSite:Stmt:=top 50
section
variable {P:Program} {w:World} {K:PySem.W.Frag} {mg:Str→Option Value} {base:Heap} {A:Adr}
theorem scCkClass:FnScope ["pool","constant","row","fits"] ["pool","constant"] (defScope sCkClass):=scB
theorem d_ckClass (T:Txt K mg A) (src:Src K "check_class" sCkClass) (L:Lib P w K mg base A):Def P w K mg base 9 "check_class" ["pool","constant"] (spCk A (fun x=>∃ i,x = .class_ i) CfFile.holds):=by
 refine defR src T.kx scCkClass (fun vs H Q E h=>h.len) (fun f cdv A' outer s H vs Q E hr h=>?_)
 obtain ⟨S,q,a,b,l,kk,p,x,z,rfl,po,le,⟨dk,hk⟩,⟨i,rfl⟩,k⟩:=h
 obtain ⟨dx,cl,us,h1,h2,pr⟩:=id po.ob
 have hk:=le _ _ hk
 have hq:=le _ _ h1
 refine ⟨_,pss_cons (ps_expr (pe_d L.dem (rm hr) rfl passR (pa_cons (pe_md L.txt (pv 0) T.poo.cl (rm hr) passR (pa_cons (pe_fld (pv 1) rfl) pa_nil)) (pa_cons pe_int (pa_cons (pe_fld (pv 1) rfl) pa_nil)))))
  (pss_cons (ps_set (i:=2) scCkClass.nd rfl (Or.inl rfl) (pe_md L.row (pv 0) T.poo.cl (rm hr) passR (pa_cons (pe_fld (pv 1) rfl) pa_nil)))
  (pss_cons (ps_set (i:=3) scCkClass.nd rfl (Or.inl rfl) (pe_ifExp (pt_val (pe_d L.arr (rm hr) rfl passR (pa_cons (pv 2) pa_nil))) (pe_d L.fld (rm hr) rfl passR (pa_cons (pv 2) pa_nil)) (pe_d L.cln (rm hr) rfl passR (pa_cons (pv 2) pa_nil))))
  (pss_one (ps_expr (pe_d L.dem (rm hr) rfl passR (pa_cons (pv 3) (pa_cons pe_int (pa_cons (pe_fld (pv 1) rfl) pa_nil)))))))),?_⟩
 exists _,z0
 refine ⟨_,rfl,methgo hq (by decide +kernel) ⟨_,rfl,fldgo (fun _ _=>_) T.con hk (i:=2) rfl rfl ⟨S,q,a,b,l,i,rfl,po,le,_,rfl,fldgo (fun _ _=>_) T.con hk (i:=1) rfl rfl ⟨_,_,_,rfl,?_⟩⟩⟩⟩
 unfold CfFile.holds at k
 try dsimp only at k
 rw [← textAt_tag po.ok]
 cases ht:CfFile.textAt l i with
 | none =>
  rw [ht] at k
  exact k
 | some t =>
  rw [ht] at k
  exists z0,z0
  refine ⟨_,rfl,methgo hq (by decide +kernel) ⟨_,rfl,fldgo (fun _ _=>_) T.con hk (i:=2) rfl rfl ⟨S,q,a,b,l,i,t,rfl,po,le,ht,fun H1 r s1 _ hr1=>?_⟩⟩⟩
  exists z0
  refine ⟨_,rfl,r,t,rfl,hr1,fun H2 s2=>⟨_,rfl,?_⟩⟩
  have s12:=s1.trans s2
  have fin:∀ H3,Same H H3→spDemand A [.bl (CfFile.className t || CfFile.arrayName t),.int 9,.int (p:Int)] H3 (fun _ H4=>Q .non H4) E:=fun H3 s3=>⟨_,_,_,rfl,demif (Same.but s3) k rfl rfl rfl fun _ k=>k H3 s3⟩
  have cf:=class_fits t
  cases h91:decide (t.head? = some 91) with
  | true =>
   rw [h91,if_pos rfl] at cf
   refine ⟨_,rfl,r,t,rfl,s2 _ _ hr1,fun H3 s3=>⟨_,rfl,_,rfl,fldgo (fun _ _=>_) T.con ((s12.trans s3) _ _ hk) (i:=1) rfl rfl ?_⟩⟩
   have:=fin H3 (s12.trans s3)
   rw [← cf] at this
   exact this
  | false =>
   rw [h91,if_neg (by decide)] at cf
   refine ⟨_,rfl,r,t,rfl,s2 _ _ hr1,fun H3 s3=>⟨_,rfl,_,rfl,fldgo (fun _ _=>_) T.con ((s12.trans s3) _ _ hk) (i:=1) rfl rfl ?_⟩⟩
   have:=fin H3 (s12.trans s3)
   rw [← cf] at this
   exact this
theorem scCkString:FnScope ["pool","constant"] ["pool","constant"] (defScope sCkString):=scB
theorem d_ckString (T:Txt K mg A) (src:Src K "check_string" sCkString) (L:Lib P w K mg base A):Def P w K mg base 9 "check_string" ["pool","constant"] (spCk A (fun x=>∃ i,x = .string i) CfFile.holds):=by
 refine defR src T.kx scCkString (fun vs H Q E h=>h.len) (fun f cdv A' outer s H vs Q E hr h=>?_)
 obtain ⟨S,q,a,b,l,kk,p,x,z,rfl,po,le,⟨dk,hk⟩,⟨i,rfl⟩,k⟩:=h
 obtain ⟨dx,cl,us,h1,h2,pr⟩:=id po.ob
 have hk:=le _ _ hk
 have hq:=le _ _ h1
 refine ⟨_,pss_one (ps_expr (pe_d L.dem (rm hr) rfl passR (pa_cons (pe_md L.txt (pv 0) T.poo.cl (rm hr) passR (pa_cons (pe_fld (pv 1) rfl) pa_nil)) (pa_cons pe_int (pa_cons (pe_fld (pv 1) rfl) pa_nil))))),?_⟩
 refine ⟨_,rfl,methgo hq (by decide +kernel) ⟨_,rfl,fldgo (fun _ _=>_) T.con hk (i:=2) rfl rfl ⟨S,q,a,b,l,i,rfl,po,le,_,rfl,fldgo (fun _ _=>_) T.con hk (i:=1) rfl rfl ⟨_,_,_,rfl,?_⟩⟩⟩⟩
 unfold CfFile.holds at k
 try dsimp only at k
 exact demif (But.refl _ _) k rfl rfl (textAt_tag po.ok i).symm fun _ k=>k H (same_refl H)
theorem scCkNamed:FnScope ["pool","constant","row"] ["pool","constant"] (defScope sCkNamed):=scB
theorem d_ckNamed (T:Txt K mg A) (src:Src K "check_named" sCkNamed) (L:Lib P w K mg base A):Def P w K mg base 9 "check_named" ["pool","constant"] (spCk A (fun x=>∃ i j,x = .named i j) CfFile.holds):=by
 refine defR src T.kx scCkNamed (fun vs H Q E h=>h.len) (fun f cdv A' outer s H vs Q E hr h=>?_)
 obtain ⟨S,q,a,b,l,kk,p,x,z,rfl,po,le,⟨dk,hk⟩,⟨i,j,rfl⟩,k⟩:=h
 obtain ⟨dx,cl,us,h1,h2,pr⟩:=id po.ob
 have hk:=le _ _ hk
 have hq:=le _ _ h1
 refine ⟨_,pss_cons (ps_expr (pe_d L.dem (rm hr) rfl passR (pa_cons (pe_and (pe_md L.txt (pv 0) T.poo.cl (rm hr) passR (pa_cons (pe_fld (pv 1) rfl) pa_nil)) (pe_one (pe_md L.txt (pv 0) T.poo.cl (rm hr) passR (pa_cons (pe_fld (pv 1) rfl) pa_nil)))) (pa_cons pe_int (pa_cons (pe_fld (pv 1) rfl) pa_nil)))))
  (pss_cons (ps_expr (pe_d L.dem (rm hr) rfl passR (pa_cons (pe_d L.sim (rm hr) rfl passR (pa_cons (pe_md L.row (pv 0) T.poo.cl (rm hr) passR (pa_cons (pe_fld (pv 1) rfl) pa_nil)) pa_nil)) (pa_cons pe_int (pa_cons (pe_fld (pv 1) rfl) pa_nil)))))
  (pss_cons (ps_set (i:=2) scCkNamed.nd rfl (Or.inl rfl) (pe_md L.row (pv 0) T.poo.cl (rm hr) passR (pa_cons (pe_fld (pv 1) rfl) pa_nil)))
  (pss_one (ps_expr (pe_d L.dem (rm hr) rfl passR (pa_cons (pe_or (pe_d L.fld (rm hr) rfl passR (pa_cons (pv 2) pa_nil)) (pe_one (pe_d L.mth hr rfl passR (pa_cons (pv 2) pa_nil)))) (pa_cons pe_int (pa_cons (pe_fld (pv 1) rfl) pa_nil)))))))),?_⟩
 unfold CfFile.holds at k
 try dsimp only at k
 exists _,z0
 refine ⟨_,rfl,methgo hq (by decide +kernel) ⟨_,rfl,fldgo (fun _ _=>_) T.con hk (i:=2) rfl rfl ⟨S,q,a,b,l,i,rfl,po,le,_,rfl,?_⟩⟩⟩
 rw [← textAt_tag po.ok]
 cases ht:CfFile.textAt l i with
 | none =>
  rw [ht] at k
  exact ⟨_,rfl,fldgo (fun _ _=>_) T.con hk (i:=1) rfl rfl ⟨_,_,_,rfl,k⟩⟩
 | some t =>
  rw [ht] at k
  refine ⟨_,rfl,methgo hq (by decide +kernel) ⟨_,rfl,fldgo (fun _ _=>_) T.con hk (i:=3) rfl rfl ⟨S,q,a,b,l,j,rfl,po,le,_,rfl,fldgo (fun _ _=>_) T.con hk (i:=1) rfl rfl ⟨_,_,_,rfl,?_⟩⟩⟩⟩
  rw [← textAt_tag po.ok]
  cases hu:CfFile.textAt l j with
  | none =>
   rw [hu] at k
   exact k
  | some u =>
   rw [hu] at k
   simp only [post_bind] at k
   exists z0,z0
   refine ⟨_,rfl,methgo hq (by decide +kernel) ⟨_,rfl,fldgo (fun _ _=>_) T.con hk (i:=2) rfl rfl ⟨S,q,a,b,l,i,t,rfl,po,le,ht,fun H1 r s1 _ hr1=>?_⟩⟩⟩
   refine ⟨r,t,rfl,hr1,fun H2 s2=>⟨_,rfl,fldgo (fun _ _=>_) T.con ((s1.trans s2) _ _ hk) (i:=1) rfl rfl ⟨_,_,_,rfl,demif (Same.but (s1.trans s2)) k rfl rfl rfl fun _ k=>?_⟩⟩⟩
   have s12:=s1.trans s2
   exists z0,z0
   refine ⟨_,rfl,methgo (s12 _ _ hq) (by decide +kernel) ⟨_,rfl,fldgo (fun _ _=>_) T.con (s12 _ _ hk) (i:=3) rfl rfl ⟨S,q,a,b,l,j,u,rfl,po,le.trans s12,hu,fun H3 r3 s3 _ hr3=>?_⟩⟩⟩
   exists z0
   refine ⟨_,rfl,r3,u,rfl,hr3,fun H4 s4=>⟨_,rfl,?_⟩⟩
   have s14:=(s12.trans s3).trans s4
   cases hf:CfFile.isField u with
   | true =>
    rw [hf] at k
    exact ⟨_,rfl,fldgo (fun _ _=>_) T.con (s14 _ _ hk) (i:=1) rfl rfl ⟨_,_,_,rfl,demif (Same.but s14) k rfl rfl rfl fun _ k=>k _ s14⟩⟩
   | false =>
    rw [hf] at k
    refine ⟨_,rfl,r3,u,rfl,s4 _ _ hr3,fun H5 s5=>?_⟩
    have s15:=s14.trans s5
    exact ⟨_,rfl,fldgo (fun _ _=>_) T.con (s15 _ _ hk) (i:=1) rfl rfl ⟨_,_,_,rfl,demif (Same.but s15) k rfl rfl (by rw [Bool.false_or]) fun _ k=>k _ s15⟩⟩
theorem scCkOwner:FnScope ["pool","constant"] ["pool","constant"] (defScope sCkOwner):=scB
theorem d_ckOwner (T:Txt K mg A) (src:Src K "check_owner" sCkOwner) (L:Lib P w K mg base A):Def P w K mg base 4 "check_owner" ["pool","constant"] (spCk A (fun x=>∃ h i j,x = .member h i j) ownerP):=by
 refine defR src T.kx scCkOwner (fun vs H Q E h=>h.len) (fun f cdv A' outer s H vs Q E hr h=>?_)
 obtain ⟨S,q,a,b,l,kk,p,x,z,rfl,po,le,⟨dk,hk⟩,⟨h,i,j,rfl⟩,k⟩:=h
 obtain ⟨dx,cl,us,h1,h2,pr⟩:=id po.ob
 have hk:=le _ _ hk
 have hq:=le _ _ h1
 refine ⟨_,pss_cons (ps_expr (pe_d L.dem hr rfl passR (pa_cons (pe_cmpR op_eq (pe_md L.tag (pv 0) T.poo.cl (rm hr) passR (pa_cons (pe_fld (pv 1) rfl) pa_nil)) (pe_gi T.g_CLASS rfl) (nomark _)) (pa_cons pe_int (pa_cons (pe_fld (pv 1) rfl) pa_nil)))))
  (pss_one (ps_expr (pe_d L.dem hr rfl passR (pa_cons (pe_md L.nam (pv 0) T.poo.cl hr passR (pa_cons (pe_fld (pv 1) rfl) pa_nil)) (pa_cons pe_int (pa_cons (pe_fld (pv 1) rfl) pa_nil)))))),?_⟩
 unfold ownerP at k
 try dsimp only at k
 simp only [post_bind] at k
 exists _,z0
 refine ⟨_,rfl,methgo hq (by decide +kernel) ⟨_,rfl,fldgo (fun _ _=>_) T.con hk (i:=2) rfl rfl ⟨S,q,a,b,l,i,rfl,po,le,rfl,_,rfl,fldgo (fun _ _=>_) T.con hk (i:=1) rfl rfl ⟨_,_,_,rfl,demif (But.refl _ _) k rfl rfl ?_ fun _ k=>?_⟩⟩⟩⟩
 ·rw [isClass_tag po.ok]
  exact dec_nat _ 7
 ·exists z0
  refine ⟨_,rfl,methgo hq (by decide +kernel) ⟨_,rfl,fldgo (fun _ _=>_) T.con hk (i:=3) rfl rfl ⟨S,q,a,b,l,j,rfl,po,le,_,rfl,fldgo (fun _ _=>_) T.con hk (i:=1) rfl rfl ⟨_,_,_,rfl,demif (But.refl _ _) k rfl rfl rfl fun _ k=>k H (same_refl H)⟩⟩⟩⟩
end
theorem post_owner (l:Pool) (p h i j z:Nat) (OK:Unit→Nat→Prop) (ER:Nat→Nat→Prop):Post (ownerP l p (.member h i j)) z OK ER = if CfFile.isClass l i = true then (if (CfFile.namedAt l j).isSome = true then OK () z else ER 8 p) else ER 8 p:=by
 unfold ownerP
 dsimp only
 rw [post_bind,post_must]
 split
 ·rw [post_must]; rfl
 ·rfl
theorem post_member (l:Pool) (p h i j z:Nat) (OK:Unit→Nat→Prop) (ER:Nat→Nat→Prop):Post (CfFile.holds l p (.member h i j)) z OK ER = if CfFile.isClass l i = true then (match CfFile.namedAt l j with
  | some (s,t)=>if (if h = 9 then CfFile.isField t else CfFile.isMethod t) = true then (if (h == 9 || CfFile.callable h s t) = true then OK () z else ER 9 p) else ER 10 p
  | none=>ER 8 p) else ER 8 p:=by
 unfold CfFile.holds
 dsimp only
 rw [post_bind,post_must]
 split
 ·cases CfFile.namedAt l j with
  | none=>rfl
  | some st =>
   obtain ⟨s,t⟩:=st
   dsimp only
   rw [post_bind,post_must,post_must]
   rfl
 ·rfl
theorem demif2 {A:Adr} {W:List Addr} {H0 H:Hp} {c c':Bool} {r e:Nat} {r' e':Int} {R R0:Prop} {E:XK} (bt:But W H0 H) (k:if c = true then R0 else Fails A W H0 E r e)
  (hr:r' = (r:Int)) (he:e' = (e:Int)) (hc:c' = c) (q:c = true→R0→R):if c' = true then R else Fails A [] H E r' e':=by
 subst hr he hc
 by_cases h:c' = true
 ·rw [if_pos h] at k ⊢
  exact q h k
 ·rw [if_neg h] at k ⊢
  exact k.now bt
def kindsOf (h:Nat):List Nat:=if h ≤ 4 then [9] else if h = 5 ∨ h = 8 then [10] else if h = 9 then [11] else [10,11]
theorem handled_small:∀ n:Fin 10,(handledT.find? fun t=>decide (t.1 = (n.val:Int))).map (·.2) = if 1 ≤ n.val∧n.val ≤ 9 then some ((kindsOf n.val).map fun (m:Nat)=>V.int (m:Int)) else none:=by decide +kernel
theorem handled_keys:∀ t ∈ handledT,t.1 ≤ 9:=by decide +kernel
theorem handled_find (h:Nat):(handledT.find? fun t=>decide (t.1 = (h:Int))).map (·.2) = if 1 ≤ h∧h ≤ 9 then some ((kindsOf h).map fun (m:Nat)=>V.int (m:Int)) else none:=by
 by_cases hh:h < 10
 ·exact handled_small ⟨h,hh⟩
 ·rw [if_neg (by omega),List.find?_eq_none.mpr]
  ·rfl
  ·intro t ht
   have:=handled_keys t ht
   simp
   omega
theorem fn_find {K:PySem.W.Frag} {mg:Str→Option Value}:∀ {kns:List (Int × Str)} {kvs:List (Int × V)},Paired (fun (n:Int × Str) (v:Int × V)=>n.1 = v.1∧∃ f,v.2 = .ref f∧mg n.2 = some (.ref f)) kns kvs→∀ k,
  match (kns.find? fun t=>decide (t.1 = k)).map (·.2) with
  | some x=>∃ f,valK kvs k = some (.ref f)∧mg x = some (.ref f)
  | none=>valK kvs k = none
 | _,_,.nil,k=>rfl
 | (k0,ts) :: kts,(k1,v) :: kvs,.cons ⟨e,p,e2,h⟩ t,k=>by
  have e':k0 = k1:=e
  have e2':v = .ref p:=e2
  subst e' e2'
  unfold valK
  by_cases z:k0 = k
  ·rw [List.find?_cons_of_pos (by simp [z]),List.find?_cons_of_pos (by simp [z])]
   exact ⟨p,rfl,h⟩
  ·rw [List.find?_cons_of_neg (by simp [z]),List.find?_cons_of_neg (by simp [z])]
   exact fn_find (K:=K) t k
theorem def_cal {X:Cx} {k:Nat} {x:Str} {ps:List Str} {sp:Sp} {f:Addr} (D:Def X.prog X.w X.K X.mg X.base k x ps sp) (h:X.mg x = some (.ref f)):Cal X k f sp:=by
 obtain ⟨f',fd,hm,hk,F,b⟩:=D
 rw [h] at hm
 cases hm
 exact ⟨fd,ps,F,hk,b⟩
inductive spCkP (A:Adr) (vs:List V) (H:Hp) (Q:VK) (E:XK):Prop
 | mk (S:Hp) (q a:Addr) (b:List UInt8) (l:Pool) (z:Nat) (_:vs = [.ref q]) (_:PoolAt A S q a b l) (_:Same S H) (_:Post (CfFile.holdsAll l l) z (fun _ _=>∀ H',Same H H'→Q .non H') (fun r e=>Fails A [] H E r e))
abbrev sCkPool:Stmt:=top 52
section
variable {P:Program} {w:World} {K:PySem.W.Frag} {mg:Str→Option Value} {base:Heap} {A:Adr}
theorem scCkField:FnScope ["pool","constant"] ["pool","constant"] (defScope sCkField):=scB
theorem d_ckField (T:Txt K mg A) (src:Src K "check_field" sCkField) (L:Lib P w K mg base A) (Do:Def P w K mg base 4 "check_owner" ["pool","constant"] (spCk A (fun x=>∃ h i j,x = .member h i j) ownerP)) :
  Def P w K mg base 9 "check_field" ["pool","constant"] (spCk A (fun x=>∃ i j,x = .member 9 i j) CfFile.holds):=by
 refine defR src T.kx scCkField (fun vs H Q E h=>h.len) (fun f cdv A' outer s H vs Q E hr h=>?_)
 obtain ⟨S,q,a,b,l,kk,p,x,z,rfl,po,le,co,⟨i,j,rfl⟩,k⟩:=h
 obtain ⟨dk,hk⟩:=id co
 obtain ⟨dx,cl,us,h1,h2,pr⟩:=id po.ob
 have hk:=le _ _ hk
 have hq:=le _ _ h1
 refine ⟨_,pss_cons (ps_expr (pe_d Do (rm hr) rfl passR (pa_cons (pv 0) (pa_cons (pv 1) pa_nil))))
  (pss_one (ps_expr (pe_d L.dem (rm hr) rfl passR (pa_cons (pe_d L.fld (rm hr) rfl passR (pa_cons (pe_md L.sro (pv 0) T.poo.cl (rm hr) passR (pa_cons (pe_fld (pv 1) rfl) pa_nil)) pa_nil)) (pa_cons pe_int (pa_cons (pe_fld (pv 1) rfl) pa_nil)))))),?_⟩
 exists _,z0
 refine ⟨_,rfl,_,rfl,S,q,a,b,l,kk,p,_,z,rfl,po,le,co,⟨_,_,_,rfl⟩,?_⟩
 rw [post_member] at k
 rw [post_owner]
 by_cases hic:CfFile.isClass l i = true
 ·rw [if_pos hic] at k ⊢
  cases hn:CfFile.namedAt l j with
  | none=>rw [hn] at k; exact k
  | some st =>
   obtain ⟨s1,t⟩:=st
   rw [hn] at k
   try dsimp only at k
   refine fun H1 s1=>?_
   exists z0
   refine ⟨_,rfl,methgo (s1 _ _ hq) (by decide +kernel) ⟨_,rfl,fldgo (fun _ _=>_) T.con (s1 _ _ hk) (i:=3) rfl rfl ⟨S,q,a,b,l,j,t,rfl,po,le.trans s1,(named_second hn).2,fun H2 r s2 _ hr2=>⟨r,t,rfl,hr2,fun H3 s3=>?_⟩⟩⟩⟩
   have s13:=(s1.trans s2).trans s3
   exact ⟨_,rfl,fldgo (fun _ _=>_) T.con (s13 _ _ hk) (i:=1) rfl rfl ⟨_,_,_,rfl,demif2 (Same.but s13) k rfl rfl rfl fun _ k=>k _ s13⟩⟩
 ·rw [if_neg hic] at k ⊢
  exact k
theorem scCkMethod:FnScope ["pool","constant","descriptor","name","fits"] ["pool","constant"] (defScope sCkMethod):=scB
theorem d_ckMethod (T:Txt K mg A) (src:Src K "check_method" sCkMethod) (L:Lib P w K mg base A) (Do:Def P w K mg base 4 "check_owner" ["pool","constant"] (spCk A (fun x=>∃ h i j,x = .member h i j) ownerP)) :
  Def P w K mg base 9 "check_method" ["pool","constant"] (spCk A (fun x=>∃ h i j,h ≠ 9∧x = .member h i j) CfFile.holds):=by
 refine defR src T.kx scCkMethod (fun vs H Q E h=>h.len) (fun f cdv A' outer s H vs Q E hr h=>?_)
 obtain ⟨S,q,a,b,l,kk,p,x,z,rfl,po,le,co,⟨hh,i,j,h9,rfl⟩,k⟩:=h
 obtain ⟨dk,hk⟩:=id co
 obtain ⟨dx,cl,us,h1,h2,pr⟩:=id po.ob
 have hk:=le _ _ hk
 have hq:=le _ _ h1
 refine ⟨_,pss_cons (ps_expr (pe_d Do (rm hr) rfl passR (pa_cons (pv 0) (pa_cons (pv 1) pa_nil))))
  (pss_cons (ps_set (i:=2) scCkMethod.nd rfl (Or.inl rfl) (pe_md L.sro (pv 0) T.poo.cl (rm hr) passR (pa_cons (pe_fld (pv 1) rfl) pa_nil)))
  (pss_cons (ps_expr (pe_d L.dem (rm hr) rfl passR (pa_cons (pe_d L.mth hr rfl passR (pa_cons (pv 2) pa_nil)) (pa_cons pe_int (pa_cons (pe_fld (pv 1) rfl) pa_nil)))))
  (pss_cons (ps_set (i:=3) scCkMethod.nd rfl (Or.inl rfl) (pe_md L.fro (pv 0) T.poo.cl (rm hr) passR (pa_cons (pe_fld (pv 1) rfl) pa_nil)))
  (pss_cons (ps_if (pt_val (pe_d L.ini (rm hr) rfl passR (pa_cons (pv 3) pa_nil)))
   (pss_one (ps_set (i:=4) scCkMethod.nd rfl (Or.inl rfl) (pe_and (pe_cmpR op_eq (pe_fld (pv 1) rfl) (pe_gi T.g_METHOD rfl) (nomark _)) (pe_one (pe_d L.giv (rm hr) rfl passR (pa_cons (pv 2) pa_nil))))))
   (pss_one (ps_set (i:=4) scCkMethod.nd rfl (Or.inl rfl) (pe_d L.plm (rm hr) rfl passR (pa_cons (pv 3) pa_nil)))))
  (pss_one (ps_expr (pe_d L.dem (rm hr) rfl passR (pa_cons (pv 4) (pa_cons pe_int (pa_cons (pe_fld (pv 1) rfl) pa_nil)))))))))),?_⟩
 exists _,z0
 refine ⟨_,rfl,_,rfl,S,q,a,b,l,kk,p,_,z,rfl,po,le,co,⟨_,_,_,rfl⟩,?_⟩
 rw [post_member] at k
 rw [post_owner]
 by_cases hic:CfFile.isClass l i = true
 ·rw [if_pos hic] at k ⊢
  cases hn:CfFile.namedAt l j with
  | none=>rw [hn] at k; exact k
  | some st =>
   obtain ⟨nm,t⟩:=st
   rw [hn] at k
   try dsimp only at k
   refine fun H1 s1=>?_
   exists z0,z0
   refine ⟨_,rfl,methgo (s1 _ _ hq) (by decide +kernel) ⟨_,rfl,fldgo (fun _ _=>_) T.con (s1 _ _ hk) (i:=3) rfl rfl ⟨S,q,a,b,l,j,t,rfl,po,le.trans s1,(named_second hn).2,fun H2 r s2 _ hr2=>?_⟩⟩⟩
   exists z0,z0
   refine ⟨_,rfl,r,t,rfl,hr2,fun H3 s3=>?_⟩
   have s13:=(s1.trans s2).trans s3
   refine ⟨_,rfl,fldgo (fun _ _=>_) T.con (s13 _ _ hk) (i:=1) rfl rfl ⟨_,_,_,rfl,demif2 (Same.but s13) k rfl rfl (by rw [if_neg h9]) fun hm k=>?_⟩⟩
   rw [if_neg h9] at hm
   rw [show (hh == 9) = false from beq_eq_false_iff_ne.mpr h9,Bool.false_or,callable_eq hh nm t hm] at k
   exists z0,z0
   refine ⟨_,rfl,methgo (s13 _ _ hq) (by decide +kernel) ⟨_,rfl,fldgo (fun _ _=>_) T.con (s13 _ _ hk) (i:=3) rfl rfl ⟨S,q,a,b,l,j,nm,rfl,po,le.trans s13,(named_second hn).1,fun H4 r4 s4 _ hr4=>?_⟩⟩⟩
   exists z0,z0
   refine ⟨_,rfl,r4,nm,rfl,hr4,fun H5 s5=>⟨_,rfl,?_⟩⟩
   have s15:=(s13.trans s4).trans s5
   have hr2':=((s3.trans s4).trans s5) _ _ hr2
   cases hin:decide (nm = CfFile.ascii "<init>") with
   | true =>
    rw [hin,if_pos rfl] at k
    refine ⟨_,rfl,fldgo (fun _ _=>_) T.con (s15 _ _ hk) (i:=0) rfl rfl ⟨rfl,_,rfl,?_⟩⟩
    have eM:decide (V.int (hh:Int) = V.int 10) = (hh == 10):=dec_nat hh 10
    rw [show decide (V.int (((CfFile.Const.member hh i j).tag:Nat):Int) = V.int 10) = (hh == 10) from eM]
    cases h10:(hh == 10) with
    | false =>
     rw [h10] at k
     exists z0
     exact ⟨_,rfl,_,rfl,fldgo (fun _ _=>_) T.con (s15 _ _ hk) (i:=1) rfl rfl ⟨_,_,_,rfl,demif2 (Same.but s15) k rfl rfl (by rfl) fun _ k=>k _ s15⟩⟩
    | true =>
     rw [h10,Bool.true_and] at k
     refine ⟨_,rfl,r,t,rfl,hr2',fun H6 s6=>?_⟩
     have s16:=s15.trans s6
     exists z0
     exact ⟨_,rfl,_,rfl,fldgo (fun _ _=>_) T.con (s16 _ _ hk) (i:=1) rfl rfl ⟨_,_,_,rfl,demif2 (Same.but s16) k rfl rfl rfl fun _ k=>k _ s16⟩⟩
   | false =>
    rw [hin,show (if false = true then (hh == 10 && decide (List.getLast? t = some 86)) else plainM nm) = plainM nm from rfl] at k
    refine ⟨_,rfl,r4,nm,rfl,s5 _ _ hr4,fun H6 s6=>?_⟩
    have s16:=s15.trans s6
    exists z0
    exact ⟨_,rfl,_,rfl,fldgo (fun _ _=>_) T.con (s16 _ _ hk) (i:=1) rfl rfl ⟨_,_,_,rfl,demif2 (Same.but s16) k rfl rfl rfl fun _ k=>k _ s16⟩⟩
 ·rw [if_neg hic] at k ⊢
  exact k
theorem scCkHandle:FnScope ["pool","constant"] ["pool","constant"] (defScope sCkHandle):=scB
theorem d_ckHandle (T:Txt K mg A) (src:Src K "check_handle" sCkHandle) (L:Lib P w K mg base A):Def P w K mg base 9 "check_handle" ["pool","constant"] (spCk A (fun x=>∃ i j,x = .handle i j) CfFile.holds):=by
 refine defR src T.kx scCkHandle (fun vs H Q E h=>h.len) (fun f cdv A' outer s H vs Q E hr h=>?_)
 obtain ⟨S,q,a,b,l,kk,p,x,z,rfl,po,le,⟨dk,hk⟩,⟨i,j,rfl⟩,k⟩:=h
 obtain ⟨dx,cl,us,h1,h2,pr⟩:=id po.ob
 have hk:=le _ _ hk
 have hq:=le _ _ h1
 obtain ⟨kvs,kd,prd⟩:=T.dHD
 refine ⟨_,pss_cons (ps_expr (pe_d L.dem (rm hr) rfl passR (pa_cons (pe_cmp (pc_kin kd rfl T.gHD (pe_fld (pv 1) rfl))) (pa_cons pe_int (pa_cons (pe_fld (pv 1) rfl) pa_nil)))))
  (pss_one (ps_expr (pe_d L.dem (rm hr) rfl passR (pa_cons (pe_cmpR op_in_seq (pe_md L.tag (pv 0) T.poo.cl (rm hr) passR (pa_cons (pe_fld (pv 1) rfl) pa_nil)) (pe_kget kd rfl T.gHD (pe_fld (pv 1) rfl) (fun _ _=>rfl)) rfl) (pa_cons pe_int (pa_cons (pe_fld (pv 1) rfl) pa_nil)))))),?_⟩
 unfold CfFile.holds at k
 try dsimp only at k
 simp only [post_bind] at k
 have fd:=dt_find prd (i:Int)
 rw [handled_find] at fd
 exists _,z0
 refine ⟨_,rfl,fldgo (fun _ _=>_) T.con hk (i:=2) rfl rfl ⟨_,rfl,_,rfl,fldgo (fun _ _=>_) T.con hk (i:=1) rfl rfl ⟨_,_,_,rfl,demif (But.refl _ _) k rfl rfl ?_ fun h19 k=>?_⟩⟩⟩
 ·by_cases h19:1 ≤ i∧i ≤ 9
  ·rw [if_pos h19] at fd
   obtain ⟨pt,e,_⟩:=fd
   show (valK kvs (i:Int)).isSome = _
   rw [e,decide_eq_true h19.1,decide_eq_true h19.2]
   rfl
  ·rw [if_neg h19] at fd
   have e:valK kvs (i:Int) = none:=fd
   show (valK kvs (i:Int)).isSome = _
   rw [e]
   by_cases ha:1 ≤ i
   ·rw [decide_eq_false (show ¬ i ≤ 9 by omega),Bool.and_false]; rfl
   ·rw [decide_eq_false ha]; rfl
 ·simp only [Bool.and_eq_true,decide_eq_true_iff] at h19
  rw [if_pos h19] at fd
  obtain ⟨pt,e,kt⟩:=fd
  exists z0
  refine ⟨_,rfl,methgo hq (by decide +kernel) ⟨_,rfl,fldgo (fun _ _=>_) T.con hk (i:=3) rfl rfl ⟨S,q,a,b,l,j,rfl,po,le,_,rfl,fldgo (fun _ _=>_) T.con hk (i:=2) rfl rfl ⟨_,_,rfl,e,pt,_,rfl,.inr (kt.sq _),rfl,?_,_,rfl,fldgo (fun _ _=>_) T.con hk (i:=1) rfl rfl ⟨_,_,_,rfl,demif (But.refl _ _) k rfl rfl ?_ fun _ k=>k H (same_refl H)⟩⟩⟩⟩⟩
  ·rw [List.all_map]
   simp [flatV]
  ·show inV _ _ = _
   rw [in_ints,isMember_tag po.ok]
   ·show _ = (kindsOf i).contains (tagAt l j)
    generalize kindsOf i = ks
    induction ks with
    | nil=>rfl
    | cons x r ih=>rw [List.any_cons,List.contains_cons,ih,Bool.beq_comm]
   ·show ∀ k ∈ kindsOf i,_
    unfold kindsOf
    intro k hk
    split at hk
    ·simp at hk; exact .inl hk
    ·split at hk
     ·simp at hk; exact .inr (.inl hk)
     ·split at hk
      ·simp at hk; exact .inr (.inr hk)
      ·simp at hk; exact .inr hk
theorem scCkSig:FnScope ["pool","constant"] ["pool","constant"] (defScope sCkSig):=scB
theorem d_ckSig (T:Txt K mg A) (src:Src K "check_signature" sCkSig) (L:Lib P w K mg base A):Def P w K mg base 9 "check_signature" ["pool","constant"] (spCk A (fun x=>∃ i,x = .type_ i) CfFile.holds):=by
 refine defR src T.kx scCkSig (fun vs H Q E h=>h.len) (fun f cdv A' outer s H vs Q E hr h=>?_)
 obtain ⟨S,q,a,b,l,kk,p,x,z,rfl,po,le,⟨dk,hk⟩,⟨i,rfl⟩,k⟩:=h
 obtain ⟨dx,cl,us,h1,h2,pr⟩:=id po.ob
 have hk:=le _ _ hk
 have hq:=le _ _ h1
 refine ⟨_,pss_cons (ps_expr (pe_d L.dem (rm hr) rfl passR (pa_cons (pe_md L.txt (pv 0) T.poo.cl (rm hr) passR (pa_cons (pe_fld (pv 1) rfl) pa_nil)) (pa_cons pe_int (pa_cons (pe_fld (pv 1) rfl) pa_nil)))))
  (pss_one (ps_expr (pe_d L.dem (rm hr) rfl passR (pa_cons (pe_d L.mth hr rfl passR (pa_cons (pe_md L.row (pv 0) T.poo.cl (rm hr) passR (pa_cons (pe_fld (pv 1) rfl) pa_nil)) pa_nil)) (pa_cons pe_int (pa_cons (pe_fld (pv 1) rfl) pa_nil)))))),?_⟩
 exists _,z0
 refine ⟨_,rfl,methgo hq (by decide +kernel) ⟨_,rfl,fldgo (fun _ _=>_) T.con hk (i:=2) rfl rfl ⟨S,q,a,b,l,i,rfl,po,le,_,rfl,fldgo (fun _ _=>_) T.con hk (i:=1) rfl rfl ⟨_,_,_,rfl,?_⟩⟩⟩⟩
 unfold CfFile.holds at k
 try dsimp only at k
 rw [← textAt_tag po.ok]
 cases ht:CfFile.textAt l i with
 | none =>
  rw [ht] at k
  exact k
 | some t =>
  rw [ht] at k
  exists z0
  refine ⟨_,rfl,methgo hq (by decide +kernel) ⟨_,rfl,fldgo (fun _ _=>_) T.con hk (i:=2) rfl rfl ⟨S,q,a,b,l,i,t,rfl,po,le,ht,fun H1 r s1 _ hr1=>⟨r,t,rfl,hr1,fun H2 s2=>?_⟩⟩⟩⟩
  have s12:=s1.trans s2
  exact ⟨_,rfl,fldgo (fun _ _=>_) T.con (s12 _ _ hk) (i:=1) rfl rfl ⟨_,_,_,rfl,demif (Same.but s12) k rfl rfl rfl fun _ k=>k _ s12⟩⟩
theorem scCkSite:FnScope ["pool","constant"] ["pool","constant"] (defScope sCkSite):=scB
theorem d_ckSite (T:Txt K mg A) (src:Src K "check_call_site" sCkSite) (L:Lib P w K mg base A):Def P w K mg base 9 "check_call_site" ["pool","constant"] (spCk A (fun x=>∃ i j,x = .site i j) CfFile.holds):=by
 refine defR src T.kx scCkSite (fun vs H Q E h=>h.len) (fun f cdv A' outer s H vs Q E hr h=>?_)
 obtain ⟨S,q,a,b,l,kk,p,x,z,rfl,po,le,⟨dk,hk⟩,⟨i,j,rfl⟩,k⟩:=h
 obtain ⟨dx,cl,us,h1,h2,pr⟩:=id po.ob
 have hk:=le _ _ hk
 have hq:=le _ _ h1
 refine ⟨_,pss_cons (ps_expr (pe_d L.dem (rm hr) rfl passR (pa_cons (pe_md L.nam (pv 0) T.poo.cl (rm hr) passR (pa_cons (pe_fld (pv 1) rfl) pa_nil)) (pa_cons pe_int (pa_cons (pe_fld (pv 1) rfl) pa_nil)))))
  (pss_cons (ps_expr (pe_d L.dem (rm hr) rfl passR (pa_cons (pe_d L.mth hr rfl passR (pa_cons (pe_md L.sro (pv 0) T.poo.cl (rm hr) passR (pa_cons (pe_fld (pv 1) rfl) pa_nil)) pa_nil)) (pa_cons pe_int (pa_cons (pe_fld (pv 1) rfl) pa_nil)))))
  (pss_one (ps_expr (pe_d L.dem (rm hr) rfl passR (pa_cons (pe_d L.plm (rm hr) rfl passR (pa_cons (pe_md L.fro (pv 0) T.poo.cl (rm hr) passR (pa_cons (pe_fld (pv 1) rfl) pa_nil)) pa_nil)) (pa_cons pe_int (pa_cons (pe_fld (pv 1) rfl) pa_nil))))))),?_⟩
 exists _,z0
 refine ⟨_,rfl,methgo hq (by decide +kernel) ⟨_,rfl,fldgo (fun _ _=>_) T.con hk (i:=3) rfl rfl ⟨S,q,a,b,l,j,rfl,po,le,_,rfl,fldgo (fun _ _=>_) T.con hk (i:=1) rfl rfl ⟨_,_,_,rfl,?_⟩⟩⟩⟩
 unfold CfFile.holds at k
 try dsimp only at k
 cases hn:CfFile.namedAt l j with
 | none =>
  rw [hn] at k
  exact k
 | some st =>
  obtain ⟨nm,t⟩:=st
  rw [hn] at k
  try dsimp only at k
  simp only [post_bind] at k
  exists z0,z0
  refine ⟨_,rfl,methgo hq (by decide +kernel) ⟨_,rfl,fldgo (fun _ _=>_) T.con hk (i:=3) rfl rfl ⟨S,q,a,b,l,j,t,rfl,po,le,(named_second hn).2,fun H1 r s1 _ hr1=>⟨r,t,rfl,hr1,fun H2 s2=>?_⟩⟩⟩⟩
  have s12:=s1.trans s2
  refine ⟨_,rfl,fldgo (fun _ _=>_) T.con (s12 _ _ hk) (i:=1) rfl rfl ⟨_,_,_,rfl,demif (Same.but s12) k rfl rfl rfl fun _ k=>?_⟩⟩
  exists z0
  refine ⟨_,rfl,methgo (s12 _ _ hq) (by decide +kernel) ⟨_,rfl,fldgo (fun _ _=>_) T.con (s12 _ _ hk) (i:=3) rfl rfl ⟨S,q,a,b,l,j,nm,rfl,po,le.trans s12,(named_second hn).1,fun H3 r3 s3 _ hr3=>⟨r3,nm,rfl,hr3,fun H4 s4=>?_⟩⟩⟩⟩
  have s14:=(s12.trans s3).trans s4
  exact ⟨_,rfl,fldgo (fun _ _=>_) T.con (s14 _ _ hk) (i:=1) rfl rfl ⟨_,_,_,rfl,demif (Same.but s14) k rfl rfl (callable_0 nm t).symm fun _ k=>k _ s14⟩⟩
end
abbrev sNames:Stmt:=top 41
structure Chk (P:Program) (w:World) (K:PySem.W.Frag) (mg:Str→Option Value) (base:Heap) (A:Adr):Prop where
 cl:Def P w K mg base 9 "check_class" ["pool","constant"] (spCk A (fun x=>∃ i,x = .class_ i) CfFile.holds)
 st:Def P w K mg base 9 "check_string" ["pool","constant"] (spCk A (fun x=>∃ i,x = .string i) CfFile.holds)
 na:Def P w K mg base 9 "check_named" ["pool","constant"] (spCk A (fun x=>∃ i j,x = .named i j) CfFile.holds)
 fi:Def P w K mg base 9 "check_field" ["pool","constant"] (spCk A (fun x=>∃ i j,x = .member 9 i j) CfFile.holds)
 me:Def P w K mg base 9 "check_method" ["pool","constant"] (spCk A (fun x=>∃ h i j,h ≠ 9∧x = .member h i j) CfFile.holds)
 ha:Def P w K mg base 9 "check_handle" ["pool","constant"] (spCk A (fun x=>∃ i j,x = .handle i j) CfFile.holds)
 si:Def P w K mg base 9 "check_signature" ["pool","constant"] (spCk A (fun x=>∃ i,x = .type_ i) CfFile.holds)
 ca:Def P w K mg base 9 "check_call_site" ["pool","constant"] (spCk A (fun x=>∃ i j,x = .site i j) CfFile.holds)
theorem chk_has {K:PySem.W.Frag} {mg:Str→Option Value} {kvs:List (Int × V)} (pr:Paired (fun (n:Int × Str) (v:Int × V)=>n.1 = v.1∧∃ f,v.2 = .ref f∧mg n.2 = some (.ref f)) checksN kvs) {t:Nat} {x:Str}
  (h:(checksN.find? fun z=>decide (z.1 = (t:Int))).map (·.2) = some x):∃ f,valK kvs (t:Int) = some (.ref f)∧mg x = some (.ref f):=by
 have:=fn_find (K:=K) pr (t:Int)
 rw [h] at this
 exact this
theorem chk_not {K:PySem.W.Frag} {mg:Str→Option Value} {kvs:List (Int × V)} (pr:Paired (fun (n:Int × Str) (v:Int × V)=>n.1 = v.1∧∃ f,v.2 = .ref f∧mg n.2 = some (.ref f)) checksN kvs) {t:Nat}
  (h:(checksN.find? fun z=>decide (z.1 = (t:Int))).map (·.2) = none):valK kvs (t:Int) = none:=by
 have:=fn_find (K:=K) pr (t:Int)
 rw [h] at this
 exact this
theorem chk_by {X:Cx} {A:Adr} {kvs:List (Int × V)} (pr:Paired (fun (n:Int × Str) (v:Int × V)=>n.1 = v.1∧∃ f,v.2 = .ref f∧X.mg n.2 = some (.ref f)) checksN kvs) (C:Chk X.prog X.w X.K X.mg X.base A) {b:List UInt8} {p:Nat} {c:CfFile.Const} (ok:OkC b p c) :
  (valK kvs (c.tag:Int) = none∧∀ l,CfFile.holds l p c = pure ()) ∨ (∃ f pat,valK kvs (c.tag:Int) = some (.ref f)∧Cal X 9 f (spCk A pat CfFile.holds)∧pat c):=by
 have yes:∀ {x:Str} {pat:CfFile.Const→Prop} (t:Nat),c.tag = t→(checksN.find? fun z=>decide (z.1 = (t:Int))).map (·.2) = some x→Def X.prog X.w X.K X.mg X.base 9 x ["pool","constant"] (spCk A pat CfFile.holds)→pat c →
   ∃ f pat,valK kvs (c.tag:Int) = some (.ref f)∧Cal X 9 f (spCk A pat CfFile.holds)∧pat c:=fun t ht h D hp=>by
  subst ht
  obtain ⟨f,e,m⟩:=chk_has (K:=X.K) pr h
  exact ⟨f,_,e,def_cal D m,hp⟩
 cases c with
 | text s=>exact .inl ⟨chk_not (K:=X.K) (t:=1) pr (by decide +kernel),fun _=>rfl⟩
 | word k x =>
  rcases ok with rfl | rfl
  ·exact .inl ⟨chk_not (K:=X.K) (t:=3) pr (by decide +kernel),fun _=>rfl⟩
  ·exact .inl ⟨chk_not (K:=X.K) (t:=4) pr (by decide +kernel),fun _=>rfl⟩
 | wide k x =>
  rcases ok with rfl | rfl
  ·exact .inl ⟨chk_not (K:=X.K) (t:=5) pr (by decide +kernel),fun _=>rfl⟩
  ·exact .inl ⟨chk_not (K:=X.K) (t:=6) pr (by decide +kernel),fun _=>rfl⟩
 | class_ i=>exact .inr (yes 7 rfl (by decide +kernel) C.cl ⟨i,rfl⟩)
 | string i=>exact .inr (yes 8 rfl (by decide +kernel) C.st ⟨i,rfl⟩)
 | member k i j =>
  rcases ok with rfl | rfl | rfl
  ·exact .inr (yes 9 rfl (by decide +kernel) C.fi ⟨i,j,rfl⟩)
  ·exact .inr (yes 10 rfl (by decide +kernel) C.me ⟨10,i,j,by decide,rfl⟩)
  ·exact .inr (yes 11 rfl (by decide +kernel) C.me ⟨11,i,j,by decide,rfl⟩)
 | named i j=>exact .inr (yes 12 rfl (by decide +kernel) C.na ⟨i,j,rfl⟩)
 | handle i j=>exact .inr (yes 15 rfl (by decide +kernel) C.ha ⟨i,j,rfl⟩)
 | type_ i=>exact .inr (yes 16 rfl (by decide +kernel) C.si ⟨i,rfl⟩)
 | site i j=>exact .inr (yes 18 rfl (by decide +kernel) C.ca ⟨i,j,rfl⟩)
theorem paired_at2 {α β:Type} {F:α→β→Prop}:∀ {l:List α} {m:List β} {i:Nat} {y:β},Paired F l m→m[i]? = some y→∃ x,l[i]? = some x∧F x y
 | _,_,_,_,.nil,h=>by simp at h
 | _,_,0,y,.cons r _,h=>by simp at h; subst h; exact ⟨_,rfl,r⟩
 | _,_,i + 1,y,.cons _ t,h=>by
  obtain ⟨x,h1,h2⟩:=paired_at2 (i:=i) (y:=y) t (by simpa using h)
  exact ⟨x,by simpa using h1,h2⟩
def namesC:Option (Nat × CfFile.Const)→Nat→Bool
 | none,_=>false
 | some (p,c),n=>(([7,8,9,10,11,12,16]:List Nat).any (fun m=>m == c.tag) && fst p c == n) || (([9,10,11,12,15,18]:List Nat).any (fun m=>m == c.tag) && snd c == n)
inductive spNames (A:Adr) (vs:List V) (H:Hp) (Q:VK) (E:XK):Prop
 | mk (S:Hp) (o:Option (Nat × CfFile.Const)) (v:V) (n:Nat) (_:vs = [v,.int (n:Int)]) (_:CoIs A S o v) (_:Same S H) (_:Q (.bl (namesC o n)) H)
section
variable {P:Program} {w:World} {K:PySem.W.Frag} {mg:Str→Option Value} {base:Heap} {A:Adr}
theorem scCkPool:FnScope ["pool","constant"] ["pool"] (defScope sCkPool):=scB
theorem d_ckPool (T:Txt K mg A) (src:Src K "check_pool" sCkPool) (C:Chk P w K mg base A):Def P w K mg base 10 "check_pool" ["pool"] (spCkP A):=by
 refine defR src T.kx scCkPool (fun vs H Q E h=>?_) (fun f cdv A' outer s H vs Q E hr h=>?_)
 ·obtain ⟨S,q,a,b,l,z,rfl,_⟩:=h
  rfl
 obtain ⟨S,q,a,b,l,z,rfl,po,le,k⟩:=h
 obtain ⟨dx,cl,us,h1,h2,pr⟩:=id po.ob
 have hq:=le _ _ h1
 have hcl:=le _ _ h2
 obtain ⟨kvs,kd,prd⟩:=T.dCH
 refine ⟨_,pss_one (ps_for ownR rfl (pi_list (pe_fld (pv 0) rfl)) (pg_name (i:=1) scCkPool.nd rfl (Or.inl rfl)) (pss_one (ps_if (ptw (pw_and (pt_cmp (pc_notN (pv 1))) (pw_and1 (pt_cmp (pc_kin kd rfl T.gCH (pe_fld (pv 1) rfl))))))
  (pss_one (ps_expr (pe_cv (pe_kget kd rfl T.gCH (pe_fld (pv 1) rfl) (fun _ _=>rfl)) hr passR (pa_cons (pv 0) (pa_cons (pv 1) pa_nil))))) pss_nil))),?_⟩
 refine ⟨_,rfl,fldgo (fun _ _=>_) T.poo hq (i:=1) rfl rfl ⟨cl,rfl,⟨_,SqL.of hcl⟩,?_⟩⟩
 refine for_list (K:=K) (a:=cl) (xs:=us) (fun i σ H'=>∃ (vc:Option V) (z:Nat),σ = [some (.ref q),vc]∧Same H H'∧Post (CfFile.holdsAll l (l.drop i)) z (fun _ _=>∀ H',Same H H'→Q .non H') (fun r e=>Fails A [] H E r e))
  ⟨none,z,rfl,same_refl H,k⟩ (fun i σ H' _ ⟨_,_,_,s5,_⟩=>SqL.of (s5 _ _ hcl)) ?_ ?_
 ·rintro i y σ H1 hi ⟨vc,z,rfl,s1,k⟩
  obtain ⟨o,ho,co⟩:=paired_at2 pr hi
  have hd:l.drop i = o :: l.drop (i + 1):=by
   have hlt:i < l.length:=by
    by_cases h:i < l.length
    ·exact h
    ·rw [List.getElem?_eq_none (by omega)] at ho; cases ho
   rw [List.drop_eq_getElem_cons hlt]
   congr 1
   rw [List.getElem?_eq_getElem hlt] at ho
   exact Option.some.inj ho
  rw [hd] at k
  refine ⟨_,rfl,_,rfl,?_⟩
  cases o with
  | none =>
   have e:y = V.non:=co
   subst e
   exact ⟨_,z,rfl,s1,k⟩
  | some pc =>
   obtain ⟨p,c⟩:=pc
   obtain ⟨kk,rfl,dk,hk⟩:=id co
   have hk1:=s1 _ _ (le _ _ hk)
   have okc:=po.ok i p c ho
   unfold CfFile.holdsAll at k
   rw [post_bind] at k
   rw [decide_eq_false (fun z=>by cases z)]
   refine ⟨_,rfl,fldgo (fun _ _=>_) T.con hk1 (i:=0) rfl rfl ⟨_,rfl,_,rfl,?_⟩⟩
   rcases chk_by (X:=cxOf (CXR P w) P w K mg base ["pool","constant"] "check_pool" (defScope sCkPool) f cdv A' outer s H E) prd C okc with ⟨e,hp⟩ | ⟨ff,pat,e,cal,hp⟩
   ·rw [e]
    rw [hp l] at k
    exact ⟨_,z,rfl,s1,k⟩
   ·rw [e]
    refine ⟨_,rfl,fldgo (fun _ _=>_) T.con hk1 (i:=0) rfl rfl ⟨_,_,rfl,e,ff,_,rfl,cal,_,rfl,_,rfl,S,q,a,b,l,kk,p,c,z,rfl,po,le.trans s1,⟨dk,hk⟩,hp,?_⟩⟩
    refine k.mono (fun _ z2 k2 H2 s2=>⟨_,z2,rfl,s1.trans s2,k2⟩) (fun r e f=>f.next (Same.but s1) fun _ h=>h)
 ·rintro σ H1 ⟨vc,z,rfl,s1,k⟩
  rw [← paired_len pr,List.drop_length] at k
  exact k H1 s1
theorem scNames:FnScope ["constant","number"] ["constant","number"] (defScope sNames):=scB
theorem d_names (T:Txt K mg A) (src:Src K "names_constant" sNames):Def P w K mg base 1 "names_constant" ["constant","number"] (spNames A):=by
 refine defR src T.kx scNames (fun vs H Q E h=>?_) (fun f cdv A' outer s H vs Q E hr h=>?_)
 ·obtain ⟨S,o,v,n,rfl,_⟩:=h
  rfl
 obtain ⟨S,o,v,n,rfl,co,le,k⟩:=h
 refine ⟨_,pss_cons (ps_if (pt_cmp (pc_isN (pv 0))) (pss_one (ps_ret pe_bl)) pss_nil)
  (pss_cons (ps_if (ptw (pw_and (pt_cmpR op_in_seq (pe_fld (pv 0) rfl) (pe_glob rfl T.gFN (v:=.ref A.aFN) rfl) rfl) (pw_and1 (pt_cmpR op_eq (pe_fld (pv 0) rfl) (pv 1) (nomark _))))) (pss_one (ps_ret pe_bl)) pss_nil)
  (pss_one (ps_ret (pe_and (pe_cmpR op_in_seq (pe_fld (pv 0) rfl) (pe_glob rfl T.gSN (v:=.ref A.aSN) rfl) rfl) (pe_one (pe_cmpR op_eq (pe_fld (pv 0) rfl) (pv 1) (nomark _))))))),?_⟩
 refine ⟨_,rfl,_,rfl,?_⟩
 cases o with
 | none =>
  have e:v = V.non:=co
  subst e
  exact k
 | some pc =>
  obtain ⟨p,c⟩:=pc
  obtain ⟨kk,rfl,dk,hk⟩:=co
  have hk:=le _ _ hk
  unfold namesC at k
  rw [decide_eq_false (fun z=>by cases z)]
  have eF:inV (.int (c.tag:Int)) [.int 7,.int 8,.int 9,.int 10,.int 11,.int 12,.int 16] = ([7,8,9,10,11,12,16]:List Nat).any (fun m=>m == c.tag):=in_ints c.tag [7,8,9,10,11,12,16]
  have eS:inV (.int (c.tag:Int)) [.int 9,.int 10,.int 11,.int 12,.int 15,.int 18] = ([9,10,11,12,15,18]:List Nat).any (fun m=>m == c.tag):=in_ints c.tag [9,10,11,12,15,18]
  have k:Q (.bl ((([7,8,9,10,11,12,16]:List Nat).any (fun m=>m == c.tag) && fst p c == n) || (([9,10,11,12,15,18]:List Nat).any (fun m=>m == c.tag) && snd c == n))) H:=k
  obtain ⟨f1,hf1⟩:∃ f1,f1 = ([7,8,9,10,11,12,16]:List Nat).any (fun m=>m == c.tag):=⟨_,rfl⟩
  obtain ⟨f2,hf2⟩:∃ f2,f2 = ([9,10,11,12,15,18]:List Nat).any (fun m=>m == c.tag):=⟨_,rfl⟩
  rw [← hf1] at eF
  rw [← hf2] at eS
  rw [← hf1,← hf2] at k
  clear hf1 hf2
  have tail:∀ (Q2:VK),Q2 (.bl (f2 && snd c == n)) H→tAndV (tOp (rIn K false) (tFld K (tVar 0) "tag") (tC (.ref A.aSN))) (tOp rEq (tFld K (tVar 0) "second") (tVar 1)) [some (.ref kk),some (.int (n:Int))] H Q2:=fun Q2 q=>by
   refine ⟨_,rfl,fldgo (fun _ _=>_) T.con hk (i:=0) rfl rfl ⟨A.aSN,_,rfl,.inr (T.dSN.sq _),rfl,rfl,_,rfl,?_⟩⟩
   rw [show (if false = true then !inV (V.int (c.tag:Int)) [.int 9,.int 10,.int 11,.int 12,.int 15,.int 18] else inV (V.int (c.tag:Int)) [.int 9,.int 10,.int 11,.int 12,.int 15,.int 18]) = f2 from eS]
   cases f2 with
   | false=>exact q
   | true =>
    refine ⟨_,rfl,fldgo (fun _ _=>_) T.con hk (i:=3) rfl rfl ⟨_,rfl,rfl,?_⟩⟩
    rw [dec_nat]
    exact q
  refine ⟨_,rfl,fldgo (fun _ _=>_) T.con hk (i:=0) rfl rfl ⟨A.aFN,_,rfl,.inr (T.dFN.sq _),rfl,rfl,_,rfl,?_⟩⟩
  rw [show (if false = true then !inV (V.int (c.tag:Int)) [.int 7,.int 8,.int 9,.int 10,.int 11,.int 12,.int 16] else inV (V.int (c.tag:Int)) [.int 7,.int 8,.int 9,.int 10,.int 11,.int 12,.int 16]) = f1 from eF]
  cases f1 with
  | false=>exact tail _ (by simpa using k)
  | true =>
   refine ⟨_,rfl,fldgo (fun _ _=>_) T.con hk (i:=2) rfl rfl ⟨_,rfl,rfl,_,rfl,?_⟩⟩
   rw [dec_nat]
   cases h1:(fst p c == n) with
   | true =>
    rw [h1] at k
    exact k
   | false =>
    rw [h1] at k
    exact tail _ (by simpa using k)
end
abbrev sReadAtts:Stmt:=top 95
abbrev sReadAtt:Stmt:=top 96
abbrev sAttNamed:Stmt:=top 97
abbrev sReadBody:Stmt:=top 98
abbrev sReadHands:Stmt:=top 99
abbrev sReadHand:Stmt:=top 100
theorem PoolAt.hq {A:Adr} {S H:Hp} {q a:Addr} {b:List UInt8} {l:Pool} (po:PoolAt A S q a b l) (le:Same S H):∃ dx cl,H q = some (.ins A.cPoo dx (kPoo.zip [.ref a,.ref cl])) :=
 let ⟨dx,cl,_,h,_,_⟩:=po.ob; ⟨dx,cl,le _ _ h⟩
def AOk (b:List UInt8) (l:Pool) (x:CfFile.Attr):Prop:=(CfFile.textAt l x.name).isSome = true∧x.place + x.len ≤ b.length
inductive spAttr (A:Adr) (vs:List V) (H:Hp) (Q:VK) (E:XK):Prop
 | mk (S:Hp) (c q a:Addr) (b:List UInt8) (l:Pool) (p:Nat) (_:vs = [.ref c,.ref q]) (_:St A S H c a b p) (_:PoolAt A S q a b l) (_:Post (CfFile.attr b l) p (fun x q=>∀ H' S1 k,But [c] H H'→Grow S H S1 H'→CurIs A H' c a q→AtAt A S1 k x→AOk b l x→Q (.ref k) H') (fun r e=>Fails A [c] H E r e))
inductive spAttrs (A:Adr) (vs:List V) (H:Hp) (Q:VK) (E:XK):Prop
 | mk (S:Hp) (c q a:Addr) (b:List UInt8) (l:Pool) (p:Nat) (_:vs = [.ref c,.ref q]) (_:St A S H c a b p) (_:PoolAt A S q a b l) (_:Post (CfFile.attrs b l) p (fun xs q=>∀ H' S1 k,But [c] H H'→Grow S H S1 H'→CurIs A H' c a q→AtsAt A S1 k xs→(∀ x ∈ xs,AOk b l x)→xs.length ≤ 65535→Q (.ref k) H') (fun r e=>Fails A [c] H E r e))
inductive spNamedA (A:Adr) (vs:List V) (H:Hp) (Q:VK) (E:XK):Prop
 | mk (S:Hp) (la q a:Addr) (b:List UInt8) (l:Pool) (xs:List CfFile.Attr) (x:Str) (wd:List UInt8) (_:vs = [.ref la,.ref q,.str x]) (_:AtsAt A S la xs) (_:PoolAt A S q a b l) (_:Same S H) (_:(∀ x ∈ xs,AOk b l x)) (_:xs.length ≤ 65535) (_:x.cps.size ≤ 1000) (_:cv x = bv wd) (_:∀ H' D ks,Same H H'→H D = none→H' D = some (.lst (ks.map V.ref))→Paired (fun k x=>AtAt A S k x) ks (xs.filter fun y=>CfFile.textAt l y.name == some wd)→Q (.ref D) H')
theorem paired_lenA {A:Adr} {S:Hp} {ks:List Addr} {xs:List CfFile.Attr} (h:Paired (fun k x=>AtAt A S k x) ks xs):ks.length = xs.length:=paired_len h
theorem paired_app {α β:Type} {F:α→β→Prop}:∀ {l:List α} {m:List β} {l2:List α} {m2:List β},Paired F l m→Paired F l2 m2→Paired F (l ++ l2) (m ++ m2)
 | _,_,_,_,.nil,h=>h
 | _,_,_,_,.cons r t,h=>.cons r (paired_app t h)
section
variable {P:Program} {w:World} {K:PySem.W.Frag} {mg:Str→Option Value} {base:Heap} {A:Adr}
theorem scReadAtt:FnScope ["cursor","pool","place","name","size","start"] ["cursor","pool"] (defScope sReadAtt):=scB
theorem d_readAtt (T:Txt K mg A) (src:Src K "read_attribute" sReadAtt) (L:Lib P w K mg base A):Def P w K mg base 6 "read_attribute" ["cursor","pool"] (spAttr A):=by
 refine defR src T.kx scReadAtt (fun vs H Q E h=>?_) (fun f cdv A' outer s H vs Q E hr h=>?_)
 ·obtain ⟨S,c,q,a,b,l,p,rfl,_⟩:=h
  rfl
 obtain ⟨S,c,q,a,b,l,p,rfl,st,po,k⟩:=h
 have ⟨dx,hc⟩:=st.cu
 refine ⟨_,pss_cons (ps_set (i:=2) scReadAtt.nd rfl (Or.inl rfl) (pe_fld (pv 0) rfl))
  (pss_cons (ps_set (i:=3) scReadAtt.nd rfl (Or.inl rfl) (pe_md L.uns (pv 0) T.cur.cl hr passR (pa_cons pe_int pa_nil)))
  (pss_cons (ps_expr (pe_d L.dem (rm hr) rfl passR (pa_cons (pe_md L.txt (pv 1) T.poo.cl (rm hr) passR (pa_cons (pv 3) pa_nil)) (pa_cons pe_int (pa_cons (pv 2) pa_nil)))))
  (pss_cons (ps_set (i:=4) scReadAtt.nd rfl (Or.inl rfl) (pe_md L.uns (pv 0) T.cur.cl hr passR (pa_cons pe_int pa_nil)))
  (pss_cons (ps_set (i:=5) scReadAtt.nd rfl (Or.inl rfl) (pe_md L.skp (pv 0) T.cur.cl (rm hr) passR (pa_cons (pv 4) pa_nil)))
  (pss_one (ps_ret (pe_mk L.iAtt T.mAtt.mak T.mAtt.kp (rm hr) rfl T.mAtt.g passR (pa_cons (pv 3) (pa_cons (pv 5) (pa_cons (pv 4) pa_nil)))))))))),?_⟩
 unfold CfFile.attr at k
 simp only [post_bind,post_here,post_pure] at k
 exists _,z0
 refine ⟨_,rfl,fldgo (fun _ _=>_) T.cur hc (i:=1) rfl rfl ?_⟩
 exists z0,z0
 refine ⟨_,rfl,methgo hc (by decide +kernel) ⟨c,a,b,p,2,rfl,st.cu,st.list,unsif st (But.refl _ _) k fun H1 _ b1 st1 hle k=>?_⟩⟩
 generalize big b p 2 = N at k
 have ⟨dx1,hc1⟩:=st1.cu
 obtain ⟨dq,cl,hq⟩:=po.hq st1.le
 exists z0,z0
 refine ⟨_,rfl,methgo hq (by decide +kernel) ⟨_,rfl,S,q,a,b,l,N,rfl,po,st1.le,_,rfl,_,_,_,rfl,demif b1 k rfl rfl (textAt_tag po.ok N).symm fun hN k=>?_⟩⟩
 exists z0,z0
 refine ⟨_,rfl,methgo hc1 (by decide +kernel) ⟨c,a,b,p + 2,4,rfl,st1.cu,st1.list,unsif st1 b1 k fun H2 _ b2 st2 hle k=>?_⟩⟩
 generalize big b (p + 2) 4 = M at k
 have ⟨dx2,hc2⟩:=st2.cu
 exists z0,z0
 refine ⟨_,rfl,methgo hc2 (by decide +kernel) ⟨_,rfl,c,a,b,p + 2 + 4,M,rfl,st2.cu,st2.list,skipif st2 b2 k fun H3 _ b3 st3 hle3 k=>?_⟩⟩
 exists z0
 refine ⟨_,rfl,_,rfl,_,rfl,makego rfl fun H4 x dx' s4 hx e4=>?_⟩
 have st4:=st3.same s4
 have d3:Dom H H3:=(let ⟨_,e⟩:=st3.cu; dom_but1 b3 e)
 exact k H4 _ x (b3.trans (Same.but s4)) ((Grow.stay st4.le).add (dom_none d3 hx) e4 (same_none st3.le hx)) st4.cu ⟨dx',upd_same⟩ ⟨hN,hle3⟩
theorem scReadAtts:FnScope ["cursor","pool","size","attributes"] ["cursor","pool"] (defScope sReadAtts):=scB
inductive AtsW (A:Adr) (c q la a:Addr) (b:List UInt8) (l:Pool) (N:Nat) (S H:Hp) (Q:VK) (E:XK) (m:Nat) (σ:L2.St) (H':Hp):Prop
 | mk (S1:Hp) (ks:List Addr) (xs:List CfFile.Attr) (z:Nat) (_:σ = [some (.ref c),some (.ref q),some (.int (N:Int)),some (.ref la)]) (_:m = N - xs.length) (_:xs.length ≤ N) (_:St A S1 H' c a b z) (_:Grow S H S1 H') (_:But [c] H H') (_:H' la = some (.lst (ks.map V.ref))) (_:S1 la = none) (_:Paired (fun k x=>AtAt A S1 k x) ks xs) (_:(∀ x ∈ xs,AOk b l x)) (_:Post (CfFile.many (CfFile.attr b l) (N - xs.length)) z (fun xs' z'=>∀ H' S1 k,But [c] H H'→Grow S H S1 H'→CurIs A H' c a z'→AtsAt A S1 k (xs ++ xs')→(∀ x ∈ xs ++ xs',AOk b l x)→(xs ++ xs').length ≤ 65535→Q (.ref k) H') (fun r e=>Fails A [c] H E r e))
theorem d_readAtts (T:Txt K mg A) (src:Src K "read_attributes" sReadAtts) (L:Lib P w K mg base A) (Da:Def P w K mg base 6 "read_attribute" ["cursor","pool"] (spAttr A)):Def P w K mg base 7 "read_attributes" ["cursor","pool"] (spAttrs A):=by
 refine defR src T.kx scReadAtts (fun vs H Q E h=>?_) (fun f cdv A' outer s H vs Q E hr h=>?_)
 ·obtain ⟨S,c,q,a,b,l,p,rfl,_⟩:=h
  rfl
 obtain ⟨S,c,q,a,b,l,p,rfl,st,po,k⟩:=h
 have ⟨dx,hc⟩:=st.cu
 refine ⟨_,pss_cons (ps_set (i:=2) scReadAtts.nd rfl (Or.inl rfl) (pe_md L.uns (pv 0) T.cur.cl (rm hr) passR (pa_cons pe_int pa_nil)))
  (pss_cons (ps_set (i:=3) scReadAtts.nd rfl (Or.inl rfl) (pe_lst pa_nil))
  (pss_cons (ps_while ownR (pt_cmpR op_lt (pe_callB call_len_seq (by rfl) T.nLen PySem.boot_len (pa_cons (pv 3) pa_nil)) (pv 2) (nomark _))
   (pss_one (ps_expr (pe_bm PySem.F.plainAttrs_list PySem.F.slot_list_append PySem.F.type_list_append mt_append (pv 3) (pa_cons (pe_d Da hr rfl passR (pa_cons (pv 0) (pa_cons (pv 1) pa_nil))) pa_nil)))))
  (pss_one (ps_ret (pv 3))))),?_⟩
 unfold CfFile.attrs at k
 simp only [post_bind] at k
 exists _,z0
 refine ⟨_,rfl,methgo hc (by decide +kernel) ⟨c,a,b,p,2,rfl,st.cu,st.list,unsif st (But.refl _ _) k fun H1 _ b1 st1 hle k=>?_⟩⟩
 have hN:=big2_lt b p
 generalize big b p 2 = N at k hN
 have ⟨dx1,hc1⟩:=st1.cu
 exists z0,z0
 refine ⟨Nat.zero_le _,fun la hla=>?_⟩
 have d1:Dom H H1:=dom_but1 b1 hc1
 have nla:c ≠ la:=ne_of_none hc1 hla
 exists z0,z0
 refine ⟨AtsW A c q la a b l N S H Q E,
  ⟨N,S,[],[],p + 2,rfl,rfl,Nat.zero_le _,st1.put (same_none st1.le hla) nla,Grow.stay (same_at st1.le (same_none st1.le hla)),but_at b1 (dom_none d1 hla),upd_same,same_none st1.le hla,.nil,(fun x h=>by cases h),k⟩,?_⟩
 rintro m σ H2 ⟨S2,ks,xs,z,rfl,rfl,hl,st2,g2,b2,hla2,nla2,pr,nm,k⟩
 have hlen:=paired_lenA pr
 have ⟨dx2,hc2⟩:=st2.cu
 have hml:(ks.map V.ref).length = xs.length:=by rw [List.length_map,hlen]
 refine ⟨_,rfl,la,_,rfl,.inl (SqL.of hla2),_,rfl,_,_,rfl,rfl,_,rfl,?_⟩
 by_cases hlt:xs.length < N
 ·rw [decide_eq_true (show ((ks.map V.ref).length:Int) < (N:Int) by omega)]
  refine ⟨fun σ' H'=>∃ m',m' < N - xs.length∧AtsW A c q la a b l N S H Q E m' σ' H',fun _ _ h=>h,?_⟩
  rw [show N - xs.length = (N - xs.length - 1) + 1 by omega,post_manyS] at k
  refine ⟨_,rfl,.inl ⟨rfl,_,SqL.of hla2⟩,_,rfl,_,rfl,S2,c,q,a,b,l,z,rfl,st2,po.up g2.le,k.mono (fun x z2 zz H3 S3 kk b3 g3 cu3 co okx=>?_) (fun r e f=>f.next b2 fun _ h=>h)⟩
  have st3:=st2.grow g3 cu3
  have hla3:H3 la = some (.lst (ks.map V.ref)):=b3 _ _ hla2 (by simpa using Ne.symm nla)
  have nla3:S3 la = none:=g3.new la (isSome_of hla2) nla2
  have d2:Dom H H2:=dom_but1 b2 hc2
  have gg3:Grow S H S3 H3:=g2.trans d2 g3
  have b13:=b2.trans b3
  have hlaH:H la = none:=dom_none d1 hla
  refine ⟨la,_,_,rfl,rfl,hla3,szl (by omega),?_⟩
  refine ⟨N - (xs.length + 1),by omega,S3,ks ++ [kk],xs ++ [x],z2,rfl,by simp only [List.length_append,List.length_singleton],by simp only [List.length_append,List.length_singleton]; omega,st3.put nla3 nla,gg3.later (same_at st3.le nla3),but_at b13 hlaH,by rw [upd_same,List.map_append]; rfl,nla3,paired_snoc (Paired.mapP pr fun _ _ h=>h.up g3.le) co,?_,?_⟩
  ·intro y hy
   rcases List.mem_append.mp hy with h | h
   ·exact nm y h
   ·rw [List.mem_singleton.mp h]; exact okx
  ·have ll:(xs ++ [x]).length = xs.length + 1:=by simp
   rw [ll,show N - (xs.length + 1) = N - xs.length - 1 by omega]
   refine zz.mono (fun xs' z' zz H' S1 k' b' g' cu' at' nm' le'=>zz H' S1 k' b' g' cu' ?_ ?_ ?_) (fun _ _ f=>f)
   ·simpa using at'
   ·simpa using nm'
   ·simpa using le'
 ·rw [decide_eq_false (show ¬ ((ks.map V.ref).length:Int) < (N:Int) by omega)]
  rw [show N - xs.length = 0 by omega,post_many0] at k
  rw [List.append_nil] at k
  have hlaH:H la = none:=dom_none d1 hla
  have gA:=g2.add hlaH hla2 nla2
  have sS:Same S2 (upd S2 la (.lst (ks.map V.ref))):=same_at (same_refl S2) nla2
  exists z0
  exact ⟨_,rfl,k H2 _ la b2 gA st2.cu ⟨ks,upd_same,Paired.mapP pr fun _ _ h=>h.up sS⟩ nm (by omega)⟩
theorem scAttNamed:FnScope ["attributes","pool","word","wanted","attribute"] ["attributes","pool","word"] (defScope sAttNamed):=scB
theorem d_attNamed (T:Txt K mg A) (src:Src K "attributes_named" sAttNamed) (L:Lib P w K mg base A):Def P w K mg base 2 "attributes_named" ["attributes","pool","word"] (spNamedA A):=by
 refine defR src T.kx scAttNamed (fun vs H Q E h=>?_) (fun f cdv A' outer s H vs Q E hr h=>?_)
 ·obtain ⟨S,la,q,a,b,l,xs,x,wd,rfl,_⟩:=h
  rfl
 obtain ⟨S,la,q,a,b,l,xs,x,wd,rfl,ats,po,le,nm,hlx,hsz,hcv,k⟩:=h
 obtain ⟨ks,hla,pr⟩:=ats
 have hla:=le _ _ hla
 refine ⟨_,pss_cons (ps_set (i:=3) scAttNamed.nd rfl (Or.inr rfl) (pe_d L.rof hr rfl passR (pa_cons (pv 2) pa_nil)))
  (pss_one (ps_ret (pe_lc (own:=[("attribute",4)]) (tt:=tTest (tOp rEqB (tMeth A.cPoo "row" (spGive A CfFile.textAt) [] (fun _ _ _=>False) (tVar 1) (tCons (tFld K (tVar 4) "name") tNil)) (tVar 3))) rfl scAttNamed.nd (pi_list (pv 0)) (blkOk_by (by show blkC ["attributes","pool","word","wanted","attribute"] (defScope sAttNamed) _ [("attribute",4)] = true; decide +kernel))
   (fun s H C cl fp=>pg_name (i:=4) scAttNamed.nd rfl (Or.inl rfl)) (fun s H C cl fp=>by refine pts_one (pt_cmpR (op_eqB ?_) ?_ (pv 3) (nomark _)); exact hr.units; refine pe_md (E:=fun _ _ _=>False) L.row (pv 1) T.poo.cl ?_ passF ?_; exact hr; refine pa_cons ?_ pa_nil; refine pe_fld ?_ rfl; exact pv 4) (fun s H C cl fp=>pv 4)))),?_⟩
 exists _,z0
 refine ⟨_,rfl,x,rfl,hsz,fun H1 wa s1 hwa=>?_⟩
 rw [hcv] at hwa
 exists z0
 refine ⟨_,rfl,la,rfl,⟨_,SqL.of (s1 _ _ hla)⟩,fun D hD=>?_⟩
 have hlen:=paired_lenA pr
 refine lc_list (K:=K) (a:=la) (xs:=ks.map V.ref) (fun n H'=>∃ ks',H' D = some (.lst (ks'.map V.ref))∧Paired (fun k x=>AtAt A S k x) ks' ((xs.take n).filter fun y=>CfFile.textAt l y.name == some wd)∧Same H1 H')
  ⟨[],upd_same,.nil,same_new hD⟩ (fun n H' _ h=>SqL.of (let ⟨_,_,_,s2⟩:=h; s2 _ _ (s1 _ _ hla))) ?_ ?_
 ·rintro n y H2 hn ⟨ks',h1,h2,s2⟩
  rw [List.getElem?_map] at hn
  obtain ⟨kk,hkk,rfl⟩:=Option.map_eq_some_iff.mp hn
  obtain ⟨x0,hx0,ax⟩:=paired_at pr hkk
  obtain ⟨dk,hk⟩:=ax
  have s12:=s1.trans s2
  have hk2:=s12 _ _ (le _ _ hk)
  obtain ⟨dq,cl,hq⟩:=po.hq (le.trans s12)
  obtain ⟨t,ht⟩:=Option.isSome_iff_exists.mp (nm x0 (List.mem_of_getElem? hx0)).1
  refine ⟨rfl,_,rfl,methgo hq (by decide +kernel) ⟨_,rfl,fldgo (fun _ _=>_) T.att hk2 (i:=0) rfl rfl ⟨S,q,a,b,l,x0.name,t,rfl,po,le.trans s12,ht,fun H3 r s3 _ hr3=>⟨_,rfl,r,wa,t,wd,rfl,rfl,hr3,(s2.trans s3) _ _ hwa,_,rfl,?_⟩⟩⟩⟩
  have hff:(CfFile.textAt l x0.name == some wd) = decide (t = wd):=by
   rw [ht]
   by_cases e:t = wd
   ·rw [e]; simp
   ·rw [decide_eq_false e]; simp [e]
  cases htw:decide (t = wd) with
  | true =>
   refine ⟨_,rfl,_,s3 _ _ h1,?_,ks' ++ [kk],?_,?_,fun z o e=>?_⟩
   ·have:=paired_lenA h2
    have h3:=List.length_filter_le (fun y=>CfFile.textAt l y.name == some wd) (xs.take n)
    rw [List.length_take] at h3
    rw [List.length_map]
    exact szl (by omega)
   ·rw [upd_same,List.map_append]; rfl
   ·rw [tk_snoc hx0,List.filter_append]
    refine paired_app h2 ?_
    rw [List.filter_cons,hff,htw]
    exact .cons ⟨dk,hk⟩ .nil
   ·rw [upd_ne (ne_of_none e hD)]; exact (s2.trans s3) z o e
  | false =>
   refine ⟨ks',s3 _ _ h1,?_,s2.trans s3⟩
   rw [tk_snoc hx0,List.filter_append]
   have e:List.filter (fun y=>CfFile.textAt l y.name == some wd) [x0] = []:=by rw [List.filter_cons,hff,htw]; rfl
   rw [e,List.append_nil]
   exact h2
 ·rintro H2 ⟨ks',h1,h2,s2⟩
  rw [List.length_map,hlen,List.take_length] at h2
  exact k H2 D ks' (s1.trans s2) (dom_none (Same.dom s1) hD) h1 h2
end
theorem but_cut {H H1 H2:Hp} {c:Addr} (s:Same H H1) (n:H c = none) (b:But [c] H1 H2):Same H H2:=fun x o e=>b x o (s x o e) (by
 intro z
 rw [List.mem_singleton.mp z,n] at e
 cases e)
theorem Fails.cut {A:Adr} {H H1:Hp} {E:XK} {r p:Int} {c:Addr} (f:Fails A [] H E r p) (s:Same H H1) (n:H c = none):Fails A [c] H1 E r p:=fun H' d b e=>f H' d (Same.but (but_cut s n b)) e
def handsP (b:List UInt8) (l:Pool) (n:Nat):CfFile.P Unit:=do
 let k ← CfFile.num b 2
 let _ ← CfFile.many (CfFile.handler b l n) k
 return ()
inductive spHand (A:Adr) (g:List UInt8→Pool→Nat→CfFile.P Unit) (vs:List V) (H:Hp) (Q:VK) (E:XK):Prop
 | mk (S:Hp) (c q a:Addr) (b:List UInt8) (l:Pool) (p n:Nat) (_:vs = [.ref c,.ref q,.int (n:Int)]) (_:St A S H c a b p) (_:PoolAt A S q a b l) (_:Post (g b l n) p (fun _ z=>∀ H',But [c] H H'→CurIs A H' c a z→Q .non H') (fun r e=>Fails A [c] H E r e))
theorem spHand.len {A:Adr} {g:List UInt8→Pool→Nat→CfFile.P Unit} {vs:List V} {H:Hp} {Q:VK} {E:XK} (h:spHand A g vs H Q E):vs.length = (["cursor","pool","size"]:List Str).length:=by
 obtain ⟨S,c,q,a,b,l,p,n,rfl,_⟩:=h
 rfl
inductive spBody (A:Adr) (vs:List V) (H:Hp) (Q:VK) (E:XK):Prop
 | mk (S:Hp) (q a k:Addr) (b:List UInt8) (l:Pool) (x:CfFile.Attr) (_:vs = [.ref q,.ref k]) (_:PoolAt A S q a b l) (_:Same S H) (_:AtAt A S k x) (_:Post (CfFile.inside b l x) x.place (fun y _=>∀ H' S1 kb,Same H H'→Grow S H S1 H'→BoAt A S1 kb y→H kb = none→Q (.ref kb) H') (fun r e=>Fails A [] H E r e))
theorem makeR {C:Addr} {ks:List Str} {us:List V} {H:Hp} {R:Addr→Hp→Prop} {E:XK} (hl:us.length = ks.length) (q:∀ H' x dx,Same H H'→H x = none→H' x = some (.ins C dx (ks.zip us))→R x H') :
  ∀ x dx,H x = none→H dx = none→dx ≠ x→spIni C ks (.ref x :: (us ++ [])) (upd (upd H dx (.own x)) x (.ins C dx [])) (fun v H2=>v = .non∧R x H2) E:=fun x dx hx hd ne=>by
 rw [List.append_nil]
 refine ⟨x,dx,us,rfl,hl,upd_same,rfl,q _ x dx (fun b o e=>?_) hx upd_same⟩
 rw [upd_ne (ne_of_none e hx),upd_ne (ne_of_none e hx),upd_ne (ne_of_none e hd)]
 exact e
theorem makebod {A:Adr} {v1 v2 v3 v4:V} {H:Hp} {R:Addr→Hp→Prop} {E:XK} (q:∀ H' x dx l,Same H H'→H x = none→H l = none→H' l = some (.lst [])→H' x = some (.ins A.cBod dx (kBod.zip [v1,v2,v3,v4,.ref l]))→R x H') :
  ∀ x dx,H x = none→H dx = none→dx ≠ x→spBodI A (.ref x :: ([v1,v2,v3,v4] ++ [])) (upd (upd H dx (.own x)) x (.ins A.cBod dx [])) (fun v H2=>v = .non∧R x H2) E:=fun x dx hx hd ne=>by
 refine ⟨x,dx,v1,v2,v3,v4,rfl,upd_same,fun H' l b hl el ex=>⟨rfl,?_⟩⟩
 have nlx:l ≠ x:=fun z=>by rw [z,upd_same] at hl; cases hl
 have nld:l ≠ dx:=fun z=>by rw [upd_ne nlx,z,upd_same] at hl; cases hl
 rw [upd_ne nlx,upd_ne nld] at hl
 refine q H' x dx l (fun y o e=>b y o ?_ ?_) hx hl el ex
 ·rw [upd_ne (ne_of_none e hx),upd_ne (ne_of_none e hd)]; exact e
 ·simpa using ne_of_none e hx
theorem makemem {A:Adr} {v1 v2 v3 v4:V} {H:Hp} {R:Addr→Hp→Prop} {E:XK} (q:∀ H' x dx l,Same H H'→H x = none→H l = none→H' l = some (.lst [])→H' x = some (.ins A.cMem dx (kMem.zip [v1,v2,v3,v4,.ref l,.non]))→R x H') :
  ∀ x dx,H x = none→H dx = none→dx ≠ x→spMemI A (.ref x :: ([v1,v2,v3,v4] ++ [])) (upd (upd H dx (.own x)) x (.ins A.cMem dx [])) (fun v H2=>v = .non∧R x H2) E:=fun x dx hx hd ne=>by
 refine ⟨x,dx,v1,v2,v3,v4,rfl,upd_same,fun H' l b hl el ex=>⟨rfl,?_⟩⟩
 have nlx:l ≠ x:=fun z=>by rw [z,upd_same] at hl; cases hl
 have nld:l ≠ dx:=fun z=>by rw [upd_ne nlx,z,upd_same] at hl; cases hl
 rw [upd_ne nlx,upd_ne nld] at hl
 refine q H' x dx l (fun y o e=>b y o ?_ ?_) hx hl el ex
 ·rw [upd_ne (ne_of_none e hx),upd_ne (ne_of_none e hd)]; exact e
 ·simpa using ne_of_none e hx
section
variable {P:Program} {w:World} {K:PySem.W.Frag} {mg:Str→Option Value} {base:Heap} {A:Adr}
theorem scReadHand:FnScope ["cursor","pool","size","place","first","end","target","caught"] ["cursor","pool","size"] (defScope sReadHand):=scB
theorem d_readHand (T:Txt K mg A) (src:Src K "read_handler" sReadHand) (L:Lib P w K mg base A):Def P w K mg base 6 "read_handler" ["cursor","pool","size"] (spHand A CfFile.handler):=by
 refine defR src T.kx scReadHand (fun vs H Q E h=>h.len) (fun f cdv A' outer s H vs Q E hr h=>?_)
 obtain ⟨S,c,q,a,b,l,p,n,rfl,st,po,k⟩:=h
 have ⟨dx,hc⟩:=st.cu
 refine ⟨_,pss_cons (ps_set (i:=3) scReadHand.nd rfl (Or.inl rfl) (pe_fld (pv 0) rfl))
  (pss_cons (ps_set (i:=4) scReadHand.nd rfl (Or.inl rfl) (pe_md L.uns (pv 0) T.cur.cl hr passR (pa_cons pe_int pa_nil)))
  (pss_cons (ps_set (i:=5) scReadHand.nd rfl (Or.inl rfl) (pe_md L.uns (pv 0) T.cur.cl hr passR (pa_cons pe_int pa_nil)))
  (pss_cons (ps_set (i:=6) scReadHand.nd rfl (Or.inl rfl) (pe_md L.uns (pv 0) T.cur.cl hr passR (pa_cons pe_int pa_nil)))
  (pss_cons (ps_set (i:=7) scReadHand.nd rfl (Or.inl rfl) (pe_md L.uns (pv 0) T.cur.cl hr passR (pa_cons pe_int pa_nil)))
  (pss_cons (ps_expr (pe_d L.dem (rm hr) rfl passR (pa_cons (pe_and (pe_chain op_lt op_le (pv 4) (pv 5) (pv 2)) (pe_one (pe_cmpR op_lt (pv 6) (pv 2) (nomark _)))) (pa_cons pe_int (pa_cons (pv 3) pa_nil)))))
  (pss_one (ps_expr (pe_d L.dem (rm hr) rfl passR (pa_cons (pe_or (pe_cmpR op_eq (pv 7) pe_int (nomark _)) (pe_one (pe_cmpR op_eq (pe_md L.tag (pv 1) T.poo.cl (rm hr) passR (pa_cons (pv 7) pa_nil)) (pe_gi T.g_CLASS rfl) (nomark _)))) (pa_cons pe_int (pa_cons (pv 3) pa_nil))))))))))),?_⟩
 unfold CfFile.handler at k
 simp only [post_bind,post_here] at k
 exists _,z0
 refine ⟨_,rfl,fldgo (fun _ _=>_) T.cur hc (i:=1) rfl rfl ?_⟩
 exists z0
 refine ⟨_,rfl,methgo hc (by decide +kernel) ⟨c,a,b,p,2,rfl,st.cu,st.list,unsif st (But.refl _ _) k fun H1 _ b1 st1 hle k=>?_⟩⟩
 have ⟨dx1,hc1⟩:=st1.cu
 refine ⟨_,rfl,methgo hc1 (by decide +kernel) ⟨c,a,b,_,2,rfl,st1.cu,st1.list,unsif st1 b1 k fun H2 _ b2 st2 hle k=>?_⟩⟩
 have ⟨dx2,hc2⟩:=st2.cu
 refine ⟨_,rfl,methgo hc2 (by decide +kernel) ⟨c,a,b,_,2,rfl,st2.cu,st2.list,unsif st2 b2 k fun H3 _ b3 st3 hle k=>?_⟩⟩
 have ⟨dx3,hc3⟩:=st3.cu
 refine ⟨_,rfl,methgo hc3 (by decide +kernel) ⟨c,a,b,_,2,rfl,st3.cu,st3.list,unsif st3 b3 k fun H4 _ b4 st4 hle k=>?_⟩⟩
 have ⟨dx4,hc4⟩:=st4.cu
 obtain ⟨dq,cl,hq⟩:=po.hq st4.le
 generalize big b p 2 = v1 at k
 generalize big b (p + 2) 2 = v2 at k
 generalize big b (p + 2 + 2) 2 = v3 at k
 generalize big b (p + 2 + 2 + 2) 2 = v4 at k
 have e3:decide ((v3:Int) < (n:Int)) = decide (v3 < n):=by rw [decide_eq_decide]; omega
 refine ⟨_,rfl,_,rfl,_,_,rfl,rfl,_,rfl,?_⟩
 rw [show decide ((v1:Int) < (v2:Int)) = decide (v1 < v2) by rw [decide_eq_decide]; omega]
 have rest:Post (CfFile.must (v4 == 0 || CfFile.isClass l v4) CfFile.REF p) (p + 2 + 2 + 2 + 2) (fun _ z=>∀ H',But [c] H H'→CurIs A H' c a z→Q .non H') (fun r e=>Fails A [c] H E r e) →
   tDrop (tCall (spDemand A) [] E (tCons (tOrV (tOp rEq (tVar 7) (tC (.int 0))) (tOp rEq (tMeth A.cPoo "tag_of" (spPool A fun l n=>.int (tagAt l n:Int)) [] E (tVar 1) (tCons (tVar 7) tNil)) (tC (.int 7)))) (tCons (tC (.int 8)) (tCons (tVar 3) tNil)))) { nx:=fun _ H'=>Q .non H',rt:=Q }
   [some (.ref c),some (.ref q),some (.int (n:Int)),some (.int (p:Int)),some (.int (v1:Int)),some (.int (v2:Int)),some (.int (v3:Int)),some (.int (v4:Int))] H4:=fun k=>by
  refine ⟨_,rfl,rfl,_,rfl,?_⟩
  rw [show decide (V.int (v4:Int) = V.int 0) = (v4 == 0) from dec_nat v4 0]
  cases h0:(v4 == 0) with
  | true =>
   rw [h0] at k
   exact ⟨_,rfl,_,_,_,rfl,demif b4 k rfl rfl rfl fun _ k=>k H4 b4 st4.cu⟩
  | false =>
   rw [h0] at k
   refine ⟨_,rfl,methgo hq (by decide +kernel) ⟨_,rfl,S,q,a,b,l,v4,rfl,po,st4.le,rfl,?_⟩⟩
   rw [show decide (V.int (tagAt l v4:Int) = V.int 7) = (tagAt l v4 == 7) from dec_nat _ 7,← isClass_tag po.ok]
   exact ⟨_,rfl,_,_,_,rfl,demif b4 k rfl rfl rfl fun _ k=>k H4 b4 st4.cu⟩
 cases h12:decide (v1 < v2) with
 | false =>
  rw [h12] at k
  exact ⟨_,rfl,_,rfl,_,_,_,rfl,demif b4 k rfl rfl rfl fun h _=>by cases h⟩
 | true =>
  rw [h12] at k
  refine ⟨_,rfl,_,_,rfl,rfl,_,rfl,?_⟩
  rw [show decide ((v2:Int) ≤ (n:Int)) = decide (v2 ≤ n) by rw [decide_eq_decide]; omega]
  cases h2n:decide (v2 ≤ n) with
  | false =>
   rw [h2n] at k
   exact ⟨_,rfl,_,_,_,rfl,demif b4 k rfl rfl rfl fun h _=>by cases h⟩
  | true =>
   rw [h2n] at k
   refine ⟨_,rfl,_,rfl,_,_,rfl,rfl,_,rfl,_,_,_,rfl,demif b4 k rfl rfl e3 fun _ k=>?_⟩
   exact rest k
theorem scReadHands:FnScope ["cursor","pool","size","left"] ["cursor","pool","size"] (defScope sReadHands):=scB
theorem d_readHands (T:Txt K mg A) (src:Src K "read_handlers" sReadHands) (L:Lib P w K mg base A) (Dh:Def P w K mg base 6 "read_handler" ["cursor","pool","size"] (spHand A CfFile.handler)):Def P w K mg base 7 "read_handlers" ["cursor","pool","size"] (spHand A handsP):=by
 refine defR src T.kx scReadHands (fun vs H Q E h=>h.len) (fun f cdv A' outer s H vs Q E hr h=>?_)
 obtain ⟨S,c,q,a,b,l,p,n,rfl,st,po,k⟩:=h
 have ⟨dx,hc⟩:=st.cu
 refine ⟨_,pss_cons (ps_set (i:=3) scReadHands.nd rfl (Or.inl rfl) (pe_md L.uns (pv 0) T.cur.cl (rm hr) passR (pa_cons pe_int pa_nil)))
  (pss_one (ps_while ownR (pt_cmpR op_gt (pv 3) pe_int (nomark _))
   (pss_cons (ps_expr (pe_d Dh hr rfl passR (pa_cons (pv 0) (pa_cons (pv 1) (pa_cons (pv 2) pa_nil)))))
   (pss_one (ps_aug (i:=3) scReadHands.nd rfl (Or.inl rfl) pe_int ip_sub))))),?_⟩
 unfold handsP at k
 simp only [post_bind,post_pure] at k
 exists _,z0
 refine ⟨_,rfl,methgo hc (by decide +kernel) ⟨c,a,b,p,2,rfl,st.cu,st.list,unsif st (But.refl _ _) k fun H1 _ b1 st1 hle k=>?_⟩⟩
 generalize big b p 2 = N at k
 exists z0
 refine ⟨fun m σ H'=>∃ z:Nat,σ = [some (.ref c),some (.ref q),some (.int (n:Int)),some (.int (m:Int))]∧St A S H' c a b z∧But [c] H H' ∧
   Post (CfFile.many (CfFile.handler b l n) m) z (fun _ z=>∀ H',But [c] H H'→CurIs A H' c a z→Q .non H') (fun r e=>Fails A [c] H E r e),⟨N,_,rfl,st1,b1,k⟩,?_⟩
 rintro m σ H2 ⟨z,rfl,st2,b2,k⟩
 refine ⟨_,rfl,_,_,rfl,rfl,_,rfl,?_⟩
 cases m with
 | zero =>
  rw [decide_eq_false (show ¬ (0:Int) < ((0:Nat):Int) by decide)]
  exact k H2 b2 st2.cu
 | succ m =>
  rw [decide_eq_true (show (0:Int) < ((m + 1:Nat):Int) by omega)]
  refine ⟨fun σ' H3=>∃ m',m' < m + 1∧∃ z:Nat,σ' = [some (.ref c),some (.ref q),some (.int (n:Int)),some (.int (m':Int))]∧St A S H3 c a b z∧But [c] H H3 ∧
   Post (CfFile.many (CfFile.handler b l n) m') z (fun _ z=>∀ H',But [c] H H'→CurIs A H' c a z→Q .non H') (fun r e=>Fails A [c] H E r e),fun _ _ h=>h,?_⟩
  rw [post_manyS] at k
  exists _,z0
  refine ⟨_,rfl,_,rfl,_,rfl,S,c,q,a,b,l,z,n,rfl,st2,po,k.mono (fun _ z2 k2 H3 b3 cu3=>?_) (fun r e f=>f.next b2 fun _ h=>h)⟩
  have st3:=st2.step b3 cu3
  exists z0
  refine ⟨_,rfl,_,_,rfl,rfl,m,by omega,z2,?_,st3,b2.trans b3,k2⟩
  show [some (V.ref c),some (V.ref q),some (V.int (n:Int)),some (V.int (((m + 1:Nat):Int) - 1))] = _
  rw [show ((m + 1:Nat):Int) - 1 = (m:Int) by omega]
end
theorem Post.cutR {α:Type} {A:Adr} {f:CfFile.P α} {p:Nat} {OK:α→Nat→Prop} {H H1:Hp} {E:XK} {c:Addr} (k:Post f p OK (fun r e=>Fails A [] H E r e)) (s:Same H H1) (n:H c = none):Post f p OK (fun r e=>Fails A [c] H1 E r e) :=
 k.mono (fun _ _ h=>h) (fun _ _ f=>f.cut s n)
section
variable {P:Program} {w:World} {K:PySem.W.Frag} {mg:Str→Option Value} {base:Heap} {A:Adr}
theorem scReadBody:FnScope ["pool","attribute","cursor","stack","variables","place","size","body"] ["pool","attribute"] (defScope sReadBody):=scB
theorem d_readBody (T:Txt K mg A) (src:Src K "read_body" sReadBody) (L:Lib P w K mg base A) (Dh:Def P w K mg base 7 "read_handlers" ["cursor","pool","size"] (spHand A handsP)) (Da:Def P w K mg base 7 "read_attributes" ["cursor","pool"] (spAttrs A)) :
  Def P w K mg base 8 "read_body" ["pool","attribute"] (spBody A):=by
 refine defR src T.kx scReadBody (fun vs H Q E h=>?_) (fun f cdv A' outer s H vs Q E hr h=>?_)
 ·obtain ⟨S,q,a,k,b,l,x,rfl,_⟩:=h
  rfl
 obtain ⟨S,q,a,ka,b,l,x,rfl,po,le,⟨dk,hka⟩,k⟩:=h
 obtain ⟨dq,cl,hq⟩:=po.hq le
 have hka:=le _ _ hka
 refine ⟨_,pss_cons (ps_set (i:=2) scReadBody.nd rfl (Or.inl rfl) (pe_mk L.iCur T.mCur.mak T.mCur.kp (rm hr) rfl T.mCur.g passR (pa_cons (pe_fld (pv 0) rfl) (pa_cons (pe_fld (pv 1) rfl) pa_nil))))
  (pss_cons (ps_set (i:=3) scReadBody.nd rfl (Or.inl rfl) (pe_md L.uns (pv 2) T.cur.cl (rm hr) passR (pa_cons pe_int pa_nil)))
  (pss_cons (ps_set (i:=4) scReadBody.nd rfl (Or.inl rfl) (pe_md L.uns (pv 2) T.cur.cl (rm hr) passR (pa_cons pe_int pa_nil)))
  (pss_cons (ps_set (i:=5) scReadBody.nd rfl (Or.inl rfl) (pe_fld (pv 2) rfl))
  (pss_cons (ps_set (i:=6) scReadBody.nd rfl (Or.inl rfl) (pe_md L.uns (pv 2) T.cur.cl (rm hr) passR (pa_cons pe_int pa_nil)))
  (pss_cons (ps_expr (pe_d L.dem (rm hr) rfl passR (pa_cons (pe_chain op_le op_le pe_int (pv 6) (pe_gi T.g_MOST_CODE rfl)) (pa_cons pe_int (pa_cons (pv 5) pa_nil)))))
  (pss_cons (ps_set (i:=7) scReadBody.nd rfl (Or.inl rfl) (pe_mk L.iBod T.mBod.mak T.mBod.kp (rm hr) rfl T.mBod.g passR (pa_cons (pv 3) (pa_cons (pv 4) (pa_cons (pe_md L.skp (pv 2) T.cur.cl (rm hr) passR (pa_cons (pv 6) pa_nil)) (pa_cons (pv 6) pa_nil))))))
  (pss_cons (ps_expr (pe_d Dh hr rfl passR (pa_cons (pv 2) (pa_cons (pv 0) (pa_cons (pv 6) pa_nil)))))
  (pss_cons (ps_fld (pv 7) (pe_d Da hr rfl passR (pa_cons (pv 2) (pa_cons (pv 0) pa_nil))) rfl)
  (pss_cons (ps_expr (pe_d L.dem (rm hr) rfl passR (pa_cons (pe_cmpR op_eq (pe_fld (pv 2) rfl) (pe_op op_add (pe_fld (pv 1) rfl) (pe_fld (pv 1) rfl)) (nomark _)) (pa_cons pe_int (pa_cons (pe_fld (pv 1) rfl) pa_nil)))))
  (pss_one (ps_ret (pv 7)))))))))))),?_⟩
 exists _,z0
 refine ⟨_,rfl,fldgo (fun _ _=>_) T.poo hq (i:=0) rfl rfl ⟨_,rfl,fldgo (fun _ _=>_) T.att hka (i:=1) rfl rfl ?_⟩⟩
 refine makeR (C:=A.cCur) (ks:=kCur) (us:=[.ref a,.int (x.place:Int)]) rfl fun H1 c dx' s1 hcn hc1=>?_
 have st1:St A S H1 c a b x.place:=⟨le.trans s1,same_none le hcn,po.ct,⟨dx',hc1⟩⟩
 have k:=k.cutR s1 hcn
 unfold CfFile.inside at k
 simp only [post_bind,post_here,post_pure] at k
 exists z0
 refine ⟨_,rfl,methgo hc1 (by decide +kernel) ⟨c,a,b,_,2,rfl,st1.cu,st1.list,unsif st1 (But.refl _ _) k fun H2 _ b2 st2 hle k=>?_⟩⟩
 have ⟨dx2,hc2⟩:=st2.cu
 refine ⟨_,rfl,methgo hc2 (by decide +kernel) ⟨c,a,b,_,2,rfl,st2.cu,st2.list,unsif st2 b2 k fun H3 _ b3 st3 hle k=>?_⟩⟩
 have ⟨dx3,hc3⟩:=st3.cu
 refine ⟨_,rfl,fldgo (fun _ _=>_) T.cur hc3 (i:=1) rfl rfl ?_⟩
 refine ⟨_,rfl,methgo hc3 (by decide +kernel) ⟨c,a,b,_,4,rfl,st3.cu,st3.list,unsif st3 b3 k fun H4 _ b4 st4 hle k=>?_⟩⟩
 generalize big b x.place 2 = v1 at k
 generalize big b (x.place + 2) 2 = v2 at k
 generalize big b (x.place + 2 + 2) 4 = n at k
 have ⟨dx4,hc4⟩:=st4.cu
 have h4:((x.place + 2 + 2:Nat):Int) = ((x.place + 2 + 2:Nat):Int):=rfl
 have bo:(decide ((1:Int) ≤ (n:Int)) && decide ((n:Int) ≤ 65535)) = (decide (0 < n) && decide (n < 65536)):=by
  congr 1
  ·rw [decide_eq_decide]; omega
  ·rw [decide_eq_decide]; omega
 refine chain_go rfl ⟨_,rfl,_,_,_,rfl,demif b4 k rfl rfl bo fun hn k=>?_⟩
 refine ⟨_,rfl,_,rfl,_,rfl,methgo hc4 (by decide +kernel) ⟨_,rfl,c,a,b,_,n,rfl,st4.cu,st4.list,skipif st4 b4 k fun H5 _ b5 st5 hle k=>?_⟩⟩
 refine ⟨_,rfl,makebod fun H6 kb dkb lb s6 hkb hlb elb ekb=>?_⟩
 have st6:=st5.same s6
 have b6:=b5.trans (Same.but s6)
 have nkb:S kb = none:=same_none st5.le hkb
 have ⟨dx6,hc6⟩:=st6.cu
 have ⟨dx5,hc5⟩:=st5.cu
 have nck:c ≠ kb:=ne_of_none hc5 hkb
 refine ⟨_,rfl,_,rfl,_,rfl,S,c,q,a,b,l,_,n,rfl,st6,po,?_⟩
 unfold handsP
 simp only [post_bind,post_pure]
 refine k.mono (fun N z1 k=>k.mono (fun _ z2 k H7 b7 cu7=>?_) (fun r e f=>f.next b6 fun _ h=>h)) (fun r e f=>f.next b6 fun _ h=>h)
 have st7:=st6.step b7 cu7
 have b67:=b6.trans b7
 have hkb7:=b7 _ _ ekb (by simpa using Ne.symm nck)
 refine ⟨_,rfl,_,rfl,S,c,q,a,b,l,z2,rfl,st7,po,k.mono (fun xs z3 k H8 S8 la b8 g8 cu8 ats nm hlen=>?_) (fun r e f=>f.next b67 fun _ h=>h)⟩
 have st8:=st7.grow g8 cu8
 have hkb8:=b8 _ _ hkb7 (by simpa using Ne.symm nck)
 have nkb8:S8 kb = none:=g8.new kb (isSome_of hkb7) nkb
 refine ⟨_,rfl,setgo T.bod hkb8 (i:=4) rfl rfl ?_⟩
 have st9:=st8.put (o:=.ins A.cBod dkb (kBod.zip ([V.int (v1:Int),V.int (v2:Int),V.int ((x.place + 2 + 2 + 4:Nat):Int),V.int (n:Int),V.ref lb].set 4 (V.ref la)))) nkb8 nck
 have b68:=b67.trans b8
 have hkbH1:H1 kb = none:=dom_none (dom_but1 b5 hc5) hkb
 have hkbH:H kb = none:=dom_none (Same.dom s1) hkbH1
 have b9:But [c] H1 (upd H8 kb (.ins A.cBod dkb (kBod.zip ([V.int (v1:Int),V.int (v2:Int),V.int ((x.place + 2 + 2 + 4:Nat):Int),V.int (n:Int),V.ref lb].set 4 (V.ref la))))):=but_at b68 hkbH1
 have same9:=but_cut s1 hcn b9
 have g9:Grow S H S8 _:=((Grow.stay (S:=S) (H:=H) (H1:=H7) st7.le).trans ((Same.dom s1).trans (let ⟨_,e⟩:=cu7; dom_but1 b67 e)) g8).later st9.le
 have g10:=g9.add hkbH (upd_same (H:=H8) (a:=kb)) nkb8
 generalize hH9:upd H8 kb (.ins A.cBod dkb (kBod.zip ([V.int (v1:Int),V.int (v2:Int),V.int ((x.place + 2 + 2 + 4:Nat):Int),V.int (n:Int),V.ref lb].set 4 (V.ref la)))) = H9 at *
 have ⟨dx9,hc9⟩:=st9.cu
 have hka9:=same9 _ _ hka
 refine ⟨_,rfl,fldgo (fun _ _=>_) T.cur hc9 (i:=1) rfl rfl ⟨_,rfl,fldgo (fun _ _=>_) T.att hka9 (i:=1) rfl rfl ⟨_,rfl,fldgo (fun _ _=>_) T.att hka9 (i:=2) rfl rfl ⟨_,_,rfl,rfl,rfl,_,rfl,fldgo (fun _ _=>_) T.att hka9 (i:=1) rfl rfl ⟨_,_,_,rfl,demif b9 k rfl rfl ?_ fun _ k=>?_⟩⟩⟩⟩⟩
 ·show decide (V.int (z3:Int) = V.int ((x.place:Int) + (x.len:Int))) = _
  rw [show (x.place:Int) + (x.len:Int) = ((x.place + x.len:Nat):Int) by omega]
  exact dec_nat _ _
 ·have sS:Same S8 (upd S8 kb (.ins A.cBod dkb (kBod.zip ([V.int (v1:Int),V.int (v2:Int),V.int ((x.place + 2 + 2 + 4:Nat):Int),V.int (n:Int),V.ref lb].set 4 (V.ref la))))):=same_at (same_refl S8) nkb8
  exact ⟨_,rfl,k _ _ kb same9 g10 ⟨dkb,la,upd_same,ats.up sS⟩ hkbH⟩
end
abbrev sReadMems:Stmt:=top 107
abbrev sReadField:Stmt:=top 108
abbrev sReadMeth:Stmt:=top 109
abbrev sOneAcc:Stmt:=top 110
abbrev sTextNum:Stmt:=top 111
abbrev sCkFirst:Stmt:=top 112
abbrev sCkValue:Stmt:=top 113
abbrev sValTag:Stmt:=top 114
theorem band (x y:Nat):Builtin.bitAnd (x:Int) (y:Int) = ((x &&& y:Nat):Int):=by
 rw [bitAnd_pp (by omega) (by omega)]
 rfl
inductive spOneAcc (vs:List V) (H:Hp) (Q:VK) (E:XK):Prop
 | mk (f:Nat) (_:vs = [.int (f:Int)]) (_:∀ H',Same H H'→Q (.bl (decide (CfFile.ofThese f [1,2,4] ≤ 1))) H')
theorem post_textOf (l:Pool) (i p z:Nat) (OK:List UInt8→Nat→Prop) (ER:Nat→Nat→Prop):Post (CfFile.textOf l i p) z OK ER = match CfFile.textAt l i with | some s=>OK s z | none=>ER 8 p:=by
 unfold CfFile.textOf
 cases CfFile.textAt l i <;> rfl
def tnP (b:List UInt8) (l:Pool):CfFile.P (Nat × List UInt8):=do
 let p ← CfFile.here
 let n ← CfFile.num b 2
 let s ← CfFile.textOf l n p
 return (n,s)
inductive spTN (A:Adr) (vs:List V) (H:Hp) (Q:VK) (E:XK):Prop
 | mk (S:Hp) (c q a:Addr) (b:List UInt8) (l:Pool) (p:Nat) (_:vs = [.ref c,.ref q]) (_:St A S H c a b p) (_:PoolAt A S q a b l) (_:Post (tnP b l) p (fun ns z=>∀ H',But [c] H H'→CurIs A H' c a z→CfFile.textAt l ns.1 = some ns.2→Q (.int (ns.1:Int)) H') (fun r e=>Fails A [c] H E r e))
def valueTag (t:List UInt8):Nat:=if t = CfFile.ascii "Ljava/lang/String;" then 8 else if t = [74] then 5 else if t = [70] then 4 else if t = [68] then 6 else if t.length = 1 then 3 else 0
theorem valueTags_eq (t:List UInt8):CfFile.valueTags t = if valueTag t = 0 then [] else [valueTag t]:=by
 unfold CfFile.valueTags valueTag
 by_cases h1:t = [74]
 ·subst h1; decide +kernel
 by_cases h2:t = [70]
 ·subst h2; decide +kernel
 by_cases h3:t = [68]
 ·subst h3; decide +kernel
 by_cases h4:t = CfFile.ascii "Ljava/lang/String;"
 ·subst h4; decide +kernel
 rw [if_neg h1,if_neg h2,if_neg h3,if_neg h4,if_neg h4,if_neg h1,if_neg h2,if_neg h3]
 by_cases h5:t.length = 1
 ·rw [if_pos h5,if_pos h5]; rfl
 ·rw [if_neg h5,if_neg h5]; rfl
theorem tag_pos {b:List UInt8} {p:Nat} {c:CfFile.Const} (h:OkC b p c):c.tag ≠ 0:=by
 cases c with
 | word k x=>show k ≠ 0; rcases h with rfl | rfl <;> decide
 | wide k x=>show k ≠ 0; rcases h with rfl | rfl <;> decide
 | member k x y=>show k ≠ 0; rcases h with rfl | rfl | rfl <;> decide
 | text s=>exact (by decide:(1:Nat) ≠ 0)
 | class_ s=>exact (by decide:(7:Nat) ≠ 0)
 | string s=>exact (by decide:(8:Nat) ≠ 0)
 | named s t=>exact (by decide:(12:Nat) ≠ 0)
 | handle s t=>exact (by decide:(15:Nat) ≠ 0)
 | type_ s=>exact (by decide:(16:Nat) ≠ 0)
 | site s t=>exact (by decide:(18:Nat) ≠ 0)
theorem value_fits {b:List UInt8} {l:Pool} (ok:AllOk b l) (n:Nat) (t:List UInt8):(match CfFile.constAt l n with | some c=>(CfFile.valueTags t).contains c.tag | none=>false) = ((tagAt l n != 0) && (tagAt l n == valueTag t)):=by
 unfold tagAt
 rw [valueTags_eq]
 cases e:CfFile.constAt l n with
 | none=>rfl
 | some c =>
  obtain ⟨p,hp⟩:=constAt_iff.mp e
  have:=tag_pos (ok n p c hp)
  dsimp only
  rw [show (c.tag != 0) = true from bne_iff_ne.mpr this,Bool.true_and]
  by_cases h:valueTag t = 0
  ·rw [if_pos h,h]
   simp [this]
  ·rw [if_neg h]
   simp
   rfl
inductive spCV (A:Adr) (vs:List V) (H:Hp) (Q:VK) (E:XK):Prop
 | mk (S:Hp) (q a kf la:Addr) (b:List UInt8) (l:Pool) (xs:List CfFile.Attr) (dk:Addr) (p d:Nat) (fl nm bo:V) (t:List UInt8) (z:Nat) (_:vs = [.ref q,.ref kf]) (_:PoolAt A S q a b l) (_:Same S H) (_:H kf = some (.ins A.cMem dk (kMem.zip [.int (p:Int),fl,nm,.int (d:Int),.ref la,bo]))) (_:AtsAt A S la xs) (_:(∀ x ∈ xs,AOk b l x)) (_:xs.length ≤ 65535) (_:CfFile.textAt l d = some t) (_:Post (do CfFile.must (decide ((xs.filter fun x=>CfFile.named l x "ConstantValue").length ≤ 1)) CfFile.TWICE p; CfFile.forEach (CfFile.constantValue b l t) (xs.filter fun x=>CfFile.named l x "ConstantValue")) z (fun _ _=>∀ H',Same H H'→Q .non H') (fun r e=>Fails A [] H E r e))
def bk (s:List UInt8):List Key:=s.map fun c=>Sum.inl (c.toNat:Int)
theorem bk_bv (s:List UInt8):(bk s).map kV = bv s:=by
 unfold bk bv
 rw [List.map_map]
 rfl
theorem bk_inj:∀ {s t:List UInt8},bk s = bk t→s = t
 | [],[],_=>rfl
 | [],_ :: _,h=>by cases h
 | _ :: _,[],h=>by cases h
 | c :: s,d :: t,h=>by
  have h1:(Sum.inl (c.toNat:Int):Key) = Sum.inl (d.toNat:Int):=(List.cons.inj h).1
  have h2:bk s = bk t:=(List.cons.inj h).2
  rw [bk_inj h2]
  congr 1
  injection h1 with h1
  exact toNat_inj (by omega)
def mk2 (m:CfFile.Member):Key2:=(bk m.name,bk m.type_)
theorem hasK_before (prev:List CfFile.Member) (s t:List UInt8):hasK (prev.map mk2) (bk s,bk t) = CfFile.before prev s t:=by
 unfold hasK CfFile.before
 rw [List.any_map]
 congr 1
 funext m
 show decide (mk2 m = (bk s,bk t)) = (m.name == s && m.type_ == t)
 by_cases h:m.name = s∧m.type_ = t
 ·rw [decide_eq_true (by unfold mk2; rw [h.1,h.2]),h.1,h.2]; simp
 ·rw [decide_eq_false fun z=>h ⟨bk_inj (congrArg Prod.fst z),bk_inj (congrArg Prod.snd z)⟩]
  symm
  rw [Bool.and_eq_false_iff]
  by_cases h1:m.name = s
  ·exact .inr (beq_eq_false_iff_ne.mpr fun z=>h ⟨h1,z⟩)
  ·exact .inl (beq_eq_false_iff_ne.mpr h1)
inductive spCF (A:Adr) (P:Program) (w:World) (vs:List V) (H:Hp) (Q:VK) (E:XK):Prop
 | mk (S:Hp) (q a km d dk:Addr) (b:List UInt8) (l:Pool) (p n dd:Nat) (fl v1 v2:V) (s t:List UInt8) (ks:List Key2) (_:vs = [.ref q,.ref km,.ref d]) (_:PoolAt A S q a b l) (_:Same S H) (_:H km = some (.ins A.cMem dk (kMem.zip [.int (p:Int),fl,.int (n:Int),.int (dd:Int),v1,v2]))) (_:CfFile.textAt l n = some s) (_:CfFile.textAt l dd = some t) (_:SeenAt P w H d ks) (_:ks.length < 70000) (_:d ≠ km) (_:if (!hasK ks (bk s,bk t)) = true then ∀ H',But [d] H H'→SeenAt P w H' d (ks ++ [(bk s,bk t)])→Q .non H' else Fails A [] H E 13 p)
section
variable {P:Program} {w:World} {K:PySem.W.Frag} {mg:Str→Option Value} {base:Heap} {A:Adr}
theorem scOneAcc:FnScope ["flags"] ["flags"] (defScope sOneAcc):=scB
theorem d_oneAcc (T:Txt K mg A) (src:Src K "has_one_access" sOneAcc):Def P w K mg base 1 "has_one_access" ["flags"] spOneAcc:=by
 refine defR src T.kx scOneAcc (fun vs H Q E h=>?_) (fun f cdv A' outer s H vs Q E hr h=>?_)
 ·obtain ⟨f,rfl,_⟩:=h
  rfl
 obtain ⟨fl,rfl,k⟩:=h
 refine ⟨_,pss_one (ps_ret (pe_cmpR op_in_seq (pe_op op_and (pv 0) pe_int) (pe_tup (pa_cons pe_int (pa_cons pe_int (pa_cons pe_int (pa_cons pe_int pa_nil))))) rfl)),?_⟩
 refine ⟨_,rfl,_,_,rfl,rfl,Nat.le_of_lt (szl (by decide:4 ≤ 70000)),fun t ht=>⟨t,_,rfl,.inr (SqT.of upd_same),rfl,rfl,?_⟩⟩
 have e:inV (.int (Builtin.bitAnd (fl:Int) 7)) [.int 0,.int 1,.int 2,.int 4] = decide (CfFile.ofThese fl [1,2,4] ≤ 1):=by
  rw [show Builtin.bitAnd (fl:Int) 7 = ((fl &&& 7:Nat):Int) from band fl 7,one_access]
  have:=in_ints (fl &&& 7) [0,1,2,4]
  rw [show inV (.int ((fl &&& 7:Nat):Int)) [.int 0,.int 1,.int 2,.int 4] = _ from this]
  simp only [List.any_cons,List.any_nil,Bool.or_false,Bool.beq_comm (a:=(0:Nat)),Bool.beq_comm (a:=(1:Nat)),Bool.beq_comm (a:=(2:Nat)),Bool.beq_comm (a:=(4:Nat)),Bool.or_assoc]
 show Q (.bl (inV (.int (Builtin.bitAnd (fl:Int) 7)) [.int 0,.int 1,.int 2,.int 4])) _
 rw [e]
 exact k _ (same_new ht)
theorem scTextNum:FnScope ["cursor","pool","place","number"] ["cursor","pool"] (defScope sTextNum):=scB
theorem d_textNum (T:Txt K mg A) (src:Src K "read_text_number" sTextNum) (L:Lib P w K mg base A):Def P w K mg base 6 "read_text_number" ["cursor","pool"] (spTN A):=by
 refine defR src T.kx scTextNum (fun vs H Q E h=>?_) (fun f cdv A' outer s H vs Q E hr h=>?_)
 ·obtain ⟨S,c,q,a,b,l,p,rfl,_⟩:=h
  rfl
 obtain ⟨S,c,q,a,b,l,p,rfl,st,po,k⟩:=h
 have ⟨dx,hc⟩:=st.cu
 refine ⟨_,pss_cons (ps_set (i:=2) scTextNum.nd rfl (Or.inl rfl) (pe_fld (pv 0) rfl))
  (pss_cons (ps_set (i:=3) scTextNum.nd rfl (Or.inl rfl) (pe_md L.uns (pv 0) T.cur.cl hr passR (pa_cons pe_int pa_nil)))
  (pss_cons (ps_expr (pe_d L.dem (rm hr) rfl passR (pa_cons (pe_md L.txt (pv 1) T.poo.cl (rm hr) passR (pa_cons (pv 3) pa_nil)) (pa_cons pe_int (pa_cons (pv 2) pa_nil)))))
  (pss_one (ps_ret (pv 3))))),?_⟩
 unfold tnP at k
 simp only [post_bind,post_here,post_pure] at k
 exists _,z0
 refine ⟨_,rfl,fldgo (fun _ _=>_) T.cur hc (i:=1) rfl rfl ?_⟩
 exists z0,z0
 refine ⟨_,rfl,methgo hc (by decide +kernel) ⟨c,a,b,p,2,rfl,st.cu,st.list,unsif st (But.refl _ _) k fun H1 _ b1 st1 hle k=>?_⟩⟩
 generalize big b p 2 = N at k
 obtain ⟨dq,cl,hq⟩:=po.hq st1.le
 exists z0,z0
 refine ⟨_,rfl,methgo hq (by decide +kernel) ⟨_,rfl,S,q,a,b,l,N,rfl,po,st1.le,_,rfl,_,_,_,rfl,?_⟩⟩
 rw [post_textOf] at k
 rw [← textAt_tag po.ok]
 cases ht:CfFile.textAt l N with
 | none =>
  rw [ht] at k
  exact Fails.now k b1
 | some t =>
  rw [ht] at k
  exists z0
  exact ⟨_,rfl,k H1 b1 st1.cu rfl⟩
theorem scValTag:FnScope ["descriptor"] ["descriptor"] (defScope sValTag):=scB
theorem d_valTag (T:Txt K mg A) (src:Src K "value_tag" sValTag) (L:Lib P w K mg base A):Def P w K mg base 2 "value_tag" ["descriptor"] (spRow fun t=>.int (valueTag t:Int)):=by
 refine defR src T.kx scValTag (fun vs H Q E h=>h.len) (fun f cdv A' outer s H vs Q E hr h=>?_)
 obtain ⟨a,t,rfl,ha,k⟩:=h
 try dsimp only at k
 refine ⟨_,pss_cons (ps_if (pt_cmpR (op_eqB hr.units) (pv 0) (pe_d L.rof hr rfl passR (pa_cons pe_str pa_nil)) (nomark _)) (pss_one (ps_ret (pe_gi T.g_STRING rfl))) pss_nil)
  (pss_cons (ps_if (pt_cmpR (op_eqB hr.units) (pv 0) (pe_d L.rof hr rfl passR (pa_cons pe_str pa_nil)) (nomark _)) (pss_one (ps_ret (pe_gi T.g_LONG rfl))) pss_nil)
  (pss_cons (ps_if (pt_cmpR (op_eqB hr.units) (pv 0) (pe_d L.rof hr rfl passR (pa_cons pe_str pa_nil)) (nomark _)) (pss_one (ps_ret (pe_gi T.g_FLOATING rfl))) pss_nil)
  (pss_cons (ps_if (pt_cmpR (op_eqB hr.units) (pv 0) (pe_d L.rof hr rfl passR (pa_cons pe_str pa_nil)) (nomark _)) (pss_one (ps_ret (pe_gi T.g_DOUBLE rfl))) pss_nil)
  (pss_one (ps_ret (pe_ifExp (pt_cmpR op_eq (pe_callB call_len_seq (by rfl) T.nLen PySem.boot_len (pa_cons (pv 0) pa_nil)) pe_int (nomark _)) (pe_gi T.g_INTEGER rfl) pe_int)))))),?_⟩
 unfold valueTag at k
 exists _,z0
 refine ⟨_,rfl,_,rfl,(by decide +kernel),fun H1 p1 s1 hp1=>⟨a,p1,t,CfFile.ascii "Ljava/lang/String;",rfl,rfl,s1 _ _ ha,?_,_,rfl,?_⟩⟩
 ·rw [hp1,show cv "Ljava/lang/String;" = bv (CfFile.ascii "Ljava/lang/String;") by decide +kernel]
 by_cases h1:t = CfFile.ascii "Ljava/lang/String;"
 ·rw [if_pos h1] at k
  rw [decide_eq_true h1]
  exact k H1 s1
 rw [if_neg h1] at k
 rw [decide_eq_false h1]
 exists z0,z0
 refine ⟨_,rfl,_,rfl,(by decide +kernel),fun H2 p2 s2 hp2=>⟨a,p2,t,[74],rfl,rfl,(s1.trans s2) _ _ ha,?_,_,rfl,?_⟩⟩
 ·rw [hp2,show cv "J" = bv [74] by decide +kernel]
 by_cases h2:t = [74]
 ·rw [if_pos h2] at k
  rw [decide_eq_true h2]
  exact k H2 (s1.trans s2)
 rw [if_neg h2] at k
 rw [decide_eq_false h2]
 have s12:=s1.trans s2
 exists z0,z0
 refine ⟨_,rfl,_,rfl,(by decide +kernel),fun H3 p3 s3 hp3=>⟨a,p3,t,[70],rfl,rfl,(s12.trans s3) _ _ ha,?_,_,rfl,?_⟩⟩
 ·rw [hp3,show cv "F" = bv [70] by decide +kernel]
 have s13:=s12.trans s3
 by_cases h3:t = [70]
 ·rw [if_pos h3] at k
  rw [decide_eq_true h3]
  exact k H3 s13
 rw [if_neg h3] at k
 rw [decide_eq_false h3]
 exists z0,z0
 refine ⟨_,rfl,_,rfl,(by decide +kernel),fun H4 p4 s4 hp4=>⟨a,p4,t,[68],rfl,rfl,(s13.trans s4) _ _ ha,?_,_,rfl,?_⟩⟩
 ·rw [hp4,show cv "D" = bv [68] by decide +kernel]
 have s14:=s13.trans s4
 by_cases h4:t = [68]
 ·rw [if_pos h4] at k
  rw [decide_eq_true h4]
  exact k H4 s14
 rw [if_neg h4] at k
 rw [decide_eq_false h4]
 exists z0
 refine ⟨_,rfl,a,_,rfl,.inl (SqL.of (s14 _ _ ha)),rfl,_,rfl,?_⟩
 rw [bv_len,show decide (V.int (t.length:Int) = V.int 1) = (t.length == 1) from dec_nat t.length 1]
 by_cases h5:t.length = 1
 ·rw [if_pos h5] at k
  rw [show (t.length == 1) = true from beq_iff_eq.mpr h5]
  exact k H4 s14
 ·rw [if_neg h5] at k
  rw [show (t.length == 1) = false from beq_eq_false_iff_ne.mpr h5]
  exact k H4 s14
theorem scCkFirst:FnScope ["pool","member","seen","key"] ["pool","member","seen"] (defScope sCkFirst):=scB
theorem d_ckFirst (T:Txt K mg A) (src:Src K "check_first" sCkFirst) (L:Lib P w K mg base A):Def P w K mg base 4 "check_first" ["pool","member","seen"] (spCF A P w):=by
 refine defR src T.kx scCkFirst (fun vs H Q E h=>?_) (fun f cdv A' outer sh H vs Q E hr h=>?_)
 ·obtain ⟨S,q,a,km,d,dk,b,l,p,n,dd,fl,v1,v2,s,t,ks,rfl,_⟩:=h
  rfl
 obtain ⟨S,q,a,km,d,dk,b,l,p,n,dd,fl,v1,v2,s,t,ks,rfl,po,le,hkm,hs,ht,se,hks,ndk,k⟩:=h
 obtain ⟨dq,cl,hq⟩:=po.hq le
 have hu:(cxOf (CXR P w) P w K mg base ["pool","member","seen","key"] "check_first" (defScope sCkFirst) f cdv A' outer sh H E).A.units + 2 < cLine:=by
  have z:=hr.units
  exact Nat.lt_of_le_of_lt (Nat.add_le_add_left (by decide) _) z
 refine ⟨_,pss_cons (ps_set (i:=3) scCkFirst.nd rfl (Or.inl rfl) (pe_tup (pa_cons (pe_callTy call_tuple_of (by rfl) T.nTup PyProof.Rows.boot_tuple (pa_cons (pe_md L.row (pv 0) T.poo.cl (rm hr) passR (pa_cons (pe_fld (pv 1) rfl) pa_nil)) pa_nil))
   (pa_cons (pe_callTy call_tuple_of (by rfl) T.nTup PyProof.Rows.boot_tuple (pa_cons (pe_md L.row (pv 0) T.poo.cl (rm hr) passR (pa_cons (pe_fld (pv 1) rfl) pa_nil)) pa_nil)) pa_nil))))
  (pss_cons (ps_expr (pe_d L.dem hr rfl passR (pa_cons (pe_cmp (pc_pnotin hu (pv 3) (pv 2))) (pa_cons pe_int (pa_cons (pe_fld (pv 1) rfl) pa_nil)))))
  (pss_one (ps_pput hu (pv 2) (pv 3) pe_bl rfl))),?_⟩
 exists _,z0
 refine ⟨_,rfl,methgo hq (by decide +kernel) ⟨_,rfl,fldgo (fun _ _=>_) T.mem hkm (i:=2) rfl rfl ⟨S,q,a,b,l,n,s,rfl,po,le,hs,fun H1 r s1 _ hr1=>⟨r,_,rfl,.inl ⟨SqL.of hr1,fun t1 ht1=>?_⟩⟩⟩⟩⟩
 have s2:=s1.trans (same_new (o:=.tup (bv s)) ht1)
 refine ⟨_,rfl,methgo (s2 _ _ hq) (by decide +kernel) ⟨_,rfl,fldgo (fun _ _=>_) T.mem (s2 _ _ hkm) (i:=3) rfl rfl ⟨S,q,a,b,l,dd,t,rfl,po,le.trans s2,ht,fun H3 r3 s3 _ hr3=>⟨r3,_,rfl,.inl ⟨SqL.of hr3,fun t2 ht2=>?_⟩⟩⟩⟩⟩
 have s4:=s3.trans (same_new (o:=.tup (bv t)) ht2)
 refine ⟨Nat.le_of_lt (szl (by decide:2 ≤ 70000)),fun ky hky=>?_⟩
 have s5:=s4.trans (same_new (o:=.tup [.ref t1,.ref t2]) hky)
 have s25:=s2.trans s5
 have e1:(upd (upd H3 t2 (.tup (bv t))) ky (.tup [.ref t1,.ref t2])) t1 = some (.tup (bv s)):=s5 _ _ upd_same
 have e2:(upd (upd H3 t2 (.tup (bv t))) ky (.tup [.ref t1,.ref t2])) t2 = some (.tup (bv t)):=(same_new hky) _ _ upd_same
 have e0:(upd (upd H3 t2 (.tup (bv t))) ky (.tup [.ref t1,.ref t2])) ky = some (.tup [.ref t1,.ref t2]):=upd_same
 generalize upd (upd H3 t2 (.tup (bv t))) ky (.tup [.ref t1,.ref t2]) = H5 at *
 have pa:PairAt H5 (bk s,bk t) ky:=⟨t1,t2,e0,by rw [bk_bv]; exact e1,by rw [bk_bv]; exact e2⟩
 have se5:SeenAt P w H5 d ks:=let ⟨xs,h1,h2,h3⟩:=se; ⟨xs,s25 _ _ h1,h2,fun x hx=>(h3 x hx).up fun c ys ec=>s25 _ _ ec⟩
 exists z0,z0
 refine ⟨_,rfl,_,rfl,d,ks,(bk s,bk t),ky,rfl,rfl,se5,pa,_,rfl,fldgo (fun _ _=>_) T.mem (s25 _ _ hkm) (i:=0) rfl rfl ⟨_,_,_,rfl,?_⟩⟩
 cases hk:hasK ks (bk s,bk t) with
 | true =>
  rw [hk] at k
  exact Fails.same k s25
 | false =>
  rw [hk] at k
  exists z0
  refine ⟨_,rfl,_,rfl,d,ks,(bk s,bk t),ky,rfl,rfl,se5,pa,hk,szl (by omega),fun H6 keep se6=>?_⟩
  exact k H6 (fun x o e nx=>by rw [keep x (by simpa using nx)]; exact s25 _ _ e) se6
end
theorem drop_cons {α:Type} {l:List α} {i:Nat} {o:α} (ho:l[i]? = some o):l.drop i = o :: l.drop (i + 1):=by
 have hlt:i < l.length:=by
  by_cases h:i < l.length
  ·exact h
  ·rw [List.getElem?_eq_none (by omega)] at ho; cases ho
 rw [List.drop_eq_getElem_cons hlt]
 congr 1
 rw [List.getElem?_eq_getElem hlt] at ho
 exact Option.some.inj ho
theorem post_cv {b:List UInt8} {l:Pool} (ok:AllOk b l) (t:List UInt8) (x:CfFile.Attr) (z:Nat) (OK:Unit→Nat→Prop) (ER:Nat→Nat→Prop):Post (CfFile.constantValue b l t x) z OK ER =
  if (x.len == 2) = true then (if ((tagAt l (big b x.place 2) != 0) && (tagAt l (big b x.place 2) == valueTag t)) = true then OK () z else ER 8 x.place) else ER 14 x.place:=by
 unfold CfFile.constantValue
 rw [post_bind,post_must]
 split
 ·rw [post_must]
  exact congrArg (fun c=>if c = true then OK () z else ER 8 x.place) (value_fits ok (big b x.place 2) t)
 ·rfl
section
variable {P:Program} {w:World} {K:PySem.W.Frag} {mg:Str→Option Value} {base:Heap} {A:Adr}
theorem scCkValue:FnScope ["pool","field","values","value","number","tag"] ["pool","field"] (defScope sCkValue):=scB
theorem d_ckValue (T:Txt K mg A) (src:Src K "check_value" sCkValue) (L:Lib P w K mg base A) (Dn:Def P w K mg base 2 "attributes_named" ["attributes","pool","word"] (spNamedA A)) (Dv:Def P w K mg base 2 "value_tag" ["descriptor"] (spRow fun t=>.int (valueTag t:Int))) :
  Def P w K mg base 6 "check_value" ["pool","field"] (spCV A):=by
 refine defR src T.kx scCkValue (fun vs H Q E h=>?_) (fun f cdv A' outer s H vs Q E hr h=>?_)
 ·obtain ⟨S,q,a,kf,la,b,l,xs,dk,p,d,fl,nm,bo,t,z,rfl,_⟩:=h
  rfl
 obtain ⟨S,q,a,kf,la,b,l,xs,dk,p,d,fl,vn,bo,t,z,rfl,po,le,hkf,ats,nm,hlx,ht,k⟩:=h
 obtain ⟨dq,cl,hq⟩:=po.hq le
 refine ⟨_,pss_cons (ps_set (i:=2) scCkValue.nd rfl (Or.inl rfl) (pe_d Dn (rm hr) rfl passR (pa_cons (pe_fld (pv 1) rfl) (pa_cons (pv 0) (pa_cons pe_str pa_nil)))))
  (pss_cons (ps_expr (pe_d L.dem (rm hr) rfl passR (pa_cons (pe_cmpR op_le (pe_callB call_len_seq (by rfl) T.nLen PySem.boot_len (pa_cons (pv 2) pa_nil)) pe_int (nomark _)) (pa_cons pe_int (pa_cons (pe_fld (pv 1) rfl) pa_nil)))))
  (pss_one (ps_for ownR rfl (pi_list (pv 2)) (pg_name (i:=3) scCkValue.nd rfl (Or.inl rfl))
   (pss_cons (ps_expr (pe_d L.dem (rm hr) rfl passR (pa_cons (pe_cmpR op_eq (pe_fld (pv 3) rfl) pe_int (nomark _)) (pa_cons pe_int (pa_cons (pe_fld (pv 3) rfl) pa_nil)))))
   (pss_cons (ps_set (i:=4) scCkValue.nd rfl (Or.inl rfl) (pe_md L.uns (pe_mk L.iCur T.mCur.mak T.mCur.kp (rm hr) rfl T.mCur.g passR (pa_cons (pe_fld (pv 0) rfl) (pa_cons (pe_fld (pv 3) rfl) pa_nil))) T.cur.cl hr passR (pa_cons pe_int pa_nil)))
   (pss_cons (ps_set (i:=5) scCkValue.nd rfl (Or.inl rfl) (pe_md L.tag (pv 0) T.poo.cl (rm hr) passR (pa_cons (pv 4) pa_nil)))
   (pss_one (ps_expr (pe_d L.dem (rm hr) rfl passR (pa_cons (pe_and (pe_cmpR op_ne (pv 5) pe_int (nomark _)) (pe_one (pe_cmpR op_eq (pv 5) (pe_d Dv (rm hr) rfl passR (pa_cons (pe_md L.row (pv 0) T.poo.cl (rm hr) passR (pa_cons (pe_fld (pv 1) rfl) pa_nil)) pa_nil)) (nomark _)))) (pa_cons pe_int (pa_cons (pe_fld (pv 3) rfl) pa_nil)))))))))))),?_⟩
 simp only [post_bind] at k
 exists _,z0
 refine ⟨_,rfl,fldgo (fun _ _=>_) T.mem hkf (i:=4) rfl rfl ⟨_,rfl,S,la,q,a,b,l,xs,"ConstantValue",CfFile.ascii "ConstantValue",rfl,ats,po,le,nm,hlx,(by decide +kernel),(by decide +kernel),fun H1 D ks s1 hD eD pr=>?_⟩⟩
 have pr:Paired (fun k x=>AtAt A S k x) ks (xs.filter fun x=>CfFile.named l x "ConstantValue"):=pr
 have hin:∀ y ∈ xs.filter (fun x=>CfFile.named l x "ConstantValue"),AOk b l y:=fun y hy=>nm y (List.mem_filter.mp hy).1
 generalize xs.filter (fun x=>CfFile.named l x "ConstantValue") = ys at k pr hin
 have hlen:=paired_lenA pr
 exists z0,z0
 refine ⟨_,rfl,D,_,rfl,.inl (SqL.of eD),_,_,rfl,rfl,_,rfl,fldgo (fun _ _=>_) T.mem (s1 _ _ hkf) (i:=0) rfl rfl ⟨_,_,_,rfl,demif (Same.but s1) k rfl rfl ?_ fun h1 k=>?_⟩⟩
 ·rw [List.length_map,hlen,decide_eq_decide]; omega
 exists z0
 refine ⟨_,rfl,D,rfl,⟨_,SqL.of eD⟩,for_list (K:=K) (a:=D) (xs:=ks.map V.ref) (fun i σ H'=>∃ (v1 v2 v3:Option V) (z:Nat),σ = [some (.ref q),some (.ref kf),some (.ref D),v1,v2,v3]∧Same H1 H' ∧
  Post (CfFile.forEach (CfFile.constantValue b l t) (ys.drop i)) z (fun _ _=>∀ H',Same H H'→Q .non H') (fun r e=>Fails A [] H E r e)) ⟨none,none,none,_,rfl,same_refl H1,k⟩ (fun i σ H' _ ⟨_,_,_,_,_,s5,_⟩=>SqL.of (s5 _ _ eD)) ?_ ?_⟩
 ·rintro i y σ H2 hi ⟨v1,v2,v3,z,rfl,s2,k⟩
  rw [List.getElem?_map] at hi
  obtain ⟨kk,hkk,rfl⟩:=Option.map_eq_some_iff.mp hi
  obtain ⟨x0,hx0,ax⟩:=paired_at pr hkk
  obtain ⟨dk',hk⟩:=ax
  have s12:=s1.trans s2
  have hk2:=s12 _ _ (le _ _ hk)
  have ok0:=hin x0 (List.mem_of_getElem? hx0)
  rw [drop_cons hx0] at k
  unfold CfFile.forEach at k
  rw [post_bind] at k
  rw [post_cv po.ok] at k
  refine ⟨_,rfl,fldgo (fun _ _=>_) T.att hk2 (i:=2) rfl rfl ⟨rfl,_,rfl,fldgo (fun _ _=>_) T.att hk2 (i:=1) rfl rfl ⟨_,_,_,rfl,demif2 (Same.but s12) k rfl rfl (dec_nat _ 2) fun hsz k=>?_⟩⟩⟩
  have hsz:x0.len = 2:=beq_iff_eq.mp hsz
  refine ⟨_,rfl,fldgo (fun _ _=>_) T.poo (s12 _ _ hq) (i:=0) rfl rfl ⟨_,rfl,fldgo (fun _ _=>_) T.att hk2 (i:=1) rfl rfl ?_⟩⟩
  refine makeR (C:=A.cCur) (ks:=kCur) (us:=[.ref a,.int (x0.place:Int)]) rfl fun H3 c dc s3 hcn hc3=>?_
  refine methgo hc3 (by decide +kernel) ⟨c,a,b,x0.place,2,rfl,⟨dc,hc3⟩,(s12.trans s3) _ _ (le _ _ po.ct),?_⟩
  rw [if_pos (by have:=ok0.2; omega)]
  intro H4 b4 cu4
  have s34:Same H2 H4:=but_cut s3 hcn b4
  have s14:=s12.trans s34
  refine ⟨_,rfl,methgo (s14 _ _ hq) (by decide +kernel) ⟨_,rfl,S,q,a,b,l,big b x0.place 2,rfl,po,le.trans s14,?_⟩⟩
  refine ⟨_,rfl,rfl,_,rfl,?_⟩
  rw [show (!decide (V.int (tagAt l (big b x0.place 2):Int) = V.int 0)) = (tagAt l (big b x0.place 2) != 0) by rw [show decide (V.int (tagAt l (big b x0.place 2):Int) = V.int 0) = (tagAt l (big b x0.place 2) == 0) from dec_nat _ 0]; rfl]
  cases h0:(tagAt l (big b x0.place 2) != 0) with
  | false =>
   rw [h0] at k
   exact ⟨_,rfl,fldgo (fun _ _=>_) T.att (s34 _ _ hk2) (i:=1) rfl rfl ⟨_,_,_,rfl,demif2 (Same.but s14) k rfl rfl rfl fun h _=>by cases h⟩⟩
  | true =>
   rw [h0,Bool.true_and] at k
   refine ⟨_,rfl,_,rfl,methgo (s14 _ _ hq) (by decide +kernel) ⟨_,rfl,fldgo (fun _ _=>_) T.mem (s14 _ _ hkf) (i:=3) rfl rfl ⟨S,q,a,b,l,d,t,rfl,po,le.trans s14,ht,fun H5 r s5 _ hr5=>⟨r,t,rfl,hr5,fun H6 s6=>⟨rfl,?_⟩⟩⟩⟩⟩
   have s46:=s5.trans s6
   have s16:=s14.trans s46
   refine ⟨_,rfl,fldgo (fun _ _=>_) T.att ((s34.trans s46) _ _ hk2) (i:=1) rfl rfl ⟨_,_,_,rfl,demif2 (Same.but s16) k rfl rfl (dec_nat _ _) fun _ k=>?_⟩⟩
   exact ⟨_,_,_,_,rfl,(s2.trans s34).trans s46,k⟩
 ·rintro σ H2 ⟨v1,v2,v3,z,rfl,s2,k⟩
  rw [List.length_map,hlen,List.drop_length] at k
  exact k H2 (s1.trans s2)
end
inductive spMem (A:Adr) (P:Program) (w:World) (g:List UInt8→Pool→List CfFile.Member→CfFile.P CfFile.Member) (vs:List V) (H:Hp) (Q:VK) (E:XK):Prop
 | mk (S:Hp) (c q a d:Addr) (b:List UInt8) (l:Pool) (p:Nat) (prev:List CfFile.Member) (_:vs = [.ref c,.ref q,.ref d]) (_:St A S H c a b p) (_:PoolAt A S q a b l) (_:S d = none) (_:d ≠ c) (_:SeenAt P w H d (prev.map mk2)) (_:prev.length < 65536) (_:Post (g b l prev) p (fun m z=>∀ H' S1 k,But [c,d] H H'→Grow S H S1 H'→CurIs A H' c a z→SeenAt P w H' d ((prev ++ [m]).map mk2)→MeAt A S1 l k m→Q (.ref k) H') (fun r e=>Fails A [c,d] H E r e))
theorem spMem.len {A:Adr} {P:Program} {w:World} {g:List UInt8→Pool→List CfFile.Member→CfFile.P CfFile.Member} {vs:List V} {H:Hp} {Q:VK} {E:XK} (h:spMem A P w g vs H Q E):vs.length = (["cursor","pool","seen"]:List Str).length:=by
 obtain ⟨S,c,q,a,d,b,l,p,prev,rfl,_⟩:=h
 rfl
theorem seen_same {P:Program} {w:World} {H H':Hp} {d:Addr} {ks:List Key2} (se:SeenAt P w H d ks) (s:Same H H'):SeenAt P w H' d ks :=
 let ⟨xs,h1,h2,h3⟩:=se; ⟨xs,s _ _ h1,h2,fun x hx=>(h3 x hx).up fun c ys ec=>s _ _ ec⟩
theorem seen_but {A:Adr} {P:Program} {w:World} {H H':Hp} {c a d:Addr} {p:Nat} {ks:List Key2} (se:SeenAt P w H d ks) (b:But [c] H H') (cu:CurIs A H c a p) (nd:d ≠ c):SeenAt P w H' d ks:=by
 obtain ⟨xs,h1,h2,h3⟩:=se
 obtain ⟨dx,hc⟩:=cu
 exact ⟨xs,b _ _ h1 (by simpa using nd),h2,fun x hx=>(h3 x hx).up fun z ys ec=>b _ _ ec (by simpa using ne_of ec hc (fun z=>nomatch z))⟩
theorem seen_at {P:Program} {w:World} {H:Hp} {d x:Addr} {o:HO} {ks:List Key2} (se:SeenAt P w H d ks) (nd:d ≠ x) {C dx:Addr} {fs:List (Str × V)} (hx:H x = some (.ins C dx fs)):SeenAt P w (upd H x o) d ks:=by
 obtain ⟨xs,h1,h2,h3⟩:=se
 exact ⟨xs,by rw [upd_ne nd]; exact h1,h2,fun y hy=>(h3 y hy).up fun z ys ec=>by rw [upd_ne (ne_of ec hx (fun z=>nomatch z))]; exact ec⟩
theorem seen_has {P:Program} {w:World} {H:Hp} {d:Addr} {ks:List Key2} (se:SeenAt P w H d ks):(H d).isSome = true:=let ⟨_,h,_⟩:=se; isSome_of h
theorem but2' {c d:Addr} {H H1:Hp} (b:But [d] H H1):But [c,d] H H1:=b.mono fun x h=>by rw [List.mem_singleton.mp h]; simp
theorem dom_but2 {c d:Addr} {H H1:Hp} (b:But [c,d] H H1) (hc:(H1 c).isSome = true) (hd:(H1 d).isSome = true):Dom H H1:=fun y hy=>by
 by_cases z:y = c
 ·rw [z]; exact hc
 ·by_cases z2:y = d
  ·rw [z2]; exact hd
  ·obtain ⟨u,e⟩:=some_isSome hy
   exact isSome_of (b y u e (by simp [z,z2]))
def Keeps {α:Type} (f:CfFile.P α):Prop:=∀ z OK ER,Post f z OK ER→Post f z (fun x q=>q = z∧OK x q) ER
theorem keeps_must (c:Bool) (r e:Nat):Keeps (CfFile.must c r e):=fun z OK ER k=>by
 rw [post_must] at k ⊢
 split at k
 ·rename_i h; rw [if_pos h]; exact ⟨rfl,k⟩
 ·rename_i h; rw [if_neg h]; exact k
theorem keeps_bind {α β:Type} {f:CfFile.P α} {g:α→CfFile.P β} (hf:Keeps f) (hg:∀ x,Keeps (g x)):Keeps (f >>= g):=fun z OK ER k=>by
 rw [post_bind] at k ⊢
 refine (hf z _ _ k).mono (fun x q h=>?_) (fun _ _ h=>h)
 obtain ⟨rfl,h⟩:=h
 exact hg x _ _ _ h
theorem keeps_pure {α:Type} (x:α):Keeps (pure x:CfFile.P α):=fun z OK ER k=>⟨rfl,k⟩
theorem keeps_fault {α:Type} (r e:Nat):Keeps (CfFile.fault r e:CfFile.P α):=fun z OK ER k=>k
theorem keeps_cv (b:List UInt8) (l:Pool) (t:List UInt8) (x:CfFile.Attr):Keeps (CfFile.constantValue b l t x):=by
 unfold CfFile.constantValue
 exact keeps_bind (keeps_must _ _ _) fun _=>keeps_must _ _ _
theorem keeps_each {α:Type} {f:α→CfFile.P Unit} (h:∀ x,Keeps (f x)):∀ xs,Keeps (CfFile.forEach f xs)
 | []=>keeps_pure ()
 | x :: r=>by unfold CfFile.forEach; exact keeps_bind (h x) fun _=>keeps_each h r
theorem keeps_holds (l:Pool) (p:Nat) (c:CfFile.Const):Keeps (CfFile.holds l p c):=by
 unfold CfFile.holds
 split
 ·exact keeps_pure ()
 ·exact keeps_pure ()
 ·exact keeps_pure ()
 ·split
  ·exact keeps_must _ _ _
  ·exact keeps_fault _ _
 ·exact keeps_must _ _ _
 ·split
  ·exact keeps_must _ _ _
  ·exact keeps_fault _ _
 ·split
  ·exact keeps_bind (keeps_must _ _ _) fun _=>keeps_must _ _ _
  ·exact keeps_fault _ _
 ·refine keeps_bind (keeps_must _ _ _) fun _=>?_
  split
  ·exact keeps_bind (keeps_must _ _ _) fun _=>keeps_must _ _ _
  ·exact keeps_fault _ _
 ·exact keeps_bind (keeps_must _ _ _) fun _=>keeps_must _ _ _
 ·split
  ·exact keeps_bind (keeps_must _ _ _) fun _=>keeps_must _ _ _
  ·exact keeps_fault _ _
theorem keeps_holdsAll (l:Pool):∀ r,Keeps (CfFile.holdsAll l r)
 | []=>keeps_pure ()
 | none :: r=>by unfold CfFile.holdsAll; exact keeps_holdsAll l r
 | some (p,c) :: r=>by unfold CfFile.holdsAll; exact keeps_bind (keeps_holds l p c) fun _=>keeps_holdsAll l r
theorem unsW {A:Adr} {W:List Addr} {S H0 H:Hp} {c a:Addr} {b:List UInt8} {p n:Nat} {OK:Nat→Nat→Prop} {R:Hp→Prop} {E:XK} (hW:c ∈ W) (st:St A S H c a b p) (bt:But W H0 H)
  (k:Post (CfFile.num b n) p OK (fun r e=>Fails A W H0 E r e)) (q:∀ H1,But [c] H H1→But W H0 H1→St A S H1 c a b (p + n)→p + n ≤ b.length→OK (big b p n) (p + n)→R H1) :
  if p + n ≤ b.length then ∀ H',But [c] H H'→CurIs A H' c a (p + n)→R H' else Fails A [] H E 1 p:=by
 rw [post_num] at k
 by_cases h:p + n ≤ b.length
 ·rw [if_pos h] at k ⊢
  exact fun H1 b1 cu=>q H1 b1 (bt.trans (b1.mono fun x hx=>by rw [List.mem_singleton.mp hx]; exact hW)) (st.step b1 cu) h k
 ·rw [if_neg h] at k ⊢
  exact k.now bt
theorem tnstep {b:List UInt8} {l:Pool} {p:Nat} {OK:Nat→List UInt8→Nat→Prop} {ER:Nat→Nat→Prop} (k:Post (CfFile.num b 2) p (fun n q=>Post (CfFile.textOf l n p) q (fun s q=>OK n s q) ER) ER) :
  Post (tnP b l) p (fun ns z=>z = p + 2∧OK ns.1 ns.2 z) ER:=by
 unfold tnP
 simp only [post_bind,post_here,post_pure]
 rw [post_num] at k ⊢
 split at k
 ·rename_i h
  rw [if_pos h]
  rw [post_textOf] at k ⊢
  cases e:CfFile.textAt l (big b p 2) with
  | none=>rw [e] at k; exact k
  | some t=>rw [e] at k; exact ⟨rfl,k⟩
 ·rename_i h
  rw [if_neg h]
  exact k
theorem post_un {α β:Type} {f:CfFile.P α} {g:α→CfFile.P β} {p:Nat} {OK:β→Nat→Prop} {ER:Nat→Nat→Prop} (k:Post f p (fun x q=>Post (g x) q OK ER) ER):Post (f >>= g) p OK ER:=by
 rw [post_bind]; exact k
structure Rdr (P:Program) (w:World) (K:PySem.W.Frag) (mg:Str→Option Value) (base:Heap) (A:Adr):Prop where
 ats:Def P w K mg base 7 "read_attributes" ["cursor","pool"] (spAttrs A)
 nam:Def P w K mg base 2 "attributes_named" ["attributes","pool","word"] (spNamedA A)
 bod:Def P w K mg base 8 "read_body" ["pool","attribute"] (spBody A)
 acc:Def P w K mg base 1 "has_one_access" ["flags"] spOneAcc
 tnu:Def P w K mg base 6 "read_text_number" ["cursor","pool"] (spTN A)
 fir:Def P w K mg base 4 "check_first" ["pool","member","seen"] (spCF A P w)
 val:Def P w K mg base 6 "check_value" ["pool","field"] (spCV A)
section
variable {P:Program} {w:World} {K:PySem.W.Frag} {mg:Str→Option Value} {base:Heap} {A:Adr}
theorem scReadField:FnScope ["cursor","pool","seen","place","flags","name","descriptor","field"] ["cursor","pool","seen"] (defScope sReadField):=scB
theorem d_readField (T:Txt K mg A) (src:Src K "read_field" sReadField) (L:Lib P w K mg base A) (R:Rdr P w K mg base A):Def P w K mg base 9 "read_field" ["cursor","pool","seen"] (spMem A P w CfFile.field):=by
 refine defR src T.kx scReadField (fun vs H Q E h=>h.len) (fun f cdv A' outer s H vs Q E hr h=>?_)
 obtain ⟨S,c,q,a,d,b,l,p,prev,rfl,st,po,hSd,ndc,se,hpl,k⟩:=h
 have ⟨dx,hc⟩:=st.cu
 refine ⟨_,pss_cons (ps_set (i:=3) scReadField.nd rfl (Or.inl rfl) (pe_fld (pv 0) rfl))
  (pss_cons (ps_set (i:=4) scReadField.nd rfl (Or.inl rfl) (pe_md L.uns (pv 0) T.cur.cl (rm hr) passR (pa_cons pe_int pa_nil)))
  (pss_cons (ps_expr (pe_d L.dem (rm hr) rfl passR (pa_cons (pe_and (pe_d R.acc (rm hr) rfl passR (pa_cons (pv 4) pa_nil)) (pe_one (pe_cmpR op_ne (pe_op op_and (pv 4) (pe_gi T.g_FINAL_VOLATILE rfl)) (pe_gi T.g_FINAL_VOLATILE rfl) (nomark _)))) (pa_cons pe_int (pa_cons (pv 3) pa_nil)))))
  (pss_cons (ps_set (i:=5) scReadField.nd rfl (Or.inl rfl) (pe_d R.tnu (rm hr) rfl passR (pa_cons (pv 0) (pa_cons (pv 1) pa_nil))))
  (pss_cons (ps_expr (pe_d L.dem (rm hr) rfl passR (pa_cons (pe_d L.sim (rm hr) rfl passR (pa_cons (pe_md L.row (pv 1) T.poo.cl (rm hr) passR (pa_cons (pv 5) pa_nil)) pa_nil)) (pa_cons pe_int (pa_cons (pe_op op_add (pv 3) pe_int) pa_nil)))))
  (pss_cons (ps_set (i:=6) scReadField.nd rfl (Or.inl rfl) (pe_d R.tnu (rm hr) rfl passR (pa_cons (pv 0) (pa_cons (pv 1) pa_nil))))
  (pss_cons (ps_expr (pe_d L.dem (rm hr) rfl passR (pa_cons (pe_d L.fld (rm hr) rfl passR (pa_cons (pe_md L.row (pv 1) T.poo.cl (rm hr) passR (pa_cons (pv 6) pa_nil)) pa_nil)) (pa_cons pe_int (pa_cons (pe_op op_add (pv 3) pe_int) pa_nil)))))
  (pss_cons (ps_set (i:=7) scReadField.nd rfl (Or.inl rfl) (pe_mk L.iMem T.mMem.mak T.mMem.kp (rm hr) rfl T.mMem.g passR (pa_cons (pv 3) (pa_cons (pv 4) (pa_cons (pv 5) (pa_cons (pv 6) pa_nil))))))
  (pss_cons (ps_expr (pe_d R.fir (rm hr) rfl passR (pa_cons (pv 1) (pa_cons (pv 7) (pa_cons (pv 2) pa_nil)))))
  (pss_cons (ps_fld (pv 7) (pe_d R.ats (rm hr) rfl passR (pa_cons (pv 0) (pa_cons (pv 1) pa_nil))) rfl)
  (pss_cons (ps_expr (pe_d R.val (rm hr) rfl passR (pa_cons (pv 1) (pa_cons (pv 7) pa_nil))))
  (pss_one (ps_ret (pv 7))))))))))))),?_⟩
 unfold CfFile.field at k
 simp only [post_bind,post_here,post_pure] at k
 have mc:c ∈ [c,d]:=by simp
 have sub:∀ x ∈ [c],x ∈ [c,d]:=fun x h=>by rw [List.mem_singleton.mp h]; exact mc
 exists _,z0
 refine ⟨_,rfl,fldgo (fun _ _=>_) T.cur hc (i:=1) rfl rfl ?_⟩
 exists z0,z0
 refine ⟨_,rfl,methgo hc (by decide +kernel) ⟨c,a,b,p,2,rfl,st.cu,st.list,unsW mc st (But.refl _ _) k fun H1 b01 b1 st1 hle k=>?_⟩⟩
 have se1:=seen_but se b01 st.cu ndc
 generalize big b p 2 = fl at k
 exists z0,z0
 refine ⟨_,rfl,fl,rfl,fun H2 s2=>⟨_,rfl,?_⟩⟩
 have b2:=b1.trans (Same.but s2)
 have st2:=st1.same s2
 have se2:=seen_same se1 s2
 cases h1:decide (CfFile.ofThese fl [1,2,4] ≤ 1) with
 | false =>
  rw [h1] at k
  exact ⟨_,rfl,_,_,_,rfl,demif b2 k rfl rfl rfl fun h _=>by cases h⟩
 | true =>
 rw [h1,Bool.true_and] at k
 refine ⟨_,rfl,_,_,rfl,rfl,rfl,_,rfl,_,_,_,rfl,demif b2 k rfl rfl ?_ fun _ k=>?_⟩
 ·show (!decide (V.int (Builtin.bitAnd (fl:Int) 80) = V.int 80)) = _
  rw [show Builtin.bitAnd (fl:Int) 80 = ((fl &&& 80:Nat):Int) from band fl 80,final_volatile,show decide (V.int ((fl &&& 80:Nat):Int) = V.int 80) = ((fl &&& 80) == 80) from dec_nat _ 80]
  rfl
 exists z0,z0
 refine ⟨_,rfl,_,rfl,S,c,q,a,b,l,p + 2,rfl,st2,po,?_⟩
 refine (tnstep k).mono (fun ns z2 ⟨hz2,k⟩ H3 b23 cu3 hnm=>?_) (fun r e f=>f.next b2 sub)
 obtain ⟨n,nm⟩:=ns
 try dsimp only at k hnm
 subst hz2
 have b3:=b2.trans (b23.mono sub)
 have st3:=st2.step b23 cu3
 have se3:=seen_but se2 b23 st2.cu ndc
 obtain ⟨dq,cl,hq3⟩:=po.hq st3.le
 exists z0,z0
 refine ⟨_,rfl,methgo hq3 (by decide +kernel) ⟨_,rfl,S,q,a,b,l,n,nm,rfl,po,st3.le,hnm,fun H4 r s4 _ hr4=>⟨r,nm,rfl,hr4,fun H5 s5=>?_⟩⟩⟩
 have s45:=s4.trans s5
 have b5:=b3.trans (Same.but s45)
 have st5:=st3.same s45
 have se5:=seen_same se3 s45
 refine ⟨_,rfl,_,_,rfl,rfl,_,_,_,rfl,demif b5 k rfl (by omega) rfl fun _ k=>?_⟩
 exists z0,z0
 refine ⟨_,rfl,_,rfl,S,c,q,a,b,l,p + 2 + 2,rfl,st5,po,?_⟩
 refine (tnstep k).mono (fun ns z4 ⟨hz4,k⟩ H6 b56 cu6 ht=>?_) (fun r e f=>f.next b5 sub)
 obtain ⟨n2,t⟩:=ns
 try dsimp only at k ht
 subst hz4
 have b6:=b5.trans (b56.mono sub)
 have st6:=st5.step b56 cu6
 have se6:=seen_but se5 b56 st5.cu ndc
 obtain ⟨dq6,cl6,hq6⟩:=po.hq st6.le
 exists z0,z0
 refine ⟨_,rfl,methgo hq6 (by decide +kernel) ⟨_,rfl,S,q,a,b,l,n2,t,rfl,po,st6.le,ht,fun H7 r7 s7 _ hr7=>⟨r7,t,rfl,hr7,fun H8 s8=>?_⟩⟩⟩
 have s78:=s7.trans s8
 have b8:=b6.trans (Same.but s78)
 have st8:=st6.same s78
 have se8:=seen_same se6 s78
 refine ⟨_,rfl,_,_,rfl,rfl,_,_,_,rfl,demif b8 k rfl (by omega) rfl fun _ k=>?_⟩
 exists z0,z0
 refine ⟨_,rfl,_,rfl,_,rfl,_,rfl,makemem fun H9 km dkm lm s9 hkm hlm elm ekm=>?_⟩
 have b9:=b8.trans (Same.but s9)
 have st9:=st8.same s9
 have se9:=seen_same se8 s9
 have ⟨dx8,hc8⟩:=st8.cu
 have nck:c ≠ km:=ne_of_none hc8 hkm
 have ndk:d ≠ km:=fun z=>by have:=seen_has se8; rw [z,hkm] at this; cases this
 have d8:Dom H H8:=dom_but2 b8 (isSome_of hc8) (seen_has se8)
 have hkmH:H km = none:=dom_none d8 hkm
 have hSk:S km = none:=same_none st8.le hkm
 exists z0,z0
 refine ⟨_,rfl,_,rfl,_,rfl,S,q,a,km,d,dkm,b,l,p,n,n2,.int (fl:Int),.ref lm,.non,nm,t,prev.map mk2,rfl,po,st9.le,ekm,hnm,ht,se9,by rw [List.length_map]; omega,ndk,?_⟩
 rw [hasK_before]
 rw [post_must] at k
 refine demif2 (H0:=H) b9 k rfl rfl rfl fun _ k H10 b10 se10=>?_
 have hkm10:=b10 _ _ ekm (by simpa using Ne.symm ndk)
 have ⟨dx9,hc9⟩:=st9.cu
 have st10:St A S H10 c a b (p + 2 + 2 + 2):=⟨but1 b10 st9.le hSd,st9.nc,st9.ct,⟨dx9,b10 _ _ hc9 (by simpa using Ne.symm ndc)⟩⟩
 have bb10:But [c,d] H H10:=b9.trans (but2' b10)
 exists z0,z0
 refine ⟨_,rfl,_,rfl,S,c,q,a,b,l,_,rfl,st10,po,k.mono (fun xs z5 k H11 S11 la b11 g11 cu11 ats nmx hlx=>?_) (fun r e f=>f.next bb10 sub)⟩
 have st11:=st10.grow g11 cu11
 have hkm11:=b11 _ _ hkm10 (by simpa using Ne.symm nck)
 have nk11:S11 km = none:=g11.new km (isSome_of hkm10) hSk
 have bb11:But [c,d] H H11:=bb10.trans (b11.mono sub)
 have se11:=seen_but se10 b11 st10.cu ndc
 refine ⟨_,rfl,setgo T.mem hkm11 (i:=4) rfl rfl ?_⟩
 have st12:=st11.put (o:=.ins A.cMem dkm (kMem.zip [.int (p:Int),.int (fl:Int),.int (n:Int),.int (n2:Int),.ref la,.non])) nk11 nck
 have se12:=seen_at (o:=.ins A.cMem dkm (kMem.zip [.int (p:Int),.int (fl:Int),.int (n:Int),.int (n2:Int),.ref la,.non])) se11 ndk hkm11
 have bb12:=but_at (o:=.ins A.cMem dkm (kMem.zip [.int (p:Int),.int (fl:Int),.int (n:Int),.int (n2:Int),.ref la,.non])) bb11 hkmH
 have d10:Dom H H10:=dom_but2 bb10 (let ⟨_,e⟩:=st10.cu; isSome_of e) (seen_has se10)
 have g12:Grow S H S11 _:=((Grow.stay (S:=S) (H:=H) (H1:=H10) st10.le).trans d10 g11).later st12.le
 have e12:(upd H11 km (.ins A.cMem dkm (kMem.zip [.int (p:Int),.int (fl:Int),.int (n:Int),.int (n2:Int),.ref la,.non]))) km = some (.ins A.cMem dkm (kMem.zip [.int (p:Int),.int (fl:Int),.int (n:Int),.int (n2:Int),.ref la,.non])):=upd_same
 exists z0,z0
 show _
 generalize hH12:upd H11 km (.ins A.cMem dkm (kMem.zip [.int (p:Int),.int (fl:Int),.int (n:Int),.int (n2:Int),.ref la,.non])) = H12 at st12 se12 bb12 g12 e12
 rw [show upd H11 km (.ins A.cMem dkm (kMem.zip ([V.int (p:Int),V.int (fl:Int),V.int (n:Int),V.int (n2:Int),V.ref lm,V.non].set 4 (V.ref la)))) = H12 from hH12]
 refine ⟨_,rfl,_,rfl,S11,q,a,km,la,b,l,xs,dkm,p,n2,.int (fl:Int),.int (n:Int),.non,t,z5,rfl,po.up g11.le,st12.le,e12,ats,nmx,hlx,ht,?_⟩
 have k':=post_un (g:=fun _=>CfFile.forEach (CfFile.constantValue b l t) (xs.filter fun x=>CfFile.named l x "ConstantValue")) k
 refine (keeps_bind (keeps_must _ _ _) (fun _=>keeps_each (keeps_cv b l t) _) _ _ _ k').mono (fun _ z6 ⟨hz6,kf⟩ H13 s13=>?_) (fun r e f=>f.next bb12 fun _ h=>by simp at h)
 subst hz6
 have st13:=st12.same s13
 have sS:Same S11 (upd S11 km (.ins A.cMem dkm (kMem.zip [.int (p:Int),.int (fl:Int),.int (n:Int),.int (n2:Int),.ref la,.non]))):=same_at (same_refl S11) nk11
 exists z0
 exact ⟨_,rfl,kf H13 _ km (bb12.trans (Same.but s13)) ((g12.later st13.le).add hkmH (s13 _ _ e12) nk11) st13.cu (by rw [List.map_append]; exact seen_same se12 s13) ⟨dkm,la,p,.non,upd_same,ats.up sS,rfl,hnm,ht⟩⟩
end
theorem post_body (b:List UInt8) (l:Pool) (x:CfFile.Attr) (z:Nat) (OK:CfFile.Body→Nat→Prop) (ER:Nat→Nat→Prop):Post (CfFile.body b l x) z OK ER = Post (CfFile.inside b l x) x.place (fun y _=>OK y z) ER:=by
 unfold Post CfFile.body
 rw [show StateT.run (CfFile.inside b l x) x.place = CfFile.inside b l x x.place from rfl]
 cases CfFile.inside b l x x.place with
 | ok y=>rfl
 | error e=>rfl
theorem tru_and {K:PySem.W.Frag} {H:Hp} (f m:Nat) (c:Bool) (h:c = ((f &&& m) != 0)):TruV K (.int (Builtin.bitAnd (f:Int) (m:Int))) H c:=by
 show c = (Builtin.bitAnd (f:Int) (m:Int) != 0)
 rw [h,band]
 by_cases z:f &&& m = 0
 ·rw [z]; rfl
 ·rw [show ((f &&& m) != 0) = true from bne_iff_ne.mpr z]
  symm
  exact bne_iff_ne.mpr fun e=>z (by omega)
theorem notand_go {K:PySem.W.Frag} {i fl:Nat} {σ:L2.St} {H:Hp} {Q:VK} (hv:σ[i]? = some (some (.int (fl:Int)))) (q:Q (.bl (!(CfFile.has fl 1024 && ((fl &&& 2362) != 0)))) H) :
  tNotT K (tAndT K (tOp (rI0 fun i j=>.int (Builtin.bitAnd i j)) (tVar i) (tC (.int 1024))) (tOp (rI0 fun i j=>.int (Builtin.bitAnd i j)) (tVar i) (tC (.int 2362)))) σ H Q:=by
 have exA:CfFile.has fl 1024 = ((fl &&& 1024) != 0):=has_of fl 1024 10 rfl
 refine ⟨_,hv,_,_,rfl,rfl,CfFile.has fl 1024,tru_and fl 1024 _ exA,?_⟩
 cases hA:CfFile.has fl 1024 with
 | true =>
  rw [hA,Bool.true_and] at q
  exact ⟨_,hv,_,_,rfl,rfl,_,tru_and fl 2362 _ rfl,q⟩
 | false =>
  rw [hA,Bool.false_and] at q
  exact ⟨false,tru_and fl 1024 _ (by rw [← hA]; exact exA),q⟩
theorem desc_go {A:Adr} {i1 i5 i7:Nat} {σ:L2.St} {S H:Hp} {q a r:Addr} {b:List UInt8} {l:Pool} {n:Nat} {nm t:List UInt8} {E:XK} {Q:VK} (h1:σ[i1]? = some (some (.ref q))) (h5:σ[i5]? = some (some (.int (n:Int)))) (h7:σ[i7]? = some (some (.ref r))) (hr:H r = some (.lst (bv t)))
  (po:PoolAt A S q a b l) (le:Same S H) (hn:CfFile.textAt l n = some nm) (k:∀ H',Same H H'→Q (.bl (CfFile.isMethod t && (decide (t.getLast? = some 86) || !decide (nm = CfFile.ascii "<init>")))) H') :
  tAndV (tCall (spRow fun b=>.bl (CfFile.isMethod b)) [] E (tCons (tVar i7) tNil)) (tOrV (tCall (spRow fun b=>.bl (decide (b.getLast? = some 86))) [] E (tCons (tVar i7) tNil)) (tNotV (tCall (spRow fun b=>.bl (decide (b = CfFile.ascii "<init>"))) [] E
   (tCons (tMeth A.cPoo "row" (spGive A CfFile.textAt) [] E (tVar i1) (tCons (tVar i5) tNil)) tNil)))) σ H Q:=by
 refine ⟨_,h7,r,t,rfl,hr,fun H1 s1=>⟨_,rfl,?_⟩⟩
 cases hm:CfFile.isMethod t with
 | false=>rw [hm] at k; exact k H1 s1
 | true =>
  rw [hm] at k
  refine ⟨_,h7,r,t,rfl,s1 _ _ hr,fun H2 s2=>⟨_,rfl,?_⟩⟩
  have s12:=s1.trans s2
  cases hg:decide (t.getLast? = some 86) with
  | true=>rw [hg] at k; exact k H2 s12
  | false =>
   rw [hg] at k
   obtain ⟨dq,cl,hq⟩:=po.hq (le.trans s12)
   refine ⟨_,h1,methgo hq (by decide +kernel) ⟨_,h5,S,q,a,b,l,n,nm,rfl,po,le.trans s12,hn,fun H3 r3 s3 _ hr3=>⟨r3,nm,rfl,hr3,fun H4 s4=>⟨_,rfl,?_⟩⟩⟩⟩
   exact k H4 ((s12.trans s3).trans s4)
theorem desc_eq (nm t:List UInt8):(CfFile.isMethod t && (decide (t.getLast? = some 86) || !decide (nm = CfFile.ascii "<init>"))) = (CfFile.isMethod t && (nm != CfFile.ascii "<init>" || (CfFile.methodType t).map (·.2) == some [86])):=by
 cases h:CfFile.isMethod t with
 | false=>rfl
 | true =>
  rw [method_result h,Bool.or_comm]
  congr 2
  by_cases e:nm = CfFile.ascii "<init>"
  ·rw [decide_eq_true e,e]; simp
  ·rw [decide_eq_false e,show (nm != CfFile.ascii "<init>") = true from bne_iff_ne.mpr e]; rfl
theorem zeroone_go {K:PySem.W.Frag} {i fl:Nat} {σ:L2.St} {H:Hp} {Q:VK} (hv:σ[i]? = some (some (.int (fl:Int)))) (q:Q (.int ((if (CfFile.has fl 1024 || CfFile.has fl 256) = true then 0 else 1:Nat):Int)) H) :
  tIf (fun σ H Q=>tOp (rI0 fun i j=>.int (Builtin.bitAnd i j)) (tVar i) (tC (.int 1280)) σ H fun x H'=>∃ k,TruV K x H' k∧Q k H') (tC (.int 0)) (tC (.int 1)) σ H Q:=by
 refine ⟨_,hv,_,_,rfl,rfl,CfFile.has fl 1024 || CfFile.has fl 256,tru_and fl 1280 _ (without_code fl),?_⟩
 cases h:(CfFile.has fl 1024 || CfFile.has fl 256) with
 | true=>rw [h] at q; exact q
 | false=>rw [h] at q; exact q
section
variable {P:Program} {w:World} {K:PySem.W.Frag} {mg:Str→Option Value} {base:Heap} {A:Adr}
theorem scReadMeth:FnScope ["cursor","pool","seen","place","flags","name","descriptor","row","method","codes","code"] ["cursor","pool","seen"] (defScope sReadMeth):=scB
theorem d_readMeth (T:Txt K mg A) (src:Src K "read_method" sReadMeth) (L:Lib P w K mg base A) (R:Rdr P w K mg base A):Def P w K mg base 9 "read_method" ["cursor","pool","seen"] (spMem A P w CfFile.method):=by
 refine defR src T.kx scReadMeth (fun vs H Q E h=>h.len) (fun f cdv A' outer s H vs Q E hr h=>?_)
 obtain ⟨S,c,q,a,d,b,l,p,prev,rfl,st,po,hSd,ndc,se,hpl,k⟩:=h
 have ⟨dx,hc⟩:=st.cu
 refine ⟨_,pss_cons (ps_set (i:=3) scReadMeth.nd rfl (Or.inl rfl) (pe_fld (pv 0) rfl))
  (pss_cons (ps_set (i:=4) scReadMeth.nd rfl (Or.inl rfl) (pe_md L.uns (pv 0) T.cur.cl (rm hr) passR (pa_cons pe_int pa_nil)))
  (pss_cons (ps_expr (pe_d L.dem (rm hr) rfl passR (pa_cons (pe_and (pe_d R.acc (rm hr) rfl passR (pa_cons (pv 4) pa_nil)) (pe_one (pe_notT (pe_andT (pe_op op_and (pv 4) (pe_gi T.g_ABSTRACT_members rfl)) (pe_one (pe_op op_and (pv 4) (pe_gi T.g_NOT_ABSTRACT rfl))))))) (pa_cons pe_int (pa_cons (pv 3) pa_nil)))))
  (pss_cons (ps_set (i:=5) scReadMeth.nd rfl (Or.inl rfl) (pe_d R.tnu (rm hr) rfl passR (pa_cons (pv 0) (pa_cons (pv 1) pa_nil))))
  (pss_cons (ps_expr (pe_d L.dem (rm hr) rfl passR (pa_cons (pe_d L.mna (rm hr) rfl passR (pa_cons (pe_md L.row (pv 1) T.poo.cl (rm hr) passR (pa_cons (pv 5) pa_nil)) pa_nil)) (pa_cons pe_int (pa_cons (pe_op op_add (pv 3) pe_int) pa_nil)))))
  (pss_cons (ps_set (i:=6) scReadMeth.nd rfl (Or.inl rfl) (pe_d R.tnu (rm hr) rfl passR (pa_cons (pv 0) (pa_cons (pv 1) pa_nil))))
  (pss_cons (ps_set (i:=7) scReadMeth.nd rfl (Or.inl rfl) (pe_md L.row (pv 1) T.poo.cl (rm hr) passR (pa_cons (pv 6) pa_nil)))
  (pss_cons (ps_expr (pe_d L.dem (rm hr) rfl passR (pa_cons (pe_and (pe_d L.mth (rm hr) rfl passR (pa_cons (pv 7) pa_nil)) (pe_one (pe_or (pe_d L.giv (rm hr) rfl passR (pa_cons (pv 7) pa_nil)) (pe_one (pe_not (pe_d L.ini (rm hr) rfl passR (pa_cons (pe_md L.row (pv 1) T.poo.cl (rm hr) passR (pa_cons (pv 5) pa_nil)) pa_nil))))))) (pa_cons pe_int (pa_cons (pe_op op_add (pv 3) pe_int) pa_nil)))))
  (pss_cons (ps_set (i:=8) scReadMeth.nd rfl (Or.inl rfl) (pe_mk L.iMem T.mMem.mak T.mMem.kp (rm hr) rfl T.mMem.g passR (pa_cons (pv 3) (pa_cons (pv 4) (pa_cons (pv 5) (pa_cons (pv 6) pa_nil))))))
  (pss_cons (ps_expr (pe_d R.fir (rm hr) rfl passR (pa_cons (pv 1) (pa_cons (pv 8) (pa_cons (pv 2) pa_nil)))))
  (pss_cons (ps_fld (pv 8) (pe_d R.ats (rm hr) rfl passR (pa_cons (pv 0) (pa_cons (pv 1) pa_nil))) rfl)
  (pss_cons (ps_set (i:=9) scReadMeth.nd rfl (Or.inl rfl) (pe_d R.nam (rm hr) rfl passR (pa_cons (pe_fld (pv 8) rfl) (pa_cons (pv 1) (pa_cons pe_str pa_nil)))))
  (pss_cons (ps_expr (pe_d L.dem (rm hr) rfl passR (pa_cons (pe_cmpR op_eq (pe_callB call_len_seq (by rfl) T.nLen PySem.boot_len (pa_cons (pv 9) pa_nil)) (pe_ifExp (pt_truth (pe_op op_and (pv 4) (pe_gi T.g_WITHOUT_CODE rfl)) (fun _=>rfl)) pe_int pe_int) (nomark _)) (pa_cons pe_int (pa_cons (pv 3) pa_nil)))))
  (pss_cons (ps_for ownR rfl (pi_list (pv 9)) (pg_name (i:=10) scReadMeth.nd rfl (Or.inl rfl)) (pss_one (ps_fld (pv 8) (pe_d R.bod hr rfl passR (pa_cons (pv 1) (pa_cons (pv 10) pa_nil))) rfl)))
  (pss_one (ps_ret (pv 8)))))))))))))))),?_⟩
 unfold CfFile.method at k
 simp only [post_bind,post_here,post_pure] at k
 have mc:c ∈ [c,d]:=by simp
 have sub:∀ x ∈ [c],x ∈ [c,d]:=fun x h=>by rw [List.mem_singleton.mp h]; exact mc
 exists _,z0
 refine ⟨_,rfl,fldgo (fun _ _=>_) T.cur hc (i:=1) rfl rfl ?_⟩
 exists z0,z0
 refine ⟨_,rfl,methgo hc (by decide +kernel) ⟨c,a,b,p,2,rfl,st.cu,st.list,unsW mc st (But.refl _ _) k fun H1 b01 b1 st1 hle k=>?_⟩⟩
 have se1:=seen_but se b01 st.cu ndc
 generalize big b p 2 = fl at k
 exists z0,z0
 refine ⟨_,rfl,fl,rfl,fun H2 s2=>⟨_,rfl,?_⟩⟩
 have b2:=b1.trans (Same.but s2)
 have st2:=st1.same s2
 have se2:=seen_same se1 s2
 cases h1:decide (CfFile.ofThese fl [1,2,4] ≤ 1) with
 | false =>
  rw [h1] at k
  exact ⟨_,rfl,_,_,_,rfl,demif b2 k rfl rfl rfl fun h _=>by cases h⟩
 | true =>
 rw [h1,Bool.true_and] at k
 rw [no_abstract,show (!CfFile.has fl 1024 || ((fl &&& 2362) == 0)) = (!(CfFile.has fl 1024 && ((fl &&& 2362) != 0))) by
  cases CfFile.has fl 1024 <;> cases h:((fl &&& 2362) == 0) <;> simp_all [bne]] at k
 rw [if_pos rfl]
 refine notand_go (K:=K) (i:=4) (fl:=fl) rfl ?_
 refine ⟨_,rfl,_,_,_,rfl,demif b2 k rfl rfl rfl fun _ k=>?_⟩
 exists z0,z0
 refine ⟨_,rfl,_,rfl,S,c,q,a,b,l,p + 2,rfl,st2,po,?_⟩
 refine (tnstep k).mono (fun ns z2 ⟨hz2,k⟩ H3 b23 cu3 hnm=>?_) (fun r e f=>f.next b2 sub)
 obtain ⟨n,nm⟩:=ns
 try dsimp only at k hnm
 subst hz2
 have b3:=b2.trans (b23.mono sub)
 have st3:=st2.step b23 cu3
 have se3:=seen_but se2 b23 st2.cu ndc
 obtain ⟨dq,cl,hq3⟩:=po.hq st3.le
 exists z0,z0
 refine ⟨_,rfl,methgo hq3 (by decide +kernel) ⟨_,rfl,S,q,a,b,l,n,nm,rfl,po,st3.le,hnm,fun H4 r s4 _ hr4=>⟨r,nm,rfl,hr4,fun H5 s5=>?_⟩⟩⟩
 have s45:=s4.trans s5
 have b5:=b3.trans (Same.but s45)
 have st5:=st3.same s45
 have se5:=seen_same se3 s45
 refine ⟨_,rfl,_,_,rfl,rfl,_,_,_,rfl,demif b5 k rfl (by omega) rfl fun _ k=>?_⟩
 exists z0,z0
 refine ⟨_,rfl,_,rfl,S,c,q,a,b,l,p + 2 + 2,rfl,st5,po,?_⟩
 refine (tnstep k).mono (fun ns z4 ⟨hz4,k⟩ H6 b56 cu6 ht=>?_) (fun r e f=>f.next b5 sub)
 obtain ⟨n2,t⟩:=ns
 try dsimp only at k ht
 subst hz4
 have b6:=b5.trans (b56.mono sub)
 have st6:=st5.step b56 cu6
 have se6:=seen_but se5 b56 st5.cu ndc
 obtain ⟨dq6,cl6,hq6⟩:=po.hq st6.le
 exists z0,z0
 refine ⟨_,rfl,methgo hq6 (by decide +kernel) ⟨_,rfl,S,q,a,b,l,n2,t,rfl,po,st6.le,ht,fun H7 r7 s7 _ hr7=>?_⟩⟩
 exists z0,z0
 refine desc_go (i1:=1) (i5:=5) (i7:=7) rfl rfl rfl hr7 po (st6.le.trans s7) hnm fun H8 s8=>?_
 have s78:=s7.trans s8
 have b8:=b6.trans (Same.but s78)
 have st8:=st6.same s78
 have se8:=seen_same se6 s78
 refine ⟨_,rfl,_,_,rfl,rfl,_,_,_,rfl,demif b8 k rfl (by omega) (desc_eq nm t) fun _ k=>?_⟩
 exists z0,z0
 refine ⟨_,rfl,_,rfl,_,rfl,_,rfl,makemem fun H9 km dkm lm s9 hkm hlm elm ekm=>?_⟩
 have b9:=b8.trans (Same.but s9)
 have st9:=st8.same s9
 have se9:=seen_same se8 s9
 have ⟨dx8,hc8⟩:=st8.cu
 have nck:c ≠ km:=ne_of_none hc8 hkm
 have ndk:d ≠ km:=fun z=>by have:=seen_has se8; rw [z,hkm] at this; cases this
 have d8:Dom H H8:=dom_but2 b8 (isSome_of hc8) (seen_has se8)
 have hkmH:H km = none:=dom_none d8 hkm
 have hSk:S km = none:=same_none st8.le hkm
 exists z0,z0
 refine ⟨_,rfl,_,rfl,_,rfl,S,q,a,km,d,dkm,b,l,p,n,n2,.int (fl:Int),.ref lm,.non,nm,t,prev.map mk2,rfl,po,st9.le,ekm,hnm,ht,se9,by rw [List.length_map]; omega,ndk,?_⟩
 rw [hasK_before]
 rw [post_must] at k
 refine demif2 (H0:=H) b9 k rfl rfl rfl fun _ k H10 b10 se10=>?_
 have hkm10:=b10 _ _ ekm (by simpa using Ne.symm ndk)
 have ⟨dx9,hc9⟩:=st9.cu
 have st10:St A S H10 c a b (p + 2 + 2 + 2):=⟨but1 b10 st9.le hSd,st9.nc,st9.ct,⟨dx9,b10 _ _ hc9 (by simpa using Ne.symm ndc)⟩⟩
 have bb10:But [c,d] H H10:=b9.trans (but2' b10)
 exists z0,z0
 refine ⟨_,rfl,_,rfl,S,c,q,a,b,l,_,rfl,st10,po,k.mono (fun xs z5 k H11 S11 la b11 g11 cu11 ats nmx hlx=>?_) (fun r e f=>f.next bb10 sub)⟩
 have st11:=st10.grow g11 cu11
 have hkm11:=b11 _ _ hkm10 (by simpa using Ne.symm nck)
 have nk11:S11 km = none:=g11.new km (isSome_of hkm10) hSk
 have bb11:But [c,d] H H11:=bb10.trans (b11.mono sub)
 have se11:=seen_but se10 b11 st10.cu ndc
 refine ⟨_,rfl,setgo T.mem hkm11 (i:=4) rfl rfl ?_⟩
 have st12:=st11.put (o:=.ins A.cMem dkm (kMem.zip [.int (p:Int),.int (fl:Int),.int (n:Int),.int (n2:Int),.ref la,.non])) nk11 nck
 have se12:=seen_at (o:=.ins A.cMem dkm (kMem.zip [.int (p:Int),.int (fl:Int),.int (n:Int),.int (n2:Int),.ref la,.non])) se11 ndk hkm11
 have bb12:=but_at (o:=.ins A.cMem dkm (kMem.zip [.int (p:Int),.int (fl:Int),.int (n:Int),.int (n2:Int),.ref la,.non])) bb11 hkmH
 have d10:Dom H H10:=dom_but2 bb10 (let ⟨_,e⟩:=st10.cu; isSome_of e) (seen_has se10)
 have g12:Grow S H S11 _:=((Grow.stay (S:=S) (H:=H) (H1:=H10) st10.le).trans d10 g11).later st12.le
 have e12:(upd H11 km (.ins A.cMem dkm (kMem.zip [.int (p:Int),.int (fl:Int),.int (n:Int),.int (n2:Int),.ref la,.non]))) km = some (.ins A.cMem dkm (kMem.zip [.int (p:Int),.int (fl:Int),.int (n:Int),.int (n2:Int),.ref la,.non])):=upd_same
 exists z0,z0
 show _
 generalize hH12:upd H11 km (.ins A.cMem dkm (kMem.zip [.int (p:Int),.int (fl:Int),.int (n:Int),.int (n2:Int),.ref la,.non])) = H12 at st12 se12 bb12 g12 e12
 rw [show upd H11 km (.ins A.cMem dkm (kMem.zip ([V.int (p:Int),V.int (fl:Int),V.int (n:Int),V.int (n2:Int),V.ref lm,V.non].set 4 (V.ref la)))) = H12 from hH12]
 refine ⟨_,rfl,fldgo (fun _ _=>_) T.mem e12 (i:=4) rfl rfl ⟨_,rfl,S11,la,q,a,b,l,xs,"Code",CfFile.ascii "Code",rfl,ats,po.up g11.le,st12.le,nmx,hlx,(by decide +kernel),(by decide +kernel),fun H13 D ks s13 hD eD pr=>?_⟩⟩
 have pr:Paired (fun k x=>AtAt A S11 k x) ks (xs.filter fun x=>CfFile.named l x "Code"):=pr
 generalize xs.filter (fun x=>CfFile.named l x "Code") = ys at k pr
 have hlen:=paired_lenA pr
 have st13:=st12.same s13
 have se13:=seen_same se12 s13
 have bb13:=bb12.trans (Same.but s13)
 have g13:=g12.later st13.le
 have e13:=s13 _ _ e12
 have d13:Dom H H13:=dom_but2 bb13 (let ⟨_,e⟩:=st13.cu; isSome_of e) (seen_has se13)
 exists z0,z0
 refine ⟨_,rfl,D,_,rfl,.inl (SqL.of eD),?_⟩
 refine zeroone_go (K:=K) (i:=4) (fl:=fl) rfl ?_
 refine ⟨rfl,_,rfl,_,_,_,rfl,demif bb13 k rfl rfl ?_ fun hcl k=>?_⟩
 ·rw [List.length_map,hlen]
  exact dec_nat _ _
 exists z0,z0
 refine ⟨_,rfl,D,rfl,⟨_,SqL.of eD⟩,?_⟩
 have hys:ys.length ≤ 1:=by
  have:=beq_iff_eq.mp hcl
  rw [this]
  split <;> omega
 cases pr with
 | nil =>
  refine for_list (K:=K) (a:=D) (xs:=[]) (fun i σ H'=>σ[8]? = some (some (.ref km))∧H' = H13) ⟨rfl,rfl⟩ (fun i σ H' _ h=>SqL.of (by rw [h.2]; exact eD)) (fun i x σ H' h=>by simp at h) (fun σ H' h=>?_)
  obtain ⟨h8,rfl⟩:=h
  have sS:Same S11 (upd S11 km (.ins A.cMem dkm (kMem.zip [.int (p:Int),.int (fl:Int),.int (n:Int),.int (n2:Int),.ref la,.non]))):=same_at (same_refl S11) nk11
  exists z0
  exact ⟨_,h8,k _ _ km bb13 (g13.add hkmH e13 nk11) st13.cu (by rw [List.map_append]; exact se13) ⟨dkm,la,p,.non,upd_same,ats.up sS,rfl,hnm,ht⟩⟩
 | @cons kk x0 ks' ys' ax pr' =>
  have hy':ys' = []:=by
   cases ys' with
   | nil=>rfl
   | cons _ _=>simp at hys
  subst hy'
  cases pr'
  rw [post_bind,post_body] at k
  refine for_list (K:=K) (a:=D) (xs:=[V.ref kk]) (fun i σ H'=>(i = 0∧σ = [some (.ref c),some (.ref q),some (.ref d),some (.int (p:Int)),some (.int (fl:Int)),some (.int (n:Int)),some (.int (n2:Int)),some (.ref r7),some (.ref km),some (.ref D),none]∧H' = H13) ∨ (i = 1∧σ[8]? = some (some (.ref km))∧Q (.ref km) H'∧H' D = some (.lst [V.ref kk])))
   (.inl ⟨rfl,rfl,rfl⟩) (fun i σ H' _ h=>SqL.of (h.elim (fun z=>by rw [z.2.2]; exact eD) fun z=>z.2.2.2)) ?_ ?_
  ·rintro i y σ H' hi h
   rcases h with ⟨rfl,rfl,rfl⟩ | ⟨rfl,_⟩
   ·simp at hi
    subst hi
    refine ⟨_,rfl,_,rfl,S11,q,a,kk,b,l,x0,rfl,po.up g11.le,st13.le,ax,k.mono (fun y _ k H14 S14 kb s14 g14 bo hkb=>?_) (fun r e f=>f.next bb13 fun _ h=>by simp at h)⟩
    have e14:=s14 _ _ e13
    refine ⟨_,rfl,setgo T.mem e14 (i:=5) rfl rfl ?_⟩
    have nk14:S14 km = none:=g14.new km (isSome_of e13) nk11
    have st14:St A S14 H14 c a b z5:=st13.grow g14 (let ⟨dx,e⟩:=st13.cu; ⟨dx,s14 _ _ e⟩)
    have g15:=(g13.trans d13 g14).later (same_at (o:=.ins A.cMem dkm (kMem.zip [.int (p:Int),.int (fl:Int),.int (n:Int),.int (n2:Int),.ref la,.ref kb])) st14.le nk14)
    have st15:=st14.put (o:=.ins A.cMem dkm (kMem.zip [.int (p:Int),.int (fl:Int),.int (n:Int),.int (n2:Int),.ref la,.ref kb])) nk14 nck
    have se15:=seen_at (o:=.ins A.cMem dkm (kMem.zip [.int (p:Int),.int (fl:Int),.int (n:Int),.int (n2:Int),.ref la,.ref kb])) (seen_same se13 s14) ndk e14
    have bb15:=but_at (o:=.ins A.cMem dkm (kMem.zip [.int (p:Int),.int (fl:Int),.int (n:Int),.int (n2:Int),.ref la,.ref kb])) (bb13.trans (Same.but s14)) hkmH
    have sS:Same S14 (upd S14 km (.ins A.cMem dkm (kMem.zip [.int (p:Int),.int (fl:Int),.int (n:Int),.int (n2:Int),.ref la,.ref kb]))):=same_at (same_refl S14) nk14
    refine .inr ⟨rfl,rfl,k _ _ km bb15 (g15.add hkmH upd_same nk14) st15.cu (by rw [List.map_append]; exact se15) ⟨dkm,la,p,.ref kb,upd_same,(ats.up g14.le).up sS,⟨kb,rfl,bo.up sS⟩,hnm,ht⟩,?_⟩
    rw [upd_ne (ne_of eD e13 (fun z=>nomatch z))]
    exact s14 _ _ eD
   ·simp at hi
  ·rintro σ H' (⟨h,_⟩ | ⟨_,h8,hQ,_⟩)
   ·simp at h
   ·exists z0
    exact ⟨_,h8,hQ⟩
end
def CalF (P:Program) (w:World) (K:PySem.W.Frag) (mg:Str→Option Value) (base:Heap) (k:Nat) (f:Addr) (sp:Sp):Prop:=∃ fd ps,FnOk P w K mg base (CXR P w) k f fd ps sp∧PySem.W.keepIn K (.ref f) = true∧Binds K fd ps []
def memsP (b:List UInt8) (l:Pool) (g:List UInt8→Pool→List CfFile.Member→CfFile.P CfFile.Member):CfFile.P (List CfFile.Member):=do
 let n ← CfFile.num b 2
 CfFile.members (g b l) n []
inductive spMems (A:Adr) (P:Program) (w:World) (K:PySem.W.Frag) (mg:Str→Option Value) (base:Heap) (vs:List V) (H:Hp) (Q:VK) (E:XK):Prop
 | mk (g:List UInt8→Pool→List CfFile.Member→CfFile.P CfFile.Member) (S:Hp) (c q a f:Addr) (b:List UInt8) (l:Pool) (p:Nat) (_:vs = [.ref c,.ref q,.ref f]) (_:St A S H c a b p) (_:PoolAt A S q a b l) (_:CalF P w K mg base 9 f (spMem A P w g)) (_:Post (memsP b l g) p (fun ms z=>∀ H' S1 k,But [c] H H'→Grow S H S1 H'→CurIs A H' c a z→MesAt A S1 l k ms→ms.length ≤ 65535→Q (.ref k) H') (fun r e=>Fails A [c] H E r e))
theorem but_drop {c d:Addr} {H H1 H2:Hp} (b:But [c] H H1) (b2:But [c,d] H1 H2) (n:H d = none):But [c] H H2:=fun x o e nx=>b2 x o (b x o e nx) (by
 have h1:x ≠ c:=by simpa using nx
 have h2:x ≠ d:=ne_of_none e n
 simp [h1,h2])
theorem fails_drop {A:Adr} {c d:Addr} {H H1:Hp} {E:XK} {r p:Int} (f:Fails A [c] H E r p) (b:But [c] H H1) (n:H d = none):Fails A [c,d] H1 E r p:=fun H' x b' e=>f H' x (but_drop b b' n) e
theorem post_members0 (f:List CfFile.Member→CfFile.P CfFile.Member) (prev:List CfFile.Member) (z:Nat) (OK:List CfFile.Member→Nat→Prop) (ER:Nat→Nat→Prop):Post (CfFile.members f 0 prev) z OK ER = OK prev z:=rfl
theorem post_membersS (f:List CfFile.Member→CfFile.P CfFile.Member) (n:Nat) (prev:List CfFile.Member) (z:Nat) (OK:List CfFile.Member→Nat→Prop) (ER:Nat→Nat→Prop) :
  Post (CfFile.members f (n + 1) prev) z OK ER = Post (f prev) z (fun x q=>Post (CfFile.members f n (prev ++ [x])) q OK ER) ER:=by
 rw [CfFile.members,post_bind]
section
variable {P:Program} {w:World} {K:PySem.W.Frag} {mg:Str→Option Value} {base:Heap} {A:Adr}
theorem scReadMems:FnScope ["cursor","pool","read_member","size","members","seen"] ["cursor","pool","read_member"] (defScope sReadMems):=scB
inductive MemW (A:Adr) (P:Program) (w:World) (g:List UInt8→Pool→List CfFile.Member→CfFile.P CfFile.Member) (c q fa lm d a:Addr) (b:List UInt8) (l:Pool) (N:Nat) (S H:Hp) (Q:VK) (E:XK) (m:Nat) (σ:L2.St) (H':Hp):Prop
 | mk (S1:Hp) (ks:List Addr) (ms:List CfFile.Member) (z:Nat) (_:σ = [some (.ref c),some (.ref q),some (.ref fa),some (.int (N:Int)),some (.ref lm),some (.ref d)]) (_:m = N - ms.length) (_:ms.length ≤ N) (_:St A S1 H' c a b z) (_:Grow S H S1 H') (_:But [c] H H') (_:H' lm = some (.lst (ks.map V.ref))) (_:S1 lm = none) (_:S1 d = none) (_:SeenAt P w H' d (ms.map mk2)) (_:Paired (fun k x=>MeAt A S1 l k x) ks ms) (_:Post (CfFile.members (g b l) (N - ms.length) ms) z (fun ms z=>∀ H' S1 k,But [c] H H'→Grow S H S1 H'→CurIs A H' c a z→MesAt A S1 l k ms→ms.length ≤ 65535→Q (.ref k) H') (fun r e=>Fails A [c] H E r e))
theorem d_readMems (T:Txt K mg A) (src:Src K "read_members" sReadMems) (L:Lib P w K mg base A):Def P w K mg base 10 "read_members" ["cursor","pool","read_member"] (spMems A P w K mg base):=by
 refine defR src T.kx scReadMems (fun vs H Q E h=>?_) (fun f cdv A' outer s H vs Q E hr h=>?_)
 ·obtain ⟨g,S,c,q,a,fa,b,l,p,rfl,_⟩:=h
  rfl
 obtain ⟨g,S,c,q,a,fa,b,l,p,rfl,st,po,cal,k⟩:=h
 have ⟨dx,hc⟩:=st.cu
 refine ⟨_,pss_cons (ps_set (i:=3) scReadMems.nd rfl (Or.inl rfl) (pe_md L.uns (pv 0) T.cur.cl (rm hr) passR (pa_cons pe_int pa_nil)))
  (pss_cons (ps_set (i:=4) scReadMems.nd rfl (Or.inl rfl) (pe_lst pa_nil))
  (pss_cons (ps_set (i:=5) scReadMems.nd rfl (Or.inl rfl) pe_pnew)
  (pss_cons (ps_while ownR (pt_cmpR op_lt (pe_callB call_len_seq (by rfl) T.nLen PySem.boot_len (pa_cons (pv 4) pa_nil)) (pv 3) (nomark _))
   (pss_one (ps_expr (pe_bm PySem.F.plainAttrs_list PySem.F.slot_list_append PySem.F.type_list_append mt_append (pv 4) (pa_cons (pe_cv (pv 2) hr passR (pa_cons (pv 0) (pa_cons (pv 1) (pa_cons (pv 5) pa_nil)))) pa_nil)))))
  (pss_one (ps_ret (pv 4)))))),?_⟩
 unfold memsP at k
 simp only [post_bind] at k
 exists _,z0
 refine ⟨_,rfl,methgo hc (by decide +kernel) ⟨c,a,b,p,2,rfl,st.cu,st.list,unsif st (But.refl _ _) k fun H1 _ b1 st1 hle k=>?_⟩⟩
 have hN:=big2_lt b p
 generalize big b p 2 = N at k hN
 have ⟨dx1,hc1⟩:=st1.cu
 exists z0,z0
 refine ⟨Nat.zero_le _,fun lm hlm=>?_⟩
 have d1:Dom H H1:=dom_but1 b1 hc1
 have ncl:c ≠ lm:=ne_of_none hc1 hlm
 have nSl:S lm = none:=same_none st1.le hlm
 have hlmH:H lm = none:=dom_none d1 hlm
 have st2:=st1.put (o:=.lst []) nSl ncl
 have hlm2:(upd H1 lm (.lst [])) lm = some (.lst []):=upd_same
 have b2:=but_at (o:=.lst []) b1 hlmH
 generalize upd H1 lm (.lst []) = H2 at *
 exists z0,z0
 refine fun d H3 hd keep se3=>?_
 have s3:Same H2 H3:=fun x o e=>by rw [keep x (ne_of_none e hd)]; exact e
 have ⟨dx2,hc2⟩:=st2.cu
 have ndc:d ≠ c:=fun z=>by rw [z,hc2] at hd; cases hd
 have ndl:d ≠ lm:=fun z=>by rw [z,hlm2] at hd; cases hd
 have hdH:H d = none:=dom_none (dom_but1 b2 hc2) hd
 exists z0,z0
 refine ⟨MemW A P w g c q fa lm d a b l N S H Q E,
  ⟨N,S,[],[],p + 2,rfl,rfl,Nat.zero_le _,st2.same s3,Grow.stay (st2.same s3).le,b2.trans (Same.but s3),s3 _ _ hlm2,nSl,same_none st2.le hd,se3,.nil,k⟩,?_⟩
 clear st1 st2 b1 b2 hc1 hc2 hlm2 s3 se3 keep
 rintro m σ H4 ⟨S4,ks,ms,z,rfl,rfl,hl,st4,g4,b4,hlm4,nlm4,nd4,se4,pr,k⟩
 have hlen:ks.length = ms.length:=paired_len pr
 have ⟨dx4,hc4⟩:=st4.cu
 have hml:(ks.map V.ref).length = ms.length:=by rw [List.length_map,hlen]
 refine ⟨_,rfl,lm,_,rfl,.inl (SqL.of hlm4),_,rfl,_,_,rfl,rfl,_,rfl,?_⟩
 by_cases hlt:ms.length < N
 ·rw [decide_eq_true (show ((ks.map V.ref).length:Int) < (N:Int) by omega)]
  refine ⟨fun σ' H'=>∃ m',m' < N - ms.length∧MemW A P w g c q fa lm d a b l N S H Q E m' σ' H',fun _ _ h=>h,?_⟩
  rw [show N - ms.length = (N - ms.length - 1) + 1 by omega,post_membersS] at k
  refine ⟨_,rfl,.inl ⟨rfl,_,SqL.of hlm4⟩,_,rfl,fa,_,rfl,cal,_,rfl,_,rfl,_,rfl,S4,c,q,a,d,b,l,z,ms,rfl,st4,po.up g4.le,nd4,ndc,se4,by omega,k.mono (fun x z2 zz H5 S5 kk b5 g5 cu5 se5 me=>?_) (fun r e f=>fails_drop f b4 hdH)⟩
  have st5:=st4.grow g5 cu5
  have hlm5:H5 lm = some (.lst (ks.map V.ref)):=b5 _ _ hlm4 (by simp [Ne.symm ncl,Ne.symm ndl])
  have nlm5:S5 lm = none:=g5.new lm (isSome_of hlm4) nlm4
  have nd5:S5 d = none:=g5.new d (seen_has se4) nd4
  have gg5:Grow S H S5 H5:=g4.trans (dom_but1 b4 hc4) g5
  have b15:=but_drop b4 b5 hdH
  refine ⟨lm,_,_,rfl,rfl,hlm5,szl (by omega),?_⟩
  refine ⟨N - (ms.length + 1),by omega,S5,ks ++ [kk],ms ++ [x],z2,rfl,by simp only [List.length_append,List.length_singleton],by simp only [List.length_append,List.length_singleton]; omega,st5.put nlm5 ncl,gg5.later (same_at st5.le nlm5),but_at b15 hlmH,by rw [upd_same,List.map_append]; rfl,nlm5,nd5,?_,paired_snoc (Paired.mapP pr fun _ _ h=>h.up g5.le) me,?_⟩
  ·obtain ⟨xs,h1,h2,h3⟩:=se5
   exact ⟨xs,by rw [upd_ne ndl]; exact h1,h2,fun y hy=>(h3 y hy).up fun c ys ec=>by rw [upd_ne (ne_of ec hlm5 (fun z=>nomatch z))]; exact ec⟩
  ·have ll:(ms ++ [x]).length = ms.length + 1:=by simp
   rw [ll,show N - (ms.length + 1) = N - ms.length - 1 by omega]
   exact zz
 ·rw [decide_eq_false (show ¬ ((ks.map V.ref).length:Int) < (N:Int) by omega)]
  rw [show N - ms.length = 0 by omega,post_members0] at k
  have gA:=g4.add hlmH hlm4 nlm4
  have sS:Same S4 (upd S4 lm (.lst (ks.map V.ref))):=same_at (same_refl S4) nlm4
  exists z0
  exact ⟨_,rfl,k H4 _ lm b4 gA st4.cu ⟨ks,upd_same,Paired.mapP pr fun _ _ h=>h.up sS⟩ (by omega)⟩
end
abbrev sReadFile:Stmt:=top 130
abbrev sReadStart:Stmt:=top 131
abbrev sReadFlags:Stmt:=top 132
abbrev sReadCls:Stmt:=top 133
abbrev sReadInts:Stmt:=top 134
inductive spFilI (A:Adr) (vs:List V) (H:Hp) (Q:VK) (E:XK):Prop
 | mk (x:Addr) (dx:Addr) (v1:V) (v2:V) (v3:V) (_:vs = [.ref x,v1,v2,v3]) (_:H x = some (.ins A.cFil dx [])) (_:∀ H' l1 l2 l3 l4,But [x] H H'→H' x = some (.ins A.cFil dx (kFil.zip [v1,v2,v3,.int 0,.int 0,.int 0,.ref l1,.ref l2,.ref l3,.ref l4]))→Q .non H')
def startP (b:List UInt8):CfFile.P (Nat × Nat × Pool):=do
 let x ← CfFile.num b 4
 CfFile.must (x == 0xCAFEBABE) CfFile.MAGIC 0
 let minor ← CfFile.num b 2
 let pv ← CfFile.here
 let major ← CfFile.num b 2
 CfFile.must (decide (45 ≤ major) && decide (major ≤ 65)) CfFile.VERSION pv
 let l ← poolP b
 return (minor,major,l)
inductive spStart (A:Adr) (vs:List V) (H:Hp) (Q:VK) (E:XK):Prop
 | mk (S:Hp) (c a:Addr) (b:List UInt8) (p:Nat) (_:vs = [.ref c]) (_:St A S H c a b p) (_:Post (startP b) p (fun y z=>∀ H' S1 kf q dk l1 l2 l3 l4,But [c] H H'→Grow S H S1 H'→CurIs A H' c a z→PoolAt A S1 q a b y.2.2→S1 kf = none→H kf = none →
  H' kf = some (.ins A.cFil dk (kFil.zip [.int (y.1:Int),.int (y.2.1:Int),.ref q,.int 0,.int 0,.int 0,.ref l1,.ref l2,.ref l3,.ref l4]))→Q (.ref kf) H') (fun r e=>Fails A [c] H E r e))
def flagsP (b:List UInt8):CfFile.P Nat:=do
 let pf ← CfFile.here
 let f ← CfFile.num b 2
 CfFile.must (!(CfFile.has f 16 && CfFile.has f 1024) && (!CfFile.has f 512 || CfFile.has f 1024)) CfFile.FLAGS pf
 return f
inductive spFlags (A:Adr) (vs:List V) (H:Hp) (Q:VK) (E:XK):Prop
 | mk (S:Hp) (c a:Addr) (b:List UInt8) (p:Nat) (_:vs = [.ref c]) (_:St A S H c a b p) (_:Post (flagsP b) p (fun f z=>∀ H',But [c] H H'→CurIs A H' c a z→Q (.int (f:Int)) H') (fun r e=>Fails A [c] H E r e))
def clsP (b:List UInt8) (l:Pool) (may:Bool):CfFile.P Nat:=do
 let p ← CfFile.here
 let n ← CfFile.num b 2
 if (n == 0 && may) = true then pure () else CfFile.plainClass l n p
 return n
def HeldC (l:Pool):CfFile.Const→Prop
 | .class_ i=>∃ s,CfFile.textAt l i = some s∧(CfFile.className s || CfFile.arrayName s) = true
 | .string i=>(CfFile.textAt l i).isSome = true
 | .type_ i=>(CfFile.textAt l i).isSome = true
 | .named i j=>(CfFile.textAt l i).isSome = true∧(CfFile.textAt l j).isSome = true
 | .member _ i j=>CfFile.isClass l i = true∧(CfFile.namedAt l j).isSome = true
 | .site _ j=>(CfFile.namedAt l j).isSome = true
 | _=>True
def Held (l:Pool):Prop:=∀ (i p:Nat) (c:CfFile.Const),l[i]? = some (some (p,c))→HeldC l c
theorem held_holds (l:Pool) (p:Nat) (c:CfFile.Const) (z:Nat) (OK:Unit→Nat→Prop) (ER:Nat→Nat→Prop) (k:Post (CfFile.holds l p c) z OK ER):Post (CfFile.holds l p c) z (fun u q=>HeldC l c∧OK u q) ER:=by
 cases c with
 | text s=>exact ⟨trivial,k⟩
 | word s t=>exact ⟨trivial,k⟩
 | wide s t=>exact ⟨trivial,k⟩
 | class_ i =>
  unfold CfFile.holds HeldC at *
  try dsimp only at *
  cases e:CfFile.textAt l i with
  | none=>rw [e] at k; exact k
  | some s =>
   rw [e] at k
   try dsimp only at *
   rw [post_must] at k ⊢
   split at k
   ·rename_i h; rw [if_pos h]; exact ⟨⟨s,rfl,h⟩,k⟩
   ·rename_i h; rw [if_neg h]; exact k
 | string i =>
  unfold CfFile.holds HeldC at *
  try dsimp only at *
  rw [post_must] at k ⊢
  split at k
  ·rename_i h; rw [if_pos h]; exact ⟨h,k⟩
  ·rename_i h; rw [if_neg h]; exact k
 | type_ i =>
  unfold CfFile.holds HeldC at *
  try dsimp only at *
  cases e:CfFile.textAt l i with
  | none=>rw [e] at k; exact k
  | some s =>
   rw [e] at k
   exact k.mono (fun _ _ h=>⟨rfl,h⟩) (fun _ _ h=>h)
 | named i j =>
  unfold CfFile.holds HeldC at *
  try dsimp only at *
  cases e:CfFile.textAt l i with
  | none=>rw [e] at k; exact k
  | some s =>
   cases e2:CfFile.textAt l j with
   | none=>rw [e,e2] at k; exact k
   | some t =>
    rw [e,e2] at k
    exact k.mono (fun _ _ h=>⟨⟨rfl,rfl⟩,h⟩) (fun _ _ h=>h)
 | member h i j =>
  rw [post_member] at k ⊢
  unfold HeldC
  by_cases hc:CfFile.isClass l i = true
  ·rw [if_pos hc] at k ⊢
   cases e:CfFile.namedAt l j with
   | none=>rw [e] at k; exact k
   | some st =>
    obtain ⟨s,t⟩:=st
    rw [e] at k
    try dsimp only at k ⊢
    by_cases h1:(if h = 9 then CfFile.isField t else CfFile.isMethod t) = true
    ·rw [if_pos h1] at k ⊢
     by_cases h2:(h == 9 || CfFile.callable h s t) = true
     ·rw [if_pos h2] at k ⊢; exact ⟨⟨hc,by rw [e]; rfl⟩,k⟩
     ·rw [if_neg h2] at k ⊢; exact k
    ·rw [if_neg h1] at k ⊢; exact k
  ·rw [if_neg hc] at k ⊢
   exact k
 | handle i j=>exact k.mono (fun _ _ h=>⟨trivial,h⟩) (fun _ _ h=>h)
 | site i j =>
  unfold CfFile.holds HeldC at *
  try dsimp only at *
  cases e:CfFile.namedAt l j with
  | none=>rw [e] at k; exact k
  | some st =>
   rw [e] at k
   exact k.mono (fun _ _ h=>⟨rfl,h⟩) (fun _ _ h=>h)
theorem held_all (l:Pool):∀ (r:Pool) (z:Nat) (OK:Unit→Nat→Prop) (ER:Nat→Nat→Prop),Post (CfFile.holdsAll l r) z OK ER→Post (CfFile.holdsAll l r) z (fun u q=>(∀ p c,some (p,c) ∈ r→HeldC l c)∧OK u q) ER
 | [],z,OK,ER,k=>⟨(fun p c h=>by cases h),k⟩
 | none :: r,z,OK,ER,k=>by
  unfold CfFile.holdsAll at k ⊢
  exact (held_all l r z OK ER k).mono (fun _ _ h=>⟨fun p c hm=>by
   rcases List.mem_cons.mp hm with e | e
   ·cases e
   ·exact h.1 p c e,h.2⟩) (fun _ _ h=>h)
 | some (p,c) :: r,z,OK,ER,k=>by
  unfold CfFile.holdsAll at k ⊢
  rw [post_bind] at k ⊢
  refine (held_holds l p c z _ _ k).mono (fun _ q h=>?_) (fun _ _ h=>h)
  exact (held_all l r q OK ER h.2).mono (fun _ _ h2=>⟨fun p' c' hm=>by
   rcases List.mem_cons.mp hm with e | e
   ·cases e; exact h.1
   ·exact h2.1 p' c' e,h2.2⟩) (fun _ _ h=>h)
theorem held_of {l:Pool} (h:∀ p c,some (p,c) ∈ l→HeldC l c):Held l:=fun i p c e=>h p c (List.mem_of_getElem? e)
theorem array_class {s:List UInt8} (h:(CfFile.className s || CfFile.arrayName s) = true):CfFile.className s = !decide (s.head? = some 91):=by
 cases s with
 | nil=>rw [show CfFile.arrayName [] = false from rfl,Bool.or_false] at h; rw [h]; rfl
 | cons c r =>
  by_cases e:c = 91
  ·subst e; rw [className_br]; rfl
  ·have e2:CfFile.arrayName (c :: r) = false:=by unfold CfFile.arrayName; rw [show ((c :: r).head? == some 91) = false by simp [e]]; rfl
   rw [e2,Bool.or_false] at h
   rw [h]
   simp [e]
theorem class_plain {b:List UInt8} {l:Pool} (ok:AllOk b l) (hd:Held l) {i:Nat} (h:CfFile.isClass l i = true):∃ s,firstOf l i = some s∧CfFile.classAt l i = some s∧(CfFile.classAt l i).any CfFile.className = !decide (s.head? = some 91):=by
 unfold CfFile.isClass at h
 split at h
 ·rename_i n e
  obtain ⟨p,hp⟩:=constAt_iff.mp e
  obtain ⟨s,hs,hn⟩:=hd i p _ hp
  have hcl:CfFile.classAt l i = some s:=by unfold CfFile.classAt; rw [e]; exact hs
  refine ⟨s,?_,hcl,?_⟩
  ·unfold firstOf; rw [hp]; exact hs
  ·rw [hcl]; exact array_class hn
 ·cases h
inductive spCls (A:Adr) (vs:List V) (H:Hp) (Q:VK) (E:XK):Prop
 | mk (S:Hp) (c q a:Addr) (b:List UInt8) (l:Pool) (p:Nat) (may:Bool) (_:vs = [.ref c,.ref q,.bl may]) (_:St A S H c a b p) (_:PoolAt A S q a b l) (_:Held l) (_:Post (clsP b l may) p (fun n z=>∀ H',But [c] H H'→CurIs A H' c a z→((n == 0 && may) = false→CfFile.isClass l n = true)→Q (.int (n:Int)) H') (fun r e=>Fails A [c] H E r e))
theorem makefil {A:Adr} {v1 v2 v3:V} {H:Hp} {R:Addr→Hp→Prop} {E:XK} (q:∀ H' x dx l1 l2 l3 l4,Same H H'→H x = none→H' x = some (.ins A.cFil dx (kFil.zip [v1,v2,v3,.int 0,.int 0,.int 0,.ref l1,.ref l2,.ref l3,.ref l4]))→R x H') :
  ∀ x dx,H x = none→H dx = none→dx ≠ x→spFilI A (.ref x :: ([v1,v2,v3] ++ [])) (upd (upd H dx (.own x)) x (.ins A.cFil dx [])) (fun v H2=>v = .non∧R x H2) E:=fun x dx hx hd ne=>by
 refine ⟨x,dx,v1,v2,v3,rfl,upd_same,fun H' l1 l2 l3 l4 b ex=>⟨rfl,?_⟩⟩
 refine q H' x dx l1 l2 l3 l4 (fun y o e=>b y o ?_ ?_) hx ex
 ·rw [upd_ne (ne_of_none e hx),upd_ne (ne_of_none e hd)]; exact e
 ·simpa using ne_of_none e hx
section
variable {P:Program} {w:World} {K:PySem.W.Frag} {mg:Str→Option Value} {base:Heap} {A:Adr}
theorem scFilI:FnScope ["self","minor","major","pool"] ["self","minor","major","pool"] (defScope sFilI):=scB
theorem d_filI (T:Txt K mg A) (src:MSrc K A.cFil "__init__" "ClassFile.__init__" sFilI):MDef P w K mg base 1 A.cFil "__init__" ["self","minor","major","pool"] (spFilI A):=by
 refine mdefR src scFilI (fun vs H Q E h=>?_) (fun f cdv A' outer s H vs Q E hr h=>?_)
 ·obtain ⟨x,dx,v1,v2,v3,rfl,_⟩:=h
  rfl
 obtain ⟨x,dx,v1,v2,v3,rfl,hx,k⟩:=h
 refine ⟨_,pss_cons (ps_fld (pv 0) (pv 1) rfl) (pss_cons (ps_fld (pv 0) (pv 2) rfl) (pss_cons (ps_fld (pv 0) (pv 3) rfl) (pss_cons (ps_fld (pv 0) pe_int rfl) (pss_cons (ps_fld (pv 0) pe_int rfl) (pss_cons (ps_fld (pv 0) pe_int rfl)
  (pss_cons (ps_fld (pv 0) (pe_lst pa_nil) rfl) (pss_cons (ps_fld (pv 0) (pe_lst pa_nil) rfl) (pss_cons (ps_fld (pv 0) (pe_lst pa_nil) rfl) (pss_one (ps_fld (pv 0) (pe_lst pa_nil) rfl)))))))))),?_⟩
 refine ⟨_,rfl,_,rfl,initgo (vs:=[]) T.fil hx (i:=0) rfl rfl ?_⟩
 refine ⟨_,rfl,_,rfl,initgo (vs:=[v1]) T.fil upd_same (i:=1) rfl rfl ?_⟩
 refine ⟨_,rfl,_,rfl,initgo (vs:=[v1,v2]) T.fil upd_same (i:=2) rfl rfl ?_⟩
 refine ⟨_,rfl,initgo (vs:=[v1,v2,v3]) T.fil upd_same (i:=3) rfl rfl ?_⟩
 refine ⟨_,rfl,initgo (vs:=[v1,v2,v3,.int 0]) T.fil upd_same (i:=4) rfl rfl ?_⟩
 refine ⟨_,rfl,initgo (vs:=[v1,v2,v3,.int 0,.int 0]) T.fil upd_same (i:=5) rfl rfl ?_⟩
 rw [updu,updu,updu,updu,updu]
 have stp:∀ {H1:Hp} {l:Addr} {o o':HO},But [x] H H1→H1 x = some o→H1 l = none→But [x] H (upd (upd H1 l (.lst [])) x o')∧x ≠ l:=fun {H1 l o o'} bt hx hl=>by
  have nl:x ≠ l:=ne_of_none hx hl
  refine ⟨fun y u e ny=>?_,nl⟩
  have e1:=bt y u e ny
  rw [upd_ne (by simpa using ny),upd_ne (ne_of_none e1 hl)]
  exact e1
 have b0:But [x] H (upd H x (.ins A.cFil dx ((kFil.take (5 + 1)).zip ([v1,v2,v3,.int 0,.int 0] ++ [.int 0])))):=but_upd
 have e0:(upd H x (.ins A.cFil dx ((kFil.take (5 + 1)).zip ([v1,v2,v3,.int 0,.int 0] ++ [.int 0])))) x = some _:=upd_same
 generalize upd H x (.ins A.cFil dx ((kFil.take (5 + 1)).zip ([v1,v2,v3,.int 0,.int 0] ++ [.int 0]))) = H0 at b0 e0 ⊢
 refine ⟨Nat.zero_le _,fun l1 hl1=>⟨_,rfl,initgo (vs:=[v1,v2,v3,.int 0,.int 0,.int 0]) T.fil (by rw [upd_ne (ne_of_none e0 hl1)]; exact e0) (i:=6) rfl rfl ?_⟩⟩
 have b1:=(stp (o':=.ins A.cFil dx ((kFil.take (6 + 1)).zip ([v1,v2,v3,.int 0,.int 0,.int 0] ++ [.ref l1]))) b0 e0 hl1).1
 have e1:(upd (upd H0 l1 (.lst [])) x (.ins A.cFil dx ((kFil.take (6 + 1)).zip ([v1,v2,v3,.int 0,.int 0,.int 0] ++ [.ref l1])))) x = some _:=upd_same
 generalize upd (upd H0 l1 (.lst [])) x (.ins A.cFil dx ((kFil.take (6 + 1)).zip ([v1,v2,v3,.int 0,.int 0,.int 0] ++ [.ref l1]))) = H1 at b1 e1 ⊢
 refine ⟨Nat.zero_le _,fun l2 hl2=>⟨_,rfl,initgo (vs:=[v1,v2,v3,.int 0,.int 0,.int 0,.ref l1]) T.fil (by rw [upd_ne (ne_of_none e1 hl2)]; exact e1) (i:=7) rfl rfl ?_⟩⟩
 have b2:=(stp (o':=.ins A.cFil dx ((kFil.take (7 + 1)).zip ([v1,v2,v3,.int 0,.int 0,.int 0,.ref l1] ++ [.ref l2]))) b1 e1 hl2).1
 have e2:(upd (upd H1 l2 (.lst [])) x (.ins A.cFil dx ((kFil.take (7 + 1)).zip ([v1,v2,v3,.int 0,.int 0,.int 0,.ref l1] ++ [.ref l2])))) x = some _:=upd_same
 generalize upd (upd H1 l2 (.lst [])) x (.ins A.cFil dx ((kFil.take (7 + 1)).zip ([v1,v2,v3,.int 0,.int 0,.int 0,.ref l1] ++ [.ref l2]))) = H2 at b2 e2 ⊢
 refine ⟨Nat.zero_le _,fun l3 hl3=>⟨_,rfl,initgo (vs:=[v1,v2,v3,.int 0,.int 0,.int 0,.ref l1,.ref l2]) T.fil (by rw [upd_ne (ne_of_none e2 hl3)]; exact e2) (i:=8) rfl rfl ?_⟩⟩
 have b3:=(stp (o':=.ins A.cFil dx ((kFil.take (8 + 1)).zip ([v1,v2,v3,.int 0,.int 0,.int 0,.ref l1,.ref l2] ++ [.ref l3]))) b2 e2 hl3).1
 have e3:(upd (upd H2 l3 (.lst [])) x (.ins A.cFil dx ((kFil.take (8 + 1)).zip ([v1,v2,v3,.int 0,.int 0,.int 0,.ref l1,.ref l2] ++ [.ref l3])))) x = some _:=upd_same
 generalize upd (upd H2 l3 (.lst [])) x (.ins A.cFil dx ((kFil.take (8 + 1)).zip ([v1,v2,v3,.int 0,.int 0,.int 0,.ref l1,.ref l2] ++ [.ref l3]))) = H3 at b3 e3 ⊢
 refine ⟨Nat.zero_le _,fun l4 hl4=>⟨_,rfl,initgo (vs:=[v1,v2,v3,.int 0,.int 0,.int 0,.ref l1,.ref l2,.ref l3]) T.fil (by rw [upd_ne (ne_of_none e3 hl4)]; exact e3) (i:=9) rfl rfl ?_⟩⟩
 have b4:=(stp (o':=.ins A.cFil dx ((kFil.take (9 + 1)).zip ([v1,v2,v3,.int 0,.int 0,.int 0,.ref l1,.ref l2,.ref l3] ++ [.ref l4]))) b3 e3 hl4).1
 exact k _ l1 l2 l3 l4 b4 upd_same
end
section
variable {P:Program} {w:World} {K:PySem.W.Frag} {mg:Str→Option Value} {base:Heap} {A:Adr}
theorem scReadStart:FnScope ["cursor","minor","place","major"] ["cursor"] (defScope sReadStart):=scB
theorem d_readStart (T:Txt K mg A) (src:Src K "read_start" sReadStart) (L:Lib P w K mg base A) (Df:MDef P w K mg base 1 A.cFil "__init__" ["self","minor","major","pool"] (spFilI A)):Def P w K mg base 8 "read_start" ["cursor"] (spStart A):=by
 refine defR src T.kx scReadStart (fun vs H Q E h=>?_) (fun f cdv A' outer s H vs Q E hr h=>?_)
 ·obtain ⟨S,c,a,b,p,rfl,_⟩:=h
  rfl
 obtain ⟨S,c,a,b,p,rfl,st,k⟩:=h
 have ⟨dx,hc⟩:=st.cu
 refine ⟨_,pss_cons (ps_expr (pe_d L.dem (rm hr) rfl passR (pa_cons (pe_cmpR op_eq (pe_md L.uns (pv 0) T.cur.cl (rm hr) passR (pa_cons pe_int pa_nil)) (pe_gi T.g_MAGIC rfl) (nomark _)) (pa_cons pe_int (pa_cons pe_int pa_nil)))))
  (pss_cons (ps_set (i:=1) scReadStart.nd rfl (Or.inl rfl) (pe_md L.uns (pv 0) T.cur.cl (rm hr) passR (pa_cons pe_int pa_nil)))
  (pss_cons (ps_set (i:=2) scReadStart.nd rfl (Or.inl rfl) (pe_fld (pv 0) rfl))
  (pss_cons (ps_set (i:=3) scReadStart.nd rfl (Or.inl rfl) (pe_md L.uns (pv 0) T.cur.cl (rm hr) passR (pa_cons pe_int pa_nil)))
  (pss_cons (ps_expr (pe_d L.dem (rm hr) rfl passR (pa_cons (pe_chain op_le op_le (pe_gi T.g_FIRST_MAJOR rfl) (pv 3) (pe_gi T.g_LAST_MAJOR rfl)) (pa_cons pe_int (pa_cons (pv 2) pa_nil)))))
  (pss_one (ps_ret (pe_mk Df T.mFil.mak T.mFil.kp (rm hr) rfl T.mFil.g passR (pa_cons (pv 1) (pa_cons (pv 3) (pa_cons (pe_d L.poo hr rfl passR (pa_cons (pv 0) pa_nil)) pa_nil)))))))))),?_⟩
 unfold startP at k
 simp only [post_bind,post_here,post_pure] at k
 exists _,z0
 refine ⟨_,rfl,methgo hc (by decide +kernel) ⟨c,a,b,p,4,rfl,st.cu,st.list,unsif st (But.refl _ _) k fun H1 _ b1 st1 hle k=>?_⟩⟩
 have ⟨dx1,hc1⟩:=st1.cu
 generalize big b p 4 = mg0 at k
 refine ⟨rfl,_,_,_,rfl,demif b1 k rfl rfl (dec_nat mg0 3405691582) fun _ k=>?_⟩
 exists z0,z0
 refine ⟨_,rfl,methgo hc1 (by decide +kernel) ⟨c,a,b,_,2,rfl,st1.cu,st1.list,unsif st1 b1 k fun H2 _ b2 st2 hle k=>?_⟩⟩
 have ⟨dx2,hc2⟩:=st2.cu
 generalize big b (p + 4) 2 = mi at k
 exists z0,z0
 refine ⟨_,rfl,fldgo (fun _ _=>_) T.cur hc2 (i:=1) rfl rfl ?_⟩
 exists z0,z0
 refine ⟨_,rfl,methgo hc2 (by decide +kernel) ⟨c,a,b,_,2,rfl,st2.cu,st2.list,unsif st2 b2 k fun H3 _ b3 st3 hle k=>?_⟩⟩
 have ⟨dx3,hc3⟩:=st3.cu
 generalize big b (p + 4 + 2) 2 = ma at k
 have bo:(decide ((45:Int) ≤ (ma:Int)) && decide ((ma:Int) ≤ 65)) = (decide (45 ≤ ma) && decide (ma ≤ 65)):=by
  congr 1
  ·rw [decide_eq_decide]; omega
  ·rw [decide_eq_decide]; omega
 exists z0,z0
 refine chain_go rfl ⟨_,rfl,_,_,_,rfl,demif b3 k rfl rfl bo fun _ k=>?_⟩
 exists z0
 refine ⟨_,rfl,_,rfl,_,rfl,S,c,a,b,_,rfl,st3,k.mono (fun l z k H4 S4 q b4 g4 cu4 po=>?_) (fun r e f=>f.next b3 fun _ h=>h)⟩
 have st4:=st3.grow g4 cu4
 refine makefil fun H5 kf dk l1 l2 l3 l4 s5 hkf ekf=>?_
 have st5:=st4.same s5
 have b34:=b3.trans b4
 have ⟨dx4,hc4⟩:=st4.cu
 have d4:Dom H H4:=dom_but1 b34 hc4
 exact k H5 S4 kf q dk l1 l2 l3 l4 (b34.trans (Same.but s5)) (((Grow.stay st3.le).trans (dom_but1 b3 hc3) g4).later st5.le) st5.cu po (same_none st4.le hkf) (dom_none d4 hkf) ekf
theorem scReadFlags:FnScope ["cursor","place","flags"] ["cursor"] (defScope sReadFlags):=scB
theorem d_readFlags (T:Txt K mg A) (src:Src K "read_flags" sReadFlags) (L:Lib P w K mg base A):Def P w K mg base 6 "read_flags" ["cursor"] (spFlags A):=by
 refine defR src T.kx scReadFlags (fun vs H Q E h=>?_) (fun f cdv A' outer s H vs Q E hr h=>?_)
 ·obtain ⟨S,c,a,b,p,rfl,_⟩:=h
  rfl
 obtain ⟨S,c,a,b,p,rfl,st,k⟩:=h
 have ⟨dx,hc⟩:=st.cu
 refine ⟨_,pss_cons (ps_set (i:=1) scReadFlags.nd rfl (Or.inl rfl) (pe_fld (pv 0) rfl))
  (pss_cons (ps_set (i:=2) scReadFlags.nd rfl (Or.inl rfl) (pe_md L.uns (pv 0) T.cur.cl hr passR (pa_cons pe_int pa_nil)))
  (pss_cons (ps_if (pt_truth (pe_op op_and (pv 2) (pe_gi T.g_ABSTRACT_whole rfl)) (fun _=>rfl))
   (pss_one (ps_expr (pe_d L.dem (rm hr) rfl passR (pa_cons (pe_notT (pe_op op_and (pv 2) (pe_gi T.g_FINAL rfl))) (pa_cons pe_int (pa_cons (pv 1) pa_nil))))))
   (pss_one (ps_expr (pe_d L.dem (rm hr) rfl passR (pa_cons (pe_notT (pe_op op_and (pv 2) (pe_gi T.g_INTERFACE rfl))) (pa_cons pe_int (pa_cons (pv 1) pa_nil)))))))
  (pss_one (ps_ret (pv 2))))),?_⟩
 unfold flagsP at k
 simp only [post_bind,post_here,post_pure] at k
 exists _,z0
 refine ⟨_,rfl,fldgo (fun _ _=>_) T.cur hc (i:=1) rfl rfl ?_⟩
 exists z0,z0
 refine ⟨_,rfl,methgo hc (by decide +kernel) ⟨c,a,b,p,2,rfl,st.cu,st.list,unsif st (But.refl _ _) k fun H1 _ b1 st1 hle k=>?_⟩⟩
 generalize big b p 2 = fl at k
 have eA:CfFile.has fl 1024 = ((fl &&& 1024) != 0):=has_of fl 1024 10 rfl
 have eF:CfFile.has fl 16 = ((fl &&& 16) != 0):=has_of fl 16 4 rfl
 have eI:CfFile.has fl 512 = ((fl &&& 512) != 0):=has_of fl 512 9 rfl
 exists z0,z0
 refine ⟨_,rfl,_,_,rfl,rfl,CfFile.has fl 1024,tru_and fl 1024 _ eA,?_⟩
 cases hA:CfFile.has fl 1024 with
 | true =>
  rw [hA,Bool.and_true,Bool.or_true,Bool.and_true] at k
  refine ⟨_,rfl,_,_,rfl,rfl,CfFile.has fl 16,tru_and fl 16 _ eF,_,rfl,_,_,_,rfl,demif b1 k rfl rfl rfl fun _ k=>?_⟩
  exists z0
  exact ⟨_,rfl,k H1 b1 st1.cu⟩
 | false =>
  rw [hA,Bool.and_false,Bool.or_false] at k
  refine ⟨_,rfl,_,_,rfl,rfl,CfFile.has fl 512,tru_and fl 512 _ eI,_,rfl,_,_,_,rfl,demif b1 k rfl rfl rfl fun _ k=>?_⟩
  exists z0
  exact ⟨_,rfl,k H1 b1 st1.cu⟩
theorem scReadCls:FnScope ["cursor","pool","may_be_none","place","number"] ["cursor","pool","may_be_none"] (defScope sReadCls):=scB
theorem d_readCls (T:Txt K mg A) (src:Src K "read_class_number" sReadCls) (L:Lib P w K mg base A):Def P w K mg base 6 "read_class_number" ["cursor","pool","may_be_none"] (spCls A):=by
 refine defR src T.kx scReadCls (fun vs H Q E h=>?_) (fun f cdv A' outer s H vs Q E hr h=>?_)
 ·obtain ⟨S,c,q,a,b,l,p,may,rfl,_⟩:=h
  rfl
 obtain ⟨S,c,q,a,b,l,p,may,rfl,st,po,hd,k⟩:=h
 have ⟨dx,hc⟩:=st.cu
 refine ⟨_,pss_cons (ps_set (i:=3) scReadCls.nd rfl (Or.inl rfl) (pe_fld (pv 0) rfl))
  (pss_cons (ps_set (i:=4) scReadCls.nd rfl (Or.inl rfl) (pe_md L.uns (pv 0) T.cur.cl hr passR (pa_cons pe_int pa_nil)))
  (pss_cons (ps_if (ptw (pw_and (pt_cmpR op_eq (pv 4) pe_int (nomark _)) (pw_and1 (pt_val (pv 2))))) (pss_one (ps_ret (pv 4))) pss_nil)
  (pss_cons (ps_expr (pe_d L.dem (rm hr) rfl passR (pa_cons (pe_cmpR op_eq (pe_md L.tag (pv 1) T.poo.cl (rm hr) passR (pa_cons (pv 4) pa_nil)) (pe_gi T.g_CLASS rfl) (nomark _)) (pa_cons pe_int (pa_cons (pv 3) pa_nil)))))
  (pss_cons (ps_expr (pe_d L.dem (rm hr) rfl passR (pa_cons (pe_not (pe_d L.arr (rm hr) rfl passR (pa_cons (pe_md L.fro (pv 1) T.poo.cl (rm hr) passR (pa_cons (pv 4) pa_nil)) pa_nil))) (pa_cons pe_int (pa_cons (pv 3) pa_nil)))))
  (pss_one (ps_ret (pv 4))))))),?_⟩
 unfold clsP at k
 simp only [post_bind,post_here,post_pure] at k
 exists _,z0
 refine ⟨_,rfl,fldgo (fun _ _=>_) T.cur hc (i:=1) rfl rfl ?_⟩
 exists z0,z0
 refine ⟨_,rfl,methgo hc (by decide +kernel) ⟨c,a,b,p,2,rfl,st.cu,st.list,unsif st (But.refl _ _) k fun H1 _ b1 st1 hle k=>?_⟩⟩
 generalize big b p 2 = n at k
 obtain ⟨dq,cl,hq⟩:=po.hq st1.le
 have go:Post (CfFile.plainClass l n p) (p + 2) (fun _ q=>∀ H',But [c] H H'→CurIs A H' c a q→((n == 0 && may) = false→CfFile.isClass l n = true)→Q (.int (n:Int)) H') (fun r e=>Fails A [c] H E r e) →
   tSeq (tDrop (tCall (spDemand A) [] E (tCons (tOp rEq (tMeth A.cPoo "tag_of" (spPool A fun l n=>.int (tagAt l n:Int)) [] E (tVar 1) (tCons (tVar 4) tNil)) (tC (.int 7))) (tCons (tC (.int 8)) (tCons (tVar 3) tNil)))))
    (tSeq (tDrop (tCall (spDemand A) [] E (tCons (tNotV (tCall (spRow fun b=>.bl (decide (b.head? = some 91))) [] E (tCons (tMeth A.cPoo "first_row" (spGive A firstOf) [] E (tVar 1) (tCons (tVar 4) tNil)) tNil))) (tCons (tC (.int 9)) (tCons (tVar 3) tNil))))) (tRet (tVar 4)))
    { nx:=fun _ H'=>Q .non H',rt:=Q } [some (.ref c),some (.ref q),some (.bl may),some (.int (p:Int)),some (.int (n:Int))] H1:=fun k=>by
  unfold CfFile.plainClass at k
  rw [post_bind] at k
  exists _,z1
  refine ⟨_,rfl,methgo hq (by decide +kernel) ⟨_,rfl,S,q,a,b,l,n,rfl,po,st1.le,rfl,_,rfl,_,_,_,rfl,demif b1 k rfl rfl ?_ fun hcl k=>?_⟩⟩
  ·rw [isClass_tag po.ok]
   exact dec_nat _ 7
  obtain ⟨s1,hf,hca,hpl⟩:=class_plain po.ok hd hcl
  rw [hpl] at k
  exists z1,z1
  refine ⟨_,rfl,methgo hq (by decide +kernel) ⟨_,rfl,S,q,a,b,l,n,s1,rfl,po,st1.le,hf,fun H2 r s2 _ hr2=>⟨r,s1,rfl,hr2,fun H3 s3=>⟨_,rfl,_,rfl,_,_,_,rfl,demif (b1.trans (Same.but (s2.trans s3))) k rfl rfl rfl fun _ k=>?_⟩⟩⟩⟩
  exists z1
  exact ⟨_,rfl,k H3 (b1.trans (Same.but (s2.trans s3))) (st1.same (s2.trans s3)).cu fun _=>hcl⟩
 have gk:Post (CfFile.plainClass l n p >>= fun _=>pure n) (p + 2) (fun n z=>∀ H',But [c] H H'→CurIs A H' c a z→((n == 0 && may) = false→CfFile.isClass l n = true)→Q (.int (n:Int)) H') (fun r e=>Fails A [c] H E r e)→Post (CfFile.plainClass l n p) (p + 2) (fun _ q=>∀ H',But [c] H H'→CurIs A H' c a q→((n == 0 && may) = false→CfFile.isClass l n = true)→Q (.int (n:Int)) H') (fun r e=>Fails A [c] H E r e):=fun k=>by
  rw [post_bind] at k
  exact k
 exists z0
 refine ⟨_,rfl,rfl,_,rfl,?_⟩
 rw [show decide (V.int (n:Int) = V.int 0) = (n == 0) from dec_nat n 0]
 cases h0:(n == 0) with
 | false =>
  rw [h0] at k
  exact go (gk k)
 | true =>
  rw [h0] at k
  refine ⟨_,rfl,may,rfl,?_⟩
  cases may with
  | true=>exact ⟨_,rfl,k H1 b1 st1.cu fun z=>by rw [h0] at z; cases z⟩
  | false=>exact go (gk k)
end
def intsP (b:List UInt8) (l:Pool):CfFile.P (List Nat):=do
 let n ← CfFile.num b 2
 CfFile.interfaces b l n []
inductive spInts (A:Adr) (vs:List V) (H:Hp) (Q:VK) (E:XK):Prop
 | mk (S:Hp) (c q a:Addr) (b:List UInt8) (l:Pool) (p:Nat) (_:vs = [.ref c,.ref q]) (_:St A S H c a b p) (_:PoolAt A S q a b l) (_:Held l) (_:Post (intsP b l) p (fun is z=>∀ H' S1 k,But [c] H H'→Grow S H S1 H'→CurIs A H' c a z→S1 k = some (.lst (is.map fun (i:Nat)=>V.int (i:Int)))→is.length ≤ 65535→Q (.ref k) H') (fun r e=>Fails A [c] H E r e))
theorem post_intsS (b:List UInt8) (l:Pool) (n:Nat) (prev:List Nat) (z:Nat) (OK:List Nat→Nat→Prop) (ER:Nat→Nat→Prop) (k:Post (CfFile.interfaces b l (n + 1) prev) z OK ER) :
  Post (clsP b l false) z (fun i q=>Post (CfFile.must (!prev.any fun j=>CfFile.classAt l j == CfFile.classAt l i) CfFile.TWICE z) q (fun _ q=>Post (CfFile.interfaces b l n (prev ++ [i])) q OK ER) ER) ER:=by
 rw [CfFile.interfaces] at k
 unfold clsP
 simp only [post_bind,post_here,post_pure,Bool.and_false] at k ⊢
 refine k.mono (fun i q k=>?_) (fun _ _ h=>h)
 rw [if_neg (by decide),post_bind]
 exact k
def nkv (names:List (List UInt8)):List (List Key × V):=names.map fun s=>(bk s,V.bl true)
theorem nkv_has (l:Pool) (s:List UInt8):∀ {is:List Nat} {names:List (List UInt8)},Paired (fun j s=>CfFile.classAt l j = some s) is names→(valV (nkv names) (bk s)).isSome = is.any fun j=>CfFile.classAt l j == some s
 | _,_,.nil=>rfl
 | i :: is,x :: names,.cons h t=>by
  have ih:=nkv_has l s t
  rw [← valV_any] at ih ⊢
  unfold nkv at ih ⊢
  rw [List.map_cons,List.any_cons,List.any_cons,ih]
  congr 1
  show decide (bk x = bk s) = _
  have h:CfFile.classAt l i = some x:=h
  rw [h]
  by_cases e:x = s
  ·rw [e]; simp
  ·rw [decide_eq_false fun z=>e (bk_inj z)]
   symm
   exact beq_eq_false_iff_ne.mpr fun z=>e (Option.some.inj z)
section
variable {P:Program} {w:World} {K:PySem.W.Frag} {mg:Str→Option Value} {base:Heap} {A:Adr}
theorem scReadInts:FnScope ["cursor","pool","size","interfaces","seen","place","number","name"] ["cursor","pool"] (defScope sReadInts):=scB
inductive IntW (A:Adr) (c q li d a:Addr) (b:List UInt8) (l:Pool) (N:Nat) (S H:Hp) (Q:VK) (E:XK) (m:Nat) (σ:L2.St) (H':Hp):Prop
 | mk (is:List Nat) (names:List (List UInt8)) (z:Nat) (v5 v6 v7:Option V) (_:σ = [some (.ref c),some (.ref q),some (.int (N:Int)),some (.ref li),some (.ref d),v5,v6,v7]) (_:m = N - is.length) (_:is.length ≤ N) (_:St A S H' c a b z) (_:But [c] H H') (_:H' li = some (.lst (is.map fun (i:Nat)=>V.int (i:Int)))) (_:H' d = some (.dT (nkv names))) (_:Paired (fun j s=>CfFile.classAt l j = some s) is names) (_:Post (CfFile.interfaces b l (N - is.length) is) z (fun is z=>∀ H' S1 k,But [c] H H'→Grow S H S1 H'→CurIs A H' c a z→S1 k = some (.lst (is.map fun (i:Nat)=>V.int (i:Int)))→is.length ≤ 65535→Q (.ref k) H') (fun r e=>Fails A [c] H E r e))
theorem d_readInts (T:Txt K mg A) (src:Src K "read_interfaces" sReadInts) (L:Lib P w K mg base A) (Dc:Def P w K mg base 6 "read_class_number" ["cursor","pool","may_be_none"] (spCls A)):Def P w K mg base 7 "read_interfaces" ["cursor","pool"] (spInts A):=by
 refine defR src T.kx scReadInts (fun vs H Q E h=>?_) (fun f cdv A' outer s H vs Q E hr h=>?_)
 ·obtain ⟨S,c,q,a,b,l,p,rfl,_⟩:=h
  rfl
 obtain ⟨S,c,q,a,b,l,p,rfl,st,po,hhd,k⟩:=h
 have ⟨dx,hc⟩:=st.cu
 have hu:(cxOf (CXR P w) P w K mg base ["cursor","pool","size","interfaces","seen","place","number","name"] "read_interfaces" (defScope sReadInts) f cdv A' outer s H E).A.units + 1 < cLine:=by
  have z:=hr.units
  exact Nat.lt_of_le_of_lt (Nat.add_le_add_left (by decide) _) z
 refine ⟨_,pss_cons (ps_set (i:=2) scReadInts.nd rfl (Or.inl rfl) (pe_md L.uns (pv 0) T.cur.cl (rm hr) passR (pa_cons pe_int pa_nil)))
  (pss_cons (ps_set (i:=3) scReadInts.nd rfl (Or.inl rfl) (pe_lst pa_nil))
  (pss_cons (ps_set (i:=4) scReadInts.nd rfl (Or.inl rfl) pe_dnewT)
  (pss_cons (ps_while ownR (pt_cmpR op_lt (pe_callB call_len_seq (by rfl) T.nLen PySem.boot_len (pa_cons (pv 3) pa_nil)) (pv 2) (nomark _))
   (pss_cons (ps_set (i:=5) scReadInts.nd rfl (Or.inl rfl) (pe_fld (pv 0) rfl))
   (pss_cons (ps_set (i:=6) scReadInts.nd rfl (Or.inl rfl) (pe_d Dc hr rfl passR (pa_cons (pv 0) (pa_cons (pv 1) (pa_cons pe_bl pa_nil)))))
   (pss_cons (ps_set (i:=7) scReadInts.nd rfl (Or.inl rfl) (pe_callTy call_tuple_of (by rfl) T.nTup PyProof.Rows.boot_tuple (pa_cons (pe_md L.fro (pv 1) T.poo.cl (rm hr) passR (pa_cons (pv 6) pa_nil)) pa_nil)))
   (pss_cons (ps_expr (pe_d L.dem (rm hr) rfl passR (pa_cons (pe_cmp (pc_dnotin hu (pv 7) (pv 4))) (pa_cons pe_int (pa_cons (pv 5) pa_nil)))))
   (pss_cons (ps_dput hu (pv 4) (pv 7) pe_bl rfl)
   (pss_one (ps_expr (pe_bm PySem.F.plainAttrs_list PySem.F.slot_list_append PySem.F.type_list_append mt_append (pv 3) (pa_cons (pv 6) pa_nil))))))))))
  (pss_one (ps_ret (pv 3)))))),?_⟩
 unfold intsP at k
 simp only [post_bind] at k
 exists _,z0
 refine ⟨_,rfl,methgo hc (by decide +kernel) ⟨c,a,b,p,2,rfl,st.cu,st.list,unsif st (But.refl _ _) k fun H1 _ b1 st1 hle k=>?_⟩⟩
 have hN:=big2_lt b p
 generalize big b p 2 = N at k hN
 have ⟨dx1,hc1⟩:=st1.cu
 exists z0,z0
 refine ⟨Nat.zero_le _,fun li hli=>?_⟩
 have d1:Dom H H1:=dom_but1 b1 hc1
 have ncl:c ≠ li:=ne_of_none hc1 hli
 have nSl:S li = none:=same_none st1.le hli
 have hliH:H li = none:=dom_none d1 hli
 have st2:=st1.put (o:=.lst []) nSl ncl
 have hli2:(upd H1 li (.lst [])) li = some (.lst []):=upd_same
 have b2:=but_at (o:=.lst []) b1 hliH
 generalize upd H1 li (.lst []) = H2 at *
 exists z0,z0
 refine fun d hd=>?_
 have ⟨dx2,hc2⟩:=st2.cu
 have ncd:c ≠ d:=ne_of_none hc2 hd
 have nld:li ≠ d:=ne_of_none hli2 hd
 have nSd:S d = none:=same_none st2.le hd
 have hdH:H d = none:=dom_none (dom_but1 b2 hc2) hd
 exists z0,z0
 refine ⟨IntW A c q li d a b l N S H Q E,
  ⟨N,[],[],p + 2,none,none,none,rfl,rfl,Nat.zero_le _,st2.put nSd ncd,but_at b2 hdH,by rw [upd_ne nld]; exact hli2,upd_same,.nil,k⟩,?_⟩
 clear st1 st2 b1 b2 hc1 hc2 hli2
 rintro m σ H4 ⟨is,names,z,v5,v6,v7,rfl,rfl,hl,st4,b4,hli4,hd4,pr,k⟩
 have ⟨dx4,hc4⟩:=st4.cu
 have hml:(is.map fun (i:Nat)=>V.int (i:Int)).length = is.length:=by rw [List.length_map]
 refine ⟨_,rfl,li,_,rfl,.inl (SqL.of hli4),_,rfl,_,_,rfl,rfl,_,rfl,?_⟩
 by_cases hlt:is.length < N
 ·rw [decide_eq_true (show ((is.map fun (i:Nat)=>V.int (i:Int)).length:Int) < (N:Int) by omega)]
  refine ⟨fun σ' H'=>∃ m',m' < N - is.length∧IntW A c q li d a b l N S H Q E m' σ' H',fun _ _ h=>h,?_⟩
  rw [show N - is.length = (N - is.length - 1) + 1 by omega] at k
  exists _,z1
  refine ⟨_,rfl,fldgo (fun _ _=>_) T.cur hc4 (i:=1) rfl rfl ?_⟩
  exists z1,z1
  refine ⟨_,rfl,_,rfl,S,c,q,a,b,l,z,false,rfl,st4,po,hhd,(post_intsS _ _ _ _ _ _ _ k).mono (fun i z2 k H5 b5 cu5 hic=>?_) (fun r e f=>f.next b4 fun _ h=>h)⟩
  have hic:=hic (by rw [Bool.and_false])
  have st5:=st4.step b5 cu5
  have bb5:=b4.trans b5
  have hli5:=b5 _ _ hli4 (by simpa using Ne.symm ncl)
  have hd5:=b5 _ _ hd4 (by simpa using Ne.symm ncd)
  obtain ⟨dq,cl,hq5⟩:=po.hq st5.le
  obtain ⟨sn,hf,hca,_⟩:=class_plain po.ok hhd hic
  exists z1,z1
  refine ⟨_,rfl,methgo hq5 (by decide +kernel) ⟨_,rfl,S,q,a,b,l,i,sn,rfl,po,st5.le,hf,fun H6 r s6 _ hr6=>⟨r,_,rfl,.inl ⟨SqL.of hr6,fun t ht=>?_⟩⟩⟩⟩
  have s7:=s6.trans (same_new (o:=.tup (bv sn)) ht)
  have et:(upd H6 t (.tup (bv sn))) t = some (.tup ((bk sn).map kV)):=by rw [bk_bv]; exact upd_same
  generalize upd H6 t (.tup (bv sn)) = H7 at s7 et ⊢
  have st7:=st5.same s7
  have bb7:=bb5.trans (Same.but s7)
  have hd7:=s7 _ _ hd5
  have hli7:=s7 _ _ hli5
  exists z1,z1
  refine ⟨_,rfl,_,rfl,d,_,rfl,DGet.t hd7 et,_,rfl,_,_,_,rfl,demif bb7 k rfl rfl ?_ fun hno k=>?_⟩
  ·rw [nkv_has l sn pr,hca]
  have hno':(valV (nkv names) (bk sn)).isSome = false:=by
   rw [nkv_has l sn pr]
   rw [hca] at hno
   exact Bool.not_eq_true' .. ▸ hno
  have hput:putK (nkv names) (bk sn) (V.bl true) = nkv (names ++ [sn]):=by
   unfold putK
   rw [valV_any,hno',if_neg (by decide)]
   unfold nkv
   rw [List.map_append]
   rfl
  have hnl:=paired_len pr
  exists z1,z1
  refine ⟨_,rfl,_,rfl,d,_,rfl,DPut.t hd7 et (by unfold nkv; rw [List.length_map]; exact szl (by omega)),?_⟩
  exists z1
  rw [hput]
  have st8:=st7.put (o:=.dT (nkv (names ++ [sn]))) nSd ncd
  have bb8:=but_at (o:=.dT (nkv (names ++ [sn]))) bb7 hdH
  have hli8:(upd H7 d (.dT (nkv (names ++ [sn])))) li = _:=(upd_ne nld).trans hli7
  have hd8:(upd H7 d (.dT (nkv (names ++ [sn])))) d = _:=upd_same
  generalize upd H7 d (.dT (nkv (names ++ [sn]))) = H8 at st8 bb8 hli8 hd8 ⊢
  refine ⟨_,rfl,.inl ⟨rfl,_,SqL.of hli8⟩,_,rfl,li,_,_,rfl,rfl,hli8,szl (by omega),?_⟩
  refine ⟨N - (is.length + 1),by omega,is ++ [i],names ++ [sn],z2,_,_,_,rfl,by simp only [List.length_append,List.length_singleton],by simp only [List.length_append,List.length_singleton]; omega,st8.put nSl ncl,but_at bb8 hliH,by rw [upd_same,List.map_append]; rfl,by rw [upd_ne (Ne.symm nld)]; exact hd8,paired_snoc pr hca,?_⟩
  have ll:(is ++ [i]).length = is.length + 1:=by simp
  rw [ll,show N - (is.length + 1) = N - is.length - 1 by omega]
  exact k
 ·rw [decide_eq_false (show ¬ ((is.map fun (i:Nat)=>V.int (i:Int)).length:Int) < (N:Int) by omega)]
  rw [show N - is.length = 0 by omega] at k
  exists z0
  exact ⟨_,rfl,k H4 _ li b4 ((Grow.stay st4.le).add hliH hli4 nSl) st4.cu upd_same (show is.length ≤ 65535 by omega)⟩
end
theorem post_file {b:List UInt8} {OK:CfFile.File→Nat→Prop} {ER:Nat→Nat→Prop} (k:Post (CfFile.file b) 0 OK ER) :
  Post (startP b) 0 (fun y q=>Post (CfFile.holdsAll y.2.2 y.2.2) q (fun _ q=>Post (flagsP b) q (fun f q=>Post (clsP b y.2.2 false) q (fun t q=>Post (clsP b y.2.2 true) q (fun s q=>Post (intsP b y.2.2) q (fun is q =>
   Post (memsP b y.2.2 CfFile.field) q (fun fs q=>Post (memsP b y.2.2 CfFile.method) q (fun ms q=>Post (CfFile.attrs b y.2.2) q (fun as q=>Post (CfFile.must (q == b.length) CfFile.MORE q) q (fun _ q =>
    OK ⟨b,y.1,y.2.1,y.2.2,f,t,s,is,fs,ms,as⟩ q) ER) ER) ER) ER) ER) ER) ER) ER) ER) ER:=by
 unfold CfFile.file at k
 unfold startP poolP flagsP clsP intsP memsP
 simp only [post_bind,post_here,post_pure,Bool.and_false,Bool.and_true] at k ⊢
 refine k.mono (fun _ _ k=>k.mono (fun _ _ k=>k.mono (fun _ _ k=>k.mono (fun _ _ k=>k.mono (fun _ _ k=>k.mono (fun _ _ k=>k.mono (fun _ _ k=>k.mono (fun l0 _ k=>?_) (fun _ _ h=>h)) (fun _ _ h=>h)) (fun _ _ h=>h)) (fun _ _ h=>h)) (fun _ _ h=>h)) (fun _ _ h=>h)) (fun _ _ h=>h)) (fun _ _ h=>h)
 rw [CfFile.holdsAll]
 refine k.mono (fun _ _ k=>k.mono (fun _ _ k=>k.mono (fun _ _ k=>k.mono (fun t _ k=>?_) (fun _ _ h=>h)) (fun _ _ h=>h)) (fun _ _ h=>h)) (fun _ _ h=>h)
 rw [if_neg (by decide),post_bind]
 refine k.mono (fun _ _ k=>?_) (fun _ _ h=>h)
 rw [post_pure]
 refine k.mono (fun s _ k=>?_) (fun _ _ h=>h)
 by_cases hs:s = 0
 ·rw [if_pos hs] at k
  rw [if_pos (beq_iff_eq.mpr hs)]
  simp only [post_bind,post_here,post_pure] at k ⊢
  exact k
 ·rw [if_neg hs] at k
  rw [if_neg (by simpa using hs)]
  simp only [post_bind,post_here,post_pure] at k ⊢
  exact k
theorem setgo2 {K:PySem.W.Frag} {C a dx:Addr} {ks:List Str} {vs us:List V} {i:Nat} {f:Str} {y:V} {H:Hp} {Q:Hp→Prop} (c:Kl K C ks) (h:H a = some (.ins C dx (ks.zip vs))) (hi:ks[i]? = some f) (hl:vs.length = ks.length) (hu:vs.set i y = us) (q:∀ H1,H1 = upd H a (.ins C dx (ks.zip us))→Q H1) :
  SFldI K f y Q (V.ref a) H :=
 setgo c h hi hl (by subst hu; exact q _ rfl)
inductive spFile (A:Adr) (vs:List V) (H:Hp) (Q:VK) (E:XK):Prop
 | mk (S:Hp) (a:Addr) (b:List UInt8) (_:vs = [.ref a]) (_:Same S H) (_:S a = some (.lst (bv b))) (_:Post (CfFile.file b) 0 (fun x _=>∀ H' S1 k,Same H H'→Grow S H S1 H'→FiAt A S1 k x→Held x.pool→Q (.ref k) H') (fun r e=>Fails A [] H E r e))
structure Whl (P:Program) (w:World) (K:PySem.W.Frag) (mg:Str→Option Value) (base:Heap) (A:Adr):Prop where
 sta:Def P w K mg base 8 "read_start" ["cursor"] (spStart A)
 chk:Def P w K mg base 10 "check_pool" ["pool"] (spCkP A)
 fla:Def P w K mg base 6 "read_flags" ["cursor"] (spFlags A)
 cls:Def P w K mg base 6 "read_class_number" ["cursor","pool","may_be_none"] (spCls A)
 int:Def P w K mg base 7 "read_interfaces" ["cursor","pool"] (spInts A)
 mem:Def P w K mg base 10 "read_members" ["cursor","pool","read_member"] (spMems A P w K mg base)
 fie:Def P w K mg base 9 "read_field" ["cursor","pool","seen"] (spMem A P w CfFile.field)
 met:Def P w K mg base 9 "read_method" ["cursor","pool","seen"] (spMem A P w CfFile.method)
 ats:Def P w K mg base 7 "read_attributes" ["cursor","pool"] (spAttrs A)
section
variable {P:Program} {w:World} {K:PySem.W.Frag} {mg:Str→Option Value} {base:Heap} {A:Adr}
theorem def_calF {k:Nat} {x:Str} {ps:List Str} {sp:Sp} (D:Def P w K mg base k x ps sp):∃ f,mg x = some (.ref f)∧CalF P w K mg base k f sp:=by
 obtain ⟨f,fd,hm,hk,F,b⟩:=D
 exact ⟨f,hm,fd,ps,F,hk,b⟩
theorem scReadFile:FnScope ["content","cursor","whole"] ["content"] (defScope sReadFile):=scB
theorem d_readFile (T:Txt K mg A) (src:Src K "read_file" sReadFile) (L:Lib P w K mg base A) (W:Whl P w K mg base A):Def P w K mg base 11 "read_file" ["content"] (spFile A):=by
 refine defR src T.kx scReadFile (fun vs H Q E h=>?_) (fun f cdv A' outer s H vs Q E hr h=>?_)
 ·obtain ⟨S,a,b,rfl,_⟩:=h
  rfl
 obtain ⟨S,a,b,rfl,le,hSa,k⟩:=h
 obtain ⟨ff,gf,calf⟩:=def_calF W.fie
 obtain ⟨fm,gm,calm⟩:=def_calF W.met
 refine ⟨_,pss_cons (ps_set (i:=1) scReadFile.nd rfl (Or.inl rfl) (pe_mk L.iCur T.mCur.mak T.mCur.kp (rm hr) rfl T.mCur.g passR (pa_cons (pv 0) (pa_cons pe_int pa_nil))))
  (pss_cons (ps_set (i:=2) scReadFile.nd rfl (Or.inl rfl) (pe_d W.sta (rm hr) rfl passR (pa_cons (pv 1) pa_nil)))
  (pss_cons (ps_expr (pe_d W.chk hr rfl passR (pa_cons (pe_fld (pv 2) rfl) pa_nil)))
  (pss_cons (ps_fld (pv 2) (pe_d W.fla (rm hr) rfl passR (pa_cons (pv 1) pa_nil)) rfl)
  (pss_cons (ps_fld (pv 2) (pe_d W.cls (rm hr) rfl passR (pa_cons (pv 1) (pa_cons (pe_fld (pv 2) rfl) (pa_cons pe_bl pa_nil)))) rfl)
  (pss_cons (ps_fld (pv 2) (pe_d W.cls (rm hr) rfl passR (pa_cons (pv 1) (pa_cons (pe_fld (pv 2) rfl) (pa_cons pe_bl pa_nil)))) rfl)
  (pss_cons (ps_fld (pv 2) (pe_d W.int (rm hr) rfl passR (pa_cons (pv 1) (pa_cons (pe_fld (pv 2) rfl) pa_nil))) rfl)
  (pss_cons (ps_fld (pv 2) (pe_d W.mem hr rfl passR (pa_cons (pv 1) (pa_cons (pe_fld (pv 2) rfl) (pa_cons (pe_glob rfl gf (v:=.ref ff) rfl) pa_nil)))) rfl)
  (pss_cons (ps_fld (pv 2) (pe_d W.mem hr rfl passR (pa_cons (pv 1) (pa_cons (pe_fld (pv 2) rfl) (pa_cons (pe_glob rfl gm (v:=.ref fm) rfl) pa_nil)))) rfl)
  (pss_cons (ps_fld (pv 2) (pe_d W.ats (rm hr) rfl passR (pa_cons (pv 1) (pa_cons (pe_fld (pv 2) rfl) pa_nil))) rfl)
  (pss_cons (ps_expr (pe_d L.dem (rm hr) rfl passR (pa_cons (pe_cmpR op_eq (pe_fld (pv 1) rfl) (pe_callB call_len_seq (by rfl) T.nLen PySem.boot_len (pa_cons (pv 0) pa_nil)) (nomark _)) (pa_cons pe_int (pa_cons (pe_fld (pv 1) rfl) pa_nil)))))
  (pss_one (ps_ret (pv 2))))))))))))),?_⟩
 exists _,z0
 refine ⟨_,rfl,makeR (C:=A.cCur) (ks:=kCur) (us:=[.ref a,.int 0]) rfl fun H1 c dc s1 hcn hc1=>?_⟩
 have st1:St A S H1 c a b 0:=⟨le.trans s1,same_none le hcn,hSa,⟨dc,hc1⟩⟩
 have k:=post_file (k.cutR s1 hcn)
 exists z0,z0
 refine ⟨_,rfl,S,c,a,b,0,rfl,st1,k.mono (fun y z k H2 S2 kf q dk l1 l2 l3 l4 b2 g2 cu2 po nkf2 hkf ekf=>?_) (fun r e f=>f)⟩
 obtain ⟨mi,ma,l⟩:=y
 try dsimp only at k po ekf
 have st2:=st1.grow g2 cu2
 have nck:c ≠ kf:=ne_of_none hc1 hkf
 have hkfH:H kf = none:=dom_none (Same.dom s1) hkf
 exists z0,z0
 refine ⟨_,rfl,fldgo (fun _ _=>_) T.fil ekf (i:=2) rfl rfl ⟨S2,q,a,b,l,z,rfl,po,st2.le,(keeps_holdsAll l l _ _ _ (held_all l l _ _ _ k)).mono (fun _ z3 ⟨hz3,hhd,kq⟩ H3 s3=>?_) (fun r e f=>f.next b2 fun _ h=>by simp at h)⟩⟩
 subst hz3
 have hhd:=held_of hhd
 have st3:=st2.same s3
 have b3:=b2.trans (Same.but s3)
 have g3:Grow S H1 S2 H3:=g2.later st3.le
 have e3:=s3 _ _ ekf
 have stp:∀ {S' H':Hp} {z:Nat} {o:HO} {H'':Hp},St A S' H' c a b z→S' kf = none→But [c] H1 H'→Grow S H1 S' H'→H'' = upd H' kf o→St A S' H'' c a b z∧But [c] H1 H''∧Grow S H1 S' H''∧H'' kf = some o:=fun {S' H' z o H''} st n bt g e=>by
  subst e
  exact ⟨st.put n nck,but_at bt hkf,g.later (same_at st.le n),upd_same⟩
 have d1:∀ {H':Hp} {z:Nat},But [c] H1 H'→CurIs A H' c a z→Dom H1 H':=fun bt cu=>let ⟨_,e⟩:=cu; dom_but1 bt e
 have nkc:kf ∉ [c]:=by simpa using Ne.symm nck
 exists z0,z0
 refine ⟨_,rfl,S2,c,a,b,_,rfl,st3,kq.mono (fun fl z4 k H4 b4 cu4=>?_) (fun r e f=>f.next b3 fun _ h=>h)⟩
 have st4:=st3.step b4 cu4
 have bb4:=b3.trans b4
 have g4:=g3.later st4.le
 have e4:=b4 _ _ e3 nkc
 refine ⟨_,rfl,setgo2 T.fil e4 (i:=3) rfl rfl (us:=[V.int (mi:Int),V.int (ma:Int),V.ref q,V.int (fl:Int),V.int 0,V.int 0,V.ref l1,V.ref l2,V.ref l3,V.ref l4]) rfl fun H5 hH5=>?_⟩
 obtain ⟨st5,b5,g5,e5⟩:=stp st4 nkf2 bb4 g4 hH5
 clear hH5
 exists z0,z0
 refine ⟨_,rfl,_,rfl,fldgo (fun _ _=>_) T.fil e5 (i:=2) rfl rfl ⟨S2,c,q,a,b,l,z4,false,rfl,st5,po,hhd,k.mono (fun ct z6 k H6 b6 cu6 _=>?_) (fun r e f=>f.next b5 fun _ h=>h)⟩⟩
 have st6:=st5.step b6 cu6
 have bb6:=b5.trans b6
 have g6:=g5.later st6.le
 have e6:=b6 _ _ e5 nkc
 refine ⟨_,rfl,setgo2 T.fil e6 (i:=4) rfl rfl (us:=[V.int (mi:Int),V.int (ma:Int),V.ref q,V.int (fl:Int),V.int (ct:Int),V.int 0,V.ref l1,V.ref l2,V.ref l3,V.ref l4]) rfl fun H7 hH7=>?_⟩
 obtain ⟨st7,b7,g7,e7⟩:=stp st6 nkf2 bb6 g6 hH7
 clear hH7
 exists z0,z0
 refine ⟨_,rfl,_,rfl,fldgo (fun _ _=>_) T.fil e7 (i:=2) rfl rfl ⟨S2,c,q,a,b,l,z6,true,rfl,st7,po,hhd,k.mono (fun cs z8 k H8 b8 cu8 _=>?_) (fun r e f=>f.next b7 fun _ h=>h)⟩⟩
 have st8:=st7.step b8 cu8
 have bb8:=b7.trans b8
 have g8:=g7.later st8.le
 have e8:=b8 _ _ e7 nkc
 refine ⟨_,rfl,setgo2 T.fil e8 (i:=5) rfl rfl (us:=[V.int (mi:Int),V.int (ma:Int),V.ref q,V.int (fl:Int),V.int (ct:Int),V.int (cs:Int),V.ref l1,V.ref l2,V.ref l3,V.ref l4]) rfl fun H9 hH9=>?_⟩
 obtain ⟨st9,b9,g9,e9⟩:=stp st8 nkf2 bb8 g8 hH9
 clear hH9
 exists z0,z0
 refine ⟨_,rfl,_,rfl,fldgo (fun _ _=>_) T.fil e9 (i:=2) rfl rfl ⟨S2,c,q,a,b,l,z8,rfl,st9,po,hhd,k.mono (fun is z10 k H10 S10 li b10 gg10 cu10 hli _=>?_) (fun r e f=>f.next b9 fun _ h=>h)⟩⟩
 have st10:=st9.grow gg10 cu10
 have bb10:=b9.trans b10
 have g10:=g9.trans (d1 b9 st9.cu) gg10
 have e10:=b10 _ _ e9 nkc
 have n10:S10 kf = none:=gg10.new kf (isSome_of e9) nkf2
 refine ⟨_,rfl,setgo2 T.fil e10 (i:=6) rfl rfl (us:=[V.int (mi:Int),V.int (ma:Int),V.ref q,V.int (fl:Int),V.int (ct:Int),V.int (cs:Int),V.ref li,V.ref l2,V.ref l3,V.ref l4]) rfl fun H11 hH11=>?_⟩
 obtain ⟨st11,b11,g11,e11⟩:=stp st10 n10 bb10 g10 hH11
 clear hH11
 exists z0,z0
 refine ⟨_,rfl,_,rfl,fldgo (fun _ _=>_) T.fil e11 (i:=2) rfl rfl ⟨CfFile.field,S10,c,q,a,ff,b,l,z10,rfl,st11,po.up gg10.le,calf,k.mono (fun fs z12 k H12 S12 lf b12 gg12 cu12 hlf _=>?_) (fun r e f=>f.next b11 fun _ h=>h)⟩⟩
 have st12:=st11.grow gg12 cu12
 have bb12:=b11.trans b12
 have g12:=g11.trans (d1 b11 st11.cu) gg12
 have e12:=b12 _ _ e11 nkc
 have n12:S12 kf = none:=gg12.new kf (isSome_of e11) n10
 refine ⟨_,rfl,setgo2 T.fil e12 (i:=7) rfl rfl (us:=[V.int (mi:Int),V.int (ma:Int),V.ref q,V.int (fl:Int),V.int (ct:Int),V.int (cs:Int),V.ref li,V.ref lf,V.ref l3,V.ref l4]) rfl fun H13 hH13=>?_⟩
 obtain ⟨st13,b13,g13,e13⟩:=stp st12 n12 bb12 g12 hH13
 clear hH13
 exists z0,z0
 refine ⟨_,rfl,_,rfl,fldgo (fun _ _=>_) T.fil e13 (i:=2) rfl rfl ⟨CfFile.method,S12,c,q,a,fm,b,l,z12,rfl,st13,(po.up gg10.le).up gg12.le,calm,k.mono (fun ms z14 k H14 S14 lm b14 gg14 cu14 hlm _=>?_) (fun r e f=>f.next b13 fun _ h=>h)⟩⟩
 have st14:=st13.grow gg14 cu14
 have bb14:=b13.trans b14
 have g14:=g13.trans (d1 b13 st13.cu) gg14
 have e14:=b14 _ _ e13 nkc
 have n14:S14 kf = none:=gg14.new kf (isSome_of e13) n12
 refine ⟨_,rfl,setgo2 T.fil e14 (i:=8) rfl rfl (us:=[V.int (mi:Int),V.int (ma:Int),V.ref q,V.int (fl:Int),V.int (ct:Int),V.int (cs:Int),V.ref li,V.ref lf,V.ref lm,V.ref l4]) rfl fun H15 hH15=>?_⟩
 obtain ⟨st15,b15,g15,e15⟩:=stp st14 n14 bb14 g14 hH15
 clear hH15
 have po14:=((po.up gg10.le).up gg12.le).up gg14.le
 exists z0,z0
 refine ⟨_,rfl,_,rfl,fldgo (fun _ _=>_) T.fil e15 (i:=2) rfl rfl ⟨S14,c,q,a,b,l,z14,rfl,st15,po14,k.mono (fun xs z16 k H16 S16 la b16 gg16 cu16 hla _ _=>?_) (fun r e f=>f.next b15 fun _ h=>h)⟩⟩
 have st16:=st15.grow gg16 cu16
 have bb16:=b15.trans b16
 have g16:=g15.trans (d1 b15 st15.cu) gg16
 have e16:=b16 _ _ e15 nkc
 have n16:S16 kf = none:=gg16.new kf (isSome_of e15) n14
 refine ⟨_,rfl,setgo2 T.fil e16 (i:=9) rfl rfl (us:=[V.int (mi:Int),V.int (ma:Int),V.ref q,V.int (fl:Int),V.int (ct:Int),V.int (cs:Int),V.ref li,V.ref lf,V.ref lm,V.ref la]) rfl fun H17 hH17=>?_⟩
 obtain ⟨st17,b17,g17,e17⟩:=stp st16 n16 bb16 g16 hH17
 clear hH17
 have ⟨dx17,hc17⟩:=st17.cu
 exists z0,z0
 refine ⟨_,rfl,fldgo (fun _ _=>_) T.cur hc17 (i:=1) rfl rfl ⟨_,rfl,a,_,rfl,.inl (SqL.of st17.list),rfl,_,rfl,fldgo (fun _ _=>_) T.cur hc17 (i:=1) rfl rfl ⟨_,_,_,rfl,demif b17 k rfl rfl ?_ fun _ k=>?_⟩⟩⟩
 ·rw [bv_len]
  exact dec_nat _ _
 have same17:Same H H17:=but_cut s1 hcn b17
 have gF:Grow S H S16 H17:=⟨g17.le,g17.up,fun x hx n=>g17.new x (Same.dom s1 x hx) n⟩
 have gG:=gF.add hkfH e17 n16
 have sS:Same S16 (upd S16 kf (.ins A.cFil dk (kFil.zip [V.int (mi:Int),V.int (ma:Int),V.ref q,V.int (fl:Int),V.int (ct:Int),V.int (cs:Int),V.ref li,V.ref lf,V.ref lm,V.ref la]))):=same_at (same_refl S16) n16
 exists z0
 refine ⟨_,rfl,k H17 _ kf same17 gG ⟨dk,q,li,lf,lm,la,upd_same,⟨a,((po14.up gg16.le).up sS)⟩,?_,?_,?_,hla.up sS⟩ hhd⟩
 ·exact sS _ _ (gg16.le _ _ (gg14.le _ _ (gg12.le _ _ hli)))
 ·exact (((hlf.up gg14.le).up gg16.le).up sS)
 ·exact ((hlm.up gg16.le).up sS)
end
end Cf
namespace Cf
open CfFile (Pool big File Member Attr)
theorem post_any {α:Type} {f:CfFile.P α} {p:Nat} {OK:α→Nat→Prop} (h:∀ x q,OK x q):Post f p OK (fun _ _=>True):=by
 unfold Post
 cases f p with
 | ok x=>exact h _ _
 | error e=>trivial
theorem post_and {α:Type} {f:CfFile.P α} {p:Nat} {OK:α→Nat→Prop} {R:α→Prop} {ER:Nat→Nat→Prop} (k:Post f p OK ER) (r:Post f p (fun x _=>R x) (fun _ _=>True)):Post f p (fun x q=>R x∧OK x q) ER:=by
 unfold Post at *
 cases e:f p with
 | ok x=>rw [e] at k r; exact ⟨r,k⟩
 | error e'=>rw [e] at k; exact k
theorem constants_len (b:List UInt8):∀ (k p:Nat),Post (CfFile.constants b k) p (fun l _=>List.length l = k) (fun _ _=>True)
 | 0,p=>rfl
 | k + 1,p=>by
  rw [post_constants]
  refine post_any fun c q=>?_
  split
  ·split
   ·trivial
   ·rename_i h
    refine (constants_len b (k - 1) q).mono (fun l _ e=>?_) (fun _ _ h=>h)
    show List.length l + 1 + 1 = k + 1
    rw [e]
    omega
  ·refine (constants_len b k q).mono (fun l _ e=>?_) (fun _ _ h=>h)
   show List.length l + 1 = k + 1
   rw [e]
termination_by k=>k
theorem method_is (b:List UInt8) (l:Pool) (prev:List Member) (p:Nat):Post (CfFile.method b l prev) p (fun m _=>CfFile.isMethod m.type_ = true) (fun _ _=>True):=by
 unfold CfFile.method
 simp only [post_bind,post_here,post_pure]
 refine post_any fun f _=>post_any fun _ _=>post_any fun n _=>post_any fun s _=>post_any fun _ _=>post_any fun d _=>post_any fun t _=>?_
 rw [post_must]
 split
 ·rename_i h
  have h:CfFile.isMethod t = true:=(Bool.and_eq_true .. ▸ h:_∧_).1
  refine post_any fun _ _=>post_any fun as _=>post_any fun _ _=>?_
  split
  ·exact h
  ·rw [post_bind]
   exact post_any fun y q=>h
 ·trivial
theorem methods_are (b:List UInt8) (l:Pool):∀ (n:Nat) (prev:List Member) (p:Nat),(∀ m ∈ prev,CfFile.isMethod m.type_ = true)→Post (CfFile.members (CfFile.method b l) n prev) p (fun ms _=>∀ m ∈ ms,CfFile.isMethod m.type_ = true) (fun _ _=>True)
 | 0,prev,p,h=>h
 | n + 1,prev,p,h=>by
  rw [post_membersS]
  refine (method_is b l prev p).mono (fun m q hm=>methods_are b l n (prev ++ [m]) q fun x hx=>?_) (fun _ _ h=>h)
  rcases List.mem_append.mp hx with z | z
  ·exact h x z
  ·rw [List.mem_singleton.mp z]; exact hm
theorem file_is (b:List UInt8):Post (CfFile.file b) 0 (fun x _=>x.bytes = b∧x.pool.length ≤ 65536∧∀ m ∈ x.methods,CfFile.isMethod m.type_ = true) (fun _ _=>True):=by
 unfold CfFile.file
 simp only [post_bind,post_here,post_pure]
 refine post_any fun _ _=>post_any fun _ _=>post_any fun mi _=>post_any fun ma _=>post_any fun _ z=>?_
 rw [post_num]
 split
 ·have hn:=big2_lt b z
  generalize big b z 2 = n at hn
  refine post_any fun _ _=>(constants_len b (n - 1) _).mono (fun l0 _ hl=>?_) (fun _ _ h=>h)
  have hlen:List.length (none :: l0:Pool) ≤ 65536:=by
   show List.length l0 + 1 ≤ 65536
   omega
  generalize (none :: l0:Pool) = l at hlen
  refine post_any fun _ _=>post_any fun f _=>post_any fun _ _=>post_any fun t _=>post_any fun _ _=>post_any fun s _=>?_
  have rest:∀ q,Post (do
    let ki ← CfFile.num b 2
    let is ← CfFile.interfaces b l ki []
    let kf ← CfFile.num b 2
    let fs ← CfFile.members (CfFile.field b l) kf []
    let km ← CfFile.num b 2
    let ms ← CfFile.members (CfFile.method b l) km []
    let as ← CfFile.attrs b l
    let e ← CfFile.here
    CfFile.must (e == b.length) CfFile.MORE e
    pure (⟨b,mi,ma,l,f,t,s,is,fs,ms,as⟩:File)) q (fun x _=>x.bytes = b∧x.pool.length ≤ 65536∧∀ m ∈ x.methods,CfFile.isMethod m.type_ = true) (fun _ _=>True):=fun q=>by
   simp only [post_bind,post_here,post_pure]
   refine post_any fun _ _=>post_any fun is _=>post_any fun _ _=>post_any fun fs _=>post_any fun km _=>?_
   refine (methods_are b l km [] _ (fun m h=>by cases h)).mono (fun ms _ hm=>?_) (fun _ _ h=>h)
   exact post_any fun as _=>post_any fun _ _=>⟨trivial,hlen,hm⟩
  split
  ·exact rest _
  ·rw [post_bind]
   exact post_any fun _ q=>rest q
 ·trivial
end Cf
namespace Cf
open PySem PySem.Spec PyProof.Rows L2
open CfFile (Pool big)
abbrev sTellText:Stmt:=top 54
abbrev sTellFirst:Stmt:=top 55
abbrev sTellNamed:Stmt:=top 56
abbrev sTellSite:Stmt:=top 57
abbrev sTellOwned:Stmt:=top 58
abbrev sCanTell:Stmt:=top 60
abbrev sTell:Stmt:=top 61
inductive spTell (A:Adr) (g:Pool→Nat→Option (List UInt8)) (vs:List V) (H:Hp) (Q:VK) (E:XK):Prop
 | mk (S:Hp) (q a:Addr) (b:List UInt8) (l:Pool) (n:Nat) (s:List UInt8) (_:vs = [.ref q,.int (n:Int)]) (_:PoolAt A S q a b l) (_:Same S H) (_:b.length ≤ 4096) (_:g l n = some s) (_:∀ H' r,Same H H'→H' r = some (.lst (bv s))→Q (.ref r) H')
theorem spTell.len {A:Adr} {g:Pool→Nat→Option (List UInt8)} {vs:List V} {H:Hp} {Q:VK} {E:XK} (h:spTell A g vs H Q E):vs.length = (["pool","number"]:List Str).length:=by
 obtain ⟨S,q,a,b,l,n,s,rfl,_⟩:=h
 rfl
def namedRow (l:Pool) (n:Nat):Option (List UInt8):=(firstOf l n).bind fun s=>(secondOf l n).map fun t=>s ++ (58 :: t)
def siteRow (l:Pool) (n:Nat):Option (List UInt8):=match l[n]? with
 | some (some (_,c))=>namedRow l (snd c)
 | _=>none
def ownedRow (l:Pool) (n:Nat):Option (List UInt8):=match l[n]? with
 | some (some (p,c))=>(firstOf l (fst p c)).bind fun s=>(namedRow l (snd c)).map fun t=>s ++ (46 :: t)
 | _=>none
theorem text_le {b:List UInt8} {l:Pool} (ok:AllOk b l) {n:Nat} {s:List UInt8} (h:CfFile.textAt l n = some s):s.length ≤ b.length:=by
 obtain ⟨p,hp⟩:=textAt_at h
 have:=(ok n p _ hp).2
 omega
theorem first_le {b:List UInt8} {l:Pool} (ok:AllOk b l) {n:Nat} {s:List UInt8} (h:firstOf l n = some s):s.length ≤ b.length:=let ⟨_,_,_,e⟩:=firstOf_at h; text_le ok e
theorem second_le {b:List UInt8} {l:Pool} (ok:AllOk b l) {n:Nat} {s:List UInt8} (h:secondOf l n = some s):s.length ≤ b.length:=let ⟨_,_,_,e⟩:=secondOf_at h; text_le ok e
theorem cv1 (x:Str) (h:(cv x).length = 1):(cv x).length = 1:=h
section
variable {P:Program} {w:World} {K:PySem.W.Frag} {mg:Str→Option Value} {base:Heap} {A:Adr}
theorem scTellText:FnScope ["pool","number"] ["pool","number"] (defScope sTellText):=scB
theorem d_tellText (T:Txt K mg A) (src:Src K "tell_text" sTellText) (L:Lib P w K mg base A):Def P w K mg base 4 "tell_text" ["pool","number"] (spTell A CfFile.textAt):=by
 refine defR src T.kx scTellText (fun vs H Q E h=>h.len) (fun f cdv A' outer sh H vs Q E hr h=>?_)
 obtain ⟨S,q,a,b,l,n,s,rfl,po,le,hb,hs,k⟩:=h
 obtain ⟨dq,cl,hq⟩:=po.hq le
 refine ⟨_,pss_one (ps_ret (pe_md L.row (pv 0) T.poo.cl (rm hr) passR (pa_cons (pv 1) pa_nil))),?_⟩
 exact ⟨_,rfl,methgo hq (by decide +kernel) ⟨_,rfl,S,q,a,b,l,n,s,rfl,po,le,hs,fun H1 r s1 _ hr1=>k H1 r s1 hr1⟩⟩
theorem scTellFirst:FnScope ["pool","number"] ["pool","number"] (defScope sTellFirst):=scB
theorem d_tellFirst (T:Txt K mg A) (src:Src K "tell_first" sTellFirst) (L:Lib P w K mg base A):Def P w K mg base 4 "tell_first" ["pool","number"] (spTell A firstOf):=by
 refine defR src T.kx scTellFirst (fun vs H Q E h=>h.len) (fun f cdv A' outer sh H vs Q E hr h=>?_)
 obtain ⟨S,q,a,b,l,n,s,rfl,po,le,hb,hs,k⟩:=h
 obtain ⟨dq,cl,hq⟩:=po.hq le
 refine ⟨_,pss_one (ps_ret (pe_md L.fro (pv 0) T.poo.cl (rm hr) passR (pa_cons (pv 1) pa_nil))),?_⟩
 exact ⟨_,rfl,methgo hq (by decide +kernel) ⟨_,rfl,S,q,a,b,l,n,s,rfl,po,le,hs,fun H1 r s1 _ hr1=>k H1 r s1 hr1⟩⟩
theorem scTellNamed:FnScope ["pool","number"] ["pool","number"] (defScope sTellNamed):=scB
theorem d_tellNamed (T:Txt K mg A) (src:Src K "tell_named" sTellNamed) (L:Lib P w K mg base A):Def P w K mg base 3 "tell_named" ["pool","number"] (spTell A namedRow):=by
 refine defR src T.kx scTellNamed (fun vs H Q E h=>h.len) (fun f cdv A' outer sh H vs Q E hr h=>?_)
 obtain ⟨S,q,a,b,l,n,s,rfl,po,le,hb,hs,k⟩:=h
 obtain ⟨dq,cl,hq⟩:=po.hq le
 unfold namedRow at hs
 obtain ⟨s1,hs1,hs⟩:=Option.bind_eq_some_iff.mp hs
 obtain ⟨s2,hs2,rfl⟩:=Option.map_eq_some_iff.mp hs
 have l1:=first_le po.ok hs1
 have l2:=second_le po.ok hs2
 refine ⟨_,pss_one (ps_ret (pe_op op_cat (pe_op op_cat (pe_md L.fro (pv 0) T.poo.cl hr passR (pa_cons (pv 1) pa_nil)) (pe_d L.rof (rm hr) rfl passR (pa_cons pe_str pa_nil))) (pe_md L.sro (pv 0) T.poo.cl hr passR (pa_cons (pv 1) pa_nil)))),?_⟩
 refine ⟨_,rfl,methgo hq (by decide +kernel) ⟨_,rfl,S,q,a,b,l,n,s1,rfl,po,le,hs1,fun H1 r1 t1 _ hr1=>⟨_,rfl,(by decide +kernel),fun H2 r2 t2 hr2=>⟨r1,r2,_,_,rfl,rfl,t2 _ _ hr1,hr2,?_,fun r3 hr3=>?_⟩⟩⟩⟩
 ·rw [bv_len]; exact Nat.le_of_lt (szl (by rw [cv1 ":" (by decide +kernel)]; omega))
 have t3:=(t1.trans t2).trans (same_new (o:=.lst (bv s1 ++ cv ":")) hr3)
 refine ⟨_,rfl,methgo (t3 _ _ hq) (by decide +kernel) ⟨_,rfl,S,q,a,b,l,n,s2,rfl,po,le.trans t3,hs2,fun H4 r4 t4 _ hr4=>⟨r3,r4,_,_,rfl,rfl,t4 _ _ upd_same,hr4,?_,fun r5 hr5=>?_⟩⟩⟩
 ·rw [List.length_append,bv_len,bv_len]; exact Nat.le_of_lt (szl (by rw [cv1 ":" (by decide +kernel)]; omega))
 refine k _ r5 ((t3.trans t4).trans (same_new hr5)) (upd_same.trans ?_)
 rw [bv_app,show cv ":" = [V.int ((58:UInt8).toNat:Int)] by decide +kernel,List.append_assoc]
 rfl
theorem scTellSite:FnScope ["pool","number"] ["pool","number"] (defScope sTellSite):=scB
theorem d_tellSite (T:Txt K mg A) (src:Src K "tell_call_site" sTellSite) (Dn:Def P w K mg base 3 "tell_named" ["pool","number"] (spTell A namedRow)):Def P w K mg base 4 "tell_call_site" ["pool","number"] (spTell A siteRow):=by
 refine defR src T.kx scTellSite (fun vs H Q E h=>h.len) (fun f cdv A' outer sh H vs Q E hr h=>?_)
 obtain ⟨S,q,a,b,l,n,s,rfl,po,le,hb,hs,k⟩:=h
 obtain ⟨dx,cl,us,h1,h2,pr⟩:=id po.ob
 have hq:=le _ _ h1
 have hcl:=le _ _ h2
 obtain ⟨p,c,hpc,hs⟩:∃ p c,l[n]? = some (some (p,c))∧namedRow l (snd c) = some s:=by
  unfold siteRow at hs
  split at hs
  ·rename_i p c e; exact ⟨p,c,e,hs⟩
  ·cases hs
 obtain ⟨v,hv,kk,rfl,dk,hk⟩:=paired_at pr hpc
 refine ⟨_,pss_one (ps_ret (pe_d Dn hr rfl passR (pa_cons (pv 0) (pa_cons (pe_fld (pe_ix ix_list (pe_fld (pv 0) rfl) (pv 1) (fun _ _=>rfl)) rfl) pa_nil)))),?_⟩
 exact ⟨_,rfl,_,rfl,fldgo (fun _ _=>_) T.poo hq (i:=1) rfl rfl ⟨_,rfl,cl,_,_,_,rfl,rfl,SqL.of hcl,atI_nat hv,fldgo (fun _ _=>_) T.con (le _ _ hk) (i:=3) rfl rfl ⟨S,q,a,b,l,snd c,s,rfl,po,le,hb,hs,k⟩⟩⟩
theorem scTellOwned:FnScope ["pool","number","owned"] ["pool","number"] (defScope sTellOwned):=scB
theorem d_tellOwned (T:Txt K mg A) (src:Src K "tell_owned" sTellOwned) (L:Lib P w K mg base A) (Dn:Def P w K mg base 3 "tell_named" ["pool","number"] (spTell A namedRow)):Def P w K mg base 4 "tell_owned" ["pool","number"] (spTell A ownedRow):=by
 refine defR src T.kx scTellOwned (fun vs H Q E h=>h.len) (fun f cdv A' outer sh H vs Q E hr h=>?_)
 obtain ⟨S,q,a,b,l,n,s,rfl,po,le,hb,hs,k⟩:=h
 obtain ⟨dx,cl,us,h1,h2,pr⟩:=id po.ob
 have hq:=le _ _ h1
 have hcl:=le _ _ h2
 obtain ⟨p,c,hpc,hs⟩:∃ p c,l[n]? = some (some (p,c))∧((firstOf l (fst p c)).bind fun s=>(namedRow l (snd c)).map fun t=>s ++ (46 :: t)) = some s:=by
  unfold ownedRow at hs
  split at hs
  ·rename_i p c e; exact ⟨p,c,e,hs⟩
  ·cases hs
 obtain ⟨v,hv,kk,rfl,dk,hk⟩:=paired_at pr hpc
 obtain ⟨s1,hs1,hs⟩:=Option.bind_eq_some_iff.mp hs
 obtain ⟨s2,hs2,rfl⟩:=Option.map_eq_some_iff.mp hs
 have l1:=first_le po.ok hs1
 have l2:s2.length ≤ 2 * b.length + 1:=by
  unfold namedRow at hs2
  obtain ⟨x1,hx1,hx⟩:=Option.bind_eq_some_iff.mp hs2
  obtain ⟨x2,hx2,rfl⟩:=Option.map_eq_some_iff.mp hx
  have:=first_le po.ok hx1
  have:=second_le po.ok hx2
  rw [List.length_append,List.length_cons]
  omega
 have hk:=le _ _ hk
 refine ⟨_,pss_cons (ps_set (i:=2) scTellOwned.nd rfl (Or.inl rfl) (pe_ix ix_list (pe_fld (pv 0) rfl) (pv 1) (fun _ _=>rfl)))
  (pss_one (ps_ret (pe_op op_cat (pe_op op_cat (pe_md L.fro (pv 0) T.poo.cl (rm hr) passR (pa_cons (pe_fld (pv 2) rfl) pa_nil)) (pe_d L.rof (rm hr) rfl passR (pa_cons pe_str pa_nil))) (pe_d Dn hr rfl passR (pa_cons (pv 0) (pa_cons (pe_fld (pv 2) rfl) pa_nil)))))),?_⟩
 refine ⟨_,rfl,fldgo (fun _ _=>_) T.poo hq (i:=1) rfl rfl ⟨_,rfl,cl,_,_,_,rfl,rfl,SqL.of hcl,atI_nat hv,?_⟩⟩
 refine ⟨_,rfl,methgo hq (by decide +kernel) ⟨_,rfl,fldgo (fun _ _=>_) T.con hk (i:=2) rfl rfl ⟨S,q,a,b,l,fst p c,s1,rfl,po,le,hs1,fun H1 r1 t1 _ hr1=>⟨_,rfl,(by decide +kernel),fun H2 r2 t2 hr2=>⟨r1,r2,_,_,rfl,rfl,t2 _ _ hr1,hr2,?_,fun r3 hr3=>?_⟩⟩⟩⟩⟩
 ·rw [bv_len]; exact Nat.le_of_lt (szl (by rw [cv1 "." (by decide +kernel)]; omega))
 have t3:=(t1.trans t2).trans (same_new (o:=.lst (bv s1 ++ cv ".")) hr3)
 refine ⟨_,rfl,_,rfl,fldgo (fun _ _=>_) T.con (t3 _ _ hk) (i:=3) rfl rfl ⟨S,q,a,b,l,snd c,s2,rfl,po,le.trans t3,hb,hs2,fun H4 r4 t4 hr4=>⟨r3,r4,_,_,rfl,rfl,t4 _ _ upd_same,hr4,?_,fun r5 hr5=>?_⟩⟩⟩
 ·rw [List.length_append,bv_len,bv_len]; exact Nat.le_of_lt (szl (by rw [cv1 "." (by decide +kernel)]; omega))
 refine k _ r5 ((t3.trans t4).trans (same_new hr5)) (upd_same.trans ?_)
 rw [bv_app,show cv "." = [V.int ((46:UInt8).toNat:Int)] by decide +kernel,List.append_assoc]
 rfl
end
end Cf
namespace Cf
open PySem PySem.Spec PyProof.Rows L2
open CfFile (Pool big File Member Attr)
open ClassHall (membersOf attrsOf shown)
abbrev sPick:Stmt:=top 68
abbrev sPickC:Stmt:=top 69
abbrev sPickM:Stmt:=top 70
abbrev sPickB:Stmt:=top 71
abbrev sPickA:Stmt:=top 72
def tellOf (l:Pool) (n:Nat):Option (List UInt8):=match tagAt l n with
 | 1=>CfFile.textAt l n
 | 7=>firstOf l n
 | 8=>firstOf l n
 | 9=>ownedRow l n
 | 10=>ownedRow l n
 | 11=>ownedRow l n
 | 12=>namedRow l n
 | 16=>firstOf l n
 | 18=>siteRow l n
 | _=>none
def toldTag (t:Nat):Bool:=((tellersN.find? fun z=>decide (z.1 = (t:Int))).map (·.2)).isSome
structure Tel (P:Program) (w:World) (K:PySem.W.Frag) (mg:Str→Option Value) (base:Heap) (A:Adr):Prop where
 te:Def P w K mg base 4 "tell_text" ["pool","number"] (spTell A CfFile.textAt)
 fi:Def P w K mg base 4 "tell_first" ["pool","number"] (spTell A firstOf)
 na:Def P w K mg base 3 "tell_named" ["pool","number"] (spTell A namedRow)
 si:Def P w K mg base 4 "tell_call_site" ["pool","number"] (spTell A siteRow)
 ow:Def P w K mg base 4 "tell_owned" ["pool","number"] (spTell A ownedRow)
theorem def_mono {P:Program} {w:World} {K:PySem.W.Frag} {mg:Str→Option Value} {base:Heap} {k k':Nat} {x:Str} {ps:List Str} {sp:Sp} (D:Def P w K mg base k x ps sp) (h:k ≤ k'):Def P w K mg base k' x ps sp :=
 let ⟨f,fd,hm,hk,F,b⟩:=D; ⟨f,fd,hm,hk,F.mono h,b⟩
theorem tel_by {X:Cx} {A:Adr} {kvs:List (Int × V)} (pr:Paired (fun (n:Int × Str) (v:Int × V)=>n.1 = v.1∧∃ f,v.2 = .ref f∧X.mg n.2 = some (.ref f)) tellersN kvs) (C:Tel X.prog X.w X.K X.mg X.base A) {l:Pool} {n:Nat} {s:List UInt8} (h:tellOf l n = some s) :
  ∃ f g,valK kvs (tagAt l n:Int) = some (.ref f)∧Cal X 4 f (spTell A g)∧g l n = some s:=by
 have yes:∀ {x:Str} {g:Pool→Nat→Option (List UInt8)} (t:Nat),tagAt l n = t→(tellersN.find? fun z=>decide (z.1 = (t:Int))).map (·.2) = some x→Def X.prog X.w X.K X.mg X.base 4 x ["pool","number"] (spTell A g)→g l n = some s →
   ∃ f g,valK kvs (tagAt l n:Int) = some (.ref f)∧Cal X 4 f (spTell A g)∧g l n = some s:=fun t ht h D hp=>by
  have q:=fn_find (K:=X.K) pr (t:Int)
  rw [h] at q
  obtain ⟨f,e,m⟩:=q
  rw [ht]
  exact ⟨f,_,e,def_cal D m,hp⟩
 unfold tellOf at h
 split at h
 ·rename_i e; exact yes 1 e (by decide +kernel) C.te h
 ·rename_i e; exact yes 7 e (by decide +kernel) C.fi h
 ·rename_i e; exact yes 8 e (by decide +kernel) C.fi h
 ·rename_i e; exact yes 9 e (by decide +kernel) C.ow h
 ·rename_i e; exact yes 10 e (by decide +kernel) C.ow h
 ·rename_i e; exact yes 11 e (by decide +kernel) C.ow h
 ·rename_i e; exact yes 12 e (by decide +kernel) (def_mono C.na (by decide)) h
 ·rename_i e; exact yes 16 e (by decide +kernel) C.fi h
 ·rename_i e; exact yes 18 e (by decide +kernel) C.si h
 ·cases h
inductive spPick (A:Adr) (vs:List V) (H:Hp) (Q:VK) (E:XK):Prop
 | mk (lv:Addr) (xs:List V) (n:Nat) (_:vs = [.ref lv,.int (n:Int)]) (_:H lv = some (.lst xs)) (_:match xs[n]? with
 | some v=>Q v H
 | none=>E (.ref A.cNT) none H)
inductive spPickC (A:Adr) (K:PySem.W.Frag) (vs:List V) (H:Hp) (Q:VK) (E:XK):Prop
 | mk (S:Hp) (k tt:Addr) (x:File) (n:Nat) (ts:List Nat) (_:vs = [.ref k,.int (n:Int),.ref tt]) (_:FiAt A S k x) (_:Same S H) (_:SqT K H tt (ts.map fun (m:Nat)=>V.int (m:Int))) (_:if (ts.any fun m=>m == tagAt x.pool n) = true then (∀ kk p c,x.pool[n]? = some (some (p,c))→CoAt A S kk p c→Q (.ref kk) H)∧tagAt x.pool n ≠ 0 else E (.ref A.cNT) none H)
inductive spPickM (A:Adr) (vs:List V) (H:Hp) (Q:VK) (E:XK):Prop
 | mk (S:Hp) (k:Addr) (x:File) (wh:Nat) (_:vs = [.ref k,.int (wh:Int)]) (_:FiAt A S k x) (_:Same S H) (_:if wh = 1 ∨ wh = 2 then ∀ lm,MesAt A S x.pool lm (membersOf x wh)→Q (.ref lm) H else E (.ref A.cNT) none H)
inductive spPickB (A:Adr) (vs:List V) (H:Hp) (Q:VK) (E:XK):Prop
 | mk (S:Hp) (k:Addr) (x:File) (n:Nat) (_:vs = [.ref k,.int (n:Int)]) (_:FiAt A S k x) (_:Same S H) (_:match (x.methods[n]?).bind (fun (m:Member)=>m.body) with
 | some y=>∀ kb,BoAt A S kb y→Q (.ref kb) H
 | none=>E (.ref A.cNT) none H)
inductive spPickA (A:Adr) (vs:List V) (H:Hp) (Q:VK) (E:XK):Prop
 | mk (S:Hp) (k:Addr) (x:File) (wh n:Nat) (_:vs = [.ref k,.int (wh:Int),.int (n:Int)]) (_:FiAt A S k x) (_:Same S H) (_:(∀ la,AtsAt A S la (attrsOf x wh n)→Q (.ref la) H)) (_:(attrsOf x wh n = []→E (.ref A.cNT) none H))
section
variable {P:Program} {w:World} {K:PySem.W.Frag} {mg:Str→Option Value} {base:Heap} {A:Adr}
theorem scCanTell:FnScope ["pool","number"] ["pool","number"] (defScope sCanTell):=scB
theorem d_canTell (T:Txt K mg A) (src:Src K "can_be_told" sCanTell) (L:Lib P w K mg base A):Def P w K mg base 2 "can_be_told" ["pool","number"] (spPool A fun l n=>.bl (toldTag (tagAt l n))):=by
 refine defR src T.kx scCanTell (fun vs H Q E h=>h.len) (fun f cdv A' outer sh H vs Q E hr h=>?_)
 obtain ⟨S,q,a,b,l,n,rfl,po,le,k⟩:=h
 obtain ⟨dq,cl,hq⟩:=po.hq le
 obtain ⟨kvs,kd,prd⟩:=T.dTE
 refine ⟨_,pss_one (ps_ret (pe_cmp (pc_kin kd rfl T.gTE (pe_md L.tag (pv 0) T.poo.cl hr passR (pa_cons (pv 1) pa_nil))))),?_⟩
 refine ⟨_,rfl,methgo hq (by decide +kernel) ⟨_,rfl,S,q,a,b,l,n,rfl,po,le,_,rfl,?_⟩⟩
 have e:(valK kvs (tagAt l n:Int)).isSome = toldTag (tagAt l n):=by
  have q:=fn_find (K:=K) prd (tagAt l n:Int)
  unfold toldTag
  cases z:(tellersN.find? fun t=>decide (t.1 = (tagAt l n:Int))).map (·.2) with
  | none=>rw [z] at q; have q:valK kvs (tagAt l n:Int) = none:=q; rw [q]; rfl
  | some x=>rw [z] at q; obtain ⟨f,e,_⟩:=q; rw [e]; rfl
 show Q (.bl (valK kvs (tagAt l n:Int)).isSome) H
 rw [e]
 exact k
theorem scTell:FnScope ["pool","number"] ["pool","number"] (defScope sTell):=scB
theorem d_tell (T:Txt K mg A) (src:Src K "tell" sTell) (L:Lib P w K mg base A) (C:Tel P w K mg base A):Def P w K mg base 5 "tell" ["pool","number"] (spTell A tellOf):=by
 refine defR src T.kx scTell (fun vs H Q E h=>h.len) (fun f cdv A' outer sh H vs Q E hr h=>?_)
 obtain ⟨S,q,a,b,l,n,s,rfl,po,le,hb,hs,k⟩:=h
 obtain ⟨dq,cl,hq⟩:=po.hq le
 obtain ⟨kvs,kd,prd⟩:=T.dTE
 refine ⟨_,pss_one (ps_ret (pe_cv (pe_kget kd rfl T.gTE (pe_md L.tag (pv 0) T.poo.cl (rm hr) passR (pa_cons (pv 1) pa_nil)) (fun _ _=>rfl)) hr passR (pa_cons (pv 0) (pa_cons (pv 1) pa_nil)))),?_⟩
 obtain ⟨ff,g,e,cal,hg⟩:=tel_by (X:=cxOf (CXR P w) P w K mg base ["pool","number"] "tell" (defScope sTell) f cdv A' outer sh H E) prd C hs
 exact ⟨_,rfl,methgo hq (by decide +kernel) ⟨_,rfl,S,q,a,b,l,n,rfl,po,le,_,_,rfl,e,ff,_,rfl,cal,_,rfl,_,rfl,S,q,a,b,l,n,s,rfl,po,le,hb,hg,k⟩⟩
theorem scPick:FnScope ["values","number"] ["values","number"] (defScope sPick):=scB
theorem d_pick (T:Txt K mg A) (src:Src K "pick" sPick):Def P w K mg base 1 "pick" ["values","number"] (spPick A):=by
 refine defR src T.kx scPick (fun vs H Q E h=>?_) (fun f cdv A' outer sh H vs Q E hr h=>?_)
 ·obtain ⟨lv,xs,n,rfl,_⟩:=h
  rfl
 obtain ⟨lv,xs,n,rfl,hl,k⟩:=h
 refine ⟨_,pss_cons (ps_if (pt_cmpR op_ge (pv 1) (pe_callB call_len_seq (by rfl) T.nLen PySem.boot_len (pa_cons (pv 0) pa_nil)) (nomark _)) (pss_one (ps_raise0 T.xNT T.ntI hr.hd rfl T.gNT)) pss_nil)
  (pss_one (ps_ret (pe_ix ix_list (pv 0) (pv 1) (fun _ _=>rfl)))),?_⟩
 exists _,z0
 refine ⟨_,rfl,_,rfl,lv,_,rfl,.inl (SqL.of hl),_,_,rfl,rfl,_,rfl,?_⟩
 by_cases hn:xs.length ≤ n
 ·rw [decide_eq_true (by omega)]
  rw [List.getElem?_eq_none hn] at k
  exact k
 ·rw [decide_eq_false (by omega)]
  have e:xs[n]? = some xs[n]:=List.getElem?_eq_getElem (by omega)
  rw [e] at k
  exists z0
  exact ⟨_,rfl,_,rfl,lv,_,_,_,rfl,rfl,SqL.of hl,atI_nat e,k⟩
theorem scPickC:FnScope ["held","number","tags"] ["held","number","tags"] (defScope sPickC):=scB
theorem d_pickC (T:Txt K mg A) (src:Src K "pick_constant" sPickC) (L:Lib P w K mg base A):Def P w K mg base 2 "pick_constant" ["held","number","tags"] (spPickC A K):=by
 refine defR src T.kx scPickC (fun vs H Q E h=>?_) (fun f cdv A' outer sh H vs Q E hr h=>?_)
 ·obtain ⟨S,k,tt,x,n,ts,rfl,_⟩:=h
  rfl
 obtain ⟨S,kf,tt,x,n,ts,rfl,fi,le,hts,k⟩:=h
 obtain ⟨dk,q,li,lf,lm,la,h1,⟨a,po⟩,h3,h4,h5,h6⟩:=fi.ob
 obtain ⟨dx,cl,us,g1,g2,pr⟩:=id po.ob
 have hk:=le _ _ h1
 have hq:=le _ _ g1
 have hcl:=le _ _ g2
 refine ⟨_,pss_cons (ps_if (pt_cmpR op_notIn_seq (pe_md L.tag (pe_fld (pv 0) rfl) T.poo.cl hr passR (pa_cons (pv 1) pa_nil)) (pv 2) rfl) (pss_one (ps_raise0 T.xNT T.ntI hr.hd rfl T.gNT)) pss_nil)
  (pss_one (ps_ret (pe_ix ix_list (pe_fld (pe_fld (pv 0) rfl) rfl) (pv 1) (fun _ _=>rfl)))),?_⟩
 exists _,z0
 refine ⟨_,rfl,fldgo (fun _ _=>_) T.fil hk (i:=2) rfl rfl (methgo hq (by decide +kernel) ⟨_,rfl,S,q,a,x.bytes,x.pool,n,rfl,po,le,_,rfl,tt,_,rfl,.inr hts,rfl,?_,_,rfl,?_⟩)⟩
 ·rw [List.all_map]
  simp [flatV]
 have e:inV (.int (tagAt x.pool n:Int)) (ts.map fun (m:Nat)=>V.int (m:Int)) = ts.any fun m=>m == tagAt x.pool n:=in_ints _ ts
 show if (!inV (.int (tagAt x.pool n:Int)) (ts.map fun (m:Nat)=>V.int (m:Int))) = true then _ else _
 rw [e]
 cases h:(ts.any fun m=>m == tagAt x.pool n) with
 | false=>rw [h] at k; exact k
 | true =>
  rw [h,if_pos rfl] at k
  obtain ⟨k,hne⟩:=k
  obtain ⟨p,c,hpc⟩:∃ p c,x.pool[n]? = some (some (p,c)):=by
   cases e:CfFile.constAt x.pool n with
   | none=>unfold tagAt at hne; rw [e] at hne; exact absurd rfl hne
   | some c=>obtain ⟨p,z⟩:=constAt_iff.mp e; exact ⟨p,c,z⟩
  obtain ⟨v,hv,kk,rfl,co⟩:=paired_at pr hpc
  exists z0
  exact ⟨_,rfl,fldgo (fun _ _=>_) T.fil hk (i:=2) rfl rfl (fldgo (fun _ _=>_) T.poo hq (i:=1) rfl rfl ⟨_,rfl,cl,_,_,_,rfl,rfl,SqL.of hcl,atI_nat hv,k kk p c hpc co⟩)⟩
theorem scPickM:FnScope ["held","what"] ["held","what"] (defScope sPickM):=scB
theorem d_pickM (T:Txt K mg A) (src:Src K "pick_members" sPickM):Def P w K mg base 1 "pick_members" ["held","what"] (spPickM A):=by
 refine defR src T.kx scPickM (fun vs H Q E h=>?_) (fun f cdv A' outer sh H vs Q E hr h=>?_)
 ·obtain ⟨S,k,x,wh,rfl,_⟩:=h
  rfl
 obtain ⟨S,kf,x,wh,rfl,fi,le,k⟩:=h
 obtain ⟨dk,q,li,lf,lm,la,h1,⟨a,po⟩,h3,h4,h5,h6⟩:=fi.ob
 have hk:=le _ _ h1
 refine ⟨_,pss_cons (ps_if (pt_cmpR op_eq (pv 1) (pe_gi T.g_OF_FIELD rfl) (nomark _)) (pss_one (ps_ret (pe_fld (pv 0) rfl))) pss_nil)
  (pss_cons (ps_if (pt_cmpR op_eq (pv 1) (pe_gi T.g_OF_METHOD rfl) (nomark _)) (pss_one (ps_ret (pe_fld (pv 0) rfl))) pss_nil)
  (pss_one (ps_raise0 T.xNT T.ntI hr.hd rfl T.gNT))),?_⟩
 exists _,z0
 refine ⟨_,rfl,rfl,_,rfl,?_⟩
 rw [show decide (V.int (wh:Int) = V.int 1) = (wh == 1) from dec_nat wh 1]
 by_cases w1:wh = 1
 ·subst w1
  rw [if_pos (.inl rfl)] at k
  exact ⟨_,rfl,fldgo (fun _ _=>_) T.fil hk (i:=7) rfl rfl (k lf h4)⟩
 ·rw [show (wh == 1) = false from beq_eq_false_iff_ne.mpr w1]
  exists z0,z0
  refine ⟨_,rfl,rfl,_,rfl,?_⟩
  rw [show decide (V.int (wh:Int) = V.int 2) = (wh == 2) from dec_nat wh 2]
  by_cases w2:wh = 2
  ·subst w2
   rw [if_pos (.inr rfl)] at k
   exact ⟨_,rfl,fldgo (fun _ _=>_) T.fil hk (i:=8) rfl rfl (k lm h5)⟩
  ·rw [show (wh == 2) = false from beq_eq_false_iff_ne.mpr w2]
   rw [if_neg (by omega)] at k
   exists z0
   exact k
end
end Cf
namespace Cf
open PySem PySem.Spec PyProof.Rows L2
open CfFile (Pool big File Member Attr)
open ClassHall (membersOf attrsOf shown Answer answer tells says NO given Call)
abbrev sAHead:Stmt:=top 73
abbrev sACount:Stmt:=top 74
abbrev sAFace:Stmt:=top 75
abbrev sATag:Stmt:=top 76
abbrev sAText:Stmt:=top 77
abbrev sANumber:Stmt:=top 78
abbrev sAPair:Stmt:=top 79
abbrev sAMember:Stmt:=top 80
abbrev sAAttr:Stmt:=top 81
abbrev sACode:Stmt:=top 82
def iv (ns:List Nat):List V:=ns.map fun (n:Nat)=>V.int (n:Int)
structure Fact (x:File):Prop where
 held:Held x.pool
 small:x.bytes.length ≤ 4096
 cnt:x.pool.length ≤ 65536
 meth:∀ m ∈ x.methods,CfFile.isMethod m.type_ = true
structure Arg (A:Adr) (S H:Hp) (k ln lr:Addr) (x:File) (ns:List Nat) (rs:List (List UInt8)):Prop where
 fi:FiAt A S k x
 le:Same S H
 fa:Fact x
 nu:H ln = some (.lst (iv ns))
 ro:∃ rl,H lr = some (.lst rl)∧Paired (fun (r:List UInt8) (v:V)=>∃ a,v = .ref a∧H a = some (.lst (bv r))) rs rl
def Rsp (A:Adr) (H:Hp) (Q:VK) (E:XK) (a:Answer):Prop:=if a = NO then (∀ H',Same H H'→E (.ref A.cNT) none H') else ∀ H1 p xs,Same H H1→H1 p = none→some (HO.lst xs) = some (HO.lst ((ClassNeutral.rowOf a).map V.int))→Q (.ref p) (upd H1 p (.lst xs))
theorem tells_ne (n:Nat) (l:List Nat):tells n l ≠ NO:=fun h=>by
 have:(n:Int) = -1:=congrArg Answer.ret h
 omega
theorem Rsp.tells {A:Adr} {H:Hp} {Q:VK} {E:XK} {n:Nat} {l:List Nat} (r:Rsp A H Q E (tells n l)) {H1:Hp} {p:Addr} {xs:List V} (s:Same H H1) (hp:H1 p = none) (e:some (HO.lst xs) = some (HO.lst (iv (n :: l)))):Q (.ref p) (upd H1 p (.lst xs)):=by
 unfold Rsp at r
 rw [if_neg (tells_ne n l)] at r
 refine r H1 p xs s hp (e.trans ?_)
 unfold ClassNeutral.rowOf ClassHall.tells iv
 simp
theorem Rsp.says {A:Adr} {H:Hp} {Q:VK} {E:XK} {n:Nat} (r:Rsp A H Q E (says n)) {H1:Hp} {p:Addr} {xs:List V} (s:Same H H1) (hp:H1 p = none) (e:some (HO.lst xs) = some (HO.lst (iv [n]))):Q (.ref p) (upd H1 p (.lst xs)):=Rsp.tells (l:=[]) r s hp e
theorem Rsp.no {A:Adr} {H:Hp} {Q:VK} {E:XK} (r:Rsp A H Q E NO):∀ H',Same H H'→E (.ref A.cNT) none H':=by
 unfold Rsp at r
 rw [if_pos rfl] at r
 exact r
inductive spAns (A:Adr) (nn nr:Nat) (mk:List Nat→List (List UInt8)→Call) (vs:List V) (H:Hp) (Q:VK) (E:XK):Prop
 | mk (S:Hp) (k ln lr:Addr) (x:File) (ns:List Nat) (rs:List (List UInt8)) (_:vs = [.ref k,.ref ln,.ref lr]) (_:ns.length = nn) (_:rs.length = nr) (_:Arg A S H k ln lr x ns rs) (_:Rsp A H Q E (answer x (mk ns rs)))
theorem spAns.len {A:Adr} {nn nr:Nat} {mk:List Nat→List (List UInt8)→Call} {vs:List V} {H:Hp} {Q:VK} {E:XK} (h:spAns A nn nr mk vs H Q E):vs.length = (["held","numbers","rows"]:List Str).length:=by
 obtain ⟨S,k,ln,lr,x,ns,rs,rfl,_⟩:=h
 rfl
theorem len1 {α:Type} {l:List α} (h:l.length = 1):∃ a,l = [a]:=match l,h with | [a],_=>⟨a,rfl⟩
structure Pks (P:Program) (w:World) (K:PySem.W.Frag) (mg:Str→Option Value) (base:Heap) (A:Adr):Prop where
 pk:Def P w K mg base 1 "pick" ["values","number"] (spPick A)
 pc:Def P w K mg base 2 "pick_constant" ["held","number","tags"] (spPickC A K)
 pm:Def P w K mg base 1 "pick_members" ["held","what"] (spPickM A)
section
variable {P:Program} {w:World} {K:PySem.W.Frag} {mg:Str→Option Value} {base:Heap} {A:Adr}
theorem scPickB:FnScope ["held","number","body"] ["held","number"] (defScope sPickB):=scB
theorem d_pickB (T:Txt K mg A) (src:Src K "pick_body" sPickB) (B:Pks P w K mg base A):Def P w K mg base 2 "pick_body" ["held","number"] (spPickB A):=by
 refine defR src T.kx scPickB (fun vs H Q E h=>?_) (fun f cdv A' outer sh H vs Q E hr h=>?_)
 ·obtain ⟨S,k,x,n,rfl,_⟩:=h
  rfl
 obtain ⟨S,kf,x,n,rfl,fi,le,k⟩:=h
 obtain ⟨dk,q,li,lf,lm,la,h1,⟨a,po⟩,h3,h4,h5,h6⟩:=fi.ob
 have hk:=le _ _ h1
 obtain ⟨ks,hlm,pr⟩:=h5
 refine ⟨_,pss_cons (ps_set (i:=2) scPickB.nd rfl (Or.inl rfl) (pe_fld (pe_d B.pk hr rfl passR (pa_cons (pe_fld (pv 0) rfl) (pa_cons (pv 1) pa_nil))) rfl))
  (pss_cons (ps_if (pt_cmp (pc_isN (pv 2))) (pss_one (ps_raise0 T.xNT T.ntI hr.hd rfl T.gNT)) pss_nil)
  (pss_one (ps_ret (pv 2)))),?_⟩
 refine ⟨_,rfl,fldgo (fun _ _=>_) T.fil hk (i:=8) rfl rfl ⟨_,rfl,lm,_,n,rfl,le _ _ hlm,?_⟩⟩
 rw [List.getElem?_map]
 cases e:x.methods[n]? with
 | none =>
  rw [e] at k
  have:ks[n]? = none:=by rw [List.getElem?_eq_none_iff] at e ⊢; have:=paired_len pr; omega
  rw [this]
  exact k
 | some m =>
  rw [e] at k
  obtain ⟨kk,hkk,dkm,lam,pl,bo,hm,_,hbo,_⟩:=paired_at2 pr e
  rw [hkk]
  refine fldgo (fun _ _=>_) T.mem (le _ _ hm) (i:=5) rfl rfl ⟨_,rfl,_,rfl,?_⟩
  have k:match m.body with | some y=>∀ kb,BoAt A S kb y→Q (.ref kb) H | none=>E (.ref A.cNT) none H:=k
  cases hb:m.body with
  | none =>
   rw [hb] at k hbo
   have:bo = V.non:=hbo
   rw [this]
   exact k
  | some y =>
   rw [hb] at k hbo
   obtain ⟨kb,rfl,hkb⟩:=hbo
   rw [decide_eq_false (fun z=>by cases z)]
   exact ⟨_,rfl,k kb hkb⟩
theorem scPickA:FnScope ["held","what","number"] ["held","what","number"] (defScope sPickA):=scB
theorem d_pickA (T:Txt K mg A) (src:Src K "pick_attributes" sPickA) (B:Pks P w K mg base A) (Db:Def P w K mg base 2 "pick_body" ["held","number"] (spPickB A)):Def P w K mg base 3 "pick_attributes" ["held","what","number"] (spPickA A):=by
 refine defR src T.kx scPickA (fun vs H Q E h=>?_) (fun f cdv A' outer sh H vs Q E hr h=>?_)
 ·obtain ⟨S,k,x,wh,n,rfl,_⟩:=h
  rfl
 obtain ⟨S,kf,x,wh,n,rfl,fi,le,k,kn⟩:=h
 obtain ⟨dk,q,li,lf,lm,la,h1,⟨a,po⟩,h3,h4,h5,h6⟩:=id fi.ob
 have hk:=le _ _ h1
 refine ⟨_,pss_cons (ps_if (pt_cmpR op_eq (pv 1) (pe_gi T.g_OF_FILE rfl) (nomark _)) (pss_one (ps_ret (pe_fld (pv 0) rfl))) pss_nil)
  (pss_cons (ps_if (pt_cmpR op_eq (pv 1) (pe_gi T.g_OF_CODE rfl) (nomark _)) (pss_one (ps_ret (pe_fld (pe_d Db hr rfl passR (pa_cons (pv 0) (pa_cons (pv 2) pa_nil))) rfl))) pss_nil)
  (pss_one (ps_ret (pe_fld (pe_d B.pk (rm hr) rfl passR (pa_cons (pe_d B.pm (rm hr) rfl passR (pa_cons (pv 0) (pa_cons (pv 1) pa_nil))) (pa_cons (pv 2) pa_nil))) rfl)))),?_⟩
 refine ⟨_,rfl,rfl,_,rfl,?_⟩
 rw [show decide (V.int (wh:Int) = V.int 3) = (wh == 3) from dec_nat wh 3]
 by_cases w3:wh = 3
 ·subst w3
  exact ⟨_,rfl,fldgo (fun _ _=>_) T.fil hk (i:=9) rfl rfl (k la h6)⟩
 ·rw [show (wh == 3) = false from beq_eq_false_iff_ne.mpr w3]
  refine ⟨_,rfl,rfl,_,rfl,?_⟩
  rw [show decide (V.int (wh:Int) = V.int 4) = (wh == 4) from dec_nat wh 4]
  by_cases w4:wh = 4
  ·subst w4
   refine ⟨_,rfl,_,rfl,S,kf,x,n,rfl,fi,le,?_⟩
   have hat:attrsOf x 4 n = match (x.methods[n]?).bind (fun (m:Member)=>m.body) with | some y=>y.attrs | none=>[]:=by
    unfold attrsOf membersOf
    simp
    cases x.methods[n]? with
    | none=>rfl
    | some m=>rfl
   cases e:(x.methods[n]?).bind (fun (m:Member)=>m.body) with
   | none =>
    rw [e] at hat
    exact kn hat
   | some y =>
    rw [e] at hat
    intro kb ⟨dkb,lab,hb,hat'⟩
    exact fldgo (fun _ _=>_) T.bod (le _ _ hb) (i:=4) rfl rfl (k lab (by rw [hat]; exact hat'))
  ·rw [show (wh == 4) = false from beq_eq_false_iff_ne.mpr w4]
   have hat:attrsOf x wh n = match (membersOf x wh)[n]? with | some m=>m.attrs | none=>[]:=by
    unfold attrsOf
    rw [if_neg w3,if_neg w4]
    cases (membersOf x wh)[n]? with
    | none=>rfl
    | some m=>show (if wh = 4 then _ else _) = _; rw [if_neg w4]
   refine ⟨_,rfl,_,rfl,S,kf,x,wh,rfl,fi,le,?_⟩
   by_cases w12:wh = 1 ∨ wh = 2
   ·rw [if_pos w12]
    intro lm' ⟨ks,hlm,pr⟩
    refine ⟨_,rfl,lm',_,n,rfl,le _ _ hlm,?_⟩
    rw [List.getElem?_map]
    cases e:(membersOf x wh)[n]? with
    | none =>
     rw [e] at hat
     have:ks[n]? = none:=by rw [List.getElem?_eq_none_iff] at e ⊢; have:=paired_len pr; omega
     rw [this]
     exact kn hat
    | some m =>
     rw [e] at hat
     obtain ⟨kk,hkk,dkm,lam,pl,bo,hm,hat',_⟩:=paired_at2 pr e
     rw [hkk]
     exact fldgo (fun _ _=>_) T.mem (le _ _ hm) (i:=4) rfl rfl (k lam (by rw [hat]; exact hat'))
   ·rw [if_neg w12]
    refine kn ?_
    rw [hat]
    unfold membersOf
    rw [if_neg (by omega),if_neg (by omega)]
    rfl
end
section
variable {P:Program} {w:World} {K:PySem.W.Frag} {mg:Str→Option Value} {base:Heap} {A:Adr}
theorem scAHead:FnScope ["held","numbers","rows","size"] ["held","numbers","rows"] (defScope sAHead):=scB
theorem d_aHead (T:Txt K mg A) (src:Src K "answer_head" sAHead):Def P w K mg base 6 "answer_head" ["held","numbers","rows"] (spAns A 0 0 fun _ _=>.head):=by
 refine defR src T.kx scAHead (fun vs H Q E h=>h.len) (fun f cdv A' outer sh H vs Q E hr h=>?_)
 obtain ⟨S,kf,ln,lr,x,ns,rs,rfl,hns,hrs,ar,k⟩:=h
 obtain ⟨dk,q,li,lf,lm,la,h1,⟨a,po⟩,h3,h4,h5,h6⟩:=id ar.fi.ob
 obtain ⟨dx,cl,us,g1,g2,pr⟩:=id po.ob
 have hk:=ar.le _ _ h1
 have hq:=ar.le _ _ g1
 have hcl:=ar.le _ _ g2
 refine ⟨_,pss_cons (ps_set (i:=3) scAHead.nd rfl (Or.inl rfl) (pe_callB call_len_seq (by rfl) T.nLen PySem.boot_len (pa_cons (pe_fld (pe_fld (pv 0) rfl) rfl) pa_nil)))
  (pss_one (ps_ret (pe_lst (pa_cons pe_int (pa_cons (pe_fld (pv 0) rfl) (pa_cons (pe_fld (pv 0) rfl) (pa_cons (pe_fld (pv 0) rfl) (pa_cons (pe_fld (pv 0) rfl) (pa_cons (pe_fld (pv 0) rfl) (pa_cons (pv 3) pa_nil)))))))))),?_⟩
 exists _,z0
 refine ⟨_,rfl,fldgo (fun _ _=>_) T.fil hk (i:=2) rfl rfl (fldgo (fun _ _=>_) T.poo hq (i:=1) rfl rfl ⟨cl,_,rfl,.inl (SqL.of hcl),?_⟩)⟩
 exists z0
 refine ⟨_,rfl,fldgo (fun _ _=>_) T.fil hk (i:=0) rfl rfl ⟨_,rfl,fldgo (fun _ _=>_) T.fil hk (i:=1) rfl rfl ⟨_,rfl,fldgo (fun _ _=>_) T.fil hk (i:=3) rfl rfl ⟨_,rfl,fldgo (fun _ _=>_) T.fil hk (i:=4) rfl rfl ⟨_,rfl,fldgo (fun _ _=>_) T.fil hk (i:=5) rfl rfl ⟨_,rfl,Nat.le_of_lt (szl (by decide:7 ≤ 70000)),fun p hp=>?_⟩⟩⟩⟩⟩⟩
 refine Rsp.tells k (same_refl _) hp (?_)
 rw [← paired_len pr]
 rfl
theorem scACount:FnScope ["held","numbers","rows","counted"] ["held","numbers","rows"] (defScope sACount):=scB
theorem d_aCount (T:Txt K mg A) (src:Src K "answer_count" sACount) (B:Pks P w K mg base A):Def P w K mg base 6 "answer_count" ["held","numbers","rows"] (spAns A 1 0 fun ns _=>.count (ns.getD 0 0)):=by
 refine defR src T.kx scACount (fun vs H Q E h=>h.len) (fun f cdv A' outer sh H vs Q E hr h=>?_)
 obtain ⟨S,kf,ln,lr,x,ns,rs,rfl,hns,hrs,ar,k⟩:=h
 obtain ⟨n,rfl⟩:=len1 hns
 obtain ⟨dk,q,li,lf,lm,la,h1,⟨a,po⟩,h3,⟨k4,h4,p4⟩,⟨k5,h5,p5⟩,⟨k6,h6,p6⟩⟩:=id ar.fi.ob
 have hk:=ar.le _ _ h1
 refine ⟨_,pss_cons (ps_set (i:=3) scACount.nd rfl (Or.inl rfl) (pe_lst (pa_cons (pe_fld (pv 0) rfl) (pa_cons (pe_fld (pv 0) rfl) (pa_cons (pe_fld (pv 0) rfl) (pa_cons (pe_fld (pv 0) rfl) pa_nil))))))
  (pss_one (ps_ret (pe_lst (pa_cons (pe_callB call_len_seq (by rfl) T.nLen PySem.boot_len (pa_cons (pe_d B.pk (rm hr) rfl passR (pa_cons (pv 3) (pa_cons (pe_ix ix_list (pv 1) pe_int (fun _ _=>rfl)) pa_nil))) pa_nil)) pa_nil)))),?_⟩
 exists _,z0
 refine ⟨_,rfl,fldgo (fun _ _=>_) T.fil hk (i:=6) rfl rfl ⟨_,rfl,fldgo (fun _ _=>_) T.fil hk (i:=7) rfl rfl ⟨_,rfl,fldgo (fun _ _=>_) T.fil hk (i:=8) rfl rfl ⟨_,rfl,fldgo (fun _ _=>_) T.fil hk (i:=9) rfl rfl ⟨Nat.le_of_lt (szl (by decide:4 ≤ 70000)),fun lc hlc=>?_⟩⟩⟩⟩⟩
 have s1:=same_new (o:=.lst [.ref li,.ref lf,.ref lm,.ref la]) hlc
 have hl1:(upd H lc (.lst [.ref li,.ref lf,.ref lm,.ref la])) lc = some (.lst [.ref li,.ref lf,.ref lm,.ref la]):=upd_same
 generalize upd H lc (.lst [.ref li,.ref lf,.ref lm,.ref la]) = H1 at s1 hl1 ⊢
 exists z0
 refine ⟨_,rfl,_,rfl,ln,_,_,_,rfl,rfl,SqL.of (s1 _ _ ar.nu),atI_nat (j:=0) rfl,lc,_,n,rfl,hl1,?_⟩
 have fin:∀ (lx:Addr) (vs:List V),H lx = some (.lst vs)→Rsp A H Q E (says vs.length)→∃ p ys,[V.ref lx] = [V.ref p]∧(SqL K H1 p ys ∨ SqT K H1 p ys)∧[V.int (ys.length:Int)].length ≤ sizeLine∧∀ p,H1 p = none→Q (.ref p) (upd H1 p (.lst [V.int (ys.length:Int)])):=fun lx vs hx r =>
  ⟨lx,vs,rfl,.inl (SqL.of (s1 _ _ hx)),Nat.le_of_lt (szl (by decide:1 ≤ 70000)),fun p hp=>Rsp.says r s1 hp rfl⟩
 have k:Rsp A H Q E (answer x (.count n)):=k
 unfold answer at k
 match n,k with
 | 0,k=>exact fin li _ (ar.le _ _ h3) (by rw [List.length_map]; exact k)
 | 1,k=>exact fin lf _ (ar.le _ _ h4) (by rw [List.length_map,paired_len p4]; exact k)
 | 2,k=>exact fin lm _ (ar.le _ _ h5) (by rw [List.length_map,paired_len p5]; exact k)
 | 3,k=>exact fin la _ (ar.le _ _ h6) (by rw [List.length_map,paired_lenA p6]; exact k)
 | n + 4,k =>
  try dsimp only at k
  rw [if_neg (by omega),if_neg (by omega),if_neg (by omega)] at k
  exact Rsp.no k H1 s1
theorem scAFace:FnScope ["held","numbers","rows"] ["held","numbers","rows"] (defScope sAFace):=scB
theorem d_aFace (T:Txt K mg A) (src:Src K "answer_face" sAFace) (B:Pks P w K mg base A):Def P w K mg base 6 "answer_face" ["held","numbers","rows"] (spAns A 1 0 fun ns _=>.face (ns.getD 0 0)):=by
 refine defR src T.kx scAFace (fun vs H Q E h=>h.len) (fun f cdv A' outer sh H vs Q E hr h=>?_)
 obtain ⟨S,kf,ln,lr,x,ns,rs,rfl,hns,hrs,ar,k⟩:=h
 obtain ⟨n,rfl⟩:=len1 hns
 obtain ⟨dk,q,li,lf,lm,la,h1,⟨a,po⟩,h3,h4,h5,h6⟩:=id ar.fi.ob
 have hk:=ar.le _ _ h1
 refine ⟨_,pss_one (ps_ret (pe_lst (pa_cons (pe_d B.pk (rm hr) rfl passR (pa_cons (pe_fld (pv 0) rfl) (pa_cons (pe_ix ix_list (pv 1) pe_int (fun _ _=>rfl)) pa_nil))) pa_nil))),?_⟩
 refine ⟨_,rfl,fldgo (fun _ _=>_) T.fil hk (i:=6) rfl rfl ⟨_,rfl,ln,_,_,_,rfl,rfl,SqL.of ar.nu,atI_nat (j:=0) rfl,li,_,n,rfl,ar.le _ _ h3,?_⟩⟩
 have k:Rsp A H Q E (given x.interfaces[n]?):=k
 rw [List.getElem?_map]
 cases e:x.interfaces[n]? with
 | none=>rw [e] at k; exact Rsp.no k H (same_refl H)
 | some i =>
  rw [e] at k
  exact ⟨Nat.le_of_lt (szl (by decide:1 ≤ 70000)),fun p hp=>Rsp.says k (same_refl _) hp rfl⟩
theorem scATag:FnScope ["held","numbers","rows","tag"] ["held","numbers","rows"] (defScope sATag):=scB
theorem d_aTag (T:Txt K mg A) (src:Src K "answer_tag" sATag) (L:Lib P w K mg base A):Def P w K mg base 6 "answer_tag" ["held","numbers","rows"] (spAns A 1 0 fun ns _=>.tag (ns.getD 0 0)):=by
 refine defR src T.kx scATag (fun vs H Q E h=>h.len) (fun f cdv A' outer sh H vs Q E hr h=>?_)
 obtain ⟨S,kf,ln,lr,x,ns,rs,rfl,hns,hrs,ar,k⟩:=h
 obtain ⟨n,rfl⟩:=len1 hns
 obtain ⟨dk,q,li,lf,lm,la,h1,⟨a,po⟩,h3,h4,h5,h6⟩:=id ar.fi.ob
 have hk:=ar.le _ _ h1
 obtain ⟨dq,cl,hq⟩:=po.hq ar.le
 refine ⟨_,pss_cons (ps_set (i:=3) scATag.nd rfl (Or.inl rfl) (pe_md L.tag (pe_fld (pv 0) rfl) T.poo.cl (rm hr) passR (pa_cons (pe_ix ix_list (pv 1) pe_int (fun _ _=>rfl)) pa_nil)))
  (pss_cons (ps_if (pt_cmpR op_eq (pv 3) pe_int (nomark _)) (pss_one (ps_raise0 T.xNT T.ntI hr.hd rfl T.gNT)) pss_nil)
  (pss_one (ps_ret (pe_lst (pa_cons (pv 3) pa_nil))))),?_⟩
 refine ⟨_,rfl,fldgo (fun _ _=>_) T.fil hk (i:=2) rfl rfl (methgo hq (by decide +kernel) ⟨_,rfl,ln,_,_,_,rfl,rfl,SqL.of ar.nu,atI_nat (j:=0) rfl,S,q,a,x.bytes,x.pool,n,rfl,po,ar.le,?_⟩)⟩
 refine ⟨_,rfl,rfl,_,rfl,?_⟩
 rw [show decide (V.int (tagAt x.pool n:Int) = V.int 0) = (tagAt x.pool n == 0) from dec_nat _ 0]
 have k:Rsp A H Q E (given ((CfFile.constAt x.pool n).map CfFile.Const.tag)):=k
 have ht:tagAt x.pool n = match CfFile.constAt x.pool n with | some c=>c.tag | none=>0:=rfl
 cases e:CfFile.constAt x.pool n with
 | none =>
  rw [e] at k ht
  rw [ht]
  exact Rsp.no k H (same_refl H)
 | some c =>
  rw [e] at k ht
  obtain ⟨p,hp⟩:=constAt_iff.mp e
  have hne:=tag_pos (po.ok n p c hp)
  rw [ht,show (c.tag == 0) = false from beq_eq_false_iff_ne.mpr hne]
  exact ⟨_,rfl,Nat.le_of_lt (szl (by decide:1 ≤ 70000)),fun p hp=>Rsp.says k (same_refl _) hp rfl⟩
end
theorem text_by {b:List UInt8} {x:File} (ok:AllOk b x.pool) (n:Nat):(tagAt x.pool n = 1∧∃ p c,x.pool[n]? = some (some (p,c))∧answer x (.text n) = tells 0 [fst p c,snd c]) ∨ (tagAt x.pool n ≠ 1∧answer x (.text n) = NO):=by
 by_cases h:tagAt x.pool n = 1
 ·refine .inl ⟨h,?_⟩
  have hs:(CfFile.textAt x.pool n).isSome = true:=by rw [textAt_tag ok,h]; rfl
  obtain ⟨s,hs⟩:=Option.isSome_iff_exists.mp hs
  obtain ⟨p,hp⟩:=textAt_at hs
  refine ⟨p,_,hp,?_⟩
  unfold answer
  dsimp only
  rw [hp]
  rfl
 ·refine .inr ⟨h,?_⟩
  unfold answer
  dsimp only
  split
  ·rename_i p s e
   exact absurd (tagAt_some e) h
  ·rfl
theorem const_cases {b:List UInt8} {x:File} (ok:AllOk b x.pool) (n:Nat):(CfFile.constAt x.pool n = none∧tagAt x.pool n = 0) ∨ ∃ p c,x.pool[n]? = some (some (p,c))∧CfFile.constAt x.pool n = some c∧tagAt x.pool n = c.tag∧OkC b p c:=by
 cases e:CfFile.constAt x.pool n with
 | none=>exact .inl ⟨rfl,by unfold tagAt; rw [e]⟩
 | some c =>
  obtain ⟨p,hp⟩:=constAt_iff.mp e
  exact .inr ⟨p,c,hp,rfl,tagAt_some hp,ok n p c hp⟩
theorem number_by {b:List UInt8} {x:File} (ok:AllOk b x.pool) (n:Nat):((([3,4,5,6]:List Nat).any fun m=>m == tagAt x.pool n) = true∧∃ p c,x.pool[n]? = some (some (p,c))∧answer x (.number n) = tells 0 [fst p c]) ∨ ((([3,4,5,6]:List Nat).any fun m=>m == tagAt x.pool n) = false∧answer x (.number n) = NO):=by
 rcases const_cases ok n with ⟨e,t⟩ | ⟨p,c,hp,e,t,okc⟩
 ·rw [t]
  exact .inr ⟨rfl,by unfold answer; dsimp only; rw [e]⟩
 ·rw [t]
  unfold answer
  dsimp only
  rw [e]
  cases c with
  | word k y=>rcases okc with rfl | rfl <;> exact .inl ⟨rfl,p,_,hp,rfl⟩
  | wide k y=>rcases okc with rfl | rfl <;> exact .inl ⟨rfl,p,_,hp,rfl⟩
  | member k y z=>rcases okc with rfl | rfl | rfl <;> exact .inr ⟨rfl,rfl⟩
  | text s=>exact .inr ⟨rfl,rfl⟩
  | class_ i=>exact .inr ⟨rfl,rfl⟩
  | string i=>exact .inr ⟨rfl,rfl⟩
  | named i j=>exact .inr ⟨rfl,rfl⟩
  | handle i j=>exact .inr ⟨rfl,rfl⟩
  | type_ i=>exact .inr ⟨rfl,rfl⟩
  | site i j=>exact .inr ⟨rfl,rfl⟩
theorem pair_by {b:List UInt8} {x:File} (ok:AllOk b x.pool) (n:Nat):((([7,8,9,10,11,12,15,16,18]:List Nat).any fun m=>m == tagAt x.pool n) = true∧∃ p c,x.pool[n]? = some (some (p,c))∧answer x (.pair n) = tells 0 [fst p c,snd c]) ∨ ((([7,8,9,10,11,12,15,16,18]:List Nat).any fun m=>m == tagAt x.pool n) = false∧answer x (.pair n) = NO):=by
 rcases const_cases ok n with ⟨e,t⟩ | ⟨p,c,hp,e,t,okc⟩
 ·rw [t]
  exact .inr ⟨rfl,by unfold answer; dsimp only; rw [e]⟩
 ·rw [t]
  unfold answer
  dsimp only
  rw [e]
  cases c with
  | word k y=>rcases okc with rfl | rfl <;> exact .inr ⟨rfl,rfl⟩
  | wide k y=>rcases okc with rfl | rfl <;> exact .inr ⟨rfl,rfl⟩
  | member k y z=>rcases okc with rfl | rfl | rfl <;> exact .inl ⟨rfl,p,_,hp,rfl⟩
  | text s=>exact .inr ⟨rfl,rfl⟩
  | class_ i=>exact .inl ⟨rfl,p,_,hp,rfl⟩
  | string i=>exact .inl ⟨rfl,p,_,hp,rfl⟩
  | named i j=>exact .inl ⟨rfl,p,_,hp,rfl⟩
  | handle i j=>exact .inl ⟨rfl,p,_,hp,rfl⟩
  | type_ i=>exact .inl ⟨rfl,p,_,hp,rfl⟩
  | site i j=>exact .inl ⟨rfl,p,_,hp,rfl⟩
theorem co_eq {A:Adr} {S:Hp} {kk:Addr} {p p':Nat} {c c':CfFile.Const} {l:Pool} {n:Nat} (h:l[n]? = some (some (p,c))) (h':l[n]? = some (some (p',c'))):p = p'∧c = c':=by
 rw [h] at h'
 cases h'
 exact ⟨rfl,rfl⟩
section
variable {P:Program} {w:World} {K:PySem.W.Frag} {mg:Str→Option Value} {base:Heap} {A:Adr}
theorem scAText:FnScope ["held","numbers","rows","text"] ["held","numbers","rows"] (defScope sAText):=scB
theorem d_aText (T:Txt K mg A) (src:Src K "answer_text" sAText) (B:Pks P w K mg base A):Def P w K mg base 6 "answer_text" ["held","numbers","rows"] (spAns A 1 0 fun ns _=>.text (ns.getD 0 0)):=by
 refine defR src T.kx scAText (fun vs H Q E h=>h.len) (fun f cdv A' outer sh H vs Q E hr h=>?_)
 obtain ⟨S,kf,ln,lr,x,ns,rs,rfl,hns,hrs,ar,k⟩:=h
 obtain ⟨n,rfl⟩:=len1 hns
 obtain ⟨dk,q,li,lf,lm,la,h1,⟨a,po⟩,h3,h4,h5,h6⟩:=id ar.fi.ob
 refine ⟨_,pss_cons (ps_set (i:=3) scAText.nd rfl (Or.inl rfl) (pe_d B.pc (rm hr) rfl passR (pa_cons (pv 0) (pa_cons (pe_ix ix_list (pv 1) pe_int (fun _ _=>rfl)) (pa_cons (pe_tup (pa_cons (pe_gi T.g_TEXT rfl) pa_nil)) pa_nil)))))
  (pss_one (ps_ret (pe_lst (pa_cons pe_int (pa_cons (pe_fld (pv 3) rfl) (pa_cons (pe_fld (pv 3) rfl) pa_nil)))))),?_⟩
 exists _,z0
 refine ⟨_,rfl,_,rfl,ln,_,_,_,rfl,rfl,SqL.of ar.nu,atI_nat (j:=0) rfl,Nat.le_of_lt (szl (by decide:1 ≤ 70000)),fun t ht=>⟨S,kf,t,x,n,[1],rfl,ar.fi,ar.le.trans (same_new ht),SqT.of upd_same,?_⟩⟩
 have s1:=same_new (o:=.tup [V.int 1]) ht
 have k:Rsp A H Q E (answer x (.text n)):=k
 rcases text_by po.ok n with ⟨t1,p,c,hpc,e⟩ | ⟨t1,e⟩
 ·rw [e] at k
  rw [if_pos (by rw [t1]; rfl)]
  refine ⟨fun kk p' c' hpc' ⟨dk,hk⟩=>?_,by rw [t1]; decide⟩
  obtain ⟨rfl,rfl⟩:=co_eq (A:=A) (S:=S) (kk:=kk) hpc hpc'
  have hk1:=s1 _ _ (ar.le _ _ hk)
  exists z0
  exact ⟨_,rfl,fldgo (fun _ _=>_) T.con hk1 (i:=2) rfl rfl ⟨_,rfl,fldgo (fun _ _=>_) T.con hk1 (i:=3) rfl rfl ⟨Nat.le_of_lt (szl (by decide:3 ≤ 70000)),fun r hr=>Rsp.tells k s1 hr rfl⟩⟩⟩
 ·rw [e] at k
  rw [if_neg (by simp; exact fun z=>t1 z.symm)]
  exact Rsp.no k _ s1
theorem scANumber:FnScope ["held","numbers","rows","constant"] ["held","numbers","rows"] (defScope sANumber):=scB
theorem d_aNumber (T:Txt K mg A) (src:Src K "answer_number" sANumber) (B:Pks P w K mg base A):Def P w K mg base 6 "answer_number" ["held","numbers","rows"] (spAns A 1 0 fun ns _=>.number (ns.getD 0 0)):=by
 refine defR src T.kx scANumber (fun vs H Q E h=>h.len) (fun f cdv A' outer sh H vs Q E hr h=>?_)
 obtain ⟨S,kf,ln,lr,x,ns,rs,rfl,hns,hrs,ar,k⟩:=h
 obtain ⟨n,rfl⟩:=len1 hns
 obtain ⟨dk,q,li,lf,lm,la,h1,⟨a,po⟩,h3,h4,h5,h6⟩:=id ar.fi.ob
 refine ⟨_,pss_cons (ps_set (i:=3) scANumber.nd rfl (Or.inl rfl) (pe_d B.pc (rm hr) rfl passR (pa_cons (pv 0) (pa_cons (pe_ix ix_list (pv 1) pe_int (fun _ _=>rfl)) (pa_cons (pe_tup (pa_cons (pe_gi T.g_INTEGER rfl) (pa_cons (pe_gi T.g_FLOATING rfl) (pa_cons (pe_gi T.g_LONG rfl) (pa_cons (pe_gi T.g_DOUBLE rfl) pa_nil))))) pa_nil)))))
  (pss_one (ps_ret (pe_lst (pa_cons pe_int (pa_cons (pe_fld (pv 3) rfl) pa_nil))))),?_⟩
 exists _,z0
 refine ⟨_,rfl,_,rfl,ln,_,_,_,rfl,rfl,SqL.of ar.nu,atI_nat (j:=0) rfl,Nat.le_of_lt (szl (by decide:4 ≤ 70000)),fun t ht=>⟨S,kf,t,x,n,[3,4,5,6],rfl,ar.fi,ar.le.trans (same_new ht),SqT.of upd_same,?_⟩⟩
 have s1:=same_new (o:=.tup [V.int 3,V.int 4,V.int 5,V.int 6]) ht
 have k:Rsp A H Q E (answer x (.number n)):=k
 rcases number_by po.ok n with ⟨t1,p,c,hpc,e⟩ | ⟨t1,e⟩
 ·rw [e] at k
  rw [if_pos t1]
  refine ⟨fun kk p' c' hpc' ⟨dk,hk⟩=>?_,fun z=>by rw [z] at t1; cases t1⟩
  obtain ⟨rfl,rfl⟩:=co_eq (A:=A) (S:=S) (kk:=kk) hpc hpc'
  have hk1:=s1 _ _ (ar.le _ _ hk)
  exists z0
  exact ⟨_,rfl,fldgo (fun _ _=>_) T.con hk1 (i:=2) rfl rfl ⟨Nat.le_of_lt (szl (by decide:2 ≤ 70000)),fun r hr=>Rsp.tells k s1 hr rfl⟩⟩
 ·rw [e] at k
  rw [if_neg (by rw [t1]; decide)]
  exact Rsp.no k _ s1
theorem scAPair:FnScope ["held","numbers","rows","constant"] ["held","numbers","rows"] (defScope sAPair):=scB
theorem d_aPair (T:Txt K mg A) (src:Src K "answer_pair" sAPair) (B:Pks P w K mg base A):Def P w K mg base 6 "answer_pair" ["held","numbers","rows"] (spAns A 1 0 fun ns _=>.pair (ns.getD 0 0)):=by
 refine defR src T.kx scAPair (fun vs H Q E h=>h.len) (fun f cdv A' outer sh H vs Q E hr h=>?_)
 obtain ⟨S,kf,ln,lr,x,ns,rs,rfl,hns,hrs,ar,k⟩:=h
 obtain ⟨n,rfl⟩:=len1 hns
 obtain ⟨dk,q,li,lf,lm,la,h1,⟨a,po⟩,h3,h4,h5,h6⟩:=id ar.fi.ob
 refine ⟨_,pss_cons (ps_set (i:=3) scAPair.nd rfl (Or.inl rfl) (pe_d B.pc (rm hr) rfl passR (pa_cons (pv 0) (pa_cons (pe_ix ix_list (pv 1) pe_int (fun _ _=>rfl)) (pa_cons (pe_glob rfl T.gPA (v:=.ref A.aPA) rfl) pa_nil)))))
  (pss_one (ps_ret (pe_lst (pa_cons pe_int (pa_cons (pe_fld (pv 3) rfl) (pa_cons (pe_fld (pv 3) rfl) pa_nil)))))),?_⟩
 exists _,z0
 refine ⟨_,rfl,_,rfl,ln,_,_,_,rfl,rfl,SqL.of ar.nu,atI_nat (j:=0) rfl,S,kf,A.aPA,x,n,[7,8,9,10,11,12,15,16,18],rfl,ar.fi,ar.le,T.dPA.sq _,?_⟩
 have k:Rsp A H Q E (answer x (.pair n)):=k
 rcases pair_by po.ok n with ⟨t1,p,c,hpc,e⟩ | ⟨t1,e⟩
 ·rw [e] at k
  rw [if_pos t1]
  refine ⟨fun kk p' c' hpc' ⟨dk,hk⟩=>?_,fun z=>by rw [z] at t1; cases t1⟩
  obtain ⟨rfl,rfl⟩:=co_eq (A:=A) (S:=S) (kk:=kk) hpc hpc'
  have hk1:=ar.le _ _ hk
  exists z0
  exact ⟨_,rfl,fldgo (fun _ _=>_) T.con hk1 (i:=2) rfl rfl ⟨_,rfl,fldgo (fun _ _=>_) T.con hk1 (i:=3) rfl rfl ⟨Nat.le_of_lt (szl (by decide:3 ≤ 70000)),fun r hr=>Rsp.tells k (same_refl _) hr rfl⟩⟩⟩
 ·rw [e] at k
  rw [if_neg (by rw [t1]; decide)]
  exact Rsp.no k _ (same_refl H)
theorem scAMember:FnScope ["held","numbers","rows","member"] ["held","numbers","rows"] (defScope sAMember):=scB
theorem d_aMember (T:Txt K mg A) (src:Src K "answer_member" sAMember) (B:Pks P w K mg base A):Def P w K mg base 6 "answer_member" ["held","numbers","rows"] (spAns A 2 0 fun ns _=>.member (ns.getD 0 0) (ns.getD 1 0)):=by
 refine defR src T.kx scAMember (fun vs H Q E h=>h.len) (fun f cdv A' outer sh H vs Q E hr h=>?_)
 obtain ⟨S,kf,ln,lr,x,ns,rs,rfl,hns,hrs,ar,k⟩:=h
 obtain ⟨wh,n,rfl⟩:=len2 hns
 refine ⟨_,pss_cons (ps_set (i:=3) scAMember.nd rfl (Or.inl rfl) (pe_d B.pk (rm hr) rfl passR (pa_cons (pe_d B.pm (rm hr) rfl passR (pa_cons (pv 0) (pa_cons (pe_ix ix_list (pv 1) pe_int (fun _ _=>rfl)) pa_nil))) (pa_cons (pe_ix ix_list (pv 1) pe_int (fun _ _=>rfl)) pa_nil))))
  (pss_one (ps_ret (pe_lst (pa_cons pe_int (pa_cons (pe_fld (pv 3) rfl) (pa_cons (pe_fld (pv 3) rfl) (pa_cons (pe_fld (pv 3) rfl) (pa_cons (pe_callB call_len_seq (by rfl) T.nLen PySem.boot_len (pa_cons (pe_fld (pv 3) rfl) pa_nil)) pa_nil)))))))),?_⟩
 have k:Rsp A H Q E (answer x (.member wh n)):=k
 unfold answer at k
 try dsimp only at k
 exists _,z0
 refine ⟨_,rfl,_,rfl,ln,_,_,_,rfl,rfl,SqL.of ar.nu,atI_nat (j:=0) rfl,S,kf,x,wh,rfl,ar.fi,ar.le,?_⟩
 by_cases w12:wh = 1 ∨ wh = 2
 ·rw [if_pos w12]
  intro lm' ⟨ks,hlm,pr⟩
  refine ⟨_,rfl,ln,_,_,_,rfl,rfl,SqL.of ar.nu,atI_nat (j:=1) rfl,lm',_,n,rfl,ar.le _ _ hlm,?_⟩
  rw [List.getElem?_map]
  cases e:(membersOf x wh)[n]? with
  | none =>
   rw [e] at k
   have:ks[n]? = none:=by rw [List.getElem?_eq_none_iff] at e ⊢; have:=paired_len pr; omega
   rw [this]
   exact Rsp.no k _ (same_refl H)
  | some m =>
   rw [e] at k
   obtain ⟨kk,hkk,dkm,lam,pl,bo,hm,⟨ka,hla,pa⟩,_⟩:=paired_at2 pr e
   rw [hkk]
   have hm:=ar.le _ _ hm
   exists z0
   refine ⟨_,rfl,fldgo (fun _ _=>_) T.mem hm (i:=1) rfl rfl ⟨_,rfl,fldgo (fun _ _=>_) T.mem hm (i:=2) rfl rfl ⟨_,rfl,fldgo (fun _ _=>_) T.mem hm (i:=3) rfl rfl ⟨_,rfl,fldgo (fun _ _=>_) T.mem hm (i:=4) rfl rfl ⟨lam,_,rfl,.inl (SqL.of (ar.le _ _ hla)),Nat.le_of_lt (szl (by decide:5 ≤ 70000)),fun r hr=>Rsp.tells k (same_refl _) hr (?_)⟩⟩⟩⟩⟩
   rw [List.length_map,paired_lenA pa]
   rfl
 ·rw [if_neg w12]
  have:membersOf x wh = []:=by unfold membersOf; rw [if_neg (by omega),if_neg (by omega)]
  rw [this] at k
  exact Rsp.no k _ (same_refl H)
theorem scAAttr:FnScope ["held","numbers","rows","attribute"] ["held","numbers","rows"] (defScope sAAttr):=scB
theorem d_aAttr (T:Txt K mg A) (src:Src K "answer_attr" sAAttr) (B:Pks P w K mg base A) (Da:Def P w K mg base 3 "pick_attributes" ["held","what","number"] (spPickA A)):Def P w K mg base 6 "answer_attr" ["held","numbers","rows"] (spAns A 3 0 fun ns _=>.attr (ns.getD 0 0) (ns.getD 1 0) (ns.getD 2 0)):=by
 refine defR src T.kx scAAttr (fun vs H Q E h=>h.len) (fun f cdv A' outer sh H vs Q E hr h=>?_)
 obtain ⟨S,kf,ln,lr,x,ns,rs,rfl,hns,hrs,ar,k⟩:=h
 obtain ⟨wh,n,j,rfl⟩:=len3 hns
 refine ⟨_,pss_cons (ps_set (i:=3) scAAttr.nd rfl (Or.inl rfl) (pe_d B.pk (rm hr) rfl passR (pa_cons (pe_d Da (rm hr) rfl passR (pa_cons (pv 0) (pa_cons (pe_ix ix_list (pv 1) pe_int (fun _ _=>rfl)) (pa_cons (pe_ix ix_list (pv 1) pe_int (fun _ _=>rfl)) pa_nil)))) (pa_cons (pe_ix ix_list (pv 1) pe_int (fun _ _=>rfl)) pa_nil))))
  (pss_one (ps_ret (pe_lst (pa_cons pe_int (pa_cons (pe_fld (pv 3) rfl) (pa_cons (pe_fld (pv 3) rfl) (pa_cons (pe_fld (pv 3) rfl) pa_nil))))))),?_⟩
 have k:Rsp A H Q E (answer x (.attr wh n j)):=k
 unfold answer at k
 try dsimp only at k
 exists _,z0
 refine ⟨_,rfl,_,rfl,ln,_,_,_,rfl,rfl,SqL.of ar.nu,atI_nat (j:=0) rfl,_,rfl,ln,_,_,_,rfl,rfl,SqL.of ar.nu,atI_nat (j:=1) rfl,S,kf,x,wh,n,rfl,ar.fi,ar.le,fun la ⟨ks,hla,pr⟩=>?_,fun hn=>?_⟩
 ·refine ⟨_,rfl,ln,_,_,_,rfl,rfl,SqL.of ar.nu,atI_nat (j:=2) rfl,la,_,j,rfl,ar.le _ _ hla,?_⟩
  rw [List.getElem?_map]
  cases e:(attrsOf x wh n)[j]? with
  | none =>
   rw [e] at k
   have:ks[j]? = none:=by rw [List.getElem?_eq_none_iff] at e ⊢; have:=paired_lenA pr; omega
   rw [this]
   exact Rsp.no k _ (same_refl H)
  | some at_ =>
   rw [e] at k
   obtain ⟨kk,hkk,dka,hm⟩:=paired_at2 pr e
   rw [hkk]
   have hm:=ar.le _ _ hm
   exists z0
   exact ⟨_,rfl,fldgo (fun _ _=>_) T.att hm (i:=0) rfl rfl ⟨_,rfl,fldgo (fun _ _=>_) T.att hm (i:=1) rfl rfl ⟨_,rfl,fldgo (fun _ _=>_) T.att hm (i:=2) rfl rfl ⟨Nat.le_of_lt (szl (by decide:4 ≤ 70000)),fun r hr=>Rsp.tells k (same_refl _) hr rfl⟩⟩⟩⟩
 ·rw [hn] at k
  exact Rsp.no k _ (same_refl H)
theorem scACode:FnScope ["held","numbers","rows","body"] ["held","numbers","rows"] (defScope sACode):=scB
theorem d_aCode (T:Txt K mg A) (src:Src K "answer_code" sACode) (Db:Def P w K mg base 2 "pick_body" ["held","number"] (spPickB A)):Def P w K mg base 6 "answer_code" ["held","numbers","rows"] (spAns A 1 0 fun ns _=>.code (ns.getD 0 0)):=by
 refine defR src T.kx scACode (fun vs H Q E h=>h.len) (fun f cdv A' outer sh H vs Q E hr h=>?_)
 obtain ⟨S,kf,ln,lr,x,ns,rs,rfl,hns,hrs,ar,k⟩:=h
 obtain ⟨n,rfl⟩:=len1 hns
 refine ⟨_,pss_cons (ps_set (i:=3) scACode.nd rfl (Or.inl rfl) (pe_d Db (rm hr) rfl passR (pa_cons (pv 0) (pa_cons (pe_ix ix_list (pv 1) pe_int (fun _ _=>rfl)) pa_nil))))
  (pss_one (ps_ret (pe_lst (pa_cons pe_int (pa_cons (pe_fld (pv 3) rfl) (pa_cons (pe_fld (pv 3) rfl) (pa_cons (pe_fld (pv 3) rfl) (pa_cons (pe_fld (pv 3) rfl) pa_nil)))))))),?_⟩
 have k:Rsp A H Q E (answer x (.code n)):=k
 unfold answer at k
 try dsimp only at k
 exists _,z0
 refine ⟨_,rfl,_,rfl,ln,_,_,_,rfl,rfl,SqL.of ar.nu,atI_nat (j:=0) rfl,S,kf,x,n,rfl,ar.fi,ar.le,?_⟩
 cases e:(x.methods[n]?).bind (fun (m:Member)=>m.body) with
 | none=>rw [e] at k; exact Rsp.no k _ (same_refl H)
 | some y =>
  rw [e] at k
  intro kb ⟨dkb,lab,hb,_⟩
  have hb:=ar.le _ _ hb
  exists z0
  exact ⟨_,rfl,fldgo (fun _ _=>_) T.bod hb (i:=0) rfl rfl ⟨_,rfl,fldgo (fun _ _=>_) T.bod hb (i:=1) rfl rfl ⟨_,rfl,fldgo (fun _ _=>_) T.bod hb (i:=2) rfl rfl ⟨_,rfl,fldgo (fun _ _=>_) T.bod hb (i:=3) rfl rfl ⟨Nat.le_of_lt (szl (by decide:5 ≤ 70000)),fun r hr=>Rsp.tells k (same_refl _) hr rfl⟩⟩⟩⟩⟩
end
end Cf
namespace Cf
open PySem PySem.Spec PyProof.Rows L2
open CfFile (Pool big File Member Attr)
open ClassHall (membersOf attrsOf shown Answer answer tells says NO given Call usersOf namesOf)
abbrev sAFind:Stmt:=top 83
abbrev sASlots:Stmt:=top 84
abbrev sAUses:Stmt:=top 85
abbrev sATold:Stmt:=top 86
abbrev sAsk:Stmt:=top 88
theorem named_row {l:Pool} {n:Nat} {s t:List UInt8} (h:CfFile.namedAt l n = some (s,t)):namedRow l n = some (s ++ (58 :: t)):=by
 unfold namedRow
 rw [(named_second h).1,(named_second h).2]
 rfl
theorem tell_shown {b:List UInt8} {x:File} (ok:AllOk b x.pool) (hd:Held x.pool) (n:Nat):shown x.pool n = tellOf x.pool n∧toldTag (tagAt x.pool n) = (shown x.pool n).isSome:=by
 rcases const_cases ok n with ⟨e,t⟩ | ⟨p,c,hp,e,t,okc⟩
 ·unfold ClassHall.shown tellOf
  rw [e,t]
  exact ⟨rfl,(by decide +kernel:toldTag 0 = false)⟩
 ·have hh:=hd n p c hp
  unfold ClassHall.shown tellOf
  rw [e,t]
  cases c with
  | text s=>exact ⟨by show some s = CfFile.textAt x.pool n; unfold CfFile.textAt; rw [e],by show toldTag 1 = true; decide +kernel⟩
  | word k y =>
   rcases okc with rfl | rfl
   ·exact ⟨rfl,(by decide +kernel:toldTag 3 = false)⟩
   ·exact ⟨rfl,(by decide +kernel:toldTag 4 = false)⟩
  | wide k y =>
   rcases okc with rfl | rfl
   ·exact ⟨rfl,(by decide +kernel:toldTag 5 = false)⟩
   ·exact ⟨rfl,(by decide +kernel:toldTag 6 = false)⟩
  | class_ i =>
   obtain ⟨s,hs,_⟩:=hh
   exact ⟨by show CfFile.textAt x.pool i = firstOf x.pool n; unfold firstOf; rw [hp]; rfl,by show toldTag 7 = (CfFile.textAt x.pool i).isSome; rw [hs]; exact (by decide +kernel:toldTag 7 = true)⟩
  | string i=>exact ⟨by show CfFile.textAt x.pool i = firstOf x.pool n; unfold firstOf; rw [hp]; rfl,by show toldTag 8 = (CfFile.textAt x.pool i).isSome; rw [show (CfFile.textAt x.pool i).isSome = true from hh]; decide +kernel⟩
  | type_ i=>exact ⟨by show CfFile.textAt x.pool i = firstOf x.pool n; unfold firstOf; rw [hp]; rfl,by show toldTag 16 = (CfFile.textAt x.pool i).isSome; rw [show (CfFile.textAt x.pool i).isSome = true from hh]; decide +kernel⟩
  | handle i j=>exact ⟨rfl,by show toldTag 15 = false; decide +kernel⟩
  | named i j =>
   have hn:(CfFile.namedAt x.pool n).isSome = true:=by
    obtain ⟨h1,h2⟩:=hh
    obtain ⟨s1,e1⟩:=Option.isSome_iff_exists.mp h1
    obtain ⟨s2,e2⟩:=Option.isSome_iff_exists.mp h2
    unfold CfFile.namedAt
    rw [e]
    dsimp only
    rw [e1,e2]
    rfl
   obtain ⟨st,hst⟩:=Option.isSome_iff_exists.mp hn
   obtain ⟨s1,s2⟩:=st
   exact ⟨by show (CfFile.namedAt x.pool n).map _ = namedRow x.pool n; rw [named_row hst,hst]; rfl,by show toldTag 12 = ((CfFile.namedAt x.pool n).map _).isSome; rw [Option.isSome_map,hn]; decide +kernel⟩
  | member k i j =>
   obtain ⟨h1,h2⟩:=hh
   obtain ⟨st,hst⟩:=Option.isSome_iff_exists.mp h2
   obtain ⟨s1,s2⟩:=st
   obtain ⟨s,hf,hca,_⟩:=class_plain ok hd h1
   have e1:ownedRow x.pool n = some (s ++ (46 :: (s1 ++ (58 :: s2)))):=by
    unfold ownedRow
    rw [hp]
    show ((firstOf x.pool i).bind fun s=>(namedRow x.pool j).map fun t=>s ++ (46 :: t)) = _
    rw [hf,named_row hst]
    rfl
   have e2:((CfFile.classAt x.pool i).bind fun (s:CfFile.Bytes)=>(CfFile.namedAt x.pool j).map fun (x:CfFile.Bytes × CfFile.Bytes)=>s ++ (46 :: (x.1 ++ (58 :: x.2)))) = some (s ++ (46 :: (s1 ++ (58 :: s2)))):=by
    rw [hca,hst]
    rfl
   rcases okc with rfl | rfl | rfl
   ·exact ⟨e2.trans e1.symm,by show toldTag 9 = _; exact (by decide +kernel:toldTag 9 = true).trans (by dsimp only; rw [e2]; rfl)⟩
   ·exact ⟨e2.trans e1.symm,by show toldTag 10 = _; exact (by decide +kernel:toldTag 10 = true).trans (by dsimp only; rw [e2]; rfl)⟩
   ·exact ⟨e2.trans e1.symm,by show toldTag 11 = _; exact (by decide +kernel:toldTag 11 = true).trans (by dsimp only; rw [e2]; rfl)⟩
  | site i j =>
   obtain ⟨st,hst⟩:=Option.isSome_iff_exists.mp hh
   obtain ⟨s1,s2⟩:=st
   have e1:siteRow x.pool n = some (s1 ++ (58 :: s2)):=by
    unfold siteRow
    rw [hp]
    exact named_row hst
   exact ⟨by show (CfFile.namedAt x.pool j).map _ = siteRow x.pool n; rw [e1,hst]; rfl,by show toldTag 18 = ((CfFile.namedAt x.pool j).map _).isSome; rw [hst]; exact (by decide +kernel:toldTag 18 = true)⟩
theorem named_le {b:List UInt8} {l:Pool} (ok:AllOk b l) {n:Nat} {s:List UInt8} (h:namedRow l n = some s):s.length ≤ 2 * b.length + 1:=by
 unfold namedRow at h
 obtain ⟨x1,hx1,hx⟩:=Option.bind_eq_some_iff.mp h
 obtain ⟨x2,hx2,rfl⟩:=Option.map_eq_some_iff.mp hx
 have:=first_le ok hx1
 have:=second_le ok hx2
 rw [List.length_append,List.length_cons]
 omega
theorem owned_le {b:List UInt8} {l:Pool} (ok:AllOk b l) {n:Nat} {s:List UInt8} (h:ownedRow l n = some s):s.length ≤ 3 * b.length + 2:=by
 unfold ownedRow at h
 split at h
 ·obtain ⟨x1,hx1,hx⟩:=Option.bind_eq_some_iff.mp h
  obtain ⟨x2,hx2,rfl⟩:=Option.map_eq_some_iff.mp hx
  have:=first_le ok hx1
  have:=named_le ok hx2
  rw [List.length_append,List.length_cons]
  omega
 ·cases h
theorem tell_le {b:List UInt8} {l:Pool} (ok:AllOk b l) {n:Nat} {s:List UInt8} (h:tellOf l n = some s):s.length ≤ 3 * b.length + 2:=by
 unfold tellOf at h
 split at h
 ·have:=text_le ok h; omega
 ·have:=first_le ok h; omega
 ·have:=first_le ok h; omega
 ·exact owned_le ok h
 ·exact owned_le ok h
 ·exact owned_le ok h
 ·have:=named_le ok h; omega
 ·have:=first_le ok h; omega
 ·unfold siteRow at h
  split at h
  ·have:=named_le ok h; omega
  ·cases h
 ·cases h
theorem names_eq {b:List UInt8} {p:Nat} {c:CfFile.Const} (ok:OkC b p c) (n:Nat):namesC (some (p,c)) n = (namesOf c).contains n:=by
 have two:∀ a b:Nat,((a == n) || (b == n)) = ([a,b]:List Nat).contains n:=fun a b=>by simp [Bool.beq_comm (b:=n)]; rfl
 have one:∀ a:Nat,((a == n) || false) = ([a]:List Nat).contains n:=fun a=>by simp [Bool.beq_comm (b:=n)]; rfl
 have one':∀ a:Nat,(false || (a == n)) = ([a]:List Nat).contains n:=fun a=>by simp [Bool.beq_comm (b:=n)]; rfl
 cases c with
 | text s=>rfl
 | word k y=>rcases ok with rfl | rfl <;> rfl
 | wide k y=>rcases ok with rfl | rfl <;> rfl
 | class_ i=>exact one i
 | string i=>exact one i
 | type_ i=>exact one i
 | member k i j=>rcases ok with rfl | rfl | rfl <;> exact two i j
 | named i j=>exact two i j
 | handle i j=>exact one' j
 | site i j=>exact one' j
structure Hlp (P:Program) (w:World) (K:PySem.W.Frag) (mg:Str→Option Value) (base:Heap) (A:Adr):Prop where
 can:Def P w K mg base 2 "can_be_told" ["pool","number"] (spPool A fun l n=>.bl (toldTag (tagAt l n)))
 tel:Def P w K mg base 5 "tell" ["pool","number"] (spTell A tellOf)
 nam:Def P w K mg base 1 "names_constant" ["constant","number"] (spNames A)
section
variable {P:Program} {w:World} {K:PySem.W.Frag} {mg:Str→Option Value} {base:Heap} {A:Adr}
theorem scASlots:FnScope ["held","numbers","rows","method"] ["held","numbers","rows"] (defScope sASlots):=scB
theorem d_aSlots (T:Txt K mg A) (src:Src K "answer_slots" sASlots) (L:Lib P w K mg base A) (B:Pks P w K mg base A):Def P w K mg base 8 "answer_slots" ["held","numbers","rows"] (spAns A 1 0 fun ns _=>.slots (ns.getD 0 0)):=by
 refine defR src T.kx scASlots (fun vs H Q E h=>h.len) (fun f cdv A' outer sh H vs Q E hr h=>?_)
 obtain ⟨S,kf,ln,lr,x,ns,rs,rfl,hns,hrs,ar,k⟩:=h
 obtain ⟨n,rfl⟩:=len1 hns
 obtain ⟨dk,q,li,lf,lm,la,h1,⟨a,po⟩,h3,h4,⟨ks,hlm,pr⟩,h6⟩:=id ar.fi.ob
 have hk:=ar.le _ _ h1
 obtain ⟨dq,cl,hq⟩:=po.hq ar.le
 refine ⟨_,pss_cons (ps_set (i:=3) scASlots.nd rfl (Or.inl rfl) (pe_d B.pk (rm hr) rfl passR (pa_cons (pe_fld (pv 0) rfl) (pa_cons (pe_ix ix_list (pv 1) pe_int (fun _ _=>rfl)) pa_nil))))
  (pss_one (ps_ret (pe_lst (pa_cons (pe_d L.arg hr rfl passR (pa_cons (pe_md L.row (pe_fld (pv 0) rfl) T.poo.cl (rm hr) passR (pa_cons (pe_fld (pv 3) rfl) pa_nil)) pa_nil)) pa_nil)))),?_⟩
 have k:Rsp A H Q E (given ((x.methods[n]?).bind fun (m:Member)=>(CfFile.methodType m.type_).map fun (y:List CfFile.Bytes × CfFile.Bytes)=>CfFile.slots y.1)):=k
 exists _,z0
 refine ⟨_,rfl,fldgo (fun _ _=>_) T.fil hk (i:=8) rfl rfl ⟨_,rfl,ln,_,_,_,rfl,rfl,SqL.of ar.nu,atI_nat (j:=0) rfl,lm,_,n,rfl,ar.le _ _ hlm,?_⟩⟩
 rw [List.getElem?_map]
 cases e:x.methods[n]? with
 | none =>
  rw [e] at k
  have:ks[n]? = none:=by rw [List.getElem?_eq_none_iff] at e ⊢; have:=paired_len pr; omega
  rw [this]
  exact Rsp.no k _ (same_refl H)
 | some m =>
  rw [e] at k
  obtain ⟨kk,hkk,dkm,lam,pl,bo,hm,_,_,_,hty⟩:=paired_at2 pr e
  rw [hkk]
  have hm:=ar.le _ _ hm
  have him:=ar.fa.meth m (List.mem_of_getElem? e)
  exists z0
  refine ⟨_,rfl,fldgo (fun _ _=>_) T.fil hk (i:=2) rfl rfl (methgo hq (by decide +kernel) ⟨_,rfl,fldgo (fun _ _=>_) T.mem hm (i:=3) rfl rfl ⟨S,q,a,x.bytes,x.pool,m.typeAt,m.type_,rfl,po,ar.le,hty,fun H1 r s1 _ hr1=>⟨r,m.type_,rfl,hr1,fun H2 s2=>⟨Nat.le_of_lt (szl (by decide:1 ≤ 70000)),fun z hz=>?_⟩⟩⟩⟩)⟩
  have hsl:∃ sl,methodSlots m.type_ = some sl∧(CfFile.methodType m.type_).map (fun (y:List CfFile.Bytes × CfFile.Bytes)=>CfFile.slots y.1) = some sl:=by
   rw [isMethod_slots] at him
   obtain ⟨sl,hsl⟩:=Option.isSome_iff_exists.mp him
   refine ⟨sl,hsl,?_⟩
   unfold methodSlots at hsl
   cases hmt:CfFile.methodType m.type_ with
   | none=>rw [hmt] at hsl; cases hsl
   | some lt =>
    rw [hmt] at hsl
    obtain ⟨l1,l2⟩:=lt
    try dsimp only at hsl
    split at hsl
    ·cases hsl; rfl
    ·cases hsl
  obtain ⟨sl,e1,e2⟩:=hsl
  have k:Rsp A H Q E (given ((CfFile.methodType m.type_).map fun (y:List CfFile.Bytes × CfFile.Bytes)=>CfFile.slots y.1)):=k
  rw [e2] at k
  refine Rsp.says k (s1.trans s2) hz (?_)
  show some (HO.lst [oNat (methodSlots m.type_)]) = _
  rw [e1]
  rfl
theorem scATold:FnScope ["held","numbers","rows","row"] ["held","numbers","rows"] (defScope sATold):=scB
theorem d_aTold (T:Txt K mg A) (src:Src K "answer_told" sATold) (C:Hlp P w K mg base A):Def P w K mg base 6 "answer_told" ["held","numbers","rows"] (spAns A 1 0 fun ns _=>.told (ns.getD 0 0)):=by
 refine defR src T.kx scATold (fun vs H Q E h=>h.len) (fun f cdv A' outer sh H vs Q E hr h=>?_)
 obtain ⟨S,kf,ln,lr,x,ns,rs,rfl,hns,hrs,ar,k⟩:=h
 obtain ⟨n,rfl⟩:=len1 hns
 obtain ⟨dk,q,li,lf,lm,la,h1,⟨a,po⟩,h3,h4,h5,h6⟩:=id ar.fi.ob
 have hk:=ar.le _ _ h1
 refine ⟨_,pss_cons (ps_if (pt_not (pt_val (pe_d C.can (rm hr) rfl passR (pa_cons (pe_fld (pv 0) rfl) (pa_cons (pe_ix ix_list (pv 1) pe_int (fun _ _=>rfl)) pa_nil))))) (pss_one (ps_raise0 T.xNT T.ntI hr.hd rfl T.gNT)) pss_nil)
  (pss_cons (ps_set (i:=3) scATold.nd rfl (Or.inl rfl) (pe_d C.tel hr rfl passR (pa_cons (pe_fld (pv 0) rfl) (pa_cons (pe_ix ix_list (pv 1) pe_int (fun _ _=>rfl)) pa_nil))))
  (pss_one (ps_ret (pe_op op_cat (pe_lst (pa_cons (pe_callB call_len_seq (by rfl) T.nLen PySem.boot_len (pa_cons (pv 3) pa_nil)) pa_nil)) (pv 3))))),?_⟩
 have k:Rsp A H Q E (answer x (.told n)):=k
 unfold answer at k
 try dsimp only at k
 obtain ⟨t1,t2⟩:=tell_shown po.ok ar.fa.held n
 exists _,z0
 refine ⟨_,rfl,fldgo (fun _ _=>_) T.fil hk (i:=2) rfl rfl ⟨_,rfl,ln,_,_,_,rfl,rfl,SqL.of ar.nu,atI_nat (j:=0) rfl,S,q,a,x.bytes,x.pool,n,rfl,po,ar.le,_,rfl,?_⟩⟩
 rw [t2]
 cases e:shown x.pool n with
 | none =>
  rw [e] at k
  exact Rsp.no k _ (same_refl H)
 | some s =>
  exists z0,z0
  rw [e] at k t1
  refine ⟨_,rfl,fldgo (fun _ _=>_) T.fil hk (i:=2) rfl rfl ⟨_,rfl,ln,_,_,_,rfl,rfl,SqL.of ar.nu,atI_nat (j:=0) rfl,S,q,a,x.bytes,x.pool,n,s,rfl,po,ar.le,ar.fa.small,t1.symm,fun H1 r s1 hr1=>?_⟩⟩
  exists z0
  refine ⟨_,rfl,r,_,rfl,.inl (SqL.of hr1),Nat.le_of_lt (szl (by decide:1 ≤ 70000)),fun z hz=>⟨_,rfl,z,r,_,_,rfl,rfl,upd_same,(same_new hz) _ _ hr1,?_,fun y hy=>?_⟩⟩
  ·rw [bv_len]
   have h1:=tell_le po.ok t1.symm
   have h2:=ar.fa.small
   exact Nat.le_of_lt (szl (by simp only [List.length_singleton]; omega))
  ·unfold Rsp at k
   rw [if_neg (fun z=>by have:(s.length:Int) = -1:=congrArg Answer.ret z; omega)] at k
   refine k _ y _ (s1.trans (same_new hz)) hy ?_
   rw [bv_len]
   unfold ClassNeutral.rowOf bv
   simp
end
end Cf
namespace Cf
open PySem PySem.Spec PyProof.Rows L2
open CfFile (Pool big File Member Attr)
open ClassHall (membersOf attrsOf Answer answer tells says NO given Call usersOf namesOf)
section
variable {P:Program} {w:World} {K:PySem.W.Frag} {mg:Str→Option Value} {base:Heap} {A:Adr}
theorem scAFind:FnScope ["held","numbers","rows","number","member"] ["held","numbers","rows"] (defScope sAFind):=scB
theorem d_aFind (T:Txt K mg A) (src:Src K "answer_find" sAFind) (L:Lib P w K mg base A) (B:Pks P w K mg base A):Def P w K mg base 8 "answer_find" ["held","numbers","rows"] (spAns A 1 2 fun ns rs=>.find (ns.getD 0 0) (rs.getD 0 []) (rs.getD 1 [])):=by
 refine defR src T.kx scAFind (fun vs H Q E h=>h.len) (fun f cdv A' outer sh H vs Q E hr h=>?_)
 obtain ⟨S,kf,ln,lr,x,ns,rs,rfl,hns,hrs,ar,k⟩:=h
 obtain ⟨wh,rfl⟩:=len1 hns
 obtain ⟨s0,t0,rfl⟩:=len2 hrs
 obtain ⟨rl,hlr,prl⟩:=ar.ro
 obtain ⟨r0,r1,rfl,hr0,hr1⟩:∃ r0 r1,rl = [V.ref r0,V.ref r1]∧H r0 = some (.lst (bv s0))∧H r1 = some (.lst (bv t0)):=by
  cases prl with
  | cons h1 p1=>cases p1 with
   | cons h2 p2 =>
    cases p2
    obtain ⟨a1,rfl,e1⟩:=h1
    obtain ⟨a2,rfl,e2⟩:=h2
    exact ⟨a1,a2,rfl,e1,e2⟩
 obtain ⟨dk,q,li,lf,lm,la,h1,⟨a,po⟩,h3,h4,h5,h6⟩:=id ar.fi.ob
 have hk:=ar.le _ _ h1
 refine ⟨_,pss_cons (ps_for ownR rfl (pi_enum rfl T.nEnu (pa_cons (pe_d B.pm (rm hr) rfl passR (pa_cons (pv 0) (pa_cons (pe_ix ix_list (pv 1) pe_int (fun _ _=>rfl)) pa_nil))) pa_nil)) (pg_tup rfl (pgs_cons (pg_name (i:=3) scAFind.nd rfl (Or.inl rfl)) (pgs_cons (pg_name (i:=4) scAFind.nd rfl (Or.inl rfl)) pgs_nil)))
   (pss_one (ps_if (ptw (pw_and (pt_cmpR (op_eqB hr.units) (pe_md L.row (pe_fld (pv 0) rfl) T.poo.cl (rm hr) passR (pa_cons (pe_fld (pv 4) rfl) pa_nil)) (pe_ix ix_list (pv 2) pe_int (fun _ _=>rfl)) (nomark _))
    (pw_and1 (pt_cmpR (op_eqB hr.units) (pe_md L.row (pe_fld (pv 0) rfl) T.poo.cl (rm hr) passR (pa_cons (pe_fld (pv 4) rfl) pa_nil)) (pe_ix ix_list (pv 2) pe_int (fun _ _=>rfl)) (nomark _))))) (pss_one (ps_ret (pe_lst (pa_cons (pv 3) pa_nil)))) pss_nil)))
  (pss_one (ps_raise0 T.xNT T.ntI hr.hd rfl T.gNT)),?_⟩
 have k:Rsp A H Q E (given ((membersOf x wh).findIdx? fun (y:Member)=>y.name == s0 && y.type_ == t0)):=k
 exists _,z0
 refine ⟨_,rfl,_,rfl,ln,_,_,_,rfl,rfl,SqL.of ar.nu,atI_nat (j:=0) rfl,S,kf,x,wh,rfl,ar.fi,ar.le,?_⟩
 by_cases w12:wh = 1 ∨ wh = 2
 ·rw [if_pos w12]
  intro lm' ⟨ks,hlm,pr⟩
  have hlm:=ar.le _ _ hlm
  refine ⟨lm',_,rfl,SqL.of hlm,for_enum (K:=K) (a:=lm') (xs:=ks.map V.ref) (fun i σ H'=>∃ v3 v4:Option V,σ = [some (.ref kf),some (.ref ln),some (.ref lr),v3,v4]∧Same H H'∧((membersOf x wh).findIdx? fun (y:Member)=>y.name == s0 && y.type_ == t0) = (((membersOf x wh).drop i).findIdx? fun (y:Member)=>y.name == s0 && y.type_ == t0).map (· + i))
   ⟨none,none,rfl,same_refl H,by simp⟩ (fun i σ H' _ ⟨_,_,_,s5,_⟩=>SqL.of (s5 _ _ hlm)) ?_ ?_⟩
  ·rintro i y σ H1 Tt hi ⟨v3,v4,rfl,s1,hidx⟩ hTt
   rw [List.getElem?_map] at hi
   obtain ⟨kk,hkk,rfl⟩:=Option.map_eq_some_iff.mp hi
   obtain ⟨m,hm,dkm,lam,pl,bo,hme,_,_,hnm,hty⟩:=paired_at pr hkk
   rw [drop_cons hm] at hidx
   have s2:=s1.trans (same_new (o:=.tup [.int (i:Nat),.ref kk]) hTt)
   refine ⟨Tt,_,rfl,SqT.of upd_same,rfl,_,_,rfl,_,_,rfl,rfl,?_⟩
   generalize upd H1 Tt (.tup [.int (i:Nat),.ref kk]) = H2 at s2 ⊢
   obtain ⟨dq,cl,hq⟩:=po.hq (ar.le.trans s2)
   have hme2:=s2 _ _ (ar.le _ _ hme)
   refine ⟨_,rfl,fldgo (fun _ _=>_) T.fil (s2 _ _ hk) (i:=2) rfl rfl (methgo hq (by decide +kernel) ⟨_,rfl,fldgo (fun _ _=>_) T.mem hme2 (i:=2) rfl rfl ⟨S,q,a,x.bytes,x.pool,m.nameAt,m.name,rfl,po,ar.le.trans s2,hnm,fun H3 r3 s3 _ hr3=>⟨_,rfl,lr,_,_,_,rfl,rfl,SqL.of ((s2.trans s3) _ _ hlr),atI_nat (j:=0) rfl,r3,r0,m.name,s0,rfl,rfl,hr3,(s2.trans s3) _ _ hr0,_,rfl,?_⟩⟩⟩)⟩
   have s13:=s2.trans s3
   have en:decide (m.name = s0) = (m.name == s0):=by
    by_cases z:m.name = s0
    ·rw [decide_eq_true z,z]; simp
    ·rw [decide_eq_false z]; exact (beq_eq_false_iff_ne.mpr z).symm
   have et:decide (m.type_ = t0) = (m.type_ == t0):=by
    by_cases z:m.type_ = t0
    ·rw [decide_eq_true z,z]; simp
    ·rw [decide_eq_false z]; exact (beq_eq_false_iff_ne.mpr z).symm
   rw [en]
   have hfalse:(m.name == s0 && m.type_ == t0) = false→((membersOf x wh).findIdx? fun (y:Member)=>y.name == s0 && y.type_ == t0) = (((membersOf x wh).drop (i + 1)).findIdx? fun (y:Member)=>y.name == s0 && y.type_ == t0).map (· + (i + 1)):=fun hf=>by
    rw [hidx,List.findIdx?_cons,hf]
    cases ((membersOf x wh).drop (i + 1)).findIdx? fun (y:Member)=>y.name == s0 && y.type_ == t0 with
    | none=>rfl
    | some z=>simp; omega
   cases e1:(m.name == s0) with
   | false=>exact ⟨_,_,rfl,s13,hfalse (by rw [e1]; rfl)⟩
   | true =>
    refine ⟨_,rfl,fldgo (fun _ _=>_) T.fil (s13 _ _ hk) (i:=2) rfl rfl (methgo (s3 _ _ hq) (by decide +kernel) ⟨_,rfl,fldgo (fun _ _=>_) T.mem (s3 _ _ hme2) (i:=3) rfl rfl ⟨S,q,a,x.bytes,x.pool,m.typeAt,m.type_,rfl,po,ar.le.trans s13,hty,fun H4 r4 s4 _ hr4=>⟨_,rfl,lr,_,_,_,rfl,rfl,SqL.of ((s13.trans s4) _ _ hlr),atI_nat (j:=1) rfl,r4,r1,m.type_,t0,rfl,rfl,hr4,(s13.trans s4) _ _ hr1,_,rfl,?_⟩⟩⟩)⟩
    rw [et]
    cases e2:(m.type_ == t0) with
    | false=>exact ⟨_,_,rfl,s13.trans s4,hfalse (by rw [e1,e2]; rfl)⟩
    | true =>
     rw [List.findIdx?_cons,e1,e2] at hidx
     have hidx:((membersOf x wh).findIdx? fun (y:Member)=>y.name == s0 && y.type_ == t0) = some i:=by rw [hidx]; simp
     rw [hidx] at k
     exact ⟨_,rfl,Nat.le_of_lt (szl (by decide:1 ≤ 70000)),fun z hz=>Rsp.says k (s13.trans s4) hz rfl⟩
  ·rintro σ H1 ⟨v3,v4,rfl,s1,hidx⟩
   rw [List.length_map,show ks.length = (membersOf x wh).length from paired_len pr,List.drop_length] at hidx
   rw [hidx] at k
   exists z0
   exact Rsp.no k H1 s1
 ·rw [if_neg w12]
  have:membersOf x wh = []:=by unfold membersOf; rw [if_neg (by omega),if_neg (by omega)]
  rw [this] at k
  exact Rsp.no k _ (same_refl H)
end
def usesB (l:Pool) (n j:Nat):Bool:=match CfFile.constAt l j with
 | some c=>(namesOf c).contains n
 | none=>false
theorem uses_eq {b:List UInt8} {l:Pool} (ok:AllOk b l) {j:Nat} {o:Option (Nat × CfFile.Const)} (h:l[j]? = some o) (n:Nat):usesB l n j = namesC o n:=by
 cases o with
 | none =>
  have e:CfFile.constAt l j = none:=by unfold CfFile.constAt; rw [h]
  unfold usesB
  rw [e]
  rfl
 | some pc =>
  obtain ⟨p,c⟩:=pc
  have e:CfFile.constAt l j = some c:=constAt_iff.mpr ⟨p,h⟩
  unfold usesB
  rw [e]
  exact (names_eq (ok j p c h) n).symm
theorem iv_app (a b:List Nat):iv (a ++ b) = iv a ++ iv b:=by unfold iv; rw [List.map_append]
theorem iv_len (a:List Nat):(iv a).length = a.length:=by unfold iv; rw [List.length_map]
section
variable {P:Program} {w:World} {K:PySem.W.Frag} {mg:Str→Option Value} {base:Heap} {A:Adr}
theorem scAUses:FnScope ["held","numbers","rows","named","users","number","constant"] ["held","numbers","rows"] (defScope sAUses):=scB
theorem d_aUses (T:Txt K mg A) (src:Src K "answer_uses" sAUses) (L:Lib P w K mg base A) (C:Hlp P w K mg base A):Def P w K mg base 8 "answer_uses" ["held","numbers","rows"] (spAns A 1 0 fun ns _=>.uses (ns.getD 0 0)):=by
 refine defR src T.kx scAUses (fun vs H Q E h=>h.len) (fun f cdv A' outer sh H vs Q E hr h=>?_)
 obtain ⟨S,kf,ln,lr,x,ns,rs,rfl,hns,hrs,ar,k⟩:=h
 obtain ⟨n,rfl⟩:=len1 hns
 obtain ⟨dk,q,li,lf,lm,la,h1,⟨a,po⟩,h3,h4,h5,h6⟩:=id ar.fi.ob
 obtain ⟨dx,cl,us,g1,g2,pr⟩:=id po.ob
 have hk:=ar.le _ _ h1
 have hq:=ar.le _ _ g1
 have hcl:=ar.le _ _ g2
 refine ⟨_,pss_cons (ps_set (i:=3) scAUses.nd rfl (Or.inr rfl) (pe_ix ix_list (pv 1) pe_int (fun _ _=>rfl)))
  (pss_cons (ps_if (pt_cmpR op_eq (pe_md L.tag (pe_fld (pv 0) rfl) T.poo.cl (rm hr) passR (pa_cons (pv 3) pa_nil)) pe_int (nomark _)) (pss_one (ps_raise0 T.xNT T.ntI hr.hd rfl T.gNT)) pss_nil)
  (pss_cons (ps_setLc (i:=4) (own:=[("number",5),("constant",6)]) (g:=gTup K 2 (gCons (gName 5) (gCons (gName 6) gNil))) (tt:=tB (tCall (spNames A) [] (fun _ _ _=>False) (tCons (tVar 6) (tCons (tVar 3) tNil)))) (te:=tVar 5) rfl scAUses.nd rfl rfl rfl
   (pi_enum rfl T.nEnu (pa_cons (pe_fld (pe_fld (pv 0) rfl) rfl) pa_nil)) (blkOk_by (by show blkC ["held","numbers","rows","named","users","number","constant"] (defScope sAUses) _ [("number",5),("constant",6)] = true; decide +kernel))
   (fun s H C cl fp=>pg_tup rfl (pgs_cons (pg_name (i:=5) scAUses.nd rfl (Or.inl rfl)) (pgs_cons (pg_name (i:=6) scAUses.nd rfl (Or.inl rfl)) pgs_nil)))
   (fun s H C' cl fp=>by refine pts_one (pt_val (pe_d (E:=fun _ _ _=>False) C.nam ?_ rfl passF (pa_cons (pv 6) (pa_cons (pv 3) pa_nil)))); exact hr.mono (by decide))
   (fun s H C cl fp=>pv 5))
  (pss_one (ps_ret (pe_op op_cat (pe_lst (pa_cons (pe_callB call_len_seq (by rfl) T.nLen PySem.boot_len (pa_cons (pv 4) pa_nil)) pa_nil)) (pv 4)))))),?_⟩
 have k:Rsp A H Q E (answer x (.uses n)):=k
 unfold answer at k
 try dsimp only at k
 have hus:usersOf x n = (List.range x.pool.length).filter (usesB x.pool n):=rfl
 rw [hus] at k
 exists _,z0
 refine ⟨_,rfl,ln,_,_,_,rfl,rfl,SqL.of ar.nu,atI_nat (j:=0) rfl,?_⟩
 exists z0,z0
 refine ⟨_,rfl,fldgo (fun _ _=>_) T.fil hk (i:=2) rfl rfl (methgo hq (by decide +kernel) ⟨_,rfl,S,q,a,x.bytes,x.pool,n,rfl,po,ar.le,rfl,_,rfl,?_⟩)⟩
 rw [show decide (V.int (tagAt x.pool n:Int) = V.int 0) = (tagAt x.pool n == 0) from dec_nat _ 0]
 have htag:(tagAt x.pool n == 0) = (CfFile.constAt x.pool n).isNone:=by
  rcases const_cases po.ok n with ⟨e,t⟩ | ⟨p,c,hp,e,t,okc⟩
  ·rw [e,t]; rfl
  ·rw [e,t]; exact beq_eq_false_iff_ne.mpr (tag_pos okc)
 rw [htag]
 cases hno:(CfFile.constAt x.pool n).isNone with
 | true =>
  rw [hno,if_pos rfl] at k
  exact Rsp.no k _ (same_refl H)
 | false =>
  rw [hno,if_neg (by decide)] at k
  exists z0,z0
  refine ⟨_,rfl,fldgo (fun _ _=>_) T.fil hk (i:=2) rfl rfl (fldgo (fun _ _=>_) T.poo hq (i:=1) rfl rfl ⟨cl,_,rfl,SqL.of hcl,fun D hD=>?_⟩)⟩
  refine lc_enum (K:=K) (a:=cl) (xs:=us) (fun i H'=>H' D = some (.lst (iv ((List.range i).filter (usesB x.pool n))))∧Same H H') ⟨upd_same,same_new hD⟩ (fun i H' _ h=>SqL.of (h.2 _ _ hcl)) ?_ ?_
  ·rintro i y H2 Tt hi ⟨hD2,s2⟩ hTt
   obtain ⟨o,ho,co⟩:=paired_at2 pr hi
   have hlt:i < x.pool.length:=by
    by_cases h:i < x.pool.length
    ·exact h
    ·rw [List.getElem?_eq_none (by omega)] at ho; cases ho
   have s3:=same_new (o:=.tup [.int (i:Nat),y]) hTt
   have hu:=uses_eq po.ok ho n
   refine ⟨Tt,_,rfl,SqT.of upd_same,rfl,_,_,rfl,_,_,rfl,rfl,rfl,?_⟩
   refine ⟨_,rfl,_,rfl,S,o,y,n,rfl,co,ar.le.trans (s2.trans s3),_,rfl,?_⟩
   rw [← hu]
   have hr1:(List.range (i + 1)).filter (usesB x.pool n) = (List.range i).filter (usesB x.pool n) ++ (if usesB x.pool n i = true then [i] else []):=by
    rw [List.range_succ,List.filter_append,List.filter_cons,List.filter_nil]
   cases hb:usesB x.pool n i with
   | true =>
    rw [hb,if_pos rfl] at hr1
    refine ⟨_,rfl,_,s3 _ _ hD2,?_,?_,fun z u e=>?_⟩
    ·rw [iv_len]
     have:=List.length_filter_le (usesB x.pool n) (List.range i)
     rw [List.length_range] at this
     have:=ar.fa.cnt
     exact szl (by omega)
    ·rw [upd_same,hr1,iv_app]
     rfl
    ·rw [upd_ne (ne_of_none e hD)]; exact (s2.trans s3) z u e
   | false =>
    rw [hb,if_neg (by decide),List.append_nil] at hr1
    refine ⟨?_,s2.trans s3⟩
    rw [hr1]
    exact s3 _ _ hD2
  ·rintro H2 ⟨hD2,s2⟩
   rw [← show x.pool.length = us.length from paired_len pr] at hD2
   generalize hul:(List.range x.pool.length).filter (usesB x.pool n) = ul at k hD2
   have hll:ul.length ≤ 65536:=by
    rw [← hul]
    have:=List.length_filter_le (usesB x.pool n) (List.range x.pool.length)
    rw [List.length_range] at this
    have:=ar.fa.cnt
    omega
   exists z0
   refine ⟨_,rfl,D,_,rfl,.inl (SqL.of hD2),Nat.le_of_lt (szl (by decide:1 ≤ 70000)),fun z hz=>⟨_,rfl,z,D,_,_,rfl,rfl,upd_same,(same_new hz) _ _ hD2,?_,fun y hy=>?_⟩⟩
   ·rw [iv_len]
    exact Nat.le_of_lt (szl (by simp only [List.length_singleton]; omega))
   ·refine Rsp.tells k (s2.trans (same_new hz)) hy ?_
    rw [iv_len]
    rfl
end
def askOf:Nat→Option (Nat × Nat × (List Nat→List (List UInt8)→Call))
 | 3=>some (0,0,fun _ _=>.head)
 | 4=>some (1,0,fun ns _=>.count (ns.getD 0 0))
 | 5=>some (1,0,fun ns _=>.face (ns.getD 0 0))
 | 6=>some (1,0,fun ns _=>.tag (ns.getD 0 0))
 | 7=>some (1,0,fun ns _=>.text (ns.getD 0 0))
 | 8=>some (1,0,fun ns _=>.number (ns.getD 0 0))
 | 9=>some (1,0,fun ns _=>.pair (ns.getD 0 0))
 | 10=>some (2,0,fun ns _=>.member (ns.getD 0 0) (ns.getD 1 0))
 | 11=>some (3,0,fun ns _=>.attr (ns.getD 0 0) (ns.getD 1 0) (ns.getD 2 0))
 | 12=>some (1,0,fun ns _=>.code (ns.getD 0 0))
 | 13=>some (1,2,fun ns rs=>.find (ns.getD 0 0) (rs.getD 0 []) (rs.getD 1 []))
 | 14=>some (1,0,fun ns _=>.slots (ns.getD 0 0))
 | 15=>some (1,0,fun ns _=>.uses (ns.getD 0 0))
 | 16=>some (1,0,fun ns _=>.told (ns.getD 0 0))
 | _=>none
structure Asks (P:Program) (w:World) (K:PySem.W.Frag) (mg:Str→Option Value) (base:Heap) (A:Adr):Prop where
 a3:Def P w K mg base 6 "answer_head" ["held","numbers","rows"] (spAns A 0 0 fun _ _=>.head)
 a4:Def P w K mg base 6 "answer_count" ["held","numbers","rows"] (spAns A 1 0 fun ns _=>.count (ns.getD 0 0))
 a5:Def P w K mg base 6 "answer_face" ["held","numbers","rows"] (spAns A 1 0 fun ns _=>.face (ns.getD 0 0))
 a6:Def P w K mg base 6 "answer_tag" ["held","numbers","rows"] (spAns A 1 0 fun ns _=>.tag (ns.getD 0 0))
 a7:Def P w K mg base 6 "answer_text" ["held","numbers","rows"] (spAns A 1 0 fun ns _=>.text (ns.getD 0 0))
 a8:Def P w K mg base 6 "answer_number" ["held","numbers","rows"] (spAns A 1 0 fun ns _=>.number (ns.getD 0 0))
 a9:Def P w K mg base 6 "answer_pair" ["held","numbers","rows"] (spAns A 1 0 fun ns _=>.pair (ns.getD 0 0))
 a10:Def P w K mg base 6 "answer_member" ["held","numbers","rows"] (spAns A 2 0 fun ns _=>.member (ns.getD 0 0) (ns.getD 1 0))
 a11:Def P w K mg base 6 "answer_attr" ["held","numbers","rows"] (spAns A 3 0 fun ns _=>.attr (ns.getD 0 0) (ns.getD 1 0) (ns.getD 2 0))
 a12:Def P w K mg base 6 "answer_code" ["held","numbers","rows"] (spAns A 1 0 fun ns _=>.code (ns.getD 0 0))
 a13:Def P w K mg base 8 "answer_find" ["held","numbers","rows"] (spAns A 1 2 fun ns rs=>.find (ns.getD 0 0) (rs.getD 0 []) (rs.getD 1 []))
 a14:Def P w K mg base 8 "answer_slots" ["held","numbers","rows"] (spAns A 1 0 fun ns _=>.slots (ns.getD 0 0))
 a15:Def P w K mg base 8 "answer_uses" ["held","numbers","rows"] (spAns A 1 0 fun ns _=>.uses (ns.getD 0 0))
 a16:Def P w K mg base 6 "answer_told" ["held","numbers","rows"] (spAns A 1 0 fun ns _=>.told (ns.getD 0 0))
theorem ask_by {X:Cx} {A:Adr} {kvs:List (Int × V)} (pr:Paired (fun (n:Int × Str) (v:Int × V)=>n.1 = v.1∧∃ f,v.2 = .ref f∧X.mg n.2 = some (.ref f)) answersN kvs) (C:Asks X.prog X.w X.K X.mg X.base A) {cn nn nr:Nat} {mk:List Nat→List (List UInt8)→Call} (h:askOf cn = some (nn,nr,mk)) :
  ∃ f,valK kvs (cn:Int) = some (.ref f)∧Cal X 8 f (spAns A nn nr mk):=by
 have yes:∀ {x:Str} {k nn nr:Nat} {mk:List Nat→List (List UInt8)→Call} (t:Nat),(answersN.find? fun z=>decide (z.1 = (t:Int))).map (·.2) = some x→k ≤ 8→Def X.prog X.w X.K X.mg X.base k x ["held","numbers","rows"] (spAns A nn nr mk) →
   ∃ f,valK kvs (t:Int) = some (.ref f)∧Cal X 8 f (spAns A nn nr mk):=fun t h hk D=>by
  have q:=fn_find (K:=X.K) pr (t:Int)
  rw [h] at q
  obtain ⟨f,e,m⟩:=q
  exact ⟨f,e,def_cal (def_mono D hk) m⟩
 unfold askOf at h
 split at h
 ·cases h; exact yes 3 (by decide +kernel) (by decide) C.a3
 ·cases h; exact yes 4 (by decide +kernel) (by decide) C.a4
 ·cases h; exact yes 5 (by decide +kernel) (by decide) C.a5
 ·cases h; exact yes 6 (by decide +kernel) (by decide) C.a6
 ·cases h; exact yes 7 (by decide +kernel) (by decide) C.a7
 ·cases h; exact yes 8 (by decide +kernel) (by decide) C.a8
 ·cases h; exact yes 9 (by decide +kernel) (by decide) C.a9
 ·cases h; exact yes 10 (by decide +kernel) (by decide) C.a10
 ·cases h; exact yes 11 (by decide +kernel) (by decide) C.a11
 ·cases h; exact yes 12 (by decide +kernel) (by decide) C.a12
 ·cases h; exact yes 13 (by decide +kernel) (by decide) C.a13
 ·cases h; exact yes 14 (by decide +kernel) (by decide) C.a14
 ·cases h; exact yes 15 (by decide +kernel) (by decide) C.a15
 ·cases h; exact yes 16 (by decide +kernel) (by decide) C.a16
 ·cases h
inductive spAsk (A:Adr) (vs:List V) (H:Hp) (Q:VK) (E:XK):Prop
 | mk (S:Hp) (k ln lr:Addr) (x:File) (cn nn nr:Nat) (mk:List Nat→List (List UInt8)→Call) (ns:List Nat) (rs:List (List UInt8)) (_:vs = [.ref k,.int (cn:Int),.ref ln,.ref lr]) (_:askOf cn = some (nn,nr,mk)) (_:ns.length = nn) (_:rs.length = nr) (_:Arg A S H k ln lr x ns rs) (_:Rsp A H Q E (answer x (mk ns rs)))
section
variable {P:Program} {w:World} {K:PySem.W.Frag} {mg:Str→Option Value} {base:Heap} {A:Adr}
theorem scAsk:FnScope ["held","call","numbers","rows"] ["held","call","numbers","rows"] (defScope sAsk):=scB
theorem d_ask (T:Txt K mg A) (src:Src K "ask" sAsk) (C:Asks P w K mg base A):Def P w K mg base 9 "ask" ["held","call","numbers","rows"] (spAsk A):=by
 refine defR src T.kx scAsk (fun vs H Q E h=>?_) (fun f cdv A' outer sh H vs Q E hr h=>?_)
 ·obtain ⟨S,k,ln,lr,x,cn,nn,nr,mk,ns,rs,rfl,_⟩:=h
  rfl
 obtain ⟨S,kf,ln,lr,x,cn,nn,nr,mk,ns,rs,rfl,hask,hns,hrs,ar,k⟩:=h
 obtain ⟨kvs,kd,prd⟩:=T.dAN
 refine ⟨_,pss_one (ps_ret (pe_cv (pe_kget kd rfl T.gAN (pv 1) (fun _ _=>rfl)) hr passR (pa_cons (pv 0) (pa_cons (pv 2) (pa_cons (pv 3) pa_nil))))),?_⟩
 obtain ⟨ff,e,cal⟩:=ask_by (X:=cxOf (CXR P w) P w K mg base ["held","call","numbers","rows"] "ask" (defScope sAsk) f cdv A' outer sh H E) prd C hask
 exact ⟨_,rfl,_,_,rfl,e,ff,_,rfl,cal,_,rfl,_,rfl,_,rfl,S,kf,ln,lr,x,ns,rs,rfl,hns,hrs,ar,k⟩
end
end Cf
namespace Cf
open PySem PySem.Spec PyProof.Rows L2
open CfFile (Pool big File Member Attr)
abbrev sThrough:Stmt:=inClass (top 141) 1
abbrev sTakeN:Stmt:=inClass (top 141) 2
abbrev sTakeNs:Stmt:=inClass (top 141) 3
abbrev sTakeRs:Stmt:=inClass (top 141) 4
def zv (l:List Int):List V:=l.map V.int
theorem zv_len (l:List Int):(zv l).length = l.length:=by unfold zv; rw [List.length_map]
theorem zv_get (l:List Int) (i:Nat):(zv l)[i]? = (l[i]?).map V.int:=by unfold zv; rw [List.getElem?_map]
def LisAt (A:Adr) (H:Hp) (kl lc:Addr) (at_:Nat):Prop:=∃ dx,H kl = some (.ins A.cLis dx (kLis.zip [.ref lc,.int (at_:Int)]))
inductive spThrough (A:Adr) (K:PySem.W.Frag) (vs:List V) (H:Hp) (Q:VK) (E:XK):Prop
 | mk (kl lc:Addr) (at_:Nat) (l:List Int) (_:vs = [.ref kl]) (_:LisAt A H kl lc at_) (_:SqL K H lc (zv l)) (_:Q (.bl (decide (l.length ≤ at_))) H)
inductive spTakeN (A:Adr) (K:PySem.W.Frag) (vs:List V) (H:Hp) (Q:VK) (E:XK):Prop
 | mk (kl lc:Addr) (at_:Nat) (l:List Int) (z:Int) (_:vs = [.ref kl]) (_:LisAt A H kl lc at_) (_:SqL K H lc (zv l)) (_:l[at_]? = some z) (_:∀ H',But [kl] H H'→LisAt A H' kl lc (at_ + 1)→Q (.int z) H')
inductive spTakeNs (A:Adr) (K:PySem.W.Frag) (vs:List V) (H:Hp) (Q:VK) (E:XK):Prop
 | mk (kl lc:Addr) (at_ n:Nat) (l:List Int) (_:vs = [.ref kl,.int (n:Int)]) (_:LisAt A H kl lc at_) (_:SqL K H lc (zv l)) (_:∀ H' r,But [kl] H H'→H r = none→H' r = some (.lst (zv ((l.drop at_).take n)))→LisAt A H' kl lc (at_ + n)→Q (.ref r) H')
section
variable {P:Program} {w:World} {K:PySem.W.Frag} {mg:Str→Option Value} {base:Heap} {A:Adr}
theorem scThrough:FnScope ["self"] ["self"] (defScope sThrough):=scB
theorem d_through (T:Txt K mg A) (src:MSrc K A.cLis "is_through" "CallList.is_through" sThrough):MDef P w K mg base 1 A.cLis "is_through" ["self"] (spThrough A K):=by
 refine mdefR src scThrough (fun vs H Q E h=>?_) (fun f cdv A' outer s H vs Q E hr h=>?_)
 ·obtain ⟨kl,lc,at_,l,rfl,_⟩:=h
  rfl
 obtain ⟨kl,lc,at_,l,rfl,⟨dx,hl⟩,hlc,k⟩:=h
 refine ⟨_,pss_one (ps_ret (pe_cmpR op_ge (pe_fld (pv 0) rfl) (pe_callB call_len_seq (by rfl) T.nLen PySem.boot_len (pa_cons (pe_fld (pv 0) rfl) pa_nil)) (nomark _))),?_⟩
 refine ⟨_,rfl,fldgo (fun _ _=>_) T.lis hl (i:=1) rfl rfl ⟨_,rfl,fldgo (fun _ _=>_) T.lis hl (i:=0) rfl rfl ⟨lc,_,rfl,.inl hlc,_,_,rfl,rfl,?_⟩⟩⟩
 rw [zv_len]
 have e:decide ((l.length:Int) ≤ (at_:Int)) = decide (l.length ≤ at_):=by rw [decide_eq_decide]; omega
 show Q (.bl (decide ((l.length:Int) ≤ (at_:Int)))) H
 rw [e]
 exact k
theorem scTakeN:FnScope ["self","number"] ["self"] (defScope sTakeN):=scB
theorem auggo {C a dx:Addr} {ks:List Str} {vs us:List V} {i:Nat} {f:Str} {z:V} {H:Hp} {Q:Hp→Prop} (c:Kl K C ks) (h:H a = some (.ins C dx (ks.zip vs))) (hi:ks[i]? = some f) (hl:vs.length = ks.length) (hu:vs.set i z = us) (q:Q (upd H a (.ins C dx (ks.zip us)))) :
  ∃ dx' fs',H a = some (.ins C dx' fs')∧fs'.length < 1000∧Q (upd H a (.ins C dx' (putF f z fs'))) :=
 ⟨dx,_,h,by rw [List.length_zip]; have:=c.few; omega,by rw [zip_put c.nd hi hl,hu]; exact q⟩
theorem d_takeN (T:Txt K mg A) (src:MSrc K A.cLis "take_number" "CallList.take_number" sTakeN):MDef P w K mg base 1 A.cLis "take_number" ["self"] (spTakeN A K):=by
 refine mdefR src scTakeN (fun vs H Q E h=>?_) (fun f cdv A' outer s H vs Q E hr h=>?_)
 ·obtain ⟨kl,lc,at_,l,z,rfl,_⟩:=h
  rfl
 obtain ⟨kl,lc,at_,l,z,rfl,⟨dx,hl⟩,hlc,hz,k⟩:=h
 refine ⟨_,pss_cons (ps_set (i:=1) scTakeN.nd rfl (Or.inl rfl) (pe_ix ix_list (pe_fld (pv 0) rfl) (pe_fld (pv 0) rfl) (fun _ _=>rfl)))
  (pss_cons (ps_fldaug (pv 0) pe_int in_add)
  (pss_one (ps_ret (pv 1)))),?_⟩
 refine ⟨_,rfl,fldgo (fun _ _=>_) T.lis hl (i:=0) rfl rfl ⟨_,rfl,fldgo (fun _ _=>_) T.lis hl (i:=1) rfl rfl ⟨lc,_,_,_,rfl,rfl,hlc,atI_nat (v:=V.int z) (by rw [zv_get,hz]; rfl),?_⟩⟩⟩
 refine ⟨_,rfl,kl,A.cLis,dx,_,_,rfl,hl,T.lis.cl,T.lis.no _ (List.mem_of_getElem? (i:=1) rfl),zip_lookup (i:=1) T.lis.nd rfl rfl,_,_,rfl,rfl,auggo T.lis hl (i:=1) rfl rfl rfl ⟨_,rfl,k _ but_upd ⟨dx,upd_same⟩⟩⟩
theorem scTakeNs:FnScope ["self","size","numbers"] ["self","size"] (defScope sTakeNs):=scB
theorem d_takeNs (T:Txt K mg A) (src:MSrc K A.cLis "take_numbers" "CallList.take_numbers" sTakeNs):MDef P w K mg base 1 A.cLis "take_numbers" ["self","size"] (spTakeNs A K):=by
 refine mdefR src scTakeNs (fun vs H Q E h=>?_) (fun f cdv A' outer s H vs Q E hr h=>?_)
 ·obtain ⟨kl,lc,at_,n,l,rfl,_⟩:=h
  rfl
 obtain ⟨kl,lc,at_,n,l,rfl,⟨dx,hl⟩,hlc,k⟩:=h
 refine ⟨_,pss_cons (ps_set (i:=2) scTakeNs.nd rfl (Or.inl rfl) (pe_slice sl_list (pe_fld (pv 0) rfl) (po_some (pe_fld (pv 0) rfl)) (po_some (pe_op op_add (pe_fld (pv 0) rfl) (pv 1)))))
  (pss_cons (ps_fldaug (pv 0) (pv 1) in_add)
  (pss_one (ps_ret (pv 2)))),?_⟩
 refine ⟨_,rfl,fldgo (fun _ _=>_) T.lis hl (i:=0) rfl rfl ⟨_,rfl,fldgo (fun _ _=>_) T.lis hl (i:=1) rfl rfl ⟨_,rfl,_,rfl,fldgo (fun _ _=>_) T.lis hl (i:=1) rfl rfl ⟨_,rfl,_,_,rfl,rfl,_,rfl,lc,_,rfl,hlc,fun r hr=>?_⟩⟩⟩⟩
 have hnr:kl ≠ r:=ne_of_none hl hr
 have hl1:(upd H r (.lst (cutV (zv l) (some (at_:Int)) (some ((at_:Int) + (n:Int)))))) kl = _:=(upd_ne hnr).trans hl
 refine ⟨_,rfl,kl,A.cLis,dx,_,_,rfl,hl1,T.lis.cl,T.lis.no _ (List.mem_of_getElem? (i:=1) rfl),zip_lookup (i:=1) T.lis.nd rfl rfl,_,rfl,_,_,rfl,rfl,auggo T.lis hl1 (i:=1) rfl rfl rfl ⟨_,rfl,k _ r (fun x o e nx=>?_) hr ?_ ⟨dx,upd_same⟩⟩⟩
 ·rw [upd_ne (by simpa using nx),upd_ne (ne_of_none e hr)]; exact e
 ·rw [upd_ne (Ne.symm hnr),upd_same]
  have e:(at_:Int) + (n:Int) = ((at_ + n:Nat):Int):=by omega
  rw [e,cutV_nat,Nat.add_sub_cancel_left]
  unfold zv
  rw [List.map_take,List.map_drop]
end
abbrev sShort:Stmt:=top 145
theorem sq_but {K:PySem.W.Frag} {H H':Hp} {a kl:Addr} {xs:List V} {C dx:Addr} {fs:List (Str × V)} (h:SqL K H a xs) (b:But [kl] H H') (hk:H kl = some (.ins C dx fs)):SqL K H' a xs:=by
 rcases h with (h | ⟨o,h⟩) | h
 ·exact .inl (.inl (b _ _ h (by simpa using ne_of h hk (fun z=>nomatch z))))
 ·exact .inl (.inr ⟨o,b _ _ h (by simpa using ne_of h hk (fun z=>nomatch z))⟩)
 ·exact .inr h
theorem sq_same {K:PySem.W.Frag} {H H':Hp} {a:Addr} {xs:List V} (h:SqL K H a xs) (s:Same H H'):SqL K H' a xs:=by
 rcases h with (h | ⟨o,h⟩) | h
 ·exact .inl (.inl (s _ _ h))
 ·exact .inl (.inr ⟨o,s _ _ h⟩)
 ·exact .inr h
def RowsAt (H0 H:Hp) (lr:Addr) (rr:List (List Int)):Prop:=∃ rl,H lr = some (.lst rl)∧Paired (fun (r:List Int) (v:V)=>∃ a,v = .ref a∧(H0 a = none∧a ≠ lr)∧H a = some (.lst (zv r))) rr rl
inductive spTakeRs (A:Adr) (K:PySem.W.Frag) (vs:List V) (H:Hp) (Q:VK) (E:XK):Prop
 | mk (kl lc:Addr) (at_ n:Nat) (l:List Int) (rr:List (List Int)) (t:List Int) (_:vs = [.ref kl,.int (n:Int)]) (_:LisAt A H kl lc at_) (_:SqL K H lc (zv l)) (_:PyFlat.rows n (l.drop at_) = some (rr,t)) (_:n ≤ 1000) (_:∀ H' lr at',But [kl] H H'→H lr = none→RowsAt H H' lr rr→LisAt A H' kl lc at'→l.drop at' = t→Q (.ref lr) H')
theorem rows_len:∀ {n:Nat} {r:List Int} {rr:List (List Int)} {t:List Int},PyFlat.rows n r = some (rr,t)→rr.length = n
 | 0,r,rr,t,h=>by unfold PyFlat.rows at h; cases h; rfl
 | n + 1,r,rr,t,h=>by
  unfold PyFlat.rows at h
  split at h
  ·cases h
  ·split at h
   ·cases h
   ·rename_i e; cases h; rw [List.length_cons,rows_len e]
theorem row_at {l:List Int} {i:Nat} {x s:List Int} (h:PyFlat.row (l.drop i) = some (x,s)):∃ z:Nat,l[i]? = some (z:Int)∧x = (l.drop (i + 1)).take z∧s = l.drop (i + 1 + z):=by
 cases e:l.drop i with
 | nil=>rw [e] at h; cases h
 | cons z r =>
  rw [e] at h
  unfold PyFlat.row at h
  try dsimp only at h
  have hr:r = l.drop (i + 1):=by
   have:=congrArg (List.drop 1) e
   rw [List.drop_drop] at this
   exact this.symm
  have hz:l[i]? = some z:=by
   have:=congrArg List.head? e
   rw [List.head?_drop] at this
   exact this
  split at h
  ·rename_i hc
   cases h
   refine ⟨z.toNat,by rw [hz,Int.toNat_of_nonneg hc.1],by rw [hr],by rw [hr,List.drop_drop]⟩
  ·cases h
section
variable {P:Program} {w:World} {K:PySem.W.Frag} {mg:Str→Option Value} {base:Heap} {A:Adr}
theorem scTakeRs:FnScope ["self","size","rows"] ["self","size"] (defScope sTakeRs):=scB
inductive RowW (A:Adr) (kl lr lc:Addr) (n:Nat) (rr:List (List Int)) (l t:List Int) (H:Hp) (m:Nat) (σ:L2.St) (H':Hp):Prop
 | mk (dr rest:List (List Int)) (at_:Nat) (_:σ = [some (.ref kl),some (.int (n:Int)),some (.ref lr)]) (_:m = n - dr.length) (_:dr ++ rest = rr) (_:dr.length ≤ n) (_:But [kl] H H') (_:RowsAt H H' lr dr) (_:LisAt A H' kl lc at_) (_:PyFlat.rows (n - dr.length) (l.drop at_) = some (rest,t))
theorem d_takeRs (T:Txt K mg A) (src:MSrc K A.cLis "take_rows" "CallList.take_rows" sTakeRs) (D1:MDef P w K mg base 1 A.cLis "take_number" ["self"] (spTakeN A K)) (D2:MDef P w K mg base 1 A.cLis "take_numbers" ["self","size"] (spTakeNs A K)) :
  MDef P w K mg base 2 A.cLis "take_rows" ["self","size"] (spTakeRs A K):=by
 refine mdefR src scTakeRs (fun vs H Q E h=>?_) (fun f cdv A' outer s H vs Q E hr h=>?_)
 ·obtain ⟨kl,lc,at_,n,l,rr,t,rfl,_⟩:=h
  rfl
 obtain ⟨kl,lc,at0,n,l,rr,t,rfl,hl0,hlc,hrows,hn,k⟩:=h
 refine ⟨_,pss_cons (ps_set (i:=2) scTakeRs.nd rfl (Or.inl rfl) (pe_lst pa_nil))
  (pss_cons (ps_while ownR (pt_cmpR op_lt (pe_callB call_len_seq (by rfl) T.nLen PySem.boot_len (pa_cons (pv 2) pa_nil)) (pv 1) (nomark _))
   (pss_one (ps_expr (pe_bm PySem.F.plainAttrs_list PySem.F.slot_list_append PySem.F.type_list_append mt_append (pv 2) (pa_cons (pe_md D2 (pv 0) T.lis.cl hr passR (pa_cons (pe_md0 D1 (pv 0) T.lis.cl hr passR) pa_nil)) pa_nil)))))
  (pss_one (ps_ret (pv 2)))),?_⟩
 exists _,z0
 refine ⟨Nat.zero_le _,fun lr hlr=>?_⟩
 have ⟨dx0,hk0⟩:=hl0
 have nkl:kl ≠ lr:=ne_of_none hk0 hlr
 exists z0,z0
 refine ⟨RowW A kl lr lc n rr l t H,
  ⟨n,[],rr,at0,rfl,rfl,rfl,Nat.zero_le _,Same.but (same_new hlr),⟨[],upd_same,.nil⟩,⟨dx0,by rw [upd_ne nkl]; exact hk0⟩,hrows⟩,?_⟩
 rintro m σ H1 ⟨dr,rest,at_,rfl,rfl,hrr,hdr,b1,⟨rl,hlr1,pr⟩,hl1,hrows⟩
 have ⟨dx1,hk1⟩:=hl1
 have hlen:=paired_len pr
 refine ⟨_,rfl,lr,_,rfl,.inl (SqL.of hlr1),_,rfl,_,_,rfl,rfl,_,rfl,?_⟩
 by_cases hlt:dr.length < n
 ·rw [decide_eq_true (show (rl.length:Int) < (n:Int) by omega)]
  refine ⟨fun σ' H'=>∃ m',m' < n - dr.length∧RowW A kl lr lc n rr l t H m' σ' H',fun _ _ h=>h,?_⟩
  rw [show n - dr.length = (n - dr.length - 1) + 1 by omega] at hrows
  unfold PyFlat.rows at hrows
  cases hrow:PyFlat.row (l.drop at_) with
  | none=>rw [hrow] at hrows; cases hrows
  | some xs =>
   obtain ⟨x,sx⟩:=xs
   rw [hrow] at hrows
   try dsimp only at hrows
   cases hrest:PyFlat.rows (n - dr.length - 1) sx with
   | none=>rw [hrest] at hrows; cases hrows
   | some yt =>
    obtain ⟨ys,t'⟩:=yt
    rw [hrest] at hrows
    cases hrows
    obtain ⟨z,hz,hx,hsx⟩:=row_at hrow
    have hlc1:=sq_but hlc b1 hk0
    refine ⟨_,rfl,.inl ⟨rfl,_,SqL.of hlr1⟩,_,rfl,methgo hk1 (by decide +kernel) ⟨_,rfl,methgo hk1 (by decide +kernel) ⟨kl,lc,at_,l,(z:Int),rfl,hl1,hlc1,hz,fun H2 b2 hl2=>?_⟩⟩⟩
    refine ⟨kl,lc,at_ + 1,z,l,rfl,hl2,sq_but hlc1 b2 hk1,fun H3 r b3 hr3 er3 hl3=>?_⟩
    have ⟨dx2,hk2⟩:=hl2
    have ⟨dx3,hk3⟩:=hl3
    have hlr3:H3 lr = some (.lst rl):=(b2.trans b3) _ _ hlr1 (by simpa using Ne.symm nkl)
    have hlen1:rl.length < n:=by omega
    have nr:r ≠ lr:=fun zz=>by
     have:H2 lr = some (.lst rl):=b2 _ _ hlr1 (by simpa using Ne.symm nkl)
     rw [← zz,hr3] at this
     cases this
    refine ⟨lr,_,_,rfl,rfl,hlr3,szl (by omega),?_⟩
    refine ⟨n - (dr.length + 1),by omega,dr ++ [x],ys,at_ + 1 + z,rfl,by simp only [List.length_append,List.length_singleton],by rw [List.append_assoc]; exact hrr,by simp only [List.length_append,List.length_singleton]; omega,but_at ((b1.trans b2).trans b3) hlr,⟨rl ++ [.ref r],upd_same,paired_snoc (Paired.mapP pr fun r' v ⟨a,ea,na,e⟩=>⟨a,ea,na,?_⟩) ⟨r,rfl,?_,?_⟩⟩,⟨dx3,by rw [upd_ne nkl]; exact hk3⟩,?_⟩
    ·have e3:=(b2.trans b3) a _ e (by simpa using ne_of e hk1 (fun z=>nomatch z))
     rw [upd_ne na.2]; exact e3
    ·exact ⟨dom_none (dom_but1 (b1.trans b2) hk2) hr3,nr⟩
    ·rw [upd_ne nr,er3,hx]
    ·rw [show n - (dr ++ [x]).length = n - dr.length - 1 by simp only [List.length_append,List.length_singleton]; omega,← hsx]
     exact hrest
 ·rw [decide_eq_false (show ¬ (rl.length:Int) < (n:Int) by omega)]
  rw [show n - dr.length = 0 by omega] at hrows
  unfold PyFlat.rows at hrows
  exists z0
  cases hrows
  rw [List.append_nil] at hrr
  subst hrr
  exact ⟨_,rfl,k H1 lr at_ b1 hlr ⟨rl,hlr1,pr⟩ hl1 rfl⟩
end
end Cf
namespace Cf
open PySem PySem.Spec PyProof.Rows L2
open CfFile (Pool big File Member Attr)
open ClassHall (Answer answer tells says NO Call step)
open ClassNeutral (rowOf)
abbrev sCarry:Stmt:=top 144
inductive spShort (A:Adr) (vs:List V) (H:Hp) (Q:VK) (E:XK):Prop
 | mk (S:Hp) (a:Addr) (b:List UInt8) (_:vs = [.ref a]) (_:Same S H) (_:S a = some (.lst (bv b))) (_:if 4096 < b.length then E (.ref A.cTM) none H else Post (CfFile.file b) 0 (fun x _=>∀ H' S1 k,Same H H'→Grow S H S1 H'→FiAt A S1 k x→Fact x→Q (.ref k) H') (fun r e=>Fails A [] H E r e))
def HeldV (A:Adr) (S:Hp):Option File→V→Prop
 | none,v=>v = .non
 | some x,v=>∃ k,v = .ref k∧FiAt A S k x∧Fact x
theorem HeldV.up {A:Adr} {S S1:Hp} (s:Same S S1):∀ {st:Option File} {v:V},HeldV A S st v→HeldV A S1 st v
 | none,_,h=>h
 | some _,_,⟨k,e,f,g⟩=>⟨k,e,f.up s,g⟩
def DeskAt (A:Adr) (S H:Hp) (kd:Addr) (st:Option File):Prop:=∃ dx v,H kd = some (.ins A.cDes dx (kDes.zip [v]))∧HeldV A S st v
def CallIs (cn:Nat) (ns:List Nat) (rs:List (List UInt8)) (c:Call):Prop :=
 (cn = 1∧∃ b,rs = [b]∧c = .read b) ∨ (cn = 2∧∃ b,rs = [b]∧c = .judge b) ∨ ∃ nn nr mk,askOf cn = some (nn,nr,mk)∧ns.length = nn∧rs.length = nr∧c = mk ns rs
def XO (A:Adr) (H:Hp) (cls:Value) (od:Option Addr) (row:List Int):Prop :=
 (cls = .ref A.cRB∧∃ d r p,od = some d∧H d = some (XD d (rb r p))∧row = [r,p]) ∨ (cls = .ref A.cTM∧od = none∧row = [-2]) ∨ (cls = .ref A.cNF∧od = none∧row = [-3]) ∨ (cls = .ref A.cNT∧od = none∧row = [-1])
inductive spCarry (A:Adr) (vs:List V) (H:Hp) (Q:VK) (E:XK):Prop
 | mk (S:Hp) (kd ln lr:Addr) (cn:Nat) (st:Option File) (ns:List Nat) (rs:List (List UInt8)) (rl:List V) (c:Call) (_:vs = [.ref kd,.int (cn:Int),.ref ln,.ref lr]) (_:Same S H) (_:S kd = none) (_:DeskAt A S H kd st) (_:H ln = some (.lst (iv ns))) (_:H lr = some (.lst rl)) (_:Paired (fun (r:List UInt8) (v:V)=>∃ a,v = .ref a∧S a = some (.lst (bv r))) rs rl) (_:CallIs cn ns rs c) (_:(∀ H' S1 p,But [kd] H H'→Grow S H S1 H'→DeskAt A S1 H' kd (step st c).1→H p = none→H' p = some (.lst (zv (rowOf (step st c).2)))→Q (.ref p) H')) (_:(∀ H' cls od,Same H H'→(step st c).1 = st→XO A H' cls od (rowOf (step st c).2)→E cls od H'))
theorem ask_ge {cn nn nr:Nat} {mk:List Nat→List (List UInt8)→Call} (h:askOf cn = some (nn,nr,mk)):cn ≠ 1∧cn ≠ 2:=by
 constructor <;> (rintro rfl; cases h)
theorem ask_step {cn nn nr:Nat} {mk:List Nat→List (List UInt8)→Call} (h:askOf cn = some (nn,nr,mk)) (st:Option File) (ns:List Nat) (rs:List (List UInt8)) :
  step st (mk ns rs) = (st,match st with | some x=>answer x (mk ns rs) | none=>⟨-3,[],[]⟩):=by
 unfold askOf at h
 split at h <;> first | (cases h; rfl) | cases h
section
variable {P:Program} {w:World} {K:PySem.W.Frag} {mg:Str→Option Value} {base:Heap} {A:Adr}
theorem scShort:FnScope ["content"] ["content"] (defScope sShort):=scB
theorem d_short (T:Txt K mg A) (src:Src K "read_short_file" sShort) (Df:Def P w K mg base 11 "read_file" ["content"] (spFile A)):Def P w K mg base 12 "read_short_file" ["content"] (spShort A):=by
 refine defR src T.kx scShort (fun vs H Q E h=>?_) (fun f cdv A' outer s H vs Q E hr h=>?_)
 ·obtain ⟨S,a,b,rfl,_⟩:=h
  rfl
 obtain ⟨S,a,b,rfl,le,hSa,k⟩:=h
 refine ⟨_,pss_cons (ps_if (pt_cmpR op_gt (pe_callB call_len_seq (by rfl) T.nLen PySem.boot_len (pa_cons (pv 0) pa_nil)) (pe_gi T.g_MOST_BYTES rfl) (nomark _)) (pss_one (ps_raise0 T.xTM T.tmI hr.hd rfl T.gTM)) pss_nil)
  (pss_one (ps_ret (pe_d Df hr rfl passR (pa_cons (pv 0) pa_nil)))),?_⟩
 exists _,z0
 refine ⟨_,rfl,a,_,rfl,.inl (SqL.of (le _ _ hSa)),_,_,rfl,rfl,_,rfl,?_⟩
 rw [bv_len]
 by_cases hb:4096 < b.length
 ·rw [decide_eq_true (show (4096:Int) < (b.length:Int) by omega)]
  rw [if_pos hb] at k
  exact k
 ·rw [decide_eq_false (show ¬ (4096:Int) < (b.length:Int) by omega)]
  rw [if_neg hb] at k
  exists z0
  refine ⟨_,rfl,S,a,b,rfl,le,hSa,(post_and k (file_is b)).mono (fun x _ ⟨⟨h1,h2,h3⟩,k⟩ H' S1 kk s g fi hd=>k H' S1 kk s g fi ⟨hd,by rw [h1]; omega,h2,h3⟩) (fun _ _ h=>h)⟩
theorem scCarry:FnScope ["desk","call","numbers","rows","whole"] ["desk","call","numbers","rows"] (defScope sCarry):=scB
theorem d_carry (T:Txt K mg A) (src:Src K "carry_out" sCarry) (Ds:Def P w K mg base 12 "read_short_file" ["content"] (spShort A)) (Da:Def P w K mg base 9 "ask" ["held","call","numbers","rows"] (spAsk A)) :
  Def P w K mg base 13 "carry_out" ["desk","call","numbers","rows"] (spCarry A):=by
 refine defR src T.kx scCarry (fun vs H Q E h=>?_) (fun f cdv A' outer s H vs Q E hr h=>?_)
 ·obtain ⟨S,kd,ln,lr,cn,st,ns,rs,rl,c,rfl,_⟩:=h
  rfl
 obtain ⟨S,kd,ln,lr,cn,st,ns,rs,rl,c,rfl,le,nkd,⟨dd,vd,hkd,hv⟩,hln,hlr,pr,hc,k,kx⟩:=h
 refine ⟨_,pss_cons (ps_if (pt_cmpR op_in_seq (pv 1) (pe_tup (pa_cons (pe_gi T.g_READ rfl) (pa_cons (pe_gi T.g_JUDGE rfl) pa_nil))) rfl)
   (pss_cons (ps_set (i:=4) scCarry.nd rfl (Or.inl rfl) (pe_d Ds hr rfl passR (pa_cons (pe_ix ix_list (pv 3) pe_int (fun _ _=>rfl)) pa_nil)))
   (pss_cons (ps_if (pt_cmpR op_eq (pv 1) (pe_gi T.g_READ rfl) (nomark _)) (pss_one (ps_fld (pv 0) (pv 4) rfl)) pss_nil)
   (pss_one (ps_ret (pe_lst (pa_cons pe_int pa_nil)))))) pss_nil)
  (pss_cons (ps_if (pt_cmp (pc_isN (pe_fld (pv 0) rfl))) (pss_one (ps_raise0 T.xNF T.nfI hr.hd rfl T.gNF)) pss_nil)
  (pss_one (ps_ret (pe_d Da (rm hr) rfl passR (pa_cons (pe_fld (pv 0) rfl) (pa_cons (pv 1) (pa_cons (pv 2) (pa_cons (pv 3) pa_nil)))))))),?_⟩
 exists _,z0
 refine ⟨_,rfl,Nat.le_of_lt (szl (by decide:2 ≤ 70000)),fun t ht=>⟨t,_,rfl,.inr (SqT.of upd_same),rfl,rfl,_,rfl,?_⟩⟩
 have s1:=same_new (o:=.tup [V.int 1,V.int 2]) ht
 generalize upd H t (.tup [V.int 1,V.int 2]) = H1 at s1 ⊢
 have le1:=le.trans s1
 have ein:inV (.int (cn:Int)) [.int 1,.int 2] = (1 == cn || (2 == cn || false)):=in_ints cn [1,2]
 show if inV (.int (cn:Int)) [.int 1,.int 2] = true then _ else _
 rw [ein]
 rcases hc with ⟨rfl,b,rfl,rfl⟩ | ⟨rfl,b,rfl,rfl⟩ | ⟨nn,nr,mk,hask,hns,hrs,rfl⟩
 ·-- read
  cases pr with
  | cons h p =>
   cases p
   obtain ⟨a0,rfl,hS0⟩:=h
   refine ⟨_,rfl,lr,_,_,_,rfl,rfl,SqL.of (s1 _ _ hlr),atI_nat (j:=0) rfl,S,a0,b,rfl,le1,hS0,?_⟩
   by_cases hb:4096 < b.length
   ·rw [if_pos hb]
    have e:step st (.read b) = (st,ClassHall.LONG):=by unfold ClassHall.step; dsimp only; rw [if_pos (show ClassHall.MOST < b.length from hb)]
    refine kx H1 _ _ s1 (by rw [e]) ?_
    rw [e]
    exact .inr (.inl ⟨rfl,rfl,rfl⟩)
   ·rw [if_neg hb]
    unfold Post
    cases e:CfFile.file b 0 with
    | ok x =>
     intro H2 S2 kf s2 g2 fi fa
     have es:step st (.read b) = (some x.1,says 0):=by
      unfold ClassHall.step
      dsimp only
      rw [if_neg (show ¬ ClassHall.MOST < b.length from hb)]
      unfold CfFile.read
      rw [show (CfFile.file b).run 0 = CfFile.file b 0 from rfl,e]
     rw [es] at k
     have hkd2:=(s1.trans s2) _ _ hkd
     have nkd2:S2 kd = none:=g2.new kd (isSome_of (s1 _ _ hkd)) nkd
     refine ⟨_,rfl,rfl,_,rfl,_,rfl,_,rfl,setgo2 T.des hkd2 (i:=0) rfl rfl (us:=[V.ref kf]) rfl fun H3 hH3=>?_⟩
     subst hH3
     refine ⟨Nat.le_of_lt (szl (by decide:1 ≤ 70000)),fun p hp=>?_⟩
     have b3:But [kd] H (upd H2 kd (.ins A.cDes dd (kDes.zip [V.ref kf]))):=fun y o ey ny=>by
      rw [upd_ne (by simpa using ny)]; exact (s1.trans s2) _ _ ey
     have g3:Grow S H S2 (upd H2 kd (.ins A.cDes dd (kDes.zip [V.ref kf]))):=⟨g2.le,same_at g2.up nkd2,fun y hy n=>g2.new y (Same.dom s1 y hy) n⟩
     have s4:=same_new (o:=.lst [V.int 0]) hp
     exact k _ S2 p (b3.trans (Same.but s4)) (g3.later (g3.up.trans s4)) ⟨dd,.ref kf,s4 _ _ upd_same,kf,rfl,fi,fa⟩ (dom_none (dom_but1 b3 upd_same) hp) upd_same
    | error x =>
     have es:step st (.read b) = (st,tells x.1 [x.2]):=by
      unfold ClassHall.step
      dsimp only
      rw [if_neg (show ¬ ClassHall.MOST < b.length from hb)]
      unfold CfFile.read
      rw [show (CfFile.file b).run 0 = CfFile.file b 0 from rfl,e]
     intro H2 d b2 hd
     refine kx H2 _ _ (s1.trans b2.same) (by rw [es]) ?_
     rw [es]
     exact .inl ⟨rfl,d,_,_,rfl,hd,rfl⟩
 ·-- judge
  cases pr with
  | cons h p =>
   cases p
   obtain ⟨a0,rfl,hS0⟩:=h
   refine ⟨_,rfl,lr,_,_,_,rfl,rfl,SqL.of (s1 _ _ hlr),atI_nat (j:=0) rfl,S,a0,b,rfl,le1,hS0,?_⟩
   by_cases hb:4096 < b.length
   ·rw [if_pos hb]
    have e:step st (.judge b) = (st,ClassHall.LONG):=by unfold ClassHall.step; dsimp only; rw [if_pos (show ClassHall.MOST < b.length from hb)]
    refine kx H1 _ _ s1 (by rw [e]) ?_
    rw [e]
    exact .inr (.inl ⟨rfl,rfl,rfl⟩)
   ·rw [if_neg hb]
    unfold Post
    cases e:CfFile.file b 0 with
    | ok x =>
     intro H2 S2 kf s2 g2 fi fa
     have es:step st (.judge b) = (st,says 0):=by
      unfold ClassHall.step
      dsimp only
      rw [if_neg (show ¬ ClassHall.MOST < b.length from hb)]
      unfold CfFile.read
      rw [show (CfFile.file b).run 0 = CfFile.file b 0 from rfl,e]
     rw [es] at k
     have g3:Grow S H S2 H2:=⟨g2.le,g2.up,fun y hy n=>g2.new y (Same.dom s1 y hy) n⟩
     refine ⟨_,rfl,rfl,_,rfl,Nat.le_of_lt (szl (by decide:1 ≤ 70000)),fun p hp=>?_⟩
     have s4:=same_new (o:=.lst [V.int 0]) hp
     exact k _ S2 p (Same.but ((s1.trans s2).trans s4)) (g3.later (g3.up.trans s4)) ⟨dd,vd,((s1.trans s2).trans s4) _ _ hkd,HeldV.up g2.le hv⟩ (dom_none (Same.dom (s1.trans s2)) hp) upd_same
    | error x =>
     have es:step st (.judge b) = (st,tells x.1 [x.2]):=by
      unfold ClassHall.step
      dsimp only
      rw [if_neg (show ¬ ClassHall.MOST < b.length from hb)]
      unfold CfFile.read
      rw [show (CfFile.file b).run 0 = CfFile.file b 0 from rfl,e]
     intro H2 d b2 hd
     refine kx H2 _ _ (s1.trans b2.same) (by rw [es]) ?_
     rw [es]
     exact .inl ⟨rfl,d,_,_,rfl,hd,rfl⟩
 ·-- ask
  have hcn:=ask_ge hask
  rw [show (1 == cn || (2 == cn || false)) = false by simp; exact ⟨fun z=>hcn.1 z.symm,fun z=>hcn.2 z.symm⟩]
  have es:=ask_step hask st ns rs
  have hkd1:=s1 _ _ hkd
  exists z0
  refine ⟨_,rfl,fldgo (fun _ _=>_) T.des hkd1 (i:=0) rfl rfl ⟨_,rfl,?_⟩⟩
  cases st with
  | none =>
   have:vd = V.non:=hv
   subst this
   refine kx H1 _ _ s1 (by rw [es]) ?_
   rw [es]
   exact .inr (.inr (.inl ⟨rfl,rfl,rfl⟩))
  | some x =>
   obtain ⟨kf,rfl,fi,fa⟩:=hv
   rw [decide_eq_false (fun z=>by cases z)]
   refine ⟨_,rfl,fldgo (fun _ _=>_) T.des hkd1 (i:=0) rfl rfl ⟨_,rfl,_,rfl,_,rfl,S,kf,ln,lr,x,cn,nn,nr,mk,ns,rs,rfl,hask,hns,hrs,⟨fi,le1,fa,s1 _ _ hln,rl,s1 _ _ hlr,Paired.mapP pr fun r v ⟨a,e,h⟩=>⟨a,e,le1 _ _ h⟩⟩,?_⟩⟩
   rw [es] at k kx
   unfold Rsp
   try dsimp only at k kx
   by_cases hno:answer x (mk ns rs) = NO
   ·rw [if_pos hno]
    intro H2 s2
    refine kx H2 _ _ (s1.trans s2) rfl ?_
    rw [hno]
    exact .inr (.inr (.inr ⟨rfl,rfl,rfl⟩))
   ·rw [if_neg hno]
    intro H2 p xs s2 hp ep
    have s3:=s2.trans (same_new (o:=.lst xs) hp)
    exact k _ S p (Same.but (s1.trans s3)) (Grow.stay (le1.trans s3)) ⟨dd,.ref kf,(s1.trans s3) _ _ hkd,kf,rfl,fi,fa⟩ (dom_none (Same.dom (s1.trans s2)) hp) (upd_same.trans ep)
end
end Cf
namespace Cf
open ClassHall (Call)
def iN (ns:List Nat):List Int:=ns.map fun (n:Nat)=>(n:Int)
def iB (b:List UInt8):List Int:=b.map fun c=>(c.toNat:Int)
theorem text_iB {r:List Int} (h:r.all (fun z=>ClassNeutral.natural z 8) = true):r = iB (ClassNeutral.text r):=by
 unfold iB ClassNeutral.text
 rw [List.map_map]
 induction r with
 | nil=>rfl
 | cons z r ih =>
  rw [List.all_cons,Bool.and_eq_true] at h
  rw [List.map_cons,← ih h.2]
  congr 1
  have hz:=h.1
  unfold ClassNeutral.natural at hz
  rw [Bool.and_eq_true,decide_eq_true_iff,decide_eq_true_iff] at hz
  show z = ((UInt8.ofNat z.toNat).toNat:Int)
  have h1:z.toNat < 256:=by have:=hz.2; omega
  rw [UInt8.toNat_ofNat_of_lt' h1]
  omega
theorem nat_of {a:Int} {n:Nat} (h:ClassNeutral.natural a n = true):a = (a.toNat:Int):=by
 unfold ClassNeutral.natural at h
 rw [Bool.and_eq_true,decide_eq_true_iff] at h
 have:=h.1
 omega
structure One (p:Int) (ts:List Int) (xs:List (List Int)) (n k:Nat):Prop where
 ex:∃ cn ns rs c,p = (cn:Nat)∧ts = iN ns∧xs = rs.map iB∧CallIs cn ns rs c∧ClassNeutral.callOf (PyWqawam.whole ((p :: ts) :: xs)) = some c
theorem one_of {p:Int} {ts:List Int} {xs:List (List Int)} {n k:Nat} (hs:PyWqawam.shape p = some (n,k)) (hn:ts.length = n) (hk:xs.length = k) (ha:ClassNeutral.asked1 (PyWqawam.whole ((p :: ts) :: xs)) = true):One p ts xs n k:=by
 have z1:∀ {α:Type} {l:List α},l.length = 0→l = []:=fun h=>List.length_eq_zero_iff.mp h
 unfold PyWqawam.shape at hs
 by_cases h1:p = 1
 ·rw [if_pos h1] at hs
  cases hs
  subst h1
  obtain rfl:=z1 hn
  obtain ⟨r,rfl⟩:=len1 hk
  exact ⟨1,[],[ClassNeutral.text r],_,rfl,rfl,by rw [List.map_cons,← text_iB ha]; rfl,.inl ⟨rfl,_,rfl,rfl⟩,rfl⟩
 rw [if_neg h1] at hs
 by_cases h2:p = 2
 ·rw [if_pos h2] at hs
  cases hs
  subst h2
  obtain rfl:=z1 hn
  obtain ⟨r,rfl⟩:=len1 hk
  exact ⟨2,[],[ClassNeutral.text r],_,rfl,rfl,by rw [List.map_cons,← text_iB ha]; rfl,.inr (.inl ⟨rfl,_,rfl,rfl⟩),rfl⟩
 rw [if_neg h2] at hs
 by_cases h3:p = 3
 ·rw [if_pos h3] at hs
  cases hs
  subst h3
  obtain rfl:=z1 hn
  obtain rfl:=z1 hk
  exact ⟨3,[],[],_,rfl,rfl,rfl,.inr (.inr ⟨_,_,_,rfl,rfl,rfl,rfl⟩),rfl⟩
 rw [if_neg h3] at hs
 by_cases h4:p = 4
 ·rw [if_pos h4] at hs
  cases hs
  subst h4
  obtain ⟨a,rfl⟩:=len1 hn
  obtain rfl:=z1 hk
  have ha:ClassNeutral.natural a 32 = true:=ha
  exact ⟨4,[a.toNat],[],_,rfl,by show [a] = [(a.toNat:Int)]; rw [← nat_of ha],rfl,.inr (.inr ⟨_,_,_,rfl,rfl,rfl,rfl⟩),rfl⟩
 rw [if_neg h4] at hs
 by_cases h5:p = 5
 ·rw [if_pos h5] at hs
  cases hs
  subst h5
  obtain ⟨a,rfl⟩:=len1 hn
  obtain rfl:=z1 hk
  have ha:ClassNeutral.natural a 32 = true:=ha
  exact ⟨5,[a.toNat],[],_,rfl,by show [a] = [(a.toNat:Int)]; rw [← nat_of ha],rfl,.inr (.inr ⟨_,_,_,rfl,rfl,rfl,rfl⟩),rfl⟩
 rw [if_neg h5] at hs
 by_cases h6:p = 6
 ·rw [if_pos h6] at hs
  cases hs
  subst h6
  obtain ⟨a,rfl⟩:=len1 hn
  obtain rfl:=z1 hk
  have ha:ClassNeutral.natural a 32 = true:=ha
  exact ⟨6,[a.toNat],[],_,rfl,by show [a] = [(a.toNat:Int)]; rw [← nat_of ha],rfl,.inr (.inr ⟨_,_,_,rfl,rfl,rfl,rfl⟩),rfl⟩
 rw [if_neg h6] at hs
 by_cases h7:p = 7
 ·rw [if_pos h7] at hs
  cases hs
  subst h7
  obtain ⟨a,rfl⟩:=len1 hn
  obtain rfl:=z1 hk
  have ha:ClassNeutral.natural a 32 = true:=ha
  exact ⟨7,[a.toNat],[],_,rfl,by show [a] = [(a.toNat:Int)]; rw [← nat_of ha],rfl,.inr (.inr ⟨_,_,_,rfl,rfl,rfl,rfl⟩),rfl⟩
 rw [if_neg h7] at hs
 by_cases h8:p = 8
 ·rw [if_pos h8] at hs
  cases hs
  subst h8
  obtain ⟨a,rfl⟩:=len1 hn
  obtain rfl:=z1 hk
  have ha:ClassNeutral.natural a 32 = true:=ha
  exact ⟨8,[a.toNat],[],_,rfl,by show [a] = [(a.toNat:Int)]; rw [← nat_of ha],rfl,.inr (.inr ⟨_,_,_,rfl,rfl,rfl,rfl⟩),rfl⟩
 rw [if_neg h8] at hs
 by_cases h9:p = 9
 ·rw [if_pos h9] at hs
  cases hs
  subst h9
  obtain ⟨a,rfl⟩:=len1 hn
  obtain rfl:=z1 hk
  have ha:ClassNeutral.natural a 32 = true:=ha
  exact ⟨9,[a.toNat],[],_,rfl,by show [a] = [(a.toNat:Int)]; rw [← nat_of ha],rfl,.inr (.inr ⟨_,_,_,rfl,rfl,rfl,rfl⟩),rfl⟩
 rw [if_neg h9] at hs
 by_cases h10:p = 10
 ·rw [if_pos h10] at hs
  cases hs
  subst h10
  obtain ⟨a,b,rfl⟩:=len2 hn
  obtain rfl:=z1 hk
  have ha:(ClassNeutral.natural a 32 && ClassNeutral.natural b 32) = true:=ha
  rw [Bool.and_eq_true] at ha
  exact ⟨10,[a.toNat,b.toNat],[],_,rfl,by show [a,b] = [(a.toNat:Int),(b.toNat:Int)]; rw [← nat_of ha.1,← nat_of ha.2],rfl,.inr (.inr ⟨_,_,_,rfl,rfl,rfl,rfl⟩),rfl⟩
 rw [if_neg h10] at hs
 by_cases h11:p = 11
 ·rw [if_pos h11] at hs
  cases hs
  subst h11
  obtain ⟨a,b,c,rfl⟩:=len3 hn
  obtain rfl:=z1 hk
  have ha:(ClassNeutral.natural a 32 && ClassNeutral.natural b 32 && ClassNeutral.natural c 32) = true:=ha
  rw [Bool.and_eq_true,Bool.and_eq_true] at ha
  exact ⟨11,[a.toNat,b.toNat,c.toNat],[],_,rfl,by show [a,b,c] = [(a.toNat:Int),(b.toNat:Int),(c.toNat:Int)]; rw [← nat_of ha.1.1,← nat_of ha.1.2,← nat_of ha.2],rfl,.inr (.inr ⟨_,_,_,rfl,rfl,rfl,rfl⟩),rfl⟩
 rw [if_neg h11] at hs
 by_cases h12:p = 12
 ·rw [if_pos h12] at hs
  cases hs
  subst h12
  obtain ⟨a,rfl⟩:=len1 hn
  obtain rfl:=z1 hk
  have ha:ClassNeutral.natural a 32 = true:=ha
  exact ⟨12,[a.toNat],[],_,rfl,by show [a] = [(a.toNat:Int)]; rw [← nat_of ha],rfl,.inr (.inr ⟨_,_,_,rfl,rfl,rfl,rfl⟩),rfl⟩
 rw [if_neg h12] at hs
 by_cases h13:p = 13
 ·rw [if_pos h13] at hs
  cases hs
  subst h13
  obtain ⟨a,rfl⟩:=len1 hn
  obtain ⟨r,r2,rfl⟩:=len2 hk
  have ha:(ClassNeutral.natural a 32 && r.all (fun z=>ClassNeutral.natural z 8) && r2.all (fun z=>ClassNeutral.natural z 8)) = true:=ha
  rw [Bool.and_eq_true,Bool.and_eq_true] at ha
  exact ⟨13,[a.toNat],[ClassNeutral.text r,ClassNeutral.text r2],_,rfl,by show [a] = [(a.toNat:Int)]; rw [← nat_of ha.1.1],by rw [List.map_cons,List.map_cons,← text_iB ha.1.2,← text_iB ha.2]; rfl,.inr (.inr ⟨_,_,_,rfl,rfl,rfl,rfl⟩),rfl⟩
 rw [if_neg h13] at hs
 by_cases h14:p = 14
 ·rw [if_pos h14] at hs
  cases hs
  subst h14
  obtain ⟨a,rfl⟩:=len1 hn
  obtain rfl:=z1 hk
  have ha:ClassNeutral.natural a 32 = true:=ha
  exact ⟨14,[a.toNat],[],_,rfl,by show [a] = [(a.toNat:Int)]; rw [← nat_of ha],rfl,.inr (.inr ⟨_,_,_,rfl,rfl,rfl,rfl⟩),rfl⟩
 rw [if_neg h14] at hs
 by_cases h15:p = 15
 ·rw [if_pos h15] at hs
  cases hs
  subst h15
  obtain ⟨a,rfl⟩:=len1 hn
  obtain rfl:=z1 hk
  have ha:ClassNeutral.natural a 32 = true:=ha
  exact ⟨15,[a.toNat],[],_,rfl,by show [a] = [(a.toNat:Int)]; rw [← nat_of ha],rfl,.inr (.inr ⟨_,_,_,rfl,rfl,rfl,rfl⟩),rfl⟩
 rw [if_neg h15] at hs
 by_cases h16:p = 16
 ·rw [if_pos h16] at hs
  cases hs
  subst h16
  obtain ⟨a,rfl⟩:=len1 hn
  obtain rfl:=z1 hk
  have ha:ClassNeutral.natural a 32 = true:=ha
  exact ⟨16,[a.toNat],[],_,rfl,by show [a] = [(a.toNat:Int)]; rw [← nat_of ha],rfl,.inr (.inr ⟨_,_,_,rfl,rfl,rfl,rfl⟩),rfl⟩
 rw [if_neg h16] at hs
 cases hs
theorem forms_of {p:Int} {n k:Nat} (hs:PyWqawam.shape p = some (n,k)):(formsT.find? fun t=>decide (t.1 = p)).map (·.2) = some [L2.V.int (n:Int),L2.V.int (k:Int)]:=by
 unfold PyWqawam.shape at hs
 by_cases h1:p = 1
 ·rw [if_pos h1] at hs
  cases hs
  subst h1
  decide +kernel
 rw [if_neg h1] at hs
 by_cases h2:p = 2
 ·rw [if_pos h2] at hs
  cases hs
  subst h2
  decide +kernel
 rw [if_neg h2] at hs
 by_cases h3:p = 3
 ·rw [if_pos h3] at hs
  cases hs
  subst h3
  decide +kernel
 rw [if_neg h3] at hs
 by_cases h4:p = 4
 ·rw [if_pos h4] at hs
  cases hs
  subst h4
  decide +kernel
 rw [if_neg h4] at hs
 by_cases h5:p = 5
 ·rw [if_pos h5] at hs
  cases hs
  subst h5
  decide +kernel
 rw [if_neg h5] at hs
 by_cases h6:p = 6
 ·rw [if_pos h6] at hs
  cases hs
  subst h6
  decide +kernel
 rw [if_neg h6] at hs
 by_cases h7:p = 7
 ·rw [if_pos h7] at hs
  cases hs
  subst h7
  decide +kernel
 rw [if_neg h7] at hs
 by_cases h8:p = 8
 ·rw [if_pos h8] at hs
  cases hs
  subst h8
  decide +kernel
 rw [if_neg h8] at hs
 by_cases h9:p = 9
 ·rw [if_pos h9] at hs
  cases hs
  subst h9
  decide +kernel
 rw [if_neg h9] at hs
 by_cases h10:p = 10
 ·rw [if_pos h10] at hs
  cases hs
  subst h10
  decide +kernel
 rw [if_neg h10] at hs
 by_cases h11:p = 11
 ·rw [if_pos h11] at hs
  cases hs
  subst h11
  decide +kernel
 rw [if_neg h11] at hs
 by_cases h12:p = 12
 ·rw [if_pos h12] at hs
  cases hs
  subst h12
  decide +kernel
 rw [if_neg h12] at hs
 by_cases h13:p = 13
 ·rw [if_pos h13] at hs
  cases hs
  subst h13
  decide +kernel
 rw [if_neg h13] at hs
 by_cases h14:p = 14
 ·rw [if_pos h14] at hs
  cases hs
  subst h14
  decide +kernel
 rw [if_neg h14] at hs
 by_cases h15:p = 15
 ·rw [if_pos h15] at hs
  cases hs
  subst h15
  decide +kernel
 rw [if_neg h15] at hs
 by_cases h16:p = 16
 ·rw [if_pos h16] at hs
  cases hs
  subst h16
  decide +kernel
 rw [if_neg h16] at hs
 cases hs
end Cf
namespace L2
open PySem PySem.Spec PyProof.Rows
abbrev Cx.trial (X:Cx) (xe:Value→Shared→Prop):Cx:={ X with xe:=xe }
section
variable {X:Cx} {pins:List (Addr × Obj)} {σ:St} {H:Hp} {s:Shared} {xe:Value→Shared→Prop}
theorem Inv.trial (I:Inv X pins σ H s):Inv (X.trial xe) pins σ H s :=
 ⟨⟨I.ok.mod,I.ok.kind,I.ok.glob,I.ok.blt,I.ok.above,I.ok.inj,I.ok.has,I.ok.cab,I.ok.hd,I.ok.frames,I.ok.stk,I.ok.exf,I.ok.bs,I.ok.bsz,I.ok.noex,I.ok.exfs,I.ok.funs,I.ok.frf⟩,
  I.os,I.bare,I.base,I.loc,I.cell,I.free,I.freeC,I.pin,I.hok,I.len⟩
theorem Inv.untrial (I:Inv (X.trial xe) pins σ H s):Inv X pins σ H s :=
 ⟨⟨I.ok.mod,I.ok.kind,I.ok.glob,I.ok.blt,I.ok.above,I.ok.inj,I.ok.has,I.ok.cab,I.ok.hd,I.ok.frames,I.ok.stk,I.ok.exf,I.ok.bs,I.ok.bsz,I.ok.noex,I.ok.exfs,I.ok.funs,I.ok.frf⟩,
  I.os,I.bare,I.base,I.loc,I.cell,I.free,I.freeC,I.pin,I.hok,I.len⟩
def Etry (X:Cx) (E1:XK) (e:Value) (s':Shared):Prop:=∃ x cls od T σ' H',e = .ref x∧Inv X [] σ' H' s'∧XAt s'.heap x cls od T .none∧X.s_0.heap.get? x = none∧H' x = none∧X.s_0.heap.get? T = none∧H' T = none∧E1 cls od H'
theorem passT {P:Program} {w:World} {E1:XK} (hex:X.ex = []):Passes (CXR X.prog X.w) (X.trial (Etry X E1)) E1:=by
 rintro pins σ H1 s1 e s' I ⟨x,cls,od,T,H',rfl,ho,bare,un,hok,xa,nx,nT,hx,hT,hE⟩
 have I0:Inv X pins σ H1 s1:=I.untrial
 have I':Inv X pins σ H' s':=I0.call' (ch:=[]) ho un hok bare fun b z=>absurd z (by simp)
 exact ⟨x,cls,od,T,σ,H',rfl,I'.pins_of (fun p hp=>absurd hp (by simp)),xa,I0.no0 hex nx,hx,I0.no0 hex nT,hT,hE⟩
theorem SP.untrial {D:Ends} {f:Flow} {s':Shared} (h:SP (X.trial xe) pins D f s'):SP X pins D f s':=by
 cases f with
 | next=>obtain ⟨σ',H',I,q⟩:=h; exact ⟨σ',H',I.untrial,q⟩
 | brk=>obtain ⟨σ',H',I,q⟩:=h; exact ⟨σ',H',I.untrial,q⟩
 | cont=>obtain ⟨σ',H',I,q⟩:=h; exact ⟨σ',H',I.untrial,q⟩
 | ret u=>obtain ⟨v,σ',H',I,r,q⟩:=h; exact ⟨v,σ',H',I.untrial,r,q⟩
theorem try_core {body:List Stmt} {h₀:ExceptHandler} {hs:List ExceptHandler} {pos:Pos} {t:TS} {D:Ends} {E1:XK} (I:Inv X [] σ H s) (hb:PSs (X.trial (Etry X E1)) body t) (hq:t { D with nx:=fun _ _=>False } σ H)
  (hh:∀ e s',Etry X E1 e s'→wpAny (model X.prog X.w) X.A (noteFrame e X.env) (fun _ s₂=>wpAny (model X.prog X.w) X.A (setFlight e none) (fun _ s₃=>wpAny (model X.prog X.w) X.A (handleBy e X.env (h₀ :: hs)) (SP X [] D) X.xe s₃) X.xe s₂) X.xe s') :
  wpAny (model X.prog X.w) X.A (exec (.Try body (h₀ :: hs) [] [] pos) X.env) (SP X [] D) X.xe s:=by
 refine wpAny_Try_except (wpAny_mono (hb [] s σ H _ I.trial hq) (fun f s1 h1=>?_) fun e s1 h1=>hh e s1 h1)
 have h1:=SP.untrial h1
 cases f with
 | next=>obtain ⟨σ',H',_,q⟩:=h1; exact False.elim q
 | ret u=>exact h1
 | brk=>exact h1
 | cont=>exact h1
end
section
variable {X:Cx} {σ:St} {H:Hp} {s:Shared} {x C N C2 N2 T:Addr} {od:Option Addr} {x2:Str} {p pos:Pos} {name:Option Str} {body:List Stmt} {rest:List ExceptHandler} {Q:Flow→Shared→Prop} {E:Value→Shared→Prop}
theorem clause (c:XCls X.K C N) (c2:XCls X.K C2 N2) (hg:Gl X x2) (hm:X.mg x2 = some (.ref C2)) (I:Inv X [] σ H s) (xa:XAt s.heap x (.ref C) od T .none) (hnb:(Value.ref x) ≠ byPass)
  (yes:C = C2→codeAny (model X.prog X.w) (X.A.mark (some (.ref x))) (.handlers (.ref x) [.ExceptHandler none name body pos] X.env) (fun r s₂=>match r with
     | .ok f=>(match name with
      | none=>Q f s₂
      | some n=>wpAny (model X.prog X.w) X.A (do bindName X.env n .none; unbindBehindTheSuite X.env n pos) (fun _ s₃=>Q f s₃) E s₂)
     | .error x=>cameBackBy (model X.prog X.w) X.A X.env E x s₂) s)
  (no:C ≠ C2→wpAny (model X.prog X.w) X.A (handleBy (.ref x) X.env rest) Q E s) (hdb:(x2 == ("__debug__":Str)) = false:=by decide) :
  wpAny (model X.prog X.w) X.A (handleBy (.ref x) X.env (.ExceptHandler (some (.Name x2 p)) name body pos :: rest)) Q E s:=by
 have I2:Inv (X.suite x []) [] σ H s:=I.suite fun p hp=>absurd hp (by simp)
 refine wpAny_handleBy_cons (codeAny_handlers_test ?_) hnb
 refine ld_glob I2 hg hm ?_ hdb
 obtain ⟨nm,q0,bs,sn,sub,ab,col,dd,k0,k1,k2,k3,k5,lk⟩:=c.ob
 obtain ⟨nm',q0',bs',sn',sub',ab',col',dd',k0',k1',k2',k3',k5',lk'⟩:=c2.ob
 obtain ⟨ox,hox,hcls,_⟩:=xa.there
 have oC:=I.kIn _ _ lk
 have oC2:=I.kIn _ _ lk'
 obtain ⟨hp,g,d,tk,os⟩:=s
 refine matches_own oC oC2 hox hcls ?_
 by_cases z:C = C2
 ·rw [decide_eq_true z]
  exact yes z
 ·rw [decide_eq_false z]
  exact no z
end
section
variable {X:Cx} {σ:St} {H:Hp} {s:Shared} {h':Heap} {t':Nat}
theorem Inv.gone {m':Str→Option Value} (I:Inv X [] σ H s) (hn':h'.Ns X.env.locals m') (hs:Heap.SameBut X.env.locals s.heap h'):Inv X [] (σ.map fun _=>none) H { s with heap:=h',toks:=t' }:=by
 obtain ⟨m,hn,hl⟩:=id I.loc
 have cne:=I.cne
 have tracked:HOk X.prog X.w H h':=fun b ob e=>by
  refine (I.hok b ob e).stay (fun c w' hc q=>(hs.2 c ?_).trans q) (fun _ q=>q) fun _ _ q=>q
  rintro rfl
  rcases hc with rfl | hc
  ·rw [I.free] at e; cases e
  ·rw [I.free] at hc; cases hc
 refine ⟨I.ok,I.os,I.bare,⟨fun b o e n hb hx=>?_,fun b o e n hb hx=>?_,I.base.free,fun b o e hx=>?_,I.base.tups,I.base.frzs,I.base.tbls⟩,⟨_,hn',fun j y v' e1 e2 e3=>?_⟩,fun y c e=>?_,I.free,I.freeC,fun p hp=>?_,tracked,by simpa using I.len⟩
 ·exact (hs.2 b (Nat.ne_of_lt (Nat.lt_of_lt_of_le (Heap.lt_size e) I.ok.above))).trans (I.base.keep b o e n hb hx)
 ·obtain ⟨sl,e1⟩:=I.base.slot b o e n hb hx
  exact ⟨sl,(hs.2 b (Nat.ne_of_lt (Nat.lt_of_lt_of_le (Heap.lt_size e) I.ok.above))).trans e1⟩
 ·obtain ⟨o',e1⟩:=I.base.there b o e hx
  exact ⟨o',(hs.2 b (Nat.ne_of_lt (Nat.lt_of_lt_of_le (Heap.lt_size e) I.ok.above))).trans e1⟩
 ·rw [List.getElem?_map] at e2
  cases z:σ[j]? with
  | none=>rw [z] at e2; cases e2
  | some q=>rw [z] at e2; cases e2
 ·obtain ⟨w',z⟩:=I.cell y c e
  exact ⟨w',z.sameBut hs (cne y c e)⟩
 ·obtain ⟨e,n,ne,nf,d⟩:=I.pin p hp
  exact ⟨(hs.2 p.1 ne).trans e,n,ne,nf,d⟩
theorem SP.unsuite {x:Addr} {pn:List (Addr × Obj)} {D:Ends} {f:Flow} {s':Shared} (ok:X.Ok) (hpn:X.pn = []) (h:SP (X.suite x pn) [] D f s'):SP X [] D f s':=by
 cases f with
 | next=>obtain ⟨σ',H',I,q⟩:=h; exact ⟨σ',H',I.unsuite ok hpn,q⟩
 | brk=>obtain ⟨σ',H',I,q⟩:=h; exact ⟨σ',H',I.unsuite ok hpn,q⟩
 | cont=>obtain ⟨σ',H',I,q⟩:=h; exact ⟨σ',H',I.unsuite ok hpn,q⟩
 | ret u=>obtain ⟨v,σ',H',I,r,q⟩:=h; exact ⟨v,σ',H',I.unsuite ok hpn,r,q⟩
variable {x T:Addr} {cls:Value} {od:Option Addr} {b₀:Stmt} {body:List Stmt} {pos:Pos} {t:TS} {D:Ends} {E:Value→Shared→Prop}
theorem suite_plain (I:Inv X [] σ H s) (hpn:X.pn = []) (hex:X.ex = []) (xa:XAt s.heap x cls od T .none) (n0:X.s_0.heap.get? T = none) (nT:H T = none) (hb:PSs (X.suite x []) (b₀ :: body) t) (hq:t D σ H) :
  codeAny (model X.prog X.w) (X.A.mark (some (.ref x))) (.handlers (.ref x) [.ExceptHandler none none (b₀ :: body) pos] X.env) (fun r s₂=>match r with
     | .ok f=>(match (none:Option Str) with
      | none=>SP X [] D f s₂
      | some n=>wpAny (model X.prog X.w) X.A (do bindName X.env n .none; unbindBehindTheSuite X.env n pos) (fun _ s₃=>SP X [] D f s₃) E s₂)
     | .error x=>cameBackBy (model X.prog X.w) X.A X.env E x s₂) s:=by
 refine codeAny_handlers_suite (flight_core I hpn hex xa n0 nT fun h' I' xa'=>?_)
 exact thnF (hb [] _ σ H D (I'.suite fun p hp=>absurd hp (by simp)) hq) fun f s2 h2=>SP.unsuite I.ok hpn h2
theorem suite_as {n:Str} {i:Nat} (I:Inv X [] σ H s) (hpn:X.pn = []) (hex:X.ex = []) (xa:XAt s.heap x cls od T .none) (n0:X.s_0.heap.get? T = none) (nT:H T = none) (hxL:x ≠ X.env.locals) (hx:H x = none) (hxf:x ∉ X.fs) (hN:X.N.Nodup) (hi:X.N[i]? = some n) (hl:X.env.scope.names.lookup n = some .local)
  (hb:∀ ox,ox.cls = cls→ox.dict = od→(∃ vs,ox.data = .fields vs)→PSs (X.suite x [(x,ox)]) (b₀ :: body) t) (hq:t { nx:=fun _ _=>False,bk:=fun _ _=>False,ct:=fun _ _=>False,rt:=D.rt } (σ.set i (some (.ref x))) H) :
  codeAny (model X.prog X.w) (X.A.mark (some (.ref x))) (.handlers (.ref x) [.ExceptHandler none (some n) (b₀ :: body) pos] X.env) (fun r s₂=>match r with
     | .ok f=>(match some n with
      | none=>SP X [] D f s₂
      | some n=>wpAny (model X.prog X.w) X.A (do bindName X.env n .none; unbindBehindTheSuite X.env n pos) (fun _ s₃=>SP X [] D f s₃) E s₂)
     | .error x=>cameBackBy (model X.prog X.w) X.A X.env E x s₂) s:=by
 refine codeAny_handlers_suite_as (flight_core I hpn hex xa n0 nT fun h' I' xa'=>?_)
 refine store_ok2 (v:=.ref x) I' hN hi (.inl hl) rfl (fun s2 I2 ⟨a,sb,ha⟩=>?_) (.inr hl)
 obtain ⟨ox,vs,a0,oT,ts,e1,c1,d1,f1,rest⟩:=xa'
 have nxa:x ≠ a:=by
  rcases ha with z | z
  ·rw [z]; exact hxL
  ·obtain ⟨v,o,e,dd⟩:=I'.cell n a z
   intro w
   rw [← w,e1] at e
   cases e
   rw [f1] at dd
   cases dd
 have e2:s2.heap.get? x = some ox:=(sb.2 x nxa).trans e1
 have I3:Inv (X.suite x [(x,ox)]) [] (σ.set i (some (.ref x))) H s2:=I2.suite fun p hp=>by
  have:p = (x,ox):=by simpa using hp
  subst this
  exact ⟨e2,hx,hxL,hxf,fun v z=>by rw [f1] at z; cases z⟩
 refine thnF (hb ox c1 d1 ⟨vs,f1⟩ [] s2 _ H _ I3 hq) fun f s3 h3=>?_
 cases f with
 | next=>obtain ⟨_,_,_,q⟩:=h3; exact False.elim q
 | brk=>obtain ⟨_,_,_,q⟩:=h3; exact False.elim q
 | cont=>obtain ⟨_,_,_,q⟩:=h3; exact False.elim q
 | ret u =>
  obtain ⟨v,σ',H',I4,r,q⟩:=h3
  have I5:=I4.unsuite I.ok hpn
  obtain ⟨m,hn,_⟩:=id I5.loc
  refine wpAny_nameGoes (show X.env.kindOf n = some .local from hl) hn (by rw [I.ok.kind]; rfl) fun h2 m2 hn2 hs2=>?_
  exact ⟨v,_,H',I5.gone (t':=s3.toks + 1) hn2 hs2,r,q⟩
end
def tXa (x d:Addr) (i:Nat) (f:Str):TE:=fun σ H Q=>∃ fs z,σ[i]? = some (some (.ref x))∧H d = some (XD d fs)∧fs.lookup f = some (.int z)∧Q (.int z) H
theorem pe_xattr {X:Cx} {x d C N:Addr} {ox:Obj} {vs:Array Value} {n f:Str} {i:Nat} {p pos:Pos} (c:XCls X.K C N) (g1:NoX X.K N "__getattribute__") (g2:NoX X.K N "__getattr__") (na:NoX X.K N f) (lB:typeLookup (.type "Exception") f = pure none)
  (hpn:(x,ox) ∈ X.pn) (cX:ox.cls = .ref C) (dX:ox.data = .fields vs) (iX:ox.dict = some d) (he:PE X (.Name n p) (tVar i)) (hb:attributeBase (.Name n p) f X.env (eval (.Name n p) X.env) = eval (.Name n p) X.env) :
  PE X (.Attribute (.Name n p) f pos) (tXa x d i f):=by
 intro pins s σ H Q I h
 obtain ⟨fs,z,hσ,hd,hl,q⟩:=h
 refine attr_of hb (thn (he pins s σ H (fun v H1=>v = .ref x∧H1 = H) I ⟨_,hσ,rfl,rfl⟩) fun u s1 ⟨y,H1,I1,ry,ey,eH⟩=>?_)
 subst ey eH
 obtain rfl:u = Value.ref x:=ry
 obtain ⟨nm,q0,bs,sn,sub,ab,col,dd,k0,k1,k2,k3,k5,lk⟩:=c.ob
 have oX:s1.heap.get? x = some ox:=(I1.pin (x,ox) (List.mem_append_left _ hpn)).1
 obtain ⟨⟨mA,nX,rel,_⟩,_⟩:=(show ObjOk X.prog X.w H1 s1.heap d (XD d fs) from I1.hok d _ hd)
 have rz:=rel f
 rw [hl] at rz
 obtain ⟨u',hu',ru'⟩:=RelO.some_of (v:=.int z) rz
 obtain ⟨t,rfl⟩:=(show ∃ t,u' = Value.int z t from ru')
 have oC:=I1.kIn _ _ lk
 have oN:=c.map I1.kIn
 have e1:=c.no I1.kIn g1
 have e2:=c.no I1.kIn g2
 have e3:=c.no I1.kIn na
 have I2:=I1.tok (s1.toks + 1)
 obtain ⟨hp,g,dr,tk,os⟩:=s1
 exact load_x PySem.F.attrBase_Exception oC oN e1 e2 e3 lB oX cX (fun c z=>by rw [dX] at z; cases z) iX nX hu' rfl ⟨.int z,H1,I2,⟨t,rfl⟩,q⟩
theorem fn_of0 {CX:CXT} {P:Program} {w:World} {K:PySem.W.Frag} {mg:Str→Option Value} {base:Heap} {k:Nat} {f:Addr} {name qual:Str} {params:Arguments} {body:List Stmt} {scope:Scope} {dV kV doc pm cdv ct oc:Value} {an od:Option Addr}
  {osl:Array (Option Value)} {N ps:List Str} {sp:Sp} (lk:K.lookup f = some ⟨oc,od,.func (PySem.W.fnOf name qual params body scope dV kV doc pm an cdv ct),osl⟩) (hcd:PySem.W.codeIn K cdv qual = true) (S:FnScope N ps scope)
  (len:∀ vs H Q E,sp vs H Q E→vs.length = ps.length)
  (hbody:∀ (A:Around) (outer:List Env) (s:Shared) (H:Hp) (vs:List V) (Q:VK) (E:XK),Room k (A.deeper (envOfC qual scope s.heap.objs.size f cdv))→sp vs H Q E→∀ s1,Inv (cxOf CX P w K mg base N qual scope f cdv A outer s H E) [] (start N vs) H s1 →
   wpAny (model P w) (cxOf CX P w K mg base N qual scope f cdv A outer s H E).A (execs body (cxOf CX P w K mg base N qual scope f cdv A outer s H E).env) (SP (cxOf CX P w K mg base N qual scope f cdv A outer s H E) [] { nx:=fun _ H'=>Q .non H',rt:=Q }) (cxOf CX P w K mg base N qual scope f cdv A outer s H E).xe s1) :
  FnOk P w K mg base CX (k + 1) f (PySem.W.fnOf name qual params body scope dV kV doc pm an cdv ct) ps sp:=by
 refine ⟨len,fun A outer s H args us vs Q E hr e0 hb r hsp=>?_⟩
 have hl:=len _ _ _ _ hsp
 have KX:K.In s.heap:=e0.mod.kin.keeps fun b o e=>(e0.bs b o e).1
 have lim:s.heap.NoLimit:=e0.mod.nolimit.keeps fun b o e=>(e0.bs b o e).1
 have hkind:∀ y ∈ ps.zip us,scope.names.lookup y.1 = some .local ∨ (scope.names.lookup y.1 = some .cell∧((cellsFrom (s.heap.objs.size + 1) scope.names []).lookup y.1).isSome = true):=fun ⟨n,v⟩ hy=>by
  rcases S.par n (List.of_mem_zip hy).1 with q | q
  ·exact .inl q
  ·exact .inr ⟨q,PySem.W.cellsFrom_some _ _ _ (.inl q)⟩
 refine codeAny_call_function hr.depth (KX _ _ lk) rfl S.co S.gen rfl (PySem.W.codeRec_of KX hcd) (hb _ _ _ _ ?_)
 refine wpAny_newFunctionEnv_cells S.kind hkind fun env he s1 x=>?_
 subst he
 refine ⟨lim.keeps x.toInCall.keep,codeAny_func ?_⟩
 have I:Inv (cxOf CX P w K mg base N qual scope f cdv A outer s H E) [] (start N vs) H s1:=inv_start S hr.hd e0 hl r x
 refine wpAny_mono (hbody A outer s H vs Q E (hr.deeper _) hsp s1 I) (fun fl s' hs=>?_) fun e s' hs=>hs
 have fin:∀ {σ':St} {H':Hp} {v:V} {u:Value},Inv (cxOf CX P w K mg base N qual scope f cdv A outer s H E) [] σ' H' s'→RelV v u→Q v H'→CE outer P w H s Q u s' :=
  fun {σ' H' v u} J rv q=>⟨v,H',J.os,J.bare,J.base,J.hok,rv,q⟩
 cases fl with
 | ret u =>
  obtain ⟨v,σ',H',J,rv,q⟩:=hs
  exact fin J rv q
 | next =>
  obtain ⟨σ',H',J,q⟩:=hs
  exact fin (v:=V.non) (u:=Value.none) J rfl q
 | brk =>
  obtain ⟨_,_,_,q⟩:=hs
  exact False.elim q
 | cont =>
  obtain ⟨_,_,_,q⟩:=hs
  exact False.elim q
end L2
namespace Cf
open PySem PySem.Spec PyProof.Rows L2
open CfFile (Pool big File Member Attr)
open ClassHall (Answer answer tells says NO Call step)
open ClassNeutral (rowOf)
abbrev sAnsCall:Stmt:=top 143
structure Dis (A:Adr):Prop where
 d1:A.cTM ≠ A.cRB
 d2:A.cNF ≠ A.cRB
 d3:A.cNF ≠ A.cTM
 d4:A.cNT ≠ A.cRB
 d5:A.cNT ≠ A.cTM
 d6:A.cNT ≠ A.cNF
inductive spAC (A:Adr) (vs:List V) (H:Hp) (Q:VK) (E:XK):Prop
 | mk (S:Hp) (kd ln lr:Addr) (cn:Nat) (st:Option File) (ns:List Nat) (rs:List (List UInt8)) (rl:List V) (c:Call) (_:vs = [.ref kd,.int (cn:Int),.ref ln,.ref lr]) (_:Same S H) (_:S kd = none) (_:DeskAt A S H kd st) (_:H ln = some (.lst (iv ns))) (_:H lr = some (.lst rl)) (_:Paired (fun (r:List UInt8) (v:V)=>∃ a,v = .ref a∧S a = some (.lst (bv r))) rs rl) (_:CallIs cn ns rs c) (_:(∀ H' S1 p,But [kd] H H'→Grow S H S1 H'→DeskAt A S1 H' kd (step st c).1→H p = none→H' p = some (.lst (zv (rowOf (step st c).2)))→Q (.ref p) H'))
section
variable {P:Program} {w:World} {K:PySem.W.Frag} {mg:Str→Option Value} {base:Heap} {A:Adr}
theorem scAnsCall:FnScope ["desk","call","numbers","rows","broken"] ["desk","call","numbers","rows"] (defScope sAnsCall):=scB
theorem neg_list {X:Cx} {n:Int} {σ:L2.St} {H:Hp} {D:Ends} (q:∀ p,H p = none→D.rt (.ref p) (upd H p (.lst [.int (-n)]))):tRet (tLst (tCons (tUn (rU fun i=>.int (-i)) (tC (.int n))) tNil)) D σ H :=
 ⟨_,rfl,Nat.le_of_lt (szl (by decide:1 ≤ 70000)),fun p hp=>q p hp⟩
theorem d_ansCall (T:Txt K mg A) (ds:Dis A) (src:Src K "answer_call" sAnsCall) (Dc:Def P w K mg base 13 "carry_out" ["desk","call","numbers","rows"] (spCarry A)) :
  Def P w K mg base 14 "answer_call" ["desk","call","numbers","rows"] (spAC A):=by
 obtain ⟨f,fd,F,hns⟩:=src
 obtain ⟨hk,k1,k2⟩:=T.kx
 refine ⟨f,fd,PySem.W.mg_of k1 k2 hns,F.kp,?_,F.binds fun _ _ _ _ _ _=>hb4 fun _ _ _ _=>rfl⟩
 obtain ⟨oc,od,kV,doc,pm,an,cdv,ct,osl,rfl,lk,hcd⟩:=F.ex
 refine fn_of0 lk hcd scAnsCall (fun vs H Q E h=>?_) (fun A' outer s H vs Q E hr h s1 I=>?_)
 ·obtain ⟨S,kd,ln,lr,cn,st,ns,rs,rl,c,rfl,_⟩:=h
  rfl
 obtain ⟨S,kd,ln,lr,cn,st,ns,rs,rl,c,rfl,le,nkd,desk,hln,hlr,pr,hc,k⟩:=h
 generalize hX:cxOf (CXR P w) P w K mg base ["desk","call","numbers","rows","broken"] "answer_call" (defScope sAnsCall) f cdv A' outer s H E = X at I
 have fin:∀ H' p,Same H H'→(step st c).1 = st→H p = none→H' p = some (.lst (zv (rowOf (step st c).2)))→Q (.ref p) H':=fun H' p sm es hp ep =>
  k H' S p (Same.but sm) (Grow.stay (le.trans sm)) (by rw [es]; obtain ⟨dx,v,h1,h2⟩:=desk; exact ⟨dx,v,sm _ _ h1,h2⟩) hp ep
 subst hX
 refine wpAny_execs_cons (thn (try_core (E1:=fun cls od H'=>Same H H'∧(step st c).1 = st∧XO A H' cls od (rowOf (step st c).2)) (D:={ nx:=fun _ H'=>Q .non H',rt:=Q }) I
  (pss_one (ps_ret (pe_d Dc hr rfl (passT (P:=P) (w:=w) rfl) (pa_cons (pv 0) (pa_cons (pv 1) (pa_cons (pv 2) (pa_cons (pv 3) pa_nil))))))) ?_ ?_) fun f s2 q=>?_)
 ·exact ⟨_,rfl,_,rfl,_,rfl,_,rfl,S,kd,ln,lr,cn,st,ns,rs,rl,c,rfl,le,nkd,desk,hln,hlr,pr,hc,k,fun H' cls od sm es xo=>⟨sm,es,xo⟩⟩
 ·rintro e s2 ⟨x,cls,od,T0,σ2,H2,rfl,I2,xa,nx0,hx,nT0,hT,sm,es,xo⟩
  refine catch_core I2 rfl rfl rfl rfl nx0 hx xa nT0 hT fun h3 T3 I3 xa3 n1 n2=>?_
  have hnb:(Value.ref x) ≠ byPass:=fun z=>by cases z
  have hnew:∀ {p:Addr} {o:HO},H2 p = none→Same H (upd H2 p o):=fun hp=>sm.trans (same_new hp)
  rcases xo with ⟨rfl,d,r,p,rfl,hd,er⟩ | ⟨rfl,rfl,er⟩ | ⟨rfl,rfl,er⟩ | ⟨rfl,rfl,er⟩
  ·refine clause T.xRB T.xRB rfl T.gRB I3 xa3 hnb (fun _=>?_) (fun z=>absurd rfl z)
   obtain ⟨ox,vs,a0,oT,ts,q1,q2,q3,q4,_⟩:=id xa3
   have hxL:x ≠ (cxOf (CXR P w) P w K mg base ["desk","call","numbers","rows","broken"] "answer_call" (defScope sAnsCall) f cdv A' outer s H E).env.locals:=fun z=>by
    obtain ⟨m,⟨o,es',ep',g1,g2,g3⟩,_⟩:=I3.loc
    rw [← z] at g1
    have g1:h3.get? x = some o:=g1
    rw [q1] at g1
    cases g1
    rw [q4] at g2
    cases g2
   have hxf:x ∉ (cxOf (CXR P w) P w K mg base ["desk","call","numbers","rows","broken"] "answer_call" (defScope sAnsCall) f cdv A' outer s H E).fs:=fun z=>by
    obtain ⟨_,o2,g2,hnf⟩:=I3.funs.mem z
    have g2:h3.get? x = some o2:=g2
    rw [q1] at g2
    cases g2
    exact hnf vs q4
   have h4:(σ2.set 4 (some (V.ref x)))[4]? = some (some (V.ref x)):=by
    refine List.getElem?_set_self ?_
    have:σ2.length = 5:=I3.len
    omega
   refine suite_as (n:="broken") (i:=4) I3 rfl rfl xa3 n1 n2 hxL hx hxf scAnsCall.nd rfl rfl (t:=tRet (tLst (tCons (tXa x d 4 "rule") (tCons (tXa x d 4 "place") tNil)))) (fun ox cX dX ⟨vs,fX⟩=>?_) ?_
   ·exact pss_one (ps_ret (pe_lst (pa_cons (pe_xattr T.xRB T.rbG T.rbA T.rbR lk_rule (List.mem_singleton.mpr rfl) cX fX dX (pv 4) rfl) (pa_cons (pe_xattr T.xRB T.rbG T.rbA T.rbP lk_place (List.mem_singleton.mpr rfl) cX fX dX (pv 4) rfl) pa_nil))))
   ·refine ⟨rb r p,r,h4,hd,rfl,rb r p,p,h4,hd,rfl,Nat.le_of_lt (szl (by decide:2 ≤ 70000)),fun y hy=>fin _ y (hnew hy) es (dom_none (Same.dom sm) hy) (by rw [upd_same,er]; rfl)⟩
  ·refine clause T.xTM T.xRB rfl T.gRB I3 xa3 hnb (fun z=>absurd z ds.d1) (fun _=>?_)
   refine clause T.xTM T.xTM rfl T.gTM I3 xa3 hnb (fun _=>?_) (fun z=>absurd rfl z)
   exact suite_plain I3 rfl rfl xa3 n1 n2 (pss_one (ps_ret (pe_lst (pa_cons (pe_un un_neg pe_int) pa_nil)))) (neg_list (X:=cxOf (CXR P w) P w K mg base ["desk","call","numbers","rows","broken"] "answer_call" (defScope sAnsCall) f cdv A' outer s H E) fun p hp=>fin _ p (hnew hp) es (dom_none (Same.dom sm) hp) (by rw [upd_same,er]; rfl))
  ·refine clause T.xNF T.xRB rfl T.gRB I3 xa3 hnb (fun z=>absurd z ds.d2) (fun _=>?_)
   refine clause T.xNF T.xTM rfl T.gTM I3 xa3 hnb (fun z=>absurd z ds.d3) (fun _=>?_)
   refine clause T.xNF T.xNF rfl T.gNF I3 xa3 hnb (fun _=>?_) (fun z=>absurd rfl z)
   exact suite_plain I3 rfl rfl xa3 n1 n2 (pss_one (ps_ret (pe_lst (pa_cons (pe_un un_neg pe_int) pa_nil)))) (neg_list (X:=cxOf (CXR P w) P w K mg base ["desk","call","numbers","rows","broken"] "answer_call" (defScope sAnsCall) f cdv A' outer s H E) fun p hp=>fin _ p (hnew hp) es (dom_none (Same.dom sm) hp) (by rw [upd_same,er]; rfl))
  ·refine clause T.xNT T.xRB rfl T.gRB I3 xa3 hnb (fun z=>absurd z ds.d4) (fun _=>?_)
   refine clause T.xNT T.xTM rfl T.gTM I3 xa3 hnb (fun z=>absurd z ds.d5) (fun _=>?_)
   refine clause T.xNT T.xNF rfl T.gNF I3 xa3 hnb (fun z=>absurd z ds.d6) (fun _=>?_)
   refine clause T.xNT T.xNT rfl T.gNT I3 xa3 hnb (fun _=>?_) (fun z=>absurd rfl z)
   exact suite_plain I3 rfl rfl xa3 n1 n2 (pss_one (ps_ret (pe_lst (pa_cons (pe_un un_neg pe_int) pa_nil)))) (neg_list (X:=cxOf (CXR P w) P w K mg base ["desk","call","numbers","rows","broken"] "answer_call" (defScope sAnsCall) f cdv A' outer s H E) fun p hp=>fin _ p (hnew hp) es (dom_none (Same.dom sm) hp) (by rw [upd_same,er]; rfl))
 ·cases f with
  | next=>exact wpAny_execs_nil q
  | ret v=>exact q
  | brk=>exact q
  | cont=>exact q
end
end Cf
namespace Cf
open PySem PySem.Spec PyProof.Rows L2
open CfFile (Pool big File Member Attr)
open ClassHall (Answer answer tells says NO Call step usersOf)
open ClassNeutral (rowOf)
abbrev sAnswers:Stmt:=top 142
theorem calls_step {fuel:Nat} {q:List Int} {cs:List (List (List Int))} (h:PyFlat.calls PyWqawam.shape fuel q = some cs) (hq:q ≠ []):∃ p r n k xs t cs' f,q = p :: r∧PyWqawam.shape p = some (n,k)∧n ≤ r.length∧PyFlat.rows k (r.drop n) = some (xs,t)∧cs = ((p :: r.take n) :: xs) :: cs'∧PyFlat.calls PyWqawam.shape f t = some cs':=by
 cases q with
 | nil=>exact absurd rfl hq
 | cons p r =>
  cases fuel with
  | zero=>unfold PyFlat.calls at h; cases h
  | succ f =>
   unfold PyFlat.calls at h
   unfold PyFlat.call at h
   try dsimp only at h
   cases hs:PyWqawam.shape p with
   | none=>rw [hs] at h; cases h
   | some nk =>
    obtain ⟨n,k⟩:=nk
    rw [hs] at h
    try dsimp only at h
    by_cases hn:r.length < n
    ·rw [if_pos hn] at h; cases h
    ·rw [if_neg hn] at h
     cases hr:PyFlat.rows k (r.drop n) with
     | none=>rw [hr] at h; cases h
     | some xt =>
      obtain ⟨xs,t⟩:=xt
      rw [hr] at h
      try dsimp only at h
      cases hc:PyFlat.calls PyWqawam.shape f t with
      | none=>rw [hc] at h; cases h
      | some cs' =>
       rw [hc] at h
       cases h
       exact ⟨p,r,n,k,xs,t,cs',f,rfl,hs,by omega,hr,rfl,hc⟩
theorem rows_in {S H0 H:Hp} {lr:Addr} {xs:List (List Int)} (h:RowsAt H0 H lr xs) (le:Same S H):∃ S',Same S S'∧Same S' H∧(∀ a,(H0 a).isSome = true→S a = none→S' a = none)∧∃ rl,H lr = some (.lst rl)∧Paired (fun (r:List Int) (v:V)=>∃ a,v = .ref a∧S' a = some (.lst (zv r))) xs rl:=by
 obtain ⟨rl,hl,pr⟩:=h
 refine ⟨fun a=>if (H0 a).isSome = true then S a else H a,fun a o e=>?_,fun a o e=>?_,fun a h n=>?_,rl,hl,Paired.mapP pr fun r v ⟨a,ea,na,e⟩=>⟨a,ea,?_⟩⟩
 ·show (if (H0 a).isSome = true then S a else H a) = some o
  split
  ·exact e
  ·exact le _ _ e
 ·have e:(if (H0 a).isSome = true then S a else H a) = some o:=e
  split at e
  ·exact le _ _ e
  ·exact e
 ·show (if (H0 a).isSome = true then S a else H a) = none
  rw [if_pos h]
  exact n
 ·show (if (H0 a).isSome = true then S a else H a) = _
  rw [na.1]
  exact e
theorem tl_len (n:Nat) (l:List Nat):(rowOf (tells n l)).length = l.length + 1:=by unfold rowOf ClassHall.tells; simp
theorem sy_len (n:Nat):(rowOf (says n)).length = 1:=tl_len n []
theorem gi_len (o:Option Nat):(rowOf (ClassHall.given o)).length = 1:=by
 cases o with
 | none=>rfl
 | some n=>exact sy_len n
theorem row_le {A:Adr} {S:Hp} {st:Option File} {v:V} (h:HeldV A S st v) (c:Call):(rowOf (step st c).2).length ≤ 70000:=by
 have rd:∀ b:List UInt8,(rowOf (match CfFile.read b with | .ok _=>says 0 | .error e=>tells e.1 [e.2])).length ≤ 70000:=fun b=>by
  cases CfFile.read b with
  | ok x=>dsimp only; rw [sy_len]; omega
  | error e=>dsimp only; rw [tl_len]; simp
 have small:∀ (n:Nat) (l:List Nat),l.length ≤ 10→(rowOf (tells n l)).length ≤ 70000:=fun n l hl=>by rw [tl_len]; omega
 have no1:(rowOf NO).length ≤ 70000:=by decide
 cases c with
 | read b =>
  unfold ClassHall.step
  dsimp only
  split
  ·exact (by decide:(rowOf ClassHall.LONG).length ≤ 70000)
  ·cases e:CfFile.read b with
   | ok x=>dsimp only; rw [sy_len]; omega
   | error e=>dsimp only; rw [tl_len]; simp
 | judge b =>
  unfold ClassHall.step
  dsimp only
  split
  ·decide
  ·cases e:CfFile.read b with
   | ok x=>dsimp only; rw [sy_len]; omega
   | error e=>dsimp only; rw [tl_len]; simp
 | uses i =>
  cases st with
  | none=>exact (by decide:(rowOf ⟨-3,[],[]⟩).length ≤ 70000)
  | some x =>
   obtain ⟨kf,_,fi,fa⟩:=h
   show (rowOf (answer x (.uses i))).length ≤ 70000
   unfold answer
   dsimp only
   split
   ·exact no1
   ·rw [tl_len]
    have h1:(usersOf x i).length ≤ 65536:=by
     unfold ClassHall.usersOf
     refine Nat.le_trans (List.length_filter_le _ _) ?_
     rw [List.length_range]
     exact fa.cnt
    omega
 | _ =>
  cases st with
  | none=>exact (by decide:(rowOf ⟨-3,[],[]⟩).length ≤ 70000)
  | some x =>
   obtain ⟨kf,_,fi,fa⟩:=h
   obtain ⟨dk,q,li,lf,lm,la,h1,⟨a,po⟩,h3,h4,h5,h6⟩:=fi.ob
   show (rowOf (answer x _)).length ≤ 70000
   unfold answer
   dsimp only
   first
    | exact small _ _ (by simp)
    | (rw [gi_len]; omega)
    | (split <;> first | exact small _ _ (by simp) | exact no1)
    | (split
       ·rw [sy_len]; omega
       ·split
        ·rw [sy_len]; omega
        ·split
         ·rw [sy_len]; omega
         ·exact no1)
    | (split
       ·rename_i s e
        rw [(tell_shown po.ok fa.held _).1] at e
        have h1:=tell_le po.ok e
        have h2:=fa.small
        unfold rowOf
        simp
        omega
       ·exact no1)
theorem zv_iN (ns:List Nat):zv (iN ns) = iv ns:=by unfold zv iN iv; rw [List.map_map]; rfl
theorem zv_iB (b:List UInt8):zv (iB b) = bv b:=by unfold zv iB bv; rw [List.map_map]; rfl
theorem zv_app (a b:List Int):zv (a ++ b) = zv a ++ zv b:=by unfold zv; rw [List.map_append]
theorem rows_bv {S:Hp}:∀ {rs:List (List UInt8)} {rl:List V},Paired (fun (r:List Int) (v:V)=>∃ a,v = .ref a∧S a = some (.lst (zv r))) (rs.map iB) rl→Paired (fun (r:List UInt8) (v:V)=>∃ a,v = .ref a∧S a = some (.lst (bv r))) rs rl
 | [],_,h=>by rw [List.map_nil] at h; cases h; exact .nil
 | r :: rs,_,h=>by
  rw [List.map_cons] at h
  cases h with
  | cons h1 t=>exact .cons (let ⟨a,e,x⟩:=h1; ⟨a,e,by rw [← zv_iB]; exact x⟩) (rows_bv t)
inductive spTop (A:Adr) (K:PySem.W.Frag) (vs:List V) (H:Hp) (Q:VK) (E:XK):Prop
 | mk (lc:Addr) (l:List Int) (_:vs = [.ref lc]) (_:SqL K H lc (zv l)) (_:PyWqawam.answers_asked l = true) (_:∀ H' p,Same H H'→H' p = some (.lst (zv (PyWqawam.answers l)))→Q (.ref p) H')
section
variable {P:Program} {w:World} {K:PySem.W.Frag} {mg:Str→Option Value} {base:Heap} {A:Adr}
theorem scAnswers:FnScope ["calls","desk","left","given","call","numbers","rows","answer"] ["calls"] (defScope sAnswers):=scB
structure Dsk (P:Program) (w:World) (K:PySem.W.Frag) (mg:Str→Option Value) (base:Heap) (A:Adr):Prop where
 iDes:MDef P w K mg base 1 A.cDes "__init__" ["self"] (spDesI A)
 iLis:MDef P w K mg base 1 A.cLis "__init__" ["self","calls"] (spLisI A)
 thr:MDef P w K mg base 1 A.cLis "is_through" ["self"] (spThrough A K)
 tkn:MDef P w K mg base 1 A.cLis "take_number" ["self"] (spTakeN A K)
 tks:MDef P w K mg base 1 A.cLis "take_numbers" ["self","size"] (spTakeNs A K)
 tkr:MDef P w K mg base 2 A.cLis "take_rows" ["self","size"] (spTakeRs A K)
 acl:Def P w K mg base 14 "answer_call" ["desk","call","numbers","rows"] (spAC A)
inductive AnsW (A:Adr) (H:Hp) (l:List Int) (lc kd kl gl:Addr) (m:Nat) (σ:L2.St) (H':Hp):Prop
 | mk (S:Hp) (at_ fuel dn:Nat) (st:Option File) (gv:List Int) (cs:List (List (List Int))) (v4 v5 v6 v7:Option V) (_:σ = [some (.ref lc),some (.ref kd),some (.ref kl),some (.ref gl),v4,v5,v6,v7]) (_:m = cs.length) (_:Same H H') (_:Same S H') (_:S kd = none) (_:S kl = none) (_:S gl = none) (_:DeskAt A S H' kd st) (_:LisAt A H' kl lc at_) (_:H' gl = some (.lst (zv gv))) (_:PyFlat.calls PyWqawam.shape fuel (l.drop at_) = some cs) (_:(∀ c ∈ cs,ClassNeutral.asked1 (PyWqawam.whole c) = true)) (_:dn + cs.length ≤ 40) (_:gv.length ≤ dn * 70001) (_:gv ++ PyFlat.told (PyFlat.played ClassNeutral.step st (cs.map PyWqawam.whole)) = PyWqawam.answers l)
theorem d_answers (T:Txt K mg A) (src:Src K "answers" sAnswers) (C:Dsk P w K mg base A):Def P w K mg base 15 "answers" ["calls"] (spTop A K):=by
 refine defR src T.kx scAnswers (fun vs H Q E h=>?_) (fun f cdv A' outer s H vs Q E hr h=>?_)
 ·obtain ⟨lc,l,rfl,_⟩:=h
  rfl
 obtain ⟨lc,l,rfl,hlc,hask,k⟩:=h
 obtain ⟨kvs,kd0,prd⟩:=T.dFO
 refine ⟨_,pss_cons (ps_set (i:=1) scAnswers.nd rfl (Or.inl rfl) (pe_mk0 C.iDes T.mDes.mak T.mDes.kp (rm hr) rfl T.mDes.g passR))
  (pss_cons (ps_set (i:=2) scAnswers.nd rfl (Or.inl rfl) (pe_mk C.iLis T.mLis.mak T.mLis.kp (rm hr) rfl T.mLis.g passR (pa_cons (pv 0) pa_nil)))
  (pss_cons (ps_set (i:=3) scAnswers.nd rfl (Or.inl rfl) (pe_lst pa_nil))
  (pss_cons (ps_while ownR (pt_not (pt_val (pe_md0 C.thr (pv 2) T.lis.cl (rm hr) passR)))
   (pss_cons (ps_set (i:=4) scAnswers.nd rfl (Or.inl rfl) (pe_md0 C.tkn (pv 2) T.lis.cl (rm hr) passR))
   (pss_cons (ps_set (i:=5) scAnswers.nd rfl (Or.inl rfl) (pe_md C.tks (pv 2) T.lis.cl (rm hr) passR (pa_cons (pe_ix ix_tup (pe_kget kd0 rfl T.gFO (pv 4) (fun _ _=>rfl)) pe_int (fun _ _=>rfl)) pa_nil)))
   (pss_cons (ps_set (i:=6) scAnswers.nd rfl (Or.inl rfl) (pe_md C.tkr (pv 2) T.lis.cl (rm hr) passR (pa_cons (pe_ix ix_tup (pe_kget kd0 rfl T.gFO (pv 4) (fun _ _=>rfl)) pe_int (fun _ _=>rfl)) pa_nil)))
   (pss_cons (ps_set (i:=7) scAnswers.nd rfl (Or.inl rfl) (pe_d C.acl hr rfl passR (pa_cons (pv 1) (pa_cons (pv 4) (pa_cons (pv 5) (pa_cons (pv 6) pa_nil))))))
   (pss_cons (ps_expr (pe_bm PySem.F.plainAttrs_list PySem.F.slot_list_append PySem.F.type_list_append mt_append (pv 3) (pa_cons (pe_callB call_len_seq (by rfl) T.nLen PySem.boot_len (pa_cons (pv 7) pa_nil)) pa_nil)))
   (pss_one (ps_expr (pe_bm PySem.F.plainAttrs_list PySem.F.slot_list_extend PySem.F.type_list_extend mt_extend (pv 3) (pa_cons (pv 7) pa_nil))))))))))
  (pss_one (ps_ret (pv 3)))))),?_⟩
 intro kd dd hkd hdd nkd
 refine ⟨kd,dd,rfl,upd_same,rfl,?_⟩
 have s1:Same H (upd (upd (upd H dd (.own kd)) kd (.ins A.cDes dd [])) kd (.ins A.cDes dd (kDes.zip [.non]))):=fun b o e=>by
  rw [upd_ne (ne_of_none e hkd),upd_ne (ne_of_none e hkd),upd_ne (ne_of_none e hdd)]; exact e
 have e1:(upd (upd (upd H dd (.own kd)) kd (.ins A.cDes dd [])) kd (.ins A.cDes dd (kDes.zip [.non]))) kd = some (.ins A.cDes dd (kDes.zip [.non])):=upd_same
 generalize upd (upd (upd H dd (.own kd)) kd (.ins A.cDes dd [])) kd (.ins A.cDes dd (kDes.zip [.non])) = H1 at s1 e1 ⊢
 refine ⟨_,rfl,?_⟩
 intro kl dl hkl hdl nkl
 refine ⟨kl,dl,_,rfl,upd_same,rfl,?_⟩
 have s2:Same H1 (upd (upd (upd H1 dl (.own kl)) kl (.ins A.cLis dl [])) kl (.ins A.cLis dl (kLis.zip [.ref lc,.int 0]))):=fun b o e=>by
  rw [upd_ne (ne_of_none e hkl),upd_ne (ne_of_none e hkl),upd_ne (ne_of_none e hdl)]; exact e
 have e2:(upd (upd (upd H1 dl (.own kl)) kl (.ins A.cLis dl [])) kl (.ins A.cLis dl (kLis.zip [.ref lc,.int 0]))) kl = some (.ins A.cLis dl (kLis.zip [.ref lc,.int 0])):=upd_same
 generalize upd (upd (upd H1 dl (.own kl)) kl (.ins A.cLis dl [])) kl (.ins A.cLis dl (kLis.zip [.ref lc,.int 0])) = H2 at s2 e2 ⊢
 have hkdl:kd ≠ kl:=ne_of_none e1 hkl
 refine ⟨Nat.zero_le _,fun gl hgl=>?_⟩
 have s3:=same_new (o:=.lst []) hgl
 have e3:(upd H2 gl (.lst [])) gl = some (.lst []):=upd_same
 have hdgl:kd ≠ gl:=ne_of_none (s2 _ _ e1) hgl
 have hlgl:kl ≠ gl:=ne_of_none e2 hgl
 have hkdH:H kd = none:=hkd
 have hklH:H kl = none:=dom_none (Same.dom s1) hkl
 have hglH:H gl = none:=dom_none (Same.dom (s1.trans s2)) hgl
 generalize upd H2 gl (.lst []) = H3 at s3 e3 ⊢
 obtain ⟨cs0,hcs0,hcs1,hcs2,hans⟩:∃ cs,PyFlat.calls PyWqawam.shape l.length l = some cs∧(∀ c ∈ cs,ClassNeutral.asked1 (PyWqawam.whole c) = true)∧cs.length ≤ 40∧PyWqawam.answers l = PyFlat.told (PyFlat.played ClassNeutral.step none (cs.map PyWqawam.whole)):=by
  unfold PyWqawam.answers_asked PyWqawam.calls at hask
  cases hc:PyFlat.calls PyWqawam.shape l.length l with
  | none=>rw [hc] at hask; cases hask
  | some cs =>
   rw [hc] at hask
   try dsimp only at hask
   rw [Bool.and_eq_true] at hask
   have h2:=hask.2
   unfold ClassNeutral.asked at h2
   rw [Bool.and_eq_true,Bool.and_eq_true,decide_eq_true_iff,decide_eq_true_iff] at h2
   refine ⟨cs,rfl,fun c hc=>?_,by have:=h2.2; rw [List.length_map] at this; exact this,?_⟩
   ·have:=List.all_eq_true.mp h2.1.1 (PyWqawam.whole c) (List.mem_map_of_mem hc)
    exact this
   ·unfold PyWqawam.answers PyWqawam.calls
    rw [hc]
    rfl
 refine ⟨AnsW A H l lc kd kl gl,
  ⟨cs0.length,fun _=>none,0,l.length,0,none,[],cs0,none,none,none,none,rfl,rfl,(s1.trans s2).trans s3,(fun _ _ e=>by cases e),rfl,rfl,rfl,⟨dd,.non,s3 _ _ (s2 _ _ e1),rfl⟩,⟨dl,s3 _ _ e2⟩,e3,hcs0,hcs1,by omega,by simp,by rw [hans]; rfl⟩,?_⟩
 clear e1 e2 e3 s1 s2 s3
 rintro m σ H4 ⟨S,at_,fuel,dn,st,gv,cs,v4,v5,v6,v7,rfl,rfl,sm,le,nkd',nkl',ngl',desk,lis,hgl4,hcs,hasked,hdn,hgv,hout⟩
 have ⟨dx4,hk4⟩:=id lis
 refine ⟨_,rfl,methgo hk4 (by decide +kernel) ⟨kl,lc,at_,l,rfl,lis,sq_same hlc sm,_,rfl,?_⟩⟩
 by_cases hend:l.length ≤ at_
 ·rw [decide_eq_true hend]
  have hd:l.drop at_ = []:=List.drop_of_length_le hend
  rw [hd] at hcs
  have hcs':cs = []:=by
   cases fuel <;> (unfold PyFlat.calls at hcs; cases hcs; rfl)
  subst hcs'
  have hg:gv = PyWqawam.answers l:=by rw [← hout]; show gv = gv ++ []; rw [List.append_nil]
  exact ⟨_,rfl,k H4 gl sm (by rw [hgl4,hg])⟩
 ·rw [decide_eq_false hend]
  have hne:l.drop at_ ≠ []:=fun z=>hend (List.drop_eq_nil_iff.mp z)
  obtain ⟨p,r,n,kk,xs,t,cs',f',hq,hs,hn,hrows,rfl,hcs'⟩:=calls_step hcs hne
  have hr:r = l.drop (at_ + 1):=by
   have:=congrArg (List.drop 1) hq
   rw [List.drop_drop] at this
   exact this.symm
  have hz:l[at_]? = some p:=by
   have:=congrArg List.head? hq
   rw [List.head?_drop] at this
   exact this
  obtain ⟨cn,ns,rs,c,rfl,hts,rfl,hcall,hco⟩:=(one_of hs (by rw [List.length_take]; omega) (rows_len hrows) (hasked _ List.mem_cons_self)).ex
  have hform:=dt_find prd (cn:Int)
  rw [forms_of hs] at hform
  obtain ⟨pt,hval,ktp⟩:=hform
  have hkk:kk ≤ 1000:=by
   unfold PyWqawam.shape at hs
   have:=rows_len hrows
   rcases hcall with ⟨_,b,rfl,_⟩ | ⟨_,b,rfl,_⟩ | ⟨nn,nr,mk,ha,_,hrs,_⟩
   ·simp at this; omega
   ·simp at this; omega
   ·rw [List.length_map,hrs] at this
    unfold askOf at ha
    split at ha <;> first | (cases ha; omega) | cases ha
  refine ⟨fun σ' H'=>∃ m',m' < (((↑cn :: List.take n r) :: List.map iB rs) :: cs').length∧AnsW A H l lc kd kl gl m' σ' H',fun _ _ h=>h,?_⟩
  have hsq4:=sq_same hlc sm
  exists _,z0
  refine ⟨_,rfl,methgo hk4 (by decide +kernel) ⟨kl,lc,at_,l,(cn:Int),rfl,lis,hsq4,hz,fun H5 b5 lis5=>?_⟩⟩
  have ⟨dx5,hk5⟩:=id lis5
  have hsq5:=sq_but hsq4 b5 hk4
  exists z0,z0
  refine ⟨_,rfl,methgo hk5 (by decide +kernel) ⟨_,rfl,_,_,rfl,hval,pt,_,_,_,rfl,rfl,ktp.sq _,atI_nat (j:=0) rfl,kl,lc,at_ + 1,n,l,rfl,lis5,hsq5,fun H6 ln b6 hln6 eln lis6=>?_⟩⟩
  have ⟨dx6,hk6⟩:=id lis6
  have hsq6:=sq_but hsq5 b6 hk5
  exists z0,z0
  refine ⟨_,rfl,methgo hk6 (by decide +kernel) ⟨_,rfl,_,_,rfl,hval,pt,_,_,_,rfl,rfl,ktp.sq _,atI_nat (j:=1) rfl,kl,lc,at_ + 1 + n,kk,l,rs.map iB,t,rfl,lis6,hsq6,by rw [← List.drop_drop,← hr]; exact hrows,hkk,fun H7 lr at7 b7 hlr7 rows7 lis7 hdrop=>?_⟩⟩
  have b47:But [kl] H4 H7:=(b5.trans b6).trans b7
  have ⟨dx7,hk7⟩:=id lis7
  have sm7:Same H H7:=fun x o e=>b47 x o (sm x o e) (by simpa using ne_of_none e hklH)
  have le7:Same S H7:=but1 b47 le nkl'
  obtain ⟨S7,g1,g2,g3,rl,hrl,prl⟩:=rows_in rows7 le7
  obtain ⟨dd',vd,hkd',hv⟩:=desk
  have hkd6:H6 kd = some (.ins A.cDes dd' (kDes.zip [vd])):=(b5.trans b6) _ _ hkd' (by simpa using hkdl)
  have hkd7:=b7 _ _ hkd6 (by simpa using hkdl)
  have hgl6:H6 gl = some (.lst (zv gv)):=(b5.trans b6) _ _ hgl4 (by simpa using Ne.symm hlgl)
  have hgl7:=b7 _ _ hgl6 (by simpa using Ne.symm hlgl)
  have eln7:H7 ln = some (.lst (iv ns)):=by
   have:H7 ln = some (.lst (zv ((l.drop (at_ + 1)).take n))):=b7 _ _ eln (by simpa using fun z=>by rw [z] at hln6; have:=hk5; rw [hln6] at this; cases this)
   rw [this,← hr,hts,zv_iN]
  have hv7:=HeldV.up g1 hv
  exists z0,z0
  refine ⟨_,rfl,_,rfl,_,rfl,_,rfl,S7,kd,ln,lr,cn,st,ns,rs,rl,c,rfl,g2,g3 kd (isSome_of hkd6) nkd',⟨dd',vd,hkd7,hv7⟩,eln7,hrl,rows_bv prl,hcall,fun H8 S8 pa b8 g8 desk8 hpn epa=>?_⟩
  have npg:pa ≠ gl:=fun z=>by rw [z,hgl7] at hpn; cases hpn
  have hgl8:=b8 _ _ hgl7 (by simpa using Ne.symm hdgl)
  have hrow:=row_le hv7 c
  have hlis8:LisAt A H8 kl lc at7:=⟨dx7,b8 _ _ hk7 (by simpa using Ne.symm hkdl)⟩
  have hdn':dn + (cs'.length + 1) ≤ 40:=hdn
  have hgvl:gv.length ≤ 40 * 70001:=Nat.le_trans hgv (Nat.mul_le_mul_right _ (by omega))
  have hbig:∀ {q:Nat},q ≤ 3000000→q < sizeLine:=fun h=>by rw [sizeLine_eq]; omega
  exists z0,z0
  refine ⟨_,rfl,.inl ⟨rfl,_,SqL.of hgl8⟩,_,rfl,pa,_,rfl,.inl (SqL.of epa),gl,_,_,rfl,rfl,hgl8,hbig (by rw [zv_len]; omega),?_⟩
  exists z0
  refine ⟨_,rfl,.inl ⟨rfl,_,SqL.of upd_same⟩,_,rfl,gl,pa,_,_,rfl,rfl,upd_same,by rw [upd_ne npg]; exact epa,Nat.le_of_lt (hbig (by rw [List.length_append,zv_len,zv_len]; simp only [List.length_singleton]; omega)),?_⟩
  rw [updu]
  have sm8:Same H H8:=fun x o e=>b8 x o (sm7 x o e) (by simpa using ne_of_none e hkdH)
  obtain ⟨dd8,vd8,hkd8,hv8⟩:=desk8
  have nkd8:S8 kd = none:=g8.new kd (isSome_of hkd7) (g3 kd (isSome_of hkd6) nkd')
  have nkl8:S8 kl = none:=g8.new kl (isSome_of hk7) (g3 kl (isSome_of hk6) nkl')
  have ngl8:S8 gl = none:=g8.new gl (isSome_of hgl7) (g3 gl (isSome_of hgl6) ngl')
  refine ⟨cs'.length,Nat.lt_succ_self _,S8,at7,f',dn + 1,(step st c).1,gv ++ (((rowOf (step st c).2).length:Int) :: rowOf (step st c).2),cs',_,_,_,_,rfl,rfl,same_at sm8 hglH,same_at g8.up ngl8,nkd8,nkl8,ngl8,⟨dd8,vd8,by rw [upd_ne hdgl]; exact hkd8,hv8⟩,?_,?_,by rw [hdrop]; exact hcs',fun c hc=>hasked c (List.mem_cons_of_mem _ hc),by omega,?_,?_⟩
  ·obtain ⟨dx,e⟩:=hlis8
   exact ⟨dx,by rw [upd_ne hlgl]; exact e⟩
  ·rw [upd_same,zv_app,zv_len]
   simp [zv]
  ·rw [List.length_append,List.length_cons]
   have:(dn + 1) * 70001 = dn * 70001 + 70001:=by rw [Nat.add_mul,Nat.one_mul]
   omega
  ·rw [← hout,List.map_cons]
   show _ = gv ++ PyFlat.told ((ClassNeutral.step st (PyWqawam.whole ((↑cn :: List.take n r) :: List.map iB rs))).2 :: PyFlat.played ClassNeutral.step (ClassNeutral.step st (PyWqawam.whole ((↑cn :: List.take n r) :: List.map iB rs))).1 (cs'.map PyWqawam.whole))
   have hst:ClassNeutral.step st (PyWqawam.whole ((↑cn :: List.take n r) :: List.map iB rs)) = ((step st c).1,rowOf (step st c).2):=by
    unfold ClassNeutral.step
    rw [hco]
   rw [hst]
   unfold PyFlat.told
   rw [List.flatMap_cons,List.append_assoc]
end
end Cf
namespace Cf
open PySem PySem.Spec PyProof.Rows L2
open CfFile (Pool big File Member Attr)
structure Srcs (K:PySem.W.Frag) (A:Adr):Prop where
 demand:Src K "demand" sDemand
 curI:MSrc K A.cCur "__init__" "Cursor.__init__" sCurI
 pooI:MSrc K A.cPoo "__init__" "Pool.__init__" sPooI
 attI:MSrc K A.cAtt "__init__" "Attribute.__init__" sAttI
 conI:MSrc K A.cCon "__init__" "Constant.__init__" sConI
 bodI:MSrc K A.cBod "__init__" "Body.__init__" sBodI
 memI:MSrc K A.cMem "__init__" "Member.__init__" sMemI
 desI:MSrc K A.cDes "__init__" "Desk.__init__" sDesI
 lisI:MSrc K A.cLis "__init__" "CallList.__init__" sLisI
 skip:MSrc K A.cCur "skip" "Cursor.skip" sSkip
 uns:MSrc K A.cCur "unsigned" "Cursor.unsigned" sUns
 rowof:Src K "row_of" sRowOf
 has:Src K "has_sign" sHasSign
 simple:Src K "is_simple_name" sSimple
 isinit:Src K "is_init" sIsInit
 plainM:Src K "is_plain_method_name" sPlainM
 methName:Src K "is_method_name" sMethName
 isarr:Src K "is_array" sIsArray
 gives:Src K "gives_nothing" sGives
 tail:Src K "are_tail_bytes" sTail
 charW:Src K "character_width" sCharW
 charRow:Src K "is_character_row" sCharRow
 className:Src K "is_class_name" sClassName
 classEnd:Src K "class_end" sClassEnd
 fieldEnd:Src K "field_end" sFieldEnd
 isField:Src K "is_field_descriptor" sIsField
 isResult:Src K "is_result" sIsResult
 args:Src K "argument_slots" sArgs
 isMethod:Src K "is_method_descriptor" sIsMethod
 tagOf:MSrc K A.cPoo "tag_of" "Pool.tag_of" sTagOf
 isText:MSrc K A.cPoo "is_text" "Pool.is_text" sIsText
 row:MSrc K A.cPoo "row" "Pool.row" sRow
 isNamed:MSrc K A.cPoo "is_named" "Pool.is_named" sIsNamed
 firstRow:MSrc K A.cPoo "first_row" "Pool.first_row" sFirstRow
 secondRow:MSrc K A.cPoo "second_row" "Pool.second_row" sSecondRow
 readText:Src K "read_text" sReadText
 readConst:Src K "read_constant" sReadConst
 readPool:Src K "read_pool" sReadPool
 ckClass:Src K "check_class" sCkClass
 ckString:Src K "check_string" sCkString
 ckNamed:Src K "check_named" sCkNamed
 ckOwner:Src K "check_owner" sCkOwner
 ckField:Src K "check_field" sCkField
 ckMethod:Src K "check_method" sCkMethod
 ckHandle:Src K "check_handle" sCkHandle
 ckSig:Src K "check_signature" sCkSig
 ckSite:Src K "check_call_site" sCkSite
 ckPool:Src K "check_pool" sCkPool
 names:Src K "names_constant" sNames
 readAtt:Src K "read_attribute" sReadAtt
 readAtts:Src K "read_attributes" sReadAtts
 attNamed:Src K "attributes_named" sAttNamed
 readHand:Src K "read_handler" sReadHand
 readHands:Src K "read_handlers" sReadHands
 readBody:Src K "read_body" sReadBody
 oneAcc:Src K "has_one_access" sOneAcc
 textNum:Src K "read_text_number" sTextNum
 valTag:Src K "value_tag" sValTag
 ckFirst:Src K "check_first" sCkFirst
 ckValue:Src K "check_value" sCkValue
 readField:Src K "read_field" sReadField
 readMeth:Src K "read_method" sReadMeth
 readMems:Src K "read_members" sReadMems
 filI:MSrc K A.cFil "__init__" "ClassFile.__init__" sFilI
 readStart:Src K "read_start" sReadStart
 readFlags:Src K "read_flags" sReadFlags
 readCls:Src K "read_class_number" sReadCls
 readInts:Src K "read_interfaces" sReadInts
 readFile:Src K "read_file" sReadFile
 tellText:Src K "tell_text" sTellText
 tellFirst:Src K "tell_first" sTellFirst
 tellNamed:Src K "tell_named" sTellNamed
 tellSite:Src K "tell_call_site" sTellSite
 tellOwned:Src K "tell_owned" sTellOwned
 canTell:Src K "can_be_told" sCanTell
 tell:Src K "tell" sTell
 pick:Src K "pick" sPick
 pickC:Src K "pick_constant" sPickC
 pickM:Src K "pick_members" sPickM
 pickB:Src K "pick_body" sPickB
 pickA:Src K "pick_attributes" sPickA
 aHead:Src K "answer_head" sAHead
 aCount:Src K "answer_count" sACount
 aFace:Src K "answer_face" sAFace
 aTag:Src K "answer_tag" sATag
 aText:Src K "answer_text" sAText
 aNumber:Src K "answer_number" sANumber
 aPair:Src K "answer_pair" sAPair
 aMember:Src K "answer_member" sAMember
 aAttr:Src K "answer_attr" sAAttr
 aCode:Src K "answer_code" sACode
 aSlots:Src K "answer_slots" sASlots
 aTold:Src K "answer_told" sATold
 aFind:Src K "answer_find" sAFind
 aUses:Src K "answer_uses" sAUses
 ask:Src K "ask" sAsk
 through:MSrc K A.cLis "is_through" "CallList.is_through" sThrough
 takeN:MSrc K A.cLis "take_number" "CallList.take_number" sTakeN
 takeNs:MSrc K A.cLis "take_numbers" "CallList.take_numbers" sTakeNs
 takeRs:MSrc K A.cLis "take_rows" "CallList.take_rows" sTakeRs
 short:Src K "read_short_file" sShort
 carry:Src K "carry_out" sCarry
 ansCall:Src K "answer_call" sAnsCall
 answers:Src K "answers" sAnswers
theorem chain {P:Program} {w:World} {K:PySem.W.Frag} {mg:Str→Option Value} {base:Heap} {A:Adr} (T:Txt K mg A) (S:Srcs K A) (xs:XSrc K A.nRB) (ds:Dis A):Def P w K mg base 15 "answers" ["calls"] (spTop A K):=by
 have v_desI:=d_desI (P:=P) (w:=w) (base:=base) T S.desI
 have v_lisI:=d_lisI (P:=P) (w:=w) (base:=base) T S.lisI
 have v_through:=d_through (P:=P) (w:=w) (base:=base) T S.through
 have v_takeN:=d_takeN (P:=P) (w:=w) (base:=base) T S.takeN
 have v_takeNs:=d_takeNs (P:=P) (w:=w) (base:=base) T S.takeNs
 have v_takeRs:=d_takeRs (P:=P) (w:=w) (base:=base) T S.takeRs v_takeN v_takeNs
 have v_demand:=d_demand (P:=P) (w:=w) (base:=base) T S.demand xs
 have v_skip:=d_skip (P:=P) (w:=w) (base:=base) T S.skip v_demand
 have v_uns:=d_uns (P:=P) (w:=w) (base:=base) T S.uns v_skip
 have v_rowof:=d_rowof (P:=P) (w:=w) (base:=base) T S.rowof
 have v_has:=d_has (P:=P) (w:=w) (base:=base) T S.has
 have v_simple:=d_simple (P:=P) (w:=w) (base:=base) T S.simple v_has
 have v_isinit:=d_isinit (P:=P) (w:=w) (base:=base) T S.isinit v_rowof
 have v_plainM:=d_plainM (P:=P) (w:=w) (base:=base) T S.plainM v_has v_simple
 have v_methName:=d_methName (P:=P) (w:=w) (base:=base) T S.methName v_rowof v_plainM v_isinit
 have v_isarr:=d_isarr (P:=P) (w:=w) (base:=base) T S.isarr v_rowof
 have v_gives:=d_gives (P:=P) (w:=w) (base:=base) T S.gives v_rowof
 have v_className:=d_className (P:=P) (w:=w) (base:=base) T S.className v_has
 have v_classEnd:=d_classEnd (P:=P) (w:=w) (base:=base) T S.classEnd v_className
 have v_fieldEnd:=d_fieldEnd (P:=P) (w:=w) (base:=base) T S.fieldEnd v_classEnd
 have v_isField:=d_isField (P:=P) (w:=w) (base:=base) T S.isField v_fieldEnd
 have v_isResult:=d_isResult (P:=P) (w:=w) (base:=base) T S.isResult v_rowof v_isField
 have v_args:=d_args (P:=P) (w:=w) (base:=base) T S.args v_rowof v_fieldEnd v_isResult
 have v_isMethod:=d_isMethod (P:=P) (w:=w) (base:=base) T S.isMethod v_args
 have v_tagOf:=d_tagOf (P:=P) (w:=w) (base:=base) T S.tagOf
 have v_isText:=d_isText (P:=P) (w:=w) (base:=base) T S.isText v_tagOf
 have v_row:=d_row (P:=P) (w:=w) (base:=base) T S.row
 have v_isNamed:=d_isNamed (P:=P) (w:=w) (base:=base) T S.isNamed v_tagOf v_isText
 have v_firstRow:=d_firstRow (P:=P) (w:=w) (base:=base) T S.firstRow v_row
 have v_secondRow:=d_secondRow (P:=P) (w:=w) (base:=base) T S.secondRow v_row
 have v_tail:=d_tail (P:=P) (w:=w) (base:=base) T S.tail
 have v_charW:=d_charW (P:=P) (w:=w) (base:=base) T S.charW v_tail
 have v_charRow:=d_charRow (P:=P) (w:=w) (base:=base) T S.charRow v_charW
 have v_conI:=d_conI (P:=P) (w:=w) (base:=base) T S.conI
 have v_readText:=d_readText (P:=P) (w:=w) (base:=base) T S.readText v_demand v_skip v_charRow v_conI
 have v_readConst:=d_readConst (P:=P) (w:=w) (base:=base) T S.readConst v_demand v_uns v_readText v_conI
 have v_pooI:=d_pooI (P:=P) (w:=w) (base:=base) T S.pooI
 have v_readPool:=d_readPool (P:=P) (w:=w) (base:=base) T S.readPool v_demand v_uns v_readConst v_pooI
 have v_curI:=d_curI (P:=P) (w:=w) (base:=base) T S.curI
 have v_attI:=d_attI (P:=P) (w:=w) (base:=base) T S.attI
 have v_bodI:=d_bodI (P:=P) (w:=w) (base:=base) T S.bodI
 have v_memI:=d_memI (P:=P) (w:=w) (base:=base) T S.memI
 have libS:Lib P w K mg base A:=⟨v_demand,v_skip,v_uns,v_rowof,v_simple,v_isinit,v_plainM,v_methName,v_isarr,v_gives,v_className,v_isField,v_args,v_isMethod,v_tagOf,v_isText,v_row,v_isNamed,v_firstRow,v_secondRow,v_readPool,v_curI,v_attI,v_bodI,v_memI⟩
 have v_filI:=d_filI (P:=P) (w:=w) (base:=base) T S.filI
 have v_readStart:=d_readStart (P:=P) (w:=w) (base:=base) T S.readStart libS v_filI
 have v_ckClass:=d_ckClass (P:=P) (w:=w) (base:=base) T S.ckClass libS
 have v_ckString:=d_ckString (P:=P) (w:=w) (base:=base) T S.ckString libS
 have v_ckNamed:=d_ckNamed (P:=P) (w:=w) (base:=base) T S.ckNamed libS
 have v_ckOwner:=d_ckOwner (P:=P) (w:=w) (base:=base) T S.ckOwner libS
 have v_ckField:=d_ckField (P:=P) (w:=w) (base:=base) T S.ckField libS v_ckOwner
 have v_ckMethod:=d_ckMethod (P:=P) (w:=w) (base:=base) T S.ckMethod libS v_ckOwner
 have v_ckHandle:=d_ckHandle (P:=P) (w:=w) (base:=base) T S.ckHandle libS
 have v_ckSig:=d_ckSig (P:=P) (w:=w) (base:=base) T S.ckSig libS
 have v_ckSite:=d_ckSite (P:=P) (w:=w) (base:=base) T S.ckSite libS
 have chkS:Chk P w K mg base A:=⟨v_ckClass,v_ckString,v_ckNamed,v_ckField,v_ckMethod,v_ckHandle,v_ckSig,v_ckSite⟩
 have v_ckPool:=d_ckPool (P:=P) (w:=w) (base:=base) T S.ckPool chkS
 have v_readFlags:=d_readFlags (P:=P) (w:=w) (base:=base) T S.readFlags libS
 have v_readCls:=d_readCls (P:=P) (w:=w) (base:=base) T S.readCls libS
 have v_readInts:=d_readInts (P:=P) (w:=w) (base:=base) T S.readInts libS v_readCls
 have v_readMems:=d_readMems (P:=P) (w:=w) (base:=base) T S.readMems libS
 have v_readAtt:=d_readAtt (P:=P) (w:=w) (base:=base) T S.readAtt libS
 have v_readAtts:=d_readAtts (P:=P) (w:=w) (base:=base) T S.readAtts libS v_readAtt
 have v_attNamed:=d_attNamed (P:=P) (w:=w) (base:=base) T S.attNamed libS
 have v_readHand:=d_readHand (P:=P) (w:=w) (base:=base) T S.readHand libS
 have v_readHands:=d_readHands (P:=P) (w:=w) (base:=base) T S.readHands libS v_readHand
 have v_readBody:=d_readBody (P:=P) (w:=w) (base:=base) T S.readBody libS v_readHands v_readAtts
 have v_oneAcc:=d_oneAcc (P:=P) (w:=w) (base:=base) T S.oneAcc
 have v_textNum:=d_textNum (P:=P) (w:=w) (base:=base) T S.textNum libS
 have v_ckFirst:=d_ckFirst (P:=P) (w:=w) (base:=base) T S.ckFirst libS
 have v_valTag:=d_valTag (P:=P) (w:=w) (base:=base) T S.valTag libS
 have v_ckValue:=d_ckValue (P:=P) (w:=w) (base:=base) T S.ckValue libS v_attNamed v_valTag
 have rdrS:Rdr P w K mg base A:=⟨v_readAtts,v_attNamed,v_readBody,v_oneAcc,v_textNum,v_ckFirst,v_ckValue⟩
 have v_readField:=d_readField (P:=P) (w:=w) (base:=base) T S.readField libS rdrS
 have v_readMeth:=d_readMeth (P:=P) (w:=w) (base:=base) T S.readMeth libS rdrS
 have whlS:Whl P w K mg base A:=⟨v_readStart,v_ckPool,v_readFlags,v_readCls,v_readInts,v_readMems,v_readField,v_readMeth,v_readAtts⟩
 have v_readFile:=d_readFile (P:=P) (w:=w) (base:=base) T S.readFile libS whlS
 have v_short:=d_short (P:=P) (w:=w) (base:=base) T S.short v_readFile
 have v_aHead:=d_aHead (P:=P) (w:=w) (base:=base) T S.aHead
 have v_pick:=d_pick (P:=P) (w:=w) (base:=base) T S.pick
 have v_pickC:=d_pickC (P:=P) (w:=w) (base:=base) T S.pickC libS
 have v_pickM:=d_pickM (P:=P) (w:=w) (base:=base) T S.pickM
 have pksS:Pks P w K mg base A:=⟨v_pick,v_pickC,v_pickM⟩
 have v_aCount:=d_aCount (P:=P) (w:=w) (base:=base) T S.aCount pksS
 have v_aFace:=d_aFace (P:=P) (w:=w) (base:=base) T S.aFace pksS
 have v_aTag:=d_aTag (P:=P) (w:=w) (base:=base) T S.aTag libS
 have v_aText:=d_aText (P:=P) (w:=w) (base:=base) T S.aText pksS
 have v_aNumber:=d_aNumber (P:=P) (w:=w) (base:=base) T S.aNumber pksS
 have v_aPair:=d_aPair (P:=P) (w:=w) (base:=base) T S.aPair pksS
 have v_aMember:=d_aMember (P:=P) (w:=w) (base:=base) T S.aMember pksS
 have v_pickB:=d_pickB (P:=P) (w:=w) (base:=base) T S.pickB pksS
 have v_pickA:=d_pickA (P:=P) (w:=w) (base:=base) T S.pickA pksS v_pickB
 have v_aAttr:=d_aAttr (P:=P) (w:=w) (base:=base) T S.aAttr pksS v_pickA
 have v_aCode:=d_aCode (P:=P) (w:=w) (base:=base) T S.aCode v_pickB
 have v_aFind:=d_aFind (P:=P) (w:=w) (base:=base) T S.aFind libS pksS
 have v_aSlots:=d_aSlots (P:=P) (w:=w) (base:=base) T S.aSlots libS pksS
 have v_canTell:=d_canTell (P:=P) (w:=w) (base:=base) T S.canTell libS
 have v_tellText:=d_tellText (P:=P) (w:=w) (base:=base) T S.tellText libS
 have v_tellFirst:=d_tellFirst (P:=P) (w:=w) (base:=base) T S.tellFirst libS
 have v_tellNamed:=d_tellNamed (P:=P) (w:=w) (base:=base) T S.tellNamed libS
 have v_tellSite:=d_tellSite (P:=P) (w:=w) (base:=base) T S.tellSite v_tellNamed
 have v_tellOwned:=d_tellOwned (P:=P) (w:=w) (base:=base) T S.tellOwned libS v_tellNamed
 have telS:Tel P w K mg base A:=⟨v_tellText,v_tellFirst,v_tellNamed,v_tellSite,v_tellOwned⟩
 have v_tell:=d_tell (P:=P) (w:=w) (base:=base) T S.tell libS telS
 have v_names:=d_names (P:=P) (w:=w) (base:=base) T S.names
 have hlpS:Hlp P w K mg base A:=⟨v_canTell,v_tell,v_names⟩
 have v_aUses:=d_aUses (P:=P) (w:=w) (base:=base) T S.aUses libS hlpS
 have v_aTold:=d_aTold (P:=P) (w:=w) (base:=base) T S.aTold hlpS
 have asksS:Asks P w K mg base A:=⟨v_aHead,v_aCount,v_aFace,v_aTag,v_aText,v_aNumber,v_aPair,v_aMember,v_aAttr,v_aCode,v_aFind,v_aSlots,v_aUses,v_aTold⟩
 have v_ask:=d_ask (P:=P) (w:=w) (base:=base) T S.ask asksS
 have v_carry:=d_carry (P:=P) (w:=w) (base:=base) T S.carry v_short v_ask
 have v_ansCall:=d_ansCall (P:=P) (w:=w) (base:=base) T ds S.ansCall v_carry
 have dskS:Dsk P w K mg base A:=⟨v_desI,v_lisI,v_through,v_takeN,v_takeNs,v_takeRs,v_ansCall⟩
 exact d_answers (P:=P) (w:=w) (base:=base) T S.answers dskS
end Cf
namespace Cf
open PySem PySem.Spec PyProof.Rows L2
def vsB:List V→List Value→Bool
 | [],[]=>true
 | v :: r,u :: us=>eqVb v u && vsB r us
 | _,_=>false
theorem vsB_ok:∀ {xs:List V} {us:List Value},vsB xs us = true→Vals xs us
 | [],[],_=>.nil
 | _ :: _,_ :: _,h=>have q:=Bool.and_eq_true_iff.mp h; .cons (eqVb_rel q.1) (vsB_ok q.2)
 | [],_ :: _,h=>by cases h
 | _ :: _,[],h=>by cases h
def tupB (K:PySem.W.Frag) (a:Addr) (xs:List V):Bool:=match K.lookup a with
 | some o=>decide (o.cls = .type "tuple") && (match o.data with | .seq its _=>decide (its.size ≤ sizeLine) && vsB xs its.toList | _=>false)
 | none=>false
theorem tupB_ok {K:PySem.W.Frag} {a:Addr} {xs:List V} (h:tupB K a xs = true:=by kernel_rfl):KTup K a xs:=by
 unfold tupB at h
 split at h
 ·rename_i o e
  have q:=Bool.and_eq_true_iff.mp h
  have q2:=q.2
  split at q2
  ·rename_i its n d
   have r:=Bool.and_eq_true_iff.mp q2
   exact ⟨o,its,n,e,of_decide_eq_true q.1,d,of_decide_eq_true r.1,vsB_ok r.2⟩
  ·cases q2
 ·cases h
def refB (v:Value) (f:Addr→Bool):Bool:=match v with | .ref p=>f p | _=>false
theorem refB_ok {v:Value} {f:Addr→Bool} (h:refB v f = true):∃ p,v = .ref p∧f p = true:=by
 cases v <;> first | exact ⟨_,rfl,h⟩ | cases h
def dB {α:Type} (f:α→Addr→Bool):List (Int × α)→List DictEntry→Bool
 | [],[]=>true
 | (k,x) :: r,e :: es=>(Value.isInt k e.key && (e.hash == hashInt k) && refB e.val (f x)) && dB f r es
 | _,_=>false
theorem dB_ok {α:Type} {f:α→Addr→Bool} {R:α→Addr→Prop} (hf:∀ x p,f x p = true→R x p):∀ {kts:List (Int × α)} {es:List DictEntry},dB f kts es = true →
  ∃ kvs,kdChk kvs es = true∧Paired (fun (t:Int × α) (v:Int × V)=>t.1 = v.1∧∃ p,v.2 = .ref p∧R t.2 p) kts kvs
 | [],[],_=>⟨[],rfl,.nil⟩
 | (k,x) :: r,e :: es,h=>by
  have q:=Bool.and_eq_true_iff.mp h
  obtain ⟨kvs,h1,h2⟩:=dB_ok hf q.2
  have q1:=Bool.and_eq_true_iff.mp q.1
  obtain ⟨p,e1,e2⟩:=refB_ok q1.2
  refine ⟨(k,.ref p) :: kvs,?_,.cons ⟨rfl,p,rfl,hf _ _ e2⟩ h2⟩
  show (Value.isInt k e.key && (e.hash == hashInt k) && (e.val == .ref p) && kdChk kvs es) = true
  rw [q1.1,e1,h1]
  simp
 | [],_ :: _,h=>by cases h
 | _ :: _,[],h=>by cases h
abbrev dictO (es:Array DictEntry) (ep:Nat):Obj:={ cls:=.type "dict",dict:=none,data:=.dict es ep,slots:=#[] }
section
variable {K:PySem.W.Frag} {a C N:Addr} {es:Array DictEntry} {ep:Nat}
theorem kd_mk {kvs:List (Int × V)} (l:K.lookup a = some (dictO es ep):=by k_is) (c:kdChk kvs es.toList = true:=by kernel_rfl) (n:(a == sysModules) = false:=by rfl):KD K a kvs:=⟨⟨es,ep,l,c⟩,n⟩
theorem dt_mk {kts:List (Int × List V)} (l:K.lookup a = some (dictO es ep):=by k_is) (c:dB (fun xs p=>tupB K p xs) kts es.toList = true:=by kernel_rfl) (n:(a == sysModules) = false:=by rfl):DTup K a kts :=
 let ⟨kvs,h1,h2⟩:=dB_ok (R:=fun xs p=>KTup K p xs) (fun _ _ h=>tupB_ok h) c
 ⟨kvs,kd_mk l h1 n,h2⟩
theorem df_mk {h:Heap} {mg:Str→Option Value} {kns:List (Int × Str)} (X:K.In h) (G:h.Ns mainGlobals mg) (l:K.lookup a = some (dictO es ep):=by k_is) (c:dB (fun x p=>decide (PySem.W.nsIn K mainGlobals x = some (some (.ref p)))) kns es.toList = true:=by kernel_rfl) (n:(a == sysModules) = false:=by rfl):DFn K mg a kns :=
 let ⟨kvs,h1,h2⟩:=dB_ok (R:=fun x p=>mg x = some (.ref p)) (fun _ _ h=>PySem.W.mg_of X G (of_decide_eq_true h)) c
 ⟨kvs,kd_mk l h1 n,h2⟩
def klB (K:PySem.W.Frag) (C:Addr) (ks:List Str):Bool:=(PySem.W.plainGet K C Str.empty && PySem.W.hasDictIn K C) && (PySem.W.plainOver K C && decide (PySem.W.findIn K (.ref C) "__setattr__" = some (some (.builtin "object.__setattr__")))) &&
 ks.all (fun f=>decide (PySem.W.findIn K (.ref C) f = some none)) && (decide ks.Nodup && decide (ks.length < 1000))
theorem kl_mk {ks:List Str} (h:klB K C ks = true:=by kernel_rfl):Kl K C ks:=by
 unfold klB at h
 simp only [Bool.and_eq_true,decide_eq_true_eq,List.all_eq_true] at h
 obtain ⟨⟨⟨⟨h1,h2⟩,h3,h4⟩,h5⟩,h6,h7⟩:=h
 exact ⟨⟨h1,h2,h3,h4⟩,h5,h6,h7⟩
def mkB (K:PySem.W.Frag) (C:Addr) (x:Str):Bool:=decide (PySem.W.nsIn K mainGlobals x = some (some (.ref C))) && (PySem.W.makesIn K C && PySem.W.keepIn K (.ref C))
theorem mk_mk {h:Heap} {mg:Str→Option Value} {x:Str} (X:K.In h) (G:h.Ns mainGlobals mg) (c:mkB K C x = true:=by kernel_rfl):Mk1 K mg x C:=by
 unfold mkB at c
 simp only [Bool.and_eq_true,decide_eq_true_eq] at c
 exact ⟨PySem.W.mg_of X G c.1,c.2.1,c.2.2⟩
theorem xc_mk {nm q:Str} {bs:List Value} {sn:List Str} {sub:List Value} {ab:Bool} {col:Option Bool} {dd:Option Addr} {k0 k1 k2 k3 k5:Option Value} (l:K.lookup C = some (excClassObj nm q C N bs xBm true sn sub ab col dd k0 k1 k2 k3 k5 "Exception.__new__"):=by k_is) (ns:PySem.W.nsOkIn K N = true:=by kernel_rfl) (kp:PySem.W.keepIn K (.ref C) = true:=by k_is):XCls K C N :=
 ⟨⟨_,_,_,_,_,_,_,_,_,_,_,_,_,l⟩,ns,kp⟩
theorem src_mk {x:Str} {st:Stmt} {f:Addr} {oc:Value} {od an:Option Addr} {osl:Array (Option Value)} {kV doc pm cdv ct:Value} (a:PySem.W.nsIn K mainGlobals x = some (some (.ref f)):=by k_is)
  (l:K.lookup f = some ⟨oc,od,.func (PySem.W.fnOf x x (defArgs st) (defBody st) (defScope st) .none kV doc pm an cdv ct),osl⟩:=by k_is) (c:PySem.W.codeIn K cdv x = true:=by k_is) (k:PySem.W.keepIn K (.ref f) = true:=by k_is):Src K x st:=⟨f,_,fun_mk l c k,a⟩
theorem msrc_mk {f:Addr} {m qual:Str} {st:Stmt} {oc:Value} {od an:Option Addr} {osl:Array (Option Value)} {kV doc pm cdv ct:Value} (a:PySem.W.findIn K (.ref C) m = some (some (.ref f)):=by k_is) (i:PySem.W.isFn K (.ref f) = true:=by k_is)
  (l:K.lookup f = some ⟨oc,od,.func (PySem.W.fnOf m qual (defArgs st) (defBody st) (defScope st) .none kV doc pm an cdv ct),osl⟩:=by k_is) (c:PySem.W.codeIn K cdv qual = true:=by k_is) (k:PySem.W.keepIn K (.ref f) = true:=by k_is):MSrc K C m qual st:=⟨f,_,fun_mk l c k,⟨a,i,k⟩⟩
theorem xs_mk {f:Addr} {oc:Value} {od an:Option Addr} {osl:Array (Option Value)} {kV doc pm cdv ct:Value} (a:PySem.W.nsIn K N "__init__" = some (some (.ref f)):=by k_is) (i:PySem.W.isFn K (.ref f) = true:=by k_is)
  (l:K.lookup f = some ⟨oc,od,.func (PySem.W.fnOf "__init__" "RuleBroken.__init__" (defArgs sRBI) (defBody sRBI) (defScope sRBI) .none kV doc pm an cdv ct),osl⟩:=by k_is) (c:PySem.W.codeIn K cdv "RuleBroken.__init__" = true:=by k_is) (k:PySem.W.keepIn K (.ref f) = true:=by k_is):XSrc K N:=⟨f,_,fun_mk l c k,a,i⟩
theorem nx_mk {f:Str} (e:PySem.W.nsIn K N f = some none:=by k_is):NoX K N f:=e
section
variable {h:Heap} {mg:Str→Option Value} {x:Str} (X:K.In h) (G:h.Ns mainGlobals mg)
include X G
theorem in_mk {z:Int} {t:Tok} (e:PySem.W.nsIn K mainGlobals x = some (some (.int z t)):=by k_is):IntG mg x z:=⟨t,PySem.W.mg_of X G e⟩
theorem g_mk {v:Value} (e:PySem.W.nsIn K mainGlobals x = some (some v):=by k_is):mg x = some v:=PySem.W.mg_of X G e
theorem n_mk (e:PySem.W.nsIn K mainGlobals x = some none:=by k_is):mg x = none:=PySem.W.mg_none_of X G e
end
end
end Cf
namespace Cf
open PySem PySem.Spec PyProof.Rows L2
open PySem.W (WData Codec OpenSpec Well WellAll ReadsW ReadsAllW)
theorem call_def {P:Program} {w:World} {K:PySem.W.Frag} {mg mb:Str→Option Value} {x:Str} {k:Nat} {fa:Addr} {ps:List Str} {sp:Sp} {s₁:Shared} {vals:List Value} {ds:List WData} {R:PySem.W.WRecords} {cl:Str→Option Addr} {d0:WData}
  (KX:K.In s₁.heap) (hns:s₁.heap.Ns mainGlobals mg) (hb:s₁.heap.Ns builtinsNs mb) (hbb:∀ x:Str,x ≠ "__name__"→mb x = bootBuiltins x) (hlim:s₁.heap.NoLimit) (hg:s₁.gens = #[])
  (hwl:WellAll w.params s₁.heap vals ds) (hpl:plWs ds = true) (hwt:∀ d ∈ ds,d.weight ≤ 1048576) (hr:Room k callerA)
  (hfa:mg x = some (.ref fa)) (F:∀ base:Heap,K.In base→base.Ns mainGlobals mg→Def P w K mg base k x ps sp) (hlen:ds.length = ps.length)
  (hsp:∀ (H:Hp) (xs:List V),OnlyF H→DwAll K H xs ds→sp xs H (fun v H'=>Dw K H' v d0) fun _ _ _=>False) :
  codeAny (model P w) callerA (.call (.ref fa) ⟨vals,[]⟩) (fun r s'=>∃ u as,r = .ok (.ret u)∧ReadsW R cl s'.heap u d0 as∧OldK s₁.heap s'.heap∧s'.os = s₁.os∧AllBare s'.gens) s₁:=by
 obtain ⟨A,ho,ar⟩:=area_all ds vals hwl hpl hwt
 have hO:OnlyF (argH K s₁.heap A):=argH_only ar
 have hok:HOk P w (argH K s₁.heap A) s₁.heap:=argH_ok ar
 have hS:=dw_all KX ar ds vals hwl hpl ho
 have hV:=vals_toV ho
 have hK:∀ b u,argH K s₁.heap A b = some u→K.lookup b = none:=fun b u q=>(argH_is ar q).1
 have noA:∀ {b:Addr} {o:Obj} {es:Array DictEntry} {ep:Nat},s₁.heap.get? b = some o→o.data = .dict es ep→argH K s₁.heap A b = none:=fun {b o es ep} e d=>by
  cases q:argH K s₁.heap A b with
  | none=>rfl
  | some u =>
   obtain ⟨_,vs,_,_,⟨e2,_⟩ | ⟨e2,_⟩⟩:=argH_is ar q
   ·rw [e2] at e
    cases e
    have d':Data.seq vs.toArray _ = Data.dict es ep:=d
    cases d'
   ·rw [e2] at e
    cases e
    have d':Data.seq vs.toArray _ = Data.dict es ep:=d
    cases d'
 generalize argH K s₁.heap A = H at hO hok hS hK noA
 have base_of:∀ {b:Addr} {o:Obj},s₁.heap.get? b = some o→H b = none→(hidT s₁.heap H).get? b = some o:=fun e n=>hidT_get e n
 have nsK:∀ {b:Addr} {m:Str→Option Value},s₁.heap.Ns b m→(hidT s₁.heap H).Ns b m:=fun {b m} ⟨o,es,ep,e,d,r⟩=>⟨o,es,ep,base_of e (noA e d),d,r⟩
 have nK:∀ b o,K.lookup b = some o→H b = none:=fun b o e=>by
  cases q:H b with
  | none=>rfl
  | some u =>
   rw [hK b u q] at e
   cases e
 have hKb:K.In (hidT s₁.heap H):=fun b o e=>base_of (KX b o e) (nK b o e)
 have hM:Mod K mg (hidT s₁.heap H):=⟨hKb,nsK hns,⟨mb,nsK hb,hbb⟩,let ⟨mc,h1,h2⟩:=hlim; ⟨mc,nsK h1,h2⟩⟩
 have e0:Env0 P w K mg (hidT s₁.heap H) callerA [] s₁ H:=⟨rfl,hM,fun b o e=>of_hidT e,Nat.le_of_eq (hidT_size _ _),trivial,fun b hb=>absurd (show b ∈ ([]:List Addr) from hb) (by simp),hok,.of_eq hg⟩
 have hl:vals.length = ps.length:=by rw [wellAll_len hwl]; exact hlen
 obtain ⟨f,fd,hf,_,Fk,hb⟩:=F _ hKb (nsK hns)
 have ef:f = fa:=by rw [hf] at hfa; exact Value.ref.inj (Option.some.inj hfa)
 subst ef
 have hbd:BindsTo s₁ fd ⟨vals,[]⟩ (ps.zip vals):=by have q:=hb s₁ vals KX (by rw [List.append_nil]; exact hl); rwa [List.append_nil] at q
 refine codeAny_mono (Fk.run callerA [] s₁ H ⟨vals,[]⟩ vals (vals.map toV) _ _ hr e0 hbd hV (hsp H _ hO hS)) fun r s' x=>?_
 cases r with
 | error e=>obtain ⟨_,_,_,_,_,_,_,_,_,_,_,_,_,_,_,z⟩:=x; exact z.elim
 | ok fl =>
  cases fl with
  | next=>exact False.elim x
  | brk=>exact False.elim x
  | cont=>exact False.elim x
  | ret u =>
   obtain ⟨v,H',os,bare,un,hok',r',q⟩:=x
   have kept:∀ b o,s₁.heap.get? b = some o→s'.heap.get? b = some o:=fun b o e=>by
    cases q2:H b with
    | none=>exact un.keep b o e q2 (by intro z; exact absurd (show b ∈ ([]:List Addr) from z) (by simp)) (by simp)
    | some u2 =>
     rcases hO b with z | ⟨ob,u3,z⟩
     ·rw [q2] at z
      cases z
     ·have z2:=un.frzs b ob _ z
      obtain ⟨e1,_⟩:=hok b _ z
      obtain ⟨e2,_⟩:=hok' b _ z2
      rw [e] at e1
      cases e1
      exact e2
   have KX':K.In s'.heap:=fun b o e=>kept b o (KX b o e)
   obtain ⟨as,hrd⟩:=Dw.reads (R:=R) (cl:=cl) hok' KX' d0 v u q r'
   exact ⟨u,as,rfl,hrd,OldK.of_keep kept,os,bare⟩
theorem walk_def {r:OpenSpec} {k:Nat} {q:Program} {loose:List Str} {XP:(Str→Option Value)→Heap→Prop} {YP:World→Heap→Prop} {d:DefRec} {K:Params→PySem.W.Frag} {ps:List Str} {sp:PySem.W.Frag→Sp}
  (hwell:r.wellSaid = true) (hdf:d.params.defaults = []) (hlen:r.args.length = ps.length) (hr:Room k callerA)
  (hY:∀ (w:World) (h:Heap),YP w h→(K w.params).In h)
  (F:∀ (w:World) (mg:Str→Option Value) (fa:Addr) (h:Heap),YP w h→(K w.params).In h→h.Ns mainGlobals mg→mg d.name = some (.ref fa) →
   ∀ base:Heap,(K w.params).In base→base.Ns mainGlobals mg→Def r.prog w (K w.params) mg base k d.name ps (sp (K w.params)))
  (hsp:∀ (w:World) (H:Hp) (xs:List V) (a:Codec.denoteAll r.args),OnlyF H→Codec.withinAll r.args a = true→Codec.app r.args r.asked a = true→DwAll (K w.params) H xs (Codec.encAll r.args a) →
   sp (K w.params) xs H (fun v H'=>Dw (K w.params) H' v (r.ret.enc (Codec.app r.args r.f a))) fun _ _ _=>False) :
  PySem.W.WalkOS q loose XP YP r d [] (fun f vs=>PySem.call f vs):=by
 intro w s_0 s₁ mg mb G Y fa o pm cd doc dV kV ho hd hcd hD hmg hg args vals as hpre hlay hrd hwl hlo
 obtain ⟨a,e1,e2⟩:=PySem.W.os_pre_some hpre
 obtain ⟨e3,hwi⟩:=Codec.encAll_of_decAll r.args args a e1
 subst e3
 have KX:=hY w _ Y
 refine PySem.W.enter_call (codeAny_mono (call_def (R:=[]) (cl:=classAt s_0.heap) (d0:=r.ret.enc (Codec.app r.args r.f a)) KX G.T.g G.T.b G.T.builtins G.T.nolimit hg hwl (pl_encAll _ _) (layable_weight hlay) hr hmg (F w mg fa _ Y KX G.T.g hmg) (by rw [encAll_len]; exact hlen)
  (fun H xs hO hS=>hsp w H xs a hO hwi e2 hS)) fun r' s' hq=>?_)
 obtain ⟨u,as',rfl,h1,h2,h3,h4⟩:=hq
 exact ⟨.inl ⟨u,_,as',rfl,fun _=>rfl,h1,(OpenSpec.post_iff hwell hwi _ _).mpr rfl,fun z=>Bool.noConfusion (show false = true from z)⟩,h2,h3,h4⟩
end Cf
open PySem PySem.W PyProof.Rows Cf
set_option maxRecDepth 100000 in
set_option maxHeartbeats 0 in
theorem PySem.Challenge.cw_classfiles_s01_answers_holds : PySem.Challenge.rw_classfiles_s01_answers.Holds := by
 refine Cf.hd ?_
 k_fillS
 refine Cf.walk_def (r:=PySem.Challenge.rw_classfiles_s01_answers) (k:=15) (ps:=["calls"]) (sp:=Cf.spTop ⟨31,30,44,43,57,56,70,69,512,533,554,615,707,770,812,885,934,81,202,676,852,284,327,474,212,213,342⟩) Cf.said rfl rfl ⟨rfl,by decide,by decide⟩ (fun w h Y=>PySem.W.kIn_of Y) ?F ?S
 case F =>
  intro w mg fa h Y KX G hmg base _ _
  exact chain ⟨⟨h,KX,G⟩,xc_mk,xc_mk,xc_mk,xc_mk,g_mk KX G,g_mk KX G,g_mk KX G,g_mk KX G,kl_mk,kl_mk,kl_mk,kl_mk,kl_mk,kl_mk,kl_mk,kl_mk,kl_mk,mk_mk KX G,mk_mk KX G,mk_mk KX G,mk_mk KX G,mk_mk KX G,mk_mk KX G,mk_mk KX G,mk_mk KX G,mk_mk KX G,n_mk KX G,n_mk KX G,n_mk KX G,n_mk KX G,n_mk KX G,n_mk KX G,nx_mk,nx_mk,nx_mk,nx_mk,nx_mk,nx_mk,nx_mk,nx_mk,in_mk KX G,in_mk KX G,in_mk KX G,in_mk KX G,in_mk KX G,in_mk KX G,in_mk KX G,in_mk KX G,in_mk KX G,in_mk KX G,in_mk KX G,in_mk KX G,in_mk KX G,in_mk KX G,in_mk KX G,in_mk KX G,in_mk KX G,in_mk KX G,in_mk KX G,in_mk KX G,in_mk KX G,in_mk KX G,in_mk KX G,in_mk KX G,in_mk KX G,in_mk KX G,in_mk KX G,in_mk KX G,in_mk KX G,g_mk KX G,kd_mk,g_mk KX G,dt_mk,g_mk KX G,dt_mk,g_mk KX G,dt_mk,g_mk KX G,df_mk KX G,g_mk KX G,df_mk KX G,g_mk KX G,df_mk KX G,g_mk KX G,tupB_ok,g_mk KX G,tupB_ok,g_mk KX G,tupB_ok⟩ ⟨src_mk,msrc_mk,msrc_mk,msrc_mk,msrc_mk,msrc_mk,msrc_mk,msrc_mk,msrc_mk,msrc_mk,msrc_mk,src_mk,src_mk,src_mk,src_mk,src_mk,src_mk,src_mk,src_mk,src_mk,src_mk,src_mk,src_mk,src_mk,src_mk,src_mk,src_mk,src_mk,src_mk,msrc_mk,msrc_mk,msrc_mk,msrc_mk,msrc_mk,msrc_mk,src_mk,src_mk,src_mk,src_mk,src_mk,src_mk,src_mk,src_mk,src_mk,src_mk,src_mk,src_mk,src_mk,src_mk,src_mk,src_mk,src_mk,src_mk,src_mk,src_mk,src_mk,src_mk,src_mk,src_mk,src_mk,src_mk,src_mk,src_mk,msrc_mk,src_mk,src_mk,src_mk,src_mk,src_mk,src_mk,src_mk,src_mk,src_mk,src_mk,src_mk,src_mk,src_mk,src_mk,src_mk,src_mk,src_mk,src_mk,src_mk,src_mk,src_mk,src_mk,src_mk,src_mk,src_mk,src_mk,src_mk,src_mk,src_mk,src_mk,src_mk,src_mk,msrc_mk,msrc_mk,msrc_mk,msrc_mk,src_mk,src_mk,src_mk,src_mk⟩ xs_mk ⟨by decide,by decide,by decide,by decide,by decide,by decide⟩
 case S =>
  intro w H xs a hO hwi hask hx
  cases hx with
  | cons h1 h2 =>
   cases h2
   cases h1 with
   | lst hs ha =>
    have e:=L2.ints_dw a.1 _ ha
    subst e
    exact ⟨_,a.1,rfl,hs,hask,fun H' p _ hp=>.lst (L2.SqL.of hp) (L2.dw_ints _)⟩
