import PyProof.Rows.All
import Wide.All
import OpenK.AllK
import Wide.FinOn
import Lean
import PyProof.EqAt
import PyProof.EqKinds
import PyProof.TupleCall
import KE.KMinKey
import KE.KIntText
import PyProof.MeetsStr2
import PyProof.FString
import PyProof.FString2
import PyProof.StrLawsTight
import PyProof.StrLawsIdx
import PyProof.StrBlockL
import PyProof.StrBlock2
import PyProof.Rows.StrJoin2
import PyProof.Rows.StrBin
import PyProof.Rows.StrItems
import KE.IntTextText
import Open.Fast
import PySem.Challenge.RW_throwgate_k35_desk_as_beach
set_option compiler.extract_closed false
set_option bootstrap.genMatcherCode false
set_option genSizeOf false
set_option compiler.small 0
set_option Elab.async false
set_option linter.all false
set_option maxRecDepth 100000
noncomputable abbrev z0:=@List.length_map
noncomputable abbrev z9:=@List.getElem?_eq_getElem
noncomputable abbrev zA:=@PySem.Heap.get?_push_of_some
noncomputable abbrev zB:=@List.length_cons
noncomputable abbrev zC:=@List.getElem?_eq_some_iff
noncomputable abbrev zD:=@List.length_append
noncomputable abbrev zE:=@decide_eq_true
noncomputable abbrev zF:=@List.mem_cons
noncomputable abbrev zG:=@List.length_nil
noncomputable abbrev zH:=@of_decide_eq_true
noncomputable abbrev zI:=@List.mem_singleton
noncomputable abbrev zJ:=@PySem.Heap.lt_size
noncomputable abbrev zK:=@List.mem_cons_of_mem
noncomputable abbrev zL:=@Nat.le_refl
noncomputable abbrev zM:=@Nat.lt_of_lt_of_le
noncomputable abbrev zN:=@List.getElem?_map
noncomputable abbrev zO:=@Nat.le_trans
noncomputable abbrev zP:=@List.mem_cons_self
noncomputable abbrev zQ:=@List.size_toArray
noncomputable abbrev zR:=@List.getD_eq_getElem?_getD
noncomputable abbrev zS:=@List.take_succ_eq_append_getElem
noncomputable abbrev zT:=@PySem.Heap.get?_push_size
noncomputable abbrev zU:=@List.map_cons
noncomputable abbrev zV:=@Option.some.inj
noncomputable abbrev zW:=@List.mem_of_getElem?
noncomputable abbrev zX:=@Int.mul_le_mul_of_nonneg_right
noncomputable abbrev zY:=@List.getElem_mem
noncomputable abbrev zZ:=@List.mem_map
noncomputable abbrev za:=@Bool.false_ne_true
noncomputable abbrev zb:=@List.mem_append
noncomputable abbrev zc:=@List.map_append
noncomputable abbrev zd:=@List.mem_append_right
noncomputable abbrev ze:=@Nat.ne_of_lt
noncomputable abbrev zf:=@List.not_mem_nil
noncomputable abbrev zg:=@Array.getD_eq_getD_getElem?
noncomputable abbrev zh:=@decide_eq_false
noncomputable abbrev zi:=@Option.map_eq_some_iff
noncomputable abbrev zj:=@List.take_length
noncomputable abbrev zk:=@Nat.lt_of_le_of_lt
noncomputable abbrev zm:=@Int.le_of_mul_le_mul_left
noncomputable abbrev zn:=@List.sum_cons
noncomputable abbrev zo:=@List.length_drop
noncomputable abbrev zp:=@List.map_map
noncomputable abbrev zr:=@Nat.zero_le
noncomputable abbrev zt:=@Int.mul_le_mul_of_nonneg_left
noncomputable abbrev zv:=@Prod.mk.inj
noncomputable abbrev zw:=@List.length_take
noncomputable abbrev zx:=@List.append_assoc
noncomputable abbrev zy:=@List.mem_of_mem_take
noncomputable abbrev zz:=@List.mem_filter
noncomputable abbrev q9:=@List.length_eq_zero_iff
noncomputable abbrev qA:=@List.length_filter_le
noncomputable abbrev qB:=@List.mem_iff_getElem?
noncomputable abbrev qC:=@Nat.ne_of_gt
noncomputable abbrev qD:=@List.mem_append_left
noncomputable abbrev qE:=@Bool.false_eq_true
noncomputable abbrev qF:=@Nat.lt_irrefl
noncomputable abbrev qG:=@Bool.and_eq_true
noncomputable abbrev qH:=@List.cons.injEq
noncomputable abbrev qI:=@Nat.le_of_not_lt
noncomputable abbrev qJ:=@Bool.and_eq_true_iff
noncomputable abbrev qK:=@Int.toNat_natCast
noncomputable abbrev qL:=@List.take_of_length_le
noncomputable abbrev qM:=@Int.le_of_lt
noncomputable abbrev qN:=@Array.getElem?_eq_getElem
noncomputable abbrev qO:=@Option.join_some
noncomputable abbrev qP:=@PySem.Heap.size_push
noncomputable abbrev qQ:=@List.pairwise_map
noncomputable abbrev qR:=@List.flatMap_cons
noncomputable abbrev qS:=@List.append_nil
noncomputable abbrev qT:=@List.filterMap_cons
noncomputable abbrev qU:=@List.getElem_of_mem
noncomputable abbrev qV:=@List.cons_append
noncomputable abbrev qW:=@List.all_eq_true
noncomputable abbrev qX:=@List.filter_cons
noncomputable abbrev qY:=@List.filter_append
noncomputable abbrev qZ:=@Bool.eq_iff_iff
noncomputable abbrev qa:=@List.nodup_cons
noncomputable abbrev qb:=@List.find?_cons
noncomputable abbrev qc:=@Option.map_some
namespace L2
open PySem PySem.Spec PyProof.Rows
noncomputable abbrev Key:=Sum Int Str
noncomputable def Sn:Key→Value→Bool
 | .inl k,v=>Value.isInt k v
 | .inr x,v=>Value.isStrOf x v
noncomputable def keyH (w:World):Key→Int
 | .inl k=>hashInt k
 | .inr x=>hashStr w x
theorem BQ:∀ {k:Key} {v:Value},Sn k v=true→(∃ i t,k=Sum.inl i∧v=Value.int i t)∨(∃ x t,k=Sum.inr x∧v=Value.str x t)
 | .inl i,v,h=>by
  obtain ⟨t,e⟩:=Value.isInt_shape (k:=i) (v:=v) h
  exact .inl ⟨i,t,rfl,e⟩
 | .inr x,v,h=>by
  obtain ⟨t,e⟩:=Value.isStrOf_shape (x:=x) (v:=v) h
  exact .inr ⟨x,t,rfl,e⟩
theorem Xa (i:Int)(t:Tok):Sn (.inl i) (.int i t)=true:=by simp [Sn,Value.isInt]
theorem W9 (x:Str)(t:Tok):Sn (.inr x) (.str x t)=true:=by simp [Sn,Value.isStrOf]
theorem iw (a b:Int):decide ((Sum.inl a:Key)=Sum.inl b)=(a == b):=by
 by_cases e:a=b
 ·subst e;simp
 ·have h:¬ (Sum.inl a:Key)=Sum.inl b:=fun q=>e (Sum.inl.inj q)
  rw [zh h]
  exact (beq_eq_false_iff_ne.mpr e).symm
theorem iZ (a b:Str):decide ((Sum.inr a:Key)=Sum.inr b)=decide (a=b):=by
 by_cases e:a=b
 ·subst e;simp
 ·have h:¬ (Sum.inr a:Key)=Sum.inr b:=fun q=>e (Sum.inr.inj q)
  rw [zh h,zh e]
theorem i8 (a:Int)(b:Str):decide ((Sum.inl a:Key)=Sum.inr b)=false:=zh (fun q=>nomatch q)
theorem gr (a:Str)(b:Int):decide ((Sum.inr a:Key)=Sum.inl b)=false:=zh (fun q=>nomatch q)
noncomputable def CO (prog:Program)(w:World):PySem.KeyKind prog w Key where
 is:=Sn
 hash:=keyH w
 inj:=fun v a b ha hb=>by
  rcases BQ ha with ⟨i,t,rfl,rfl⟩ | ⟨x,t,rfl,rfl⟩
  ·rcases BQ hb with ⟨j,u,rfl,e⟩ | ⟨y,u,rfl,e⟩
   ·injection e with e1 _;rw [e1]
   ·exact nomatch e
  ·rcases BQ hb with ⟨j,u,rfl,e⟩ | ⟨y,u,rfl,e⟩
   ·exact nomatch e
   ·injection e with e1 _;rw [e1]
 byValue:=fun k v h=>by
  rcases BQ h with ⟨i,t,rfl,rfl⟩ | ⟨x,t,rfl,rfl⟩<;>rfl
 pyHash:=fun hv h=>by
  rcases BQ hv with ⟨i,t,rfl,rfl⟩ | ⟨x,t,rfl,rfl⟩
  ·exact wpAny_pyHash_int h
  ·exact wpAny_pyHash_str h
 eqBool:=fun hu hv h=>by
  rcases BQ hu with ⟨i,t,rfl,rfl⟩ | ⟨x,t,rfl,rfl⟩
  ·rcases BQ hv with ⟨j,u,rfl,rfl⟩ | ⟨y,u,rfl,rfl⟩
   ·rw [iw] at h;exact wpAny_eqBool_int h
   ·rw [i8] at h;exact SeqAt.EqAt.int_str i t y u _ _ _ _ h
  ·rcases BQ hv with ⟨j,u,rfl,rfl⟩ | ⟨y,u,rfl,rfl⟩
   ·rw [gr] at h;exact SeqAt.EqAt.str_int x t j u _ _ _ _ h
   ·rw [iZ] at h;exact wpAny_eqBool_str h
 «strs»:=fun k x t v h=>by
  rcases BQ h with ⟨i,u,rfl,e⟩ | ⟨y,u,rfl,e⟩
  ·exact nomatch e
  ·injection e with e1 _
   subst e1
   cases v<;>rfl
theorem UZ (prog:Program)(w:World)(i:Int)(t:Tok):(CO prog w).is (.inl i) (.int i t)=true:=Xa i t
theorem Uw (prog:Program)(w:World)(x:Str)(t:Tok):(CO prog w).is (.inr x) (.str x t)=true:=W9 x t
inductive V where
 | non | bl (b:Bool) | int (i:Int) | str (x:Str) | byt (b:Array UInt8) | flt (b:UInt64) | ref (a:Addr) | ty (n:String)
 deriving DecidableEq
noncomputable def RelV:V→Value→Prop
 | .non,u=>u=Value.none
 | .bl b,u=>u=Value.bool b
 | .int i,u=>∃ t,u=Value.int i t
 | .str x,u=>∃ t,u=Value.str x t
 | .byt b,u=>∃ t,u=Value.bytes b t
 | .flt b,u=>∃ t,u=Value.float b t
 | .ref a,u=>u=Value.ref a
 | .ty n,u=>u=Value.type n
noncomputable abbrev An:List V→List Value→Prop:=Paired RelV
theorem An.length {xs:List V}{us:List Value}(r:An xs us):xs.length=us.length:=Paired.length r
theorem An.get:∀ {xs:List V} {us:List Value} {i:Nat} {x:V},An xs us→xs[i]? = some x→∃ u,us[i]? = some u∧RelV x u
 | _,_,_,_,.nil,e=>by simp at e
 | _,_,0,_,.cons r _,e=>by simp at e;subst e;exact ⟨_,rfl,r⟩
 | _,_,i+1,x,.cons _ t,e=>by
  obtain ⟨u,h1,h2⟩:=An.get (i:=i) (x:=x) t (by simpa using e)
  exact ⟨u,by simpa using h1,h2⟩
theorem An.set {x:V}{u:Value}(r:RelV x u):∀ {xs:List V} {us:List Value} (i:Nat),An xs us→An (xs.set i x) (us.set i u)
 | _,_,_,.nil=>.nil
 | _,_,0,.cons _ t=>.cons r t
 | _,_,i+1,.cons q t=>.cons q (An.set r i t)
theorem An.append:∀ {xs ys:List V} {us ws:List Value},An xs us→An ys ws→An (xs++ys) (us++ws)
 | _,_,_,_,.nil,s=>s
 | _,_,_,_,.cons r t,s=>.cons r (An.append t s)
theorem An.take:∀ {xs:List V} {us:List Value} (n:Nat),An xs us→An (xs.take n) (us.take n)
 | _,_,0,_=>.nil
 | _,_,_+1,.nil=>.nil
 | _,_,n+1,.cons r t=>.cons r (An.take n t)
theorem An.drop:∀ {xs:List V} {us:List Value} (n:Nat),An xs us→An (xs.drop n) (us.drop n)
 | _,_,0,r=>r
 | _,_,_+1,.nil=>.nil
 | _,_,n+1,.cons _ t=>An.drop n t
noncomputable def NU:Option V→Option Value→Prop
 | some v,some u=>RelV v u
 | none,none=>True
 | _,_=>False
noncomputable def KV {κ:Type}:List (κ×V)→List (κ×Value)→Prop:=Paired fun (p:κ×V) (q:κ×Value)=>p.1=q.1∧RelV p.2 q.2
noncomputable def kV:Key→V
 | .inl i=>.int i
 | .inr x=>.str x
inductive HO where
 | lst (xs:List V)
 | tup (xs:List V)
 | dK (kvs:List (Key×V)) | dT (kvs:List (List Key×V))
 | set (S:Int→Bool) (n:Nat)
 | ins (C dx:Addr) (fs:List (Str×V))
 | own (x:Addr)
 | xd (fs:List (Str×V))
 | met (f x:Addr)
 | rng (lo hi:Int)
 | frz (o:Obj) (u:HO)
 | tbl (ps:Array Value)
 | ext (φ:Heap→Prop)
noncomputable abbrev Hp:=Addr→Option HO
noncomputable def upd (H:Hp)(a:Addr)(o:HO):Hp:=fun b=>if b=a then some o else H b
theorem AM {H:Hp}{a:Addr}{o:HO}:upd H a o a=some o:=by unfold upd;rw [if_pos rfl]
theorem AO {H:Hp}{a b:Addr}{o:HO}(h:b≠a):upd H a o b=H b:=by unfold upd;rw [if_neg h]
theorem IA {H:Hp}{a b:Addr}{o u:HO}(h:H a=some o)(h':H b=some u)(d:o≠u):a≠b:=by
 intro e;subst e;rw [h] at h';exact d (zV h')
theorem Af {H:Hp}{a b:Addr}{o:HO}(h:H a=some o)(h':H b=none):a≠b:=by
 intro e;subst e;rw [h] at h';cases h'
section
variable (P:Program) (w:World)
noncomputable def BM (H:Hp)(h:Heap)(a:Addr):HO→Prop
 | .lst xs=>xs.length≤sizeLine∧∃ (its:List Value) (n:Nat),An xs its∧h.get? a=some { cls:=.type "list",data:=.seq its.toArray n }
 | .tup xs=>xs.length≤sizeLine∧∃ its:List Value,An xs its∧IsTup h a its.toArray
 | .dK kvs=>kvs.length≤sizeLine∧(a == sysModules)=false∧∃ vs,KV kvs vs∧h.DictOf (CO P w) a vs
 | .dT kvs=>kvs.length≤sizeLine∧(a == sysModules)=false∧∃ xs:List (List Key×Addr×Value),
   Paired (fun (p:List Key×V) (q:List Key×Addr×Value)=>p.1=q.1∧H q.2.1=some (.tup (p.1.map kV))∧RelV p.2 q.2.2) kvs xs ∧
   ∃ o es ep,h.get? a=some o∧o.ExactDict∧o.data = .dict es ep∧es.toList=xs.map (entryOfKey (tupleKind (CO P w)))∧(xs.map (·.1)).Nodup
 | .set S n=>h.SetOf (intKind P w) a S n
 | .ins C dx fs=>H dx=some (.own a)∧fs.length≤1000∧dx≠a∧h.get? a=some (W.instObj C dx) ∧
   ∃ mA,h.Ns1 dx mA∧(∀ f,NU (fs.lookup f) (mA f))∧PySem.Within mA (fs.map (·.1))
 | .own _=>∃ o,h.get? a=some o
 | .xd fs=>∃ mA,h.Ns1 a mA∧∀ f,NU (fs.lookup f) (mA f)
 | .rng lo hi=>∃ t u v,h.get? a=some { cls:=.type "range",data:=.fields #[.int lo t,.int hi u,.int 1 v] }
 | .frz o u=>h.get? a=some o∧BM H h a u
 | .tbl ps=>h.get? a=some { cls:=.none,data:=.fields ps }
 | .met f x=>h.get? a=some (W.methodObj (.ref f) (.ref x))
 | .ext φ=>φ h∧(∃ o,h.get? a=some o)∧∀ h1 h2:Heap,φ h1→(∀ o,h1.get? a=some o→h2.get? a=some o)→φ h2
noncomputable def HOk (H:Hp)(h:Heap):Prop:=∀ a o,H a=some o→BM P w H h a o
end
section
variable {P:Program} {w:World} {H H':Hp} {h h':Heap} {a:Addr} {o:HO}
theorem BM.lt (x:BM P w H h a o):a<h.objs.size:=by
 cases o with
 | lst xs=>obtain ⟨_,_,_,_,e⟩:=x;exact zJ e
 | tup xs=>obtain ⟨_,_,_,p⟩:=x;exact p.lt
 | dK kvs=>obtain ⟨_,_,_,_,o,_,_,e,_⟩:=x;exact zJ e
 | dT kvs=>obtain ⟨_,_,_,_,o,_,_,e,_⟩:=x;exact zJ e
 | set S n=>obtain ⟨o,_,_,_,e,_⟩:=x;exact zJ e
 | ins C dx fs=>obtain ⟨_,_,_,e,_⟩:=x;exact zJ e
 | own y=>obtain ⟨_,e⟩:=x;exact zJ e
 | xd fs=>obtain ⟨_,⟨_,_,_,e,_⟩,_⟩:=x;exact zJ e
 | rng lo hi=>obtain ⟨_,_,_,e⟩:=x;exact zJ e
 | frz ob u=>obtain ⟨e,_⟩:=x;exact zJ e
 | tbl ps=>exact zJ (show h.get? a=some _ from x)
 | met f y=>exact zJ (show h.get? a=some _ from x)
 | ext φ=>obtain ⟨_,⟨_,e⟩,_⟩:=x;exact zJ e
theorem Paired.mapP {α β:Type}{F G:α→β→Prop}:∀ {l₁:List α} {l₂:List β},Paired F l₁ l₂→(∀ a b,F a b→G a b)→Paired G l₁ l₂
 | _,_,.nil,_=>.nil
 | _,_,.cons r t,f=>.cons (f _ _ r) (Paired.mapP t f)
theorem BM.stay (x:BM P w H h a o)(k:∀ b u,(b=a∨H b=some (.own a))→h.get? b=some u→h'.get? b=some u)
  (ho:∀ b,H b=some (.own a)→H' b=some (.own a)) (ht:∀ b xs,H b=some (.tup xs)→H' b=some (.tup xs)):BM P w H' h' a o:=by
 induction o with
 | lst xs=>obtain ⟨z,its,n,r,e⟩:=x;exact ⟨z,its,n,r,k _ _ (.inl rfl) e⟩
 | tup xs=>obtain ⟨z,its,r,ob,e,c⟩:=x;exact ⟨z,its,r,ob,k _ _ (.inl rfl) e,c⟩
 | dK kvs=>obtain ⟨z,y,vs,r,ob,es,ep,e,c⟩:=x;exact ⟨z,y,vs,r,ob,es,ep,k _ _ (.inl rfl) e,c⟩
 | dT kvs =>
  obtain ⟨z,y,xs,r,ob,es,ep,e,c⟩:=x
  exact ⟨z,y,xs,Paired.mapP r fun p q z=>⟨z.1,ht _ _ z.2.1,z.2.2⟩,ob,es,ep,k _ _ (.inl rfl) e,c⟩
 | set S n=>obtain ⟨ob,es,ep,t,e,c⟩:=x;exact ⟨ob,es,ep,t,k _ _ (.inl rfl) e,c⟩
 | ins C dx fs =>
  obtain ⟨d,z,ne,e,mA,⟨od,es,ep,e2,c⟩,r⟩:=x
  exact ⟨ho _ d,z,ne,k _ _ (.inl rfl) e,mA,⟨od,es,ep,k _ _ (.inr d) e2,c⟩,r⟩
 | own y=>obtain ⟨ob,e⟩:=x;exact ⟨ob,k _ _ (.inl rfl) e⟩
 | xd fs=>obtain ⟨mA,⟨od,es,ep,e,c⟩,r⟩:=x;exact ⟨mA,⟨od,es,ep,k _ _ (.inl rfl) e,c⟩,r⟩
 | rng lo hi=>obtain ⟨t,u,v,e⟩:=x;exact ⟨t,u,v,k _ _ (.inl rfl) e⟩
 | frz ob u ih=>obtain ⟨e,q⟩:=x;exact ⟨k _ _ (.inl rfl) e,ih q⟩
 | tbl ps =>
  have e:h.get? a=some { cls:=.none,data:=.fields ps }:=x
  show h'.get? a=some { cls:=.none,data:=.fields ps }
  exact k a _ (.inl rfl) e
 | met f y =>
  have e:h.get? a=some (W.methodObj (.ref f) (.ref y)):=x
  show h'.get? a=some (W.methodObj (.ref f) (.ref y))
  exact k a _ (.inl rfl) e
 | ext φ=>obtain ⟨p,⟨o,e⟩,st⟩:=x;exact ⟨st _ _ p fun o q=>k _ _ (.inl rfl) q,⟨o,k _ _ (.inl rfl) e⟩,st⟩
theorem HOk.lt (x:HOk P w H h)(e:H a=some o):a<h.objs.size:=(x a o e).lt
theorem HOk.fresh (x:HOk P w H h)(e:h.objs.size≤a):H a=none:=by
 cases q:H a with
 | none=>rfl
 | some u=>exact absurd (zM (x.lt q) e) (qF _)
theorem HOk.kept (x:HOk P w H h)(k:∀ b u,h.get? b=some u→h'.get? b=some u):HOk P w H h':=fun a o e =>
 (x a o e).stay (fun b u _ q=>k b u q) (fun _ q=>q) fun _ _ q=>q
theorem HOk.laid (x:HOk P w H h)(k:∀ b u,h.get? b=some u→h'.get? b=some u)(hp:h.objs.size≤a)(new:BM P w (upd H a o) h' a o):HOk P w (upd H a o) h':=fun b u e=>by
 have hn:=x.fresh hp
 by_cases hb:b=a
 ·subst hb;rw [AM] at e;cases e;exact new
 ·rw [AO hb] at e
  exact (x b u e).stay (fun c v _ q=>k c v q) (fun c q=>by rw [AO (Af q hn)];exact q) fun c xs q=>by rw [AO (Af q hn)];exact q
end
noncomputable def Rd (H:Hp)(a:Addr)(u:HO):Prop:=H a=some u∨∃ o,H a=some (.frz o u)
theorem Rd.ok {P:Program}{w:World}{H:Hp}{h:Heap}{a:Addr}{u:HO}(r:Rd H a u)(x:HOk P w H h):BM P w H h a u:=by
 rcases r with r | ⟨o,r⟩
 ·exact x a u r
 ·obtain ⟨_,q⟩:=x a _ r
  exact q
noncomputable def Mut:Option HO→Prop
 | some (.lst _)=>True
 | some (.dK _)=>True
 | some (.dT _)=>True
 | some (.set _ _)=>True
 | some (.ins _ _ _)=>True
 | some (.ext _)=>True
 | _=>False
section
variable {P:Program} {w:World} {H:Hp} {h h':Heap} {x e:Addr} {o':HO}
theorem HOk.write (ok:HOk P w H h)(mu:Mut (H x))(he:e=x∨H e=some (.own x))(k:∀ b u,b≠e→h.get? b=some u→h'.get? b=some u)(heo:∃ u,h'.get? e=some u)
  (new:BM P w (upd H x o') h' x o'):HOk P w (upd H x o') h':=fun b u q=>by
 have nown:∀ c y,H c=some (.own y)→c≠x:=fun c y r z=>by subst z;rw [r] at mu;exact mu
 have ntup:∀ c xs,H c=some (.tup xs)→c≠x:=fun c xs r z=>by subst z;rw [r] at mu;exact mu
 by_cases hb:b=x
 ·subst hb;rw [AM] at q;cases q;exact new
 ·rw [AO hb] at q
  by_cases hbe:b=e
  ·have q':H b=some (.own x):=by
    rcases he with z | z
    ·exact absurd (hbe.trans z) hb
    ·rw [hbe];exact z
   rw [q] at q';cases q'
   obtain ⟨v,hv⟩:=heo
   exact ⟨v,by rw [hbe];exact hv⟩
  ·refine (ok b u q).stay (fun c v hc r=>k c v ?_ r) (fun c r=>by rw [AO (nown c b r)];exact r) fun c xs r=>by rw [AO (ntup c xs r)];exact r
   rcases hc with rfl | hc
   ·exact hbe
   ·rintro rfl
    rcases he with z | z
    ·exact nown c b hc z
    ·rw [hc] at z;cases z;exact hb rfl
end
structure Un (fs ex:List Addr)(H H':Hp)(h h':Heap):Prop where
 keep:∀ b o,h.get? b=some o→H b=none→b∉fs→b∉ex→h'.get? b=some o
 slot:∀ b o,h.get? b=some o→H b=none→b∈fs→b∉ex→∃ sl,h'.get? b=some { o with slots:=sl }
 free:∀ b o,h.get? b=some o→H b=none→b∉ex→H' b=none
 there:∀ b o,h.get? b=some o→b∉ex→∃ o',h'.get? b=some o'
 tups:∀ b xs,H b=some (.tup xs)→H' b=some (.tup xs)
 frzs:∀ b o u,H b=some (.frz o u)→H' b=some (.frz o u)
 tbls:∀ b ps,H b=some (.tbl ps)→∃ more,H' b=some (.tbl (ps++more))
section
variable {fs fs' ex ex':List Addr} {H H1 H2:Hp} {h h1 h2 h':Heap} {a x e:Addr} {o:HO}
theorem Un.any (u:Un fs ex H H1 h h1){b:Addr}{ob:Obj}(q:h.get? b=some ob)(n:H b=none)(hx:b∉ex):∃ sl,h1.get? b=some { ob with slots:=sl }:=by
 by_cases hb:b∈fs
 ·exact u.slot b ob q n hb hx
 ·exact ⟨ob.slots,u.keep b ob q n hb hx⟩
theorem Un.kept (k:∀ b u,h.get? b=some u→h'.get? b=some u):Un fs ex H H h h':=
 ⟨fun b ob q _ _ _=>k b ob q,fun b ob q _ _ _=>⟨ob.slots,k b ob q⟩,fun _ _ _ n _=>n,fun b ob q _=>⟨ob,k b ob q⟩,fun _ _ q=>q,fun _ _ _ q=>q,fun _ ps q=>⟨#[],by rw [q];simp⟩⟩
theorem Un.refl:Un fs ex H H h h:=Un.kept fun _ _ q=>q
theorem Un.laid (k:∀ b u,h.get? b=some u→h'.get? b=some u)(hp:h.objs.size≤a)(hn:H a=none):Un fs ex H (upd H a o) h h' where
 keep:=fun b u q _ _ _=>k b u q
 slot:=fun b u q _ _ _=>⟨u.slots,k b u q⟩
 free:=fun b u q n _=>by rw [AO (ze (zM (zJ q) hp))];exact n
 there:=fun b u q _=>⟨u,k b u q⟩
 tups:=fun b xs q=>by rw [AO (Af q hn)];exact q
 frzs:=fun b u xs q=>by rw [AO (Af q hn)];exact q
 tbls:=fun b ps q=>⟨#[],by rw [AO (Af q hn),q];simp⟩
theorem Un.write (mu:Mut (H x))(he:e=x∨H e=some (.own x))(k:∀ b u,b≠e→h.get? b=some u→h'.get? b=some u)(heo:∃ u,h'.get? e=some u):Un fs ex H (upd H x o) h h':=by
 have hx:∀ b,H b=none→b≠x:=fun b n z=>by subst z;rw [n] at mu;exact mu
 have hb:∀ b,H b=none→b≠e:=fun b n z=>by
  subst z
  rcases he with r | r
  ·exact hx b n r
  ·rw [n] at r;cases r
 have hm:∀ b u,H b=some u→¬ Mut (some u)→b≠x:=fun b u q nm z=>by subst z;rw [q] at mu;exact nm mu
 refine ⟨fun b u q n _ _=>k b u (hb b n) q,fun b u q n _ _=>⟨u.slots,k b u (hb b n) q⟩,fun b u q n _=>by rw [AO (hx b n)];exact n,fun b u q _=>?_,
  fun b xs q=>by rw [AO (hm b _ q fun z=>z)];exact q,fun b u xs q=>by rw [AO (hm b _ q fun z=>z)];exact q,fun b ps q=>⟨#[],by rw [AO (hm b _ q fun z=>z),q];simp⟩⟩
 by_cases hbe:b=e
 ·subst hbe;exact heo
 ·exact ⟨u,k b u hbe q⟩
end
noncomputable def trk (h:Heap)(H:Hp):List Addr:=(List.range h.objs.size).filter fun a=>(H a).isSome
noncomputable def T1 (h:Heap)(H:Hp):Heap:=W.hideAll h (trk h H)
theorem XN (h:Heap)(H:Hp):(T1 h H).objs.size=h.objs.size:=W.hideAll_size _ _
theorem Y9 {h:Heap}{H:Hp}{b:Addr}{o:Obj}(e:h.get? b=some o)(n:H b=none):(T1 h H).get? b=some o:=
 W.hideAll_get _ e fun hm=>by
  have q:(H b).isSome=true:=(zz.mp hm).2
  rw [n] at q;simp at q
theorem Zt {h:Heap}{H:Hp}{b:Addr}{o:Obj}(e:(T1 h H).get? b=some o):h.get? b=some o∧H b=none:=by
 have e':h.get? b=some o:=W.of_hideAll (trk h H) e
 refine ⟨e',?_⟩
 cases q:H b with
 | none=>rfl
 | some x =>
  have hm:b∈trk h H:=zz.mpr ⟨List.mem_range.mpr (zJ e'),by simp [q]⟩
  have z:(T1 h H).get? b=none:=W.hideAll_none (trk h H) hm
  rw [z] at e;cases e
structure Mod (K:W.Frag)(mg:Str→Option Value)(base:Heap):Prop where
 kin:K.In base
 glob:base.Ns mainGlobals mg
 blt:∃ mb,base.Ns builtinsNs mb∧∀ x:Str,x≠"__name__"→mb x=bootBuiltins x
 nolimit:base.NoLimit
structure Cx where
 prog:Program
 w:World
 K:W.Frag
 mg:Str→Option Value
 base:Heap
 A:Around
 N:List Str
 s₀:Shared
 H₀:Hp
 env:Env
 outer:List Env
 stack:List Env
 ex:List Addr
 fn:Str→Bool
 calm:Bool
 pn:List (Addr×Obj)
 xe:Value→Shared→Prop
noncomputable def frs (l:List Env):List Addr:=l.filterMap (·.frame)
noncomputable abbrev Cx.fs (X:Cx):List Addr:=frs X.outer
noncomputable def Vis (sc:Scope)(x:Str):Prop:=sc.names.lookup x=some .local∨sc.names.lookup x=some .cell∨sc.names.lookup x=some .free
noncomputable def Loc (sc:Scope)(x:Str):Prop:=sc.names.lookup x=some .local∨sc.names.lookup x=some .cell
noncomputable def Look (env:Env)(h:Heap)(m:Str→Option Value)(x:Str)(u:Value):Prop:=
 (env.kindOf x=some .local∧m x=some u)∨((env.kindOf x=some .cell∨env.kindOf x=some .free)∧∃ c,env.cells.lookup x=some c∧h.IsCell c (some u))
structure Cx.Ok (X:Cx):Prop where
 mod:Mod X.K X.mg X.base
 kind:X.env.scope.kind = .function
 glob:X.env.globals=mainGlobals
 blt:X.env.builtins=builtinsNs
 above:X.s₀.heap.objs.size≤X.env.locals
 inj:∀ x y c,X.env.cells.lookup x=some c→X.env.cells.lookup y=some c→x=y
 has:∀ x,(X.env.kindOf x=some .cell∨X.env.kindOf x=some .free)→∃ c,X.env.cells.lookup x=some c
 cab:∀ x c,X.fn x=true→X.env.cells.lookup x=some c→X.s₀.heap.objs.size≤c
 hd:X.calm=true→X.A.handled=none
 frames:X.A.frames=some X.stack
 stk:X.stack=X.outer∨(X.stack=X.env::X.outer∧X.env.frame=some X.env.locals)
 exf:∀ b∈X.ex,b≠X.env.locals∧∀ x c,X.env.cells.lookup x=some c→c≠b
 bs:∀ b o,X.base.get? b=some o→X.s₀.heap.get? b=some o∧X.H₀ b=none
 bsz:X.base.objs.size≤X.s₀.heap.objs.size
 noex:∀ b o,X.base.get? b=some o→b∉X.ex
 exfs:∀ b∈X.ex,b∉X.fs
 funs:X.s₀.heap.FunFrames X.base X.outer
 frf:∀ b∈X.fs,X.H₀ b=none
structure Inv (X:Cx)(pins:List (Addr×Obj))(σ:List (Option V))(H:Hp)(s:Shared):Prop where
 ok:X.Ok
 os:s.os=X.s₀.os
 bare:AllBare s.gens
 base:Un X.fs X.ex X.H₀ H X.s₀.heap s.heap
 loc:∃ m,s.heap.Ns X.env.locals m∧∀ (i:Nat) (x:Str) (v:V),X.N[i]? = some x→σ[i]? = some (some v)→Vis X.env.scope x→∃ u,RelV v u∧Look X.env s.heap m x u
 cell:∀ x c,X.env.cells.lookup x=some c→∃ v,s.heap.IsCell c v
 free:H X.env.locals=none
 freeC:∀ x c,X.env.cells.lookup x=some c→H c=none
 pin:∀ p∈X.pn++pins,s.heap.get? p.1=some p.2∧H p.1=none∧p.1≠X.env.locals∧p.1∉X.fs∧∀ v,p.2.data≠.cell v
 hok:HOk X.prog X.w H s.heap
 len:σ.length=X.N.length
section
variable {X:Cx} {pins:List (Addr×Obj)} {σ:List (Option V)} {H H':Hp} {s:Shared} {h':Heap}
theorem Cx.Ok.nofr (ok:X.Ok){b:Addr}{o:Obj}(e:X.base.get? b=some o):b∉X.fs:=fun hb=>by
 have:=(ok.funs.mem hb).1
 rw [e] at this;cases this
theorem Inv.bs (I:Inv X pins σ H s):∀ b o,X.base.get? b=some o→s.heap.get? b=some o∧H b=none:=fun b o e =>
 ⟨I.base.keep b o (I.ok.bs b o e).1 (I.ok.bs b o e).2 (I.ok.nofr e) (I.ok.noex b o e),I.base.free b o (I.ok.bs b o e).1 (I.ok.bs b o e).2 (I.ok.noex b o e)⟩
theorem Inv.bk (I:Inv X pins σ H s):∀ b o,X.base.get? b=some o→s.heap.get? b=some o:=fun b o e=>(I.bs b o e).1
theorem Inv.mod (I:Inv X pins σ H s):Mod X.K X.mg X.base:=I.ok.mod
theorem Inv.kIn (I:Inv X pins σ H s):X.K.In s.heap:=I.ok.mod.kin.keeps I.bk
theorem Inv.lt (I:Inv X pins σ H s):X.env.locals<s.heap.objs.size:=let ⟨_,hn,_⟩:=I.loc;hn.lt
theorem Inv.sz (I:Inv X pins σ H s):X.s₀.heap.objs.size≤s.heap.objs.size:=zO I.ok.above (Nat.le_of_lt I.lt)
theorem Inv.nofs (I:Inv X pins σ H s){a:Addr}(h:s.heap.objs.size≤a):a∉X.fs:=fun hb=>by
 obtain ⟨_,o,ho,_⟩:=I.ok.funs.mem hb
 exact absurd (zM (zJ ho) (zO I.sz h)) (qF _)
theorem Inv.cne (I:Inv X pins σ H s):∀ x c,X.env.cells.lookup x=some c→c≠X.env.locals:=fun x c e z=>by
 obtain ⟨v,o,ho,hd⟩:=I.cell x c e
 obtain ⟨m,⟨o',es,ep,ho',hd',_⟩,_⟩:=I.loc
 rw [z,ho'] at ho;cases ho;rw [hd'] at hd;cases hd
theorem Inv.funs (I:Inv X pins σ H s):s.heap.FunFrames X.base X.outer:=by
 have all:∀ (l:List Env),(∀ b∈frs l,b∈X.fs)→X.s₀.heap.FunFrames X.base l→s.heap.FunFrames X.base l:=by
  intro l
  induction l with
  | nil=>intro _ _;trivial
  | cons env r ih =>
   intro hs hl
   obtain ⟨hk,⟨L,o,hf,hn,ho,hd⟩,hr⟩:=hl
   have hL:L∈X.fs:=hs L (by unfold frs;rw [qT,hf];exact zP)
   obtain ⟨sl,e⟩:=I.base.slot L o ho (I.ok.frf L hL) hL fun z=>I.ok.exfs L z hL
   exact ⟨hk,⟨L,_,hf,hn,e,hd⟩,ih (fun b hb=>hs b (by unfold frs;rw [qT,hf];exact zK _ hb)) hr⟩
 exact all X.outer (fun _ hb=>hb) I.ok.funs
theorem Inv.stack (I:Inv X pins σ H s):s.heap.FunFrames X.base X.stack:=by
 rcases I.ok.stk with e | ⟨e,hf⟩
 ·rw [e];exact I.funs
 ·rw [e]
  obtain ⟨m,hn,_⟩:=I.loc
  refine .cons (by rw [I.ok.kind];decide) hf hn ?_ I.funs
  exact Heap.get?_none_of_le (zO I.ok.bsz I.ok.above)
theorem Inv.stkSub (I:Inv X pins σ H s):∀ b∈frs X.stack,b∈X.env.locals::X.fs:=fun b hb=>by
 rcases I.ok.stk with e | ⟨e,hf⟩
 ·rw [e] at hb;exact zK _ hb
 ·rw [e] at hb
  unfold frs at hb
  rw [qT,hf] at hb
  exact hb
theorem Inv.stkFree (I:Inv X pins σ H s):∀ b∈frs X.stack,H b=none:=fun b hb=>by
 rcases zF.mp (I.stkSub b hb) with e | hb
 ·rw [e];exact I.free
 ·obtain ⟨_,o,ho,_⟩:=I.ok.funs.mem hb
  exact I.base.free b o ho (I.ok.frf b hb) fun z=>I.ok.exfs b z hb
theorem Inv.step {g':Array GenState}{t':Nat}{d':Drawn}{ch:List Addr}(I:Inv X pins σ H s)
  (hch:∀ b∈ch,(b∈X.ex∨X.s₀.heap.objs.size≤b)∧b≠X.env.locals∧(∀ x c,X.env.cells.lookup x=some c→c≠b)∧∀ p∈X.pn++pins,p.1≠b)
  (keep:∀ b o,b≠X.env.locals→b∉X.fs→b∉ch→s.heap.get? b=some o→H b=none→h'.get? b=some o)
  (slot:∀ b o,b≠X.env.locals→b∈X.fs→b∉ch→s.heap.get? b=some o→H b=none→∃ sl,h'.get? b=some { o with slots:=sl }) (free:∀ b o,b∉ch→s.heap.get? b=some o→H b=none→H' b=none)
  (there:∀ b o,b∉ch→s.heap.get? b=some o→∃ o',h'.get? b=some o')
  (tups:∀ b xs,H b=some (.tup xs)→H' b=some (.tup xs)) (frzs:∀ b o u,H b=some (.frz o u)→H' b=some (.frz o u)) (tbls:∀ b ps,H b=some (.tbl ps)→∃ more,H' b=some (.tbl (ps++more)))
  (ns:∀ m,s.heap.Ns X.env.locals m→h'.Ns X.env.locals m) (hok:HOk X.prog X.w H' h') (hg:AllBare g') :
  Inv X pins σ H' { s with heap:=h',gens:=g',drawn:=d',toks:=t' }:=by
 have neL:∀ b o,X.s₀.heap.get? b=some o→b≠X.env.locals:=fun b o e=>ze (zM (zJ e) I.ok.above)
 have neC:∀ b o,X.s₀.heap.get? b=some o→b∉X.ex→b∉ch:=fun b o e hx hb=>by
  rcases (hch b hb).1 with z | z
  ·exact hx z
  ·exact absurd (zM (zJ e) z) (qF _)
 have cellK:∀ x c,X.env.cells.lookup x=some c→∀ v,s.heap.IsCell c v→h'.IsCell c v:=fun x c e v ⟨o,ho,hd⟩=>by
  have nch:c∉ch:=fun z=>(hch c z).2.2.1 x c e rfl
  by_cases hc:c∈X.fs
  ·obtain ⟨sl,q⟩:=slot c o (I.cne x c e) hc nch ho (I.freeC x c e)
   exact ⟨_,q,hd⟩
  ·exact ⟨o,keep c o (I.cne x c e) hc nch ho (I.freeC x c e),hd⟩
 refine ⟨I.ok,I.os,hg,⟨fun b o e n hb hx=>?_,fun b o e n hb hx=>?_,fun b o e n hx=>?_,fun b o e hx=>?_,fun b xs e=>tups b xs (I.base.tups b xs e),fun b o xs e=>frzs b o xs (I.base.frzs b o xs e),fun b ps e=>?_⟩,?_,fun x c e=>?_,?_,fun x c e=>?_,fun p hp=>?_,hok,I.len⟩
 ·exact keep b o (neL b o e) hb (neC b o e hx) (I.base.keep b o e n hb hx) (I.base.free b o e n hx)
 ·obtain ⟨sl,e1⟩:=I.base.slot b o e n hb hx
  obtain ⟨sl',e2⟩:=slot b _ (neL b o e) hb (neC b o e hx) e1 (I.base.free b o e n hx)
  exact ⟨sl',e2⟩
 ·obtain ⟨o',e1⟩:=I.base.there b o e hx
  exact free b o' (neC b o e hx) e1 (I.base.free b o e n hx)
 ·obtain ⟨o',e1⟩:=I.base.there b o e hx
  exact there b o' (neC b o e hx) e1
 ·obtain ⟨m1,e1⟩:=I.base.tbls b ps e
  obtain ⟨m2,e2⟩:=tbls b _ e1
  exact ⟨m1++m2,by rw [e2,Array.append_assoc]⟩
 ·obtain ⟨m,hn,hl⟩:=I.loc
  refine ⟨m,ns m hn,fun i x v e1 e2 e3=>?_⟩
  obtain ⟨u,r,l⟩:=hl i x v e1 e2 e3
  refine ⟨u,r,?_⟩
  rcases l with l | ⟨k,c,e,z⟩
  ·exact .inl l
  ·exact .inr ⟨k,c,e,cellK x c e _ z⟩
 ·obtain ⟨v,z⟩:=I.cell x c e
  exact ⟨v,cellK x c e v z⟩
 ·obtain ⟨m,⟨o,_,_,ho,_⟩,_⟩:=I.loc
  exact free _ o (fun z=>(hch _ z).2.1 rfl) ho I.free
 ·obtain ⟨v,o,ho,hd⟩:=I.cell x c e
  exact free c o (fun z=>(hch c z).2.2.1 x c e rfl) ho (I.freeC x c e)
 ·obtain ⟨e,n,ne,nf,d⟩:=I.pin p hp
  have nch:p.1∉ch:=fun z=>(hch p.1 z).2.2.2 p hp rfl
  exact ⟨keep p.1 p.2 ne nf nch e n,free p.1 p.2 nch e n,ne,nf,d⟩
theorem Inv.un {t':Nat}(I:Inv X pins σ H s)(u:Un X.fs [] H H' s.heap h')(hok:HOk X.prog X.w H' h'):Inv X pins σ H' { s with heap:=h',toks:=t' }:=by
 obtain ⟨m,⟨o,es,ep,ho,r⟩,_⟩:=id I.loc
 obtain ⟨sl,hL⟩:=u.any ho I.free (by simp)
 exact I.step (g':=s.gens) (d':=s.drawn) (ch:=[]) (fun _ z=>nomatch z) (fun b o _ hb _ e n=>u.keep b o e n hb (by simp)) (fun b o _ hb _ e n=>u.slot b o e n hb (by simp)) (fun b o _ e n=>u.free b o e n (by simp)) (fun b o _ e=>u.there b o e (by simp)) u.tups u.frzs u.tbls (fun m' hm=>by
  obtain ⟨o',es',ep',ho',r'⟩:=hm
  rw [ho] at ho';cases ho'
  exact ⟨_,es',ep',hL,r'⟩) hok I.bare
theorem Inv.call {g':Array GenState}{t':Nat}{d':Drawn}{ch:List Addr}(I:Inv X pins σ H s)(u:Un (frs X.stack) ch H H' s.heap h')(hok:HOk X.prog X.w H' h')(hg:AllBare g')
  (hch:∀ b∈ch,(b∈X.ex∨X.s₀.heap.objs.size≤b)∧b≠X.env.locals∧(∀ x c,X.env.cells.lookup x=some c→c≠b)∧∀ p∈X.pn++pins,p.1≠b) :
  Inv X pins σ H' { s with heap:=h',gens:=g',drawn:=d',toks:=t' }:=by
 obtain ⟨m,⟨o,es,ep,ho,r⟩,_⟩:=id I.loc
 obtain ⟨sl,hL⟩:=u.any ho I.free fun z=>(hch _ z).2.1 rfl
 exact I.step (ch:=ch) hch (fun b o hL hb hc e n=>u.keep b o e n (fun z=>(zF.mp (I.stkSub b z)).elim hL hb) hc) (fun b o _ _ hc e n=>u.any e n hc) (fun b o hc e n=>u.free b o e n hc) (fun b o hc e=>u.there b o e hc) u.tups u.frzs u.tbls (fun m' hm=>by
  obtain ⟨o',es',ep',ho',r'⟩:=hm
  rw [ho] at ho';cases ho'
  exact ⟨_,es',ep',hL,r'⟩) hok hg
theorem Inv.turned {t':Nat}{it:Addr}(I:Inv X pins σ H s)(k:∀ b o,b≠it→s.heap.get? b=some o→h'.get? b=some o)(hn:H it=none)(hL:it≠X.env.locals)
  (h1:it∈X.ex∨X.s₀.heap.objs.size≤it) (h2:∀ x c,X.env.cells.lookup x=some c→c≠it) (h3:∀ p∈X.pn++pins,p.1≠it):Inv X pins σ H { s with heap:=h',toks:=t' }:=by
 have nit:∀ b u,H b=some u→b≠it:=fun b u e z=>by rw [z,hn] at e;cases e
 refine I.step (g':=s.gens) (d':=s.drawn) (ch:=[it]) (fun b hb=>?_) (fun b o _ _ hc e _=>k b o (fun z=>hc (by simp [z])) e) (fun b o _ _ hc e _=>⟨o.slots,k b o (fun z=>hc (by simp [z])) e⟩) (fun _ _ _ _ n=>n)
  (fun b o hc e=>⟨o,k b o (fun z=>hc (by simp [z])) e⟩) (fun _ _ e=>e) (fun _ _ _ e=>e) (fun b ps e=>⟨#[],by rw [e];simp⟩) (fun m hm=>?_) (fun b u e=>?_) I.bare
 ·have e:b=it:=by simpa using hb
  subst e
  exact ⟨h1,hL,h2,h3⟩
 ·obtain ⟨o,es,ep,ho,r⟩:=hm
  exact ⟨o,es,ep,k _ o (Ne.symm hL) ho,r⟩
 ·refine (I.hok b u e).stay (fun c v hc q=>k c v ?_ q) (fun _ q=>q) fun _ _ q=>q
  rcases hc with z | z
  ·rw [z];exact nit b u e
  ·exact nit c _ z
theorem Inv.tok (I:Inv X pins σ H s)(t:Nat):Inv X pins σ H { s with toks:=t }:=I.un (h':=s.heap) (t':=t) Un.refl I.hok
theorem Inv.kept {t':Nat}(I:Inv X pins σ H s)(k:∀ b u,s.heap.get? b=some u→h'.get? b=some u):Inv X pins σ H { s with heap:=h',toks:=t' }:=I.un (Un.kept k) (I.hok.kept k)
theorem Inv.laid {a:Addr}{o:HO}{t':Nat}(I:Inv X pins σ H s)(k:∀ b u,s.heap.get? b=some u→h'.get? b=some u)(hp:s.heap.objs.size≤a)(new:BM X.prog X.w (upd H a o) h' a o) :
  Inv X pins σ (upd H a o) { s with heap:=h',toks:=t' }:=I.un (Un.laid k hp (I.hok.fresh hp)) (I.hok.laid k hp new)
theorem Inv.write {x e:Addr}{o:HO}{t':Nat}(I:Inv X pins σ H s)(mu:Mut (H x))(he:e=x∨H e=some (.own x))(k:∀ b u,b≠e→s.heap.get? b=some u→h'.get? b=some u)(heo:∃ u,h'.get? e=some u)
  (new:BM X.prog X.w (upd H x o) h' x o):Inv X pins σ (upd H x o) { s with heap:=h',toks:=t' }:=I.un (Un.write mu he k heo) (I.hok.write mu he k heo new)
theorem Inv.pins_of {pins':List (Addr×Obj)}(I:Inv X pins σ H s)(h:∀ p∈pins',s.heap.get? p.1=some p.2∧H p.1=none∧p.1≠X.env.locals∧p.1∉X.fs∧∀ v,p.2.data≠.cell v):Inv X pins' σ H s:=
 ⟨I.ok,I.os,I.bare,I.base,I.loc,I.cell,I.free,I.freeC,fun p hp=>(zb.mp hp).elim (fun z=>I.pin p (qD _ z)) (h p),I.hok,I.len⟩
theorem U4 {N:List Str}(hN:N.Nodup){i j:Nat}{x:Str}(a:N[i]? = some x)(b:N[j]? = some x):i=j:=by
 obtain ⟨h1,e1⟩:=zC.mp a
 obtain ⟨h2,e2⟩:=zC.mp b
 exact (List.getElem_inj hN).mp (e1.trans e2.symm)
theorem R7 {M:Model}{A:Around}{E:Value→Shared→Prop}{i:Nat}{x:Str}{v:V}{u:Value}{Q:Unit→Shared→Prop}(I:Inv X pins σ H s)(hN:X.N.Nodup)(hi:X.N[i]? = some x)(hx:Loc X.env.scope x)(r:RelV v u)
  (h:∀ s',Inv X pins (σ.set i (some v)) H s'→(∃ a,Heap.SameBut a s.heap s'.heap∧(a=X.env.locals∨X.env.cells.lookup x=some a))→Q () s') (hf:X.fn x=true∨X.env.scope.names.lookup x=some .local:=by first | exact .inl rfl | exact .inr rfl | assumption):wpAny M A (storeName X.env x u) Q E s:=by
 obtain ⟨m,hn,hl⟩:=id I.loc
 have hcls:(X.env.scope.kind == .class || (X.env.scope.kind == .module && X.env.locals != X.env.globals))=false:=by rw [I.ok.kind];rfl
 have hiσ:i<σ.length:=by rw [I.len];exact (zC.mp hi).1
 have cne:=I.cne
 have tracked:∀ {a:Addr} {h':Heap},(∃ o,s.heap.get? a=some o∧H a=none)→Heap.SameBut a s.heap h'→HOk X.prog X.w H h':=fun {a h'} ha hs b ob e=>by
  obtain ⟨_,_,hfree⟩:=ha
  refine (I.hok b ob e).stay (fun c w' hc q=>(hs.2 c ?_).trans q) (fun _ q=>q) fun _ _ q=>q
  rintro rfl
  rcases hc with rfl | hc
  ·rw [hfree] at e;cases e
  ·rw [hfree] at hc;cases hc
 rcases hx with hk | hk
 ·refine wpAny_storeName_local hk hn (fun h' hn' hs=>?_) hcls
  obtain ⟨oL,_,_,hoL,_⟩:=id hn
  refine h _ ⟨I.ok,I.os,I.bare,⟨fun b o e n hb hx=>?_,fun b o e n hb hx=>?_,I.base.free,fun b o e hx=>?_,I.base.tups,I.base.frzs,I.base.tbls⟩,⟨_,hn',fun j y v' e1 e2 e3=>?_⟩,fun y c e=>?_,I.free,I.freeC,fun p hp=>?_,tracked ⟨oL,hoL,I.free⟩ hs,by simpa using I.len⟩ ⟨_,hs,.inl rfl⟩
  ·exact (hs.2 b (ze (zM (zJ e) I.ok.above))).trans (I.base.keep b o e n hb hx)
  ·obtain ⟨sl,e1⟩:=I.base.slot b o e n hb hx
   exact ⟨sl,(hs.2 b (ze (zM (zJ e) I.ok.above))).trans e1⟩
  ·obtain ⟨o',e1⟩:=I.base.there b o e hx
   exact ⟨o',(hs.2 b (ze (zM (zJ e) I.ok.above))).trans e1⟩
  ·by_cases hj:j=i
   ·subst hj
    rw [hi] at e1;cases e1
    rw [List.getElem?_set_self hiσ] at e2
    cases e2
    exact ⟨u,r,.inl ⟨hk,by simp⟩⟩
   ·rw [List.getElem?_set_ne (Ne.symm hj)] at e2
    obtain ⟨u',r',q⟩:=hl j y v' e1 e2 e3
    refine ⟨u',r',?_⟩
    rcases q with ⟨k,e⟩ | ⟨k,c,e,z⟩
    ·refine .inl ⟨k,?_⟩
     have:y≠x:=fun e=>hj (U4 hN e1 (e▸hi))
     simp [this,e]
    ·exact .inr ⟨k,c,e,z.sameBut hs (cne y c e)⟩
  ·obtain ⟨w',z⟩:=I.cell y c e
   exact ⟨w',z.sameBut hs (cne y c e)⟩
  ·obtain ⟨e,n,ne,nf,d⟩:=I.pin p hp
   exact ⟨(hs.2 p.1 ne).trans e,n,ne,nf,d⟩
 ·have hfn:X.fn x=true:=by
   rcases hf with z | z
   ·exact z
   ·rw [z] at hk;cases hk
  obtain ⟨c,hc⟩:=I.ok.has x (.inl hk)
  obtain ⟨w',z⟩:=I.cell x c hc
  refine wpAny_storeName_cell I.ok.kind hk hc z (fun h' hc' hs=>?_)
  obtain ⟨oc,hoc,hocd⟩:=id z
  refine h { s with heap:=h' } ⟨I.ok,I.os,I.bare,⟨fun b o e n hb hx=>?_,fun b o e n hb hx=>?_,I.base.free,fun b o e hx=>?_,I.base.tups,I.base.frzs,I.base.tbls⟩,⟨m,hn.sameBut hs (Ne.symm (cne x c hc)),fun j y v' e1 e2 e3=>?_⟩,fun y c' e=>?_,I.free,I.freeC,fun p hp=>?_,tracked ⟨oc,hoc,I.freeC x c hc⟩ hs,by simpa using I.len⟩ ⟨c,hs,.inr hc⟩
  ·exact (hs.2 b (ze (zM (zJ e) (I.ok.cab x c hfn hc)))).trans (I.base.keep b o e n hb hx)
  ·obtain ⟨sl,e1⟩:=I.base.slot b o e n hb hx
   exact ⟨sl,(hs.2 b (ze (zM (zJ e) (I.ok.cab x c hfn hc)))).trans e1⟩
  ·obtain ⟨o',e1⟩:=I.base.there b o e hx
   exact ⟨o',(hs.2 b (ze (zM (zJ e) (I.ok.cab x c hfn hc)))).trans e1⟩
  ·by_cases hj:j=i
   ·subst hj
    rw [hi] at e1;cases e1
    rw [List.getElem?_set_self hiσ] at e2
    cases e2
    exact ⟨u,r,.inr ⟨.inl hk,c,hc,hc'⟩⟩
   ·rw [List.getElem?_set_ne (Ne.symm hj)] at e2
    obtain ⟨u',r',q⟩:=hl j y v' e1 e2 e3
    refine ⟨u',r',?_⟩
    rcases q with q | ⟨k,c',e,z'⟩
    ·exact .inl q
    ·refine .inr ⟨k,c',e,z'.sameBut hs ?_⟩
     rintro rfl
     exact hj (U4 hN e1 (I.ok.inj _ _ _ e hc▸hi))
  ·by_cases hcc:c'=c
   ·subst hcc;exact ⟨_,hc'⟩
   ·obtain ⟨w2,z2⟩:=I.cell y c' e
    exact ⟨w2,z2.sameBut hs hcc⟩
  ·obtain ⟨e,n,ne,nf,d⟩:=I.pin p hp
   refine ⟨(hs.2 p.1 ?_).trans e,n,ne,nf,d⟩
   intro q
   rw [q,hoc] at e
   have q':oc=p.2:=zV e
   exact d w' (by rw [← q'];exact hocd)
theorem NW {M:Model}{A:Around}{E:Value→Shared→Prop}{i:Nat}{x:Str}{v:V}{u:Value}{Q:Unit→Shared→Prop}(I:Inv X pins σ H s)(hN:X.N.Nodup)(hi:X.N[i]? = some x)(hx:Loc X.env.scope x)(r:RelV v u)
  (h:∀ s',Inv X pins (σ.set i (some v)) H s'→Q () s') (hf:X.fn x=true∨X.env.scope.names.lookup x=some .local:=by first | exact .inl rfl | exact .inr rfl | assumption):wpAny M A (storeName X.env x u) Q E s:=
 R7 I hN hi hx r (fun s' I' _=>h s' I') hf
theorem Inv.call' {s':Shared}{ch:List Addr}(I:Inv X pins σ H s)(ho:s'.os=s.os)(u:Un (frs X.stack) ch H H' s.heap s'.heap)(hok:HOk X.prog X.w H' s'.heap)(hg:AllBare s'.gens)
  (hch:∀ b∈ch,(b∈X.ex∨X.s₀.heap.objs.size≤b)∧b≠X.env.locals∧(∀ x c,X.env.cells.lookup x=some c→c≠b)∧∀ p∈X.pn++pins,p.1≠b):Inv X pins σ H' s':=by
 obtain ⟨h',g',d',t',o'⟩:=s'
 have e:o'=s.os:=ho
 subst e
 exact I.call (g':=g') (t':=t') (d':=d') u hok hg hch
end
noncomputable abbrev XK:=Value→Option Addr→Hp→Prop
noncomputable abbrev St:=List (Option V)
noncomputable abbrev VK:=V→Hp→Prop
noncomputable abbrev TE:=St→Hp→VK→Prop
noncomputable abbrev TT:=St→Hp→(Bool→Hp→Prop)→Prop
noncomputable abbrev TA:=St→Hp→(List V→Hp→Prop)→Prop
structure Ij where
 nx:St→Hp→Prop
 rt:VK
 bk:St→Hp→Prop:=fun _ _=>False
 ct:St→Hp→Prop:=fun _ _=>False
noncomputable abbrev TS:=Ij→St→Hp→Prop
noncomputable def EP (X:Cx)(pins:List (Addr×Obj))(σ:St)(Q:VK)(u:Value)(s':Shared):Prop:=∃ v H',Inv X pins σ H' s'∧RelV v u∧Q v H'
noncomputable def TP (X:Cx)(pins:List (Addr×Obj))(σ:St)(Q:Bool→Hp→Prop)(b:Bool)(s':Shared):Prop:=∃ H',Inv X pins σ H' s'∧Q b H'
noncomputable def AP (X:Cx)(pins:List (Addr×Obj))(σ:St)(Q:List V→Hp→Prop)(us:List Value)(s':Shared):Prop:=∃ vs H',Inv X pins σ H' s'∧An vs us∧Q vs H'
noncomputable def SP (X:Cx)(pins:List (Addr×Obj))(D:Ij)(f:Flow)(s':Shared):Prop:=
 match f with
 | .next=>∃ σ' H',Inv X pins σ' H' s'∧D.nx σ' H'
 | .brk=>∃ σ' H',Inv X pins σ' H' s'∧D.bk σ' H'
 | .cont=>∃ σ' H',Inv X pins σ' H' s'∧D.ct σ' H'
 | .ret u=>∃ v σ' H',Inv X pins σ' H' s'∧RelV v u∧D.rt v H'
noncomputable def PE (X:Cx)(e:Expr)(t:TE):Prop:=
 ∀ (pins:List (Addr×Obj)) (s:Shared) (σ:St) (H:Hp) (Q:VK),Inv X pins σ H s→t σ H Q→wpAny (model X.prog X.w) X.A (eval e X.env) (EP X pins σ Q) X.xe s
noncomputable def PT (X:Cx)(e:Expr)(t:TT):Prop:=
 ∀ (pins:List (Addr×Obj)) (s:Shared) (σ:St) (H:Hp) (Q:Bool→Hp→Prop),Inv X pins σ H s→t σ H Q→wpAny (model X.prog X.w) X.A (isTrue e X.env (eval e X.env)) (TP X pins σ Q) X.xe s
noncomputable def PW (X:Cx)(e:Expr)(t:TT):Prop:=
 ∀ (whole:Sem Value) (pins:List (Addr×Obj)) (s:Shared) (σ:St) (H:Hp) (Q:Bool→Hp→Prop),Inv X pins σ H s→t σ H Q→wpAny (model X.prog X.w) X.A (isTrue e X.env whole) (TP X pins σ Q) X.xe s
theorem PW.pt {X:Cx}{e:Expr}{t:TT}(h:PW X e t):PT X e t:=h _
noncomputable def PA (X:Cx)(es:List Expr)(t:TA):Prop:=
 ∀ (pos:Pos) (pins:List (Addr×Obj)) (s:Shared) (σ:St) (H:Hp) (Q:List V→Hp→Prop),Inv X pins σ H s→t σ H Q→wpAny (model X.prog X.w) X.A (spliced (backTo pos (starEach es X.env))) (AP X pins σ Q) X.xe s
noncomputable def PS (X:Cx)(st:Stmt)(t:TS):Prop:=
 ∀ (pins:List (Addr×Obj)) (s:Shared) (σ:St) (H:Hp) (D:Ij),Inv X pins σ H s→t D σ H→wpAny (model X.prog X.w) X.A (exec st X.env) (SP X pins D) X.xe s
noncomputable def PSs (X:Cx)(st:List Stmt)(t:TS):Prop:=
 ∀ (pins:List (Addr×Obj)) (s:Shared) (σ:St) (H:Hp) (D:Ij),Inv X pins σ H s→t D σ H→wpAny (model X.prog X.w) X.A (execs st X.env) (SP X pins D) X.xe s
theorem thn {α:Type}{t:Sem α}{Q Q':α→Shared→Prop}{M:Model}{A:Around}{E:Value→Shared→Prop}{s:Shared}(h:wpAny M A t Q E s)(hQ:∀ a s,Q a s→Q' a s):wpAny M A t Q' E s:=wpAny_mono h hQ fun _ _ x=>x
section
variable {X:Cx}
noncomputable def Nr (i:Nat):TE:=fun σ H Q=>∃ v,σ[i]? = some (some v)∧Q v H
noncomputable def tC (v:V):TE:=fun _ H Q=>Q v H
theorem fN {i:Nat}{x:Str}{pos:Pos}(hN:X.N[i]? = some x)(hv:Vis X.env.scope x)(hd:(x == ("__debug__":Str))=false:=by decide)(hcd:(x == ("__classdict__":Str))=false:=by decide):PE X (.Name x pos) (Nr i):=by
 intro pins s σ H Q I h
 obtain ⟨v,e,h⟩:=h
 obtain ⟨m,hn,hl⟩:=I.loc
 obtain ⟨u,r,l⟩:=hl i x v hN e hv
 have fin:EP X pins σ Q u s:=⟨v,H,I,r,h⟩
 rcases l with ⟨hk,hm⟩ | ⟨hk,c,hc,hcell⟩
 ·exact wpAny_Name (wpAny_loadName_local I.ok.kind hk hn hm fin) hd
 ·rcases hk with hk | hk
  ·exact wpAny_Name (wpAny_loadName_cell I.ok.kind hk hc hcell fin) hd
  ·exact wpAny_Name (wpAny_loadName_free I.ok.kind hk hc hcell fin hcd) hd
theorem AC {i j pos}:PE X (.Constant (.int i) j pos) (tC (.int i)):=fun _ _ _ H _ I h=>wpAny_Constant_int ⟨.int i,H,I.tok _,⟨_,rfl⟩,h⟩
theorem Jb {b j pos}:PE X (.Constant (.bool b) j pos) (tC (.bl b)):=fun _ _ _ H _ I h=>Constant_bool ⟨.bl b,H,I,rfl,h⟩
theorem Fp {j pos}:PE X (.Constant .none j pos) (tC .non):=fun _ _ _ H _ I h=>Constant_none ⟨.non,H,I,rfl,h⟩
theorem AN {x j pos}:PE X (.Constant (.str x) j pos) (tC (.str x)):=fun _ _ _ H _ I h=>Calls.Constant_str ⟨.str x,H,I.tok _,⟨_,rfl⟩,h⟩
noncomputable def Gl (X:Cx)(x:Str):Prop:=X.env.kindOf x=some .globalImplicit
theorem HM {E:Value→Shared→Prop}{pins:List (Addr×Obj)}{s:Shared}{σ:St}{H:Hp}{x:Str}{u:Value}{pos:Pos}{Q:Value→Shared→Prop}(I:Inv X pins σ H s)(hg:Gl X x)(hm:X.mg x=some u)(h:Q u s)
  (hd:(x == ("__debug__":Str))=false:=by decide):wpAny (model X.prog X.w) X.A (eval (.Name x pos) X.env) Q E s:=
 Calls.Name_function_global I.ok.kind hg (Calls.loadGlobal_global (by rw [I.ok.glob];exact I.mod.glob.keeps I.bk) hm h) hd
theorem Js {E:Value→Shared→Prop}{pins:List (Addr×Obj)}{s:Shared}{σ:St}{H:Hp}{x:Str}{u:Value}{pos:Pos}{Q:Value→Shared→Prop}(I:Inv X pins σ H s)(hg:Gl X x)(hm:X.mg x=none)(hv:bootBuiltins x=some u)(h:Q u s)
  (hn:x≠"__name__":=by decide) (hd:(x == ("__debug__":Str))=false:=by decide):wpAny (model X.prog X.w) X.A (eval (.Name x pos) X.env) Q E s:=by
 obtain ⟨mb,h1,h2⟩:=I.mod.blt
 exact Calls.Name_function_global I.ok.kind hg (Calls.loadGlobal_builtin (by rw [I.ok.glob];exact I.mod.glob.keeps I.bk) hm (by rw [I.ok.blt];exact h1.keeps I.bk) ((h2 x hn).trans hv) h) hd
theorem DX {x:Str}{v:V}{u:Value}{pos:Pos}(hg:Gl X x)(hm:X.mg x=some u)(r:RelV v u)(hd:(x == ("__debug__":Str))=false:=by decide):PE X (.Name x pos) (tC v):=
 fun _ _ _ H _ I h=>HM I hg hm ⟨v,H,I,r,h⟩ hd
theorem TM {x:Str}{v:V}{u:Value}{pos:Pos}(hg:Gl X x)(hm:X.mg x=none)(hv:bootBuiltins x=some u)(r:RelV v u)(hn:x≠"__name__":=by decide)(hd:(x == ("__debug__":Str))=false:=by decide):PE X (.Name x pos) (tC v):=
 fun _ _ _ H _ I h=>Js I hg hm hv ⟨v,H,I,r,h⟩ hn hd
variable {a b:Expr} {ta tb:TE} {pos:Pos}
noncomputable def PC (X:Cx)(op:CmpOp)(a b:Expr)(t:TE):Prop:=
 ∀ (pins:List (Addr×Obj)) (s:Shared) (σ:St) (H:Hp) (Q:VK),Inv X pins σ H s→t σ H Q →
  wpAny (model X.prog X.w) X.A (eval a X.env) (fun v s₁=>wpAny (model X.prog X.w) X.A (eval b X.env) (fun u s₂=>wpAny (model X.prog X.w) X.A (compareOp op v u) (EP X pins σ Q) X.xe s₂) X.xe s₁) X.xe s
noncomputable def tB (t:TE):TT:=fun σ H Q=>t σ H fun x H1=>∃ c,x = .bl c∧Q c H1
theorem iB {op:CmpOp}{t:TE}(h:PC X op a b t)(h1:behindInMarks op b=false:=by first | exact nobehind _ (by decide) (by decide) | rfl):PT X (.Compare a [op] [b] pos) (tB t):=by
 intro pins s σ H Q I hw
 refine wpAny_isTrue_Compare1 (thn (h pins s σ H _ I hw) fun v s1 h1=>thn h1 fun u s2 h2=>thn h2 fun c s3 zq=>?_) h1
 obtain ⟨x,H1,I1,r1,q1⟩:=zq
 obtain ⟨d,rfl,q⟩:=q1
 cases r1
 exact wpAny_truthy_bool ⟨H1,I1,q⟩
theorem EC {e:Expr}{t:TE}(h:PE X e t)(he:∀ whole,isTrue e X.env whole=(do let v ← whole;standAt e.pos;holding [v] (truthy v)):=by intro _;rfl):PT X e (tB t):=by
 intro pins s σ H Q I hw
 refine isTrue_plain (thn (h pins s σ H _ I hw) fun v s1 zq=>?_) (he _)
 obtain ⟨x,H1,I1,r1,q1⟩:=zq
 obtain ⟨d,rfl,q⟩:=q1
 cases r1
 exact wpAny_truthy_bool ⟨H1,I1,q⟩
variable {tA tB':TT} {rest:List Expr}
noncomputable def RY (t u:TT):TT:=fun σ H Q=>t σ H fun c H1=>if c=true then u σ H1 Q else Q false H1
noncomputable def tOr (t u:TT):TT:=fun σ H Q=>t σ H fun c H1=>if c=true then Q true H1 else u σ H1 Q
noncomputable def Ra (t:TT):TT:=fun σ H Q=>t σ H fun c H1=>Q (!c) H1
theorem Wj (ha:PT X a tA):PW X (.BoolOp .And [a] pos) tA:=by
 intro wh pins s σ H Q I h
 refine isTrue_and (thn (ha pins s σ H Q I h) fun c s1 e=>?_)
 cases c with
 | true=>exact isTrue_and_nil e
 | false=>exact e
theorem Fz (ha:PT X a tA):PW X (.BoolOp .Or [a] pos) tA:=by
 intro wh pins s σ H Q I h
 refine isTrue_or (thn (ha pins s σ H Q I h) fun c s1 e=>?_)
 cases c with
 | false=>exact isTrue_or_nil e
 | true=>exact e
theorem YG (ha:PT X a tA)(hb:PW X (.BoolOp .And (b::rest) pos) tB'):PW X (.BoolOp .And (a::b::rest) pos) (RY tA tB'):=by
 intro wh pins s σ H Q I h
 refine isTrue_and (thn (ha pins s σ H _ I h) fun c s1 zq=>?_)
 obtain ⟨H1,I1,q1⟩:=zq
 cases c with
 | true=>exact hb wh pins s1 σ H1 Q I1 q1
 | false=>exact ⟨H1,I1,q1⟩
theorem Kn (ha:PT X a tA)(hb:PW X (.BoolOp .Or (b::rest) pos) tB'):PW X (.BoolOp .Or (a::b::rest) pos) (tOr tA tB'):=by
 intro wh pins s σ H Q I h
 refine isTrue_or (thn (ha pins s σ H _ I h) fun c s1 zq=>?_)
 obtain ⟨H1,I1,q1⟩:=zq
 cases c with
 | true=>exact ⟨H1,I1,q1⟩
 | false=>exact hb wh pins s1 σ H1 Q I1 q1
theorem La (ha:PT X a tA):PT X (.UnaryOp .Not a pos) (Ra tA):=by
 intro pins s σ H Q I h
 exact isTrue_not (ha pins s σ H (fun c H1=>Q (!c) H1) I h)
noncomputable def LB (ta tb:TE):TE:=fun σ H Q=>ta σ H fun x H1=>∃ c,x = .bl c∧if c=true then tb σ H1 Q else Q (.bl false) H1
noncomputable def tOrV (ta tb:TE):TE:=fun σ H Q=>ta σ H fun x H1=>∃ c,x = .bl c∧if c=true then Q (.bl true) H1 else tb σ H1 Q
noncomputable def K7 (ta:TE):TE:=fun σ H Q=>ta σ H fun x H1=>∃ c,x = .bl c∧Q (.bl (!c)) H1
theorem V3 {op}{t:TE}(h:PE X a t):PE X (.BoolOp op [a] pos) t:=fun pins s σ H Q I hw=>BoolOp_one (h pins s σ H Q I hw)
theorem V8 (ha:PE X a ta)(hb:PE X (.BoolOp .And (b::rest) pos) tb):PE X (.BoolOp .And (a::b::rest) pos) (LB ta tb):=by
 intro pins s σ H Q I h
 refine BoolOp_and (thn (ha pins s σ H _ I h) fun v s1 zq=>?_)
 obtain ⟨x,H1,I1,r1,q1⟩:=zq
 obtain ⟨c,rfl,q1⟩:=q1
 cases r1
 refine wpAny_truthy_bool ?_
 cases c with
 | true=>exact hb pins s1 σ H1 Q I1 q1
 | false=>exact ⟨.bl false,H1,I1,rfl,q1⟩
theorem cG (ha:PE X a ta):PE X (.UnaryOp .Not a pos) (K7 ta):=by
 intro pins s σ H Q I h
 refine UnaryOp_ (thn (ha pins s σ H _ I h) fun v s1 zq=>?_)
 obtain ⟨x,H1,I1,r1,q1⟩:=zq
 obtain ⟨c,rfl,q1⟩:=q1
 cases r1
 exact not_of (wpAny_truthy_bool ⟨.bl (!c),H1,I1,rfl,q1⟩)
noncomputable def tIf (t:TT)(ta tb:TE):TE:=fun σ H Q=>t σ H fun c H1=>if c=true then ta σ H1 Q else tb σ H1 Q
end
noncomputable def SqL (K:W.Frag)(H:Hp)(a:Addr)(xs:List V):Prop:=
 Rd H a (.lst xs) ∨
  ∃ (o:Obj) (its:Array Value) (n:Nat),K.lookup a=some o∧o.cls = .type "list"∧o.dict=none∧o.data = .seq its n∧its.size≤sizeLine∧An xs its.toList
noncomputable def SqT (K:W.Frag)(H:Hp)(a:Addr)(xs:List V):Prop:=
 Rd H a (.tup xs) ∨
  ∃ (o:Obj) (its:Array Value) (n:Nat),K.lookup a=some o∧o.cls = .type "tuple"∧o.data = .seq its n∧its.size≤sizeLine∧An xs its.toList
noncomputable def absV:Value→Option V
 | .none=>some .non
 | .bool b=>some (.bl b)
 | .int i _=>some (.int i)
 | .str x _=>some (.str x)
 | .bytes b _=>some (.byt b)
 | .float b _=>some (.flt b)
 | .ref a=>some (.ref a)
 | .type n=>some (.ty n)
 | _=>none
theorem RelV.abs {x:V}{u:Value}(r:RelV x u):absV u=some x:=by
 cases x with
 | non=>cases r;rfl
 | bl _=>cases r;rfl
 | int _=>obtain ⟨t,rfl⟩:=r;rfl
 | str _=>obtain ⟨t,rfl⟩:=r;rfl
 | byt _=>obtain ⟨t,rfl⟩:=r;rfl
 | flt _=>obtain ⟨t,rfl⟩:=r;rfl
 | ref _=>cases r;rfl
 | ty _=>cases r;rfl
theorem RelV.inj {x y:V}{u:Value}(r:RelV x u)(q:RelV y u):x=y:=zV (r.abs.symm.trans q.abs)
theorem An.inj:∀ {xs ys:List V} {us:List Value},An xs us→An ys us→xs=ys
 | _,_,_,.nil,.nil=>rfl
 | _,_,_,.cons r t,.cons r' t'=>by rw [r.inj r',An.inj t t']
section
variable {X:Cx} {pins:List (Addr×Obj)} {σ:St} {H:Hp} {s:Shared} {a:Addr} {xs ys:List V}
theorem SqL.of {K:W.Frag}(h:H a=some (.lst xs)):SqL K H a xs:=.inl (.inl h)
theorem SqT.of {K:W.Frag}(h:H a=some (.tup xs)):SqT K H a xs:=.inl (.inl h)
theorem Inv.list (I:Inv X pins σ H s)(h:SqL X.K H a xs):∃ its:List Value,An xs its∧PlainL s.heap a its.toArray∧xs.length≤sizeLine:=by
 rcases h with h | ⟨o,its,n,hk,hc,hd,hs,hz,r⟩
 ·obtain ⟨z,its,n,r,e⟩:=h.ok I.hok
  exact ⟨its,r,⟨_,n,e,rfl,rfl,rfl⟩,z⟩
 ·refine ⟨its.toList,r,⟨o,n,I.kIn a o hk,hc,hd,by simpa using hs⟩,?_⟩
  have e:=r.length
  simp only [Array.length_toList] at e
  lia
theorem Inv.tuple (I:Inv X pins σ H s)(h:SqT X.K H a xs):∃ its:List Value,An xs its∧IsTup s.heap a its.toArray∧xs.length≤sizeLine:=by
 rcases h with h | ⟨o,its,n,hk,hc,hs,hz,r⟩
 ·obtain ⟨z,its,r,p⟩:=h.ok I.hok
  exact ⟨its,r,p,z⟩
 ·refine ⟨its.toList,r,⟨o,I.kIn a o hk,hc,n,by simpa using hs⟩,?_⟩
  have e:=r.length
  simp only [Array.length_toList] at e
  lia
theorem Inv.list_inj (I:Inv X pins σ H s)(h:SqL X.K H a xs)(h':SqL X.K H a ys):xs=ys:=by
 obtain ⟨its,r,⟨o,n,e,_,_,d⟩,_⟩:=I.list h
 obtain ⟨its',r',⟨o',n',e',_,_,d'⟩,_⟩:=I.list h'
 rw [e] at e';cases e'
 rw [d] at d'
 injection d' with d1 _
 have:its=its':=by simpa using congrArg Array.toList d1
 subst this
 exact r.inj r'
theorem Inv.tuple_inj (I:Inv X pins σ H s)(h:SqT X.K H a xs)(h':SqT X.K H a ys):xs=ys:=by
 obtain ⟨its,r,⟨o,e,_,n,d⟩,_⟩:=I.tuple h
 obtain ⟨its',r',⟨o',e',_,n',d'⟩,_⟩:=I.tuple h'
 rw [e] at e';cases e'
 rw [d] at d'
 injection d' with d1 _
 have:its=its':=by simpa using congrArg Array.toList d1
 subst this
 exact r.inj r'
end
noncomputable abbrev Cx.wish (X:Cx)(E:Value→Shared→Prop):Cx:={ X with xe:=E }
noncomputable abbrev Cx.nox (X:Cx):Cx:=X.wish fun _ _=>False
theorem Cx.Ok.wish {X:Cx}(ok:X.Ok)(E:Value→Shared→Prop):(X.wish E).Ok:=
 ⟨ok.mod,ok.kind,ok.glob,ok.blt,ok.above,ok.inj,ok.has,ok.cab,ok.hd,ok.frames,ok.stk,ok.exf,ok.bs,ok.bsz,ok.noex,ok.exfs,ok.funs,ok.frf⟩
theorem Cx.Ok.unwish {X:Cx}{E:Value→Shared→Prop}(ok:(X.wish E).Ok):X.Ok:=
 ⟨ok.mod,ok.kind,ok.glob,ok.blt,ok.above,ok.inj,ok.has,ok.cab,ok.hd,ok.frames,ok.stk,ok.exf,ok.bs,ok.bsz,ok.noex,ok.exfs,ok.funs,ok.frf⟩
section
variable {X:Cx} {pins:List (Addr×Obj)} {σ:St} {H:Hp} {s:Shared} {E:Value→Shared→Prop}
theorem Inv.wish (I:Inv X pins σ H s)(E:Value→Shared→Prop):Inv (X.wish E) pins σ H s:=⟨I.ok.wish E,I.os,I.bare,I.base,I.loc,I.cell,I.free,I.freeC,I.pin,I.hok,I.len⟩
theorem Inv.unwish (I:Inv (X.wish E) pins σ H s):Inv X pins σ H s:=⟨I.ok.unwish,I.os,I.bare,I.base,I.loc,I.cell,I.free,I.freeC,I.pin,I.hok,I.len⟩
theorem SP.unwish {D:Ij}{f:Flow}{s':Shared}(h:SP (X.wish E) pins D f s'):SP X pins D f s':=by
 cases f with
 | next=>obtain ⟨σ',H',I,q⟩:=h;exact ⟨σ',H',I.unwish,q⟩
 | brk=>obtain ⟨σ',H',I,q⟩:=h;exact ⟨σ',H',I.unwish,q⟩
 | cont=>obtain ⟨σ',H',I,q⟩:=h;exact ⟨σ',H',I.unwish,q⟩
 | ret u=>obtain ⟨v,σ',H',I,r,q⟩:=h;exact ⟨v,σ',H',I.unwish,r,q⟩
theorem PSs.nox {st:List Stmt}{t:TS}(h:PSs X.nox st t):PSs X st t:=fun pins s σ H D I hw =>
 wpAny_mono (h pins s σ H D (I.wish _) hw) (fun _ _ q=>q.unwish) fun _ _ z=>False.elim z
end
section
variable {X:Cx} {st:Stmt} {rest:List Stmt} {t u:TS} {e:Expr} {te:TE} {pos:Pos}
noncomputable def QJ:TS:=fun D σ H=>D.nx σ H
noncomputable def Ux (t u:TS):TS:=fun D σ H=>t { D with nx:=u D } σ H
theorem AS:PSs X [] QJ:=fun _ _ σ H _ I h=>wpAny_execs_nil ⟨σ,H,I,h⟩
theorem AD (h1:PS X st t)(h2:PSs X rest u):PSs X (st::rest) (Ux t u):=by
 intro pins s σ H D I h
 refine wpAny_execs_cons (thn (h1 pins s σ H { D with nx:=u D } I h) fun f s1 q=>?_)
 cases f with
 | next =>
  obtain ⟨σ',H',I',q⟩:=q
  exact h2 pins s1 σ' H' D I' q
 | ret v=>exact q
 | brk=>exact q
 | cont=>exact q
theorem AE (h1:PS X st t):PSs X [st] t:=by
 intro pins s σ H D I h
 refine wpAny_execs_cons (thn (h1 pins s σ H D I h) fun f s1 q=>?_)
 cases f with
 | next=>exact wpAny_execs_nil q
 | ret v=>exact q
 | brk=>exact q
 | cont=>exact q
noncomputable def tBreak:TS:=fun D σ H=>D.bk σ H
noncomputable def tCont:TS:=fun D σ H=>D.ct σ H
theorem Inv.quiet {pins:List (Addr×Obj)}{σ:St}{H:Hp}{s:Shared}(I:Inv X pins σ H s):interactive X.env=false:=by simp [interactive,I.ok.kind]
noncomputable def QY (te:TE):TS:=fun D σ H=>te σ H fun _ H1=>D.nx σ H1
theorem A5 (he:PE X e te)(hs:swapsWith e none pos.line X.env=pure false:=by rfl):PS X (.Expr e pos) (QY te):=by
 intro pins s σ H D I h
 exact wpAny_Expr_any (thn (he pins s σ H _ I h) fun v s1 ⟨x,H1,I1,r1,q1⟩=>⟨σ,H1,I1,q1⟩) I.quiet hs
noncomputable def Vy (te:TE):TS:=fun D σ H=>te σ H D.rt
theorem AI (he:PE X e te):PS X (.Return (some e) pos) (Vy te):=by
 intro pins s σ H D I h
 exact wpAny_Return_some (thn (he pins s σ H _ I h) fun v s1 ⟨x,H1,I1,r1,q1⟩=>⟨x,σ,H1,I1,r1,q1⟩)
noncomputable def tRetN:TS:=fun D _ H=>D.rt .non H
noncomputable def Vr (c:TT)(t u:TS):TS:=fun D σ H=>c σ H fun b H1=>if b=true then t D σ H1 else u D σ H1
theorem Ae {c:Expr}{a b:List Stmt}{tc:TT}(hc:PT X c tc)(ha:PSs X a t)(hb:PSs X b u):PS X (.If c a b pos) (Vr tc t u):=by
 intro pins s σ H D I h
 refine wpAny_If (thn (hc pins s σ H _ I h) fun d s1 zq=>?_)
 obtain ⟨H1,I1,q1⟩:=zq
 cases d with
 | true=>exact ha pins s1 σ H1 D I1 q1
 | false=>exact hb pins s1 σ H1 D I1 q1
end
noncomputable abbrev TG:=V→St→Hp→(St→Hp→Prop)→Prop
noncomputable abbrev TGs:=List V→St→Hp→(St→Hp→Prop)→Prop
noncomputable def PG (X:Cx)(target:Expr)(t:TG):Prop:=
 ∀ (pins:List (Addr×Obj)) (s:Shared) (σ:St) (H:Hp) (v:V) (u:Value) (Q:St→Hp→Prop),Inv X pins σ H s→RelV v u→t v σ H Q →
  wpAny (model X.prog X.w) X.A (assign target X.env u) (fun _ s'=>∃ σ' H',Inv X pins σ' H' s'∧Q σ' H') X.xe s
noncomputable def PGs (X:Cx)(ts:List Expr)(t:TGs):Prop:=
 ∀ (pins:List (Addr×Obj)) (s:Shared) (σ:St) (H:Hp) (vs:List V) (us:List Value) (Q:St→Hp→Prop),Inv X pins σ H s→An vs us→t vs σ H Q →
  wpAny (model X.prog X.w) X.A (assignInOrder ((assignEach ts X.env).map (·.2)) us) (fun _ s'=>∃ σ' H',Inv X pins σ' H' s'∧Q σ' H') X.xe s
noncomputable abbrev iM:=V→V→V→Hp→(Hp→Prop)→Prop
noncomputable def PSet (X:Cx)(t:iM):Prop:=
 ∀ (pins:List (Addr×Obj)) (s:Shared) (σ:St) (H:Hp) (o i v:V) (ov iv u:Value) (Q:Hp→Prop),Inv X pins σ H s→RelV o ov→RelV i iv→RelV v u→t o i v H Q →
  wpAny (model X.prog X.w) X.A (setItem ov iv u) (fun _ s'=>∃ H',Inv X pins σ H' s'∧Q H') X.xe s
section
variable {X:Cx} {pos:Pos}
noncomputable def EH (i:Nat):TG:=fun v σ H Q=>Q (σ.set i (some v)) H
theorem Sw {i:Nat}{x:Str}(hN:X.N.Nodup)(hi:X.N[i]? = some x)(hx:Loc X.env.scope x)(hf:X.fn x=true∨X.env.scope.names.lookup x=some .local:=by first | exact .inl rfl | exact .inr rfl | assumption):PG X (.Name x pos) (EH i):=by
 intro pins s σ H v u Q I r h
 exact wpAny_assign_Name (NW I hN hi hx r (fun s' I'=>⟨_,H,I',h⟩) hf)
noncomputable def O9:TGs:=fun vs σ H Q=>vs=[]∧Q σ H
noncomputable def Hs (t:TG)(u:TGs):TGs:=fun vs σ H Q=>∃ v r,vs=v::r∧t v σ H fun σ' H'=>u r σ' H' Q
theorem Pp:PGs X [] O9:=by
 intro pins s σ H vs us Q I r h
 obtain ⟨e,h⟩:=h
 subst e
 cases r
 exact assignInOrder_nil ⟨σ,H,I,h⟩
theorem Dr {e:Expr}{es:List Expr}{t:TG}{u:TGs}(h1:PG X e t)(h2:PGs X es u)
  (hs:(assignEach (e::es) X.env).map (·.2)=assign e X.env::(assignEach es X.env).map (·.2):=by rfl):PGs X (e::es) (Hs t u):=by
 intro pins s σ H vs us Q I r h
 obtain ⟨v,vr,e1,h⟩:=h
 subst e1
 cases r with
 | cons r rr =>
  rw [hs]
  refine assignInOrder_cons (thn (h1 pins s σ H _ _ _ I r h) fun _ s1 zq=>?_)
  obtain ⟨σ1,H1,I1,q1⟩:=zq
  exact h2 pins s1 σ1 H1 _ _ Q I1 rr q1
noncomputable def Pa (K:W.Frag)(n:Nat)(t:TGs):TG:=fun v σ H Q=>∃ a xs,v = .ref a∧SqT K H a xs∧xs.length=n∧t xs σ H Q
theorem TR {es:List Expr}{k:Nat}{t:TGs}{n:Nat}(hc:X.calm=true)(h:PGs X es t)
  (hn:(assignEach es X.env).length=n:=by rfl) (hst:(assignEach es X.env).findIdx? (·.1)=none:=by rfl):PG X (.Tuple es k pos) (Pa X.K n t):=by
 intro pins s σ H v u Q I r hw
 obtain ⟨a,xs,e1,hq,hl,hw⟩:=hw
 subst e1
 cases r
 obtain ⟨its,rv,ht,hz⟩:=I.tuple hq
 refine assign_Tuple_tuple (I.ok.hd hc) ht (by simp [hn,← hl,rv.length]) hst fun h' hx=>?_
 have I1:Inv X pins σ H { s with heap:=h' }:=I.kept (t':=s.toks) fun b o e=>hx b o (ze (zJ e)) e
 exact h pins _ σ H xs _ Q I1 (by simpa using rv) hw
noncomputable def Rk (to ti:TE)(t:iM):TG:=fun v σ H Q=>to σ H fun o H1=>ti σ H1 fun i H2=>t o i v H2 fun H3=>Q σ H3
theorem c5 {o i:Expr}{to ti:TE}{t:iM}(ho:PE X o to)(hi:PE X i ti)(hs:PSet X t)
  (ha:∀ v,assign (.Subscript o i pos) X.env v=(do
   let ov ← holding [v] (eval o X.env)
   let iv ← holding [v,ov] (eval i X.env)
   standAt pos
   holding [v,ov,iv] (setItem ov iv v)
   release [v,ov,iv] []):=by intro _;rfl):PG X (.Subscript o i pos) (Rk to ti t):=by
 intro pins s σ H v u Q I r h
 rw [ha]
 refine wpAny_bind (wpAny_holding (thn (ho pins s σ H _ I h) fun ov s1 zq=>?_))
 obtain ⟨x,H1,I1,r1,q1⟩:=zq
 refine wpAny_bind (wpAny_holding (thn (hi pins s1 σ H1 _ I1 q1) fun iv s2 zq=>?_))
 obtain ⟨y,H2,I2,r2,q2⟩:=zq
 refine wpAny_bind (wpAny_standAt (wpAny_bind (wpAny_holding (thn (hs pins s2 σ H2 x y v ov iv u _ I2 r1 r2 r q2) fun _ s3 zq=>?_))))
 obtain ⟨H3,I3,q3⟩:=zq
 exact wpAny_release ⟨σ,H3,I3,q3⟩
noncomputable def Ry (te:TE)(g:TG):TS:=fun D σ H=>te σ H fun x H1=>g x σ H1 D.nx
theorem Ys {tg e:Expr}{te:TE}{g:TG}(he:PE X e te)(hg:PG X tg g)(hs:swapsWithSole [tg] e pos.line X.env=pure false:=by rfl)(hw:swappedStores [tg] e X.env=pure none:=by rfl)
  (h1:(assignEach [tg] X.env).map (·.2)=[assign tg X.env]:=by rfl):PS X (.Assign [tg] e pos) (Ry te g):=by
 intro pins s σ H D I h
 refine wpAny_Assign_stores (thn (he pins s σ H _ I h) fun v s1 zq=>?_) hs hw
 obtain ⟨x,H1,I1,r1,q1⟩:=zq
 rw [h1]
 exact thn (hg pins s1 σ H1 x v _ I1 r1 q1) fun _ s2 q=>q
theorem fW {i:Nat}{x:Str}{e:Expr}{te:TE}{pos':Pos}(hN:X.N.Nodup)(hi:X.N[i]? = some x)(hx:Loc X.env.scope x)(he:PE X e te)(hs:swapsWith e (some (.Name x pos')) pos.line X.env=pure false:=by rfl)(hf:X.fn x=true∨X.env.scope.names.lookup x=some .local:=by first | exact .inl rfl | exact .inr rfl | assumption) :
  PS X (.Assign [.Name x pos'] e pos) (Ry te (EH i)):=by
 intro pins s σ H D I h
 refine wpAny_Assign_Name (thn (he pins s σ H _ I h) fun v s1 zq=>?_) hs
 obtain ⟨y,H1,I1,r1,q1⟩:=zq
 exact NW I1 hN hi hx r1 (fun s2 I2=>⟨_,H1,I2,q1⟩) hf
noncomputable def Vf (i j:Nat)(ta:TA):TS:=fun D σ H=>ta σ H fun vs H1=>∃ v w,vs=[v,w]∧D.nx ((σ.set i (some v)).set j (some w)) H1
theorem fm {i j:Nat}{x y:Str}{a b:Expr}{ta:TA}{px py pt:Pos}{kt k2 pt2}(hc:X.calm=true)(hN:X.N.Nodup)(hi:X.N[i]? = some x)(hj:X.N[j]? = some y)(hij:i≠j)
  (hx:X.env.scope.names.lookup x=some .local) (hy:X.env.scope.names.lookup y=some .local) (ha:PA X [a,b] ta)
  (hw:swappedStores [.Tuple [.Name x px,.Name y py] kt pt] (.Tuple [a,b] k2 pt2) X.env=pure (some [x,y]))
  (hs:swapsWithSole [.Tuple [.Name x px,.Name y py] kt pt] (.Tuple [a,b] k2 pt2) pos.line X.env=pure false:=by rfl) :
  PS X (.Assign [.Tuple [.Name x px,.Name y py] kt pt] (.Tuple [a,b] k2 pt2) pos) (Vf i j ta):=by
 intro pins s σ H D I h
 rw [exec_Assign_arm]
 refine wpAny_bind (wpAny_standAt ?_)
 rw [hs]
 refine wpAny_bind (wpAny_pure ?_)
 rw [if_neg (by decide)]
 refine wpAny_bind (Tuple_ (thn (ha _ pins s σ H _ I h) fun us s1 zq=>?_))
 obtain ⟨vs,H1,I1,r1,q1⟩:=zq
 obtain ⟨v,w,e1,q1⟩:=q1
 subst e1
 obtain ⟨u1,u2,rfl,rv,rw'⟩:∃ u1 u2,us=[u1,u2]∧RelV v u1∧RelV w u2:=by
  cases r1 with
  | cons p q =>
   cases q with
   | cons p' q' =>
    cases q'
    exact ⟨_,_,rfl,p,p'⟩
 refine wpAny_newObj_type ?_ (by show 2≤sizeLine;decide)
 have I2:Inv X pins σ H1 { s1 with heap:=s1.heap.push { cls:=.type "tuple",data:=.seq [u1,u2].toArray } }:=I1.kept (t':=s1.toks) fun b o e=>zA _ e
 rw [hw]
 refine wpAny_bind (wpAny_pure ?_)
 show wpAny (model X.prog X.w) X.A (do rule "assign.swapped-stores";let items ← unpackItems (.ref s1.heap.objs.size) 2 none;assignInOrder [fun v=>bindName X.env y v,fun v=>bindName X.env x v] items.reverse;pure Flow.next) _ _ _
 refine wpAny_bind (wpAny_rule (wpAny_bind (unpackItems_tuple (items:=#[u1,u2]) (I.ok.hd hc) (IsTup.new s1.heap _) fun h' hx'=>?_)))
 have I3:=I2.kept (h':=h') (t':=s1.toks) fun b o e=>hx' b o (ze (zJ e)) e
 show wpAny _ _ (assignInOrder [fun v=>bindName X.env y v,fun v=>bindName X.env x v] [u2,u1] >>= fun _=>pure Flow.next) _ _ _
 refine wpAny_bind (assignInOrder_cons (wpAny_bindName (NW I3 hN hj (.inl hy) rw' (fun s2 I4=>?_) (.inr hy))))
 refine assignInOrder_cons (wpAny_bindName (NW I4 hN hi (.inl hx) rv (fun s3 I5=>assignInOrder_nil (wpAny_pure ?_)) (.inr hx)))
 rw [List.set_comm _ _ (Ne.symm hij)] at I5
 exact ⟨_,H1,I5,q1⟩
end
section
variable {X:Cx} {pos:Pos}
noncomputable def im (c:TT)(tb:TS):TS:=fun D σ H=>∃ W:Nat→St→Hp→Prop,(∃ m,W m σ H)∧∀ m σ H,W m σ H →
 c σ H fun b H1=>if b=true then ∃ N:St→Hp→Prop,(∀ σ' H',N σ' H'→∃ m',m'<m∧W m' σ' H')∧tb { D with nx:=N,ct:=N,bk:=D.nx } σ H1 else D.nx σ H1
theorem US {c:Expr}{body:List Stmt}{tc:TT}{tb:TS}(hp:PassesOwn (model X.prog X.w) X.A X.env X.xe)(hc:PT X c tc)(hb:PSs X body tb):PS X (.While c body [] pos) (im tc tb):=by
 intro pins s σ H D I h
 obtain ⟨W,⟨m0,w0⟩,turn⟩:=h
 refine wpAny_While (codeAny_whileLoop (fun n s'=>∃ σ' H',Inv X pins σ' H' s'∧W n σ' H') ?_ m0 ⟨σ,H,I,w0⟩)
 rintro n s1 ⟨σ1,H1,I1,w1⟩
 refine wpAny_passesOwn hp (thn (hc pins s1 σ1 H1 _ I1 (turn n σ1 H1 w1)) fun b s2 zq=>?_)
 obtain ⟨H2,I2,q2⟩:=zq
 cases b with
 | true =>
  obtain ⟨N,hN,q2⟩:=q2
  rw [if_pos rfl]
  refine wpAny_passesOwn hp (thn (hb pins s2 σ1 H2 _ I2 q2) fun f s3 q3=>?_)
  cases f with
  | next =>
   obtain ⟨σ3,H3,I3,n3⟩:=q3
   obtain ⟨m',hm,w3⟩:=hN σ3 H3 n3
   exact ⟨m',hm,σ3,H3,I3,w3⟩
  | cont =>
   obtain ⟨σ3,H3,I3,n3⟩:=q3
   obtain ⟨m',hm,w3⟩:=hN σ3 H3 n3
   exact ⟨m',hm,σ3,H3,I3,w3⟩
  | brk=>exact q3
  | ret v=>exact q3
 | false =>
  rw [if_neg za]
  exact wpAny_execs_nil ⟨σ1,H2,I2,q2⟩
end
structure It where
 go:Nat→Hp→Prop
 yld:Nat→Hp→V→Hp→Prop
 stop:Nat→Hp→Prop
noncomputable def Le (X:Cx)(pins:List (Addr×Obj))(H:Hp)(b:Addr):Prop:=
 H b=none∧b≠X.env.locals∧b∉X.fs∧(b∈X.ex∨X.s₀.heap.objs.size≤b)∧(∀ x c,X.env.cells.lookup x=some c→c≠b)∧∀ p∈X.pn++pins,p.1≠b
theorem Inv.fpOk {X:Cx}{pins:List (Addr×Obj)}{σ:St}{H H':Hp}{s:Shared}{b:Addr}(I:Inv X pins σ H s)(hb:s.heap.objs.size≤b)(hn:H' b=none):Le X pins H' b:=by
 refine ⟨hn,qC (zM I.lt hb),I.nofs hb,.inr (zO I.sz hb),fun x c e z=>?_,fun p hp z=>?_⟩
 ·obtain ⟨v,q⟩:=I.cell x c e
  exact absurd (zM q.lt (by rw [z];exact hb)) (qF _)
 ·exact absurd (zM (zJ (I.pin p hp).1) (by rw [z];exact hb)) (qF _)
structure S3 (P:Program)(w:World)(K:W.Frag)(tg:Expr)(J:It)(fp:List Addr)(it:Addr)(tn:Nat→Heap→Prop):Prop where
 mem:it∈fp
 obj:∀ i h,tn i h→∀ b∈fp,∃ o,h.get? b=some o∧∀ v,o.data≠.cell v
 keep:∀ i h h',tn i h→(∀ b∈fp,∀ o,h.get? b=some o→h'.get? b=some o)→tn i h'
 item:∀ (X:Cx),X.prog=P→X.w=w→X.K=K→X.calm=true→∀ (i:Nat) (pins:List (Addr×Obj)) (s:Shared) (σ:St) (H:Hp) (E:Value→Shared→Prop),Inv X pins σ H s→(∀ b∈fp,Le X pins H b)→tn i s.heap→J.go i H →
  wpAny (model P w) X.A (pyNext (.ref it)) (fun r s1=>∃ u,r=some u ∧
   wpAny (model P w) X.A (letOwnedTupleGo tg (.ref it) u) (fun _ s2=>∃ x H',Inv X pins σ H' s2∧RelV x u∧J.yld i H x H'∧tn (i+1) s2.heap∧∀ b∈fp,H' b=none) E s1) E s
 done:∀ (X:Cx),X.prog=P→X.w=w→X.K=K→X.calm=true→∀ (i:Nat) (pins:List (Addr×Obj)) (s:Shared) (σ:St) (H:Hp) (E:Value→Shared→Prop),Inv X pins σ H s→(∀ b∈fp,Le X pins H b)→tn i s.heap→J.stop i H →
  wpAny (model P w) X.A (pyNext (.ref it)) (fun r s1=>r=none∧Inv X pins σ H s1) E s
 self:∀ (A:Around) (i:Nat) (s:Shared) (Q:Value→Shared→Prop) (E:Value→Shared→Prop),tn i s.heap→Q (.ref it) s→wpAny (model P w) A (pyIter (.ref it)) Q E s
noncomputable abbrev TI:=St→Hp→(It→Hp→Prop)→Prop
noncomputable def PIE (X:Cx)(pins:List (Addr×Obj))(σ:St)(tg:Expr)(R:It→Hp→Prop)(itv:Value)(s2:Shared):Prop:=
 ∃ (it:Addr) (fp:List Addr) (tn:Nat→Heap→Prop) (J:It) (H':Hp),itv = .ref it∧Inv X pins σ H' s2∧S3 X.prog X.w X.K tg J fp it tn∧tn 0 s2.heap∧(∀ b∈fp,Le X pins H' b)∧R J H'
noncomputable def PI (X:Cx)(tg iter:Expr)(wi:TI):Prop:=
 ∀ (pins:List (Addr×Obj)) (s:Shared) (σ:St) (H:Hp) (R:It→Hp→Prop),Inv X pins σ H s→wi σ H R →
  wpAny (model X.prog X.w) X.A (eval iter X.env) (fun v s1=>wpAny (model X.prog X.w) X.A (pyIter v) (PIE X pins σ tg R) X.xe s1) X.xe s
theorem Wb {M:Model}{A:Around}{E:Value→Shared→Prop}{s:Shared}{tg:Expr}{it:Addr}{u:Value}{o:Obj}{n:String}{vs:Array Value}{Q:Unit→Shared→Prop}(ho:s.heap.get? it=some o)(hc:o.cls = .type n)(hd:o.data = .fields vs)
  (hn:["enumerate","zip","dict_itemiterator","dict_reverseitemiterator","odict_iterator","itertools.zip_longest","itertools.pairwise"].contains n=false) (hQ:Q () s):wpAny M A (letOwnedTupleGo tg (.ref it) u) Q E s:=by
 unfold letOwnedTupleGo
 cases tg<;>first
  | exact wpAny_pure hQ
  | (cases u<;>first
    | exact wpAny_pure hQ
    | (refine wpAny_bind (wpAny_load ho ?_)
       rw [hc,hd]
       show wpAny M A (if (["enumerate","zip","dict_itemiterator","dict_reverseitemiterator","odict_iterator","itertools.zip_longest","itertools.pairwise"].contains n && vs[0]? == some (rawInt _))=true then _ else _) Q E s
       rw [if_neg (by intro h;rw [hn,Bool.false_and] at h;cases h)]
       exact wpAny_pure hQ))
noncomputable def Itl (K:W.Frag)(a:Addr):It:=
 ⟨fun i H=>∃ xs x,SqL K H a xs∧xs[i]? = some x,fun i H x H'=>H'=H∧∀ xs,SqL K H a xs→xs[i]? = some x,fun i H=>∃ xs,SqL K H a xs∧xs.length≤i⟩
noncomputable def Itt (K:W.Frag)(a:Addr):It:=
 ⟨fun i H=>∃ xs x,SqT K H a xs∧xs[i]? = some x,fun i H x H'=>H'=H∧∀ xs,SqT K H a xs→xs[i]? = some x,fun i H=>∃ xs,SqT K H a xs∧xs.length≤i⟩
noncomputable def Itr (lo:Int)(n:Nat):It:=⟨fun i _=>i<n,fun i H x H'=>H'=H∧x = .int (lo+i),fun i _=>n≤i⟩
theorem XJ {P:Program}{w:World}{K:W.Frag}{tg:Expr}(a it:Addr):S3 P w K tg (Itl K a) [it] it (fun i h=>h.IsListIter it a i) where
 mem:=by simp
 obj:=fun i h st b hb=>by
  have e:b=it:=by simpa using hb
  subst e
  obtain ⟨o,e,c,d⟩:=st
  exact ⟨o,e,fun v z=>by rw [d] at z;cases z⟩
 keep:=fun i h h' st k=>st.at fun o e=>k it (by simp) o e
 item:=by
  intro X hP hw hK hc i pins s σ H E I hf st hg
  subst hP hw hK
  obtain ⟨xs,x,hq,hx⟩:=hg
  obtain ⟨its,rv,p,hz⟩:=I.list hq
  obtain ⟨u,hu,ru⟩:=rv.get hx
  obtain ⟨f0,f1,f2,f3,f4,f5⟩:=hf it (by simp)
  refine wpAny_pyNext_list_item st p.isList (x:=u) (by simpa using hu) fun h' st' sb=>?_
  have I1:Inv X pins σ H { s with heap:=h' }:=I.turned (t':=s.toks) (fun b o hb e=>(sb.2 b hb).trans e) f0 f1 f3 f4 f5
  obtain ⟨o,e,c,d⟩:=id st'
  exact ⟨u,rfl,Wb (s:={ s with heap:=h' }) e c d (by decide) ⟨x,H,I1,ru,⟨rfl,fun ys hy=>by rw [I.list_inj hy hq];exact hx⟩,st',fun b hb=>(hf b hb).1⟩⟩
 done:=by
  intro X hP hw hK hc i pins s σ H E I hf st hg
  subst hP hw hK
  obtain ⟨xs,hq,hx⟩:=hg
  obtain ⟨its,rv,p,hz⟩:=I.list hq
  obtain ⟨f0,f1,f2,f3,f4,f5⟩:=hf it (by simp)
  have hl:=rv.length
  exact wpAny_pyNext_list_end (I.ok.hd hc) st p.isList (by simp;lia) fun h' eb=>⟨rfl,I.turned (t':=s.toks) (fun b o hb e=>eb b o hb e) f0 f1 f3 f4 f5⟩
 self:=fun _ _ _ _ _ st h=>wpAny_pyIter_listiter st h
theorem Vi {P:Program}{w:World}{K:W.Frag}{tg:Expr}(a it:Addr):S3 P w K tg (Itt K a) [it] it (fun i h=>h.IsTupleIter it a i) where
 mem:=by simp
 obj:=fun i h st b hb=>by
  have e:b=it:=by simpa using hb
  subst e
  obtain ⟨o,e,c,d⟩:=st
  exact ⟨o,e,fun v z=>by rw [d] at z;cases z⟩
 keep:=fun i h h' st k=>st.at fun o e=>k it (by simp) o e
 item:=by
  intro X hP hw hK hc i pins s σ H E I hf st hg
  subst hP hw hK
  obtain ⟨xs,x,hq,hx⟩:=hg
  obtain ⟨its,rv,p,hz⟩:=I.tuple hq
  obtain ⟨u,hu,ru⟩:=rv.get hx
  obtain ⟨f0,f1,f2,f3,f4,f5⟩:=hf it (by simp)
  refine wpAny_pyNext_tuple_item st (show s.heap.IsTuple a its.toArray from p) (x:=u) (by simpa using hu) fun h' st' sb=>?_
  have I1:Inv X pins σ H { s with heap:=h' }:=I.turned (t':=s.toks) (fun b o hb e=>(sb.2 b hb).trans e) f0 f1 f3 f4 f5
  obtain ⟨o,e,c,d⟩:=id st'
  exact ⟨u,rfl,Wb (s:={ s with heap:=h' }) e c d (by decide) ⟨x,H,I1,ru,⟨rfl,fun ys hy=>by rw [I.tuple_inj hy hq];exact hx⟩,st',fun b hb=>(hf b hb).1⟩⟩
 done:=by
  intro X hP hw hK hc i pins s σ H E I hf st hg
  subst hP hw hK
  obtain ⟨xs,hq,hx⟩:=hg
  obtain ⟨its,rv,p,hz⟩:=I.tuple hq
  obtain ⟨f0,f1,f2,f3,f4,f5⟩:=hf it (by simp)
  have hl:=rv.length
  exact wpAny_pyNext_tuple_end (I.ok.hd hc) st (show s.heap.IsTuple a its.toArray from p) (by simp;lia) fun h' eb=>⟨rfl,I.turned (t':=s.toks) (fun b o hb e=>eb b o hb e) f0 f1 f3 f4 f5⟩
 self:=fun _ _ _ _ _ st h=>wpAny_pyIter_tupleiter st h
theorem WJ {P:Program}{w:World}{K:W.Frag}{tg:Expr}(it:Addr)(lo:Int)(n:Nat):S3 P w K tg (Itr lo n) [it] it (fun i h=>IsRangeIter h it (lo+(i:Nat)*1) ((n:Int)-(i:Nat)) 1) where
 mem:=by simp
 obj:=fun i h st b hb=>by
  have e:b=it:=by simpa using hb
  subst e
  exact ⟨_,st,fun v z=>by
   have z':Data.fields _=Data.cell v:=z
   cases z'⟩
 keep:=fun i h h' st k=>k it (by simp) _ st
 item:=by
  intro X hP hw hK hc i pins s σ H E I hf st hg
  subst hP hw hK
  obtain ⟨f0,f1,f2,f3,f4,f5⟩:=hf it (by simp)
  have W:=Walks.range (prog:=X.prog) (w:=X.w) (I.ok.hd hc) it lo 1 n
  refine W.item i s _ _ hg st fun v h' tk hv st' kk=>?_
  obtain ⟨t,rfl⟩:=hv
  have I1:Inv X pins σ H { s with heap:=h',toks:=tk }:=I.turned (fun b o hb e=>kk b o (by simpa using hb) e) f0 f1 f3 f4 f5
  refine ⟨_,rfl,Wb (s:={ s with heap:=h',toks:=tk }) (n:="range_iterator") st' rfl rfl (by decide) ⟨.int (lo+i),H,I1,⟨t,?_⟩,⟨rfl,rfl⟩,st',fun b hb=>(hf b hb).1⟩⟩
  rw [Int.mul_one]
 done:=by
  intro X hP hw hK hc i pins s σ H E I hf st hg
  subst hP hw hK
  obtain ⟨f0,f1,f2,f3,f4,f5⟩:=hf it (by simp)
  exact wpAny_pyNext_range_end (I.ok.hd hc) st (by have:n≤i:=hg;lia) fun h' eb=>⟨rfl,I.turned (t':=s.toks) (fun b o hb e=>eb b o hb e) f0 f1 f3 f4 f5⟩
 self:=fun _ _ _ _ _ st h=>wpAny_pyIter_rangeiter st h
section
variable {X:Cx} {tg:Expr}
noncomputable def C5 (K:W.Frag)(tl:TE):TI:=fun σ H R=>tl σ H fun x H1=>∃ a,x = .ref a∧(∃ xs,SqL K H1 a xs)∧R (Itl K a) H1
noncomputable def XY (K:W.Frag)(tl:TE):TI:=fun σ H R=>tl σ H fun x H1=>∃ a,x = .ref a∧(∃ xs,SqT K H1 a xs)∧R (Itt K a) H1
theorem A7 {l:Expr}{tl:TE}(hl:PE X l tl):PI X tg l (C5 X.K tl):=by
 intro pins s σ H R I h
 refine thn (hl pins s σ H _ I h) fun v s1 zq=>?_
 obtain ⟨x,H1,I1,r1,q1⟩:=zq
 obtain ⟨a,e,⟨xs,hq⟩,q⟩:=q1
 subst e
 cases r1
 obtain ⟨its,rv,p,hz⟩:=I1.list hq
 refine wpAny_pyIter_list p.isList ?_
 refine ⟨s1.heap.objs.size,[s1.heap.objs.size],_,_,H1,rfl,I1.kept (t':=s1.toks) fun b o e=>zA _ e,XJ a _,⟨_,zT _ rfl,rfl,rfl⟩,fun b hb=>?_,q⟩
 have e:b=s1.heap.objs.size:=by simpa using hb
 subst e
 exact I1.fpOk (zL _) (I1.hok.fresh (zL _))
theorem Nu {l:Expr}{tl:TE}(hl:PE X l tl):PI X tg l (XY X.K tl):=by
 intro pins s σ H R I h
 refine thn (hl pins s σ H _ I h) fun v s1 zq=>?_
 obtain ⟨x,H1,I1,r1,q1⟩:=zq
 obtain ⟨a,e,⟨xs,hq⟩,q⟩:=q1
 subst e
 cases r1
 obtain ⟨its,rv,p,hz⟩:=I1.tuple hq
 refine wpAny_pyIter_tuple (show s1.heap.IsTuple a its.toArray from p) ?_
 refine ⟨s1.heap.objs.size,[s1.heap.objs.size],_,_,H1,rfl,I1.kept (t':=s1.toks) fun b o e=>zA _ e,Vi a _,⟨_,zT _ rfl,rfl,rfl⟩,fun b hb=>?_,q⟩
 have e:b=s1.heap.objs.size:=by simpa using hb
 subst e
 exact I1.fpOk (zL _) (I1.hok.fresh (zL _))
theorem Uh {pins:List (Addr×Obj)}{σ:St}{H:Hp}{s:Shared}{R:It→Hp→Prop}{E:Value→Shared→Prop}{lo hi:Int}{t u v:Tok}{tk:Nat}(I:Inv X pins σ H s)(h1:-(2 ^ 62)≤lo)(h2:lo<2 ^ 62)(h3:-(2 ^ 62)≤hi)(h4:hi<2 ^ 62)
  (q:R (Itr lo (hi-lo).toNat) H):wpAny (model X.prog X.w) X.A (pyIter (.ref s.heap.objs.size)) (PIE X pins σ tg R) E { s with heap:=s.heap.push { cls:=.type "range",data:=.fields #[.int lo t,.int hi u,.int 1 v] },toks:=tk }:=by
 refine wpAny_pyIter_range (IsRange.new ..) (small_one h1 h2 h3 h4) ?_
 have I1:Inv X pins σ H { s with heap:=s.heap.push { cls:=.type "range",data:=.fields #[.int lo t,.int hi u,.int 1 v] },toks:=tk }:=I.kept fun b o e=>zA _ e
 refine ⟨(s.heap.push { cls:=.type "range",data:=.fields #[.int lo t,.int hi u,.int 1 v] }).objs.size,[(s.heap.push { cls:=.type "range",data:=.fields #[.int lo t,.int hi u,.int 1 v] }).objs.size],_,_,H,rfl,
  I1.kept (t':=tk) fun b o e=>zA _ e,WJ _ lo (hi-lo).toNat,?_,fun b hb=>?_,q⟩
 ·have e1:lo+((0:Nat):Int)*1=lo:=by simp
  have e2:(((hi-lo).toNat:Nat):Int)-((0:Nat):Int)=Builtin.Range.rangeSize lo hi 1:=by rw [rangeSize_one];split<;>lia
  show IsRangeIter _ _ (lo+((0:Nat):Int)*1) ((((hi-lo).toNat:Nat):Int)-((0:Nat):Int)) 1
  rw [e1,e2]
  exact zT _ rfl
 ·have e:b=(s.heap.push { cls:=.type "range",data:=.fields #[.int lo t,.int hi u,.int 1 v] }).objs.size:=by simpa using hb
  subst e
  exact I1.fpOk (zL _) (I1.hok.fresh (zL _))
noncomputable def LF (ta:TA):TI:=fun σ H R=>ta σ H fun vs H1=>∃ j:Int,vs=[.int j]∧-(2 ^ 62)≤j∧j<2 ^ 62∧R (Itr 0 j.toNat) H1
noncomputable def Ki (ta:TA):TI:=fun σ H R=>ta σ H fun vs H1=>∃ i j:Int,vs=[.int i,.int j]∧(-(2 ^ 62)≤i∧i<2 ^ 62∧-(2 ^ 62)≤j∧j<2 ^ 62)∧R (Itr i (j-i).toNat) H1
theorem DF {a:Expr}{ta:TA}{p pos:Pos}(hg:Gl X "range")(hm:X.mg "range"=none)(ha:PA X [a] ta)(hs:starEach [a] X.env=[(false,eval a X.env)]:=by rfl):PI X tg (.Call (.Name "range" p) [a] [] pos) (LF ta):=by
 intro pins s σ H R I h
 refine Call_ (Js I hg hm boot_range (PyProof.Rows.callWith_type1 (thn (ha pos pins s σ H _ I h) fun us s1 zq=>?_) hs rfl))
 obtain ⟨vs,H1,I1,r1,q1⟩:=zq
 obtain ⟨j,e,q1,q2,q⟩:=q1
 subst e
 cases r1 with
 | cons r rr =>
  cases rr
  obtain ⟨t,rfl⟩:=r
  exact call_range_1 (Uh I1 (by lia) (by lia) q1 q2 (by simpa using q))
theorem SK {a b:Expr}{ta:TA}{p pos:Pos}(hg:Gl X "range")(hm:X.mg "range"=none)(ha:PA X [a,b] ta)(hs:starEach [a,b] X.env=[(false,eval a X.env),(false,eval b X.env)]:=by rfl)(hs2:starEach [b] X.env=[(false,eval b X.env)]:=by rfl) :
  PI X tg (.Call (.Name "range" p) [a,b] [] pos) (Ki ta):=by
 intro pins s σ H R I h
 refine Call_ (Js I hg hm boot_range (PyProof.Rows.callWith_type1 (thn (ha pos pins s σ H _ I h) fun us s1 zq=>?_) (by rw [hs,hs2]) (by rw [hs2];rfl)))
 obtain ⟨vs,H1,I1,r1,q1⟩:=zq
 obtain ⟨i,j,e,⟨q1,q2,q3,q4⟩,q⟩:=q1
 subst e
 cases r1 with
 | cons r rr =>
  cases rr with
  | cons r' rr =>
   cases rr
   obtain ⟨t,rfl⟩:=r
   obtain ⟨t',rfl⟩:=r'
   exact call_range_2 (Uh I1 q1 q2 q3 q4 q)
noncomputable def tFor (wi:TI)(g:TG)(tb:TS):TS:=fun D σ H=>wi σ H fun J H1=>∃ W:Nat→Nat→St→Hp→Prop,(∃ m,W 0 m σ H1)∧∀ i m σ H,W i m σ H →
 (J.stop i H∧D.nx σ H)∨(J.go i H∧∃ N:St→Hp→Prop,(∀ σ' H',N σ' H'→∃ m',m'<m∧W (i+1) m' σ' H')∧∀ x H',J.yld i H x H'→g x σ H' fun σ2 H2=>tb { D with nx:=N,ct:=N,bk:=D.nx } σ2 H2)
noncomputable def Lb (fp:List Addr)(h:Heap):List (Addr×Obj):=fp.filterMap fun b=>(h.get? b).map fun o=>(b,o)
theorem Ci {fp:List Addr}{h:Heap}{b:Addr}{o:Obj}(hb:b∈fp)(e:h.get? b=some o):(b,o)∈Lb fp h:=List.mem_filterMap.mpr ⟨b,hb,by rw [e];rfl⟩
theorem XZ {fp:List Addr}{h:Heap}{p:Addr×Obj}(hp:p∈Lb fp h):p.1∈fp∧h.get? p.1=some p.2:=by
 obtain ⟨b,hb,e⟩:=List.mem_filterMap.mp hp
 cases q:h.get? b with
 | none=>rw [q] at e;cases e
 | some o =>
  rw [q] at e
  have e':(b,o)=p:=zV e
  subst e'
  exact ⟨hb,q⟩
theorem Inv.pinned {pins:List (Addr×Obj)}{σ:St}{H:Hp}{s:Shared}{fp:List Addr}(I:Inv X pins σ H s)(hf:∀ b∈fp,Le X pins H b)(ho:∀ b∈fp,∃ o,s.heap.get? b=some o∧∀ v,o.data≠.cell v):Inv X (pins++Lb fp s.heap) σ H s:=
 I.pins_of fun p hp=>(zb.mp hp).elim (fun z=>I.pin p (zd _ z)) fun z=>by
  obtain ⟨hb,e⟩:=XZ z
  obtain ⟨f0,f1,f2,_⟩:=hf p.1 hb
  obtain ⟨o,e',d⟩:=ho p.1 hb
  rw [e] at e';cases e'
  exact ⟨e,f0,f1,f2,d⟩
theorem Inv.unpinned {pins pl:List (Addr×Obj)}{σ:St}{H:Hp}{s:Shared}(I:Inv X (pins++pl) σ H s):Inv X pins σ H s:=I.pins_of fun p hp=>I.pin p (zd _ (qD _ hp))
theorem Bo {iter:Expr}{body:List Stmt}{wi:TI}{g:TG}{tb:TS}{pos:Pos}(hp:PassesOwn (model X.prog X.w) X.A X.env X.xe)(hc:X.calm=true)(hi:PI X tg iter wi)(hg:PG X tg g)(hb:PSs X body tb)
  (hs:∀ x,foldedSetIterable iter X.env x=pure x:=by intro _;rfl):PS X (.For tg iter body [] pos) (tFor wi g tb):=by
 intro pins s σ H D I h
 refine wpAny_For (thn (hi pins s σ H _ I h) fun v s1 h1=>thn h1 fun itv s2 h2=>?_) hs
 obtain ⟨it,fp,tn,J,H2,e,I2,T,st2,f2,W,⟨m0,w0⟩,turn⟩:=h2
 subst e
 have stat:∀ {H':Hp},(∀ b∈fp,H' b=none)→∀ b∈fp,Le X pins H' b:=fun hn b hb=>⟨hn b hb,(f2 b hb).2⟩
 refine codeAny_forLoop_any (fun n s'=>∃ i σ' H',Inv X pins σ' H' s'∧tn i s'.heap∧(∀ b∈fp,H' b=none)∧W i n σ' H') ?_ m0 ⟨0,σ,H2,I2,st2,fun b hb=>(f2 b hb).1,w0⟩
 rintro n s3 ⟨i,σ3,H3,I3,st3,fr3,w3⟩
 rcases turn i n σ3 H3 w3 with ⟨stop,qn⟩ | ⟨go,N,hN,step⟩
 ·refine wpAny_passesOwn hp (thn (T.done X rfl rfl rfl hc i pins s3 σ3 H3 X.xe I3 (stat fr3) st3 stop) fun r s4 zq=>?_)
  obtain ⟨hr,I4⟩:=zq
  subst hr
  exact wpAny_execs_nil ⟨σ3,H3,I4,qn⟩
 ·refine wpAny_passesOwn hp (thn (T.item X rfl rfl rfl hc i pins s3 σ3 H3 X.xe I3 (stat fr3) st3 go) fun r s4 zq=>?_)
  obtain ⟨u,hr,h4⟩:=zq
  subst hr
  refine wpAny_passesOwn hp (thn h4 fun _ s5 zq=>?_)
  obtain ⟨x,H5,I5,r5,y5,st5,fr5⟩:=zq
  have I5':=I5.pinned (stat fr5) (T.obj _ _ st5)
  refine wpAny_passesOwn hp (thn (hg _ s5 σ3 H5 x u _ I5' r5 (step x H5 y5)) fun _ s6 zq=>?_)
  obtain ⟨σ6,H6,I6,q6⟩:=zq
  refine wpAny_passesOwn hp (thn (hb _ s6 σ6 H6 _ I6 q6) fun f s7 q7=>?_)
  have again:∀ {σ7:St} {H7:Hp},Inv X (pins++Lb fp s5.heap) σ7 H7 s7→N σ7 H7→∃ m,m<n∧∃ i σ' H',Inv X pins σ' H' s7∧tn i s7.heap∧(∀ b∈fp,H' b=none)∧W i m σ' H':=fun {σ7 H7} I7 n7=>by
   obtain ⟨m',hm,w7⟩:=hN σ7 H7 n7
   refine ⟨m',hm,i+1,σ7,H7,I7.unpinned,T.keep _ _ _ st5 fun b hb o e=>(I7.pin (b,o) (zd _ (zd _ (Ci hb e)))).1,fun b hb=>?_,w7⟩
   obtain ⟨o,e,d⟩:=T.obj _ _ st5 b hb
   exact (I7.pin (b,o) (zd _ (zd _ (Ci hb e)))).2.1
  cases f with
  | next=>obtain ⟨σ7,H7,I7,n7⟩:=q7;exact again I7 n7
  | cont=>obtain ⟨σ7,H7,I7,n7⟩:=q7;exact again I7 n7
  | brk=>obtain ⟨σ7,H7,I7,q7⟩:=q7;exact ⟨σ7,H7,I7.unpinned,q7⟩
  | ret v=>obtain ⟨x7,σ7,H7,I7,r7,q7⟩:=q7;exact ⟨x7,σ7,H7,I7.unpinned,r7,q7⟩
end
theorem JF {K:W.Frag}{a:Addr}{xs:List V}{g:TG}{tb:TS}{D:Ij}{σ:St}{H:Hp}(Pv:Nat→St→Hp→Prop)(h0:Pv 0 σ H)(hl:∀ i σ H,i≤xs.length→Pv i σ H→SqL K H a xs)
  (hs:∀ i x σ H,xs[i]? = some x→Pv i σ H→g x σ H fun σ2 H2=>tb { D with nx:=Pv (i+1),ct:=Pv (i+1),bk:=D.nx } σ2 H2) (hd:∀ σ H,Pv xs.length σ H→D.nx σ H) :
  ∃ W:Nat→Nat→St→Hp→Prop,(∃ m,W 0 m σ H)∧∀ i m σ H,W i m σ H →
   ((Itl K a).stop i H∧D.nx σ H)∨((Itl K a).go i H∧∃ N:St→Hp→Prop,(∀ σ' H',N σ' H'→∃ m',m'<m∧W (i+1) m' σ' H')∧∀ x H',(Itl K a).yld i H x H'→g x σ H' fun σ2 H2=>tb { D with nx:=N,ct:=N,bk:=D.nx } σ2 H2):=by
 refine ⟨fun i m σ H=>m=xs.length-i∧i≤xs.length∧Pv i σ H,⟨xs.length,by simp,zr _,h0⟩,?_⟩
 rintro i m σ H ⟨rfl,hi,p⟩
 have q:=hl i σ H hi p
 by_cases hlt:i<xs.length
 ·refine .inr ⟨⟨xs,xs[i],q,by simp [hlt]⟩,Pv (i+1),fun σ' H' p'=>⟨xs.length-(i+1),by lia,rfl,hlt,p'⟩,fun x H' y=>?_⟩
  obtain ⟨e,y⟩:=y
  subst e
  exact hs i x σ _ (y xs q) p
 ·have e:i=xs.length:=by lia
  subst e
  exact .inl ⟨⟨xs,q,zL _⟩,hd σ H p⟩
theorem WX {K:W.Frag}{a:Addr}{xs:List V}{g:TG}{tb:TS}{D:Ij}{σ:St}{H:Hp}(Pv:Nat→St→Hp→Prop)(h0:Pv 0 σ H)(hl:∀ i σ H,i≤xs.length→Pv i σ H→SqT K H a xs)
  (hs:∀ i x σ H,xs[i]? = some x→Pv i σ H→g x σ H fun σ2 H2=>tb { D with nx:=Pv (i+1),ct:=Pv (i+1),bk:=D.nx } σ2 H2) (hd:∀ σ H,Pv xs.length σ H→D.nx σ H) :
  ∃ W:Nat→Nat→St→Hp→Prop,(∃ m,W 0 m σ H)∧∀ i m σ H,W i m σ H →
   ((Itt K a).stop i H∧D.nx σ H)∨((Itt K a).go i H∧∃ N:St→Hp→Prop,(∀ σ' H',N σ' H'→∃ m',m'<m∧W (i+1) m' σ' H')∧∀ x H',(Itt K a).yld i H x H'→g x σ H' fun σ2 H2=>tb { D with nx:=N,ct:=N,bk:=D.nx } σ2 H2):=by
 refine ⟨fun i m σ H=>m=xs.length-i∧i≤xs.length∧Pv i σ H,⟨xs.length,by simp,zr _,h0⟩,?_⟩
 rintro i m σ H ⟨rfl,hi,p⟩
 have q:=hl i σ H hi p
 by_cases hlt:i<xs.length
 ·refine .inr ⟨⟨xs,xs[i],q,by simp [hlt]⟩,Pv (i+1),fun σ' H' p'=>⟨xs.length-(i+1),by lia,rfl,hlt,p'⟩,fun x H' y=>?_⟩
  obtain ⟨e,y⟩:=y
  subst e
  exact hs i x σ _ (y xs q) p
 ·have e:i=xs.length:=by lia
  subst e
  exact .inl ⟨⟨xs,q,zL _⟩,hd σ H p⟩
theorem CM {lo:Int}{n:Nat}{g:TG}{tb:TS}{D:Ij}{σ:St}{H:Hp}(Pv:Nat→St→Hp→Prop)(h0:Pv 0 σ H)
  (hs:∀ i σ H,i<n→Pv i σ H→g (.int (lo+i)) σ H fun σ2 H2=>tb { D with nx:=Pv (i+1),ct:=Pv (i+1),bk:=D.nx } σ2 H2) (hd:∀ σ H,Pv n σ H→D.nx σ H) :
  ∃ W:Nat→Nat→St→Hp→Prop,(∃ m,W 0 m σ H)∧∀ i m σ H,W i m σ H →
   ((Itr lo n).stop i H∧D.nx σ H)∨((Itr lo n).go i H∧∃ N:St→Hp→Prop,(∀ σ' H',N σ' H'→∃ m',m'<m∧W (i+1) m' σ' H')∧∀ x H',(Itr lo n).yld i H x H'→g x σ H' fun σ2 H2=>tb { D with nx:=N,ct:=N,bk:=D.nx } σ2 H2):=by
 refine ⟨fun i m σ H=>m=n-i∧i≤n∧Pv i σ H,⟨n,by simp,zr _,h0⟩,?_⟩
 rintro i m σ H ⟨rfl,hi,p⟩
 by_cases hlt:i<n
 ·refine .inr ⟨hlt,Pv (i+1),fun σ' H' p'=>⟨n-(i+1),by lia,rfl,hlt,p'⟩,fun x H' y=>?_⟩
  obtain ⟨e,y⟩:=y
  subst e y
  exact hs i σ _ hlt p
 ·have e:i=n:=by lia
  subst e
  exact .inl ⟨zL _,hd σ H p⟩
noncomputable abbrev R2:=V→V→Hp→VK→Prop
noncomputable def OpR (X:Cx)(f:Value→Value→Sem Value)(r:R2):Prop:=
 ∀ (pins:List (Addr×Obj)) (s:Shared) (σ:St) (H:Hp) (x y:V) (v u:Value) (Q:VK),Inv X pins σ H s→RelV x v→RelV y u→r x y H Q →
  wpAny (model X.prog X.w) X.A (f v u) (EP X pins σ Q) X.xe s
noncomputable def UnR (X:Cx)(f:Value→Sem Value)(r:V→Hp→VK→Prop):Prop:=
 ∀ (pins:List (Addr×Obj)) (s:Shared) (σ:St) (H:Hp) (x:V) (v:Value) (Q:VK),Inv X pins σ H s→RelV x v→r x H Q →
  wpAny (model X.prog X.w) X.A (f v) (EP X pins σ Q) X.xe s
noncomputable def Cm (X:Cx)(f:Value)(r:List V→Hp→VK→Prop):Prop:=
 ∀ (pins:List (Addr×Obj)) (s:Shared) (σ:St) (H:Hp) (xs:List V) (us:List Value) (Q:VK),Inv X pins σ H s→An xs us→r xs H Q →
  wpAny (model X.prog X.w) X.A (call f us) (EP X pins σ Q) X.xe s
noncomputable def tOp (r:R2)(ta tb:TE):TE:=fun σ H Q=>ta σ H fun x H1=>tb σ H1 fun y H2=>r x y H2 Q
noncomputable def tUn (r:V→Hp→VK→Prop)(ta:TE):TE:=fun σ H Q=>ta σ H fun x H1=>r x H1 Q
noncomputable def rI (C:Int→Int→Prop)(g:Int→Int→V):R2:=fun x y H Q=>∃ i j,x = .int i∧y = .int j∧C i j∧Q (g i j) H
noncomputable def rI0 (g:Int→Int→V):R2:=fun x y H Q=>∃ i j,x = .int i∧y = .int j∧Q (g i j) H
noncomputable def rU (g:Int→V):V→Hp→VK→Prop:=fun x H Q=>∃ i,x = .int i∧Q (g i) H
section
variable {X:Cx} {a b c:Expr} {ta tb tc:TE} {pos:Pos}
theorem cZ (ha:PE X a ta)(hb:PE X b tb){pins:List (Addr×Obj)}{s:Shared}{σ:St}{H:Hp}{R:V→V→Hp→Prop}(I:Inv X pins σ H s)
  (h:ta σ H fun x H1=>tb σ H1 fun y H2=>R x y H2) {Q:Value→Shared→Prop} {f:Value→Value→Sem Value}
  (hf:∀ v u s2 x y H2,Inv X pins σ H2 s2→RelV x v→RelV y u→R x y H2→wpAny (model X.prog X.w) X.A (f v u) Q X.xe s2) :
  wpAny (model X.prog X.w) X.A (eval a X.env) (fun v s₁=>wpAny (model X.prog X.w) X.A (eval b X.env) (fun u s₂=>wpAny (model X.prog X.w) X.A (f v u) Q X.xe s₂) X.xe s₁) X.xe s:=by
 refine thn (ha pins s σ H _ I h) fun v s1 zq=>?_
 obtain ⟨x,H1,I1,r1,q1⟩:=zq
 refine thn (hb pins s1 σ H1 _ I1 q1) fun u s2 zq=>?_
 obtain ⟨y,H2,I2,r2,q2⟩:=zq
 exact hf v u s2 x y H2 I2 r1 r2 q2
theorem AH {op:Operator}{r:R2}(ho:OpR X (binaryOp op) r)(ha:PE X a ta)(hb:PE X b tb):PE X (.BinOp a op b pos) (tOp r ta tb):=by
 intro pins s σ H Q I h
 exact wpAny_BinOp (cZ ha hb I h fun v u s2 x y H2 I2 rx ry q=>ho pins s2 σ H2 x y v u Q I2 rx ry q)
theorem GR {op:UnaryOp}{r:V→Hp→VK→Prop}(ho:UnR X (unaryOp op) r)(ha:PE X a ta):PE X (.UnaryOp op a pos) (tUn r ta):=by
 intro pins s σ H Q I h
 exact UnaryOp_ (thn (ha pins s σ H _ I h) fun v s1 ⟨x,H1,I1,r1,q1⟩=>ho pins s1 σ H1 x v Q I1 r1 q1)
theorem opI {f:Value→Value→Sem Value}{C:Int→Int→Prop}{g:Int→Int→Int}
  (rule:∀ (i j:Int) (t u:Tok) (s:Shared) (Q:Value→Shared→Prop) (E:Value→Shared→Prop),C i j→Q (.int (g i j) s.toks) { s with toks:=s.toks+1 }→wpAny (model X.prog X.w) X.A (f (.int i t) (.int j u)) Q E s) :
  OpR X f (rI C fun i j=>.int (g i j)):=by
 intro pins s σ H x y v u Q I rx ry h
 obtain ⟨i,j,rfl,rfl,hc,q⟩:=h
 obtain ⟨t,rfl⟩:=rx
 obtain ⟨t',rfl⟩:=ry
 exact rule i j t t' s _ _ hc ⟨.int (g i j),H,I.tok _,⟨_,rfl⟩,q⟩
theorem opI0 {f:Value→Value→Sem Value}{g:Int→Int→Int}
  (rule:∀ (i j:Int) (t u:Tok) (s:Shared) (Q:Value→Shared→Prop) (E:Value→Shared→Prop),Q (.int (g i j) s.toks) { s with toks:=s.toks+1 }→wpAny (model X.prog X.w) X.A (f (.int i t) (.int j u)) Q E s) :
  OpR X f (rI0 fun i j=>.int (g i j)):=by
 intro pins s σ H x y v u Q I rx ry h
 obtain ⟨i,j,rfl,rfl,q⟩:=h
 obtain ⟨t,rfl⟩:=rx
 obtain ⟨t',rfl⟩:=ry
 exact rule i j t t' s _ _ ⟨.int (g i j),H,I.tok _,⟨_,rfl⟩,q⟩
theorem Zg {f:Value→Value→Sem Value}{g:Int→Int→Bool}
  (rule:∀ (i j:Int) (t u:Tok) (s:Shared) (Q:Value→Shared→Prop) (E:Value→Shared→Prop),Q (.bool (g i j)) s→wpAny (model X.prog X.w) X.A (f (.int i t) (.int j u)) Q E s) :
  OpR X f (rI0 fun i j=>.bl (g i j)):=by
 intro pins s σ H x y v u Q I rx ry h
 obtain ⟨i,j,rfl,rfl,q⟩:=h
 obtain ⟨t,rfl⟩:=rx
 obtain ⟨t',rfl⟩:=ry
 exact rule i j t t' s _ _ ⟨.bl (g i j),H,I,rfl,q⟩
noncomputable def WF (i j:Int):Prop:=0<j∧j<1073741824
noncomputable def CPow (i j:Int):Prop:=0≤j∧j≤1000000∧i.natAbs<2 ^ 64
noncomputable def Ts (i j:Int):Prop:=(-(2 ^ 64)<i∧i<2 ^ 64)∨(-(2 ^ 64)<j∧j<2 ^ 64)
theorem Ts.ok {i j:Int}(h:Ts i j):IntMulOk i j:=by
 rcases h with ⟨h1,h2⟩ | ⟨h1,h2⟩
 ·exact .of_left (intBits_le_64 h1 h2)
 ·exact .of_right (intBits_le_64 h1 h2)
theorem Ap:OpR X (binaryOp .Add) (rI0 fun i j=>.int (i+j)):=opI0 fun _ _ _ _ _ _ _ q=>add_int q
theorem Ax:OpR X (binaryOp .Sub) (rI0 fun i j=>.int (i-j)):=opI0 fun _ _ _ _ _ _ _ q=>sub_int q
theorem Qj:OpR X (binaryOp .Mult) (rI Ts fun i j=>.int (i*j)):=opI fun _ _ _ _ _ _ _ hc q=>mul_int q hc.ok
theorem EU:OpR X (binaryOp .FloorDiv) (rI WF fun i j=>.int (i / j)):=opI fun i j _ _ _ _ _ hc q=>by
 have h1:(0:Int)<j:=hc.1
 have h2:j<1073741824:=hc.2
 exact floordiv_int (by lia) (by rw [Int.fdiv_eq_ediv_of_nonneg i (by lia)];exact q) (.inl (PyProof.noPylong_small (by lia)))
theorem Aq:OpR X (binaryOp .Mod) (rI (fun _ j=>0<j) fun i j=>.int (i % j)):=opI fun i j _ _ _ _ _ hc q=>by
 have h1:(0:Int)<j:=hc
 exact mod_int' (by lia) (by rw [Int.fmod_eq_emod_of_nonneg i (by lia)];exact q)
theorem Wp:OpR X (binaryOp .Mod) (rI (fun _ j=>j≠0) fun i j=>.int (i.fmod j)):=opI fun _ _ _ _ _ _ _ hc q=>mod_int' hc q
theorem unI {f:Value→Sem Value}{g:Int→Int}
  (rule:∀ (i:Int) (t:Tok) (s:Shared) (Q:Value→Shared→Prop) (E:Value→Shared→Prop),Q (.int (g i) s.toks) { s with toks:=s.toks+1 }→wpAny (model X.prog X.w) X.A (f (.int i t)) Q E s) :
  UnR X f (rU fun i=>.int (g i)):=by
 intro pins s σ H x v Q I rx h
 obtain ⟨i,rfl,q⟩:=h
 obtain ⟨t,rfl⟩:=rx
 exact rule i t s _ _ ⟨.int (g i),H,I.tok _,⟨_,rfl⟩,q⟩
theorem DR:UnR X (unaryOp .USub) (rU fun i=>.int (-i)):=unI fun _ _ _ _ _ q=>neg_int q
end
noncomputable def knd:V→Nat
 | .non=>0 | .int _=>1 | .bl _=>2 | .str _=>3 | .byt _=>4 | _=>5
noncomputable def KM (x y:V):Bool:=(knd x == knd y && Nat.blt (knd x) 5) || (Nat.blt (knd x) 4 && Nat.blt (knd y) 4 && knd x*knd y != 2)
noncomputable def rEq:R2:=fun x y H Q=>KM x y=true∧Q (.bl (decide (x=y))) H
noncomputable def rNe:R2:=fun x y H Q=>KM x y=true∧Q (.bl (!decide (x=y))) H
theorem Wa {i j:Int}:decide (V.int i=V.int j)=(i == j):=by
 rw [qZ]
 simp
theorem ZU {i j:Bool}:decide (V.bl i=V.bl j)=(i == j):=by
 rw [qZ]
 simp
theorem We {i j:Str}:decide (V.str i=V.str j)=(i == j):=by
 rw [qZ]
 simp
theorem Wm {i j:Array UInt8}:decide (V.byt i=V.byt j)=(i.toList == j.toList):=by
 rw [qZ]
 cases i
 cases j
 simp
section
variable {X:Cx} {a b c:Expr} {ta tb tc:TE} {pos:Pos}
theorem Az {pins:List (Addr×Obj)}{σ:St}{H:Hp}{s:Shared}{Q:VK}{k k':Bool}(I:Inv X pins σ H s)(q:Q (.bl k) H)(e:k=k'):EP X pins σ Q (.bool k') s:=by
 subst e
 exact ⟨.bl k,H,I,rfl,q⟩
theorem Bg:OpR X (compareOp .Eq) rEq:=by
 intro pins s σ H x y v u Q I rx ry h
 obtain ⟨hs,q⟩:=h
 cases x with
 | non =>
  cases rx
  cases y with
  | non=>cases ry;exact PySem.EqNone.eq_none_none (Az I q (by simp))
  | bl j=>cases ry;exact PySem.EqNone.eq_none_bool (Az I q (by simp))
  | int j=>obtain ⟨t',rfl⟩:=ry;exact PySem.EqNone.eq_none_int (Az I q (by simp))
  | str j=>obtain ⟨t',rfl⟩:=ry;exact PySem.EqNone.eq_none_str (Az I q (by simp))
  | _=>exact absurd (show false=true from hs) za
 | bl i =>
  cases rx
  cases y with
  | non=>cases ry;exact PySem.EqNone.eq_bool_none (Az I q (by simp))
  | bl j=>cases ry;exact eq_bool (Az I q ZU)
  | str j=>obtain ⟨t',rfl⟩:=ry;exact PySem.EqMixed.eq_bool_str (Az I q (by simp))
  | _=>exact absurd (show false=true from hs) za
 | int i =>
  obtain ⟨t,rfl⟩:=rx
  cases y with
  | non=>cases ry;exact PySem.EqNone.eq_int_none (Az I q (by simp))
  | int j=>obtain ⟨t',rfl⟩:=ry;exact eq_int (Az I q Wa)
  | str j=>obtain ⟨t',rfl⟩:=ry;exact PySem.EqMixed.eq_int_str (Az I q (by simp))
  | _=>exact absurd (show false=true from hs) za
 | str i =>
  obtain ⟨t,rfl⟩:=rx
  cases y with
  | non=>cases ry;exact PySem.EqNone.eq_str_none (Az I q (by simp))
  | bl j=>cases ry;exact PySem.EqMixed.eq_str_bool (Az I q (by simp))
  | int j=>obtain ⟨t',rfl⟩:=ry;exact PySem.EqMixed.eq_str_int (Az I q (by simp))
  | str j=>obtain ⟨t',rfl⟩:=ry;exact eq_str (Az I q We)
  | _=>exact absurd (show false=true from hs) za
 | byt i =>
  obtain ⟨t,rfl⟩:=rx
  cases y with
  | byt j=>obtain ⟨t',rfl⟩:=ry;exact W.eq_bytes (Az I q Wm)
  | _=>exact absurd (show false=true from hs) za
 | _=>cases y<;>exact absurd (show false=true from hs) za
theorem Ib:OpR X (compareOp .NotEq) rNe:=by
 intro pins s σ H x y v u Q I rx ry h
 obtain ⟨hs,q⟩:=h
 cases x with
 | non =>
  cases rx
  cases y with
  | non=>cases ry;exact PySem.EqNone.ne_none_none (Az I q (by simp))
  | bl j=>cases ry;exact PySem.EqNone.ne_none_bool (Az I q (by simp))
  | int j=>obtain ⟨t',rfl⟩:=ry;exact PySem.EqNone.ne_none_int (Az I q (by simp))
  | str j=>obtain ⟨t',rfl⟩:=ry;exact PySem.EqNone.ne_none_str (Az I q (by simp))
  | _=>exact absurd (show false=true from hs) za
 | bl i =>
  cases rx
  cases y with
  | non=>cases ry;exact PySem.EqNone.ne_bool_none (Az I q (by simp))
  | bl j=>cases ry;exact ne_bool (Az I q (congrArg not ZU))
  | str j=>obtain ⟨t',rfl⟩:=ry;exact PySem.EqMixed.ne_bool_str (Az I q (by simp))
  | _=>exact absurd (show false=true from hs) za
 | int i =>
  obtain ⟨t,rfl⟩:=rx
  cases y with
  | non=>cases ry;exact PySem.EqNone.ne_int_none (Az I q (by simp))
  | int j=>obtain ⟨t',rfl⟩:=ry;exact ne_int (Az I q (congrArg not Wa))
  | str j=>obtain ⟨t',rfl⟩:=ry;exact PySem.EqMixed.ne_int_str (Az I q (by simp))
  | _=>exact absurd (show false=true from hs) za
 | str i =>
  obtain ⟨t,rfl⟩:=rx
  cases y with
  | non=>cases ry;exact PySem.EqNone.ne_str_none (Az I q (by simp))
  | bl j=>cases ry;exact PySem.EqMixed.ne_str_bool (Az I q (by simp))
  | int j=>obtain ⟨t',rfl⟩:=ry;exact PySem.EqMixed.ne_str_int (Az I q (by simp))
  | str j=>obtain ⟨t',rfl⟩:=ry;exact ne_str (Az I q (congrArg not We))
  | _=>exact absurd (show false=true from hs) za
 | byt i =>
  obtain ⟨t,rfl⟩:=rx
  cases y with
  | byt j=>obtain ⟨t',rfl⟩:=ry;exact W.ne_bytes (Az I q (congrArg not Wm))
  | _=>exact absurd (show false=true from hs) za
 | _=>cases y<;>exact absurd (show false=true from hs) za
theorem E7:OpR X (compareOp .Lt) (rI0 fun i j=>.bl (decide (i<j))):=Zg fun _ _ _ _ _ _ _ q=>lt_int q
theorem Zc:OpR X (compareOp .LtE) (rI0 fun i j=>.bl (decide (i≤j))):=Zg fun _ _ _ _ _ _ _ q=>le_int q
theorem IC:OpR X (compareOp .Gt) (rI0 fun i j=>.bl (decide (j<i))):=Zg fun _ _ _ _ _ _ _ q=>gt_int q
theorem bS:OpR X (compareOp .GtE) (rI0 fun i j=>.bl (decide (j≤i))):=Zg fun _ _ _ _ _ _ _ q=>ge_int q
theorem XH:OpR X (compareOp .In) (fun x y H Q=>∃ i j,x = .str i∧y = .str j∧Q (.bl (!(Builtin.Str.occurrences j i 0 j.length 1).isEmpty)) H):=by
 intro pins s σ H x y v u Q I rx ry h
 obtain ⟨i,j,rfl,rfl,q⟩:=h
 obtain ⟨t,rfl⟩:=rx
 obtain ⟨t',rfl⟩:=ry
 exact in_str (Az I q rfl)
theorem OK:OpR X (compareOp .Is) (fun x y H Q=>y = .non∧Q (.bl (decide (x = .non))) H):=by
 intro pins s σ H x y v u Q I rx ry h
 obtain ⟨rfl,q⟩:=h
 cases ry
 refine is_none_gen (Az I q ?_)
 cases x<;>first
  | (cases rx;rfl)
  | (obtain ⟨t,rfl⟩:=rx;rfl)
theorem YE (b:Expr){op:CmpOp}(h:op≠.In:=by decide)(h2:op≠.NotIn:=by decide):behindInMarks op b=false:=by
 have e1:(op == CmpOp.In)=false:=by cases op<;>first | rfl | exact absurd rfl h
 have e2:(op == CmpOp.NotIn)=false:=by cases op<;>first | rfl | exact absurd rfl h2
 cases b<;>simp [behindInMarks,e1,e2]
theorem TV {op:CmpOp}{r:R2}(ho:OpR X (compareOp op) r)(ha:PE X a ta)(hb:PE X b tb)(hm:behindInMarks op b=false):PE X (.Compare a [op] [b] pos) (tOp r ta tb):=by
 intro pins s σ H Q I h
 exact wpAny_Compare1 (cZ ha hb I h fun v u s2 x y H2 I2 rx ry q=>ho pins s2 σ H2 x y v u Q I2 rx ry q) hm
noncomputable def Jf (t:TE):TT:=fun σ H Q=>t σ H fun x H'=>∃ k,x = .bl k∧Q k H'
theorem Z3 {op:CmpOp}{r:R2}(ho:OpR X (compareOp op) r)(ha:PE X a ta)(hb:PE X b tb)(hm:behindInMarks op b=false):PT X (.Compare a [op] [b] pos) (Jf (tOp r ta tb)):=by
 intro pins s σ H Q I h
 refine wpAny_isTrue_Compare1 (thn (ha pins s σ H _ I h) fun v s1 ⟨x,H1,I1,r1,q1⟩=>thn (hb pins s1 σ H1 _ I1 q1) fun u s2 ⟨y,H2,I2,r2,q2⟩ =>
  thn (ho pins s2 σ H2 x y v u _ I2 r1 r2 q2) fun c s3 ⟨z,H3,I3,r3,k,e,q3⟩=>?_) hm
 subst e
 cases r3
 exact wpAny_truthy_bool ⟨H3,I3,q3⟩
theorem N3:(sizeLine:Nat)<2 ^ 63:=by rw [sizeLine_eq];decide
theorem AZ:OpR X (binaryOp .Add) (fun x y H Q=>∃ i j,x = .str i∧y = .str j∧i.length+j.length≤sizeLine∧Q (.str (i++j)) H):=by
 intro pins s σ H x y v u Q I rx ry h
 obtain ⟨i,j,rfl,rfl,hz,q⟩:=h
 obtain ⟨t,rfl⟩:=rx
 obtain ⟨t',rfl⟩:=ry
 exact add_str (fun t' tk=>⟨.str (i++j),H,I.tok _,⟨_,rfl⟩,q⟩) hz
theorem vals1 {x:V}{us:List Value}(r:An [x] us):∃ u,us=[u]∧RelV x u:=by
 cases r with
 | cons r1 r2=>cases r2;exact ⟨_,rfl,r1⟩
theorem vals2 {x y:V}{us:List Value}(r:An [x,y] us):∃ u w',us=[u,w']∧RelV x u∧RelV y w':=by
 cases r with
 | cons r1 r2 =>
  cases r2 with
  | cons r3 r4=>cases r4;exact ⟨_,_,rfl,r1,r3⟩
theorem Mg:Cm X (.builtin "abs") (fun xs H Q=>∃ i,xs=[.int i]∧Q (.int (if i<0 then -i else i)) H):=by
 intro pins s σ H xs us Q I r h
 obtain ⟨i,rfl,q⟩:=h
 obtain ⟨u,rfl,t,rfl⟩:=vals1 r
 exact call_abs_int fun u tk=>⟨.int (if i<0 then -i else i),H,I.tok _,⟨_,rfl⟩,q⟩
theorem Nl (hc:X.calm=true):Cm X (.builtin "max") (fun xs H Q=>∃ i j,xs=[.int i,.int j]∧Q (.int (if j>i then j else i)) H):=by
 intro pins s σ H xs us Q I r h
 obtain ⟨i,j,rfl,q⟩:=h
 obtain ⟨u,w',rfl,⟨t,rfl⟩,⟨t',rfl⟩⟩:=vals2 r
 refine max_two_ints (I.ok.hd hc) fun h' tk k=>⟨_,H,I.kept k,?_,q⟩
 by_cases hj:j>i
 ·rw [if_pos hj,if_pos hj];exact ⟨_,rfl⟩
 ·rw [if_neg hj,if_neg hj];exact ⟨_,rfl⟩
theorem Sv (hc:X.calm=true):Cm X (.builtin "min") (fun xs H Q=>∃ i j,xs=[.int i,.int j]∧Q (.int (if j<i then j else i)) H):=by
 intro pins s σ H xs us Q I r h
 obtain ⟨i,j,rfl,q⟩:=h
 obtain ⟨u,w',rfl,⟨t,rfl⟩,⟨t',rfl⟩⟩:=vals2 r
 refine min_two_ints (I.ok.hd hc) fun h' tk k=>⟨_,H,I.kept k,?_,q⟩
 by_cases hj:j<i
 ·rw [if_pos hj,if_pos hj];exact ⟨_,rfl⟩
 ·rw [if_neg hj,if_neg hj];exact ⟨_,rfl⟩
theorem Ah:Cm X (.type "str") (fun xs H Q=>∃ i,xs=[.int i]∧i.natAbs.log2<1920∧Q (.str (toString i)) H):=by
 intro pins s σ H xs us Q I r h
 obtain ⟨i,rfl,hz,q⟩:=h
 obtain ⟨u,rfl,t,rfl⟩:=vals1 r
 exact PySem.P.str_of_int hz ⟨.str _,H,I.tok _,⟨_,rfl⟩,q⟩
end
structure V0 (h:Heap)(x dx C:Addr)(mA:Str→Option Value):Prop where
 obj:h.get? x=some (W.instObj C dx)
 ns:h.Ns1 dx mA
 ne:dx≠x
theorem X2 {h:Heap}{dx:Addr}{mA:Str→Option Value}(n:h.Ns1 dx mA):∃ od,h.get? dx=some od∧∀ name,W.lookIn name od=some (mA name):=by
 obtain ⟨o,es,ep,ho,hd,hk,_,hm⟩:=n
 refine ⟨o,ho,fun name=>?_⟩
 have e:=hm name
 unfold nsFind findBy at e
 rw [← Array.find?_toList] at e
 unfold W.lookIn
 rw [hd]
 dsimp only
 split
 ·rename_i y q
  rw [q] at e
  exact congrArg some e
 ·rename_i q
  rw [q] at e
  have a:es.toList.any (·.refKey)=false:=by
   rw [List.any_eq_false]
   intro y hy
   obtain ⟨z,t,hkey⟩:=hk y (Array.mem_toList_iff.mp hy)
   simp [DictEntry.refKey,hkey]
  have a':¬ es.toList.any (·.refKey)=true:=by rw [a];exact za
  rw [if_neg a']
  exact congrArg some e
theorem V0.look {h:Heap}{x dx C:Addr}{mA:Str→Option Value}(I:V0 h x dx C mA):∃ od,W.InstAt h x (W.instObj C dx) C (some od)∧∀ name,W.lookIn name od=some (mA name):=
 let ⟨od,ho,hl⟩:=X2 I.ns
 ⟨od,⟨I.obj,rfl,rfl,ho⟩,hl⟩
section
variable {prog:Program} {w:World} {A:Around} {E:Value→Shared→Prop} {s:Shared} {K:W.Frag} {x dx C f:Addr} {mA:Str→Option Value} {name:Str} {v:Value}
theorem av {expr:Bool}{Q:Value→Shared→Prop}(X:K.In s.heap)(I:V0 s.heap x dx C mA)(hg:W.plainGet K C name=true)(hh:W.hasDictIn K C=true)
  (ha:W.findIn K (.ref C) name=some none) (hv:mA name=some v) (hv':W.handedIn v=true) (h:Q v { s with toks:=s.toks+1 }) :
  wpAny (model prog w) A (getAttr (.ref x) name expr) Q E s:=by
 obtain ⟨od,J,hl⟩:=I.look
 exact W.get_value X J (W.plainGet_of hg).1 (W.findObj_own hh ha rfl (by rw [hl,hv])) hv' h
theorem Yp {pl:Sem Bool}{Q:Value×List Value→Shared→Prop}(X:K.In s.heap)(I:V0 s.heap x dx C mA)(hg:W.plainGet K C name=true)
  (hf:W.findIn K (.ref C) name=some (some (.ref f))) (ht:W.isFn K (.ref f)=true) (hv:mA name=none) (h:Q (.ref f,[.ref x]) s) :
  wpAny (model prog w) A (getMethod (.ref x) name pl) Q E s:=by
 obtain ⟨od,J,hl⟩:=I.look
 exact W.method_fn X J (W.plainGet_of hg).1 (W.plainGet_of hg).2 hf (beq_iff_eq.mp ht) (by show (W.lookIn name od).map (·.isSome)=some false;rw [hl,hv];rfl) h
theorem Zm {ns:List Str}{Q:Unit→Shared→Prop}(X:K.In s.heap)(I:V0 s.heap x dx C mA)
  (hs:W.findIn K (.ref C) "__setattr__"=some (some (.builtin "object.__setattr__"))) (hp:W.plainOver K C=true) (ht:W.takerIn K C name=some none) (hh:W.hasDictIn K C=true)
  (hw:PySem.Within mA ns) (hsz:ns.length≤sizeLine)
  (h:∀ h',V0 h' x dx C (fun y=>if y=name then some v else mA y)→Heap.SameBut dx s.heap h'→Q () { s with heap:=h',toks:=s.toks+2 }) :
  wpAny (model prog w) A (setAttr (.ref x) name v) Q E s:=by
 obtain ⟨od,J,hl⟩:=I.look
 refine W.set_plain X J hs (W.osa_open (s:={ s with toks:=s.toks+1 }) (r:=none) X J hp ht fun b=>?_)
 obtain ⟨cd,hc,hd'⟩:=W.any_some hh
 have hx:s.heap.get? x=some ⟨.ref C,some dx,.plain,#[]⟩:=I.obj
 refine wpAny_bind (wpAny_pure (wpAny_bind (wpAny_bind (wpAny_loadPart hx (wpAny_bind (W.Looks.here (s:={ s with toks:=s.toks+1 }) (W.looks_clsIn X hc) ?_))))))
 rw [hd']
 refine wpAny_pure (a:=some dx) (wpAny_bind (wpAny_pure (wpAny_bind ?_)))
 refine wpAny_nsSet1 (s:={ s with toks:=s.toks+1 }) I.ns fun h' hn2 hs2=>?_
 obtain ⟨oD,esD,epD,hoD,hdD,hcD⟩:=hn2.count (PySem.Within.cons name v hw)
 refine wpAny_bind (wpAny_lookBehind hoD (by rw [hdD];exact pastItsLine_dict (zO hcD (by rw [zB];lia))) ?_)
 exact wpAny_pure (h _ ⟨(hs2.2 _ (Ne.symm I.ne)).trans I.obj,hn2,I.ne⟩ hs2)
theorem ZQ {R:Result→Shared→Prop}{vs:List Value}{kw:List (Str×Value)}(X:K.In s.heap)(hm:W.makesIn K C=true)
  (hi:W.findIn K (.ref C) "__init__"=some (some (.ref f))) (hf:W.typeIn K (.ref f)=some (.type "function"))
  (h:codeAny (model prog w) (A.under (.builtin "type.__call__" ⟨.ref C::vs,kw⟩)) (.call (.ref f) ⟨.ref (s.heap.objs.size+1)::vs,kw⟩) (W.InitBack (s.heap.objs.size+1) R)
   { s with heap:=(s.heap.push W.emptyDict).push (W.instObj C s.heap.objs.size) }) :
  codeAny (model prog w) A (.call (.ref C) ⟨vs,kw⟩) R s:=by
 obtain ⟨hh,g,d,t,os⟩:=s
 exact W.make_core (W.makes_of X hm) (W.looks_findIn X hi) (fun self=>W.bind_fn X self hf) (.inl rfl) h
end
noncomputable def KL (f:Str)(v:V):List (Str×V)→List (Str×V)
 | []=>[(f,v)]
 | (g,x)::r=>if g=f then (g,v)::r else (g,x)::KL f v r
theorem OO (f g:Str)(v:V):∀ fs:List (Str×V),(KL f v fs).lookup g=if g=f then some v else fs.lookup g
 | []=>by
  show List.lookup g [(f,v)]=_
  by_cases h:g=f
  ·have hb:(g == f)=true:=beq_iff_eq.mpr h
   simp only [List.lookup,hb,if_pos h]
  ·have hb:(g == f)=false:=beq_eq_false_iff_ne.mpr h
   simp only [List.lookup,hb,if_neg h]
 | (k,x)::r=>by
  have ih:=OO f g v r
  rw [show KL f v ((k,x)::r)=(if k=f then (k,v)::r else (k,x)::KL f v r) from rfl]
  by_cases hk:k=f
  ·rw [if_pos hk]
   by_cases h:g=k
   ·have hb:(g == k)=true:=beq_iff_eq.mpr h
    simp only [List.lookup,hb,if_pos (h.trans hk)]
   ·have hb:(g == k)=false:=beq_eq_false_iff_ne.mpr h
    simp only [List.lookup,hb,if_neg (fun e:g=f=>h (e.trans hk.symm))]
  ·rw [if_neg hk]
   by_cases h:g=k
   ·have hb:(g == k)=true:=beq_iff_eq.mpr h
    simp only [List.lookup,hb,if_neg (fun e:g=f=>hk (h.symm.trans e))]
   ·have hb:(g == k)=false:=beq_eq_false_iff_ne.mpr h
    simp only [List.lookup,hb]
    exact ih
theorem OJ (f:Str)(v:V):∀ fs:List (Str×V),f∈(KL f v fs).map (·.1)∧∀ g,g∈fs.map (·.1)→g∈(KL f v fs).map (·.1)
 | []=>⟨by simp [KL],fun g h=>by simp at h⟩
 | (k,x)::r=>by
  obtain ⟨i1,i2⟩:=OJ f v r
  rw [show KL f v ((k,x)::r)=(if k=f then (k,v)::r else (k,x)::KL f v r) from rfl]
  by_cases hk:k=f
  ·rw [if_pos hk]
   subst hk
   exact ⟨by simp,fun g h=>by simpa using h⟩
  ·rw [if_neg hk]
   refine ⟨?_,fun g h=>?_⟩
   ·rw [zU]
    exact zK _ i1
   ·rw [zU] at h ⊢
    rcases zF.mp h with e | e
    ·exact zF.mpr (.inl e)
    ·exact zK _ (i2 g e)
theorem OP (f:Str)(v:V):∀ fs:List (Str×V),(KL f v fs).length≤fs.length+1
 | []=>by simp [KL]
 | (k,x)::r=>by
  have ih:=OP f v r
  rw [show KL f v ((k,x)::r)=(if k=f then (k,v)::r else (k,x)::KL f v r) from rfl]
  by_cases hk:k=f
  ·rw [if_pos hk,zB,zB];lia
  ·rw [if_neg hk,zB,zB];lia
theorem NU.some_of {v:V}{o:Option Value}(r:NU (some v) o):∃ u,o=some u∧RelV v u:=by
 cases o with
 | none=>exact (show False from r).elim
 | some u=>exact ⟨u,rfl,r⟩
theorem NU.none_of {o:Option Value}(r:NU none o):o=none:=by
 cases o with
 | none=>rfl
 | some u=>exact (show False from r).elim
theorem X7 {v:V}{u:Value}(r:RelV v u):W.handedIn u=true:=by
 cases v with
 | non=>cases (show u=Value.none from r);rfl
 | bl b=>cases (show u=Value.bool b from r);rfl
 | int i=>obtain ⟨t,e⟩:=(show ∃ t,u=Value.int i t from r);cases e;rfl
 | str x=>obtain ⟨t,e⟩:=(show ∃ t,u=Value.str x t from r);cases e;rfl
 | byt b=>obtain ⟨t,e⟩:=(show ∃ t,u=Value.bytes b t from r);cases e;rfl
 | flt b=>obtain ⟨t,e⟩:=(show ∃ t,u=Value.float b t from r);cases e;rfl
 | ref a=>cases (show u=Value.ref a from r);rfl
 | ty n=>cases (show u=Value.type n from r);rfl
section
variable {P:Program} {w:World} {H H':Hp} {h h':Heap} {a C dx:Addr} {fs fs':List (Str×V)}
theorem Po (hok:HOk P w H h)(e:H a=some (.ins C dx fs)):∃ mA,V0 h a dx C mA∧(∀ f,NU (fs.lookup f) (mA f))∧PySem.Within mA (fs.map (·.1))∧fs.length≤1000∧H dx=some (.own a):=by
 obtain ⟨d,z,ne,ob,mA,n,r,q⟩:=(show BM P w H h a (.ins C dx fs) from hok a _ e)
 exact ⟨mA,⟨ob,n,ne⟩,r,q,z,d⟩
end
structure Cls (K:W.Frag)(C:Addr):Prop where
 pg:W.plainGet K C Str.empty=true
 hd:W.hasDictIn K C=true
 po:W.plainOver K C=true
 sa:W.findIn K (.ref C) "__setattr__"=some (some (.builtin "object.__setattr__"))
theorem Cls.get {K:W.Frag}{C:Addr}(c:Cls K C)(f:Str):W.plainGet K C f=true:=c.pg
noncomputable def Hg (K:W.Frag)(C:Addr)(f:Str):Prop:=W.findIn K (.ref C) f=some none
theorem Hg.taker {K:W.Frag}{C:Addr}{f:Str}(n:Hg K C f):W.takerIn K C f=some none:=by
 unfold W.takerIn
 rw [show W.findIn K (.ref C) f=some none from n]
 rfl
structure Xr (K:W.Frag)(C:Addr)(m:Str)(f:Addr):Prop where
 at_:W.findIn K (.ref C) m=some (some (.ref f))
 fn:W.isFn K (.ref f)=true
 kp:W.keepIn K (.ref f)=true
section
variable {X:Cx} {pins:List (Addr×Obj)} {σ:St} {H:Hp} {s:Shared} {a C dx:Addr} {fs:List (Str×V)} {f:Str} {v:V} {A:Around} {E:Value→Shared→Prop}
theorem Vu {b:Bool}{Q:Value→Shared→Prop}(I:Inv X pins σ H s)(e:H a=some (.ins C dx fs))(c:Cls X.K C)(n:Hg X.K C f)(l:fs.lookup f=some v)
  (h:∀ u s',Inv X pins σ H s'→RelV v u→Q u s'):wpAny (model X.prog X.w) A (getAttr (.ref a) f b) Q E s:=by
 obtain ⟨mA,O,r,_,_,_⟩:=Po I.hok e
 obtain ⟨u,hu,ru⟩:=NU.some_of (v:=v) (o:=mA f) (by rw [← l];exact r f)
 exact av I.kIn O (c.get f) c.hd n hu (X7 ru) (h u _ (I.tok _) ru)
theorem L9 {m:Str}{g:Addr}{pl:Sem Bool}{Q:Value×List Value→Shared→Prop}(I:Inv X pins σ H s)(e:H a=some (.ins C dx fs))(c:Cls X.K C)(k:Xr X.K C m g)(l:fs.lookup m=none)
  (h:Q (.ref g,[.ref a]) s):wpAny (model X.prog X.w) A (getMethod (.ref a) m pl) Q E s:=by
 obtain ⟨mA,O,r,_,_,_⟩:=Po I.hok e
 have hn:mA m=none:=NU.none_of (by rw [← l];exact r m)
 exact Yp I.kIn O (c.get m) k.at_ k.fn hn h
theorem WC {y:V}{u:Value}{Q:Unit→Shared→Prop}(I:Inv X pins σ H s)(e:H a=some (.ins C dx fs))(c:Cls X.K C)(n:Hg X.K C f)(hl:fs.length<1000)(ry:RelV y u)
  (h:∀ s',Inv X pins σ (upd H a (.ins C dx (KL f y fs))) s'→Q () s'):wpAny (model X.prog X.w) A (setAttr (.ref a) f u) Q E s:=by
 obtain ⟨mA,O,r,wi,_,ho⟩:=Po I.hok e
 have hz:(fs.map (·.1)).length≤sizeLine:=by rw [z0,sizeLine_eq];lia
 refine Zm I.kIn O c.sa c.po n.taker c.hd wi hz fun h' O' sb=>h _ ?_
 have hd:∃ o,h'.get? dx=some o:=let ⟨o,_,_,e',_⟩:=O'.ns;⟨o,e'⟩
 refine I.write (x:=a) (e:=dx) (by rw [e];exact True.intro) (.inr ho) (fun b q hb z=>(sb.2 b hb).trans z) hd ?_
 refine ⟨by rw [AO O.ne];exact ho,?_,O.ne,O'.obj,_,O'.ns,fun g=>?_,fun g hg=>?_⟩
 ·have:=OP f y fs;lia
 ·show NU ((KL f y fs).lookup g) (if g=f then some u else mA g)
  rw [OO]
  by_cases q:g=f
  ·rw [if_pos q,if_pos q];exact ry
  ·rw [if_neg q,if_neg q];exact r g
 ·by_cases q:g=f
  ·rw [q];exact (OJ f y fs).1
  ·refine (OJ f y fs).2 g (wi g fun z=>hg ?_)
   show (if g=f then some u else mA g)=none
   rw [if_neg q];exact z
theorem Inv.made (I:Inv X pins σ H s):Inv X pins σ (upd (upd H s.heap.objs.size (.own (s.heap.objs.size+1))) (s.heap.objs.size+1) (.ins C s.heap.objs.size []))
  { s with heap:=(s.heap.push W.emptyDict).push (W.instObj C s.heap.objs.size) }:=by
 have e1:(s.heap.push W.emptyDict).get? s.heap.objs.size=some W.emptyDict:=zT s.heap rfl
 have e2:((s.heap.push W.emptyDict).push (W.instObj C s.heap.objs.size)).get? (s.heap.objs.size+1)=some (W.instObj C s.heap.objs.size):=by
  have:=zT (s.heap.push W.emptyDict) (o:=W.instObj C s.heap.objs.size) rfl
  rwa [qP] at this
 have e3:(s.heap.push W.emptyDict).Ns s.heap.objs.size (fun _=>none):=⟨W.emptyDict,#[],_,e1,rfl,(fun e he=>absurd he (by simp)),fun _=>rfl⟩
 have I1:=I.laid (a:=s.heap.objs.size) (o:=.own (s.heap.objs.size+1)) (h':=s.heap.push W.emptyDict) (t':=s.toks) (fun b u q=>zA _ q) (zL _) ⟨_,e1⟩
 refine I1.laid (a:=s.heap.objs.size+1) (o:=.ins C s.heap.objs.size []) (t':=s.toks) (fun b u q=>zA _ q) (Nat.le_of_eq (qP _ _)) ?_
 have ne:s.heap.objs.size≠s.heap.objs.size+1:=ze (Nat.lt_succ_self _)
 refine ⟨by rw [AO ne,AM],zr _,ne,e2,fun _=>none,(Heap.Ns1.of_empty e3).at fun o q=>zA _ q,fun _=>True.intro,fun y hy=>absurd rfl hy⟩
theorem Zw {prog:Program}{w:World}{env:Env}{e:Expr}{f:Str}{pos:Pos}{s:Shared}{Q:Value→Shared→Prop}(hb:attributeBase e f env (eval e env)=eval e env)
  (h:wpAny (model prog w) A (eval e env) (fun o s₁=>wpAny (model prog w) A (getAttr o f true) Q E s₁) E s):wpAny (model prog w) A (eval (.Attribute e f pos) env) Q E s:=
 Attribute_any_ h (by rw [arm_eval_Attribute,hb])
end
noncomputable def Rp (K:W.Frag)(ta:TE)(f:Str):TE:=fun σ H Q=>ta σ H fun x H1=>∃ a C dx fs v,x = .ref a∧H1 a=some (.ins C dx fs)∧Cls K C∧Hg K C f∧fs.lookup f=some v∧Q v H1
noncomputable def Rg (K:W.Frag)(ta tv:TE)(f:Str):TS:=fun D σ H=>tv σ H fun y H1=>ta σ H1 fun x H2=>∃ a C dx fs,x = .ref a∧H2 a=some (.ins C dx fs)∧Cls K C∧Hg K C f∧fs.length<1000 ∧
 D.nx σ (upd H2 a (.ins C dx (KL f y fs)))
section
variable {X:Cx} {o e value:Expr} {f:Str} {pos pos' tpos:Pos} {ta tv:TE}
theorem Bm (he:PE X e ta)(hb:attributeBase e f X.env (eval e X.env)=eval e X.env):PE X (.Attribute e f pos) (Rp X.K ta f):=by
 intro pins s σ H Q I h
 refine Zw hb (thn (he pins s σ H _ I h) fun u s1 zq=>?_)
 obtain ⟨x,H1,I1,rx,a,C,dx,fs,v,ex,ea,c,n,l,q⟩:=zq
 subst ex
 obtain rfl:u=Value.ref a:=rx
 exact Vu I1 ea c n l fun u' s2 I2 ru=>⟨v,H1,I2,ru,q⟩
theorem Ng (ha:PE X o ta)(hv:PE X value tv)(hs:swapsWith value (some (.Attribute o f pos')) pos.line X.env=pure false):PS X (.Assign [.Attribute o f pos'] value pos) (Rg X.K ta tv f):=by
 intro pins s σ H D I h
 refine plainObj_wpAny_Assign_Attribute (thn (hv pins s σ H _ I h) fun u s1 ⟨y,H1,I1,ry,q⟩=>thn (ha pins s1 σ H1 _ I1 q) fun ov s2 zq=>?_) hs
 obtain ⟨x,H2,I2,rx,a,C,dx,fs,ex,ea,c,n,l,q2⟩:=zq
 subst ex
 obtain rfl:ov=Value.ref a:=rx
 exact WC I2 ea c n l ry fun s3 I3=>⟨σ,_,I3,q2⟩
end
section
variable {X:Cx} {pins:List (Addr×Obj)} {σ:St} {H:Hp} {s:Shared} {A:Around} {E:Value→Shared→Prop} {Q:Value→Shared→Prop} {c:Value} {b:Bool}
inductive Jp (K:W.Frag)(H:Hp):V→Value→Prop where
 | non:Jp K H .non (.type "NoneType")
 | bl (x:Bool):Jp K H (.bl x) (.type "bool")
 | int (i:Int):Jp K H (.int i) (.type "int")
 | str (x:Str):Jp K H (.str x) (.type "str")
 | flt (x:UInt64):Jp K H (.flt x) (.type "float")
 | lst {a:Addr} {xs:List V} (e:H a=some (.lst xs)):Jp K H (.ref a) (.type "list")
 | frz {a:Addr} {o:Obj} {xs:List V} (e:H a=some (.frz o (.lst xs))):Jp K H (.ref a) (.type "list")
 | tup {a:Addr} {xs:List V} (e:H a=some (.tup xs)):Jp K H (.ref a) (.type "tuple")
 | dK {a:Addr} {kvs:List (Key×V)} (e:H a=some (.dK kvs)):Jp K H (.ref a) (.type "dict")
 | dT {a:Addr} {kvs:List (List Key×V)} (e:H a=some (.dT kvs)):Jp K H (.ref a) (.type "dict")
 | ins {a C dx:Addr} {fs:List (Str×V)} (e:H a=some (.ins C dx fs)) (cl:Cls K C) (ha:W.findIn K (.ref C) "__class__"=some (some (.builtin "object.__class__")))
   (hn:W.specialIn K (.builtin "object.__class__") "__get__"=some (some (.builtin "getset_descriptor.__get__"))) (htk:W.takesIn K (.builtin "object.__class__")=some true)
   (hm:W.mroIn K C (.type "object")=some true):Jp K H (.ref a) (.ref C)
theorem X4 {x:V}{u t:Value}(I:Inv X pins σ H s)(rx:RelV x u)(ty:Jp X.K H x t)(e:W.kitOne X.K t c=some b)(h:∀ tk,Q (.bool b) { s with toks:=tk }) :
  wpAny (model X.prog X.w) A (call (.builtin "isinstance") [u,c]) Q E s:=by
 cases ty with
 | non=>cases (show u=Value.none from rx);exact W.kia_one W.kitx_none I.kIn True.intro e (fun z=>nomatch z) h
 | bl y=>cases (show u=Value.bool y from rx);exact W.kia_one W.kitx_bool I.kIn True.intro e (fun z=>nomatch z) h
 | int i=>obtain ⟨t,q⟩:=(show ∃ t,u=Value.int i t from rx);cases q;exact W.kia_one W.kitx_int I.kIn True.intro e (fun z=>nomatch z) h
 | str y=>obtain ⟨t,q⟩:=(show ∃ t,u=Value.str y t from rx);cases q;exact W.kia_one W.kitx_str I.kIn True.intro e (fun z=>nomatch z) h
 | flt y=>obtain ⟨t,q⟩:=(show ∃ t,u=Value.float y t from rx);cases q;exact W.kia_one W.kitx_float I.kIn True.intro e (fun z=>nomatch z) h
 | @lst a xs ea =>
  cases (show u=Value.ref a from rx)
  obtain ⟨_,_,n,_,h1⟩:=(show BM X.prog X.w H s.heap a (.lst xs) from I.hok a _ ea)
  exact W.kia_one W.kitx_list I.kIn ⟨_,h1,rfl⟩ e (fun z=>nomatch z) h
 | @frz a ob xs ea =>
  cases (show u=Value.ref a from rx)
  obtain ⟨_,_,_,n,_,h1⟩:=(show BM X.prog X.w H s.heap a (.frz ob (.lst xs)) from I.hok a _ ea)
  exact W.kia_one W.kitx_list I.kIn ⟨_,h1,rfl⟩ e (fun z=>nomatch z) h
 | @tup a xs ea =>
  cases (show u=Value.ref a from rx)
  obtain ⟨_,_,_,p⟩:=(show BM X.prog X.w H s.heap a (.tup xs) from I.hok a _ ea)
  obtain ⟨o,h1,h2,_⟩:=p
  exact W.kia_one W.kitx_tuple I.kIn ⟨o,h1,h2⟩ e (fun z=>nomatch z) h
 | @dK a kvs ea =>
  cases (show u=Value.ref a from rx)
  obtain ⟨_,_,vs,_,p⟩:=(show BM X.prog X.w H s.heap a (.dK kvs) from I.hok a _ ea)
  obtain ⟨o,es,ep,h1,h2,_⟩:=p
  exact W.kia_one W.kitx_dict I.kIn ⟨o,h1,h2.1⟩ e (fun z=>nomatch z) h
 | @dT a kvs ea =>
  cases (show u=Value.ref a from rx)
  obtain ⟨_,_,xs,_,o,es,ep,h1,h2,_⟩:=(show BM X.prog X.w H s.heap a (.dT kvs) from I.hok a _ ea)
  exact W.kia_one W.kitx_dict I.kIn ⟨o,h1,h2.1⟩ e (fun z=>nomatch z) h
 | @ins a C dx fs ea cl ha hn htk hm =>
  cases (show u=Value.ref a from rx)
  obtain ⟨mA,O,_⟩:=Po I.hok ea
  obtain ⟨od,J,_⟩:=O.look
  exact W.kia_one (W.kitx_own (cl.get _) cl.hd ha hn htk hm) I.kIn J e (fun z=>nomatch z) h
end
structure CT (k:Nat)(A:Around):Prop where
 hd:A.handled=none
 dp:A.depth+3*k+5<recursionLimit
 un:A.units+16*k+200<cLine
theorem CT.mono {j k:Nat}{A:Around}(r:CT k A)(h:j≤k):CT j A:=⟨r.hd,by have:=r.dp;lia,by have:=r.un;lia⟩
theorem CT.deeper {k:Nat}{A:Around}(r:CT (k+1) A)(env:Env):CT k (A.deeper env):=
 ⟨r.hd,by have:=r.dp;show A.depth+1+3*k+5<_;lia,by have:=r.un;show A.units+3+16*k+200<_;lia⟩
theorem Vc {A:Around}{C:Addr}{us:List Value}{kw:List (Str×Value)}:(A.under (.builtin "type.__call__" ⟨.ref C::us,kw⟩)).depth=A.depth+1:=by
 first | rfl | simp [Around.under,Code.weight,Code.isCreation,Code.isGuard,Code.isCaller,Code.frames,Code.isFrame,guardIds]
theorem Vz {A:Around}{C:Addr}{us:List Value}{kw:List (Str×Value)}:(A.under (.builtin "type.__call__" ⟨.ref C::us,kw⟩)).units=A.units+1:=by
 first | rfl | simp [Around.under,Code.cUnits,Code.frames,Code.isFrame]
theorem CT.make {k:Nat}{A:Around}(r:CT (k+1) A)(C:Addr)(us:List Value)(kw:List (Str×Value)):CT k (A.under (.builtin "type.__call__" ⟨.ref C::us,kw⟩)):=
 ⟨r.hd,by have:=r.dp;rw [Vc];lia,by have:=r.un;rw [Vz];lia⟩
theorem CT.depth {k:Nat}{A:Around}(r:CT k A):A.depth<recursionLimit:=by have:=r.dp;lia
theorem CT.units {k:Nat}{A:Around}(r:CT k A):A.units+64<cLine:=by have:=r.un;lia
noncomputable def Nd:TA:=fun _ H Q=>Q [] H
noncomputable def JK (ta:TE)(tr:TA):TA:=fun σ H Q=>ta σ H fun x H1=>tr σ H1 fun xs H2=>Q (x::xs) H2
section
variable {X:Cx} {e:Expr} {es:List Expr} {te:TE} {t:TA} {pos:Pos}
theorem AB:PA X [] Nd:=fun _ _ _ _ H Q I h=>Calls.spliced_nil ⟨[],H,I,.nil,h⟩
theorem AA (ha:PE X e te)(hr:PA X es t)(hs:starEach (e::es) X.env=(false,eval e X.env)::starEach es X.env:=by rfl):PA X (e::es) (JK te t):=by
 intro pos pins s σ H Q I h
 rw [hs]
 show wpAny _ _ (spliced ((false,eval e X.env)::backTo pos (starEach es X.env))) _ _ s
 refine Calls.spliced_cons (thn (ha pins s σ H _ I h) fun u s1 zq=>?_)
 obtain ⟨x,H1,I1,r1,q1⟩:=zq
 exact thn (hr pos pins s1 σ H1 _ I1 q1) fun us s2 ⟨xs,H2,I2,r2,q2⟩=>⟨x::xs,H2,I2,.cons r1 r2,q2⟩
end
noncomputable abbrev Sp:=List V→Hp→VK→XK→Prop
noncomputable abbrev CXT:=List Env→Hp→Shared→XK→Value→Shared→Prop
structure Vs (P:Program)(w:World)(K:W.Frag)(mg:Str→Option Value)(base:Heap)(A:Around)(outer:List Env)(s:Shared)(H:Hp):Prop where
 frames:A.frames=some outer
 mod:Mod K mg base
 bs:∀ b o,base.get? b=some o→s.heap.get? b=some o∧H b=none
 bsz:base.objs.size≤s.heap.objs.size
 funs:s.heap.FunFrames base outer
 frf:∀ b∈frs outer,H b=none
 hok:HOk P w H s.heap
 bare:AllBare s.gens
noncomputable def CE (outer:List Env)(P:Program)(w:World)(H:Hp)(s:Shared)(Q:VK)(u:Value)(s':Shared):Prop:=
 ∃ v H',s'.os=s.os∧AllBare s'.gens∧Un (frs outer) [] H H' s.heap s'.heap∧HOk P w H' s'.heap∧RelV v u∧Q v H'
noncomputable def CR (CX:CXT)(outer:List Env)(P:Program)(w:World)(H:Hp)(s:Shared)(Q:VK)(E:XK)(r:Result)(s':Shared):Prop:=
 match r with
 | .ok (.ret u)=>CE outer P w H s Q u s'
 | .ok _=>False
 | .error e=>CX outer H s E e s'
structure Aa (P:Program)(w:World)(K:W.Frag)(mg:Str→Option Value)(base:Heap)(CX:CXT)(k:Nat)(f:Addr)(fd:FuncData)(ps:List Str)(sp:Sp):Prop where
 len:∀ vs H Q E,sp vs H Q E→vs.length=ps.length
 run:∀ (A:Around) (outer:List Env) (s:Shared) (H:Hp) (args:Args) (us:List Value) (vs:List V) (Q:VK) (E:XK),CT k A→Vs P w K mg base A outer s H→BindsTo s fd args (ps.zip us)→An vs us→sp vs H Q E →
  codeAny (model P w) A (.call (.ref f) args) (CR CX outer P w H s Q E) s
theorem Aa.mono {P:Program}{w:World}{K:W.Frag}{mg:Str→Option Value}{base:Heap}{CX:CXT}{j k:Nat}{f:Addr}{fd:FuncData}{ps:List Str}{sp:Sp}(F:Aa P w K mg base CX j f fd ps sp)(h:j≤k) :
  Aa P w K mg base CX k f fd ps sp:=⟨F.len,fun A outer s H args us vs Q E hr=>F.run A outer s H args us vs Q E (hr.mono h)⟩
theorem Vs.make {P:Program}{w:World}{K:W.Frag}{mg:Str→Option Value}{base:Heap}{A:Around}{outer:List Env}{s:Shared}{H:Hp}(e:Vs P w K mg base A outer s H)(C:Addr)(us:List Value)(kw:List (Str×Value)) :
  Vs P w K mg base (A.under (.builtin "type.__call__" ⟨.ref C::us,kw⟩)) outer s H:=⟨by first | exact e.frames | (simpa [Around.under,Code.envs,Code.isFrame,pushEnvs] using e.frames),e.mod,e.bs,e.bsz,e.funs,e.frf,e.hok,e.bare⟩
section
variable {X:Cx} {pins:List (Addr×Obj)} {σ:St} {H:Hp} {s s':Shared}
theorem Inv.env0 (I:Inv X pins σ H s):Vs X.prog X.w X.K X.mg X.base X.A X.stack s H:=
 ⟨I.ok.frames,I.ok.mod,I.bs,zO I.ok.bsz I.sz,I.stack,I.stkFree,I.hok,I.bare⟩
theorem Inv.after {Q:VK}{u:Value}(I:Inv X pins σ H s)(h:CE X.stack X.prog X.w H s Q u s'):EP X pins σ Q u s':=by
 obtain ⟨v,H',os,bare,un,hok,r,q⟩:=h
 obtain ⟨hh,g,d,t,os'⟩:=s'
 obtain rfl:os'=s.os:=os
 exact ⟨v,H',I.call (h':=hh) (g':=g) (d':=d) (t':=t) (ch:=[]) un hok bare (fun b z=>absurd z (by simp)),r,q⟩
end
noncomputable def JG (sp:Sp)(dvs:List V)(E:XK)(t:TA):TE:=fun σ H Q=>t σ H fun vs H1=>sp (vs++dvs) H1 Q E
noncomputable def IW (C:Addr)(m:Str)(sp:Sp)(dvs:List V)(E:XK)(ta:TE)(t:TA):TE:=fun σ H Q=>ta σ H fun x H1=>∃ a dx fs,x = .ref a∧H1 a=some (.ins C dx fs)∧fs.lookup m=none ∧
 t σ H1 fun vs H2=>sp (x::(vs++dvs)) H2 Q E
noncomputable def Kw (C:Addr)(sp:Sp)(dvs:List V)(E:XK)(t:TA):TE:=fun σ H Q=>t σ H fun vs H1=>∀ x dx,H1 x=none→H1 dx=none→dx≠x →
 sp (.ref x::(vs++dvs)) (upd (upd H1 dx (.own x)) x (.ins C dx [])) (fun v H2=>v = .non∧Q (.ref x) H2) E
noncomputable def Binds (K:W.Frag)(fd:FuncData)(ps:List Str)(ds:List Value):Prop:=
 ∀ (s:Shared) (us:List Value),K.In s.heap→(us++ds).length=ps.length→BindsTo s fd ⟨us,[]⟩ (ps.zip (us++ds))
theorem Binds.all {K:W.Frag}{fd:FuncData}{ps:List Str}(h:∀ us:List Value,us.length=ps.length→bindArgs fd ⟨us,[]⟩=pure (ps.zip us)):Binds K fd ps []:=fun s us _ hl=>by
 rw [qS] at hl ⊢
 exact .of_eq (h us hl)
noncomputable def E4 (CX:CXT)(X:Cx)(E:XK):Prop:=∀ (pins:List (Addr×Obj)) (σ:St) (H:Hp) (s:Shared) (e:Value) (s':Shared),Inv X pins σ H s→CX X.stack H s E e s'→X.xe e s'
section
variable {X:Cx} {CX:CXT} {k:Nat} {f C:Addr} {fd:FuncData} {ps:List Str} {sp:Sp} {dvs:List V} {ds:List Value} {E:XK} {x m:Str} {p pos apos:Pos} {e o:Expr} {es:List Expr} {ta:TE} {t:TA}
theorem TN {pins:List (Addr×Obj)}{σ:St}{H:Hp}{s:Shared}{Q:VK}{us:List Value}{vs:List V}(F:Aa X.prog X.w X.K X.mg X.base CX k f fd ps sp)(hr:CT k X.A)(hb:Binds X.K fd ps ds)(hd:An dvs ds)(hx:E4 CX X E)
  (I:Inv X pins σ H s) (r:An vs us) (h:sp (vs++dvs) H Q E):wpAny (model X.prog X.w) X.A (call (.ref f) us) (EP X pins σ Q) X.xe s:=by
 have r2:An (vs++dvs) (us++ds):=r.append hd
 have hl:(us++ds).length=ps.length:=by rw [← r2.length];exact F.len _ _ _ _ h
 refine wpAny_call (codeAny_mono (F.run X.A X.stack s H ⟨us,[]⟩ (us++ds) (vs++dvs) Q E hr I.env0 (hb s us I.kIn hl) r2 h) fun r s' hq=>?_)
 cases r with
 | error e=>exact hx pins σ H s e s' I hq
 | ok fl =>
  cases fl with
  | ret u=>exact I.after hq
  | next=>exact False.elim hq
  | brk=>exact False.elim hq
  | cont=>exact False.elim hq
theorem aB (F:Aa X.prog X.w X.K X.mg X.base CX k f fd ps sp)(hr:CT k X.A)(hg:Gl X x)(hm:X.mg x=some (.ref f))(hk:W.keepIn X.K (.ref f)=true)(hb:Binds X.K fd ps ds)(hd:An dvs ds)(hx:E4 CX X E)
  (ha:PA X (e::es) t) (hdb:(x == ("__debug__":Str))=false:=by decide) (he:starEach (e::es) X.env=(false,eval e X.env)::starEach es X.env:=by rfl) (hpl:(backTo pos (starEach es X.env)).any (·.1)=false:=by rfl) :
  PE X (.Call (.Name x p) (e::es) [] pos) (JG sp dvs E t):=by
 intro pins s σ H Q I h
 refine wpAny_Call_Name_kw (HM I hg hm ?_ hdb)
 refine W.callWith_K (h₀:=X.base) I.ok.mod.kin hk (thn (ha pos pins s σ H _ I h) fun us s1 ⟨vs,H1,I1,r,q⟩=>⟨I1.kIn,?_⟩) he hpl
 exact TN F hr hb hd hx I1 r q
theorem Aj {pl:Sem Bool}(he:PE X o ta)(c:Cls X.K C)(hm:Xr X.K C m f)(F:Aa X.prog X.w X.K X.mg X.base CX k f fd ps sp)(hr:CT k X.A)(hb:Binds X.K fd ps ds)(hd:An dvs ds)(hx:E4 CX X E)(ha:PA X (e::es) t)
  (hst:starEach (e::es) X.env=(false,eval e X.env)::starEach es X.env:=by rfl) (hpl:(backTo pos (starEach es X.env)).any (·.1)=false:=by rfl)
  (ht:eval (.Call (.Attribute o m apos) (e::es) [] pos) X.env=(do
   let ov ← eval o X.env
   standAt apos.atName
   let (f,first) ← holding [ov] (getMethod ov m pl)
   callWith pos f first (backTo pos (starEach (e::es) X.env)) (backToKw pos (keywordEach [] X.env))):=by rfl) :
  PE X (.Call (.Attribute o m apos) (e::es) [] pos) (IW C m sp dvs E ta t):=by
 intro pins s σ H Q I h
 refine W.methodCall_KW (pl:=pl) (thn (he pins s σ H _ I h) fun u s1 zq=>?_) ht
 obtain ⟨x,H1,I1,rx,a,dx,fs,ex,ea,l,q⟩:=zq
 subst ex
 obtain rfl:u=Value.ref a:=rx
 refine L9 I1 ea c hm l ?_
 refine W.callWith_K (first:=[.ref a]) (h₀:=X.base) I.ok.mod.kin hm.kp (thn (ha pos pins s1 σ H1 _ I1 q) fun us s2 ⟨vs,H2,I2,r,q2⟩=>⟨I2.kIn,?_⟩) hst hpl
 exact TN (us:=.ref a::us) (vs:=.ref a::vs) F hr hb hd hx I2 (.cons rfl r) q2
theorem Eu {pl:Sem Bool}(he:PE X o ta)(c:Cls X.K C)(hm:Xr X.K C m f)(F:Aa X.prog X.w X.K X.mg X.base CX k f fd ps sp)(hr:CT k X.A)(hb:Binds X.K fd ps ds)(hd:An dvs ds)(hx:E4 CX X E)
  (ht:eval (.Call (.Attribute o m apos) [] [] pos) X.env=(do
   let ov ← eval o X.env
   standAt apos.atName
   let (f,first) ← holding [ov] (getMethod ov m pl)
   callWith pos f first (backTo pos (starEach [] X.env)) (backToKw pos (keywordEach [] X.env))):=by rfl) :
  PE X (.Call (.Attribute o m apos) [] [] pos) (IW C m sp dvs E ta Nd):=by
 intro pins s σ H Q I h
 refine W.methodCall_KW (pl:=pl) (thn (he pins s σ H _ I h) fun u s1 zq=>?_) ht
 obtain ⟨x,H1,I1,rx,a,dx,fs,ex,ea,l,q⟩:=zq
 subst ex
 obtain rfl:u=Value.ref a:=rx
 refine L9 I1 ea c hm l ?_
 exact W.callWith_K0 (first:=[.ref a]) I1.kIn hm.kp (TN (us:=[.ref a]) (vs:=[.ref a]) F hr hb hd hx I1 (.cons rfl .nil) q)
structure Mk (K:W.Frag)(C f:Addr):Prop where
 makes:W.makesIn K C=true
 init:W.findIn K (.ref C) "__init__"=some (some (.ref f))
 fn:W.isFn K (.ref f)=true
 kp:W.keepIn K (.ref C)=true
theorem ZD {pins:List (Addr×Obj)}{σ:St}{H:Hp}{s:Shared}{Q:VK}{us:List Value}{vs:List V}(M:Mk X.K C f)(F:Aa X.prog X.w X.K X.mg X.base CX k f fd ps sp)(hr:CT (k+1) X.A)(hb:Binds X.K fd ps ds)(hd:An dvs ds)
  (hx:E4 CX X E) (I:Inv X pins σ H s) (r:An vs us)
  (h:∀ x dx,H x=none→H dx=none→dx≠x→sp (.ref x::(vs++dvs)) (upd (upd H dx (.own x)) x (.ins C dx [])) (fun v H2=>v = .non∧Q (.ref x) H2) E) :
  wpAny (model X.prog X.w) X.A (call (.ref C) us) (EP X pins σ Q) X.xe s:=by
 have hq:=h (s.heap.objs.size+1) s.heap.objs.size (I.hok.fresh (Nat.le_succ _)) (I.hok.fresh (zL _)) (ze (Nat.lt_succ_self _))
 have I2:=Inv.made (C:=C) I
 have r2:An (V.ref (s.heap.objs.size+1)::(vs++dvs)) (Value.ref (s.heap.objs.size+1)::(us++ds)):=.cons rfl (r.append hd)
 have hl:(Value.ref (s.heap.objs.size+1)::us++ds).length=ps.length:=by
  have e:=r2.length
  rw [F.len _ _ _ _ hq] at e
  exact e.symm
 refine wpAny_call (ZQ (f:=f) I.kIn M.makes M.init (beq_iff_eq.mp M.fn) (codeAny_mono (F.run _ X.stack _ _ ⟨Value.ref (s.heap.objs.size+1)::us,[]⟩ (Value.ref (s.heap.objs.size+1)::(us++ds)) _ _ E (hr.make C us [])
  (I2.env0.make C us []) (hb _ (Value.ref (s.heap.objs.size+1)::us) I2.kIn hl) r2 hq) fun r s' hq'=>?_))
 cases r with
 | error e=>exact hx pins σ _ _ e s' I2 hq'
 | ok fl =>
  cases fl with
  | ret u =>
   obtain ⟨v,H',I3,rv,ev,q3⟩:=I2.after hq'
   subst ev
   exact ⟨rv,⟨V.ref (s.heap.objs.size+1),H',I3,rfl,q3⟩⟩
  | next=>exact False.elim hq'
  | brk=>exact False.elim hq'
  | cont=>exact False.elim hq'
theorem RF (M:Mk X.K C f)(F:Aa X.prog X.w X.K X.mg X.base CX k f fd ps sp)(hr:CT (k+1) X.A)(hg:Gl X x)(hm:X.mg x=some (.ref C))(hb:Binds X.K fd ps ds)(hd:An dvs ds)(hx:E4 CX X E)
  (hdb:(x == ("__debug__":Str))=false:=by decide):PE X (.Call (.Name x p) [] [] pos) (Kw C sp dvs E Nd):=by
 intro pins s σ H Q I h
 refine wpAny_Call_Name_kw (HM I hg hm ?_ hdb)
 exact W.callWith_K0 I.kIn M.kp (ZD (us:=[]) M F hr hb hd hx I .nil h)
end
section
variable {X:Cx} {CX:CXT} {k:Nat} {f C:Addr} {fd:FuncData} {ps ks:List Str} {sp:Sp} {E:XK} {x m:Str} {p pos apos kpos:Pos} {e o:Expr} {es:List Expr} {kws:List Keyword} {te ta:TE} {t tk:TA} {nm:Option Str}
variable {g:List Value→List Value→List Value} {gV:List V→List V→List V}
end
structure AJ (N P:List Str)(sc:Scope):Prop where
 kind:sc.kind = .function
 co:sc.isCoroutine=false
 gen:sc.isGenerator=false
 nd:N.Nodup
 pre:N.take P.length=P
 par:∀ x∈P,sc.names.lookup x=some .local∨sc.names.lookup x=some .cell
 nofree:∀ y∈sc.names,y.2≠.free
theorem SM {kindOf:Str→Option NameKind}{x:Str}:∀ {binds:List (Str×Value)} {m:Str→Option Value},(∀ v,(x,v)∉binds)→bindL kindOf binds m x=m x
 | [],_,_=>rfl
 | (n,v)::r,m,h=>by
  unfold bindL
  rw [SM fun w hw=>h w (zK _ hw)]
  split
  ·have:x≠n:=by rintro rfl;exact h v zP
   simp [this]
  ·rfl
theorem SB {kindOf:Str→Option NameKind}{x:Str}:∀ {binds:List (Str×Value)} {m:Str→Option Value},(∀ v,(x,v)∉binds)→bindC kindOf binds m x=m x
 | [],_,_=>rfl
 | (n,v)::r,m,h=>by
  unfold bindC
  rw [SB fun w hw=>h w (zK _ hw)]
  split
  ·rfl
  ·have:x≠n:=by rintro rfl;exact h v zP
   simp [this]
theorem Se {kindOf:Str→Option NameKind}{x:Str}{v:Value}:∀ {P:List Str} {vs:List Value} {i:Nat} {m:Str→Option Value},P.Nodup→P[i]? = some x→vs[i]? = some v→kindOf x=some .local →
  bindL kindOf (P.zip vs) m x=some v
 | [],_,_,_,_,h,_,_=>by simp at h
 | _::_,[],_,_,_,_,h,_=>by simp at h
 | p::P,w::vs,0,m,nd,h1,h2,hk=>by
  simp at h1 h2;subst h1;subst h2
  show bindL kindOf ((p,w)::P.zip vs) m p=_
  unfold bindL
  rw [SM fun v hv=>(qa.mp nd).1 (List.of_mem_zip hv).1,if_pos hk]
  simp
 | p::P,w::vs,i+1,m,nd,h1,h2,hk=>by
  show bindL kindOf ((p,w)::P.zip vs) m x=_
  unfold bindL
  exact Se (i:=i) (qa.mp nd).2 (by simpa using h1) (by simpa using h2) hk
theorem SY {kindOf:Str→Option NameKind}{x:Str}{v:Value}:∀ {P:List Str} {vs:List Value} {i:Nat} {m:Str→Option Value},P.Nodup→P[i]? = some x→vs[i]? = some v→kindOf x≠some .local →
  bindC kindOf (P.zip vs) m x=some v
 | [],_,_,_,_,h,_,_=>by simp at h
 | _::_,[],_,_,_,_,h,_=>by simp at h
 | p::P,w::vs,0,m,nd,h1,h2,hk=>by
  simp at h1 h2;subst h1;subst h2
  show bindC kindOf ((p,w)::P.zip vs) m p=_
  unfold bindC
  rw [SB fun v hv=>(qa.mp nd).1 (List.of_mem_zip hv).1,if_neg hk]
  simp
 | p::P,w::vs,i+1,m,nd,h1,h2,hk=>by
  show bindC kindOf ((p,w)::P.zip vs) m x=_
  unfold bindC
  exact SY (i:=i) (qa.mp nd).2 (by simpa using h1) (by simpa using h2) hk
noncomputable def start (N:List Str)(vs:List V):St:=vs.map some++List.replicate (N.length-vs.length) none
noncomputable def BF (CX:CXT)(P:Program)(w:World)(K:W.Frag)(mg:Str→Option Value)(base:Heap)(N:List Str)(qual:Str)(scope:Scope)(f:Addr)(cd:Value)(A:Around)(outer:List Env)(s:Shared)(H:Hp)(E:XK):Cx where
 prog:=P
 w:=w
 K:=K
 mg:=mg
 base:=base
 A:=A.deeper (envOfC qual scope s.heap.objs.size f cd)
 N:=N
 s₀:=s
 H₀:=H
 env:=envOfC qual scope s.heap.objs.size f cd
 outer:=outer
 stack:=envOfC qual scope s.heap.objs.size f cd::outer
 ex:=[]
 calm:=true
 fn:=fun _=>true
 pn:=[]
 xe:=fun e s'=>wpAny (model P w) (A.deeper (envOfC qual scope s.heap.objs.size f cd)) (leaving (envOfC qual scope s.heap.objs.size f cd) e) (fun _ s''=>CX outer H s E e s'') (fun e' s''=>CX outer H s E e' s'') s'
theorem Ul {sc:Scope}{n:Nat}{x:Str}(h:sc.names.lookup x=some .cell):∃ c,(cellsFrom n sc.names []).lookup x=some c:=by
 have q:=W.cellsFrom_some sc.names n [] (.inl h)
 exact Option.isSome_iff_exists.mp q
theorem Xc {CX:CXT}{P:Program}{w:World}{K:W.Frag}{mg:Str→Option Value}{base:Heap}{N ps:List Str}{qual:Str}{scope:Scope}{f:Addr}{cd:Value}{A:Around}{outer:List Env}{s s1:Shared}{H:Hp}{E:XK}{us:List Value}{vs:List V}
  (S:AJ N ps scope) (hd:A.handled=none) (e0:Vs P w K mg base A outer s H) (hl:vs.length=ps.length) (r:An vs us)
  (x:InCallC s s.heap.objs.size (bindL (envOfC qual scope s.heap.objs.size f cd).kindOf (ps.zip us) fun _=>none) (cellsFrom (s.heap.objs.size+1) scope.names []) (bindC (envOfC qual scope s.heap.objs.size f cd).kindOf (ps.zip us) fun _=>none) s1) :
  Inv (BF CX P w K mg base N qual scope f cd A outer s H E) [] (start N vs) H s1:=by
 have hpl:ps.length≤N.length:=by have:=congrArg List.length S.pre;rw [zw] at this;lia
 obtain ⟨h1,tk,rfl,hk⟩:=x.done
 have noA:∀ b:Addr,b∉(BF CX P w K mg base N qual scope f cd A outer s H E).ex:=fun b z=>absurd (show b∈([]:List Addr) from z) (by simp)
 refine ⟨⟨e0.mod,S.kind,rfl,rfl,zL _,fun y z c h1 h2=>?_,fun y hy=>?_,fun y c _ h=>?_,fun _=>hd,Around.frames_deeper e0.frames,.inr ⟨rfl,rfl⟩,fun b z=>absurd z (noA b),e0.bs,e0.bsz,fun b _ _=>noA b,fun b z=>absurd z (noA b),e0.funs,e0.frf⟩,
  rfl,e0.bare,Un.kept hk,⟨_,x.toInCall.ns,fun i y v h1 h2 h3=>?_⟩,fun y c h=>⟨_,x.cell y c h⟩,e0.hok.fresh (zL _),fun y c h=>?_,fun p hp=>absurd (show p∈([]:List (Addr×Obj)) from hp) (by simp),e0.hok.kept hk,?_⟩
 ·exact name_of_addr x.apart (PySem.mem_of_lookup h1) (PySem.mem_of_lookup h2)
 ·have hy:scope.names.lookup y=some .cell∨scope.names.lookup y=some .free:=hy
  rcases hy with hy | hy
  ·exact Ul hy
  ·exact absurd rfl (S.nofree _ (PySem.mem_of_lookup hy))
 ·exact Nat.le_of_lt (x.above y c (PySem.mem_of_lookup h))
 ·have hi:i<vs.length:=by
   unfold start at h2
   by_cases hi:i<vs.length
   ·exact hi
   ·rw [List.getElem?_append_right (by simpa using hi)] at h2
    rw [List.getElem?_replicate] at h2
    split at h2<;>cases h2
  have ha:vs[i]? = some v:=by
   unfold start at h2
   rw [List.getElem?_append_left (by simpa using hi),zN] at h2
   cases e:vs[i]? with
   | none=>rw [e] at h2;cases h2
   | some a=>rw [e] at h2;cases h2;rfl
  obtain ⟨u,hu,rv⟩:=r.get ha
  have hp:ps[i]? = some y:=by
   rw [← S.pre,List.getElem?_take_of_lt (by lia)];exact h1
  have ndP:ps.Nodup:=by rw [← S.pre];exact S.nd.sublist (List.take_sublist _ _)
  refine ⟨u,rv,?_⟩
  rcases S.par y (zW hp) with k | k
  ·exact .inl ⟨k,Se ndP hp hu k⟩
  ·obtain ⟨c,e⟩:=Ul (n:=s.heap.objs.size+1) k
   refine .inr ⟨.inl k,c,e,?_⟩
   have q:=x.cell y c e
   rw [SY ndP hp hu (by show scope.names.lookup y≠_;rw [k];decide)] at q
   exact q
 ·exact e0.hok.fresh (Nat.le_of_lt (x.above y c (PySem.mem_of_lookup h)))
 ·unfold start
  show _=N.length
  rw [zD,z0,List.length_replicate]
  lia
theorem Ws {CX:CXT}{P:Program}{w:World}{K:W.Frag}{mg:Str→Option Value}{base:Heap}{k:Nat}{f:Addr}{name qual:Str}{params:Arguments}{body:List Stmt}{scope:Scope}{dV kV doc pm cdv ct oc:Value}{an od:Option Addr}
  {osl:Array (Option Value)} {N ps:List Str} {sp:Sp} (lk:K.lookup f=some ⟨oc,od,.func (W.fnOf name qual params body scope dV kV doc pm an cdv ct),osl⟩) (hcd:W.codeIn K cdv qual=true) (S:AJ N ps scope)
  (len:∀ vs H Q E,sp vs H Q E→vs.length=ps.length)
  (hbody:∀ (A:Around) (outer:List Env) (s:Shared) (H:Hp) (vs:List V) (Q:VK) (E:XK),CT k (A.deeper (envOfC qual scope s.heap.objs.size f cdv))→sp vs H Q E →
   ∃ t,PSs (BF CX P w K mg base N qual scope f cdv A outer s H E) body t∧t { nx:=fun _ H'=>Q .non H',rt:=Q } (start N vs) H) :
  Aa P w K mg base CX (k+1) f (W.fnOf name qual params body scope dV kV doc pm an cdv ct) ps sp:=by
 refine ⟨len,fun A outer s H args us vs Q E hr e0 hb r hsp=>?_⟩
 have hl:=len _ _ _ _ hsp
 have KX:K.In s.heap:=e0.mod.kin.keeps fun b o e=>(e0.bs b o e).1
 have lim:s.heap.NoLimit:=e0.mod.nolimit.keeps fun b o e=>(e0.bs b o e).1
 have hkind:∀ y∈ps.zip us,scope.names.lookup y.1=some .local∨(scope.names.lookup y.1=some .cell∧((cellsFrom (s.heap.objs.size+1) scope.names []).lookup y.1).isSome=true):=fun ⟨n,v⟩ hy=>by
  rcases S.par n (List.of_mem_zip hy).1 with q | q
  ·exact .inl q
  ·exact .inr ⟨q,W.cellsFrom_some _ _ _ (.inl q)⟩
 refine codeAny_call_function hr.depth (KX _ _ lk) rfl S.co S.gen rfl (W.codeRec_of KX hcd) (hb _ _ _ _ ?_)
 refine wpAny_newFunctionEnv_cells S.kind hkind fun env he s1 x=>?_
 subst he
 refine ⟨lim.keeps x.toInCall.keep,codeAny_func ?_⟩
 obtain ⟨t,ht,hq⟩:=hbody A outer s H vs Q E (hr.deeper _) hsp
 have I:Inv (BF CX P w K mg base N qual scope f cdv A outer s H E) [] (start N vs) H s1:=Xc S hr.hd e0 hl r x
 refine wpAny_mono (ht [] s1 (start N vs) H _ I hq) (fun fl s' hs=>?_) fun e s' hs=>hs
 have fin:∀ {σ':St} {H':Hp} {v:V} {u:Value},Inv (BF CX P w K mg base N qual scope f cdv A outer s H E) [] σ' H' s'→RelV v u→Q v H'→CE outer P w H s Q u s':=
  fun {σ' H' v u} J rv q=>⟨v,H',J.os,J.bare,J.base,J.hok,rv,q⟩
 cases fl with
 | ret u =>
  obtain ⟨v,σ',H',J,rv,q⟩:=hs
  exact fin J rv q
 | next =>
  obtain ⟨σ',H',J,q⟩:=hs
  exact fin (v:=V.non) (u:=Value.none) J rfl q
 | brk =>
  obtain ⟨_,_,_,q⟩:=hs
  exact False.elim q
 | cont =>
  obtain ⟨_,_,_,q⟩:=hs
  exact False.elim q
section
variable {X:Cx} {x:Str} {p pos:Pos} {e:Expr} {es:List Expr} {t:TA} {id T:String} {r:List V→Hp→VK→Prop}
noncomputable def tCB (r:List V→Hp→VK→Prop)(t:TA):TE:=fun σ H Q=>t σ H fun vs H1=>r vs H1 Q
theorem AT (hc:Cm X (.builtin id) r)(hg:Gl X x)(hm:X.mg x=none)(hv:bootBuiltins x=some (.builtin id))(ha:PA X (e::es) t)(hn:x≠"__name__":=by decide)(hdb:(x == ("__debug__":Str))=false:=by decide)
  (he:starEach (e::es) X.env=(false,eval e X.env)::starEach es X.env:=by rfl) (hpl:(backTo pos (starEach es X.env)).any (·.1)=false:=by rfl):PE X (.Call (.Name x p) (e::es) [] pos) (tCB r t):=by
 intro pins s σ H Q I h
 refine wpAny_Call_Name_kw (Js I hg hm hv ?_ hn hdb)
 exact PyProof.Rows.callWith_builtin1 (thn (ha pos pins s σ H _ I h) fun us s1 ⟨vs,H1,I1,r1,q1⟩=>hc pins s1 σ H1 vs us Q I1 r1 q1) he hpl
theorem Al (hc:Cm X (.type T) r)(hg:Gl X x)(hm:X.mg x=none)(hv:bootBuiltins x=some (.type T))(ha:PA X (e::es) t)(hn:x≠"__name__":=by decide)(hdb:(x == ("__debug__":Str))=false:=by decide)
  (he:starEach (e::es) X.env=(false,eval e X.env)::starEach es X.env:=by rfl) (hpl:(backTo pos (starEach es X.env)).any (·.1)=false:=by rfl):PE X (.Call (.Name x p) (e::es) [] pos) (tCB r t):=by
 intro pins s σ H Q I h
 refine wpAny_Call_Name_kw (Js I hg hm hv ?_ hn hdb)
 exact PyProof.Rows.callWith_type1 (thn (ha pos pins s σ H _ I h) fun us s1 ⟨vs,H1,I1,r1,q1⟩=>hc pins s1 σ H1 vs us Q I1 r1 q1) he hpl
end
end L2
namespace HT
open PySem PyProof.Rows
noncomputable def lexLt:List Int→List Int→Bool
 | [],[]=>false
 | [],_::_=>true
 | _::_,[]=>false
 | x::xs,y::ys=>if x=y then lexLt xs ys else decide (x<y)
theorem lexLt_cons (x y:Int)(xs ys:List Int):lexLt (x::xs) (y::ys)=if x=y then lexLt xs ys else decide (x<y):=rfl
section
open PySem.SeqAt
open PySem.AutoSeq1 (wpAny_loadPart')
open PySem.MeetsSeq PySem.MeetsSeq2 PySem.MeetsSeq3
end
section
variable {prog:Program} {w:World} {A:Around} {E:Value→Shared→Prop} {s:Shared}
theorem cat_tup {t b:Addr}{vs ws:List Value}{Q:Value→Shared→Prop}(ht:IsTup s.heap t vs.toArray)(hb:IsTup s.heap b ws.toArray)(hv:vs≠[])
  (h1:ws=[]→Q (.ref t) s) (h2:ws≠[]→Q (.ref s.heap.objs.size) { s with heap:=s.heap.push { cls:=.type "tuple",data:=.seq (vs++ws).toArray } })
  (hsz:vs.length+ws.length≤sizeLine):wpAny (model prog w) A (binaryOp .Add (.ref t) (.ref b)) Q E s:=by
 obtain ⟨⟨cls,dd,data,sl⟩,ho,hc,n,hd⟩:=id ht
 obtain ⟨⟨cls2,dd2,data2,sl2⟩,ho2,hc2,n2,hd2⟩:=id hb
 simp only at hc hd hc2 hd2
 subst hc hd hc2 hd2
 have e:vs.toArray++ws.toArray=(vs++ws).toArray:=by simp
 by_cases hw:ws=[]
 ·exact concat_meets ⟨_,ho,rfl⟩ ⟨_,ho2,rfl⟩ noFill_tuple_add seq_tuple_add PySem.F.slot_tuple_add PySem.F.entry_tuple_add (PySem.F.args_tuple_add_2 _ _)
   (tuple_addW1 t b vs.toArray ws.toArray n n2 dd dd2 sl sl2 (by simpa using hv) (by simp [hw])) ⟨ho,ho2,h1 hw⟩
 ·refine concat_meets ⟨_,ho,rfl⟩ ⟨_,ho2,rfl⟩ noFill_tuple_add seq_tuple_add PySem.F.slot_tuple_add PySem.F.entry_tuple_add (PySem.F.args_tuple_add_2 _ _)
   (tuple_addW2 t b vs.toArray ws.toArray n n2 dd dd2 sl sl2 (by simpa using hv) (by simpa using hw) (by rw [zQ,zQ];exact hsz)) ⟨ho,ho2,?_⟩
  rw [e]
  exact h2 hw
noncomputable def sIx (n d:Nat):Option Int→Nat
 | none=>d
 | some v=>if v<0 then (v+(n:Int)).toNat else min v.toNat n
theorem sIx_none (n d:Nat):sIx n d none=d:=rfl
theorem sIx_nat (n d k:Nat):sIx n d (some (k:Int))=min k n:=by
 show (if (k:Int)<0 then ((k:Int)+(n:Int)).toNat else min (k:Int).toNat n)=min k n
 rw [if_neg (by lia),qK]
theorem sIx_le (n d:Nat)(hd:d≤n)(o:Option Int):sIx n d o≤n:=by
 cases o with
 | none=>exact hd
 | some v =>
  show (if v<0 then (v+(n:Int)).toNat else min v.toNat n)≤n
  by_cases hv:v<0
  ·rw [if_pos hv];lia
  ·rw [if_neg hv];exact Nat.min_le_right _ _
theorem clip_eq (v:Int)(n d:Nat):(if v<0 then max (v+(n:Int)) 0 else min v (n:Int))=((sIx n d (some v):Nat):Int):=by
 show (if v<0 then max (v+(n:Int)) 0 else min v (n:Int))=(((if v<0 then (v+(n:Int)).toNat else min v.toNat n):Nat):Int)
 by_cases hv:v<0
 ·simp only [if_pos hv];lia
 ·simp only [if_neg hv];lia
theorem adjust_gen (lo hi:Option Int)(n:Nat):Builtin.Slice.sliceAdjust lo hi 1 (n:Int)=(((sIx n 0 lo:Nat):Int),((sIx n n hi:Nat):Int)):=by
 have h1:¬ ((1:Int)<0):=by lia
 unfold Builtin.Slice.sliceAdjust
 simp only [h1,if_false]
 refine Prod.ext ?_ ?_
 ·cases lo with
  | none=>rfl
  | some v=>exact clip_eq v n 0
 ·cases hi with
  | none=>rfl
  | some v=>exact clip_eq v n n
theorem places_gen (i j:Nat):Builtin.Slice.slicePlaces (i:Int) (j:Int) 1=j-i:=by
 unfold Builtin.Slice.slicePlaces
 have h1:(1:Int)>0:=by lia
 simp only [h1,if_true,Int.ediv_one]
 split<;>lia
theorem slicePart_ {v:Value}{o:Option Int}{Q:Option Int→Shared→Prop}(p:IsPart v o)(h:Q o s):wpAny (model prog w) A (Builtin.Slice.slicePartIndex v) Q E s:=by
 cases p with
 | none=>exact slicePart_none h
 | int i t=>exact slicePart_int h
theorem sliceApplied_gen {sl:Addr}{vl vu:Value}{lo hi:Option Int}{n:Nat}{Q:Int×Int×Nat→Shared→Prop}(hs:s.heap.IsSliceOf sl vl vu .none)(pl:IsPart vl lo)(pu:IsPart vu hi)
  (h:Q (((sIx n 0 lo:Nat):Int),1,sIx n n hi-sIx n 0 lo) s):wpAny (model prog w) A (Builtin.Slice.sliceApplied (.ref sl) (pure (n:Int))) Q E s:=by
 obtain ⟨os,hos,hcs,hds⟩:=id hs
 unfold Builtin.Slice.sliceApplied Builtin.Slice.sliceFields
 refine wpAny_bind (wpAny_bind (wpAny_field hos hds (x:=vl) rfl (wpAny_bind (wpAny_field hos hds (x:=vu) rfl (wpAny_bind (wpAny_field hos hds (x:=.none) rfl (wpAny_pure ?_)))))))
 refine wpAny_bind (slicePart_none ?_)
 show wpAny _ _ (if ((1:Int) == 0)=true then _ else _) _ _ s
 rw [if_neg (by decide)]
 refine wpAny_bind (slicePart_ pl (wpAny_bind (slicePart_ pu (wpAny_bind (wpAny_pure ?_)))))
 show wpAny _ _ (match Builtin.Slice.sliceAdjust lo hi 1 (n:Int) with | (lo,hi)=>pure (lo,(1:Int),Builtin.Slice.slicePlaces lo hi 1)) _ _ s
 rw [adjust_gen lo hi n]
 show wpAny _ _ (pure (((sIx n 0 lo:Nat):Int),(1:Int),Builtin.Slice.slicePlaces ((sIx n 0 lo:Nat):Int) ((sIx n n hi:Nat):Int) 1)) _ _ s
 rw [places_gen]
 exact wpAny_pure h
theorem pick_gen (xs:Array Value)(i k:Nat):((List.range k).filterMap fun (m:Nat)=>xs[((i:Int)+(m:Int)*1).toNat]?).toArray=((xs.toList.drop i).take k).toArray:=by
 have e:(fun (m:Nat)=>xs[((i:Int)+(m:Int)*1).toNat]?)=fun m=>xs[i+m]?:=by
  funext m
  have:((i:Int)+(m:Int)*1).toNat=i+m:=by lia
  rw [this]
 rw [e]
 have:=pick_run xs i k
 rw [List.filterMap_map] at this
 have e2:((fun x=>xs[x]?)∘fun x=>i+x)=fun m=>xs[i+m]?:=rfl
 rw [e2] at this
 rw [this]
theorem getItem_tuple_cut {t sl:Addr}{items:Array Value}{vl vu:Value}{lo hi:Option Int}{Q:Value→Shared→Prop}(ht:IsTup s.heap t items)(hs:s.heap.IsSliceOf sl vl vu .none)(pl:IsPart vl lo)(pu:IsPart vu hi)
  (hw:¬ (sIx items.size 0 lo=0∧sIx items.size items.size hi=items.size))
  (h:Q (.ref s.heap.objs.size) { s with heap:=s.heap.push { cls:=.type "tuple",data:=.seq ((items.toList.drop (sIx items.size 0 lo)).take (sIx items.size items.size hi-sIx items.size 0 lo)).toArray } })
  (hsz:items.size≤sizeLine):wpAny (model prog w) A (getItem (.ref t) (.ref sl)) Q E s:=by
 have htake:sizeOk (.seq ((items.toList.drop (sIx items.size 0 lo)).take (sIx items.size items.size hi-sIx items.size 0 lo)).toArray):=by
  show ((items.toList.drop (sIx items.size 0 lo)).take (sIx items.size items.size hi-sIx items.size 0 lo)).toArray.size≤sizeLine
  rw [zQ,zw,zo,Array.length_toList]
  lia
 have hj:sIx items.size items.size hi≤items.size:=sIx_le _ _ (zL _) hi
 obtain ⟨os,hos,hcs,hds⟩:=id hs
 have hTs:s.TypeIs (.ref sl) "slice":=⟨os,hos,hcs⟩
 unfold getItem
 try with_reducible refine wpAny_holding ?_
 first | refine wpAny_bind (wpAny_pure ?_) | skip
 refine wpAny_bind (wpAny_sequenceKey ht.typeIs (by decide) ?_)
 refine wpAny_bind (wpAny_callSpecial?_slot (name:=Str.ofString "__getitem__") ht.typeIs PyProof.Rows.slot_tuple_getitem
  (wpAny_call_entry PyProof.Rows.slot_tuple_getitem ht.typeIs entry_tuple_getitem ?_ (args_tuple_getitem _ _)))
 show wpAny _ _ (Builtin.Tuple.tupleItemsOf (.ref t) >>= _) _ _ s
 refine wpAny_bind (tupleItemsOf_ ht ?_)
 refine wpAny_bind (wpAny_typeOf hTs ?_)
 rw [if_pos (by decide)]
 refine wpAny_bind (sliceApplied_gen hs pl pu ?_)
 have hno:¬ ((((sIx items.size 0 lo:Nat):Int) == 0 && (1:Int) == 1 && (sIx items.size items.size hi-sIx items.size 0 lo) == items.size)=true):=by
  intro q
  rw [qG,qG] at q
  have q1:((sIx items.size 0 lo:Nat):Int)=0:=eq_of_beq q.1.1
  have q2:sIx items.size items.size hi-sIx items.size 0 lo=items.size:=eq_of_beq q.2
  exact hw ⟨by lia,by lia⟩
 show wpAny _ _ (if (((sIx items.size 0 lo:Nat):Int) == 0 && (1:Int) == 1 && (sIx items.size items.size hi-sIx items.size 0 lo) == items.size)=true then _ else _) _ _ s
 rw [if_neg hno,pick_gen]
 first
  | exact wpAny_bind (m:=Builtin.Tuple.tupleExact _) (wpAny_newObj_type (wpAny_pure ⟨_,rfl,wpAny_pure h⟩) htake)
  | exact wpAny_bind (m:=Builtin.Tuple.tupleExact _) (wpAny_newObj_type (wpAny_bind (wpAny_pure (wpAny_pure ⟨_,rfl,wpAny_pure h⟩))) htake)
  | exact wpAny_bind (wpAny_bind (m:=Builtin.Tuple.tupleExact _) (wpAny_newObj_type (wpAny_pure (wpAny_pure ⟨_,rfl,wpAny_pure h⟩)) htake))
  | exact wpAny_bind (wpAny_bind (m:=Builtin.Tuple.tupleExact _) (wpAny_newObj_type (wpAny_pure ⟨_,rfl,wpAny_pure h⟩) htake))
end
end HT
namespace L2
open PySem PySem.Spec PyProof.Rows
noncomputable abbrev TO:=St→Hp→(Option Int→Hp→Prop)→Prop
noncomputable def PO (X:Cx)(e:Option Expr)(t:TO):Prop:=
 ∀ (pins:List (Addr×Obj)) (s:Shared) (σ:St) (H:Hp) (Q:Option Int→Hp→Prop),Inv X pins σ H s→t σ H Q →
  wpAny (model X.prog X.w) X.A (evalPart e X.env) (fun u s'=>∃ o H',Inv X pins σ H' s'∧IsPart u o∧Q o H') X.xe s
noncomputable def Db:TO:=fun _ H Q=>Q none H
noncomputable def K0 (t:TE):TO:=fun σ H Q=>t σ H fun x H1=>∃ i,x = .int i∧Q (some i) H1
theorem intsAre_of {ns:List Int}:∀ {us:List Value},An (ns.map V.int) us→IntsAre us ns:=by
 induction ns with
 | nil=>intro us r;rw [List.map_nil] at r;cases r;exact .nil
 | cons n ns ih =>
  intro us r
  rw [zU] at r
  cases r with
  | cons r1 r2 =>
   obtain ⟨t,e⟩:=r1
   subst e
   exact .cons n t (ih r2)
section
variable {X:Cx} {e:Expr} {te:TE} {lo hi:Option Expr} {tl th:TO} {pos p2:Pos}
theorem Eg:PO X none Db:=by
 intro pins s σ H Q I h
 rw [evalPart_none]
 exact wpAny_pure ⟨none,H,I,.none,h⟩
theorem EK (h:PE X e te):PO X (some e) (K0 te):=by
 intro pins s σ H Q I hw
 rw [evalPart_some]
 refine thn (h pins s σ H _ I hw) fun u s1 zq=>?_
 obtain ⟨x,H1,I1,r1,q1⟩:=zq
 obtain ⟨i,rfl,q⟩:=q1
 obtain ⟨t,rfl⟩:=r1
 exact ⟨some i,H1,I1,.int i t,q⟩
noncomputable def SlR (X:Cx)(r:V→Option Int→Option Int→Hp→VK→Prop):Prop:=
 ∀ (pins:List (Addr×Obj)) (s:Shared) (σ:St) (H:Hp) (x:V) (v vl vu:Value) (lo hi:Option Int) (sl:Addr) (Q:VK),Inv X pins σ H s→RelV x v→s.heap.IsSliceOf sl vl vu .none→IsPart vl lo→IsPart vu hi→r x lo hi H Q →
  ∃ T id,typeLookup (.type T) "__getitem__"=pure (some (.builtin id))∧s.TypeIs v T∧wpAny (model X.prog X.w) X.A (getItem v (.ref sl)) (EP X pins σ Q) X.xe s
noncomputable def tSl (r:V→Option Int→Option Int→Hp→VK→Prop)(te:TE)(tl th:TO):TE:=fun σ H Q=>te σ H fun x H1=>tl σ H1 fun l H2=>th σ H2 fun u H3=>r x l u H3 Q
theorem Ct {r:V→Option Int→Option Int→Hp→VK→Prop}(hr:SlR X r)(he:PE X e te)(hl:PO X lo tl)(hu:PO X hi th):PE X (.Subscript e (.Slice lo hi none p2) pos) (tSl r te tl th):=by
 intro pins s σ H Q I h
 refine Subscript_ (thn (he pins s σ H _ I h) fun v s1 zq=>?_)
 obtain ⟨x,H1,I1,r1,q1⟩:=zq
 refine wpAny_Slice (thn (hl pins s1 σ H1 _ I1 q1) fun vl s2 ⟨l,H2,I2,pl,q2⟩=>thn (hu pins s2 σ H2 _ I2 q2) fun vu s3 zq=>?_)
 obtain ⟨u,H3,I3,pu,q3⟩:=zq
 rw [evalPart_none]
 refine wpAny_pure ?_
 have I4:Inv X pins σ H3 { s3 with heap:=s3.heap.push { cls:=.type "slice",data:=.fields #[vl,vu,.none] } }:=I3.kept (t':=s3.toks) fun b ob q=>zA _ q
 obtain ⟨T,id,hT,ht,hg⟩:=hr pins { s3 with heap:=s3.heap.push { cls:=.type "slice",data:=.fields #[vl,vu,.none] } } σ H3 x v vl vu l u s3.heap.objs.size Q I4 r1 (Heap.IsSliceOf.new ..) pl pu q3
 show wpAny (model X.prog X.w) X.A (subscriptTail e (.Slice lo hi none p2) v (.ref s3.heap.objs.size)) (EP X pins σ Q) X.xe { s3 with heap:=s3.heap.push { cls:=.type "slice",data:=.fields #[vl,vu,.none] } }
 exact tail_any (ops:=[.ref s3.heap.objs.size,v]) ht hT hg (by with_unfolding_all rfl)
noncomputable def Nh (xs:List V)(lo hi:Option Int):List V:=(xs.drop (HT.sIx xs.length 0 lo)).take (HT.sIx xs.length xs.length hi-HT.sIx xs.length 0 lo)
theorem Oz (xs:List V)(lo hi:Option Int):(Nh xs lo hi).length≤xs.length:=by
 unfold Nh
 rw [zw,zo]
 lia
noncomputable def rSlT (K:W.Frag):V→Option Int→Option Int→Hp→VK→Prop:=fun x lo hi H Q=>∃ a xs,x = .ref a∧SqT K H a xs ∧
 ¬ (HT.sIx xs.length 0 lo=0∧HT.sIx xs.length xs.length hi=xs.length)∧∀ p,H p=none→Q (.ref p) (upd H p (.tup (Nh xs lo hi)))
theorem eQ:SlR X (rSlT X.K):=by
 intro pins s σ H x v vl vu lo hi sl Q I rx hs pl pu h
 obtain ⟨a,xs,rfl,hx,hw,q⟩:=h
 cases rx
 obtain ⟨its,r,ht,hz⟩:=I.tuple hx
 have hlen:its.toArray.size=xs.length:=by rw [zQ];exact r.length.symm
 refine ⟨"tuple",_,PyProof.Rows.slot_tuple_getitem.lookup,ht.typeIs,?_⟩
 refine HT.getItem_tuple_cut ht hs pl pu (by rw [hlen];exact hw) ?_ (by rw [hlen];exact hz)
 rw [hlen]
 refine ⟨.ref s.heap.objs.size,_,I.laid (t':=s.toks) (o:=.tup (Nh xs lo hi)) (fun b ob q=>zA _ q) (zL _) ?_,rfl,q _ (I.hok.fresh (zL _))⟩
 exact ⟨zO (Oz xs lo hi) hz,_,(r.drop (HT.sIx xs.length 0 lo)).take (HT.sIx xs.length xs.length hi-HT.sIx xs.length 0 lo),IsTup.new _ _⟩
noncomputable def bR (K:W.Frag):R2:=fun x y H Q=>∃ a b xs ys,x = .ref a∧y = .ref b∧SqT K H a xs∧SqT K H b ys∧xs≠[]∧xs.length+ys.length≤sizeLine ∧
 (ys=[]→Q (.ref a) H)∧(ys≠[]→∀ p,H p=none→Q (.ref p) (upd H p (.tup (xs++ys))))
theorem An.nil_iff {xs:List V}{us:List Value}(r:An xs us):us=[]↔xs=[]:=by
 cases r with
 | nil=>simp
 | cons _ _=>simp
theorem aO:OpR X (binaryOp .Add) (bR X.K):=by
 intro pins s σ H x y v u Q I rx ry h
 obtain ⟨a,b,xs,ys,rfl,rfl,ha,hb,hx,hz,q1,q2⟩:=h
 cases rx
 cases ry
 obtain ⟨its,r1,p1,_⟩:=I.tuple ha
 obtain ⟨its2,r2,p2,_⟩:=I.tuple hb
 refine HT.cat_tup p1 p2 (fun z=>hx (r1.nil_iff.mp z)) (fun z=>⟨.ref a,H,I,rfl,q1 (r2.nil_iff.mp z)⟩) (fun z=>?_) (by rw [← r1.length,← r2.length];exact hz)
 refine ⟨.ref s.heap.objs.size,_,I.laid (t':=s.toks) (o:=.tup (xs++ys)) (fun b ob q=>zA _ q) (zL _) ?_,rfl,q2 (fun w=>z (r2.nil_iff.mpr w)) _ (I.hok.fresh (zL _))⟩
 exact ⟨by rw [zD];exact hz,_,r1.append r2,IsTup.new _ _⟩
end
noncomputable def ixN (n:Nat)(i:Int):Option Nat:=if 0≤i then (if i<n then some i.toNat else none) else if -(n:Int)≤i then some (i+n).toNat else none
noncomputable def atI {α:Type}(xs:List α)(i:Int):Option α:=(ixN xs.length i).bind fun j=>xs[j]?
theorem WN {n:Nat}{i:Int}{j:Nat}(h:ixN n i=some j):seqIndex? i n=some j∧j<n∧-(n:Int)≤i∧i<n:=by
 unfold ixN at h
 by_cases h0:0≤i
 ·rw [if_pos h0] at h
  by_cases h1:i<n
  ·rw [if_pos h1] at h
   have e:i.toNat=j:=zV h
   exact ⟨by rw [seqIndex_of h0 h1,e],by lia,by lia,h1⟩
  ·rw [if_neg h1] at h;cases h
 ·rw [if_neg h0] at h
  by_cases h1:-(n:Int)≤i
  ·rw [if_pos h1] at h
   have e:(i+n).toNat=j:=zV h
   exact ⟨by rw [seqIndex_neg (by lia) h1,e],by lia,h1,by lia⟩
  ·rw [if_neg h1] at h;cases h
theorem Wh {α:Type}{xs:List α}{i:Int}{v:α}(h:atI xs i=some v):∃ j,seqIndex? i xs.length=some j∧xs[j]? = some v∧j<xs.length∧-(xs.length:Int)≤i∧i<xs.length:=by
 unfold atI at h
 cases e:ixN xs.length i with
 | none=>rw [e] at h;cases h
 | some j =>
  rw [e] at h
  obtain ⟨h1,h2,h3,h4⟩:=WN e
  exact ⟨j,h1,h,h2,h3,h4⟩
theorem Cd {α:Type}{xs:List α}{j:Nat}{v:α}(h:xs[j]? = some v):atI xs (j:Int)=some v:=by
 have hj:j<xs.length:=(zC.mp h).1
 have e:ixN xs.length (j:Int)=some j:=by
  unfold ixN
  rw [if_pos (by lia),if_pos (by lia)];simp
 unfold atI;rw [e];exact h
theorem Yt {α:Type}(xs:List α)(v:α):atI (xs++[v]) (-1)=some v:=by
 have hl:(xs++[v]).length=xs.length+1:=by simp
 have e:ixN (xs++[v]).length (-1)=some xs.length:=by
  unfold ixN
  rw [hl,if_neg (by decide),if_pos (by lia)]
  congr 1
  lia
 unfold atI
 rw [e]
 show (xs++[v])[xs.length]? = some v
 simp
noncomputable def WL (b:Expr):Prop:=∀ o i,subscripted b false o i=operate [o,i] (getItem o i)
noncomputable def IxR (X:Cx)(r:R2):Prop:=
 ∀ (value slice:Expr) (pins:List (Addr×Obj)) (s:Shared) (σ:St) (H:Hp) (x y:V) (v u:Value) (Q:VK),Inv X pins σ H s→RelV x v→RelV y u→r x y H Q →
  subscripted slice false v u=operate [v,u] (getItem v u)→wpAny (model X.prog X.w) X.A (subscriptTail value slice v u) (EP X pins σ Q) X.xe s
noncomputable def MtR (X:Cx)(id:String)(r:V→List V→Hp→VK→Prop):Prop:=
 ∀ (pins:List (Addr×Obj)) (s:Shared) (σ:St) (H:Hp) (x:V) (xs:List V) (v:Value) (us:List Value) (Q:VK),Inv X pins σ H s→RelV x v→An xs us→r x xs H Q →
  wpAny (model X.prog X.w) X.A (call (.builtin id) (v::us)) (EP X pins σ Q) X.xe s
section
variable {X:Cx} {a b:Expr} {ta tb:TE} {pos:Pos}
theorem pe_ix {r:R2}(hr:IxR X r)(ha:PE X a ta)(hb:PE X b tb)(hs:WL b):PE X (.Subscript a b pos) (tOp r ta tb):=by
 intro pins s σ H Q I h
 exact Subscript_ (cZ ha hb I h fun v u s2 x y H2 I2 rx ry q=>hr a b pins s2 σ H2 x y v u Q I2 rx ry q (hs _ _))
noncomputable def Rx (K:W.Frag):R2:=fun x y H Q=>∃ p xs i v,x = .ref p∧y = .int i∧SqL K H p xs∧atI xs i=some v∧Q v H
noncomputable def QF (K:W.Frag):R2:=fun x y H Q=>∃ p xs i v,x = .ref p∧y = .int i∧SqT K H p xs∧atI xs i=some v∧Q v H
theorem AX:IxR X (Rx X.K):=by
 intro value slice pins s σ H x y v u Q I rx ry h hs
 obtain ⟨p,xs,i,z,rfl,rfl,hq,he,q⟩:=h
 cases rx
 obtain ⟨t,rfl⟩:=ry
 obtain ⟨its,r,pl,hz⟩:=I.list hq
 obtain ⟨j,h1,h2,h3,h4,h5⟩:=Wh he
 obtain ⟨w,ew,rw'⟩:=r.get h2
 have hl:=r.length
 have hn:=N3
 have fin:EP X pins σ Q w s:=⟨z,H,I,rw',q⟩
 by_cases h0:0≤i
 ·have hj:i.toNat=j:=by
   rw [seqIndex_of h0 h5] at h1
   exact zV h1
  exact item_listR pl.isList h0 (by lia) (by rw [hj];simpa using ew) fin hs
 ·have hj:(i+(its.toArray.size:Int)).toNat=j:=by
   rw [seqIndex_neg (by lia) h4] at h1
   rw [zQ,← hl]
   exact zV h1
  exact subscriptTail_builtinR (x:=w) pl.isList.typeIs slot_list_getitem.lookup
   (wpAny_getItem_list_neg (Q:=fun r s'=>r=w∧EP X pins σ Q r s') pl.isList (by lia) (by rw [zQ]<;>lia) (by lia) (by rw [hj];simpa using ew) ⟨rfl,fin⟩) hs
theorem AL:IxR X (QF X.K):=by
 intro value slice pins s σ H x y v u Q I rx ry h hs
 obtain ⟨p,xs,i,z,rfl,rfl,hq,he,q⟩:=h
 cases rx
 obtain ⟨t,rfl⟩:=ry
 obtain ⟨its,r,pl,hz⟩:=I.tuple hq
 obtain ⟨j,h1,h2,h3,h4,h5⟩:=Wh he
 obtain ⟨w,ew,rw'⟩:=r.get h2
 have hl:=r.length
 have hn:=N3
 have fin:EP X pins σ Q w s:=⟨z,H,I,rw',q⟩
 exact subscriptTail_builtinR (x:=w) pl.typeIs slot_tuple_getitem.lookup
  (getItem_tuple (j:=j) (Q:=fun r s'=>r=w∧EP X pins σ Q r s') pl (by lia) (by lia) (by rw [zQ,← hl];exact h1) (by simpa using ew) ⟨rfl,fin⟩) hs
theorem V2 (its:List Value)(n j:Nat)(u:Value):Obj.mapSeq (·.setIfInBounds j u) { cls:=.type "list",data:=.seq its.toArray n }={ cls:=.type "list",data:=.seq (its.set j u).toArray n }:=by
 simp [Obj.mapSeq]
theorem Inv.lst {pins:List (Addr×Obj)}{σ:St}{H:Hp}{s:Shared}{p:Addr}{xs:List V}(I:Inv X pins σ H s)(h:H p=some (.lst xs)) :
  ∃ (its:List Value) (n:Nat),An xs its∧s.heap.get? p=some { cls:=.type "list",data:=.seq its.toArray n }∧xs.length≤sizeLine:=by
 obtain ⟨z,its,n,r,e⟩:=I.hok p _ h
 exact ⟨its,n,r,e,z⟩
theorem Inv.lstUpd {pins:List (Addr×Obj)}{σ:St}{H:Hp}{s:Shared}{p:Addr}{xs ys:List V}{its its':List Value}{n n':Nat}{f:Obj→Obj}(I:Inv X pins σ H s)(h:H p=some (.lst xs))
  (ho:s.heap.get? p=some { cls:=.type "list",data:=.seq its.toArray n }) (hf:f { cls:=.type "list",data:=.seq its.toArray n }={ cls:=.type "list",data:=.seq its'.toArray n' }) (r:An ys its') (hz:ys.length≤sizeLine) (t:Nat) :
  Inv X pins σ (upd H p (.lst ys)) { s with heap:=s.heap.update p f,toks:=t }:=by
 have e:(s.heap.update p f).get? p=some { cls:=.type "list",data:=.seq its'.toArray n' }:=by
  rw [Heap.get?_update_self f ho (by rw [hf]<;>rfl),hf]
 refine I.write (x:=p) (e:=p) (by rw [h];trivial) (.inl rfl) (fun b u hb q=>(Heap.get?_update_other _ _ (Ne.symm hb)).trans q) ⟨_,e⟩ ?_
 exact ⟨hz,its',n',r,e⟩
noncomputable def KZ:V→V→V→Hp→(Hp→Prop)→Prop:=fun o i v H Q=>∃ p xs k j,o = .ref p∧i = .int k∧H p=some (.lst xs)∧ixN xs.length k=some j∧Q (upd H p (.lst (xs.set j v)))
theorem Yh:PSet X KZ:=by
 intro pins s σ H o i v ov iv u Q I ro ri rv h
 obtain ⟨p,xs,k,j,rfl,rfl,hp,hj,q⟩:=h
 cases ro
 obtain ⟨t,rfl⟩:=ri
 obtain ⟨its,n,r,ho,hz⟩:=I.lst hp
 obtain ⟨h1,h2,h3,h4⟩:=WN hj
 have hl:=r.length
 have hn:=N3
 have I':Inv X pins σ (upd H p (.lst (xs.set j v))) { s with heap:=s.heap.update p (Obj.mapSeq (·.setIfInBounds j u)) }:=
  I.lstUpd hp ho (V2 its n j u) (r.set rv j) (by rw [List.length_set];exact hz) s.toks
 by_cases h0:0≤k
 ·have hk:k.toNat=j:=by
   rw [seqIndex_of h0 h4] at h1
   exact zV h1
  exact W.ki_setAt ho h0 (by lia) (by rw [zQ,← hl];exact h4) (by rw [hk];exact ⟨_,I',q⟩)
 ·have hk:(k+(its.toArray.size:Int)).toNat=j:=by
   rw [seqIndex_neg (by lia) h3] at h1
   rw [zQ,← hl]
   exact zV h1
  exact W.ki_setBack ho (by lia) (by rw [zQ,← hl];exact h3) (by lia) (by rw [hk];exact ⟨_,I',q⟩)
theorem TK (lo hi:Option Int)(n:Nat):(sliceBounds lo hi none n).1=((HT.sIx n 0 lo:Nat):Int)∧(sliceBounds lo hi none n).2.1=((HT.sIx n n hi:Nat):Int)∧(sliceBounds lo hi none n).2.2=1:=by
 refine ⟨?_,?_,rfl⟩
 ·cases lo with
  | none=>simp [sliceBounds,HT.sIx]
  | some i =>
   simp only [sliceBounds,HT.sIx,Option.getD_none,show (1:Int)>0 by decide,if_true]
   by_cases h:i<0
   ·simp only [h,if_true]<;>lia
   ·simp only [h,if_false]<;>lia
 ·cases hi with
  | none=>simp [sliceBounds,HT.sIx]
  | some i =>
   simp only [sliceBounds,HT.sIx,Option.getD_none,show (1:Int)>0 by decide,if_true]
   by_cases h:i<0
   ·simp only [h,if_true]<;>lia
   ·simp only [h,if_false]<;>lia
theorem R0 (its:List Value)(lo hi:Option Int):slicePick its.toArray lo hi none=((its.drop (HT.sIx its.length 0 lo)).take (HT.sIx its.length its.length hi-HT.sIx its.length 0 lo)).toArray:=by
 obtain ⟨h1,h2,h3⟩:=TK lo hi its.toArray.size
 unfold slicePick
 rw [h1,h2,h3]
 simp only [sliceRange_one,pick_run,zQ]<;>rfl
noncomputable def rSlL (K:W.Frag):V→Option Int→Option Int→Hp→VK→Prop:=fun x lo hi H Q=>∃ a xs,x = .ref a∧SqL K H a xs∧∀ p,H p=none→Q (.ref p) (upd H p (.lst (Nh xs lo hi)))
theorem aX:SlR X (rSlL X.K):=by
 intro pins s σ H x v vl vu lo hi sl Q I rx hs pl pu h
 obtain ⟨a,xs,rfl,hx,q⟩:=h
 cases rx
 obtain ⟨its,r,ht,hz⟩:=I.list hx
 have hlen:=r.length
 refine ⟨"list",_,slot_list_getitem.lookup,ht.isList.typeIs,?_⟩
 refine wpAny_getItem_list_slice ht.isList hs pl pu .none (by simp) ?_ (by rw [zQ]<;>lia)
 rw [R0,← hlen]
 refine ⟨.ref s.heap.objs.size,_,I.laid (t':=s.toks) (o:=.lst (Nh xs lo hi)) (fun b ob q=>zA _ q) (zL _) ?_,rfl,q _ (I.hok.fresh (zL _))⟩
 exact ⟨zO (Oz xs lo hi) hz,_,0,(r.drop (HT.sIx xs.length 0 lo)).take (HT.sIx xs.length xs.length hi-HT.sIx xs.length 0 lo),zT _ rfl⟩
noncomputable def MT:V→Bool
 | .non=>true
 | .bl _=>true
 | .int _=>true
 | .str _=>true
 | _=>false
noncomputable def eqV:V→V→Bool
 | .non,.non=>true
 | .bl a,.bl b=>a == b
 | .bl a,.int b=>(if a then 1 else 0) == b
 | .int a,.bl b=>a == (if b then 1 else 0)
 | .int a,.int b=>a == b
 | .str a,.str b=>a == b
 | _,_=>false
theorem dy {A:Around}{s:Shared}{y x:V}{u v:Value}(ry:RelV y u)(rx:RelV x v)(fy:MT y=true)(fx:MT x=true):SeqAt.EqAt A s u v (eqV y x):=by
 cases y with
 | non =>
  cases ry
  cases x with
  | non=>cases rx;exact SeqAt.EqAt.same _
  | bl b=>cases rx;exact SeqAt.EqAt.none_bool b
  | int b=>obtain ⟨t,rfl⟩:=rx;exact SeqAt.EqAt.none_int b t
  | str b=>obtain ⟨t,rfl⟩:=rx;exact SeqAt.EqAt.none_str b t
  | _=>exact absurd (show false=true from fx) za
 | bl a =>
  cases ry
  cases x with
  | non=>cases rx;exact SeqAt.EqAt.bool_none a
  | bl b=>cases rx;exact SeqAt.EqAt.bool_bool a b
  | int b=>obtain ⟨t,rfl⟩:=rx;exact SeqAt.EqAt.bool_int a b t
  | str b=>obtain ⟨t,rfl⟩:=rx;exact SeqAt.EqAt.bool_str a b t
  | _=>exact absurd (show false=true from fx) za
 | int a =>
  obtain ⟨t',rfl⟩:=ry
  cases x with
  | non=>cases rx;exact SeqAt.EqAt.int_none a t'
  | bl b=>cases rx;exact SeqAt.EqAt.int_bool a t' b
  | int b=>obtain ⟨t,rfl⟩:=rx;exact SeqAt.EqAt.int_int a t' b t
  | str b=>obtain ⟨t,rfl⟩:=rx;exact SeqAt.EqAt.int_str a t' b t
  | _=>exact absurd (show false=true from fx) za
 | str a =>
  obtain ⟨t',rfl⟩:=ry
  cases x with
  | non=>cases rx;exact SeqAt.EqAt.str_none a t'
  | bl b=>cases rx;exact SeqAt.EqAt.str_bool a t' b
  | int b=>obtain ⟨t,rfl⟩:=rx;exact SeqAt.EqAt.str_int a t' b t
  | str b=>obtain ⟨t,rfl⟩:=rx;exact SeqAt.EqAt.str_str a t' b t
  | _=>exact absurd (show false=true from fx) za
 | _=>exact absurd (show false=true from fy) za
noncomputable def eqU (x:V)(u:Value):Bool:=match u with
 | .none=>eqV .non x
 | .bool b=>eqV (.bl b) x
 | .int i _=>eqV (.int i) x
 | .str z _=>eqV (.str z) x
 | _=>false
theorem YW {x y:V}{u:Value}(r:RelV y u)(f:MT y=true):eqU x u=eqV y x:=by
 cases y with
 | non=>cases r;rfl
 | bl b=>cases r;rfl
 | int i=>obtain ⟨t,rfl⟩:=r;rfl
 | str z=>obtain ⟨t,rfl⟩:=r;rfl
 | _=>exact absurd (show false=true from f) za
theorem S6 {x:V}:∀ {xs:List V} {us:List Value},An xs us→xs.all MT=true→us.any (eqU x)=xs.any fun y=>eqV y x
 | _,_,.nil,_=>rfl
 | y::xs,u::us,.cons r t,f=>by
  rw [List.all_cons,qG] at f
  rw [List.any_cons,List.any_cons,YW r f.1,S6 t f.2]
theorem RD {A:Around}{s:Shared}{x:V}{v:Value}(rx:RelV x v)(fx:MT x=true):∀ {xs:List V} {us:List Value},An xs us→xs.all MT=true→∀ u∈us,SeqAt.EqAt A s u v (eqU x u)
 | _,_,.nil,_=>fun u hu=>by cases hu
 | y::xs,u::us,.cons r t,f=>fun u' hu=>by
  rw [List.all_cons,qG] at f
  rcases zF.mp hu with rfl | hu
  ·rw [YW r f.1];exact dy r rx f.1 fx
  ·exact RD rx fx t f.2 u' hu
noncomputable def inV (x:V)(xs:List V):Bool:=xs.any fun y=>eqV y x
noncomputable def rIn (K:W.Frag)(neg:Bool):R2:=fun x y H Q=>∃ p xs,y = .ref p∧(SqL K H p xs∨SqT K H p xs)∧MT x=true∧xs.all MT=true∧Q (.bl (if neg then !inV x xs else inV x xs)) H
theorem Xl:OpR X (compareOp .In) (rIn X.K false):=by
 intro pins s σ H x y v u Q I rx ry h
 obtain ⟨p,xs,rfl,hq,fx,fs,q⟩:=h
 cases ry
 rcases hq with hq | hq
 ·obtain ⟨its,r,pl,hz⟩:=I.list hq
  refine SeqAt.in_listAt (eqU x) pl.isList (fun w hw=>RD rx fx r fs w (by simpa using hw)) ⟨.bl _,H,I,rfl,?_⟩
  rw [show its.toArray.any (eqU x)=its.any (eqU x) by simp,S6 r fs]
  exact q
 ·obtain ⟨its,r,pl,hz⟩:=I.tuple hq
  refine SeqAt.in_tupleAt (eqU x) pl (fun w hw=>RD rx fx r fs w (by simpa using hw)) ⟨.bl _,H,I,rfl,?_⟩
  rw [show its.toArray.any (eqU x)=its.any (eqU x) by simp,S6 r fs]
  exact q
theorem AW:Cm X (.builtin "len") (fun xs H Q=>∃ p ys,xs=[.ref p]∧(SqL X.K H p ys∨SqT X.K H p ys)∧Q (.int ys.length) H):=by
 intro pins s σ H xs us Q I r h
 obtain ⟨p,ys,rfl,hq,q⟩:=h
 obtain ⟨u,rfl,rx⟩:=vals1 r
 cases rx
 have hn:=N3
 rcases hq with hq | hq
 ·obtain ⟨its,r',pl,hz⟩:=I.list hq
  have hlen:=r'.length
  exact Calls.call_len_list pl.isList (by simp only [zQ]<;>lia) ⟨.int ys.length,H,I.tok _,⟨s.toks+1,by rw [zQ,hlen]⟩,q⟩
 ·obtain ⟨its,r',pl,hz⟩:=I.tuple hq
  have hlen:=r'.length
  exact len_tuple pl (by simp only [zQ]<;>lia) ⟨.int ys.length,H,I.tok _,⟨s.toks+1,by rw [zQ,hlen]⟩,q⟩
theorem Mw:Cm X (.builtin "len") (fun xs H Q=>∃ z,xs=[.str z]∧z.length≤sizeLine∧Q (.int z.length) H):=by
 intro pins s σ H xs us Q I r h
 obtain ⟨z,rfl,hz,q⟩:=h
 obtain ⟨u,rfl,t,rfl⟩:=vals1 r
 have hn:=N3
 exact len_str (by lia) ⟨.int z.length,H,I.tok _,⟨_,rfl⟩,q⟩
theorem Tp:Cm X (.type "list") (fun xs H Q=>∃ p ys,xs=[.ref p]∧(SqL X.K H p ys∨SqT X.K H p ys)∧∀ l,H l=none→Q (.ref l) (upd H l (.lst ys))):=by
 intro pins s σ H xs us Q I r h
 obtain ⟨p,ys,rfl,hq,q⟩:=h
 obtain ⟨u,rfl,rx⟩:=vals1 r
 cases rx
 have fin:∀ (its:List Value),An ys its→ys.length≤sizeLine→∀ (h':Heap) (c':Nat),(∀ b o',s.heap.get? b=some o'→h'.get? b=some o') →
   h'.get? s.heap.objs.size=some { cls:=.type "list",dict:=none,data:=.seq its.toArray c',slots:=#[] }→EP X pins σ Q (.ref s.heap.objs.size) { s with heap:=h' }:=fun its r' hz h' c' kp e =>
  ⟨.ref s.heap.objs.size,_,I.laid (t':=s.toks) kp (zL _) (show BM X.prog X.w _ h' _ (.lst ys) from ⟨hz,its,c',r',e⟩),rfl,q _ (I.hok.fresh (zL _))⟩
 rcases hq with hq | hq
 ·obtain ⟨its,r',pl,hz⟩:=I.list hq
  have hlen:=r'.length
  obtain ⟨o,ho,hc,n,hd⟩:=pl.isList
  exact call_list_seq p (.inl rfl) ho hc hd (fun h' c' kp e=>fin its r' hz h' c' kp e) (by simp only [zQ]<;>lia)
 ·obtain ⟨its,r',pl,hz⟩:=I.tuple hq
  have hlen:=r'.length
  obtain ⟨o,ho,hc,n,hd⟩:=pl
  exact call_list_seq p (.inr rfl) ho hc hd (fun h' c' kp e=>fin its r' hz h' c' kp e) (by simp only [zQ]<;>lia)
noncomputable def tyV (K:W.Frag)(T:String)(x:V)(H:Hp):Prop:=match x with
 | .str _=>T="str"
 | .int _=>T="int"
 | .ref p=>(T="list"∧∃ xs,SqL K H p xs)∨(T="tuple"∧∃ o,K.lookup p=some o∧o.cls = .type "tuple"∧o.dict=none) ∨
   (T="dict"∧((∃ kvs,H p=some (.dK kvs))∨∃ kvs,H p=some (.dT kvs)))∨(T="set"∧∃ S n,H p=some (.set S n))
 | _=>False
theorem cM {pins:List (Addr×Obj)}{σ:St}{H:Hp}{s:Shared}{T:String}{x:V}{v:Value}(I:Inv X pins σ H s)(r:RelV x v)(ty:tyV X.K T x H) :
  s.TypeIs v T∧∀ a,v = .ref a→∃ ob,s.heap.get? a=some ob∧ob.dict=none:=by
 cases x with
 | str z =>
  obtain ⟨t,rfl⟩:=r
  cases (show T="str" from ty)
  exact ⟨typeIs_str s z t,fun _ e=>nomatch e⟩
 | int i =>
  obtain ⟨t,rfl⟩:=r
  cases (show T="int" from ty)
  exact ⟨typeIs_int s i t,fun _ e=>nomatch e⟩
 | ref p =>
  cases r
  rcases ty with ⟨rfl,xs,hq⟩ | ⟨rfl,o,hk,hc,hd⟩ | ⟨rfl,hk⟩ | ⟨rfl,S,n,hk⟩
  ·obtain ⟨its,_,pl,_⟩:=I.list hq
   refine ⟨pl.isList.typeIs,fun a e=>?_⟩
   cases e
   obtain ⟨o,n,e,c,hd,_⟩:=pl
   exact ⟨o,e,hd⟩
  ·refine ⟨⟨o,I.kIn p o hk,hc⟩,fun a e=>?_⟩
   cases e
   exact ⟨o,I.kIn _ o hk,hd⟩
  ·have z:∃ o,s.heap.get? p=some o∧o.ExactDict:=by
    rcases hk with ⟨kvs,hk⟩ | ⟨kvs,hk⟩
    ·obtain ⟨_,_,_,_,o,_,_,e,ex,_⟩:=I.hok p _ hk
     exact ⟨o,e,ex⟩
    ·obtain ⟨_,_,_,_,o,_,_,e,ex,_⟩:=I.hok p _ hk
     exact ⟨o,e,ex⟩
   obtain ⟨o,e,ex⟩:=z
   refine ⟨⟨o,e,ex.1⟩,fun a e2=>?_⟩
   cases e2
   exact ⟨o,e,ex.2.1⟩
  ·obtain ⟨o,_,_,_,e,ex,_⟩:=I.hok p _ hk
   refine ⟨⟨o,e,ex.1⟩,fun a e2=>?_⟩
   cases e2
   exact ⟨o,e,ex.2.1⟩
 | _=>exact False.elim ty
noncomputable def tBM (K:W.Frag)(T:String)(r:V→List V→Hp→VK→Prop)(to:TE)(t:TA):TE:=fun σ H Q=>to σ H fun x H1=>tyV K T x H1∧t σ H1 fun xs H2=>r x xs H2 Q
variable {o e:Expr} {es:List Expr} {to:TE} {t:TA} {name:Str} {apos cpos:Pos} {T id:String} {r:V→List V→Hp→VK→Prop}
theorem CY (pa:PlainAttrs T)(slot:Slot T name id)(hty:typeOf (.builtin id)=pure (.type "method_descriptor"))(hm:MtR X id r)(ho:PE X o to)(ha:PA X (e::es) t)
  (hbase:attributeBase o name X.env (eval o X.env)=eval o X.env:=by rfl)
  (hfew:((backTo cpos (starEach (e::es) X.env)).all (fun x=>!x.1) && (backToKw cpos (keywordEach [] X.env)).all (fun x=>x.1.isSome)
   && decide ((e::es).length+([]:List Keyword).length+(if ([]:List Keyword).isEmpty then 0 else 1)<30))=true:=by rfl)
  (hline:(apos.endLine == cpos.line)=true:=by rfl) (hs:starEach (e::es) X.env=(false,eval e X.env)::starEach es X.env:=by rfl) (hplain:(backTo cpos (starEach es X.env)).any (·.1)=false:=by rfl) :
  PE X (.Call (.Attribute o name apos) (e::es) [] cpos) (tBM X.K T r to t):=by
 intro pins s σ H Q I h
 refine wpAny_Call_method_late hbase hfew hline rfl (thn (ho pins s σ H _ I h) fun v s1 zq=>?_)
 obtain ⟨x,H1,I1,r1,ty,q1⟩:=zq
 obtain ⟨h1,h2⟩:=cM I1 r1 ty
 refine ⟨T,id,pa,slot,hty,h1,h2,?_⟩
 have hA:=ha cpos pins s1 σ H1 _ I1 q1
 rw [hs] at hA ⊢
 refine Calls.callWith_builtin (by show (false || (backTo cpos (starEach es X.env)).any (·.1))=false;rw [hplain]<;>rfl) (Calls.evalArgs_plain ?_)
 exact thn hA fun us s2 ⟨vs,H2,I2,r2,q2⟩=>hm pins s2 σ H2 x vs v us Q I2 r1 r2 q2
end
noncomputable def MtM (X:Cx)(id:String)(r:V→List V→Hp→VK→Prop):Prop:=
 ∀ (pins:List (Addr×Obj)) (s:Shared) (σ:St) (H:Hp) (x:V) (xs:List V) (v:Value) (us:List Value) (Q:VK),Inv X pins σ H s→RelV x v→An xs us→r x xs H Q →
  wpAny (model X.prog X.w) X.A (call (.builtin id) (v::us)) (EP X pins σ Q) X.xe s
theorem An.one {x:V}{us:List Value}(h:An [x] us):∃ u,us=[u]∧RelV x u:=by
 cases h with
 | cons r q =>
  cases q
  exact ⟨_,rfl,r⟩
section
variable {X:Cx} {pins:List (Addr×Obj)} {σ:St} {H:Hp} {s:Shared} {l b:Addr} {xs ys zs:List V}
theorem Inv.lset {its its':List Value}{n:Nat}{f:Array Value→Array Value}{t':Nat}(I:Inv X pins σ H s)(hH:H l=some (.lst xs))
  (e:s.heap.get? l=some { cls:=.type "list",data:=.seq its.toArray n }) (hf:f its.toArray=its'.toArray) (hv:An ys its') (hz:ys.length≤sizeLine) :
  Inv X pins σ (upd H l (.lst ys)) { s with heap:=s.heap.update l (Obj.mapSeq f),toks:=t' }:=by
 have q:=PySem.IsL.update e f
 rw [hf] at q
 refine I.write (x:=l) (e:=l) (by rw [hH];exact trivial) (.inl rfl) (fun b' u hb hu=>(Heap.get?_update_other s.heap (Obj.mapSeq f) (Ne.symm hb)).trans hu) ⟨_,q⟩ ?_
 exact ⟨hz,its',_,hv,q⟩
theorem Inv.lnew {its:List Value}{t':Nat}(I:Inv X pins σ H s)(hv:An ys its)(hz:ys.length≤sizeLine) :
  Inv X pins σ (upd H s.heap.objs.size (.lst ys)) { s with heap:=s.heap.push { cls:=.type "list",data:=.seq its.toArray },toks:=t' }:=
 I.laid (fun _ _ q=>zA _ q) (zL _) ⟨hz,its,0,hv,zT _ rfl⟩
theorem Inv.fresh (I:Inv X pins σ H s):H s.heap.objs.size=none:=I.hok.fresh (zL _)
theorem Inv.lstM (I:Inv X pins σ H s)(hH:H l=some (.lst xs)):xs.length≤sizeLine∧∃ (its:List Value) (n:Nat),An xs its∧xs.length=its.length∧s.heap.get? l=some { cls:=.type "list",data:=.seq its.toArray n }:=by
 obtain ⟨z,its,n,r,e⟩:=I.hok l _ hH
 exact ⟨z,its,n,r,r.length,e⟩
end
section
variable {X:Cx}
noncomputable def Zx:V→List V→Hp→VK→Prop:=fun x vs H Q=>∃ l xs y,x = .ref l∧vs=[y]∧H l=some (.lst xs)∧xs.length<sizeLine∧Q .non (upd H l (.lst (xs++[y])))
theorem OA:MtM X "list.append" Zx:=by
 intro pins s σ H x vs v us Q I rx rv h
 obtain ⟨l,xs,y,rfl,rfl,hH,hz,q⟩:=h
 cases rx
 obtain ⟨u,rfl,ru⟩:=rv.one
 obtain ⟨z,its,n,r,hl,e⟩:=I.lstM hH
 refine call_meets F.slot_list_append ⟨_,e,rfl⟩ F.entry_list_append (F.args_list_append_2 _ _) (PySem.list_append l its.toArray n u (by rw [zQ];lia)) ⟨e,?_⟩
 refine ⟨.non,_,I.lset (its':=its++[u]) hH e (by simp) (r.append (.cons ru .nil)) ?_,rfl,q⟩
 rw [zD,List.length_singleton]
 lia
noncomputable def rCat:R2:=fun x y H Q=>∃ l b xs zs,x = .ref l∧y = .ref b∧H l=some (.lst xs)∧H b=some (.lst zs)∧xs.length+zs.length≤sizeLine∧∀ p,H p=none→Q (.ref p) (upd H p (.lst (xs++zs)))
theorem dv:OpR X (binaryOp .Add) rCat:=by
 intro pins s σ H x y v u Q I rx ry h
 obtain ⟨l,b,xs,zs,rfl,rfl,hH,hB,hz,q⟩:=h
 cases rx
 cases ry
 obtain ⟨z,its,n,r,hl,e⟩:=I.lstM hH
 obtain ⟨z2,its2,n2,r2,hl2,e2⟩:=I.lstM hB
 refine PySem.P.add_list e e2 ?_ (by rw [zQ,zQ];lia)
 have ea:its.toArray++its2.toArray=(its++its2).toArray:=by simp
 rw [ea]
 exact ⟨.ref _,_,I.lnew (t':=s.toks) (r.append r2) (by rw [zD];lia),rfl,q _ I.fresh⟩
end
section
variable {prog:Program} {w:World} {A:Around} {E:Value→Shared→Prop} {s:Shared}
set_option maxRecDepth 100000 in
end
section
variable {X:Cx}
end
section
variable {κ:Type} [DecidableEq κ]
noncomputable def Ed (kvs:List (κ×V))(k:κ):Option V:=(kvs.find? fun kv=>decide (kv.1=k)).map (·.2)
noncomputable def F7 (kvs:List (κ×V))(k:κ)(v:V):List (κ×V):=
 if (kvs.any fun kv=>decide (kv.1=k))=true then kvs.map (fun kv=>if kv.1=k then (kv.1,v) else kv) else kvs++[(k,v)]
noncomputable def dropK (kvs:List (κ×V))(k:κ):List (κ×V):=kvs.filter fun kv=>decide (kv.1≠k)
theorem CH {p:κ×V}{r:List (κ×V)}{k:κ}(e:p.1=k):Ed (p::r) k=some p.2:=by simp [Ed,qb,e]
theorem CD {p:κ×V}{r:List (κ×V)}{k:κ}(e:¬ p.1=k):Ed (p::r) k=Ed r k:=by simp [Ed,qb,e]
theorem Ms (k:κ):∀ kvs:List (κ×V),(kvs.any fun kv=>decide (kv.1=k))=(Ed kvs k).isSome
 | []=>rfl
 | p::r=>by
  rw [List.any_cons]
  by_cases e:p.1=k
  ·simp only [CH e,zE e,Bool.true_or,Option.isSome_some]
  ·rw [CD e,zh e,Bool.false_or];exact Ms k r
theorem Ut (k j:κ)(y:V):∀ kvs:List (κ×V),Ed (kvs.map fun kv=>if kv.1=k then (kv.1,y) else kv) j=(Ed kvs j).map fun x=>if j=k then y else x
 | []=>rfl
 | p::r=>by
  have ih:=Ut k j y r
  rw [zU]
  by_cases h:p.1=k
  ·rw [if_pos h]
   by_cases e:p.1=j
   ·rw [CH (p:=(p.1,y)) e,CH e,qc,if_pos (e.symm.trans h)]
   ·rw [CD (p:=(p.1,y)) e,CD e,ih]
  ·rw [if_neg h]
   by_cases e:p.1=j
   ·rw [CH (p:=p) e,CH e,qc,if_neg (fun z=>h (e.trans z))]
   ·rw [CD (p:=p) e,CD e,ih]
theorem SX (k j:κ)(y:V):∀ kvs:List (κ×V),Ed kvs k=none→Ed (kvs++[(k,y)]) j=if j=k then some y else Ed kvs j
 | [],_=>by
  by_cases e:k=j
  ·rw [if_pos e.symm];exact CH (p:=(k,y)) e
  ·rw [if_neg (fun z=>e z.symm)];exact CD (p:=(k,y)) e
 | p::r,hn=>by
  rw [qV]
  have hk:¬ p.1=k:=fun z=>by rw [CH z] at hn;cases hn
  rw [CD hk] at hn
  have ih:=SX k j y r hn
  by_cases e:p.1=j
  ·rw [CH e,CH e,if_neg (fun z=>hk (e.trans z))]
  ·rw [CD e,CD e,ih]
theorem YT (kvs:List (κ×V))(k j:κ)(y:V):Ed (F7 kvs k y) j=if j=k then some y else Ed kvs j:=by
 unfold F7
 by_cases a:(kvs.any fun kv=>decide (kv.1=k))=true
 ·rw [if_pos a,Ut]
  rw [Ms] at a
  by_cases e:j=k
  ·obtain ⟨x,hx⟩:=Option.isSome_iff_exists.mp a
   rw [if_pos e,e,hx,qc,if_pos rfl]
  ·rw [if_neg e]
   cases Ed kvs j with
   | none=>rfl
   | some x=>rw [qc,if_neg e]
 ·rw [if_neg a]
  refine SX k j y kvs ?_
  rw [Ms] at a
  cases q:Ed kvs k with
  | none=>rfl
  | some x=>rw [q] at a;exact (a rfl).elim
theorem JR (kvs:List (κ×V))(k:κ)(v:V):(F7 kvs k v).length≤kvs.length+1:=by
 unfold F7
 split
 ·rw [z0];lia
 ·rw [zD,zB,zG];lia
theorem NU.isSome_eq {o:Option V}{u:Option Value}(r:NU o u):o.isSome=u.isSome:=by
 cases o with
 | none=>cases u with
  | none=>rfl
  | some _=>exact (show False from r).elim
 | some _=>cases u with
  | none=>exact (show False from r).elim
  | some _=>rfl
theorem KV.val {kvs:List (κ×V)}{vs:List (κ×Value)}(r:KV kvs vs)(k:κ):NU (Ed kvs k) (valueAt vs k):=by
 unfold KV at r
 induction r with
 | nil=>exact True.intro
 | @cons p q ps qs h t ih =>
  obtain ⟨h1,h2⟩:=h
  by_cases e:p.1=k
  ·have e':q.1=k:=h1.symm.trans e
   have b:valueAt (q::qs) k=some q.2:=by simp [valueAt,qb,e']
   rw [CH e,b];exact h2
  ·have e':¬ q.1=k:=fun z=>e (h1.trans z)
   have b:valueAt (q::qs) k=valueAt qs k:=by simp [valueAt,qb,e']
   rw [CD e,b];exact ih
theorem KV.any {kvs:List (κ×V)}{vs:List (κ×Value)}(r:KV kvs vs)(k:κ):(kvs.any fun kv=>decide (kv.1=k))=vs.any fun kv=>decide (kv.1=k):=by
 unfold KV at r
 induction r with
 | nil=>rfl
 | cons h t ih=>rw [List.any_cons,List.any_cons,ih,h.1]
theorem KV.repl {kvs:List (κ×V)}{vs:List (κ×Value)}(r:KV kvs vs)(k:κ){y:V}{u:Value}(ry:RelV y u) :
  KV (kvs.map fun kv=>if kv.1=k then (kv.1,y) else kv) (vs.map fun kv=>if kv.1=k then (kv.1,u) else kv):=by
 unfold KV at r ⊢
 induction r with
 | nil=>exact .nil
 | @cons p q ps qs h t ih =>
  rw [zU,zU]
  refine .cons ?_ ih
  obtain ⟨h1,h2⟩:=h
  by_cases e:p.1=k
  ·rw [if_pos e,if_pos (h1.symm.trans e)];exact ⟨h1,ry⟩
  ·rw [if_neg e,if_neg (fun z=>e (h1.trans z))];exact ⟨h1,h2⟩
theorem KV.put {kvs:List (κ×V)}{vs:List (κ×Value)}(r:KV kvs vs)(k:κ){y:V}{u:Value}(ry:RelV y u):KV (F7 kvs k y) (stored vs k u):=by
 unfold F7 stored
 rw [r.any k]
 by_cases e:(vs.any fun kv=>decide (kv.1=k))=true
 ·rw [if_pos e,if_pos e];exact r.repl k ry
 ·rw [if_neg e,if_neg e];exact Paired.snoc r ⟨rfl,ry⟩
theorem KV.length {kvs:List (κ×V)}{vs:List (κ×Value)}(r:KV kvs vs):kvs.length=vs.length:=Paired.length r
end
theorem YU {P:Program}{w:World}{k:Key}{u:Value}(r:RelV (kV k) u):(CO P w).is k u=true:=by
 cases k with
 | inl i=>obtain ⟨t,e⟩:=(show ∃ t,u=Value.int i t from r);subst e;exact UZ P w i t
 | inr x=>obtain ⟨t,e⟩:=(show ∃ t,u=Value.str x t from r);subst e;exact Uw P w x t
theorem Sq {P:Program}{w:World}:∀ {ks:List Key} {us:List Value},An (ks.map kV) us→ItemsAre (CO P w) ks us
 | [],_,r=>by rw [List.map_nil] at r;cases r;exact .nil
 | k::ks,_,r=>by
  rw [zU] at r
  cases r with
  | cons h t=>exact .cons (YU h) (Sq t)
noncomputable abbrev KT (H:Hp):List (List Key×V)→List (List Key×Addr×Value)→Prop:=Paired fun p q=>p.1=q.1∧H q.2.1=some (.tup (p.1.map kV))∧RelV p.2 q.2.2
theorem KT.val {H:Hp}{kvs:List (List Key×V)}{xs:List (List Key×Addr×Value)}(r:KT H kvs xs)(k:List Key):NU (Ed kvs k) ((atKey xs k).map (·.2)):=by
 induction r with
 | nil=>exact True.intro
 | @cons p q ps qs h t ih =>
  obtain ⟨h1,_,h2⟩:=h
  by_cases e:p.1=k
  ·have e':q.1=k:=h1.symm.trans e
   have b:atKey (q::qs) k=some q.2:=by simp [atKey,qb,e']
   rw [CH e,b];exact h2
  ·have e':¬ q.1=k:=fun z=>e (h1.trans z)
   have b:atKey (q::qs) k=atKey qs k:=by simp [atKey,qb,e']
   rw [CD e,b];exact ih
theorem KT.repl {H:Hp}{kvs:List (List Key×V)}{xs:List (List Key×Addr×Value)}(r:KT H kvs xs)(k:List Key){y:V}{u:Value}(ry:RelV y u) :
  KT H (kvs.map fun kv=>if kv.1=k then (kv.1,y) else kv) (xs.map (putAt k u)):=by
 induction r with
 | nil=>exact .nil
 | @cons p q ps qs h t ih =>
  rw [zU,zU]
  refine .cons ?_ ih
  obtain ⟨h1,h2,h3⟩:=h
  unfold putAt
  by_cases e:p.1=k
  ·rw [if_pos e,if_pos (h1.symm.trans e)];exact ⟨h1,h2,ry⟩
  ·rw [if_neg e,if_neg (fun z=>e (h1.trans z))];exact ⟨h1,h2,h3⟩
theorem KT.put {H:Hp}{kvs:List (List Key×V)}{xs:List (List Key×Addr×Value)}(r:KT H kvs xs)(k:List Key){b:Addr}{y:V}{u:Value}(hb:H b=some (.tup (k.map kV)))(ry:RelV y u) :
  KT H (F7 kvs k y) (storedH xs k b u):=by
 have e:(kvs.any fun kv=>decide (kv.1=k))=(atKey xs k).isSome:=by
  rw [Ms,(r.val k).isSome_eq,Option.isSome_map]
 unfold F7 storedH
 rw [e]
 by_cases q:(atKey xs k).isSome=true
 ·rw [if_pos q,if_pos q];exact r.repl k ry
 ·rw [if_neg q,if_neg q];exact Paired.snoc r ⟨rfl,hb,ry⟩
theorem KT.keeps {H H':Hp}{kvs:List (List Key×V)}{xs:List (List Key×Addr×Value)}(r:KT H kvs xs)(ht:∀ b ys,H b=some (.tup ys)→H' b=some (.tup ys)):KT H' kvs xs:=
 Paired.mapP r fun _ _ z=>⟨z.1,ht _ _ z.2.1,z.2.2⟩
section
variable {P:Program} {w:World} {H:Hp} {h:Heap} {a:Addr}
theorem bO {u:HO}(ok:HOk P w H h)(e:Rd H a u):BM P w H h a u:=e.ok ok
theorem aw {kvs:List (Key×V)}(ok:HOk P w H h)(e:Rd H a (.dK kvs)):kvs.length≤sizeLine∧(a == sysModules)=false∧∃ vs,KV kvs vs∧h.DictOf (CO P w) a vs:=
 show BM P w H h a (.dK kvs) from bO ok e
theorem dk_of {kvs:List (Key×V)}(ok:HOk P w H h)(e:H a=some (.dK kvs)):kvs.length≤sizeLine∧(a == sysModules)=false∧∃ vs,KV kvs vs∧h.DictOf (CO P w) a vs:=aw ok (.inl e)
theorem V4 {ks:List Key}(ok:HOk P w H h)(e:H a=some (.tup (ks.map kV))):(tupleKind (CO P w)).is h ks a:=by
 obtain ⟨_,its,r,o,h1,h2,n,h3⟩:=(show BM P w H h a (.tup (ks.map kV)) from ok a _ e)
 exact ⟨o,its.toArray,n,h1,h2,h3,by simpa using Sq r⟩
theorem bT {kvs:List (List Key×V)}(ok:HOk P w H h)(e:Rd H a (.dT kvs)):kvs.length≤sizeLine∧(a == sysModules)=false ∧
  ∃ xs,KT H kvs xs∧h.DictOfH (tupleKind (CO P w)) a xs:=by
 obtain ⟨z,y,xs,r,o,es,ep,h1,h2,h3,h4,h5⟩:=(show BM P w H h a (.dT kvs) from bO ok e)
 refine ⟨z,y,xs,r,o,es,ep,h1,h2,h3,h4,fun x hx=>?_,h5⟩
 have all:∀ {l:List (List Key×V)} {m:List (List Key×Addr×Value)},KT H l m→∀ x∈m,(tupleKind (CO P w)).is h x.1 x.2.1:=by
  intro l m q
  induction q with
  | nil=>intro x hx;exact nomatch hx
  | @cons p q ps qs hq t ih =>
   intro x hx
   rcases zF.mp hx with e | hx
   ·subst e
    exact V4 ok (by rw [← hq.1];exact hq.2.1)
   ·exact ih x hx
 exact all r x hx
theorem dt_of {kvs:List (List Key×V)}(ok:HOk P w H h)(e:H a=some (.dT kvs)):kvs.length≤sizeLine∧(a == sysModules)=false ∧
  ∃ xs,KT H kvs xs∧h.DictOfH (tupleKind (CO P w)) a xs:=bT ok (.inl e)
end
noncomputable def Ua (H:Hp)(a:Addr)(y:V)(r:Option V):Prop:=
 (∃ kvs k,Rd H a (.dK kvs)∧y=kV k∧r=Ed kvs k)∨∃ kvs k b,Rd H a (.dT kvs)∧y = .ref b∧H b=some (.tup (k.map kV))∧r=Ed kvs k
noncomputable def Y4 (H:Hp)(a:Addr)(y v:V)(H':Hp):Prop:=
 (∃ kvs k,H a=some (.dK kvs)∧y=kV k∧kvs.length<sizeLine∧H'=upd H a (.dK (F7 kvs k v))) ∨
 ∃ kvs k b,H a=some (.dT kvs)∧y = .ref b∧H b=some (.tup (k.map kV))∧kvs.length<sizeLine∧H'=upd H a (.dT (F7 kvs k v))
theorem Ua.k {H:Hp}{a:Addr}{kvs:List (Key×V)}{k:Key}(e:H a=some (.dK kvs)):Ua H a (kV k) (Ed kvs k):=.inl ⟨kvs,k,.inl e,rfl,rfl⟩
theorem Y4.k {H:Hp}{a:Addr}{kvs:List (Key×V)}{k:Key}{v:V}(e:H a=some (.dK kvs))(hl:kvs.length<sizeLine):Y4 H a (kV k) v (upd H a (.dK (F7 kvs k v))):=.inl ⟨kvs,k,e,rfl,hl,rfl⟩
section
variable {X:Cx} {pins:List (Addr×Obj)} {σ:St} {H:Hp} {s:Shared} {a:Addr} {y v:V} {u r:Value} {o:Option V} {A:Around} {E:Value→Shared→Prop}
theorem Inv.big (I:Inv X pins σ H s):sysModules<s.heap.objs.size:=by
 have h:mainGlobals<s.heap.objs.size:=(I.mod.glob.keeps I.bk).lt
 exact Nat.lt_trans (by decide) h
theorem d_in {Q:Value→Shared→Prop}(hu:A.units+1<cLine)(I:Inv X pins σ H s)(g:Ua H a y o)(ry:RelV y u)(h:∀ s',Inv X pins σ H s'→Q (.bool o.isSome) s') :
  wpAny (model X.prog X.w) A (compareOp .In u (.ref a)) Q E s:=by
 rcases g with ⟨kvs,k,e,ey,l⟩ | ⟨kvs,k,b,e,ey,eb,l⟩
 ·subst ey
  obtain ⟨z,hd,vs,rel,dd⟩:=aw I.hok e
  refine wpAny_in_of (YU ry) hd dd.mapOf ?_
  rw [← (rel.val k).isSome_eq,← l]
  exact h _ (I.tok _)
 ·subst ey
  cases (show u=Value.ref b from ry)
  obtain ⟨z,hd,xs,rel,dd⟩:=bT I.hok e
  refine wpAny_in_heap (tupleKind_room_in1 hu) (V4 I.hok eb) hd dd ?_
  have q:=(rel.val k).isSome_eq
  rw [Option.isSome_map] at q
  rw [← q,← l]
  exact h _ (I.tok _)
theorem W5 {h':Heap}{t':Nat}{ob:HO}(I:Inv X pins σ H s)(mu:Mut (H a))(hs:Heap.SameBut a s.heap h')(he:∃ q,h'.get? a=some q)(new:BM X.prog X.w (upd H a ob) h' a ob) :
  Inv X pins σ (upd H a ob) { s with heap:=h',toks:=t' }:=
 I.write (x:=a) (e:=a) mu (.inl rfl) (fun b q hb z=>(hs.2 b hb).trans z) he new
theorem jx {P:Program}{w:World}{H':Hp}{h':Heap}{kvs:List (Key×V)}{vs:List (Key×Value)}(z:kvs.length≤sizeLine)(hd:(a == sysModules)=false)(rel:KV kvs vs)(dd:h'.DictOf (CO P w) a vs) :
  BM P w H' h' a (.dK kvs):=⟨z,hd,vs,rel,dd⟩
theorem XU {H':Hp}{Q:Unit→Shared→Prop}(hu:A.units+1<cLine)(I:Inv X pins σ H s)(g:Y4 H a y v H')(ry:RelV y u)(rv:RelV v r)(h:∀ s',Inv X pins σ H' s'→Q () s') :
  wpAny (model X.prog X.w) A (setItem (.ref a) u r) Q E s:=by
 rcases g with ⟨kvs,k,e,ey,l,eH⟩ | ⟨kvs,k,b,e,ey,eb,l,eH⟩
 ·subst ey eH
  obtain ⟨z,hd,vs,rel,dd⟩:=dk_of I.hok e
  have hz:vs.length≤sizeLine:=by rw [← rel.length];exact z
  have hl:(F7 kvs k v).length≤sizeLine:=by have:=JR kvs k v;lia
  refine wpAny_setItem_pairs (hsz:=hz) (YU ry) dd fun h' dd' hs=>h _ ?_
  have he:∃ q,h'.get? a=some q:=let ⟨q,_,_,hq,_⟩:=dd';⟨q,hq⟩
  exact W5 I (by rw [e];exact True.intro) hs he (jx hl hd (rel.put k rv) dd')
 ·subst ey eH
  cases (show u=Value.ref b from ry)
  obtain ⟨z,hd,xs,rel,dd⟩:=dt_of I.hok e
  have hz:xs.length≤sizeLine:=by rw [← Paired.length rel];exact z
  have hl:(F7 kvs k v).length≤sizeLine:=by have:=JR kvs k v;lia
  refine wpAny_setItem_heap (hsz:=hz) (tupleKind_room_in1 hu) (V4 I.hok eb) dd fun h' dd' hs=>h _ ?_
  obtain ⟨q,es,ep,hq,h2,h3,h4,_,h5⟩:=dd'
  refine W5 I (by rw [e];exact True.intro) hs ⟨q,hq⟩ ⟨hl,hd,_,(rel.put k eb rv).keeps fun c ys ec=>?_,q,es,ep,hq,h2,h3,h4,h5⟩
  rw [AO (IA ec e (fun z=>nomatch z))]
  exact ec
end
section
variable {X:Cx} {pins:List (Addr×Obj)} {σ:St} {H:Hp} {s:Shared} {a:Addr} {kvs:List (Key×V)} {k:Key} {u:Value} {A:Around} {E:Value→Shared→Prop}
end
noncomputable def tDGet (td ty:TE):TE:=fun σ H Q=>td σ H fun x H1=>ty σ H1 fun y H2=>∃ a v,x = .ref a∧Ua H2 a y (some v)∧Q v H2
noncomputable def Ri (ty td:TE):TE:=fun σ H Q=>ty σ H fun y H1=>td σ H1 fun x H2=>∃ a o,x = .ref a∧Ua H2 a y o∧Q (.bl o.isSome) H2
noncomputable def tDNotIn (ty td:TE):TE:=fun σ H Q=>ty σ H fun y H1=>td σ H1 fun x H2=>∃ a o,x = .ref a∧Ua H2 a y o∧Q (.bl (!o.isSome)) H2
noncomputable def LY (td ty tv:TE):TS:=fun D σ H=>tv σ H fun v H1=>td σ H1 fun x H2=>ty σ H2 fun y H3=>∃ a H4,x = .ref a∧Y4 H3 a y v H4∧D.nx σ H4
section
variable {X:Cx} {o i e value:Expr} {pos pos' tpos:Pos} {td ty tv:TE}
theorem ia (hu:X.A.units+1<cLine)(hi:PE X i ty)(ho:PE X o td):PC X .In i o (Ri ty td):=by
 intro pins s σ H Q I h
 refine thn (hi pins s σ H _ I h) fun iv s1 ⟨y,H1,I1,ry,q1⟩=>thn (ho pins s1 σ H1 _ I1 q1) fun u s2 zq=>?_
 obtain ⟨x,H2,I2,rx,a,ov,ex,g,q2⟩:=zq
 subst ex
 obtain rfl:u=Value.ref a:=rx
 exact d_in hu I2 g ry fun s3 I3=>⟨.bl ov.isSome,H2,I3,rfl,q2⟩
theorem Zy (hu:X.A.units+1<cLine)(ho:PE X o td)(hi:PE X i ty)(hv:PE X value tv)(hs:swapsWith value (some (.Subscript o i pos')) pos.line X.env=pure false) :
  PS X (.Assign [.Subscript o i pos'] value pos) (LY td ty tv):=by
 intro pins s σ H D I h
 refine wpAny_Assign_Subscript (thn (hv pins s σ H _ I h) fun r s1 ⟨v,H1,I1,rv,q1⟩=>thn (ho pins s1 σ H1 _ I1 q1) fun u s2 ⟨x,H2,I2,rx,q2⟩=>thn (hi pins s2 σ H2 _ I2 q2) fun iv s3 zq=>?_) hs
 obtain ⟨y,H3,I3,ry,a,H4,ex,g,q3⟩:=zq
 subst ex
 obtain rfl:u=Value.ref a:=rx
 exact XU hu I3 g ry rv fun s4 I4=>⟨σ,H4,I4,q3⟩
end
theorem Yi {P:Program}{w:World}{H:Hp}(h:Heap)(hb:sysModules<h.objs.size):BM P w H (h.push { cls:=.type "dict",data:=.dict #[] }) h.objs.size (.dK []):=
 ⟨zr _,beq_eq_false_iff_ne.mpr (Ne.symm (ze hb)),[],.nil,Heap.DictOf.new h⟩
noncomputable def c9:TE:=fun _ H Q=>∀ p,H p=none→Q (.ref p) (upd H p (.dK []))
section
variable {X:Cx} {pos:Pos}
theorem Zb:PE X (.Dict [] [] pos) c9:=fun pins s σ H Q I h =>
 wpAny_Dict_empty ⟨.ref s.heap.objs.size,_,I.laid (a:=s.heap.objs.size) (o:=.dK []) (t':=s.toks) (fun _ _ q=>zA _ q) (zL _) (Yi s.heap I.big),rfl,h _ (I.hok.fresh (zL _))⟩
end
structure M1 (X:Cx)(o:Expr)(m:Str)(apos:Pos)(e:Expr)(cpos:Pos):Prop where
 base:attributeBase o m X.env (eval o X.env)=eval o X.env
 few:((backTo cpos (starEach [e] X.env)).all (fun x=>!x.1) && (backToKw cpos (keywordEach [] X.env)).all (fun x=>x.1.isSome)
  && decide (([e]:List Expr).length+([]:List Keyword).length+(if ([]:List Keyword).isEmpty then 0 else 1)<30))=true
 line:(apos.endLine == cpos.line)=true
 trees:backTo cpos (starEach [e] X.env)=[(false,eval e X.env)]
noncomputable def IsD (H:Hp)(a:Addr):Prop:=(∃ kvs,Rd H a (.dK kvs))∨∃ kvs,Rd H a (.dT kvs)
section
variable {X:Cx} {pins:List (Addr×Obj)} {σ:St} {H:Hp} {s:Shared} {a:Addr} {y d:V} {u r:Value} {o:Option V} {A:Around} {E:Value→Shared→Prop}
end
noncomputable def tDGet2 (td ty tx:TE):TE:=fun σ H Q=>td σ H fun x H1=>∃ a,x = .ref a∧IsD H1 a∧ty σ H1 fun y H2=>tx σ H2 fun z H3=>∃ o,Ua H3 a y o∧Q (o.getD z) H3
noncomputable def tDPop1 (td ty:TE):TE:=fun σ H Q=>td σ H fun x H1=>∃ a,x = .ref a∧IsD H1 a∧ty σ H1 fun y H2=>∃ kvs k v,H2 a=some (.dK kvs)∧y=kV k∧Ed kvs k=some v∧Q v (upd H2 a (.dK (dropK kvs k)))
section
variable {X:Cx} {o e f:Expr} {apos cpos:Pos} {td ty tx:TE}
end
section
variable {X:Cx} {pins:List (Addr×Obj)} {σ:St} {H:Hp} {s:Shared} {a:Addr} {kvs:List (Key×V)} {A:Around} {E:Value→Shared→Prop}
end
section
variable {X:Cx} {pins:List (Addr×Obj)} {σ:St} {H:Hp} {s:Shared} {a:Addr} {y:V} {u:Value} {A:Around} {E:Value→Shared→Prop}
end
end L2
namespace Att
open PySem PySem.W PySem.Calls PyProof.Rows
theorem ints_of_wellAll {P:Params}{h:Heap}:∀ (ns:List Int) (vs:List Value),WellAll P h vs (ns.map WData.int)→IntsAre vs ns:=by
 intro ns
 induction ns with
 | nil =>
  intro vs w
  rw [List.map_nil] at w
  cases w
  exact .nil
 | cons n ns ih =>
  intro vs w
  rw [zU] at w
  cases w with
  | cons a b =>
   cases a
   exact .cons _ _ (ih _ b)
theorem script_of {l:OpenLaw}{n:Nat}(hn:l.most=some n){P:Params}{h:Heap}{args:List WData}{vals:List Value}
  (hpre:l.row.toRowW.claim.pre args=true) (hwl:WellAll P h vals args) :
  ∃ a vs ns,vals=[Value.ref a]∧args=[WData.list (ns.map WData.int)]∧h.get? a=some { cls:=.type "list",data:=.seq vs.toArray }∧IntsAre vs ns∧ns.length≤n:=by
 have hsh:WShape.hasAll [] args [.list .int]=true:=(pre_splitW hpre).1
 have hc:l.pre.holds [] { args:=args }=true:=(pre_splitW hpre).2
 obtain ⟨d,r,rfl,h1,h2⟩:=hasAllW_cons hsh
 obtain rfl:=hasAllW_nil h2
 obtain ⟨xs,rfl,h3⟩:=hasW_list h1
 obtain ⟨ns,rfl⟩:=items_int h3
 have hlen:ns.length≤n:=by
  unfold OpenLaw.pre at hc
  have h4:(WTm.not (.lt (.lit (.int (n:Int))) (.len (.arg 0)))).holds [] { args:=[.list (ns.map .int)] }=true:=by
   have h4:=(holds_andW hc).1
   rw [hn] at h4
   exact h4
  have h5:=condW_of h4 (w_not (w_lt w_lit (w_len_list (w_arg rfl))))
  rw [z0] at h5
  refine qI fun q=>?_
  have q':(n:Int)<((ns.length:Nat):Int):=by lia
  first
   | (rw [zE q'] at h5;exact absurd h5 (by decide))
   | (simp at h5;lia)
 cases hwl with
 | cons w1 w2 =>
  cases w2
  cases w1 with
  | list ho hall=>exact ⟨_,_,ns,rfl,rfl,ho,ints_of_wellAll ns _ hall,hlen⟩
theorem post_true (l:OpenLaw)(args:List WData):l.row.toRowW.claim.post args (.bool true) args=true:=
 postW_of (r:=l.row.toRowW) (X:=(true == true))
  (show WShape.has [] (.bool true) .bool=true by first | rfl | decide | simp [WShape.has,WShape.arms,WShape.armsAll])
  (show (WTm.eq .res (.lit (.bool true))).value [] { args:=args,res:=some (.bool true),after:=args }=some (.bool (true == true)) from w_eq_bool (w_res rfl) w_lit) rfl
theorem attach_call {l:OpenLaw}{n:Nat}{q:Program}{loose:List Str}{XP:(Str→Option Value)→Heap→Prop}{YP:World→Heap→Prop}{d:DefRec}
  (hn:l.most=some n) (hdf:d.params.defaults=[])
  (call:∀ (w:World) (s₀ s₁:Shared) (mg mb:Str→Option Value) (fa:Addr) (o:Obj) (pm cd doc:Value) (a:Addr) (vs:List Value) (ns:List Int),
   Ground q loose [] XP w s₀ mg mb s₁.heap→YP w s₁.heap →
   s₁.heap.get? fa=some o→o.data = .func (docDef d.name d.params d.body d.scope pm cd doc)→s₁.heap.CodeRec cd d.name→mg d.name=some (.ref fa) →
   s₁.heap.get? a=some { cls:=.type "list",data:=.seq vs.toArray }→IntsAre vs ns→ns.length≤n→s₁.gens=#[] →
   codeAny (model l.prog w) callerA (.call (.ref fa) ⟨[.ref a],[]⟩) (fun r s'=>r = .ok (.ret (.bool true))∧OldK s₁.heap s'.heap∧s'.os=s₁.os∧AllBare s'.gens) s₁) :
  WalkO q loose XP YP l.row.toRowW d [] (fun f vs=>PySem.call f vs):=by
 intro w s₀ s₁ mg mb G Y fa o pm cd doc dV kV ho hd hcd hD hmg hg args vals as hpre hlay hrd hwl hlo
 obtain rfl:dV = .none:=Dflts.none hD hdf
 obtain rfl:kV = .none:=Dflts.noKw hD
 obtain ⟨a,vs,ns,rfl,rfl,hobj,hints,hlen⟩:=script_of hn hpre hwl
 refine enter_call (codeAny_mono (call w s₀ s₁ mg mb fa o pm cd doc a vs ns G Y ho (fd_plain hd) hcd hmg hobj hints hlen hg) fun r s' hq=>?_)
 obtain ⟨rfl,h2,h3,h4⟩:=hq
 exact ⟨.inl ⟨.bool true,.bool true,[],rfl,fun _=>rfl,.bool true,post_true l _,fun _=>⟨List.Pairwise.nil,fun _ hm=>(nomatch hm)⟩⟩,h2,h3,h4⟩
section
variable {prog:Program} {w:World} {A:Around} {E:Value→Shared→Prop} {s:Shared} {K:Frag}
noncomputable def noObjs (h:Heap):Heap:={ h with objs:=#[] }
theorem noObjs_get (h:Heap)(b:Addr):(noObjs h).get? b=none:=by
 cases e:(noObjs h).get? b with
 | none=>rfl
 | some o=>exact absurd (zJ e) (Nat.not_lt_zero _)
noncomputable def ledger (h:Heap)(L d:Addr):List (Addr×Obj):=(List.range h.objs.size).filterMap fun a=>if a=L∨a=d then none else (h.get? a).map fun o=>(a,o)
theorem mem_ledger {h:Heap}{L d a:Addr}{o:Obj}:(a,o)∈ledger h L d↔a≠L∧a≠d∧h.get? a=some o:=by
 unfold ledger
 rw [List.mem_filterMap]
 constructor
 ·rintro ⟨b,_,e⟩
  split at e
  ·cases e
  ·rename_i hb
   obtain ⟨o',ho,e'⟩:=zi.mp e
   cases e'
   exact ⟨fun q=>hb (.inl q),fun q=>hb (.inr q),ho⟩
 ·rintro ⟨n1,n2,ho⟩
  refine ⟨a,List.mem_range.mpr (zJ ho),?_⟩
  rw [if_neg (show ¬ (a=L∨a=d) from fun q=>q.elim n1 n2),ho]<;>rfl
theorem fr_all {h:Heap}{L:Addr}{m:Str→Option Value}(n:h.Ns L m):Fr (noObjs h) L h m:=
 ⟨n,fun b o e=>(by rw [noObjs_get] at e;cases e),zr _⟩
end
end Att
namespace L2
open PySem PySem.Spec PyProof.Rows
theorem R5:∀ {vs:List Value} {ns:List Int},IntsAre vs ns→An (ns.map V.int) vs
 | _,_,.nil=>.nil
 | _,_,.cons n t h=>.cons ⟨t,rfl⟩ (R5 h)
noncomputable def A8 (s:Stmt)(j:Nat):Stmt:=match s with
 | .ClassDef _ _ _ body _ _ _ _ _ _ _=>body.getD j (.Pass ⟨0,0,0,0⟩)
 | _=>.Pass ⟨0,0,0,0⟩
noncomputable def B6 (s:Stmt):Arguments:=match s with
 | .FunctionDef _ a _ _ _ _ _ _ _ _=>a
 | _=>{ posonlyargs:=[],args:=[],vararg:=none,kwonlyargs:=[],kw_defaults:=[],kwarg:=none,defaults:=[] }
noncomputable def BK (s:Stmt):List Stmt:=match s with
 | .FunctionDef _ _ b _ _ _ _ _ _ _=>b
 | _=>[]
noncomputable def AF (s:Stmt):Scope:=match s with
 | .FunctionDef _ _ _ _ _ _ sc _ _ _=>sc
 | _=>{ kind:=.function,names:=[],isGenerator:=false,isCoroutine:=false }
noncomputable abbrev CX0:CXT:=fun _ _ _ _ _ _=>False
noncomputable abbrev E0:XK:=fun _ _ _=>False
theorem AR {X:Cx}:E4 CX0 X E0:=fun _ _ _ _ _ _ _ h=>h.elim
structure Fun (K:W.Frag)(x qual:Str)(st:Stmt)(f:Addr)(fd:FuncData):Prop where
 ex:∃ (oc:Value) (od:Option Addr) (kV doc pm:Value) (an:Option Addr) (cdv ct:Value) (osl:Array (Option Value)),
  fd=W.fnOf x qual (B6 st) (BK st) (AF st) .none kV doc pm an cdv ct∧K.lookup f=some ⟨oc,od,.func fd,osl⟩∧W.codeIn K cdv qual=true
 kp:W.keepIn K (.ref f)=true
section
variable {P:Program} {w:World} {K:W.Frag} {mg:Str→Option Value} {base:Heap}
theorem Fun.ok {x qual:Str}{st:Stmt}{f:Addr}{fd:FuncData}{N ps:List Str}{k:Nat}{sp:Sp}(F:Fun K x qual st f fd)(S:AJ N ps (AF st))(len:∀ vs H Q E,sp vs H Q E→vs.length=ps.length)
  (hbody:∀ (cdv:Value) (A:Around) (outer:List Env) (s:Shared) (H:Hp) (vs:List V) (Q:VK) (E:XK),CT k (A.deeper (envOfC qual (AF st) s.heap.objs.size f cdv))→sp vs H Q E →
   ∃ t,PSs (BF CX0 P w K mg base N qual (AF st) f cdv A outer s H E).nox (BK st) t∧t { nx:=fun _ H'=>Q .non H',rt:=Q } (start N vs) H):Aa P w K mg base CX0 (k+1) f fd ps sp:=by
 obtain ⟨oc,od,kV,doc,pm,an,cdv,ct,osl,rfl,lk,hcd⟩:=F.ex
 refine Ws lk hcd S len fun A outer s H vs Q E hr hsp=>?_
 obtain ⟨t,h,q⟩:=hbody cdv A outer s H vs Q E hr hsp
 exact ⟨t,h.nox,q⟩
theorem Fun.binds {x qual:Str}{st:Stmt}{f:Addr}{fd:FuncData}{ps:List Str}(F:Fun K x qual st f fd)
  (h:∀ (kV doc pm:Value) (an:Option Addr) (cdv ct:Value) (us:List Value),us.length=ps.length→bindArgs (W.fnOf x qual (B6 st) (BK st) (AF st) .none kV doc pm an cdv ct) ⟨us,[]⟩=pure (ps.zip us)):Binds K fd ps []:=by
 obtain ⟨oc,od,kV,doc,pm,an,cdv,ct,osl,rfl,lk,hcd⟩:=F.ex
 exact .all (h kV doc pm an cdv ct)
theorem Nt {x qual:Str}{st:Stmt}{f:Addr}{oc:Value}{od an:Option Addr}{osl:Array (Option Value)}{kV doc pm cdv ct:Value}(l:K.lookup f=some ⟨oc,od,.func (W.fnOf x qual (B6 st) (BK st) (AF st) .none kV doc pm an cdv ct),osl⟩)
  (c:W.codeIn K cdv qual=true) (k:W.keepIn K (.ref f)=true):Fun K x qual st f (W.fnOf x qual (B6 st) (BK st) (AF st) .none kV doc pm an cdv ct):=⟨⟨oc,od,kV,doc,pm,an,cdv,ct,osl,rfl,l,c⟩,k⟩
end
theorem bG {A:Around}{k:Nat}(hr:CT k A):A.units+1<cLine:=zk (Nat.add_le_add_left (by decide:1≤64) _) hr.units
section
variable {X:Cx}
theorem pv (i:Nat){x:Str}{pos:Pos}(hN:X.N[i]? = some x:=by rfl)(hv:Vis X.env.scope x:=by first | exact Or.inl rfl | exact Or.inr (Or.inl rfl) | exact Or.inr (Or.inr rfl))(hd:(x == ("__debug__":Str))=false:=by decide)
  (hcd:(x == ("__classdict__":Str))=false:=by decide):PE X (.Name x pos) (Nr i):=fN hN hv hd hcd
end
noncomputable def AG (H H':Hp):Prop:=∀ b o,H b=some o→H' b=some o
theorem AG.refl (H:Hp):AG H H:=fun _ _ h=>h
theorem AG.trans {H H1 H2:Hp}(a:AG H H1)(b:AG H1 H2):AG H H2:=fun c o h=>b c o (a c o h)
theorem AG.free {H H':Hp}(e:AG H H'){l:Addr}(h:H' l=Option.none):H l=Option.none:=by
 cases q:H l with
 | none=>rfl
 | some o =>
  rw [e l o q] at h
  cases h
theorem AG.seq {K:W.Frag}{H H':Hp}{a:Addr}{xs:List V}(e:AG H H')(h:SqL K H a xs):SqL K H' a xs:=by
 rcases h with (h | ⟨o,h⟩) | h
 ·exact .inl (.inl (e _ _ h))
 ·exact .inl (.inr ⟨o,e _ _ h⟩)
 ·exact .inr h
section
variable {X:Cx}
end
section
variable {κ:Type} [DecidableEq κ]
theorem WS:∀ {l:List κ} {k:κ},l.Nodup→¬ k∈l→(l++[k]).Nodup
 | [],k,_,_=>by simp
 | a::r,k,h,hk=>by
  obtain ⟨h1,h2⟩:=qa.mp h
  show (a::(r++[k])).Nodup
  refine qa.mpr ⟨fun m=>?_,WS h2 fun m=>hk (zF.mpr (Or.inr m))⟩
  rcases zb.mp m with q | q
  ·exact h1 q
  ·exact hk (zF.mpr (Or.inl (zI.mp q).symm))
end
theorem S8:bootBuiltins "abs"=some (.builtin "abs"):=by decide +kernel
theorem A0:bootBuiltins "len"=some (.builtin "len"):=by decide +kernel
theorem Fx:bootBuiltins "isinstance"=some (.builtin "isinstance"):=by decide +kernel
theorem Vw:bootBuiltins "max"=some (.builtin "max"):=by decide +kernel
theorem YX:bootBuiltins "min"=some (.builtin "min"):=by decide +kernel
theorem ZW:bootBuiltins "int"=some (.type "int"):=by decide +kernel
theorem aD:bootBuiltins "bool"=some (.type "bool"):=by decide +kernel
theorem ZX:bootBuiltins "tuple"=some (.type "tuple"):=by decide +kernel
theorem Pk:bootBuiltins "list"=some (.type "list"):=by decide +kernel
theorem CG:bootBuiltins "str"=some (.type "str"):=by decide +kernel
noncomputable def Sm (i:Int):Prop:=i.natAbs<2 ^ 4000
theorem Sm.of {i:Int}{n:Nat}(h:i.natAbs≤n)(hn:n<2 ^ 4000):Sm i:=zk h hn
theorem Sm.bits {i:Int}(h:Sm i):Builtin.Int.intBits i≤2 ^ 20:=by
 unfold Builtin.Int.intBits
 split
 ·exact zr _
 ·have hn:i.natAbs<2 ^ 4000:=h
  have:i.natAbs.log2<4000:=by
   rcases Nat.eq_zero_or_pos i.natAbs with h0 | hp
   ·rw [h0];decide
   ·exact (Nat.log2_lt (qC hp)).mpr hn
  have h20:(4000:Nat)≤2 ^ 20:=by decide
  lia
theorem Sm.log {i:Int}(h:Sm i):i.natAbs.log2<9000:=by
 have hn:i.natAbs<2 ^ 4000:=h
 rcases Nat.eq_zero_or_pos i.natAbs with h0 | hp
 ·rw [h0];decide
 ·exact Nat.lt_trans ((Nat.log2_lt (qC hp)).mpr hn) (by decide)
section
variable {X:Cx}
theorem DW:OpR X (binaryOp .Mult) (rI (fun i j=>Sm i∧Sm j) fun i j=>.int (i*j)):=opI fun _ _ _ _ _ _ _ hc q=>mul_int q (.of_bits hc.1.bits hc.2.bits)
theorem U5:OpR X (binaryOp .FloorDiv) (rI (fun _ j=>j≠0∧Sm j) fun i j=>.int (i.fdiv j)):=opI fun _ _ _ _ _ _ _ hc q=>floordiv_int hc.1 q (.inl (PyProof.noPylong_of_log2 hc.2.log))
theorem JW:Cm X (.builtin "isinstance") (fun xs H Q=>∃ x n t b,xs=[x,.ty n]∧Jp X.K H x t∧W.kitOne X.K t (.type n)=some b∧Q (.bl b) H):=by
 intro pins s σ H xs us Q I r h
 obtain ⟨x,n,t,b,rfl,ty,e,q⟩:=h
 obtain ⟨u,w',rfl,r1,r2⟩:=vals2 r
 cases (show w'=Value.type n from r2)
 exact X4 I r1 ty e fun tk=>⟨.bl b,H,I.tok tk,rfl,q⟩
end
structure D (K:W.Frag)(mg:Str→Option Value)(x:Str)(st:Stmt)(ps:List Str)(f:Addr)(fd:FuncData):Prop where
 F:Fun K x x st f fd
 m:mg x=some (.ref f)
 b:Binds K fd ps []
section
variable {X:Cx} {st:Stmt} {rest:List Stmt} {t u:TS}
theorem JD {t u:TS}{D:Ij}{σ:St}{H:Hp}(h:∀ M:St→Hp→Prop,(∀ σ' H',u D σ' H'→M σ' H')→t { D with nx:=M } σ H):Ux t u D σ H:=h _ fun _ _ z=>z
noncomputable def tCut (t u:TS):TS:=fun D σ H=>∃ M:St→Hp→Prop,t { D with nx:=M } σ H∧∀ σ' H',M σ' H'→u D σ' H'
theorem Jy (h1:PS X st t)(h2:PSs X rest u):PSs X (st::rest) (tCut t u):=by
 intro pins s σ H D I h
 obtain ⟨M,h,hM⟩:=h
 refine wpAny_execs_cons (thn (h1 pins s σ H _ I h) fun f s1 q=>?_)
 cases f with
 | next =>
  obtain ⟨σ',H',I',q⟩:=q
  exact h2 pins s1 σ' H' D I' (hM σ' H' q)
 | ret v=>exact q
 | brk=>exact q
 | cont=>exact q
end
theorem cxK {CX:CXT}{P:Program}{w:World}{K:W.Frag}{mg:Str→Option Value}{base:Heap}{N:List Str}{qual:Str}{scope:Scope}{f:Addr}{cd:Value}{A:Around}{outer:List Env}{s:Shared}{H:Hp}{E:XK} :
 (BF CX P w K mg base N qual scope f cd A outer s H E).K=K:=rfl
theorem N5:Int.natAbs 10=10:=rfl
theorem Si:Int.natAbs 2=2:=rfl
theorem Ak {H:Hp}{p:PySem.Addr}{o:HO}(hp:H p=none):AG H (upd H p o):=fun b u e=>by
 rw [AO (Af e hp)];exact e
theorem AG.upd {H H1:Hp}{p:PySem.Addr}{o:HO}(s:AG H H1)(hp:H1 p=none):AG H (upd H1 p o):=s.trans (Ak hp)
theorem AG.tup {K:W.Frag}{H H':Hp}{a:PySem.Addr}{xs:List V}(e:AG H H')(h:SqT K H a xs):SqT K H' a xs:=by
 rcases h with (h | ⟨o,h⟩) | h
 ·exact .inl (.inl (e _ _ h))
 ·exact .inl (.inr ⟨o,e _ _ h⟩)
 ·exact .inr h
section
variable {X:Cx} {es:List Expr} {t:TA} {pos:Pos}
noncomputable def Ky (t:TA):TE:=fun σ H Q=>t σ H fun xs H1=>xs.length≤sizeLine∧∀ p H',H1 p=none→AG H1 H'→H' p=some (.tup xs)→Q (.ref p) H'
noncomputable def Ka (t:TA):TE:=fun σ H Q=>t σ H fun xs H1=>xs.length≤sizeLine∧∀ p H',H1 p=none→AG H1 H'→H' p=some (.lst xs)→Q (.ref p) H'
theorem Ag {x1}(h:PA X es t):PE X (.Tuple es x1 pos) (Ky t):=by
 intro pins s σ H Q I hq
 refine wpAny_Tuple_spliced (thn (h pos pins s σ H _ I hq) fun us s1 ⟨xs,H1,I1,r,z,q⟩=>⟨by rw [← r.length];exact z,?_⟩)
 have hf:H1 s1.heap.objs.size=none:=I1.hok.fresh (zL _)
 refine ⟨.ref s1.heap.objs.size,upd H1 s1.heap.objs.size (.tup xs),I1.laid (t':=s1.toks) (fun b u e=>zA _ e) (zL _) ?_,rfl,q _ _ hf (Ak hf) AM⟩
 exact ⟨z,us,r,⟨_,zT _ rfl,rfl,_,rfl⟩⟩
theorem Ao (h:PA X es t):PE X (.List es pos) (Ka t):=by
 intro pins s σ H Q I hq
 refine wpAny_List_spliced (thn (h pos pins s σ H _ I hq) fun us s1 ⟨xs,H1,I1,r,z,q⟩=>⟨by rw [← r.length];exact z,?_⟩)
 have hf:H1 s1.heap.objs.size=none:=I1.hok.fresh (zL _)
 refine ⟨.ref s1.heap.objs.size,upd H1 s1.heap.objs.size (.lst xs),I1.laid (t':=s1.toks) (fun b u e=>zA _ e) (zL _) ?_,rfl,q _ _ hf (Ak hf) AM⟩
 exact ⟨z,us,0,r,zT _ rfl⟩
end
theorem AG.get {H H':Hp}(s:AG H H'){b:PySem.Addr}{o:HO}(h:H b=some o):H' b=some o:=s b o h
theorem Mc {α:Sort _}{p q:α→Prop}(w:α)(h1:p w)(h2:q w):∃ x,p x∧q x:=⟨w,h1,h2⟩
theorem exOrL {α:Sort _}{p p' q:α→Prop}(w:α)(h1:p w)(h2:q w):∃ x,(p x∨p' x)∧q x:=⟨w,.inl h1,h2⟩
theorem exOrR {α:Sort _}{p p' q:α→Prop}(w:α)(h1:p' w)(h2:q w):∃ x,(p x∨p' x)∧q x:=⟨w,.inr h1,h2⟩
section
variable {X:Cx}
theorem OpR.weak {f:Value→Value→Sem Value}{r r':R2}(h:OpR X f r)(m:∀ x y H Q,r' x y H Q→r x y H Q):OpR X f r':=
 fun pins s σ H x y v u Q I rx ry q=>h pins s σ H x y v u Q I rx ry (m x y H Q q)
theorem Cm.weak {f:Value}{r r':List V→Hp→VK→Prop}(h:Cm X f r)(m:∀ xs H Q,r' xs H Q→r xs H Q):Cm X f r':=
 fun pins s σ H xs us Q I rx q=>h pins s σ H xs us Q I rx (m xs H Q q)
noncomputable def Kd:R2:=fun x y H Q=>∃ l b,x = .ref l∧y = .ref b∧∃ xs,H l=some (.lst xs)∧∃ zs,H b=some (.lst zs)∧xs.length+zs.length≤sizeLine∧∀ p H',H p=none→AG H H'→H' p=some (.lst (xs++zs))→Q (.ref p) H'
theorem B7:OpR X (binaryOp .Add) Kd:=dv.weak fun _ _ _ _ ⟨l,b,e1,e2,xs,h1,zs,h2,h3,q⟩=>⟨l,b,xs,zs,e1,e2,h1,h2,h3,fun p hp=>q p _ hp (Ak hp) AM⟩
noncomputable def rTupleL (K:W.Frag):List V→Hp→VK→Prop:=fun xs H Q=>∃ p,xs=[.ref p]∧∃ ys,SqL K H p ys∧∀ l H',H l=none→AG H H'→H' l=some (.tup ys)→Q (.ref l) H'
noncomputable def Dd (K:W.Frag):List V→Hp→VK→Prop:=fun xs H Q=>∃ p,xs=[.ref p]∧∃ ys,(SqL K H p ys∨SqT K H p ys)∧∀ l H',H l=none→AG H H'→H' l=some (.lst ys)→Q (.ref l) H'
theorem Gw:Cm X (.type "list") (Dd X.K):=Tp.weak fun _ _ _ ⟨p,e,ys,h,q⟩=>⟨p,ys,e,h,fun l hl=>q l _ hl (Ak hl) AM⟩
end
noncomputable def Md (i:Int):Prop:=i.natAbs≤10 ^ 60
theorem Md.sm {i:Int}(h:Md i):Sm i:=Sm.of h (by decide +kernel)
theorem Md.mul {i j:Int}(h:Md i)(g:Md j):(i*j).natAbs≤10 ^ 120:=by
 rw [Int.natAbs_mul];exact zO (Nat.mul_le_mul h g) (by decide +kernel)
theorem Md.mulS {i j:Int}(h:Md i)(g:Md j):Sm (i*j):=Sm.of (h.mul g) (by decide +kernel)
theorem Vp {c A B:Prop}[Decidable c](hc:¬ c)(h:B):if c then A else B:=by rw [if_neg hc];exact h
theorem dJ {c A B:Prop}[Decidable c](hc:c)(h:A):if c then A else B:=by rw [if_pos hc];exact h
theorem jk {H H':Hp}(h:AG H H'):True:=trivial
section
variable {X:Cx}
end
theorem Ch {a b:Int}{m n:Nat}(ha:a.natAbs≤m)(hb:b.natAbs≤n):(a*b).natAbs≤m*n:=by
 rw [Int.natAbs_mul];exact Nat.mul_le_mul ha hb
theorem atL2 {x y e:Int}(h0:0≤e)(h1:e<2):∃ v:Int,atI [V.int x,V.int y] e=some (V.int v)∧(v=x∨v=y):=by
 rcases (by lia:e=0∨e=1) with rfl | rfl
 ·exact ⟨x,rfl,.inl rfl⟩
 ·exact ⟨y,rfl,.inr rfl⟩
theorem EZ:KM .non .non=true:=rfl
theorem EV {j:Int}:KM .non (.int j)=true:=rfl
theorem Ei {i:Int}:KM (.int i) .non=true:=rfl
theorem EW {j:Bool}:KM .non (.bl j)=true:=rfl
theorem EY {i:Bool}:KM (.bl i) .non=true:=rfl
theorem Eh {j:PySem.Str}:KM .non (.str j)=true:=rfl
theorem EO {i:PySem.Str}:KM (.str i) .non=true:=rfl
theorem DY {i:Int}{j:Int}:KM (.int i) (.int j)=true:=rfl
theorem EQ {i:Bool}{j:Bool}:KM (.bl i) (.bl j)=true:=rfl
theorem Dg {i:PySem.Str}{j:PySem.Str}:KM (.str i) (.str j)=true:=rfl
theorem Eb {i:Int}{j:PySem.Str}:KM (.int i) (.str j)=true:=rfl
theorem ET {i:PySem.Str}{j:Int}:KM (.str i) (.int j)=true:=rfl
theorem Ej {i:Bool}{j:PySem.Str}:KM (.bl i) (.str j)=true:=rfl
theorem EN {i:PySem.Str}{j:Bool}:KM (.str i) (.bl j)=true:=rfl
end L2
set_option maxHeartbeats 4000000
namespace L2
open PySem PySem.Spec PyProof.Rows
section
variable {prog:Program} {w:World} {A:Around} {R:Result→Shared→Prop} {s:Shared}
theorem Ov {elt target iter:Expr}{ifs:List Expr}{scope:Scope}{pos:Pos}{it acc:Value}{env:Env}(I:Nat→Shared→Prop){N:Value→Shared→Prop}(hN:N=notedBy (model prog w) A env fun e s'=>R (.error e) s')
  (turn:∀ n s,I n s→wpAny (model prog w) A (pyNext it) (fun r s₁=>match r with
   | none=>R (.ok .next) s₁
   | some v=>wpAny (model prog w) A (letOwnedTupleGo target it v) (fun _ s₁'=>wpAny (model prog w) A (assign target env v) (fun _ s₂ =>
     wpAny (model prog w) A (forIn ifs true fun c r=>if r=true then do let ok ← isTrue c env (eval c env);pure (ForInStep.yield ok) else pure (ForInStep.yield r)) (fun ok s₃ =>
      if ok=true then wpAny (model prog w) A (eval elt env) (fun x s₄=>wpAny (model prog w) A (call (.builtin "list.append") [acc,x]) (fun _ s₅=>∃ m,m<n∧I m s₅) N s₄) N s₃
      else ∃ m,m<n∧I m s₃) N s₂) N s₁') N s₁) N s)
  (n:Nat) (h:I n s):codeAny (model prog w) A (.compLoop (.ListComp elt [⟨target,iter,ifs,0⟩] scope pos) 0 it acc env) R s:=by
 subst hN
 refine codeAny_loop rfl I (fun n s hI=>?_) n h
 show wpAny _ A ((compTurn (.ListComp elt [⟨target,iter,ifs,0⟩] scope pos) 0 it acc env).onRaise (fun x=>do noteFrame x env;theTreesLotGoes x)) _ _ s
 refine wpAny_noted ?_
 rw [compTurn_list]
 refine wpAny_bind (wpAny_standAt (wpAny_bind (wpAny_mono (turn n s hI) (fun r s₁ h₁=>?_) fun _ _ h'=>h')))
 cases r with
 | none=>exact wpAny_pure h₁
 | some v =>
  refine wpAny_bind (wpAny_mono h₁ (fun _ s₁' h₁'=>?_) fun _ _ h'=>h')
  refine wpAny_bind (wpAny_mono h₁' (fun _ s₂ h₂=>wpAny_bind (wpAny_mono h₂ (fun ok s₃ h₃=>?_) fun _ _ h'=>h')) fun _ _ h'=>h')
  cases ok with
  | false=>exact wpAny_pure ⟨rfl,h₃⟩
  | true =>
   exact wpAny_bind (wpAny_bind (wpAny_mono h₃ (fun x s₄ h₄=>wpAny_bind (wpAny_mono h₄ (fun _ s₅ h₅=>wpAny_pure (wpAny_pure ⟨rfl,h₅⟩)) fun _ _ h'=>h')) fun _ _ h'=>h'))
end
noncomputable def Au (X:Cx)(sc:Scope)(cl:List (Str×Addr))(N:List Str)(C:Addr)(s:Shared)(H:Hp)(ex:List Addr):Cx:=
 { X with N:=N,s₀:=s,H₀:=H,env:=compEnvC sc cl C X.env,outer:=X.stack,stack:=X.stack,ex:=ex,fn:=fun _=>false,pn:=[],xe:=fun _ _=>False }
noncomputable def As (X:Cx)(caps:List Str):List (Str×Addr):=caps.map fun n=>(n,(X.env.cells.lookup n).getD 0)
noncomputable def Dj (σ:St)(ix:List Nat):St:=ix.map fun i=>(σ[i]?).join
structure Ar (X:Cx)(sc:Scope)(x:Str)(caps:List Str)(ix:List Nat):Prop where
 kind:sc.kind = .function
 nocell:∀ y∈sc.names,y.2≠.cell
 names:∀ y∈sc.names,y.2 = .local→sc.names.lookup y.1=some .local
 free:∀ y∈sc.names,y.2 = .free→y.1∈caps
 hx:sc.names.lookup x=some .local
 nd:(x::caps).Nodup
 clos:closureFor sc X.env=pure (As X caps)
 cap:caps.map X.env.kindOf=caps.map fun _=>some NameKind.cell
 rl:(caps.map fun n=>(relabel sc X.env).names.lookup n)=caps.map fun _=>some NameKind.cell
 slots:(ix.map fun i=>X.N[i]?)=caps.map some
theorem Tu {α β:Type}{f g:α→β}{l:List α}(h:l.map f=l.map g){a:α}(ha:a∈l):f a=g a:=by
 induction l with
 | nil=>exact absurd ha (by simp)
 | cons b r ih =>
  rw [zU,zU,qH] at h
  rcases zF.mp ha with rfl | ha
  ·exact h.1
  ·exact ih h.2 ha
theorem NH {X:Cx}:∀ {caps:List Str} {n:Str} {c:Addr},(As X caps).lookup n=some c→n∈caps∧c=(X.env.cells.lookup n).getD 0
 | [],_,_,h=>by simp [As] at h
 | a::r,n,c,h=>by
  have h:List.lookup n ((a,(X.env.cells.lookup a).getD 0)::As X r)=some c:=h
  rw [List.lookup_cons] at h
  cases e:n == a with
  | true =>
   rw [e] at h
   have e':n=a:=by simpa using e
   subst e'
   exact ⟨zP,(zV h).symm⟩
  | false =>
   rw [e] at h
   obtain ⟨h1,h2⟩:=NH h
   exact ⟨zK _ h1,h2⟩
theorem OL {X:Cx}:∀ {caps:List Str} {n:Str},n∈caps→∃ c,(As X caps).lookup n=some c
 | [],_,h=>absurd h (by simp)
 | a::r,n,h=>by
  show ∃ c,List.lookup n ((a,(X.env.cells.lookup a).getD 0)::As X r)=some c
  rw [List.lookup_cons]
  cases e:n == a with
  | true=>exact ⟨_,rfl⟩
  | false =>
   have ne:n≠a:=by simpa using e
   exact OL ((zF.mp h).resolve_left ne)
section
variable {X:Cx} {pins:List (Addr×Obj)} {σ:St} {H:Hp} {s:Shared} {sc:Scope} {x:Str} {caps:List Str} {ix:List Nat}
theorem Ar.cell {n:Str}{c:Addr}(S:Ar X sc x caps ix)(ok:X.Ok)(h:(As X caps).lookup n=some c):n∈caps∧X.env.cells.lookup n=some c:=by
 obtain ⟨h1,h2⟩:=NH h
 obtain ⟨c',e⟩:=ok.has n (.inl (Tu S.cap h1))
 refine ⟨h1,?_⟩
 rw [h2,e];rfl
theorem Ar.isCap (S:Ar X sc x caps ix){y:Str}(h:(relabel sc X.env).names.lookup y=some .cell∨(relabel sc X.env).names.lookup y=some .free):y∈caps:=by
 have key:∀ k,(relabel sc X.env).names.lookup y=some k→k = .cell∨k = .free→y∈caps:=fun k hk hk2=>by
  have hm:=PySem.mem_of_lookup hk
  obtain ⟨⟨n,k'⟩,hn,e⟩:=zZ.mp (show (y,k)∈sc.names.map _ from hm)
  dsimp only at e
  split at e
  ·rename_i hc
   have hk':k' = .free:=by
    simp only [qG,beq_iff_eq] at hc
    exact hc.1.1
   injection e with e1 e2
   subst e1
   exact S.free _ hn hk'
  ·injection e with e1 e2
   subst e1 e2
   rcases hk2 with rfl | rfl
   ·exact absurd rfl (S.nocell _ hn)
   ·exact S.free _ hn rfl
 rcases h with h | h
 ·exact key _ h (.inl rfl)
 ·exact key _ h (.inr rfl)
theorem Ar.ok (S:Ar X sc x caps ix)(I:Inv X pins σ H s){fp:List Addr}{C:Addr}(hC:s.heap.objs.size≤C)(hf:∀ b∈fp,Le X pins H b)(hb:∀ b∈fp,b<s.heap.objs.size) :
  (Au X sc (As X caps) (x::caps) C s H fp).Ok where
 mod:=I.ok.mod
 kind:=S.kind
 glob:=I.ok.glob
 blt:=I.ok.blt
 above:=hC
 inj:=fun y z c h1 h2=>I.ok.inj y z c (S.cell I.ok h1).2 (S.cell I.ok h2).2
 has:=fun y hy=>OL (S.isCap hy)
 cab:=fun _ _ h=>absurd h (by intro z;cases z)
 hd:=I.ok.hd
 frames:=I.ok.frames
 stk:=.inl rfl
 exf:=fun b hbf=>⟨ze (zM (hb b hbf) hC),fun y c h=>(hf b hbf).2.2.2.2.1 y c (S.cell I.ok h).2⟩
 bs:=I.bs
 bsz:=zO I.ok.bsz I.sz
 noex:=fun b o e hbf=>by
  rcases (hf b hbf).2.2.2.1 with z | z
  ·exact I.ok.noex b o e z
  ·exact absurd (zM (zJ (I.ok.bs b o e).1) z) (qF _)
 exfs:=fun b hbf hm=>by
  rcases zF.mp (I.stkSub b hm) with z | z
  ·exact (hf b hbf).2.1 z
  ·exact (hf b hbf).2.2.1 z
 funs:=I.stack
 frf:=I.stkFree
theorem YY (S:Ar X sc x caps ix):(Dj σ ix).length=caps.length:=by
 have:=congrArg List.length S.slots
 simpa [Dj] using this
theorem Wo:∀ {ix:List Nat} {caps:List Str} {N:List Str} {k:Nat} {n:Str},(ix.map fun i=>N[i]?)=caps.map some→caps[k]? = some n→∃ i,ix[k]? = some i∧N[i]? = some n
 | [],[],_,_,_,_,h=>by simp at h
 | [],_::_,_,_,_,h,_=>by simp at h
 | _::_,[],_,_,_,h,_=>by simp at h
 | i::ix,a::caps,N,0,n,h,e=>by
  rw [zU,zU,qH] at h
  simp at e;subst e
  exact ⟨i,rfl,h.1⟩
 | i::ix,a::caps,N,k+1,n,h,e=>by
  rw [zU,zU,qH] at h
  obtain ⟨j,h1,h2⟩:=Wo (k:=k) h.2 (by simpa using e)
  exact ⟨j,by simpa using h1,h2⟩
theorem Ar.start (S:Ar X sc x caps ix)(I:Inv X pins σ H s){fp:List Addr}{C D:Addr}{h':Heap}{m:Str→Option Value}{tk:Nat}(hf:∀ b∈fp,Le X pins H b)(hb:∀ b∈fp,b<s.heap.objs.size)
  (hD:s.heap.objs.size≤D) (hC:s.heap.objs.size≤C) (hDC:D≠C) (k:∀ b o,s.heap.get? b=some o→h'.get? b=some o) (hd:h'.get? D=some { cls:=.type "list",data:=.seq #[] 0 }) (hn:h'.Ns C m) :
  Inv (Au X sc (As X caps) (x::caps) C s H fp) [] (none::Dj σ ix) (upd H D (.lst [])) { s with heap:=h',toks:=tk } where
 ok:=S.ok I hC hf hb
 os:=rfl
 bare:=I.bare
 base:=Un.laid k hD (I.hok.fresh hD)
 loc:=by
  refine ⟨m,hn,fun i y v h1 h2 _=>?_⟩
  cases i with
  | zero=>simp at h2
  | succ i =>
   have h1:caps[i]? = some y:=by simpa [Au] using h1
   have h2:(Dj σ ix)[i]? = some (some v):=by simpa using h2
   obtain ⟨j,e1,e2⟩:=Wo S.slots h1
   have h3:σ[j]? = some (some v):=by
    unfold Dj at h2
    rw [zN,e1] at h2
    have h2:(σ[j]?).join=some v:=by simpa using h2
    cases q:σ[j]? with
    | none=>rw [q] at h2;cases h2
    | some o=>rw [q] at h2;cases o with
     | none=>cases h2
     | some u=>cases h2;rfl
   have hy:y∈caps:=zW h1
   obtain ⟨m0,hn0,hl0⟩:=I.loc
   obtain ⟨u,r,l⟩:=hl0 j y v e2 h3 (.inr (.inl (Tu S.cap hy)))
   refine ⟨u,r,.inr ⟨.inl (Tu S.rl hy),?_⟩⟩
   rcases l with ⟨z,_⟩ | ⟨_,c,hc,hcell⟩
   ·have z2:X.env.kindOf y=some .cell:=Tu S.cap hy
    rw [z] at z2;cases z2
   ·obtain ⟨c',hc'⟩:=OL (X:=X) hy
    have:=(S.cell I.ok hc').2
    rw [hc] at this;cases this
    obtain ⟨o,ho,hdt⟩:=hcell
    exact ⟨c,hc',o,k _ _ ho,hdt⟩
 cell:=fun y c h=>by
  obtain ⟨v,o,ho,hdt⟩:=I.cell y c (S.cell I.ok h).2
  exact ⟨v,o,k _ _ ho,hdt⟩
 free:=by
  show upd H D (.lst []) C=none
  rw [AO (Ne.symm hDC)];exact I.hok.fresh hC
 freeC:=fun y c h=>by
  have h2:=(S.cell I.ok h).2
  obtain ⟨v,o,ho,_⟩:=I.cell y c h2
  rw [AO (ze (zM (zJ ho) hD))]
  exact I.freeC y c h2
 pin:=fun p hp=>absurd (show p∈([]:List (Addr×Obj)) from hp) (by simp)
 hok:=I.hok.laid k hD ⟨zr _,[],0,.nil,hd⟩
 len:=by
  show (none::Dj σ ix).length=(x::caps).length
  rw [zB,zB,YY S]
theorem Ar.back (S:Ar X sc x caps ix)(I:Inv X pins σ H s){fp:List Addr}{C:Addr}{ps:List (Addr×Obj)}{σ':St}{H':Hp}{s':Shared}{h'':Heap}(hf:∀ b∈fp,Le X pins H b)(hC:s.heap.objs.size≤C)
  (I':Inv (Au X sc (As X caps) (x::caps) C s H fp) ps σ' H' s') (hs:Heap.SameBut C s'.heap h''):Inv X pins σ H' { s' with heap:=h'' }:=by
 have J:Inv X pins σ H' s':=I.call' (ch:=fp) I'.os I'.base I'.hok I'.bare fun b hb=>⟨(hf b hb).2.2.2.1,(hf b hb).2.1,(hf b hb).2.2.2.2.1,(hf b hb).2.2.2.2.2⟩
 refine J.turned (t':=s'.toks) (it:=C) (fun b o hb e=>(hs.2 b hb).trans e) I'.free ?_ (.inr (zO I.sz hC)) (fun y c h z=>?_) fun p hp z=>?_
 ·exact qC (zM I.lt hC)
 ·obtain ⟨v,o,ho,_⟩:=I.cell y c h
  exact absurd (zM (zJ ho) (z▸hC)) (qF _)
 ·obtain ⟨e,_⟩:=I.pin p hp
  exact absurd (zM (zJ e) (z▸hC)) (qF _)
end
noncomputable def PTs (X:Cx)(ifs:List Expr)(tc:TT):Prop:=
 ∀ (pins:List (Addr×Obj)) (s:Shared) (σ:St) (H:Hp) (Q:Bool→Hp→Prop),Inv X pins σ H s→tc σ H Q →
  wpAny (model X.prog X.w) X.A (forIn ifs true fun c r=>if r=true then do let ok ← isTrue c X.env (eval c X.env);pure (ForInStep.yield ok) else pure (ForInStep.yield r)) (TP X pins σ Q) X.xe s
noncomputable def EM:TT:=fun _ H Q=>Q true H
theorem BJ {X:Cx}:PTs X [] EM:=fun _ _ _ H _ I h=>wpAny_tests_nil ⟨H,I,h⟩
theorem Wt {X:Cx}{c:Expr}{t:TT}(h:PT X c t):PTs X [c] t:=fun pins s σ H Q I q=>wpAny_tests_one (h pins s σ H Q I q)
noncomputable def Ds (te:TE)(tc:TT)(caps:St)(J:It)(D:Addr)(H1:Hp)(Q:Hp→Prop):Prop:=
 ∃ W:Nat→Nat→List V→Hp→Prop,(∃ m,W 0 m [] (upd H1 D (.lst [])))∧∀ i m ys H,W i m ys H →
  (J.stop i H∧Q H)∨(J.go i H∧∀ v H',J.yld i H v H'→tc (some v::caps) H' fun b H2 =>
   if b=true then te (some v::caps) H2 fun y H3=>H3 D=some (.lst ys)∧ys.length<sizeLine∧∃ m',m'<m∧W (i+1) m' (ys++[y]) (upd H3 D (.lst (ys++[y])))
   else ∃ m',m'<m∧W (i+1) m' ys H2)
noncomputable def Hh (wi:TI)(te:TE)(tc:TT)(ix:List Nat):TE:=fun σ H Q=>wi σ H fun J H1=>∀ D,H1 D=none→Ds te tc (Dj σ ix) J D H1 fun H'=>Q (.ref D) H'
theorem BR {M:Model}{A:Around}{α:Type}{t:Sem α}{Q:α→Shared→Prop}{E:Value→Shared→Prop}{s:Shared}(h:wpAny M A t Q (fun _ _=>False) s):wpAny M A t Q E s:=wpAny_mono h (fun _ _ q=>q) fun _ _ z=>z.elim
section
variable {X:Cx} {pins:List (Addr×Obj)} {σ:St} {H:Hp} {s:Shared} {sc:Scope} {x:Str} {caps:List Str} {ix:List Nat}
theorem Qa {elt iter:Expr}{px pos:Pos}{ifs:List Expr}{te:TE}{tc:TT}{J:It}{fp:List Addr}{it:Addr}{tn:Nat→Heap→Prop}{QH:Addr→Hp→Prop}{RR:Value→Addr→Result→Shared→Prop}{E:Value→Shared→Prop}
  (hc:X.calm=true) (S:Ar X sc x caps ix) (he:∀ C s H ex,PE (Au X sc (As X caps) (x::caps) C s H ex) elt te) (ht:∀ C s H ex,PTs (Au X sc (As X caps) (x::caps) C s H ex) ifs tc)
  (I:Inv X pins σ H s) (T:S3 X.prog X.w X.K (.Name x px) J fp it tn) (st:tn 0 s.heap) (hf:∀ b∈fp,Le X pins H b) (h:∀ D,H D=none→Ds te tc (Dj σ ix) J D H (QH D))
  (hRR:∀ D C (ps:List (Addr×Obj)) σ' H' s',s.heap.objs.size≤C→Inv (Au X sc (As X caps) (x::caps) C s H fp) ps σ' H' s'→QH D H'→RR (.ref D) C (.ok .next) s') :
  wpAny (model X.prog X.w) X.A (newList []) (fun acc s₃=>wpAny (model X.prog X.w) X.A (newFunctionEnv sc X.env.globals (As X caps) [] X.env.qual none .none (some X.env)) (fun cenv s₄ =>
   codeAny (model X.prog X.w) X.A (.compStart (.ListComp elt [⟨.Name x px,iter,ifs,0⟩] sc pos) 0 (.ref it) acc { cenv with scope:=relabel sc X.env }) (RR acc cenv.locals) s₄) E s₃) E s:=by
 refine wpAny_newObj_type (wpAny_newFunctionEnv S.nocell (by intro y hy;simp at hy) (fun h₁ hns₁ hsb₁=>?_) S.kind)
 dsimp only at hns₁ hsb₁ ⊢
 generalize hH2:s.heap.push { cls:=.type "list",dict:=none,data:=.seq ([]:List Value).toArray }=H2 at hns₁ hsb₁ ⊢
 have hC:H2.objs.size=s.heap.objs.size+1:=by rw [← hH2,qP]
 have hDC:s.heap.objs.size≠H2.objs.size:=by rw [hC];exact ze (Nat.lt_succ_self _)
 have hCle:s.heap.objs.size≤H2.objs.size:=by rw [hC];exact Nat.le_succ _
 have below:∀ b,b<s.heap.objs.size→b≠H2.objs.size:=fun b hb=>by rw [hC];exact ze (Nat.lt_succ_of_lt hb)
 have old:∀ b o,s.heap.get? b=some o→h₁.get? b=some o:=fun b o e=>hsb₁.extBut b o (below b (zJ e)) (zA _ (hH2▸zA _ e))
 have hacc:h₁.get? s.heap.objs.size=some { cls:=.type "list",data:=.seq #[] 0 }:=hsb₁.extBut _ _ hDC (zA _ (hH2▸zT _ rfl))
 have hb:∀ b∈fp,b<s.heap.objs.size:=fun b hbf=>by obtain ⟨o,e,_⟩:=T.obj _ _ st b hbf;exact zJ e
 have I1:=S.start (tk:=s.toks+([]:List (Str×Value)).length) I hf hb (zL _) hCle hDC old hacc hns₁
 obtain ⟨W,⟨m0,w0⟩,turn⟩:=h _ (I.hok.fresh (zL _))
 have stat:∀ {H':Hp},(∀ b∈fp,H' b=none)→∀ b∈fp,Le (Au X sc (As X caps) (x::caps) H2.objs.size s H fp) [] H' b:=fun {H'} hn b hbf =>
  ⟨hn b hbf,(I1.ok.exf b hbf).1,I1.ok.exfs b hbf,.inl hbf,(I1.ok.exf b hbf).2,fun p hp=>absurd (show p∈([]:List (Addr×Obj)) from hp) (by simp)⟩
 have st1:tn 0 h₁:=T.keep _ _ _ st fun b hbf o e=>old b o e
 have fr1:∀ b∈fp,upd H s.heap.objs.size (.lst []) b=none:=fun b hbf=>by
  rw [AO (ze (hb b hbf))];exact (hf b hbf).1
 have loop:∀ s₃:Shared,s₃={ s with heap:=h₁,toks:=s.toks+([]:List (Str×Value)).length } →
   codeAny (model X.prog X.w) X.A (.compLoop (.ListComp elt [⟨.Name x px,iter,ifs,0⟩] sc pos) 0 (.ref it) (.ref s.heap.objs.size) (compEnvC sc (As X caps) H2.objs.size X.env))
    (RR (.ref s.heap.objs.size) H2.objs.size) s₃:=by
  rintro s₃ rfl
  refine Ov (fun n s'=>∃ i ys H' ov,Inv (Au X sc (As X caps) (x::caps) H2.objs.size s H fp) [] (ov::Dj σ ix) H' s'∧tn i s'.heap∧(∀ b∈fp,H' b=none)∧W i n ys H') rfl ?_ m0 ⟨0,[],_,none,I1,st1,fr1,w0⟩
  rintro n s3 ⟨i,ys,H3,ov,I3,st3,fr3,w3⟩
  rcases turn i n ys H3 w3 with ⟨stop,q⟩ | ⟨go,step⟩
  ·refine BR (thn (T.done (Au X sc (As X caps) (x::caps) H2.objs.size s H fp) rfl rfl rfl hc i [] s3 _ H3 _ I3 (stat fr3) st3 stop) fun r s4 zq=>?_)
   obtain ⟨hr,I4⟩:=zq
   subst hr
   exact hRR _ _ _ _ _ _ hCle I4 q
  ·refine BR (thn (T.item (Au X sc (As X caps) (x::caps) H2.objs.size s H fp) rfl rfl rfl hc i [] s3 _ H3 _ I3 (stat fr3) st3 go) fun r s4 zq=>?_)
   obtain ⟨u,hr,h4⟩:=zq
   subst hr
   refine BR (thn h4 fun _ s5 zq=>?_)
   obtain ⟨v,H5,I5,r5,y5,st5,fr5⟩:=zq
   have I5':=I5.pinned (stat fr5) (T.obj _ _ st5)
   have hg:PG (Au X sc (As X caps) (x::caps) H2.objs.size s H fp) (.Name x px) (EH 0):=Sw (i:=0) S.nd rfl (.inl (lookup_relabel_local S.hx)) (.inr (lookup_relabel_local S.hx))
   have again:∀ {s7:Shared} {H7:Hp} {ys':List V},Inv (Au X sc (As X caps) (x::caps) H2.objs.size s H fp) ([]++Lb fp s5.heap) (some v::Dj σ ix) H7 s7→(∃ m',m'<n∧W (i+1) m' ys' H7) →
     ∃ m,m<n∧∃ i ys H' ov,Inv (Au X sc (As X caps) (x::caps) H2.objs.size s H fp) [] (ov::Dj σ ix) H' s7∧tn i s7.heap∧(∀ b∈fp,H' b=none)∧W i m ys H':=fun {s7 H7 ys'} I7 ⟨m',hm,w7⟩=>by
    refine ⟨m',hm,i+1,ys',H7,some v,I7.unpinned,T.keep _ _ _ st5 fun b hb o e=>(I7.pin (b,o) (zd _ (zd _ (Ci hb e)))).1,fun b hb=>?_,w7⟩
    obtain ⟨o,e,d⟩:=T.obj _ _ st5 b hb
    exact (I7.pin (b,o) (zd _ (zd _ (Ci hb e)))).2.1
   refine BR (thn (hg _ s5 _ H5 v u (fun σ' H'=>σ'=some v::Dj σ ix∧H'=H5) I5' r5 ⟨rfl,rfl⟩) fun _ s6 zq=>?_)
   obtain ⟨σ6,H6,I6,e6,e6'⟩:=zq
   subst e6 e6'
   refine BR (thn (ht _ _ _ _ _ s6 _ H6 _ I6 (step v H6 y5)) fun ok s7 zq=>?_)
   obtain ⟨H7,I7,q7⟩:=zq
   cases ok with
   | false=>exact again I7 (by simpa using q7)
   | true =>
    rw [if_pos rfl] at q7
    rw [if_pos rfl]
    refine BR (thn (he _ _ _ _ _ s7 _ H7 _ I7 q7) fun yv s8 zq=>?_)
    obtain ⟨y,H8,I8,r8,hD8,hz8,q8⟩:=zq
    refine BR (thn (OA _ s8 _ H8 (.ref s.heap.objs.size) [y] _ [yv] (fun _ H9=>H9=upd H8 s.heap.objs.size (.lst (ys++[y]))) I8 rfl (.cons r8 .nil) ⟨_,_,_,rfl,rfl,hD8,hz8,rfl⟩) fun _ s9 zq=>?_)
    obtain ⟨_,H9,I9,_,e9⟩:=zq
    subst e9
    exact again I9 q8
 exact codeAny_compStart_list (loop _ rfl) (T.self _ 0 _ _ _ st1 (loop _ rfl))
theorem bJ (I:Inv X pins σ H s){C:Addr}(hC:s.heap.objs.size≤C){σ2:St}{H':Hp}{s'':Shared}{h'':Heap}(J:Inv X pins σ2 H' s'')(hn:H' C=none)(hs:Heap.SameBut C s''.heap h''):Inv X pins σ2 H' { s'' with heap:=h'' }:=by
 refine J.turned (t':=s''.toks) (it:=C) (fun b o hb e=>(hs.2 b hb).trans e) hn ?_ (.inr (zO I.sz hC)) (fun y c h z=>?_) fun p hp z=>?_
 ·exact qC (zM I.lt hC)
 ·obtain ⟨v,o,ho,_⟩:=I.cell y c h
  exact absurd (zM (zJ ho) (z▸hC)) (qF _)
 ·obtain ⟨e,_⟩:=I.pin p hp
  exact absurd (zM (zJ e) (z▸hC)) (qF _)
theorem Bj {elt iter:Expr}{px pos:Pos}{ifs:List Expr}{wi:TI}{te:TE}{tc:TT}(hc:X.calm=true)(S:Ar X sc x caps ix)(hi:PI X (.Name x px) iter wi)
  (he:∀ C s H ex,PE (Au X sc (As X caps) (x::caps) C s H ex) elt te) (ht:∀ C s H ex,PTs (Au X sc (As X caps) (x::caps) C s H ex) ifs tc)
  (hs:∀ x,foldedSetIterable iter X.env x=pure x:=by intro _;rfl):PE X (.ListComp elt [⟨.Name x px,iter,ifs,0⟩] sc pos) (Hh wi te tc ix):=by
 intro pins s σ H Q I h
 rw [eval_ListComp]
 refine wpAny_comprehension_free (use:=none) rfl hs S.clos S.kind S.names (thn (hi pins s σ H _ I h) fun v s1 h1=>thn h1 fun itv s2 h2=>?_)
 obtain ⟨it,fp,tn,J,H2,e,I2,T,st2,f2,q⟩:=h2
 subst e
 refine Qa (RR:=fun acc C=>compPost (model X.prog X.w) X.A X.xe none (EP X pins σ Q) acc C) (QH:=fun D H'=>Q (.ref D) H') hc S he ht I2 T st2 f2 q ?_
 intro D C ps σ' H' s' hC I' hq
 obtain ⟨m,hn,_⟩:=I'.loc
 exact ⟨m,hn,fun h'' hs=>⟨.ref D,H',S.back I2 f2 hC I' hs,rfl,hq⟩⟩
theorem MN {i:Nat}{y:Str}{py spos:Pos}{elt iter:Expr}{px pos:Pos}{ifs:List Expr}{wi:TI}{te:TE}{tc:TT}(hc:X.calm=true)(nd:X.N.Nodup)(hy:X.N[i]? = some y)(hl:Loc X.env.scope y)(S:Ar X sc x caps ix)(hi:PI X (.Name x px) iter wi)
  (he:∀ C s H ex,PE (Au X sc (As X caps) (x::caps) C s H ex) elt te) (ht:∀ C s H ex,PTs (Au X sc (As X caps) (x::caps) C s H ex) ifs tc)
  (hsw:swapsWith (.ListComp elt [⟨.Name x px,iter,ifs,0⟩] sc pos) (some (.Name y py)) spos.line X.env=pure true:=by rfl)
  (hs:∀ x,foldedSetIterable iter X.env x=pure x:=by intro _;rfl) (hf:X.fn y=true∨X.env.scope.names.lookup y=some .local:=by first | exact .inl rfl | exact .inr rfl | assumption) :
  PS X (.Assign [.Name y py] (.ListComp elt [⟨.Name x px,iter,ifs,0⟩] sc pos) spos) (Ry (Hh wi te tc ix) (EH i)):=by
 intro pins s σ H D I h
 rw [exec_Assign_Name_used _ _ _ _ hsw]
 refine wpAny_bind (wpAny_standAt (wpAny_bind ?_))
 show wpAny _ X.A (do let _ ← comprehension (.ListComp elt [⟨.Name x px,iter,ifs,0⟩] sc pos) sc X.env _ (newList []) false (eval iter X.env) (some (assign (.Name y py) X.env))) _ _ s
 refine wpAny_bind (wpAny_mono (wpAny_comprehension_free (use:=some (assign (.Name y py) X.env)) (Q:=fun _ s'=>SP X pins D .next s') rfl hs S.clos S.kind S.names
  (thn (hi pins s σ H _ I h) fun v s1 h1=>thn h1 fun itv s2 h2=>?_)) (fun _ s' hq=>wpAny_pure (wpAny_pure hq)) fun _ _ e=>e)
 obtain ⟨it,fp,tn,J,H2,e,I2,T,st2,f2,q⟩:=h2
 subst e
 refine Qa (RR:=fun acc C=>compPost (model X.prog X.w) X.A X.xe (some (assign (.Name y py) X.env)) (fun _ s'=>SP X pins D .next s') acc C) (QH:=fun L H'=>D.nx (σ.set i (some (.ref L))) H') hc S he ht I2 T st2 f2 q ?_
 intro L C ps σ' H' s' hC I' hq
 show wpAny _ X.A (assign (.Name y py) X.env (.ref L)) _ _ s'
 have J:=S.back I2 f2 hC I' (Heap.SameBut.refl ..)
 refine wpAny_assign_Name (R7 (v:=.ref L) (u:=.ref L) J nd hy hl rfl (fun s'' I'' ⟨a,hsb,ha⟩=>?_) hf)
 obtain ⟨m,hn,_⟩:=I'.loc
 have haC:C≠a:=by
  rcases ha with z | z
  ·rw [z];exact qC (zM I2.lt hC)
  ·obtain ⟨v,o,ho,_⟩:=I2.cell y a z
   exact qC (zM (zJ ho) hC)
 exact ⟨m,hn.sameBut hsb haC,fun h'' hs''=>⟨_,H',bJ I2 hC I'' I'.free hs'',hq⟩⟩
end
noncomputable def Mj (n i:Nat)(ys:List V)(D:Addr)(Pv:Nat→List V→Hp→Prop)(y:V)(H3:Hp):Prop:=
 H3 D=some (.lst ys)∧ys.length<sizeLine∧∃ m',m'<n-i∧m'=n-(i+1)∧i+1≤n∧(ys++[y]).length=i+1∧Pv (i+1) (ys++[y]) (upd H3 D (.lst (ys++[y])))
theorem Mj.of {n i:Nat}{ys:List V}{D:Addr}{Pv:Nat→List V→Hp→Prop}{y:V}{H3:Hp}(hn:n≤sizeLine)(hi:i<n)(hl:ys.length=i)(h1:H3 D=some (.lst ys))(h2:Pv (i+1) (ys++[y]) (upd H3 D (.lst (ys++[y])))):Mj n i ys D Pv y H3:=
 ⟨h1,by lia,_,by lia,rfl,hi,by rw [zD,hl];rfl,h2⟩
theorem KG {K:W.Frag}{a:Addr}{xs:List V}{te:TE}{caps:St}{D:Addr}{H1:Hp}{Q:Hp→Prop}(Pv:Nat→List V→Hp→Prop)(h0:Pv 0 [] (upd H1 D (.lst [])))(hl:∀ i ys H,i≤xs.length→Pv i ys H→SqL K H a xs)
  (hs:∀ i x ys H,xs[i]? = some x→ys.length=i→Pv i ys H→te (some x::caps) H (Mj xs.length i ys D Pv))
  (hd:∀ ys H,ys.length=xs.length→Pv xs.length ys H→Q H):Ds te EM caps (Itl K a) D H1 Q:=by
 refine ⟨fun i m ys H=>m=xs.length-i∧i≤xs.length∧ys.length=i∧Pv i ys H,⟨xs.length,rfl,zr _,rfl,h0⟩,?_⟩
 rintro i m ys H ⟨rfl,hi,hy,p⟩
 have q:=hl i ys H hi p
 by_cases hlt:i<xs.length
 ·refine .inr ⟨⟨xs,xs[i],q,by simp [hlt]⟩,fun v H' y=>?_⟩
  obtain ⟨e,y⟩:=y
  subst e
  unfold EM
  dsimp only
  rw [if_pos rfl]
  exact hs i v ys _ (y xs q) hy p
 ·have e:i=xs.length:=by lia
  subst e
  exact .inl ⟨⟨xs,q,by simp⟩,hd ys H hy p⟩
theorem Ee {K:W.Frag}{a:Addr}{xs:List V}{te:TE}{tc:TT}{caps:St}{D:Addr}{H1:Hp}{Q:Hp→Prop}(Pv:Nat→List V→Hp→Prop)(h0:Pv 0 [] (upd H1 D (.lst [])))(hl:∀ i ys H,i≤xs.length→Pv i ys H→SqL K H a xs)
  (hs:∀ i x ys H,xs[i]? = some x→Pv i ys H→tc (some x::caps) H fun b H2 =>
   if b=true then te (some x::caps) H2 fun y H3=>H3 D=some (.lst ys)∧ys.length<sizeLine∧∃ m',m'<xs.length-i∧m'=xs.length-(i+1)∧i+1≤xs.length∧Pv (i+1) (ys++[y]) (upd H3 D (.lst (ys++[y])))
   else ∃ m',m'<xs.length-i∧m'=xs.length-(i+1)∧i+1≤xs.length∧Pv (i+1) ys H2)
  (hd:∀ ys H,Pv xs.length ys H→Q H):Ds te tc caps (Itl K a) D H1 Q:=by
 refine ⟨fun i m ys H=>m=xs.length-i∧i≤xs.length∧Pv i ys H,⟨xs.length,rfl,zr _,h0⟩,?_⟩
 rintro i m ys H ⟨rfl,hi,p⟩
 have q:=hl i ys H hi p
 by_cases hlt:i<xs.length
 ·refine .inr ⟨⟨xs,xs[i],q,by simp [hlt]⟩,fun v H' y=>?_⟩
  obtain ⟨e,y⟩:=y
  subst e
  exact hs i v ys _ (y xs q) p
 ·have e:i=xs.length:=by lia
  subst e
  exact .inl ⟨⟨xs,q,by simp⟩,hd ys H p⟩
theorem AG.updFresh {H H3:Hp}{D:Addr}{o:HO}(s:AG H H3)(hD:H D=none):AG H (L2.upd H3 D o):=fun b u e=>by
 rw [AO (Af e hD)];exact s b u e
theorem K5 {K:W.Frag}{a:Addr}{xs:List V}{te:TE}{caps:St}{D:Addr}{H1:Hp}{Q:Hp→Prop}(hz:xs.length≤sizeLine)(hD:H1 D=none)(hl:SqL K H1 a xs)(f:V→V)
  (hs:∀ x H (R:VK),x∈xs→AG H1 H→R (f x) H→te (some x::caps) H R)
  (hd:∀ H,AG H1 H→H D=some (.lst (xs.map f))→Q H):Ds te EM caps (Itl K a) D H1 Q:=by
 refine KG (xs:=xs) (fun i ys H=>AG H1 H∧H D=some (.lst ys)∧ys=(xs.take i).map f) ⟨Ak hD,AM,rfl⟩ (fun _ _ H _ ⟨s1,_,_⟩=>s1.seq hl) ?_ ?_
 ·rintro i x ys H hx hy ⟨s1,e1,e2⟩
  have hi:i<xs.length:=(zC.mp hx).1
  refine hs x H _ (zW hx) s1 (Mj.of hz hi hy e1 ⟨s1.updFresh hD,AM,?_⟩)
  rw [List.take_succ,hx,zc,e2];rfl
 ·rintro ys H hy ⟨s1,e1,e2⟩
  rw [zj] at e2
  subst e2
  exact hd H s1 e1
open PySem.W
noncomputable def KOk (n:Nat)(lt:Nat→Nat→Bool){α:Type}:KasT α→(α→Prop)→Prop
 | .ret a,Q=>Q a
 | .ask i j k,Q=>i<n∧j<n∧KOk n lt (k (lt i j)) Q
theorem KOk.bind {n:Nat}{lt:Nat→Nat→Bool}{α β:Type}{f:α→KasT β}{Q:β→Prop}:∀ {t:KasT α},KOk n lt t (fun a=>KOk n lt (f a) Q)→KOk n lt (t.bind f) Q
 | .ret _,h=>h
 | .ask _ _ k,h=>⟨h.1,h.2.1,KOk.bind (t:=k _) h.2.2⟩
theorem KOk.mono {n:Nat}{lt:Nat→Nat→Bool}{α:Type}{Q Q':α→Prop}(hq:∀ a,Q a→Q' a):∀ {t:KasT α},KOk n lt t Q→KOk n lt t Q'
 | .ret _,h=>hq _ h
 | .ask _ _ k,h=>⟨h.1,h.2.1,KOk.mono hq (t:=k _) h.2.2⟩
theorem KOk.wp {n:Nat}{lt:Nat→Nat→Bool}{α:Type}{cmp:Nat→Nat→(Bool→Shared→Prop)→Shared→Prop}{Q:α→Shared→Prop}{s:Shared}(hc:∀ i j C,i<n→j<n→C (lt i j) s→cmp i j C s):∀ {t:KasT α},KOk n lt t (fun a=>Q a s)→t.kasWp cmp Q s
 | .ret _,h=>h
 | .ask i j k,h=>hc i j _ h.1 h.2.1 (KOk.wp hc (t:=k _) h.2.2)
structure STO (n:Nat)(lt:Nat→Nat→Bool):Prop where
 tri:∀ i j,i<n→j<n→i≠j→lt i j=true∨lt j i=true
 asym:∀ i j,lt i j=true→lt j i=false
 trans:∀ i j k,lt i j=true→lt j k=true→lt i k=true
section
variable {n:Nat} {lt:Nat→Nat→Bool} {p:Array Nat}
noncomputable def at0 (p:Array Nat)(i:Nat):Nat:=p.getD i 0
structure PR (n:Nat)(p:Array Nat):Prop where
 pm:p.Perm (List.range n).toArray
theorem PR.size (h:PR n p):p.size=n:=by simpa using h.pm.size_eq
theorem PR.bd (h:PR n p){i:Nat}(hi:i<n):at0 p i<n:=by
 have hs:=h.size
 have hm:p[i]'(by lia)∈p:=Array.getElem_mem _
 have:=(h.pm.mem_iff).mp hm
 have e:at0 p i=p[i]'(by lia):=by unfold at0;rw [zg,qN (by lia)];rfl
 rw [e]
 simpa using this
theorem PR.inj (h:PR n p){i j:Nat}(hi:i<n)(hj:j<n)(e:at0 p i=at0 p j):i=j:=by
 have hs:=h.size
 have hnd:p.toList.Nodup:=by
  have hp:p.toList.Perm (List.range n):=by simpa using Array.perm_iff_toList_perm.mp h.pm
  exact hp.nodup_iff.mpr List.nodup_range
 have ei:at0 p i=p.toList[i]'(by simpa using (by lia:i<p.size)):=by unfold at0;rw [zg,qN (by lia)];simp
 have ej:at0 p j=p.toList[j]'(by simpa using (by lia:j<p.size)):=by unfold at0;rw [zg,qN (by lia)];simp
 rw [ei,ej] at e
 exact (List.getElem_inj hnd).mp e
noncomputable def Srt (lt:Nat→Nat→Bool)(p:Array Nat)(k:Nat):Prop:=∀ i,i+1<k→lt (at0 p i) (at0 p (i+1))=true
noncomputable def Dsc (lt:Nat→Nat→Bool)(p:Array Nat)(k:Nat):Prop:=∀ i,i+1<k→lt (at0 p (i+1)) (at0 p i)=true
theorem Srt.all (S:STO n lt){k:Nat}(h:Srt lt p k):∀ {i j:Nat},i<j→j<k→lt (at0 p i) (at0 p j)=true:=by
 intro i j hij hj
 induction j with
 | zero=>lia
 | succ j ih =>
  by_cases e:i=j
  ·subst e;exact h i hj
  ·exact S.trans _ _ _ (ih (by lia) (by lia)) (h j hj)
theorem Vk (S:STO n lt)(hp:PR n p):∀ (f a:Nat),1≤a→a+f≤n→Srt lt p a→KOk n lt (kas_asc p f a) (fun m=>a≤m∧m≤a+f∧Srt lt p m∧(m<a+f→lt (at0 p m) (at0 p (m-1))=true))
 | 0,a,h1,h2,hs=>⟨zL _,zL _,hs,fun h=>by lia⟩
 | f+1,a,h1,h2,hs=>by
  refine ⟨hp.bd (i:=a) (by lia),hp.bd (i:=a-1) (by lia),?_⟩
  cases c:lt (p.getD a 0) (p.getD (a-1) 0) with
  | true=>exact ⟨zL _,by lia,hs,fun _=>c⟩
  | false =>
   have hs':Srt lt p (a+1):=fun i hi=>by
    by_cases e:i+1=a
    ·have e':i=a-1:=by lia
     subst e'
     rcases S.tri (at0 p (a-1)) (at0 p a) (hp.bd (by lia)) (hp.bd (by lia)) (fun z=>by have:=hp.inj (by lia) (by lia) z;lia) with z | z
     ·rw [show a-1+1=a by lia];exact z
     ·have z':lt (p.getD a 0) (p.getD (a-1) 0)=true:=z
      rw [c] at z';cases z'
    ·exact hs i (by lia)
   refine KOk.mono (fun m hm=>?_) (Vk S hp f (a+1) (by lia) (by lia) hs')
   exact ⟨by lia,by lia,hm.2.2.1,fun h=>hm.2.2.2 (by lia)⟩
theorem W8 (S:STO n lt)(hp:PR n p):∀ (f a:Nat),1≤a→a+f≤n→Dsc lt p a→KOk n lt (kas_desc f p a 0) (fun r=>r.1=p∧r.2.2=0∧a≤r.2.1∧r.2.1≤a+f∧Dsc lt p r.2.1)
 | 0,a,h1,h2,hs=>⟨rfl,rfl,zL _,zL _,hs⟩
 | f+1,a,h1,h2,hs=>by
  refine ⟨hp.bd (i:=a) (by lia),hp.bd (i:=a-1) (by lia),?_⟩
  cases c:lt (p.getD a 0) (p.getD (a-1) 0) with
  | true =>
   dsimp only
   rw [if_pos rfl,if_neg (by lia)]
   have hs':Dsc lt p (a+1):=fun i hi=>by
    by_cases e:i+1=a
    ·have e':i=a-1:=by lia
     subst e'
     rw [show a-1+1=a by lia];exact c
    ·exact hs i (by lia)
   refine KOk.mono (fun m hm=>?_) (W8 S hp f (a+1) (by lia) (by lia) hs')
   exact ⟨hm.1,hm.2.1,by lia,by lia,hm.2.2.2.2⟩
  | false =>
   dsimp only
   rw [if_neg (by simp)]
   refine ⟨hp.bd (i:=a-1) (by lia),hp.bd (i:=a) (by lia),?_⟩
   have d:lt (p.getD (a-1) 0) (p.getD a 0)=true:=by
    rcases S.tri (at0 p (a-1)) (at0 p a) (hp.bd (by lia)) (hp.bd (by lia)) (fun z=>by have:=hp.inj (by lia) (by lia) z;lia) with z | z
    ·exact z
    ·have z':lt (p.getD a 0) (p.getD (a-1) 0)=true:=z
     rw [c] at z';cases z'
   rw [d]
   dsimp only
   rw [if_pos rfl]
   exact ⟨rfl,rfl,zL _,Nat.le_add_right _ _,hs⟩
theorem YO (hp:PR n p){m k:Nat}(hm:m≤n)(hk:k<m):at0 (kas_rev p 0 m) k=at0 p (m-1-k):=by
 have hs:=hp.size
 unfold at0 kas_rev
 rw [zg,zg,getElem?_mirror_all (by lia),if_pos ⟨by lia,hk⟩]
 rw [show 0+m-1-k=m-1-k by lia]
theorem i6 (S:STO n lt)(hp:PR n p){m:Nat}(hm:m≤n)(h:Dsc lt p m):PR n (kas_rev p 0 m)∧Srt lt (kas_rev p 0 m) m:=by
 refine ⟨⟨(mirror_perm ..).trans hp.pm⟩,fun i hi=>?_⟩
 rw [YO hp hm (by lia),YO hp hm (by lia)]
 have:=h (m-1-(i+1)) (by lia)
 rw [show m-1-(i+1)+1=m-1-i by lia] at this
 exact this
theorem YF (S:STO n lt)(hp:PR n p){m:Nat}(h1:1≤m)(hm:m≤n)(h:Dsc lt p m):KOk n lt (kas_tail3 m n p) (fun r=>PR n r.2∧r.1≤n∧1≤r.1∧Srt lt r.2 r.1):=by
 obtain ⟨hp',hs⟩:=i6 S hp hm h
 refine KOk.bind (KOk.mono (fun k hk=>?_) (Vk S hp' (n-m) m h1 (by lia) hs))
 exact ⟨hp',by lia,by lia,hk.2.2.1⟩
theorem U2 (S:STO n lt)(hp:PR n p)(h2:2≤n)(h:lt (at0 p 1) (at0 p 0)=true):KOk n lt (kas_descPart 1 n p) (fun r=>PR n r.2∧r.1≤n∧1≤r.1∧Srt lt r.2 r.1):=by
 have hs:Dsc lt p 2:=fun i hi=>by
  have e:i=0:=by lia
  subst e;exact h
 refine KOk.bind (KOk.mono (fun r hr=>?_) (W8 S hp (n-(1+1)) (1+1) (by lia) (by lia) hs))
 obtain ⟨e1,e2,h3,h4,h5⟩:=hr
 rw [e2,if_neg (by lia),e1]
 exact YF S hp (by lia) (by lia) h5
theorem Zf (S:STO n lt)(hp:PR n p)(h2:2≤n):KOk n lt (kas_count n p) (fun r=>PR n r.2∧r.1≤n∧1≤r.1∧Srt lt r.2 r.1):=by
 refine KOk.bind (KOk.mono (fun m hm=>?_) (Vk S hp (n-1) 1 (zL _) (by lia) (fun i hi=>by lia)))
 obtain ⟨m1,m2,hs,hstop⟩:=hm
 by_cases e:m=n
 ·rw [if_pos (by simp [e])]
  exact ⟨hp,by lia,m1,hs⟩
 ·rw [if_neg (by simp [e])]
  by_cases e1:m>1
  ·rw [if_pos e1]
   refine ⟨hp.bd (i:=0) (by lia),hp.bd (i:=m-1) (by lia),?_⟩
   have c:lt (p.getD 0 0) (p.getD (m-1) 0)=true:=Srt.all S hs (i:=0) (j:=m-1) (by lia) (by lia)
   rw [c]
   dsimp only
   rw [if_pos rfl]
   exact ⟨hp,by lia,m1,hs⟩
  ·rw [if_neg e1]
   have e2:m=1:=by lia
   subst e2
   exact U2 S hp h2 (hstop (by lia))
theorem Px (S:STO n lt)(hp:PR n p){k:Nat}(hk:k<n)(hs:Srt lt p k):∀ (f l r:Nat),r-l≤f→l≤r→r≤k→(∀ i,i<l→lt (at0 p i) (at0 p k)=true)→(∀ i,r≤i→i<k→lt (at0 p k) (at0 p i)=true) →
  KOk n lt (kas_place p k f l r) (fun l=>l≤k∧(∀ i,i<l→lt (at0 p i) (at0 p k)=true)∧∀ i,l≤i→i<k→lt (at0 p k) (at0 p i)=true)
 | 0,l,r,h1,h2,h3,h4,h5=>⟨by lia,h4,fun i hi hik=>h5 i (by lia) hik⟩
 | f+1,l,r,h1,h2,h3,h4,h5=>by
  unfold kas_place
  by_cases e:l≥r
  ·rw [if_pos e]
   exact ⟨by lia,h4,fun i hi hik=>h5 i (by lia) hik⟩
  ·rw [if_neg e]
   refine ⟨hp.bd (i:=k) hk,hp.bd (i:=(l+r) / 2) (by lia),?_⟩
   have hmid:(l+r) / 2<r∧l≤(l+r) / 2:=by lia
   cases c:lt (p.getD k 0) (p.getD ((l+r) / 2) 0) with
   | true =>
    dsimp only
    rw [if_pos rfl]
    refine Px S hp hk hs f l ((l+r) / 2) (by lia) (by lia) (by lia) h4 fun i hi hik=>?_
    by_cases e2:i=(l+r) / 2
    ·subst e2;exact c
    ·exact S.trans _ _ _ c (Srt.all S hs (by lia) hik)
   | false =>
    dsimp only
    rw [if_neg (by simp)]
    have d:lt (at0 p ((l+r) / 2)) (at0 p k)=true:=by
     rcases S.tri (at0 p ((l+r) / 2)) (at0 p k) (hp.bd (by lia)) (hp.bd hk) (fun z=>by have:=hp.inj (by lia) hk z;lia) with z | z
     ·exact z
     ·have z':lt (p.getD k 0) (p.getD ((l+r) / 2) 0)=true:=z
      rw [c] at z';cases z'
    refine Px S hp hk hs f ((l+r) / 2+1) r (by lia) (by lia) h3 (fun i hi=>?_) h5
    by_cases e2:i=(l+r) / 2
    ·subst e2;exact d
    ·exact S.trans _ _ _ (Srt.all S hs (i:=i) (j:=(l+r) / 2) (by lia) (by lia)) d
theorem Sj (hp:PR n p){k l j:Nat}(hk:k<n)(hl:l≤k):at0 (bubble p k (k-l)) j=if j=l then at0 p k else if l<j∧j≤k then at0 p (j-1) else at0 p j:=by
 have hs:=hp.size
 unfold at0
 rw [zg,getElem?_bubble (by lia) (k-l) (by lia) j,show k-(k-l)=l by lia]
 repeat' split
 all_goals rw [zg]
theorem ZJ (S:STO n lt):∀ (f k:Nat) (p:Array Nat),PR n p→k+f=n→Srt lt p k→KOk n lt (kas_bin f p k) (fun q=>PR n q∧Srt lt q n)
 | 0,k,p,hp,hk,hs=>by
  have e:k=n:=by lia
  subst e
  exact ⟨hp,hs⟩
 | f+1,k,p,hp,hk,hs=>by
  refine KOk.bind (KOk.mono (fun l hl=>?_) (Px S hp (by lia) hs k 0 k (by lia) (by lia) (zL _) (fun i hi=>by lia) (fun i h1 h2=>by lia)))
  obtain ⟨h1,h2,h3⟩:=hl
  refine ZJ S f (k+1) _ ⟨(bubble_perm ..).trans hp.pm⟩ (by lia) fun i hi=>?_
  rw [Sj hp (by lia) h1,Sj hp (by lia) h1]
  by_cases c1:i+1<l
  ·rw [if_neg (by lia),if_neg (by lia),if_neg (by lia),if_neg (by lia)]
   exact hs i (by lia)
  ·by_cases c2:i+1=l
   ·rw [if_neg (by lia),if_neg (by lia),if_pos c2]
    exact h2 i (by lia)
   ·by_cases c3:i=l
    ·rw [if_pos c3,if_neg (by lia),if_pos (by lia),show i+1-1=i by lia]
     exact h3 i (by lia) (by lia)
    ·rw [if_neg c3,if_pos (by lia),if_neg (by lia),if_pos (by lia),show i+1-1=i by lia]
     have:=hs (i-1) (by lia)
     rw [show i-1+1=i by lia] at this
     exact this
theorem aY (S:STO n lt)(h2:2≤n):KOk n lt (kas_sort n) (fun q=>PR n q∧Srt lt q n):=by
 refine KOk.bind (KOk.mono (fun r hr=>?_) (Zf S ⟨Array.Perm.refl _⟩ h2))
 obtain ⟨h1,h3,h4,h5⟩:=hr
 by_cases e:r.1<n
 ·rw [if_pos e,show max r.1 1=r.1 by lia]
  exact ZJ S _ _ _ h1 (by lia) h5
 ·rw [if_neg e]
  exact ⟨h1, by have e2 : r.1 = n := by lia
                rw [← e2];exact h5⟩
end
section
variable {prog:Program} {w:World} {A:Around} {E:Value→Shared→Prop} {s:Shared}
noncomputable def FZ (vs:List Value)(p:Array Nat):List Value:=p.toList.map fun i=>vs.getD i Value.none
theorem Xm {vs:List Value}{p:Array Nat}(hp:PR vs.length p):(FZ vs p).length=vs.length:=by
 unfold FZ;rw [z0,Array.length_toList,hp.size]
theorem OZ {vs:List Value}(h:vs.length<2):FZ vs (List.range vs.length).toArray=vs:=by
 cases vs with
 | nil=>rfl
 | cons a r =>
  cases r with
  | nil=>rfl
  | cons b q=>simp only [zB] at h;lia
theorem Zn (vs:List Value):(vs.toArray.zip vs.toArray).map (·.2)=vs.toArray:=by
 apply Array.toList_inj.mp
 rw [Array.toList_map,Array.toList_zip]
 exact List.map_snd_zip (zL _)
theorem Yl {a:Addr}{vs:List Value}{n:Nat}{lt:Nat→Nat→Bool}{P:PySem.Fin→Shared→Prop}(ho:s.heap.get? a=some (seqObj "list" vs.toArray n))(S:STO vs.length lt)(h64:vs.length<64)
  (hc:2≤vs.length→∀ h':Heap,(∀ b o,b≠a→s.heap.get? b=some o→h'.get? b=some o)→∃ κ:SortKind,
   (∀ (R:SortKind→Shared→Prop),R κ { s with heap:=h' }→wpAny (model prog w) A (keyKind' vs.toArray) R (fun _ _=>False) { s with heap:=h' }) ∧
   ∀ i j (C:Bool→Shared→Prop),i<vs.length→j<vs.length→C (lt i j) { s with heap:=h' }→wpAny (model prog w) A (keyLt' κ (vs.getD i Value.none) (vs.getD j Value.none)) C (fun _ _=>False) { s with heap:=h' })
  (h:∀ (h':Heap) (p:Array Nat) (c:Nat),(∀ b o,b≠a→s.heap.get? b=some o→h'.get? b=some o)→h'.get? a=some (seqObj "list" (FZ vs p).toArray c)→PR vs.length p→Srt lt p vs.length→P (.done (.ret .none)) { s with heap:=h' }) :
  wpAny (model prog w) A (Builtin.«list.sort» ⟨[.ref a],[]⟩) P E s:=by
 have ha:a<s.heap.objs.size:=zJ ho
 have s1:=Heap.SameBut.update s.heap a (Obj.mapSeq fun _=>(#[]:Array Value))
 obtain ⟨e1,ho1⟩:∃ e1,(s.heap.update a (Obj.mapSeq fun _=>(#[]:Array Value))).get? a=some (seqObj "list" #[] e1):=⟨_,get?_update_seq ho fun _=>#[]⟩
 rw [list_sort_plain]
 refine wpAny_bind (listItems_at ho rfl ?_)
 refine wpAny_bind (listUpdate_at ho rfl ?_ (by rw [zQ,sizeLine_eq];lia) (zr _))
 refine wpAny_bind (seqEpoch_at ho1 rfl ?_)
 refine wpAny_bind (wpAny_newTuple ?_ (by show vs.length≤_;rw [sizeLine_eq];lia))
 refine wpAny_bind (wpAny_newList ?_ (zr _))
 refine wpAny_holding ?_
 generalize hH:((s.heap.update a (Obj.mapSeq fun _=>(#[]:Array Value))).push (seqObj "tuple" vs.toArray 0)).push (seqObj "list" #[] 0)=H3
 show wpAny (model prog w) A _ P E { s with heap:=H3 }
 dsimp only
 have keep3:∀ b o,b≠a→s.heap.get? b=some o→H3.get? b=some o:=fun b o hb e=>by
  rw [← hH];exact zA _ (zA _ ((s1.2 b hb).trans e))
 have at3:H3.get? a=some (seqObj "list" #[] e1):=by rw [← hH];exact zA _ (zA _ ho1)
 have fin:∀ (p:Array Nat),PR vs.length p→Srt lt p vs.length→P (.done (.ret .none)) { s with heap:=H3.update a (Obj.mapSeq fun _=>(FZ vs p).toArray) }:=fun p hp hs=>by
  obtain ⟨c2,hc2⟩:∃ c2,(H3.update a (Obj.mapSeq fun _=>(FZ vs p).toArray)).get? a=some (seqObj "list" (FZ vs p).toArray c2):=⟨_,get?_update_seq at3 fun _=>(FZ vs p).toArray⟩
  exact h _ p c2 (fun b o hb e=>((Heap.SameBut.update H3 a _).2 b hb).trans (keep3 b o hb e)) hc2 hp hs
 by_cases h2:vs.toArray.size<2
 ·rw [if_pos h2,if_pos h2]
  have hl2:vs.length<2:=by simpa using h2
  refine wpAny_bind (wpAny_pure ?_)
  rw [StateT.run_pure]
  refine wpAny_bind (wpAny_pure ?_)
  dsimp only
  refine wpAny_bind (seqEpoch_at at3 rfl ?_)
  have ez:((vs.toArray.zip vs.toArray).map (·.2))=(FZ vs (List.range vs.length).toArray).toArray:=by
   rw [OZ hl2]
   exact Zn vs
  show wpAny _ _ (Builtin.List.listUpdate (.ref a) (fun _=>(vs.toArray.zip vs.toArray).map (·.2)) >>= _) _ _ _
  rw [ez]
  refine wpAny_bind (listUpdate_at at3 rfl ?_ (zr _) (by show (FZ vs (List.range vs.length).toArray).toArray.size≤_;rw [OZ hl2,zQ,sizeLine_eq];lia))
  simp only [bne_self_eq_false,qE,if_false]
  exact wpAny_pure (fin _ ⟨Array.Perm.refl _⟩ fun i hi=>by lia)
 ·rw [if_neg h2,if_neg h2]
  have hl2:2≤vs.length:=by simpa using h2
  obtain ⟨κ,k1,k2⟩:=hc hl2 H3 keep3
  refine wpAny_bind (wpAny_mono (k1 (fun κ' s'=>κ'=κ∧s'={ s with heap:=H3 }) ⟨rfl,rfl⟩) ?_ fun _ _ x=>x.elim)
  rintro κ' s' ⟨rfl,rfl⟩
  refine wpAny_bind (wpAny_mono (kat_run (Q:=fun st' s'=>∃ p:Array Nat,arrOf st'=p.map (kas_item (vs.toArray.zip vs.toArray))∧failedOf st'=none∧PR vs.length p∧Srt lt p vs.length∧s'={ s with heap:=H3 })
   (G:=fun p s'=>PR vs.length p∧Srt lt p vs.length∧s'={ s with heap:=H3 }) rfl hl2 h64 (fun p' st' s' a1 a2 a3 a4=>⟨p',a2,a3,a4⟩)
   (KOk.wp (fun i j C hi hj q=>k2 i j C hi hj q) (KOk.mono (fun q hq=>⟨hq.1,hq.2,rfl⟩) (aY S hl2)))) ?_ fun _ _ e=>e)
  rintro ⟨⟨⟩,st'⟩ s' ⟨p,har,hf,hp,hs,rfl⟩
  dsimp only
  refine wpAny_bind (seqEpoch_at at3 rfl ?_)
  have hout:(arrOf st').map (·.2)=(FZ vs p).toArray:=kat_snds rfl har
  rw [hout]
  refine wpAny_bind (listUpdate_at at3 rfl ?_ (zr _) (by show (FZ vs p).toArray.size≤_;rw [zQ,Xm hp,sizeLine_eq];lia))
  rw [hf]
  simp only [bne_self_eq_false,qE,if_false]
  exact wpAny_pure (fin p hp hs)
theorem Xq {l:Addr}{vs:List Value}{lt:Nat→Nat→Bool}{Q:Value→Shared→Prop}(hl:s.heap.IsList l vs.toArray)(S:STO vs.length lt)(h64:vs.length<64)
  (hc:2≤vs.length→∀ h':Heap,(∀ b o,s.heap.get? b=some o→h'.get? b=some o)→∃ κ:SortKind,
   (∀ (R:SortKind→Shared→Prop),R κ { s with heap:=h' }→wpAny (model prog w) A.in1.in1 (keyKind' vs.toArray) R (fun _ _=>False) { s with heap:=h' }) ∧
   ∀ i j (C:Bool→Shared→Prop),i<vs.length→j<vs.length→C (lt i j) { s with heap:=h' }→wpAny (model prog w) A.in1.in1 (keyLt' κ (vs.getD i Value.none) (vs.getD j Value.none)) C (fun _ _=>False) { s with heap:=h' })
  (h:∀ (D:Addr) (h':Heap) (p:Array Nat) (c:Nat),s.heap.objs.size≤D→(∀ b o,s.heap.get? b=some o→h'.get? b=some o)→h'.get? D=some (seqObj "list" (FZ vs p).toArray c)→PR vs.length p→Srt lt p vs.length→Q (.ref D) { s with heap:=h' }) :
  wpAny (model prog w) A (call (.builtin "sorted") [.ref l]) Q E s:=by
 refine Calls.call_function_entry kind_sorted plain_sorted entry_sorted (args_sorted1 _) ?_
 unfold Builtin.«sorted»
 refine wpAny_bind (m:=checkCount "sorted" 1 1 _) (wpAny_pure ?_)
 refine wpAny_bind (collect_list hl ?_ (by rw [sizeLine_eq];lia))
 refine wpAny_bind (wpAny_newList ?_ (by rw [sizeLine_eq];lia))
 have hsz:((s.heap.push (seqObj "list" #[] 0)).update s.heap.objs.size (Obj.mapSeq (·++vs.toArray))).objs.size=s.heap.objs.size+1:=by
  rw [Heap.size_update,size_push']
 have hoL:(((s.heap.push (seqObj "list" #[] 0)).update s.heap.objs.size (Obj.mapSeq (·++vs.toArray))).push (seqObj "list" vs.toArray 0)).get? (s.heap.objs.size+1)=some (seqObj "list" vs.toArray 0):=by
  rw [← hsz];exact zT _ rfl
 have keep:∀ b o,s.heap.get? b=some o→(((s.heap.push (seqObj "list" #[] 0)).update s.heap.objs.size (Obj.mapSeq (·++vs.toArray))).push (seqObj "list" vs.toArray 0)).get? b=some o:=fun b o q=>by
  have hlt:b<s.heap.objs.size:=zJ q
  rw [Heap.get?_push_ne _ _ _ (by rw [hsz];exact ze (Nat.lt_succ_of_lt hlt)),Heap.get?_update_ne _ _ _ _ (ze hlt),Heap.get?_push_ne _ _ _ (ze hlt)]
  exact q
 show wpAny _ _ _ _ _ { s with heap:=((s.heap.push (seqObj "list" #[] 0)).update s.heap.objs.size (Obj.mapSeq (·++vs.toArray))).push (seqObj "list" vs.toArray 0) }
 rw [hsz]
 have ne:∀ b o,s.heap.get? b=some o→b≠s.heap.objs.size+1:=fun b o q=>ze (Nat.lt_succ_of_lt (zJ q))
 refine wpAny_bind (wpAny_holding (wpAny_call_entry slot_list_sort ⟨_,hoL,rfl⟩ entry_list_sort ?body (args_list_sort _)))
 case body =>
  refine Yl (s:={ s with heap:=((s.heap.push (seqObj "list" #[] 0)).update s.heap.objs.size (Obj.mapSeq (·++vs.toArray))).push (seqObj "list" vs.toArray 0) }) hoL S h64
   (fun h2 h' k=>hc h2 h' fun b o q=>k b o (ne b o q) (keep b o q)) fun h' p c k hat hp hs=>?_
  exact ⟨_,rfl,wpAny_pure ⟨_,rfl,h _ h' p c (Nat.le_succ _) (fun b o q=>k b o (ne b o q) (keep b o q)) hat hp hs⟩⟩
end
theorem U3:∀ {a b:List Int},HT.lexLt a b=true→HT.lexLt b a=false
 | [],[],h=>by cases h
 | [],_::_,_=>rfl
 | _::_,[],h=>by cases h
 | x::r,y::t,h=>by
  rw [HT.lexLt_cons] at h ⊢
  by_cases e:x=y
  ·rw [if_pos e] at h;rw [if_pos e.symm];exact U3 h
  ·rw [if_neg e] at h;rw [if_neg (Ne.symm e)]
   have:=zH h
   exact zh (by lia)
theorem SD:∀ {a b c:List Int},HT.lexLt a b=true→HT.lexLt b c=true→HT.lexLt a c=true
 | [],_,[],_,h=>by rename_i b _;cases b<;>cases h
 | [],_,_::_,_,_=>rfl
 | _::_,[],_,h,_=>by cases h
 | _::_,_::_,[],_,h=>by cases h
 | x::r,y::t,z::u,h1,h2=>by
  rw [HT.lexLt_cons] at h1 h2 ⊢
  by_cases e1:x=y
  ·rw [if_pos e1] at h1
   by_cases e2:y=z
   ·rw [if_pos e2] at h2;rw [if_pos (e1.trans e2)];exact SD h1 h2
   ·rw [if_neg e2] at h2;rw [if_neg (by lia),e1];exact h2
  ·rw [if_neg e1] at h1
   by_cases e2:y=z
   ·rw [if_neg (by lia),← e2];exact h1
   ·rw [if_neg e2] at h2
    have d1:=zH h1
    have d2:=zH h2
    rw [if_neg (by lia)]
    exact zE (by lia)
theorem W6:∀ {a b:List Int},a≠b→HT.lexLt a b=true∨HT.lexLt b a=true
 | [],[],h=>absurd rfl h
 | [],_::_,_=>.inl rfl
 | _::_,[],_=>.inr rfl
 | x::r,y::t,h=>by
  rw [HT.lexLt_cons,HT.lexLt_cons]
  by_cases e:x=y
  ·rw [if_pos e,if_pos e.symm]
   exact W6 fun z=>h (by rw [e,z])
  ·rw [if_neg e,if_neg (Ne.symm e)]
   rcases (by lia:x<y∨y<x) with z | z
   ·exact .inl (zE z)
   ·exact .inr (zE z)
theorem Zj {ts:List (List Int)}(h:ts.Nodup):STO ts.length (fun i j=>HT.lexLt (ts.getD i []) (ts.getD j [])) where
 tri:=fun i j hi hj hij=>W6 fun z=>hij ((List.getElem_inj h).mp (by simpa [zR,hi,hj] using z))
 asym:=fun _ _=>U3
 trans:=fun _ _ _=>SD
section
variable {prog:Program} {w:World} {A:Around} {s:Shared}
theorem Oh {Q:Bool→Shared→Prop}:∀ {t1 t2:List Int} {us ws:List Value} (i:Nat) (fin:Bool),An (t1.map V.int) us→An (t2.map V.int) ws→fin=decide (t1.length<t2.length)→Q (HT.lexLt t1 t2) s →
  KatLex prog w A true fin Q (us.zip ws) i s
 | [],[],us,ws,i,fin,r1,r2,hf,q=>by
  cases r1;cases r2
  rw [hf];exact q
 | [],_::_,us,ws,i,fin,r1,r2,hf,q=>by
  cases r1
  rw [hf];exact q
 | x::t1,[],us,ws,i,fin,r1,r2,hf,q=>by
  cases r2
  have e:us.zip ([]:List Value)=[]:=by cases us<;>rfl
  rw [e,hf];exact q
 | x::t1,y::t2,us,ws,i,fin,r1,r2,hf,q=>by
  cases r1 with
  | cons ra rb =>
   cases r2 with
   | cons rc rd =>
    obtain ⟨k1,rfl⟩:=ra
    obtain ⟨k2,rfl⟩:=rc
    refine kat_cons (wpAny_eqBool_int ?_)
    rw [HT.lexLt_cons] at q
    by_cases e:x=y
    ·rw [if_pos e] at q
     have e2:(x == y)=true:=by simpa using e
     rw [e2]
     refine kat_yes (Oh (i+1) fin rb rd ?_ q)
     rw [hf];simp
    ·rw [if_neg e] at q
     have e2:(x == y)=false:=by simpa using e
     rw [e2]
     refine kat_no ?_
     cases i with
     | zero=>exact oneLt_int q
     | succ i=>exact kat_one _ _ (lt_int (show W.BoolBack Q (.bool (decide (x<y))) s from q))
end
section
variable {X:Cx}
theorem SE:∀ {zs:List (Addr×List Int)} {us:List Value},An (zs.map fun z=>V.ref z.1) us→us=zs.map fun z=>Value.ref z.1
 | [],_,r=>by cases r;rfl
 | z::zs,_,r=>by
  cases r with
  | cons ra rb =>
   cases ra
   rw [SE rb];rfl
theorem Uz {h:Heap}{K:W.Frag}{M:Model}:∀ {zs:List (Addr×List Int)},(∀ z∈zs,z.2≠[]∧∃ its:List Value,An (z.2.map V.int) its∧IsTup h z.1 its.toArray) →
  ∃ fs:List Value,KatTups h (zs.map fun z=>Value.ref z.1) fs∧fs.length=zs.length∧∀ v∈fs,∃ i t,v=Value.int i t
 | [],_=>⟨[],.nil,rfl,fun _ hv=>absurd hv (by simp)⟩
 | z::zs,hz=>by
  obtain ⟨fs,h1,h2,h3⟩:=Uz (h:=h) (K:=K) (M:=M) (zs:=zs) fun y hy=>hz y (zK _ hy)
  obtain ⟨hne,its,rv,o,ho,hc,n,hd⟩:=hz z zP
  obtain ⟨a,t⟩:=z
  cases t with
  | nil=>exact absurd rfl hne
  | cons x t =>
   cases rv with
   | cons ra rb =>
    obtain ⟨tk,rfl⟩:=ra
    refine ⟨.int x tk::fs,KatTups.cons ho hc hd (by simp) h1,by rw [zB,zB,h2],fun v hv=>?_⟩
    rcases zF.mp hv with rfl | hv
    ·exact ⟨x,tk,rfl⟩
    ·exact h3 v hv
noncomputable def F5 (K:W.Frag):List V→Hp→VK→Prop:=fun xs H Q=>∃ l,xs=[.ref l]∧∃ zs:List (Addr×List Int),SqL K H l (zs.map fun z=>V.ref z.1)∧(∀ z∈zs,z.2≠[]∧SqT K H z.1 (z.2.map V.int))∧(zs.map (·.2)).Nodup∧zs.length<64 ∧
 ∀ (D:Addr) (H':Hp) (zs':List (Addr×List Int)),H D=none→AG H H'→H' D=some (.lst (zs'.map fun z=>V.ref z.1))→zs'.Perm zs→zs'.Pairwise (fun a b=>HT.lexLt a.2 b.2=true)→Q (.ref D) H'
theorem VI {zs:List (Addr×List Int)}{i:Nat}(hi:i<zs.length):(zs.map fun z=>Value.ref z.1).getD i Value.none=Value.ref (zs[i]).1:=by
 rw [zR,zN,z9 hi];rfl
noncomputable def PD {α:Type}(d:α)(xs:List α)(p:Array Nat):List α:=p.toList.map fun i=>xs.getD i d
theorem Xp {α:Type}(d:α)(xs:List α){p:Array Nat}(hp:PR xs.length p):(PD d xs p).Perm xs:=by
 have h1:p.toList.Perm (List.range xs.length):=by simpa using Array.perm_iff_toList_perm.mp hp.pm
 have h2:=h1.map fun i=>xs.getD i d
 have h3:((List.range xs.length).map fun i=>xs.getD i d)=xs:=by
  refine List.ext_getElem (by simp) fun i h1 h2=>?_
  simp [zR]
  rw [z9 h2];rfl
 rw [h3] at h2
 exact h2
theorem ZP {α β:Type}(d:α)(e:β)(f:α→β)(xs:List α){p:Array Nat}(hp:PR xs.length p):PD e (xs.map f) p=(PD d xs p).map f:=by
 unfold PD
 rw [zp]
 refine List.map_congr_left fun i hi=>?_
 have hi':i<xs.length:=by
  have:=(hp.pm.mem_iff).mp (Array.mem_toList_iff.mp hi)
  simpa using this
 show (xs.map f).getD i e=f (xs.getD i d)
 rw [zR,zR,zN,z9 hi'];rfl
theorem Wl {α:Type}(d:α)(xs:List α){p:Array Nat}{k:Nat}(hk:k<(PD d xs p).length):(PD d xs p)[k]=xs.getD (at0 p k) d:=by
 have hk':k<p.size:=by simpa [PD] using hk
 have e:(PD d xs p)[k]? = some (xs.getD (at0 p k) d):=by
  unfold PD at0
  rw [zN,Array.getElem?_toList,zg,qN hk'];rfl
 rw [z9 hk] at e
 exact zV e
theorem TF:Cm X (.builtin "sorted") (F5 X.K):=by
 intro pins s σ H xs us Q I r h
 obtain ⟨l,rfl,zs,hl,ht,nd,h64,q⟩:=h
 obtain ⟨u,rfl,ru⟩:=vals1 r
 cases ru
 obtain ⟨its,rv,pl,hz⟩:=I.list hl
 have ei:=SE rv
 subst ei
 have hlen:(zs.map fun z=>Value.ref z.1).length=zs.length:=z0 _
 have S:STO (zs.map fun z=>Value.ref z.1).length (fun i j=>HT.lexLt ((zs.map (·.2)).getD i []) ((zs.map (·.2)).getD j [])):=by
  rw [hlen]
  have:=Zj nd
  rw [z0] at this
  exact this
 refine Xq pl.isList S (by rw [hlen];exact h64) (fun h2 h' kp=>?_) fun D h' p c hD kp hat hp hs=>?_
 ·have tups:∀ z∈zs,z.2≠[]∧∃ its:List Value,An (z.2.map V.int) its∧IsTup h' z.1 its.toArray:=fun z hz=>by
   obtain ⟨n1,n2⟩:=ht z hz
   obtain ⟨its,r1,⟨o,ho,hc⟩,_⟩:=I.tuple n2
   exact ⟨n1,its,r1,o,kp _ _ ho,hc⟩
  obtain ⟨fs,t1,t2,t3⟩:=Uz (K:=X.K) (M:=model X.prog X.w) tups
  refine ⟨tuples' (Value.type "int" != Value.type "tuple"),fun R hR=>?_,fun i j C hi hj hC=>?_⟩
  ·refine kat_kind t1 (by rw [t2];rw [hlen] at h2;lia) (fun v hv=>?_) (by decide) hR
   obtain ⟨i,t,rfl⟩:=t3 v hv
   exact .of_pure rfl
  ·rw [hlen] at hi hj
   rw [VI hi,VI hj]
   obtain ⟨_,i1,r1,o1,ho1,_,n1,hd1⟩:=tups zs[i] (zY hi)
   obtain ⟨_,i2,r2,o2,ho2,_,n2,hd2⟩:=tups zs[j] (zY hj)
   have eb:(Value.type "int" != Value.type "tuple")=true:=by decide
   rw [eb]
   have l1:=r1.length
   have l2:=r2.length
   rw [z0] at l1 l2
   refine kat_lt ho1 hd1 ho2 hd2 ?_
   refine Oh 0 _ r1 r2 ?_ ?_
   ·simp [l1,l2]
   ·have g1:(zs.map (·.2)).getD i []=zs[i].2:=by rw [zR,zN,z9 hi];rfl
    have g2:(zs.map (·.2)).getD j []=zs[j].2:=by rw [zR,zN,z9 hj];rfl
    rw [g1,g2] at hC
    exact hC
 ·rw [hlen] at hp hs
  have hfr:H D=none:=I.hok.fresh hD
  have eo:FZ (zs.map fun z=>Value.ref z.1) p=(PD ((0:Addr),([]:List Int)) zs p).map fun z=>Value.ref z.1:=ZP (0,[]) Value.none (fun z:Addr×List Int=>Value.ref z.1) zs hp
  have ep:=Xp ((0:Addr),([]:List Int)) zs hp
  have rel:∀ ys:List (Addr×List Int),An (ys.map fun z=>V.ref z.1) (ys.map fun z=>Value.ref z.1):=fun ys=>by
   induction ys with
   | nil=>exact .nil
   | cons y ys ih=>exact .cons rfl ih
  have I2:Inv X pins σ (upd H D (.lst ((PD ((0:Addr),([]:List Int)) zs p).map fun z=>V.ref z.1))) { s with heap:=h' }:=by
   refine I.laid (t':=s.toks) kp hD ⟨by rw [z0,ep.length_eq,PySem.sizeLine_eq];lia,_,c,rel _,?_⟩
   rw [hat,eo]
  refine ⟨.ref D,_,I2,rfl,q D _ _ hfr (Ak hfr) AM ep ?_⟩
  refine List.pairwise_iff_getElem.mpr fun i j hi hj hij=>?_
  have hpl:(PD ((0:Addr),([]:List Int)) zs p).length=zs.length:=ep.length_eq
  rw [Wl,Wl]
  have:=Srt.all (n:=zs.length) (by rw [hlen] at S;exact S) hs hij (by lia)
  have g:∀ k,k<zs.length→(zs.map (·.2)).getD (at0 p k) []=(zs.getD (at0 p k) (0,[])).2:=fun k hk=>by
   have:=hp.bd hk
   rw [zR,zR,zN,z9 this];rfl
  rw [g i (by lia),g j (by lia)] at this
  exact this
end
theorem DL:bootBuiltins "sorted"=some (.builtin "sorted"):=by decide +kernel
section
variable {X:Cx} {pos:Pos}
noncomputable def GA:TE:=fun _ H Q=>∀ p H',H p=none→AG H H'→H' p=some (.dK [])→Q (.ref p) H'
theorem YK:PE X (.Dict [] [] pos) GA:=fun pins s σ H Q I h=>Zb pins s σ H Q I fun p hp=>h p _ hp (Ak hp) AM
end
section
variable {X:Cx} {o e:Expr} {to te:TE} {pos:Pos}
theorem PE.weak {e:Expr}{t t':TE}(h:PE X e t)(m:∀ σ H Q,t' σ H Q→t σ H Q):PE X e t':=fun pins s σ H Q I q=>h pins s σ H Q I (m σ H Q q)
noncomputable def De (to te:TE):TE:=fun σ H Q=>to σ H fun x H1=>∃ l,x = .ref l∧∃ xs,H1 l=some (.lst xs)∧te σ H1 fun y H2=>∃ ys,H2 l=some (.lst ys)∧ys.length<sizeLine∧Q .non (upd H2 l (.lst (ys++[y])))
end
theorem aP {H:Hp}{p l:Addr}{xs:List V}{o u:HO}(h:H p=some (.tup xs))(hl:H l=some o)(hm:∀ ys,o≠.tup ys):L2.upd H l u p=some (.tup xs):=by
 rw [AO (IA h hl (Ne.symm (hm _)))];exact h
section
variable {X:Cx} {o e:Expr} {to te:TE} {pos apos cpos:Pos}
noncomputable def tMono (t:TE):TE:=fun σ H Q=>∃ P:VK,t σ H P∧∀ v H',P v H'→Q v H'
theorem PE.mono {t:TE}(h:PE X e t):PE X e (tMono t):=fun pins s σ H Q I ⟨P,h1,h2⟩ =>
 thn (h pins s σ H P I h1) fun u s1 ⟨v,H1,I1,r1,q1⟩=>⟨v,H1,I1,r1,h2 v H1 q1⟩
theorem DT (ho:PE X o to)(he:PE X e te)
  (hbase:attributeBase o "append" X.env (eval o X.env)=eval o X.env:=by rfl)
  (hfew:((backTo cpos (starEach [e] X.env)).all (fun x=>!x.1) && (backToKw cpos (keywordEach [] X.env)).all (fun x=>x.1.isSome)
   && decide ([e].length+([]:List Keyword).length+(if ([]:List Keyword).isEmpty then 0 else 1)<30))=true:=by rfl)
  (hline:(apos.endLine == cpos.line)=true:=by rfl) (hs:starEach [e] X.env=(false,eval e X.env)::starEach [] X.env:=by rfl) (hplain:(backTo cpos (starEach [] X.env)).any (·.1)=false:=by rfl) :
  PE X (.Call (.Attribute o "append" apos) [e] [] cpos) (De to te):=
 PE.weak (CY PySem.F.plainAttrs_list PySem.F.slot_list_append PySem.F.type_list_append OA ho.mono (AA he.mono AB hs) hbase hfew hline hs hplain) fun σ H Q h=>by
  refine ⟨_,h,fun x H1 h1=>?_⟩
  obtain ⟨l,rfl,xs,e1,h1⟩:=h1
  refine ⟨.inl ⟨rfl,xs,SqL.of e1⟩,_,h1,fun y H2 h2=>?_⟩
  obtain ⟨ys,e2,hz,q⟩:=h2
  exact ⟨l,ys,y,rfl,rfl,e2,hz,q⟩
end
section
variable {X:Cx} {pos:Pos}
noncomputable def tPar3 (i j k:Nat)(ta:TA):TS:=fun D σ H=>ta σ H fun vs H1=>∃ v w u,vs=[v,w,u]∧D.nx (((σ.set i (some v)).set j (some w)).set k (some u)) H1
end
section
variable {X:Cx}
noncomputable def rEqT (K:W.Frag):R2:=fun x y H Q=>∃ a b,x = .ref a∧y = .ref b∧∃ ns:List Int,SqT K H a (ns.map V.int)∧∃ ms:List Int,SqT K H b (ms.map V.int)∧Q (.bl (decide (ns=ms))) H
noncomputable def rNeT (K:W.Frag):R2:=fun x y H Q=>∃ a b,x = .ref a∧y = .ref b∧∃ ns:List Int,SqT K H a (ns.map V.int)∧∃ ms:List Int,SqT K H b (ms.map V.int)∧Q (.bl (!decide (ns=ms))) H
noncomputable def rEqL0 (K:W.Frag):R2:=fun x y H Q=>∃ a b,x = .ref a∧y = .ref b∧∃ xs,SqL K H a xs∧SqL K H b []∧Q (.bl (decide (xs=[]))) H
theorem G1 {K:W.Frag}(h:X.K=K):IxR X (QF K):=h▸AL
noncomputable def Rf (K:W.Frag):V→Option Int→Option Int→Hp→VK→Prop:=fun x lo hi H Q=>∃ a,x = .ref a∧∃ xs,SqL K H a xs∧∀ p H',H p=none→AG H H'→H' p=some (.lst (Nh xs lo hi))→Q (.ref p) H'
theorem Et:SlR X (Rf X.K):=fun pins s σ H x v vl vu lo hi sl Q I rx hs pl pu ⟨a,e,xs,h,q⟩=>aX pins s σ H x v vl vu lo hi sl Q I rx hs pl pu ⟨a,xs,e,h,fun p hp=>q p _ hp (Ak hp) AM⟩
theorem KB {xs:List V}{i:Nat}:Nh xs (some (i:Int)) none=xs.drop i:=by
 unfold Nh
 rw [HT.sIx_nat,HT.sIx_none]
 by_cases h:i≤xs.length
 ·rw [Nat.min_eq_left h,qL (by rw [zo];lia)]
 ·rw [Nat.min_eq_right (by lia),Nat.sub_self,List.take_zero,List.drop_eq_nil_of_le (by lia)]
end
section
variable {X:Cx} {pins:List (Addr×Obj)} {σ:St} {H:Hp} {s:Shared} {h':Heap}
theorem Inv.turnedL {t':Nat}{its:List Addr}(I:Inv X pins σ H s)(k:∀ b o,b∉its→s.heap.get? b=some o→h'.get? b=some o)(hf:∀ b∈its,Le X pins H b):Inv X pins σ H { s with heap:=h',toks:=t' }:=by
 have nit:∀ b u,H b=some u→b∉its:=fun b u e z=>by rw [(hf b z).1] at e;cases e
 refine I.step (g':=s.gens) (d':=s.drawn) (ch:=its) (fun b hb=>?_) (fun b o _ _ hc e _=>k b o hc e) (fun b o _ _ hc e _=>⟨o.slots,k b o hc e⟩) (fun _ _ _ _ n=>n)
  (fun b o hc e=>⟨o,k b o hc e⟩) (fun _ _ e=>e) (fun _ _ _ e=>e) (fun b ps e=>⟨#[],by rw [e];simp⟩) (fun m hm=>?_) (fun b u e=>?_) I.bare
 ·obtain ⟨f0,f1,f2,f3,f4,f5⟩:=hf b hb
  exact ⟨f3,f1,f4,f5⟩
 ·obtain ⟨o,es,ep,ho,r⟩:=hm
  exact ⟨o,es,ep,k _ o (fun z=>(hf _ z).2.1 rfl) ho,r⟩
 ·refine (I.hok b u e).stay (fun c v hc q=>k c v ?_ q) (fun _ q=>q) fun _ _ q=>q
  rcases hc with z | z
  ·rw [z];exact nit b u e
  ·exact nit c _ z
end
noncomputable def Ite (K:W.Frag)(a:Addr):It:=
 ⟨fun i H=>∃ xs x,SqL K H a xs∧xs[i]? = some x,fun i H x H'=>∃ p y,x = .ref p∧H p=none∧H'=upd H p (.tup [.int (i:Int),y])∧∀ xs,SqL K H a xs→xs[i]? = some y,fun i H=>∃ xs,SqL K H a xs∧xs.length≤i⟩
theorem Xz {P:Program}{w:World}{K:W.Frag}{elts:List Expr}{k:Nat}{tp:Pos}(a e it:Addr)(hei:e≠it) :
  S3 P w K (.Tuple elts k tp) (Ite K a) [e,it] e (fun i h=>(∃ old,IsEnum h e it (i:Int) old)∧h.IsListIter it a i) where
 mem:=by simp
 obj:=fun i h st b hb=>by
  obtain ⟨⟨old,he⟩,hit⟩:=st
  rcases zF.mp hb with z | z
  ·subst z
   exact ⟨_,he,fun v z=>by
    have z':Data.fields _=Data.cell v:=z
    cases z'⟩
  ·have z:=zI.mp z
   subst z
   obtain ⟨o,e,c,d⟩:=hit
   exact ⟨o,e,fun v z=>by rw [d] at z;cases z⟩
 keep:=fun i h h' st k=>⟨⟨_,k e (by simp) _ st.1.choose_spec⟩,st.2.at fun o x=>k it (by simp) o x⟩
 item:=by
  intro X hP hw hK hc i pins s σ H E I hf st hg
  subst hP hw hK
  obtain ⟨xs,x,hq,hx⟩:=hg
  obtain ⟨its,rv,p,hz⟩:=I.list hq
  obtain ⟨u,hu,ru⟩:=rv.get hx
  obtain ⟨⟨old,he⟩,hit⟩:=st
  have helt:e<s.heap.objs.size:=zJ he
  have hilt:it<s.heap.objs.size:=by obtain ⟨_,x,_⟩:=hit;exact zJ x
  refine wpAny_pyNext_enum_item he hit p.isList (x:=u) (by simpa using hu) hei fun h' ho hit' hT hsz hk=>?_
  refine ⟨_,rfl,wpAny_letOwnedTupleGo_enum (s:={ s with heap:=h',toks:=s.toks+1 }) ho fun h2 he2 hs2=>?_⟩
  have I1:Inv X pins σ (upd H s.heap.objs.size (.tup [.int (i:Int),x])) { s with heap:=s.heap.push { cls:=.type "tuple",data:=.seq #[.int (i:Int) s.toks,u] },toks:=s.toks+1 }:=
   I.laid (fun b o e=>zA _ e) (zL _) ⟨by rw [PySem.sizeLine_eq];show 2≤_;lia,[.int (i:Int) s.toks,u],.cons ⟨_,rfl⟩ (.cons ru .nil),IsTup.new s.heap _⟩
  have hfr:∀ b∈[e,it],upd H s.heap.objs.size (.tup [.int (i:Int),x]) b=none:=fun b hb=>by
   have hlt:b<s.heap.objs.size:=by
    rcases zF.mp hb with z | z
    ·rw [z];exact helt
    ·rw [zI.mp z];exact hilt
   rw [AO (ze hlt)]
   exact (hf b hb).1
  refine ⟨.ref s.heap.objs.size,upd H s.heap.objs.size (.tup [.int (i:Int),x]),?_,rfl,⟨_,x,rfl,I.fresh,rfl,fun ys hy=>by rw [I.list_inj hy hq];exact hx⟩,⟨⟨_,by simpa using he2⟩,hit'.at fun o y=>(hs2.2 it (Ne.symm hei)).trans y⟩,hfr⟩
  refine (show Inv X pins σ (upd H s.heap.objs.size (.tup [.int (i:Int),x])) { ({ s with heap:=s.heap.push { cls:=.type "tuple",data:=.seq #[.int (i:Int) s.toks,u] },toks:=s.toks+1 }:Shared) with heap:=h2,toks:=s.toks+1 } from ?_)
  refine Inv.turnedL (its:=[e,it]) I1 (fun b o hb eb=>?_) fun b hb=>⟨hfr b hb,(hf b hb).2⟩
  have hbe:b≠e:=fun z=>hb (by simp [z])
  have hbi:b≠it:=fun z=>hb (by simp [z])
  refine (hs2.2 b hbe).trans ?_
  by_cases hbs:b=s.heap.objs.size
  ·subst hbs
   have:(s.heap.push { cls:=.type "tuple",data:=.seq #[.int (i:Int) s.toks,u] }).get? s.heap.objs.size=some { cls:=.type "tuple",data:=.seq #[.int (i:Int) s.toks,u] }:=zT _ rfl
   have eb:=this.symm.trans eb
   rw [← eb]
   exact hT
  ·exact hk b o hbe hbi ((Heap.get?_push_ne _ _ _ hbs).symm.trans eb)
 done:=by
  intro X hP hw hK hc i pins s σ H E I hf st hg
  subst hP hw hK
  obtain ⟨xs,hq,hx⟩:=hg
  obtain ⟨its,rv,p,hz⟩:=I.list hq
  have hl:=rv.length
  obtain ⟨⟨old,he⟩,hit⟩:=st
  refine wpAny_pyNext_enum_end (I.ok.hd hc) he hit p.isList (Array.getElem?_eq_none (by simp;lia)) fun h' eb=>⟨rfl,?_⟩
  obtain ⟨f0,f1,f2,f3,f4,f5⟩:=hf it (by simp)
  exact I.turned (t':=s.toks) (fun b o hb e=>eb b o hb e) f0 f1 f3 f4 f5
 self:=fun _ _ _ _ _ st h=>by
  obtain ⟨⟨old,he⟩,_⟩:=st
  exact wpAny_pyIter_enum he h
section
variable {X:Cx}
noncomputable def LH (K:W.Frag)(ta:TA):TI:=fun σ H R=>ta σ H fun vs H1=>∃ a,vs=[.ref a]∧(∃ xs,SqL K H1 a xs)∧R (Ite K a) H1
theorem WR {l:Expr}{ta:TA}{p pos tp:Pos}{elts:List Expr}{k:Nat}(hg:Gl X "enumerate")(hm:X.mg "enumerate"=none)(ha:PA X [l] ta)(hs:starEach [l] X.env=[(false,eval l X.env)]:=by rfl) :
  PI X (.Tuple elts k tp) (.Call (.Name "enumerate" p) [l] [] pos) (LH X.K ta):=by
 intro pins s σ H R I h
 refine Call_ (Js I hg hm boot_enumerate (PyProof.Rows.callWith_type1 (thn (ha pos pins s σ H _ I h) fun us s1 zq=>?_) hs rfl))
 obtain ⟨vs,H1,I1,r1,q1⟩:=zq
 obtain ⟨a,e,⟨xs,hq⟩,q⟩:=q1
 subst e
 cases r1 with
 | cons r rr =>
  cases rr
  cases r
  obtain ⟨its,rv,pl,hz⟩:=I1.list hq
  refine call_enumerate_list pl.isList fun h' he hit hsz hk=>?_
  have I2:Inv X pins σ H1 { s1 with heap:=h' }:=I1.kept (t':=s1.toks) hk
  refine wpAny_pyIter_enum he ?_
  refine ⟨_,[s1.heap.objs.size+1,s1.heap.objs.size],_,_,H1,rfl,I2,Xz a _ _ (Nat.succ_ne_self _),⟨⟨_,by simpa using he⟩,hit⟩,fun b hb=>?_,q⟩
  have hb':s1.heap.objs.size≤b:=by
   rcases zF.mp hb with z | z
   ·rw [z];exact Nat.le_succ _
   ·rw [zI.mp z];exact zL _
  exact I1.fpOk hb' (I1.hok.fresh hb')
theorem ZA:bootBuiltins "all"=some (.builtin "all"):=by decide +kernel
noncomputable def Re (K:W.Frag):List V→Hp→VK→Prop:=fun xs H Q=>∃ a,xs=[.ref a]∧∃ ys:List Bool,SqL K H a (ys.map V.bl)∧Q (.bl (ys.all id)) H
theorem UV (hc:X.calm=true):Cm X (.builtin "all") (Re X.K):=by
 intro pins s σ H xs us Q I r h
 obtain ⟨a,rfl,ys,hq,q⟩:=h
 obtain ⟨u,rfl,rx⟩:=vals1 r
 cases rx
 obtain ⟨its,r',pl,hz⟩:=I.list hq
 have hlen:=r'.length
 rw [z0] at hlen
 have hlt:a<s.heap.objs.size:=by obtain ⟨o,n,e,_⟩:=id pl;exact zJ e
 refine call_all_walk (wpAny_pyIter_list pl.isList ?_)
 refine ⟨s.heap.objs.size,_,_,_,_,_,fun i=>ys.getD i true,rfl,Walks.list (A:=X.A.in1) (I.ok.hd hc) _ a (ze hlt) its.toArray,⟨⟨_,zT _ rfl,rfl,rfl⟩,pl.isList.at fun o e=>zA _ e⟩,?_,fun h' tk hk=>?_⟩
 ·intro i v s Q E hP hQ
  have hv:its[i]? = some v:=by simpa using hP
  obtain ⟨hi,_⟩:=zC.mp hv
  obtain ⟨u,e1,e2⟩:=r'.get (i:=i) (x:=V.bl (ys.getD i true)) (by rw [zN,z9 (by lia),zR,z9 (by lia)];rfl)
  have e3:v=u:=zV (hv.symm.trans e1)
  have e2:u=Value.bool (ys.getD i true):=e2
  rw [e3,e2]
  exact wpAny_truthy_bool hQ
 ·have I2:Inv X pins σ H { s with heap:=h',toks:=tk }:=I.kept fun b o e=>hk b o (fun z=>by
   rw [zI.mp z] at e
   exact absurd (zJ e) (qF _)) (zA _ e)
  refine ⟨.bl (ys.all id),H,I2,?_,q⟩
  show Value.bool _=Value.bool _
  congr 1
  rw [show its.toArray.size=ys.length by simp [hlen],qZ]
  simp only [qW,List.mem_range,id]
  constructor
  ·intro hh b hb
   obtain ⟨i,hi,rfl⟩:=qU hb
   have:=hh i hi
   rwa [zR,z9 hi] at this
  ·intro hh i hi
   rw [zR,z9 hi]
   exact hh _ (zY hi)
end
theorem UT {K:W.Frag}{a:Addr}{xs:List V}{g:TG}{tb:TS}{D:Ij}{σ:St}{H:Hp}(Pv:Nat→St→Hp→Prop)(h0:Pv 0 σ H)(hl:∀ i σ H,i≤xs.length→Pv i σ H→SqL K H a xs)
  (hs:∀ i x σ H p H',xs[i]? = some x→Pv i σ H→H p=none→AG H H'→H' p=some (.tup [.int (i:Int),x])→g (.ref p) σ H' fun σ2 H2=>tb { D with nx:=Pv (i+1),ct:=Pv (i+1),bk:=D.nx } σ2 H2) (hd:∀ σ H,Pv xs.length σ H→D.nx σ H) :
  ∃ W:Nat→Nat→St→Hp→Prop,(∃ m,W 0 m σ H)∧∀ i m σ H,W i m σ H →
   ((Ite K a).stop i H∧D.nx σ H)∨((Ite K a).go i H∧∃ N:St→Hp→Prop,(∀ σ' H',N σ' H'→∃ m',m'<m∧W (i+1) m' σ' H')∧∀ x H',(Ite K a).yld i H x H'→g x σ H' fun σ2 H2=>tb { D with nx:=N,ct:=N,bk:=D.nx } σ2 H2):=by
 refine ⟨fun i m σ H=>m=xs.length-i∧i≤xs.length∧Pv i σ H,⟨xs.length,by simp,zr _,h0⟩,?_⟩
 rintro i m σ H ⟨rfl,hi,p⟩
 have q:=hl i σ H hi p
 by_cases hlt:i<xs.length
 ·refine .inr ⟨⟨xs,xs[i],q,by simp [hlt]⟩,Pv (i+1),fun σ' H' p'=>⟨xs.length-(i+1),by lia,rfl,hlt,p'⟩,fun x H' y=>?_⟩
  obtain ⟨pp,z,rfl,hn,rfl,y⟩:=y
  exact hs i z σ _ _ _ (y xs q) p hn (Ak hn) AM
 ·have e:i=xs.length:=by lia
  subst e
  exact .inl ⟨⟨xs,q,zL _⟩,hd σ H p⟩
end L2
namespace TG
open PySem L2
theorem Us {d r:Int}(hd:0≤d)(hr:0<r):Int.gcd r (d.fmod r)=Int.gcd d r:=by
 rw [Int.fmod_eq_emod_of_nonneg d (qM hr)]
 obtain ⟨n,rfl⟩:=Int.eq_ofNat_of_zero_le hd
 obtain ⟨m,rfl⟩:=Int.eq_ofNat_of_zero_le (qM hr)
 show Nat.gcd m (((n % m:Nat):Int)).natAbs=Nat.gcd n m
 rw [Int.natAbs_natCast,Nat.gcd_comm n m,Nat.gcd_rec m n,Nat.gcd_comm]
theorem WV {d r:Int}(hr:0<r):0≤d.fmod r∧d.fmod r<r:=⟨Int.fmod_nonneg_of_pos d hr,Int.fmod_lt_of_pos d hr⟩
theorem Sh {d:Int}(hd:0≤d):((Int.gcd d 0:Nat):Int)=d:=by
 rw [Int.gcd_zero_right];lia
structure FD (t b x y:Int):Prop where
 ex:∃ g:Int,g≠0∧t=g*x∧b=g*y
 pos:0<y
 one:Int.gcd x y=1
theorem FD.eq {t b x y:Int}(h:FD t b x y):t*y=b*x:=by
 obtain ⟨g,_,rfl,rfl⟩:=h.ex
 rw [Int.mul_assoc,Int.mul_assoc,Int.mul_comm x y]
theorem Kr {g x:Int}(hg:g≠0):x.natAbs≤(g*x).natAbs:=by
 rw [Int.natAbs_mul]
 exact Nat.le_mul_of_pos_left _ (by lia)
theorem FD.absx {t b x y:Int}(h:FD t b x y):x.natAbs≤t.natAbs:=by
 obtain ⟨g,hg,rfl,rfl⟩:=h.ex
 exact Kr hg
theorem FD.absy {t b x y:Int}(h:FD t b x y):y.natAbs≤b.natAbs:=by
 obtain ⟨g,hg,rfl,rfl⟩:=h.ex
 exact Kr hg
theorem aF (t b:Int):Int.gcd (if t<0 then -t else t) (if b<0 then -b else b)=Int.gcd t b:=by
 split<;>split<;>simp [Int.gcd_neg,Int.neg_gcd]
theorem jT {t b:Int}(hb:b≠0){d:Int}(hd:d=if b<0 then -((Int.gcd t b:Nat):Int) else ((Int.gcd t b:Nat):Int)):FD t b (t.fdiv d) (b.fdiv d)∧d≠0:=by
 have hg:0<Int.gcd t b:=Int.gcd_pos_of_ne_zero_right t hb
 have hd0:d≠0:=by rw [hd];split<;>lia
 have habs:d.natAbs=Int.gcd t b:=by rw [hd];split<;>lia
 have h1:d ∣ t:=by
  rw [← Int.natAbs_dvd,habs];exact Int.gcd_dvd_left ..
 have h2:d ∣ b:=by
  rw [← Int.natAbs_dvd,habs];exact Int.gcd_dvd_right ..
 obtain ⟨x,hx⟩:=h1
 obtain ⟨y,hy⟩:=h2
 have ex:t.fdiv d=x:=by rw [hx,Int.mul_fdiv_cancel_left _ hd0]
 have ey:b.fdiv d=y:=by rw [hy,Int.mul_fdiv_cancel_left _ hd0]
 rw [ex,ey]
 refine ⟨⟨⟨d,hd0,hx,hy⟩,?_,?_⟩,hd0⟩
 ·rcases Int.lt_trichotomy y 0 with h | h | h
  ·exfalso
   by_cases hbn:b<0
   ·rw [if_pos hbn] at hd
    have:0<d*y:=Int.mul_pos_of_neg_of_neg (by lia) h
    lia
   ·rw [if_neg hbn] at hd
    have:d*y<0:=Int.mul_neg_of_pos_of_neg (by lia) h
    lia
  ·rw [h,Int.mul_zero] at hy;exact absurd hy hb
  ·exact h
 ·have e:Int.gcd t b=d.natAbs*Int.gcd x y:=by
   conv=>lhs;rw [hx,hy]
   exact Int.gcd_mul_left ..
  rw [habs] at e
  have e2:Int.gcd t b*1=Int.gcd t b*Int.gcd x y:=by rw [Nat.mul_one];exact e
  exact (Nat.eq_of_mul_eq_mul_left hg e2).symm
theorem U7 (x y:Int):Int.gcd (if x<0 then -x else x) y=Int.gcd x y:=by
 split<;>simp [Int.neg_gcd]
theorem Zq {t u x y f:Int}(hy:0<y)(hu:0<u)(E:t*y=u*x):f*y≤x↔f*u≤t:=by
 constructor
 ·intro h
  have h1:=zt h (qM hu)
  rw [← E] at h1
  have h2:(f*u)*y≤t*y:=by
   have e:(f*u)*y=u*(f*y):=by grind
   rw [e];exact h1
  exact Int.le_of_mul_le_mul_right h2 hy
 ·intro h
  have h1:=zX h (qM hy)
  rw [E] at h1
  have h2:u*(f*y)≤u*x:=by
   have e:u*(f*y)=(f*u)*y:=by grind
   rw [e];exact h1
  exact zm h2 hu
theorem aK {t u x y f:Int}(hy:0<y)(hu:0<u)(E:t*y=u*x):x≤f*y↔t≤f*u:=by
 constructor
 ·intro h
  have h1:=zt h (qM hu)
  rw [← E] at h1
  have h2:t*y≤(f*u)*y:=by
   have e:(f*u)*y=u*(f*y):=by grind
   rw [e];exact h1
  exact Int.le_of_mul_le_mul_right h2 hy
 ·intro h
  have h1:=zX h (qM hy)
  rw [E] at h1
  have h2:u*x≤u*(f*y):=by
   have e:u*(f*y)=(f*u)*y:=by grind
   rw [e];exact h1
  exact zm h2 hu
structure G where
 p:Int
 f:Int
 h:Int
noncomputable abbrev G.vs (g:G):List V:=[.int g.p,.int g.f,.int g.h]
structure OkG (g:G):Prop where
 p0:-1000≤g.p
 p1:g.p≤1000
 f0:-1000≤g.f
 fh:g.f≤g.h
 h1:g.h≤1000
noncomputable def Am (H:Hp)(as:List Addr)(gs:List G):Prop:=Paired (fun a g=>H a=some (.tup (G.vs g))) as gs
theorem Am.same {H H':Hp}{as:List Addr}{gs:List G}(h:Am H as gs)(s:AG H H'):Am H' as gs:=by
 unfold Am at *
 induction h with
 | nil=>exact .nil
 | cons e _ ih=>exact .cons (s _ _ e) ih
theorem Am.upd {H:Hp}{l:Addr}{o u:HO}{as:List Addr}{gs:List G}(h:Am H as gs)(hl:H l=some o)(hm:∀ ys,o≠.tup ys):Am (L2.upd H l u) as gs:=by
 unfold Am at *
 induction h with
 | nil=>exact .nil
 | cons e _ ih=>exact .cons (aP e hl hm) ih
theorem Am.snoc {H:Hp}{as:List Addr}{gs:List G}{a:Addr}{g:G}(h:Am H as gs)(e:H a=some (.tup (G.vs g))):Am H (as++[a]) (gs++[g]):=Paired.snoc h e
theorem Am.len {H:Hp}{as:List Addr}{gs:List G}(h:Am H as gs):as.length=gs.length:=Paired.length h
theorem VN {xs:List Int}{i:Int}(h0:0≤i)(h1:i<xs.length):atI (xs.map V.int) i=some (V.int (xs.getD i.toNat 0)):=by
 obtain ⟨n,rfl⟩:=Int.eq_ofNat_of_zero_le h0
 have hn:n<xs.length:=by lia
 refine Cd ?_
 rw [zN,z9 hn,qK,zR,z9 hn];rfl
theorem Kk {α:Type}[DecidableEq α]:∀ {xs ys:List α},xs.Nodup→(∀ x∈xs,x∈ys)→xs.length≤ys.length
 | [],_,_,_=>zr _
 | x::xs,ys,hn,hs=>by
  obtain ⟨h1,h2⟩:=qa.mp hn
  have hx:=hs x zP
  have ih:=Kk (ys:=ys.erase x) h2 fun y hy=>(List.mem_erase_of_ne (fun (e:y=x)=>h1 (by rw [← e];exact hy))).mpr (hs y (zK _ hy))
  have:=List.length_erase_of_mem hx
  have hp:0<ys.length:=List.length_pos_of_mem hx
  rw [zB]
  lia
theorem Up {near span o:Int}{used:List Int}(hk:(used.length:Int)<span)(h:∀ t:Nat,t≤used.length→near+(o+t) % span∈used):False:=by
 have hnd:((List.range (used.length+1)).map fun t:Nat=>near+(o+t) % span).Nodup:=by
  refine List.pairwise_iff_getElem.mpr fun a b ha hb hab=>?_
  rw [z0,List.length_range] at ha hb
  rw [List.getElem_map,List.getElem_map,List.getElem_range,List.getElem_range]
  intro e
  have e1:(o+(a:Int)) % span=(o+(b:Int)) % span:=by lia
  have e2:=Int.emod_emod_of_dvd (o+(b:Int)) (Int.dvd_refl span)
  have d:span ∣ (o+(b:Int))-(o+(a:Int)):=Int.dvd_of_emod_eq_zero (Int.emod_eq_emod_iff_emod_sub_eq_zero.mp e1.symm)
  have e3:(o+(b:Int))-(o+(a:Int))=(b:Int)-a:=by lia
  rw [e3] at d
  have:=Int.le_of_dvd (by lia) d
  lia
 have hl:=Kk (ys:=used) hnd fun x hx=>by
  obtain ⟨t,ht,rfl⟩:=zZ.mp hx
  exact h t (by have:=List.mem_range.mp ht;lia)
 rw [z0,List.length_range] at hl
 lia
noncomputable def CI (a b c:G):Prop:=a.h*(c.p-b.p)+c.h*(b.p-a.p)<b.f*(c.p-a.p)
noncomputable def CK (a b c:G):Prop:=b.h*(c.p-a.p)<a.f*(c.p-b.p)+c.f*(b.p-a.p)
instance (a b c:G):Decidable (CI a b c):=by unfold CI;exact inferInstance
instance (a b c:G):Decidable (CK a b c):=by unfold CK;exact inferInstance
noncomputable def Qd (a b c:G):Prop:=CI a b c∨CK a b c
instance (a b c:G):Decidable (Qd a b c):=by unfold Qd;exact inferInstance
noncomputable def aG (a b c:G):Str:=if CI a b c then "foot" else if CK a b c then "head" else ""
theorem Am.zip {H:Hp}{as:List Addr}{gs:List G}(h:Am H as gs):∃ zs:List (Addr×List Int),as=zs.map (·.1)∧zs.map (·.2)=gs.map (fun g=>[g.p,g.f,g.h])∧∀ z∈zs,z.2≠[]∧H z.1=some (.tup (z.2.map V.int)):=by
 unfold Am at h
 induction h with
 | nil=>exact ⟨[],rfl,rfl,fun _ h=>absurd h (by simp)⟩
 | @cons a g as gs e _ ih =>
  obtain ⟨zs,h1,h2,h3⟩:=ih
  refine ⟨(a,[g.p,g.f,g.h])::zs,by rw [h1];rfl,by rw [zU,h2];rfl,fun z hz=>?_⟩
  rcases zF.mp hz with rfl | hz
  ·exact ⟨by simp,e⟩
  ·exact h3 z hz
theorem Am.of_zip {H:Hp}:∀ {zs:List (Addr×List Int)} {gs:List G},zs.map (·.2)=gs.map (fun g=>[g.p,g.f,g.h])→(∀ z∈zs,H z.1=some (.tup (z.2.map V.int)))→Am H (zs.map (·.1)) gs
 | [],[],_,_=>.nil
 | [],_::_,e,_=>by cases e
 | _::_,[],e,_=>by cases e
 | z::zs,g::gs,e,h=>by
  rw [zU,zU,qH] at e
  refine .cons ?_ (Am.of_zip e.2 fun y hy=>h y (zK _ hy))
  have:=h z zP
  rw [e.1] at this
  exact this
noncomputable def toG (t:List Int):G:=⟨t.getD 0 0,t.getD 1 0,t.getD 2 0⟩
theorem Z1 (gs:List G):(gs.map fun g=>[g.p,g.f,g.h]).map toG=gs:=by
 rw [zp]
 have:(toG∘fun g:G=>[g.p,g.f,g.h])=id:=by funext g;rfl
 rw [this,List.map_id]
theorem lex_p {g g':G}(hne:g.p≠g'.p)(h:HT.lexLt [g.p,g.f,g.h] [g'.p,g'.f,g'.h]=true):g.p<g'.p:=by
 rw [HT.lexLt_cons,if_neg hne] at h
 exact zH h
noncomputable def Asc (gs:List G):Prop:=gs.Pairwise fun a b=>a.p<b.p
section
variable {X:Cx}
noncomputable def Fw (K:W.Frag):List V→Hp→VK→Prop:=fun xs H Q=>∃ l,xs=[.ref l]∧∃ (as:List Addr) (gs:List G),SqL K H l (as.map V.ref)∧Am H as gs∧(gs.map G.p).Nodup∧gs.length<64 ∧
 ∀ (D:Addr) (H':Hp) (as':List Addr) (gs':List G),H D=none→AG H H'→H' D=some (.lst (as'.map V.ref))→Am H' as' gs'→gs'.Perm gs→Asc gs'→Q (.ref D) H'
theorem Bn:Cm X (.builtin "sorted") (Fw X.K):=TF.weak fun xs H Q ⟨l,e,as,gs,hl,ga,nd,h64,q⟩=>by
 obtain ⟨zs,h1,h2,h3⟩:=ga.zip
 have hlen:zs.length=gs.length:=by
  have:=congrArg List.length h2
  simpa using this
 refine ⟨l,e,zs,?_,fun z hz=>⟨(h3 z hz).1,SqT.of (h3 z hz).2⟩,?_,by lia,fun D H' zs' hD hs hat hp hsrt=>?_⟩
 ·rw [h1,zp] at hl
  exact hl
 ·rw [h2]
  refine qQ.mpr ((qQ.mp nd).imp fun {a b} h z=>h ?_)
  simp at z
  exact z.1
 ·have hm:(zs'.map (·.2)).Perm (gs.map fun g=>[g.p,g.f,g.h]):=by rw [← h2];exact hp.map _
  have hg:((zs'.map (·.2)).map toG).Perm gs:=by
   have:=hm.map toG
   rw [Z1] at this
   exact this
  have hback:zs'.map (·.2)=((zs'.map (·.2)).map toG).map fun g=>[g.p,g.f,g.h]:=by
   rw [zp]
   conv=>lhs;rw [← List.map_id (zs'.map (·.2))]
   refine List.map_congr_left fun t ht=>?_
   obtain ⟨g,_,rfl⟩:=zZ.mp (hm.mem_iff.mp ht)
   rfl
  refine q D H' (zs'.map (·.1)) ((zs'.map (·.2)).map toG) hD hs ?_ ?_ hg ?_
  ·rw [hat,zp];rfl
  ·exact Am.of_zip hback fun z hz=>hs.get (h3 z (hp.mem_iff.mp hz)).2
  ·have ndp:((((zs'.map (·.2)).map toG)).map G.p).Nodup:=((hg.map G.p).nodup_iff).mpr nd
   have hsr:(((zs'.map (·.2)).map toG)).Pairwise fun a b=>HT.lexLt [a.p,a.f,a.h] [b.p,b.f,b.h]=true:=by
    have:((((zs'.map (·.2)).map toG)).map fun g:G=>[g.p,g.f,g.h]).Pairwise fun a b=>HT.lexLt a b=true:=by
     rw [← hback]
     exact qQ.mpr hsrt
    exact qQ.mp this
   have hne:=qQ.mp ndp
   exact (hsr.and hne).imp fun {a b} h=>lex_p h.2 h.1
end
noncomputable def OE (sg:List G)(i j k:Nat):Prop:=i<j∧j<k∧∃ a b c,sg[i]? = some a∧sg[j]? = some b∧sg[k]? = some c∧Qd a b c
noncomputable def Bh (sg:List G):Prop:=∀ i j k,¬ OE sg i j k
noncomputable def A3 (sg:List G)(i j k:Nat):Prop:=∀ i' j' k',OE sg i' j' k'→i<i'∨(i=i'∧(j<j'∨(j=j'∧k≤k')))
noncomputable def Pq (sg:List G)(i j k:Nat):Prop:=OE sg i j k∧A3 sg i j k
theorem Pq.uniq {sg:List G}{i j k i' j' k':Nat}(h:Pq sg i j k)(h':Pq sg i' j' k'):i=i'∧j=j'∧k=k':=by
 have a:=h.2 _ _ _ h'.1
 have b:=h'.2 _ _ _ h.1
 lia
inductive Bd (gs:List G)(t:List Int):Prop where
 | no (sg:List G) (hp:sg.Perm gs) (ha:Asc sg) (hn:Bh sg) (ht:t=[])
 | yes (sg:List G) (hp:sg.Perm gs) (ha:Asc sg) (i j k:Nat) (a b c:G) (hf:Pq sg i j k) (h1:sg[i]? = some a) (h2:sg[j]? = some b) (h3:sg[k]? = some c) (ht:t=[a.p,b.p,c.p])
theorem BO:∀ {xs ys:List G},Asc xs→Asc ys→xs.Perm ys→xs=ys
 | [],ys,_,_,h=>(List.nil_perm.mp h).symm
 | x::xs,[],_,_,h=>absurd h (by intro z;have:=z.length_eq;simp at this)
 | x::xs,y::ys,h1,h2,h=>by
  obtain ⟨a1,a2⟩:=List.pairwise_cons.mp h1
  obtain ⟨b1,b2⟩:=List.pairwise_cons.mp h2
  have e:x=y:=by
   have hx:x∈y::ys:=h.mem_iff.mp zP
   have hy:y∈x::xs:=h.mem_iff.mpr zP
   rcases zF.mp hx with e | hx
   ·exact e
   ·rcases zF.mp hy with e | hy
    ·exact e.symm
    ·have:=a1 y hy
     have:=b1 x hx
     lia
  subst e
  rw [BO a2 b2 ((List.perm_cons x).mp h)]
theorem Bd.uniq {gs:List G}{t t':List Int}(h:Bd gs t)(h':Bd gs t'):t=t':=by
 cases h with
 | no sg hp ha hn ht =>
  cases h' with
  | no sg' hp' ha' hn' ht'=>rw [ht,ht']
  | yes sg' hp' ha' i j k a b c hf h1 h2 h3 ht' =>
   have e:=BO ha ha' (hp.trans hp'.symm)
   subst e
   exact absurd hf.1 (hn i j k)
 | yes sg hp ha i j k a b c hf h1 h2 h3 ht =>
  cases h' with
  | no sg' hp' ha' hn' ht' =>
   have e:=BO ha ha' (hp.trans hp'.symm)
   subst e
   exact absurd hf.1 (hn' i j k)
  | yes sg' hp' ha' i' j' k' a' b' c' hf' h1' h2' h3' ht' =>
   have e:=BO ha ha' (hp.trans hp'.symm)
   subst e
   obtain ⟨e1,e2,e3⟩:=hf.uniq hf'
   subst e1 e2 e3
   rw [h1] at h1';rw [h2] at h2';rw [h3] at h3'
   cases h1';cases h2';cases h3'
   rw [ht,ht']
theorem Bd.perm {gs gs':List G}{t:List Int}(h:Bd gs t)(hp:gs.Perm gs'):Bd gs' t:=by
 cases h with
 | no sg hp' ha hn ht=>exact .no sg (hp'.trans hp) ha hn ht
 | yes sg hp' ha i j k a b c hf h1 h2 h3 ht=>exact .yes sg (hp'.trans hp) ha i j k a b c hf h1 h2 h3 ht
theorem Am.get {H:Hp}{as:List Addr}{gs:List G}(h:Am H as gs){i:Nat}{g:G}(hg:gs[i]? = some g):∃ a,as[i]? = some a∧H a=some (.tup (G.vs g)):=by
 unfold Am at h
 induction h generalizing i with
 | nil=>simp at hg
 | cons e _ ih =>
  cases i with
  | zero=>simp at hg;subst hg;exact ⟨_,rfl,e⟩
  | succ i=>exact ih (by simpa using hg)
theorem Dq {as:List Addr}{i:Nat}{a:Addr}(h:as[i]? = some a):atI (as.map V.ref) (i:Int)=some (V.ref a):=Cd (by rw [zN,h];rfl)
theorem OE.lt {sg:List G}{i j k:Nat}(h:OE sg i j k):k<sg.length:=by
 obtain ⟨_,_,a,b,c,_,_,h3,_⟩:=h
 exact (zC.mp h3).1
theorem ZK (sg:List G):A3 sg 0 0 0:=fun i j k h=>by
 have:=h.1
 lia
theorem jK {sg:List G}{i:Nat}(h:A3 sg i 0 0):A3 sg i (i+1) 0:=fun i' j' k' hb=>by
 have h1:=h _ _ _ hb
 have h2:=hb.1
 lia
theorem na_in {sg:List G}{i j:Nat}(h:A3 sg i j 0):A3 sg i j (j+1):=fun i' j' k' hb=>by
 have h1:=h _ _ _ hb
 have h2:=hb.2.1
 lia
theorem Xi {sg:List G}{i j k:Nat}(hk:sg.length≤k)(h:A3 sg i j k):A3 sg i (j+1) 0:=fun i' j' k' hb=>by
 have h1:=h _ _ _ hb
 have h2:=hb.lt
 lia
theorem Vt {sg:List G}{i j:Nat}(hj:sg.length≤j)(h:A3 sg i j 0):A3 sg (i+1) 0 0:=fun i' j' k' hb=>by
 have h1:=h _ _ _ hb
 have h2:=hb.lt
 have h3:=hb.2.1
 have h4:=hb.1
 lia
theorem aT {sg:List G}{i j k:Nat}(h:A3 sg i j k)(hn:¬ OE sg i j k):A3 sg i j (k+1):=fun i' j' k' hb=>by
 have h1:=h _ _ _ hb
 by_cases e:i=i'∧j=j'∧k=k'
 ·obtain ⟨rfl,rfl,rfl⟩:=e
  exact absurd hb hn
 ·lia
theorem na_no {sg:List G}(h:A3 sg sg.length 0 0):Bh sg:=fun i j k hb=>by
 have h1:=h _ _ _ hb
 have h2:=hb.lt
 have h3:=hb.1
 have h4:=hb.2.1
 lia
noncomputable def Pas (a b c d pl f h:Int):Prop:=f*(b*d)≤a*d+pl*c*b∧a*d+pl*c*b≤h*(b*d)
instance (a b c d pl f h:Int):Decidable (Pas a b c d pl f h):=by unfold Pas;exact inferInstance
structure Thr where
 a:Int
 b:Int
 c:Int
 d:Int
noncomputable abbrev Thr.vs (t:Thr):List V:=[.int t.a,.int t.b,.int t.c,.int t.d]
noncomputable abbrev Thr.pas (t:Thr)(g:G):Prop:=Pas t.a t.b t.c t.d g.p g.f g.h
noncomputable abbrev Thr.gap (t:Thr)(p h:Int):Int:=t.a*t.d+t.c*p*t.b-h*t.b*t.d
structure OkT (t:Thr):Prop where
 a1:t.a.natAbs≤999999999
 b1:t.b.natAbs≤999999999
 c1:t.c.natAbs≤999999999
 d1:t.d.natAbs≤999999999
 b0:0<t.b
 d0:0<t.d
 g1:Int.gcd t.a t.b=1
 g2:Int.gcd t.c t.d=1
inductive BarAt (H:Hp)(D:Addr)(gs:List G):Prop where
 | mk (q:Addr) (t:List Int) (e:H D=some (.tup [.str "bar",.ref q])) (e2:H q=some (.tup (t.map V.int))) (ne:t≠[]) (f:Bd gs t)
theorem atLn {P:Int→Prop}{ls:List Int}{e:Int}(h0:0≤e)(h1:e<ls.length)(h:∀ x∈ls,P x):∃ v:Int,atI (ls.map V.int) e=some (V.int v)∧P v:=by
 refine ⟨_,VN h0 h1,?_⟩
 have hl:e.toNat<ls.length:=by lia
 rw [zR,z9 hl]
 exact h _ (zY hl)
noncomputable def Gj (u w m:Int)(g:G):Prop:=g.f*m≤u+w*g.p∧u+w*g.p≤g.h*m
theorem FA {t:Thr}{g:G}:t.pas g↔Gj (t.a*t.d) (t.c*t.b) (t.b*t.d) g:=by
 show Pas _ _ _ _ _ _ _↔_
 unfold Pas Gj
 rw [show g.p*t.c*t.b=t.c*t.b*g.p by grind]
theorem JB {a b c:G}{u w m:Int}(h1:a.p<b.p)(h2:b.p<c.p)(hm:0<m)(hb:Qd a b c)(la:Gj u w m a)(lb:Gj u w m b)(lc:Gj u w m c):False:=by
 obtain ⟨a1,a2⟩:=la
 obtain ⟨b1,b2⟩:=lb
 obtain ⟨c1,c2⟩:=lc
 have e:(u+w*b.p)*(c.p-a.p)=(u+w*a.p)*(c.p-b.p)+(u+w*c.p)*(b.p-a.p):=by grind
 rcases hb with hb | hb
 ·unfold CI at hb
  have k1:=Int.mul_lt_mul_of_pos_right hb hm
  have k2:=zX b1 (show 0≤c.p-a.p by lia)
  have k3:=zX a2 (show 0≤c.p-b.p by lia)
  have k4:=zX c2 (show 0≤b.p-a.p by lia)
  rw [e] at k2
  have e1:(a.h*(c.p-b.p)+c.h*(b.p-a.p))*m=a.h*m*(c.p-b.p)+c.h*m*(b.p-a.p):=by grind
  have e2:b.f*(c.p-a.p)*m=b.f*m*(c.p-a.p):=by grind
  rw [e1,e2] at k1
  lia
 ·unfold CK at hb
  have k1:=Int.mul_lt_mul_of_pos_right hb hm
  have k2:=zX b2 (show 0≤c.p-a.p by lia)
  have k3:=zX a1 (show 0≤c.p-b.p by lia)
  have k4:=zX c1 (show 0≤b.p-a.p by lia)
  rw [e] at k2
  have e1:(a.f*(c.p-b.p)+c.f*(b.p-a.p))*m=a.f*m*(c.p-b.p)+c.f*m*(b.p-a.p):=by grind
  have e2:b.h*(c.p-a.p)*m=b.h*m*(c.p-a.p):=by grind
  rw [e1,e2] at k1
  lia
theorem Bk {gs:List G}(ha:Asc gs){i j:Nat}{x y:G}(hx:gs[i]? = some x)(hy:gs[j]? = some y)(hij:i<j):x.p<y.p:=by
 obtain ⟨h1,rfl⟩:=zC.mp hx
 obtain ⟨h2,rfl⟩:=zC.mp hy
 exact List.pairwise_iff_getElem.mp ha i j h1 h2 hij
theorem Bd.line {gs:List G}{t:List Int}(h:Bd gs t){u w m:Int}(hm:0<m)(hl:∀ g∈gs,Gj u w m g):t=[]:=by
 rcases h with ⟨_,_,_,_,rfl⟩ | ⟨sg,hp,ha,i,j,k,a,b,c,hf,h1,h2,h3,_⟩
 ·rfl
 ·exfalso
  obtain ⟨⟨l1,l2,a',b',c',f1,f2,f3,hb⟩,_⟩:=hf
  rw [h1] at f1
  rw [h2] at f2
  rw [h3] at f3
  cases f1
  cases f2
  cases f3
  have mem:∀ {i:Nat} {g:G},sg[i]? = some g→g∈gs:=fun e=>hp.mem_iff.mp (zW e)
  exact JB (Bk ha h1 h2 l1) (Bk ha h2 h3 l2) hm hb (hl _ (mem h1)) (hl _ (mem h2)) (hl _ (mem h3))
theorem Va {t:Thr}{x y:G}{u w m:Int}(ot:OkT t)(hm:0<m)(lt:x.p<y.p)(tx:t.gap x.p x.f=0)(ty:t.gap y.p y.h=0)(lx:Gj u w m x)(ly:Gj u w m y):w*t.d≤t.c*m:=by
 have hb:=ot.b0
 have hd:=ot.d0
 have e0:t.b*(t.c*(y.p-x.p))=t.b*((y.h-x.f)*t.d):=by
  have:t.gap y.p y.h-t.gap x.p x.f=t.b*(t.c*(y.p-x.p))-t.b*((y.h-x.f)*t.d):=by unfold Thr.gap;grind
  omega
 have e1:t.c*(y.p-x.p)=(y.h-x.f)*t.d:=Int.eq_of_mul_eq_mul_left (by lia) e0
 have k1:w*(y.p-x.p)≤(y.h-x.f)*m:=by
  have:=lx.1
  have:=ly.2
  have e:w*(y.p-x.p)=(u+w*y.p)-(u+w*x.p):=by grind
  have e':(y.h-x.f)*m=y.h*m-x.f*m:=by grind
  lia
 have k2:=zX k1 (show 0≤t.d by lia)
 have e2:(y.h-x.f)*m*t.d=(y.h-x.f)*t.d*m:=by grind
 rw [e2,← e1] at k2
 have k3:w*t.d*(y.p-x.p)≤t.c*m*(y.p-x.p):=by
  rw [show w*t.d*(y.p-x.p)=w*(y.p-x.p)*t.d by grind,show t.c*m*(y.p-x.p)=t.c*(y.p-x.p)*m by grind]
  exact k2
 exact Int.le_of_mul_le_mul_right k3 (by lia)
theorem Qh {gs:List G}(ok:∀ g∈gs,OkG g){x y:G}(hx:x∈gs)(hy:y∈gs)(lt:x.p<y.p)
  (least:∀ x'∈gs,∀ y'∈gs,x'.p<y'.p→(y.h-x.f)*(y'.p-x'.p)≤(y'.h-x'.f)*(y.p-x.p))
  (uniq:∀ g∈gs,∀ g'∈gs,g.p=g'.p→g=g')
  (nb1:∀ m∈gs,m.p<x.p→¬ CI m x y) (nb2:∀ m∈gs,y.p<m.p→¬ CK x y m) :
  ∀ g∈gs,Gj (x.f*y.p-y.h*x.p) (y.h-x.f) (y.p-x.p) g:=by
 intro g hg
 have og:=ok g hg
 have ox:=ok x hx
 have oy:=ok y hy
 have gfh:=og.fh
 unfold Gj
 have eL:x.f*y.p-y.h*x.p+(y.h-x.f)*g.p=x.f*(y.p-g.p)+y.h*(g.p-x.p):=by grind
 rw [eL]
 rcases Int.lt_trichotomy g.p x.p with h | h | h
 ·have k1:=least g hg y hy (by lia)
  refine ⟨by grind,?_⟩
  have k2:=nb1 g hg h
  unfold CI at k2
  rw [Int.not_lt] at k2
  grind
 ·have:=uniq g hg x hx h
  subst this
  refine ⟨by grind,?_⟩
  have:=zX gfh (show 0≤y.p-g.p by lia)
  grind
 ·rcases Int.lt_trichotomy g.p y.p with h' | h' | h'
  ·have k1:=least g hg y hy h'
   have k2:=least x hx g hg h
   exact ⟨by grind,by grind⟩
  ·have:=uniq g hg y hy h'
   subst this
   refine ⟨?_,by grind⟩
   have:=zX gfh (show 0≤g.p-x.p by lia)
   grind
  ·have k1:=least x hx g hg (by lia)
   refine ⟨?_,by grind⟩
   have k2:=nb2 g hg h'
   unfold CK at k2
   rw [Int.not_lt] at k2
   grind
theorem Am.fresh {H:Hp}{as:List Addr}{gs:List G}{D:Addr}{o:HO}(h:Am H as gs)(hD:∀ ys,H D≠some (.tup ys)):Am (L2.upd H D o) as gs:=by
 induction h with
 | nil=>exact .nil
 | cons e _ ih =>
  refine .cons ?_ ih
  rw [AO (fun z=>hD _ (z▸e))]
  exact e
theorem UO {K:W.Frag}{a:Addr}{as:List Addr}{gs:List G}{tc:TT}{caps:St}{D:Addr}{H1:Hp}{Q:Hp→Prop}(P:G→Bool)(hl:SqL K H1 a (as.map V.ref))(ga:Am H1 as gs)(hD:H1 D=none)(hz:gs.length≤1000)
  (ht:∀ v g H (R:Bool→Hp→Prop),g∈gs→AG H1 H→H v=some (.tup (G.vs g))→R (P g) H→tc (some (.ref v)::caps) H R)
  (hd:∀ H as',AG H1 H→H D=some (.lst (as'.map V.ref))→Am H as' (gs.filter P)→Q H):Ds (Nr 0) tc caps (Itl K a) D H1 Q:=by
 have la:=ga.len
 refine Ee (xs:=as.map V.ref) (fun i ys H=>∃ as':List Addr,ys=as'.map V.ref∧AG H1 H∧H D=some (.lst ys)∧Am H as' ((gs.take i).filter P)∧as'.length≤i) ⟨[],rfl,Ak hD,AM,.nil,zL _⟩ (fun _ _ H _ ⟨_,_,s1,_⟩=>s1.seq hl) ?_ ?_
 ·rintro i x ys H hx ⟨as',rfl,s1,e1,g1,l1⟩
  have hi:i<gs.length:=by
   have:=(zC.mp hx).1
   rw [z0] at this
   lia
  obtain ⟨v,hv,t1⟩:=ga.get (z9 hi)
  have ex:x=V.ref v:=by
   rw [zN,hv] at hx
   exact (zV hx).symm
  subst ex
  have et:gs.take (i+1)=gs.take i++[gs[i]]:=zS hi
  refine ht v gs[i] H _ (zY hi) s1 (s1.get t1) ?_
  have hlen:(as.map V.ref).length=gs.length:=by rw [z0,la]
  by_cases hp:P gs[i]=true
  ·rw [if_pos hp]
   refine ⟨_,rfl,e1,by rw [z0,PySem.sizeLine_eq];lia,_,by lia,rfl,by lia,as'++[v],by rw [zc];rfl,s1.updFresh hD,AM,?_,by rw [zD];simp;lia⟩
   rw [et,qY,qX,if_pos hp,List.filter_nil]
   exact (g1.snoc (s1.get t1)).fresh (fun ys z=>by rw [e1] at z;cases z)
  ·rw [if_neg hp]
   refine ⟨_,by lia,rfl,by lia,as',rfl,s1,e1,?_,by lia⟩
   rw [et,qY,qX,if_neg hp,List.filter_nil,qS]
   exact g1
 ·rintro ys H ⟨as',rfl,s1,e1,g1,l1⟩
  rw [z0,la,zj] at g1
  exact hd H as' s1 e1 g1
structure Run where
 g:G
 rest:List G
 t:Thr
noncomputable abbrev Run.all (r:Run):List G:=r.g::r.rest
noncomputable abbrev Run.last (r:Run):G:=r.rest.getLastD r.g
noncomputable def Hm (H:Hp)(a:Addr)(r:Run):Prop:=∃ q,H a=some (.tup [.int r.g.p,.int r.last.p,.ref q])∧H q=some (.tup r.t.vs)∧OkT r.t∧∀ g∈r.all,r.t.pas g
noncomputable def Far:List Run→Prop
 | r::r'::rs=>¬ Bh (r.all++[r'.g])∧Far (r'::rs)
 | _=>True
theorem Hm.same {H H':Hp}{a:Addr}{r:Run}(h:Hm H a r)(s:AG H H'):Hm H' a r:=by
 obtain ⟨q,e1,e2,e3⟩:=h
 exact ⟨q,s.get e1,s.get e2,e3⟩
structure VV (H:Hp)(D:Addr)(as:List Addr)(rs:List Run)(gs:List G):Prop where
 eD:H D=some (.lst (as.map V.ref))
 at_:Paired (Hm H) as rs
 perm:(rs.flatMap Run.all).Perm gs
 asc:Asc (rs.flatMap Run.all)
 far:Far rs
theorem Paired.get {α β:Type}{F:α→β→Prop}{xs:List α}{ys:List β}(h:Paired F xs ys){i:Nat}{y:β}(hy:ys[i]? = some y):∃ x,xs[i]? = some x∧F x y:=by
 induction h generalizing i with
 | nil=>exact absurd hy (by simp)
 | cons e _ ih =>
  cases i with
  | zero =>
   rw [List.getElem?_cons_zero] at hy ⊢
   cases hy
   exact ⟨_,rfl,e⟩
  | succ i =>
   rw [List.getElem?_cons_succ] at hy ⊢
   exact ih hy
theorem Pn (rs:List Run):rs.length≤(rs.flatMap Run.all).length:=by
 induction rs with
 | nil=>exact zL _
 | cons r rs ih =>
  rw [qR,zD,zB]
  have:r.all.length=r.rest.length+1:=rfl
  lia
theorem Bh.infix {x y z:List G}(h:Bh (x++y++z)):Bh y:=fun i j k ⟨h1,h2,a,b,c,e1,e2,e3,hb⟩=>by
 have lift:∀ {n:Nat} {g:G},y[n]? = some g→(x++y++z)[x.length+n]? = some g:=fun {n g} e=>by
  have hn:=(zC.mp e).1
  rw [zx,List.getElem?_append_right (by lia),Nat.add_sub_cancel_left,List.getElem?_append_left hn]
  exact e
 exact h (x.length+i) (x.length+j) (x.length+k) ⟨by lia,by lia,a,b,c,lift e1,lift e2,lift e3,hb⟩
theorem KD {xs:List G}(h:xs.length≤2):Bh xs:=fun i j k hb=>by
 have:=hb.lt
 have:=hb.1
 have:=hb.2.1
 lia
theorem Vb {gs:List G}(ha:Asc gs){u w m:Int}(hm:0<m)(h:∀ g∈gs,Gj u w m g):Bh gs:=fun i j k ⟨h1,h2,a,b,c,e1,e2,e3,hb⟩ =>
 JB (Bk ha e1 e2 h1) (Bk ha e2 e3 h2) hm hb (h _ (zW e1)) (h _ (zW e2)) (h _ (zW e3))
theorem Am.takeG {H:Hp}{as:List Addr}{gs:List G}(h:Am H as gs)(n:Nat):Am H (as.take n) (gs.take n):=by
 induction h generalizing n with
 | nil=>rw [List.take_nil,List.take_nil];exact .nil
 | cons e t ih =>
  cases n with
  | zero=>exact .nil
  | succ n=>exact .cons e (ih n)
theorem Hb {xs:List V}{i:Nat}:Nh xs none (some (i:Int))=xs.take i:=by
 unfold Nh
 rw [HT.sIx_nat,HT.sIx_none,List.drop_zero,Nat.sub_zero]
 by_cases h:i≤xs.length
 ·rw [Nat.min_eq_left h]
 ·rw [Nat.min_eq_right (by lia),zj,qL (by lia)]
theorem Am.append {H:Hp}{as bs:List Addr}{gs hs:List G}(h:Am H as gs)(h':Am H bs hs):Am H (as++bs) (gs++hs):=by
 induction h with
 | nil=>exact h'
 | cons e _ ih=>exact .cons e ih
theorem PY {K:W.Frag}{a:Addr}{as:List Addr}{gs:List G}{te:TE}{tc:TT}{caps:St}{D:Addr}{H1:Hp}{Q:Hp→Prop}(P:G→Bool)(f:G→V)(hl:SqL K H1 a (as.map V.ref))(ga:Am H1 as gs)(hD:H1 D=none)(hz:gs.length≤1000)
  (ht:∀ v g H (R:Bool→Hp→Prop),g∈gs→AG H1 H→H v=some (.tup (G.vs g))→R (P g) H→tc (some (.ref v)::caps) H R)
  (he:∀ v g H (R:VK),g∈gs→AG H1 H→H v=some (.tup (G.vs g))→R (f g) H→te (some (.ref v)::caps) H R)
  (hd:∀ H,AG H1 H→H D=some (.lst ((gs.filter P).map f))→Q H):Ds te tc caps (Itl K a) D H1 Q:=by
 have la:=ga.len
 refine Ee (xs:=as.map V.ref) (fun i ys H=>ys=((gs.take i).filter P).map f∧AG H1 H∧H D=some (.lst ys)) ⟨rfl,Ak hD,AM⟩ (fun _ _ H _ ⟨_,s1,_⟩=>s1.seq hl) ?_ ?_
 ·rintro i x ys H hx ⟨rfl,s1,e1⟩
  have hi:i<gs.length:=by
   have:=(zC.mp hx).1
   rw [z0] at this
   lia
  obtain ⟨v,hv,t1⟩:=ga.get (z9 hi)
  have ex:x=V.ref v:=by
   rw [zN,hv] at hx
   exact (zV hx).symm
  subst ex
  have et:gs.take (i+1)=gs.take i++[gs[i]]:=zS hi
  have hlen:(as.map V.ref).length=gs.length:=by rw [z0,la]
  have hle:(((gs.take i).filter P).map f).length≤i:=by
   rw [z0]
   exact zO (qA _ _) (List.length_take_le _ _)
  refine ht v gs[i] H _ (zY hi) s1 (s1.get t1) ?_
  by_cases hp:P gs[i]=true
  ·rw [if_pos hp]
   refine he v gs[i] H _ (zY hi) s1 (s1.get t1) ?_
   refine ⟨e1,by rw [PySem.sizeLine_eq];lia,_,by lia,rfl,by lia,?_,s1.updFresh hD,AM⟩
   rw [et,qY,qX,if_pos hp,List.filter_nil,zc]
   rfl
  ·rw [if_neg hp]
   refine ⟨_,by lia,rfl,by lia,?_,s1,e1⟩
   rw [et,qY,qX,if_neg hp,List.filter_nil,qS]
 ·rintro ys H ⟨rfl,s1,e1⟩
  rw [z0,la,zj] at e1
  exact hd H s1 e1
structure Vl (H:Hp)(D:Addr)(gs:List G)(L q:Addr)(t:Thr)(sg:List G):Prop where
 eD:H D=some (.tup [.ref L,.ref q])
 eL:H L=some (.lst (((sg.filter fun g=>decide (t.pas g)).map G.p).map V.int))
 eq:H q=some (.tup t.vs)
 ok:OkT t
 hp:sg.Perm gs
 ha:Asc sg
 most:∀ u w m:Int,0<m→∀ ps:List G,ps.Sublist sg→(∀ g∈ps,Gj u w m g)→ps.length≤(sg.filter fun g=>decide (t.pas g)).length
theorem Pu:∀ (xs:List (Int×Int)),xs≠[]→(∀ x∈xs,0<x.2)→∃ x∈xs,∀ y∈xs,x.1*y.2≤y.1*x.2
 | [],h,_=>absurd rfl h
 | [x],_,_=>⟨x,by simp,fun y hy=>by rw [zI.mp hy];exact Int.le_refl _⟩
 | x::z::xs,_,hp=>by
  obtain ⟨y,hy,hm⟩:=Pu (z::xs) (by simp) (fun w hw=>hp w (zK _ hw))
  have px:=hp x (by simp)
  have py:=hp y (zK _ hy)
  by_cases h:x.1*y.2≤y.1*x.2
  ·refine ⟨x,by simp,fun w hw=>?_⟩
   rcases zF.mp hw with e | e
   ·rw [e];exact Int.le_refl _
   ·have pw:=hp w hw
    have k1:=zX h (show 0≤w.2 by lia)
    have k2:=zX (hm w e) (show 0≤x.2 by lia)
    have k3:x.1*w.2*y.2≤w.1*x.2*y.2:=by grind
    exact Int.le_of_mul_le_mul_right k3 py
  ·refine ⟨y,zK _ hy,fun w hw=>?_⟩
   rcases zF.mp hw with e | e
   ·rw [e];lia
   ·exact hm w e
theorem GQ {gs:List G}(ha:Asc gs){i j:Nat}{x y:G}(hx:gs[i]? = some x)(hy:gs[j]? = some y)(h:x.p<y.p):i<j:=by
 rcases Nat.lt_trichotomy i j with c | c | c
 ·exact c
 ·subst c
  rw [hx] at hy
  cases hy
  lia
 ·have:=Bk ha hy hx c
  lia
theorem J3 {gs:List G}(ha:Asc gs)(nb:Bh gs){a b c:G}(h1:a∈gs)(h2:b∈gs)(h3:c∈gs)(l1:a.p<b.p)(l2:b.p<c.p):¬ Qd a b c:=by
 obtain ⟨i,hi⟩:=qB.mp h1
 obtain ⟨j,hj⟩:=qB.mp h2
 obtain ⟨k,hk⟩:=qB.mp h3
 exact fun hb=>nb i j k ⟨GQ ha hi hj l1,GQ ha hj hk l2,a,b,c,hi,hj,hk,hb⟩
theorem Q3 {gs:List G}(ha:Asc gs){x y:G}(hx:x∈gs)(hy:y∈gs)(e:x.p=y.p):x=y:=by
 obtain ⟨i,hi⟩:=qB.mp hx
 obtain ⟨j,hj⟩:=qB.mp hy
 rcases Nat.lt_trichotomy i j with c | c | c
 ·have:=Bk ha hi hj c
  lia
 ·subst c
  rw [hi] at hj
  exact zV hj
 ·have:=Bk ha hj hi c
  lia
theorem KI {K:W.Frag}{a:Addr}{as:List Addr}{gs:List G}{te:TE}{caps:St}{D:Addr}{H1:Hp}{Q:Hp→Prop}(F:Hp→V→G→Prop)(fs:∀ H H' v g,AG H H'→F H v g→F H' v g)
  (fd:∀ H v g xs ys,H D=some (.lst xs)→F H v g→F (L2.upd H D (.lst ys)) v g) (hl:SqL K H1 a (as.map V.ref)) (ga:Am H1 as gs) (hD:H1 D=none) (hz:gs.length≤1000)
  (he:∀ v g H (R:VK),g∈gs→AG H1 H→H v=some (.tup (G.vs g))→(∀ y H',AG H H'→F H' y g→R y H')→te (some (.ref v)::caps) H R)
  (hd:∀ H ys,AG H1 H→H D=some (.lst ys)→Paired (F H) ys gs→Q H):Ds te EM caps (Itl K a) D H1 Q:=by
 have la:=ga.len
 have hlen:(as.map V.ref).length=gs.length:=by rw [z0,la]
 refine Ee (xs:=as.map V.ref) (fun i ys H=>AG H1 H∧H D=some (.lst ys)∧Paired (F H) ys (gs.take i)) ⟨Ak hD,AM,.nil⟩ (fun _ _ H _ ⟨s1,_⟩=>s1.seq hl) ?_ ?_
 ·rintro i x ys H hx ⟨s1,e1,pr⟩
  have hi:i<gs.length:=by
   have:=(zC.mp hx).1
   lia
  obtain ⟨v,hv,t1⟩:=ga.get (z9 hi)
  have ex:x=V.ref v:=by
   rw [zN,hv] at hx
   exact (zV hx).symm
  subst ex
  have et:gs.take (i+1)=gs.take i++[gs[i]]:=zS hi
  have hle:ys.length≤i:=by
   rw [Paired.length pr]
   exact List.length_take_le _ _
  unfold EM
  dsimp only
  rw [if_pos rfl]
  refine he v gs[i] H _ (zY hi) s1 (s1.get t1) fun y H' s2 fy=>?_
  refine ⟨s2.get e1,by rw [PySem.sizeLine_eq];lia,_,by lia,rfl,by lia,(s1.trans s2).updFresh hD,AM,?_⟩
  rw [et]
  have e2:=s2.get e1
  have pr2:=Paired.mapP pr fun v g h=>fd _ _ _ _ (ys++[y]) e2 (fs _ _ _ _ s2 h)
  have app:∀ {α β:Type} {F:α→β→Prop} {l:List α} {r:List β} {x:α} {y:β},Paired F l r→F x y→Paired F (l++[x]) (r++[y]):=by
   intro α β F l r x y h hxy
   induction h with
   | nil=>exact .cons hxy .nil
   | cons h1 _ ih=>exact .cons h1 ih
  exact app pr2 (fd _ _ _ _ _ e2 fy)
 ·rintro ys H ⟨s1,e1,pr⟩
  rw [hlen,zj] at pr
  exact hd H ys s1 e1 pr
theorem Paired.eq_map {α β:Type}{f:β→α}:∀ {xs:List α} {ys:List β},Paired (fun x y=>x=f y) xs ys→xs=ys.map f
 | _,_,.nil=>rfl
 | _,_,.cons h t=>by rw [zU,← Paired.eq_map t,h]
theorem Uc {p0 h0 p1 h1 a b c d:Int}(lt:p0<p1)(L1:FD (h0*(p1-p0)-p0*(h1-h0)) (p1-p0) a b)(L2:FD (h1-h0) (p1-p0) c d) :
  (∀ g:G,(⟨a,b,c,d⟩:Thr).pas g↔Gj (h0*p1-h1*p0) (h1-h0) (p1-p0) g)∧(⟨a,b,c,d⟩:Thr).gap p0 h0=0∧(⟨a,b,c,d⟩:Thr).gap p1 h1=0:=by
 have e1:=L1.eq
 have e2:=L2.eq
 have hb:=L1.pos
 have hd:=L2.pos
 have hbd:0<b*d:=Int.mul_pos hb hd
 have hS:0<p1-p0:=by lia
 have eU:h0*(p1-p0)-p0*(h1-h0)=h0*p1-h1*p0:=by grind
 rw [eU] at e1
 have key:∀ p,(p1-p0)*(a*d+c*b*p)=(b*d)*(h0*p1-h1*p0+(h1-h0)*p):=fun p=>by grind
 refine ⟨fun g=>?_,?_,?_⟩
 ·rw [FA]
  unfold Gj
  show g.f*(b*d)≤a*d+c*b*g.p∧a*d+c*b*g.p≤g.h*(b*d)↔_
  have k:=key g.p
  constructor
  ·rintro ⟨q1,q2⟩
   have r1:=zt q1 (qM hS)
   have r2:=zt q2 (qM hS)
   rw [k] at r1 r2
   refine ⟨zm (a:=b*d) ?_ hbd,zm (a:=b*d) ?_ hbd⟩
   ·rw [show b*d*(g.f*(p1-p0))=(p1-p0)*(g.f*(b*d)) by grind];exact r1
   ·rw [show b*d*(g.h*(p1-p0))=(p1-p0)*(g.h*(b*d)) by grind];exact r2
  ·rintro ⟨q1,q2⟩
   have r1:=zt q1 (qM hbd)
   have r2:=zt q2 (qM hbd)
   rw [← k] at r1 r2
   refine ⟨zm (a:=p1-p0) ?_ hS,zm (a:=p1-p0) ?_ hS⟩
   ·rw [show (p1-p0)*(g.f*(b*d))=b*d*(g.f*(p1-p0)) by grind];exact r1
   ·rw [show (p1-p0)*(g.h*(b*d))=b*d*(g.h*(p1-p0)) by grind];exact r2
 ·show a*d+c*p0*b-h0*b*d=0
  have k:=key p0
  have hz:(p1-p0)*(a*d+c*p0*b-h0*b*d)=0:=by grind
  rcases Int.mul_eq_zero.mp hz with z | z
  ·lia
  ·exact z
 ·show a*d+c*p1*b-h1*b*d=0
  have k:=key p1
  have hz:(p1-p0)*(a*d+c*p1*b-h1*b*d)=0:=by grind
  rcases Int.mul_eq_zero.mp hz with z | z
  ·lia
  ·exact z
theorem WU {p0 h0 p1 h1 a b c d:Int}(b0:p0.natAbs≤1000)(b1:h0.natAbs≤1000)(b2:p1.natAbs≤1000)(b3:h1.natAbs≤1000)(L1:FD (h0*(p1-p0)-p0*(h1-h0)) (p1-p0) a b)(L2:FD (h1-h0) (p1-p0) c d):OkT ⟨a,b,c,d⟩:=by
 have m1:=Ch (m:=1000) (n:=2000) b1 (show (p1-p0).natAbs≤2000 by clear L1 L2 b1 b3;lia)
 have m2:=Ch (m:=1000) (n:=2000) b0 (show (h1-h0).natAbs≤2000 by clear L1 L2 m1 b0 b2;lia)
 have t1:(h0*(p1-p0)-p0*(h1-h0)).natAbs≤1000*2000+1000*2000:=zO (Int.natAbs_sub_le _ _) (Nat.add_le_add m1 m2)
 have s1:(p1-p0).natAbs≤2000:=by clear m1 m2 t1 L1 L2 b1 b3;lia
 have s2:(h1-h0).natAbs≤2000:=by clear m1 m2 t1 L1 L2 b0 b2;lia
 exact ⟨zO L1.absx (zO t1 (by decide)),zO L1.absy (zO s1 (by decide)),zO L2.absx (zO s2 (by decide)),zO L2.absy (zO s1 (by decide)),L1.pos,L2.pos,L1.one,L2.one⟩
noncomputable def LeR (x y u v:G):Prop:=(y.h-x.f)*(v.p-u.p)≤(v.h-u.f)*(y.p-x.p)
theorem LeR.refl (x y:G):LeR x y x y:=Int.le_refl _
theorem LeR.trans {x y u v u' v':G}(l0:x.p<y.p)(l1:u.p<v.p)(l2:u'.p<v'.p)(h1:LeR x y u v)(h2:LeR u v u' v'):LeR x y u' v':=by
 unfold LeR at *
 have r1:=zX h1 (show 0≤v'.p-u'.p by lia)
 have r2:=zX h2 (show 0≤y.p-x.p by lia)
 refine zm (a:=v.p-u.p) ?_ (by lia)
 have e1:(v.p-u.p)*((y.h-x.f)*(v'.p-u'.p))=(y.h-x.f)*(v.p-u.p)*(v'.p-u'.p):=by grind
 have e2:(v.p-u.p)*((v'.h-u'.f)*(y.p-x.p))=(v'.h-u'.f)*(v.p-u.p)*(y.p-x.p):=by grind
 have e3:(v.h-u.f)*(y.p-x.p)*(v'.p-u'.p)=(v.h-u.f)*(v'.p-u'.p)*(y.p-x.p):=by grind
 rw [e1,e2]
 rw [e3] at r1
 exact Int.le_trans r1 r2
structure ao (H:Hp)(D:Addr)(gs:List G)(q:Addr)(t:Thr)(x y:G):Prop where
 eD:H D=some (.tup [.ref q,.int x.p,.int y.p])
 eq:H q=some (.tup t.vs)
 ok:OkT t
 all:∀ g∈gs,t.pas g
 hx:x∈gs
 hy:y∈gs
 lt:x.p<y.p
 tx:t.gap x.p x.f=0
 ty:t.gap y.p y.h=0
theorem MB {gs:List G}(ha:Asc gs)(ok:∀ g∈gs,OkG g){x y:G}(hx:x∈gs)(hy:y∈gs)(lt:x.p<y.p)(least:∀ x'∈gs,∀ y'∈gs,x'.p<y'.p→LeR x y x' y')(hn:¬ ∀ g∈gs,Gj (x.f*y.p-y.h*x.p) (y.h-x.f) (y.p-x.p) g):¬ Bh gs:=fun nb =>
 hn (Qh ok hx hy lt least (fun g hg g' hg' e=>Q3 ha hg hg' e) (fun m hm l z=>J3 ha nb hm hx hy l lt (.inl z)) (fun m hm l z=>J3 ha nb hx hy hm lt l (.inr z)))
theorem S9 {gs sg:List G}(hp:sg.Perm gs)(ha:Asc sg)(hb:¬ Bh sg){t:List Int}(h:Bd gs t):t≠[]:=by
 rcases h with ⟨sg',hp',ha',hn,rfl⟩ | ⟨_,_,_,_,_,_,_,_,_,_,_,_,_,rfl⟩
 ·have e:=BO ha' ha (hp'.trans hp.symm)
  subst e
  exact absurd hn hb
 ·simp
noncomputable def CV (g:G):G:=⟨g.p,-g.h,-g.f⟩
noncomputable def Kz (t:Thr):Thr:=⟨-t.a,t.b,-t.c,t.d⟩
theorem Zp {g:G}(h:OkG g):OkG (CV g):=by
 obtain ⟨h1,h2,h3,h4,h5⟩:=h
 exact ⟨h1,h2,by show -1000≤-g.h;lia,by show -g.h≤-g.f;lia,by show -g.f≤1000;lia⟩
theorem Yk {t:Thr}(h:OkT t):OkT (Kz t):=by
 obtain ⟨h1,h2,h3,h4,h5,h6,h7,h8⟩:=h
 exact ⟨by show (-t.a).natAbs≤_;lia,h2,by show (-t.c).natAbs≤_;lia,h4,h5,h6,by show Int.gcd (-t.a) t.b=1;rw [Int.neg_gcd];exact h7,by show Int.gcd (-t.c) t.d=1;rw [Int.neg_gcd];exact h8⟩
theorem ZI {t:Thr}{g:G}:(Kz t).pas g↔t.pas (CV g):=by
 show Pas (-t.a) t.b (-t.c) t.d g.p g.f g.h↔Pas t.a t.b t.c t.d g.p (-g.h) (-g.f)
 unfold Pas
 have e1:-t.a*t.d+g.p*-t.c*t.b = -(t.a*t.d+g.p*t.c*t.b):=by grind
 have e2:-g.h*(t.b*t.d) = -(g.h*(t.b*t.d)):=by grind
 have e3:-g.f*(t.b*t.d) = -(g.f*(t.b*t.d)):=by grind
 rw [e1,e2,e3]
 generalize t.a*t.d+g.p*t.c*t.b=A
 generalize g.h*(t.b*t.d)=B
 generalize g.f*(t.b*t.d)=C
 constructor<;>(rintro ⟨h1,h2⟩;exact ⟨by lia,by lia⟩)
theorem ZB {gs:List G}(h:Asc gs):Asc (gs.map CV):=by
 unfold Asc
 rw [qQ]
 exact h
theorem XG {a b c:G}:Qd (CV a) (CV b) (CV c)↔Qd a b c:=by
 have e1:CI (CV a) (CV b) (CV c)↔CK a b c:=by
  show -a.f*(c.p-b.p)+-c.f*(b.p-a.p) < -b.h*(c.p-a.p)↔b.h*(c.p-a.p)<a.f*(c.p-b.p)+c.f*(b.p-a.p)
  have q1:-a.f*(c.p-b.p)+-c.f*(b.p-a.p) = -(a.f*(c.p-b.p)+c.f*(b.p-a.p)):=by grind
  have q2:-b.h*(c.p-a.p) = -(b.h*(c.p-a.p)):=by grind
  rw [q1,q2]
  generalize a.f*(c.p-b.p)+c.f*(b.p-a.p)=A
  generalize b.h*(c.p-a.p)=B
  constructor<;>(intro h;lia)
 have e2:CK (CV a) (CV b) (CV c)↔CI a b c:=by
  show -b.f*(c.p-a.p) < -a.h*(c.p-b.p)+-c.h*(b.p-a.p)↔a.h*(c.p-b.p)+c.h*(b.p-a.p)<b.f*(c.p-a.p)
  have q1:-a.h*(c.p-b.p)+-c.h*(b.p-a.p) = -(a.h*(c.p-b.p)+c.h*(b.p-a.p)):=by grind
  have q2:-b.f*(c.p-a.p) = -(b.f*(c.p-a.p)):=by grind
  rw [q1,q2]
  generalize a.h*(c.p-b.p)+c.h*(b.p-a.p)=A
  generalize b.f*(c.p-a.p)=B
  constructor<;>(intro h;lia)
 unfold Qd
 rw [e1,e2]
 exact Or.comm
theorem WE {gs:List G}(h:Bh gs):Bh (gs.map CV):=fun i j k ⟨h1,h2,a,b,c,e1,e2,e3,hb⟩=>by
 rw [zN] at e1 e2 e3
 obtain ⟨a',f1,rfl⟩:=zi.mp e1
 obtain ⟨b',f2,rfl⟩:=zi.mp e2
 obtain ⟨c',f3,rfl⟩:=zi.mp e3
 exact h i j k ⟨h1,h2,a',b',c',f1,f2,f3,XG.mp hb⟩
theorem Hm.updL {H:Hp}{a R:Addr}{r:Run}{xs ys:List V}(h:Hm H a r)(hR:H R=some (.lst xs)):Hm (L2.upd H R (.lst ys)) a r:=by
 obtain ⟨q,e1,e2,e3⟩:=h
 exact ⟨q,by rw [AO (IA e1 hR (by intro z;cases z))];exact e1,by rw [AO (IA e2 hR (by intro z;cases z))];exact e2,e3⟩
theorem VH:∀ {rs:List Run} {r r':Run},Far (rs++[r])→¬ Bh (r.all++[r'.g])→Far (rs++[r]++[r'])
 | [],_,_,_,h=>⟨h,trivial⟩
 | [a],r,r',h1,h=>⟨h1.1,h,trivial⟩
 | a::b::rs,r,r',h1,h=>⟨h1.1,VH (rs:=b::rs) h1.2 h⟩
theorem UL:∀ {rs:List Run} {r r':Run},Far (rs++[r])→r.g=r'.g→Far (rs++[r'])
 | [],_,_,_,_=>trivial
 | [a],r,r',h1,e=>⟨by rw [← e];exact h1.1,trivial⟩
 | a::b::rs,r,r',h1,e=>⟨h1.1,UL (rs:=b::rs) h1.2 e⟩
theorem Ur (r:Run):[r].flatMap Run.all=r.all:=by simp
theorem Asc.take' {gs:List G}(h:Asc gs)(n:Nat):Asc (gs.take n):=List.Pairwise.sublist (List.take_sublist n gs) h
theorem Asc.right {xs ys:List G}(h:Asc (xs++ys)):Asc ys:=(List.pairwise_append.mp h).2.1
theorem Rw (g:G)(rest:List G)(t:Thr):∃ pre,g::rest=pre++[(⟨g,rest,t⟩:Run).last]:=by
 induction rest generalizing g with
 | nil=>exact ⟨[],rfl⟩
 | cons a r ih =>
  obtain ⟨pre,e⟩:=ih a
  refine ⟨g::pre,?_⟩
  have e2:(⟨g,a::r,t⟩:Run).last=(⟨a,r,t⟩:Run).last:=List.getLastD_cons ..
  rw [e2,qV,← e]
theorem X1 {H:Hp}{as:List Addr}{pre:List G}{g:G}(h:Am H as (pre++[g])):∃ bs a,as=bs++[a]∧H a=some (.tup (G.vs g)):=by
 have hl:=h.len
 rw [zD] at hl
 have hne:as≠[]:=fun z=>by rw [z] at hl;simp at hl
 obtain ⟨a,ha,ea⟩:=h.get (i:=pre.length) (g:=g) (by simp)
 refine ⟨as.dropLast,as.getLast hne,(List.dropLast_concat_getLast hne).symm,?_⟩
 have e:as.getLast hne=a:=by
  rw [List.getLast_eq_getElem]
  have:=(zC.mp ha).2
  rw [← this]
  congr 1
  simp at hl
  lia
 rw [e]
 exact ea
end TG
namespace L2
open PySem PySem.Spec PyProof.Rows
theorem BM.here {P:Program}{w:World}{H:Hp}{h:Heap}{a:Addr}{o:HO}(x:BM P w H h a o):∃ ob,h.get? a=some ob:=by
 cases q:h.get? a with
 | some ob=>exact ⟨ob,rfl⟩
 | none =>
  exfalso
  have x':BM P w H h a o:=x
  induction o with
  | lst xs=>obtain ⟨_,_,_,_,e⟩:=x';rw [q] at e;cases e
  | tup xs=>obtain ⟨_,_,_,o,e,_⟩:=x';rw [q] at e;cases e
  | dK kvs=>obtain ⟨_,_,_,_,o,_,_,e,_⟩:=x';rw [q] at e;cases e
  | dT kvs=>obtain ⟨_,_,_,_,o,_,_,e,_⟩:=x';rw [q] at e;cases e
  | set S n=>obtain ⟨o,_,_,_,e,_⟩:=x';rw [q] at e;cases e
  | ins C dx fs=>obtain ⟨_,_,_,e,_⟩:=x';rw [q] at e;cases e
  | own b=>obtain ⟨o,e⟩:=x';rw [q] at e;cases e
  | xd fs=>obtain ⟨_,⟨o,_,_,e,_⟩,_⟩:=x';rw [q] at e;cases e
  | rng lo hi=>obtain ⟨_,_,_,e⟩:=x';rw [q] at e;cases e
  | frz o u ih=>exact ih x'.2 x'.2
  | tbl ps=>have e:h.get? a=_:=x';rw [q] at e;cases e
  | met f y=>have e:h.get? a=_:=x';rw [q] at e;cases e
  | ext φ=>obtain ⟨_,⟨o,e⟩,_⟩:=x';rw [q] at e;cases e
noncomputable def Fly (l:List Env)(hs:Heap)(H':Hp)(ea:Addr)(cls:Value)(h:Heap):Prop:=
 ∃ (B:Heap) (a0:Value),Heap.FlyingW B l ea cls a0 h∧(∀ b o,hs.get? b=some o→b∉frs l→∃ o',B.get? b=some o')∧∀ b,H' b≠none→∃ o',B.get? b=some o'
noncomputable def CXE (P:Program)(w:World):CXT:=fun outer H s E e s'=>∃ (ea:Addr) (cls:Value) (H':Hp),e = .ref ea∧s'.os=s.os∧AllBare s'.gens∧Un (frs outer) [] H H' s.heap s'.heap∧HOk P w H' s'.heap∧Fly outer s.heap H' ea cls s'.heap∧E cls none H'
section
variable {X:Cx} {pins:List (Addr×Obj)} {σ σ1:St} {H H1 H':Hp} {s s1 s':Shared} {h' B:Heap} {ea:Addr} {cls:Value}
theorem Inv.notStack (I:Inv X pins σ H s){b:Addr}{o:Obj}(e:X.s₀.heap.get? b=some o)(hb:b∉X.fs):b∉frs X.stack:=fun hm=>by
 rcases zF.mp (I.stkSub b hm) with z | z
 ·exact absurd (zM (zJ e) I.ok.above) (by rw [z];exact qF _)
 ·exact hb z
theorem Inv.fly (I1:Inv X pins σ1 H1 s1)(I:Inv X pins σ H s)(hB:B.StaysIn s.heap)(hB':B.StaysIn h')(up:s.heap.UpToSlots h')
  (c1:∀ b o,s1.heap.get? b=some o→b∉frs X.stack→∃ o',B.get? b=some o') (c2:∀ b,H b≠none→∃ o',B.get? b=some o'):Inv X pins σ H { s with heap:=h' }:=by
 have via:∀ b o,s.heap.get? b=some o→(∃ o',B.get? b=some o')→h'.get? b=some o:=fun b o e ⟨o',eb⟩=>by
  have:=hB b o' eb
  rw [e] at this
  cases this
  exact hB' b o eb
 have slot:∀ b o,X.s₀.heap.get? b=some o→X.H₀ b=none→b∈X.fs→b∉X.ex→∃ sl,h'.get? b=some { o with slots:=sl }:=fun b o e n hb hx=>by
  obtain ⟨sl,e1⟩:=I.base.slot b o e n hb hx
  obtain ⟨_,of,hof,hnf⟩:=I.ok.funs.mem hb
  rw [e] at hof
  cases hof
  obtain ⟨sl',e2⟩:=up b _ e1 hnf
  exact ⟨sl',e2⟩
 have cellK:∀ c v,s.heap.IsCell c v→h'.IsCell c v:=fun c v ⟨o,ho,hd⟩=>by
  obtain ⟨sl,e⟩:=up c o ho (fun vs q=>by rw [hd] at q;cases q)
  exact ⟨_,e,hd⟩
 refine ⟨I.ok,I.os,I.bare,⟨fun b o e n hb hx=>?_,slot,I.base.free,fun b o e hx=>?_,I.base.tups,I.base.frzs,I.base.tbls⟩,?_,fun x c e=>?_,I.free,I.freeC,fun p hp=>?_,fun b u e=>?_,I.len⟩
 ·exact via b o (I.base.keep b o e n hb hx) (c1 b o (I1.base.keep b o e n hb hx) (I.notStack e hb))
 ·by_cases hb:b∈X.fs
  ·obtain ⟨sl,q⟩:=slot b o e (I.ok.frf b hb) hb hx
   exact ⟨_,q⟩
  ·obtain ⟨o1,a1⟩:=I1.base.there b o e hx
   obtain ⟨o',eb⟩:=c1 b o1 a1 (I.notStack e hb)
   exact ⟨o',hB' b o' eb⟩
 ·obtain ⟨m,hn,hl⟩:=I.loc
  refine ⟨m,up.ns hn,fun i x v e1 e2 e3=>?_⟩
  obtain ⟨u,r,l⟩:=hl i x v e1 e2 e3
  refine ⟨u,r,?_⟩
  rcases l with l | ⟨k,c,e,z⟩
  ·exact .inl l
  ·exact .inr ⟨k,c,e,cellK c _ z⟩
 ·obtain ⟨v,z⟩:=I.cell x c e
  exact ⟨v,cellK c v z⟩
 ·obtain ⟨e,n,ne,nf,d⟩:=I.pin p hp
  refine ⟨via p.1 p.2 e (c1 p.1 p.2 (I1.pin p hp).1 fun hm=>?_),n,ne,nf,d⟩
  rcases zF.mp (I.stkSub _ hm) with z | z
  ·exact ne z
  ·exact nf z
 ·refine (I.hok b u e).stay (fun c v hc q=>via c v q (c2 c ?_)) (fun _ q=>q) fun _ _ q=>q
  rcases hc with z | z
  ·rw [z,e];simp
  ·rw [z];simp
structure Arr (X:Cx)(pins:List (Addr×Obj))(σ:St)(ea:Addr)(cls:Value)(H':Hp)(s':Shared):Prop where
 inv:Inv X pins σ H' s'
 fly:∃ (H1:Hp) (s1:Shared),Inv X pins σ H1 s1∧Fly X.stack s1.heap H' ea cls s'.heap
theorem Yu {E:XK}{e:Value}(I:Inv X pins σ H s)(h:CXE X.prog X.w X.stack H s E e s'):∃ ea cls H',e = .ref ea∧Arr X pins σ ea cls H' s'∧E cls none H':=by
 obtain ⟨ea,cls,H',rfl,os,bare,un,hok,fl,hE⟩:=h
 exact ⟨ea,cls,H',rfl,⟨I.call' (ch:=[]) os un hok bare (fun b z=>absurd z (by simp)),H,s,I,fl⟩,hE⟩
end
section
variable {P:Program} {w:World} {K:W.Frag} {mg:Str→Option Value} {base:Heap} {N:List Str} {qual:Str} {scope:Scope} {f:Addr} {cd:Value} {A:Around} {outer:List Env} {s:Shared} {H:Hp} {E:XK}
 {pins:List (Addr×Obj)} {σ:St} {H1 H':Hp} {s1 s':Shared} {ea:Addr} {cls:Value} {h':Heap} {args:List Value}
theorem gD (a:Arr (BF (CXE P w) P w K mg base N qual scope f cd A outer s H E) pins σ ea cls H' s')(hE:E cls none H'):(BF (CXE P w) P w K mg base N qual scope f cd A outer s H E).xe (.ref ea) s':=by
 obtain ⟨I,H1,s1,I1,B,a0,fl,c1,c2⟩:=a
 refine wpAny_leaves_onW (A:=A.deeper (envOfC qual scope s.heap.objs.size f cd)) (env:=envOfC qual scope s.heap.objs.size f cd) (outer:=outer) I.ok.frames rfl fl fun h' fl' up=>?_
 have I2:=Inv.fly I1 I fl.1 fl'.1 up c1 c2
 refine ⟨ea,cls,H',rfl,I2.os,I2.bare,I2.base,I2.hok,⟨B,a0,fl',fun b o e hb=>?_,c2⟩,hE⟩
 obtain ⟨o1,a1⟩:=I1.base.there b o e (fun z=>absurd (show b∈([]:List Addr) from z) (by simp))
 exact c1 b o1 a1 (I.notStack e hb)
theorem aL (I:Inv (BF (CXE P w) P w K mg base N qual scope f cd A outer s H E) pins σ H1 s1)(hx:Heap.MadeExcOf s1.heap h' ea cls args)(hE:E cls none H1):(BF (CXE P w) P w K mg base N qual scope f cd A outer s H E).xe (.ref ea) { s1 with heap:=h' }:=by
 have hin:∀ env∈(envOfC qual scope s.heap.objs.size f cd::outer),∀ b,env.frame=some b→b∈frs (envOfC qual scope s.heap.objs.size f cd::outer):=fun env he b hb=>List.mem_filterMap.mpr ⟨env,he,hb⟩
 have hfun:s1.heap.FunFrames (W.hideAll s1.heap (frs (envOfC qual scope s.heap.objs.size f cd::outer))) (envOfC qual scope s.heap.objs.size f cd::outer):=W.funFrames_hide I.stack hin
 have c1:∀ b o,s1.heap.get? b=some o→b∉frs (envOfC qual scope s.heap.objs.size f cd::outer)→∃ o',(W.hideAll s1.heap (frs (envOfC qual scope s.heap.objs.size f cd::outer))).get? b=some o':=fun b o e hb=>⟨o,W.hideAll_get _ e hb⟩
 have c2:∀ b,H1 b≠none→∃ o',(W.hideAll s1.heap (frs (envOfC qual scope s.heap.objs.size f cd::outer))).get? b=some o':=fun b n=>by
  cases q:H1 b with
  | none=>exact absurd q n
  | some o =>
   obtain ⟨ob,e⟩:=(I.hok b o q).here
   exact ⟨ob,W.hideAll_get _ e fun z=>by rw [I.stkFree b z] at q;cases q⟩
 refine wpAny_leaves_madeW (A:=A.deeper (envOfC qual scope s.heap.objs.size f cd)) (s:={ s1 with heap:=h' }) (env:=envOfC qual scope s.heap.objs.size f cd) (outer:=outer) I.ok.frames rfl (fun b o q=>W.of_hideAll _ q) hfun hx fun h'' t fl tup tn up=>?_
 have I':Inv (BF (CXE P w) P w K mg base N qual scope f cd A outer s H E) pins σ H1 { s1 with heap:=h' }:=I.kept (t':=s1.toks) hx.keeps
 have I2:=Inv.fly (h':=h'') I I' (fun b o q=>hx.keeps b o (W.of_hideAll _ q)) fl.1 up c1 c2
 refine ⟨ea,cls,H1,rfl,I2.os,I2.bare,I2.base,I2.hok,⟨_,_,fl,fun b o e hb=>?_,c2⟩,hE⟩
 obtain ⟨o1,a1⟩:=I.base.there b o e (fun z=>absurd (show b∈([]:List Addr) from z) (by simp))
 exact c1 b o1 a1 (I.notStack e hb)
theorem Aw:E4 (CXE P w) (BF (CXE P w) P w K mg base N qual scope f cd A outer s H E) E:=fun pins σ H s e s' I h=>by
 obtain ⟨ea,cls,H',rfl,arr,hE⟩:=Yu I h
 exact gD arr hE
theorem bw:PassesOwn (model P w) (BF (CXE P w) P w K mg base N qual scope f cd A outer s H E).A (BF (CXE P w) P w K mg base N qual scope f cd A outer s H E).env (BF (CXE P w) P w K mg base N qual scope f cd A outer s H E).xe:=PassesOwn.leaving (Q₁:=fun e s''=>CXE P w outer H s E e s'')
theorem Fun.okX {x qual:Str}{st:Stmt}{f:Addr}{fd:FuncData}{N ps:List Str}{k:Nat}{sp:Sp}(F:Fun K x qual st f fd)(S:AJ N ps (AF st))(len:∀ vs H Q E,sp vs H Q E→vs.length=ps.length)
  (hbody:∀ (cdv:Value) (A:Around) (outer:List Env) (s:Shared) (H:Hp) (vs:List V) (Q:VK) (E:XK),CT k (A.deeper (envOfC qual (AF st) s.heap.objs.size f cdv))→sp vs H Q E →
   ∃ t,PSs (BF (CXE P w) P w K mg base N qual (AF st) f cdv A outer s H E) (BK st) t∧t { nx:=fun _ H'=>Q .non H',rt:=Q } (start N vs) H):Aa P w K mg base (CXE P w) (k+1) f fd ps sp:=by
 obtain ⟨oc,od,kV,doc,pm,an,cdv,ct,osl,rfl,lk,hcd⟩:=F.ex
 exact Ws lk hcd S len fun A outer s H vs Q E hr hsp=>hbody cdv A outer s H vs Q E hr hsp
end
structure DM (K:W.Frag)(C:Addr)(x qual:Str)(st:Stmt)(ps:List Str)(f:Addr)(fd:FuncData):Prop where
 F:Fun K x qual st f fd
 mt:Xr K C x f
 b:Binds K fd ps []
noncomputable abbrev bmV:List Value:=[.type "ValueError",.type "Exception",.type "BaseException",.type "object"]
noncomputable abbrev GZ (K:W.Frag)(C:Addr):Prop:=W.excIn K C bmV "ValueError.__new__"=true
theorem toArr {α:Type}{sl:Array α}{l:List α}(e:sl.toList=l):sl=l.toArray:=by rw [← e]
theorem GZ.rec {K:W.Frag}{C:Addr}(q:GZ K C):∃ (dd:Option Addr) (cd:ClassData) (bm:List Value) (k0 k1 k2 k3 k5:Option Value),
  K.lookup C=some ⟨.type "type",dd,.cls cd,#[k0,k1,k2,k3,some (.builtin "ValueError.__new__"),k5]⟩∧cd.mro = .ref C::bm∧cd.hasDel=false∧W.tailIn K bmV bm=true∧W.nsOkIn K cd.ns=true∧W.nsIn K cd.ns "__init__"=some none:=by
 simp only [GZ,W.excIn] at q
 repeat' split at q
 all_goals first | exact absurd q za | skip
 next dd cd sl hK mr ll C' bm k0 k1 k2 k3 n k5 e1 e2 =>
  rw [toArr e2] at hK
  simp only [qG] at q
  obtain ⟨⟨⟨⟨⟨h1,h2⟩,h3⟩,h4⟩,h5⟩,h6⟩:=q
  have h1:C'=C:=by simpa using h1
  have h2:n="ValueError.__new__":=by simpa using h2
  subst h1 h2
  exact ⟨dd,cd,bm,k0,k1,k2,k3,k5,hK,e1,by simpa using h3,h4,h5,by simpa using h6⟩
theorem GZ.own {K:W.Frag}{C:Addr}{x:Str}{mg:Str→Option Value}{h:Heap}(q:GZ K C)(X:K.In h)(hm:mg x=some (.ref C)):OwnCls x C bmV "ValueError.__new__" mg h:=by
 obtain ⟨dd,cd,bm,k0,k1,k2,k3,k5,hK,e1,e2,e3,e4,e5⟩:=q.rec
 have ns:h.Ns cd.ns (h.nsMap cd.ns):=.of_isNs (W.isNs_of_in X e4)
 have no:h.nsMap cd.ns "__init__"=none:=W.nsMap_none_of_in X e4 e5
 have tl:=W.tail_of_in X e3
 rcases cd with ⟨a1,a2,a3,a4,a5,a6,a7,a8,a9,a10,a11⟩
 simp only at e1 e2
 subst e1 e2
 exact ⟨hm,bm,a4,a1,a5,a2,a6,a7,a8,a9,a10,dd,k0,k1,k2,k3,k5,_,X _ _ hK,ns,no,tl⟩
noncomputable def bN (X:Cx)(E:XK):Prop:=∀ (pins:List (Addr×Obj)) (σ:St) (H:Hp) (s:Shared) (h':Heap) (ea:Addr) (cls:Value) (args:List Value),Inv X pins σ H s→Heap.MadeExcOf s.heap h' ea cls args→E cls none H→X.xe (.ref ea) { s with heap:=h' }
theorem C4 {P:Program}{w:World}{K:W.Frag}{mg:Str→Option Value}{base:Heap}{N:List Str}{qual:Str}{scope:Scope}{f:Addr}{cd:Value}{A:Around}{outer:List Env}{s:Shared}{H:Hp}{E:XK}:bN (BF (CXE P w) P w K mg base N qual scope f cd A outer s H E) E:=fun _ _ _ _ _ _ _ _ I hx hE=>aL I hx hE
section
variable {X:Cx} {E:XK} {x:Str} {C:Addr} {np cpos pos:Pos} {e:Expr} {es:List Expr} {t:TA}
noncomputable def ME (C:Addr)(E:XK)(t:TA):TS:=fun _ σ H=>t σ H fun vs H1=>vs.length≤sizeLine∧E (.ref C) none H1
theorem A1 (hp:bN X E)(hc:X.calm=true)(q:GZ X.K C)(hg:Gl X x)(hm:X.mg x=some (.ref C))(ha:PA X (e::es) t)(hdb:(x == ("__debug__":Str))=false:=by decide)
  (he:starEach (e::es) X.env=(false,eval e X.env)::starEach es X.env:=by rfl) (hpl:(backTo cpos (starEach es X.env)).any (·.1)=false:=by rfl) :
  PS X (.Raise (some (.Call (.Name x np) (e::es) [] cpos)) none pos) (ME C E t):=by
 intro pins s σ H D I h
 obtain ⟨tl,N,nm,q',bs,hdct,sn,sub,ab,col,dd,k0,k1,k2,k3,k5,mN,hC,hN,hni,T⟩:=(GZ.own q I.mod.kin hm).obj
 refine wpAny_Raise_call_subT (C:=C) (nm:=nm) (q:=q') (N:=N) (bs:=bs) (bm:=tl) (hdct:=hdct) (sn:=sn) (sub:=sub) (ab:=ab) (col:=col) (dd:=dd) (k0:=k0) (k1:=k1) (k2:=k2) (k3:=k3) (k5:=k5)
  PySem.F.excBase_ValueError (mN:=mN) (T.hasType PySem.F.excBase_ValueError.hasBase) (I.ok.hd hc) (by rw [he];show (false || (backTo cpos (starEach es X.env)).any (·.1))=false;rw [hpl];rfl) hni (HM I hg hm ⟨rfl,?_⟩ hdb)
 have hs:=ha cpos pins s σ H _ I h
 rw [he] at hs ⊢
 refine Calls.evalArgs_plain (thn hs fun us s1 zq=>?_)
 obtain ⟨vs,H1,I1,r,z,hE⟩:=zq
 exact ⟨rfl,by rw [← r.length];exact z,I1.bk _ _ hC,hN.keeps I1.bk,T.keeps I1.bk,fun h' ea hx=>hp pins σ H1 s1 h' ea (.ref C) us I1 hx hE⟩
end
noncomputable def O5 (X:Cx)(N:Value→St→Hp→Prop):Prop:=∀ (pins:List (Addr×Obj)) (σ:St) (H:Hp) (s:Shared) (e:Value) (s':Shared),Inv X pins σ H s→CXE X.prog X.w X.stack H s (fun cls _ H'=>N cls σ H') e s'→X.xe e s'
section
variable {X:Cx} {k:Nat} {f C:Addr} {fd:FuncData} {ps:List Str} {sp:Sp} {dvs:List V} {ds:List Value} {N:Value→St→Hp→Prop} {x m:Str} {p pos apos:Pos} {e o:Expr} {es:List Expr} {ta:TE} {t:TA}
theorem Ww {pins:List (Addr×Obj)}{σ:St}{H:Hp}{s:Shared}{Q:VK}{us:List Value}{vs:List V}(F:Aa X.prog X.w X.K X.mg X.base (CXE X.prog X.w) k f fd ps sp)(hr:CT k X.A)(hb:Binds X.K fd ps ds)(hd:An dvs ds)(hx:O5 X N)
  (I:Inv X pins σ H s) (r:An vs us) (h:sp (vs++dvs) H Q (fun cls _ H'=>N cls σ H')):wpAny (model X.prog X.w) X.A (call (.ref f) us) (EP X pins σ Q) X.xe s:=by
 have r2:An (vs++dvs) (us++ds):=r.append hd
 have hl:(us++ds).length=ps.length:=by rw [← r2.length];exact F.len _ _ _ _ h
 refine wpAny_call (codeAny_mono (F.run X.A X.stack s H ⟨us,[]⟩ (us++ds) (vs++dvs) Q _ hr I.env0 (hb s us I.kIn hl) r2 h) fun r s' hq=>?_)
 cases r with
 | error e=>exact hx pins σ H s e s' I hq
 | ok fl =>
  cases fl with
  | ret u=>exact I.after hq
  | next=>exact False.elim hq
  | brk=>exact False.elim hq
  | cont=>exact False.elim hq
noncomputable def WI (sp:Sp)(dvs:List V)(N:Value→St→Hp→Prop)(t:TA):TE:=fun σ H Q=>t σ H fun vs H1=>sp (vs++dvs) H1 Q (fun cls _ H'=>N cls σ H')
noncomputable def Yg (C:Addr)(m:Str)(sp:Sp)(dvs:List V)(N:Value→St→Hp→Prop)(ta:TE)(t:TA):TE:=fun σ H Q=>ta σ H fun x H1=>∃ a dx fs,x = .ref a∧H1 a=some (.ins C dx fs)∧fs.lookup m=none ∧
 t σ H1 fun vs H2=>sp (x::(vs++dvs)) H2 Q (fun cls _ H'=>N cls σ H')
theorem VG (F:Aa X.prog X.w X.K X.mg X.base (CXE X.prog X.w) k f fd ps sp)(hr:CT k X.A)(hg:Gl X x)(hm:X.mg x=some (.ref f))(hk:W.keepIn X.K (.ref f)=true)(hb:Binds X.K fd ps ds)(hd:An dvs ds)(hx:O5 X N)
  (ha:PA X (e::es) t) (hdb:(x == ("__debug__":Str))=false:=by decide) (he:starEach (e::es) X.env=(false,eval e X.env)::starEach es X.env:=by rfl) (hpl:(backTo pos (starEach es X.env)).any (·.1)=false:=by rfl) :
  PE X (.Call (.Name x p) (e::es) [] pos) (WI sp dvs N t):=by
 intro pins s σ H Q I h
 refine wpAny_Call_Name_kw (HM I hg hm ?_ hdb)
 refine W.callWith_K (h₀:=X.base) I.ok.mod.kin hk (thn (ha pos pins s σ H _ I h) fun us s1 ⟨vs,H1,I1,r,q⟩=>⟨I1.kIn,?_⟩) he hpl
 exact Ww F hr hb hd hx I1 r q
theorem Yv {pl:Sem Bool}(he:PE X o ta)(c:Cls X.K C)(hm:Xr X.K C m f)(F:Aa X.prog X.w X.K X.mg X.base (CXE X.prog X.w) k f fd ps sp)(hr:CT k X.A)(hb:Binds X.K fd ps ds)(hd:An dvs ds)(hx:O5 X N)(ha:PA X (e::es) t)
  (hst:starEach (e::es) X.env=(false,eval e X.env)::starEach es X.env:=by rfl) (hpl:(backTo pos (starEach es X.env)).any (·.1)=false:=by rfl)
  (ht:eval (.Call (.Attribute o m apos) (e::es) [] pos) X.env=(do
   let ov ← eval o X.env
   standAt apos.atName
   let (f,first) ← holding [ov] (getMethod ov m pl)
   callWith pos f first (backTo pos (starEach (e::es) X.env)) (backToKw pos (keywordEach [] X.env))):=by rfl) :
  PE X (.Call (.Attribute o m apos) (e::es) [] pos) (Yg C m sp dvs N ta t):=by
 intro pins s σ H Q I h
 refine W.methodCall_KW (pl:=pl) (thn (he pins s σ H _ I h) fun u s1 zq=>?_) ht
 obtain ⟨x,H1,I1,rx,a,dx,fs,ex,ea,l,q⟩:=zq
 subst ex
 obtain rfl:u=Value.ref a:=rx
 refine L9 I1 ea c hm l ?_
 refine W.callWith_K (first:=[.ref a]) (h₀:=X.base) I.ok.mod.kin hm.kp (thn (ha pos pins s1 σ H1 _ I1 q) fun us s2 ⟨vs,H2,I2,r,q2⟩=>⟨I2.kIn,?_⟩) hst hpl
 exact Ww (us:=.ref a::us) (vs:=.ref a::vs) F hr hb hd hx I2 (.cons rfl r) q2
end
noncomputable abbrev Cx.caught (X:Cx)(e:Value)(pn:List (Addr×Obj)):Cx:={ X with A:=X.A.mark (some e),calm:=false,pn:=pn,xe:=fun _ _=>False }
noncomputable abbrev Cx.trying (X:Cx)(pn:List (Addr×Obj))(E:Value→Shared→Prop):Cx:={ X with pn:=pn,xe:=E }
theorem Inv.caught {X:Cx}{pins:List (Addr×Obj)}{σ:St}{H:Hp}{s:Shared}(I:Inv X pins σ H s)(e:Value):Inv (X.caught e (X.pn++pins)) [] σ H s:=
 ⟨⟨I.ok.mod,I.ok.kind,I.ok.glob,I.ok.blt,I.ok.above,I.ok.inj,I.ok.has,I.ok.cab,(fun z=>nomatch z),I.ok.frames,I.ok.stk,I.ok.exf,I.ok.bs,I.ok.bsz,I.ok.noex,I.ok.exfs,I.ok.funs,I.ok.frf⟩,I.os,I.bare,I.base,I.loc,I.cell,I.free,I.freeC,fun p hp=>I.pin p (by simpa using hp),I.hok,I.len⟩
theorem Inv.uncaught {X:Cx}{pins:List (Addr×Obj)}{σ:St}{H:Hp}{s:Shared}{e:Value}(ok:X.Ok)(I:Inv (X.caught e (X.pn++pins)) [] σ H s):Inv X pins σ H s:=
 ⟨ok,I.os,I.bare,I.base,I.loc,I.cell,I.free,I.freeC,fun p hp=>I.pin p (by simpa using hp),I.hok,I.len⟩
theorem Inv.trying {X:Cx}{pins:List (Addr×Obj)}{σ:St}{H:Hp}{s:Shared}(I:Inv X pins σ H s)(E:Value→Shared→Prop):Inv (X.trying (X.pn++pins) E) [] σ H s:=
 ⟨⟨I.ok.mod,I.ok.kind,I.ok.glob,I.ok.blt,I.ok.above,I.ok.inj,I.ok.has,I.ok.cab,I.ok.hd,I.ok.frames,I.ok.stk,I.ok.exf,I.ok.bs,I.ok.bsz,I.ok.noex,I.ok.exfs,I.ok.funs,I.ok.frf⟩,I.os,I.bare,I.base,I.loc,I.cell,I.free,I.freeC,fun p hp=>I.pin p (by simpa using hp),I.hok,I.len⟩
theorem Inv.tried {X:Cx}{pins more:List (Addr×Obj)}{σ:St}{H:Hp}{s:Shared}{E:Value→Shared→Prop}(ok:X.Ok)(I:Inv (X.trying (X.pn++pins) E) more σ H s):Inv X pins σ H s:=
 ⟨ok,I.os,I.bare,I.base,I.loc,I.cell,I.free,I.freeC,fun p hp=>I.pin p (qD _ hp),I.hok,I.len⟩
noncomputable def tHs (K:W.Frag):List (Value×TS)→Value→Ij→St→Hp→Prop
 | [],_,_,_,_=>False
 | (c,th)::r,cls,D,σ,H=>∃ b,W.exmOne K cls c=some b∧if b=true then th D σ H else tHs K r cls D σ H
inductive PHs (X:Cx):List ExceptHandler→List (Value×TS)→Prop
 | nil:PHs X [] []
 | cons {x:Str} {c:Value} {np pos:Pos} {b₀:Stmt} {suite:List Stmt} {th:TS} {hs:List ExceptHandler} {ths:List (Value×TS)} (hg:Gl X x) (hm:X.mg x=some c) (hd:(x == ("__debug__":Str))=false)
   (hb:∀ e pn,PSs (X.caught e pn) (b₀::suite) th) (r:PHs X hs ths):PHs X (.ExceptHandler (some (.Name x np)) none (b₀::suite) pos::hs) ((c,th)::ths)
section
variable {X:Cx} {pins:List (Addr×Obj)} {D:Ij}
theorem SP.map {X Y:Cx}{pins pins':List (Addr×Obj)}{D:Ij}{f:Flow}{s:Shared}(k:∀ σ H,Inv X pins σ H s→Inv Y pins' σ H s)(h:SP X pins D f s):SP Y pins' D f s:=by
 cases f with
 | next=>obtain ⟨σ,H,I,q⟩:=h;exact ⟨σ,H,k _ _ I,q⟩
 | brk=>obtain ⟨σ,H,I,q⟩:=h;exact ⟨σ,H,k _ _ I,q⟩
 | cont=>obtain ⟨σ,H,I,q⟩:=h;exact ⟨σ,H,k _ _ I,q⟩
 | ret u=>obtain ⟨v,σ,H,I,r,q⟩:=h;exact ⟨v,σ,H,k _ _ I,r,q⟩
theorem QS (hfr:X.env.frame=some X.env.locals)(hst:X.stack=X.env::X.outer){ea:Addr}{cls:Value}:∀ {hs:List ExceptHandler} {ths:List (Value×TS)},PHs X hs ths→∀ {σ:St} {H:Hp} {s:Shared},Arr X pins σ ea cls H s→tHs X.K ths cls D σ H →
  wpAny (model X.prog X.w) X.A (handleBy (.ref ea) X.env hs) (SP X pins D) X.xe s
 | _,_,.nil,_,_,_,_,h=>h.elim
 | _,_,.cons (x:=x) (c:=c) (b₀:=b₀) (suite:=suite) (th:=th) hg hm hd hb r,σ,H,s,a,h=>by
  obtain ⟨I,H1,s1,I1,B,a0,fl,c1,c2⟩:=a
  obtain ⟨b,hx,hq⟩:=h
  refine wpAny_handleBy_cons ?_ (by intro q;cases q)
  refine codeAny_handlers_test ?_
  have Ic:=I.caught (.ref ea)
  refine HM (X:=X.caught (.ref ea) (X.pn++pins)) Ic hg hm ?_ hd
  obtain ⟨ob,hob,hc⟩:=fl.there
  have LT:W.Looks (model X.prog X.w) s.heap (typeOf (.ref ea)) cls:=by
   subst hc
   exact (W.Looks.ld hob).andThen .now
  refine (W.exm_one I.kIn LT hx).here ?_
  cases b with
  | false =>
   exact QS hfr hst r ⟨I,H1,s1,I1,B,a0,fl,c1,c2⟩ (by simpa using hq)
  | true =>
   rw [if_pos rfl] at hq
   refine codeAny_handlers_suite ?_
   refine lands_againW fl fun h6 fl6 up6=>?_
   have I6:Inv X pins σ H { s with heap:=h6 }:=Inv.fly I1 I fl.1 fl6.1 up6 c1 c2
   refine BR (thn (hb (.ref ea) (X.pn++pins) [] _ σ H D (I6.caught _) hq) fun f s2 h2=>?_)
   exact SP.map (fun _ _ J=>J.uncaught I.ok) h2
noncomputable def lookX (X:Cx)(pins:List (Addr×Obj))(D:Ij)(hs:List ExceptHandler):Value→Shared→Prop:=fun e s1=>wpAny (model X.prog X.w) X.A (noteFrame e X.env) (fun _ s2=>wpAny (model X.prog X.w) X.A (setFlight e none) (fun _ s3 =>
 wpAny (model X.prog X.w) X.A (handleBy e X.env hs) (SP X pins D) X.xe s3) X.xe s2) X.xe s1
noncomputable def tTry (K:W.Frag)(tb:(Value→St→Hp→Prop)→TS)(ths:List (Value×TS)):TS:=fun D σ H=>tb (fun cls σ' H'=>tHs K ths cls D σ' H') D σ H
theorem hV {body:List Stmt}{h₀:ExceptHandler}{hs:List ExceptHandler}{ths:List (Value×TS)}{tb:(Value→St→Hp→Prop)→TS}{pos:Pos}(hfr:X.env.frame=some X.env.locals)(hst:X.stack=X.env::X.outer)
  (hb:∀ N pn xe,O5 (X.trying pn xe) N→PSs (X.trying pn xe) body (tb N)) (hh:PHs X (h₀::hs) ths):PS X (.Try body (h₀::hs) [] [] pos) (tTry X.K tb ths):=by
 intro pins s σ H D I h
 refine wpAny_Try_except ?_
 have pass:O5 (X.trying (X.pn++pins) (lookX X pins D (h₀::hs))) (fun cls σ' H'=>tHs X.K ths cls D σ' H'):=fun pins' σ' H1 s1 e s' I' hx=>by
  obtain ⟨ea,cls,H',rfl,a,hN⟩:=Yu I' hx
  obtain ⟨J,H2,s2,J2,B,a0,fl,c1,c2⟩:=a
  have J':Inv X pins σ' H' s':=J.tried I.ok
  have J2':Inv X pins σ' H2 s2:=J2.tried I.ok
  have fl:Heap.FlyingW B X.stack ea cls a0 s'.heap:=fl
  have c1:∀ b o,s2.heap.get? b=some o→b∉frs X.stack→∃ o',B.get? b=some o':=c1
  rw [hst] at fl
  refine wpAny_looks_onW (A:=X.A) (by rw [I.ok.frames,hst]) hfr fl fun h4 held4 up4=>?_
  refine wpAny_landsW held4 fun h5 fl5 up5=>?_
  have up:=up4.trans up5
  have I5:Inv X pins σ' H' { s' with heap:=h5 }:=Inv.fly J2' J' fl.1 fl5.1 up c1 c2
  refine QS hfr hst hh ⟨I5,H2,s2,J2',B,a0,by rw [hst];exact fl5,c1,c2⟩ hN
 refine wpAny_mono (hb _ _ _ pass [] s σ H D (I.trying _) h) (fun f s1 h1=>?_) fun e s1 h1=>h1
 have h1:SP X pins D f s1:=SP.map (fun _ _ J=>J.tried I.ok) h1
 cases f with
 | next=>exact wpAny_execs_nil h1
 | brk=>exact h1
 | cont=>exact h1
 | ret u=>exact h1
end
section
variable {X:Cx}
end
theorem len0 {α:Type}{us:List α}(h:us.length=0):us=[]:=q9.mp h
theorem Xd {α:Type}{us:List α}{n:Nat}(h:us.length=n+1):∃ a r,us=a::r∧r.length=n:=by
 cases us with
 | nil=>cases h
 | cons a r=>exact ⟨a,r,rfl,Nat.succ.inj h⟩
theorem ZG {α:Type}{us:List α}(h:us.length=1):∃ a,us=[a]:=by
 obtain ⟨a,r,rfl,h'⟩:=Xd h;cases len0 h';exact ⟨a,rfl⟩
theorem dL {α:Type}{us:List α}(h:us.length=2):∃ a b,us=[a,b]:=by
 obtain ⟨a,r,rfl,h'⟩:=Xd h;obtain ⟨b,rfl⟩:=ZG h';exact ⟨a,b,rfl⟩
theorem ZT {α:Type}{us:List α}(h:us.length=3):∃ a b c,us=[a,b,c]:=by
 obtain ⟨a,r,rfl,h'⟩:=Xd h;obtain ⟨b,c,rfl⟩:=dL h';exact ⟨a,b,c,rfl⟩
theorem len4 {α:Type}{us:List α}(h:us.length=4):∃ a b c d,us=[a,b,c,d]:=by
 obtain ⟨a,r,rfl,h'⟩:=Xd h;obtain ⟨b,c,d,rfl⟩:=ZT h';exact ⟨a,b,c,d,rfl⟩
theorem len5 {α:Type}{us:List α}(h:us.length=5):∃ a b c d e,us=[a,b,c,d,e]:=by
 obtain ⟨a,r,rfl,h'⟩:=Xd h;obtain ⟨b,c,d,e,rfl⟩:=len4 h';exact ⟨a,b,c,d,e,rfl⟩
theorem len6 {α:Type}{us:List α}(h:us.length=6):∃ a b c d e f,us=[a,b,c,d,e,f]:=by
 obtain ⟨a,r,rfl,h'⟩:=Xd h;obtain ⟨b,c,d,e,f,rfl⟩:=len5 h';exact ⟨a,b,c,d,e,f,rfl⟩
end L2
namespace TG
open PySem L2
inductive Err where
 | nogate | taken | upside | bounds | full | deeds | nothing | badlist | few | size | badthrow | badrow
 deriving DecidableEq
noncomputable def Kp (b P:Addr)(H H':Hp):Prop:=∀ a u,a≠b→a≠P→H a=some u→H' a=some u
theorem Kp.of {b P:Addr}{H H':Hp}(s:AG H H'):Kp b P H H':=fun a u _ _ e=>s a u e
theorem Kp.trans {b P:Addr}{H H1 H2:Hp}(k:Kp b P H H1)(k':Kp b P H1 H2):Kp b P H H2:=fun a u h1 h2 e=>k' a u h1 h2 (k a u h1 h2 e)
theorem Kp.upd {b P a:Addr}{H H1:Hp}{o:HO}(k:Kp b P H H1)(h:a=b∨a=P):Kp b P H (L2.upd H1 a o):=fun c u h1 h2 e=>by
 have hc:c≠a:=by rcases h with rfl | rfl<;>assumption
 rw [AO hc]
 exact k c u h1 h2 e
noncomputable def X9 (H:Hp)(l:Addr)(gs:List G):Prop:=∃ as:List Addr,H l=some (.lst (as.map V.ref))∧Am H as gs
structure Std (gs:List G):Prop where
 asc:Asc gs
 ok:∀ g∈gs,OkG g
 len:gs.length≤40
theorem XC {gs:List G}(h:Asc gs):(gs.map G.p).Nodup:=by
 unfold List.Nodup
 rw [qQ]
 exact h.imp fun {a b} h z=>by lia
theorem Std.nd {gs:List G}(h:Std gs):(gs.map G.p).Nodup:=XC h.asc
structure Bch (C:Addr)(H:Hp)(b S P:Addr)(ow:List Addr)(gs:List G)(past:List (List G)):Prop where
 at_:∃ dx,H b=some (.ins C dx [("standing",.ref S),("past",.ref P)])
 st:X9 H S gs
 pa:∃ ps:List Addr,H P=some (.lst (ps.map V.ref))∧Paired (X9 H) ps past∧(∀ p∈ps,p∈ow∧p≠P)
 sp:S≠P
 so:S∈ow
 po:P∈ow
 std:Std gs
 stds:∀ x∈past,Std x
 len:past.length≤300
 lv:∀ a∈ow,∃ xs,H a=some (.lst xs)
theorem Am.keep {H H':Hp}{as:List Addr}{gs:List G}(h:Am H as gs)(k:∀ a xs,H a=some (.tup xs)→H' a=some (.tup xs)):Am H' as gs:=by
 unfold Am at *
 induction h with
 | nil=>exact .nil
 | cons e _ ih=>exact .cons (k _ _ e) ih
theorem X9.keep {H H':Hp}{l:Addr}{gs:List G}(h:X9 H l gs)(kl:∀ u,H l=some u→H' l=some u)(k:∀ a xs,H a=some (.tup xs)→H' a=some (.tup xs)):X9 H' l gs:=by
 obtain ⟨as,e,g⟩:=h
 exact ⟨as,kl _ e,g.keep k⟩
theorem Paired.keepM {α β:Type}{F F':α→β→Prop}:∀ {xs:List α} {ys:List β},Paired F xs ys→(∀ x y,x∈xs→F x y→F' x y)→Paired F' xs ys
 | _,_,.nil,_=>.nil
 | _,_,.cons e r,k=>.cons (k _ _ zP e) (Paired.keepM r fun x y h=>k x y (zK _ h))
theorem Paired.takeP {α β:Type}{F:α→β→Prop}:∀ {xs:List α} {ys:List β},Paired F xs ys→∀ n,Paired F (xs.take n) (ys.take n)
 | _,_,.nil,n=>by simp only [List.take_nil];exact .nil
 | _,_,.cons e r,0=>.nil
 | _,_,.cons e r,n+1=>.cons e (Paired.takeP r n)
theorem Bch.keep {C:Addr}{H H':Hp}{b S P:Addr}{ow:List Addr}{gs:List G}{past:List (List G)}(h:Bch C H b S P ow gs past)(k:∀ a u,(a=b∨a∈ow∨∃ xs,u = .tup xs)→H a=some u→H' a=some u):Bch C H' b S P ow gs past:=by
 have kt:∀ a xs,H a=some (.tup xs)→H' a=some (.tup xs):=fun a xs e=>k a _ (.inr (.inr ⟨xs,rfl⟩)) e
 obtain ⟨dx,e⟩:=h.at_
 obtain ⟨ps,e2,pr,hm⟩:=h.pa
 exact ⟨⟨dx,k _ _ (.inl rfl) e⟩,h.st.keep (fun u e=>k _ u (.inr (.inl h.so)) e) kt,⟨ps,k _ _ (.inr (.inl h.po)) e2,Paired.keepM pr fun x y hx q=>q.keep (fun u e=>k _ u (.inr (.inl (hm x hx).1)) e) kt,hm⟩,h.sp,h.so,h.po,h.std,h.stds,h.len,fun a ha=>(h.lv a ha).imp fun xs e=>k a _ (.inr (.inl ha)) e⟩
theorem Bch.same {C:Addr}{H H':Hp}{b S P:Addr}{ow:List Addr}{gs:List G}{past:List (List G)}(h:Bch C H b S P ow gs past)(s:AG H H'):Bch C H' b S P ow gs past:=h.keep fun a u _ e=>s a u e
noncomputable def FK (gs:List G)(p:Int)(o:List G):List G:=(gs.filter fun g=>decide (g.p<p))++(o++(gs.filter fun g=>decide (p<g.p)))
theorem T3 {gs:List G}{p:Int}{o:List G}(h:Asc gs)(ho:Asc o)(hp:∀ g∈o,g.p=p):Asc (FK gs p o):=by
 unfold FK Asc at *
 refine List.pairwise_append.mpr ⟨h.filter _,List.pairwise_append.mpr ⟨ho,h.filter _,fun a ha b hb=>?_⟩,fun a ha b hb=>?_⟩
 ·have:=zH (zz.mp hb).2
  rw [hp a ha];exact this
 ·have h1:=zH (zz.mp ha).2
  rcases zb.mp hb with z | z
  ·rw [hp b z];exact h1
  ·have:=zH (zz.mp z).2
   lia
theorem T2 {gs:List G}{p:Int}{o:List G}{g:G}:g∈FK gs p o↔(g∈gs∧g.p≠p)∨g∈o:=by
 unfold FK
 simp only [zb,zz,decide_eq_true_eq]
 constructor
 ·rintro (⟨h,q⟩ | h | ⟨h,q⟩)
  ·exact .inl ⟨h,by lia⟩
  ·exact .inr h
  ·exact .inl ⟨h,by lia⟩
 ·rintro (⟨h,q⟩ | h)
  ·rcases Int.lt_or_gt_of_ne q with z | z
   ·exact .inl ⟨h,z⟩
   ·exact .inr (.inr ⟨h,z⟩)
  ·exact .inr (.inl h)
theorem J7 {gs:List G}{p:Int}{o:List G}:(FK gs p o).Perm ((gs.filter fun g=>!decide (g.p=p))++o):=by
 unfold FK
 have h:((gs.filter fun g=>decide (g.p<p))++(gs.filter fun g=>decide (p<g.p))).Perm (gs.filter fun g=>!decide (g.p=p)):=by
  induction gs with
  | nil=>exact List.Perm.refl _
  | cons a gs ih =>
   simp only [qX]
   rcases Int.lt_trichotomy a.p p with z | z | z
   ·simp only [zE z,show decide (p<a.p)=false from zh (by lia),show decide (a.p=p)=false from zh (by lia),if_true,Bool.not_false,qE,if_false,qV]
    exact ih.cons _
   ·simp only [show decide (a.p<p)=false from zh (by lia),show decide (p<a.p)=false from zh (by lia),zE z,Bool.not_true,qE,if_false]
    exact ih
   ·simp only [show decide (a.p<p)=false from zh (by lia),zE z,show decide (a.p=p)=false from zh (by lia),if_true,Bool.not_false,qE,if_false]
    exact List.perm_middle.trans (ih.cons _)
 exact (List.perm_append_comm_assoc _ _ _).trans ((h.append_left o).trans List.perm_append_comm)
theorem Qy {gs:List G}{p:Int}{o:List G}:(FK gs p o).length=(gs.filter fun g=>!decide (g.p=p)).length+o.length:=by
 rw [J7.length_eq,zD]
noncomputable abbrev AU (gs:List G):List Int:=gs.map G.p
noncomputable def CW (gs:List G)(p:Int):Option G:=gs.find? fun g=>decide (g.p=p)
theorem Bi {gs:List G}{p:Int}{g:G}(h:CW gs p=some g):g∈gs∧g.p=p:=by
 have h1:=List.mem_of_find?_eq_some h
 have h2:=List.find?_some h
 exact ⟨h1,zH h2⟩
theorem JS {gs:List G}{p:Int}:CW gs p=none↔p∉AU gs:=by
 unfold CW AU
 rw [List.find?_eq_none]
 constructor
 ·intro h z
  obtain ⟨g,hg,e⟩:=zZ.mp z
  exact h g hg (zE e)
 ·intro h g hg z
  exact h (zZ.mpr ⟨g,hg,zH z⟩)
theorem SL {gs:List G}(ha:Asc gs){g:G}(hg:g∈gs):CW gs g.p=some g:=by
 cases h:CW gs g.p with
 | none=>exact absurd (zZ.mpr ⟨g,hg,rfl⟩) (JS.mp h)
 | some x =>
  obtain ⟨h1,h2⟩:=Bi h
  rw [Q3 ha h1 hg h2]
noncomputable abbrev InB (x:Int):Prop:=-1000≤x∧x≤1000
noncomputable def Oo (p f h:Int):Option Err:=if h<f then some .upside else if InB p∧InB f∧InB h then none else some .bounds
theorem MO {p f h:Int}:Oo p f h=none↔OkG ⟨p,f,h⟩:=by
 unfold Oo
 constructor
 ·intro z
  split at z
  ·cases z
  ·split at z
   ·rename_i h1 h2
    obtain ⟨⟨a,b⟩,⟨c,d⟩,e,f1⟩:=h2
    exact ⟨a,b,c,by show f≤h;lia,f1⟩
   ·cases z
 ·rintro ⟨a,b,c,d,e⟩
  rw [if_neg (by simp only at *;lia),if_pos (by simp only at *;unfold InB;lia)]
noncomputable def PK (gs:List G)(past:List (List G))(p f h:Int):Option Err:=
 if p∈AU gs then some .taken else (Oo p f h).or (if 40≤gs.length then some .full else if 300≤past.length then some .deeds else none)
noncomputable def Lv (past:List (List G)):Option Err:=if 300≤past.length then some .deeds else none
noncomputable def Qb (gs:List G)(past:List (List G))(p:Int):Option Err:=if p∈AU gs then Lv past else some .nogate
noncomputable def Ir (gs:List G)(past:List (List G))(p x y:Int):Option Err:=match CW gs p with
 | none=>some .nogate
 | some g=>(Oo p (g.f+x) (g.h+y)).or (Lv past)
noncomputable def T5 (past:List (List G))(n:Int):Option Err:=if n<1 then some .bounds else if past.length<n then some .nothing else none
theorem Std.put {gs:List G}{p f h:Int}(s:Std gs)(ok:OkG ⟨p,f,h⟩)(hl:(gs.filter fun g=>!decide (g.p=p)).length<40):Std (FK gs p [⟨p,f,h⟩]) where
 asc:=T3 s.asc (List.pairwise_singleton ..) fun g hg=>by rw [zI.mp hg]
 ok:=fun g hg=>by
  rcases T2.mp hg with z | z
  ·exact s.ok g z.1
  ·rw [zI.mp z];exact ok
 len:=by rw [Qy];simp only [List.length_singleton];lia
theorem Std.take {gs:List G}{p:Int}(s:Std gs):Std (FK gs p []) where
 asc:=T3 s.asc List.Pairwise.nil fun g hg=>absurd hg (by simp)
 ok:=fun g hg=>by
  rcases T2.mp hg with z | z
  ·exact s.ok g z.1
  ·exact absurd z (by simp)
 len:=by
  rw [Qy]
  have:=qA (fun g:G=>!decide (g.p=p)) gs
  have:=s.len
  simp only [zG];lia
theorem fG {gs:List G}{g:G}(hg:g∈gs):(gs.filter fun x=>!decide (x.p=g.p)).length<gs.length:=
 List.length_filter_lt_length_iff_exists.mpr ⟨g,hg,by simp⟩
theorem U8 {gs:List G}{p:Int}(hp:p∉AU gs):(gs.filter fun x=>!decide (x.p=p))=gs:=
 List.filter_eq_self.mpr fun g hg=>by
  rw [zh (fun z=>hp (zZ.mpr ⟨g,hg,z⟩))];rfl
theorem Bch.off {C:Addr}{H:Hp}{b S P:Addr}{ow:List Addr}{gs:List G}{past:List (List G)}(h:Bch C H b S P ow gs past){a:Addr}(n:H a=none):a∉ow:=fun z=>by
 obtain ⟨_,e⟩:=h.lv a z
 rw [n] at e;cases e
theorem Bch.nep {C:Addr}{H:Hp}{b S P:Addr}{ow:List Addr}{gs:List G}{past:List (List G)}(h:Bch C H b S P ow gs past){a:Addr}{u:HO}(e:H a=some u)(hu:∀ xs,u≠.lst xs):a≠P:=fun z=>by
 obtain ⟨_,e',_⟩:=h.pa
 rw [z,e'] at e;exact hu _ (zV e).symm
theorem Bch.neb {C:Addr}{H:Hp}{b S P:Addr}{ow:List Addr}{gs:List G}{past:List (List G)}(h:Bch C H b S P ow gs past){a:Addr}{u:HO}(e:H a=some u)(hu:∀ C dx fs,u≠.ins C dx fs):a≠b:=fun z=>by
 obtain ⟨_,e'⟩:=h.at_
 rw [z,e'] at e;exact hu _ _ _ (zV e).symm
theorem Bch.tup {C:Addr}{H H':Hp}{b S P:Addr}{ow:List Addr}{gs:List G}{past:List (List G)}(h:Bch C H b S P ow gs past)(k:Kp b P H H'){a:Addr}{xs:List V}(e:H a=some (.tup xs)):H' a=some (.tup xs):=
 k a _ (h.neb e fun _ _ _ z=>by cases z) (h.nep e fun _ z=>by cases z) e
theorem W1 {p:Int}:∀ l:List Int,inV (.int p) (l.map V.int)=decide (p∈l)
 | []=>rfl
 | a::l=>by
  show (eqV (.int a) (.int p) || inV (.int p) (l.map V.int))=_
  rw [W1 l]
  have e:eqV (.int a) (.int p)=decide (p=a):=by
   show decide (a=p)=decide (p=a)
   exact decide_eq_decide.mpr eq_comm
  rw [e,← Bool.decide_or]
  exact decide_eq_decide.mpr zF.symm
theorem ZZ (l:List Int):(l.map V.int).all MT=true:=by
 rw [qW]
 intro x hx
 obtain ⟨i,_,rfl⟩:=zZ.mp hx
 rfl
theorem Yr {gs:List G}:(gs.filter fun _=>true)=gs:=List.filter_eq_self.mpr fun _ _=>rfl
end TG
namespace L2
open PySem PySem.Spec PyProof.Rows
section
variable {prog:Program} {w:World} {A:Around} {E:Value→Shared→Prop} {s:Shared}
end
section
variable {X:Cx} {pos:Pos}
noncomputable def gLst (K:W.Frag)(n:Nat)(t:TGs):TG:=fun v σ H Q=>∃ a xs,v = .ref a∧SqL K H a xs∧xs.length=n∧t xs σ H Q
noncomputable def rDictD:List V→Hp→VK→Prop:=fun vs H Q=>∃ b more,vs=[.ref b]∧H b=some (.dK more)∧∀ p H',H p=none→AG H H'→H' p=some (.dK more)→Q (.ref p) H'
end
theorem L7 {X:Cx}:E4 (CXE X.prog X.w) X E0:=fun _ _ _ _ _ _ _ ⟨_,_,_,_,_,_,_,_,_,h⟩=>h.elim
structure fY (K:W.Frag)(x qual:Str)(st:Stmt)(f:Addr)(fd:FuncData):Prop where
 ex:∃ (dV oc:Value) (od:Option Addr) (kV doc pm:Value) (an:Option Addr) (cdv ct:Value) (osl:Array (Option Value)),
  fd=W.fnOf x qual (B6 st) (BK st) (AF st) dV kV doc pm an cdv ct∧K.lookup f=some ⟨oc,od,.func fd,osl⟩∧W.codeIn K cdv qual=true
 kp:W.keepIn K (.ref f)=true
theorem fY.okX {P:Program}{w:World}{K:W.Frag}{mg:Str→Option Value}{base:Heap}{x qual:Str}{st:Stmt}{f:Addr}{fd:FuncData}{N ps:List Str}{k:Nat}{sp:Sp}(F:fY K x qual st f fd)(S:AJ N ps (AF st))(len:∀ vs H Q E,sp vs H Q E→vs.length=ps.length)
  (hbody:∀ (cdv:Value) (A:Around) (outer:List Env) (s:Shared) (H:Hp) (vs:List V) (Q:VK) (E:XK),CT k (A.deeper (envOfC qual (AF st) s.heap.objs.size f cdv))→sp vs H Q E →
   ∃ t,PSs (BF (CXE P w) P w K mg base N qual (AF st) f cdv A outer s H E) (BK st) t∧t { nx:=fun _ H'=>Q .non H',rt:=Q } (start N vs) H):Aa P w K mg base (CXE P w) (k+1) f fd ps sp:=by
 obtain ⟨dV,oc,od,kV,doc,pm,an,cdv,ct,osl,rfl,lk,hcd⟩:=F.ex
 exact Ws lk hcd S len fun A outer s H vs Q E hr hsp=>hbody cdv A outer s H vs Q E hr hsp
structure DMD (K:W.Frag)(C:Addr)(x qual:Str)(st:Stmt)(ps:List Str)(f:Addr)(fd:FuncData)(dvs:List V):Prop where
 F:fY K x qual st f fd
 mt:Xr K C x f
 b:Binds K fd ps []
 bd:∃ ds,An dvs ds∧Binds K fd ps ds
end L2
namespace TG
open PySem L2
theorem UM {G0 gs:List G}{k:Nat}(hp:G0.Perm (gs.take k))(hk:k<gs.length)(nd:(gs.map G.p).Nodup)(h40:gs.length≤40)(ok:∀ g∈gs,OkG g){past:List (List G)}(hl:past.length<300) :
  PK G0 past gs[k].p gs[k].f gs[k].h=none∧(FK G0 gs[k].p [⟨gs[k].p,gs[k].f,gs[k].h⟩]).Perm (gs.take (k+1)):=by
 have hn:gs[k].p∉AU G0:=fun z=>by
  obtain ⟨g,hg,e⟩:=zZ.mp z
  have hg2:=hp.mem_iff.mp hg
  obtain ⟨j,hj,ej⟩:=qU hg2
  rw [zw] at hj
  rw [List.getElem_take] at ej
  have hjk:j<k:=by lia
  have h1:(gs.map G.p)[j]'(by rw [z0];lia)=(gs.map G.p)[k]'(by rw [z0];lia):=by
   rw [List.getElem_map,List.getElem_map,ej,e]
  exact List.pairwise_iff_getElem.mp nd j k (by rw [z0];lia) (by rw [z0];lia) hjk h1
 have hl2:=hp.length_eq
 rw [zw] at hl2
 constructor
 ·unfold PK
  rw [if_neg hn,(MO (p:=gs[k].p) (f:=gs[k].f) (h:=gs[k].h)).mpr (ok gs[k] (zY hk)),if_neg (by lia),if_neg (by lia)]
  rfl
 ·refine J7.trans ?_
  rw [U8 hn,zS hk]
  exact hp.append_right _
end TG
namespace L2
open PySem PySem.Spec PyProof.Rows
section
variable {X:Cx}
noncomputable def rMax3:List V→Hp→VK→Prop:=fun xs H Q=>∃ i j k,xs=[.int i,.int j,.int k]∧∀ m,(∀ b,m≤b↔i≤b∧j≤b∧k≤b)→Q (.int m) H
end
end L2
namespace TG
open PySem L2
open PySem.W PySem.Calls
noncomputable def M5 (tb:String→Option Builtin)(p:Program)(w:World)(n₀:Nat)(ann:Option Value):Nat→SharedT→Thread→Option SharedT
 | 0,_,_=>none
 | n+1,s,t=>match through t with
  | true=>some s
  | false=>match stepOk n₀ ann t with
   | false=>none
   | true=>match stepT (denote tb) p w s t with
    | some (s',t')=>M5 tb p w n₀ ann n s' t'
    | none=>none
theorem Qp {tb:String→Option Builtin}{p:Program}{w:World}{n₀:Nat}{ann:Option Value}:∀ {n:Nat} {s s':SharedT} {t:Thread},M5 tb p w n₀ ann n s t=some s'→topRun tb p w n₀ ann n s.abs t=some s'.abs
 | 0,_,_,_,h=>by cases h
 | n+1,s,s',t,h=>by
  unfold M5 at h
  unfold topRun
  cases he:through t with
  | true=>rw [he] at h;cases h;rfl
  | false =>
   rw [he] at h
   cases hk:stepOk n₀ ann t with
   | false=>rw [hk] at h;cases h
   | true =>
    rw [hk] at h
    cases hs:stepT (denote tb) p w s t with
    | none=>rw [hs] at h;cases h
    | some r=>obtain ⟨s₂,t₂⟩:=r;rw [hs] at h;rw [stepT_spec hs];exact Qp h
noncomputable def Kof (as:List Addr)(h:Heap):Frag:=as.filterMap fun a=>(h.get? a).map fun o=>(a,o)
theorem hZ (as:List Addr)(h:Heap):(Kof as h).In h:=by
 intro a o e
 induction as with
 | nil=>cases e
 | cons b r ih =>
  simp only [Kof,qT] at e
  cases hb:h.get? b with
  | none=>rw [hb] at e;exact ih e
  | some ob =>
   rw [hb] at e
   simp only [qc,List.lookup] at e
   split at e
   ·rename_i q;cases e;rw [beq_iff_eq.mp q];exact hb
   ·exact ih e
noncomputable def Vd (t:BT)(n a:Nat):Option Obj:=match Nat.blt a n with
 | true=>alive ((t.get a).getD default)
 | false=>none
noncomputable def Xj (as:List Addr)(s:SharedT):Frag:=as.filterMap fun a=>(Vd s.tree s.n a).map fun o=>(a,o)
theorem Wy (t:BT)(n:Nat)(life:Life)(a:Nat):(absHeap t n life).get? a=Vd t n a:=by
 unfold Vd
 cases h:Nat.blt a n with
 | true =>
  have h':a<n:=by simpa [Nat.blt_eq] using h
  show _=alive ((t.get a).getD default)
  unfold Heap.get?
  rw [absHeap_at,if_pos h']
  generalize (t.get a).getD default=o
  obtain ⟨c,d,dt,sl⟩:=o
  cases dt<;>rfl
 | false =>
  have h':¬ a<n:=by intro q;rw [Nat.blt_eq.mpr q] at h;cases h
  exact abs_get_none h'
theorem aC (as:List Addr)(s:SharedT):Kof as s.abs.heap=Xj as s:=by
 unfold Kof Xj
 congr 1
 funext a
 show ((absHeap s.tree s.n s.life).get? a).map _=_
 rw [Wy]
noncomputable def YZ:Nat→BT→List Obj→BT
 | _,t,[]=>t
 | i,t,o::r=>YZ (i+1) (t.ins i o) r
noncomputable def Yq (P:Params)(os:OsState):SharedT:=⟨YZ 0 .nil (boot_heap P).objs.toList,11,{},#[],boot_drawn,boot_toks,os⟩
theorem Xk (P:Params)(os:OsState):(Yq P os).abs=⟨boot_heap P,#[],boot_drawn,boot_toks,os⟩:=by kernel_rfl
theorem XO (P:Params):((boot_heap P).isNs mainGlobals && (#[]:Array GenState).size == 0,(boot_heap P).objs.size,(boot_heap P).nsMap mainGlobals "__annotations__")=(true,11,some (.ref 6)):=by kernel_rfl
noncomputable def ZL {β:Type}(p q:Program)(loose:List Str)(obs:SharedT→β)(P:Params)(s:SharedT):=
 ((staticsOk (importedModules p.main.body) (boot_heap P) s.abs.heap && namesBound p s.abs.heap && gensDone s.abs && laidKept (boot_heap P) s.abs.heap),openSeen q loose (importedModules p.main.body) (fun _=>true) true s.abs,obs s)
noncomputable def Na {β:Type}(p q:Program)(loose:List Str)(obs:SharedT→β)(M:Nat)(w:World)(os:OsState):=
 (M5 treeTable p w 11 (some (.ref 6)) M (Yq w.params os) (topStub p)).map (ZL p q loose obs w.params)
noncomputable def Y3 {β:Type}(p:Program)(obs:SharedT→β)(M:Nat)(w:World)(os:OsState):=
 (M5 treeTable p w 11 (some (.ref 6)) M (Yq w.params os) (topStub p)).map obs
theorem WK {β:Type}{p q:Program}{loose:List Str}{B:SharedT→β}{M:Nat}{w:World}{os:OsState}{v:β}(e1:Na p q loose (fun _=>()) M w os=some (true,openGood q loose,()))(e2:Y3 p B M w os=some v):Na p q loose B M w os=some (true,openGood q loose,v):=by
 obtain ⟨s,r,l⟩:=zi.mp e1
 obtain ⟨s',r',l'⟩:=zi.mp e2
 obtain rfl:s=s':=zV (r.symm.trans r')
 obtain ⟨l1,l2,-⟩:_∧_∧_:=by simpa only [ZL,Prod.mk.injEq] using l
 unfold Na
 rw [r]
 exact congrArg some (Prod.ext l1 (Prod.ext l2 l'))
noncomputable abbrev Seen:=Option (Str×Str×Arguments×List Stmt×Scope×Addr×List (Str×Addr)×Addr×Bool×List Int)
noncomputable def UX:List Value→Option (List Int)
 | []=>some []
 | .int i _::r=>(UX r).map (i::·)
 | _=>none
noncomputable def dfl (K:Frag):Value→Option (List Int)
 | .none=>some []
 | .ref d=>match K.lookup d with
  | some ⟨_,_,.seq vs _,_⟩=>match UX vs.toList with
   | some (i::r)=>some (i::r)
   | _=>none
  | _=>none
 | _=>none
noncomputable def ZH (K:Frag)(f:Addr)(qual:Str):Seen:=match K.lookup f with
 | some ⟨_,_,.func ⟨nm,q,ps,.stmts b,sc,g,cl,dV,_,_,_,_,cd,_,bi⟩,_⟩=>match dfl K dV with
  | some ds=>some (nm,q,ps,b,sc,g,cl,bi,codeIn K cd qual && keepIn K (.ref f),ds)
  | none=>none
 | _=>none
noncomputable def At (K:Frag)(x:Str):Seen:=match nsIn K mainGlobals x with
 | some (some (.ref f))=>ZH K f x
 | _=>none
noncomputable def DA (K:Frag)(c x qual:Str):Seen:=match nsIn K mainGlobals c with
 | some (some (.ref C))=>match findIn K (.ref C) x with
  | some (some (.ref f))=>match isFn K (.ref f) with
   | true=>ZH K f qual
   | false=>none
  | _=>none
 | _=>none
noncomputable def Ac (x qual:Str)(st:Stmt)(ds:List Int):Seen:=some (x,qual,B6 st,BK st,AF st,mainGlobals,[],builtinsNs,true,ds)
noncomputable def Zi (K:Frag)(c:Str)(fs:List Str):Bool:=match nsIn K mainGlobals c with
 | some (some (.ref C))=>plainGet K C Str.empty && hasDictIn K C && plainOver K C && findIn K (.ref C) "__setattr__" == some (some (.builtin "object.__setattr__")) && makesIn K C && keepIn K (.ref C) && fs.all fun f=>findIn K (.ref C) f == some none
 | _=>false
noncomputable def MJ (K:Frag)(c:Str):Bool:=match nsIn K mainGlobals c with
 | some (some (.ref C))=>excIn K C bmV "ValueError.__new__"
 | _=>false
noncomputable def fQ (K:Frag)(a b:Str):Option Bool:=match nsIn K mainGlobals a,nsIn K mainGlobals b with
 | some (some (.ref A)),some (some (.ref B))=>exmOne K (.ref A) (.ref B)
 | _,_=>none
noncomputable def TZ (K:Frag)(x:Str):Option Int:=match nsIn K mainGlobals x with
 | some (some (.int i _))=>some i
 | _=>none
noncomputable def ft (K:Frag)(x:Str):Option Str:=match nsIn K mainGlobals x with
 | some (some (.str i _))=>some i
 | _=>none
noncomputable def IR (K:Frag)(x:Str):Bool:=match nsIn K mainGlobals x with
 | some none=>true
 | _=>false
section
variable {K:Frag}
theorem Um {v:Value}(e:dfl K v=some []):v = .none:=by
 unfold dfl at e
 split at e
 ·rfl
 ·repeat' split at e
  all_goals cases e
 ·cases e
theorem Sg:∀ {vs:List Value} {is:List Int},UX vs=some is→∃ ts:List Tok,ts.length=is.length∧vs=is.zipWith Value.int ts
 | [],is,e=>by cases e;exact ⟨[],rfl,rfl⟩
 | v::r,is,e=>by
  unfold UX at e
  split at e
  ·cases e;rename_i h;cases h
  ·rename_i i t r' h
   cases h
   cases h2:UX r with
   | none=>rw [h2] at e;cases e
   | some js =>
    rw [h2] at e
    cases e
    obtain ⟨ts,hl,rfl⟩:=Sg h2
    exact ⟨t::ts,by simp [hl],rfl⟩
  ·cases e
theorem ZS {v:Value}{i:Int}{r:List Int}(e:dfl K v=some (i::r)):∃ d cl di n sl ts,v = .ref d∧ts.length=(i::r).length∧K.lookup d=some ⟨cl,di,.seq ((i::r).zipWith Value.int ts).toArray n,sl⟩:=by
 unfold dfl at e
 split at e
 ·cases e
 ·rename_i d
  split at e
  ·rename_i cl di vs n sl hl
   split at e
   ·rename_i j r' h
    cases e
    obtain ⟨ts,h1,h2⟩:=Sg h
    refine ⟨d,cl,di,n,sl,ts,rfl,h1,?_⟩
    rw [hl,← h2]
   ·cases e
  ·cases e
 ·cases e
theorem Tc {f:Addr}{x qual:Str}{st:Stmt}{ds:List Int}(e:ZH K f qual=Ac x qual st ds):∃ (oc:Value) (od:Option Addr) (sl:Array (Option Value)) (dV kV dc pm:Value) (an:Option Addr) (cd ct:Value),
  K.lookup f=some ⟨oc,od,.func (fnOf x qual (B6 st) (BK st) (AF st) dV kV dc pm an cd ct),sl⟩∧codeIn K cd qual=true∧keepIn K (.ref f)=true∧dfl K dV=some ds:=by
 unfold ZH Ac at e
 split at e
 ·rename_i oc od nm q ps b sc g cl dV kV dc pm an cd ct bi sl hl
  split at e
  ·rename_i ds' hd
   simp only [Option.some.injEq,Prod.mk.injEq,qG] at e
   obtain ⟨rfl,rfl,rfl,rfl,rfl,rfl,rfl,rfl,⟨h1,h2⟩,rfl⟩:=e
   exact ⟨oc,od,sl,dV,kV,dc,pm,an,cd,ct,hl,h1,h2,hd⟩
  ·cases e
 ·cases e
theorem WQ {x:Str}{st:Stmt}(e:At K x=Ac x x st []):∃ (f:Addr) (oc:Value) (od:Option Addr) (sl:Array (Option Value)) (kV dc pm:Value) (an:Option Addr) (cd ct:Value),
  nsIn K mainGlobals x=some (some (.ref f))∧K.lookup f=some ⟨oc,od,.func (fnOf x x (B6 st) (BK st) (AF st) .none kV dc pm an cd ct),sl⟩∧codeIn K cd x=true∧keepIn K (.ref f)=true:=by
 unfold At at e
 split at e
 ·rename_i f hf
  obtain ⟨oc,od,sl,dV,kV,dc,pm,an,cd,ct,h1,h2,h3,h4⟩:=Tc e
  cases Um h4
  exact ⟨f,oc,od,sl,kV,dc,pm,an,cd,ct,hf,h1,h2,h3⟩
 ·cases e
theorem bC {C:Addr}{c x qual:Str}{st:Stmt}{ds:List Int}(hc:nsIn K mainGlobals c=some (some (.ref C)))(e:DA K c x qual=Ac x qual st ds):∃ f:Addr,findIn K (.ref C) x=some (some (.ref f))∧isFn K (.ref f)=true∧ZH K f qual=Ac x qual st ds:=by
 unfold DA at e
 rw [hc] at e
 dsimp only at e
 split at e
 ·rename_i f hf
  split at e
  ·rename_i h
   exact ⟨f,hf,h,e⟩
  ·cases e
 ·cases e
theorem aV {C:Addr}{c x qual:Str}{st:Stmt}(hc:nsIn K mainGlobals c=some (some (.ref C)))(e:DA K c x qual=Ac x qual st []):∃ (f:Addr) (oc:Value) (od:Option Addr) (sl:Array (Option Value)) (kV dc pm:Value) (an:Option Addr) (cd ct:Value),
  findIn K (.ref C) x=some (some (.ref f))∧isFn K (.ref f)=true∧K.lookup f=some ⟨oc,od,.func (fnOf x qual (B6 st) (BK st) (AF st) .none kV dc pm an cd ct),sl⟩∧codeIn K cd qual=true∧keepIn K (.ref f)=true:=by
 obtain ⟨f,hf,hi,e⟩:=bC hc e
 obtain ⟨oc,od,sl,dV,kV,dc,pm,an,cd,ct,h1,h2,h3,h4⟩:=Tc e
 cases Um h4
 exact ⟨f,oc,od,sl,kV,dc,pm,an,cd,ct,hf,hi,h1,h2,h3⟩
theorem YN {C:Addr}{c x qual:Str}{st:Stmt}{i:Int}(hc:nsIn K mainGlobals c=some (some (.ref C)))(e:DA K c x qual=Ac x qual st [i]):∃ (f:Addr) (oc:Value) (od:Option Addr) (sl:Array (Option Value)) (d:Addr) (kV dc pm:Value) (an:Option Addr) (cd ct:Value) (dcl:Value) (ddi:Option Addr) (dn:Nat) (dsl:Array (Option Value)) (tk:Tok),
  findIn K (.ref C) x=some (some (.ref f))∧isFn K (.ref f)=true∧K.lookup f=some ⟨oc,od,.func (fnOf x qual (B6 st) (BK st) (AF st) (.ref d) kV dc pm an cd ct),sl⟩∧codeIn K cd qual=true∧keepIn K (.ref f)=true∧K.lookup d=some ⟨dcl,ddi,.seq #[.int i tk] dn,dsl⟩:=by
 obtain ⟨f,hf,hi,e⟩:=bC hc e
 obtain ⟨oc,od,sl,dV,kV,dc,pm,an,cd,ct,h1,h2,h3,h4⟩:=Tc e
 obtain ⟨d,cl,di,n,sl',ts,rfl,hl,h5⟩:=ZS h4
 match ts,hl with
 | [t],_=>exact ⟨f,oc,od,sl,d,kV,dc,pm,an,cd,ct,cl,di,n,sl',t,hf,hi,h1,h2,h3,h5⟩
theorem WO {c:Str}{fs:List Str}(e:Zi K c fs=true):∃ C:Addr,nsIn K mainGlobals c=some (some (.ref C))∧plainGet K C Str.empty=true∧hasDictIn K C=true∧plainOver K C=true ∧
  findIn K (.ref C) "__setattr__"=some (some (.builtin "object.__setattr__"))∧makesIn K C=true∧keepIn K (.ref C)=true∧∀ f∈fs,findIn K (.ref C) f=some none:=by
 unfold Zi at e
 split at e
 ·rename_i C hC
  simp only [qG,beq_iff_eq,qW] at e
  obtain ⟨⟨⟨⟨⟨⟨h1,h2⟩,h3⟩,h4⟩,h5⟩,h6⟩,h7⟩:=e
  exact ⟨C,hC,h1,h2,h3,h4,h5,h6,h7⟩
 ·cases e
theorem CQ {c:Str}(e:MJ K c=true):∃ C:Addr,nsIn K mainGlobals c=some (some (.ref C))∧excIn K C [.type "ValueError",.type "Exception",.type "BaseException",.type "object"] "ValueError.__new__"=true:=by
 unfold MJ at e
 split at e
 ·rename_i C hC
  exact ⟨C,hC,e⟩
 ·cases e
theorem Z0 {a b:Str}{A B:Addr}{r:Bool}(ha:nsIn K mainGlobals a=some (some (.ref A)))(hb:nsIn K mainGlobals b=some (some (.ref B)))(e:fQ K a b=some r):exmOne K (.ref A) (.ref B)=some r:=by
 unfold fQ at e
 rw [ha,hb] at e
 exact e
theorem G2 {x:Str}{i:Int}(e:TZ K x=some i):∃ t:Tok,nsIn K mainGlobals x=some (some (.int i t)):=by
 unfold TZ at e
 split at e
 ·rename_i j t h
  cases e
  exact ⟨t,h⟩
 ·cases e
theorem Z5 {x y:Str}(e:ft K x=some y):∃ t:Tok,nsIn K mainGlobals x=some (some (.str y t)):=by
 unfold ft at e
 split at e
 ·rename_i j t h
  cases e
  exact ⟨t,h⟩
 ·cases e
theorem BV {x:Str}(e:IR K x=true):nsIn K mainGlobals x=some none:=by
 unfold IR at e
 split at e
 ·assumption
 ·cases e
end
theorem jP {R:WRecords}{h:Heap}(e:R=[]):RecFacts R h:=by
 subst e
 exact ⟨fun x hx=>(nomatch hx),fun x hx=>(nomatch hx),fun c c' a (hc:false=true)=>(nomatch hc),fun c fs (hf:none=some fs)=>(nomatch hf)⟩
end TG
namespace L2
open PySem
end L2
namespace TG
open PySem L2
section
variable {C D L b S P:Addr} {ow:List Addr} {gs:List G} {past:List (List G)} {H H':Hp} {kvs:List (Key×V)} {xs:List V}
end
end TG
namespace L2
end L2
namespace TG
open PySem L2
end TG
namespace L2
open PySem
end L2
namespace TG
open PySem L2
end TG
namespace L2
open PySem PySem.Spec PyProof.Rows
theorem QO (ns:List Int):∀ i,i≤ns.length→(List.range i).map (fun i=>ns.getD i 0)=ns.take i
 | 0,_=>rfl
 | i+1,h=>by
  rw [List.range_succ,zc,QO ns i (by lia),zS (show i<ns.length by lia)]
  congr 1
  show [ns.getD i 0]=_
  rw [zR,z9 (show i<ns.length by lia)]
  rfl
theorem SR (ns:List Int):∀ i,i≤ns.length→((firstMet (fun i=>ns.getD i 0) i).length=i↔(ns.take i).Nodup)
 | 0,_=>⟨fun _=>List.nodup_nil,fun _=>rfl⟩
 | i+1,h=>by
  have hi:i<ns.length:=by lia
  have ih:=SR ns i (by lia)
  have le:=firstMet_length_le (fun i=>ns.getD i 0) i
  have hv:ns.getD i 0=ns[i]:=by
   rw [zR,z9 hi]
   rfl
  have ha:(firstMet (fun i=>ns.getD i 0) i).any (· == ns.getD i 0)=true↔ns[i]∈ns.take i:=by
   rw [firstMet_any,QO ns i (by lia),hv,List.any_eq_true]
   constructor
   ·rintro ⟨x,hx,e⟩
    rw [← (beq_iff_eq.mp e)];exact hx
   ·intro hx
    exact ⟨_,hx,beq_iff_eq.mpr rfl⟩
  rw [firstMet_succ,step_length,zS hi,List.nodup_append]
  by_cases hc:ns[i]∈ns.take i
  ·rw [if_pos (ha.mpr hc)]
   constructor
   ·intro z;lia
   ·rintro ⟨_,_,z⟩
    exact absurd rfl (z _ hc _ (zI.mpr rfl))
  ·rw [if_neg (fun z=>hc (ha.mp z))]
   constructor
   ·intro z
    refine ⟨ih.mp (by lia),(by simp),fun a ha' b hb e=>?_⟩
    rw [zI.mp hb] at e
    exact hc (e▸ha')
   ·rintro ⟨z,_⟩
    have:=ih.mpr z
    lia
section
variable {X:Cx}
noncomputable def LQ (K:W.Frag):List V→Hp→VK→Prop:=fun xs H Q=>∃ l,xs=[.ref l]∧∃ ns:List Int,SqL K H l (ns.map V.int)∧ns.length<4000 ∧
 ∀ (D:Addr) (H':Hp) (S:Int→Bool) (n:Nat),H D=none→AG H H'→H' D=some (.set S n)→n≤ns.length→(n=ns.length↔ns.Nodup)→Q (.ref D) H'
theorem X6 (hc:X.calm=true):Cm X (.type "set") (LQ X.K):=by
 intro pins s σ H xs us Q I r h
 obtain ⟨l,rfl,ns,hl,h4,q⟩:=h
 obtain ⟨u,rfl,ru⟩:=vals1 r
 cases ru
 obtain ⟨its,rv,pl,hz⟩:=I.list hl
 have hlen:=rv.length
 rw [z0] at hlen
 have hn:its.toArray.size=ns.length:=by rw [zQ,← hlen]
 refine call_set_list (I.ok.hd hc) pl.isList (intsAre_of rv) (by rw [hn];unfold scanBound;lia) fun h' tk hS kp=>?_
 rw [hn] at hS
 have hfr:H s.heap.objs.size=none:=I.hok.fresh (zL _)
 have hm:=SR ns ns.length (zL _)
 rw [zj] at hm
 exact ⟨.ref s.heap.objs.size,_,I.laid (t':=tk) (fun b o e=>kp b o (zJ e) e) (zL _) (show BM X.prog X.w _ h' _ (.set _ _) from hS),rfl,q _ _ _ _ hfr (Ak hfr) AM (firstMet_length_le _ _) hm⟩
noncomputable def LX:List V→Hp→VK→Prop:=fun xs H Q=>∃ a,xs=[V.ref a]∧∃ (S:Int→Bool) (n:Nat),H a=some (.set S n)∧Q (.int n) H
theorem Xg:Cm X (.builtin "len") LX:=by
 intro pins s σ H xs us Q I r h
 obtain ⟨a,rfl,S,n,ha,q⟩:=h
 obtain ⟨u,rfl,ru⟩:=vals1 r
 cases ru
 obtain ⟨o,es,ep,t,hg,hex,hd,_,_,hsz,hf,rfl⟩:=(show s.heap.SetOf (intKind X.prog X.w) a S n from I.hok a _ ha)
 exact call_len_set hg hex hd hf (by unfold scanBound at hsz;lia) ⟨.int es.size,H,I.tok _,⟨_,rfl⟩,q⟩
end
end L2
namespace TG
open PySem L2
noncomputable def B4 (gs:List G)(ps:List Int):List G:=ps.filterMap (CW gs)
theorem BX {gs:List G}{ps:List Int}{g:G}(h:g∈B4 gs ps):g∈gs:=by
 obtain ⟨p,_,e⟩:=List.mem_filterMap.mp h
 exact (Bi e).1
theorem Bp {gs:List G}:∀ {ps:List Int},(∀ p∈ps,p∈AU gs)→AU (B4 gs ps)=ps
 | [],_=>rfl
 | p::ps,h=>by
  have ih:=Bp (gs:=gs) (ps:=ps) fun q hq=>h q (zK _ hq)
  cases hg:CW gs p with
  | none=>exact absurd (h p zP) (JS.mp hg)
  | some g =>
   have e:B4 gs (p::ps)=g::B4 gs ps:=by unfold B4;rw [qT,hg]
   rw [e]
   show g.p::AU (B4 gs ps)=_
   rw [ih,(Bi hg).2]
theorem DS {gs:List G}{ps:List Int}(h:∀ p∈ps,p∈AU gs):(B4 gs ps).length=ps.length:=by
 have:=congrArg List.length (Bp h)
 rwa [z0] at this
theorem Y8 {gs:List G}(ha:Asc gs){ps:List Int}{g:G}(hg:g∈B4 gs ps):CW gs g.p=some g:=SL ha (BX hg)
theorem ag {K:W.Frag}{a:Addr}{gs:List G}{te:TE}{caps:St}{D:Addr}{H1:Hp}{Q:Hp→Prop}(hl:SqL K H1 a ((AU gs).map V.int))(hD:H1 D=none)(hz:gs.length≤1000)
  (he:∀ g H (R:VK),g∈gs→AG H1 H→(∀ p,H p=some (.tup (G.vs g))→R (.ref p) H)→te (some (.int g.p)::caps) H R)
  (hd:∀ H as,AG H1 H→H D=some (.lst (as.map V.ref))→Am H as gs→Q H):Ds te EM caps (Itl K a) D H1 Q:=by
 have hlen:((AU gs).map V.int).length=gs.length:=by rw [z0,z0]
 refine KG (xs:=(AU gs).map V.int) (fun i ys H=>∃ as:List Addr,ys=as.map V.ref∧AG H1 H∧H D=some (.lst ys)∧Am H as (gs.take i)) ⟨[],rfl,Ak hD,AM,.nil⟩ (fun _ _ H _ ⟨_,_,s1,_⟩=>s1.seq hl) ?_ ?_
 ·rintro i x ys H hx hy ⟨as,rfl,s1,e1,g1⟩
  have hi:i<gs.length:=by
   have:=(zC.mp hx).1
   lia
  have ex:x=V.int gs[i].p:=by
   rw [zN,zN,z9 hi] at hx
   exact (zV hx).symm
  subst ex
  have et:gs.take (i+1)=gs.take i++[gs[i]]:=zS hi
  refine he gs[i] H _ (zY hi) s1 fun p ep=>Mj.of (by rw [hlen,PySem.sizeLine_eq];lia) (by lia) hy e1 ⟨as++[p],by rw [zc];rfl,s1.updFresh hD,AM,?_⟩
  rw [et]
  have kt:∀ a xs,H a=some (.tup xs)→upd H D (.lst (as.map V.ref++[V.ref p])) a=some (.tup xs):=fun a xs e=>(AO (IA e e1 fun z=>by cases z)).trans e
  exact Am.append (g1.keep kt) (.cons (kt _ _ ep) .nil)
 ·rintro ys H hy ⟨as,rfl,s1,e1,g1⟩
  rw [hlen,zj] at g1
  exact hd H as s1 e1 g1
noncomputable def Bs (ps:List Int):Prop:=ps=[]∨40<ps.length∨¬ ps.Nodup
end TG
namespace L2
open PySem
theorem ii:bootBuiltins "set"=some (.type "set"):=by decide +kernel
open PySem.Spec PyProof.Rows
section
variable {X:Cx}
noncomputable def rEqLI (K:W.Frag):R2:=fun x y H Q=>∃ a b,x = .ref a∧y = .ref b∧∃ ns:List Int,SqL K H a (ns.map V.int)∧∃ ms:List Int,SqL K H b (ms.map V.int)∧Q (.bl (decide (ns=ms))) H
end
end L2
namespace TG
open PySem L2
theorem Q2 {t t':Thr}{x y:G}(ot:OkT t)(ot':OkT t')(lt:x.p<y.p)(tx:t.gap x.p x.f=0)(ty:t.gap y.p y.h=0)(px:t'.pas x)(py:t'.pas y):t'.c*t.d≤t.c*t'.d:=by
 have b0:=ot'.b0
 have d0:=ot'.d0
 have m:=Va ot (Int.mul_pos b0 d0) lt tx ty (FA.mp px) (FA.mp py)
 refine zm (a:=t'.b) ?_ b0
 calc t'.b*(t'.c*t.d)=t'.c*t'.b*t.d:=by grind
  _≤t.c*(t'.b*t'.d):=m
  _=t'.b*(t.c*t'.d):=by grind
theorem Ff {t:Thr}{gs:List G}(ot:OkT t)(all:∀ g∈gs,t.pas g){u:List Int}(hf:Bd gs u):u=[]:=
 hf.line (Int.mul_pos ot.b0 ot.d0) fun g hg=>FA.mp (all g hg)
open PySem.W
section
variable {K:Frag} {mg:Str→Option Value} {h:Heap}
theorem AV {x:Str}{st:Stmt}{ps:List Str}(X:K.In h)(G:h.Ns mainGlobals mg)(e:At K x=Ac x x st [])
  (b:∀ (kV doc pm:Value) (an:Option Addr) (cdv ct:Value) (us:List Value),us.length=ps.length→bindArgs (fnOf x x (B6 st) (BK st) (AF st) .none kV doc pm an cdv ct) ⟨us,[]⟩=pure (ps.zip us)):∃ f fd,D K mg x st ps f fd:=by
 obtain ⟨f,oc,od,sl,kV,dc,pm,an,cd,ct,a,l,c,k⟩:=WQ e
 exact ⟨f,_,Nt l c k,mg_of X G a,(Nt l c k).binds b⟩
theorem BY {C:Addr}{c x qual:Str}{st:Stmt}{ps:List Str}(hc:nsIn K mainGlobals c=some (some (.ref C)))(e:DA K c x qual=Ac x qual st [])
  (b:∀ (kV doc pm:Value) (an:Option Addr) (cdv ct:Value) (us:List Value),us.length=ps.length→bindArgs (fnOf x qual (B6 st) (BK st) (AF st) .none kV doc pm an cdv ct) ⟨us,[]⟩=pure (ps.zip us)):∃ f fd,DM K C x qual st ps f fd:=by
 obtain ⟨f,oc,od,sl,kV,dc,pm,an,cd,ct,a,i,l,c,k⟩:=aV hc e
 exact ⟨f,_,Nt l c k,⟨a,i,k⟩,(Nt l c k).binds b⟩
theorem Zl {C:Addr}{c x qual:Str}{st:Stmt}{ps:List Str}{j:Int}(hc:nsIn K mainGlobals c=some (some (.ref C)))(e:DA K c x qual=Ac x qual st [j])
  (b:∀ (s:Shared) (d:Addr) (kV doc pm:Value) (an:Option Addr) (cdv ct:Value) (cl:Value) (di:Option Addr) (n:Nat) (sl:Array (Option Value)) (tk:Tok) (us:List Value),s.heap.get? d=some ⟨cl,di,.seq #[.int j tk] n,sl⟩→us.length=ps.length→BindsTo s (fnOf x qual (B6 st) (BK st) (AF st) (.ref d) kV doc pm an cdv ct) ⟨us,[]⟩ (ps.zip us))
  (bd:∀ (s:Shared) (d:Addr) (kV doc pm:Value) (an:Option Addr) (cdv ct:Value) (cl:Value) (di:Option Addr) (n:Nat) (sl:Array (Option Value)) (tk:Tok) (us:List Value),s.heap.get? d=some ⟨cl,di,.seq #[.int j tk] n,sl⟩→us.length+1=ps.length→BindsTo s (fnOf x qual (B6 st) (BK st) (AF st) (.ref d) kV doc pm an cdv ct) ⟨us,[]⟩ (ps.zip (us++[.int j tk]))):∃ f fd,DMD K C x qual st ps f fd [.int j]:=by
 obtain ⟨f,oc,od,sl,d,kV,dc,pm,an,cd,ct,dcl,ddi,dn,dsl,tk,a,i,l,c,k,lt⟩:=YN hc e
 refine ⟨f,_,⟨⟨_,_,_,_,_,_,_,_,_,_,rfl,l,c⟩,k⟩,⟨a,i,k⟩,fun s us hK hl=>?_,⟨[.int j tk],.cons ⟨_,rfl⟩ .nil,fun s us hK hl=>?_⟩⟩
 ·rw [qS] at hl ⊢
  exact b s d kV dc pm an cd ct dcl ddi dn dsl tk us (hK _ _ lt) hl
 ·exact bd s d kV dc pm an cd ct dcl ddi dn dsl tk us (hK _ _ lt) (by simpa using hl)
end
noncomputable def PJ (a b c d:Int):Prop:=b<1∨d<1∨∃ x∈[a,b,c,d],x < -999999999∨999999999<x
noncomputable def Qf (a b c d:Int)(g:G):Bool:=decide (Pas a b c d g.p g.f g.h)
theorem Tg {K:W.Frag}{a:Addr}{as:List Addr}{gs:List G}{te:TE}{tc:TT}{caps:St}{D:Addr}{H1:Hp}{Q:Hp→Prop}(P:G→Bool)(f:G→V)(hl:SqL K H1 a (as.map V.ref))(ga:Am H1 as gs)(hD:H1 D=none)(hz:gs.length≤1000)
  (ht:∀ v g H (R:Bool→Hp→Prop),g∈gs→AG H1 H→H v=some (.tup (G.vs g))→(∀ H',AG H H'→R (P g) H')→tc (some (.ref v)::caps) H R)
  (he:∀ v g H (R:VK),g∈gs→AG H1 H→H v=some (.tup (G.vs g))→R (f g) H→te (some (.ref v)::caps) H R)
  (hd:∀ H,AG H1 H→H D=some (.lst ((gs.filter P).map f))→Q H):Ds te tc caps (Itl K a) D H1 Q:=by
 have la:=ga.len
 refine Ee (xs:=as.map V.ref) (fun i ys H=>ys=((gs.take i).filter P).map f∧AG H1 H∧H D=some (.lst ys)) ⟨rfl,Ak hD,AM⟩ (fun _ _ H _ ⟨_,s1,_⟩=>s1.seq hl) ?_ ?_
 ·rintro i x ys H0 hx ⟨rfl,s0,e0⟩
  have hi:i<gs.length:=by
   have:=(zC.mp hx).1
   rw [z0] at this
   lia
  obtain ⟨v,hv,t1⟩:=ga.get (z9 hi)
  have ex:x=V.ref v:=by
   rw [zN,hv] at hx
   exact (zV hx).symm
  subst ex
  have et:gs.take (i+1)=gs.take i++[gs[i]]:=zS hi
  have hlen:(as.map V.ref).length=gs.length:=by rw [z0,la]
  have hle:(((gs.take i).filter P).map f).length≤i:=by
   rw [z0]
   exact zO (qA _ _) (List.length_take_le _ _)
  refine ht v gs[i] H0 _ (zY hi) s0 (s0.get t1) fun H s=>?_
  have s1:=s0.trans s
  have e1:=s.get e0
  by_cases hp:P gs[i]=true
  ·rw [if_pos hp]
   refine he v gs[i] H _ (zY hi) s1 (s1.get t1) ?_
   refine ⟨e1,by rw [PySem.sizeLine_eq];lia,_,by lia,rfl,by lia,?_,s1.updFresh hD,AM⟩
   rw [et,qY,qX,if_pos hp,List.filter_nil,zc]
   rfl
  ·rw [if_neg hp]
   refine ⟨_,by lia,rfl,by lia,?_,s1,e1⟩
   rw [et,qY,qX,if_neg hp,List.filter_nil,qS]
 ·rintro ys H ⟨rfl,s1,e1⟩
  rw [z0,la,zj] at e1
  exact hd H s1 e1
theorem TU {a b c d:Int}(h1:1≤b)(h2:1≤d)(h3:a.natAbs≤999999999)(h4:b.natAbs≤999999999)(h5:c.natAbs≤999999999)(h6:d.natAbs≤999999999):¬ PJ a b c d:=by
 rintro (z | z | ⟨x,hx,z⟩)
 ·lia
 ·lia
 ·simp only [zF,zf,or_false] at hx
  rcases hx with rfl | rfl | rfl | rfl<;>omega
end TG
namespace L2
open PySem PySem.Spec PyProof.Rows
section
variable {prog:Program} {w:World} {A:Around} {R:Result→Shared→Prop} {I:Addr} {fp wr:List Addr} {G:Array GenState→Array GenState→Prop} {n:Nat} {P:Nat→Value→Prop} {St:Nat→Shared→Prop}
end
section
variable {X:Cx}
end
end L2
namespace TG
open PySem L2
end TG
namespace L2
open PySem PySem.Spec PyProof.Rows
section
variable {M:Model} {A:Around} {E:Value→Shared→Prop} {s:Shared} {B:Heap} {l:List Env} {ea:Addr} {kl a0 fl:Value}
theorem XA {g:Option Addr}{Q:Unit→Shared→Prop}(st:B.StaysIn s.heap)(ff:s.heap.FunFrames B l)(tr:s.heap.TracedAtW B ea kl a0 fl)
  (q:∀ h2,B.StaysIn h2→h2.FunFrames B l→h2.TracedAtW B ea kl a0 (g.elim .none fun f=>rawInt f)→s.heap.UpToSlots h2→Q () { s with heap:=h2 }):wpAny M A (setFlight (.ref ea) g) Q E s:=by
 obtain ⟨ob,us,tb,ot,ws,g1,g2,g3,g4,g5,g6,g7,g8,g9⟩:=tr
 have lt3:=(Array.getElem?_eq_some_iff.mp g9).1
 have far:∀ b,b≠tb→(s.heap.update tb (Obj.mapFields (·.setIfInBounds 3 (g.elim Value.none fun f=>rawInt f)))).get? b=s.heap.get? b:=fun b z=>Heap.get?_update_other _ _ z.symm
 have rec':∀ b o,s.heap.get? b=some o→(∀ vs,o.data≠.fields vs)→b≠tb:=fun b o e n z=>by
  rw [z,g7] at e
  cases e
  exact n ws g8
 unfold setFlight
 refine wpAny_bind (wpAny_field g1 g3 g4 ?_)
 rw [if_pos (by simp)]
 refine wpAny_setField g7 g8 lt3 (q _ ?_ ?_ ?_ ?_)
 ·intro b o e
  refine (far b fun z=>?_).trans (st b o e)
  rw [z,g5] at e
  cases e
 ·exact ff.of_keeps fun b o e n=>⟨o,(far b (rec' b o e n)).trans e,rfl⟩
 ·refine ⟨ob,us,tb,_,_,(far ea g6.symm).trans g1,g2,g3,g4,g5,g6,Heap.get?_update_self _ g7 (Obj.isFreed_of_fields (Obj.data_mapFields g8 _)),Obj.data_mapFields g8 _,?_⟩
  simp [lt3]
 ·exact fun b o e n=>⟨o.slots,(far b (rec' b o e n)).trans e⟩
theorem XF {what:String}{cenv:Env}{α:Type}{Q:α→Shared→Prop}(st:B.StaysIn s.heap)(ff:s.heap.FunFrames B l)(tr:s.heap.TracedAtW B ea kl a0 fl)
  (q:∀ h2 fl',B.StaysIn h2→h2.FunFrames B l→h2.TracedAtW B ea kl a0 fl'→s.heap.UpToSlots h2→E (.ref ea) { s with heap:=h2 }):wpAny M A (PySem.passOn what (.ref ea) cenv) Q E s:=by
 obtain ⟨ob,us,tb,ot,ws,g1,g2,g3,g4,g5⟩:=id tr
 unfold PySem.passOn
 refine wpAny_bind (wpAny_field g1 g3 g4 ?_)
 rw [if_neg (by simp)]
 refine wpAny_bind (XA st ff tr fun h2 k1 k2 k3 k4=>?_)
 exact wpAny_throw (q h2 _ k1 k2 k3 k4)
theorem Vj {env:Env}{outer:List Env}{L:Addr}{Q:Unit→Shared→Prop}(fr:A.frames=some (env::outer))(el:env.frame=some L)(st:B.StaysIn s.heap)(nb:B.get? ea=none)(ff:s.heap.FunFrames B (env::outer))(tr:s.heap.TracedAtW B ea kl a0 fl)
  (q:∀ h2,Heap.FlyingW B outer ea kl a0 h2→s.heap.UpToSlots h2→Q () { s with heap:=h2 }):wpAny M A (leaving env (.ref ea)) Q E s:=by
 by_cases here:fl=rawInt L
 ·rw [here] at tr
  unfold leaving
  refine wpAny_bind (wpAny_noteFrame_againW el tr ?_)
  exact wpAny_landsW ⟨st,nb,ff,tr⟩ fun h2 ⟨k1,k2,k3,k4⟩ up=>q h2 ⟨k1,k2,k3.2.2,k4⟩ up
 obtain ⟨ob,us,tb,ot,ws,g1,⟨gc,g0⟩,g3,g4,g5,g6,g7,g8,g9⟩:=tr
 subst gc
 have lt3:=(Array.getElem?_eq_some_iff.mp g9).1
 unfold leaving noteFrame
 simp only [el]
 refine wpAny_bind (wpAny_bind (wpAny_field g1 g3 g4 ?_))
 rw [if_pos (by simp)]
 refine wpAny_bind (wpAny_field g7 g8 g9 ?_)
 rw [if_neg (fun z=>here (eq_of_beq z))]
 refine wpAny_bind (wpAny_setField g7 g8 lt3 ?_)
 have far:∀ b,b≠tb→(s.heap.update tb (Obj.mapFields (·.setIfInBounds 3 Value.none))).get? b=s.heap.get? b:=fun b z=>Heap.get?_update_other _ _ z.symm
 have rec':∀ b o,s.heap.get? b=some o→(∀ vs,o.data≠.fields vs)→b≠tb:=fun b o e n z=>by
  rw [z,g7] at e
  cases e
  exact n ws g8
 have st1:B.StaysIn (s.heap.update tb (Obj.mapFields (·.setIfInBounds 3 Value.none))):=fun b o e=>(far b fun z=>by rw [z,g5] at e;cases e).trans (st b o e)
 have ff1:=ff.of_keeps fun b o e n=>⟨o,(far b (rec' b o e n)).trans e,rfl⟩
 refine wpAny_newEntryW fr ff1 el ((far ea g6.symm).trans g1) st1 nb g3 (Array.getElem?_eq_some_iff.mp g4).1 g0 fun h2 ⟨x1,x2,x3,x4⟩=>q h2 ⟨x1,nb,x2.2.2,x3⟩ fun b o e n=>?_
 exact x4 b o ((far b (rec' b o e n)).trans e) n
end
section
variable {P:Program} {w:World} {K:W.Frag} {mg:Str→Option Value} {base:Heap} {N:List Str} {qual:Str} {scope:Scope} {f:Addr} {cd:Value} {A:Around} {outer:List Env} {s0:Shared} {H0:Hp} {E:XK}
 {pins pins':List (Addr×Obj)} {σ σ':St} {H H1:Hp} {s s1 s':Shared} {sc:Scope} {x:Str} {caps:List Str} {ix:List Nat}
theorem Vq {fp:List Addr}{C:Addr}{acc e:Value}{QQ:Value→Shared→Prop}(S:Ar (BF (CXE P w) P w K mg base N qual scope f cd A outer s0 H0 E) sc x caps ix)(I:Inv (BF (CXE P w) P w K mg base N qual scope f cd A outer s0 H0 E) pins σ H s)
  (hf:∀ b∈fp,Le (BF (CXE P w) P w K mg base N qual scope f cd A outer s0 H0 E) pins H b) (hC:s.heap.objs.size≤C)
  (I1:Inv (Au (BF (CXE P w) P w K mg base N qual scope f cd A outer s0 H0 E) sc (As (BF (CXE P w) P w K mg base N qual scope f cd A outer s0 H0 E) caps) (x::caps) C s H fp) pins' σ' H1 s1) (hfp:∀ b∈fp,∃ o,s1.heap.get? b=some o)
  (hx:CXE P w (BF (CXE P w) P w K mg base N qual scope f cd A outer s0 H0 E).stack H1 s1 (fun cls _ H'=>E cls none H') e s') :
  notedBy (model P w) (BF (CXE P w) P w K mg base N qual scope f cd A outer s0 H0 E).A (compEnvC sc (As (BF (CXE P w) P w K mg base N qual scope f cd A outer s0 H0 E) caps) C (BF (CXE P w) P w K mg base N qual scope f cd A outer s0 H0 E).env)
   (fun e s'=>compPost (model P w) (BF (CXE P w) P w K mg base N qual scope f cd A outer s0 H0 E).A (BF (CXE P w) P w K mg base N qual scope f cd A outer s0 H0 E).xe none QQ acc C (.error e) s') e s':=by
 obtain ⟨ea,cls,H',rfl,os,bare,un,hok,⟨B,a0,fl,c1,c2⟩,hE⟩:=hx
 have J:=I1.call' (ch:=[]) os un hok bare (fun b z=>absurd z (by simp))
 have JX:=S.back I hf hC J (Heap.SameBut.refl _ _)
 have J1X:=S.back I hf hC I1 (Heap.SameBut.refl _ _)
 show wpAny _ _ (noteFrame (.ref ea) (BF (CXE P w) P w K mg base N qual scope f cd A outer s0 H0 E).env) _ _ s'
 refine wpAny_looks_onW (env:=(BF (CXE P w) P w K mg base N qual scope f cd A outer s0 H0 E).env) I.ok.frames rfl fl fun h4 held4 up4=>?_
 have JX4:=Inv.fly (h':=h4) J1X JX fl.1 held4.1 up4 c1 c2
 obtain ⟨m,hn,_⟩:=J.loc
 have hn4:=up4.ns hn
 refine ⟨m,hn4,fun h5 hs cenv _=>?_⟩
 have JX5:=bJ I hC JX4 J.free hs
 have sub:(W.hideAll B [C]).StaysIn B:=fun b o e=>W.of_hideAll _ e
 have neC:∀ b o,(W.hideAll B [C]).get? b=some o→b≠C:=fun b o e z=>by
  rw [z,W.hideAll_none [C] (by simp)] at e
  cases e
 have inB:∀ b o,B.get? b=some o→b≠C→∃ o',(W.hideAll B [C]).get? b=some o':=fun b o e z=>⟨o,W.hideAll_get _ e (by simpa using z)⟩
 have c1':∀ b o,s.heap.get? b=some o→b∉frs (BF (CXE P w) P w K mg base N qual scope f cd A outer s0 H0 E).stack→∃ o',(W.hideAll B [C]).get? b=some o':=fun b o e hb=>by
  have hbC:b≠C:=ze (zM (zJ e) hC)
  have:∃ o1,s1.heap.get? b=some o1:=by
   by_cases z:b∈fp
   ·exact hfp b z
   ·exact I1.base.there b o e z
  obtain ⟨o1,e1⟩:=this
  obtain ⟨o2,e2⟩:=c1 b o1 e1 hb
  exact inB b o2 e2 hbC
 have c2':∀ b,H' b≠none→∃ o',(W.hideAll B [C]).get? b=some o':=fun b hb=>by
  obtain ⟨o,e⟩:=c2 b hb
  exact inB b o e fun z=>hb (by rw [z];exact J.free)
 have st5:(W.hideAll B [C]).StaysIn h5:=fun b o e=>(hs.2 b (neC b o e)).trans (held4.1 b o (sub b o e))
 have nb5:(W.hideAll B [C]).get? ea=none:=by
  cases q:(W.hideAll B [C]).get? ea with
  | none=>rfl
  | some o =>
   have:=sub _ _ q
   rw [held4.2.1] at this
   cases this
 have frC:∀ env∈(BF (CXE P w) P w K mg base N qual scope f cd A outer s0 H0 E).stack,∀ b∈[C],env.frame≠some b:=fun env he b hb z=>by
  rw [zI.mp hb] at z
  obtain ⟨L,o,e1,e2⟩:=PyProof.Rows.funFrames_in I.stack env he
  rw [z] at e1
  cases e1
  exact absurd (zM (zJ e2) hC) (qF _)
 have ff5:=(W.funFrames_hideAll (W.funFrames_base sub held4.2.2.1) frC).of_keeps (h':=h5) fun b o e _=>⟨o,(hs.2 b fun z=>by rw [z,W.hideAll_none [C] (by simp)] at e;cases e).trans (W.of_hideAll _ e),rfl⟩
 have tr5:h5.TracedAtW (W.hideAll B [C]) ea cls a0 (rawInt (BF (CXE P w) P w K mg base N qual scope f cd A outer s0 H0 E).env.locals):=by
  obtain ⟨ob,us,tb,ot,ws,g1,g2,g3,g4,g5,g6,g7,g8,g9⟩:=held4.2.2.2
  obtain ⟨oC,es,ep,k1,k2,_⟩:=id hn4
  have nf:∀ b o vs,h4.get? b=some o→o.data = .fields vs→b≠C:=fun b o vs e d z=>by
   have k1':h4.get? C=some oC:=k1
   rw [z,k1'] at e
   cases e
   rw [k2] at d
   cases d
  refine ⟨ob,us,tb,ot,ws,(hs.2 _ (nf _ _ _ g1 g3)).trans g1,g2,g3,g4,?_,g6,(hs.2 _ (nf _ _ _ g7 g8)).trans g7,g8,g9⟩
  cases q:(W.hideAll B [C]).get? tb with
  | none=>rfl
  | some o =>
   have:=sub _ _ q
   rw [g5] at this
   cases this
 refine XF st5 ff5 tr5 fun h6 fl' k1 k2 k3 k4=>?_
 refine Vj (A:=A.deeper (envOfC qual scope s0.heap.objs.size f cd)) (env:=envOfC qual scope s0.heap.objs.size f cd) (outer:=outer) I.ok.frames rfl k1 nb5 k2 k3 fun h7 fl7 up7=>?_
 have I7:=Inv.fly (h':=h7) I JX5 st5 fl7.1 (k4.trans up7) c1' c2'
 refine ⟨ea,cls,H',rfl,I7.os,I7.bare,I7.base,I7.hok,⟨_,a0,fl7,fun b o e hb=>?_,c2'⟩,hE⟩
 obtain ⟨o1,a1⟩:=I.base.there b o e (fun z=>absurd (show b∈([]:List Addr) from z) (by simp))
 exact c1' b o1 a1 (I.notStack e hb)
end
section
variable {X:Cx} {pins:List (Addr×Obj)} {σ:St} {H:Hp} {s:Shared} {sc:Scope} {x:Str} {caps:List Str} {ix:List Nat}
theorem UK {elt iter:Expr}{px pos:Pos}{ifs:List Expr}{te:TE}{tc:TT}{J:It}{fp:List Addr}{it:Addr}{tn:Nat→Heap→Prop}{QH:Addr→Hp→Prop}{RR:Value→Addr→Result→Shared→Prop}{E:Value→Shared→Prop}
  (hc:X.calm=true) (S:Ar X sc x caps ix) (Nn:Value→St→Hp→Prop) (he:∀ C s H ex pn xe,O5 ((Au X sc (As X caps) (x::caps) C s H ex).trying pn xe) Nn→PE ((Au X sc (As X caps) (x::caps) C s H ex).trying pn xe) elt te) (ht:∀ C s H ex,PTs (Au X sc (As X caps) (x::caps) C s H ex) ifs tc)
  (I:Inv X pins σ H s) (T:S3 X.prog X.w X.K (.Name x px) J fp it tn) (st:tn 0 s.heap) (hf:∀ b∈fp,Le X pins H b) (h:∀ D,H D=none→Ds te tc (Dj σ ix) J D H (QH D))
  (hRR:∀ D C (ps:List (Addr×Obj)) σ' H' s',s.heap.objs.size≤C→Inv (Au X sc (As X caps) (x::caps) C s H fp) ps σ' H' s'→QH D H'→RR (.ref D) C (.ok .next) s')
  (hXE:∀ D C pins' σ' H1 s1 e s',s.heap.objs.size≤C→Inv (Au X sc (As X caps) (x::caps) C s H fp) pins' σ' H1 s1→(∀ b∈fp,∃ o,s1.heap.get? b=some o)→CXE X.prog X.w X.stack H1 s1 (fun cls _ H'=>Nn cls σ' H') e s' →
   notedBy (model X.prog X.w) X.A (compEnvC sc (As X caps) C X.env) (fun e s'=>RR (.ref D) C (.error e) s') e s') :
  wpAny (model X.prog X.w) X.A (newList []) (fun acc s₃=>wpAny (model X.prog X.w) X.A (newFunctionEnv sc X.env.globals (As X caps) [] X.env.qual none .none (some X.env)) (fun cenv s₄ =>
   codeAny (model X.prog X.w) X.A (.compStart (.ListComp elt [⟨.Name x px,iter,ifs,0⟩] sc pos) 0 (.ref it) acc { cenv with scope:=relabel sc X.env }) (RR acc cenv.locals) s₄) E s₃) E s:=by
 refine wpAny_newObj_type (wpAny_newFunctionEnv S.nocell (by intro y hy;simp at hy) (fun h₁ hns₁ hsb₁=>?_) S.kind)
 dsimp only at hns₁ hsb₁ ⊢
 generalize hH2:s.heap.push { cls:=.type "list",dict:=none,data:=.seq ([]:List Value).toArray }=H2 at hns₁ hsb₁ ⊢
 have hC:H2.objs.size=s.heap.objs.size+1:=by rw [← hH2,qP]
 have hDC:s.heap.objs.size≠H2.objs.size:=by rw [hC];exact ze (Nat.lt_succ_self _)
 have hCle:s.heap.objs.size≤H2.objs.size:=by rw [hC];exact Nat.le_succ _
 have below:∀ b,b<s.heap.objs.size→b≠H2.objs.size:=fun b hb=>by rw [hC];exact ze (Nat.lt_succ_of_lt hb)
 have old:∀ b o,s.heap.get? b=some o→h₁.get? b=some o:=fun b o e=>hsb₁.extBut b o (below b (zJ e)) (zA _ (hH2▸zA _ e))
 have hacc:h₁.get? s.heap.objs.size=some { cls:=.type "list",data:=.seq #[] 0 }:=hsb₁.extBut _ _ hDC (zA _ (hH2▸zT _ rfl))
 have hb:∀ b∈fp,b<s.heap.objs.size:=fun b hbf=>by obtain ⟨o,e,_⟩:=T.obj _ _ st b hbf;exact zJ e
 have I1:=S.start (tk:=s.toks+([]:List (Str×Value)).length) I hf hb (zL _) hCle hDC old hacc hns₁
 obtain ⟨W,⟨m0,w0⟩,turn⟩:=h _ (I.hok.fresh (zL _))
 have stat:∀ {H':Hp},(∀ b∈fp,H' b=none)→∀ b∈fp,Le (Au X sc (As X caps) (x::caps) H2.objs.size s H fp) [] H' b:=fun {H'} hn b hbf =>
  ⟨hn b hbf,(I1.ok.exf b hbf).1,I1.ok.exfs b hbf,.inl hbf,(I1.ok.exf b hbf).2,fun p hp=>absurd (show p∈([]:List (Addr×Obj)) from hp) (by simp)⟩
 have st1:tn 0 h₁:=T.keep _ _ _ st fun b hbf o e=>old b o e
 have fr1:∀ b∈fp,upd H s.heap.objs.size (.lst []) b=none:=fun b hbf=>by
  rw [AO (ze (hb b hbf))];exact (hf b hbf).1
 have loop:∀ s₃:Shared,s₃={ s with heap:=h₁,toks:=s.toks+([]:List (Str×Value)).length } →
   codeAny (model X.prog X.w) X.A (.compLoop (.ListComp elt [⟨.Name x px,iter,ifs,0⟩] sc pos) 0 (.ref it) (.ref s.heap.objs.size) (compEnvC sc (As X caps) H2.objs.size X.env))
    (RR (.ref s.heap.objs.size) H2.objs.size) s₃:=by
  rintro s₃ rfl
  refine Ov (fun n s'=>∃ i ys H' ov,Inv (Au X sc (As X caps) (x::caps) H2.objs.size s H fp) [] (ov::Dj σ ix) H' s'∧tn i s'.heap∧(∀ b∈fp,H' b=none)∧W i n ys H') rfl ?_ m0 ⟨0,[],_,none,I1,st1,fr1,w0⟩
  rintro n s3 ⟨i,ys,H3,ov,I3,st3,fr3,w3⟩
  rcases turn i n ys H3 w3 with ⟨stop,q⟩ | ⟨go,step⟩
  ·refine BR (thn (T.done (Au X sc (As X caps) (x::caps) H2.objs.size s H fp) rfl rfl rfl hc i [] s3 _ H3 _ I3 (stat fr3) st3 stop) fun r s4 zq=>?_)
   obtain ⟨hr,I4⟩:=zq
   subst hr
   exact hRR _ _ _ _ _ _ hCle I4 q
  ·refine BR (thn (T.item (Au X sc (As X caps) (x::caps) H2.objs.size s H fp) rfl rfl rfl hc i [] s3 _ H3 _ I3 (stat fr3) st3 go) fun r s4 zq=>?_)
   obtain ⟨u,hr,h4⟩:=zq
   subst hr
   refine BR (thn h4 fun _ s5 zq=>?_)
   obtain ⟨v,H5,I5,r5,y5,st5,fr5⟩:=zq
   have I5':=I5.pinned (stat fr5) (T.obj _ _ st5)
   have hg:PG (Au X sc (As X caps) (x::caps) H2.objs.size s H fp) (.Name x px) (EH 0):=Sw (i:=0) S.nd rfl (.inl (lookup_relabel_local S.hx)) (.inr (lookup_relabel_local S.hx))
   have again:∀ {s7:Shared} {H7:Hp} {ys':List V},Inv (Au X sc (As X caps) (x::caps) H2.objs.size s H fp) ([]++Lb fp s5.heap) (some v::Dj σ ix) H7 s7→(∃ m',m'<n∧W (i+1) m' ys' H7) →
     ∃ m,m<n∧∃ i ys H' ov,Inv (Au X sc (As X caps) (x::caps) H2.objs.size s H fp) [] (ov::Dj σ ix) H' s7∧tn i s7.heap∧(∀ b∈fp,H' b=none)∧W i m ys H':=fun {s7 H7 ys'} I7 ⟨m',hm,w7⟩=>by
    refine ⟨m',hm,i+1,ys',H7,some v,I7.unpinned,T.keep _ _ _ st5 fun b hb o e=>(I7.pin (b,o) (zd _ (zd _ (Ci hb e)))).1,fun b hb=>?_,w7⟩
    obtain ⟨o,e,d⟩:=T.obj _ _ st5 b hb
    exact (I7.pin (b,o) (zd _ (zd _ (Ci hb e)))).2.1
   refine BR (thn (hg _ s5 _ H5 v u (fun σ' H'=>σ'=some v::Dj σ ix∧H'=H5) I5' r5 ⟨rfl,rfl⟩) fun _ s6 zq=>?_)
   obtain ⟨σ6,H6,I6,e6,e6'⟩:=zq
   subst e6 e6'
   refine BR (thn (ht _ _ _ _ _ s6 _ H6 _ I6 (step v H6 y5)) fun ok s7 zq=>?_)
   obtain ⟨H7,I7,q7⟩:=zq
   cases ok with
   | false=>exact again I7 (by simpa using q7)
   | true =>
    rw [if_pos rfl] at q7
    rw [if_pos rfl]
    have pass:O5 ((Au X sc (As X caps) (x::caps) H2.objs.size s H fp).trying ((Au X sc (As X caps) (x::caps) H2.objs.size s H fp).pn++([]++Lb fp s5.heap)) (notedBy (model X.prog X.w) X.A (compEnvC sc (As X caps) H2.objs.size X.env) (fun e s'=>RR (.ref s.heap.objs.size) H2.objs.size (.error e) s'))) Nn:=fun pins' σ' Ha sa e sb I' hx=>by
     have Ia:=I'.tried I7.ok
     refine hXE _ _ _ _ _ _ _ _ hCle Ia (fun b hb=>?_) hx
     obtain ⟨o,e,d⟩:=T.obj _ _ st5 b hb
     exact ⟨o,(Ia.pin (b,o) (zd _ (zd _ (Ci hb e)))).1⟩
    refine wpAny_mono (he _ _ _ _ _ _ pass [] s7 _ H7 _ (I7.trying _) q7) (fun yv s8 h8=>?_) fun e s8 h8=>h8
    obtain ⟨y,H8,I8',r8,hD8,hz8,q8⟩:=h8
    have I8:=I8'.tried I7.ok
    refine BR (thn (OA _ s8 _ H8 (.ref s.heap.objs.size) [y] _ [yv] (fun _ H9=>H9=upd H8 s.heap.objs.size (.lst (ys++[y]))) I8 rfl (.cons r8 .nil) ⟨_,_,_,rfl,rfl,hD8,hz8,rfl⟩) fun _ s9 zq=>?_)
    obtain ⟨_,H9,I9,_,e9⟩:=zq
    subst e9
    exact again I9 q8
 exact codeAny_compStart_list (loop _ rfl) (T.self _ 0 _ _ _ st1 (loop _ rfl))
end
section
variable {P:Program} {w:World} {K:W.Frag} {mg:Str→Option Value} {base:Heap} {N:List Str} {qual:Str} {scope:Scope} {f:Addr} {cd:Value} {A:Around} {outer:List Env} {s0:Shared} {H0:Hp} {E:XK}
 {sc:Scope} {x:Str} {caps:List Str} {ix:List Nat}
theorem UY {elt iter:Expr}{px pos:Pos}{ifs:List Expr}{wi:TI}{te:TE}{tc:TT}(hc:(BF (CXE P w) P w K mg base N qual scope f cd A outer s0 H0 E).calm=true)(S:Ar (BF (CXE P w) P w K mg base N qual scope f cd A outer s0 H0 E) sc x caps ix)(hi:PI (BF (CXE P w) P w K mg base N qual scope f cd A outer s0 H0 E) (.Name x px) iter wi)
  (he:∀ C s H ex pn xe,O5 ((Au (BF (CXE P w) P w K mg base N qual scope f cd A outer s0 H0 E) sc (As (BF (CXE P w) P w K mg base N qual scope f cd A outer s0 H0 E) caps) (x::caps) C s H ex).trying pn xe) (fun cls _ H'=>E cls none H')→PE ((Au (BF (CXE P w) P w K mg base N qual scope f cd A outer s0 H0 E) sc (As (BF (CXE P w) P w K mg base N qual scope f cd A outer s0 H0 E) caps) (x::caps) C s H ex).trying pn xe) elt te)
  (ht:∀ C s H ex,PTs (Au (BF (CXE P w) P w K mg base N qual scope f cd A outer s0 H0 E) sc (As (BF (CXE P w) P w K mg base N qual scope f cd A outer s0 H0 E) caps) (x::caps) C s H ex) ifs tc)
  (hs:∀ x,foldedSetIterable iter (BF (CXE P w) P w K mg base N qual scope f cd A outer s0 H0 E).env x=pure x:=by intro _;rfl):PE (BF (CXE P w) P w K mg base N qual scope f cd A outer s0 H0 E) (.ListComp elt [⟨.Name x px,iter,ifs,0⟩] sc pos) (Hh wi te tc ix):=by
 intro pins s σ H Q I h
 rw [eval_ListComp]
 refine wpAny_comprehension_free (use:=none) rfl hs S.clos S.kind S.names (thn (hi pins s σ H _ I h) fun v s1 h1=>thn h1 fun itv s2 h2=>?_)
 obtain ⟨it,fp,tn,J,H2,e,I2,T,st2,f2,q⟩:=h2
 subst e
 refine UK (RR:=fun acc C=>compPost (model P w) (BF (CXE P w) P w K mg base N qual scope f cd A outer s0 H0 E).A (BF (CXE P w) P w K mg base N qual scope f cd A outer s0 H0 E).xe none (EP (BF (CXE P w) P w K mg base N qual scope f cd A outer s0 H0 E) pins σ Q) acc C) (QH:=fun D H'=>Q (.ref D) H') hc S (fun cls _ H'=>E cls none H') he ht I2 T st2 f2 q ?_ fun D C pins' σ' H1 s1 e s' hC I1 hfp hx=>Vq S I2 f2 hC I1 hfp hx
 intro D C ps σ' H' s' hC I' hq
 obtain ⟨m,hn,_⟩:=I'.loc
 exact ⟨m,hn,fun h'' hs=>⟨.ref D,H',S.back I2 f2 hC I' hs,rfl,hq⟩⟩
end
section
variable {X:Cx}
end
end L2
namespace TG
open PySem L2
theorem ZY {gs:List G}(ok:∀ g∈gs,OkG g)(ha:Asc gs)(nb:Bh gs){x0 y0:G}(hx0:x0∈gs)(hy0:y0∈gs)(l0:x0.p<y0.p):∃ x∈gs,∃ y∈gs,x.p<y.p∧∀ g∈gs,Gj (x.f*y.p-y.h*x.p) (y.h-x.f) (y.p-x.p) g:=by
 let ps:List (Int×Int):=gs.flatMap fun x=>(gs.filter fun y=>decide (x.p<y.p)).map fun y=>(y.h-x.f,y.p-x.p)
 have mem:∀ {x y:G},x∈gs→y∈gs→x.p<y.p→(y.h-x.f,y.p-x.p)∈ps:=fun {x y} hx hy l =>
  List.mem_flatMap.mpr ⟨x,hx,zZ.mpr ⟨y,zz.mpr ⟨hy,zE l⟩,rfl⟩⟩
 have inv:∀ z∈ps,∃ x∈gs,∃ y∈gs,x.p<y.p∧z=(y.h-x.f,y.p-x.p):=fun z hz=>by
  obtain ⟨x,hx,h2⟩:=List.mem_flatMap.mp hz
  obtain ⟨y,hy,rfl⟩:=zZ.mp h2
  obtain ⟨h3,h4⟩:=zz.mp hy
  exact ⟨x,hx,y,h3,zH h4,rfl⟩
 obtain ⟨z,hz,hm⟩:=Pu ps (fun e=>by have:=mem hx0 hy0 l0;rw [e] at this;simp at this) (fun z hz=>by
  obtain ⟨x,_,y,_,l,rfl⟩:=inv z hz
  show 0<y.p-x.p
  lia)
 obtain ⟨x,hx,y,hy,l,rfl⟩:=inv z hz
 refine ⟨x,hx,y,hy,l,Qh ok hx hy l (fun x' hx' y' hy' l'=>hm _ (mem hx' hy' l')) (fun g hg g' hg' e=>Q3 ha hg hg' e) (fun m hm l1 hb=>?_) (fun m hm l1 hb=>?_)⟩
 ·exact J3 ha nb hm hx hy l1 l (.inl hb)
 ·exact J3 ha nb hx hy hm l l1 (.inr hb)
structure bM (gs:List G)(ts:List Thr):Prop where
 ne:ts≠[]
 ok:∀ t∈ts,OkT t
 one:∃ t∈ts,∃ g∈gs,t.pas g
 two:∀ x∈gs,∀ y∈gs,x.p<y.p→∃ t∈ts,∀ g:G,t.pas g↔Gj (x.f*y.p-y.h*x.p) (y.h-x.f) (y.p-x.p) g
noncomputable def Tn (gs:List G)(t:Thr):Nat:=(gs.filter fun g=>decide (t.pas g)).length
theorem Vh {gs:List G}{ts:List Thr}{t:Thr}(T:bM gs ts)(ok:∀ g∈gs,OkG g)(ha:Asc gs)(best:∀ t'∈ts,Tn gs t'≤Tn gs t)(u w m:Int)(hm:0<m)(ps:List G)(hs:ps.Sublist gs)(hp:∀ g∈ps,Gj u w m g):ps.length≤Tn gs t:=by
 match ps,hs,hp with
 | [],_,_=>exact zr _
 | [x],_,_ =>
  obtain ⟨t',ht,g,hg,p⟩:=T.one
  have:0<Tn gs t':=List.length_pos_iff.mpr fun z=>by
   have:g∈gs.filter fun g=>decide (t'.pas g):=zz.mpr ⟨hg,zE p⟩
   rw [z] at this
   exact absurd this (by simp)
  exact zO this (best t' ht)
 | x0::y0::r,hs,hp =>
  generalize hr:x0::y0::r=ps at *
  have ap:Asc ps:=List.Pairwise.sublist hs ha
  have hx0:x0∈ps:=by rw [← hr];simp
  have hy0:y0∈ps:=by rw [← hr];simp
  have l0:x0.p<y0.p:=by
   rw [← hr] at ap
   exact (List.pairwise_cons.mp ap).1 y0 (by simp)
  obtain ⟨x,hx,y,hy,l,all⟩:=ZY (fun g hg=>ok g (hs.subset hg)) ap (Vb ap hm hp) hx0 hy0 l0
  obtain ⟨t',ht,hpas⟩:=T.two x (hs.subset hx) y (hs.subset hy) l
  have hf:=hs.filter fun g=>decide (t'.pas g)
  rw [List.filter_eq_self.mpr fun g hg=>zE ((hpas g).mpr (all g hg))] at hf
  exact zO hf.length_le (best t' ht)
end TG
namespace LM
open PySem PySem.Spec PySem.Calls PyProof.Rows PySem.W L2
noncomputable abbrev J5 (x:Str)(p1 p2 p3 p4 p5:Pos):Expr:=.Call (.Name "len" p1) [.Subscript (.Name x p2) (.Constant (.int 0) 0 p3) p4] [] p5
section
variable {prog:Program} {w:World} {A:Around} {E:Value→Shared→Prop} {s:Shared}
theorem ZF {q t l c':Addr}{x name qual:Str}{params:Arguments}{scope:Scope}{pm ctv:Value}{p1 p2 p3 p4 p5:Pos}{mg mb:Str→Option Value}{its lits:Array Value}{Q:Value→Shared→Prop}
  (hq:s.heap.get? q=some (kla_obj name qual params (J5 x p1 p2 p3 p4 p5) scope [] pm c' ctv)) (hcd:s.heap.CodeRec (.ref c') qual) (hroom:A.in1.depth<recursionLimit)
  (hbind:∀ v,bindArgs (kla_fn name qual params (J5 x p1 p2 p3 p4 p5) scope [] pm (.ref c') ctv) ⟨[v],[]⟩=pure [(x,v)])
  (hx:scope.names.lookup x=some .local) (hl:scope.names.lookup ("len":Str)=some .globalImplicit) (hcell:∀ y∈scope.names,y.2≠.cell) (hk:scope.kind = .function) (hco:scope.isCoroutine=false) (hgen:scope.isGenerator=false)
  (hdx:(x == ("__debug__":Str))=false)
  (hg:s.heap.Ns mainGlobals mg) (hm:mg "len"=none) (hb:s.heap.Ns builtinsNs mb) (hbb:mb "len"=bootBuiltins "len") (hlim:s.heap.NoLimit)
  (ht:IsTup s.heap t its) (h0:its[0]? = some (.ref l)) (hsz:its.size≤sizeLine) (hls:s.heap.IsList l lits) (hlz:lits.size≤sizeLine)
  (h:∀ h' tk u,(∀ b o,s.heap.get? b=some o→h'.get? b=some o)→Q (.int lits.size u) { s with heap:=h',toks:=tk }) :
  wpAny (model prog w) A.in1 (call (.ref q) [.ref t]) Q E s:=by
 refine wpAny_call ?_
 refine kla_callFunE hroom hq rfl hco hgen rfl hcd ?_
 rw [hbind]
 refine wpAny_pure (wpAny_newFunctionEnv hcell (by intro y hy;rw [zI.mp hy];exact hx) (fun h₁ hns hsb=>?_) hk)
 have hk₁:∀ b o,s.heap.get? b=some o→h₁.get? b=some o:=fun b o e=>hsb.extBut b o (ze (zJ e)) (zA _ e)
 refine ⟨hlim.keeps hk₁,?_⟩
 refine kla_codeExpr ?_
 refine wpAny_Call_Name_kw (Calls.Name_function_global hk hl (Calls.loadGlobal_builtin (hg.keeps hk₁) hm (hb.keeps hk₁) (hbb.trans rfl) ?_) (by decide))
 refine PyProof.Rows.callWith_builtin1 ?_ rfl rfl
 show wpAny _ _ (spliced ((false,eval (.Subscript (.Name x p2) (.Constant (.int 0) 0 p3) p4) _)::[])) _ _ _
 refine Calls.spliced_cons ?_
 refine Subscript_ (wpAny_Name (wpAny_loadName_local (v:=.ref t) hk hx hns (by simp) ?_) hdx)
 refine wpAny_Constant_int ?_
 have ht':=ht.keeps hk₁
 have hls':h₁.IsList l lits:=by obtain ⟨o,e,r⟩:=hls;exact ⟨o,hk₁ _ _ e,r⟩
 have hn:=N3
 refine subscriptTail_builtinR (x:=.ref l) ht'.typeIs slot_tuple_getitem.lookup
  (getItem_tuple (j:=0) ht' (by decide) (by decide) (seqIndex_of (by decide) ?_) h0 ⟨rfl,?_⟩)
 ·have:0<its.size:=by
   rcases Nat.eq_zero_or_pos its.size with z | z
   ·rw [Array.getElem?_eq_none (by lia)] at h0;cases h0
   ·exact z
  lia
 refine Calls.spliced_nil ?_
 exact Calls.call_len_list hls' (by lia) (h _ _ _ hk₁)
theorem aH {L l q c':Addr}{m:Str→Option Value}{x name qual:Str}{params:Arguments}{scope:Scope}{pm ctv:Value}{p1 p2 p3 p4 p5:Pos}{mg mb:Str→Option Value}{vs:List Value}{kf:Nat→Nat}{Q:Value→Shared→Prop}
  (hL:s.heap.Ns L m) (hqL:q≠L) (hcL:c'≠L) (hh:A.handled=none) (hgL:mainGlobals≠L) (hbL:builtinsNs≠L)
  (hq:s.heap.get? q=some (kla_obj name qual params (J5 x p1 p2 p3 p4 p5) scope [] pm c' ctv)) (hcd:s.heap.CodeRec (.ref c') qual) (hroom:A.in1.depth<recursionLimit)
  (hbind:∀ v,bindArgs (kla_fn name qual params (J5 x p1 p2 p3 p4 p5) scope [] pm (.ref c') ctv) ⟨[v],[]⟩=pure [(x,v)])
  (hx:scope.names.lookup x=some .local) (hl:scope.names.lookup ("len":Str)=some .globalImplicit) (hcell:∀ y∈scope.names,y.2≠.cell) (hk:scope.kind = .function) (hco:scope.isCoroutine=false) (hgen:scope.isGenerator=false)
  (hdx:(x == ("__debug__":Str))=false)
  (hg:s.heap.Ns mainGlobals mg) (hm:mg "len"=none) (hb:s.heap.Ns builtinsNs mb) (hbb:mb "len"=bootBuiltins "len") (hlim:∀ h:Heap,(∀ b o,b≠L→s.heap.get? b=some o→h.get? b=some o)→h.NoLimit)
  (hll:s.heap.IsList l vs.toArray) (hlL:l≠L) (hne:0<vs.length)
  (hvs:∀ (i:Nat) (v:Value),vs[i]? = some v→∃ t pl its lits,v = .ref t∧t≠L∧pl≠L∧IsTup s.heap t its∧its[0]? = some (.ref pl)∧its.size≤sizeLine∧s.heap.IsList pl lits∧lits.size≤sizeLine∧lits.size=kf i)
  (h:∀ i v h' tk',vs[i]? = some v→(∀ j,j<vs.length→kf j≤kf i∧(j<i→kf j<kf i))→h'.Ns L m→(∀ b o,b≠L→s.heap.get? b=some o→h'.get? b=some o)→Q v { s with heap:=h',toks:=tk' }) :
  wpAny (model prog w) A (call (.builtin "max") [.ref l] [(Str.ofString "key",.ref q)]) Q E s:=by
 obtain ⟨oL,_,_,hoL,_⟩:=id hL
 have hN:News (Att.noObjs s.heap) L s.heap (Att.ledger s.heap L L):=fun ⟨a,o⟩ hp=>⟨(Att.mem_ledger.mp hp).2.2,(Att.mem_ledger.mp hp).1,Att.noObjs_get _ _⟩
 have kOf:∀ {h:Heap} {own:List (Addr×Obj)},News (Att.noObjs s.heap) L h (Att.ledger s.heap L L++own)→∀ b o,b≠L→s.heap.get? b=some o→h.get? b=some o:=
  fun N b o nb e=>(N (b,o) (qD _ (Att.mem_ledger.mpr ⟨nb,nb,e⟩))).1
 have kOf':∀ {h:Heap},News (Att.noObjs s.heap) L h (Att.ledger s.heap L L)→∀ b o,b≠L→s.heap.get? b=some o→h.get? b=some o:=
  fun N b o nb e=>(N (b,o) (Att.mem_ledger.mpr ⟨nb,nb,e⟩)).1
 refine kmk_max (fun i=>(kf i:Int)) hh (Att.fr_all hL) hN (fun h' F N=>?_) hne (fun i v hv h' tk own F N=>?_) fun i v h' tk' hv hbest F N=>?_
 ·obtain ⟨o,e,r⟩:=hll
  exact ⟨o,kOf' N _ _ hlL e,r⟩
 ·obtain ⟨t,pl,its,lits,rfl,ntL,nplL,ht,h0,hsz,hpl,hlz,hkf⟩:=hvs i v hv
  have k:=kOf N
  refine ZF (s:={ s with heap:=h',toks:=tk }) (its:=its) (lits:=lits) (l:=pl) (mg:=mg) (mb:=mb) (k _ _ hqL hq) ?_ hroom hbind hx hl hcell hk hco hgen hdx ?_ hm ?_ hbb (hlim h' k) ?_ h0 hsz ?_ hlz fun h'' tk2 u k2=>?_
  ·obtain ⟨c,oc,vs,tq,hc,hoc,r⟩:=hcd
   cases hc
   exact ⟨c',oc,vs,tq,rfl,k _ _ hcL hoc,r⟩
  ·obtain ⟨o,es,ep,e,r⟩:=hg
   exact ⟨o,es,ep,k _ _ hgL e,r⟩
  ·obtain ⟨o,es,ep,e,r⟩:=hb
   exact ⟨o,es,ep,k _ _ hbL e,r⟩
  ·obtain ⟨o,e,r⟩:=ht
   exact ⟨o,k _ _ ntL e,r⟩
  ·obtain ⟨o,e,r⟩:=hpl
   exact ⟨o,k _ _ nplL e,r⟩
  ·rw [hkf]
   refine ⟨h'',tk2,u,rfl,rfl,⟨F.ns.keeps k2,fun b o e=>?_,F.above⟩,fun p hp=>⟨k2 _ _ (N p hp).1,(N p hp).2⟩⟩
   rw [Att.noObjs_get] at e;cases e
 ·exact h i v h' tk' hv (fun j hj=>by have:=hbest j hj;exact ⟨by have:=this.1;lia,fun z=>by have:=this.2 z;lia⟩) F.ns (kOf' N)
end
noncomputable def Tbl (H:Hp)(P:Addr)(pos:Pos)(qual:Str):Prop:=
 H P=some (.tbl #[])∨∃ c o u vs t,H P=some (.tbl #[rawInt pos.line,rawInt pos.col,.ref c])∧H c=some (.frz o u)∧o.data = .fields vs∧vs[1]? = some (.str qual t)
theorem Tbl.tab {H:Hp}{P:Addr}{pos:Pos}{qual:Str}(h:Tbl H P pos qual):∃ ps,H P=some (.tbl ps):=by
 rcases h with h | ⟨c,_,_,_,_,h,_⟩
 ·exact ⟨_,h⟩
 ·exact ⟨_,h⟩
section
variable {X:Cx} {pins:List (Addr×Obj)} {σ:L2.St} {H:Hp} {s:Shared} {h':Heap}
theorem YC {h h':Heap}{L:Addr}{m m':Str→Option Value}(a:h.Ns L m)(b:h'.Ns L m)(c:h.Ns L m'):h'.Ns L m':=by
 rw [c.eq_nsMap,← a.eq_nsMap];exact b
theorem keptL {t':Nat}{m:Str→Option Value}(I:Inv X pins σ H s)(hm:s.heap.Ns X.env.locals m)(hm':h'.Ns X.env.locals m)(k:∀ b o,b≠X.env.locals→s.heap.get? b=some o→h'.get? b=some o):Inv X pins σ H { s with heap:=h',toks:=t' }:=by
 have nL:∀ b u,H b=some u→b≠X.env.locals:=fun b u e z=>by rw [z,I.free] at e;cases e
 refine I.step (g':=s.gens) (d':=s.drawn) (ch:=[]) (fun _ z=>nomatch z) (fun b o hb _ _ e _=>k b o hb e) (fun b o hb _ _ e _=>⟨o.slots,k b o hb e⟩) (fun _ _ _ _ n=>n) (fun b o _ e=>?_) (fun _ _ e=>e) (fun _ _ _ e=>e) (fun b ps e=>⟨#[],by rw [e];simp⟩) (fun m2 h2=>YC hm hm' h2) (fun b u e=>?_) I.bare
 ·by_cases hb:b=X.env.locals
  ·obtain ⟨o',_,_,e',_⟩:=hm'
   exact ⟨o',by rw [hb];exact e'⟩
  ·exact ⟨o,k b o hb e⟩
 ·refine (I.hok b u e).stay (fun c v hc q=>k c v ?_ q) (fun _ q=>q) fun _ _ q=>q
  rcases hc with rfl | hc
  ·exact nL _ _ e
  ·exact nL _ _ hc
theorem dY {t':Nat}{m:Str→Option Value}{P c:Addr}{ps:Array Value}{v:Value}{l1 l2:Value}{oc:Obj}(I:Inv X pins σ H s)(hP:H P=some (.tbl ps))(hc:s.heap.objs.size≤c)(hcL:c≠X.env.locals)(hm:s.heap.Ns X.env.locals m)(hm':h'.Ns X.env.locals m)
  (k:∀ b o,b≠X.env.locals→b≠P→s.heap.get? b=some o→h'.get? b=some o) (kP:h'.get? P=some (W.tabObj (ps++#[l1,l2,v]))) (kc:h'.get? c=some oc) :
  Inv X pins σ (upd (upd H P (.tbl (ps++#[l1,l2,v]))) c (.frz oc (.ext fun _=>True))) { s with heap:=h',toks:=t' }:=by
 have nL:∀ b u,H b=some u→b≠X.env.locals:=fun b u e z=>by rw [z,I.free] at e;cases e
 have nc:∀ b u,H b=some u→b≠c:=fun b u e z=>by rw [z,I.hok.fresh hc] at e;cases e
 have nc':∀ b o,s.heap.get? b=some o→b≠c:=fun b o e=>ze (zM (zJ e) hc)
 have nP:∀ b,H b=none→b≠P:=fun b e z=>by rw [z,hP] at e;cases e
 have get:∀ b u,H b=some u→b≠P→upd (upd H P (.tbl (ps++#[l1,l2,v]))) c (.frz oc (.ext fun _=>True)) b=some u:=fun b u e z=>by rw [AO (nc b u e),AO z];exact e
 refine I.step (g':=s.gens) (d':=s.drawn) (ch:=[]) (fun _ z=>nomatch z) (fun b o hb _ _ e n=>k b o hb (nP b n) e) (fun b o hb _ _ e n=>⟨o.slots,k b o hb (nP b n) e⟩) (fun b o _ e n=>by rw [AO (nc' b o e),AO (nP b n)];exact n) (fun b o _ e=>?_)
  (fun b xs e=>get b _ e fun z=>by rw [z,hP] at e;cases e) (fun b o u e=>get b _ e fun z=>by rw [z,hP] at e;cases e) (fun b qs e=>?_) (fun m2 h2=>YC hm hm' h2) (fun b u e=>?_) I.bare
 ·by_cases hb:b=X.env.locals
  ·obtain ⟨o',_,_,e',_⟩:=hm'
   exact ⟨o',by rw [hb];exact e'⟩
  ·by_cases hb2:b=P
   ·exact ⟨_,by rw [hb2];exact kP⟩
   ·exact ⟨o,k b o hb hb2 e⟩
 ·by_cases hb:b=P
  ·subst hb
   rw [hP] at e;cases e
   exact ⟨#[l1,l2,v],by rw [AO (nc b _ hP),AM]⟩
  ·exact ⟨#[],by rw [get b _ e hb];simp⟩
 ·by_cases hb:b=c
  ·subst hb
   rw [AM] at e;cases e
   exact ⟨kc,trivial,⟨_,kc⟩,fun _ _ _ _=>trivial⟩
  ·rw [AO hb] at e
   by_cases hb2:b=P
   ·subst hb2
    rw [AM] at e;cases e
    exact kP
   ·rw [AO hb2] at e
    refine (I.hok b u e).stay (fun d w hd q=>k d w ?_ ?_ q) (fun d q=>get d _ q fun z=>by rw [z,hP] at q;cases q) fun d xs q=>get d _ q fun z=>by rw [z,hP] at q;cases q
    ·rcases hd with rfl | hd
     ·exact nL _ _ e
     ·exact nL _ _ hd
    ·rcases hd with rfl | hd
     ·exact hb2
     ·intro z;rw [z,hP] at hd;cases hd
end
structure UR (K:W.Frag)(mg:Str→Option Value)(cd:Value)(c P:Addr):Prop where
 cd:cd = .ref c
 hd:∀ h,K.In h→W.CodeHd h c P
 bm:∀ h,K.In h→∃ bm o,mg "__builtins__"=some (.ref bm)∧bm≠builtinsNs∧bm≠mainGlobals∧h.get? bm=some o∧o.cls = .type "module"∧o.dict=some builtinsNs∧o.data = .plain
structure LamOk (x:Str)(params:Arguments)(scope:Scope):Prop where
 df:params.defaults=[]
 kd:params.kw_defaults=[]
 bind:∀ name qual body cl pm cdv ct v,bindArgs (kla_fn name qual params body scope cl pm cdv ct) ⟨[v],[]⟩=pure [(x,v)]
 hx:scope.names.lookup x=some .local
 hl:scope.names.lookup ("len":Str)=some .globalImplicit
 cell:∀ y∈scope.names,y.2≠.cell
 kind:scope.kind = .function
 co:scope.isCoroutine=false
 gen:scope.isGenerator=false
 db:(x == ("__debug__":Str))=false
 clos:∀ env,closureFor scope env=pure []
noncomputable def tMaxK (K:W.Frag)(P:Addr)(lpos:Pos)(qual:Str)(t:TE):TE:=fun σ H Q=>t σ H fun v H1=>∃ (l:Addr) (xs:List V) (kf:Nat→Nat),v = .ref l∧SqL K H1 l xs∧0<xs.length∧Tbl H1 P lpos qual ∧
 (∀ i y,xs[i]? = some y→∃ p pl z ys,y = .ref p∧SqT K H1 p (.ref pl::z)∧SqL K H1 pl ys∧ys.length=kf i) ∧
 ∀ i y H2,xs[i]? = some y→(∀ j,j<xs.length→kf j≤kf i∧(j<i→kf j<kf i))→Tbl H2 P lpos qual→(∀ b u,b≠P→H1 b=some u→H2 b=some u)→Q y H2
section
variable {X:Cx}
theorem Z2 {c P:Addr}{x:Str}{e:Expr}{te:TE}{params:Arguments}{scope:Scope}{p p1 p2 p3 p4 p5 lpos kp pos:Pos}(hg:Gl X "max")(hm:X.mg "max"=none)(hml:X.mg "len"=none)(hr:CT 2 X.A)(LA:UR X.K X.mg X.env.code c P)(LO:LamOk x params scope)(hpe:PE X e te)
  (hse:starEach [e] X.env=(false,eval e X.env)::starEach [] X.env:=by rfl) :
  PE X (.Call (.Name "max" p) [e] [⟨some "key",.Lambda params (J5 x p1 p2 p3 p4 p5) scope lpos,kp⟩] pos) (tMaxK X.K P lpos (X.env.qual++"<lambda>") te):=by
 intro pins s σ H Q I h
 refine wpAny_Call_Name_kw (Js I hg hm (u:=.builtin "max") rfl ?_)
 refine callWith_kw ?_ (by rw [hse];rfl) (by rw [hse];rfl) rfl rfl
 rw [hse]
 show wpAny _ _ (spliced ((false,eval e X.env)::[])) _ _ s
 refine Calls.spliced_cons (thn (hpe pins s σ H _ I h) fun u s1 ⟨v,H1,I1,r1,q1⟩=>Calls.spliced_nil ?_)
 obtain ⟨l,xs,kf,rfl,hl,h0,tb,hxs,k⟩:=q1
 cases r1
 refine kws_cons (kla_eval (by rw [defaultsOf_eq,LO.df,LO.kd];rfl) ?_)
 obtain ⟨its,ri,pl,hz⟩:=I1.list hl
 obtain ⟨m,hn,hlook⟩:=id I1.loc
 obtain ⟨mb,hb1,hb2⟩:=I1.mod.blt
 have hG:=I1.mod.glob.keeps I1.bk
 have hB:=hb1.keeps I1.bk
 obtain ⟨ps,hP⟩:=tb.tab
 have gP:s1.heap.get? P=some (W.tabObj ps):=I1.hok P _ hP
 have nLP:X.env.locals≠P:=fun z=>by have:=I1.free;rw [z,hP] at this;cases this
 have bP:∀ b o,X.base.get? b=some o→b≠P:=fun b o e z=>by have:=(I1.bs b o e).2;rw [z,hP] at this;cases this
 have bL:∀ b o,X.base.get? b=some o→b≠X.env.locals:=fun b o e=>ze (zM (zJ e) (zO I1.ok.bsz I1.ok.above))
 have gM:∃ o,X.base.get? mainGlobals=some o:=let ⟨o,_,_,e,_⟩:=I1.mod.glob;⟨o,e⟩
 have gB:∃ o,X.base.get? builtinsNs=some o:=let ⟨o,_,_,e,_⟩:=hb1;⟨o,e⟩
 have lstN:∀ a its,s1.heap.IsList a its→a≠P∧a≠X.env.locals:=fun a its ⟨o,e,c1,n,d1⟩=>by
  refine ⟨fun z=>?_,fun z=>?_⟩
  ·rw [z,gP] at e;cases e;cases c1
  ·obtain ⟨o',_,_,e',d',_⟩:=id hn
   rw [z,e'] at e;cases e;rw [d'] at d1;cases d1
 have tupN:∀ a its,IsTup s1.heap a its→a≠P∧a≠X.env.locals:=fun a its ⟨o,e,c1,n,d1⟩=>by
  refine ⟨fun z=>?_,fun z=>?_⟩
  ·rw [z,gP] at e;cases e;cases c1
  ·obtain ⟨o',_,_,e',d',_⟩:=id hn
   rw [z,e'] at e;cases e;rw [d'] at d1;cases d1
 have run:∀ (h2:Heap) (tk:Nat) (q c':Addr) (ctv:Value),(∀ b o,b≠P→s1.heap.get? b=some o→h2.get? b=some o)→q≠X.env.locals→c'≠X.env.locals →
   h2.get? q=some (kla_obj "<lambda>" (X.env.qual++"<lambda>") params (J5 x p1 p2 p3 p4 p5) scope [] ((X.mg "__name__").getD .none) c' ctv)→h2.CodeRec (.ref c') (X.env.qual++"<lambda>") →
   (∀ (h3:Heap) (tk3:Nat),h3.Ns X.env.locals m→(∀ b o,b≠X.env.locals→h2.get? b=some o→h3.get? b=some o)→∃ H2,Inv X pins σ H2 { s1 with heap:=h3,toks:=tk3 }∧Tbl H2 P lpos (X.env.qual++"<lambda>")∧∀ b u,b≠P→H1 b=some u→H2 b=some u) →
   wpAny (model X.prog X.w) X.A (call (.builtin "max") [.ref l] [(Str.ofString "key",.ref q)]) (EP X pins σ Q) X.xe { s1 with heap:=h2,toks:=tk }:=by
  intro h2 tk q c' ctv k2 hqL hcL hq hcd fin
  have ll:=lstN l _ pl.isList
  refine aH (s:={ s1 with heap:=h2,toks:=tk }) (L:=X.env.locals) (m:=m) (mg:=X.mg) (mb:=mb) (vs:=its) (kf:=kf) ?_ hqL hcL hr.hd ?_ ?_ hq hcd ?_ (fun v=>LO.bind _ _ _ _ _ _ _ v) LO.hx LO.hl LO.cell LO.kind LO.co LO.gen LO.db ?_ hml ?_ (hb2 _ (by decide)) (fun h3 k3=>?_) ?_ ll.2 ?_ (fun i v hv=>?_) fun i v h3 tk3 hv best hns k3=>?_
  ·obtain ⟨o,es,ep,e,r⟩:=hn
   exact ⟨o,es,ep,k2 _ _ nLP e,r⟩
  ·obtain ⟨o,e⟩:=gM
   exact bL _ _ e
  ·obtain ⟨o,e⟩:=gB
   exact bL _ _ e
  ·have:=hr.dp
   show X.A.depth<_
   lia
  ·exact I1.mod.glob.keeps fun b o e=>k2 b o (bP b o e) (I1.bk b o e)
  ·exact hb1.keeps fun b o e=>k2 b o (bP b o e) (I1.bk b o e)
  ·exact I1.mod.nolimit.keeps fun b o e=>k3 b o (bL b o e) (k2 b o (bP b o e) (I1.bk b o e))
  ·obtain ⟨o,e,r⟩:=pl.isList
   exact ⟨o,k2 _ _ ll.1 e,r⟩
  ·rw [← ri.length];exact h0
  ·have hi:=(zC.mp hv).1
   have hi':i<xs.length:=by rw [ri.length];exact hi
   obtain ⟨v',ev',rv'⟩:=ri.get (z9 hi')
   rw [hv] at ev';cases ev'
   obtain ⟨pp,pa,z,ys,ey,hT,hLs,hlen⟩:=hxs i _ (z9 hi')
   rw [ey] at rv'
   cases rv'
   obtain ⟨it2,r2,pt,hz2⟩:=I1.tuple hT
   obtain ⟨it3,r3,pl3,hz3⟩:=I1.list hLs
   obtain ⟨w0,ew0,rw0⟩:=r2.get (i:=0) (x:=.ref pa) rfl
   cases rw0
   have t1:=tupN _ _ pt
   have t2:=lstN _ _ pl3.isList
   refine ⟨pp,pa,it2.toArray,it3.toArray,rfl,t1.2,t2.2,?_,by simpa using ew0,?_,?_,?_,?_⟩
   ·obtain ⟨o,e,r⟩:=pt
    exact ⟨o,k2 _ _ t1.1 e,r⟩
   ·rw [zQ,← r2.length];exact hz2
   ·obtain ⟨o,e,r⟩:=pl3.isList
    exact ⟨o,k2 _ _ t2.1 e,r⟩
   ·rw [zQ,← r3.length];exact hz3
   ·rw [zQ,← r3.length];exact hlen
  ·have hi:=(zC.mp hv).1
   have hi':i<xs.length:=by rw [ri.length];exact hi
   obtain ⟨v',ev',rv'⟩:=ri.get (z9 hi')
   rw [hv] at ev';cases ev'
   obtain ⟨H2,I2,tb2,s2⟩:=fin h3 tk3 hns k3
   exact ⟨_,H2,I2,rv',k i _ H2 (z9 hi') (fun j hj=>best j (by rw [← ri.length];exact hj)) tb2 s2⟩
 obtain ⟨bm,ob,b1,b2,b3,b4,b5⟩:=LA.bm _ I1.mod.kin
 have hBA:s1.heap.BuiltinsAt X.mg P:=⟨bm,ob,b1,b2,b3,bP _ _ b4,I1.bk _ _ b4,b5⟩
 have hCH:W.CodeHd s1.heap c P:=LA.hd _ I1.kIn
 have hgP:mainGlobals≠P:=let ⟨_,e⟩:=gM;bP _ _ e
 have lL:X.env.locals<s1.heap.objs.size:=I1.lt
 rcases id tb with tb0 | ⟨c0,o0,u0,vs0,t0,e1,e2,e3,e4⟩
 ·-- the first call
  rw [hP] at tb0;cases tb0
  refine kla_makeFunction (LO.clos _) I1.ok.glob hG LA.cd hCH gP trivial rfl hgP hBA fun c' ctv h' tk hx hge hlt hrec htb=>?_
  refine kws_nil ?_
  obtain ⟨c2,oc,vs2,t2,ec,goc,hd2,hv2⟩:=id hrec
  cases ec
  have ncP:c'≠P:=qC (zM (zJ gP) hge)
  refine run _ _ _ c' ctv (fun b o n e=>zA _ (hx b o n e)) ?_ (qC (zM lL hge)) (zT _ rfl) ⟨c',oc,vs2,t2,rfl,zA _ goc,hd2,hv2⟩ fun h3 tk3 ns3 k3=>?_
  ·exact qC (Nat.lt_trans (zM lL hge) hlt)
  ·refine ⟨_,dY (c:=c') (oc:=oc) I1 hP hge (qC (zM lL hge)) hn ns3 (fun b o n1 n2 e=>k3 b o n1 (zA _ (hx b o n2 e))) (k3 _ _ (Ne.symm nLP) (zA _ htb)) (k3 _ _ (qC (zM lL hge)) (zA _ goc)),.inr ⟨c',oc,_,vs2,t2,?_,AM,hd2,hv2⟩,fun b u n e=>?_⟩
   ·rw [AO (Ne.symm ncP),AM];rfl
   ·rw [AO (fun z=>by rw [z,I1.hok.fresh hge] at e;cases e),AO n];exact e
 ·-- a later call
  rw [hP] at e1;cases e1
  obtain ⟨g0,_⟩:=I1.hok c0 _ e2
  have n0L:c0≠X.env.locals:=fun z=>by have:=I1.free;rw [← z,e2] at this;cases this
  refine kla_makeFunctionHit (cv:=.ref c0) (LO.clos _) I1.ok.glob hG LA.cd hCH gP ?_ ?_ hBA fun ctv h' tk hx hsz=>?_
  ·exact TriplesOk_snoc _ _ _ [] trivial
  ·exact codeAmong_snoc [] trivial rfl
  refine kws_nil ?_
  refine run _ _ _ c0 ctv (fun b o _ e=>zA _ (hx b o e)) (qC (zM lL hsz)) n0L (zT _ rfl) ⟨c0,o0,vs0,t0,rfl,zA _ (hx _ _ g0),e3,e4⟩ fun h3 tk3 ns3 k3=>?_
  exact ⟨H1,keptL I1 hn ns3 fun b o n e=>k3 b o n (zA _ (hx b o e)),tb,fun _ _ _ e=>e⟩
end
noncomputable def YS (T:Addr)(H:Hp):Prop:=H T=some (.tbl #[])∧∀ b,H b=none∨(∃ o xs,H b=some (.frz o (.lst xs)))∨b=T
theorem X0 {T:Addr}{P:Program}{w:World}{K:W.Frag}{mg mb:Str→Option Value}{CX:CXT}{k:Nat}{fa a:Addr}{fd:FuncData}{x:Str}{sp:Sp}{s₁:Shared}{vs:List Value}{ns:List Int}
  (KX:K.In s₁.heap) (hT:s₁.heap.get? T=some (W.tabObj #[])) (isT:isCodeTable s₁.heap T) (hKT:K.lookup T=none) (hns:s₁.heap.Ns mainGlobals mg) (hb:s₁.heap.Ns builtinsNs mb) (hbb:∀ x:Str,x≠"__name__"→mb x=bootBuiltins x) (hlim:s₁.heap.NoLimit) (hg:s₁.gens=#[])
  (ha:s₁.heap.get? a=some { cls:=.type "list",data:=.seq vs.toArray }) (hi:IntsAre vs ns) (hl:ns.length≤sizeLine) (hr:CT k callerA)
  (F:∀ base:Heap,K.In base→base.Ns mainGlobals mg→Aa P w K mg base CX k fa fd [x] sp) (hbind:∀ (s:Shared) (u:Value),BindsTo s fd ⟨[u],[]⟩ [(x,u)])
  (hsp:∀ H:Hp,YS T H→SqL K H a (ns.map V.int)→sp [.ref a] H (fun v _=>v = .bl true) fun _ _ _=>False)
  (hCX:∀ H e s',CX [] H s₁ (fun _ _ _=>False) e s'→False) :
  codeAny (model P w) callerA (.call (.ref fa) ⟨[.ref a],[]⟩) (fun r s'=>r = .ok (.ret (.bool true))∧OldK s₁.heap s'.heap∧s'.os=s₁.os∧AllBare s'.gens) s₁:=by
 have rv:=R5 hi
 have lenV:=hi.length
 have core:∀ H:Hp,YS T H→SqL K H a (ns.map V.int)→HOk P w H s₁.heap→(∀ b,H b≠none→b=a∨b=T)→(H a≠none→K.lookup a=none) →
   codeAny (model P w) callerA (.call (.ref fa) ⟨[.ref a],[]⟩) (fun r s'=>r = .ok (.ret (.bool true))∧OldK s₁.heap s'.heap∧s'.os=s₁.os∧AllBare s'.gens) s₁:=by
  intro H hO hS hok hA hK
  have base_of:∀ {b:Addr} {o:Obj},s₁.heap.get? b=some o→H b=none→(T1 s₁.heap H).get? b=some o:=fun e n=>Y9 e n
  have noA:∀ {b:Addr} {o:Obj} {es:Array DictEntry} {ep:Nat},s₁.heap.get? b=some o→o.data = .dict es ep→H b=none:=fun {b o es ep} e d=>by
   cases q:H b with
   | none=>rfl
   | some u =>
    rcases hA b (by rw [q];simp) with e' | e'
    ·subst e'
     rw [ha] at e;cases e
     have d':Data.seq vs.toArray _=Data.dict es ep:=d
     cases d'
    ·subst e'
     rw [hT] at e;cases e
     have d':Data.fields _=Data.dict es ep:=d
     cases d'
  have nsK:∀ {b:Addr} {m:Str→Option Value},s₁.heap.Ns b m→(T1 s₁.heap H).Ns b m:=fun {b m} ⟨o,es,ep,e,d,r⟩=>⟨o,es,ep,base_of e (noA e d),d,r⟩
  have hKb:K.In (T1 s₁.heap H):=fun b o e=>base_of (KX b o e) (by
   cases q:H b with
   | none=>rfl
   | some u =>
    rcases hA b (by rw [q];simp) with e' | e'
    ·subst e'
     rw [hK (by rw [q];simp)] at e;cases e
    ·subst e'
     rw [hKT] at e;cases e)
  have hM:Mod K mg (T1 s₁.heap H):=⟨hKb,nsK hns,⟨mb,nsK hb,hbb⟩,let ⟨mc,h1,h2⟩:=hlim;⟨mc,nsK h1,h2⟩⟩
  have e0:Vs P w K mg (T1 s₁.heap H) callerA [] s₁ H:=⟨rfl,hM,fun b o e=>Zt e,Nat.le_of_eq (XN _ _),trivial,fun b hb=>absurd (show b∈([]:List Addr) from hb) (by simp),hok,.of_eq hg⟩
  refine codeAny_mono ((F _ hKb (nsK hns)).run callerA [] s₁ H ⟨[.ref a],[]⟩ [.ref a] [.ref a] _ _ hr e0 (hbind s₁ (.ref a)) (.cons rfl .nil) (hsp H hO hS)) fun r s' h=>?_
  cases r with
  | error e=>exact (hCX H e s' h).elim
  | ok fl =>
   cases fl with
   | next=>exact False.elim h
   | brk=>exact False.elim h
   | cont=>exact False.elim h
   | ret u =>
    obtain ⟨v,H',os,bare,un,hok',r',q⟩:=h
    have q':v = .bl true:=q
    subst q'
    obtain rfl:u=Value.bool true:=r'
    refine ⟨rfl,⟨fun b o e=>?_,fun b o e=>un.there b o e (by simp)⟩,os,bare⟩
    cases q:H b with
    | none=>exact .inl (un.keep b o e q (by intro z;exact absurd (show b∈([]:List Addr) from z) (by simp)) (by simp))
    | some u =>
     rcases hO.2 b with z | ⟨ob,xs,z⟩ | z
     ·rw [q] at z;cases z
     ·have z2:=un.frzs b ob _ z
      obtain ⟨e1,_⟩:=hok b _ z
      obtain ⟨e2,_⟩:=hok' b _ z2
      rw [e] at e1;cases e1
      exact .inl e2
     ·subst z
      obtain ⟨more,z2⟩:=un.tbls b _ hO.1
      have e2:s'.heap.get? b=some { cls:=.none,data:=.fields (#[]++more) }:=hok' b _ z2
      rw [hT] at e;cases e
      exact .inr (.inl ⟨isT,rfl,#[],more,rfl,e2⟩)
 have naT:a≠T:=fun z=>by rw [z,hT] at ha;cases ha
 cases hk:K.lookup a with
 | some o =>
  have e:=KX a o hk
  rw [ha] at e
  cases e
  refine core (fun b=>if b=T then some (.tbl #[]) else none) ⟨if_pos rfl,fun b=>?_⟩ (.inr ⟨_,vs.toArray,_,hk,rfl,rfl,rfl,by rw [zQ,lenV];exact hl,by simpa using rv⟩) (fun b u z=>?_) (fun b z=>?_) fun z=>absurd (if_neg naT) z
  ·by_cases hb:b=T
   ·exact .inr (.inr hb)
   ·exact .inl (if_neg hb)
  ·by_cases hb:b=T
   ·have z':=(if_pos hb).symm.trans z
    cases z'
    subst hb
    exact hT
   ·have z':=(if_neg hb).symm.trans z
    cases z'
  ·by_cases hb:b=T
   ·exact .inr hb
   ·exact absurd (if_neg hb) z
 | none =>
  refine core (fun b=>if b=T then some (.tbl #[]) else if b=a then some (.frz { cls:=.type "list",data:=.seq vs.toArray } (.lst (ns.map V.int))) else none) ⟨if_pos rfl,fun b=>?_⟩ (.inl (.inr ⟨{ cls:=.type "list",data:=.seq vs.toArray },(if_neg naT).trans (if_pos rfl)⟩)) (fun b u z=>?_) (fun b z=>?_) fun _=>hk
  ·by_cases hb:b=T
   ·exact .inr (.inr hb)
   ·by_cases hb2:b=a
    ·exact .inr (.inl ⟨_,_,(if_neg hb).trans (if_pos hb2)⟩)
    ·exact .inl ((if_neg hb).trans (if_neg hb2))
  ·by_cases hb:b=T
   ·have z':=(if_pos hb).symm.trans z
    cases z'
    subst hb
    exact hT
   ·by_cases hb2:b=a
    ·have z':=((if_neg hb).trans (if_pos hb2)).symm.trans z
     cases z'
     subst hb2
     exact ⟨ha,by rw [z0];exact hl,vs,_,rv,ha⟩
    ·have z':=((if_neg hb).trans (if_neg hb2)).symm.trans z
     cases z'
  ·by_cases hb:b=T
   ·exact .inr hb
   ·by_cases hb2:b=a
    ·exact .inl hb2
    ·exact absurd ((if_neg hb).trans (if_neg hb2)) z
theorem Fun.okL {P:Program}{w:World}{K:W.Frag}{mg:Str→Option Value}{base:Heap}{x qual:Str}{st:Stmt}{f c T:Addr}{fd:FuncData}{N ps:List Str}{k:Nat}{sp:Sp}(F:Fun K x qual st f fd)(L:UR K mg fd.code c T)(S:AJ N ps (AF st))(len:∀ vs H Q E,sp vs H Q E→vs.length=ps.length)
  (hbody:∀ (cdv:Value) (A:Around) (outer:List Env) (s:Shared) (H:Hp) (vs:List V) (Q:VK) (E:XK),UR K mg cdv c T→CT k (A.deeper (envOfC qual (AF st) s.heap.objs.size f cdv))→sp vs H Q E →
   ∃ t,PSs (BF CX0 P w K mg base N qual (AF st) f cdv A outer s H E).nox (BK st) t∧t { nx:=fun _ H'=>Q .non H',rt:=Q } (start N vs) H):Aa P w K mg base CX0 (k+1) f fd ps sp:=by
 obtain ⟨oc,od,kV,doc,pm,an,cdv,ct,osl,rfl,lk,hcd⟩:=F.ex
 refine Ws lk hcd S len fun A outer s H vs Q E hr hsp=>?_
 obtain ⟨t,h,q⟩:=hbody cdv A outer s H vs Q E L hr hsp
 exact ⟨t,h.nox,q⟩
noncomputable def Jg:Option Obj→Bool
 | some ⟨.none,none,.fields vs,sl⟩=>Nat.beq vs.size 0 && Nat.beq sl.size 0
 | _=>false
theorem ZV {o:Option Obj}(h:Jg o=true):o=some (W.tabObj #[]):=by
 unfold Jg at h
 split at h
 ·rename_i vs sl
  obtain ⟨h1,h2⟩:=qJ.mp h
  have e1:vs=#[]:=Array.eq_empty_of_size_eq_zero (Nat.eq_of_beq_eq_true h1)
  have e2:sl=#[]:=Array.eq_empty_of_size_eq_zero (Nat.eq_of_beq_eq_true h2)
  rw [e1,e2]
 ·cases h
noncomputable def hdOk (vs:Array Value)(T:Addr):Bool:=match (vs[11]?:Option Value),vs.getD 18 .none,vs.getD 7 .none,vs.getD 9 .none,vs.getD 10 .none with
 | some (.ref P),.str _ _,.int _ _,.bool _,.int _ _=>Nat.beq P T
 | _,_,_,_,_=>false
noncomputable def Y7 (K:W.Frag)(c T:Addr):Bool:=match K.lookup c with
 | some ⟨.type t,_,.fields vs,_⟩=>t == "code" && (hdOk vs T && !(Nat.beq c T))
 | _=>false
theorem Uo {K:W.Frag}{c T:Addr}(h:Y7 K c T=true)(h':Heap)(X:K.In h'):W.CodeHd h' c T∧isCodeTable h' T:=by
 unfold Y7 at h
 split at h
 ·rename_i t dd vs sl e
  obtain ⟨h1,h2⟩:=qJ.mp h
  obtain ⟨h3,h4⟩:=qJ.mp h2
  obtain rfl:t="code":=beq_iff_eq.mp h1
  unfold hdOk at h3
  split at h3
  ·rename_i P file tf flags tg inF text tt e11 e18 e7 e9 e10
   obtain rfl:P=T:=Nat.eq_of_beq_eq_true h3
   refine ⟨⟨_,vs,file,tf,flags,tg,inF,text,tt,X _ _ e,rfl,rfl,e11,?_,e18,e7,e9,e10,?_⟩,⟨c,_,vs,X _ _ e,rfl,rfl,e11⟩⟩
   ·rw [zg,e11];rfl
   ·intro z
    rw [z,Nat.beq_refl] at h4
    cases h4
  ·cases h3
 ·cases h
noncomputable def fF (K:W.Frag):Bool:=match W.nsIn K mainGlobals "__builtins__" with
 | some (some (.ref bm))=>!(Nat.beq bm builtinsNs) && (!(Nat.beq bm mainGlobals) && (match K.lookup bm with
  | some ⟨.type t,some d,.plain,_⟩=>t == "module" && Nat.beq d builtinsNs
  | _=>false))
 | _=>false
theorem aI {K:W.Frag}{h:Heap}{mg:Str→Option Value}(X:K.In h)(G:h.Ns mainGlobals mg)(e:fF K=true)(h':Heap)(X':K.In h') :
  ∃ bm o,mg "__builtins__"=some (.ref bm)∧bm≠builtinsNs∧bm≠mainGlobals∧h'.get? bm=some o∧o.cls = .type "module"∧o.dict=some builtinsNs∧o.data = .plain:=by
 unfold fF at e
 split at e
 ·rename_i bm eb
  obtain ⟨h1,h2⟩:=qJ.mp e
  obtain ⟨h3,h4⟩:=qJ.mp h2
  split at h4
  ·rename_i t d sl el
   obtain ⟨h5,h6⟩:=qJ.mp h4
   obtain rfl:t="module":=beq_iff_eq.mp h5
   obtain rfl:d=builtinsNs:=Nat.eq_of_beq_eq_true h6
   refine ⟨bm,_,W.mg_of X G eb,?_,?_,X' _ _ el,rfl,rfl,rfl⟩
   ·intro z;rw [z,Nat.beq_refl] at h1;cases h1
   ·intro z;rw [z,Nat.beq_refl] at h3;cases h3
  ·cases h4
 ·cases e
noncomputable def gk (K:W.Frag)(x:Str)(T:Addr):Bool:=match W.nsIn K mainGlobals x with
 | some (some (.ref f))=>match K.lookup f with
  | some ⟨_,_,.func fd,_⟩=>match fd.code with
   | .ref c=>Y7 K c T && fF K
   | _=>false
  | _=>false
 | _=>false
theorem Zu {K:W.Frag}{h:Heap}{mg:Str→Option Value}{x:Str}{st:Stmt}{T f:Addr}{fd:FuncData}{ps:List Str}(X:K.In h)(G:h.Ns mainGlobals mg)(D:L2.D K mg x st ps f fd)(e:gk K x T=true):∃ c,UR K mg fd.code c T∧∀ h',K.In h'→isCodeTable h' T:=by
 unfold gk at e
 split at e
 ·rename_i f' ef
  have e1:=W.mg_of X G ef
  rw [D.m] at e1;cases e1
  obtain ⟨oc,od,kV,doc,pm,an,cdv,ct,osl,rfl,lk,hcd⟩:=D.F.ex
  rw [lk] at e
  dsimp only at e
  cases cdv with
  | ref c =>
   obtain ⟨h1,h2⟩:=qJ.mp e
   exact ⟨c,⟨rfl,fun h' X'=>(Uo h1 h' X').1,fun h' X'=>aI X G h2 h' X'⟩,fun h' X'=>(Uo h1 h' X').2⟩
  | _=>cases e
 ·cases e
theorem YJ {as:List Addr}{h:Heap}{T:Addr}(n:T∉as):(TG.Kof as h).lookup T=none:=by
 induction as with
 | nil=>rfl
 | cons b r ih =>
  simp only [TG.Kof,qT]
  have nb:T≠b:=fun z=>n (by rw [z];exact zP)
  cases hb:h.get? b with
  | none=>exact ih fun z=>n (zK _ z)
  | some ob =>
   simp only [qc,List.lookup,beq_eq_false_iff_ne.mpr nb]
   exact ih fun z=>n (zK _ z)
theorem Yd {β:Type}{T:Addr}{as:List Addr}{obs:W.Frag→β}(s:SharedT):(Jg (s.abs.heap.get? T),obs (TG.Kof as s.abs.heap))=(Jg (TG.Vd s.tree s.n T),obs (TG.Xj as s)):=by
 rw [TG.aC]
 show (Jg ((absHeap s.tree s.n s.life).get? T),_)=_
 rw [TG.Wy]
end LM
namespace TG
open PySem L2
theorem Paired.at {α β:Type}{F:α→β→Prop}:∀ {l:List α} {r:List β} {i:Nat} {x:α},Paired F l r→l[i]? = some x→∃ y,r[i]? = some y∧F x y
 | _,_,i,x,.nil,h=>by simp at h
 | _,_,0,x,.cons h1 _,h=>by simp at h;subst h;exact ⟨_,rfl,h1⟩
 | _,_,i+1,x,.cons _ t,h=>by
  obtain ⟨y,h2,h3⟩:=Paired.at (i:=i) (x:=x) t (by simpa using h)
  exact ⟨y,by simpa using h2,h3⟩
theorem OG {β:Type}{K:W.Frag}{a:Addr}{as:List Addr}{bs:List β}{te:TE}{caps:St}{D:Addr}{H1:Hp}{Q:Hp→Prop}(E:Hp→Addr→β→Prop)(es:∀ H H' v b,AG H H'→E H v b→E H' v b)
  (F:Hp→V→Addr→β→Prop) (fs:∀ H H' v q b,AG H H'→F H v q b→F H' v q b) (fd:∀ H v q b xs ys,H D=some (.lst xs)→H1 D=none→F H v q b→F (L2.upd H D (.lst ys)) v q b)
  (hl:SqL K H1 a (as.map V.ref)) (pr0:Paired (E H1) as bs) (hD:H1 D=none) (hz:as.length≤1000)
  (he:∀ q b H (R:VK),b∈bs→AG H1 H→(H D≠none)→E H q b→(∀ y H',AG H H'→F H' y q b→R y H')→te (some (.ref q)::caps) H R)
  (hd:∀ H ys,AG H1 H→H D=some (.lst ys)→ys.length=as.length→(∀ (i:Nat) (y:V),ys[i]? = some y→∃ q b,as[i]? = some q∧bs[i]? = some b∧F H y q b)→Q H):Ds te EM caps (Itl K a) D H1 Q:=by
 refine KG (xs:=as.map V.ref) (fun i ys H=>AG H1 H∧H D=some (.lst ys)∧∀ (j:Nat) (y:V),ys[j]? = some y→∃ q b,as[j]? = some q∧bs[j]? = some b∧F H y q b) ⟨Ak hD,AM,fun j y z=>by simp at z⟩ (fun _ _ H _ ⟨s1,_⟩=>s1.seq hl) ?_ ?_
 ·rintro i x ys H hx hy ⟨s1,e1,pr⟩
  have hi:i<as.length:=by
   have:=(zC.mp hx).1
   rwa [z0] at this
  have hq:=z9 hi
  obtain ⟨b,hb,eb⟩:=Paired.at pr0 hq
  have ex:x=V.ref as[i]:=by
   rw [zN,hq] at hx
   exact (zV hx).symm
  subst ex
  refine he as[i] b H _ (zW hb) s1 (by rw [e1];simp) (es _ _ _ _ s1 eb) fun y H' s2 fy=>?_
  refine Mj.of (by rw [z0,PySem.sizeLine_eq];lia) (by rw [z0];exact hi) hy (s2.get e1) ⟨(s1.trans s2).updFresh hD,AM,fun j z hz'=>?_⟩
  by_cases hj:j<ys.length
  ·rw [List.getElem?_append_left hj] at hz'
   obtain ⟨q,b',h1,h2,h3⟩:=pr j z hz'
   exact ⟨q,b',h1,h2,fd _ _ _ _ _ _ (s2.get e1) hD (fs _ _ _ _ _ s2 h3)⟩
  ·have hj2:j=ys.length:=by
    have:=(zC.mp hz').1
    rw [zD] at this
    simp at this
    lia
   subst hj2
   rw [List.getElem?_append_right (zL _),Nat.sub_self] at hz'
   cases hz'
   rw [hy]
   exact ⟨_,b,hq,hb,fd _ _ _ _ _ _ (s2.get e1) hD fy⟩
 ·rintro ys H hy ⟨s1,e1,pr⟩
  exact hd H ys s1 e1 (by rw [hy,z0]) pr
theorem Bq {H H':Hp}{P:Addr}{pos:Pos}{qual:Str}(h:LM.Tbl H P pos qual)(s:AG H H'):LM.Tbl H' P pos qual:=by
 rcases h with h | ⟨c,o,u,vs,t,h1,h2,h3⟩
 ·exact .inl (s.get h)
 ·exact .inr ⟨c,o,u,vs,t,s.get h1,s.get h2,h3⟩
noncomputable def CU (T:Addr)(H H':Hp):Prop:=∀ b u,b≠T→H b=some u→H' b=some u
theorem CU.get {T b:Addr}{H H':Hp}{u:HO}{pos:Pos}{qual:Str}(s:CU T H H')(tb:LM.Tbl H T pos qual)(e:H b=some u)(n:∀ ps,u≠.tbl ps):H' b=some u:=s b u (fun z=>by
 obtain ⟨ps,h⟩:=tb.tab
 rw [z,h] at e
 exact n ps (zV e).symm) e
theorem CU.of {T:Addr}{H H':Hp}(s:AG H H'):CU T H H':=fun _ _ _ e=>s.get e
theorem CU.trans {T:Addr}{H H1 H2:Hp}(a:CU T H H1)(b:CU T H1 H2):CU T H H2:=fun c u n e=>b c u n (a c u n e)
theorem Bch.sameT {C T:Addr}{H H':Hp}{b S P:Addr}{ow:List Addr}{gs:List G}{past:List (List G)}{pos:Pos}{qual:Str}(h:Bch C H b S P ow gs past)(s:CU T H H')(tb:LM.Tbl H T pos qual):Bch C H' b S P ow gs past:=
 h.keep fun a u ha e=>by
  rcases ha with z | z | ⟨xs,z⟩
  ·obtain ⟨dx,eb⟩:=h.at_
   rw [z,eb] at e
   cases e
   rw [z]
   exact s.get tb eb fun _ z=>by cases z
  ·obtain ⟨xs,ea⟩:=h.lv a z
   rw [ea] at e
   cases e
   exact s.get tb ea fun _ z=>by cases z
  ·rw [z] at e ⊢
   exact s.get tb e fun _ z=>by cases z
end TG
namespace L2
open PySem PySem.Spec PyProof.Rows
section
variable {X:Cx}
end
end L2
namespace TG
open PySem L2
section
variable {T:Addr} {H H':Hp} {pos:Pos} {qual:Str}
end
end TG
namespace L2
open PySem PySem.Spec PyProof.Rows
section
variable {X:Cx} {CX:CXT} {k n:Nat} {f C:Addr} {fd:FuncData} {ps N:List Str} {sp:Sp} {E:XK} {x:Str} {p pos apos:Pos} {e:Expr} {es:List Expr} {t:TA} {st:Stmt} {a b:Expr} {ta tb te:TE} {r:R2}
theorem pcl (d:D X.K X.mg x st ps f fd)(F:Aa X.prog X.w X.K X.mg X.base CX k f fd ps sp)(hr:CT n X.A)(hx:E4 CX X E)(ha:PA X (e::es) t)(hk:k≤n:=by decide)(hg:Gl X x:=by rfl)(hdb:(x == ("__debug__":Str))=false:=by decide)
  (he:starEach (e::es) X.env=(false,eval e X.env)::starEach es X.env:=by rfl) (hpl:(backTo pos (starEach es X.env)).any (·.1)=false:=by rfl):PE X (.Call (.Name x p) (e::es) [] pos) (JG sp [] E t):=aB F (hr.mono hk) hg d.m d.F.kp d.b .nil hx ha hdb he hpl
theorem pst (i:Nat){sc:Scope}{pos':Pos}(S:AJ X.N ps sc)(he:PE X e te)(hi:X.N[i]? = some x:=by rfl)(hx:Loc X.env.scope x:=by first | exact Or.inl rfl | exact Or.inr rfl)(hs:swapsWith e (some (.Name x pos')) pos.line X.env=pure false:=by rfl)
  (hf:X.fn x=true∨X.env.scope.names.lookup x=some .local:=by first | exact .inl rfl | exact .inr rfl | assumption):PS X (.Assign [.Name x pos'] e pos) (Ry te (EH i)):=fW S.nd hi hx he hs hf
theorem pgn (i:Nat){sc:Scope}(S:AJ X.N ps sc)(hi:X.N[i]? = some x:=by rfl)(hx:Loc X.env.scope x:=by first | exact Or.inl rfl | exact Or.inr rfl)(hf:X.fn x=true∨X.env.scope.names.lookup x=some .local:=by first | exact .inl rfl | exact .inr rfl | assumption):PG X (.Name x pos) (EH i):=Sw S.nd hi hx hf
theorem pxi (hr:IxR X r)(ha:PE X a ta)(hb:PE X b tb)(hs:WL b:=by exact fun _ _=>rfl):PE X (.Subscript a b pos) (tOp r ta tb):=pe_ix hr ha hb hs
theorem pec {op:CmpOp}(ho:OpR X (compareOp op) r)(ha:PE X a ta)(hb:PE X b tb)(hm:behindInMarks op b=false:=by exact YE _):PE X (.Compare a [op] [b] pos) (tOp r ta tb):=TV ho ha hb hm
theorem ptc {op:CmpOp}(ho:OpR X (compareOp op) r)(ha:PE X a ta)(hb:PE X b tb)(hm:behindInMarks op b=false:=by exact YE _):PT X (.Compare a [op] [b] pos) (Jf (tOp r ta tb)):=Z3 ho ha hb hm
end
section
variable {X:Cx}
theorem Rz:Cm X (.type "int") (fun xs H Q=>∃ x n,xs=[.str x]∧PySem.intText? x=some n∧x.length≤640∧Q (.int n) H):=by
 intro pins s σ H xs us Q I r h
 obtain ⟨x,n,rfl,hn,hl,q⟩:=h
 obtain ⟨u,rfl,t,rfl⟩:=vals1 r
 exact W.KIN.call_text hn hl ⟨.int n,H,I.tok _,⟨_,rfl⟩,q⟩
noncomputable def TD:V→List V→Hp→VK→Prop:=fun x vs H Q=>∃ a b,x = .str a∧vs=[.str b]∧Q (.bl (decide (0+b.length≤a.length) && Builtin.Str.subAt a b 0)) H
theorem Sf:MtR X "str.startswith" TD:=by
 intro pins s σ H x vs v us Q I rx rv h
 obtain ⟨a,b,rfl,rfl,q⟩:=h
 obtain ⟨t,rfl⟩:=rx
 obtain ⟨u,rfl,t',rfl⟩:=vals1 rv
 refine call_meets F.slot_str_startswith (typeIs_str _ _ _) F.entry_str_startswith (F.args_str_startswith_2 _ _) (gives_str_startswith a b t t').meets ?_
 exact ⟨.bl _,H,I,rfl,q⟩
noncomputable def cH:V→Option Int→Option Int→Hp→VK→Prop:=fun x lo hi H Q=>∃ a,x = .str a∧a.length≤sizeLine∧Q (.str (Txt.slice a lo hi)) H
theorem ek:SlR X cH:=by
 intro pins s σ H x v vl vu lo hi sl Q I rx hs pl pu h
 obtain ⟨a,rfl,hz,q⟩:=h
 obtain ⟨t,rfl⟩:=rx
 have part:∀ {v:Value} {o:Option Int},IsPart v o→∃ z:Option (Int×Tok),v=partValue z∧z.map (·.1)=o:=fun h=>by
  cases h with
  | none=>exact ⟨none,rfl,rfl⟩
  | int i t=>exact ⟨some (i,t),rfl,rfl⟩
 obtain ⟨zl,rfl,el⟩:=part pl
 obtain ⟨zu,rfl,eu⟩:=part pu
 subst el eu
 refine ⟨"str",_,F.slot_str_getitem.lookup,typeIs_str _ _ _,wpAny_getItem_str_slice (l:=zl) (u:=zu) (st:=none) hs rfl (post_val_or_str ⟨zO (Txt.slice_le a _ _) hz,fun t' k=>?_⟩)⟩
 exact ⟨.str _,H,I.tok _,⟨_,rfl⟩,q⟩
end
noncomputable def sg1 (x:Str)(i:Nat):V:=.str ⟨#[x.cps.getD i 0]⟩
noncomputable def Its (x:Str):It:=⟨fun i _=>i<x.cps.size,fun i H v H'=>H'=H∧v=sg1 x i,fun i _=>x.cps.size≤i⟩
theorem Ze {P:Program}{w:World}{K:W.Frag}{tg:Expr}(x:Str)(it:Addr):S3 P w K tg (Its x) [it] it (fun i h=>∃ t,h.IsStrIter it "str_ascii_iterator" x t i) where
 mem:=by simp
 obj:=fun i h ⟨t,o,e,c,d⟩ b hb=>by
  have z:b=it:=by simpa using hb
  rw [z]
  exact ⟨o,e,fun v y=>by rw [d] at y;cases y⟩
 keep:=fun i h h' ⟨t,o,e,c,d⟩ k=>⟨t,o,k it (by simp) o e,c,d⟩
 item:=by
  intro X hP hw hK hc i pins s σ H E I hf st hg
  subst hP hw hK
  obtain ⟨t,st⟩:=st
  have hg:i<x.cps.size:=hg
  obtain ⟨f0,f1,f2,f3,f4,f5⟩:=hf it (by simp)
  have hx:x.cps[i]? = some (x.cps.getD i 0):=by rw [zg,qN hg];rfl
  refine wpAny_pyNext_ascii_item st hx fun h2 st2 sb=>?_
  have I1:Inv X pins σ H { s with heap:=h2,toks:=s.toks+1 }:=I.turned (fun b o hb e=>(sb.2 b hb).trans e) f0 f1 f3 f4 f5
  obtain ⟨o,e,c,d⟩:=id st2
  exact ⟨_,rfl,Wb (s:={ s with heap:=h2,toks:=s.toks+1 }) e c d (by decide) ⟨sg1 x i,H,I1,⟨_,rfl⟩,⟨rfl,rfl⟩,⟨t,st2⟩,fun b hb=>(hf b hb).1⟩⟩
 done:=by
  intro X hP hw hK hc i pins s σ H E I hf st hg
  subst hP hw hK
  obtain ⟨t,st⟩:=st
  have hg:x.cps.size≤i:=hg
  obtain ⟨f0,f1,f2,f3,f4,f5⟩:=hf it (by simp)
  exact wpAny_pyNext_ascii_end (I.ok.hd hc) st (Array.getElem?_eq_none hg) fun h2 eb=>⟨rfl,I.turned (t':=s.toks) (fun b o hb e=>eb b o hb e) f0 f1 f3 f4 f5⟩
 self:=fun _ _ _ _ _ ⟨t,st⟩ h=>wpAny_pyIter_striter_ascii st h
section
variable {X:Cx} {tg:Expr}
noncomputable def iStr (tl:TE):TI:=fun σ H R=>tl σ H fun v H1=>∃ x,v = .str x∧x.cps.all (·<128)=true∧R (Its x) H1
theorem fb {l:Expr}{tl:TE}(hl:PE X l tl):PI X tg l (iStr tl):=by
 intro pins s σ H R I h
 refine thn (hl pins s σ H _ I h) fun v s1 zq=>?_
 obtain ⟨y,H1,I1,r1,q1⟩:=zq
 obtain ⟨x,e,asc,q⟩:=q1
 subst e
 obtain ⟨t,rfl⟩:=r1
 refine wpAny_pyIter_ascii asc ?_
 refine ⟨s1.heap.objs.size,[s1.heap.objs.size],_,_,H1,rfl,I1.kept (t':=s1.toks) fun b o e=>zA _ e,Ze x _,⟨t,_,zT _ rfl,rfl,rfl⟩,fun b hb=>?_,q⟩
 have e:b=s1.heap.objs.size:=by simpa using hb
 rw [e]
 exact I1.fpOk (zL _) (I1.hok.fresh (zL _))
end
theorem YQ {te:TE}{caps:St}{x:Str}{D:Addr}{H1:Hp}{Q:Hp→Prop}(Pv:Nat→List V→Hp→Prop)(h0:Pv 0 [] (upd H1 D (.lst [])))
  (hs:∀ i ys H,i<x.cps.size→ys.length=i→Pv i ys H→te (some (sg1 x i)::caps) H (Mj x.cps.size i ys D Pv))
  (hd:∀ ys H,ys.length=x.cps.size→Pv x.cps.size ys H→Q H):Ds te EM caps (Its x) D H1 Q:=by
 refine ⟨fun i m ys H=>m=x.cps.size-i∧i≤x.cps.size∧ys.length=i∧Pv i ys H,⟨_,rfl,zr _,rfl,h0⟩,?_⟩
 rintro i m ys H ⟨rfl,hi,hl,p⟩
 by_cases hlt:i<x.cps.size
 ·refine .inr ⟨hlt,fun v H' y=>?_⟩
  obtain ⟨e1,e2⟩:=y
  subst e1 e2
  unfold EM
  dsimp only
  rw [if_pos rfl]
  exact hs i ys _ hlt hl p
 ·have e:i=x.cps.size:=by lia
  subst e
  exact .inl ⟨zL _,hd ys H hl p⟩
noncomputable abbrev tx (l:List Nat):Str:=⟨l.toArray⟩
theorem A4 (a b:List Nat):tx a++tx b=tx (a++b):=by
 show (⟨a.toArray++b.toArray⟩:Str)=_
 rw [List.append_toArray]
theorem AY (l:List Nat):(tx l).length=l.length:=zQ ..
theorem Ti {a b:List Nat}:tx a=tx b↔a=b:=⟨fun h=>by injection h with h;injection h,fun h=>by rw [h]⟩
theorem bI (x:Str):x=tx x.cps.toList:=by cases x;rfl
theorem Xe (x:Str){a b:Nat}(h:a≤b)(hb:b≤x.length):Txt.slice x (some (a:Int)) (some (b:Int))=tx ((x.cps.toList.drop a).take (b-a)):=StrLaws.sliceText_nat x h hb
theorem sl_ix {lo:Option Int}{n i:Nat}:Builtin.Str.strSliceIndices lo none 1 n=Builtin.Str.strSliceIndices lo (some (n:Int)) 1 n:=by
 unfold Builtin.Str.strSliceIndices
 dsimp only
 simp only [if_pos (show (1:Int)>0 by decide)]
 rw [if_neg (by lia),show max (0:Int) (min (n:Int) n)=n by lia]
theorem fq {hi:Option Int}{n j:Nat}:Builtin.Str.strSliceIndices (some (j:Int)) hi 1 n=Builtin.Str.strSliceIndices (some ((min j n:Nat):Int)) hi 1 n:=by
 unfold Builtin.Str.strSliceIndices
 dsimp only
 simp only [if_pos (show (1:Int)>0 by decide)]
 rw [if_neg (show ¬ (j:Int)<0 by lia),if_neg (show ¬ ((min j n:Nat):Int)<0 by lia),show max (0:Int) (min ((min j n:Nat):Int) n)=max (0:Int) (min (j:Int) n) by lia]
theorem VR (l:List Nat)(i:Nat):Txt.slice (tx l) (some (i:Int)) none=tx (l.drop i):=by
 have h:Txt.slice (tx l) (some (i:Int)) none=Txt.slice (tx l) (some ((min i (tx l).length:Nat):Int)) (some (((tx l).length:Nat):Int)):=by
  unfold Txt.slice
  rw [sl_ix (i:=0),fq]
 rw [h,Xe _ (Nat.min_le_right ..) (zL _),AY]
 refine Ti.mpr ?_
 show List.take (l.length-min i l.length) (List.drop (min i l.length) l)=_
 by_cases hi:i≤l.length
 ·rw [Nat.min_eq_left hi,qL (by rw [zo];lia)]
 ·rw [Nat.min_eq_right (by lia),List.drop_eq_nil_of_le (zL _),List.drop_eq_nil_of_le (by lia),List.take_nil]
noncomputable def FL (n:Nat):List Nat:=(Nat.toDigits 10 n).map Char.toNat
noncomputable def dec (i:Int):List Nat:=if i<0 then 45::FL i.natAbs else FL i.natAbs
theorem Zh (n:Nat):Str.ofString (toString n)=tx (FL n):=by
 show Str.ofString (Nat.repr n)=_
 rw [Nat.repr_eq_ofList_toDigits,W.Fast.ofString_ofList]
 rfl
theorem BB (i:Int):Str.ofString (toString i)=tx (dec i):=by
 cases i with
 | ofNat n =>
  show Str.ofString (toString n)=_
  rw [Zh]
  rfl
 | negSucc n =>
  show Str.ofString ("-"++toString (n+1))=_
  have:("-"++toString (n+1):String)=String.ofList ('-'::Nat.toDigits 10 (n+1)):=by
   show "-"++Nat.repr (n+1)=_
   rw [Nat.repr_eq_ofList_toDigits,← String.ofList_append]
   rfl
  have e:dec (.negSucc n)=45::FL (n+1):=if_pos (Int.negSucc_lt_zero n)
  rw [this,W.Fast.ofString_ofList,e]
  rfl
theorem Lh {n:Nat}(h:n<10):FL n=[48+n]:=by
 unfold FL
 rw [Nat.toDigits_of_lt_base h,zU,Nat.toNat_digitChar_of_lt_ten h]
 rfl
theorem N8 {n:Nat}(h:10≤n):FL n=FL (n / 10)++[48+n % 10]:=by
 unfold FL
 rw [Nat.toDigits_of_base_le (by decide) h,zc,zU,Nat.toNat_digitChar_of_lt_ten (Nat.mod_lt _ (by decide))]
 rfl
theorem Dp (n:Nat):NumText.AllDigits (FL n):=by
 induction n using Nat.strongRecOn with
 | _ n ih =>
  by_cases h:n<10
  ·rw [Lh h]
   intro c hc
   rw [zI.mp hc]
   lia
  ·rw [N8 (by lia)]
   intro c hc
   rcases zb.mp hc with z | z
   ·exact ih (n / 10) (by lia) c z
   ·rw [zI.mp z]
    lia
theorem M8 (n:Nat):NumText.digitsVal (FL n)=n:=by
 induction n using Nat.strongRecOn with
 | _ n ih =>
  by_cases h:n<10
  ·rw [Lh h]
   show 0*10+(48+n-48)=n
   lia
  ·rw [N8 (by lia)]
   have:=ih (n / 10) (by lia)
   unfold NumText.digitsVal at this ⊢
   rw [List.foldl_append,this]
   show n / 10*10+(48+n % 10-48)=n
   lia
theorem Xw {n:Nat}(h:n≠0):∃ c r,FL n=c::r∧49≤c∧c≤57:=by
 induction n using Nat.strongRecOn with
 | _ n ih =>
  by_cases h1:n<10
  ·exact ⟨_,_,Lh h1,by lia,by lia⟩
  ·obtain ⟨c,r,e,h2,h3⟩:=ih (n / 10) (by lia) (by lia)
   exact ⟨c,r++[48+n % 10],by rw [N8 (by lia),e];rfl,h2,h3⟩
theorem VM {n k:Nat}(hk:0<k):(FL n).length≤k↔n<10 ^ k:=by
 unfold FL
 rw [z0]
 exact Nat.length_toDigits_le_iff (by decide) hk
theorem B0 (i:Int):∀ c∈dec i,c=45∨48≤c∧c≤57:=fun c hc=>by
 unfold dec at hc
 split at hc
 ·rcases zF.mp hc with z | z
  ·exact .inl z
  ·exact .inr (Dp _ c z)
 ·exact .inr (Dp _ c hc)
theorem TX {i:Int}{k:Nat}(hk:0<k)(h:i.natAbs<10 ^ k):(dec i).length≤k+1:=by
 have:=(VM hk).mpr h
 unfold dec
 split
 ·rw [zB];lia
 ·lia
theorem T9 {a b:Nat}(h:FL a=FL b):a=b:=by rw [← M8 a,h,M8]
theorem Z8 {a b:Int}(h:dec a=dec b):a=b:=by
 have nm:∀ n (r:List Nat),FL n≠45::r:=fun n r z=>by
  have:=Dp n 45 (by rw [z];exact zP)
  lia
 unfold dec at h
 by_cases ha:a<0
 ·rw [if_pos ha] at h
  by_cases hb:b<0
  ·rw [if_pos hb] at h
   have:=T9 (List.cons.inj h).2
   lia
  ·rw [if_neg hb] at h
   exact absurd h.symm (nm _ _)
 ·rw [if_neg ha] at h
  by_cases hb:b<0
  ·rw [if_pos hb] at h
   exact absurd h (nm _ _)
  ·rw [if_neg hb] at h
   have:=T9 h
   lia
noncomputable def Rn (l:List Nat):Bool:=l.head? == some 45
noncomputable def bare (l:List Nat):List Nat:=if Rn l then l.drop 1 else l
noncomputable def rdN (l:List Nat):Option Int:=
 if l=[48] then some 0
 else if 1≤(bare l).length∧(bare l).length≤9∧(∀ c∈bare l,48≤c∧c≤57)∧(bare l).head?≠some 48 then some (if Rn l then -(NumText.digitsVal (bare l):Int) else NumText.digitsVal (bare l))
 else none
theorem Pr {i:Int}(h:i.natAbs≤999999999):rdN (dec i)=some i:=by
 unfold rdN
 by_cases h0:i=0
 ·rw [h0];rfl
 have hn:i.natAbs≠0:=by lia
 obtain ⟨c,r,e,h1,h2⟩:=Xw hn
 have hl:(FL i.natAbs).length≤9:=(VM (by decide)).mpr (by lia)
 have hd:dec i≠[48]:=fun z=>by
  have:dec i=dec 0:=z
  exact h0 (Z8 this)
 rw [if_neg hd]
 by_cases hi:i<0
 ·have ed:dec i=45::FL i.natAbs:=if_pos hi
  have eb:bare (dec i)=FL i.natAbs:=by rw [ed];rfl
  have en:Rn (dec i)=true:=by rw [ed];rfl
  rw [eb,if_pos ⟨by rw [e];simp,hl,Dp _,by rw [e];simp;lia⟩,if_pos en,M8]
  congr 1
  lia
 ·have ed:dec i=FL i.natAbs:=if_neg hi
  have en:Rn (dec i)=false:=by
   rw [ed,e]
   show (some c == some 45)=false
   simp
   lia
  have eb:bare (dec i)=FL i.natAbs:=by unfold bare;rw [en,if_neg (by decide),ed]
  rw [eb,if_pos ⟨by rw [e];simp,hl,Dp _,by rw [e];simp;lia⟩,en,if_neg (by decide),M8]
  congr 1
  lia
theorem P5 (l:List Nat)(c:Nat):(decide (0+(tx [c]).length≤(tx l).length) && Builtin.Str.subAt (tx l) (tx [c]) 0)=(l.head? == some c):=by
 cases l with
 | nil=>rfl
 | cons a r =>
  have h:Builtin.Str.subAt (tx (a::r)) (tx [c]) 0=(a == c):=by
   unfold Builtin.Str.subAt
   have e:((tx (a::r)).cps.extract 0 (0+(tx [c]).length))=#[a]:=by
    apply Array.toList_inj.mp
    rw [Array.toList_extract]
    rfl
   rw [e]
   by_cases z:a=c
   ·subst z;simp
   ·rw [show (a == c)=false by simpa using z]
    simpa using z
  rw [h,zE (by rw [AY,AY];simp),Bool.true_and]
  show (a == c)=(some a == some c)
  simp
theorem cN (l:List Nat)(c:Nat):(!(Builtin.Str.occurrences (tx l) (tx [c]) 0 (tx l).length 1).isEmpty)=decide (c∈l):=StrLaws.found_one (tx l) c
noncomputable def B8 (c:Nat):List Nat→List (List Nat)
 | []=>[[]]
 | a::r=>if a=c then []::B8 c r else match B8 c r with
  | []=>[[a]]
  | p::ps=>(a::p)::ps
noncomputable def Ay (s:List Nat):List (List Nat)→List Nat
 | []=>[]
 | [y]=>y
 | y::z::ys=>y++(s++Ay s (z::ys))
theorem A6 {s y:List Nat}{ys:List (List Nat)}(h:ys≠[]):Ay s (y::ys)=y++(s++Ay s ys):=by
 cases ys with
 | nil=>exact absurd rfl h
 | cons z r=>rfl
theorem Wv (c:Nat)(l:List Nat):B8 c l≠[]:=by
 cases l with
 | nil=>simp [B8]
 | cons a r =>
  unfold B8
  split
  ·simp
  ·split<;>simp
theorem Gv {c:Nat}:∀ {l:List Nat},c∉l→B8 c l=[l]
 | [],_=>rfl
 | a::r,h=>by
  have ha:a≠c:=fun z=>h (by rw [z];exact zP)
  have hr:=Gv (l:=r) fun z=>h (zK _ z)
  unfold B8
  rw [if_neg ha,hr]
theorem Gf {c:Nat}:∀ {p l:List Nat},c∉p→B8 c (p++c::l)=p::B8 c l
 | [],l,_=>by
  rw [List.nil_append]
  conv=>lhs;unfold B8
  rw [if_pos rfl]
 | a::r,l,h=>by
  have ha:a≠c:=fun z=>h (by rw [z];exact zP)
  have hr:=Gf (p:=r) (l:=l) fun z=>h (zK _ z)
  rw [qV]
  conv=>lhs;unfold B8
  rw [if_neg ha,hr]
theorem P4 {c:Nat}:∀ {ps:List (List Nat)},ps≠[]→(∀ p∈ps,c∉p)→B8 c (Ay [c] ps)=ps
 | [],h,_=>absurd rfl h
 | [p],_,f=>Gv (f p (by simp))
 | p::q::ps,_,f=>by
  rw [A6 (by simp),List.singleton_append,Gf (f p (by simp)),P4 (by simp) fun x hx=>f x (zK _ hx)]
theorem QK (s:List Nat):∀ (ys:List Str) (a:Array Nat),(ys.foldl (fun acc p=>acc++(tx s).cps++p.cps) a).toList=a.toList++(ys.map fun y=>s++y.cps.toList).flatten
 | [],a=>by simp
 | y::ys,a=>by
  rw [List.foldl_cons,QK s ys]
  simp
theorem W0 (s:List Nat)(ys:List (List Nat)):Txt.join (tx s) (ys.map tx)=tx (Ay s ys):=by
 have aux:∀ (y:List Nat) (ys:List (List Nat)),y++((ys.map tx).map fun y=>s++y.cps.toList).flatten=Ay s (y::ys):=by
  intro y ys
  induction ys generalizing y with
  | nil=>simp [Ay]
  | cons z ys ih =>
   rw [A6 (by simp),← ih z]
   simp
 cases ys with
 | nil=>rfl
 | cons y ys =>
  show (⟨List.foldl (fun acc p=>acc++(tx s).cps++p.cps) (tx y).cps (ys.map tx)⟩:Str)=_
  refine (bI _).trans (Ti.mpr ?_)
  show (List.foldl (fun acc p=>acc++(tx s).cps++p.cps) (tx y).cps (ys.map tx)).toList=_
  rw [QK]
  exact aux y ys
theorem ZN (c:Nat)(l:List Nat):Txt.split (tx l) (tx [c])=(B8 c l).map tx:=by
 have h1:=StrLaws.join_split (tx l) (tx [c])
 have h2:=fun p=>StrLaws.split_free (tx l) c p
 have hne:Txt.split (tx l) (tx [c])≠[]:=by
  unfold Txt.split
  split
  ·simp
  ·split
   ·simp
   ·intro z
    have:=PyProof.Rows.len_partsBetween (tx l) (Builtin.Str.occurrences (tx l) (tx [c]) 0 (tx l).length ((tx l).length+1)) (tx [c]).length
    rw [z] at this
    simp at this
 generalize Txt.split (tx l) (tx [c])=ps at *
 have e:ps=(ps.map fun p=>p.cps.toList).map tx:=by
  rw [zp]
  conv=>lhs;rw [← List.map_id ps]
  refine List.map_congr_left fun p _=>?_
  exact bI p
 have h3:Ay [c] (ps.map fun p=>p.cps.toList)=l:=by
  have:=h1
  rw [e] at this
  rw [show Str.join (tx [c]) ((ps.map fun p=>p.cps.toList).map tx)=Txt.join (tx [c]) ((ps.map fun p=>p.cps.toList).map tx) from (StrLaws.glued_eq_join ..).symm,W0] at this
  exact Ti.mp this
 rw [e,← h3,P4]
 ·simpa using hne
 ·intro p hp
  obtain ⟨x,hx,rfl⟩:=zZ.mp hp
  exact h2 x hx
section
variable {X:Cx}
noncomputable abbrev tvs (ys:List (List Nat)):List V:=ys.map fun y=>V.str (tx y)
theorem VD:∀ {ys:List (List Nat)} {us:List Value},An (tvs ys) us→PyProof.Rows.StrsAre us (ys.map tx)
 | [],_,h=>by cases h;exact .nil
 | y::ys,_,h=>by
  cases h with
  | cons r h =>
   obtain ⟨t,rfl⟩:=r
   exact .cons _ t (VD h)
noncomputable def Ck (K:W.Frag):V→List V→Hp→VK→Prop:=fun x vs H Q=>∃ s l ys,x = .str (tx s)∧vs=[.ref l]∧SqL K H l (tvs ys)∧(ys.map List.length).sum+ys.length*s.length≤16777216∧Q (.str (tx (Ay s ys))) H
theorem BU:MtR X "str.join" (Ck X.K):=by
 intro pins s σ H x vs v us Q I rx rv h
 obtain ⟨sp,l,ys,rfl,rfl,hl,hz,q⟩:=h
 obtain ⟨t,rfl⟩:=rx
 obtain ⟨u,rfl,r1⟩:=vals1 rv
 cases r1
 obtain ⟨i1,r1,t1,_⟩:=I.list hl
 refine PyProof.Rows.join_list t1.isList (by simpa using VD r1) ?_ fun t' k=>?_
 ·rw [zp,z0,AY,show ((fun x:Str=>x.length)∘tx)=List.length from funext fun y=>AY y]
  exact hz
 ·refine ⟨.str _,H,I.tok _,⟨_,rfl⟩,?_⟩
  rw [W0]
  exact q
theorem Sr:∀ (k:Nat) (ys:List (List Nat)),An (tvs ys) (strsFrom k (ys.map tx))
 | _,[]=>.nil
 | k,y::ys=>.cons ⟨k,rfl⟩ (Sr (k+1) ys)
noncomputable def VT:V→List V→Hp→VK→Prop:=fun x vs H Q=>∃ l c,x = .str (tx l)∧vs=[.str (tx [c])]∧l.length<sizeLine∧∀ p H',H p=none→AG H H'→H' p=some (.lst (tvs (B8 c l)))→Q (.ref p) H'
theorem Q0 (c:Nat):∀ l:List Nat,(B8 c l).length≤l.length+1
 | []=>by simp [B8]
 | a::r=>by
  have:=Q0 c r
  unfold B8
  split
  ·simp only [zB];lia
  ·split
   ·simp
   ·rename_i p ps e
    rw [e] at this
    simp only [zB] at *
    lia
theorem Uj:MtR X "str.split" VT:=by
 intro pins s σ H x vs v us Q I rx rv h
 obtain ⟨l,c,rfl,rfl,hz,q⟩:=h
 obtain ⟨t,rfl⟩:=rx
 obtain ⟨u,rfl,t',rfl⟩:=vals1 rv
 have hf:H s.heap.objs.size=none:=I.hok.fresh (zL _)
 have hcl:=Q0 c l
 have sp:=ZN c l
 by_cases h1:(decide ((tx l).length<(tx [c]).length) || decide (Builtin.Str.strKind (tx l)<Builtin.Str.strKind (tx [c])))=true
 ·refine call_meets F.slot_str_split (typeIs_str _ _ _) F.entry_str_split (F.args_str_split_2 _ _) (meets_str_split_cannot_occur _ _ _ _ h1) ?_
  have e:[tx l]=(B8 c l).map tx:=by rw [← sp];unfold Txt.split;rw [if_pos h1]
  refine ⟨.ref s.heap.objs.size,upd H s.heap.objs.size (.lst (tvs (B8 c l))),I.laid (t':=s.toks) (fun b u e=>zA _ e) (zL _) ⟨by rw [z0];lia,[Value.str (tx l) t],0,?_,zT _ rfl⟩,rfl,q _ _ hf (Ak hf) AM⟩
  have e2:B8 c l=[l]:=by
   have:=congrArg (List.map fun p:Str=>p.cps.toList) e
   rw [zp,show ((fun p:Str=>p.cps.toList)∘tx)=id from rfl,List.map_id] at this
   exact this.symm
  rw [e2]
  exact .cons ⟨t,rfl⟩ .nil
 ·have h1':=Bool.eq_false_iff.mpr h1
  by_cases h2:(Builtin.Str.occurrences (tx l) (tx [c]) 0 (tx l).length ((tx l).length+1)).isEmpty=true
  ·refine call_meets F.slot_str_split (typeIs_str _ _ _) F.entry_str_split (F.args_str_split_2 _ _) (meets_str_split_not_found _ _ _ _ h1' rfl h2) ?_
   have e:[tx l]=(B8 c l).map tx:=by rw [← sp];unfold Txt.split;rw [if_neg h1,if_pos h2]
   refine ⟨.ref s.heap.objs.size,upd H s.heap.objs.size (.lst (tvs (B8 c l))),I.laid (t':=s.toks) (fun b u e=>zA _ e) (zL _) ⟨by rw [z0];lia,[Value.str (tx l) t],0,?_,zT _ rfl⟩,rfl,q _ _ hf (Ak hf) AM⟩
   have e2:B8 c l=[l]:=by
    have:=congrArg (List.map fun p:Str=>p.cps.toList) e
    rw [zp,show ((fun p:Str=>p.cps.toList)∘tx)=id from rfl,List.map_id] at this
    exact this.symm
   rw [e2]
   exact .cons ⟨t,rfl⟩ .nil
  ·have h2':=Bool.eq_false_iff.mpr h2
   have e:Builtin.Str.partsBetween (tx l) (Builtin.Str.occurrences (tx l) (tx [c]) 0 (tx l).length ((tx l).length+1)) (tx [c]).length=(B8 c l).map tx:=by
    rw [← sp];unfold Txt.split;rw [if_neg h1,if_neg h2]
   refine call_meets F.slot_str_split (typeIs_str _ _ _) F.entry_str_split (F.args_str_split_2 _ _) (meets_str_split_sep _ _ _ _ h1' rfl h2' (by rw [AY];lia) (by rw [e,z0];lia)) ?_
   rw [e]
   exact ⟨.ref s.heap.objs.size,upd H s.heap.objs.size (.lst (tvs (B8 c l))),I.laid (fun b u e=>zA _ e) (zL _) ⟨by rw [z0];lia,_,0,Sr _ _,zT _ rfl⟩,rfl,q _ _ hf (Ak hf) AM⟩
theorem o_fig:Str.ofString "0123456789"=tx [48,49,50,51,52,53,54,55,56,57]:=by rfl
theorem Y2 {K:W.Frag}(h:X.K=K):MtR X "str.join" (Ck K):=h▸BU
end
theorem TQ {K:W.Frag}{a:Addr}{xs:List V}{te:TE}{caps:St}{D:Addr}{H1:Hp}{Q:Hp→Prop}(hz:xs.length≤sizeLine)(hD:H1 D=none)(ht:SqT K H1 a xs)(f:V→V)
  (hs:∀ x H (R:VK),x∈xs→AG H1 H→R (f x) H→te (some x::caps) H R)
  (hd:∀ H,AG H1 H→H D=some (.lst (xs.map f))→Q H):Ds te EM caps (Itt K a) D H1 Q:=by
 refine ⟨fun i m ys H=>m=xs.length-i∧i≤xs.length∧AG H1 H∧H D=some (.lst ys)∧ys=(xs.take i).map f,⟨xs.length,rfl,zr _,Ak hD,AM,rfl⟩,?_⟩
 rintro i m ys H ⟨rfl,hi,s1,e1,e2⟩
 have q:=s1.tup ht
 have hy:ys.length=i:=by rw [e2,z0,zw];lia
 by_cases hlt:i<xs.length
 ·refine .inr ⟨⟨xs,xs[i],q,by simp [hlt]⟩,fun v H' y=>?_⟩
  obtain ⟨e,y⟩:=y
  subst e
  have hx:=y xs q
  unfold EM
  dsimp only
  rw [if_pos rfl]
  refine hs v _ _ (zW hx) s1 ?_
  refine ⟨e1,by lia,_,by lia,rfl,hlt,s1.updFresh hD,AM,?_⟩
  rw [List.take_succ,hx,zc,e2];rfl
 ·have e:i=xs.length:=by lia
  subst e
  rw [zj] at e2
  subst e2
  exact .inl ⟨⟨xs,q,by simp⟩,hd H s1 e1⟩
section
variable {X:Cx} {tg:Expr}
noncomputable def iSeq (K:W.Frag)(tl:TE):TI:=fun σ H R=>C5 K tl σ H R∨XY K tl σ H R
theorem dz {l:Expr}{tl:TE}(hl:PE X l tl):PI X tg l (iSeq X.K tl):=fun pins s σ H R I h=>h.elim (A7 hl pins s σ H R I) (Nu hl pins s σ H R I)
end
theorem J9 {K:W.Frag}{ns:List Int}{te:TE}{caps:St}{D:Addr}{H1:Hp}{Q:Hp→Prop}{J:It}(hJ:(∃ a,J=Itl K a∧SqL K H1 a (ns.map V.int))∨∃ a,J=Itt K a∧SqT K H1 a (ns.map V.int))(hz:ns.length≤1000000)(hD:H1 D=none)
  (hs:∀ n H (R:VK),n∈ns→AG H1 H→R (.str (tx (dec n))) H→te (some (.int n)::caps) H R)
  (hd:∀ H,AG H1 H→H D=some (.lst (tvs (ns.map dec)))→Q H):Ds te EM caps J D H1 Q:=by
 let f:V→V:=fun v=>match v with | .int n=>.str (tx (dec n)) | v=>v
 have ef:(ns.map V.int).map f=tvs (ns.map dec):=by rw [zp,tvs,zp];rfl
 have hl:(ns.map V.int).length≤sizeLine:=by rw [z0,PySem.sizeLine_eq];lia
 have hs':∀ x H (R:VK),x∈ns.map V.int→AG H1 H→R (f x) H→te (some x::caps) H R:=fun x H R hx s hR=>by
  obtain ⟨n,hn,rfl⟩:=zZ.mp hx
  exact hs n H R hn s hR
 rcases hJ with ⟨a,rfl,h⟩ | ⟨a,rfl,h⟩
 ·exact K5 hl hD h f hs' fun H s e=>hd H s (by rw [e,ef])
 ·exact TQ hl hD h f hs' fun H s e=>hd H s (by rw [e,ef])
noncomputable def frT (x y:Int):List Nat:=if y=1 then dec x else dec x++47::dec y
noncomputable def rdF (l:List Nat):Option (Int×Int):=match B8 47 l with
 | [_]=>(rdN l).map fun x=>(x,1)
 | [a,b]=>match rdN a,rdN b with
  | some x,some y=>some (x,y)
  | _,_=>none
 | _=>none
end L2
namespace TG
open PySem L2 PySem.W
noncomputable def aq (K:Frag)(l:List Addr):Prop:=∀ (i j:Nat) (a b:Addr),l[i]? = some a→l[j]? = some b→exmOne K (.ref a) (.ref b)=some (decide (i=j))
noncomputable def Ye (K:Frag)(ns:List Str):Bool:=ns.zipIdx.all fun p=>ns.zipIdx.all fun q=>fQ K p.1 q.1 == some (decide (p.2=q.2))
noncomputable abbrev Zv (K:Frag):List Str→List Addr→Prop:=Paired fun n C=>nsIn K mainGlobals n=some (some (.ref C))
theorem Ym {K:Frag}{ns:List Str}{l:List Addr}(h:Zv K ns l)(e:Ye K ns=true):aq K l:=fun i j a b ha hb=>by
 obtain ⟨n,hn,na⟩:=Paired.get h ha
 obtain ⟨m,hm,nb⟩:=Paired.get h hb
 unfold Ye at e
 rw [qW] at e
 have e1:=e (n,i) (List.mem_zipIdx_iff_getElem?.mpr hn)
 rw [qW] at e1
 have e2:=e1 (m,j) (List.mem_zipIdx_iff_getElem?.mpr hm)
 exact Z0 na nb (beq_iff_eq.mp e2)
theorem Yz {K:Frag}{l:List Addr}(h:aq K l){a:Addr}{D:Ij}{σ:St}{H:Hp}{c:Value}{th:TS}(k:th D σ H):∀ (ths:List (Value×TS)) (j m:Nat),(∀ n p,ths[n]? = some p→∃ b,l[j+n]? = some b∧p.1 = .ref b)→ths[m]? = some (c,th)→l[j+m]? = some a→tHs K ths (.ref a) D σ H
 | [],_,_,_,ht,_=>by simp at ht
 | (c0,t0)::r,j,m,hj,ht,hi=>by
  obtain ⟨b,hb,eb⟩:=hj 0 _ rfl
  cases eb
  refine ⟨_,h _ _ a b hi hb,?_⟩
  cases m with
  | zero =>
   rw [if_pos (zE rfl)]
   cases ht
   exact k
  | succ m =>
   rw [if_neg (fun z=>by have:=zH z;lia)]
   refine Yz h k r (j+1) m (fun n p hp=>?_) ht ?_
   ·rw [show j+1+n=j+(n+1) by lia]
    exact hj (n+1) p hp
   ·rw [show j+1+m=j+(m+1) by lia]
    exact hi
theorem Bu {K:Frag}{l:List Addr}(h:aq K l)(i:Nat){a:Addr}(hi:l[i]? = some a){ths:List (Value×TS)}{D:Ij}{σ:St}{H:Hp}{c:Value}{th:TS}(hm:ths.map Prod.fst=(l.take ths.length).map Value.ref)(ht:ths[i]? = some (c,th))(k:th D σ H):tHs K ths (.ref a) D σ H:=by
 refine Yz h k ths 0 i (fun n p hp=>?_) ht (by rw [Nat.zero_add];exact hi)
 have e:=congrArg (·[n]?) hm
 simp only [zN,hp,qc] at e
 rw [Nat.zero_add]
 obtain ⟨b,hb,eb⟩:=zi.mp e.symm
 rw [List.getElem?_take] at hb
 split at hb
 ·exact ⟨b,hb,eb.symm⟩
 ·cases hb
theorem QG {a b a' b':Int}(b0:0<b)(b0':0<b')(g:Int.gcd a b=1)(g':Int.gcd a' b'=1)(e:a*b'=a'*b):a=a'∧b=b':=by
 have d1:b ∣ b':=by
  have h:b ∣ a*b':=⟨a',by rw [e,Int.mul_comm]⟩
  have h2:b.natAbs ∣ a.natAbs*b'.natAbs:=by rw [← Int.natAbs_mul];exact Int.natAbs_dvd_natAbs.mpr h
  have c:Nat.Coprime b.natAbs a.natAbs:=by
   have:Int.gcd b a=1:=by rw [Int.gcd_comm];exact g
   exact this
  exact Int.natAbs_dvd_natAbs.mp (Nat.Coprime.dvd_of_dvd_mul_left c h2)
 have d2:b' ∣ b:=by
  have h:b' ∣ a'*b:=⟨a,by rw [← e,Int.mul_comm]⟩
  have h2:b'.natAbs ∣ a'.natAbs*b.natAbs:=by rw [← Int.natAbs_mul];exact Int.natAbs_dvd_natAbs.mpr h
  have c:Nat.Coprime b'.natAbs a'.natAbs:=by
   have:Int.gcd b' a'=1:=by rw [Int.gcd_comm];exact g'
   exact this
  exact Int.natAbs_dvd_natAbs.mp (Nat.Coprime.dvd_of_dvd_mul_left c h2)
 have eb:b=b':=Int.le_antisymm (Int.le_of_dvd b0' d1) (Int.le_of_dvd b0 d2)
 subst eb
 exact ⟨Int.eq_of_mul_eq_mul_right (by lia) e,rfl⟩
theorem WT {t t':Thr}{x:G}(ot:OkT t)(ot':OkT t')(ec:t.c=t'.c)(ed:t.d=t'.d)(tx:t.gap x.p x.f=0)(px:t'.pas x):t.a*t'.b≤t'.a*t.b:=by
 have b0:=ot.b0
 have b0':=ot'.b0
 have d0:=ot.d0
 obtain ⟨h,_⟩:=px
 rw [← ec,← ed] at h
 have h2:=zt h (qM b0)
 have e:t.a*t.d+t.c*x.p*t.b=x.f*t.b*t.d:=by
  have:t.gap x.p x.f=t.a*t.d+t.c*x.p*t.b-x.f*t.b*t.d:=rfl
  lia
 have e2:t.d*(t.a*t'.b)=t.b*(x.f*(t'.b*t.d))-t.b*(x.p*t.c*t'.b):=by
  have:t'.b*(t.a*t.d+t.c*x.p*t.b)=t'.b*(x.f*t.b*t.d):=by rw [e]
  grind
 have e3:t.d*(t'.a*t.b)=t.b*(t'.a*t.d+x.p*t.c*t'.b)-t.b*(x.p*t.c*t'.b):=by grind
 have:t.d*(t.a*t'.b)≤t.d*(t'.a*t.b):=by rw [e2,e3];lia
 exact zm this d0
theorem SH {t t':Thr}{x y x' y':G}(ot:OkT t)(ot':OkT t')(lt:x.p<y.p)(tx:t.gap x.p x.f=0)(ty:t.gap y.p y.h=0)(lt':x'.p<y'.p)(tx':t'.gap x'.p x'.f=0)(ty':t'.gap y'.p y'.h=0)
  (px:t'.pas x) (py:t'.pas y) (px':t.pas x') (py':t.pas y'):t=t':=by
 have h1:=Q2 ot ot' lt tx ty px py
 have h2:=Q2 ot' ot lt' tx' ty' px' py'
 have e:t.c*t'.d=t'.c*t.d:=by omega
 obtain ⟨ec,ed⟩:=QG ot.d0 ot'.d0 ot.g2 ot'.g2 e
 have h3:=WT ot ot' ec ed tx px
 have h4:=WT ot' ot ec.symm ed.symm tx' px'
 have e2:t.a*t'.b=t'.a*t.b:=by omega
 obtain ⟨ea,eb⟩:=QG ot.b0 ot'.b0 ot.g1 ot'.g1 e2
 cases t
 cases t'
 simp only at ea eb ec ed
 subst ea eb ec ed
 rfl
theorem VL {t:Thr}{x y x' y':G}(ot:OkT t)(tx:t.gap x.p x.f=0)(ty:t.gap y.p y.h=0)(tx':t.gap x'.p x'.f=0)(ty':t.gap y'.p y'.h=0):LeR x' y' x y:=by
 have b0:=ot.b0
 have d0:=ot.d0
 have r:∀ {u v:G},t.gap u.p u.f=0→t.gap v.p v.h=0→(v.h-u.f)*t.d=t.c*(v.p-u.p):=fun {u v} hu hv=>by
  have e1:t.gap u.p u.f=t.a*t.d+t.c*u.p*t.b-u.f*t.b*t.d:=rfl
  have e2:t.gap v.p v.h=t.a*t.d+t.c*v.p*t.b-v.h*t.b*t.d:=rfl
  have:t.b*((v.h-u.f)*t.d)=t.b*(t.c*(v.p-u.p)):=by grind
  exact Int.eq_of_mul_eq_mul_left (by lia) this
 have h1:=r tx ty
 have h2:=r tx' ty'
 unfold LeR
 have:t.d*((y'.h-x'.f)*(y.p-x.p))=t.d*((y.h-x.f)*(y'.p-x'.p)):=by grind
 exact Int.le_of_eq (Int.eq_of_mul_eq_mul_left (by lia) this)
end TG
namespace L2
open PySem
inductive Tr where
 | i (n:Int)
 | s (x:Str)
 | l (xs:List Tr)
 | t (xs:List Tr)
mutual
noncomputable def Enc (H:Hp):Tr→V→Prop
 | .i n,v=>v = .int n
 | .s x,v=>v = .str x
 | .l xs,v=>∃ p vs,v = .ref p∧H p=some (.lst vs)∧GW H xs vs
 | .t xs,v=>∃ p vs,v = .ref p∧H p=some (.tup vs)∧GW H xs vs
noncomputable def GW (H:Hp):List Tr→List V→Prop
 | [],vs=>vs=[]
 | x::xs,vs=>∃ v r,vs=v::r∧Enc H x v∧GW H xs r
end
mutual
theorem Enc.same {H H':Hp}(s:AG H H'):∀ {x:Tr} {v:V},Enc H x v→Enc H' x v
 | .i _,_,h=>h
 | .s _,_,h=>h
 | .l _,_,⟨p,vs,e,h,r⟩=>⟨p,vs,e,s.get h,GW.same s r⟩
 | .t _,_,⟨p,vs,e,h,r⟩=>⟨p,vs,e,s.get h,GW.same s r⟩
theorem GW.same {H H':Hp}(s:AG H H'):∀ {xs:List Tr} {vs:List V},GW H xs vs→GW H' xs vs
 | [],_,h=>h
 | _::_,_,⟨v,r,e,h1,h2⟩=>⟨v,r,e,Enc.same s h1,GW.same s h2⟩
end
open PySem.Spec PyProof.Rows
section
variable {X:Cx}
end
section
variable {X:Cx}
end
end L2
namespace TG
open PySem L2
noncomputable def TC (gs:List G)(x y:G):Prop:=∀ x'∈gs,∀ y'∈gs,x'.p<y'.p→LeR x' y' x y→(x.p<x'.p∨(x.p=x'.p∧y.p≤y'.p))
noncomputable def Own (gs:List G)(t:Thr):Prop:=(∀ g,gs=[g]→t=⟨g.f,1,0,1⟩)∧(2≤gs.length→OkT t∧(∀ g∈gs,t.pas g)∧∃ x∈gs,∃ y∈gs,x.p<y.p∧t.gap x.p x.f=0∧t.gap y.p y.h=0)
theorem Own.uniq {gs:List G}{t t':Thr}(h:Own gs t)(h':Own gs t')(ne:gs≠[]):t=t':=by
 match gs,ne,h,h' with
 | [g],_,h,h'=>rw [h.1 g rfl,h'.1 g rfl]
 | a::b::r,_,h,h' =>
  obtain ⟨o1,al1,x,hx,y,hy,lt,tx,ty⟩:=h.2 (by simp)
  obtain ⟨o2,al2,x',hx',y',hy',lt',tx',ty'⟩:=h'.2 (by simp)
  exact SH o1 o2 lt tx ty lt' tx' ty' (al2 x hx) (al2 y hy) (al1 x' hx') (al1 y' hy')
structure Edg (sg:List G)(t:Thr)(p q:Int):Prop where
 ok:OkT t
 all:∀ g∈sg,t.pas g
 at_:∃ x∈sg,∃ y∈sg,x.p<y.p∧t.gap x.p x.f=0∧t.gap y.p y.h=0∧TC sg x y∧p=x.p∧q=y.p
theorem Edg.uniq {sg:List G}{t t':Thr}{p q p' q':Int}(h:Edg sg t p q)(h':Edg sg t' p' q'):t=t'∧p=p'∧q=q':=by
 obtain ⟨o1,al1,x,hx,y,hy,lt,tx,ty,fp,rfl,rfl⟩:=h
 obtain ⟨o2,al2,x',hx',y',hy',lt',tx',ty',fp',rfl,rfl⟩:=h'
 cases SH o1 o2 lt tx ty lt' tx' ty' (al2 x hx) (al2 y hy) (al1 x' hx') (al1 y' hy')
 have z1:=fp x' hx' y' hy' lt' (VL o1 tx ty tx' ty')
 have z2:=fp' x hx y hy lt (VL o1 tx' ty' tx ty)
 exact ⟨rfl,by lia,by lia⟩
noncomputable abbrev trT (t:Thr):Tr:=.t [.i t.a,.i t.b,.i t.c,.i t.d]
noncomputable abbrev trB (t:List Int):Tr:=.t [.s "bar",.t (t.map Tr.i)]
inductive XT (sg:List G)(x:Tr):Prop where
 | throw (t:Thr) (ok:OkT t) (all:∀ g∈sg,t.pas g) (ow:Own sg t) (e:x = .t [.s "throw",trT t])
 | bar (t:List Int) (ne:t≠[]) (f:Bd sg t) (e:x=trB t)
theorem XT.uniq {sg:List G}{x y:Tr}(ne:sg≠[])(h:XT sg x)(h':XT sg y):x=y:=by
 rcases h with ⟨t,ok,all,ow,rfl⟩ | ⟨t,n1,f,rfl⟩<;>rcases h' with ⟨t',ok',all',ow',rfl⟩ | ⟨t',n1',f',rfl⟩
 ·rw [ow.uniq ow' ne]
 ·exact absurd (Ff ok all f') n1'
 ·exact absurd (Ff ok' all' f) n1
 ·rw [f.uniq f']
inductive TB (f:Thr→Thr)(sg hg:List G)(x:Tr):Prop where
 | throw (t:Thr) (p q:Int) (ok:OkT (f t)) (all:∀ g∈sg,(f t).pas g) (ed:Edg hg t p q) (e:x = .t [.s "throw",trT (f t),.i p,.i q])
 | bar (t:List Int) (ne:t≠[]) (f:Bd sg t) (e:x=trB t)
theorem TB.uniq {f:Thr→Thr}{sg hg:List G}{x y:Tr}(h:TB f sg hg x)(h':TB f sg hg y):x=y:=by
 rcases h with ⟨t,p,q,ok,all,ed,rfl⟩ | ⟨t,n1,f,rfl⟩<;>rcases h' with ⟨t',p',q',ok',all',ed',rfl⟩ | ⟨t',n1',f',rfl⟩
 ·obtain ⟨e1,e2,e3⟩:=ed.uniq ed'
  rw [e1,e2,e3]
 ·exact absurd (Ff ok all f') n1'
 ·exact absurd (Ff ok' all' f) n1
 ·rw [f.uniq f']
noncomputable abbrev UU (rs:List Run):Prop:=∀ r∈rs,Own r.all r.t
theorem SG {t:Thr}{gs:List G}(ha:Asc gs)(ot:OkT t)(all:∀ g∈gs,t.pas g):Bh gs:=fun i j k hb=>by
 obtain ⟨h1,h2,a,b,c,e1,e2,e3,hb⟩:=hb
 have l1:=Bk ha e1 e2 h1
 have l2:=Bk ha e2 e3 h2
 have p1:=FA.mp (all a (zW e1))
 have p2:=FA.mp (all b (zW e2))
 have p3:=FA.mp (all c (zW e3))
 exact JB l1 l2 (Int.mul_pos ot.b0 ot.d0) hb p1 p2 p3
theorem Asc.left {xs ys:List G}(h:Asc (xs++ys)):Asc xs:=(List.pairwise_append.mp h).1
theorem Bh.prefix {x y:List G}(h:Bh (x++y)):Bh x:=Bh.infix (x:=[]) (z:=y) h
theorem VJ {r r':Run}{rest:List Run}{u:List G}(far:Far (r::rest))(e:r.all++rest.flatMap Run.all=r'.all++u)(nb:Bh r'.all):r'.all.length≤r.all.length:=by
 apply Classical.byContradiction
 intro hl
 match rest,far,e with
 | [],_,e =>
  have:=congrArg List.length e
  simp only [List.flatMap_nil,qS,zD] at this
  lia
 | r2::rest,far,e =>
  have hf:=far.1
  have e2:r.all++[r2.g]++(r2.rest++rest.flatMap Run.all)=r'.all++u:=by rw [← e,qR];simp
  have e3:r'.all=r.all++[r2.g]++r'.all.drop (r.all++[r2.g]).length:=by
   have l1:(r.all++[r2.g]).length≤r'.all.length:=by rw [zD];simp only [zB,zG] at hl ⊢;lia
   have t1:r'.all.take (r.all++[r2.g]).length=r.all++[r2.g]:=by
    have:=congrArg (List.take (r.all++[r2.g]).length) e2
    rw [List.take_left,List.take_append_of_le_length l1] at this
    exact this.symm
   conv=>lhs;rw [← List.take_append_drop (r.all++[r2.g]).length r'.all,t1]
  rw [e3] at nb
  exact hf (Bh.prefix nb)
theorem SF:∀ {rs rs':List Run},Asc (rs.flatMap Run.all)→rs.flatMap Run.all=rs'.flatMap Run.all→Far rs→Far rs'→UU rs→UU rs'→(∀ r∈rs,OkT r.t∧∀ g∈r.all,r.t.pas g)→(∀ r∈rs',OkT r.t∧∀ g∈r.all,r.t.pas g)→rs=rs'
 | [],[],_,_,_,_,_,_,_,_=>rfl
 | [],r'::rs',_,e,_,_,_,_,_,_=>by simp [Run.all] at e
 | r::rs,[],_,e,_,_,_,_,_,_=>by simp [Run.all] at e
 | r::rs,r'::rs',ha,e,f,f',o,o',p,p'=>by
  rw [qR] at ha
  have ha':Asc (r'.all++rs'.flatMap Run.all):=by rw [← qR,← e,qR];exact ha
  rw [qR,qR] at e
  obtain ⟨ot,al⟩:=p r zP
  obtain ⟨ot',al'⟩:=p' r' zP
  have n1:=SG (Asc.left ha) ot al
  have n2:=SG (Asc.left ha') ot' al'
  have l1:=VJ f e n2
  have l2:=VJ f' e.symm n1
  obtain ⟨e1,e2⟩:=List.append_inj e (by lia)
  have et:r.t=r'.t:=(o r zP).uniq (e1▸o' r' zP) (by simp [Run.all])
  have er:r=r':=by
   cases r;cases r'
   simp only [Run.all,qH] at e1
   obtain ⟨a,b⟩:=e1
   simp only at et
   subst a b et
   rfl
  have fr:∀ {a:Run} {l:List Run},Far (a::l)→Far l:=fun {a l} h=>by
   cases l with
   | nil=>trivial
   | cons _ _=>exact h.2
  rw [er,SF (Asc.right ha) e2 (fr f) (fr f') (fun r hr=>o r (zK _ hr)) (fun r hr=>o' r (zK _ hr)) (fun r hr=>p r (zK _ hr)) (fun r hr=>p' r (zK _ hr))]
theorem FD.uniq {t b x y x' y':Int}(hb:b≠0)(h:FD t b x y)(h':FD t b x' y'):x=x'∧y=y':=by
 have e1:=h.eq
 have e2:=h'.eq
 refine QG h.pos h'.pos h.one h'.one ?_
 have:b*(x*y')=b*(x'*y):=by
  have z1:b*(x*y')=(b*x)*y':=by rw [Int.mul_assoc]
  have z2:b*(x'*y)=(b*x')*y:=by rw [Int.mul_assoc]
  rw [z1,z2,← e1,← e2,Int.mul_assoc,Int.mul_assoc,Int.mul_comm y y']
 exact Int.eq_of_mul_eq_mul_left hb this
noncomputable def SC (x y:G)(t:Thr):Prop:=FD (x.f*(y.p-x.p)-x.p*(y.h-x.f)) (y.p-x.p) t.a t.b∧FD (y.h-x.f) (y.p-x.p) t.c t.d
theorem SC.uniq {x y:G}{t t':Thr}(lt:x.p<y.p)(h:SC x y t)(h':SC x y t'):t=t':=by
 obtain ⟨e1,e2⟩:=h.1.uniq (by lia) h'.1
 obtain ⟨e3,e4⟩:=h.2.uniq (by lia) h'.2
 cases t;cases t'
 simp only at e1 e2 e3 e4
 subst e1 e2 e3 e4
 rfl
instance:Nonempty Thr:=⟨⟨0,0,0,0⟩⟩
noncomputable def Wk (x y:G):Thr:=Classical.epsilon (SC x y)
theorem YD {x y:G}{t:Thr}(lt:x.p<y.p)(h:SC x y t):t=Wk x y:=h.uniq lt (Classical.epsilon_spec ⟨t,h⟩)
noncomputable def Oy (gs:List G)(i j:Nat):List Thr:=(List.range i).flatMap (fun a=>(gs.drop (a+1)).map (Wk (gs.getD a ⟨0,0,0⟩)))++((gs.drop (i+1)).take j).map (Wk (gs.getD i ⟨0,0,0⟩))
theorem XW (gs:List G)(i:Nat):Oy gs i (gs.drop (i+1)).length=Oy gs (i+1) 0:=by
 unfold Oy
 rw [zj,List.range_succ,List.flatMap_append,List.take_zero]
 simp
theorem Vm {gs:List G}{i j:Nat}{x y:G}(hx:gs[i]? = some x)(hy:gs[i+1+j]? = some y):Oy gs i (j+1)=Oy gs i j++[Wk x y]:=by
 unfold Oy
 have hj:j<(gs.drop (i+1)).length:=by
  have:=(zC.mp hy).1
  rw [zo];lia
 have e:(gs.drop (i+1))[j]=y:=by
  have:=z9 hj
  rw [List.getElem?_drop,hy] at this
  exact (zV this).symm
 rw [zS hj,e,zc,← zx]
 have:gs.getD i ⟨0,0,0⟩=x:=by rw [zR,hx];rfl
 rw [this];rfl
noncomputable def S5 (gs:List G):List Thr:=⟨(gs.getD 0 ⟨0,0,0⟩).f,1,0,1⟩::Oy gs gs.length 0
theorem GW.ints (H:Hp):∀ xs:List Int,GW H (xs.map Tr.i) (xs.map V.int)
 | []=>rfl
 | _::xs=>⟨_,_,rfl,rfl,GW.ints H xs⟩
theorem ji {H:Hp}{q:Addr}{t:Thr}(e:H q=some (.tup t.vs)):Enc H (trT t) (.ref q):=⟨q,_,rfl,e,GW.ints H [t.a,t.b,t.c,t.d]⟩
theorem gX {H:Hp}{D q:Addr}{t:List Int}(e:H D=some (.tup [.str "bar",.ref q]))(e2:H q=some (.tup (t.map V.int))):Enc H (trB t) (.ref D):=⟨D,_,rfl,e,_,_,rfl,rfl,_,_,rfl,⟨q,_,rfl,e2,GW.ints H t⟩,rfl⟩
noncomputable def WD (rs:List Run):Prop:=Far rs∧UU rs
theorem XV {rs:List Run}{r r':Run}(h:WD (rs++[r]))(nb:¬ Bh (r.all++[r'.g]))(o:Own r'.all r'.t):WD (rs++[r]++[r']):=
 ⟨VH h.1 nb,fun x hx=>by
  rcases zb.mp hx with z | z
  ·exact h.2 x z
  ·rw [zI.mp z];exact o⟩
theorem Xh {rs:List Run}{r r':Run}(h:WD (rs++[r]))(e:r.g=r'.g)(o:Own r'.all r'.t):WD (rs++[r']):=
 ⟨UL h.1 e,fun x hx=>by
  rcases zb.mp hx with z | z
  ·exact h.2 x (qD _ z)
  ·rw [zI.mp z];exact o⟩
theorem YR {r:Run}(o:Own r.all r.t):WD ([]++[r]):=⟨trivial,fun x hx=>by rw [zI.mp hx];exact o⟩
structure ZC (H':Hp)(R S L:Addr)(as1:List Addr)(sg:List G)(ra:List Addr)(rs:List Run)(bs:List Addr)(cur:List G)(tv:V)(i:Nat):Prop where
 eR:H' R=some (.lst (ra.map V.ref))
 at_:Paired (Hm H') ra rs
 eL:H' L=some (.lst (bs.map V.ref))
 gb:Am H' bs cur
 neL:L≠R
 eS:H' S=some (.lst (as1.map V.ref))
 gS:Am H' as1 sg
 neS:S≠R
 sp:rs.flatMap Run.all++cur=sg.take i
 th:(cur=[]∧rs=[]∧i=0)∨∃ q t g rest,tv = .ref q∧H' q=some (.tup t.vs)∧OkT t∧(∀ x∈cur,t.pas x)∧cur=g::rest∧WD (rs++[⟨g,rest,t⟩])
theorem ZC.same {H H':Hp}{R S L:Addr}{as1:List Addr}{sg:List G}{ra:List Addr}{rs:List Run}{bs:List Addr}{cur:List G}{tv:V}{i:Nat}(h:ZC H R S L as1 sg ra rs bs cur tv i)(s:AG H H'):ZC H' R S L as1 sg ra rs bs cur tv i:=
 ⟨s.get h.eR,Paired.mapP h.at_ fun _ _ e=>e.same s,s.get h.eL,h.gb.same s,h.neL,s.get h.eS,h.gS.same s,h.neS,h.sp,h.th.imp_right fun ⟨q,t,g,rest,e1,e2,e3⟩=>⟨q,t,g,rest,e1,s.get e2,e3⟩⟩
noncomputable def tri (gs:List G)(i j:Nat):List Thr:=⟨(gs.getD 0 ⟨0,0,0⟩).f,1,0,1⟩::Oy gs i j
theorem Xn {gs:List G}{t:Thr}(h:0<gs.length)(o:Own (gs.take 1) t):[t]=tri gs 0 0:=by
 match gs,h,o with
 | g::r,_,o=>rw [o.1 g rfl];rfl
theorem Zz (gs:List G)(i:Nat):tri gs i (gs.drop (i+1)).length=tri gs (i+1) 0:=by unfold tri;rw [XW]
theorem ZR {gs:List G}{i j:Nat}{x y:G}{t:Thr}{ts:List Thr}(e:ts=tri gs i j)(hx:gs[i]? = some x)(hy:gs[i+1+j]? = some y)(lt:x.p<y.p)(h:SC x y t):ts++[t]=tri gs i (j+1):=by
 unfold tri at *
 rw [Vm hx hy,e,YD lt h];rfl
theorem aN (gs:List G):tri gs gs.length 0=S5 gs:=rfl
noncomputable def Ox (sg:List G)(t:Thr):Prop:=∃ i:Nat,(S5 sg)[i]? = some t∧∀ (j:Nat) (t':Thr),(S5 sg)[j]? = some t'→Tn sg t'≤Tn sg t∧(j<i→Tn sg t'<Tn sg t)
theorem MX {xs ys gs:List G}(h1:xs.Perm gs)(a1:Asc xs)(h2:ys.Perm gs)(a2:Asc ys):xs=ys:=BO a1 a2 (h1.trans h2.symm)
end TG
namespace L2
theorem SqL.sameT {K:PySem.W.Frag}{T a:PySem.Addr}{H H':Hp}{xs:List V}{pos:PySem.Pos}{qual:PySem.Str}(s:TG.CU T H H')(tb:LM.Tbl H T pos qual)(h:SqL K H a xs):SqL K H' a xs:=by
 rcases h with (h | ⟨o,h⟩) | h
 ·exact .inl (.inl (s.get tb h (fun _ z=>nomatch z)))
 ·exact .inl (.inr ⟨o,s.get tb h (fun _ z=>nomatch z)⟩)
 ·exact .inr h
open PySem PySem.Spec PyProof.Rows
structure VY (P:Params)(K:W.Frag)(mg:Str→Option Value)(R:Addr)(fs:List (Str×Str)):Prop where
 look:∃ es n,K.lookup R=some ⟨.type "dict",none,.dict es n,#[]⟩∧W.KeysLit P es.toList∧∀ x,findBy Value.isStrOf es x=(fs.lookup x).bind mg
 low:(R == sysModules)=false
noncomputable def bB (mg:Str→Option Value)(fs:List (Str×Str))(ty:TE):TE:=fun σ H Q=>ty σ H fun y H1=>∃ x,y = .str x∧match fs.lookup x with
 | none=>Q .non H1
 | some n=>∃ f,mg n=some (.ref f)∧Q (.ref f) H1
section
variable {X:Cx} {x:Str} {R:Addr} {fs:List (Str×Str)} {e:Expr} {ty:TE} {p apos cpos:Pos}
theorem aR (q:VY X.w.params X.K X.mg R fs)(hg:Gl X x)(hm:X.mg x=some (.ref R))(he:PE X e ty)(m:M1 X (.Name x p) "get" apos e cpos)(hd:(x == ("__debug__":Str))=false:=by decide) :
  PE X (.Call (.Attribute (.Name x p) "get" apos) [e] [] cpos) (bB X.mg fs ty):=by
 intro pins s σ H Q I h
 obtain ⟨es,n,hl,hk,hf⟩:=q.look
 refine wpAny_Call_method m.base m.few m.line PySem.F.plainAttrs_dict PySem.F.slot_dict_get PySem.F.type_dict_get (HM I hg hm ?_ hd)
 refine ⟨(W.mapOf_K (prog:=X.prog) I.kIn hl hk).typeIs,fun b z=>?_,?_⟩
 ·cases z;exact ⟨_,I.kIn _ _ hl,rfl⟩
 rw [m.trees]
 refine Calls.callWith_builtin rfl (Calls.evalArgs_plain (Calls.spliced_cons (thn (he pins s σ H _ I h) fun iv s2 ⟨y,H2,I2,ry,x',ex,q2⟩=>Calls.spliced_nil ?_)))
 subst ex
 obtain ⟨t,rfl⟩:=ry
 have hm2:=W.mapOf_K (prog:=X.prog) I2.kIn hl hk
 refine call_meetsIn PySem.F.slot_dict_get hm2.typeIs PySem.F.entry_dict_get (PySem.F.args_dict_get_2 _ _) (meets_dict_get (strKind X.prog X.w) R (strKind_is X.prog X.w x' t) q.low) ⟨_,hm2,?_⟩
 show EP X pins σ Q ((findBy Value.isStrOf es x').getD .none) _
 rw [hf]
 cases hz:fs.lookup x' with
 | none =>
  rw [hz] at q2
  exact ⟨.non,H2,I2.tok _,rfl,q2⟩
 | some nm =>
  rw [hz] at q2
  obtain ⟨f,h1,h2⟩:=q2
  refine ⟨.ref f,H2,I2.tok _,?_,h2⟩
  rw [show (some nm).bind X.mg=X.mg nm from rfl,h1]
  exact rfl
end
noncomputable def VO (tab:List (Addr×Sp))(E:XK)(tv:TE)(t:TA):TE:=fun σ H Q=>tv σ H fun v H1=>∃ p,p∈tab∧v = .ref p.1∧t σ H1 fun vs H2=>p.2 vs H2 Q E
structure SQ (P:Program)(w:World)(K:W.Frag)(mg:Str→Option Value)(base:Heap)(CX:CXT)(k:Nat)(tab:List (Addr×Sp)):Prop where
 all:∀ p∈tab,∃ fd ps,Aa P w K mg base CX k p.1 fd ps p.2∧W.keepIn K (.ref p.1)=true∧Binds K fd ps []
theorem SQ.nil {P:Program}{w:World}{K:W.Frag}{mg:Str→Option Value}{base:Heap}{CX:CXT}{k:Nat}:SQ P w K mg base CX k []:=⟨fun _ h=>absurd h (by simp)⟩
theorem SQ.cons {P:Program}{w:World}{K:W.Frag}{mg:Str→Option Value}{base:Heap}{CX:CXT}{j k:Nat}{tab:List (Addr×Sp)}{x:Str}{st:Stmt}{ps:List Str}{f:Addr}{fd:FuncData}{sp:Sp}(d:D K mg x st ps f fd)(F:Aa P w K mg base CX j f fd ps sp)(h:SQ P w K mg base CX k tab)(hj:j≤k:=by decide):SQ P w K mg base CX k ((f,sp)::tab):=⟨fun p hp=>by
 rcases zF.mp hp with rfl | hp
 ·exact ⟨fd,ps,F.mono hj,d.F.kp,d.b⟩
 ·exact h.all p hp⟩
section
variable {X:Cx} {CX:CXT} {k:Nat} {E:XK} {x:Str} {p pos:Pos} {e:Expr} {es:List Expr} {tv:TE} {t:TA} {tab:List (Addr×Sp)}
theorem Yo (hT:SQ X.prog X.w X.K X.mg X.base CX k tab)(hr:CT k X.A)(hx:E4 CX X E)(hv:PE X (.Name x p) tv)(ha:PA X (e::es) t)
  (he:starEach (e::es) X.env=(false,eval e X.env)::starEach es X.env:=by rfl) (hpl:(backTo pos (starEach es X.env)).any (·.1)=false:=by rfl) :
  PE X (.Call (.Name x p) (e::es) [] pos) (VO tab E tv t):=by
 intro pins s σ H Q I h
 refine wpAny_Call_Name_kw (thn (hv pins s σ H _ I h) fun u s0 zq=>?_)
 obtain ⟨v,H0,I0,r0,pr,hm,ev,q0⟩:=zq
 subst ev
 obtain rfl:u=Value.ref pr.1:=r0
 obtain ⟨fd,ps,F,hk,hb⟩:=hT.all pr hm
 refine W.callWith_K (h₀:=X.base) I0.ok.mod.kin hk (thn (ha pos pins s0 σ H0 _ I0 q0) fun us s1 ⟨vs,H1,I1,r,q⟩=>⟨I1.kIn,?_⟩) he hpl
 exact TN F hr hb .nil hx I1 r (by rw [qS];exact q)
end
end L2
namespace TG
open PySem PySem.W PySem.Calls L2
theorem Za {p q:Program}{loose:List Str}{β:Type}{Yf:Shared→β}{obs:SharedT→β}{v:World→β}{N M:Nat}
  (e:opening p=plainProg p.main.scope.names) (hN:Nat.ble 600 N=true) (f:∀ s,fenceModules? p s=some s) (le:Nat.ble M N=true) (hY:∀ s:SharedT,Yf s.abs=obs s)
  (run:∀ (w:World) (os:OsState),Na p q loose obs M w os=some (true,openGood q loose,v w)):LeftO p q loose (fun _=>true) Yf v N:=fun w=>by
 have open_:=boot_open e hN f w
 obtain ⟨⟨h,gs,d,k,os⟩,e1,e2⟩:=zi.mp open_
 obtain ⟨rfl,rfl,rfl,rfl⟩:h=boot_heap w.params∧gs=#[]∧d=boot_drawn∧k=boot_toks:=by simpa using e2
 obtain ⟨z1,z2,z3⟩:_∧_∧_:=by simpa only [Prod.mk.injEq] using XO w.params
 obtain ⟨sT,r0,l0⟩:=zi.mp (run w os)
 obtain ⟨l1,l2,l3⟩:_∧_∧_:=by simpa only [ZL,Prod.mk.injEq] using l0
 have r1:=Qp r0
 rw [Xk] at r1
 have r:=topRun_mono (N-M) _ _ _ _ r1
 rw [show M+(N-M)=N by have:=Nat.le_of_ble_eq_true le;lia] at r
 have t:topFrom treeTable p w N ⟨boot_heap w.params,#[],boot_drawn,boot_toks,os⟩=some sT.abs:=by
  unfold topFrom
  dsimp only
  rw [z1,z2,z3,r]
  show (match staticsOk (importedModules p.main.body) (boot_heap w.params) sT.abs.heap && namesBound p sT.abs.heap && gensDone sT.abs && laidKept (boot_heap w.params) sT.abs.heap with | true=>_ | false=>_)=_
  rw [l1]
 unfold openEnds
 rw [e1]
 show (topFrom treeTable p w N _).map _=_
 rw [t]
 exact congrArg some (Prod.ext l2 ((hY sT).trans l3))
noncomputable def rowsOf (K:Frag)(x:Str):List DictEntry:=match nsIn K mainGlobals x with
 | some (some (.ref R))=>match K.lookup R with
  | some ⟨c,none,.dict es _,sl⟩=>match c == .type "dict" && sl.size == 0 && !(R == sysModules) with
   | true=>es.toList
   | false=>[]
  | _=>[]
 | _=>[]
noncomputable def bF (K:Frag)(d:DictEntry)(f:Str×Str):Bool:=d.key.isStr f.1 && nsIn K mainGlobals f.2 == some (some d.val)
noncomputable def Wx (K:Frag):List DictEntry→List (Str×Str)→Bool
 | [],[]=>true
 | d::r,f::fs=>bF K d f && Wx K r fs
 | _,_=>false
noncomputable def jS (K:Frag)(x:Str)(fs:List (Str×Str)):Bool:=Wx K (rowsOf K x) fs
noncomputable def QR (K:Frag)(x:Str):List Int:=(rowsOf K x).map (·.hash)
theorem UQ {P:Params}{K:Frag}{h:Heap}{mg:Str→Option Value}(X:K.In h)(G:h.Ns mainGlobals mg):∀ {es:List DictEntry} {fs:List (Str×Str)},Wx K es fs=true→es.map (·.hash)=fs.map (fun f=>PyData.keyHash P f.1) →
  KeysLit P es∧∀ x,(es.find? fun d=>Value.isStrOf x d.key).map (·.val)=(fs.lookup x).bind mg
 | [],[],_,_=>⟨trivial,fun _=>rfl⟩
 | d::r,f::fs,e,eh=>by
  unfold Wx bF at e
  simp only [qG,beq_iff_eq] at e
  obtain ⟨⟨e1,e2⟩,e3⟩:=e
  rw [zU,zU] at eh
  obtain ⟨h1,h2⟩:=List.cons.inj eh
  obtain ⟨k1,k2⟩:=UQ X G e3 h2
  rw [isStr_of] at e1
  obtain ⟨t,et⟩:=Value.isStrOf_shape e1
  refine ⟨⟨⟨f.1,t,et,h1⟩,k1⟩,fun x=>?_⟩
  rw [qb]
  obtain ⟨fk,fv⟩:=f
  dsimp only at et e2 e1
  by_cases hx:x=fk
  ·subst hx
   rw [e1,List.lookup_cons_self]
   show some d.val=mg fv
   exact (mg_of X G e2).symm
  ·have n:Value.isStrOf x d.key=false:=by
    rw [et]
    exact beq_eq_false_iff_ne.mpr fun z=>hx (by first | exact z | exact z.symm)
   rw [n,List.lookup_cons,show (x == fk)=false from beq_eq_false_iff_ne.mpr hx]
   exact k2 x
 | [],_::_,e,_=>by cases e
 | _::_,[],e,_=>by cases e
theorem aJ {P:Params}{K:Frag}{h:Heap}{mg:Str→Option Value}{x:Str}{f:Str×Str}{fs:List (Str×Str)}(X:K.In h)(G:h.Ns mainGlobals mg)(e:jS K x (f::fs)=true)(eh:QR K x=(f::fs).map (fun f=>PyData.keyHash P f.1)) :
  ∃ R,mg x=some (.ref R)∧VY P K mg R (f::fs):=by
 unfold jS at e
 unfold QR at eh
 obtain ⟨h1,h2⟩:=UQ X G e eh
 generalize hr:rowsOf K x=es at *
 unfold rowsOf at hr
 split at hr
 ·rename_i R hR
  split at hr
  ·rename_i c es0 n sl hl
   split at hr
   ·rename_i hc
    simp only [qG,beq_iff_eq,Bool.not_eq_true'] at hc
    obtain ⟨⟨rfl,hs⟩,hlow⟩:=hc
    obtain rfl:sl=#[]:=Array.eq_empty_of_size_eq_zero hs
    subst hr
    refine ⟨R,mg_of X G hR,⟨⟨es0,n,hl,h1,fun y=>?_⟩,hlow⟩⟩
    rw [← h2 y]
    unfold findBy
    rw [← Array.find?_toList]
   ·subst hr;cases e
  ·subst hr;cases e
 ·subst hr;cases e
end TG
namespace L2
open PySem PySem.Spec PyProof.Rows
noncomputable def bH (a:Str)(te:TE):TE:=fun σ H Q=>te σ H fun v H1=>∃ n,v = .int n∧n.natAbs.log2<1920∧a.length+(Str.ofString (toString n)).length≤sizeLine∧Q (.str (a++Str.ofString (toString n))) H1
theorem aU {X:Cx}{a:Str}{e:Expr}{te:TE}{j:Nat}{p1 p2 p3:Pos}(he:PE X e te)(ha:a.length≤sizeLine:=by decide +kernel):PE X (.JoinedStr [.Constant (.str a) j p1,.FormattedValue e (-1) none p2] p3) (bH a te):=by
 intro pins s σ H Q I h
 refine wpAny_JoinedStr ?_
 show Joins _ _ _ [eval _ X.env,eval _ X.env] _ _ _
 have e1:Str.empty++a=a:=by
  obtain ⟨a⟩:=a
  show Str.mk (#[]++a)=_
  rw [Array.empty_append]
 refine Calls.Constant_str ⟨a,_,rfl,?_,?_⟩
 ·rw [e1];exact ha
 ·rw [e1]
  refine wpAny_FormattedValue_plain (thn (he pins _ σ H _ (I.tok _) h) fun u s1 zq=>?_)
  obtain ⟨v,H1,I1,r1,n,ev,hn,hz,q⟩:=zq
  subst ev
  obtain ⟨t,rfl⟩:=r1
  have hl:(a++Str.ofString (toString n)).length≤sizeLine:=by rw [strLen_append];exact hz
  exact wpAny_formatField_int hn ⟨_,_,rfl,hl,hl,⟨.str _,H1,I1.tok _,⟨_,rfl⟩,q⟩⟩
end L2
namespace TG
open PySem L2
noncomputable def HE {α:Type}(f:Nat→α)(i:Nat)(x:α):Nat→α:=fun j=>if j=i then x else f j
theorem CP {α:Type}{f:Nat→α}{i:Nat}{x:α}:HE f i x i=x:=if_pos rfl
theorem BW {α:Type}{f:Nat→α}{i j:Nat}{x:α}(h:j≠i):HE f i x j=f j:=if_neg h
structure Fam (C:Addr)(H:Hp)(n:Nat)(b S P:Nat→Addr)(ow:Nat→List Addr)(gs:Nat→List G)(past:Nat→List (List G)):Prop where
 bch:∀ i,i<n→Bch C H (b i) (S i) (P i) (ow i) (gs i) (past i)
 ne:∀ i j,i<n→j<n→i≠j→b i≠b j∧∀ a∈ow i,a∉ow j
section
variable {C:Addr} {H H':Hp} {n:Nat} {b S P:Nat→Addr} {ow:Nat→List Addr} {gs:Nat→List G} {past:Nat→List (List G)}
theorem Fam.same (h:Fam C H n b S P ow gs past)(s:AG H H'):Fam C H' n b S P ow gs past:=⟨fun i hi=>(h.bch i hi).same s,h.ne⟩
noncomputable def Yc (n:Nat)(ow:Nat→List Addr)(a:Addr)(u:HO):Prop:=(∃ o v,u = .frz o v)∨(∃ xs,u = .tup xs)∨(∃ C dx x,u = .ins C dx [("beach",x)])∨((∃ xs,u = .lst xs)∧∀ i,i<n→a∉ow i)
theorem Fam.out (h:Fam C H n b S P ow gs past){i:Nat}(hi:i<n){a:Addr}{u:HO}(e:H a=some u)(f:Yc n ow a u):a≠b i∧a≠P i:=by
 obtain ⟨dx,eb⟩:=(h.bch i hi).at_
 have hp:=(h.bch i hi).po
 obtain ⟨ps,ep,_⟩:=(h.bch i hi).pa
 rcases f with ⟨o,v,rfl⟩ | ⟨xs,rfl⟩ | ⟨C',dx',x,rfl⟩ | ⟨⟨xs,rfl⟩,o⟩
 ·exact ⟨fun z=>(by rw [z,eb] at e;cases e),fun z=>by rw [z,ep] at e;cases e⟩
 ·exact ⟨fun z=>(by rw [z,eb] at e;cases e),fun z=>by rw [z,ep] at e;cases e⟩
 ·exact ⟨fun z=>(by rw [z,eb] at e;cases e),fun z=>by rw [z,ep] at e;cases e⟩
 ·exact ⟨fun z=>(by rw [z,eb] at e;cases e),fun z=>o i hi (z▸hp)⟩
theorem Fam.get (h:Fam C H n b S P ow gs past){i:Nat}(hi:i<n)(k:Kp (b i) (P i) H H'){a:Addr}{u:HO}(e:H a=some u)(f:Yc n ow a u):H' a=some u:=by
 obtain ⟨h1,h2⟩:=h.out hi e f
 exact k a u h1 h2 e
theorem Fam.far {i:Nat}{ow':List Addr}{H:Hp}(ho:∀ a∈ow',a∈ow i∨H a=none)(hi:i<n){a:Addr}{u:HO}(e:H a=some u)(f:Yc n ow a u):Yc n (HE ow i ow') a u:=by
 rcases f with f | f | f | ⟨f,o⟩
 ·exact .inl f
 ·exact .inr (.inl f)
 ·exact .inr (.inr (.inl f))
 ·refine .inr (.inr (.inr ⟨f,fun j hj z=>?_⟩))
  by_cases q:j=i
  ·subst q
   rw [CP] at z
   rcases ho a z with z | z
   ·exact o _ hi z
   ·rw [e] at z;cases z
  ·rw [BW q] at z;exact o j hj z
theorem Fam.step (h:Fam C H n b S P ow gs past){i:Nat}(hi:i<n)(k:Kp (b i) (P i) H H'){S' P':Addr}{ow':List Addr}{gs':List G}{past':List (List G)}(hb:Bch C H' (b i) S' P' ow' gs' past')(ho:∀ a∈ow',a∈ow i∨H a=none) :
  Fam C H' n b (HE S i S') (HE P i P') (HE ow i ow') (HE gs i gs') (HE past i past'):=by
 have al:∀ j,j<n→∀ a∈ow j,∃ xs,H a=some (.lst xs):=fun j hj=>(h.bch j hj).lv
 refine ⟨fun j hj=>?_,fun j l hj hl jl=>⟨(h.ne j l hj hl jl).1,fun a ha z=>?_⟩⟩
 ·by_cases q:j=i
  ·subst q
   simp only [CP]
   exact hb
  ·simp only [BW q]
   obtain ⟨d1,d2⟩:=h.ne j i hj hi q
   refine (h.bch j hj).keep fun a u hc e=>?_
   have ip:=(h.bch i hi).po
   rcases hc with rfl | hc | ⟨xs,rfl⟩
   ·obtain ⟨dx,eb⟩:=(h.bch j hj).at_
    refine k _ _ d1 (fun z=>?_) e
    obtain ⟨ps,ep,_⟩:=(h.bch i hi).pa
    rw [← z,eb] at ep;cases ep
   ·refine k _ _ (fun z=>?_) (fun z=>d2 a hc (z▸ip)) e
    obtain ⟨xs,e1⟩:=al j hj a hc
    obtain ⟨dx,eb⟩:=(h.bch i hi).at_
    rw [z,eb] at e1;cases e1
   ·obtain ⟨h1,h2⟩:=h.out hi e (.inr (.inl ⟨xs,rfl⟩))
    exact k _ _ h1 h2 e
 ·by_cases q:j=i
  ·subst q
   rw [CP] at ha
   rw [BW (fun z=>jl z.symm)] at z
   rcases ho a ha with w | w
   ·exact (h.ne j l hj hl jl).2 a w z
   ·obtain ⟨xs,e1⟩:=al l hl a z
    rw [w] at e1;cases e1
  ·rw [BW q] at ha
   by_cases q2:l=i
   ·subst q2
    rw [CP] at z
    rcases ho a z with w | w
    ·exact (h.ne j l hj hl jl).2 a ha w
    ·obtain ⟨xs,e1⟩:=al j hj a ha
     rw [w] at e1;cases e1
   ·rw [BW q2] at z
    exact (h.ne j l hj hl jl).2 a ha z
end
end TG
namespace L2
open PySem PySem.Spec PyProof.Rows
section
variable {X:Cx} {o e:Expr} {es:List Expr} {to:TE} {t:TA} {name:Str} {apos cpos:Pos} {T id:String} {r:V→List V→Hp→VK→Prop}
theorem fV {K:W.Frag}(hK:X.K=K)(pa:PlainAttrs T)(slot:Slot T name id)(hty:typeOf (.builtin id)=pure (.type "method_descriptor"))(hm:MtR X id r)(ho:PE X o to)(ha:PA X (e::es) t)
  (hbase:attributeBase o name X.env (eval o X.env)=eval o X.env:=by rfl)
  (hfew:((backTo cpos (starEach (e::es) X.env)).all (fun x=>!x.1) && (backToKw cpos (keywordEach [] X.env)).all (fun x=>x.1.isSome)
   && decide ((e::es).length+([]:List Keyword).length+(if ([]:List Keyword).isEmpty then 0 else 1)<30))=true:=by rfl)
  (hline:(apos.endLine == cpos.line)=true:=by rfl) (hs:starEach (e::es) X.env=(false,eval e X.env)::starEach es X.env:=by rfl) (hplain:(backTo cpos (starEach es X.env)).any (·.1)=false:=by rfl) :
  PE X (.Call (.Attribute o name apos) (e::es) [] cpos) (tBM K T r to t):=by subst hK;exact CY pa slot hty hm ho ha hbase hfew hline hs hplain
end
end L2
namespace TG
open PySem L2
theorem Wc:∀ (l:List Nat) (a:Nat),(∀ c∈l,48≤c∧c≤57)→l.foldl (fun acc c=>acc*10+(c-48)) a+1≤(a+1)*10 ^ l.length
 | [],a,_=>by simp
 | c::r,a,h=>by
  have h1:=h c zP
  have h2:=Wc r (a*10+(c-48)) fun x hx=>h x (zK _ hx)
  rw [List.foldl_cons,zB]
  refine zO h2 ?_
  rw [Nat.pow_succ,Nat.mul_comm (10 ^ r.length) 10,← Nat.mul_assoc]
  exact Nat.mul_le_mul_right _ (by lia)
theorem num9 {w:List Nat}{n:Int}(h:rdN w=some n):n.natAbs≤999999999:=by
 unfold rdN at h
 split at h
 ·cases h;decide
 ·split at h
  ·rename_i h1
   cases h
   obtain ⟨h1,h2,h3,h4⟩:=h1
   have h5:=Wc _ 0 h3
   have h6:10 ^ (bare w).length≤10 ^ 9:=Nat.pow_le_pow_right (by decide) h2
   have h7:NumText.digitsVal (bare w)+1≤10 ^ (bare w).length:=by
    rw [Nat.zero_add,Nat.one_mul] at h5;exact h5
   split<;>lia
  ·cases h
section
variable {C:Addr} {H H':Hp} {n:Nat} {b S P:Nat→Addr} {ow:Nat→List Addr} {gs:Nat→List G} {past:Nat→List (List G)}
theorem Fam.nil {C:Addr}{H:Hp}:Fam C H 0 (fun _=>0) (fun _=>0) (fun _=>0) (fun _=>[]) (fun _=>[]) (fun _=>[]):=⟨fun i h=>absurd h (Nat.not_lt_zero i),fun i _ h=>absurd h (Nat.not_lt_zero i)⟩
theorem Fam.push (h:Fam C H n b S P ow gs past)(s:AG H H'){B S1 P1:Addr}(nB:H B=none)(nS:H S1=none)(nP:H P1=none)(hb:Bch C H' B S1 P1 [S1,P1] [] []) :
  Fam C H' (n+1) (HE b n B) (HE S n S1) (HE P n P1) (HE ow n [S1,P1]) (HE gs n []) (HE past n []):=by
 have off:∀ j,j<n→∀ a,(a=S1∨a=P1)→a∉ow j:=fun j hj a ha z=>by
  obtain ⟨xs,e⟩:=(h.bch j hj).lv a z
  rcases ha with rfl | rfl
  ·rw [nS] at e;cases e
  ·rw [nP] at e;cases e
 have ofb:∀ j,j<n→b j≠B:=fun j hj z=>by
  obtain ⟨dx,e⟩:=(h.bch j hj).at_
  rw [z,nB] at e;cases e
 refine ⟨fun i hi=>?_,fun i j hi hj ij=>?_⟩
 ·by_cases q:i=n
  ·subst q
   simp only [CP]
   exact hb
  ·simp only [BW q]
   exact (h.bch i (by lia)).same s
 ·by_cases q:i=n
  ·subst q
   rw [CP,CP,BW (fun z=>ij z.symm),BW (fun z=>ij z.symm)]
   refine ⟨fun z=>ofb j (by lia) z.symm,fun a ha=>off j (by lia) a ?_⟩
   simpa using ha
  ·rw [BW q,BW q]
   by_cases q2:j=n
   ·subst q2
    rw [CP,CP]
    refine ⟨ofb i (by lia),fun a ha z=>off i (by lia) a (by simpa using z) ha⟩
   ·rw [BW q2,BW q2]
    exact h.ne i j (by lia) (by lia) ij
variable {L0:List (Addr×HO)} {Kl:Nat→Addr} {as:Nat→List Addr} {ks:Nat→List G}
end
end TG
namespace L2
open PySem PySem.Spec PyProof.Rows
end L2
namespace LM
open PySem L2
noncomputable def Hf {β:Type}(T:Addr)(as:List Addr)(obs:W.Frag→β)(v:World→β)(w:World)(h:Heap):Prop:=∃ K:W.Frag,K.In h∧K.lookup T=none∧h.get? T=some (W.tabObj #[])∧obs K=v w
theorem Hf.of {β:Type}{T:Addr}{as:List Addr}{obs:W.Frag→β}{v:World→β}(n:T∉as)(w:World)(s:Shared)(e:(Jg (s.heap.get? T),obs (TG.Kof as s.heap))=(true,v w)):Hf T as obs v w s.heap:=
 ⟨_,TG.hZ _ _,YJ n,ZV (zv e).1,(zv e).2⟩
theorem Hf.keeps {β:Type}{T:Addr}{as:List Addr}{obs:W.Frag→β}{v:World→β}(w:World)(h h':Heap)(x:Hf T as obs v w h)(k:∀ b o,h.get? b=some o→h'.get? b=some o):Hf T as obs v w h':=x.imp fun _ z=>⟨z.1.keeps k,z.2.1,k _ _ z.2.2.1,z.2.2.2⟩
theorem XE {l:W.OpenLaw}{n k:Nat}{q:Program}{loose:List Str}{XP:(Str→Option Value)→Heap→Prop}{β:Type}{T:Addr}{as:List Addr}{obs:W.Frag→β}{v:World→β}{d:DefRec}{CX:CXT}{sp:W.Frag→Sp}{x:Str}
  (hn:l.most=some n) (hn2:n≤sizeLine) (hdf:d.params.defaults=[]) (hr:CT k callerA)
  (F:∀ (w:World) (mg:Str→Option Value) (fa:Addr) (h:Heap) (K:W.Frag),obs K=v w→K.In h→h.Ns mainGlobals mg→mg d.name=some (.ref fa) →
   ∃ fd:FuncData,(∀ (s:Shared) (u:Value),BindsTo s fd ⟨[u],[]⟩ [(x,u)])∧(∀ h',K.In h'→isCodeTable h' T) ∧
    ∀ base:Heap,K.In base→base.Ns mainGlobals mg→Aa l.prog w K mg base CX k fa fd [x] (sp K))
  (hsp:∀ (K:W.Frag) (H:Hp) (a:Addr) (ns:List Int),ns.length≤n→YS T H→SqL K H a (ns.map V.int)→sp K [.ref a] H (fun v _=>v = .bl true) fun _ _ _=>False)
  (hCX:∀ (H:Hp) (s:Shared) (e:Value) (s':Shared),CX [] H s (fun _ _ _=>False) e s'→False) :
  W.WalkO q loose XP (Hf T as obs v) l.row.toRowW d [] (fun f vs=>PySem.call f vs):=by
 refine Att.attach_call hn hdf fun w s₀ s₁ mg mb fa o pm cd doc a vs ns G Y ho hd hcd hmg hobj hints hlen hg=>?_
 obtain ⟨K,KX,KT,hT,KO⟩:=Y
 obtain ⟨fd,hb,isT,hF⟩:=F w mg fa _ K KO KX G.T.g hmg
 exact X0 KX hT (isT _ KX) KT G.T.g G.T.b G.T.builtins G.T.nolimit hg hobj hints (zO hlen hn2) hr hF hb (fun H hO hS=>hsp K H a ns hlen hO hS) fun H e s'=>hCX H s₁ e s'
end LM
namespace L2
open PySem PySem.Spec PyProof.Rows
section
variable {prog:Program} {w:World} {A:Around} {E:Value→Shared→Prop} {s:Shared}
theorem bK {it t:Addr}{i:Nat}{xs:Array Value}{x:Value}{Q:Value→Shared→Prop}(hit:s.heap.IsTupleIter it t i)(ht:s.heap.IsTuple t xs)(hx:xs[i]? = some x)
  (hQ:∀ h',h'.IsTupleIter it t (i+1)→Heap.SameBut it s.heap h'→Q x { s with heap:=h' }):wpAny (model prog w) A (Builtin.SmallTypes.nextOf (.ref it)) Q E s:=by
 have ty:=hit.typeIs
 obtain ⟨o,ho,hc,hd⟩:=hit
 obtain ⟨ol,hol,_,nl,hdl⟩:=ht
 unfold Builtin.SmallTypes.nextOf
 refine wpAny_bind (wpAny_callSpecial?_slot (name:=Str.ofString "__next__") ty F.slot_tuple_iterator_next (wpAny_call_entry F.slot_tuple_iterator_next ty F.entry_tuple_iterator_next ?_ (F.args_tuple_iterator_next_1 _)))
 show wpAny _ _ (field (.ref it) 0 >>= _) _ _ s
 refine wpAny_bind (wpAny_field ho hd (x:=.ref t) rfl ?_)
 show wpAny _ _ (if (Value.ref t == Value.none)=true then _ else _) _ _ s
 rw [if_neg (show ¬ ((Value.ref t == Value.none)=true) from za)]
 show wpAny _ _ (field (.ref it) 1 >>= _) _ _ s
 refine wpAny_bind (wpAny_field ho hd (x:=.int i 0) rfl ?_)
 show wpAny _ _ (seqItems? (.ref t) >>= _) _ _ s
 refine wpAny_bind (wpAny_seqItems hol hdl ?_)
 simp only [qK,hx]
 refine wpAny_bind (wpAny_setField ho hd (by simp) (wpAny_pure ⟨x,rfl,wpAny_pure (hQ _ ⟨_,Heap.get?_update_self _ ho (Obj.isFreed_of_fields (Obj.data_mapFields hd _)),(Obj.cls_mapFields ..).trans hc,?_⟩ (Heap.SameBut.update ..))⟩))
 rw [Obj.data_mapFields hd];simp [rawInt]
theorem X8 {it t:Addr}{i:Nat}{xs:Array Value}{Q:Value→Shared→Prop}(hh:A.handled=none)(hit:s.heap.IsTupleIter it t i)(ht:s.heap.IsTuple t xs)(hx:xs[i]? = none)
  (hE:∀ h' e,Heap.ExtBut it s.heap h'→(∃ o,h'.get? e=some o∧o.cls = .type "StopIteration")→E (.ref e) { s with heap:=h' }):wpAny (model prog w) A (Builtin.SmallTypes.nextOf (.ref it)) Q E s:=by
 have ty:=hit.typeIs
 obtain ⟨o,ho,hc,hd⟩:=hit
 obtain ⟨ol,hol,_,nl,hdl⟩:=ht
 unfold Builtin.SmallTypes.nextOf
 refine wpAny_bind (wpAny_callSpecial?_slot (name:=Str.ofString "__next__") ty F.slot_tuple_iterator_next (wpAny_call_entry F.slot_tuple_iterator_next ty F.entry_tuple_iterator_next ?_ (F.args_tuple_iterator_next_1 _)))
 show wpAny _ _ (field (.ref it) 0 >>= _) _ _ s
 refine wpAny_bind (wpAny_field ho hd (x:=.ref t) rfl ?_)
 show wpAny _ _ (if (Value.ref t == Value.none)=true then _ else _) _ _ s
 rw [if_neg (show ¬ ((Value.ref t == Value.none)=true) from za)]
 show wpAny _ _ (field (.ref it) 1 >>= _) _ _ s
 refine wpAny_bind (wpAny_field ho hd (x:=.int i 0) rfl ?_)
 show wpAny _ _ (seqItems? (.ref t) >>= _) _ _ s
 refine wpAny_bind (wpAny_seqItems hol hdl ?_)
 simp only [qK,hx]
 refine wpAny_bind (wpAny_rule (wpAny_bind (wpAny_setField ho hd (by simp) ?_)))
 show wpAny _ _ (newExc (.type "StopIteration") [] >>= _) _ _ _
 refine wpAny_bind ?_
 simp only [newExc,newTuple]
 refine wpAny_bind (wpAny_newObj_type ?_ (by size_fits))
 refine wpAny_bind (m:=firstArgMember _ _) (wpAny_of_eq (a:=Value.none) (by first | rfl | (simp only [firstArgMember];rfl)) ?_)
 refine wpAny_newObj_type ?_ (by size_fits)
 simp only [raiseNew]
 refine wpAny_bind (wpAny_handled ?_)
 first | rw [show A.in1.handled=none from hh] | rw [hh]
 exact wpAny_bind (wpAny_pure (wpAny_throw (hE _ _ (((Heap.SameBut.update ..).extBut.push _).push _) ⟨_,zT _ rfl,rfl⟩)))
theorem Xf {z TI TO i1 i2 l1 l2:Addr}{k:Nat}{xs ys:Array Value}{x y a b:Value}{Q:Option Value→Shared→Prop}(D:ZipApart z TI TO i1 i2 l1 l2)
  (hz:IsZip s.heap z TI TO .none) (hI:IsPair s.heap TI (.ref i1) (.ref i2)) (hO:IsPair s.heap TO a b)
  (h1:s.heap.IsTupleIter i1 l1 k) (h2:s.heap.IsTupleIter i2 l2 k) (m1:s.heap.IsTuple l1 xs) (m2:s.heap.IsTuple l2 ys) (hx:xs[k]? = some x) (hy:ys[k]? = some y)
  (hQ:∀ h',IsZip h' z TI TO (rawInt s.heap.objs.size)→IsPair h' TO x y→h'.IsTupleIter i1 l1 (k+1)→h'.IsTupleIter i2 l2 (k+1)→IsPair h' s.heap.objs.size x y→h'.objs.size=s.heap.objs.size+1 →
   (∀ c o,c≠z→c≠TO→c≠i1→c≠i2→s.heap.get? c=some o→h'.get? c=some o)→Q (some (.ref s.heap.objs.size)) { s with heap:=h' }) :
  wpAny (model prog w) A (pyNext (.ref z)) Q E s:=by
 have ty:s.TypeIs (.ref z) "zip":=⟨_,hz,rfl⟩
 unfold pyNext
 refine wpAny_bind (wpAny_attempt (wpAny_callSpecial?_slot (name:=Str.ofString "__next__") ty F.slot_zip_next (wpAny_call_entry F.slot_zip_next ty F.entry_zip_next ?_ (F.args_zip_next_1 _))))
 have lt:∀ {c o},s.heap.get? c=some o→c<s.heap.objs.size:=zJ
 show wpAny _ _ (field (.ref z) 2 >>= _) _ _ _
 refine wpAny_bind (wpAny_field hz rfl (x:=.bool false) rfl ?_)
 show wpAny _ _ (field (.ref z) 3 >>= _) _ _ _
 refine wpAny_bind (wpAny_field hz rfl (x:=.ref TI) rfl ?_)
 refine wpAny_bind (wpAny_seqItems hI rfl ?_)
 show wpAny _ _ (Builtin.SmallTypes.ownedTupleIsFree (.ref z) >>= _) _ _ _
 unfold Builtin.SmallTypes.ownedTupleIsFree
 refine wpAny_bind (wpAny_bind (wpAny_field hz rfl (x:=.none) rfl (wpAny_pure ?_)))
 simp only [if_true]
 refine wpAny_bind (wpAny_rule (wpAny_bind (wpAny_field hz rfl (x:=.ref TO) rfl ?_)))
 refine wpAny_bind (wpAny_setField_rec hz (by simp) fun g1 z1 s1=>wpAny_bind ?_)
 simp only [List.zipIdx_cons,List.zipIdx_nil,List.forIn_cons,List.forIn_nil]
 refine wpAny_bind (wpAny_bind (wpAny_onRaise ?_))
 show wpAny _ _ (Builtin.SmallTypes.nextOf (.ref i1) >>= _) _ _ _
 refine wpAny_bind (bK (h1.extBut s1.extBut D.i1z) (m1.extBut s1.extBut D.l1z) hx fun g2 a1 s2=>wpAny_pure ?_)
 have o2:IsPair g2 TO a b:=s2.extBut _ _ D.TOi1 (s1.extBut _ _ D.TOz hO)
 refine wpAny_bind (wpAny_seqItems o2 rfl (wpAny_bind (wpAny_updateSeq_pair o2 fun g3 o3 s3=>?_)))
 replace o3:IsPair g3 TO x b:=o3
 refine wpAny_bind (wpAny_letGo (wpAny_pure ?_))
 refine wpAny_bind (wpAny_bind (wpAny_onRaise ?_))
 show wpAny _ _ (Builtin.SmallTypes.nextOf (.ref i2) >>= _) _ _ _
 refine wpAny_bind (bK (((h2.extBut s1.extBut D.i2z).extBut s2.extBut D.i12.symm).extBut s3.extBut D.TOi2.symm) (((m2.extBut s1.extBut D.l2z).extBut s2.extBut D.l2i1).extBut s3.extBut D.l2TO) hy fun g4 a2 s4=>wpAny_pure ?_)
 have o4:IsPair g4 TO x b:=s4.extBut _ _ D.TOi2 o3
 refine wpAny_bind (wpAny_seqItems o4 rfl (wpAny_bind (wpAny_updateSeq_pair o4 fun g5 o5 s5=>?_)))
 replace o5:IsPair g5 TO x y:=o5
 refine wpAny_bind (wpAny_letGo (wpAny_pure (wpAny_pure ?_)))
 refine wpAny_bind (wpAny_seqItems o5 rfl (wpAny_bind (wpAny_newTuple ?_)))
 have sz:g5.objs.size=s.heap.objs.size:=by rw [s5.1,s4.1,s3.1,s2.1,s1.1]
 have z5:IsZip g5 z TI TO .ellipsis:=s5.extBut _ _ D.TOz.symm (s4.extBut _ _ D.i2z.symm (s3.extBut _ _ D.TOz.symm (s2.extBut _ _ D.i1z.symm z1)))
 have k5:∀ c o,c≠z→c≠TO→c≠i1→c≠i2→s.heap.get? c=some o→g5.get? c=some o:=fun c o c1 c2 c3 c4 e=>s5.extBut _ _ c2 (s4.extBut _ _ c4 (s3.extBut _ _ c2 (s2.extBut _ _ c3 (s1.extBut _ _ c1 e))))
 have b1:g5.IsTupleIter i1 l1 (k+1):=((a1.extBut s3.extBut D.TOi1.symm).extBut s4.extBut D.i12).extBut s5.extBut D.TOi1.symm
 have b2:g5.IsTupleIter i2 l2 (k+1):=a2.extBut s5.extBut D.TOi2.symm
 show wpAny _ _ (Builtin.SmallTypes.ownedTupleHandOut (.ref z) (.ref g5.objs.size) >>= _) _ _ _
 unfold Builtin.SmallTypes.ownedTupleHandOut
 have z6:IsZip (g5.push { cls:=.type "tuple",data:=.seq #[x,y] }) z TI TO .ellipsis:=zA _ z5
 refine wpAny_bind (wpAny_bind (wpAny_setField_rec z6 (by simp) fun g7 z7 s7=>?_))
 replace z7:IsZip g7 z TI TO (rawInt g5.objs.size):=z7
 refine wpAny_setField_rec z7 (by simp) fun g8 z8 s8=>?_
 replace z8:IsZip g8 z TI TO (rawInt g5.objs.size):=z8
 have up:∀ c o,c≠z→g5.get? c=some o→g8.get? c=some o:=fun c o c1 e=>s8.extBut _ _ c1 (s7.extBut _ _ c1 (zA _ e))
 have nz:g5.objs.size≠z:=qC (zJ z5)
 have T8:IsPair g8 g5.objs.size x y:=s8.extBut _ _ nz (s7.extBut _ _ nz (zT _ rfl))
 have e8:g8.objs.size=g5.objs.size+1:=by rw [s8.1,s7.1,qP]
 rw [sz] at z8 T8 e8
 refine wpAny_pure ⟨_,rfl,?_⟩
 rw [sz]
 exact wpAny_pure (hQ g8 z8 (up _ _ D.TOz o5) (b1.at fun o e=>up _ o D.i1z e) (b2.at fun o e=>up _ o D.i2z e) T8 e8 fun c o c1 c2 c3 c4 e=>up c o c1 (k5 c o c1 c2 c3 c4 e))
theorem Yw {z TI TO i1 i2 l1 l2:Addr}{k:Nat}{xs ys:Array Value}{a b:Value}{Q:Option Value→Shared→Prop}(hh:A.handled=none)(D:ZipApart z TI TO i1 i2 l1 l2)
  (hz:IsZip s.heap z TI TO .none) (hI:IsPair s.heap TI (.ref i1) (.ref i2)) (hO:IsPair s.heap TO a b)
  (h1:s.heap.IsTupleIter i1 l1 k) (h2:s.heap.IsTupleIter i2 l2 k) (m1:s.heap.IsTuple l1 xs) (m2:s.heap.IsTuple l2 ys) (hx:xs[k]? = none)
  (hQ:∀ h',(∀ c o,c≠z→c≠TO→c≠i1→c≠i2→s.heap.get? c=some o→h'.get? c=some o)→Q none { s with heap:=h' }):wpAny (model prog w) A (pyNext (.ref z)) Q E s:=by
 have ty:s.TypeIs (.ref z) "zip":=⟨_,hz,rfl⟩
 unfold pyNext
 refine wpAny_bind (wpAny_attempt (wpAny_callSpecial?_slot (name:=Str.ofString "__next__") ty F.slot_zip_next (wpAny_call_entry F.slot_zip_next ty F.entry_zip_next ?_ (F.args_zip_next_1 _))))
 show wpAny _ _ (field (.ref z) 2 >>= _) _ _ _
 refine wpAny_bind (wpAny_field hz rfl (x:=.bool false) rfl ?_)
 show wpAny _ _ (field (.ref z) 3 >>= _) _ _ _
 refine wpAny_bind (wpAny_field hz rfl (x:=.ref TI) rfl ?_)
 refine wpAny_bind (wpAny_seqItems hI rfl ?_)
 show wpAny _ _ (Builtin.SmallTypes.ownedTupleIsFree (.ref z) >>= _) _ _ _
 unfold Builtin.SmallTypes.ownedTupleIsFree
 refine wpAny_bind (wpAny_bind (wpAny_field hz rfl (x:=.none) rfl (wpAny_pure ?_)))
 simp only [if_true]
 refine wpAny_bind (wpAny_rule (wpAny_bind (wpAny_field hz rfl (x:=.ref TO) rfl ?_)))
 refine wpAny_bind (wpAny_setField_rec hz (by simp) fun g1 z1 s1=>wpAny_bind ?_)
 replace z1:IsZip g1 z TI TO .ellipsis:=z1
 simp only [List.zipIdx_cons,List.zipIdx_nil,List.forIn_cons,List.forIn_nil]
 refine wpAny_bind (wpAny_bind (wpAny_onRaise ?_))
 show wpAny _ _ (Builtin.SmallTypes.nextOf (.ref i1) >>= _) _ _ _
 refine wpAny_bind (X8 hh (h1.extBut s1.extBut D.i1z) (m1.extBut s1.extBut D.l1z) hx fun g2 e s2 he=>?_)
 obtain ⟨oe,hoe,hce⟩:=he
 have z2:IsZip g2 z TI TO .ellipsis:=s2 _ _ D.i1z.symm z1
 have ez:e≠z:=fun q=>by subst q;rw [z2] at hoe;cases hoe;simp at hce
 refine wpAny_setField_rec z2 (by simp) fun g3 _ s3=>?_
 refine wpAny_bind (wpAny_isInstance (T:="StopIteration") (b:=true) ⟨oe,s3.extBut _ _ ez hoe,hce⟩ isSubtype_stop ?_)
 exact wpAny_pure (hQ _ fun c o c1 _ c3 _ q=>s3.extBut _ _ c1 (s2 _ _ c3 (s1.extBut _ _ c1 q)))
noncomputable abbrev tz1 (h:Heap)(l1:Addr):Heap:=h.push { cls:=.type "tuple_iterator",data:=.fields #[.ref l1,.int 0 0] }
noncomputable abbrev tz2 (h:Heap)(l1 l2:Addr):Heap:=(tz1 h l1).push { cls:=.type "tuple_iterator",data:=.fields #[.ref l2,.int 0 0] }
noncomputable abbrev tz3 (h:Heap)(l1 l2:Addr):Heap:=(tz2 h l1 l2).push { cls:=.type "tuple",data:=.seq #[.ref h.objs.size,.ref (tz1 h l1).objs.size] }
noncomputable abbrev tz4 (h:Heap)(l1 l2:Addr):Heap:=(tz3 h l1 l2).push { cls:=.type "tuple",data:=.seq #[.none,.none] }
noncomputable abbrev tz5 (h:Heap)(l1 l2:Addr):Heap:=(tz4 h l1 l2).push { cls:=.type "zip",data:=.fields #[.none,.bool false,.bool false,.ref (tz2 h l1 l2).objs.size,.ref (tz3 h l1 l2).objs.size] }
theorem iH (l1 l2:Addr)(xs ys:Array Value) :
  Meets (Builtin.«zip.__new__» ⟨[.type "zip",.ref l1,.ref l2],[]⟩) (fun _ R s=>s.heap.IsTuple l1 xs∧s.heap.IsTuple l2 ys∧R (.ok (.ret (.ref (tz4 s.heap l1 l2).objs.size))) { s with heap:=tz5 s.heap l1 l2 }):=
 .of_wp fun prog w A R s h=>by
  obtain ⟨hp,g,d,tk,os⟩:=s;obtain ⟨hl1,hl2,h⟩:=h
  have hsub:=sub_zip
  have hL1:Heap.IsTuple (Shared.heap ⟨hp,g,d,tk,os⟩) l1 xs:=hl1
  have hL2:Heap.IsTuple (Shared.heap ⟨hp.push { cls:=.type "tuple_iterator",data:=.fields #[.ref l1,.int 0 0] },g,d,tk,os⟩) l2 ys:=Heap.IsTuple.push hl2 _
  wp_walk using wpAny_pyIter_tuple hL1,wpAny_pyIter_tuple hL2
  exact ⟨_,rfl,h⟩
theorem Xu {l1 l2:Addr}{xs ys:Array Value}{Q:Value→Shared→Prop}(hl1:s.heap.IsTuple l1 xs)(hl2:s.heap.IsTuple l2 ys)
  (h:∀ h',IsZip h' (s.heap.objs.size+4) (s.heap.objs.size+2) (s.heap.objs.size+3) .none→IsPair h' (s.heap.objs.size+2) (.ref s.heap.objs.size) (.ref (s.heap.objs.size+1)) →
   IsPair h' (s.heap.objs.size+3) .none .none→h'.IsTupleIter s.heap.objs.size l1 0→h'.IsTupleIter (s.heap.objs.size+1) l2 0 →
   (∀ c o,s.heap.get? c=some o→h'.get? c=some o)→Q (.ref (s.heap.objs.size+4)) { s with heap:=h' }) :
  wpAny (model prog w) A (call (.type "zip") [.ref l1,.ref l2]) Q E s:=by
 refine callType_new F.called_zip (by decide) (F.typeCall_zip_2 _ _) (F.newCall_zip_2 _ _) (fun obj=>F.args_object_init_3 obj _ _) F.entry_zip_new (iH l1 l2 xs ys) ⟨hl1,hl2,?_⟩
 have z1:(tz1 s.heap l1).objs.size=s.heap.objs.size+1:=qP ..
 have z2:(tz2 s.heap l1 l2).objs.size=s.heap.objs.size+2:=by rw [qP,z1]
 have z3:(tz3 s.heap l1 l2).objs.size=s.heap.objs.size+3:=by rw [qP,z2]
 have z4:(tz4 s.heap l1 l2).objs.size=s.heap.objs.size+4:=by rw [qP,z3]
 have g5:(tz5 s.heap l1 l2).get? (tz4 s.heap l1 l2).objs.size=some _:=zT _ rfl
 have g4:(tz5 s.heap l1 l2).get? (tz3 s.heap l1 l2).objs.size=some _:=zA _ (zT _ rfl)
 have g3:(tz5 s.heap l1 l2).get? (tz2 s.heap l1 l2).objs.size=some _:=zA _ (zA _ (zT _ rfl))
 have g2:(tz5 s.heap l1 l2).get? (tz1 s.heap l1).objs.size=some _:=zA _ (zA _ (zA _ (zT _ rfl)))
 have g1:(tz5 s.heap l1 l2).get? s.heap.objs.size=some _:=zA _ (zA _ (zA _ (zA _ (zT _ rfl))))
 show _∧_
 rw [z2,z3,z4] at g5
 rw [z1,z2] at g3
 rw [z3] at g4
 rw [z1] at g2
 rw [z4]
 exact ⟨⟨_,g5,rfl⟩,h _ g5 g3 g4 ⟨_,g1,rfl,rfl⟩ ⟨_,g2,rfl,rfl⟩ fun c o x=>zA _ (zA _ (zA _ (zA _ (zA _ x))))⟩
end
theorem YI {n l1 l2:Addr}(h1:l1<n)(h2:l2<n):ZipApart (n+4) (n+2) (n+3) n (n+1) l1 l2:=by
 constructor<;>(intro z;simp only [Addr] at *;lia)
noncomputable def Itz (K:W.Frag)(p q:Addr):It:=
 ⟨fun i H=>∃ xs ys x y,SqT K H p xs∧SqT K H q ys∧xs[i]? = some x∧ys[i]? = some y,fun i H x H'=>∃ c u v,x = .ref c∧H c=none∧H'=upd H c (.tup [u,v])∧(∀ xs,SqT K H p xs→xs[i]? = some u)∧∀ ys,SqT K H q ys→ys[i]? = some v,fun i H=>∃ xs ys,SqT K H p xs∧SqT K H q ys∧xs.length≤i⟩
noncomputable def ZSt (z TI TO i1 i2 p q:Addr)(i:Nat)(h:Heap):Prop:=∃ a b,IsZip h z TI TO .none∧IsPair h TI (.ref i1) (.ref i2)∧IsPair h TO a b∧h.IsTupleIter i1 p i∧h.IsTupleIter i2 q i
theorem Y0 {P:Program}{w:World}{K:W.Frag}{elts:List Expr}{k:Nat}{tp:Pos}{z TI TO i1 i2 p q:Addr}(D:ZipApart z TI TO i1 i2 p q) :
  S3 P w K (.Tuple elts k tp) (Itz K p q) [z,TI,TO,i1,i2] z (ZSt z TI TO i1 i2 p q) where
 mem:=by simp
 obj:=fun i h st b hb=>by
  obtain ⟨a,c,e1,e2,e3,⟨o4,e4,_,d4⟩,⟨o5,e5,_,d5⟩⟩:=st
  simp only [zF,zf,or_false] at hb
  rcases hb with rfl | rfl | rfl | rfl | rfl
  ·exact ⟨_,e1,fun v x=>by
    have x':Data.fields _=Data.cell v:=x
    cases x'⟩
  ·exact ⟨_,e2,fun v x=>by
    have x':Data.seq _ _=Data.cell v:=x
    cases x'⟩
  ·exact ⟨_,e3,fun v x=>by
    have x':Data.seq _ _=Data.cell v:=x
    cases x'⟩
  ·exact ⟨o4,e4,fun v x=>by rw [d4] at x;cases x⟩
  ·exact ⟨o5,e5,fun v x=>by rw [d5] at x;cases x⟩
 keep:=fun i h h' st k=>by
  obtain ⟨a,c,e1,e2,e3,e4,e5⟩:=st
  exact ⟨a,c,k z (by simp) _ e1,k TI (by simp) _ e2,k TO (by simp) _ e3,e4.at fun o x=>k i1 (by simp) o x,e5.at fun o x=>k i2 (by simp) o x⟩
 item:=by
  intro X hP hw hK hc i pins s σ H E I hf st hg
  subst hP hw hK
  obtain ⟨xs,ys,x,y,hq1,hq2,hx,hy⟩:=hg
  obtain ⟨l1,r1,p1,_⟩:=I.tuple hq1
  obtain ⟨l2,r2,p2,_⟩:=I.tuple hq2
  obtain ⟨u,hu,ru⟩:=r1.get hx
  obtain ⟨v,hv,rv⟩:=r2.get hy
  obtain ⟨a,c,e1,e2,e3,e4,e5⟩:=st
  have ltf:∀ b∈[z,TI,TO,i1,i2],b<s.heap.objs.size:=fun b hb=>by
   obtain ⟨_,_,_,_⟩:=And.intro e1 (And.intro e2 (And.intro e3 e4))
   simp only [zF,zf,or_false] at hb
   rcases hb with rfl | rfl | rfl | rfl | rfl
   ·exact zJ e1
   ·exact zJ e2
   ·exact zJ e3
   ·obtain ⟨_,x,_⟩:=e4;exact zJ x
   ·obtain ⟨_,x,_⟩:=e5;exact zJ x
  refine Xf D e1 e2 e3 e4 e5 (show s.heap.IsTuple p l1.toArray from p1) (show s.heap.IsTuple q l2.toArray from p2) (x:=u) (y:=v) (by simpa using hu) (by simpa using hv) fun h' g1 g3 g4 g5 hT hsz hk=>?_
  refine ⟨_,rfl,wpAny_letOwnedTupleGo_zip (s:={ s with heap:=h' }) g1 fun h2 z2 s2=>?_⟩
  have I1:Inv X pins σ (upd H s.heap.objs.size (.tup [x,y])) { s with heap:=s.heap.push { cls:=.type "tuple",data:=.seq #[u,v] },toks:=s.toks }:=
   I.laid (fun b o e=>zA _ e) (zL _) ⟨by rw [PySem.sizeLine_eq];show 2≤_;lia,[u,v],.cons ru (.cons rv .nil),IsTup.new s.heap _⟩
  have hfr:∀ b∈[z,TI,TO,i1,i2],upd H s.heap.objs.size (.tup [x,y]) b=none:=fun b hb=>by
   rw [AO (ze (ltf b hb))]
   exact (hf b hb).1
  have nTz:TI≠z:=D.TIz
  refine ⟨.ref s.heap.objs.size,upd H s.heap.objs.size (.tup [x,y]),?_,rfl,⟨_,x,y,rfl,I.fresh,rfl,fun zs hz=>by rw [I.tuple_inj hz hq1];exact hx,fun zs hz=>by rw [I.tuple_inj hz hq2];exact hy⟩,⟨u,v,z2,s2.extBut _ _ nTz (hk TI _ nTz D.TITO D.TIi1 D.TIi2 e2),s2.extBut _ _ D.TOz g3,g4.extBut s2.extBut D.i1z,g5.extBut s2.extBut D.i2z⟩,hfr⟩
  refine (show Inv X pins σ (upd H s.heap.objs.size (.tup [x,y])) { ({ s with heap:=s.heap.push { cls:=.type "tuple",data:=.seq #[u,v] },toks:=s.toks }:Shared) with heap:=h2,toks:=s.toks } from ?_)
  refine Inv.turnedL (its:=[z,TI,TO,i1,i2]) I1 (fun b o hb eb=>?_) fun b hb=>⟨hfr b hb,(hf b hb).2⟩
  simp only [zF,zf,or_false,not_or] at hb
  obtain ⟨n1,n2,n3,n4,n5⟩:=hb
  refine s2.extBut _ _ n1 ?_
  by_cases hbs:b=s.heap.objs.size
  ·subst hbs
   have:(s.heap.push { cls:=.type "tuple",data:=.seq #[u,v] }).get? s.heap.objs.size=some { cls:=.type "tuple",data:=.seq #[u,v] }:=zT _ rfl
   have eb:=this.symm.trans eb
   rw [← eb]
   exact hT
  ·exact hk b o n1 n3 n4 n5 ((Heap.get?_push_ne _ _ _ hbs).symm.trans eb)
 done:=by
  intro X hP hw hK hc i pins s σ H E I hf st hg
  subst hP hw hK
  obtain ⟨xs,ys,hq1,hq2,hx⟩:=hg
  obtain ⟨l1,r1,p1,_⟩:=I.tuple hq1
  obtain ⟨l2,r2,p2,_⟩:=I.tuple hq2
  have hl:=r1.length
  obtain ⟨a,c,e1,e2,e3,e4,e5⟩:=st
  refine Yw (I.ok.hd hc) D e1 e2 e3 e4 e5 (show s.heap.IsTuple p l1.toArray from p1) (show s.heap.IsTuple q l2.toArray from p2) (by simp;lia) fun h' eb=>⟨rfl,?_⟩
  refine Inv.turnedL (t':=s.toks) (its:=[z,TI,TO,i1,i2]) I (fun b o hb e=>?_) hf
  simp only [zF,zf,or_false,not_or] at hb
  exact eb b o hb.1 hb.2.2.1 hb.2.2.2.1 hb.2.2.2.2 e
 self:=fun _ _ _ _ _ st h=>by
  obtain ⟨a,c,e1,_⟩:=st
  exact wpAny_pyIter_zip e1 h
section
variable {X:Cx}
theorem aa:bootBuiltins "zip"=some (.type "zip"):=by decide +kernel
noncomputable def RV (K:W.Frag)(ta:TA):TI:=fun σ H R=>ta σ H fun vs H1=>∃ p q,vs=[.ref p,.ref q]∧(∃ xs,SqT K H1 p xs)∧(∃ ys,SqT K H1 q ys)∧R (Itz K p q) H1
theorem jG {l l2:Expr}{ta:TA}{p pos tp:Pos}{elts:List Expr}{k:Nat}(hg:Gl X "zip")(hm:X.mg "zip"=none)(ha:PA X [l,l2] ta)
  (hs:starEach (l::[l2]) X.env=(false,eval l X.env)::starEach [l2] X.env:=by rfl) (hpl:(backTo pos (starEach [l2] X.env)).any (·.1)=false:=by rfl) :
  PI X (.Tuple elts k tp) (.Call (.Name "zip" p) [l,l2] [] pos) (RV X.K ta):=by
 intro pins s σ H R I h
 refine Call_ (Js I hg hm aa (PyProof.Rows.callWith_type1 (thn (ha pos pins s σ H _ I h) fun us s1 zq=>?_) hs hpl))
 obtain ⟨vs,H1,I1,r1,q1⟩:=zq
 obtain ⟨a,b,e,⟨xs,hq1⟩,⟨ys,hq2⟩,q⟩:=q1
 subst e
 cases r1 with
 | cons r rr =>
  cases rr with
  | cons r2 rr =>
   cases rr
   cases r
   cases r2
   obtain ⟨l1,_,p1,_⟩:=I1.tuple hq1
   obtain ⟨l2,_,p2,_⟩:=I1.tuple hq2
   have lt1:a<s1.heap.objs.size:=by obtain ⟨_,x,_⟩:=(show s1.heap.IsTuple a l1.toArray from p1);exact zJ x
   have lt2:b<s1.heap.objs.size:=by obtain ⟨_,x,_⟩:=(show s1.heap.IsTuple b l2.toArray from p2);exact zJ x
   refine Xu (show s1.heap.IsTuple a l1.toArray from p1) (show s1.heap.IsTuple b l2.toArray from p2) fun h' e1 e2 e3 e4 e5 hk=>?_
   have I2:Inv X pins σ H1 { s1 with heap:=h' }:=I1.kept (t':=s1.toks) hk
   refine wpAny_pyIter_zip e1 ?_
   refine ⟨s1.heap.objs.size+4,[s1.heap.objs.size+4,s1.heap.objs.size+2,s1.heap.objs.size+3,s1.heap.objs.size,s1.heap.objs.size+1],_,_,H1,rfl,I2,Y0 (YI lt1 lt2),⟨_,_,e1,e2,e3,e4,e5⟩,fun b hb=>?_,q⟩
   have hb':s1.heap.objs.size≤b:=by
    simp only [zF,zf,or_false] at hb
    rcases hb with rfl | rfl | rfl | rfl | rfl
    ·exact Nat.le_add_right _ _
    ·exact Nat.le_add_right _ _
    ·exact Nat.le_add_right _ _
    ·exact zL _
    ·exact Nat.le_add_right _ _
   exact I1.fpOk hb' (I1.hok.fresh hb')
end
theorem aW {K:W.Frag}{p q:Addr}{xs ys:List V}{g:TG}{tb:TS}{D:Ij}{σ:St}{H:Hp}(Pv:Nat→St→Hp→Prop)(le:xs.length=ys.length)(h0:Pv 0 σ H)(hl:∀ i σ H,i≤xs.length→Pv i σ H→SqT K H p xs∧SqT K H q ys)
  (hs:∀ i x y σ H c H',xs[i]? = some x→ys[i]? = some y→Pv i σ H→H c=none→AG H H'→H' c=some (.tup [x,y])→g (.ref c) σ H' fun σ2 H2=>tb { D with nx:=Pv (i+1),ct:=Pv (i+1),bk:=D.nx } σ2 H2) (hd:∀ σ H,Pv xs.length σ H→D.nx σ H) :
  ∃ W:Nat→Nat→St→Hp→Prop,(∃ m,W 0 m σ H)∧∀ i m σ H,W i m σ H →
   ((Itz K p q).stop i H∧D.nx σ H)∨((Itz K p q).go i H∧∃ N:St→Hp→Prop,(∀ σ' H',N σ' H'→∃ m',m'<m∧W (i+1) m' σ' H')∧∀ x H',(Itz K p q).yld i H x H'→g x σ H' fun σ2 H2=>tb { D with nx:=N,ct:=N,bk:=D.nx } σ2 H2):=by
 refine ⟨fun i m σ H=>m=xs.length-i∧i≤xs.length∧Pv i σ H,⟨xs.length,by simp,zr _,h0⟩,?_⟩
 rintro i m σ H ⟨rfl,hi,pv⟩
 obtain ⟨q1,q2⟩:=hl i σ H hi pv
 by_cases hlt:i<xs.length
 ·have hlt2:i<ys.length:=by lia
  refine .inr ⟨⟨xs,ys,xs[i],ys[i],q1,q2,by simp [hlt],by simp [hlt2]⟩,Pv (i+1),fun σ' H' p'=>⟨xs.length-(i+1),by lia,rfl,hlt,p'⟩,fun x H' y=>?_⟩
  obtain ⟨pp,u,v,rfl,hn,rfl,y1,y2⟩:=y
  exact hs i u v σ _ _ _ (y1 xs q1) (y2 ys q2) pv hn (Ak hn) AM
 ·obtain rfl:i=xs.length:=by lia
  exact .inl ⟨⟨xs,ys,q1,q2,zL _⟩,hd σ H pv⟩
end L2
namespace TG
open PySem L2
end TG
namespace L2
open PySem PySem.Spec PySem.Calls PyProof.Rows
section
variable {X:Cx}
end
end L2
namespace TG
open PySem L2
noncomputable abbrev GT:Type:=Str→Str→Str→Str→Str→Str→Str→Str→Str→Str→Str→Str→Str→Str→Str→Str→Str→Str→Str→Str→Str→Str→Str→Str→Str→Str→Str→Str→Str→Str→Str→Str→Str→Str→Str→Str→Str→Str→Str→Str→Str→Str→Str→Str→Str→Str→Str→Str→Str→Str→Str→Str→Str→Str→Str→Str→Str→Str→Str→Str→Str→Str→Str→Str→Str→Str→Str→Str→Str→Str→Str→Str→Str→Str→Str→Str→Str→Str→Str→Str→Str→Str→Str→Str→Str→Str→Str→Str→Str→Str→Str→Str→Str→Str→Str→Str→Str→Str→Str→Str→Str→Str→Str→Str→Str→Str→Str→Str→Str→Str→Str→Str→Str→Str→Str→Str→Str→Str→Str→Str→Str→Str→Str→Str→Str→Str→Str→Str→Str→Str→Str→Str→Str→Str→Str→Str→Str→Str→Str→Str→Str→Str→Str→Str→Str→Str→Str→Str→Str→Str→Str→Str→Str→Str→Str→Str→Str→Str→Str→Str→Str→Str→Str→Str→Str→Str→Str→Str→Str→Str→Str→Str→Str→Str→Str→Str→Str→Str→Str→Str→Str→Str→Str→Str→Str→Str→Str→Str→Str→Str→Str→Str→Str→Str→Str→Str→Str→Str→Str→Str→Str→Str→Str→Str→Str→Str→Str→Str→Str→Str→Str→Str→Str→Str→Str→Str→Str→Str→Str→Str→Str→Str→Str→Str→Str→Str→Str→Str→Str→Str→Str→Str→Str→Str→Str→Str→Str→Str→Str→Str→Str→Str→Str→Str→Str→Str→Str→Str→Str→Str→Str→Str→Str→Str→Str→Str→Str→Str→Str→Str→Str→Str→Str→Str→Str→Str→Str→Str→Str→Str→Str→Str→Str→Str→Str→Str→Str→Str→Str→Str→Str→Str→Str→Str→Str→Str→Str→Str→Str→Str→Str→Str→Str→Str→Str→Str→Str→Str→Str→Str→Str→Str→Str→Str→Str→Str→Str→Str→Str→Str→Str→Str→Str→Program
noncomputable def EqA (p:Program)(G:GT):Prop:=p=G (.ofString "_law_throw") (.ofString "_law_found") (.ofString "isinstance") (.ofString "tuple") (.ofString "len") (.ofString "_law_k") (.ofString "range") (.ofString "_law_whole") (.ofString "abs") (.ofString "_law_gcd") (.ofString "_law_part") (.ofString "_law_top") (.ofString "_law_bottom") (.ofString "str") (.ofString "/") (.ofString "_law_text") (.ofString "_law_throw_here") (.ofString "_law_between_two") (.ofString "no throw") (.ofString "_law_edge_text") (.ofString "_law_marks") (.ofString "bar") (.ofString "bar ") (.ofString " ") (.ofString "join") (.ofString "_law_place") (.ofString ".0") (.ofString "_law_text_here") (.ofString "throw ") (.ofString "fast") (.ofString "_law_lists") (.ofString "_law_desk") (.ofString "_law_beach") (.ofString "_law_places") (.ofString "_law_words") (.ofString "answer") (.ofString "through") (.ofString "list") (.ofString "steepest") (.ofString "refused: too few") (.ofString "foot") (.ofString "head") (.ofString "flattest") (.ofString "_law_passed") (.ofString "_law_row") (.ofString "passed ") (.ofString "") (.ofString "passed") (.ofString "law") (.ofString "_law_script") (.ofString "_law_how") (.ofString "_law_at") (.ofString "_law_gates") (.ofString "Beach") (.ofString "Desk") (.ofString "put") (.ofString "put ") (.ofString "_law_part_here") (.ofString "_law_gate") (.ofString "_law_run") (.ofString ":") (.ofString "runs") (.ofString "_law_due") (.ofString "refused: wrong size") (.ofString "_law_told") (.ofString "most") (.ofString "most ") (.ofString " throw ") (.ofString "_law_cell") (.ofString "_law_one") (.ofString "__name__") (.ofString "law_throwgate_k35_desk_as_beach") (.ofString "_law_spread") (.ofString "_law_many") (.ofString "_law_mixed") (.ofString "_law_left") (.ofString "_law_once") (.ofString "append") (.ofString "_law_heights") (.ofString "_law_kind") (.ofString "_law_line") (.ofString "_law_wide") (.ofString "_law_low") (.ofString "_law_high") (.ofString "_law_under") (.ofString "_law_over") (.ofString "_law_at_here") (.ofString "_law_lows") (.ofString "_law_highs") (.ofString "_law_span") (.ofString "max") (.ofString "_law_near") (.ofString "_law_ends") (.ofString "_law_made") (.ofString "_law_used") (.ofString "_law_step") (.ofString "_law_foot") (.ofString "_law_head") (.ofString "min") (.ofString "int") (.ofString "bool") (.ofString "_law_two") (.ofString "runs_row") (.ofString "beach") (.ofString "words") (.ofString "check_many") (.ofString "run_word") (.ofString "run") (.ofString "most_row") (.ofString "told") (.ofString "number_words") (.ofString "throw") (.ofString "throw_words") (.ofString "passed_row") (.ofString "height") (.ofString "read_fraction") (.ofString "rise") (.ofString "ROWS") (.ofString "take") (.ofString "lift") (.ofString "sink") (.ofString "back") (.ofString "deeds") (.ofString "gates") (.ofString "put_row") (.ofString "take_row") (.ofString "lift_row") (.ofString "sink_row") (.ofString "back_row") (.ofString "deeds_row") (.ofString "gates_row") (.ofString "through_row") (.ofString "steepest_row") (.ofString "flattest_row") (.ofString "row_told") (.ofString "row") (.ofString "split") (.ofString "asked") (.ofString "get") (.ofString "BadRow") (.ofString "the desk does not know this word") (.ofString "row_answer") (.ofString "refused: bad row") (.ofString "NoGate") (.ofString "refused: no gate") (.ofString "Taken") (.ofString "refused: taken") (.ofString "UpsideDown") (.ofString "refused: upside down") (.ofString "OutOfBounds") (.ofString "refused: out of bounds") (.ofString "BeachFull") (.ofString "refused: beach full") (.ofString "DeedsFull") (.ofString "refused: deeds full") (.ofString "NothingBack") (.ofString "refused: nothing back") (.ofString "BadList") (.ofString "refused: bad list") (.ofString "TooFew") (.ofString "WrongSize") (.ofString "BadThrow") (.ofString "refused: bad throw") (.ofString "__init__") (.ofString "self") (.ofString "deeds_text") (.ofString "numbers") (.ofString "read_so_many") (.ofString "gate") (.ofString "through_text") (.ofString "read_numbers") (.ofString "many") (.ofString "deeds ") (.ofString "ends") (.ofString "end") (.ofString "place") (.ofString "zip") (.ofString "gate_text") (.ofString "too few or too many words") (.ofString "read_number") (.ofString "word") (.ofString "number") (.ofString "write_fraction") (.ofString "FIGURES") (.ofString "0123456789") (.ofString "MOST_FIGURES") (.ofString "are_figures") (.ofString "text") (.ofString "all") (.ofString "sign") (.ofString "0") (.ofString "figures") (.ofString "startswith") (.ofString "-") (.ofString "this is not how a number is written") (.ofString "parts") (.ofString "a fraction has one stroke at most") (.ofString "top") (.ofString "bottom") (.ofString "fraction") (.ofString "lowest") (.ofString "throwgate.desk") (.ofString "throwgate.beach") (.ofString "check_gate") (.ofString "the foot would be above the head") (.ofString "LEAST") (.ofString "GREATEST") (.ofString "a place, foot or head would be out of bounds") (.ofString "check_places") (.ofString "places") (.ofString "the list has no place") (.ofString "MOST_GATES") (.ofString "the list has too many places") (.ofString "set") (.ofString "the list has a place twice") (.ofString "check_throw") (.ofString "a bottom is below 1") (.ofString "GREAT_NUMBER") (.ofString "a number of the throw is too great") (.ofString "standing") (.ofString "past") (.ofString "has_gate") (.ofString "gate_at") (.ofString "no gate stands at this place") (.ofString "do_deed") (.ofString "instead") (.ofString "MOST_DEEDS") (.ofString "no more deeds may stand") (.ofString "others") (.ofString "sorted") (.ofString "a gate stands at this place already") (.ofString "no more gates may stand") (.ofString "foot_by") (.ofString "head_by") (.ofString "before") (.ofString "one deed is the least that is taken back") (.ofString "fewer deeds stand") (.ofString "left") (.ofString "gates_at") (.ofString "two_gates_at") (.ofString "one gate alone has no steepest and no flattest throw") (.ofString "throw_through") (.ofString "steepest_throw") (.ofString "flattest_throw") (.ofString "fewest_runs") (.ofString "SMALL_BEACH") (.ofString "the most are told of a small beach that is not empty") (.ofString "most_gates") (.ofString "places_passed") (.ofString "throwgate.texts") (.ofString "found") (.ofString "steepest_found") (.ofString "turned_over") (.ofString "bar_told") (.ofString "turned_throw") (.ofString "throwgate.shore") (.ofString "run_told") (.ofString "longer") (.ofString "longer_throw") (.ofString "common_throw") (.ofString "throwgate.small") (.ofString "tried_throws") (.ofString "ordered") (.ofString "throws") (.ofString "index") (.ofString "earlier") (.ofString "enumerate") (.ofString "later") (.ofString "line_by") (.ofString "tried") (.ofString "key") (.ofString "level_throw") (.ofString "first_three") (.ofString "throwgate.lists") (.ofString "passes_all") (.ofString "passes") (.ofString "foot_to_head") (.ofString "tightest_pair") (.ofString "pair") (.ofString "compare") (.ofString "foot_place") (.ofString "head_place") (.ofString "divisor") (.ofString "greatest_divisor") (.ofString "one") (.ofString "two") (.ofString "right") (.ofString "throwgate.lines") (.ofString "height_at") (.ofString "height_top") (.ofString "height_bottom") (.ofString "rise_top") (.ofString "rise_bottom") (.ofString "other") (.ofString "second") (.ofString "steps") (.ofString "gain") (.ofString "start") (.ofString "BeachError") (.ofString "throwgate.bars") (.ofString "side_of_line") (.ofString "barring") (.ofString "three") (.ofString "count") (.ofString "first") (.ofString "middle") (.ofString "last") (.ofString "throwgate.fracs") (.ofString "rest") (.ofString "next_rest") (.ofString "throwgate.errors") (.ofString "ValueError") (.ofString "/claim/cut.py")
noncomputable def Gp:GT:=by
 refine' (?m:_→GT) (?h:EqA PySem.Challenge.pw_throwgate_k35_desk_as_beach ?G)
 case h =>
  delta EqA PySem.Challenge.pw_throwgate_k35_desk_as_beach
  iterate 313 (generalize Str.ofString _=x)
  exact rfl
 case m=>exact fun _=>?G
theorem Gq:EqA PySem.Challenge.pw_throwgate_k35_desk_as_beach Gp:=by delta EqA;kernel_rfl
theorem at_0:Str.ofString "_law_throw"=Str.mk (.mk [95,108,97,119,95,116,104,114,111,119]):=by kernel_rfl
theorem at_1:Str.ofString "_law_found"=Str.mk (.mk [95,108,97,119,95,102,111,117,110,100]):=by kernel_rfl
theorem at_2:Str.ofString "isinstance"=Str.mk (.mk [105,115,105,110,115,116,97,110,99,101]):=by kernel_rfl
theorem at_3:Str.ofString "tuple"=Str.mk (.mk [116,117,112,108,101]):=by kernel_rfl
theorem at_4:Str.ofString "len"=Str.mk (.mk [108,101,110]):=by kernel_rfl
theorem at_5:Str.ofString "_law_k"=Str.mk (.mk [95,108,97,119,95,107]):=by kernel_rfl
theorem at_6:Str.ofString "range"=Str.mk (.mk [114,97,110,103,101]):=by kernel_rfl
theorem at_7:Str.ofString "_law_whole"=Str.mk (.mk [95,108,97,119,95,119,104,111,108,101]):=by kernel_rfl
theorem at_8:Str.ofString "abs"=Str.mk (.mk [97,98,115]):=by kernel_rfl
theorem at_9:Str.ofString "_law_gcd"=Str.mk (.mk [95,108,97,119,95,103,99,100]):=by kernel_rfl
theorem at_10:Str.ofString "_law_part"=Str.mk (.mk [95,108,97,119,95,112,97,114,116]):=by kernel_rfl
theorem at_11:Str.ofString "_law_top"=Str.mk (.mk [95,108,97,119,95,116,111,112]):=by kernel_rfl
theorem at_12:Str.ofString "_law_bottom"=Str.mk (.mk [95,108,97,119,95,98,111,116,116,111,109]):=by kernel_rfl
theorem at_13:Str.ofString "str"=Str.mk (.mk [115,116,114]):=by kernel_rfl
theorem at_14:Str.ofString "/"=Str.mk (.mk [47]):=by kernel_rfl
theorem at_15:Str.ofString "_law_text"=Str.mk (.mk [95,108,97,119,95,116,101,120,116]):=by kernel_rfl
theorem at_16:Str.ofString "_law_throw_here"=Str.mk (.mk [95,108,97,119,95,116,104,114,111,119,95,104,101,114,101]):=by kernel_rfl
theorem at_17:Str.ofString "_law_between_two"=Str.mk (.mk [95,108,97,119,95,98,101,116,119,101,101,110,95,116,119,111]):=by kernel_rfl
theorem at_18:Str.ofString "no throw"=Str.mk (.mk [110,111,32,116,104,114,111,119]):=by kernel_rfl
theorem at_19:Str.ofString "_law_edge_text"=Str.mk (.mk [95,108,97,119,95,101,100,103,101,95,116,101,120,116]):=by kernel_rfl
theorem at_20:Str.ofString "_law_marks"=Str.mk (.mk [95,108,97,119,95,109,97,114,107,115]):=by kernel_rfl
theorem at_21:Str.ofString "bar"=Str.mk (.mk [98,97,114]):=by kernel_rfl
theorem at_22:Str.ofString "bar "=Str.mk (.mk [98,97,114,32]):=by kernel_rfl
theorem at_23:Str.ofString " "=Str.mk (.mk [32]):=by kernel_rfl
theorem at_24:Str.ofString "join"=Str.mk (.mk [106,111,105,110]):=by kernel_rfl
theorem at_25:Str.ofString "_law_place"=Str.mk (.mk [95,108,97,119,95,112,108,97,99,101]):=by kernel_rfl
theorem at_26:Str.ofString ".0"=Str.mk (.mk [46,48]):=by kernel_rfl
theorem at_27:Str.ofString "_law_text_here"=Str.mk (.mk [95,108,97,119,95,116,101,120,116,95,104,101,114,101]):=by kernel_rfl
theorem at_28:Str.ofString "throw "=Str.mk (.mk [116,104,114,111,119,32]):=by kernel_rfl
theorem at_29:Str.ofString "fast"=Str.mk (.mk [102,97,115,116]):=by kernel_rfl
theorem at_30:Str.ofString "_law_lists"=Str.mk (.mk [95,108,97,119,95,108,105,115,116,115]):=by kernel_rfl
theorem at_31:Str.ofString "_law_desk"=Str.mk (.mk [95,108,97,119,95,100,101,115,107]):=by kernel_rfl
theorem at_32:Str.ofString "_law_beach"=Str.mk (.mk [95,108,97,119,95,98,101,97,99,104]):=by kernel_rfl
theorem at_33:Str.ofString "_law_places"=Str.mk (.mk [95,108,97,119,95,112,108,97,99,101,115]):=by kernel_rfl
theorem at_34:Str.ofString "_law_words"=Str.mk (.mk [95,108,97,119,95,119,111,114,100,115]):=by kernel_rfl
theorem at_35:Str.ofString "answer"=Str.mk (.mk [97,110,115,119,101,114]):=by kernel_rfl
theorem at_36:Str.ofString "through"=Str.mk (.mk [116,104,114,111,117,103,104]):=by kernel_rfl
theorem at_37:Str.ofString "list"=Str.mk (.mk [108,105,115,116]):=by kernel_rfl
theorem at_38:Str.ofString "steepest"=Str.mk (.mk [115,116,101,101,112,101,115,116]):=by kernel_rfl
theorem at_39:Str.ofString "refused: too few"=Str.mk (.mk [114,101,102,117,115,101,100,58,32,116,111,111,32,102,101,119]):=by kernel_rfl
theorem at_40:Str.ofString "foot"=Str.mk (.mk [102,111,111,116]):=by kernel_rfl
theorem at_41:Str.ofString "head"=Str.mk (.mk [104,101,97,100]):=by kernel_rfl
theorem at_42:Str.ofString "flattest"=Str.mk (.mk [102,108,97,116,116,101,115,116]):=by kernel_rfl
theorem at_43:Str.ofString "_law_passed"=Str.mk (.mk [95,108,97,119,95,112,97,115,115,101,100]):=by kernel_rfl
theorem at_44:Str.ofString "_law_row"=Str.mk (.mk [95,108,97,119,95,114,111,119]):=by kernel_rfl
theorem at_45:Str.ofString "passed "=Str.mk (.mk [112,97,115,115,101,100,32]):=by kernel_rfl
theorem at_46:Str.ofString ""=Str.mk (.mk []):=by kernel_rfl
theorem at_47:Str.ofString "passed"=Str.mk (.mk [112,97,115,115,101,100]):=by kernel_rfl
theorem at_48:Str.ofString "law"=Str.mk (.mk [108,97,119]):=by kernel_rfl
theorem at_49:Str.ofString "_law_script"=Str.mk (.mk [95,108,97,119,95,115,99,114,105,112,116]):=by kernel_rfl
theorem at_50:Str.ofString "_law_how"=Str.mk (.mk [95,108,97,119,95,104,111,119]):=by kernel_rfl
theorem at_51:Str.ofString "_law_at"=Str.mk (.mk [95,108,97,119,95,97,116]):=by kernel_rfl
theorem at_52:Str.ofString "_law_gates"=Str.mk (.mk [95,108,97,119,95,103,97,116,101,115]):=by kernel_rfl
theorem at_53:Str.ofString "Beach"=Str.mk (.mk [66,101,97,99,104]):=by kernel_rfl
theorem at_54:Str.ofString "Desk"=Str.mk (.mk [68,101,115,107]):=by kernel_rfl
theorem at_55:Str.ofString "put"=Str.mk (.mk [112,117,116]):=by kernel_rfl
theorem at_56:Str.ofString "put "=Str.mk (.mk [112,117,116,32]):=by kernel_rfl
theorem at_57:Str.ofString "_law_part_here"=Str.mk (.mk [95,108,97,119,95,112,97,114,116,95,104,101,114,101]):=by kernel_rfl
theorem at_58:Str.ofString "_law_gate"=Str.mk (.mk [95,108,97,119,95,103,97,116,101]):=by kernel_rfl
theorem at_59:Str.ofString "_law_run"=Str.mk (.mk [95,108,97,119,95,114,117,110]):=by kernel_rfl
theorem at_60:Str.ofString ":"=Str.mk (.mk [58]):=by kernel_rfl
theorem at_61:Str.ofString "runs"=Str.mk (.mk [114,117,110,115]):=by kernel_rfl
theorem at_62:Str.ofString "_law_due"=Str.mk (.mk [95,108,97,119,95,100,117,101]):=by kernel_rfl
theorem at_63:Str.ofString "refused: wrong size"=Str.mk (.mk [114,101,102,117,115,101,100,58,32,119,114,111,110,103,32,115,105,122,101]):=by kernel_rfl
theorem at_64:Str.ofString "_law_told"=Str.mk (.mk [95,108,97,119,95,116,111,108,100]):=by kernel_rfl
theorem at_65:Str.ofString "most"=Str.mk (.mk [109,111,115,116]):=by kernel_rfl
theorem at_66:Str.ofString "most "=Str.mk (.mk [109,111,115,116,32]):=by kernel_rfl
theorem at_67:Str.ofString " throw "=Str.mk (.mk [32,116,104,114,111,119,32]):=by kernel_rfl
theorem at_68:Str.ofString "_law_cell"=Str.mk (.mk [95,108,97,119,95,99,101,108,108]):=by kernel_rfl
theorem at_69:Str.ofString "_law_one"=Str.mk (.mk [95,108,97,119,95,111,110,101]):=by kernel_rfl
theorem at_70:Str.ofString "__name__"=Str.mk (.mk [95,95,110,97,109,101,95,95]):=by kernel_rfl
theorem at_71:Str.ofString "law_throwgate_k35_desk_as_beach"=Str.mk (.mk [108,97,119,95,116,104,114,111,119,103,97,116,101,95,107,51,53,95,100,101,115,107,95,97,115,95,98,101,97,99,104]):=by kernel_rfl
theorem at_72:Str.ofString "_law_spread"=Str.mk (.mk [95,108,97,119,95,115,112,114,101,97,100]):=by kernel_rfl
theorem at_73:Str.ofString "_law_many"=Str.mk (.mk [95,108,97,119,95,109,97,110,121]):=by kernel_rfl
theorem at_74:Str.ofString "_law_mixed"=Str.mk (.mk [95,108,97,119,95,109,105,120,101,100]):=by kernel_rfl
theorem at_75:Str.ofString "_law_left"=Str.mk (.mk [95,108,97,119,95,108,101,102,116]):=by kernel_rfl
theorem at_76:Str.ofString "_law_once"=Str.mk (.mk [95,108,97,119,95,111,110,99,101]):=by kernel_rfl
theorem at_77:Str.ofString "append"=Str.mk (.mk [97,112,112,101,110,100]):=by kernel_rfl
theorem at_78:Str.ofString "_law_heights"=Str.mk (.mk [95,108,97,119,95,104,101,105,103,104,116,115]):=by kernel_rfl
theorem at_79:Str.ofString "_law_kind"=Str.mk (.mk [95,108,97,119,95,107,105,110,100]):=by kernel_rfl
theorem at_80:Str.ofString "_law_line"=Str.mk (.mk [95,108,97,119,95,108,105,110,101]):=by kernel_rfl
theorem at_81:Str.ofString "_law_wide"=Str.mk (.mk [95,108,97,119,95,119,105,100,101]):=by kernel_rfl
theorem at_82:Str.ofString "_law_low"=Str.mk (.mk [95,108,97,119,95,108,111,119]):=by kernel_rfl
theorem at_83:Str.ofString "_law_high"=Str.mk (.mk [95,108,97,119,95,104,105,103,104]):=by kernel_rfl
theorem at_84:Str.ofString "_law_under"=Str.mk (.mk [95,108,97,119,95,117,110,100,101,114]):=by kernel_rfl
theorem at_85:Str.ofString "_law_over"=Str.mk (.mk [95,108,97,119,95,111,118,101,114]):=by kernel_rfl
theorem at_86:Str.ofString "_law_at_here"=Str.mk (.mk [95,108,97,119,95,97,116,95,104,101,114,101]):=by kernel_rfl
theorem at_87:Str.ofString "_law_lows"=Str.mk (.mk [95,108,97,119,95,108,111,119,115]):=by kernel_rfl
theorem at_88:Str.ofString "_law_highs"=Str.mk (.mk [95,108,97,119,95,104,105,103,104,115]):=by kernel_rfl
theorem at_89:Str.ofString "_law_span"=Str.mk (.mk [95,108,97,119,95,115,112,97,110]):=by kernel_rfl
theorem at_90:Str.ofString "max"=Str.mk (.mk [109,97,120]):=by kernel_rfl
theorem at_91:Str.ofString "_law_near"=Str.mk (.mk [95,108,97,119,95,110,101,97,114]):=by kernel_rfl
theorem at_92:Str.ofString "_law_ends"=Str.mk (.mk [95,108,97,119,95,101,110,100,115]):=by kernel_rfl
theorem at_93:Str.ofString "_law_made"=Str.mk (.mk [95,108,97,119,95,109,97,100,101]):=by kernel_rfl
theorem at_94:Str.ofString "_law_used"=Str.mk (.mk [95,108,97,119,95,117,115,101,100]):=by kernel_rfl
theorem at_95:Str.ofString "_law_step"=Str.mk (.mk [95,108,97,119,95,115,116,101,112]):=by kernel_rfl
theorem at_96:Str.ofString "_law_foot"=Str.mk (.mk [95,108,97,119,95,102,111,111,116]):=by kernel_rfl
theorem at_97:Str.ofString "_law_head"=Str.mk (.mk [95,108,97,119,95,104,101,97,100]):=by kernel_rfl
theorem at_98:Str.ofString "min"=Str.mk (.mk [109,105,110]):=by kernel_rfl
theorem at_99:Str.ofString "int"=Str.mk (.mk [105,110,116]):=by kernel_rfl
theorem cA:Str.ofString "bool"=Str.mk (.mk [98,111,111,108]):=by kernel_rfl
theorem iG:Str.ofString "_law_two"=Str.mk (.mk [95,108,97,119,95,116,119,111]):=by kernel_rfl
theorem gF:Str.ofString "runs_row"=Str.mk (.mk [114,117,110,115,95,114,111,119]):=by kernel_rfl
theorem iq:Str.ofString "beach"=Str.mk (.mk [98,101,97,99,104]):=by kernel_rfl
theorem dP:Str.ofString "words"=Str.mk (.mk [119,111,114,100,115]):=by kernel_rfl
theorem eK:Str.ofString "check_many"=Str.mk (.mk [99,104,101,99,107,95,109,97,110,121]):=by kernel_rfl
theorem iP:Str.ofString "run_word"=Str.mk (.mk [114,117,110,95,119,111,114,100]):=by kernel_rfl
theorem bb:Str.ofString "run"=Str.mk (.mk [114,117,110]):=by kernel_rfl
theorem jA:Str.ofString "most_row"=Str.mk (.mk [109,111,115,116,95,114,111,119]):=by kernel_rfl
theorem gj:Str.ofString "told"=Str.mk (.mk [116,111,108,100]):=by kernel_rfl
theorem jM:Str.ofString "number_words"=Str.mk (.mk [110,117,109,98,101,114,95,119,111,114,100,115]):=by kernel_rfl
theorem dX:Str.ofString "throw"=Str.mk (.mk [116,104,114,111,119]):=by kernel_rfl
theorem jg:Str.ofString "throw_words"=Str.mk (.mk [116,104,114,111,119,95,119,111,114,100,115]):=by kernel_rfl
theorem dB:Str.ofString "passed_row"=Str.mk (.mk [112,97,115,115,101,100,95,114,111,119]):=by kernel_rfl
theorem jq:Str.ofString "height"=Str.mk (.mk [104,101,105,103,104,116]):=by kernel_rfl
theorem jO:Str.ofString "read_fraction"=Str.mk (.mk [114,101,97,100,95,102,114,97,99,116,105,111,110]):=by kernel_rfl
theorem iQ:Str.ofString "rise"=Str.mk (.mk [114,105,115,101]):=by kernel_rfl
theorem gh:Str.ofString "ROWS"=Str.mk (.mk [82,79,87,83]):=by kernel_rfl
theorem fP:Str.ofString "take"=Str.mk (.mk [116,97,107,101]):=by kernel_rfl
theorem jy:Str.ofString "lift"=Str.mk (.mk [108,105,102,116]):=by kernel_rfl
theorem iO:Str.ofString "sink"=Str.mk (.mk [115,105,110,107]):=by kernel_rfl
theorem ci:Str.ofString "back"=Str.mk (.mk [98,97,99,107]):=by kernel_rfl
theorem jJ:Str.ofString "deeds"=Str.mk (.mk [100,101,101,100,115]):=by kernel_rfl
theorem cp:Str.ofString "gates"=Str.mk (.mk [103,97,116,101,115]):=by kernel_rfl
theorem dg:Str.ofString "put_row"=Str.mk (.mk [112,117,116,95,114,111,119]):=by kernel_rfl
theorem eZ:Str.ofString "take_row"=Str.mk (.mk [116,97,107,101,95,114,111,119]):=by kernel_rfl
theorem cQ:Str.ofString "lift_row"=Str.mk (.mk [108,105,102,116,95,114,111,119]):=by kernel_rfl
theorem io:Str.ofString "sink_row"=Str.mk (.mk [115,105,110,107,95,114,111,119]):=by kernel_rfl
theorem fg:Str.ofString "back_row"=Str.mk (.mk [98,97,99,107,95,114,111,119]):=by kernel_rfl
theorem iR:Str.ofString "deeds_row"=Str.mk (.mk [100,101,101,100,115,95,114,111,119]):=by kernel_rfl
theorem jE:Str.ofString "gates_row"=Str.mk (.mk [103,97,116,101,115,95,114,111,119]):=by kernel_rfl
theorem eY:Str.ofString "through_row"=Str.mk (.mk [116,104,114,111,117,103,104,95,114,111,119]):=by kernel_rfl
theorem dM:Str.ofString "steepest_row"=Str.mk (.mk [115,116,101,101,112,101,115,116,95,114,111,119]):=by kernel_rfl
theorem br:Str.ofString "flattest_row"=Str.mk (.mk [102,108,97,116,116,101,115,116,95,114,111,119]):=by kernel_rfl
theorem cw:Str.ofString "row_told"=Str.mk (.mk [114,111,119,95,116,111,108,100]):=by kernel_rfl
theorem iK:Str.ofString "row"=Str.mk (.mk [114,111,119]):=by kernel_rfl
theorem jt:Str.ofString "split"=Str.mk (.mk [115,112,108,105,116]):=by kernel_rfl
theorem ce:Str.ofString "asked"=Str.mk (.mk [97,115,107,101,100]):=by kernel_rfl
theorem dH:Str.ofString "get"=Str.mk (.mk [103,101,116]):=by kernel_rfl
theorem iV:Str.ofString "BadRow"=Str.mk (.mk [66,97,100,82,111,119]):=by kernel_rfl
theorem jc:Str.ofString "the desk does not know this word"=Str.mk (.mk [116,104,101,32,100,101,115,107,32,100,111,101,115,32,110,111,116,32,107,110,111,119,32,116,104,105,115,32,119,111,114,100]):=by kernel_rfl
theorem cn:Str.ofString "row_answer"=Str.mk (.mk [114,111,119,95,97,110,115,119,101,114]):=by kernel_rfl
theorem ir:Str.ofString "refused: bad row"=Str.mk (.mk [114,101,102,117,115,101,100,58,32,98,97,100,32,114,111,119]):=by kernel_rfl
theorem dw:Str.ofString "NoGate"=Str.mk (.mk [78,111,71,97,116,101]):=by kernel_rfl
theorem eO:Str.ofString "refused: no gate"=Str.mk (.mk [114,101,102,117,115,101,100,58,32,110,111,32,103,97,116,101]):=by kernel_rfl
theorem ca:Str.ofString "Taken"=Str.mk (.mk [84,97,107,101,110]):=by kernel_rfl
theorem dm:Str.ofString "refused: taken"=Str.mk (.mk [114,101,102,117,115,101,100,58,32,116,97,107,101,110]):=by kernel_rfl
theorem bc:Str.ofString "UpsideDown"=Str.mk (.mk [85,112,115,105,100,101,68,111,119,110]):=by kernel_rfl
theorem iS:Str.ofString "refused: upside down"=Str.mk (.mk [114,101,102,117,115,101,100,58,32,117,112,115,105,100,101,32,100,111,119,110]):=by kernel_rfl
theorem ib:Str.ofString "OutOfBounds"=Str.mk (.mk [79,117,116,79,102,66,111,117,110,100,115]):=by kernel_rfl
theorem cr:Str.ofString "refused: out of bounds"=Str.mk (.mk [114,101,102,117,115,101,100,58,32,111,117,116,32,111,102,32,98,111,117,110,100,115]):=by kernel_rfl
theorem dG:Str.ofString "BeachFull"=Str.mk (.mk [66,101,97,99,104,70,117,108,108]):=by kernel_rfl
theorem bh:Str.ofString "refused: beach full"=Str.mk (.mk [114,101,102,117,115,101,100,58,32,98,101,97,99,104,32,102,117,108,108]):=by kernel_rfl
theorem cB:Str.ofString "DeedsFull"=Str.mk (.mk [68,101,101,100,115,70,117,108,108]):=by kernel_rfl
theorem dU:Str.ofString "refused: deeds full"=Str.mk (.mk [114,101,102,117,115,101,100,58,32,100,101,101,100,115,32,102,117,108,108]):=by kernel_rfl
theorem cJ:Str.ofString "NothingBack"=Str.mk (.mk [78,111,116,104,105,110,103,66,97,99,107]):=by kernel_rfl
theorem fC:Str.ofString "refused: nothing back"=Str.mk (.mk [114,101,102,117,115,101,100,58,32,110,111,116,104,105,110,103,32,98,97,99,107]):=by kernel_rfl
theorem ie:Str.ofString "BadList"=Str.mk (.mk [66,97,100,76,105,115,116]):=by kernel_rfl
theorem dk:Str.ofString "refused: bad list"=Str.mk (.mk [114,101,102,117,115,101,100,58,32,98,97,100,32,108,105,115,116]):=by kernel_rfl
theorem jD:Str.ofString "TooFew"=Str.mk (.mk [84,111,111,70,101,119]):=by kernel_rfl
theorem il:Str.ofString "WrongSize"=Str.mk (.mk [87,114,111,110,103,83,105,122,101]):=by kernel_rfl
theorem jj:Str.ofString "BadThrow"=Str.mk (.mk [66,97,100,84,104,114,111,119]):=by kernel_rfl
theorem dI:Str.ofString "refused: bad throw"=Str.mk (.mk [114,101,102,117,115,101,100,58,32,98,97,100,32,116,104,114,111,119]):=by kernel_rfl
theorem gY:Str.ofString "__init__"=Str.mk (.mk [95,95,105,110,105,116,95,95]):=by kernel_rfl
theorem iC:Str.ofString "self"=Str.mk (.mk [115,101,108,102]):=by kernel_rfl
theorem fT:Str.ofString "deeds_text"=Str.mk (.mk [100,101,101,100,115,95,116,101,120,116]):=by kernel_rfl
theorem eI:Str.ofString "numbers"=Str.mk (.mk [110,117,109,98,101,114,115]):=by kernel_rfl
theorem jr:Str.ofString "read_so_many"=Str.mk (.mk [114,101,97,100,95,115,111,95,109,97,110,121]):=by kernel_rfl
theorem gQ:Str.ofString "gate"=Str.mk (.mk [103,97,116,101]):=by kernel_rfl
theorem c8:Str.ofString "through_text"=Str.mk (.mk [116,104,114,111,117,103,104,95,116,101,120,116]):=by kernel_rfl
theorem cP:Str.ofString "read_numbers"=Str.mk (.mk [114,101,97,100,95,110,117,109,98,101,114,115]):=by kernel_rfl
theorem cj:Str.ofString "many"=Str.mk (.mk [109,97,110,121]):=by kernel_rfl
theorem iI:Str.ofString "deeds "=Str.mk (.mk [100,101,101,100,115,32]):=by kernel_rfl
theorem je:Str.ofString "ends"=Str.mk (.mk [101,110,100,115]):=by kernel_rfl
theorem bj:Str.ofString "end"=Str.mk (.mk [101,110,100]):=by kernel_rfl
theorem gg:Str.ofString "place"=Str.mk (.mk [112,108,97,99,101]):=by kernel_rfl
theorem cC:Str.ofString "zip"=Str.mk (.mk [122,105,112]):=by kernel_rfl
theorem cF:Str.ofString "gate_text"=Str.mk (.mk [103,97,116,101,95,116,101,120,116]):=by kernel_rfl
theorem jb:Str.ofString "too few or too many words"=Str.mk (.mk [116,111,111,32,102,101,119,32,111,114,32,116,111,111,32,109,97,110,121,32,119,111,114,100,115]):=by kernel_rfl
theorem cK:Str.ofString "read_number"=Str.mk (.mk [114,101,97,100,95,110,117,109,98,101,114]):=by kernel_rfl
theorem iL:Str.ofString "word"=Str.mk (.mk [119,111,114,100]):=by kernel_rfl
theorem cu:Str.ofString "number"=Str.mk (.mk [110,117,109,98,101,114]):=by kernel_rfl
theorem fj:Str.ofString "write_fraction"=Str.mk (.mk [119,114,105,116,101,95,102,114,97,99,116,105,111,110]):=by kernel_rfl
theorem fX:Str.ofString "FIGURES"=Str.mk (.mk [70,73,71,85,82,69,83]):=by kernel_rfl
theorem gq:Str.ofString "0123456789"=Str.mk (.mk [48,49,50,51,52,53,54,55,56,57]):=by kernel_rfl
theorem da:Str.ofString "MOST_FIGURES"=Str.mk (.mk [77,79,83,84,95,70,73,71,85,82,69,83]):=by kernel_rfl
theorem i7:Str.ofString "are_figures"=Str.mk (.mk [97,114,101,95,102,105,103,117,114,101,115]):=by kernel_rfl
theorem cY:Str.ofString "text"=Str.mk (.mk [116,101,120,116]):=by kernel_rfl
theorem jF:Str.ofString "all"=Str.mk (.mk [97,108,108]):=by kernel_rfl
theorem iY:Str.ofString "sign"=Str.mk (.mk [115,105,103,110]):=by kernel_rfl
theorem dS:Str.ofString "0"=Str.mk (.mk [48]):=by kernel_rfl
theorem iA:Str.ofString "figures"=Str.mk (.mk [102,105,103,117,114,101,115]):=by kernel_rfl
theorem cT:Str.ofString "startswith"=Str.mk (.mk [115,116,97,114,116,115,119,105,116,104]):=by kernel_rfl
theorem jm:Str.ofString "-"=Str.mk (.mk [45]):=by kernel_rfl
theorem bo:Str.ofString "this is not how a number is written"=Str.mk (.mk [116,104,105,115,32,105,115,32,110,111,116,32,104,111,119,32,97,32,110,117,109,98,101,114,32,105,115,32,119,114,105,116,116,101,110]):=by kernel_rfl
theorem iX:Str.ofString "parts"=Str.mk (.mk [112,97,114,116,115]):=by kernel_rfl
theorem fD:Str.ofString "a fraction has one stroke at most"=Str.mk (.mk [97,32,102,114,97,99,116,105,111,110,32,104,97,115,32,111,110,101,32,115,116,114,111,107,101,32,97,116,32,109,111,115,116]):=by kernel_rfl
theorem bg:Str.ofString "top"=Str.mk (.mk [116,111,112]):=by kernel_rfl
theorem bn:Str.ofString "bottom"=Str.mk (.mk [98,111,116,116,111,109]):=by kernel_rfl
theorem dh:Str.ofString "fraction"=Str.mk (.mk [102,114,97,99,116,105,111,110]):=by kernel_rfl
theorem gd:Str.ofString "lowest"=Str.mk (.mk [108,111,119,101,115,116]):=by kernel_rfl
theorem cR:Str.ofString "throwgate.desk"=Str.mk (.mk [116,104,114,111,119,103,97,116,101,46,100,101,115,107]):=by kernel_rfl
theorem dQ:Str.ofString "throwgate.beach"=Str.mk (.mk [116,104,114,111,119,103,97,116,101,46,98,101,97,99,104]):=by kernel_rfl
theorem gR:Str.ofString "check_gate"=Str.mk (.mk [99,104,101,99,107,95,103,97,116,101]):=by kernel_rfl
theorem fJ:Str.ofString "the foot would be above the head"=Str.mk (.mk [116,104,101,32,102,111,111,116,32,119,111,117,108,100,32,98,101,32,97,98,111,118,101,32,116,104,101,32,104,101,97,100]):=by kernel_rfl
theorem cb:Str.ofString "LEAST"=Str.mk (.mk [76,69,65,83,84]):=by kernel_rfl
theorem jd:Str.ofString "GREATEST"=Str.mk (.mk [71,82,69,65,84,69,83,84]):=by kernel_rfl
theorem jZ:Str.ofString "a place, foot or head would be out of bounds"=Str.mk (.mk [97,32,112,108,97,99,101,44,32,102,111,111,116,32,111,114,32,104,101,97,100,32,119,111,117,108,100,32,98,101,32,111,117,116,32,111,102,32,98,111,117,110,100,115]):=by kernel_rfl
theorem gZ:Str.ofString "check_places"=Str.mk (.mk [99,104,101,99,107,95,112,108,97,99,101,115]):=by kernel_rfl
theorem jH:Str.ofString "places"=Str.mk (.mk [112,108,97,99,101,115]):=by kernel_rfl
theorem cx:Str.ofString "the list has no place"=Str.mk (.mk [116,104,101,32,108,105,115,116,32,104,97,115,32,110,111,32,112,108,97,99,101]):=by kernel_rfl
theorem gW:Str.ofString "MOST_GATES"=Str.mk (.mk [77,79,83,84,95,71,65,84,69,83]):=by kernel_rfl
theorem dN:Str.ofString "the list has too many places"=Str.mk (.mk [116,104,101,32,108,105,115,116,32,104,97,115,32,116,111,111,32,109,97,110,121,32,112,108,97,99,101,115]):=by kernel_rfl
theorem du:Str.ofString "set"=Str.mk (.mk [115,101,116]):=by kernel_rfl
theorem iE:Str.ofString "the list has a place twice"=Str.mk (.mk [116,104,101,32,108,105,115,116,32,104,97,115,32,97,32,112,108,97,99,101,32,116,119,105,99,101]):=by kernel_rfl
theorem jh:Str.ofString "check_throw"=Str.mk (.mk [99,104,101,99,107,95,116,104,114,111,119]):=by kernel_rfl
theorem bq:Str.ofString "a bottom is below 1"=Str.mk (.mk [97,32,98,111,116,116,111,109,32,105,115,32,98,101,108,111,119,32,49]):=by kernel_rfl
theorem cI:Str.ofString "GREAT_NUMBER"=Str.mk (.mk [71,82,69,65,84,95,78,85,77,66,69,82]):=by kernel_rfl
theorem iJ:Str.ofString "a number of the throw is too great"=Str.mk (.mk [97,32,110,117,109,98,101,114,32,111,102,32,116,104,101,32,116,104,114,111,119,32,105,115,32,116,111,111,32,103,114,101,97,116]):=by kernel_rfl
theorem gf:Str.ofString "standing"=Str.mk (.mk [115,116,97,110,100,105,110,103]):=by kernel_rfl
theorem cf:Str.ofString "past"=Str.mk (.mk [112,97,115,116]):=by kernel_rfl
theorem fB:Str.ofString "has_gate"=Str.mk (.mk [104,97,115,95,103,97,116,101]):=by kernel_rfl
theorem ic:Str.ofString "gate_at"=Str.mk (.mk [103,97,116,101,95,97,116]):=by kernel_rfl
theorem jV:Str.ofString "no gate stands at this place"=Str.mk (.mk [110,111,32,103,97,116,101,32,115,116,97,110,100,115,32,97,116,32,116,104,105,115,32,112,108,97,99,101]):=by kernel_rfl
theorem bv:Str.ofString "do_deed"=Str.mk (.mk [100,111,95,100,101,101,100]):=by kernel_rfl
theorem eJ:Str.ofString "instead"=Str.mk (.mk [105,110,115,116,101,97,100]):=by kernel_rfl
theorem fc:Str.ofString "MOST_DEEDS"=Str.mk (.mk [77,79,83,84,95,68,69,69,68,83]):=by kernel_rfl
theorem ge:Str.ofString "no more deeds may stand"=Str.mk (.mk [110,111,32,109,111,114,101,32,100,101,101,100,115,32,109,97,121,32,115,116,97,110,100]):=by kernel_rfl
theorem dC:Str.ofString "others"=Str.mk (.mk [111,116,104,101,114,115]):=by kernel_rfl
theorem bV:Str.ofString "sorted"=Str.mk (.mk [115,111,114,116,101,100]):=by kernel_rfl
theorem gO:Str.ofString "a gate stands at this place already"=Str.mk (.mk [97,32,103,97,116,101,32,115,116,97,110,100,115,32,97,116,32,116,104,105,115,32,112,108,97,99,101,32,97,108,114,101,97,100,121]):=by kernel_rfl
theorem jX:Str.ofString "no more gates may stand"=Str.mk (.mk [110,111,32,109,111,114,101,32,103,97,116,101,115,32,109,97,121,32,115,116,97,110,100]):=by kernel_rfl
theorem cU:Str.ofString "foot_by"=Str.mk (.mk [102,111,111,116,95,98,121]):=by kernel_rfl
theorem ig:Str.ofString "head_by"=Str.mk (.mk [104,101,97,100,95,98,121]):=by kernel_rfl
theorem dR:Str.ofString "before"=Str.mk (.mk [98,101,102,111,114,101]):=by kernel_rfl
theorem gU:Str.ofString "one deed is the least that is taken back"=Str.mk (.mk [111,110,101,32,100,101,101,100,32,105,115,32,116,104,101,32,108,101,97,115,116,32,116,104,97,116,32,105,115,32,116,97,107,101,110,32,98,97,99,107]):=by kernel_rfl
theorem eG:Str.ofString "fewer deeds stand"=Str.mk (.mk [102,101,119,101,114,32,100,101,101,100,115,32,115,116,97,110,100]):=by kernel_rfl
theorem fL:Str.ofString "left"=Str.mk (.mk [108,101,102,116]):=by kernel_rfl
theorem jf:Str.ofString "gates_at"=Str.mk (.mk [103,97,116,101,115,95,97,116]):=by kernel_rfl
theorem eV:Str.ofString "two_gates_at"=Str.mk (.mk [116,119,111,95,103,97,116,101,115,95,97,116]):=by kernel_rfl
theorem i9:Str.ofString "one gate alone has no steepest and no flattest throw"=Str.mk (.mk [111,110,101,32,103,97,116,101,32,97,108,111,110,101,32,104,97,115,32,110,111,32,115,116,101,101,112,101,115,116,32,97,110,100,32,110,111,32,102,108,97,116,116,101,115,116,32,116,104,114,111,119]):=by kernel_rfl
theorem bW:Str.ofString "throw_through"=Str.mk (.mk [116,104,114,111,119,95,116,104,114,111,117,103,104]):=by kernel_rfl
theorem jo:Str.ofString "steepest_throw"=Str.mk (.mk [115,116,101,101,112,101,115,116,95,116,104,114,111,119]):=by kernel_rfl
theorem iW:Str.ofString "flattest_throw"=Str.mk (.mk [102,108,97,116,116,101,115,116,95,116,104,114,111,119]):=by kernel_rfl
theorem dO:Str.ofString "fewest_runs"=Str.mk (.mk [102,101,119,101,115,116,95,114,117,110,115]):=by kernel_rfl
theorem bZ:Str.ofString "SMALL_BEACH"=Str.mk (.mk [83,77,65,76,76,95,66,69,65,67,72]):=by kernel_rfl
theorem gI:Str.ofString "the most are told of a small beach that is not empty"=Str.mk (.mk [116,104,101,32,109,111,115,116,32,97,114,101,32,116,111,108,100,32,111,102,32,97,32,115,109,97,108,108,32,98,101,97,99,104,32,116,104,97,116,32,105,115,32,110,111,116,32,101,109,112,116,121]):=by kernel_rfl
theorem gK:Str.ofString "most_gates"=Str.mk (.mk [109,111,115,116,95,103,97,116,101,115]):=by kernel_rfl
theorem gH:Str.ofString "places_passed"=Str.mk (.mk [112,108,97,99,101,115,95,112,97,115,115,101,100]):=by kernel_rfl
theorem jI:Str.ofString "throwgate.texts"=Str.mk (.mk [116,104,114,111,119,103,97,116,101,46,116,101,120,116,115]):=by kernel_rfl
theorem gL:Str.ofString "found"=Str.mk (.mk [102,111,117,110,100]):=by kernel_rfl
theorem dW:Str.ofString "steepest_found"=Str.mk (.mk [115,116,101,101,112,101,115,116,95,102,111,117,110,100]):=by kernel_rfl
theorem jN:Str.ofString "turned_over"=Str.mk (.mk [116,117,114,110,101,100,95,111,118,101,114]):=by kernel_rfl
theorem dZ:Str.ofString "bar_told"=Str.mk (.mk [98,97,114,95,116,111,108,100]):=by kernel_rfl
theorem gJ:Str.ofString "turned_throw"=Str.mk (.mk [116,117,114,110,101,100,95,116,104,114,111,119]):=by kernel_rfl
theorem jp:Str.ofString "throwgate.shore"=Str.mk (.mk [116,104,114,111,119,103,97,116,101,46,115,104,111,114,101]):=by kernel_rfl
theorem b9:Str.ofString "run_told"=Str.mk (.mk [114,117,110,95,116,111,108,100]):=by kernel_rfl
theorem dE:Str.ofString "longer"=Str.mk (.mk [108,111,110,103,101,114]):=by kernel_rfl
theorem fK:Str.ofString "longer_throw"=Str.mk (.mk [108,111,110,103,101,114,95,116,104,114,111,119]):=by kernel_rfl
theorem b8:Str.ofString "common_throw"=Str.mk (.mk [99,111,109,109,111,110,95,116,104,114,111,119]):=by kernel_rfl
theorem cz:Str.ofString "throwgate.small"=Str.mk (.mk [116,104,114,111,119,103,97,116,101,46,115,109,97,108,108]):=by kernel_rfl
theorem jR:Str.ofString "tried_throws"=Str.mk (.mk [116,114,105,101,100,95,116,104,114,111,119,115]):=by kernel_rfl
theorem ba:Str.ofString "ordered"=Str.mk (.mk [111,114,100,101,114,101,100]):=by kernel_rfl
theorem fU:Str.ofString "throws"=Str.mk (.mk [116,104,114,111,119,115]):=by kernel_rfl
theorem i4:Str.ofString "index"=Str.mk (.mk [105,110,100,101,120]):=by kernel_rfl
theorem cE:Str.ofString "earlier"=Str.mk (.mk [101,97,114,108,105,101,114]):=by kernel_rfl
theorem fH:Str.ofString "enumerate"=Str.mk (.mk [101,110,117,109,101,114,97,116,101]):=by kernel_rfl
theorem gE:Str.ofString "later"=Str.mk (.mk [108,97,116,101,114]):=by kernel_rfl
theorem iD:Str.ofString "line_by"=Str.mk (.mk [108,105,110,101,95,98,121]):=by kernel_rfl
theorem iN:Str.ofString "tried"=Str.mk (.mk [116,114,105,101,100]):=by kernel_rfl
theorem fz:Str.ofString "key"=Str.mk (.mk [107,101,121]):=by kernel_rfl
theorem cL:Str.ofString "level_throw"=Str.mk (.mk [108,101,118,101,108,95,116,104,114,111,119]):=by kernel_rfl
theorem jv:Str.ofString "first_three"=Str.mk (.mk [102,105,114,115,116,95,116,104,114,101,101]):=by kernel_rfl
theorem c6:Str.ofString "throwgate.lists"=Str.mk (.mk [116,104,114,111,119,103,97,116,101,46,108,105,115,116,115]):=by kernel_rfl
theorem ik:Str.ofString "passes_all"=Str.mk (.mk [112,97,115,115,101,115,95,97,108,108]):=by kernel_rfl
theorem gT:Str.ofString "passes"=Str.mk (.mk [112,97,115,115,101,115]):=by kernel_rfl
theorem dj:Str.ofString "foot_to_head"=Str.mk (.mk [102,111,111,116,95,116,111,95,104,101,97,100]):=by kernel_rfl
theorem eX:Str.ofString "tightest_pair"=Str.mk (.mk [116,105,103,104,116,101,115,116,95,112,97,105,114]):=by kernel_rfl
theorem gi:Str.ofString "pair"=Str.mk (.mk [112,97,105,114]):=by kernel_rfl
theorem cg:Str.ofString "compare"=Str.mk (.mk [99,111,109,112,97,114,101]):=by kernel_rfl
theorem fM:Str.ofString "foot_place"=Str.mk (.mk [102,111,111,116,95,112,108,97,99,101]):=by kernel_rfl
theorem gG:Str.ofString "head_place"=Str.mk (.mk [104,101,97,100,95,112,108,97,99,101]):=by kernel_rfl
theorem i5:Str.ofString "divisor"=Str.mk (.mk [100,105,118,105,115,111,114]):=by kernel_rfl
theorem gN:Str.ofString "greatest_divisor"=Str.mk (.mk [103,114,101,97,116,101,115,116,95,100,105,118,105,115,111,114]):=by kernel_rfl
theorem jW:Str.ofString "one"=Str.mk (.mk [111,110,101]):=by kernel_rfl
theorem dD:Str.ofString "two"=Str.mk (.mk [116,119,111]):=by kernel_rfl
theorem ja:Str.ofString "right"=Str.mk (.mk [114,105,103,104,116]):=by kernel_rfl
theorem fE:Str.ofString "throwgate.lines"=Str.mk (.mk [116,104,114,111,119,103,97,116,101,46,108,105,110,101,115]):=by kernel_rfl
theorem fo:Str.ofString "height_at"=Str.mk (.mk [104,101,105,103,104,116,95,97,116]):=by kernel_rfl
theorem dr:Str.ofString "height_top"=Str.mk (.mk [104,101,105,103,104,116,95,116,111,112]):=by kernel_rfl
theorem jQ:Str.ofString "height_bottom"=Str.mk (.mk [104,101,105,103,104,116,95,98,111,116,116,111,109]):=by kernel_rfl
theorem fZ:Str.ofString "rise_top"=Str.mk (.mk [114,105,115,101,95,116,111,112]):=by kernel_rfl
theorem c7:Str.ofString "rise_bottom"=Str.mk (.mk [114,105,115,101,95,98,111,116,116,111,109]):=by kernel_rfl
theorem fu:Str.ofString "other"=Str.mk (.mk [111,116,104,101,114]):=by kernel_rfl
theorem cD:Str.ofString "second"=Str.mk (.mk [115,101,99,111,110,100]):=by kernel_rfl
theorem jB:Str.ofString "steps"=Str.mk (.mk [115,116,101,112,115]):=by kernel_rfl
theorem fS:Str.ofString "gain"=Str.mk (.mk [103,97,105,110]):=by kernel_rfl
theorem fR:Str.ofString "start"=Str.mk (.mk [115,116,97,114,116]):=by kernel_rfl
theorem cX:Str.ofString "BeachError"=Str.mk (.mk [66,101,97,99,104,69,114,114,111,114]):=by kernel_rfl
theorem hX:Str.ofString "throwgate.bars"=Str.mk (.mk [116,104,114,111,119,103,97,116,101,46,98,97,114,115]):=by kernel_rfl
theorem jY:Str.ofString "side_of_line"=Str.mk (.mk [115,105,100,101,95,111,102,95,108,105,110,101]):=by kernel_rfl
theorem iT:Str.ofString "barring"=Str.mk (.mk [98,97,114,114,105,110,103]):=by kernel_rfl
theorem iu:Str.ofString "three"=Str.mk (.mk [116,104,114,101,101]):=by kernel_rfl
theorem fI:Str.ofString "count"=Str.mk (.mk [99,111,117,110,116]):=by kernel_rfl
theorem jL:Str.ofString "first"=Str.mk (.mk [102,105,114,115,116]):=by kernel_rfl
theorem em:Str.ofString "middle"=Str.mk (.mk [109,105,100,100,108,101]):=by kernel_rfl
theorem gz:Str.ofString "last"=Str.mk (.mk [108,97,115,116]):=by kernel_rfl
theorem de:Str.ofString "throwgate.fracs"=Str.mk (.mk [116,104,114,111,119,103,97,116,101,46,102,114,97,99,115]):=by kernel_rfl
theorem fA:Str.ofString "rest"=Str.mk (.mk [114,101,115,116]):=by kernel_rfl
theorem dq:Str.ofString "next_rest"=Str.mk (.mk [110,101,120,116,95,114,101,115,116]):=by kernel_rfl
theorem dA:Str.ofString "throwgate.errors"=Str.mk (.mk [116,104,114,111,119,103,97,116,101,46,101,114,114,111,114,115]):=by kernel_rfl
theorem jU:Str.ofString "ValueError"=Str.mk (.mk [86,97,108,117,101,69,114,114,111,114]):=by kernel_rfl
theorem jn:Str.ofString "/claim/cut.py"=Str.mk (.mk [47,99,108,97,105,109,47,99,117,116,46,112,121]):=by kernel_rfl
noncomputable def Tw:PSigma fun t:Program=>PySem.Challenge.pw_throwgate_k35_desk_as_beach=t:=by
 have h:=Gq
 simp only [EqA,at_0,at_1,at_2,at_3,at_4,at_5,at_6,at_7,at_8,at_9,at_10,at_11,at_12,at_13,at_14,at_15,at_16,at_17,at_18,at_19,at_20,at_21,at_22,at_23,at_24,at_25,at_26,at_27,at_28,at_29,at_30,at_31,at_32,at_33,at_34,at_35,at_36,at_37,at_38,at_39,at_40,at_41,at_42,at_43,at_44,at_45,at_46,at_47,at_48,at_49,at_50,at_51,at_52,at_53,at_54,at_55,at_56,at_57,at_58,at_59,at_60,at_61,at_62,at_63,at_64,at_65,at_66,at_67,at_68,at_69,at_70,at_71,at_72,at_73,at_74,at_75,at_76,at_77,at_78,at_79,at_80,at_81,at_82,at_83,at_84,at_85,at_86,at_87,at_88,at_89,at_90,at_91,at_92,at_93,at_94,at_95,at_96,at_97,at_98,at_99,cA,iG,gF,iq,dP,eK,iP,bb,jA,gj,jM,dX,jg,dB,jq,jO,iQ,gh,fP,jy,iO,ci,jJ,cp,dg,eZ,cQ,io,fg,iR,jE,eY,dM,br,cw,iK,jt,ce,dH,iV,jc,cn,ir,dw,eO,ca,dm,bc,iS,ib,cr,dG,bh,cB,dU,cJ,fC,ie,dk,jD,il,jj,dI,gY,iC,fT,eI,jr,gQ,c8,cP,cj,iI,je,bj,gg,cC,cF,jb,cK,iL,cu,fj,fX,gq,da,i7,cY,jF,iY,dS,iA,cT,jm,bo,iX,fD,bg,bn,dh,gd,cR,dQ,gR,fJ,cb,jd,jZ,gZ,jH,cx,gW,dN,du,iE,jh,bq,cI,iJ,gf,cf,fB,ic,jV,bv,eJ,fc,ge,dC,bV,gO,jX,cU,ig,dR,gU,eG,fL,jf,eV,i9,bW,jo,iW,dO,bZ,gI,gK,gH,jI,gL,dW,jN,dZ,gJ,jp,b9,dE,fK,b8,cz,jR,ba,fU,i4,cE,fH,gE,iD,iN,fz,cL,jv,c6,ik,gT,dj,eX,gi,cg,fM,gG,i5,gN,jW,dD,ja,fE,fo,dr,jQ,fZ,c7,fu,cD,jB,fS,fR,cX,hX,jY,iT,iu,fI,jL,em,gz,de,fA,dq,dA,jU,jn] at h
 exact ⟨_,h⟩
noncomputable def _root_.PySem.W.Fast.tw15406097948814013470:PySem.Program:=TG.Tw.1
theorem _root_.PySem.W.Fast.te15406097948814013470:PySem.Challenge.pw_throwgate_k35_desk_as_beach=PySem.W.Fast.tw15406097948814013470:=TG.Tw.2
set_option hygiene false
local macro_rules | `(tactic| walk_at "NX") => `(tactic| (refine hM _ _ ?_; clear hM; clear M))
local macro_rules | `(tactic| walk_at "Q") => `(tactic| (refine JD fun M hM => ?_))
local macro_rules | `(tactic| walk_at "LN") => `(tactic| (first | (obtain ⟨rfl, _⟩ := h; rfl) | (obtain ⟨_, h⟩ := h; walk_at "LN")))
local macro_rules | `(tactic| walk_at "I2") => `(tactic| (intro cdv A outer s H vs Q E hr h; have hu := bG hr))
local macro_rules | `(tactic| walk_at "b1") => `(tactic| (obtain ⟨x0, rfl⟩ := ZG hl; rfl))
local macro_rules | `(tactic| walk_at "b2") => `(tactic| (obtain ⟨x0, x1, rfl⟩ := dL hl; rfl))
local macro_rules | `(tactic| walk_at "b3") => `(tactic| (obtain ⟨x0, x1, x2, rfl⟩ := ZT hl; rfl))
local macro_rules | `(tactic| walk_at "b4") => `(tactic| (obtain ⟨x0, x1, x2, x3, rfl⟩ := len4 hl; rfl))
local macro_rules | `(tactic| walk_at "b5") => `(tactic| (obtain ⟨x0, x1, x2, x3, x4, rfl⟩ := len5 hl; rfl))
local macro_rules | `(tactic| walk_at "SC") => `(tactic| (exact ⟨rfl, rfl, rfl, by decide +kernel, rfl, by decide +kernel, by decide +kernel⟩))
local macro_rules | `(tactic| walk_at "SQT") => `(tactic| (first | with_reducible assumption | exact SqT.of (by with_reducible assumption) | exact AG.tup (by with_reducible assumption) (by walk_at "SQT")))
local macro_rules | `(tactic| walk_at "SQL") => `(tactic| (first | with_reducible assumption | exact SqL.of (by with_reducible assumption) | exact AG.seq (by with_reducible assumption) (by walk_at "SQL")))
local macro_rules | `(tactic| walk_at "SAT") => `(tactic| (first | with_reducible assumption | exact AG.get (by with_reducible assumption) (by walk_at "SAT")))
local macro_rules | `(tactic| walk_at "SAME") => `(tactic| (first | with_reducible assumption | exact AG.refl _ | exact AG.trans (by with_reducible assumption) (by walk_at "SAME")))
local macro_rules | `(tactic| walk_at "STEP") => `(tactic| ((first | (with_reducible refine ⟨_, rfl, ?_⟩) | (with_reducible apply Mc; · exact rfl) | (with_reducible apply Mc; · (walk_at "SQT")) | (with_reducible apply Mc; · (walk_at "SQL")) | (with_reducible apply Mc; · (walk_at "SAT")) | (with_reducible apply Mc; · exact VN (by omega) (by omega)) | (with_reducible apply exOrL; · (walk_at "SQL")) | (with_reducible apply exOrR; · (walk_at "SQT")) | (with_reducible apply Mc; · exact Jp.tup (by walk_at "SAT")) | (with_reducible apply Mc; · exact Jp.lst (by walk_at "SAT")) | (with_reducible apply Mc; · exact Jp.int _) | (with_reducible apply Mc; · exact Jp.str _) | (with_reducible apply And.intro; · (first | exact rfl | exact DY | exact Dg | decide | with_reducible assumption | omega | exact ⟨_, rfl⟩ | exact ⟨_, (by walk_at "SQL")⟩ | exact ⟨_, (by walk_at "SQT")⟩ | exact ⟨_, (by walk_at "SAT")⟩ | (simp only [List.length_map, List.length_append, List.length_cons, List.length_nil, PySem.sizeLine_eq]; omega) | first | with_reducible assumption | exact Sm.of (n := 10 ^ 120) (by omega) (by decide +kernel))) | (with_reducible intro p H' hn hs he; (have ck := jk hs); clear ck) | (with_reducible apply Vp; · (first | decide | (simp; done) | (simp; omega))) | (with_reducible apply dJ; · (first | decide | (simp; done) | (simp; omega))))))
local macro_rules | `(tactic| walk_at "AUTO") => `(tactic| (repeat walk_at "STEP"))
local macro_rules | `(tactic| delta $ids*) => do
  let ls ← ids.mapM fun i=>`(Lean.Parser.Tactic.simpLemma| $i:ident)
  `(tactic| (try dsimp only [Ux,Ry,Vy,QY,Vr,Vf,QJ,EH,ME,tOp,tUn,Nr,tC,Jf,JK,Nd,JG,tCB,Ky,Ka,rI,rI0,rU,rEq,rNe,EZ,EV,Ei,EW,EY,Eh,EO,DY,EQ,Dg,Eb,ET,Ej,EN,Ra,RY,tOr,LB,K7,tB,Rx,QF,Kd,Dd,GA,F5,Fw,Ri,LY,Pa,Hs,O9,Rk,KZ,De,Hh,LF,Ki,Dj,EM,tSl,Rf,Db,K0,Re,LH,RV,rIn,Rp,IW,Kw,Rg,LQ,LX,L2.start,if_true,if_false,List.map_cons,List.map_nil,List.length_cons,List.length_nil,List.cons_append,List.nil_append,List.replicate,List.set_cons_zero,List.set_cons_succ,List.getElem?_cons_zero,List.getElem?_cons_succ,Nat.reduceAdd,Nat.reduceSub,Int.reduceToNat,Int.reduceNeg,Int.reduceMul,Int.reduceAdd,Int.reduceSub,$ls,*]);(try simp only [Ux,Ry,Vy,QY,Vr,Vf,QJ,EH,ME,tOp,tUn,Nr,tC,Jf,JK,Nd,JG,tCB,Ky,Ka,rI,rI0,rU,rEq,rNe,EZ,EV,Ei,EW,EY,Eh,EO,DY,EQ,Dg,Eb,ET,Ej,EN,Ra,RY,tOr,LB,K7,tB,Rx,QF,WF,Ts,Kd,Dd,GA,F5,Fw,Ri,LY,Pa,Hs,O9,Rk,KZ,De,Hh,LF,Ki,Dj,EM,tSl,Rf,Db,K0,Re,LH,RV,rIn,Rp,IW,Kw,Rg,LQ,LX,L2.start,cxK,exists_and_right,and_assoc,Int.reduceLE,Int.reduceLT,Nat.reduceLT,Nat.reducePow,Int.reducePow,N5,Si,false_and,exists_false,and_false,if_true,if_false,decide_true,decide_false,Bool.false_eq_true,Bool.not_true,Bool.not_false,List.map_cons,List.map_nil,List.length_cons,List.length_nil,List.cons_append,List.nil_append,List.append_nil,List.replicate,List.set_cons_zero,List.set_cons_succ,List.getElem?_cons_zero,List.getElem?_cons_succ,Option.some.injEq,V.int.injEq,V.bl.injEq,V.ref.injEq,V.ty.injEq,V.str.injEq,List.cons.injEq,exists_eq_left',exists_and_left,exists_eq_left,true_and,and_true,true_or,or_true,Nat.reduceAdd,Nat.reduceSub,Int.reduceToNat,Int.reduceNeg,Int.reduceMul,Int.reduceAdd,Int.reduceSub,Bool.not_eq_true,Bool.not_not,forall_const,$ls,*]))
noncomputable def Dk:List (Str×Str):=[("put","put_row"),("take","take_row"),("lift","lift_row"),("sink","sink_row"),("back","back_row"),("deeds","deeds_row"),("gates","gates_row"),("through","through_row"),("steepest","steepest_row"),("flattest","flattest_row"),("runs","runs_row"),("most","most_row"),("passed","passed_row")]
noncomputable def top (i:Nat):Stmt:=PySem.Challenge.pw_throwgate_k35_desk_as_beach.main.body.getD i (.Pass ⟨0,0,0,0⟩)
noncomputable abbrev Eo:Stmt:=top 21
noncomputable abbrev N0:Stmt:=top 22
noncomputable abbrev Ft:Stmt:=top 23
noncomputable abbrev Ce:Stmt:=top 25
noncomputable abbrev P9:Stmt:=top 26
noncomputable abbrev OH:Stmt:=top 27
noncomputable abbrev Ix:Stmt:=top 29
noncomputable abbrev OC:Stmt:=top 30
noncomputable abbrev RA:Stmt:=top 31
noncomputable abbrev G4:Stmt:=top 33
noncomputable abbrev Dt:Stmt:=top 34
noncomputable abbrev FC:Stmt:=top 35
noncomputable abbrev Dx:Stmt:=top 36
noncomputable abbrev C9:Stmt:=top 37
noncomputable abbrev Fm:Stmt:=top 38
noncomputable abbrev FF:Stmt:=top 39
noncomputable abbrev Lu:Stmt:=top 40
noncomputable abbrev Dy:Stmt:=top 41
noncomputable abbrev DN:Stmt:=top 42
noncomputable abbrev Fq:Stmt:=top 43
noncomputable abbrev E9:Stmt:=top 44
noncomputable abbrev DD:Stmt:=top 45
noncomputable abbrev MK:Stmt:=top 47
noncomputable abbrev GG:Stmt:=top 48
noncomputable abbrev Em:Stmt:=top 50
noncomputable abbrev HS:Stmt:=top 51
noncomputable abbrev HV:Stmt:=top 53
noncomputable abbrev Ex:Stmt:=top 54
noncomputable abbrev F9:Stmt:=top 55
noncomputable abbrev HY:Stmt:=A8 (top 56) 0
noncomputable abbrev DE:Stmt:=A8 (top 56) 1
noncomputable abbrev Du:Stmt:=A8 (top 56) 2
noncomputable abbrev Dz:Stmt:=A8 (top 56) 3
noncomputable abbrev Iv:Stmt:=A8 (top 56) 4
noncomputable abbrev HP:Stmt:=A8 (top 56) 5
noncomputable abbrev HQ:Stmt:=A8 (top 56) 6
noncomputable abbrev HF:Stmt:=A8 (top 56) 7
noncomputable abbrev G3:Stmt:=A8 (top 56) 8
noncomputable abbrev F2:Stmt:=A8 (top 56) 9
noncomputable abbrev GE:Stmt:=A8 (top 56) 10
noncomputable abbrev DJ:Stmt:=A8 (top 56) 11
noncomputable abbrev B9:Stmt:=A8 (top 56) 12
noncomputable abbrev EE:Stmt:=A8 (top 56) 13
noncomputable abbrev DB:Stmt:=A8 (top 56) 14
noncomputable abbrev DV:Stmt:=A8 (top 56) 15
noncomputable abbrev He:Stmt:=A8 (top 56) 16
noncomputable abbrev HI:Stmt:=A8 (top 56) 17
noncomputable abbrev E3:Stmt:=A8 (top 56) 18
noncomputable abbrev Fl:Stmt:=top 60
noncomputable abbrev F1:Stmt:=top 61
noncomputable abbrev ED:Stmt:=top 62
noncomputable abbrev DC:Stmt:=top 63
noncomputable abbrev G5:Stmt:=top 65
noncomputable abbrev FE:Stmt:=top 66
noncomputable abbrev Ey:Stmt:=top 67
noncomputable abbrev E2:Stmt:=top 68
noncomputable abbrev GC:Stmt:=top 69
noncomputable abbrev JZ:Stmt:=top 70
noncomputable abbrev HZ:Stmt:=top 71
noncomputable abbrev Ev:Stmt:=top 72
noncomputable abbrev ML:Stmt:=top 73
noncomputable abbrev OF:Stmt:=top 74
noncomputable abbrev MD:Stmt:=top 75
noncomputable abbrev MC:Stmt:=top 76
noncomputable abbrev Li:Stmt:=top 77
noncomputable abbrev Lq:Stmt:=top 78
noncomputable abbrev Jk:Stmt:=top 79
noncomputable abbrev Io:Stmt:=top 80
noncomputable abbrev F4:Stmt:=top 81
noncomputable abbrev Ep:Stmt:=top 82
noncomputable abbrev En:Stmt:=top 83
noncomputable abbrev Lf:Stmt:=top 84
noncomputable abbrev Lm:Stmt:=top 85
noncomputable abbrev Gz:Stmt:=top 86
noncomputable abbrev MA:Stmt:=top 88
noncomputable abbrev HJ:Stmt:=top 89
noncomputable abbrev Il:Stmt:=A8 (top 90) 0
noncomputable abbrev F0:Stmt:=A8 (top 90) 1
noncomputable abbrev V1:Stmt:=top 92
noncomputable abbrev Ls:Stmt:=top 93
noncomputable abbrev JE:Stmt:=top 94
noncomputable abbrev Nv:Stmt:=top 95
noncomputable abbrev N1:Stmt:=top 96
noncomputable abbrev Tt:Stmt:=top 97
noncomputable abbrev OD:Stmt:=top 98
noncomputable abbrev QV:Stmt:=top 99
noncomputable abbrev Qt:Stmt:=top 100
noncomputable abbrev GF:Stmt:=top 101
noncomputable abbrev Nx:Stmt:=top 102
noncomputable abbrev MM:Stmt:=top 103
noncomputable abbrev WW:Stmt:=top 104
noncomputable abbrev D0:Pos:=⟨178,26,178,51⟩
noncomputable abbrev O8:Str:=(("most_gates":Str)++".<locals>.")++"<lambda>"
noncomputable abbrev Cq:Addr:=342
noncomputable abbrev qv:Program:={ PySem.Challenge.pw_throwgate_k35_desk_as_beach with main:={ PySem.Challenge.pw_throwgate_k35_desk_as_beach.main with body:=[WW] } }
noncomputable def cV:List Str:=[Str.ofString "LEAST",Str.ofString "GREATEST",Str.ofString "MOST_GATES",Str.ofString "MOST_DEEDS",Str.ofString "SMALL_BEACH",Str.ofString "GREAT_NUMBER",Str.ofString "BeachError",Str.ofString "NoGate"]
noncomputable def bX:List Str:=[Str.ofString "Taken",Str.ofString "UpsideDown",Str.ofString "OutOfBounds",Str.ofString "BeachFull",Str.ofString "DeedsFull",Str.ofString "NothingBack",Str.ofString "BadList",Str.ofString "TooFew"]
noncomputable def cS:List Str:=[Str.ofString "WrongSize",Str.ofString "BadThrow",Str.ofString "BadRow",Str.ofString "side_of_line",Str.ofString "barring",Str.ofString "first_three",Str.ofString "greatest_divisor",Str.ofString "lowest"]
noncomputable def hU:List Str:=[Str.ofString "compare",Str.ofString "height_at",Str.ofString "line_by",Str.ofString "passes",Str.ofString "passes_all",Str.ofString "places_passed",Str.ofString "foot_to_head",Str.ofString "tightest_pair"]
noncomputable def jC:List Str:=[Str.ofString "steepest_found",Str.ofString "level_throw",Str.ofString "common_throw",Str.ofString "bar_told",Str.ofString "throw_through",Str.ofString "steepest_throw",Str.ofString "turned_over",Str.ofString "turned_throw"]
noncomputable def iU:List Str:=[Str.ofString "flattest_throw",Str.ofString "run_told",Str.ofString "fewest_runs",Str.ofString "tried_throws",Str.ofString "most_gates",Str.ofString "check_gate",Str.ofString "check_places",Str.ofString "check_throw"]
noncomputable def gw:List Str:=[Str.ofString "Beach",Str.ofString "FIGURES",Str.ofString "MOST_FIGURES",Str.ofString "are_figures",Str.ofString "read_number",Str.ofString "read_fraction",Str.ofString "write_fraction",Str.ofString "check_many"]
noncomputable def dF:List Str:=[Str.ofString "read_numbers",Str.ofString "read_so_many",Str.ofString "number_words",Str.ofString "throw_words",Str.ofString "gate_text",Str.ofString "deeds_text",Str.ofString "through_text",Str.ofString "run_word"]
noncomputable def cO:List Str:=[Str.ofString "put_row",Str.ofString "take_row",Str.ofString "lift_row",Str.ofString "sink_row",Str.ofString "back_row",Str.ofString "deeds_row",Str.ofString "gates_row",Str.ofString "through_row"]
noncomputable def iy:List Str:=[Str.ofString "steepest_row",Str.ofString "flattest_row",Str.ofString "runs_row",Str.ofString "most_row",Str.ofString "passed_row",Str.ofString "ROWS",Str.ofString "row_told",Str.ofString "row_answer"]
noncomputable def ah:List Str:=[Str.ofString "Desk",Str.ofString "_law_at",Str.ofString "_law_spread",Str.ofString "_law_heights",Str.ofString "_law_gates",Str.ofString "_law_whole",Str.ofString "_law_gcd",Str.ofString "_law_throw"]
noncomputable def Z7:List Str:=[Str.ofString "_law_part",Str.ofString "_law_text",Str.ofString "_law_edge_text",Str.ofString "_law_lists",Str.ofString "_law_passed"]
noncomputable def N9:List Str:=cV++bX++cS++hU++jC++iU++gw++dF++cO++iy++ah++Z7
noncomputable def addrs:List Addr:=[4,2,3,15,22,23,24,25,28,35,36,37,40,47,48,49,52,59,60,61,64,71,72,73,76,83,84,85,88,95,96,97,100,107,108,109,112,119,120,121,124,131,132,133,136,143,144,145,148,155,156,157,160,167,168,169,172,174,175,177,178,179,181,182,184,185,186,188,189,191,192,193,195,196,198,199,200,202,203,205,206,207,209,210,212,213,214,216,217,219,220,221,223,224,226,227,228,230,231,233,234,235,238,239,240,243,244,245,247,248,250,251,252,254,255,257,258,259,261,262,264,265,266,268,269,271,272,273,275,276,278,279,280,282,283,285,286,287,289,290,292,293,294,296,297,299,300,301,303,304,306,307,308,310,311,313,314,315,318,319,320,322,323,325,326,327,329,330,332,333,334,336,337,339,340,341,344,345,346,348,349,351,352,353,355,356,358,359,360,362,363,365,366,374,376,377,379,380,381,384,385,386,388,389,391,392,393,396,397,398,400,401,403,404,405,407,408,410,411,412,414,415,417,418,419,421,422,424,425,426,427,429,430,432,433,434,436,437,439,440,441,443,444,446,447,448,451,452,453,455,456,458,459,460,462,463,465,466,467,469,470,472,473,474,476,477,479,480,481,483,484,486,487,488,490,491,493,494,495,497,498,500,501,502,503,504,505,506,509,512,513,514,516,517,519,520,521,523,524,526,527,528,531,532,533,535,536,538,539,540,543,544,545,547,548,550,551,552,555,556,557,559,560,562,563,564,566,567,569,570,571,573,574,576,577,578,580,581,583,584,585,587,588,590,591,592,594,595,597,598,599,601,602,604,605,606,608,609,611,612,613,615,616,618,619,620,622,623,625,626,627,629,630,632,633,634,637,638,639,641,642,644,645,646,648,649,651,652,653,655,656,658,659,660,663,664,665,667,668,670,671,672,674,675,677,678,679,680,682,683,685,686,687,689,690,692,693,701,703,704,706,707,708,710,711,713,714,715,716,717,718,719,722,724,725,727,728,729,731,732,734,735,736,738,739,741,742,743,745,746,748,749,750,752,753,755,756,757,759,760,762,763,764,766,767,769,770,771,773,774,776,777,778,780,781,783,784,785,788,789,790,793,794,795,798,799,800,803,804]
noncomputable def obs0 (K:W.Frag):List (Bool):=[Zi K "Beach" ["standing","past"],Zi K "Desk" ["beach"],MJ K "BeachError",MJ K "NoGate",MJ K "Taken",MJ K "UpsideDown",MJ K "OutOfBounds",MJ K "BeachFull"]
noncomputable def val0:List (Bool):=[true,true,true,true,true,true,true,true]
noncomputable def obs1 (K:W.Frag):List (Bool):=[MJ K "DeedsFull",MJ K "NothingBack",MJ K "BadList",MJ K "TooFew",MJ K "WrongSize",MJ K "BadThrow",MJ K "BadRow",Ye K ["BadRow","NoGate","Taken","UpsideDown","OutOfBounds","BeachFull","DeedsFull","NothingBack","BadList","TooFew","WrongSize","BadThrow"]]
noncomputable def val1:List (Bool):=[true,true,true,true,true,true,true,true]
noncomputable def obs2 (K:W.Frag):List (Bool):=[LM.gk K "most_gates" Cq,jS K "ROWS" Dk,IR K "abs",IR K "all",IR K "bool",IR K "enumerate",IR K "int",IR K "isinstance"]
noncomputable def val2:List (Bool):=[true,true,true,true,true,true,true,true]
noncomputable def obs3 (K:W.Frag):List (Bool):=[IR K "len",IR K "list",IR K "max",IR K "min",IR K "range",IR K "set",IR K "sorted",IR K "str"]
noncomputable def val3:List (Bool):=[true,true,true,true,true,true,true,true]
noncomputable def obs4 (K:W.Frag):List (Bool):=[IR K "tuple",IR K "zip"]
noncomputable def val4:List (Bool):=[true,true]
noncomputable def obs5 (K:W.Frag):List (Seen):=[At K "side_of_line",At K "barring",At K "first_three",At K "greatest_divisor",At K "lowest",At K "compare",At K "height_at",At K "line_by"]
noncomputable def val5:List (Seen):=[Ac "side_of_line" "side_of_line" Eo [],Ac "barring" "barring" N0 [],Ac "first_three" "first_three" Ft [],Ac "greatest_divisor" "greatest_divisor" Ce [],Ac "lowest" "lowest" P9 [],Ac "compare" "compare" OH [],Ac "height_at" "height_at" Ix [],Ac "line_by" "line_by" OC []]
noncomputable def obs6 (K:W.Frag):List (Seen):=[At K "passes",At K "passes_all",At K "places_passed",At K "foot_to_head",At K "tightest_pair",At K "steepest_found",At K "level_throw",At K "common_throw"]
noncomputable def val6:List (Seen):=[Ac "passes" "passes" RA [],Ac "passes_all" "passes_all" G4 [],Ac "places_passed" "places_passed" Dt [],Ac "foot_to_head" "foot_to_head" FC [],Ac "tightest_pair" "tightest_pair" Dx [],Ac "steepest_found" "steepest_found" C9 [],Ac "level_throw" "level_throw" Fm [],Ac "common_throw" "common_throw" FF []]
noncomputable def obs7 (K:W.Frag):List (Seen):=[At K "bar_told",At K "throw_through",At K "steepest_throw",At K "turned_over",At K "turned_throw",At K "flattest_throw",At K "run_told",At K "fewest_runs"]
noncomputable def val7:List (Seen):=[Ac "bar_told" "bar_told" Lu [],Ac "throw_through" "throw_through" Dy [],Ac "steepest_throw" "steepest_throw" DN [],Ac "turned_over" "turned_over" Fq [],Ac "turned_throw" "turned_throw" E9 [],Ac "flattest_throw" "flattest_throw" DD [],Ac "run_told" "run_told" MK [],Ac "fewest_runs" "fewest_runs" GG []]
noncomputable def obs8 (K:W.Frag):List (Seen):=[At K "tried_throws",At K "most_gates",At K "check_gate",At K "check_places",At K "check_throw",DA K "Beach" "__init__" "Beach.__init__",DA K "Beach" "has_gate" "Beach.has_gate",DA K "Beach" "gate_at" "Beach.gate_at"]
noncomputable def val8:List (Seen):=[Ac "tried_throws" "tried_throws" Em [],Ac "most_gates" "most_gates" HS [],Ac "check_gate" "check_gate" HV [],Ac "check_places" "check_places" Ex [],Ac "check_throw" "check_throw" F9 [],Ac "__init__" "Beach.__init__" HY [],Ac "has_gate" "Beach.has_gate" DE [],Ac "gate_at" "Beach.gate_at" Du []]
noncomputable def obs9 (K:W.Frag):List (Seen):=[DA K "Beach" "do_deed" "Beach.do_deed",DA K "Beach" "put" "Beach.put",DA K "Beach" "take" "Beach.take",DA K "Beach" "lift" "Beach.lift",DA K "Beach" "sink" "Beach.sink",DA K "Beach" "back" "Beach.back",DA K "Beach" "gates" "Beach.gates",DA K "Beach" "deeds" "Beach.deeds"]
noncomputable def val9:List (Seen):=[Ac "do_deed" "Beach.do_deed" Dz [],Ac "put" "Beach.put" Iv [],Ac "take" "Beach.take" HP [],Ac "lift" "Beach.lift" HQ [],Ac "sink" "Beach.sink" HF [],Ac "back" "Beach.back" G3 [1],Ac "gates" "Beach.gates" F2 [],Ac "deeds" "Beach.deeds" GE []]
noncomputable def obs10 (K:W.Frag):List (Seen):=[DA K "Beach" "gates_at" "Beach.gates_at",DA K "Beach" "two_gates_at" "Beach.two_gates_at",DA K "Beach" "through" "Beach.through",DA K "Beach" "steepest" "Beach.steepest",DA K "Beach" "flattest" "Beach.flattest",DA K "Beach" "runs" "Beach.runs",DA K "Beach" "most" "Beach.most",DA K "Beach" "passed" "Beach.passed"]
noncomputable def val10:List (Seen):=[Ac "gates_at" "Beach.gates_at" DJ [],Ac "two_gates_at" "Beach.two_gates_at" B9 [],Ac "through" "Beach.through" EE [],Ac "steepest" "Beach.steepest" DB [],Ac "flattest" "Beach.flattest" DV [],Ac "runs" "Beach.runs" He [],Ac "most" "Beach.most" HI [],Ac "passed" "Beach.passed" E3 []]
noncomputable def obs11 (K:W.Frag):List (Seen):=[At K "are_figures",At K "read_number",At K "read_fraction",At K "write_fraction",At K "check_many",At K "read_numbers",At K "read_so_many",At K "number_words"]
noncomputable def val11:List (Seen):=[Ac "are_figures" "are_figures" Fl [],Ac "read_number" "read_number" F1 [],Ac "read_fraction" "read_fraction" ED [],Ac "write_fraction" "write_fraction" DC [],Ac "check_many" "check_many" G5 [],Ac "read_numbers" "read_numbers" FE [],Ac "read_so_many" "read_so_many" Ey [],Ac "number_words" "number_words" E2 []]
noncomputable def obs12 (K:W.Frag):List (Seen):=[At K "throw_words",At K "gate_text",At K "deeds_text",At K "through_text",At K "run_word",At K "put_row",At K "take_row",At K "lift_row"]
noncomputable def val12:List (Seen):=[Ac "throw_words" "throw_words" GC [],Ac "gate_text" "gate_text" JZ [],Ac "deeds_text" "deeds_text" HZ [],Ac "through_text" "through_text" Ev [],Ac "run_word" "run_word" ML [],Ac "put_row" "put_row" OF [],Ac "take_row" "take_row" MD [],Ac "lift_row" "lift_row" MC []]
noncomputable def obs13 (K:W.Frag):List (Seen):=[At K "sink_row",At K "back_row",At K "deeds_row",At K "gates_row",At K "through_row",At K "steepest_row",At K "flattest_row",At K "runs_row"]
noncomputable def val13:List (Seen):=[Ac "sink_row" "sink_row" Li [],Ac "back_row" "back_row" Lq [],Ac "deeds_row" "deeds_row" Jk [],Ac "gates_row" "gates_row" Io [],Ac "through_row" "through_row" F4 [],Ac "steepest_row" "steepest_row" Ep [],Ac "flattest_row" "flattest_row" En [],Ac "runs_row" "runs_row" Lf []]
noncomputable def obs14 (K:W.Frag):List (Seen):=[At K "most_row",At K "passed_row",At K "row_told",At K "row_answer",DA K "Desk" "__init__" "Desk.__init__",DA K "Desk" "answer" "Desk.answer",At K "_law_at",At K "_law_spread"]
noncomputable def val14:List (Seen):=[Ac "most_row" "most_row" Lm [],Ac "passed_row" "passed_row" Gz [],Ac "row_told" "row_told" MA [],Ac "row_answer" "row_answer" HJ [],Ac "__init__" "Desk.__init__" Il [],Ac "answer" "Desk.answer" F0 [],Ac "_law_at" "_law_at" V1 [],Ac "_law_spread" "_law_spread" Ls []]
noncomputable def obs15 (K:W.Frag):List (Seen):=[At K "_law_heights",At K "_law_gates",At K "_law_whole",At K "_law_gcd",At K "_law_throw",At K "_law_part",At K "_law_text",At K "_law_edge_text"]
noncomputable def val15:List (Seen):=[Ac "_law_heights" "_law_heights" JE [],Ac "_law_gates" "_law_gates" Nv [],Ac "_law_whole" "_law_whole" N1 [],Ac "_law_gcd" "_law_gcd" Tt [],Ac "_law_throw" "_law_throw" OD [],Ac "_law_part" "_law_part" QV [],Ac "_law_text" "_law_text" Qt [],Ac "_law_edge_text" "_law_edge_text" GF []]
noncomputable def obs16 (K:W.Frag):List (Seen):=[At K "_law_lists",At K "_law_passed",At K "law"]
noncomputable def val16:List (Seen):=[Ac "_law_lists" "_law_lists" Nx [],Ac "_law_passed" "_law_passed" MM [],Ac "law" "law" WW []]
noncomputable def obs17 (K:W.Frag):List (Option Int):=[TZ K "LEAST",TZ K "GREATEST",TZ K "MOST_GATES",TZ K "MOST_DEEDS",TZ K "SMALL_BEACH",TZ K "GREAT_NUMBER",TZ K "MOST_FIGURES"]
noncomputable def val17:List (Option Int):=[some (-1000),some (1000),some (40),some (300),some (12),some (999999999),some (9)]
noncomputable def obs18 (K:W.Frag):List (Option Str):=[ft K "FIGURES"]
noncomputable def val18:List (Option Str):=[some "0123456789"]
noncomputable def WA (K:W.Frag):List (Bool)×List (Bool)×List (Bool)×List (Bool)×List (Bool)×List (Seen)×List (Seen)×List (Seen)×List (Seen)×List (Seen)×List (Seen)×List (Seen)×List (Seen)×List (Seen)×List (Seen)×List (Seen)×List (Seen)×List (Option Int)×List (Option Str)×List Int:=(obs0 K,obs1 K,obs2 K,obs3 K,obs4 K,obs5 K,obs6 K,obs7 K,obs8 K,obs9 K,obs10 K,obs11 K,obs12 K,obs13 K,obs14 K,obs15 K,obs16 K,obs17 K,obs18 K,QR K "ROWS")
noncomputable def Xx (w:World):List (Bool)×List (Bool)×List (Bool)×List (Bool)×List (Bool)×List (Seen)×List (Seen)×List (Seen)×List (Seen)×List (Seen)×List (Seen)×List (Seen)×List (Seen)×List (Seen)×List (Seen)×List (Seen)×List (Seen)×List (Option Int)×List (Option Str)×List Int:=(val0,val1,val2,val3,val4,val5,val6,val7,val8,val9,val10,val11,val12,val13,val14,val15,val16,val17,val18,Dk.map fun f=>PySem.PyData.keyHash w.params f.1)
noncomputable def ZE (w:World)(os:PySem.OsState):=Na PySem.Challenge.pw_throwgate_k35_desk_as_beach qv N9 (fun _=>()) 6336 w os
noncomputable def UC:=some (true,W.openGood qv N9,())
noncomputable def ZO (w:World)(os:PySem.OsState):=Y3 PySem.Challenge.pw_throwgate_k35_desk_as_beach (fun s=>(LM.Jg (Vd s.tree s.n Cq),WA (Xj addrs s))) 6336 w os
noncomputable def Ub (w:World):=some ((true,Xx w))
theorem XQ:ZE=ZE:=rfl
theorem V5:UC=UC:=rfl
name_quick runAY for TG.ZE by TG.XQ
name_quick goodAY for TG.UC by TG.V5
theorem runAf (w:World)(os:PySem.OsState):PySem.W.Fast.runAY (w.withFollow "special-get-raises" false) os=PySem.W.Fast.goodAY:=by kernel_rfl
theorem runAt (w:World)(os:PySem.OsState):PySem.W.Fast.runAY (w.withFollow "special-get-raises" true) os=PySem.W.Fast.goodAY:=by kernel_rfl
theorem runA1 (w:World)(os:PySem.OsState):ZE w os=UC:=W.byRow2 "special-get-raises" (P:=fun w=>ZE w os=UC) (fun w=>((congrFun (congrFun PySem.W.Fast.runAY_eq _) os).trans (runAf w os)).trans PySem.W.Fast.goodAY_eq.symm) (fun w=>((congrFun (congrFun PySem.W.Fast.runAY_eq _) os).trans (runAt w os)).trans PySem.W.Fast.goodAY_eq.symm) w
theorem XB:ZO=ZO:=rfl
theorem V6:Ub=Ub:=rfl
name_quick runBY for TG.ZO by TG.XB
name_quick goodBY for TG.Ub by TG.V6
theorem runBf (w:World)(os:PySem.OsState):PySem.W.Fast.runBY (w.withFollow "special-get-raises" false) os=PySem.W.Fast.goodBY (w.withFollow "special-get-raises" false):=by kernel_rfl
theorem runBt (w:World)(os:PySem.OsState):PySem.W.Fast.runBY (w.withFollow "special-get-raises" true) os=PySem.W.Fast.goodBY (w.withFollow "special-get-raises" true):=by kernel_rfl
theorem runB1 (w:World)(os:PySem.OsState):ZO w os=Ub w:=W.byRow2 "special-get-raises" (P:=fun w=>ZO w os=Ub w) (fun w=>((congrFun (congrFun PySem.W.Fast.runBY_eq _) os).trans (runBf w os)).trans (congrFun PySem.W.Fast.goodBY_eq _).symm) (fun w=>((congrFun (congrFun PySem.W.Fast.runBY_eq _) os).trans (runBt w os)).trans (congrFun PySem.W.Fast.goodBY_eq _).symm) w
theorem runs (w:World)(os:PySem.OsState):Na PySem.Challenge.pw_throwgate_k35_desk_as_beach qv N9 (fun s=>(LM.Jg (Vd s.tree s.n Cq),WA (Xj addrs s))) 6336 w os=some (true,W.openGood qv N9,(true,Xx w)):=WK (runA1 w os) (runB1 w os)
theorem aQ:W.LeftO PySem.Challenge.pw_throwgate_k35_desk_as_beach qv N9 (fun _=>true) (fun s=>(LM.Jg (s.heap.get? Cq),WA (Kof addrs s.heap))) (fun w=>(true,Xx w)) 12732:=
 Za (M:=6336) (obs:=fun s=>(LM.Jg (Vd s.tree s.n Cq),WA (Xj addrs s))) (by kernel_rfl) rfl (fun _=>rfl) rfl (fun s=>LM.Yd s) runs
theorem inj1 {α:Type}{a0 b0:α}(h:[a0]=[b0]):a0=b0:=by simp only [qH,and_true] at h;exact h
theorem inj2 {α:Type}{a0 b0 a1 b1:α}(h:[a0,a1]=[b0,b1]):a0=b0∧a1=b1:=by simp only [qH,and_true] at h;exact h
theorem inj3 {α:Type}{a0 b0 a1 b1 a2 b2:α}(h:[a0,a1,a2]=[b0,b1,b2]):a0=b0∧a1=b1∧a2=b2:=by simp only [qH,and_true] at h;exact h
theorem inj7 {α:Type}{a0 b0 a1 b1 a2 b2 a3 b3 a4 b4 a5 b5 a6 b6:α}(h:[a0,a1,a2,a3,a4,a5,a6]=[b0,b1,b2,b3,b4,b5,b6]):a0=b0∧a1=b1∧a2=b2∧a3=b3∧a4=b4∧a5=b5∧a6=b6:=by simp only [qH,and_true] at h;exact h
theorem L3 {α:Type}{a0 b0 a1 b1 a2 b2 a3 b3 a4 b4 a5 b5 a6 b6 a7 b7:α}(h:[a0,a1,a2,a3,a4,a5,a6,a7]=[b0,b1,b2,b3,b4,b5,b6,b7]):a0=b0∧a1=b1∧a2=b2∧a3=b3∧a4=b4∧a5=b5∧a6=b6∧a7=b7:=by simp only [qH,and_true] at h;exact h
set_option genInjectivity false in
structure Tx (w:World)(K:W.Frag)(mg:Str→Option Value) where
 AK:Addr
 Wu:mg "Beach"=some (.ref AK)
 AQ:Cls K AK
 B3:Addr
 ju:mg "Desk"=some (.ref B3)
 Da:Cls K B3
 Ab:Hg K AK "standing"
 BG:Hg K AK "past"
 NG:Hg K B3 "beach"
 Ef:Addr
 Zr:mg "BeachError"=some (.ref Ef)
 af:GZ K Ef
 GH:Addr
 VE:mg "NoGate"=some (.ref GH)
 Yj:GZ K GH
 Jz:Addr
 Wz:mg "Taken"=some (.ref Jz)
 ak:GZ K Jz
 CN:Addr
 M4:mg "UpsideDown"=some (.ref CN)
 S4:GZ K CN
 Bz:Addr
 GD:mg "OutOfBounds"=some (.ref Bz)
 LC:GZ K Bz
 Co:Addr
 OW:mg "BeachFull"=some (.ref Co)
 UA:GZ K Co
 Cj:Addr
 Og:mg "DeedsFull"=some (.ref Cj)
 UE:GZ K Cj
 By:Addr
 Km:mg "NothingBack"=some (.ref By)
 Rm:GZ K By
 Ek:Addr
 KA:mg "BadList"=some (.ref Ek)
 Nb:GZ K Ek
 Ge:Addr
 UP:mg "TooFew"=some (.ref Ge)
 YH:GZ K Ge
 Cp:Addr
 Oj:mg "WrongSize"=some (.ref Cp)
 Ug:GZ K Cp
 DH:Addr
 L6:mg "BadThrow"=some (.ref DH)
 Qi:GZ K DH
 Gd:Addr
 IY:mg "BadRow"=some (.ref Gd)
 Mn:GZ K Gd
 xs:aq K [Gd,GH,Jz,CN,Bz,Co,Cj,By,Ek,Ge,Cp,DH]
 JC:Addr
 IH:FuncData
 FJ:D K mg "side_of_line" Eo ["place","height","start","end"] JC IH
 SV:Addr
 P6:FuncData
 R6:D K mg "barring" N0 ["one","two","three"] SV P6
 Kj:Addr
 JI:FuncData
 KW:D K mg "first_three" Ft ["gates"] Kj JI
 E6:Addr
 EI:FuncData
 E8:D K mg "greatest_divisor" Ce ["one","two"] E6 EI
 Uu:Addr
 Sk:FuncData
 Ip:D K mg "lowest" P9 ["top","bottom"] Uu Sk
 Sl:Addr
 Pw:FuncData
 J8:D K mg "compare" OH ["one","two"] Sl Pw
 O1:Addr
 NN:FuncData
 OT:D K mg "height_at" Ix ["throw","place"] O1 NN
 SZ:Addr
 QN:FuncData
 No:D K mg "line_by" OC ["place","height","other","second"] SZ QN
 Uv:Addr
 SN:FuncData
 QW:D K mg "passes" RA ["throw","gate"] Uv SN
 NK:Addr
 K3:FuncData
 MZ:D K mg "passes_all" G4 ["throw","gates"] NK K3
 Hr:Addr
 GK:FuncData
 Dv:D K mg "places_passed" Dt ["throw","ordered"] Hr GK
 JY:Addr
 Hq:FuncData
 FG:D K mg "foot_to_head" FC ["earlier","later"] JY Hq
 Hz:Addr
 GO:FuncData
 II:D K mg "tightest_pair" Dx ["ordered"] Hz GO
 Gn:Addr
 FM:FuncData
 CL:D K mg "steepest_found" C9 ["ordered"] Gn FM
 LS:Addr
 IX:FuncData
 F6:D K mg "level_throw" Fm ["height"] LS IX
 Iq:Addr
 IJ:FuncData
 CA:D K mg "common_throw" FF ["ordered"] Iq IJ
 RB:Addr
 OQ:FuncData
 HN:D K mg "bar_told" Lu ["gates"] RB OQ
 IQ:Addr
 Gu:FuncData
 IN:D K mg "throw_through" Dy ["gates"] IQ Gu
 GL:Addr
 Fk:FuncData
 Gs:D K mg "steepest_throw" DN ["gates"] GL Fk
 Kv:Addr
 Iz:FuncData
 Kg:D K mg "turned_over" Fq ["gate"] Kv Iz
 Iw:Addr
 IM:FuncData
 Jd:D K mg "turned_throw" E9 ["throw"] Iw IM
 GY:Addr
 FR:FuncData
 GN:D K mg "flattest_throw" DD ["gates"] GY FR
 QT:Addr
 Os:FuncData
 Ly:D K mg "run_told" MK ["run","throw"] QT Os
 LN:Addr
 JQ:FuncData
 K6:D K mg "fewest_runs" GG ["gates"] LN JQ
 Jl:Addr
 Hi:FuncData
 Jc:D K mg "tried_throws" Em ["ordered"] Jl Hi
 Mp:Addr
 Fn:FuncData
 Mu:D K mg "most_gates" HS ["gates"] Mp Fn
 Tq:Addr
 Ru:LM.UR K mg Fn.code Tq 342
 Mx:Addr
 KS:FuncData
 G6:D K mg "check_gate" HV ["gate"] Mx KS
 JH:Addr
 Hv:FuncData
 Jo:D K mg "check_places" Ex ["places"] JH Hv
 KP:Addr
 Ih:FuncData
 KQ:D K mg "check_throw" F9 ["throw"] KP Ih
 HW:Addr
 Kt:FuncData
 HX:DM K AK "__init__" "Beach.__init__" HY ["self"] HW Kt
 GP:Addr
 Fd:FuncData
 DU:DM K AK "has_gate" "Beach.has_gate" DE ["self","place"] GP Fd
 Ht:Addr
 Gr:FuncData
 BC:DM K AK "gate_at" "Beach.gate_at" Du ["self","place"] Ht Gr
 Hx:Addr
 Gc:FuncData
 BD:DM K AK "do_deed" "Beach.do_deed" Dz ["self","place","instead"] Hx Gc
 OX:Addr
 NP:FuncData
 Di:DM K AK "put" "Beach.put" Iv ["self","place","foot","head"] OX NP
 NT:Addr
 Ks:FuncData
 HH:DM K AK "take" "Beach.take" HP ["self","place"] NT Ks
 NR:Addr
 LD:FuncData
 C2:DM K AK "lift" "Beach.lift" HQ ["self","place","foot_by","head_by"] NR LD
 MQ:Addr
 KU:FuncData
 Hc:DM K AK "sink" "Beach.sink" HF ["self","place","foot_by","head_by"] MQ KU
 Mv:Addr
 LR:FuncData
 CJ:DMD K AK "back" "Beach.back" G3 ["self","many"] Mv LR [.int 1]
 LP:Addr
 IV:FuncData
 GB:DM K AK "gates" "Beach.gates" F2 ["self"] LP IV
 LK:Addr
 Jn:FuncData
 Fs:DM K AK "deeds" "Beach.deeds" GE ["self"] LK Jn
 Gg:Addr
 FU:FuncData
 Ba:DM K AK "gates_at" "Beach.gates_at" DJ ["self","places"] Gg FU
 Dl:Addr
 C6:FuncData
 A9:DM K AK "two_gates_at" "Beach.two_gates_at" B9 ["self","places"] Dl C6
 Hj:Addr
 GU:FuncData
 BE:DM K AK "through" "Beach.through" EE ["self","places"] Hj GU
 Gh:Addr
 FN:FuncData
 Bc:DM K AK "steepest" "Beach.steepest" DB ["self","places"] Gh FN
 GI:Addr
 Fe:FuncData
 Bb:DM K AK "flattest" "Beach.flattest" DV ["self","places"] GI Fe
 Me:Addr
 LJ:FuncData
 C0:DM K AK "runs" "Beach.runs" He ["self"] Me LJ
 Mr:Addr
 Kc:FuncData
 Cy:DM K AK "most" "Beach.most" HI ["self"] Mr Kc
 JU:Addr
 IP:FuncData
 CF:DM K AK "passed" "Beach.passed" E3 ["self","throw"] JU IP
 LG:Addr
 Jm:FuncData
 K2:D K mg "are_figures" Fl ["text"] LG Jm
 LW:Addr
 Im:FuncData
 BS:D K mg "read_number" F1 ["text"] LW Im
 IE:Addr
 GJ:FuncData
 EA:D K mg "read_fraction" ED ["text"] IE GJ
 GS:Addr
 Fi:FuncData
 DO:D K mg "write_fraction" DC ["top","bottom"] GS Fi
 NX:Addr
 Kh:FuncData
 Bl:D K mg "check_many" G5 ["words","many"] NX Kh
 Jv:Addr
 IG:FuncData
 CC:D K mg "read_numbers" FE ["words"] Jv IG
 Ii:Addr
 IK:FuncData
 BZ:D K mg "read_so_many" Ey ["words","many"] Ii IK
 Ie:Addr
 IB:FuncData
 Bf:D K mg "number_words" E2 ["numbers"] Ie IB
 Kx:Addr
 JO:FuncData
 Dc:D K mg "throw_words" GC ["throw"] Kx JO
 Oe:Addr
 M6:FuncData
 Dm:D K mg "gate_text" JZ ["gate"] Oe M6
 NO:Addr
 KR:FuncData
 EL:D K mg "deeds_text" HZ ["many"] NO KR
 Ik:Addr
 Hu:FuncData
 Cs:D K mg "through_text" Ev ["told","ends"] Ik Hu
 Py:Addr
 ON:FuncData
 QU:D K mg "run_word" ML ["run"] Py ON
 Nq:Addr
 Q8:FuncData
 Nc:D K mg "put_row" OF ["beach","words"] Nq Q8
 Ll:Addr
 Ob:FuncData
 Lr:D K mg "take_row" MD ["beach","words"] Ll Ob
 Lo:Addr
 O2:FuncData
 Ln:D K mg "lift_row" MC ["beach","words"] Lo O2
 MH:Addr
 Ou:FuncData
 Lj:D K mg "sink_row" Li ["beach","words"] MH Ou
 L8:Addr
 OM:FuncData
 Lc:D K mg "back_row" Lq ["beach","words"] L8 OM
 Ja:Addr
 Mh:FuncData
 Je:D K mg "deeds_row" Jk ["beach","words"] Ja Mh
 JM:Addr
 Mo:FuncData
 IZ:D K mg "gates_row" Io ["beach","words"] JM Mo
 Fu:Addr
 Ig:FuncData
 F8:D K mg "through_row" F4 ["beach","words"] Fu Ig
 FI:Addr
 Hn:FuncData
 El:D K mg "steepest_row" Ep ["beach","words"] FI Hn
 Es:Addr
 Hl:FuncData
 Ez:D K mg "flattest_row" En ["beach","words"] Es Hl
 L5:Addr
 OS:FuncData
 Lp:D K mg "runs_row" Lf ["beach","words"] L5 OS
 Lz:Addr
 O6:FuncData
 MI:D K mg "most_row" Lm ["beach","words"] Lz O6
 Gx:Addr
 Ku:FuncData
 HD:D K mg "passed_row" Gz ["beach","words"] Gx Ku
 Qw:Addr
 OV:FuncData
 G8:D K mg "row_told" MA ["beach","row"] Qw OV
 NE:Addr
 LV:FuncData
 NF:D K mg "row_answer" HJ ["beach","row"] NE LV
 JN:Addr
 Mq:FuncData
 Op:DM K B3 "__init__" "Desk.__init__" Il ["self"] JN Mq
 LZ:Addr
 Ju:FuncData
 Ad:DM K B3 "answer" "Desk.answer" F0 ["self","row"] LZ Ju
 YV:Addr
 WM:FuncData
 Lw:D K mg "_law_at" V1 ["_law_script","_law_k"] YV WM
 Pt:Addr
 OR:FuncData
 HG:D K mg "_law_spread" Ls ["_law_cell","_law_many","_law_mixed"] Pt OR
 On:Addr
 NC:FuncData
 Od:D K mg "_law_heights" JE ["_law_kind","_law_line","_law_wide","_law_low","_law_high"] On NC
 SA:Addr
 Qq:FuncData
 Sc:D K mg "_law_gates" Nv ["_law_script","_law_at_here","_law_many"] SA Qq
 SJ:Addr
 QB:FuncData
 R9:D K mg "_law_whole" N1 ["_law_found"] SJ QB
 Wr:Addr
 UD:FuncData
 W3:D K mg "_law_gcd" Tt ["_law_one","_law_two"] Wr UD
 SS:Addr
 Q7:FuncData
 R8:D K mg "_law_throw" OD ["_law_found"] SS Q7
 VB:Addr
 Su:FuncData
 IT:D K mg "_law_part" QV ["_law_top","_law_bottom"] VB Su
 UN:Addr
 SI:FuncData
 NB:D K mg "_law_text" Qt ["_law_throw_here","_law_between_two"] UN SI
 K8:Addr
 Jr:FuncData
 DZ:D K mg "_law_edge_text" GF ["_law_found","_law_marks"] K8 Jr
 SO:Addr
 Qv:FuncData
 Np:D K mg "_law_lists" Nx ["_law_desk","_law_beach","_law_places"] SO Qv
 QE:Addr
 Oa:FuncData
 MG:D K mg "_law_passed" MM ["_law_desk","_law_beach","_law_throw_here"] QE Oa
 bE:Addr
 Zd:FuncData
 d_law:D K mg "law" WW ["_law_script"] bE Zd
 MW:Mk K AK HW
 TW:Mk K B3 JN
 W7:Value
 aS:mg "LEAST"=some W7
 ae:RelV (.int (-1000)) W7
 QX:Value
 Vo:mg "GREATEST"=some QX
 Vv:RelV (.int (1000)) QX
 Mm:Value
 M9:mg "MOST_GATES"=some Mm
 MR:RelV (.int (40)) Mm
 Mz:Value
 Th:mg "MOST_DEEDS"=some Mz
 Sy:RelV (.int (300)) Mz
 Ko:Value
 RM:mg "SMALL_BEACH"=some Ko
 Rj:RelV (.int (12)) Ko
 Jq:Value
 Jh:mg "GREAT_NUMBER"=some Jq
 Iu:RelV (.int (999999999)) Jq
 R4:Value
 X3:mg "FIGURES"=some R4
 XM:RelV (.str "0123456789") R4
 JP:Value
 QP:mg "MOST_FIGURES"=some JP
 QI:RelV (.int (9)) JP
 Tz:Addr
 VW:mg "ROWS"=some (.ref Tz)
 gA:VY w.params K mg Tz Dk
 Wn:mg "abs"=none
 bQ:mg "all"=none
 iF:mg "bool"=none
 Ow:mg "enumerate"=none
 bA:mg "int"=none
 HL:mg "isinstance"=none
 BN:mg "len"=none
 Td:mg "list"=none
 Wd:mg "max"=none
 bU:mg "min"=none
 EX:mg "range"=none
 z_set:mg "set"=none
 Er:mg "sorted"=none
 Dh:mg "str"=none
 aE:mg "tuple"=none
 z_zip:mg "zip"=none
noncomputable def Tx.err {w:World}{K:W.Frag}{mg:Str→Option Value}(T:Tx w K mg):Err→Value
 | .nogate=>.ref T.GH
 | .taken=>.ref T.Jz
 | .upside=>.ref T.CN
 | .bounds=>.ref T.Bz
 | .full=>.ref T.Co
 | .deeds=>.ref T.Cj
 | .nothing=>.ref T.By
 | .badlist=>.ref T.Ek
 | .few=>.ref T.Ge
 | .size=>.ref T.Cp
 | .badthrow=>.ref T.DH
 | .badrow=>.ref T.Gd
section
variable {P:Program} {w:World} {K:W.Frag} {mg:Str→Option Value} {base:Heap}
theorem Dw:AJ ["place","height","start","end","steps","gain"] ["place","height","start","end"] (AF Eo):=by walk_at "SC"
noncomputable def IL (K:W.Frag):Sp:=fun vs H Q _=>∃ (s e:Addr) (pl h s0 s1 e0 e1:Int),vs=[.int pl,.int h,.ref s,.ref e]∧SqT K H s [.int s0,.int s1]∧SqT K H e [.int e0,.int e1]∧pl.natAbs≤1000∧h.natAbs≤1000∧s0.natAbs≤1000∧s1.natAbs≤1000∧e0.natAbs≤1000∧e1.natAbs≤1000∧Q (.int ((h-s1)*(e0-s0)-(e1-s1)*(pl-s0))) H
theorem Hw (T:Tx w K mg):Aa P w K mg base CX0 1 T.JC T.IH ["place","height","start","end"] (IL K):=by
 refine T.FJ.F.ok Dw (fun _ _ _ _ h=>by walk_at "LN") ?_
 ·walk_at "I2"
  obtain ⟨s,e,pl,h,s0,s1,e0,e1,rfl,hs,he,b1,b2,b3,b4,b5,b6,k⟩:=h
  refine ⟨_,(AD (pst 4 Dw (AH Ax (pxi AL (pv 3) AC) (pxi AL (pv 2) AC)))
   (AD (pst 5 Dw (AH Ax (pxi AL (pv 3) AC) (pxi AL (pv 2) AC)))
   (AE (AI (AH Ax (AH DW (AH Ax (pv 1) (pxi AL (pv 2) AC)) (pv 4)) (AH DW (pv 5) (AH Ax (pv 0) (pxi AL (pv 2) AC)))))))),?_⟩
  delta Ux
  walk_at "AUTO"
  exact k
theorem VP:AJ ["one","two","three"] ["one","two","three"] (AF N0):=by walk_at "SC"
noncomputable def Qs (K:W.Frag):Sp:=fun vs H Q _=>∃ (x y z:Addr) (a b c:G),vs=[.ref x,.ref y,.ref z]∧SqT K H x (G.vs a)∧SqT K H y (G.vs b)∧SqT K H z (G.vs c)∧OkG a∧OkG b∧OkG c∧a.p<b.p∧b.p<c.p∧∀ H',AG H H'→Q (.str (aG a b c)) H'
theorem VZ (T:Tx w K mg):Aa P w K mg base CX0 2 T.SV T.P6 ["one","two","three"] (Qs K):=by
 refine T.R6.F.ok VP (fun _ _ _ _ h=>by walk_at "LN") ?_
 ·walk_at "I2"
  obtain ⟨x,y,z,a,b,c,rfl,ex,ey,ez,o1,o2,o3,l1,l2,k⟩:=h
  refine ⟨_,(AD (Ae (ptc IC (pcl T.FJ (Hw T) hr AR (AA (pxi AL (pv 1) AC) (AA (pxi AL (pv 1) AC) (AA (Ag (AA (pxi AL (pv 0) AC) (AA (pxi AL (pv 0) AC) AB))) (AA (Ag (AA (pxi AL (pv 2) AC) (AA (pxi AL (pv 2) AC) AB))) AB))))) AC) (AE (AI AN))
    AS)
   (AD (Ae (ptc E7 (pcl T.FJ (Hw T) hr AR (AA (pxi AL (pv 1) AC) (AA (pxi AL (pv 1) AC) (AA (Ag (AA (pxi AL (pv 0) AC) (AA (pxi AL (pv 0) AC) AB))) (AA (Ag (AA (pxi AL (pv 2) AC) (AA (pxi AL (pv 2) AC) AB))) AB))))) AC) (AE (AI AN))
    AS)
   (AE (AI AN)))),?_⟩
  obtain ⟨p1,p2,p3,p4,p5⟩:=id o1
  obtain ⟨q1,q2,q3,q4,q5⟩:=id o2
  obtain ⟨r1,r2,r3,r4,r5⟩:=id o3
  have eF:(0<(b.f-a.h)*(c.p-a.p)-(c.h-a.h)*(b.p-a.p))↔CI a b c:=by
   unfold CI
   have e:(b.f-a.h)*(c.p-a.p)-(c.h-a.h)*(b.p-a.p)=b.f*(c.p-a.p)-(a.h*(c.p-b.p)+c.h*(b.p-a.p)):=by grind
   rw [e]
   lia
  have eH:((b.h-a.f)*(c.p-a.p)-(c.f-a.f)*(b.p-a.p)<0)↔CK a b c:=by
   unfold CK
   have e:(b.h-a.f)*(c.p-a.p)-(c.f-a.f)*(b.p-a.p)=b.h*(c.p-a.p)-(a.f*(c.p-b.p)+c.f*(b.p-a.p)):=by grind
   rw [e]
   lia
  delta Ux
  walk_at "AUTO"
  unfold IL
  refine ⟨_,_,_,_,_,_,_,_,rfl,(by walk_at "SQT"),(by walk_at "SQT"),by lia,by lia,by lia,by lia,by lia,by lia,?_⟩
  refine ⟨_,rfl,?_⟩
  unfold aG at k
  by_cases hf:CI a b c
  ·rw [if_pos (zE (eF.mpr hf))]
   rw [if_pos hf] at k
   exact k _ (by walk_at "SAME")
  ·rw [if_neg (fun z=>hf (eF.mp (zH z)))]
   rw [if_neg hf] at k
   walk_at "AUTO"
   refine ⟨_,_,_,_,_,_,_,_,rfl,(by walk_at "SQT"),(by walk_at "SQT"),by lia,by lia,by lia,by lia,by lia,by lia,?_⟩
   refine ⟨_,rfl,?_⟩
   by_cases hh:CK a b c
   ·rw [if_pos (zE (eH.mpr hh))]
    rw [if_pos hh] at k
    exact k _ (by walk_at "SAME")
   ·rw [if_neg (fun z=>hh (eH.mp (zH z)))]
    rw [if_neg hh] at k
    exact k _ (by walk_at "SAME")
theorem Be:AJ ["gates","ordered","count","first","middle","last"] ["gates"] (AF Ft):=by walk_at "SC"
noncomputable def Ji (K:W.Frag):Sp:=fun vs H Q _=>∃ (l:Addr) (as:List Addr) (gs:List G),vs=[.ref l]∧SqL K H l (as.map V.ref)∧Am H as gs∧(gs.map G.p).Nodup∧gs.length≤40∧(∀ g∈gs,OkG g)∧(∀ H',AG H H'→Bd gs []→Q .non H')∧∀ D H' t,AG H H'→H' D=some (.tup (t.map V.int))→t≠[]→Bd gs t→Q (.ref D) H'
theorem Uk {a b c:G}:aG a b c=""↔¬ Qd a b c:=by
 unfold aG Qd
 by_cases hf:CI a b c
 ·rw [if_pos hf]
  exact ⟨fun z=>absurd z (by decide),fun z=>absurd (.inl hf) z⟩
 ·rw [if_neg hf]
  by_cases hh:CK a b c
  ·rw [if_pos hh]
   exact ⟨fun z=>absurd z (by decide),fun z=>absurd (.inr hh) z⟩
  ·rw [if_neg hh]
   exact ⟨fun _ z=>z.elim hf hh,fun _=>rfl⟩
noncomputable def Vf1 (l D:Addr)(n:Int)(sg:List G)(H:Hp):Nat→St→Hp→Prop:=fun i σ H'=>∃ x y z,σ=[some (.ref l),some (.ref D),some (.int n),x,y,z]∧AG H H'∧A3 sg i 0 0
noncomputable def Vf2 (l D:Addr)(n:Int)(sg:List G)(H:Hp)(i:Nat):Nat→St→Hp→Prop:=fun t σ H'=>∃ y z,σ=[some (.ref l),some (.ref D),some (.int n),some (.int (0+(i:Int))),y,z]∧AG H H'∧A3 sg i (i+1+t) 0
noncomputable def Vf3 (l D:Addr)(n:Int)(sg:List G)(H:Hp)(i j:Nat):Nat→St→Hp→Prop:=fun t σ H'=>∃ z,σ=[some (.ref l),some (.ref D),some (.int n),some (.int (0+(i:Int))),some (.int (0+(i:Int)+1+(j:Int))),z]∧AG H H'∧A3 sg i (i+1+j) (i+1+j+1+t)
theorem Q1 (T:Tx w K mg):Aa P w K mg base CX0 3 T.Kj T.JI ["gates"] (Ji K):=by
 refine T.KW.F.ok Be (fun _ _ _ _ h=>by walk_at "LN") ?_
 ·walk_at "I2"
  obtain ⟨l,as0,gs0,rfl,hl0,ga0,nd,h64,ok0,kn,kk⟩:=h
  refine ⟨_,(AD (pst 1 Be (AT Bn (by rfl) T.Er DL (AA (pv 0) AB)))
   (AD (pst 2 Be (AT AW (by rfl) T.BN A0 (AA (pv 1) AB)))
   (AD (Bo PassesOwn.never rfl (DF (by rfl) T.EX (AA (pv 2) AB)) (pgn 3 Be)
    (AE (Bo PassesOwn.never rfl (SK (by rfl) T.EX (AA (AH Ap (pv 3) AC) (AA (pv 2) AB))) (pgn 4 Be)
      (AE (Bo PassesOwn.never rfl (SK (by rfl) T.EX (AA (AH Ap (pv 4) AC) (AA (pv 2) AB))) (pgn 5 Be)
        (AE (Ae (ptc Ib (pcl T.R6 (VZ T) hr AR (AA (pxi AX (pv 1) (pv 3)) (AA (pxi AX (pv 1) (pv 4)) (AA (pxi AX (pv 1) (pv 5)) AB)))) AN) (AE (AI (Ag (AA (pxi AL (pxi AX (pv 1) (pv 3)) AC) (AA (pxi AL (pxi AX (pv 1) (pv 4)) AC) (AA (pxi AL (pxi AX (pv 1) (pv 5)) AC) AB))))))
          AS)))))))
   (AE (AI Fp))))),?_⟩
  delta Ux
  walk_at "AUTO"
  intro D H1 as gs nD s1 e1 ga hp ha
  have ok:∀ g∈gs,OkG g:=fun g hg=>ok0 g (hp.mem_iff.mp hg)
  have la:=ga.len
  have lg:=hp.length_eq
  have hlm:(as.map V.ref).length=gs.length:=by rw [z0,la]
  have sl:=SqL.of (K:=K) e1
  refine ⟨_,Or.inl sl,?_⟩
  rw [hlm]
  refine ⟨_,rfl,(gs.length:Int),rfl,by lia,by lia,CM (Vf1 l D gs.length gs H1) ⟨none,none,none,rfl,AG.refl _,ZK gs⟩ ?_ ?_⟩
  ·rintro i σ H2 hi ⟨x,y,z,rfl,t2,n1⟩
   have hi':i<gs.length:=by lia
   refine ⟨_,rfl,_,_,rfl,rfl,_,rfl,_,_,rfl,⟨by lia,by lia,by lia,by lia⟩,CM (Vf2 l D gs.length gs H1 i) ⟨_,_,rfl,t2,jK n1⟩ ?_ ?_⟩
   ·rintro j σ H3 hj ⟨y,z,rfl,t3,n2⟩
    have hj':i+1+j<gs.length:=by lia
    refine ⟨_,rfl,_,_,rfl,rfl,_,rfl,_,_,rfl,⟨by lia,by lia,by lia,by lia⟩,CM (Vf3 l D gs.length gs H1 i j) ⟨_,rfl,t3,na_in n2⟩ ?_ ?_⟩
    ·rintro u σ H4 hu' ⟨z,rfl,t4,n3⟩
     have hk':i+1+j+1+u<gs.length:=by lia
     obtain ⟨a1,ha1,t1'⟩:=ga.get (z9 hi')
     obtain ⟨a2,ha2,t2'⟩:=ga.get (z9 hj')
     obtain ⟨a3,ha3,t3'⟩:=ga.get (z9 hk')
     have t1:=t4.get t1'
     have t2:=t4.get t2'
     have t3:=t4.get t3'
     have i1:atI (as.map V.ref) (0+(i:Int))=some (V.ref a1):=by rw [Int.zero_add];exact Dq ha1
     have i2:atI (as.map V.ref) (0+(i:Int)+1+(j:Int))=some (V.ref a2):=by rw [show 0+(i:Int)+1+(j:Int)=((i+1+j:Nat):Int) by lia];exact Dq ha2
     have i3:atI (as.map V.ref) (0+(i:Int)+1+(j:Int)+1+(u:Int))=some (V.ref a3):=by rw [show 0+(i:Int)+1+(j:Int)+1+(u:Int)=((i+1+j+1+u:Nat):Int) by lia];exact Dq ha3
     have o1:=ok _ (zY hi')
     have o2:=ok _ (zY hj')
     have o3:=ok _ (zY hk')
     have g1:=Bk ha (z9 hi') (z9 hj') (by lia)
     have g2:=Bk ha (z9 hj') (z9 hk') (by lia)
     have sl4:=t4.seq sl
     delta Ux
     walk_at "AUTO"
     unfold Qs
     refine ⟨_,_,_,gs[i],gs[i+1+j],gs[i+1+j+1+u],rfl,SqT.of t1,SqT.of t2,SqT.of t3,o1,o2,o3,g1,g2,fun H5 s5=>?_⟩
     have t5:=t4.trans s5
     have e1:=s5.get t1
     have e2:=s5.get t2
     have e3:=s5.get t3
     have sl5:=s5.seq sl4
     refine ⟨rfl,?_⟩
     by_cases hb:Qd gs[i] gs[i+1+j] gs[i+1+j+1+u]
     ·rw [zh (fun z=>Uk.mp (V.str.inj z) hb)]
      walk_at "AUTO"
      exact kk p H' [gs[i].p,gs[i+1+j].p,gs[i+1+j+1+u].p] (s1.trans (t5.trans hs)) he (by simp) (.perm (.yes gs (List.Perm.refl _) ha i (i+1+j) (i+1+j+1+u) _ _ _ ⟨⟨by lia,by lia,_,_,_,z9 hi',z9 hj',z9 hk',hb⟩,n3⟩ (z9 hi') (z9 hj') (z9 hk') rfl) hp)
     ·rw [zE (congrArg V.str (Uk.mpr hb))]
      refine ⟨_,rfl,t5,aT n3 fun ⟨_,_,a,b,c,f1,f2,f3,f4⟩=>hb ?_⟩
      rw [z9 hi'] at f1
      rw [z9 hj'] at f2
      have f3:gs[i+1+j+1+u]? = some c:=f3
      rw [z9 hk'] at f3
      cases f1
      cases f2
      cases f3
      exact f4
    ·rintro σ H4 ⟨z,rfl,t4,n3⟩
     exact ⟨_,_,rfl,t4,Xi (by lia) n3⟩
   ·rintro σ H3 ⟨y,z,rfl,t3,n2⟩
    exact ⟨_,_,_,rfl,t3,Vt (by lia) n2⟩
  ·rintro σ H2 ⟨x,y,z,rfl,t2,n1⟩
   delta Ux
   exact kn _ (s1.trans t2) (.perm (.no gs (List.Perm.refl _) ha (na_no n1) rfl) hp)
theorem A2:AJ ["one","two","divisor","rest","next_rest"] ["one","two"] (AF Ce):=by walk_at "SC"
noncomputable def EG:Sp:=fun vs H Q _=>∃ a b:Int,vs=[.int a,.int b]∧0≤a∧0≤b∧Q (.int (Int.gcd a b)) H
noncomputable def W_gd (a b:Int)(H:Hp):Nat→St→Hp→Prop:=fun m σ H'=>∃ (d r:Int) (x:Option V),m=r.toNat∧σ=[some (.int a),some (.int b),some (.int d),some (.int r),x]∧H'=H∧0≤d∧0≤r∧Int.gcd d r=Int.gcd a b
theorem KJ (T:Tx w K mg):Aa P w K mg base CX0 1 T.E6 T.EI ["one","two"] EG:=by
 refine T.E8.F.ok A2 (fun _ _ _ _ h=>by walk_at "LN") ?_
 ·walk_at "I2"
  obtain ⟨a,b,rfl,ha,hb,k⟩:=h
  refine ⟨_,(AD (pst 2 A2 (pv 0))
   (AD (pst 3 A2 (pv 1))
   (AD (US PassesOwn.never (ptc Ib (pv 3) AC)
    (AD (pst 4 A2 (AH Wp (pv 2) (pv 3)))
     (AD (pst 2 A2 (pv 3))
     (AE (pst 3 A2 (pv 4))))))
   (AE (AI (pv 2)))))),?_⟩
  delta Ux
  refine ⟨W_gd a b H,⟨_,a,b,none,rfl,rfl,rfl,ha,hb,rfl⟩,?_⟩
  rintro m σ H' ⟨d,r,x,rfl,rfl,rfl,hd,hr',e⟩
  delta Ux
  by_cases h0:r=0
  ·subst h0
   simp only [decide_true,Bool.not_true,qE,if_false]
   delta Ux
   rw [← e,Sh hd] at k
   exact k
  ·simp only [h0,decide_false,Bool.not_false,if_true]
   refine ⟨_,fun _ _ h=>h,?_⟩
   delta Ux
   have hp:0<r:=by lia
   have hf:=WV (d:=d) hp
   refine ⟨h0,_,?_,r,d.fmod r,_,rfl,rfl,rfl,hr',hf.1,(Us hd hp).trans e⟩
   lia
theorem Nj:AJ ["top","bottom","divisor"] ["top","bottom"] (AF P9):=by walk_at "SC"
noncomputable def J0:Sp:=fun vs H Q _=>∃ t b:Int,vs=[.int t,.int b]∧b≠0∧Sm b∧∀ p H' x y,AG H H'→H' p=some (.tup [.int x,.int y])→FD t b x y→Q (.ref p) H'
noncomputable def C_lo (t b:Int)(H:Hp):St→Hp→Prop:=fun σ H'=>∃ d:Int,σ=[some (.int t),some (.int b),some (.int d)]∧H'=H∧d=if b<0 then -((Int.gcd t b:Nat):Int) else ((Int.gcd t b:Nat):Int)
theorem Jw (T:Tx w K mg):Aa P w K mg base CX0 2 T.Uu T.Sk ["top","bottom"] J0:=by
 refine T.Ip.F.ok Nj (fun _ _ _ _ h=>by walk_at "LN") ?_
 ·walk_at "I2"
  obtain ⟨t,b,rfl,hb,hs,k⟩:=h
  refine ⟨_,(AD (pst 2 Nj (pcl T.E8 (KJ T) hr AR (AA (AT Mg (by rfl) T.Wn S8 (AA (pv 0) AB)) (AA (AT Mg (by rfl) T.Wn S8 (AA (pv 1) AB)) AB))))
   (Jy (Ae (ptc E7 (pv 1) AC) (AE (pst 2 Nj (GR DR (pv 2))))
    AS)
   (AE (AI (Ag (AA (AH U5 (pv 0) (pv 2)) (AA (AH U5 (pv 1) (pv 2)) AB))))))),?_⟩
  delta EG
  refine ⟨by split<;>lia,by split<;>lia,C_lo t b H,?_,?_⟩
  ·rw [aF]
   delta Ux
   by_cases hn:b<0
   ·rw [if_pos (zE hn)]
    exact ⟨_,rfl,rfl,by rw [if_pos hn]⟩
   ·rw [if_neg (by simp [hn])]
    exact ⟨_,rfl,rfl,by rw [if_neg hn]⟩
  ·rintro σ' H' ⟨d,rfl,rfl,hd⟩
   obtain ⟨L,d0⟩:=jT hb hd
   have ds:Sm d:=by
    refine zk ?_ hs
    have h1:d.natAbs=Int.gcd t b:=by rw [hd];split<;>lia
    rw [h1]
    exact Nat.le_of_dvd (by lia) (Int.gcd_dvd_natAbs_right t b)
   delta Ux
   exact ⟨d0,ds,d0,ds,by decide,fun p H1 hp hs he=>k p _ _ _ hs he L⟩
theorem Lg:AJ ["one","two","left","right"] ["one","two"] (AF OH):=by walk_at "SC"
noncomputable def Qg (x y:Int):Int:=if x<y then -1 else if y<x then 1 else 0
noncomputable def L4 (K:W.Frag):Sp:=fun vs H Q _=>∃ (p q:Addr) (a b c d:Int),vs=[.ref p,.ref q]∧SqT K H p [.int a,.int b]∧SqT K H q [.int c,.int d]∧Sm a∧Sm b∧Sm c∧Sm d∧Q (.int (Qg (a*d) (c*b))) H
theorem Ld (T:Tx w K mg):Aa P w K mg base CX0 1 T.Sl T.Pw ["one","two"] (L4 K):=by
 refine T.J8.F.ok Lg (fun _ _ _ _ h=>by walk_at "LN") ?_
 ·walk_at "I2"
  obtain ⟨p,q,a,b,c,d,rfl,h1,h2,sa,sb,sc,sd,k⟩:=h
  refine ⟨_,(AD (pst 2 Lg (AH DW (pxi AL (pv 0) AC) (pxi AL (pv 1) AC)))
   (AD (pst 3 Lg (AH DW (pxi AL (pv 1) AC) (pxi AL (pv 0) AC)))
   (AD (Ae (ptc E7 (pv 2) (pv 3)) (AE (AI (GR DR AC)))
    AS)
   (AD (Ae (ptc IC (pv 2) (pv 3)) (AE (AI AC))
    AS)
   (AE (AI AC)))))),?_⟩
  delta Ux
  walk_at "AUTO"
  unfold Qg at k
  by_cases c1:a*d<c*b
  ·simp only [c1,decide_true,if_true] at k ⊢
   exact k
  ·by_cases c2:c*b<a*d
   ·simp only [c1,c2,decide_true,decide_false,qE,if_true,if_false] at k ⊢
    exact k
   ·simp only [c1,c2,decide_true,decide_false,qE,if_true,if_false] at k ⊢
    exact k
theorem CS:AJ ["throw","place","height_top","height_bottom","rise_top","rise_bottom","top"] ["throw","place"] (AF Ix):=by walk_at "SC"
noncomputable def My (K:W.Frag):Sp:=fun vs H Q _=>∃ (p:Addr) (pl a b c d:Int),vs=[.ref p,.int pl]∧SqT K H p [.int a,.int b,.int c,.int d]∧0<b∧0<d∧Md a∧Md b∧Md c∧Md d∧Md pl∧∀ q H' x y,AG H H'→H' q=some (.tup [.int x,.int y])→FD (a*d+pl*c*b) (b*d) x y→Q (.ref q) H'
theorem Tf (T:Tx w K mg):Aa P w K mg base CX0 3 T.O1 T.NN ["throw","place"] (My K):=by
 refine T.OT.F.ok CS (fun _ _ _ _ h=>by walk_at "LN") ?_
 ·walk_at "I2"
  obtain ⟨p,pl,a,b,c,d,rfl,h1,hb,hd,ma,mb,mc,md,mp,k⟩:=h
  refine ⟨_,(AD (pst 2 CS (pxi AL (pv 0) AC))
   (AD (pst 3 CS (pxi AL (pv 0) AC))
   (AD (pst 4 CS (pxi AL (pv 0) AC))
   (AD (pst 5 CS (pxi AL (pv 0) AC))
   (AD (pst 6 CS (AH Ap (AH DW (pv 2) (pv 5)) (AH DW (AH DW (pv 1) (pv 4)) (pv 3))))
   (AE (AI (pcl T.Ip (Jw T) hr AR (AA (pv 6) (AA (AH DW (pv 3) (pv 5)) AB)))))))))),?_⟩
  have sa:=ma.sm
  have sb:=mb.sm
  have sc:=mc.sm
  have sd:=md.sm
  have sp:=mp.sm
  have s2:=mp.mulS mc
  have s3:=mb.mulS md
  have hne:b*d≠0:=Int.mul_ne_zero (by lia) (by lia)
  walk_at "Q"
  delta Ux
  walk_at "AUTO"
  walk_at "NX"
  walk_at "Q"
  delta Ux
  walk_at "AUTO"
  walk_at "NX"
  walk_at "Q"
  delta Ux
  walk_at "AUTO"
  walk_at "NX"
  walk_at "Q"
  delta Ux
  walk_at "AUTO"
  walk_at "NX"
  walk_at "Q"
  delta Ux
  walk_at "AUTO"
  walk_at "NX"
  delta J0
  walk_at "AUTO"
  exact fun q H' x y s e L=>k q H' x y s e L
theorem E5:AJ ["place","height","other","second","steps","gain","start","rise"] ["place","height","other","second"] (AF OC):=by walk_at "SC"
noncomputable def Lk:Sp:=fun vs H Q _=>∃ p0 h0 p1 h1:Int,vs=[.int p0,.int h0,.int p1,.int h1]∧p0≠p1∧p0.natAbs≤10 ^ 30∧h0.natAbs≤10 ^ 30∧p1.natAbs≤10 ^ 30∧h1.natAbs≤10 ^ 30 ∧
 ∀ q H' x y z v,AG H H'→H' q=some (.tup [.int x,.int y,.int z,.int v])→FD (h0*(p1-p0)-p0*(h1-h0)) (p1-p0) x y→FD (h1-h0) (p1-p0) z v→Q (.ref q) H'
theorem Q9 (T:Tx w K mg):Aa P w K mg base CX0 3 T.SZ T.QN ["place","height","other","second"] Lk:=by
 refine T.No.F.ok E5 (fun _ _ _ _ h=>by walk_at "LN") ?_
 ·walk_at "I2"
  obtain ⟨p0,h0,p1,h1,rfl,hne,b0,b1,b2,b3,k⟩:=h
  refine ⟨_,(AD (pst 4 E5 (AH Ax (pv 2) (pv 0)))
   (AD (pst 5 E5 (AH Ax (pv 3) (pv 1)))
   (AD (pst 6 E5 (pcl T.Ip (Jw T) hr AR (AA (AH Ax (AH DW (pv 1) (pv 4)) (AH DW (pv 0) (pv 5))) (AA (pv 4) AB))))
   (AD (pst 7 E5 (pcl T.Ip (Jw T) hr AR (AA (pv 5) (AA (pv 4) AB))))
   (AE (AI (Ag (AA (pxi AL (pv 6) AC) (AA (pxi AL (pv 6) AC) (AA (pxi AL (pv 7) AC) (AA (pxi AL (pv 7) AC) AB))))))))))),?_⟩
  have hs:p1-p0≠0:=by lia
  have m1:Sm (p1-p0):=Sm.of (n:=10 ^ 31) (by lia) (by decide +kernel)
  have m2:Sm (h1-h0):=Sm.of (n:=10 ^ 31) (by lia) (by decide +kernel)
  have m3:Sm p0:=Sm.of b0 (by decide +kernel)
  have m4:Sm h0:=Sm.of b1 (by decide +kernel)
  walk_at "Q"
  delta Ux
  walk_at "NX"
  walk_at "Q"
  delta Ux
  walk_at "NX"
  walk_at "Q"
  delta J0
  walk_at "AUTO"
  intro q1 H1 x y s1 e1 Lw1
  walk_at "NX"
  walk_at "Q"
  delta J0
  walk_at "AUTO"
  intro q2 H2 z v s2 e2 Lw2
  walk_at "NX"
  delta Ux
  walk_at "AUTO"
  exact k _ _ _ _ _ _ (by walk_at "SAME") (by assumption) Lw1 Lw2
theorem KC:AJ ["throw","gate","height","foot","head"] ["throw","gate"] (AF RA):=by walk_at "SC"
noncomputable def SU (K:W.Frag):Sp:=fun vs H Q _=>∃ (p g:Addr) (a b c d pl f h:Int),vs=[.ref p,.ref g]∧SqT K H p [.int a,.int b,.int c,.int d]∧SqT K H g [.int pl,.int f,.int h]∧0<b∧0<d∧a.natAbs≤10 ^ 15∧b.natAbs≤10 ^ 15∧c.natAbs≤10 ^ 15∧d.natAbs≤10 ^ 15∧pl.natAbs≤10 ^ 15∧f.natAbs≤10 ^ 15∧h.natAbs≤10 ^ 15∧∀ H',AG H H'→Q (.bl (decide (Pas a b c d pl f h))) H'
theorem So (T:Tx w K mg):Aa P w K mg base CX0 4 T.Uv T.SN ["throw","gate"] (SU K):=by
 refine T.QW.F.ok KC (fun _ _ _ _ h=>by walk_at "LN") ?_
 ·walk_at "I2"
  obtain ⟨p,g,a,b,c,d,pl,f,h,rfl,hp,hg,hb,hd,b1,b2,b3,b4,b5,b6,b7,k⟩:=h
  refine ⟨_,(AD (pst 2 KC (pcl T.OT (Tf T) hr AR (AA (pv 0) (AA (pxi AL (pv 1) AC) AB))))
   (AD (pst 3 KC (Ag (AA (pxi AL (pv 1) AC) (AA AC AB))))
   (AD (pst 4 KC (Ag (AA (pxi AL (pv 1) AC) (AA AC AB))))
   (AE (AI (V8 (pec Zc (pcl T.J8 (Ld T) hr AR (AA (pv 3) (AA (pv 2) AB))) AC) (V3 (pec Zc (pcl T.J8 (Ld T) hr AR (AA (pv 2) (AA (pv 4) AB))) AC)))))))),?_⟩
  have md:∀ {i:Int},i.natAbs≤10 ^ 15→Md i:=fun h=>zO h (by decide +kernel)
  walk_at "Q"
  delta My
  walk_at "AUTO"
  refine ⟨a,b,c,d,hp,hb,hd,md b1,md b2,md b3,md b4,md b5,fun q H1 x y s1 e1 L=>?_⟩
  have bd:=Ch b2 b4
  have bt1:=Ch b1 b4
  have bt2:=Ch (Ch b5 b3) b2
  have bt:(a*d+pl*c*b).natAbs≤10 ^ 46:=by lia
  have sx:Sm x:=Sm.of (zO L.absx bt) (by decide +kernel)
  have sy:Sm y:=Sm.of (zO L.absy bd) (by decide +kernel)
  have sf:Sm f:=Sm.of b6 (by decide +kernel)
  have sh:Sm h:=Sm.of b7 (by decide +kernel)
  have s0:Sm 1:=by unfold Sm;decide +kernel
  have E:=L.eq
  have hy:=L.pos
  have hbd:0<b*d:=Int.mul_pos hb hd
  walk_at "NX"
  walk_at "Q"
  delta Ux
  walk_at "AUTO"
  walk_at "NX"
  walk_at "Q"
  delta Ux
  walk_at "AUTO"
  walk_at "NX"
  delta L4
  walk_at "AUTO"
  refine ⟨f,1,(by walk_at "SQT"),x,y,(by walk_at "SQT"),sf,s0,sx,sy,?_⟩
  have c1:(Qg (f*y) (x*1)≤0)↔f*(b*d)≤a*d+pl*c*b:=by
   rw [Int.mul_one]
   have e:Qg (f*y) x≤0↔f*y≤x:=by unfold Qg;split<;>(try split)<;>lia
   rw [e]
   generalize a*d+pl*c*b=t at *
   generalize b*d=u at *
   exact Zq hy hbd E
  have c2:(Qg (x*1) (h*y)≤0)↔a*d+pl*c*b≤h*(b*d):=by
   rw [Int.mul_one]
   have e:Qg x (h*y)≤0↔x≤h*y:=by unfold Qg;split<;>(try split)<;>lia
   rw [e]
   generalize a*d+pl*c*b=t at *
   generalize b*d=u at *
   exact aK hy hbd E
  by_cases g1:f*(b*d)≤a*d+pl*c*b
  ·rw [if_pos (zE (c1.mpr g1))]
   refine ⟨x,y,(by walk_at "SQT"),h,1,(by walk_at "SQT"),sx,sy,sh,s0,?_⟩
   have e:decide (Qg (x*1) (h*y)≤0)=decide (Pas a b c d pl f h):=by
    unfold Pas
    simp only [c2,g1,true_and]
   rw [e]
   exact k _ (by walk_at "SAME")
  ·rw [if_neg (by simp only [decide_eq_true_eq];exact fun z=>g1 (c1.mp z))]
   have e:decide (Pas a b c d pl f h)=false:=by
    unfold Pas
    simp only [g1,false_and,decide_false]
   rw [e] at k
   exact k _ (by walk_at "SAME")
theorem RZ:AJ ["throw","gates"] ["throw","gates"] (AF G4):=by walk_at "SC"
noncomputable def KY (K:W.Frag):Sp:=fun vs H Q _=>∃ (q l:Addr) (t:Thr) (as:List Addr) (gs:List G),vs=[.ref q,.ref l]∧SqT K H q t.vs∧SqL K H l (as.map V.ref)∧Am H as gs∧OkT t∧gs.length≤1000∧(∀ g∈gs,OkG g)∧∀ H',AG H H'→Q (.bl (decide (∀ g∈gs,t.pas g))) H'
theorem Rr (T:Tx w K mg):Aa P w K mg base CX0 5 T.NK T.K3 ["throw","gates"] (KY K):=by
 refine T.MZ.F.ok RZ (fun _ _ _ _ h=>by walk_at "LN") ?_
 ·walk_at "I2"
  obtain ⟨q,l,t,as,gs,rfl,hq,hl,ga,ot,hz,ok,k⟩:=h
  refine ⟨_,(AE (AI (AT (UV (by rfl)) (by rfl) T.bQ ZA (AA (Bj rfl (⟨rfl,by decide +kernel,by decide +kernel,by decide +kernel,rfl,by decide +kernel,by with_unfolding_all rfl,by rfl,by rfl,by rfl⟩:Ar _ _ "gate" ["throw"] [0]) (A7 (pv 1)) (fun _ _ _ _  => (pcl T.QW (So T) hr AR (AA (pv 1) (AA (pv 0) AB)))) (fun _ _ _ _=>BJ)) AB)))),?_⟩
  delta C5
  walk_at "AUTO"
  intro D nD
  refine KI (F:=fun _ v g=>v=V.bl (decide (t.pas g))) (fun _ _ _ _ _ h=>h) (fun _ _ _ _ _ _ h=>h) hl ga nD hz ?_ ?_
  ·intro v g H1 R hg s1 ev hR
   obtain ⟨p1,p2,p3,p4,p5⟩:=ok g hg
   delta qO
   walk_at "AUTO"
   unfold SU
   refine ⟨_,_,t.a,t.b,t.c,t.d,g.p,g.f,g.h,rfl,s1.tup hq,SqT.of ev,ot.b0,ot.d0,zO ot.a1 (by decide),zO ot.b1 (by decide),zO ot.c1 (by decide),zO ot.d1 (by decide),by lia,by lia,by lia,fun H2 s2=>hR _ _ s2 rfl⟩
  ·intro H1 ys s1 e1 pr
   have ey:=Paired.eq_map pr
   subst ey
   refine ⟨gs.map fun g=>decide (t.pas g),SqL.of (by rw [e1,zp];rfl),?_⟩
   have e:(gs.map fun g=>decide (t.pas g)).all id=decide (∀ g∈gs,t.pas g):=by
    rw [qZ]
    simp
   rw [e]
   exact k _ s1
theorem OB:AJ ["throw","ordered"] ["throw","ordered"] (AF Dt):=by walk_at "SC"
noncomputable def N2 (K:W.Frag):Sp:=fun vs H Q _=>∃ (q l:Addr) (a b c d:Int) (as:List Addr) (gs:List G),vs=[.ref q,.ref l]∧H q=some (.tup [.int a,.int b,.int c,.int d])∧¬ PJ a b c d∧SqL K H l (as.map V.ref)∧Am H as gs∧gs.length≤40∧(∀ g∈gs,OkG g)∧∀ D H',H D=none→AG H H'→H' D=some (.lst ((AU (gs.filter (Qf a b c d))).map V.int))→Q (.ref D) H'
theorem GX (T:Tx w K mg):Aa P w K mg base CX0 5 T.Hr T.GK ["throw","ordered"] (N2 K):=by
 refine T.Dv.F.ok OB (fun _ _ _ _ h=>by walk_at "LN") ?_
 ·walk_at "I2"
  obtain ⟨q,l,a,b,c,d,as,gs,rfl,hq,nb,hl,ga,l40,ok,k⟩:=h
  refine ⟨_,(AE (AI (Bj rfl (⟨rfl,by decide +kernel,by decide +kernel,by decide +kernel,rfl,by decide +kernel,by with_unfolding_all rfl,by rfl,by rfl,by rfl⟩:Ar _ _ "gate" ["throw"] [0]) (A7 (pv 1)) (fun _ _ _ _  => (pxi (G1 (K:=K) rfl) (pv 0) AC)) (fun _ _ _ _=>(Wt (EC (pcl T.QW (So T) hr AR (AA (pv 1) (AA (pv 0) AB))))))))),?_⟩
  have h1:¬ b<1:=fun z=>nb (.inl z)
  have h2:¬ d<1:=fun z=>nb (.inr (.inl z))
  have h3:∀ x∈[a,b,c,d],x.natAbs≤10 ^ 15:=fun x hx=>by
   have h4:¬ x < -999999999:=fun z=>nb (.inr (.inr ⟨x,hx,.inl z⟩))
   have h5:¬ 999999999<x:=fun z=>nb (.inr (.inr ⟨x,hx,.inr z⟩))
   lia
  delta C5
  refine ⟨⟨_,hl⟩,fun D nD=>?_⟩
  refine Tg (Qf a b c d) (fun g=>V.int g.p) hl ga nD (by lia) (fun v g H1 R hg s1 ev hR=>?_) (fun v g H1 R hg s1 ev hR=>?_) fun H1 s1 e1=>?_
  ·have og:=ok g hg
   have o1:=og.p0
   have o2:=og.p1
   have o3:=og.f0
   have o4:=og.fh
   have o5:=og.h1
   delta qO
   refine ⟨q,v,a,b,c,d,g.p,g.f,g.h,rfl,SqT.of (s1.get hq),SqT.of ev,by lia,by lia,h3 a (by simp),h3 b (by simp),h3 c (by simp),h3 d (by simp),by lia,by lia,by lia,fun H2 s2=>⟨_,rfl,hR H2 s2⟩⟩
  ·delta qO
   exact ⟨_,SqT.of ev,_,rfl,hR⟩
  ·exact k D H1 nD s1 (by rw [e1,zp];rfl)
theorem Ph:AJ ["earlier","later"] ["earlier","later"] (AF FC):=by walk_at "SC"
noncomputable def Hk (K:W.Frag):Sp:=fun vs H Q _=>∃ (a b:Addr) (x y:G),vs=[.ref a,.ref b]∧SqT K H a (G.vs x)∧SqT K H b (G.vs y)∧OkG x∧OkG y∧∀ D H',AG H H'→H' D=some (.tup [.int (y.h-x.f),.int (y.p-x.p)])→Q (.ref D) H'
theorem Ho (T:Tx w K mg):Aa P w K mg base CX0 1 T.JY T.Hq ["earlier","later"] (Hk K):=by
 refine T.FG.F.ok Ph (fun _ _ _ _ h=>by walk_at "LN") ?_
 ·walk_at "I2"
  obtain ⟨a,b,x,y,rfl,ha,hb,o1,o2,k⟩:=h
  refine ⟨_,(AE (AI (Ag (AA (AH Ax (pxi AL (pv 1) AC) (pxi AL (pv 0) AC)) (AA (AH Ax (pxi AL (pv 1) AC) (pxi AL (pv 0) AC)) AB))))),?_⟩
  obtain ⟨p1,p2,p3,p4,p5⟩:=id o1
  obtain ⟨q1,q2,q3,q4,q5⟩:=id o2
  delta Ux
  walk_at "AUTO"
  exact k _ _ hs he
theorem BI:AJ ["ordered","pair","index","earlier","later"] ["ordered"] (AF Dx):=by walk_at "SC"
structure Nm (H:Hp)(D:Addr)(gs:List G)(ax ay:Addr)(x y:G):Prop where
 eD:H D=some (.tup [.ref ax,.ref ay])
 ex:H ax=some (.tup (G.vs x))
 ey:H ay=some (.tup (G.vs y))
 hx:x∈gs
 hy:y∈gs
 lt:x.p<y.p
theorem Nm.same {H H':Hp}{D:Addr}{gs:List G}{ax ay:Addr}{x y:G}(h:Nm H D gs ax ay x y)(s:AG H H'):Nm H' D gs ax ay x y:=⟨s.get h.eD,s.get h.ex,s.get h.ey,h.hx,h.hy,h.lt⟩
noncomputable def LeAll (gs:List G)(x y:G)(i j:Nat):Prop:=∀ i' j' u v,i'<j'→gs[i']? = some u→gs[j']? = some v→(i'<i∨(i'=i∧j'<j))→LeR x y u v
structure EJ (gs:List G)(x y:G)(i j:Nat):Prop where
 le:LeAll gs x y i j
 first:∀ i' j' u v,i'<j'→gs[i']? = some u→gs[j']? = some v→(i'<i∨(i'=i∧j'<j))→LeR u v x y→(x.p<u.p∨(x.p=u.p∧y.p≤v.p))
 pos:∃ a b:Nat,gs[a]? = some x∧gs[b]? = some y∧((a=0∧b=1)∨a<i∨(a=i∧b<j))
theorem bz {gs:List G}(ha:Asc gs){i j:Nat}{x y:G}(hx:gs[i]? = some x)(hy:gs[j]? = some y)(h:i≤j):x.p≤y.p:=by
 rcases Nat.lt_or_eq_of_le h with z | z
 ·have:=Bk ha hx hy z;lia
 ·subst z;rw [hx] at hy;cases hy;lia
theorem EJ.skip {gs:List G}{x y u v:G}{i j:Nat}(ha:Asc gs)(h:EJ gs x y i (i+1+j))(gu:gs[i]? = some u)(gv:gs[i+1+j]? = some v)(hb:LeR x y u v):EJ gs x y i (i+1+(j+1)):=by
 obtain ⟨a,b,ga,gb,hp⟩:=h.pos
 refine ⟨fun i' j' u' v' h1 h2 h3 h4=>?_,fun i' j' u' v' h1 h2 h3 h4 h5=>?_,a,b,ga,gb,by lia⟩
 ·rcases (by lia:(i'<i∨(i'=i∧j'<i+1+j))∨(i'=i∧j'=i+1+j)) with z | ⟨rfl,rfl⟩
  ·exact h.le i' j' u' v' h1 h2 h3 z
  ·cases gu.symm.trans h2
   cases gv.symm.trans h3
   exact hb
 ·rcases (by lia:(i'<i∨(i'=i∧j'<i+1+j))∨(i'=i∧j'=i+1+j)) with z | ⟨rfl,rfl⟩
  ·exact h.first i' j' u' v' h1 h2 h3 z h5
  ·by_cases hl:a<i'
   ·exact .inl (Bk ha ga h2 hl)
   ·have e:a=i':=by lia
    subst e
    rw [ga] at h2
    cases h2
    exact .inr ⟨rfl,bz ha gb h3 (by lia)⟩
theorem EJ.take {gs:List G}{x y u v:G}{i j:Nat}(ha:Asc gs)(lxy:x.p<y.p)(h:EJ gs x y i (i+1+j))(gu:gs[i]? = some u)(gv:gs[i+1+j]? = some v)(hb:¬ LeR x y u v):EJ gs u v i (i+1+(j+1)):=by
 have luv:=Bk ha gu gv (by lia)
 have lt':LeR u v x y:=by
  unfold LeR at hb ⊢
  rw [Int.not_le] at hb
  exact qM hb
 refine ⟨fun i' j' u' v' h1 h2 h3 h4=>?_,fun i' j' u' v' h1 h2 h3 h4 h5=>?_,i,i+1+j,gu,gv,by lia⟩
 ·rcases (by lia:(i'<i∨(i'=i∧j'<i+1+j))∨(i'=i∧j'=i+1+j)) with z | ⟨rfl,rfl⟩
  ·exact LeR.trans luv lxy (Bk ha h2 h3 h1) lt' (h.le i' j' u' v' h1 h2 h3 z)
  ·cases gu.symm.trans h2
   cases gv.symm.trans h3
   exact LeR.refl u v
 ·rcases (by lia:(i'<i∨(i'=i∧j'<i+1+j))∨(i'=i∧j'=i+1+j)) with z | ⟨rfl,rfl⟩
  ·exact absurd (LeR.trans lxy (Bk ha h2 h3 h1) luv (h.le i' j' u' v' h1 h2 h3 z) h5) hb
  ·cases gu.symm.trans h2
   cases gv.symm.trans h3
   exact .inr ⟨rfl,Int.le_refl _⟩
theorem EJ.row {gs:List G}{x y:G}{i:Nat}(h:EJ gs x y i 0):EJ gs x y i (i+1+0):=
 ⟨fun i' j' u v h1 h2 h3 h4=>h.le i' j' u v h1 h2 h3 (by lia),fun i' j' u v h1 h2 h3 h4=>h.first i' j' u v h1 h2 h3 (by lia),let ⟨a,b,ga,gb,hp⟩:=h.pos;⟨a,b,ga,gb,by lia⟩⟩
theorem EJ.next {gs:List G}{x y:G}{i n:Nat}(hn:i+1+n=gs.length)(h:EJ gs x y i (i+1+n)):EJ gs x y (i+1) 0:=
 ⟨fun i' j' u v h1 h2 h3 h4=>h.le i' j' u v h1 h2 h3 (by have:=(zC.mp h3).1;lia),fun i' j' u v h1 h2 h3 h4=>h.first i' j' u v h1 h2 h3 (by have:=(zC.mp h3).1;lia),let ⟨a,b,ga,gb,hp⟩:=h.pos;⟨a,b,ga,gb,by lia⟩⟩
theorem EJ.out {gs:List G}{x y:G}(ha:Asc gs)(h:EJ gs x y gs.length 0):(∀ x'∈gs,∀ y'∈gs,x'.p<y'.p→LeR x y x' y')∧TC gs x y:=by
 refine ⟨fun x' hx' y' hy' lt'=>?_,fun x' hx' y' hy' lt' hl=>?_⟩
 all_goals
  obtain ⟨i',hi',rfl⟩:=qU hx'
  obtain ⟨j',hj',rfl⟩:=qU hy'
  have q1:=z9 hi'
  have q2:=z9 hj'
 ·exact h.le i' j' _ _ (GQ ha q1 q2 lt') q1 q2 (by lia)
 ·exact h.first i' j' _ _ (GQ ha q1 q2 lt') q1 q2 (by lia) hl
noncomputable def Go (K:W.Frag):Sp:=fun vs H Q _=>∃ (l:Addr) (as:List Addr) (gs:List G),vs=[.ref l]∧SqL K H l (as.map V.ref)∧Am H as gs∧Asc gs∧2≤gs.length∧gs.length≤1000∧(∀ g∈gs,OkG g)∧∀ D H' ax ay x y,AG H H'→Nm H' D gs ax ay x y→(∀ x'∈gs,∀ y'∈gs,x'.p<y'.p→LeR x y x' y')→TC gs x y→Q (.ref D) H'
noncomputable def Wt1 (l:Addr)(gs:List G)(H:Hp):Nat→St→Hp→Prop:=fun i σ H'=>∃ D ax ay x y o1 o2 o3,σ=[some (.ref l),some (.ref D),o1,o2,o3]∧AG H H'∧Nm H' D gs ax ay x y∧EJ gs x y i 0
noncomputable def Wt2 (l ea:Addr)(gs:List G)(H:Hp)(i:Nat):Nat→St→Hp→Prop:=fun j σ H'=>∃ D ax ay x y o3,σ=[some (.ref l),some (.ref D),some (.int (i:Int)),some (.ref ea),o3]∧AG H H'∧Nm H' D gs ax ay x y∧EJ gs x y i (i+1+j)
theorem Ny (T:Tx w K mg):Aa P w K mg base CX0 2 T.Hz T.GO ["ordered"] (Go K):=by
 refine T.II.F.ok BI (fun _ _ _ _ h=>by walk_at "LN") ?_
 ·walk_at "I2"
  obtain ⟨l,as,gs,rfl,hl,ga,ha,l2,hz,ok,k⟩:=h
  refine ⟨_,(AD (pst 1 BI (Ag (AA (pxi AX (pv 0) AC) (AA (pxi AX (pv 0) AC) AB))))
   (AD (Bo PassesOwn.never rfl (WR (by rfl) T.Ow (AA (pv 0) AB)) (TR (n:=2) rfl (Dr (pgn 2 BI) (Dr (pgn 3 BI) Pp)))
    (AE (Bo PassesOwn.never rfl (A7 (Ct Et (pv 0) (EK (AH Ap (pv 2) AC)) Eg)) (pgn 4 BI)
      (AE (Ae (ptc E7 (pcl T.J8 (Ld T) hr AR (AA (pcl T.FG (Ho T) hr AR (AA (pv 3) (AA (pv 4) AB))) (AA (pcl T.FG (Ho T) hr AR (AA (pxi AL (pv 1) AC) (AA (pxi AL (pv 1) AC) AB))) AB))) AC) (AE (pst 1 BI (Ag (AA (pv 3) (AA (pv 4) AB)))))
        AS)))))
   (AE (AI (pv 1))))),?_⟩
  have la:=ga.len
  have h0:0<gs.length:=by lia
  have h1:1<gs.length:=by lia
  obtain ⟨a0,f0,e0⟩:=ga.get (z9 h0)
  obtain ⟨a1,f1,e1⟩:=ga.get (z9 h1)
  have i0:atI (as.map V.ref) 0=some (V.ref a0):=Dq (i:=0) f0
  have i1:atI (as.map V.ref) 1=some (V.ref a1):=Dq (i:=1) f1
  delta Ux
  walk_at "AUTO"
  refine ⟨_,rfl,l,rfl,⟨_,hs.seq hl⟩,UT (xs:=as.map V.ref) (Wt1 l gs H') ⟨p,a0,a1,gs[0],gs[1],none,none,none,rfl,AG.refl _,⟨he,hs.get e0,hs.get e1,zY h0,zY h1,Bk ha (z9 h0) (z9 h1) (by lia)⟩,⟨fun i' j' u v _ _ _ hh=>by lia,fun i' j' u v _ _ _ hh=>by lia,0,1,z9 h0,z9 h1,.inl ⟨rfl,rfl⟩⟩⟩ (fun i σ H1 _ zq=>by obtain ⟨_,_,_,_,_,_,_,_,_,s1,_,_⟩:=zq;exact (hs.trans s1).seq hl) ?_ ?_⟩
  ·rintro i vv σ H1 pp H2 hx ⟨D,ax,ay,x,y,o1,o2,o3,rfl,s1,pa,le⟩ hn s2 e2
   have hi:i<gs.length:=by
    have:=(zC.mp hx).1
    rw [z0] at this
    lia
   obtain ⟨ea,fe,ee⟩:=ga.get (z9 hi)
   have ex:vv=V.ref ea:=by
    rw [zN,fe] at hx
    exact (zV hx).symm
   subst ex
   have s02:=hs.trans (s1.trans s2)
   have gu:=z9 hi
   generalize hu0:gs[i]=u at ee gu
   have ou:=ok u (zW gu)
   delta Pa Hs O9
   refine ⟨_,SqT.of e2,rfl,_,_,rfl,_,_,rfl,rfl,?_⟩
   refine ⟨_,rfl,_,rfl,_,_,rfl,rfl,_,rfl,l,rfl,_,s02.seq hl,fun S H3 nS s3 eS=>?_⟩
   rw [show (i:Int)+1=((i+1:Nat):Int) by lia,KB,← List.map_drop] at eS
   have s03:=s02.trans s3
   refine ⟨S,rfl,⟨_,SqL.of eS⟩,JF (xs:=(as.drop (i+1)).map V.ref) (Wt2 l ea gs H3 i) ⟨D,ax,ay,x,y,o3,rfl,AG.refl _,(pa.same s2).same s3,le.row⟩ (fun j σ H4 _ zq=>by obtain ⟨_,_,_,_,_,_,_,s4,_,_⟩:=zq;exact SqL.of (s4.get eS)) ?_ ?_⟩
   ·rintro j vv σ H4 hx ⟨D,ax,ay,x,y,o3,rfl,s4,pa,le⟩
    have hj:i+1+j<gs.length:=by
     have:=(zC.mp hx).1
     rw [z0,zo] at this
     lia
    obtain ⟨la',fl,el⟩:=ga.get (z9 hj)
    have ex:vv=V.ref la':=by
     rw [zN,List.getElem?_drop,fl] at hx
     exact (zV hx).symm
    subst ex
    have s04:=s03.trans s4
    have gv:=z9 hj
    generalize hv0:gs[i+1+j]=v at el gv
    have ov:=ok v (zW gv)
    have eu4:=s04.get ee
    have ev4:=s04.get el
    have ex4:=pa.ex
    have ey4:=pa.ey
    have eD4:=pa.eD
    have luv:=Bk ha gu gv (by lia)
    have lxy:=pa.lt
    have ox:=ok x pa.hx
    have oy:=ok y pa.hy
    delta Ux
    walk_at "AUTO"
    unfold Hk L4
    refine ⟨_,_,u,v,rfl,SqT.of eu4,SqT.of ev4,ou,ov,fun D1 H5 s5 e5=>?_⟩
    walk_at "AUTO"
    refine ⟨_,_,x,y,rfl,(by walk_at "SQT"),(by walk_at "SQT"),ox,oy,fun D2 H6 s6 e6=>?_⟩
    obtain ⟨p1,p2,p3,p4,p5⟩:=id ou
    obtain ⟨q1,q2,q3,q4,q5⟩:=id ov
    obtain ⟨r1,r2,r3,r4,r5⟩:=id ox
    obtain ⟨t1,t2,t3,t4,t5⟩:=id oy
    have w1:Sm (v.h-u.f):=Sm.of (n:=10 ^ 10) (by lia) (by decide +kernel)
    have w2:Sm (v.p-u.p):=Sm.of (n:=10 ^ 10) (by lia) (by decide +kernel)
    have w3:Sm (y.h-x.f):=Sm.of (n:=10 ^ 10) (by lia) (by decide +kernel)
    have w4:Sm (y.p-x.p):=Sm.of (n:=10 ^ 10) (by lia) (by decide +kernel)
    refine ⟨_,_,_,_,_,_,rfl,SqT.of (s6.get e5),SqT.of e6,w1,w2,w3,w4,?_⟩
    have ec:Qg ((v.h-u.f)*(y.p-x.p)) ((y.h-x.f)*(v.p-u.p))<0↔¬ LeR x y u v:=by
     unfold Qg LeR
     rw [Int.not_le]
     split<;>(try split)<;>lia
    have s46:=s5.trans s6
    refine ⟨_,rfl,?_⟩
    by_cases hb:LeR x y u v
    ·rw [if_neg (fun z=>ec.mp (zH z) hb)]
     exact ⟨D,ax,ay,x,y,_,rfl,s4.trans s46,pa.same s46,le.skip ha gu gv hb⟩
    ·rw [if_pos (zE (ec.mpr hb))]
     walk_at "AUTO"
     exact ⟨p,ea,la',u,v,_,rfl,s4.trans (s46.trans hs),⟨he,hs.get (s46.get eu4),hs.get (s46.get ev4),zW gu,zW gv,luv⟩,le.take ha lxy gu gv hb⟩
   ·rintro σ H4 ⟨D,ax,ay,x,y,o3,rfl,s4,pa,le⟩
    rw [z0,zo] at le
    exact ⟨D,ax,ay,x,y,_,_,_,rfl,s1.trans (s2.trans (s3.trans s4)),pa,le.next (by lia)⟩
  ·rintro σ H1 ⟨D,ax,ay,x,y,o1,o2,o3,rfl,s1,pa,le⟩
   rw [z0] at le
   delta Ux
   rw [la] at le
   exact k D H1 ax ay x y (hs.trans s1) pa (le.out ha).1 (le.out ha).2
theorem BP:AJ ["ordered","pair","foot_place","head_place","throw"] ["ordered"] (AF C9):=by walk_at "SC"
noncomputable def B5 (K:W.Frag):Sp:=fun vs H Q _=>∃ (l:Addr) (as:List Addr) (gs:List G),vs=[.ref l]∧SqL K H l (as.map V.ref)∧Am H as gs∧Asc gs∧2≤gs.length∧gs.length≤1000∧(∀ g∈gs,OkG g)∧(∀ H',AG H H'→¬ Bh gs→Q .non H')∧∀ D H' q t x y,AG H H'→ao H' D gs q t x y→TC gs x y→Q (.ref D) H'
theorem C3 (T:Tx w K mg):Aa P w K mg base CX0 6 T.Gn T.FM ["ordered"] (B5 K):=by
 refine T.CL.F.ok BP (fun _ _ _ _ h=>by walk_at "LN") ?_
 ·walk_at "I2"
  obtain ⟨l,as,gs,rfl,hl,ga,ha,l2,hz,ok,kn,k⟩:=h
  refine ⟨_,(AD (pst 1 BP (pcl T.II (Ny T) hr AR (AA (pv 0) AB)))
   (AD (pst 2 BP (pxi AL (pxi AL (pv 1) AC) AC))
   (AD (pst 3 BP (pxi AL (pxi AL (pv 1) AC) AC))
   (AD (pst 4 BP (pcl T.No (Q9 T) hr AR (AA (pv 2) (AA (pxi AL (pxi AL (pv 1) AC) AC) (AA (pv 3) (AA (pxi AL (pxi AL (pv 1) AC) AC) AB))))))
   (AD (Ae (La (EC (pcl T.MZ (Rr T) hr AR (AA (pv 4) (AA (pv 0) AB))))) (AE (AI Fp))
    AS)
   (AE (AI (Ag (AA (pv 4) (AA (pv 2) (AA (pv 3) AB))))))))))),?_⟩
  delta Ux
  walk_at "AUTO"
  unfold Go
  refine ⟨_,as,gs,rfl,hl,ga,ha,l2,hz,ok,fun D H1 ax ay x y s1 pa le fp=>?_⟩
  have eD:=pa.eD
  have ex:=pa.ex
  have ey:=pa.ey
  have lxy:=pa.lt
  have ox:=ok x pa.hx
  have oy:=ok y pa.hy
  obtain ⟨r1,r2,r3,r4,r5⟩:=id ox
  obtain ⟨t1,t2,t3,t4,t5⟩:=id oy
  walk_at "AUTO"
  unfold Lk
  refine ⟨x.p,x.f,y.p,y.h,rfl,by lia,by lia,by lia,by lia,by lia,fun q H2 a b c d s2 e2 L1 L2=>?_⟩
  have lo:=Uc lxy L1 L2
  have ot:=WU (by lia) (by lia) (by lia) (by lia) L1 L2
  walk_at "AUTO"
  unfold KY
  refine ⟨_,_,⟨a,b,c,d⟩,as,gs,rfl,SqT.of e2,(s1.trans s2).seq hl,ga.same (s1.trans s2),ot,hz,ok,fun H3 s3=>?_⟩
  by_cases hb:∀ g∈gs,(⟨a,b,c,d⟩:Thr).pas g
  ·rw [zE hb]
   have e3:=s3.get e2
   walk_at "AUTO"
   exact k _ _ q ⟨a,b,c,d⟩ x y (s1.trans (s2.trans (s3.trans hs))) ⟨he,hs.get e3,ot,hb,pa.hx,pa.hy,lxy,lo.2.1,lo.2.2⟩ fp
  ·rw [zh hb]
   walk_at "AUTO"
   exact kn _ (s1.trans (s2.trans s3)) (MB ha ok pa.hx pa.hy lxy le fun z=>hb fun g hg=>(lo.1 g).mpr (z g hg))
theorem RC:AJ ["height"] ["height"] (AF Fm):=by walk_at "SC"
noncomputable def FH:Sp:=fun vs H Q _=>∃ h:Int,vs=[.int h]∧∀ D H',AG H H'→H' D=some (.tup [.int h,.int 1,.int 0,.int 1])→Q (.ref D) H'
theorem UH {h:Int}(b:h.natAbs≤1000):OkT ⟨h,1,0,1⟩:=⟨by show h.natAbs≤_;lia,by show (1:Int).natAbs≤_;decide,by show (0:Int).natAbs≤_;decide,by show (1:Int).natAbs≤_;decide,by show (0:Int)<1;decide,by show (0:Int)<1;decide,by show Int.gcd h 1=1;simp,by show Int.gcd 0 1=1;decide⟩
theorem XR {g:G}(o:OkG g):(⟨g.f,1,0,1⟩:Thr).pas g:=by
 obtain ⟨_,_,_,h,_⟩:=o
 show Pas g.f 1 0 1 g.p g.f g.h
 unfold Pas
 constructor<;>simp<;>lia
theorem IU (T:Tx w K mg):Aa P w K mg base CX0 1 T.LS T.IX ["height"] FH:=by
 refine T.F6.F.ok RC (fun _ _ _ _ h=>by walk_at "LN") ?_
 ·walk_at "I2"
  obtain ⟨h,rfl,k⟩:=h
  refine ⟨_,(AE (AI (Ag (AA (pv 0) (AA AC (AA AC (AA AC AB))))))),?_⟩
  delta Ux
  walk_at "AUTO"
  exact k _ _ hs he
theorem ID:AJ ["ordered","found"] ["ordered"] (AF FF):=by walk_at "SC"
noncomputable def EF (K:W.Frag):Sp:=fun vs H Q _=>∃ (l:Addr) (as:List Addr) (gs:List G),vs=[.ref l]∧SqL K H l (as.map V.ref)∧Am H as gs∧Asc gs∧gs.length≤1000∧(∀ g∈gs,OkG g)∧(∀ H',AG H H'→¬ Bh gs→Q .non H')∧∀ D H' t,AG H H'→H' D=some (.tup t.vs)→OkT t→(∀ g∈gs,t.pas g)→Own gs t→Q (.ref D) H'
theorem Cb (T:Tx w K mg):Aa P w K mg base CX0 7 T.Iq T.IJ ["ordered"] (EF K):=by
 refine T.CA.F.ok ID (fun _ _ _ _ h=>by walk_at "LN") ?_
 ·walk_at "I2"
  obtain ⟨l,as,gs,rfl,hl,ga,ha,hz,ok,kn,k⟩:=h
  refine ⟨_,(AD (Ae (ptc Bg (AT AW (by rfl) T.BN A0 (AA (pv 0) AB)) AC) (AE (AI (pcl T.F6 (IU T) hr AR (AA AC AB))))
    AS)
   (AD (Ae (ptc Bg (AT AW (by rfl) T.BN A0 (AA (pv 0) AB)) AC) (AE (AI (pcl T.F6 (IU T) hr AR (AA (pxi AL (pxi AX (pv 0) AC) AC) AB))))
    AS)
   (AD (pst 1 ID (pcl T.CL (C3 T) hr AR (AA (pv 0) AB)))
   (AD (Ae (ptc OK (pv 1) Fp) (AE (AI Fp))
    AS)
   (AE (AI (pxi AL (pv 1) AC))))))),?_⟩
  have la:=ga.len
  delta Ux
  walk_at "AUTO"
  rw [z0,la]
  by_cases c0:gs.length=0
  ·have eg:=List.eq_nil_of_length_eq_zero c0
   rw [if_pos (zE (by lia))]
   unfold FH
   refine ⟨0,rfl,fun D H1 s1 e1=>k D H1 ⟨0,1,0,1⟩ s1 e1 (UH (by decide)) (fun g hg=>by rw [eg] at hg;exact absurd hg (by simp)) ⟨fun g z=>(by rw [eg] at z;cases z),fun z=>by lia⟩⟩
  rw [if_neg (fun z=>c0 (by have:=zH z;lia))]
  walk_at "AUTO"
  rw [z0,la]
  by_cases c1:gs.length=1
  ·rw [if_pos (zE (by lia))]
   match gs,ga,c1,ok,k with
   | [g],ga,_,ok,k =>
    obtain ⟨a0,f0,e0⟩:=ga.get (i:=0) (g:=g) rfl
    have i0:atI (as.map V.ref) 0=some (V.ref a0):=Dq (i:=0) f0
    have og:=ok g (by simp)
    obtain ⟨q1,q2,q3,q4,q5⟩:=id og
    walk_at "AUTO"
    unfold FH
    refine ⟨g.f,rfl,fun D H1 s1 e1=>k D H1 ⟨g.f,1,0,1⟩ s1 e1 (UH (by lia)) (fun g' hg=>by rw [zI.mp hg];exact XR og) ⟨fun g' z=>(by cases z;rfl),fun z=>absurd z (by simp)⟩⟩
  rw [if_neg (fun z=>c1 (by have:=zH z;lia))]
  walk_at "AUTO"
  unfold B5
  refine ⟨_,as,gs,rfl,hl,ga,ha,by lia,hz,ok,fun H1 s1 nb=>?_,fun D H1 q t x y s1 fa fp=>?_⟩
  ·walk_at "AUTO"
   exact kn _ s1 nb
  ·have eD:=fa.eD
   walk_at "AUTO"
   exact k q H1 t s1 fa.eq fa.ok fa.all ⟨fun g z=>absurd (congrArg List.length z) c1,fun _=>⟨fa.ok,fa.all,x,fa.hx,y,fa.hy,fa.lt,fa.tx,fa.ty⟩⟩
theorem U9:AJ ["gates"] ["gates"] (AF Lu):=by walk_at "SC"
noncomputable def Fb (K:W.Frag):Sp:=fun vs H Q _=>∃ (l:Addr) (as:List Addr) (gs sg:List G),vs=[.ref l]∧SqL K H l (as.map V.ref)∧Am H as gs∧(gs.map G.p).Nodup∧gs.length≤40∧(∀ g∈gs,OkG g)∧sg.Perm gs∧Asc sg∧¬ Bh sg∧∀ D H',AG H H'→BarAt H' D gs→Q (.ref D) H'
theorem JL (T:Tx w K mg):Aa P w K mg base CX0 4 T.RB T.OQ ["gates"] (Fb K):=by
 refine T.HN.F.ok U9 (fun _ _ _ _ h=>by walk_at "LN") ?_
 ·walk_at "I2"
  obtain ⟨l,as,gs,sg,rfl,hl,ga,nd,h40,ok,hp,ha,nb,k⟩:=h
  refine ⟨_,(AE (AI (Ag (AA AN (AA (pcl T.KW (Q1 T) hr AR (AA (pv 0) AB)) AB))))),?_⟩
  delta Ux
  walk_at "AUTO"
  unfold Ji
  refine ⟨_,as,gs,rfl,hl,ga,nd,h40,ok,fun H1 s1 hf=>absurd rfl (S9 hp ha nb hf),fun D H1 t s1 e1 ne hf=>?_⟩
  walk_at "AUTO"
  exact k _ _ (s1.trans hs) ⟨D,t,he,hs.get e1,ne,hf⟩
theorem Gk:AJ ["gates","throw"] ["gates"] (AF Dy):=by walk_at "SC"
noncomputable def Nw (K:W.Frag):Sp:=fun vs H Q _=>∃ (l:Addr) (as:List Addr) (gs:List G),vs=[.ref l]∧SqL K H l (as.map V.ref)∧Am H as gs∧(gs.map G.p).Nodup∧gs.length≤40∧gs≠[]∧(∀ g∈gs,OkG g)∧∀ D H' sg x,AG H H'→sg.Perm gs→Asc sg→XT sg x→Enc H' x (.ref D)→Q (.ref D) H'
theorem N7 (T:Tx w K mg):Aa P w K mg base CX0 8 T.IQ T.Gu ["gates"] (Nw K):=by
 refine T.IN.F.ok Gk (fun _ _ _ _ h=>by walk_at "LN") ?_
 ·walk_at "I2"
  obtain ⟨l,as,gs,rfl,hl,ga,nd,h40,hne,ok,k⟩:=h
  refine ⟨_,(AD (pst 1 Gk (pcl T.CA (Cb T) hr AR (AA (AT Bn (by rfl) T.Er DL (AA (pv 0) AB)) AB)))
   (AD (Ae (ptc OK (pv 1) Fp) (AE (AI (pcl T.HN (JL T) hr AR (AA (pv 0) AB))))
    AS)
   (AE (AI (Ag (AA AN (AA (pv 1) AB))))))),?_⟩
  delta Ux
  walk_at "AUTO"
  intro D1 H1 as1 sg nD s1 e1 ga1 hp ha
  have lg:=hp.length_eq
  have ok1:∀ g∈sg,OkG g:=fun g hg=>ok g (hp.mem_iff.mp hg)
  unfold EF
  refine ⟨_,as1,sg,rfl,SqL.of e1,ga1,ha,by lia,ok1,fun H2 s2 nb=>?_,fun q H2 t s2 e2 ot all ow=>?_⟩
  ·walk_at "AUTO"
   unfold Fb
   exact ⟨_,as,gs,sg,rfl,(s1.trans s2).seq hl,ga.same (s1.trans s2),nd,h40,ok,hp,ha,nb,fun D H3 s3 ⟨q',t',f1,f2,ne',hf⟩=>k D H3 sg _ (s1.trans (s2.trans s3)) hp ha (.bar t' ne' (hf.perm hp.symm) rfl) (gX f1 f2)⟩
  ·walk_at "AUTO"
   exact k _ _ sg _ (s1.trans (s2.trans hs)) hp ha (.throw t ot all ow rfl) ⟨_,_,rfl,he,_,_,rfl,rfl,_,_,rfl,ji (hs.get e2),rfl⟩
theorem Fg:AJ ["gates","found"] ["gates"] (AF DN):=by walk_at "SC"
noncomputable def MU (K:W.Frag):Sp:=fun vs H Q _=>∃ (l:Addr) (as:List Addr) (gs:List G),vs=[.ref l]∧SqL K H l (as.map V.ref)∧Am H as gs∧(gs.map G.p).Nodup∧2≤gs.length∧gs.length≤40∧(∀ g∈gs,OkG g)∧∀ D H' sg x,AG H H'→sg.Perm gs→Asc sg→TB id sg sg x→Enc H' x (.ref D)→Q (.ref D) H'
theorem Ml (T:Tx w K mg):Aa P w K mg base CX0 7 T.GL T.Fk ["gates"] (MU K):=by
 refine T.Gs.F.ok Fg (fun _ _ _ _ h=>by walk_at "LN") ?_
 ·walk_at "I2"
  obtain ⟨l,as,gs,rfl,hl,ga,nd,l2,h40,ok,k⟩:=h
  refine ⟨_,(AD (pst 1 Fg (pcl T.CL (C3 T) hr AR (AA (AT Bn (by rfl) T.Er DL (AA (pv 0) AB)) AB)))
   (AD (Ae (ptc OK (pv 1) Fp) (AE (AI (pcl T.HN (JL T) hr AR (AA (pv 0) AB))))
    AS)
   (AE (AI (Ag (AA AN (AA (pxi AL (pv 1) AC) (AA (pxi AL (pv 1) AC) (AA (pxi AL (pv 1) AC) AB))))))))),?_⟩
  delta Ux
  walk_at "AUTO"
  intro D1 H1 as1 sg nD s1 e1 ga1 hp ha
  have lg:=hp.length_eq
  have ok1:∀ g∈sg,OkG g:=fun g hg=>ok g (hp.mem_iff.mp hg)
  unfold B5
  refine ⟨_,as1,sg,rfl,SqL.of e1,ga1,ha,by lia,by lia,ok1,fun H2 s2 nb=>?_,fun D H2 q t x y s2 fa fp=>?_⟩
  ·walk_at "AUTO"
   unfold Fb
   exact ⟨_,as,gs,sg,rfl,(s1.trans s2).seq hl,ga.same (s1.trans s2),nd,h40,ok,hp,ha,nb,fun D H3 s3 ⟨q',t',f1,f2,ne',hf⟩=>k D H3 sg _ (s1.trans (s2.trans s3)) hp ha (.bar t' ne' (hf.perm hp.symm) rfl) (gX f1 f2)⟩
  ·have eD:=fa.eD
   walk_at "AUTO"
   exact k _ _ sg _ (s1.trans (s2.trans hs)) hp ha (.throw t x.p y.p fa.ok fa.all ⟨fa.ok,fa.all,x,fa.hx,y,fa.hy,fa.lt,fa.tx,fa.ty,fp,rfl,rfl⟩ rfl) ⟨_,_,rfl,he,_,_,rfl,rfl,_,_,rfl,ji (hs.get fa.eq),_,_,rfl,rfl,_,_,rfl,rfl,rfl⟩
theorem RJ:AJ ["gate"] ["gate"] (AF Fq):=by walk_at "SC"
noncomputable def JJ (K:W.Frag):Sp:=fun vs H Q _=>∃ (a:Addr) (g:G),vs=[.ref a]∧SqT K H a (G.vs g)∧∀ D H',AG H H'→H' D=some (.tup (G.vs (CV g)))→Q (.ref D) H'
theorem Qm (T:Tx w K mg):Aa P w K mg base CX0 1 T.Kv T.Iz ["gate"] (JJ K):=by
 refine T.Kg.F.ok RJ (fun _ _ _ _ h=>by walk_at "LN") ?_
 ·walk_at "I2"
  obtain ⟨a,g,rfl,ha,k⟩:=h
  refine ⟨_,(AE (AI (Ag (AA (pxi AL (pv 0) AC) (AA (GR DR (pxi AL (pv 0) AC)) (AA (GR DR (pxi AL (pv 0) AC)) AB)))))),?_⟩
  delta Ux
  walk_at "AUTO"
  exact k _ _ hs he
theorem PQ:AJ ["throw"] ["throw"] (AF E9):=by walk_at "SC"
noncomputable def Hy (K:W.Frag):Sp:=fun vs H Q _=>∃ (a:Addr) (t:Thr),vs=[.ref a]∧SqT K H a t.vs∧∀ D H',AG H H'→H' D=some (.tup (Kz t).vs)→Q (.ref D) H'
theorem Pb (T:Tx w K mg):Aa P w K mg base CX0 1 T.Iw T.IM ["throw"] (Hy K):=by
 refine T.Jd.F.ok PQ (fun _ _ _ _ h=>by walk_at "LN") ?_
 ·walk_at "I2"
  obtain ⟨a,t,rfl,ha,k⟩:=h
  refine ⟨_,(AE (AI (Ag (AA (GR DR (pxi AL (pv 0) AC)) (AA (pxi AL (pv 0) AC) (AA (GR DR (pxi AL (pv 0) AC)) (AA (pxi AL (pv 0) AC) AB))))))),?_⟩
  delta Ux
  walk_at "AUTO"
  exact k _ _ hs he
theorem FQ:AJ ["gates","found"] ["gates"] (AF DD):=by walk_at "SC"
noncomputable def MP (K:W.Frag):Sp:=fun vs H Q _=>∃ (l:Addr) (as:List Addr) (gs:List G),vs=[.ref l]∧SqL K H l (as.map V.ref)∧Am H as gs∧(gs.map G.p).Nodup∧2≤gs.length∧gs.length≤40∧(∀ g∈gs,OkG g)∧∀ D H' sg x,AG H H'→sg.Perm gs→Asc sg→TB Kz sg (sg.map CV) x→Enc H' x (.ref D)→Q (.ref D) H'
theorem NI {H:Hp}:∀ {ys:List V} {gs:List G},Paired (fun v g=>∃ p,v=V.ref p∧H p=some (.tup (G.vs (CV g)))) ys gs→∃ as:List Addr,ys=as.map V.ref∧Am H as (gs.map CV)
 | _,_,.nil=>⟨[],rfl,.nil⟩
 | _,_,.cons ⟨p,e1,e2⟩ t=>by
  obtain ⟨as,e,ga⟩:=NI t
  exact ⟨p::as,by rw [e1,e];rfl,.cons e2 ga⟩
theorem NM (T:Tx w K mg):Aa P w K mg base CX0 7 T.GY T.FR ["gates"] (MP K):=by
 refine T.GN.F.ok FQ (fun _ _ _ _ h=>by walk_at "LN") ?_
 ·walk_at "I2"
  obtain ⟨l,as,gs,rfl,hl,ga,nd,l2,h40,ok,k⟩:=h
  refine ⟨_,(AD (pst 1 FQ (pcl T.CL (C3 T) hr AR (AA (Bj rfl (⟨rfl,by decide +kernel,by decide +kernel,by decide +kernel,rfl,by decide +kernel,by with_unfolding_all rfl,by rfl,by rfl,by rfl⟩:Ar _ _ "gate" [] []) (A7 (AT Bn (by rfl) T.Er DL (AA (pv 0) AB))) (fun _ _ _ _  => (pcl T.Kg (Qm T) hr AR (AA (pv 0) AB))) (fun _ _ _ _=>BJ)) AB)))
   (AD (Ae (ptc OK (pv 1) Fp) (AE (AI (pcl T.HN (JL T) hr AR (AA (pv 0) AB))))
    AS)
   (AE (AI (Ag (AA AN (AA (pcl T.Jd (Pb T) hr AR (AA (pxi AL (pv 1) AC) AB)) (AA (pxi AL (pv 1) AC) (AA (pxi AL (pv 1) AC) AB))))))))),?_⟩
  delta C5
  walk_at "AUTO"
  intro D1 H1 as1 sg nD s1 e1 ga1 hp ha
  have lg:=hp.length_eq
  have ok1:∀ g∈sg,OkG g:=fun g hg=>ok g (hp.mem_iff.mp hg)
  refine ⟨⟨_,SqL.of e1⟩,fun C nC=>?_⟩
  refine KI (F:=fun H v g=>∃ p,v=V.ref p∧H p=some (.tup (G.vs (CV g)))) (fun _ _ _ _ s ⟨p,e1,e2⟩=>⟨p,e1,s.get e2⟩) (fun H v g xs ys hD ⟨p,e1,e2⟩=>⟨p,e1,by rw [AO (IA e2 hD (by intro z;cases z))];exact e2⟩) (SqL.of e1) ga1 nC (by lia) ?_ ?_
  ·intro v g H2 R hg s2 ev hR
   delta qO
   walk_at "AUTO"
   unfold JJ
   exact ⟨_,g,rfl,SqT.of ev,fun D H3 s3 e3=>hR _ _ s3 ⟨D,rfl,e3⟩⟩
  intro H2 ys s2 e2 pr
  obtain ⟨as2,rfl,ga2⟩:=NI pr
  unfold B5
  refine ⟨_,as2,sg.map CV,rfl,SqL.of e2,ga2,ZB ha,by rw [z0];lia,by rw [z0];lia,fun g hg=>?_,fun H3 s3 nb=>?_,fun D H3 q t x y s3 fa fp=>?_⟩
  ·obtain ⟨g',hg',rfl⟩:=zZ.mp hg
   exact Zp (ok1 g' hg')
  ·walk_at "AUTO"
   unfold Fb
   have s13:=s1.trans (s2.trans s3)
   exact ⟨_,as,gs,sg,rfl,s13.seq hl,ga.same s13,nd,h40,ok,hp,ha,fun z=>nb (WE z),fun D H4 s4 ⟨q',t',f1,f2,ne',hf⟩=>k D H4 sg _ (s13.trans s4) hp ha (.bar t' ne' (hf.perm hp.symm) rfl) (gX f1 f2)⟩
  ·have eD:=fa.eD
   walk_at "AUTO"
   unfold Hy
   refine ⟨_,t,rfl,SqT.of fa.eq,fun D2 H4 s4 e4=>?_⟩
   have eD4:=s4.get eD
   walk_at "AUTO"
   exact k _ _ sg _ (s1.trans (s2.trans (s3.trans (s4.trans hs)))) hp ha (.throw t x.p y.p (Yk fa.ok) (fun g hg=>ZI.mpr (fa.all _ (zZ.mpr ⟨g,hg,rfl⟩))) ⟨fa.ok,fa.all,x,fa.hx,y,fa.hy,fa.lt,fa.tx,fa.ty,fp,rfl,rfl⟩ rfl) ⟨_,_,rfl,he,_,_,rfl,rfl,_,_,rfl,ji (hs.get e4),_,_,rfl,rfl,_,_,rfl,rfl,rfl⟩
theorem T7:AJ ["run","throw"] ["run","throw"] (AF MK):=by walk_at "SC"
noncomputable def Iy (K:W.Frag):Sp:=fun vs H Q _=>∃ (l q:Addr) (bs:List Addr) (g:G) (rest:List G) (t:Thr),vs=[.ref l,.ref q]∧SqL K H l (bs.map V.ref)∧Am H bs (g::rest)∧H q=some (.tup t.vs)∧OkT t∧(∀ x∈g::rest,t.pas x)∧∀ D H',AG H H'→Hm H' D ⟨g,rest,t⟩→Q (.ref D) H'
theorem Ot (T:Tx w K mg):Aa P w K mg base CX0 1 T.QT T.Os ["run","throw"] (Iy K):=by
 refine T.Ly.F.ok T7 (fun _ _ _ _ h=>by walk_at "LN") ?_
 ·walk_at "I2"
  obtain ⟨l,q,bs,g,rest,t,rfl,hl,gb,eq,ot,all,k⟩:=h
  refine ⟨_,(AE (AI (Ag (AA (pxi AL (pxi AX (pv 0) AC) AC) (AA (pxi AL (pxi AX (pv 0) (GR DR AC)) AC) (AA (pv 1) AB)))))),?_⟩
  obtain ⟨a0,f0,e0⟩:=gb.get (i:=0) (g:=g) rfl
  have i0:atI (bs.map V.ref) 0=some (V.ref a0):=Dq (i:=0) f0
  obtain ⟨pre,ep⟩:=Rw g rest t
  have gb2:=gb
  rw [ep] at gb2
  obtain ⟨cs,az,ec,ez⟩:=X1 gb2
  have iz:atI (bs.map V.ref) (-1)=some (V.ref az):=by rw [ec,zc];exact Yt _ _
  delta Ux
  walk_at "AUTO"
  exact k _ _ hs ⟨q,he,hs.get eq,ot,all⟩
theorem Av:AJ ["gates","runs","run","throw","gate","longer","longer_throw"] ["gates"] (AF GG):=by walk_at "SC"
noncomputable def Qu (K:W.Frag):Sp:=fun vs H Q _=>∃ (l:Addr) (as:List Addr) (gs:List G),vs=[.ref l]∧SqL K H l (as.map V.ref)∧Am H as gs∧(gs.map G.p).Nodup∧gs.length≤40∧(∀ g∈gs,OkG g)∧∀ D H' as' rs,H D=none→AG H H'→VV H' D as' rs gs→UU rs→Q (.ref D) H'
noncomputable def Wsh (l R S:Addr)(as1:List Addr)(sg:List G)(H:Hp):Nat→St→Hp→Prop:=fun i σ H'=>∃ (L:Addr) (tv:V) (ra:List Addr) (rs:List Run) (bs:List Addr) (cur:List G) (o1 o2 o3:Option V),σ=[some (.ref l),some (.ref R),some (.ref L),some tv,o1,o2,o3]∧AG H H'∧ZC H' R S L as1 sg ra rs bs cur tv i
noncomputable def Csh (l R S:Addr)(as1:List Addr)(sg:List G)(i:Nat)(H:Hp):St→Hp→Prop:=fun σ H'=>∃ (L P:Addr) (tv pv:V) (ra:List Addr) (rs:List Run) (bs:List Addr) (cur:List G) (o1:Option V),σ=[some (.ref l),some (.ref R),some (.ref L),some tv,o1,some (.ref P),some pv]∧AG H H'∧ZC H' R S P as1 sg ra rs bs cur pv (i+1)
noncomputable def Csh2 (R:Addr)(gs:List G)(H:Hp):St→Hp→Prop:=fun σ H'=>∃ (o0 o2 o3 o4 o5 o6:Option V) (ra:List Addr) (rs:List Run),σ=[o0,some (.ref R),o2,o3,o4,o5,o6]∧AG H H'∧VV H' R ra rs gs∧UU rs
theorem Qx (T:Tx w K mg):Aa P w K mg base CX0 8 T.LN T.JQ ["gates"] (Qu K):=by
 refine T.K6.F.ok Av (fun _ _ _ _ h=>by walk_at "LN") ?_
 ·walk_at "I2"
  obtain ⟨l,as,gs,rfl,hl,ga,nd,h40,ok,k⟩:=h
  refine ⟨_,(AD (pst 1 Av (Ao AB))
   (AD (pst 2 Av (Ao AB))
   (AD (pst 3 Av Fp)
   (AD (Bo PassesOwn.never rfl (A7 (AT Bn (by rfl) T.Er DL (AA (pv 0) AB))) (pgn 4 Av)
    (AD (pst 5 Av (AH B7 (pv 2) (Ao (AA (pv 4) AB))))
     (AD (pst 6 Av (pcl T.CA (Cb T) hr AR (AA (pv 5) AB)))
     (Jy (Ae (ptc OK (pv 6) Fp) (AD (A5 (DT (pv 1) (pcl T.Ly (Ot T) hr AR (AA (pv 2) (AA (pv 3) AB)))))
       (AD (pst 5 Av (Ao (AA (pv 4) AB)))
       (AE (pst 6 Av (pcl T.CA (Cb T) hr AR (AA (pv 5) AB))))))
      AS)
     (AD (pst 2 Av (pv 5))
     (AE (pst 3 Av (pv 6))))))))
   (Jy (Ae (ptc IC (AT AW (by rfl) T.BN A0 (AA (pv 2) AB)) AC) (AE (A5 (DT (pv 1) (pcl T.Ly (Ot T) hr AR (AA (pv 2) (AA (pv 3) AB))))))
    AS)
   (AE (AI (pv 1)))))))),?_⟩
  delta Ux
  refine ⟨by decide,fun R H1 nR s1 eR=>?_⟩
  refine ⟨by decide,fun L H2 nL s2 eL=>?_⟩
  have s12:=s1.trans s2
  have hne:L≠R:=fun z=>by rw [z,eR] at nL;cases nL
  refine ⟨_,rfl,l,rfl,as,gs,s12.seq hl,ga.same s12,nd,by lia,fun S H3 as1 sg nS s3 e3 ga1 hp ha=>?_⟩
  have lg:=hp.length_eq
  have ok1:∀ g∈sg,OkG g:=fun g hg=>ok g (hp.mem_iff.mp hg)
  have la1:=ga1.len
  have hneS:S≠R:=fun z=>by
   have:=s2.get eR
   rw [z,this] at nS;cases nS
  refine ⟨S,rfl,⟨_,SqL.of e3⟩,JF (xs:=as1.map V.ref) (Wsh l R S as1 sg H) ⟨L,.non,[],[],[],[],none,none,none,rfl,s12.trans s3,⟨s3.get (s2.get eR),.nil,s3.get eL,.nil,hne,e3,ga1,hneS,rfl,.inl ⟨rfl,rfl,rfl⟩⟩⟩ (fun i σ H4 _ zq=>by obtain ⟨_,_,_,_,_,_,_,_,_,_,_,sh⟩:=zq;exact SqL.of sh.eS) ?_ ?_⟩
  ·clear hneS e3 ga1 nS eL nL hne s12 s2 s3 eR
   rintro i vv σ H4 hx ⟨L,tv,ra,rs,bs,cur,o1,o2,o3,rfl,s4,sh⟩
   have hi:i<sg.length:=by
    have:=(zC.mp hx).1
    rw [z0] at this
    lia
   obtain ⟨ea,fe,ee⟩:=sh.gS.get (z9 hi)
   have ex:vv=V.ref ea:=by
    rw [zN,fe] at hx
    exact (zV hx).symm
   subst ex
   have gu:=z9 hi
   have et:sg.take (i+1)=sg.take i++[sg[i]]:=zS hi
   have ou:=ok1 _ (zY hi)
   generalize sg[i]=u at ee gu et ou
   have eL:=sh.eL
   have spl:(rs.flatMap Run.all++cur).length=i:=by
    rw [sh.sp,zw];lia
   rw [zD] at spl
   have hcl:cur.length≤i:=by lia
   have lbs:=sh.gb.len
   have okc:∀ g∈cur,OkG g:=fun g hg=>ok1 g (zy (i:=i) (by rw [← sh.sp];exact zd _ hg))
   have ascc:Asc (rs.flatMap Run.all++cur++[u]):=by rw [sh.sp,← et];exact ha.take' _
   have ascu:Asc (cur++[u]):=by rw [zx] at ascc;exact ascc.right
   delta Ux
   refine ⟨by decide,fun B H5 nB s5 eB=>⟨_,s5.get eL,_,eB,by rw [z0,PySem.sizeLine_eq];simp;lia,fun P H6 nP s6 eP=>?_⟩⟩
   have s46:=s5.trans s6
   have sh6:=sh.same s46
   have nPR:P≠R:=fun z=>by
    have:=s5.get sh.eR
    rw [z,this] at nP;cases nP
   have eP':H6 P=some (.lst ((bs++[ea]).map V.ref)):=by rw [eP,zc];rfl
   have gP:Am H6 (bs++[ea]) (cur++[u]):=(sh.gb.same s46).snoc (s46.get ee)
   unfold EF
   refine ⟨_,bs++[ea],cur++[u],rfl,SqL.of eP',gP,ascu,by rw [zD];simp;lia,fun g hg=>?_,fun H7 s7 nb=>?_,fun q H7 t s7 e7 ot all ow=>?_⟩
   ·rcases zb.mp hg with z | z
    ·exact okc g z
    ·rw [zI.mp z];exact ou
   ·refine ⟨Csh l R S as1 sg i H,?_,?_⟩
    ·have s47:=s46.trans s7
     have sh7:=sh.same s47
     rcases sh7.th with ⟨z,_,_⟩ | ⟨q,t,g,rest,e1,e2,ot,all,ec,far⟩
     ·subst z
      exact absurd (KD (by simp)) nb
     subst e1
     subst ec
     have eR7:=sh7.eR
     have eL7:=sh7.eL
     delta Ux
     walk_at "AUTO"
     unfold Iy
     refine ⟨_,_,bs,g,rest,t,rfl,SqL.of eL7,sh7.gb,e2,ot,all,fun D H8 s8 rn=>?_⟩
     have sh8:=sh7.same s8
     have lra:=Paired.length sh8.at_
     have lrs:=Pn rs
     refine ⟨_,sh8.eR,by rw [z0,PySem.sizeLine_eq];lia,?_⟩
     have hR8:=sh8.eR
     have sHU:AG H (L2.upd H8 R (.lst (ra.map V.ref++[.ref D]))):=(s4.trans (s47.trans s8)).updFresh nR
     have eRU:L2.upd H8 R (.lst (ra.map V.ref++[.ref D])) R=some (.lst ((ra++[D]).map V.ref)):=by rw [AM,zc];rfl
     have eSU:L2.upd H8 R (.lst (ra.map V.ref++[.ref D])) S=some (.lst (as1.map V.ref)):=by rw [AO sh8.neS];exact sh8.eS
     have gSU:=sh8.gS.upd (u:=.lst (ra.map V.ref++[.ref D])) hR8 (by intro ys z;cases z)
     have eaU:L2.upd H8 R (.lst (ra.map V.ref++[.ref D])) ea=some (.tup (G.vs u)):=by
      have e8:=s8.get (s47.get ee)
      rw [AO (IA e8 hR8 (by intro z;cases z))]
      exact e8
     have atU:Paired (Hm (L2.upd H8 R (.lst (ra.map V.ref++[.ref D])))) (ra++[D]) (rs++[⟨g,rest,t⟩]):=Paired.snoc (Paired.mapP sh8.at_ fun _ _ e=>e.updL hR8) (rn.updL hR8)
     generalize L2.upd H8 R (.lst (ra.map V.ref++[.ref D]))=HU at sHU eRU eSU gSU eaU atU
     refine ⟨by decide,fun B2 H9 nB2 s9 eB2=>?_⟩
     have nB2R:B2≠R:=fun z=>by rw [z,eRU] at nB2;cases nB2
     refine ⟨[ea],SqL.of eB2,[u],.cons (s9.get eaU) .nil,List.pairwise_singleton _ _,by simp,fun g hg=>by rw [zI.mp hg];exact ou,fun _ _ z=>absurd (KD (by simp)) z,fun q2 HA t2 sA eA ot2 all2 ow2=>?_⟩
     have sUA:=s9.trans sA
     refine ⟨L,B2,_,.ref q2,ra++[D],rs++[⟨g,rest,t⟩],[ea],[u],_,rfl,sHU.trans sUA,⟨sUA.get eRU,Paired.mapP atU fun _ _ e=>e.same sUA,sA.get eB2,.cons (sUA.get eaU) .nil,nB2R,sUA.get eSU,gSU.same sUA,sh8.neS,?_,.inr ⟨q2,t2,u,[],rfl,eA,ot2,all2,rfl,XV far nb ow2⟩⟩⟩
     rw [List.flatMap_append,Ur,et,← sh8.sp]
    ·rintro σ H8 ⟨L,P,tv,pv,ra,rs,bs,cur,o1,rfl,s8,sh⟩
     delta Ux
     exact ⟨P,pv,ra,rs,bs,cur,_,_,_,rfl,s8,sh⟩
   ·refine ⟨Csh l R S as1 sg i H,?_,?_⟩
    ·delta Ux
     walk_at "AUTO"
     have sh7:=sh6.same s7
     have far':∃ g rest,cur++[u]=g::rest∧WD (rs++[⟨g,rest,t⟩]):=by
      rcases sh7.th with ⟨z,z2,_⟩ | ⟨q,t',g,rest,e1,e2,ot',all',ec,far⟩
      ·subst z
       subst z2
       exact ⟨u,[],rfl,YR ow⟩
      ·subst ec
       exact ⟨g,rest++[u],rfl,Xh far rfl ow⟩
     obtain ⟨g,rest,ec,far⟩:=far'
     refine ⟨L,P,_,.ref q,ra,rs,bs++[ea],cur++[u],_,rfl,s4.trans (s46.trans s7),⟨sh7.eR,sh7.at_,s7.get eP',gP.same s7,nPR,sh7.eS,sh7.gS,sh7.neS,?_,.inr ⟨q,t,g,rest,rfl,e7,ot,all,ec,far⟩⟩⟩
     rw [et,← sh.sp,zx]
    ·rintro σ H8 ⟨L,P,tv,pv,ra,rs,bs,cur,o1,rfl,s8,sh⟩
     delta Ux
     exact ⟨P,pv,ra,rs,bs,cur,_,_,_,rfl,s8,sh⟩
  ·rintro σ H4 ⟨L,tv,ra,rs,bs,cur,o1,o2,o3,rfl,s4,sh⟩
   rw [z0,la1] at sh
   have eL:=sh.eL
   have lbs:=sh.gb.len
   have spt:=sh.sp
   rw [zj] at spt
   refine ⟨Csh2 R gs H,?_,?_⟩
   ·delta Ux
    walk_at "AUTO"
    rw [z0,lbs]
    rcases sh.th with ⟨z,z2,z3⟩ | ⟨q,t,g,rest,e1,e2,ot,all,ec,far⟩
    ·subst z
     subst z2
     rw [if_neg (by simp)]
     have e0:sg=[]:=by simpa using spt.symm
     exact ⟨_,_,_,_,_,_,ra,[],rfl,s4,⟨sh.eR,sh.at_,by rw [e0] at hp;exact hp,by simp [Asc],trivial⟩,fun r hr=>absurd hr (by simp)⟩
    ·subst e1
     subst ec
     have eR:=sh.eR
     rw [if_pos (by simp)]
     walk_at "AUTO"
     unfold Iy
     refine ⟨_,_,bs,g,rest,t,rfl,SqL.of eL,sh.gb,e2,ot,all,fun D H8 s8 rn=>?_⟩
     have sh8:=sh.same s8
     have lra:=Paired.length sh8.at_
     have lrs:=Pn rs
     have spl:=congrArg List.length spt
     rw [zD] at spl
     have hR8:=sh8.eR
     refine ⟨_,sh8.eR,by rw [z0,PySem.sizeLine_eq];lia,?_⟩
     have spl2:(rs++[(⟨g,rest,t⟩:Run)]).flatMap Run.all=sg:=by rw [List.flatMap_append,Ur];exact spt
     refine ⟨_,_,_,_,_,_,ra++[D],rs++[⟨g,rest,t⟩],rfl,(s4.trans s8).updFresh nR,⟨by rw [AM,zc];rfl,Paired.snoc (Paired.mapP sh8.at_ fun _ _ e=>e.updL hR8) (rn.updL hR8),by rw [spl2];exact hp,by rw [spl2];exact ha,far.1⟩,far.2⟩
   ·rintro σ H5 ⟨o0,o2,o3,o4,o5,o6,ra,rs,rfl,s5,rr,ow⟩
    delta Ux
    exact k R H5 ra rs nR s5 rr ow
theorem Bt:AJ ["ordered","throws","index","earlier","later"] ["ordered"] (AF Em):=by walk_at "SC"
structure TrA (H:Hp)(TL:Addr)(gs:List G)(n:Nat)(don:Nat→Nat→Prop)(qs:List Addr)(ts:List Thr):Prop where
 eT:H TL=some (.lst (qs.map V.ref))
 pr:Paired (fun q (t:Thr)=>H q=some (.tup t.vs)) qs ts
 ok:∀ t∈ts,OkT t
 one:∃ t∈ts,∃ g∈gs,t.pas g
 len:qs.length≤n
 two:∀ (i j:Nat) (x y:G),gs[i]? = some x→gs[j]? = some y→i<j→don i j→∃ t∈ts,∀ g:G,t.pas g↔Gj (x.f*y.p-y.h*x.p) (y.h-x.f) (y.p-x.p) g
theorem TrA.same {H H':Hp}{TL:Addr}{gs:List G}{n:Nat}{don:Nat→Nat→Prop}{qs:List Addr}{ts:List Thr}(h:TrA H TL gs n don qs ts)(s:AG H H'):TrA H' TL gs n don qs ts:=⟨s.get h.eT,Paired.mapP h.pr fun _ _ e=>s.get e,h.ok,h.one,h.len,h.two⟩
noncomputable def PP (K:W.Frag):Sp:=fun vs H Q _=>∃ (l:Addr) (as:List Addr) (gs:List G),vs=[.ref l]∧SqL K H l (as.map V.ref)∧Am H as gs∧Asc gs∧1≤gs.length∧gs.length≤12∧(∀ g∈gs,OkG g)∧∀ (D:Addr) (H':Hp) (qs:List Addr) (ts:List Thr),H D=none→AG H H'→H' D=some (.lst (qs.map V.ref))→Paired (fun q (t:Thr)=>H' q=some (.tup t.vs)) qs ts→qs.length≤200→bM gs ts→ts=S5 gs→Q (.ref D) H'
noncomputable def Wm1 (l TL:Addr)(gs:List G)(H:Hp):Nat→St→Hp→Prop:=fun i σ H'=>∃ (o2 o3 o4:Option V) (qs:List Addr) (ts:List Thr),σ=[some (.ref l),some (.ref TL),o2,o3,o4]∧AG H H'∧TrA H' TL gs (1+12*i) (fun a _=>a<i) qs ts∧ts=tri gs i 0
noncomputable def Wm2 (l TL ea:Addr)(gs:List G)(H:Hp)(i:Nat):Nat→St→Hp→Prop:=fun j σ H'=>∃ (o4:Option V) (qs:List Addr) (ts:List Thr),σ=[some (.ref l),some (.ref TL),some (.int (i:Int)),some (.ref ea),o4]∧AG H H'∧TrA H' TL gs (1+12*i+j) (fun a c=>a<i∨a=i∧c<i+1+j) qs ts∧ts=tri gs i j
theorem PL (T:Tx w K mg):Aa P w K mg base CX0 8 T.Jl T.Hi ["ordered"] (PP K):=by
 refine T.Jc.F.ok Bt (fun _ _ _ _ h=>by walk_at "LN") ?_
 ·walk_at "I2"
  obtain ⟨l,as,gs,rfl,hl,ga,ha,l1,l12,ok,k⟩:=h
  refine ⟨_,(AD (pst 1 Bt (Ao (AA (pcl T.CA (Cb T) hr AR (AA (Ct Et (pv 0) Eg (EK AC)) AB)) AB)))
   (AD (Bo PassesOwn.never rfl (WR (by rfl) T.Ow (AA (pv 0) AB)) (TR (n:=2) rfl (Dr (pgn 2 Bt) (Dr (pgn 3 Bt) Pp)))
    (AE (Bo PassesOwn.never rfl (A7 (Ct Et (pv 0) (EK (AH Ap (pv 2) AC)) Eg)) (pgn 4 Bt)
      (AE (A5 (DT (pv 1) (pcl T.No (Q9 T) hr AR (AA (pxi AL (pv 3) AC) (AA (pxi AL (pv 3) AC) (AA (pxi AL (pv 4) AC) (AA (pxi AL (pv 4) AC) AB)))))))))))
   (AE (AI (pv 1))))),?_⟩
  have la:=ga.len
  have h0:0<gs.length:=by lia
  walk_at "Q"
  delta Ux
  walk_at "AUTO"
  have he':H' p=some (.lst ((as.take 1).map V.ref)):=by rw [he,show (1:Int)=((1:Nat):Int) from rfl,Hb,List.map_take]
  have gaT:=(ga.same hs).takeG 1
  have lT:(gs.take 1).length≤1:=by rw [zw];lia
  refine ⟨p,as.take 1,gs.take 1,rfl,SqL.of he',gaT,List.Pairwise.sublist (List.take_sublist _ _) ha,by lia,fun g hg=>ok g (zy hg),fun H1 s1 z=>absurd (KD (by lia)) z,fun q0 H1 t0 s1 e1 ot0 al0 ow0=>⟨by decide,fun TL H2 nT s2 eT=>?_⟩⟩
  walk_at "NX"
  have s02:=hs.trans (s1.trans s2)
  have nT0:H TL=none:=(hs.trans s1).free nT
  have one0:∃ t∈[t0],∃ g∈gs,t.pas g:=⟨t0,by simp,gs[0],zY h0,al0 _ (by
   have:=zS (l:=gs) (i:=0) h0
   rw [this];simp)⟩
  clear he' gaT lT al0 nT he hn
  walk_at "Q"
  refine ⟨_,rfl,l,rfl,⟨_,s02.seq hl⟩,UT (xs:=as.map V.ref) (Wm1 l TL gs H) ⟨none,none,none,[q0],[t0],rfl,s02,⟨eT,.cons (s2.get e1) .nil,fun t ht=>by rw [zI.mp ht];exact ot0,one0,by simp,fun _ _ _ _ _ _ _ z=>absurd z (by lia)⟩,Xn h0 ow0⟩ (fun i σ H3 _ zq=>by obtain ⟨_,_,_,_,_,_,s3,_⟩:=zq;exact s3.seq hl) ?_ ?_⟩
  ·rintro i vv σ H3 pp H4 hx ⟨o2,o3,o4,qs,ts,rfl,s3,tr,ts0⟩ hn s4 e4
   have hi:i<gs.length:=by
    have:=(zC.mp hx).1
    rw [z0] at this
    lia
   obtain ⟨ea,fe,ee⟩:=ga.get (z9 hi)
   have ex:vv=V.ref ea:=by
    rw [zN,fe] at hx
    exact (zV hx).symm
   subst ex
   have s04:=s3.trans s4
   have gu:=z9 hi
   generalize hu0:gs[i]=u at ee gu
   have ou:=ok u (zW gu)
   delta Pa Hs O9
   refine ⟨_,SqT.of e4,rfl,_,_,rfl,_,_,rfl,rfl,?_⟩
   refine ⟨_,rfl,_,rfl,_,_,rfl,rfl,_,rfl,l,rfl,_,s04.seq hl,fun S H5 nS s5 eS=>?_⟩
   rw [show (i:Int)+1=((i+1:Nat):Int) by lia,KB,← List.map_drop] at eS
   have s05:=s04.trans s5
   have trS:=(tr.same s4).same s5
   have neS:S≠TL:=fun z=>by
    have:=(tr.same s4).eT
    rw [z,this] at nS
    cases nS
   refine ⟨S,rfl,⟨_,SqL.of eS⟩,JF (xs:=(as.drop (i+1)).map V.ref) (fun j σ H'=>Wm2 l TL ea gs H i j σ H'∧H' S=some (.lst ((as.drop (i+1)).map V.ref))) ⟨⟨o4,qs,ts,rfl,s05,⟨trS.eT,trS.pr,trS.ok,trS.one,by have:=trS.len;lia,fun a c x y h1 h2 h3 h4=>trS.two a c x y h1 h2 h3 (by lia)⟩,ts0⟩,eS⟩ (fun j σ H6 _ ⟨_,z⟩=>SqL.of z) ?_ ?_⟩
   ·rintro j vv σ H6 hx ⟨⟨o4,qs,ts,rfl,s6,tr,tsj⟩,eS6⟩
    have hj:i+1+j<gs.length:=by
     have:=(zC.mp hx).1
     rw [z0,zo] at this
     lia
    obtain ⟨la',fl,el⟩:=ga.get (z9 hj)
    have ex:vv=V.ref la':=by
     rw [zN,List.getElem?_drop,fl] at hx
     exact (zV hx).symm
    subst ex
    have gv:=z9 hj
    generalize hv0:gs[i+1+j]=v at el gv
    have ov:=ok v (zW gv)
    have eu6:=s6.get ee
    have ev6:=s6.get el
    have luv:=Bk ha gu gv (by lia)
    obtain ⟨p1,p2,p3,p4,p5⟩:=id ou
    obtain ⟨q1,q2,q3,q4,q5⟩:=id ov
    delta Lk
    refine ⟨⟨_,tr.eT⟩,_,SqT.of eu6,_,rfl,_,SqT.of eu6,_,rfl,_,SqT.of ev6,_,rfl,_,SqT.of ev6,_,rfl,_,rfl,_,rfl,_,rfl,_,rfl,by lia,by lia,by lia,by lia,by lia,fun q H7 x1 y1 z1 v1 s7 e7 Lw1 Lw2=>?_⟩
    have lo:=Uc luv Lw1 Lw2
    have ot:=WU (by lia) (by lia) (by lia) (by lia) Lw1 Lw2
    have tr7:=tr.same s7
    have ll:=tr.len
    have nq:∀ b xs,H7 b=some (.tup xs)→b≠TL:=fun b xs e z=>by rw [z,tr7.eT] at e;cases e
    refine ⟨_,tr7.eT,by rw [z0,PySem.sizeLine_eq];lia,⟨_,qs++[q],ts++[⟨x1,y1,z1,v1⟩],rfl,(s6.trans s7).updFresh nT0,⟨by rw [AM,zc];rfl,?_,?_,?_,?_,?_⟩,ZR tsj gu gv luv ⟨Lw1,Lw2⟩⟩,?_⟩
    ·exact Paired.snoc (Paired.mapP tr7.pr fun b t e=>(AO (nq b _ e)).trans e) ((AO (nq q _ e7)).trans e7)
    ·intro t ht
     rcases zb.mp ht with z | z
     ·exact tr7.ok t z
     ·rw [zI.mp z];exact ot
    ·obtain ⟨t,ht,g',hg',pg'⟩:=tr7.one
     exact ⟨t,qD _ ht,g',hg',pg'⟩
    ·rw [zD]
     simp only [zB,zG]
     lia
    ·intro a c x y h1 h2 h3 h4
     by_cases hc:a<i∨a=i∧c<i+1+j
     ·obtain ⟨t,ht,ht2⟩:=tr7.two a c x y h1 h2 h3 hc
      exact ⟨t,qD _ ht,ht2⟩
     ·have ea':a=i:=by lia
      have ec':c=i+1+j:=by lia
      subst ea' ec'
      rw [gu] at h1
      rw [gv] at h2
      cases h1
      cases h2
      exact ⟨_,zd _ (zI.mpr rfl),lo.1⟩
    ·exact (AO neS).trans (s7.get eS6)
   ·rintro σ H6 ⟨⟨o4,qs,ts,rfl,s6,tr,tsj⟩,eS6⟩
    refine ⟨_,_,_,qs,ts,rfl,s6,⟨tr.eT,tr.pr,tr.ok,tr.one,?_,fun a c x y h1 h2 h3 h4=>tr.two a c x y h1 h2 h3 ?_⟩,by rw [tsj,z0,zo,la,← zo];exact Zz gs i⟩
    ·have:=tr.len
     rw [z0,zo] at this
     lia
    ·have:c<gs.length:=(zC.mp h2).1
     rw [z0,zo,la]
     lia
  rintro σ H3 ⟨o2,o3,o4,qs,ts,rfl,s3,tr,tse⟩
  refine hM _ _ ?_
  clear hM M
  delta Ux
  refine k TL H3 qs ts nT0 s3 tr.eT tr.pr ?_ ⟨fun z=>?_,tr.ok,tr.one,fun x hx y hy lt=>?_⟩ (by rw [tse,z0,la];exact aN gs)
  ·have:=tr.len
   rw [z0] at this
   lia
  ·obtain ⟨t,ht,_⟩:=tr.one
   rw [z] at ht
   exact absurd ht (by simp)
  ·obtain ⟨a,ea⟩:=qB.mp hx
   obtain ⟨c,ec⟩:=qB.mp hy
   have hac:=GQ ha ea ec lt
   exact tr.two a c x y ea ec hac (by rw [z0,la];exact (zC.mp ea).1)
theorem Fy:AJ ["gates","ordered","tried"] ["gates"] (AF HS):=by walk_at "SC"
noncomputable def RX (K:W.Frag):Sp:=fun vs H Q _=>∃ (l:Addr) (as:List Addr) (gs:List G),vs=[.ref l]∧SqL K H l (as.map V.ref)∧Am H as gs∧(gs.map G.p).Nodup∧1≤gs.length∧gs.length≤12∧(∀ g∈gs,OkG g)∧LM.Tbl H Cq D0 O8∧∀ D H' L q t sg,H L=none→CU Cq H H'→LM.Tbl H' Cq D0 O8→Vl H' D gs L q t sg→Ox sg t→Q (.ref D) H'
theorem Rl (T:Tx w K mg):Aa P w K mg base CX0 9 T.Mp T.Fn ["gates"] (RX K):=by
 refine LM.Fun.okL T.Mu.F T.Ru Fy (fun vs H Q E h=>?_) (fun cdv A outer s H vs Q E la hr h=>?_)
 ·obtain ⟨l,as,gs,rfl,hl,ga,nd,l1,l12,ok,tb,k⟩:=h
  rfl
 ·obtain ⟨l,as,gs,rfl,hl,ga,nd,l1,l12,ok,tb,k⟩:=h
  have hu:=bG hr
  refine ⟨_,(AD (pst 1 Fy (AT Bn (by rfl) T.Er DL (AA (pv 0) AB)))
   (AD (MN (i:=2) rfl Fy.nd rfl (Or.inl rfl) (⟨rfl,by decide +kernel,by decide +kernel,by decide +kernel,rfl,by decide +kernel,by with_unfolding_all rfl,by rfl,by rfl,by rfl⟩:Ar _ _ "throw" ["ordered"] [1]) (A7 (pcl T.Jc (PL T) hr AR (AA (pv 1) AB))) (fun _ _ _ _  => (Ag (AA (pcl T.Dv (GX T) hr AR (AA (pv 0) (AA (pv 1) AB))) (AA (pv 0) AB)))) (fun _ _ _ _=>BJ))
   (AE (AI (LM.Z2 (x:="told") (by rfl) T.Wd T.BN (hr.mono (by decide)) la (by exact ⟨rfl,rfl,fun _ _ _ _ _ _ _ _=>rfl,rfl,rfl,by decide,rfl,rfl,rfl,by decide,fun _=>rfl⟩) (pv 2)))))),?_⟩
  have la:=ga.len
  walk_at "Q"
  delta Ux
  walk_at "AUTO"
  intro S H1 as1 sg nS s1 eS ga1 hp ha
  walk_at "NX"
  have lsg:sg.length=gs.length:=hp.length_eq
  have oks:∀ g∈sg,OkG g:=fun g hg=>ok g (hp.mem_iff.mp hg)
  walk_at "Q"
  refine ⟨_,rfl,S,as1,sg,rfl,SqL.of eS,ga1,ha,by lia,by lia,oks,fun TL H2 qs ts nT s2 eT pr lq tr tF=>⟨TL,rfl,⟨_,SqL.of eT⟩,fun D nD=>?_⟩⟩
  refine OG (as:=qs) (bs:=ts) (fun H q t=>H q=some (.tup t.vs)) (fun _ _ _ _ s e=>s.get e)
   (fun H y q t=>∃ p L,y=V.ref p∧L≠D∧H1 L=none∧H p=some (.tup [.ref L,.ref q])∧H L=some (.lst ((AU (sg.filter (Qf t.a t.b t.c t.d))).map V.int))∧H q=some (.tup t.vs))
   (fun _ _ _ _ _ s zq=>by obtain ⟨p,L,e1,e2,e3,e4,e5,e6⟩:=zq;exact ⟨p,L,e1,e2,e3,s.get e4,s.get e5,s.get e6⟩) ?_ (SqL.of eT) pr nD (by lia) ?_ ?_
  ·rintro H3 v q t xs ys h1 h2 ⟨p,L,e1,e2,e3,e4,e5,e6⟩
   have n1:p≠D:=fun z=>by rw [z,h1] at e4;cases e4
   have n2:q≠D:=fun z=>by rw [z,h1] at e6;cases e6
   exact ⟨p,L,e1,e2,e3,(AO n1).trans e4,(AO e2).trans e5,(AO n2).trans e6⟩
  ·intro q t H3 R ht s3 hD eq kR
   have ot:=tr.ok t ht
   refine ⟨_,rfl,_,rfl,q,S,t.a,t.b,t.c,t.d,as1,sg,rfl,eq,TU ot.b0 ot.d0 ot.a1 ot.b1 ot.c1 ot.d1,(s2.trans s3).seq (SqL.of eS),ga1.same (s2.trans s3),by lia,oks,fun L H4 nL s4 eL=>?_⟩
   refine ⟨_,rfl,by show 2≤_;rw [PySem.sizeLine_eq];decide,fun p H5 nP s5 eP=>?_⟩
   exact kR _ _ (s4.trans s5) ⟨p,L,rfl,fun z=>hD (by rw [← z];exact nL),(s2.trans s3).free nL,eP,s5.get eL,(s4.trans s5).get eq⟩
  ·intro H3 ys s3 eD ly prs
   walk_at "NX"
   have lqt:qs.length=ts.length:=Paired.length pr
   have s03:=s1.trans (s2.trans s3)
   have tb3:=Bq tb s03
   obtain ⟨pt,ept⟩:=tb3.tab
   have l0:0<ts.length:=List.length_pos_iff.mpr tr.ne
   refine ⟨_,rfl,D,ys,(fun i=>match ts[i]? with | some t=>Tn sg t | none=>0),rfl,SqL.of eD,by lia,tb3,fun i y hy=>?_,fun i y H4 hy best tb4 k4=>?_⟩
   ·obtain ⟨q,t,h1,h2,p,L,rfl,nLD,nL,e4,e5,e6⟩:=prs i y hy
    refine ⟨p,L,[.ref q],_,rfl,SqT.of e4,SqL.of e5,?_⟩
    dsimp only
    rw [h2,z0,AU,z0]
    rfl
   ·obtain ⟨q,t,h1,h2,p,L,rfl,nLD,nL,e4,e5,e6⟩:=prs i y hy
    have n1:p≠Cq:=fun z=>by rw [z,ept] at e4;cases e4
    have n2:L≠Cq:=fun z=>by rw [z,ept] at e5;cases e5
    have n3:q≠Cq:=fun z=>by rw [z,ept] at e6;cases e6
    refine k p H4 L q t sg (s1.free nL) (fun b u n e=>k4 b u n (s03.get e)) tb4 ⟨k4 p _ n1 e4,k4 L _ n2 e5,k4 q _ n3 e6,tr.ok t (zW h2),hp,ha,fun u w m hm ps hs hpp=>Vh tr oks ha (fun t' ht'=>?_) u w m hm ps hs hpp⟩ ?_
    rotate_left
    ·rw [tF] at h2 best lqt
     refine ⟨i,h2,fun j t' ej=>?_⟩
     have hj:=(zC.mp ej).1
     have:=best j (by lia)
     dsimp only at this
     rw [ej,h2] at this
     exact this
    obtain ⟨j,ej⟩:=qB.mp ht'
    have hj:=(zC.mp ej).1
    have:=(best j (by lia)).1
    dsimp only at this
    rw [ej,h2] at this
    exact this
theorem Kf:AJ ["gate","number"] ["gate"] (AF HV):=by walk_at "SC"
noncomputable def RK {w:World}{K:W.Frag}{mg:Str→Option Value}(T:Tx w K mg):Sp:=fun vs H Q E=>∃ (q:Addr) (p f h:Int),vs=[.ref q]∧H q=some (.tup [.int p,.int f,.int h])∧(∀ e,Oo p f h=some e→E (T.err e) none H)∧(Oo p f h=none→Q .non H)
theorem LU (T:Tx w K mg):Aa P w K mg base (CXE P w) 1 T.Mx T.KS ["gate"] (RK T):=by
 refine T.G6.F.okX Kf (fun _ _ _ _ h=>by walk_at "LN") ?_
 ·walk_at "I2"
  obtain ⟨q,p,f,h,rfl,hq,kE,k⟩:=h
  refine ⟨_,(AD (Ae (ptc IC (pxi AL (pv 0) AC) (pxi AL (pv 0) AC)) (AE (A1 C4 rfl T.S4 (by rfl) T.M4 (AA AN AB)))
    AS)
   (AE (Bo bw rfl (Nu (pv 0)) (pgn 1 Kf)
    (AE (Ae (Kn (ptc E7 (pv 1) (DX (v:=.int (-1000)) (by rfl) T.aS T.ae)) (Fz (ptc IC (pv 1) (DX (v:=.int (1000)) (by rfl) T.Vo T.Vv)))).pt (AE (A1 C4 rfl T.LC (by rfl) T.GD (AA AN AB)))
      AS))))),?_⟩
  delta Ux
  walk_at "AUTO"
  unfold Oo at kE k
  by_cases hf:h<f
  ·rw [if_pos (zE hf)]
   rw [if_pos hf] at kE
   exact ⟨by decide,kE _ rfl⟩
  rw [if_neg (fun z=>hf (zH z))]
  rw [if_neg hf] at kE k
  refine ⟨_,rfl,q,rfl,⟨_,SqT.of hq⟩,WX (xs:=[V.int p,V.int f,V.int h]) (fun i σ H'=>∃ o,σ=[some (.ref q),o]∧H'=H∧∀ x∈[p,f,h].take i,InB x) ⟨none,rfl,rfl,fun _ z=>absurd z (by simp)⟩ (fun _ _ _ _ ⟨_,_,e,_⟩=>SqT.of (e▸hq)) ?_ ?_⟩
  ·rintro i v σ H1 hx ⟨o,rfl,rfl,hi⟩
   have hil:i<[p,f,h].length:=(zC.mp hx).1
   have ev:v=V.int [p,f,h][i]:=by
    have hx:([p,f,h].map V.int)[i]? = some v:=hx
    rw [zN,z9 hil] at hx
    exact (zV hx).symm
   subst ev
   have hmem:=zY hil
   have htk:[p,f,h].take (i+1)=[p,f,h].take i++[[p,f,h][i]]:=zS hil
   generalize [p,f,h][i]=x at *
   delta Ux
   by_cases h1:x < -1000
   ·rw [if_pos (zE h1)]
    rw [if_neg (fun z=>by simp at hmem;rcases hmem with rfl | rfl | rfl<;>lia)] at kE
    exact ⟨by decide,kE _ rfl⟩
   rw [if_neg (fun z=>h1 (zH z))]
   by_cases h2:1000<x
   ·rw [if_pos (zE h2)]
    rw [if_neg (fun z=>by simp at hmem;rcases hmem with rfl | rfl | rfl<;>lia)] at kE
    exact ⟨by decide,kE _ rfl⟩
   rw [if_neg (fun z=>h2 (zH z))]
   refine ⟨⟨_,rfl⟩,fun y hy=>?_⟩
   rw [htk] at hy
   rcases zb.mp hy with z | z
   ·exact hi y z
   ·rw [zI.mp z]
    exact ⟨by lia,by lia⟩
  ·rintro σ H1 ⟨o,rfl,rfl,hi⟩
   exact k (if_pos ⟨hi p (by simp),hi f (by simp),hi h (by simp)⟩)
theorem Pj:AJ ["places"] ["places"] (AF Ex):=by walk_at "SC"
noncomputable def PN {w:World}{K:W.Frag}{mg:Str→Option Value}(T:Tx w K mg):Sp:=fun vs H Q E=>∃ (l:Addr) (ps:List Int),vs=[.ref l]∧SqL K H l (ps.map V.int)∧ps.length<4000∧(Bs ps→∀ H',AG H H'→E (T.err .badlist) none H')∧(¬ Bs ps→∀ H',AG H H'→Q .non H')
theorem PF (T:Tx w K mg):Aa P w K mg base (CXE P w) 1 T.JH T.Hv ["places"] (PN T):=by
 refine T.Jo.F.okX Pj (fun _ _ _ _ h=>by walk_at "LN") ?_
 ·walk_at "I2"
  obtain ⟨l,ps,rfl,hl,h4,kE,k⟩:=h
  refine ⟨_,(AD (Ae (ptc Bg (AT AW (by rfl) T.BN A0 (AA (pv 0) AB)) AC) (AE (A1 C4 rfl T.Nb (by rfl) T.KA (AA AN AB)))
    AS)
   (AD (Ae (ptc IC (AT AW (by rfl) T.BN A0 (AA (pv 0) AB)) (DX (v:=.int (40)) (by rfl) T.M9 T.MR)) (AE (A1 C4 rfl T.Nb (by rfl) T.KA (AA AN AB)))
    AS)
   (AE (Ae (ptc E7 (AT Xg (by rfl) T.BN A0 (AA (Al (X6 (by rfl)) (by rfl) T.z_set ii (AA (pv 0) AB)) AB)) (AT AW (by rfl) T.BN A0 (AA (pv 0) AB))) (AE (A1 C4 rfl T.Nb (by rfl) T.KA (AA AN AB)))
    AS)))),?_⟩
  delta Ux
  refine ⟨_,.inl hl,?_⟩
  rw [z0]
  by_cases h0:ps.length=0
  ·rw [if_pos (zE (by lia))]
   exact ⟨by decide,kE (.inl (q9.mp h0)) _ (AG.refl _)⟩
  rw [if_neg (fun z=>h0 (by have:=zH z;lia))]
  refine ⟨_,.inl hl,?_⟩
  rw [z0]
  by_cases h1:40<ps.length
  ·rw [if_pos (zE (by lia))]
   exact ⟨by decide,kE (.inr (.inl h1)) _ (AG.refl _)⟩
  rw [if_neg (fun z=>h1 (by have:=zH z;lia))]
  refine ⟨ps,hl,h4,fun D H1 S n n1 s1 e1 le iff=>⟨S,n,e1,_,.inl (s1.seq hl),?_⟩⟩
  rw [z0]
  by_cases h2:n<ps.length
  ·rw [if_pos (zE (by lia))]
   exact ⟨by decide,kE (.inr (.inr fun z=>by have:=iff.mpr z;lia)) _ s1⟩
  rw [if_neg (fun z=>h2 (by have:=zH z;lia))]
  refine k (fun z=>?_) _ s1
  rcases z with z | z | z
  ·rw [z] at h0;exact h0 rfl
  ·exact h1 z
  ·exact z (iff.mp (by lia))
theorem Jt:AJ ["throw","number"] ["throw"] (AF F9):=by walk_at "SC"
noncomputable def Pz {w:World}{K:W.Frag}{mg:Str→Option Value}(T:Tx w K mg):Sp:=fun vs H Q E=>∃ (q:Addr) (a b c d:Int),vs=[.ref q]∧H q=some (.tup [.int a,.int b,.int c,.int d])∧(PJ a b c d→E (T.err .badthrow) none H)∧(¬ PJ a b c d→Q .non H)
theorem Qz (T:Tx w K mg):Aa P w K mg base (CXE P w) 1 T.KP T.Ih ["throw"] (Pz T):=by
 refine T.KQ.F.okX Jt (fun _ _ _ _ h=>by walk_at "LN") ?_
 ·walk_at "I2"
  obtain ⟨q,a,b,c,d,rfl,hq,kE,k⟩:=h
  refine ⟨_,(AD (Ae (Kn (ptc E7 (pxi AL (pv 0) AC) AC) (Fz (ptc E7 (pxi AL (pv 0) AC) AC))).pt (AE (A1 C4 rfl T.Qi (by rfl) T.L6 (AA AN AB)))
    AS)
   (AE (Bo bw rfl (Nu (pv 0)) (pgn 1 Jt)
    (AE (Ae (Kn (ptc E7 (pv 1) (GR DR (DX (v:=.int (999999999)) (by rfl) T.Jh T.Iu))) (Fz (ptc IC (pv 1) (DX (v:=.int (999999999)) (by rfl) T.Jh T.Iu)))).pt (AE (A1 C4 rfl T.Qi (by rfl) T.L6 (AA AN AB)))
      AS))))),?_⟩
  delta Ux
  walk_at "AUTO"
  by_cases h1:b<1
  ·rw [if_pos (zE h1)]
   exact ⟨by decide,kE (.inl h1)⟩
  rw [if_neg (fun z=>h1 (zH z))]
  walk_at "AUTO"
  by_cases h2:d<1
  ·rw [if_pos (zE h2)]
   exact ⟨by decide,kE (.inr (.inl h2))⟩
  rw [if_neg (fun z=>h2 (zH z))]
  refine ⟨_,rfl,q,rfl,⟨_,SqT.of hq⟩,WX (xs:=[V.int a,V.int b,V.int c,V.int d]) (fun i σ H'=>∃ o,σ=[some (.ref q),o]∧H'=H∧∀ x∈[a,b,c,d].take i,¬ (x < -999999999∨999999999<x)) ⟨none,rfl,rfl,fun _ z=>absurd z (by simp)⟩ (fun _ _ _ _ ⟨_,_,e,_⟩=>SqT.of (e▸hq)) ?_ ?_⟩
  ·rintro i v σ H1 hx ⟨o,rfl,rfl,hi⟩
   have hil:i<[a,b,c,d].length:=(zC.mp hx).1
   have ev:v=V.int [a,b,c,d][i]:=by
    have hx:([a,b,c,d].map V.int)[i]? = some v:=hx
    rw [zN,z9 hil] at hx
    exact (zV hx).symm
   subst ev
   have hmem:=zY hil
   have htk:[a,b,c,d].take (i+1)=[a,b,c,d].take i++[[a,b,c,d][i]]:=zS hil
   generalize [a,b,c,d][i]=x at *
   delta Ux
   by_cases h3:x < -999999999
   ·rw [if_pos (zE h3)]
    exact ⟨by decide,kE (.inr (.inr ⟨x,hmem,.inl h3⟩))⟩
   rw [if_neg (fun z=>h3 (zH z))]
   by_cases h4:999999999<x
   ·rw [if_pos (zE h4)]
    exact ⟨by decide,kE (.inr (.inr ⟨x,hmem,.inr h4⟩))⟩
   rw [if_neg (fun z=>h4 (zH z))]
   refine ⟨⟨_,rfl⟩,fun y hy=>?_⟩
   rw [htk] at hy
   rcases zb.mp hy with z | z
   ·exact hi y z
   ·rw [zI.mp z]
    exact fun z=>z.elim h3 h4
  ·rintro σ H1 ⟨o,rfl,rfl,hi⟩
   refine k fun z=>?_
   rcases z with z | z | ⟨x,hx,z⟩
   ·exact h1 z
   ·exact h2 z
   ·exact hi x hx z
theorem RL:AJ ["self"] ["self"] (AF HY):=by walk_at "SC"
noncomputable def K1 {w:World}{K:W.Frag}{mg:Str→Option Value}(T:Tx w K mg):Sp:=fun vs H Q _=>∃ (b dx:Addr),vs=[.ref b]∧H b=some (.ins T.AK dx [])∧∀ H' S P,H S=none→H P=none→(∀ a u,a≠b→H a=some u→H' a=some u)→Bch T.AK H' b S P [S,P] [] []→Q .non H'
theorem VA {w:World}{K:W.Frag}{mg:Str→Option Value}{T:Tx w K mg}{H:Hp}{Q:Addr→Hp→Prop}{E:XK}(k:∀ b S P H',H b=none→H S=none→H P=none→AG H H'→Bch T.AK H' b S P [S,P] [] []→Q b H') :
  ∀ x dx,H x=none→H dx=none→dx≠x→K1 T [V.ref x] (upd (upd H dx (.own x)) x (.ins T.AK dx [])) (fun v H2=>v=V.non∧Q x H2) E:=fun x dx nx nd hd=>by
 refine ⟨x,dx,rfl,AM,fun H' S P nS nP kp hb=>⟨rfl,k x S P H' nx ?_ ?_ (fun a u e=>kp a u (Af e nx) ?_) hb⟩⟩
 ·have h1:S≠x:=fun z=>by rw [z,AM] at nS;cases nS
  have h2:S≠dx:=fun z=>by rw [AO h1,z,AM] at nS;cases nS
  rwa [AO h1,AO h2] at nS
 ·have h1:P≠x:=fun z=>by rw [z,AM] at nP;cases nP
  have h2:P≠dx:=fun z=>by rw [AO h1,z,AM] at nP;cases nP
  rwa [AO h1,AO h2] at nP
 ·rw [AO (Af e nx),AO (Af e nd)]
  exact e
theorem K4 (T:Tx w K mg):Aa P w K mg base CX0 1 T.HW T.Kt ["self"] (K1 T):=by
 refine T.HX.F.ok RL (fun _ _ _ _ h=>by walk_at "LN") ?_
 ·walk_at "I2"
  obtain ⟨b,dx,rfl,hb,k⟩:=h
  refine ⟨_,(AD (Ng (pv 0) (Ao AB) rfl)
   (AE (Ng (pv 0) (Ao AB) rfl))),?_⟩
  delta Ux
  refine ⟨by decide,fun S H1 nS s1 eS=>⟨_,dx,_,s1.get hb,T.AQ,T.Ab,by decide,by decide,fun P H2 nP s2 eP=>?_⟩⟩
  have sb:S≠b:=Af hb nS |>.symm
  refine ⟨_,dx,_,s2.get AM,T.AQ,T.BG,(by show 1<1000;decide),?_⟩
  have nP1:H1 P=none:=by
   have hPb:P≠b:=fun z=>by rw [z,AM] at nP;cases nP
   rw [AO hPb] at nP
   exact nP
  have eS2:H2 S=some (.lst []):=s2.get ((AO sb).trans eS)
  have pb:P≠b:=(Af (s1.get hb) nP1).symm
  have ps:P≠S:=(Af eS nP1).symm
  refine k _ S P nS (s1.free nP1) (fun a u ha e=>?_) ?_
  ·rw [AO ha]
   exact s2.get ((AO ha).trans (s1.get e))
  ·refine ⟨⟨dx,AM⟩,⟨[],(AO sb).trans eS2,.nil⟩,⟨[],(AO pb).trans eP,.nil,fun _ h=>absurd h (by simp)⟩,ps.symm,by simp,by simp,⟨List.Pairwise.nil,fun _ h=>absurd h (by simp),by decide⟩,fun _ h=>absurd h (by simp),by decide,fun a ha=>?_⟩
   simp at ha
   rcases ha with rfl | rfl
   ·exact ⟨_,(AO sb).trans eS2⟩
   ·exact ⟨_,(AO pb).trans eP⟩
theorem M3:AJ ["self","place"] ["self","place"] (AF DE):=by walk_at "SC"
noncomputable def M7 {w:World}{K:W.Frag}{mg:Str→Option Value}(T:Tx w K mg):Sp:=fun vs H Q E=>∃ (b S P:Addr) (ow:List Addr) (gs:List G) (past:List (List G)) (p:Int),vs=[.ref b,.int p]∧Bch T.AK H b S P ow gs past∧∀ H',AG H H'→Q (.bl (decide (p∈AU gs))) H'
theorem MY (T:Tx w K mg):Aa P w K mg base CX0 1 T.GP T.Fd ["self","place"] (M7 T):=by
 refine T.DU.F.ok M3 (fun _ _ _ _ h=>by walk_at "LN") ?_
 ·walk_at "I2"
  obtain ⟨b,S,P,ow,gs,past,p,rfl,hb,k⟩:=h
  refine ⟨_,(AE (AI (TV Xl (pv 1) (Bj rfl (⟨rfl,by decide +kernel,by decide +kernel,by decide +kernel,rfl,by decide +kernel,by with_unfolding_all rfl,by rfl,by rfl,by rfl⟩:Ar _ _ "gate" [] []) (A7 (Bm (pv 0) rfl)) (fun _ _ _ _  => (pxi (G1 (K:=K) rfl) (pv 0) AC)) (fun _ _ _ _=>BJ)) (by with_unfolding_all rfl)))),?_⟩
  obtain ⟨dx,eb⟩:=hb.at_
  obtain ⟨as,es,ga⟩:=hb.st
  delta C5
  refine ⟨_,dx,_,eb,T.AQ,T.Ab,_,rfl,?_⟩
  refine ⟨_,rfl,⟨_,SqL.of es⟩,fun D nD=>?_⟩
  refine PY (fun _=>true) (fun g=>V.int g.p) (SqL.of es) ga nD (by have:=hb.std.len;lia) (fun v g H R hg s1 ev hR=>?_) (fun v g H R hg s1 ev hR=>?_) fun H1 s1 e1=>?_
  ·exact hR
  ·delta qO
   exact ⟨_,SqT.of ev,_,rfl,hR⟩
  ·rw [Yr,show (gs.map fun g=>V.int g.p)=(AU gs).map V.int from by rw [zp];rfl] at e1
   refine ⟨_,.inl (SqL.of e1),rfl,ZZ _,?_⟩
   rw [W1]
   exact k _ s1
theorem GM:AJ ["self","place","gate"] ["self","place"] (AF Du):=by walk_at "SC"
noncomputable def OI {w:World}{K:W.Frag}{mg:Str→Option Value}(T:Tx w K mg):Sp:=fun vs H Q E=>∃ (b S P:Addr) (ow:List Addr) (gs:List G) (past:List (List G)) (p:Int),vs=[.ref b,.int p]∧Bch T.AK H b S P ow gs past∧(p∉AU gs→E (T.err .nogate) none H)∧∀ D g,CW gs p=some g→H D=some (.tup (G.vs g))→Q (.ref D) H
theorem DG (T:Tx w K mg):Aa P w K mg base (CXE P w) 1 T.Ht T.Gr ["self","place"] (OI T):=by
 refine T.BC.F.okX GM (fun _ _ _ _ h=>by walk_at "LN") ?_
 ·walk_at "I2"
  obtain ⟨b,S,P,ow,gs,past,p,rfl,hb,kE,k⟩:=h
  refine ⟨_,(AD (Bo bw rfl (A7 (Bm (pv 0) rfl)) (pgn 2 GM)
    (AE (Ae (ptc Bg (pxi AL (pv 2) AC) (pv 1)) (AE (AI (pv 2)))
      AS)))
   (AE (A1 C4 rfl T.Yj (by rfl) T.VE (AA AN AB)))),?_⟩
  obtain ⟨dx,eb⟩:=hb.at_
  obtain ⟨as,es,ga⟩:=hb.st
  have las:=ga.len
  delta C5
  refine ⟨_,rfl,b,T.AK,dx,_,_,rfl,eb,T.AQ,T.Ab,rfl,S,rfl,⟨_,SqL.of es⟩,JF (xs:=as.map V.ref) (fun i σ H'=>∃ o,σ=[some (.ref b),some (.int p),o]∧H'=H∧∀ g∈gs.take i,g.p≠p) ⟨none,rfl,rfl,fun _ z=>absurd z (by simp)⟩ (fun _ _ _ _ ⟨_,_,e,_⟩=>SqL.of (e▸es)) ?_ ?_⟩
  ·rintro i v σ H1 hx ⟨o,rfl,rfl,hn⟩
   have hi:i<gs.length:=by
    have:=(zC.mp hx).1
    rw [z0] at this
    lia
   obtain ⟨a,ha,ea⟩:=ga.get (z9 hi)
   have ex:v=V.ref a:=by
    rw [zN,ha] at hx
    exact (zV hx).symm
   subst ex
   have hm:=zY hi
   have htk:gs.take (i+1)=gs.take i++[gs[i]]:=zS hi
   generalize gs[i]=g at *
   delta Ux
   refine ⟨_,SqT.of ea,_,rfl,rfl,?_⟩
   by_cases hp:g.p=p
   ·rw [if_pos (zE (by rw [hp]))]
    exact k a g (hp▸SL hb.std.asc hm) ea
   ·rw [if_neg (fun z=>hp (V.int.inj (zH z)))]
    refine ⟨⟨_,rfl⟩,fun y hy=>?_⟩
    rw [htk] at hy
    rcases zb.mp hy with z | z
    ·exact hn y z
    ·rw [zI.mp z]
     exact hp
  ·rintro σ H1 ⟨o,rfl,rfl,hn⟩
   delta Ux
   refine ⟨by decide,kE fun z=>?_⟩
   obtain ⟨g,hg,e⟩:=zZ.mp z
   exact hn g (by rw [z0,las,zj];exact hg) e
theorem Ga:AJ ["self","place","instead","others"] ["self","place","instead"] (AF Dz):=by walk_at "SC"
noncomputable def Nz {w:World}{K:W.Frag}{mg:Str→Option Value}(T:Tx w K mg):Sp:=fun vs H Q E=>∃ (b S P:Addr) (ow:List Addr) (gs:List G) (past:List (List G)) (p:Int) (l:Addr) (ls:List Addr) (o:List G),vs=[.ref b,.int p,.ref l]∧Bch T.AK H b S P ow gs past∧l∉ow∧H l=some (.lst (ls.map V.ref))∧Am H ls o∧(∀ g∈o,g.p=p)∧Std (FK gs p o)∧(300≤past.length→E (T.err .deeds) none H)∧(past.length<300→∀ H' S' ow' (D:Addr),Kp b P H H'→Bch T.AK H' b S' P ow' (FK gs p o) (past++[gs])→(∀ a∈ow',a∈ow∨H a=none)→Q .non H')
theorem DQ (T:Tx w K mg):Aa P w K mg base (CXE P w) 1 T.Hx T.Gc ["self","place","instead"] (Nz T):=by
 refine T.BD.F.okX Ga (fun _ _ _ _ h=>by walk_at "LN") ?_
 ·walk_at "I2"
  obtain ⟨b,S,P,ow,gs,past,p,l,ls,o,rfl,hb,hlo,el,go,hop,std,kE,k⟩:=h
  refine ⟨_,(AD (Ae (ptc bS (AT AW (by rfl) T.BN A0 (AA (Bm (pv 0) rfl) AB)) (DX (v:=.int (300)) (by rfl) T.Th T.Sy)) (AE (A1 C4 rfl T.UE (by rfl) T.Og (AA AN AB)))
    AS)
   (AD (MN (i:=3) rfl Ga.nd rfl (Or.inl rfl) (⟨rfl,by decide +kernel,by decide +kernel,by decide +kernel,rfl,by decide +kernel,by with_unfolding_all rfl,by rfl,by rfl,by rfl⟩:Ar _ _ "gate" ["place"] [1]) (A7 (Bm (pv 0) rfl)) (fun _ _ _ _  => (pv 0)) (fun _ _ _ _=>(Wt (ptc Ib (pxi (G1 (K:=K) rfl) (pv 0) AC) (pv 1)))))
   (AD (A5 (DT (Bm (pv 0) rfl) (Bm (pv 0) rfl)))
   (AE (Ng (pv 0) (AT Bn (by rfl) T.Er DL (AA (AH B7 (pv 3) (pv 2)) AB)) rfl))))),?_⟩
  obtain ⟨dx,eb⟩:=hb.at_
  obtain ⟨as,es,ga⟩:=hb.st
  obtain ⟨ps,ep,pr,hps⟩:=hb.pa
  have lp:=Paired.length pr
  walk_at "Q"
  delta Ux
  refine ⟨_,dx,_,eb,T.AQ,T.BG,_,rfl,?_⟩
  refine ⟨_,rfl,_,.inl (SqL.of ep),?_⟩
  rw [z0,lp]
  by_cases h3:300≤past.length
  ·rw [if_pos (zE (by lia))]
   exact ⟨by decide,kE h3⟩
  ·rw [if_neg (fun z=>h3 (by have:=zH z;lia))]
   walk_at "NX"
   walk_at "Q"
   delta C5
   refine ⟨_,dx,_,eb,T.AQ,T.Ab,_,rfl,_,rfl,⟨_,SqL.of es⟩,fun D nD=>?_⟩
   refine UO (fun g=>!decide (g.p=p)) (SqL.of es) ga nD (by have:=hb.std.len;lia) (fun v g H1 R hg s1 ev hR=>?_) fun H1 as1 s1 e1 ga1=>?_
   ·delta qO
    refine ⟨_,SqT.of ev,_,rfl,rfl,?_⟩
    rw [show decide (V.int g.p=V.int p)=decide (g.p=p) from decide_eq_decide.mpr ⟨fun z=>V.int.inj z,fun z=>by rw [z]⟩]
    exact hR
   ·have eb1:=s1.get eb
    have ep1:=s1.get ep
    walk_at "NX"
    walk_at "Q"
    delta Ux
    refine ⟨_,dx,_,eb1,T.AQ,T.BG,_,rfl,_,rfl,⟨_,ep1⟩,_,dx,_,eb1,T.AQ,T.Ab,_,rfl,_,ep1,by rw [z0,lp,PySem.sizeLine_eq];lia,?_⟩
    walk_at "NX"
    delta Ux
    have bP:b≠P:=IA eb ep (by simp)
    have lP:l≠P:=fun z=>hlo (by rw [z];exact hb.po)
    have DP:D≠P:=(Af ep nD).symm
    have el1:upd H1 P (.lst (ps.map V.ref++[V.ref S])) l=some (.lst (ls.map V.ref)):=(AO lP).trans (s1.get el)
    have e1':upd H1 P (.lst (ps.map V.ref++[V.ref S])) D=some (.lst (as1.map V.ref)):=(AO DP).trans e1
    have lo:=Am.len go
    have l1:=Am.len ga1
    have lf:=qA (fun g:G=>!decide (g.p=p)) gs
    have l40:=hb.std.len
    have lpo:=Qy (gs:=gs) (p:=p) (o:=o)
    have l40':=std.len
    refine ⟨_,e1',_,el1,by rw [z0,z0,PySem.sizeLine_eq];lia,fun M H2 n2 s2 e2=>?_⟩
    have kt:∀ a xs,H a=some (.tup xs)→H2 a=some (.tup xs):=fun a xs e=>s2.get ((AO (hb.nep e fun _ z=>by cases z)).trans (s1.get e))
    have kt1:∀ a xs,H1 a=some (.tup xs)→H2 a=some (.tup xs):=fun a xs e=>s2.get ((AO (IA e ep1 (fun z=>by cases z))).trans e)
    have ga2:Am H2 (as1++ls) ((gs.filter fun g=>!decide (g.p=p))++o):=Am.append (ga1.keep kt1) (go.keep kt)
    refine ⟨as1++ls,by rw [zc];exact SqL.of e2,_,ga2,?_,by rw [zD];lia,fun S' H3 as3 gs3 n3 s3 e3 ga3 pm ac=>?_⟩
    ·exact ((J7 (gs:=gs) (p:=p) (o:=o)).map G.p).nodup_iff.mp std.nd
    have eg:gs3=FK gs p o:=BO ac std.asc (pm.trans J7.symm)
    subst eg
    have eP3:H3 P=some (.lst ((ps++[S]).map V.ref)):=by rw [zc];exact s3.get (s2.get AM)
    have eb3:H3 b=some (.ins T.AK dx [("standing",.ref S),("past",.ref P)]):=s3.get (s2.get ((AO bP).trans eb1))
    have kp3:Kp b P H H3:=fun a u h1 h2 e=>s3.get (s2.get ((AO h2).trans (s1.get e)))
    have fr:∀ a,H3 a=none→H a=none:=fun a e=>by
     cases q:H a with
     | none=>rfl
     | some u =>
      by_cases hb':a=b
      ·rw [hb',eb3] at e;cases e
      ·by_cases hP:a=P
       ·rw [hP,eP3] at e;cases e
       ·rw [kp3 a u hb' hP q] at e;cases e
    have n3H:H S'=none:=by
     cases q:H S' with
     | none=>rfl
     | some u =>
      by_cases hb':S'=b
      ·rw [hb',s2.get ((AO bP).trans eb1)] at n3;cases n3
      ·by_cases hP:S'=P
       ·rw [hP,s2.get AM] at n3;cases n3
       ·rw [s2.get ((AO hP).trans (s1.get q))] at n3;cases n3
    have Sb:S'≠b:=(Af eb n3H).symm
    have SP':S'≠P:=(Af ep n3H).symm
    have kt3:∀ a xs,H a=some (.tup xs)→H3 a=some (.tup xs):=fun a xs e=>s3.get (kt a xs e)
    have kb:∀ a xs,H3 a=some (.tup xs)→upd H3 b (.ins T.AK dx [("standing",.ref S'),("past",.ref P)]) a=some (.tup xs):=fun a xs e=>(AO (IA e eb3 (fun z=>by cases z))).trans e
    refine ⟨_,dx,_,eb3,T.AQ,T.Ab,by show 2<1000;decide,k (by lia) _ S' (S'::S::ow) S' (kp3.upd (.inl rfl)) ?_ fun a ha=>?_⟩
    ·refine ⟨⟨dx,AM⟩,⟨as3,(AO Sb).trans e3,ga3.keep kb⟩,⟨ps++[S],(AO bP.symm).trans eP3,Paired.snoc (Paired.keepM pr fun x y hx q=>?_) ?_,fun a ha=>?_⟩,SP',by simp,by simp [hb.po],std,fun x hx=>?_,by rw [zD];simp only [List.length_singleton];lia,fun a ha=>?_⟩
     ·have hxo:=hps x hx
      obtain ⟨_,ex⟩:=hb.lv x hxo.1
      have hxb:x≠b:=hb.neb ex fun _ _ _ z=>by cases z
      exact q.keep (fun u e=>(AO hxb).trans (kp3 x u hxb hxo.2 e)) fun a xs e=>kb a xs (kt3 a xs e)
     ·have hSb:S≠b:=hb.neb es fun _ _ _ z=>by cases z
      exact hb.st.keep (fun u e=>(AO hSb).trans (kp3 S u hSb hb.sp e)) fun a xs e=>kb a xs (kt3 a xs e)
     ·rcases zb.mp ha with z | z
      ·exact ⟨by simp [(hps a z).1],(hps a z).2⟩
      ·rw [zI.mp z];exact ⟨by simp,hb.sp⟩
     ·rcases zb.mp hx with z | z
      ·exact hb.stds x z
      ·rw [zI.mp z];exact hb.std
     ·have hown:∀ a∈ow,∃ xs,upd H3 b (.ins T.AK dx [("standing",.ref S'),("past",.ref P)]) a=some (.lst xs):=fun a ha=>by
       obtain ⟨xs,ex⟩:=hb.lv a ha
       have hxb:a≠b:=hb.neb ex fun _ _ _ z=>by cases z
       by_cases hP:a=P
       ·rw [hP];exact ⟨_,(AO bP.symm).trans eP3⟩
       ·exact ⟨xs,(AO hxb).trans (kp3 a _ hxb hP ex)⟩
      rcases zF.mp ha with z | z
      ·rw [z];exact ⟨_,(AO Sb).trans e3⟩
      ·rcases zF.mp z with z | z
       ·rw [z];exact hown S hb.so
       ·exact hown a z
    ·rcases zF.mp ha with z | z
     ·rw [z];exact .inr n3H
     ·rcases zF.mp z with z | z
      ·rw [z];exact .inl hb.so
      ·exact .inl z
theorem MV:AJ ["self","place","foot","head","gate"] ["self","place","foot","head"] (AF Iv):=by walk_at "SC"
noncomputable def Tl {w:World}{K:W.Frag}{mg:Str→Option Value}(T:Tx w K mg):Sp:=fun vs H Q E=>∃ (b S P:Addr) (ow:List Addr) (gs:List G) (past:List (List G)) (p f h:Int),vs=[.ref b,.int p,.int f,.int h]∧Bch T.AK H b S P ow gs past∧(∀ e,PK gs past p f h=some e→∀ H',AG H H'→E (T.err e) none H')∧(PK gs past p f h=none→∀ H' S' ow' (D:Addr),Kp b P H H'→Bch T.AK H' b S' P ow' (FK gs p [⟨p,f,h⟩]) (past++[gs])→(∀ a∈ow',a∈ow∨H a=none)→H' D=some (.tup [.int p,.int f,.int h])→Q (.ref D) H')
theorem Mi (T:Tx w K mg):Aa P w K mg base (CXE P w) 2 T.OX T.NP ["self","place","foot","head"] (Tl T):=by
 refine T.Di.F.okX MV (fun _ _ _ _ h=>by walk_at "LN") ?_
 ·walk_at "I2"
  obtain ⟨b,S,P,ow,gs,past,p,f,h',rfl,hb,kE,k⟩:=h
  refine ⟨_,(AD (Ae (EC (Aj (pv 0) T.AQ T.DU.mt (MY T) (hr.mono (by decide)) T.DU.b .nil AR (AA (pv 1) AB))) (AE (A1 C4 rfl T.ak (by rfl) T.Wz (AA AN AB)))
    AS)
   (AD (pst 4 MV (Ag (AA (pv 1) (AA (pv 2) (AA (pv 3) AB)))))
   (AD (A5 (pcl T.G6 (LU T) hr Aw (AA (pv 4) AB)))
   (AD (Ae (ptc bS (AT AW (by rfl) T.BN A0 (AA (Bm (pv 0) rfl) AB)) (DX (v:=.int (40)) (by rfl) T.M9 T.MR)) (AE (A1 C4 rfl T.UA (by rfl) T.OW (AA AN AB)))
    AS)
   (AD (A5 (Aj (pv 0) T.AQ T.BD.mt (DQ T) (hr.mono (by decide)) T.BD.b .nil Aw (AA (pv 1) (AA (Ao (AA (pv 4) AB)) AB))))
   (AE (AI (pv 4)))))))),?_⟩
  obtain ⟨dx,eb⟩:=hb.at_
  obtain ⟨as,es,ga⟩:=hb.st
  have las:=ga.len
  walk_at "Q"
  delta Ux
  refine ⟨_,_,eb,rfl,b,S,P,ow,gs,past,p,rfl,hb,fun H1 s1=>?_⟩
  have hb1:=hb.same s1
  by_cases hp:p∈AU gs
  ·refine ⟨_,rfl,?_⟩
   rw [if_pos (zE hp)]
   exact ⟨by decide,kE .taken (by unfold PK;rw [if_pos hp]) _ s1⟩
  refine ⟨_,rfl,?_⟩
  rw [if_neg (fun z=>hp (zH z))]
  walk_at "NX"
  walk_at "Q"
  delta Ux
  refine ⟨by decide,fun q H2 n2 s2 e2=>?_⟩
  walk_at "NX"
  walk_at "Q"
  delta Ux
  refine ⟨q,p,f,h',rfl,e2,fun e he=>kE e (by unfold PK;rw [if_neg hp,he];rfl) _ (s1.trans s2),fun hok=>?_⟩
  have hb2:=hb1.same s2
  obtain ⟨dx,eb⟩:=hb2.at_
  obtain ⟨as,es,ga⟩:=hb2.st
  have las:=ga.len
  walk_at "NX"
  walk_at "Q"
  delta Ux
  refine ⟨_,dx,_,eb,T.AQ,T.Ab,_,rfl,_,rfl,_,.inl (SqL.of es),?_⟩
  rw [z0,las]
  by_cases h4:40≤gs.length
  ·rw [if_pos (zE (by lia))]
   exact ⟨by decide,kE .full (by unfold PK;rw [if_neg hp,hok,if_pos h4];rfl) _ (s1.trans s2)⟩
  rw [if_neg (fun z=>h4 (by have:=zH z;lia))]
  walk_at "NX"
  delta Ux
  refine ⟨dx,_,eb,rfl,by decide,fun l H3 n3 s3 e3=>?_⟩
  have hb3:=hb2.same s3
  have ok:=MO.mp hok
  refine ⟨b,S,P,ow,gs,past,p,l,[q],[⟨p,f,h'⟩],rfl,hb3,fun z=>?_,e3,.cons (s3.get e2) .nil,fun g hg=>by rw [zI.mp hg],hb.std.put ok (by rw [U8 hp];lia),fun h3=>kE .deeds (by unfold PK;rw [if_neg hp,hok,if_neg h4,if_pos h3];rfl) _ (s1.trans (s2.trans s3)),fun h3 H4 S' ow' _ k4 b4 o4=>?_⟩
  ·exact hb2.off n3 z
  ·refine k (by unfold PK;rw [if_neg hp,hok,if_neg h4,if_neg (by lia)];rfl) H4 S' ow' q ((Kp.of (s1.trans (s2.trans s3))).trans k4) b4 (fun a ha=>?_) (hb3.tup k4 (s3.get e2))
   exact (o4 a ha).imp id fun z=>(s1.trans (s2.trans s3)).free z
theorem Kb:AJ ["self","place","gate"] ["self","place"] (AF HP):=by walk_at "SC"
noncomputable def Rh {w:World}{K:W.Frag}{mg:Str→Option Value}(T:Tx w K mg):Sp:=fun vs H Q E=>∃ (b S P:Addr) (ow:List Addr) (gs:List G) (past:List (List G)) (p:Int),vs=[.ref b,.int p]∧Bch T.AK H b S P ow gs past∧(∀ e,Qb gs past p=some e→∀ H',AG H H'→E (T.err e) none H')∧(∀ g,CW gs p=some g→Qb gs past p=none→∀ H' S' ow' (D:Addr),Kp b P H H'→Bch T.AK H' b S' P ow' (FK gs p []) (past++[gs])→(∀ a∈ow',a∈ow∨H a=none)→H' D=some (.tup (G.vs g))→Q (.ref D) H')
theorem R3 (T:Tx w K mg):Aa P w K mg base (CXE P w) 2 T.NT T.Ks ["self","place"] (Rh T):=by
 refine T.HH.F.okX Kb (fun _ _ _ _ h=>by walk_at "LN") ?_
 ·walk_at "I2"
  obtain ⟨b,S,P,ow,gs,past,p,rfl,hb,kE,k⟩:=h
  refine ⟨_,(AD (pst 2 Kb (Aj (pv 0) T.AQ T.BC.mt (DG T) (hr.mono (by decide)) T.BC.b .nil Aw (AA (pv 1) AB)))
   (AD (A5 (Aj (pv 0) T.AQ T.BD.mt (DQ T) (hr.mono (by decide)) T.BD.b .nil Aw (AA (pv 1) (AA (Ao AB) AB))))
   (AE (AI (pv 2))))),?_⟩
  obtain ⟨dx,eb⟩:=hb.at_
  delta Ux
  refine ⟨dx,_,eb,rfl,b,S,P,ow,gs,past,p,rfl,hb,fun hp=>kE .nogate (by unfold Qb;rw [if_neg hp]) _ (AG.refl _),fun D g hg eD=>?_⟩
  obtain ⟨hgm,hgp⟩:=Bi hg
  have hp:p∈AU gs:=zZ.mpr ⟨g,hgm,hgp⟩
  refine ⟨dx,_,eb,rfl,by decide,fun l H1 n1 s1 e1=>?_⟩
  have hb1:=hb.same s1
  refine ⟨b,S,P,ow,gs,past,p,l,[],[],rfl,hb1,hb.off n1,e1,.nil,fun g hg=>absurd hg (by simp),hb.std.take,fun h3=>kE .deeds (by unfold Qb Lv;rw [if_pos hp,if_pos h3]) _ s1,fun h3 H4 S' ow' _ k4 b4 o4=>?_⟩
  exact k g hg (by unfold Qb Lv;rw [if_pos hp,if_neg (by lia)]) H4 S' ow' D ((Kp.of s1).trans k4) b4 (fun a ha=>(o4 a ha).imp id s1.free) (hb1.tup k4 (s1.get eD))
theorem Fo:AJ ["self","place","foot_by","head_by","before","gate"] ["self","place","foot_by","head_by"] (AF HQ):=by walk_at "SC"
noncomputable def Rc {w:World}{K:W.Frag}{mg:Str→Option Value}(T:Tx w K mg):Sp:=fun vs H Q E=>∃ (b S P:Addr) (ow:List Addr) (gs:List G) (past:List (List G)) (p x y:Int),vs=[.ref b,.int p,.int x,.int y]∧Bch T.AK H b S P ow gs past∧(∀ e,Ir gs past p x y=some e→∀ H',AG H H'→E (T.err e) none H')∧(∀ g,CW gs p=some g→Ir gs past p x y=none→∀ H' S' ow' (D:Addr),Kp b P H H'→Bch T.AK H' b S' P ow' (FK gs p [⟨p,g.f+x,g.h+y⟩]) (past++[gs])→(∀ a∈ow',a∈ow∨H a=none)→H' D=some (.tup [.int p,.int (g.f+x),.int (g.h+y)])→Q (.ref D) H')
theorem LL (T:Tx w K mg):Aa P w K mg base (CXE P w) 2 T.NR T.LD ["self","place","foot_by","head_by"] (Rc T):=by
 refine T.C2.F.okX Fo (fun _ _ _ _ h=>by walk_at "LN") ?_
 ·walk_at "I2"
  obtain ⟨b,S,P,ow,gs,past,p,x,y,rfl,hb,kE,k⟩:=h
  refine ⟨_,(AD (pst 4 Fo (Aj (pv 0) T.AQ T.BC.mt (DG T) (hr.mono (by decide)) T.BC.b .nil Aw (AA (pv 1) AB)))
   (AD (pst 5 Fo (Ag (AA (pxi AL (pv 4) AC) (AA (AH Ap (pxi AL (pv 4) AC) (pv 2)) (AA (AH Ap (pxi AL (pv 4) AC) (pv 3)) AB)))))
   (AD (A5 (pcl T.G6 (LU T) hr Aw (AA (pv 5) AB)))
   (AD (A5 (Aj (pv 0) T.AQ T.BD.mt (DQ T) (hr.mono (by decide)) T.BD.b .nil Aw (AA (pv 1) (AA (Ao (AA (pv 5) AB)) AB))))
   (AE (AI (pv 5))))))),?_⟩
  obtain ⟨dx,eb⟩:=hb.at_
  walk_at "Q"
  delta Ux
  refine ⟨dx,_,eb,rfl,b,S,P,ow,gs,past,p,rfl,hb,fun hp=>kE .nogate (by unfold Ir;rw [JS.mpr hp]) _ (AG.refl _),fun D g hg eD=>?_⟩
  obtain ⟨hgm,hgp⟩:=Bi hg
  have le:Ir gs past p x y=(Oo p (g.f+x) (g.h+y)).or (Lv past):=by unfold Ir;rw [hg]
  walk_at "NX"
  walk_at "Q"
  delta Ux
  refine ⟨_,SqT.of eD,_,rfl,_,SqT.of eD,_,rfl,_,rfl,_,SqT.of eD,_,rfl,_,rfl,by decide,fun q H1 n1 s1 e1=>?_⟩
  rw [hgp] at e1
  walk_at "NX"
  walk_at "Q"
  delta Ux
  refine ⟨q,p,g.f+x,g.h+y,rfl,e1,fun e he=>kE e (by rw [le,he];rfl) _ s1,fun hok=>?_⟩
  have hb1:=hb.same s1
  obtain ⟨dx,eb⟩:=hb1.at_
  walk_at "NX"
  delta Ux
  refine ⟨dx,_,eb,rfl,by decide,fun l H2 n2 s2 e2=>?_⟩
  have hb2:=hb1.same s2
  refine ⟨b,S,P,ow,gs,past,p,l,[q],[⟨p,g.f+x,g.h+y⟩],rfl,hb2,hb1.off n2,e2,.cons (s2.get e1) .nil,fun g hg=>by rw [zI.mp hg],hb.std.put (MO.mp hok) (by rw [← hgp];exact zM (fG hgm) hb.std.len),fun h3=>kE .deeds (by rw [le,hok];unfold Lv;rw [if_pos h3];rfl) _ (s1.trans s2),fun h3 H4 S' ow' _ k4 b4 o4=>?_⟩
  exact k g hg (by rw [le,hok];unfold Lv;rw [if_neg (by lia)];rfl) H4 S' ow' q ((Kp.of (s1.trans s2)).trans k4) b4 (fun a ha=>(o4 a ha).imp id (s1.trans s2).free) (hb2.tup k4 (s2.get e1))
theorem RO:AJ ["self","place","foot_by","head_by"] ["self","place","foot_by","head_by"] (AF HF):=by walk_at "SC"
noncomputable def RQ {w:World}{K:W.Frag}{mg:Str→Option Value}(T:Tx w K mg):Sp:=fun vs H Q E=>∃ (b S P:Addr) (ow:List Addr) (gs:List G) (past:List (List G)) (p x y:Int),vs=[.ref b,.int p,.int x,.int y]∧Bch T.AK H b S P ow gs past∧(∀ e,Ir gs past p (-x) (-y)=some e→∀ H',AG H H'→E (T.err e) none H')∧(∀ g,CW gs p=some g→Ir gs past p (-x) (-y)=none→∀ H' S' ow' (D:Addr),Kp b P H H'→Bch T.AK H' b S' P ow' (FK gs p [⟨p,g.f+(-x),g.h+(-y)⟩]) (past++[gs])→(∀ a∈ow',a∈ow∨H a=none)→H' D=some (.tup [.int p,.int (g.f+(-x)),.int (g.h+(-y))])→Q (.ref D) H')
theorem RT (T:Tx w K mg):Aa P w K mg base (CXE P w) 3 T.MQ T.KU ["self","place","foot_by","head_by"] (RQ T):=by
 refine T.Hc.F.okX RO (fun _ _ _ _ h=>by walk_at "LN") ?_
 ·walk_at "I2"
  obtain ⟨b,S,P,ow,gs,past,p,x,y,rfl,hb,kE,k⟩:=h
  refine ⟨_,(AE (AI (Aj (pv 0) T.AQ T.C2.mt (LL T) (hr.mono (by decide)) T.C2.b .nil Aw (AA (pv 1) (AA (GR DR (pv 2)) (AA (GR DR (pv 3)) AB)))))),?_⟩
  obtain ⟨dx,eb⟩:=hb.at_
  delta Ux
  exact ⟨dx,_,eb,rfl,b,S,P,ow,gs,past,p,-x,-y,rfl,hb,kE,k⟩
theorem Ke:AJ ["self","many","left"] ["self","many"] (AF G3):=by walk_at "SC"
noncomputable def R1 {w:World}{K:W.Frag}{mg:Str→Option Value}(T:Tx w K mg):Sp:=fun vs H Q E=>∃ (b S P:Addr) (ow:List Addr) (gs:List G) (past:List (List G)) (n:Int),vs=[.ref b,.int n]∧Bch T.AK H b S P ow gs past∧(∀ e,T5 past n=some e→E (T.err e) none H)∧(T5 past n=none→∀ H' S' P' ow',Kp b b H H'→Bch T.AK H' b S' P' ow' (past.getD (past.length-n.toNat) []) (past.take (past.length-n.toNat))→(∀ a∈ow',a∈ow∨H a=none)→Q (.int ((past.take (past.length-n.toNat)).length:Int)) H')
theorem LI (T:Tx w K mg):Aa P w K mg base (CXE P w) 1 T.Mv T.LR ["self","many"] (R1 T):=by
 refine T.CJ.F.okX Ke (fun _ _ _ _ h=>by walk_at "LN") ?_
 ·walk_at "I2"
  obtain ⟨b,S,P,ow,gs,past,n,rfl,hb,kE,k⟩:=h
  refine ⟨_,(AD (Ae (ptc E7 (pv 1) AC) (AE (A1 C4 rfl T.LC (by rfl) T.GD (AA AN AB)))
    AS)
   (AD (Ae (ptc IC (pv 1) (AT AW (by rfl) T.BN A0 (AA (Bm (pv 0) rfl) AB))) (AE (A1 C4 rfl T.Rm (by rfl) T.Km (AA AN AB)))
    AS)
   (AD (pst 2 Ke (AH Ax (AT AW (by rfl) T.BN A0 (AA (Bm (pv 0) rfl) AB)) (pv 1)))
   (AD (Ng (pv 0) (pxi AX (Bm (pv 0) rfl) (pv 2)) rfl)
   (AD (Ng (pv 0) (Ct Et (Bm (pv 0) rfl) Eg (EK (pv 2))) rfl)
   (AE (AI (pv 2)))))))),?_⟩
  obtain ⟨dx,eb⟩:=hb.at_
  obtain ⟨ps,ep,pr,hps⟩:=hb.pa
  have lp:=Paired.length pr
  have lm:(ps.map V.ref).length=past.length:=by rw [z0,lp]
  unfold T5 at kE k
  walk_at "Q"
  delta Ux
  by_cases h1:n<1
  ·rw [if_pos (zE h1)]
   rw [if_pos h1] at kE
   exact ⟨by decide,kE _ rfl⟩
  rw [if_neg (fun z=>h1 (zH z))]
  rw [if_neg h1] at kE k
  walk_at "NX"
  walk_at "Q"
  delta Ux
  refine ⟨_,dx,_,eb,T.AQ,T.BG,_,rfl,_,rfl,_,.inl (SqL.of ep),?_⟩
  rw [lm]
  by_cases h2:(past.length:Int)<n
  ·rw [if_pos (zE h2)]
   rw [if_pos h2] at kE
   exact ⟨by decide,kE _ rfl⟩
  rw [if_neg (fun z=>h2 (zH z))]
  rw [if_neg h2] at k
  walk_at "NX"
  walk_at "Q"
  delta Ux
  refine ⟨_,dx,_,eb,T.AQ,T.BG,_,rfl,_,rfl,_,.inl (SqL.of ep),?_⟩
  rw [lm]
  walk_at "NX"
  delta Ux
  obtain ⟨j,hj⟩:∃ j:Nat,(past.length:Int)-n=j:=⟨((past.length:Int)-n).toNat,by lia⟩
  have ej:past.length-n.toNat=j:=by lia
  rw [ej] at k
  have hjl:j<past.length:=by lia
  obtain ⟨S',hS',gS'⟩:=Paired.get pr (z9 hjl)
  have hSm:S'∈ps:=zW hS'
  have hSo:=hps S' hSm
  obtain ⟨xs',eS'⟩:=hb.lv S' hSo.1
  have Sb:S'≠b:=hb.neb eS' fun _ _ _ z=>by cases z
  have bP:b≠P:=IA eb ep (by simp)
  have hix:atI (ps.map V.ref) ((past.length:Int)-n)=some (V.ref S'):=by rw [hj];exact Dq hS'
  refine ⟨_,dx,_,eb,T.AQ,T.BG,_,rfl,_,rfl,_,SqL.of ep,_,hix,_,dx,_,eb,T.AQ,T.Ab,(by show 2<1000;decide),?_⟩
  refine ⟨_,dx,_,AM,T.AQ,T.BG,_,rfl,_,rfl,_,SqL.of ((AO bP.symm).trans ep),?_⟩
  intro P2 H2 n2 s2 e2
  have hcut:Nh (ps.map V.ref) none (some ((past.length:Int)-n))=(ps.take j).map V.ref:=by
   rw [hj]
   exact (Hb).trans (List.map_take).symm
  rw [hcut] at e2
  have nP2:H P2=none:=by
   have h1:P2≠b:=fun z=>by rw [z,AM] at n2;cases n2
   rwa [AO h1] at n2
  have P2b:P2≠b:=(Af eb nP2).symm
  have hv:(past.length:Int)-n=((past.take j).length:Int):=by rw [zw];lia
  rw [hv]
  have kp2:∀ a u,a≠b→H a=some u→H2 a=some u:=fun a u ha e=>s2.get ((AO ha).trans e)
  have kp:Kp b b H (upd H2 b (.ins T.AK dx [("standing",.ref S'),("past",.ref P2)])):=fun a u ha _ e=>(AO ha).trans (kp2 a u ha e)
  have kt:∀ a xs,H a=some (.tup xs)→upd H2 b (.ins T.AK dx [("standing",.ref S'),("past",.ref P2)]) a=some (.tup xs):=fun a xs e=>kp a _ (hb.neb e fun _ _ _ z=>by cases z) (hb.neb e fun _ _ _ z=>by cases z) e
  have kl:∀ a∈ow,∀ u,H a=some u→upd H2 b (.ins T.AK dx [("standing",.ref S'),("past",.ref P2)]) a=some u:=fun a ha u e=>by
   obtain ⟨_,ea⟩:=hb.lv a ha
   have hab:=hb.neb ea fun _ _ _ z=>by cases z
   exact kp a u hab hab e
  refine ⟨_,dx,_,s2.get AM,T.AQ,T.BG,(by show 2<1000;decide),k rfl _ S' P2 (P2::ow) kp ?_ fun a ha=>?_⟩
  ·have eg:past.getD j []=past[j]:=by rw [zR,z9 hjl];rfl
   rw [eg]
   refine ⟨⟨dx,AM⟩,gS'.keep (kl S' hSo.1) kt,⟨ps.take j,(AO P2b).trans e2,?_,fun a ha=>⟨zK _ (hps a (zy ha)).1,fun z=>(by rw [z] at ha;exact hb.off nP2 (hps P2 (zy ha)).1)⟩⟩,fun z=>(by rw [z,nP2] at eS';cases eS'),zK _ hSo.1,zP,hb.stds _ (zY hjl),fun x hx=>hb.stds x (zy hx),by rw [zw];have:=hb.len;lia,fun a ha=>?_⟩
   ·exact Paired.keepM (Paired.takeP pr j) fun x y hx q=>q.keep (kl x (hps x (zy hx)).1) kt
   ·rcases zF.mp ha with z | z
    ·rw [z];exact ⟨_,(AO P2b).trans e2⟩
    ·obtain ⟨xs,ea⟩:=hb.lv a z
     exact ⟨xs,kl a z _ ea⟩
  ·rcases zF.mp ha with z | z
   ·rw [z];exact .inr nP2
   ·exact .inl z
theorem P8:AJ ["self"] ["self"] (AF F2):=by walk_at "SC"
noncomputable def Ps {w:World}{K:W.Frag}{mg:Str→Option Value}(T:Tx w K mg):Sp:=fun vs H Q E=>∃ (b S P:Addr) (ow:List Addr) (gs:List G) (past:List (List G)),vs=[.ref b]∧Bch T.AK H b S P ow gs past∧∀ H' D as,H D=none→AG H H'→H' D=some (.lst (as.map V.ref))→Am H' as gs→Q (.ref D) H'
theorem RH (T:Tx w K mg):Aa P w K mg base CX0 1 T.LP T.IV ["self"] (Ps T):=by
 refine T.GB.F.ok P8 (fun _ _ _ _ h=>by walk_at "LN") ?_
 ·walk_at "I2"
  obtain ⟨b,S,P,ow,gs,past,rfl,hb,k⟩:=h
  refine ⟨_,(AE (AI (Al Gw (by rfl) T.Td Pk (AA (Bm (pv 0) rfl) AB)))),?_⟩
  obtain ⟨dx,eb⟩:=hb.at_
  obtain ⟨as,es,ga⟩:=hb.st
  delta Ux
  refine ⟨_,dx,_,eb,T.AQ,T.Ab,_,rfl,?_⟩
  refine ⟨_,rfl,_,.inl (SqL.of es),fun l H' n s e=>?_⟩
  exact k H' l as n s e (ga.same s)
theorem QA:AJ ["self"] ["self"] (AF GE):=by walk_at "SC"
noncomputable def Qn {w:World}{K:W.Frag}{mg:Str→Option Value}(T:Tx w K mg):Sp:=fun vs H Q E=>∃ (b S P:Addr) (ow:List Addr) (gs:List G) (past:List (List G)),vs=[.ref b]∧Bch T.AK H b S P ow gs past∧Q (.int past.length) H
theorem Qe (T:Tx w K mg):Aa P w K mg base CX0 1 T.LK T.Jn ["self"] (Qn T):=by
 refine T.Fs.F.ok QA (fun _ _ _ _ h=>by walk_at "LN") ?_
 ·walk_at "I2"
  obtain ⟨b,S,P,ow,gs,past,rfl,hb,k⟩:=h
  refine ⟨_,(AE (AI (AT AW (by rfl) T.BN A0 (AA (Bm (pv 0) rfl) AB)))),?_⟩
  obtain ⟨dx,eb⟩:=hb.at_
  obtain ⟨ps,ep,pr,_⟩:=hb.pa
  have lp:=Paired.length pr
  delta Ux
  refine ⟨_,dx,_,eb,T.AQ,T.BG,_,rfl,?_⟩
  refine ⟨_,rfl,_,.inl (SqL.of ep),?_⟩
  rw [z0,lp]
  exact k
theorem NV:AJ ["self","places"] ["self","places"] (AF DJ):=by walk_at "SC"
noncomputable def Mt {w:World}{K:W.Frag}{mg:Str→Option Value}(T:Tx w K mg):Sp:=fun vs H Q E=>∃ (b S P:Addr) (ow:List Addr) (gs:List G) (past:List (List G)) (l:Addr) (ps:List Int),vs=[.ref b,.ref l]∧Bch T.AK H b S P ow gs past∧SqL K H l (ps.map V.int)∧ps.length<4000∧(Bs ps→∀ H',AG H H'→E (T.err .badlist) none H')∧(¬ Bs ps→∀ p∈ps,p∈AU gs)∧(¬ Bs ps→∀ D H' as,H D=none→AG H H'→H' D=some (.lst (as.map V.ref))→Am H' as (B4 gs ps)→Q (.ref D) H')
theorem FV (T:Tx w K mg):Aa P w K mg base (CXE P w) 2 T.Gg T.FU ["self","places"] (Mt T):=by
 refine T.Ba.F.okX NV (fun _ _ _ _ h=>by walk_at "LN") ?_
 ·walk_at "I2"
  obtain ⟨b,S,P,ow,gs,past,l,ps,rfl,hb,hl,h4,kE,hst,k⟩:=h
  refine ⟨_,(AD (A5 (pcl T.Jo (PF T) hr Aw (AA (pv 1) AB)))
   (AE (AI (UY rfl (⟨rfl,by decide +kernel,by decide +kernel,by decide +kernel,rfl,by decide +kernel,by with_unfolding_all rfl,by rfl,by rfl,by rfl⟩:Ar _ _ "place" ["self"] [0]) (A7 (pv 1)) (fun _ _ _ _ _ _ hp=>(Yv (pv 1) T.AQ T.BC.mt (DG T) (hr.mono (by decide)) T.BC.b .nil hp (AA (pv 0) AB))) (fun _ _ _ _=>BJ))))),?_⟩
  delta C5
  refine ⟨l,ps,rfl,hl,h4,kE,fun hg H1 s1=>⟨⟨_,s1.seq hl⟩,fun D nD=>?_⟩⟩
  have hs:=hst hg
  have hb1:=hb.same s1
  have ll:ps.length≤40:=qI fun z=>hg (.inr (.inl z))
  refine ag (gs:=B4 gs ps) (by rw [Bp hs];exact s1.seq hl) nD (by rw [DS hs];lia) (fun g H2 R hg s2 hR=>?_) fun H2 as s2 e2 ga=>k ‹_› D H2 as (s1.free nD) (s1.trans s2) e2 ga
  have hb2:=hb1.same s2
  obtain ⟨dx,eb⟩:=hb2.at_
  delta Yg qO
  refine ⟨dx,_,eb,rfl,b,S,P,ow,gs,past,g.p,rfl,hb2,fun hn=>absurd (zZ.mpr ⟨g,BX hg,rfl⟩) hn,fun D' g' hg' eD'=>?_⟩
  rw [Y8 hb.std.asc hg] at hg'
  cases hg'
  exact hR D' eD'
theorem C8:AJ ["self","places","gates"] ["self","places"] (AF B9):=by walk_at "SC"
noncomputable def IS {w:World}{K:W.Frag}{mg:Str→Option Value}(T:Tx w K mg):Sp:=fun vs H Q E=>∃ (b S P:Addr) (ow:List Addr) (gs:List G) (past:List (List G)) (l:Addr) (ps:List Int),vs=[.ref b,.ref l]∧Bch T.AK H b S P ow gs past∧SqL K H l (ps.map V.int)∧ps.length<4000∧(Bs ps→∀ H',AG H H'→E (T.err .badlist) none H')∧(¬ Bs ps→∀ p∈ps,p∈AU gs)∧(¬ Bs ps→ps.length<2→∀ H',AG H H'→E (T.err .few) none H')∧(¬ Bs ps→2≤ps.length→∀ D H' as,H D=none→AG H H'→H' D=some (.lst (as.map V.ref))→Am H' as (B4 gs ps)→Q (.ref D) H')
theorem C7 (T:Tx w K mg):Aa P w K mg base (CXE P w) 3 T.Dl T.C6 ["self","places"] (IS T):=by
 refine T.A9.F.okX C8 (fun _ _ _ _ h=>by walk_at "LN") ?_
 ·walk_at "I2"
  obtain ⟨b,S,P,ow,gs,past,l,ps,rfl,hb,hl,h4,kE,hst,kF,k⟩:=h
  refine ⟨_,(AD (pst 2 C8 (Aj (pv 0) T.AQ T.Ba.mt (FV T) (hr.mono (by decide)) T.Ba.b .nil Aw (AA (pv 1) AB)))
   (AD (Ae (ptc E7 (AT AW (by rfl) T.BN A0 (AA (pv 2) AB)) AC) (AE (A1 C4 rfl T.YH (by rfl) T.UP (AA AN AB)))
    AS)
   (AE (AI (pv 2))))),?_⟩
  obtain ⟨dx,eb⟩:=hb.at_
  delta Ux
  refine ⟨dx,_,eb,rfl,b,S,P,ow,gs,past,l,ps,rfl,hb,hl,h4,kE,hst,fun hg D H1 as n1 s1 e1 ga=>?_⟩
  first | refine ⟨_,.inl (SqL.of e1),?_⟩ | refine ⟨_,rfl,_,.inl (SqL.of e1),?_⟩
  have la:=ga.len
  have lp:=DS (hst hg)
  rw [z0]
  by_cases h2:ps.length<2
  ·rw [if_pos (zE (by lia))]
   exact ⟨by decide,kF hg h2 _ s1⟩
  ·rw [if_neg (fun z=>h2 (by have:=zH z;lia))]
   exact k hg (by lia) D H1 as n1 s1 e1 ga
theorem N6:AJ ["self","places"] ["self","places"] (AF EE):=by walk_at "SC"
noncomputable def N4 {w:World}{K:W.Frag}{mg:Str→Option Value}(T:Tx w K mg):Sp:=fun vs H Q E=>∃ (b S P:Addr) (ow:List Addr) (gs:List G) (past:List (List G)) (l:Addr) (ps:List Int),vs=[.ref b,.ref l]∧Bch T.AK H b S P ow gs past∧SqL K H l (ps.map V.int)∧ps.length<4000∧(Bs ps→∀ H',AG H H'→E (T.err .badlist) none H')∧(¬ Bs ps→∀ p∈ps,p∈AU gs)∧(¬ Bs ps→∀ D H' sg x,AG H H'→sg.Perm (B4 gs ps)→Asc sg→XT sg x→Enc H' x (.ref D)→Q (.ref D) H')
theorem DK (T:Tx w K mg):Aa P w K mg base (CXE P w) 9 T.Hj T.GU ["self","places"] (N4 T):=by
 refine T.BE.F.okX N6 (fun _ _ _ _ h=>by walk_at "LN") ?_
 ·walk_at "I2"
  obtain ⟨b,S,P,ow,gs,past,l,ps,rfl,hb,hl,h4,kE,hst,k⟩:=h
  refine ⟨_,(AE (AI (pcl T.IN (N7 T) hr AR (AA (Aj (pv 0) T.AQ T.Ba.mt (FV T) (hr.mono (by decide)) T.Ba.b .nil Aw (AA (pv 1) AB)) AB)))),?_⟩
  obtain ⟨dx,eb⟩:=hb.at_
  delta Ux
  refine ⟨dx,_,eb,rfl,b,S,P,ow,gs,past,l,ps,rfl,hb,hl,h4,kE,hst,fun hg D H1 as n1 s1 e1 ga=>?_⟩
  have hs:=hst hg
  have lp:=DS hs
  exact ⟨D,as,B4 gs ps,rfl,SqL.of e1,ga,by show (AU _).Nodup;rw [Bp hs];exact Classical.byContradiction fun z=>hg (.inr (.inr z)),by rw [lp];exact qI fun z=>hg (.inr (.inl z)),fun z=>hg (.inl (by rw [← Bp hs,z];rfl)),fun g hg=>hb.std.ok g (BX hg),fun D2 H2 sg x s2 pm ac an en=>k hg D2 H2 sg x (s1.trans s2) pm ac an en⟩
theorem Mf:AJ ["self","places"] ["self","places"] (AF DB):=by walk_at "SC"
noncomputable def NA {w:World}{K:W.Frag}{mg:Str→Option Value}(T:Tx w K mg):Sp:=fun vs H Q E=>∃ (b S P:Addr) (ow:List Addr) (gs:List G) (past:List (List G)) (l:Addr) (ps:List Int),vs=[.ref b,.ref l]∧Bch T.AK H b S P ow gs past∧SqL K H l (ps.map V.int)∧ps.length<4000∧(Bs ps→∀ H',AG H H'→E (T.err .badlist) none H')∧(¬ Bs ps→∀ p∈ps,p∈AU gs)∧(¬ Bs ps→ps.length<2→∀ H',AG H H'→E (T.err .few) none H')∧(¬ Bs ps→2≤ps.length→∀ D H' sg x,AG H H'→sg.Perm (B4 gs ps)→Asc sg→TB id sg sg x→Enc H' x (.ref D)→Q (.ref D) H')
theorem FY (T:Tx w K mg):Aa P w K mg base (CXE P w) 8 T.Gh T.FN ["self","places"] (NA T):=by
 refine T.Bc.F.okX Mf (fun _ _ _ _ h=>by walk_at "LN") ?_
 ·walk_at "I2"
  obtain ⟨b,S,P,ow,gs,past,l,ps,rfl,hb,hl,h4,kE,hst,kF,k⟩:=h
  refine ⟨_,(AE (AI (pcl T.Gs (Ml T) hr AR (AA (Aj (pv 0) T.AQ T.A9.mt (C7 T) (hr.mono (by decide)) T.A9.b .nil Aw (AA (pv 1) AB)) AB)))),?_⟩
  obtain ⟨dx,eb⟩:=hb.at_
  delta Ux
  refine ⟨dx,_,eb,rfl,b,S,P,ow,gs,past,l,ps,rfl,hb,hl,h4,kE,hst,kF,fun hg h2 D H1 as n1 s1 e1 ga=>?_⟩
  have hs:=hst hg
  have lp:=DS hs
  exact ⟨D,as,B4 gs ps,rfl,SqL.of e1,ga,by show (AU _).Nodup;rw [Bp hs];exact Classical.byContradiction fun z=>hg (.inr (.inr z)),by lia,by rw [lp];exact qI fun z=>hg (.inr (.inl z)),fun g hg=>hb.std.ok g (BX hg),fun D2 H2 sg x s2 pm ac an en=>k hg h2 D2 H2 sg x (s1.trans s2) pm ac an en⟩
theorem NY:AJ ["self","places"] ["self","places"] (AF DV):=by walk_at "SC"
noncomputable def M2 {w:World}{K:W.Frag}{mg:Str→Option Value}(T:Tx w K mg):Sp:=fun vs H Q E=>∃ (b S P:Addr) (ow:List Addr) (gs:List G) (past:List (List G)) (l:Addr) (ps:List Int),vs=[.ref b,.ref l]∧Bch T.AK H b S P ow gs past∧SqL K H l (ps.map V.int)∧ps.length<4000∧(Bs ps→∀ H',AG H H'→E (T.err .badlist) none H')∧(¬ Bs ps→∀ p∈ps,p∈AU gs)∧(¬ Bs ps→ps.length<2→∀ H',AG H H'→E (T.err .few) none H')∧(¬ Bs ps→2≤ps.length→∀ D H' sg x,AG H H'→sg.Perm (B4 gs ps)→Asc sg→TB Kz sg (sg.map CV) x→Enc H' x (.ref D)→Q (.ref D) H')
theorem FO (T:Tx w K mg):Aa P w K mg base (CXE P w) 8 T.GI T.Fe ["self","places"] (M2 T):=by
 refine T.Bb.F.okX NY (fun _ _ _ _ h=>by walk_at "LN") ?_
 ·walk_at "I2"
  obtain ⟨b,S,P,ow,gs,past,l,ps,rfl,hb,hl,h4,kE,hst,kF,k⟩:=h
  refine ⟨_,(AE (AI (pcl T.GN (NM T) hr AR (AA (Aj (pv 0) T.AQ T.A9.mt (C7 T) (hr.mono (by decide)) T.A9.b .nil Aw (AA (pv 1) AB)) AB)))),?_⟩
  obtain ⟨dx,eb⟩:=hb.at_
  delta Ux
  refine ⟨dx,_,eb,rfl,b,S,P,ow,gs,past,l,ps,rfl,hb,hl,h4,kE,hst,kF,fun hg h2 D H1 as n1 s1 e1 ga=>?_⟩
  have hs:=hst hg
  have lp:=DS hs
  exact ⟨D,as,B4 gs ps,rfl,SqL.of e1,ga,by show (AU _).Nodup;rw [Bp hs];exact Classical.byContradiction fun z=>hg (.inr (.inr z)),by lia,by rw [lp];exact qI fun z=>hg (.inr (.inl z)),fun g hg=>hb.std.ok g (BX hg),fun D2 H2 sg x s2 pm ac an en=>k hg h2 D2 H2 sg x (s1.trans s2) pm ac an en⟩
theorem Rv:AJ ["self"] ["self"] (AF He):=by walk_at "SC"
noncomputable def Rb {w:World}{K:W.Frag}{mg:Str→Option Value}(T:Tx w K mg):Sp:=fun vs H Q E=>∃ (b S P:Addr) (ow:List Addr) (gs:List G) (past:List (List G)),vs=[.ref b]∧Bch T.AK H b S P ow gs past∧∀ D H' as' rs,H D=none→AG H H'→VV H' D as' rs gs→UU rs→Q (.ref D) H'
theorem Kq (T:Tx w K mg):Aa P w K mg base CX0 9 T.Me T.LJ ["self"] (Rb T):=by
 refine T.C0.F.ok Rv (fun _ _ _ _ h=>by walk_at "LN") ?_
 ·walk_at "I2"
  obtain ⟨b,S,P,ow,gs,past,rfl,hb,k⟩:=h
  refine ⟨_,(AE (AI (pcl T.K6 (Qx T) hr AR (AA (Bm (pv 0) rfl) AB)))),?_⟩
  obtain ⟨dx,eb⟩:=hb.at_
  obtain ⟨as,es,ga⟩:=hb.st
  delta Ux
  refine ⟨_,dx,_,eb,T.AQ,T.Ab,_,rfl,?_⟩
  exact ⟨S,as,gs,rfl,SqL.of es,ga,hb.std.nd,hb.std.len,hb.std.ok,k⟩
theorem RP:AJ ["self"] ["self"] (AF HI):=by walk_at "SC"
noncomputable def RS {w:World}{K:W.Frag}{mg:Str→Option Value}(T:Tx w K mg):Sp:=fun vs H Q E=>∃ (b S P:Addr) (ow:List Addr) (gs:List G) (past:List (List G)),vs=[.ref b]∧Bch T.AK H b S P ow gs past∧LM.Tbl H Cq D0 O8∧((gs.length=0∨12<gs.length)→E (T.err .size) none H)∧(1≤gs.length→gs.length≤12→∀ D H' L q t sg,H L=none→CU Cq H H'→LM.Tbl H' Cq D0 O8→Vl H' D gs L q t sg→Ox sg t→Q (.ref D) H')
theorem K9 (T:Tx w K mg):Aa P w K mg base (CXE P w) 10 T.Mr T.Kc ["self"] (RS T):=by
 refine T.Cy.F.okX RP (fun _ _ _ _ h=>by walk_at "LN") ?_
 ·walk_at "I2"
  obtain ⟨b,S,P,ow,gs,past,rfl,hb,tb,kE,k⟩:=h
  refine ⟨_,(AD (Ae (Kn (ptc Bg (AT AW (by rfl) T.BN A0 (AA (Bm (pv 0) rfl) AB)) AC) (Fz (ptc IC (AT AW (by rfl) T.BN A0 (AA (Bm (pv 0) rfl) AB)) (DX (v:=.int (12)) (by rfl) T.RM T.Rj)))).pt (AE (A1 C4 rfl T.Ug (by rfl) T.Oj (AA AN AB)))
    AS)
   (AE (AI (pcl T.Mu (Rl T) hr AR (AA (Bm (pv 0) rfl) AB))))),?_⟩
  obtain ⟨dx,eb⟩:=hb.at_
  obtain ⟨as,es,ga⟩:=hb.st
  delta Ux
  have la:=ga.len
  refine ⟨_,dx,_,eb,T.AQ,T.Ab,_,rfl,S,rfl,_,.inl (SqL.of es),?_⟩
  rw [z0,la]
  by_cases h0:gs.length=0
  ·rw [if_pos (zE (by lia))]
   exact ⟨by decide,kE (.inl h0)⟩
  ·rw [if_neg (fun z=>h0 (by have:=zH z;lia))]
   refine ⟨_,dx,_,eb,T.AQ,T.Ab,_,rfl,S,rfl,_,.inl (SqL.of es),?_⟩
   rw [z0,la]
   by_cases h12:12<gs.length
   ·rw [if_pos (zE (by lia))]
    exact ⟨by decide,kE (.inr h12)⟩
   ·rw [if_neg (fun z=>h12 (by have:=zH z;lia))]
    refine ⟨_,dx,_,eb,T.AQ,T.Ab,_,rfl,?_⟩
    exact ⟨S,as,gs,rfl,SqL.of es,ga,hb.std.nd,by lia,by lia,hb.std.ok,tb,k (by lia) (by lia)⟩
theorem Pg:AJ ["self","throw"] ["self","throw"] (AF E3):=by walk_at "SC"
noncomputable def Pf {w:World}{K:W.Frag}{mg:Str→Option Value}(T:Tx w K mg):Sp:=fun vs H Q E=>∃ (b S P:Addr) (ow:List Addr) (gs:List G) (past:List (List G)) (q:Addr) (x y z v:Int),vs=[.ref b,.ref q]∧Bch T.AK H b S P ow gs past∧H q=some (.tup [.int x,.int y,.int z,.int v])∧(PJ x y z v→E (T.err .badthrow) none H)∧(¬ PJ x y z v→∀ D H',H D=none→AG H H'→H' D=some (.lst ((AU (gs.filter (Qf x y z v))).map V.int))→Q (.ref D) H')
theorem IF (T:Tx w K mg):Aa P w K mg base (CXE P w) 6 T.JU T.IP ["self","throw"] (Pf T):=by
 refine T.CF.F.okX Pg (fun _ _ _ _ h=>by walk_at "LN") ?_
 ·walk_at "I2"
  obtain ⟨b,S,P,ow,gs,past,q,x,y,z,v,rfl,hb,hq,kE,k⟩:=h
  refine ⟨_,(AD (A5 (pcl T.KQ (Qz T) hr Aw (AA (pv 1) AB)))
   (AE (AI (pcl T.Dv (GX T) hr AR (AA (pv 1) (AA (Bm (pv 0) rfl) AB)))))),?_⟩
  obtain ⟨dx,eb⟩:=hb.at_
  obtain ⟨as,es,ga⟩:=hb.st
  delta Ux
  refine ⟨q,x,y,z,v,rfl,hq,kE,fun nb=>?_⟩
  refine ⟨_,dx,_,eb,T.AQ,T.Ab,_,rfl,?_⟩
  exact ⟨q,S,x,y,z,v,as,gs,rfl,hq,nb,SqL.of es,ga,hb.std.len,hb.std.ok,k nb⟩
theorem RE:AJ ["text"] ["text"] (AF Fl):=by walk_at "SC"
noncomputable def Wf (c:Nat):Bool:=decide (48≤c∧c≤57)
theorem cm {c:Nat}:decide (c∈[48,49,50,51,52,53,54,55,56,57])=Wf c:=by
 unfold Wf
 refine decide_eq_decide.mpr ?_
 simp only [zF,zf,or_false]
 omega
theorem Z6 {l:List Nat}:(l.map Wf).all id=decide (∀ c∈l,48≤c∧c≤57):=by
 rw [qZ,List.all_map,qW,decide_eq_true_eq]
 exact ⟨fun h c hc=>zH (h c hc),fun h c hc=>zE (h c hc)⟩
theorem am {l:List Nat}(h:∀ c∈l,c<128):(tx l).cps.all (·<128)=true:=by
 show l.toArray.all (·<128)=true
 rw [List.all_toArray,qW]
 exact fun c hc=>zE (h c hc)
theorem cW {l:List Nat}{i:Nat}(h:i<l.length):sg1 (tx l) i = .str (tx [l[i]]):=by
 unfold sg1
 congr 2
 show #[l.toArray.getD i 0]=#[l[i]]
 rw [zg,List.getElem?_toArray,z9 h]
 rfl
theorem txz {l:List Nat}(h:l.length≤1000000):(tx l).length≤sizeLine:=by rw [AY,PySem.sizeLine_eq];lia
noncomputable def QM (K:W.Frag):Sp:=fun vs H Q _=>∃ l:List Nat,vs=[.str (tx l)]∧(∀ c∈l,c<128)∧l.length≤100000∧∀ H',AG H H'→Q (.bl (decide (1≤l.length∧l.length≤9∧∀ c∈l,48≤c∧c≤57))) H'
theorem RI (T:Tx w K mg):Aa P w K mg base CX0 1 T.LG T.Jm ["text"] (QM K):=by
 refine T.K2.F.ok RE (fun _ _ _ _ h=>by walk_at "LN") ?_
 ·walk_at "I2"
  obtain ⟨l,rfl,asc,hz,k⟩:=h
  refine ⟨_,(AD (Ae (Kn (ptc E7 (AT Mw (by rfl) T.BN A0 (AA (pv 0) AB)) AC) (Fz (ptc IC (AT Mw (by rfl) T.BN A0 (AA (pv 0) AB)) (DX (v:=.int (9)) (by rfl) T.QP T.QI)))).pt (AE (AI Jb))
    AS)
   (AE (AI (AT (UV (by rfl)) (by rfl) T.bQ ZA (AA (Bj rfl (⟨rfl,by decide +kernel,by decide +kernel,by decide +kernel,rfl,by decide +kernel,by with_unfolding_all rfl,by rfl,by rfl,by rfl⟩:Ar _ _ "sign" [] []) (fb (pv 0)) (fun _ _ _ _  => (TV XH (pv 0) (DX (v:=.str "0123456789") (by rfl) T.X3 T.XM) (by with_unfolding_all rfl))) (fun _ _ _ _=>BJ)) AB))))),?_⟩
  walk_at "Q"
  delta Ux
  have hz2:(tx l).length≤sizeLine:=txz (by lia)
  refine ⟨hz2,?_⟩
  rw [AY] at hz2 ⊢
  by_cases h1:l.length<1
  ·rw [if_pos (zE (by lia))]
   rw [zh (by lia)] at k
   exact k _ (AG.refl _)
  rw [if_neg (fun z=>h1 (by have:=zH z;lia))]
  refine ⟨hz2,?_⟩
  by_cases h9:9<l.length
  ·rw [if_pos (zE (by lia))]
   rw [zh (by lia)] at k
   exact k _ (AG.refl _)
  rw [if_neg (fun z=>h9 (by have:=zH z;lia))]
  walk_at "NX"
  delta iStr
  refine ⟨am asc,fun D nD=>?_⟩
  refine YQ (fun i ys H'=>AG H H'∧H' D=some (.lst ys)∧ys=((l.take i).map Wf).map V.bl) ⟨Ak nD,AM,rfl⟩ ?_ ?_
  ·rintro i ys H1 hi hy ⟨s1,e1,e2⟩
   have hi:i<l.length:=hi
   have es:(tx l).cps.size=l.length:=zQ ..
   rw [cW hi]
   delta Ux
   rw [o_fig,cN,cm]
   refine Mj.of (by rw [es];exact hz2) (by rw [es];exact hi) hy e1 ⟨s1.updFresh nD,AM,?_⟩
   rw [e2,zS hi,zc,zc]
   rfl
  ·rintro ys H1 hy ⟨s1,e1,e2⟩
   have es:(tx l).cps.size=l.length:=zQ ..
   rw [es,zj] at e2
   rw [e2] at e1
   refine ⟨_,SqL.of e1,?_⟩
   rw [Z6]
   have:=k _ s1
   rw [show decide (1≤l.length∧l.length≤9∧∀ c∈l,48≤c∧c≤57)=decide (∀ c∈l,48≤c∧c≤57) from decide_eq_decide.mpr ⟨fun z=>z.2.2,fun z=>⟨by lia,by lia,z⟩⟩] at this
   exact this
theorem FB:AJ ["text","figures"] ["text"] (AF F1):=by walk_at "SC"
theorem YL:Str.ofString "0"=tx [48]:=by rfl
theorem Z9:Str.ofString "-"=tx [45]:=by rfl
theorem tyS {K:W.Frag}{x:Str}{H:Hp}:tyV K "str" (.str x) H:=rfl
noncomputable def Qc {w:World}{K:W.Frag}{mg:Str→Option Value}(T:Tx w K mg):Sp:=fun vs H Q E=>∃ l:List Nat,vs=[.str (tx l)]∧(∀ c∈l,c<128)∧l.length≤100000∧(rdN l=none→∀ H',AG H H'→E (T.err .badrow) none H')∧∀ n,rdN l=some n→∀ H',AG H H'→Q (.int n) H'
theorem C1 (T:Tx w K mg):Aa P w K mg base (CXE P w) 2 T.LW T.Im ["text"] (Qc T):=by
 refine T.BS.F.okX FB (fun _ _ _ _ h=>by walk_at "LN") ?_
 ·walk_at "I2"
  obtain ⟨l,rfl,asc,hz,kE,k⟩:=h
  refine ⟨_,(AD (Ae (ptc Bg (pv 0) AN) (AE (AI AC))
    AS)
   (AD (pst 1 FB (pv 0))
   (AD (Ae (EC (CY PySem.F.plainAttrs_str PySem.F.slot_str_startswith PySem.F.type_str_startswith Sf (pv 0) (AA AN AB))) (AE (pst 1 FB (Ct ek (pv 0) (EK AC) Eg)))
    AS)
   (AD (Ae (Kn (La (EC (pcl T.K2 (RI T) hr AR (AA (pv 1) AB)))) (Fz (EC (CY PySem.F.plainAttrs_str PySem.F.slot_str_startswith PySem.F.type_str_startswith Sf (pv 1) (AA AN AB))))).pt (AE (A1 C4 rfl T.Mn (by rfl) T.IY (AA AN AB)))
    AS)
   (AE (AI (Al Rz (by rfl) T.bA ZW (AA (pv 0) AB)))))))),?_⟩
  have hz2:(tx l).length≤sizeLine:=txz (by lia)
  walk_at "Q"
  delta Ux
  rw [YL]
  by_cases h0:l=[48]
  ·rw [if_pos (zE (by rw [h0]))]
   exact k 0 (by unfold rdN;rw [if_pos h0]) _ (AG.refl _)
  rw [if_neg (fun z=>h0 (Ti.mp (zH z)))]
  walk_at "NX"
  walk_at "Q"
  delta Ux
  walk_at "NX"
  walk_at "Q"
  have bl:(bare l).length≤l.length:=by
   unfold bare
   split
   ·rw [zo];lia
   ·lia
  have bm:∀ c∈bare l,c∈l:=fun c hc=>by
   unfold bare at hc
   split at hc
   ·exact List.mem_of_mem_drop hc
   ·exact hc
  have rest:M [some (.str (tx l)),some (.str (tx (bare l)))] H:=by
   refine hM _ _ ?_
   clear hM M
   walk_at "Q"
   delta Ux
   refine ⟨bare l,rfl,fun c hc=>asc c (bm c hc),by lia,fun H1 s1=>⟨_,rfl,?_⟩⟩
   by_cases hf:1≤(bare l).length∧(bare l).length≤9∧∀ c∈bare l,48≤c∧c≤57
   ·rw [zE hf,if_neg (by decide)]
    delta tBM TD
    refine ⟨tyS,?_⟩
    rw [YL,P5]
    by_cases hh:(bare l).head? = some 48
    ·rw [if_pos (by rw [hh];rfl)]
     exact ⟨by decide,kE (by unfold rdN;rw [if_neg h0,if_neg (fun z=>z.2.2.2 hh)]) _ s1⟩
    ·rw [if_neg (fun z=>hh (by simpa using z))]
     walk_at "NX"
     delta Ux
     have hr:rdN l=some (if Rn l then -(NumText.digitsVal (bare l):Int) else NumText.digitsVal (bare l)):=by
      unfold rdN
      rw [if_neg h0,if_pos ⟨hf.1,hf.2.1,hf.2.2,hh⟩]
     have hb0:bare l≠[]:=fun z=>by rw [z] at hf;exact absurd hf.1 (by simp)
     refine ⟨_,?_,by rw [AY];have:=hf.2.1;unfold bare at this;split at this<;>(try rw [zo] at this)<;>lia,k _ hr _ s1⟩
     by_cases hn:Rn l=true
     ·rw [if_pos hn]
      have e:(tx l).cps.toList=45::bare l:=by
       show l=_
       unfold bare
       rw [if_pos hn]
       unfold Rn at hn
       cases l with
       | nil=>cases hn
       | cons a r =>
        have:a=45:=by simpa using hn
        rw [this]
        rfl
      exact intText_neg e hf.2.2 hb0 (by rw [AY];have:l.length=(bare l).length+1:=congrArg List.length e;lia)
     ·rw [if_neg hn]
      have e:bare l=l:=by unfold bare;rw [if_neg hn]
      have h2:=hf.2.2
      rw [e] at h2 hb0 ⊢
      exact intText_digits (x:=tx l) h2 hb0 (by rw [AY];rw [e] at hf;lia)
   ·rw [zh hf,if_pos (by decide)]
    exact ⟨by decide,kE (by unfold rdN;rw [if_neg h0,if_neg (fun z=>hf ⟨z.1,z.2.1,z.2.2.1⟩)]) _ s1⟩
  clear hM
  delta tBM TD
  refine ⟨tyS,?_⟩
  rw [Z9,P5]
  by_cases hn:Rn l=true
  ·have eb:bare l=l.drop 1:=by unfold bare;rw [if_pos hn]
   rw [eb] at rest
   unfold Rn at hn
   rw [if_pos hn]
   refine ⟨_,rfl,hz2,?_⟩
   rw [show (some 1:Option Int)=some ((1:Nat):Int) from rfl,VR]
   exact rest
  ·have eb:bare l=l:=by unfold bare;rw [if_neg hn]
   rw [eb] at rest
   unfold Rn at hn
   rw [if_neg hn]
   exact rest
theorem GV:AJ ["text","parts"] ["text"] (AF ED):=by walk_at "SC"
theorem o_sl:Str.ofString "/"=tx [47]:=by rfl
theorem Jj {c:Nat}:∀ {l:List Nat} {p:List Nat},p∈B8 c l→(∀ x∈p,x∈l)∧p.length≤l.length
 | [],p,h=>by
  rw [zI.mp h]
  exact ⟨fun _ z=>z,zL _⟩
 | a::r,p,h=>by
  unfold B8 at h
  split at h
  ·rcases zF.mp h with z | z
   ·rw [z];exact ⟨fun _ z=>absurd z (by simp),zr _⟩
   ·have:=Jj z
    exact ⟨fun x hx=>zK _ (this.1 x hx),by rw [zB];lia⟩
  ·split at h
   ·rename_i e
    exact absurd e (Wv _ _)
   ·rename_i q qs e
    have hq:q∈B8 c r:=by rw [e];exact zP
    rcases zF.mp h with z | z
    ·have:=Jj hq
     rw [z]
     refine ⟨fun x hx=>?_,by rw [zB,zB];lia⟩
     rcases zF.mp hx with w | w
     ·rw [w];exact zP
     ·exact zK _ (this.1 x w)
    ·have hp:p∈B8 c r:=by rw [e];exact zK _ z
     have:=Jj hp
     exact ⟨fun x hx=>zK _ (this.1 x hx),by rw [zB];lia⟩
noncomputable def Nf {w:World}{K:W.Frag}{mg:Str→Option Value}(T:Tx w K mg):Sp:=fun vs H Q E=>∃ l:List Nat,vs=[.str (tx l)]∧(∀ c∈l,c<128)∧l.length≤100000∧(rdF l=none→∀ H',AG H H'→E (T.err .badrow) none H')∧∀ x y,rdF l=some (x,y)→∀ D H',H D=none→AG H H'→H' D=some (.tup [.int x,.int y])→Q (.ref D) H'
theorem Gi (T:Tx w K mg):Aa P w K mg base (CXE P w) 3 T.IE T.GJ ["text"] (Nf T):=by
 refine T.EA.F.okX GV (fun _ _ _ _ h=>by walk_at "LN") ?_
 ·walk_at "I2"
  obtain ⟨l,rfl,asc,hz,kE,k⟩:=h
  refine ⟨_,(AD (pst 1 GV (CY PySem.F.plainAttrs_str PySem.F.slot_str_split PySem.F.type_str_split Uj (pv 0) (AA AN AB)))
   (AD (Ae (ptc IC (AT AW (by rfl) T.BN A0 (AA (pv 1) AB)) AC) (AE (A1 C4 rfl T.Mn (by rfl) T.IY (AA AN AB)))
    AS)
   (AD (Ae (ptc Bg (AT AW (by rfl) T.BN A0 (AA (pv 1) AB)) AC) (AE (AI (Ag (AA (pcl T.BS (C1 T) hr Aw (AA (pv 0) AB)) (AA AC AB)))))
    AS)
   (AE (AI (Ag (AA (pcl T.BS (C1 T) hr Aw (AA (pxi AX (pv 1) AC) AB)) (AA (pcl T.BS (C1 T) hr Aw (AA (pxi AX (pv 1) AC) AB)) AB)))))))),?_⟩
  walk_at "Q"
  delta tBM VT
  refine ⟨tyS,l,rfl,47,rfl,by rw [PySem.sizeLine_eq];lia,fun P H1 n1 s1 e1=>?_⟩
  walk_at "NX"
  have lc:=Q0 47 l
  have asp:∀ p∈B8 47 l,(∀ c∈p,c<128)∧p.length≤100000:=fun p hp=>⟨fun c hc=>asc c ((Jj hp).1 c hc),by have:=(Jj hp).2;lia⟩
  have ef:rdF l=match B8 47 l with | [_]=>(rdN l).map fun x=>(x,1) | [a,b]=>(match rdN a,rdN b with | some x,some y=>some (x,y) | _,_=>none) | _=>none:=rfl
  have hne:=Wv 47 l
  generalize B8 47 l=ps at *
  walk_at "Q"
  delta Ux
  refine ⟨_,.inl (SqL.of e1),?_⟩
  rw [z0]
  match ps,hne with
  | [p],_ =>
   rw [if_neg (by simp)]
   walk_at "NX"
   walk_at "Q"
   delta Ux
   refine ⟨_,.inl (SqL.of e1),?_⟩
   rw [if_pos (by simp)]
   refine ⟨l,rfl,asc,hz,fun h H2 s2=>kE (by rw [ef,h];rfl) _ (s1.trans s2),fun n hn H2 s2=>⟨by decide,fun D H3 n3 s3 e3=>?_⟩⟩
   exact k n 1 (by rw [ef,hn];rfl) D H3 (s1.free (s2.free n3)) (s1.trans (s2.trans s3)) e3
  | [p,q],_ =>
   rw [if_neg (by simp)]
   walk_at "NX"
   walk_at "Q"
   delta Ux
   refine ⟨_,.inl (SqL.of e1),?_⟩
   rw [if_neg (by simp)]
   walk_at "NX"
   delta Ux
   have hp:=asp p (by simp)
   have hq:=asp q (by simp)
   refine ⟨_,SqL.of e1,_,rfl,p,rfl,hp.1,hp.2,fun h H2 s2=>kE (by rw [ef];simp only [h]) _ (s1.trans s2),fun x hx H2 s2=>?_⟩
   refine ⟨_,SqL.of (s2.get e1),_,rfl,q,rfl,hq.1,hq.2,fun h H3 s3=>kE (by rw [ef];simp only [hx,h]) _ (s1.trans (s2.trans s3)),fun y hy H3 s3=>⟨by decide,fun D H4 n4 s4 e4=>?_⟩⟩
   exact k x y (by rw [ef];simp only [hx,hy]) D H4 (s1.free (s2.free (s3.free n4))) (s1.trans (s2.trans (s3.trans s4))) e4
  | p::q::r::rs,_ =>
   rw [if_pos (zE (by simp only [zB];lia))]
   exact ⟨by decide,kE (by rw [ef]) _ s1⟩
theorem FW:AJ ["top","bottom","fraction"] ["top","bottom"] (AF DC):=by walk_at "SC"
theorem lgT {i:Int}{n:Nat}(h:i.natAbs<2 ^ n)(hn:0<n)(h2:n≤1900):i.natAbs.log2<1920:=by
 rcases Nat.eq_zero_or_pos i.natAbs with h0 | hp
 ·rw [h0];decide
 ·have:=(Nat.log2_lt (qC hp)).mpr h
  lia
noncomputable def MS (K:W.Frag):Sp:=fun vs H Q _=>∃ t b:Int,vs=[.int t,.int b]∧b≠0∧t.natAbs≤10 ^ 40∧b.natAbs≤10 ^ 40∧∀ x y H',AG H H'→FD t b x y→Q (.str (tx (frT x y))) H'
theorem Fa (T:Tx w K mg):Aa P w K mg base CX0 3 T.GS T.Fi ["top","bottom"] (MS K):=by
 refine T.DO.F.ok FW (fun _ _ _ _ h=>by walk_at "LN") ?_
 ·walk_at "I2"
  obtain ⟨t,b,rfl,hb,ht,hbb,k⟩:=h
  refine ⟨_,(AD (pst 2 FW (pcl T.Ip (Jw T) hr AR (AA (pv 0) (AA (pv 1) AB))))
   (AD (Ae (ptc Bg (pxi AL (pv 2) AC) AC) (AE (AI (Al Ah (by rfl) T.Dh CG (AA (pxi AL (pv 2) AC) AB))))
    AS)
   (AE (AI (CY PySem.F.plainAttrs_str PySem.F.slot_str_join PySem.F.type_str_join BU AN (AA (Bj rfl (⟨rfl,by decide +kernel,by decide +kernel,by decide +kernel,rfl,by decide +kernel,by with_unfolding_all rfl,by rfl,by rfl,by rfl⟩:Ar _ _ "number" [] []) (Nu (pv 2)) (fun _ _ _ _  => (Al Ah (by rfl) T.Dh CG (AA (pv 0) AB))) (fun _ _ _ _=>BJ)) AB)))))),?_⟩
  walk_at "Q"
  delta Ux
  refine ⟨t,b,rfl,hb,Sm.of hbb (by decide +kernel),fun p H1 x y s1 e1 lo=>?_⟩
  walk_at "NX"
  have ax:=lo.absx
  have ay:=lo.absy
  have gx:x.natAbs.log2<1920:=lgT (n:=140) (zk ax (zk ht (by decide +kernel))) (by decide) (by decide)
  have gy:y.natAbs.log2<1920:=lgT (n:=140) (zk ay (zk hbb (by decide +kernel))) (by decide) (by decide)
  have lx:(dec x).length≤42:=TX (k:=41) (by decide) (zk ax (zk ht (by decide +kernel)))
  have ly:(dec y).length≤42:=TX (k:=41) (by decide) (zk ay (zk hbb (by decide +kernel)))
  have kk:=fun H' s=>k x y H' s lo
  unfold frT at kk
  clear lo k
  walk_at "Q"
  delta Ux
  refine ⟨_,SqT.of e1,_,rfl,rfl,?_⟩
  by_cases h1:y=1
  ·rw [if_pos (zE (by rw [h1]))]
   rw [if_pos h1] at kk
   refine ⟨_,SqT.of e1,_,rfl,_,rfl,gx,?_⟩
   rw [BB]
   exact kk _ s1
  rw [if_neg (fun z=>h1 (V.int.inj (zH z)))]
  rw [if_neg h1] at kk
  walk_at "NX"
  delta tBM Ck XY
  refine ⟨tyS,⟨_,SqT.of e1⟩,fun D nD=>?_⟩
  refine J9 (K:=K) (ns:=[x,y]) (.inr ⟨p,rfl,SqT.of e1⟩) (by show 2≤1000000;decide) nD (fun n H2 R hn s2 hR=>?_) fun H2 s2 e2=>?_
  ·have gn:n.natAbs.log2<1920:=by
    simp only [zF,zf,or_false] at hn
    rcases hn with rfl | rfl
    ·exact gx
    ·exact gy
   delta Ux
   refine ⟨gn,?_⟩
   rw [BB]
   exact hR
  ·refine ⟨[47],rfl,_,SqL.of e2,by simp only [zU,List.map_nil,zn,List.sum_nil,zB,zG];lia,?_⟩
   exact kk _ (s1.trans s2)
theorem RN:AJ ["words","many"] ["words","many"] (AF G5):=by walk_at "SC"
noncomputable abbrev OkW (ws:List (List Nat)):Prop:=(∀ p∈ws,(∀ c∈p,c<128)∧p.length≤100000)∧ws.length≤100001
noncomputable def numsOf:List (List Nat)→Option (List Int)
 | []=>some []
 | w::r=>match rdN w with
  | none=>none
  | some n=>(numsOf r).map (n::·)
theorem O4:∀ {ws:List (List Nat)} {w:List Nat},w∈ws→rdN w=none→numsOf ws=none
 | a::r,w,h,e=>by
  unfold numsOf
  rcases zF.mp h with rfl | h
  ·rw [e]
  ·rw [O4 h e]
   cases rdN a<;>rfl
theorem OU:∀ {ws:List (List Nat)} {ns:List Int} {w:List Nat} {n:Int},numsOf ws=some ns→rdN w=some n→numsOf (ws++[w])=some (ns++[n])
 | [],ns,w,n,h,e=>by
  cases (show some []=some ns from h)
  show numsOf [w]=_
  unfold numsOf
  rw [e];rfl
 | a::r,ns,w,n,h,e=>by
  unfold numsOf at h
  cases ha:rdN a with
  | none=>rw [ha] at h;cases h
  | some m =>
   rw [ha] at h
   obtain ⟨ms,h1,h2⟩:=zi.mp h
   show numsOf (a::(r++[w]))=_
   unfold numsOf
   rw [ha,← h2]
   show Option.map _ (numsOf (r++[w]))=_
   rw [OU h1 e];rfl
noncomputable def Ro {w:World}{K:W.Frag}{mg:Str→Option Value}(T:Tx w K mg):Sp:=fun vs H Q E=>∃ (W:Addr) (ws:List (List Nat)) (n:Int),vs=[.ref W,.int n]∧SqL K H W (tvs ws)∧OkW ws∧((ws.length:Int)≠n→E (T.err .badrow) none H)∧((ws.length:Int)=n→Q .non H)
theorem Bx (T:Tx w K mg):Aa P w K mg base (CXE P w) 1 T.NX T.Kh ["words","many"] (Ro T):=by
 refine T.Bl.F.okX RN (fun _ _ _ _ h=>by walk_at "LN") ?_
 ·walk_at "I2"
  obtain ⟨W,ws,n,rfl,hW,ok,kE,k⟩:=h
  refine ⟨_,(AE (Ae (ptc Ib (AT AW (by rfl) T.BN A0 (AA (pv 0) AB)) (pv 1)) (AE (A1 C4 rfl T.Mn (by rfl) T.IY (AA AN AB)))
    AS)),?_⟩
  delta Ux
  refine ⟨_,.inl hW,?_⟩
  rw [z0]
  by_cases h:(ws.length:Int)=n
  ·rw [zE h,if_neg (by decide)]
   exact k h
  ·rw [zh h,if_pos (by decide)]
   exact ⟨by decide,kE h⟩
theorem PB:AJ ["words"] ["words"] (AF FE):=by walk_at "SC"
noncomputable def O7 {w:World}{K:W.Frag}{mg:Str→Option Value}(T:Tx w K mg):Sp:=fun vs H Q E=>∃ (W:Addr) (ws:List (List Nat)),vs=[.ref W]∧SqL K H W (tvs ws)∧OkW ws∧(numsOf ws=none→∀ H',AG H H'→E (T.err .badrow) none H')∧∀ ns,numsOf ws=some ns→∀ D H',H D=none→AG H H'→H' D=some (.lst (ns.map V.int))→Q (.ref D) H'
theorem Cc (T:Tx w K mg):Aa P w K mg base (CXE P w) 3 T.Jv T.IG ["words"] (O7 T):=by
 refine T.CC.F.okX PB (fun _ _ _ _ h=>by walk_at "LN") ?_
 ·walk_at "I2"
  obtain ⟨W,ws,rfl,hW,ok,kE,k⟩:=h
  refine ⟨_,(AE (AI (UY rfl (⟨rfl,by decide +kernel,by decide +kernel,by decide +kernel,rfl,by decide +kernel,by with_unfolding_all rfl,by rfl,by rfl,by rfl⟩:Ar _ _ "word" [] []) (A7 (pv 0)) (fun _ _ _ _ _ _ hp=>(VG (C1 T) (hr.mono (by decide)) (by rfl) T.BS.m T.BS.F.kp T.BS.b .nil hp (AA (pv 0) AB))) (fun _ _ _ _=>BJ)))),?_⟩
  delta C5
  refine ⟨⟨_,hW⟩,fun D nD=>?_⟩
  have hz:=ok.2
  refine KG (xs:=tvs ws) (fun i ys H'=>∃ ns:List Int,ys=ns.map V.int∧AG H H'∧H' D=some (.lst ys)∧numsOf (ws.take i)=some ns) ⟨[],rfl,Ak nD,AM,rfl⟩ (fun _ _ H' _ ⟨_,_,s2,_⟩=>s2.seq hW) ?_ ?_
  ·rintro i v ys H2 hx hy ⟨ns,rfl,s2,e2,hn⟩
   have hi:i<ws.length:=by
    have:=(zC.mp hx).1
    rwa [z0] at this
   have ev:v=V.str (tx ws[i]):=by
    rw [zN,z9 hi] at hx
    exact (zV hx).symm
   subst ev
   have et:ws.take (i+1)=ws.take i++[ws[i]]:=zS hi
   have hm:=zY hi
   delta WI
   refine ⟨ws[i],rfl,(ok.1 _ hm).1,(ok.1 _ hm).2,fun hr H3 s3=>kE (O4 hm hr) _ (s2.trans s3),fun n hr H3 s3=>?_⟩
   rw [z0] at hy ⊢
   refine Mj.of (by rw [PySem.sizeLine_eq];lia) hi (by rw [z0];exact hy) (s3.get e2) ⟨ns++[n],by rw [zc];rfl,(s2.trans s3).updFresh nD,AM,?_⟩
   rw [et]
   exact OU hn hr
  ·rintro ys H2 hy ⟨ns,rfl,s2,e2,hn⟩
   rw [z0,zj] at hn
   exact k ns hn D H2 nD s2 e2
theorem Pc:AJ ["words","many"] ["words","many"] (AF Ey):=by walk_at "SC"
noncomputable def PV {w:World}{K:W.Frag}{mg:Str→Option Value}(T:Tx w K mg):Sp:=fun vs H Q E=>∃ (W:Addr) (ws:List (List Nat)) (n:Int),vs=[.ref W,.int n]∧SqL K H W (tvs ws)∧OkW ws∧((ws.length:Int)≠n∨numsOf ws=none→∀ H',AG H H'→E (T.err .badrow) none H')∧∀ ns,(ws.length:Int)=n→numsOf ws=some ns→∀ D H',H D=none→AG H H'→H' D=some (.lst (ns.map V.int))→Q (.ref D) H'
theorem Br (T:Tx w K mg):Aa P w K mg base (CXE P w) 4 T.Ii T.IK ["words","many"] (PV T):=by
 refine T.BZ.F.okX Pc (fun _ _ _ _ h=>by walk_at "LN") ?_
 ·walk_at "I2"
  obtain ⟨W,ws,n,rfl,hW,ok,kE,k⟩:=h
  refine ⟨_,(AD (A5 (pcl T.Bl (Bx T) hr Aw (AA (pv 0) (AA (pv 1) AB))))
   (AE (AI (pcl T.CC (Cc T) hr Aw (AA (pv 0) AB))))),?_⟩
  delta Ux
  exact ⟨W,ws,n,rfl,hW,ok,fun h=>kE (.inl h) _ (AG.refl _),fun h=>⟨W,ws,rfl,hW,ok,fun z=>kE (.inr z),fun ns hn=>k ns h hn⟩⟩
theorem PX:AJ ["numbers"] ["numbers"] (AF E2):=by walk_at "SC"
theorem KN {n:Int}(h:n.natAbs≤10 ^ 40):n.natAbs.log2<1920:=lgT (n:=140) (zk h (by decide +kernel)) (by decide) (by decide)
theorem Do {n:Int}(h:n.natAbs≤10 ^ 40):(dec n).length≤42:=TX (k:=41) (by decide) (zk h (by decide +kernel))
theorem TJ {n:Int}(h:-1000≤n∧n≤1000):n.natAbs≤10 ^ 40:=zO (show n.natAbs≤1000 by lia) (by decide +kernel)
noncomputable def Pe (K:W.Frag):Sp:=fun vs H Q _=>∃ (a:Addr) (ns:List Int),vs=[.ref a]∧(SqL K H a (ns.map V.int)∨SqT K H a (ns.map V.int))∧(∀ n∈ns,n.natAbs≤10 ^ 40)∧ns.length≤100000∧∀ D H',H D=none→AG H H'→H' D=some (.lst (tvs (ns.map dec)))→Q (.ref D) H'
theorem Bv (T:Tx w K mg):Aa P w K mg base CX0 1 T.Ie T.IB ["numbers"] (Pe K):=by
 refine T.Bf.F.ok PX (fun _ _ _ _ h=>by walk_at "LN") ?_
 ·walk_at "I2"
  obtain ⟨a,ns,rfl,ha,hn,hl,k⟩:=h
  refine ⟨_,(AE (AI (Bj rfl (⟨rfl,by decide +kernel,by decide +kernel,by decide +kernel,rfl,by decide +kernel,by with_unfolding_all rfl,by rfl,by rfl,by rfl⟩:Ar _ _ "number" [] []) (dz (pv 0)) (fun _ _ _ _  => (Al Ah (by rfl) T.Dh CG (AA (pv 0) AB))) (fun _ _ _ _=>BJ)))),?_⟩
  delta iSeq C5 XY
  have go:∀ (J:It) (D:Addr),((∃ a,J=Itl K a∧SqL K H a (ns.map V.int))∨∃ a,J=Itt K a∧SqT K H a (ns.map V.int))→H D=none→Ds (tCB (fun xs H Q=>∃ i,xs=[V.int i]∧i.natAbs.log2<1920∧Q (V.str (Str.ofString (toString i))) H) (JK (Nr 0) Nd)) EM [] J D H fun H'=>Q (V.ref D) H':=fun J D hJ nD=>by
   refine J9 hJ (by lia) nD (fun n H2 R hm s2 hR=>?_) fun H2 s2 e2=>k D H2 nD s2 e2
   delta Ux
   refine ⟨KN (hn n hm),?_⟩
   rw [BB]
   exact hR
  exact ha.imp (fun h=>⟨⟨_,h⟩,fun D nD=>go _ D (.inl ⟨a,rfl,h⟩) nD⟩) fun h=>⟨⟨_,h⟩,fun D nD=>go _ D (.inr ⟨a,rfl,h⟩) nD⟩
theorem P3:AJ ["throw"] ["throw"] (AF GC):=by walk_at "SC"
theorem FD.self {a b x y:Int}(h:FD a b x y)(hb:0<b)(g1:Int.gcd a b=1):x=a∧y=b:=by
 obtain ⟨g,g0,rfl,rfl⟩:=h.ex
 have hy:=h.pos
 have gp:0<g:=by
  rcases Int.lt_or_lt_of_ne g0 with z | z
  ·have:=Int.mul_neg_of_neg_of_pos z hy;lia
  ·exact z
 rw [Int.gcd_mul_left,h.one,Nat.mul_one] at g1
 have:g=1:=by lia
 rw [this,Int.one_mul,Int.one_mul];exact ⟨rfl,rfl⟩
theorem BL {x y:Int}(hx:x.natAbs≤10 ^ 40)(hy:y.natAbs≤10 ^ 40):(frT x y).length≤85:=by
 have:=Do hx
 have:=Do hy
 unfold frT
 split
 ·lia
 ·rw [zD,zB];lia
noncomputable def QZ (K:W.Frag):Sp:=fun vs H Q _=>∃ (q:Addr) (t:Thr),vs=[.ref q]∧SqT K H q t.vs∧0<t.b∧0<t.d∧Int.gcd t.a t.b=1∧Int.gcd t.c t.d=1∧t.a.natAbs≤10 ^ 40∧t.b.natAbs≤10 ^ 40∧t.c.natAbs≤10 ^ 40∧t.d.natAbs≤10 ^ 40∧∀ D H',H D=none→AG H H'→H' D=some (.lst (tvs [frT t.a t.b,frT t.c t.d]))→Q (.ref D) H'
theorem E1 (T:Tx w K mg):Aa P w K mg base CX0 4 T.Kx T.JO ["throw"] (QZ K):=by
 refine T.Dc.F.ok P3 (fun _ _ _ _ h=>by walk_at "LN") ?_
 ·walk_at "I2"
  obtain ⟨q,t,rfl,e,b0,d0,g1,g2,ha,hb,hc,hd,k⟩:=h
  refine ⟨_,(AE (AI (Ao (AA (pcl T.DO (Fa T) hr AR (AA (pxi AL (pv 0) AC) (AA (pxi AL (pv 0) AC) AB))) (AA (pcl T.DO (Fa T) hr AR (AA (pxi AL (pv 0) AC) (AA (pxi AL (pv 0) AC) AB))) AB))))),?_⟩
  delta Ux
  refine ⟨_,e,_,rfl,_,e,_,rfl,t.a,t.b,rfl,by lia,ha,hb,fun x y H1 s1 lo=>?_⟩
  obtain ⟨rfl,rfl⟩:=lo.self b0 g1
  refine ⟨_,s1.tup e,_,rfl,_,s1.tup e,_,rfl,t.c,t.d,rfl,by lia,hc,hd,fun x y H2 s2 lo2=>?_⟩
  obtain ⟨rfl,rfl⟩:=lo2.self d0 g2
  exact ⟨by decide,fun D H3 n3 s3 e3=>k D H3 (s1.free (s2.free n3)) (s1.trans (s2.trans s3)) e3⟩
theorem Sx:AJ ["gate"] ["gate"] (AF JZ):=by walk_at "SC"
noncomputable def Sa (p f h:Int):List Nat:=Ay [32] [[103,97,116,101],dec p,dec f,dec h]
theorem HK:Str.ofString " "=tx [32]:=by rfl
theorem fw:Str.ofString "gate"=tx [103,97,116,101]:=by rfl
noncomputable def T0 (K:W.Frag):Sp:=fun vs H Q _=>∃ (a:Addr) (p f h:Int),vs=[.ref a]∧H a=some (.tup [.int p,.int f,.int h])∧p.natAbs≤10 ^ 40∧f.natAbs≤10 ^ 40∧h.natAbs≤10 ^ 40∧∀ H',AG H H'→Q (.str (tx (Sa p f h))) H'
theorem Ec (T:Tx w K mg):Aa P w K mg base CX0 2 T.Oe T.M6 ["gate"] (T0 K):=by
 refine T.Dm.F.ok Sx (fun _ _ _ _ h=>by walk_at "LN") ?_
 ·walk_at "I2"
  obtain ⟨a,p,f,h,rfl,ea,hp,hf,hh,k⟩:=h
  refine ⟨_,(AE (AI (CY PySem.F.plainAttrs_str PySem.F.slot_str_join PySem.F.type_str_join BU AN (AA (AH B7 (Ao (AA AN AB)) (pcl T.Bf (Bv T) hr AR (AA (pv 0) AB))) AB)))),?_⟩
  delta tBM Ck
  refine ⟨tyS,by decide,fun D1 H1 n1 s1 e1=>⟨a,[p,f,h],rfl,.inr (SqT.of (s1.get ea)),fun n hn=>?_,by show 3≤100000;decide,fun D2 H2 n2 s2 e2=>?_⟩⟩
  ·simp only [zF,zf,or_false] at hn
   rcases hn with rfl | rfl | rfl<;>assumption
  refine ⟨_,rfl,_,s2.get e1,_,e2,by rw [PySem.sizeLine_eq];show 1+3≤_;decide,fun D3 H3 n3 s3 e3=>⟨[32],HK,[[103,97,116,101],dec p,dec f,dec h],SqL.of (by rw [fw] at e3;exact e3),?_,k _ (s1.trans (s2.trans s3))⟩⟩
  have:=Do hp
  have:=Do hf
  have:=Do hh
  simp only [zU,List.map_nil,zn,List.sum_nil,zB,zG]
  lia
theorem RW:AJ ["many"] ["many"] (AF HZ):=by walk_at "SC"
noncomputable def Ve (n:Int):List Nat:=Ay [32] [[100,101,101,100,115],dec n]
theorem Yb:Str.ofString "deeds "=tx [100,101,101,100,115,32]:=by rfl
noncomputable def RU (K:W.Frag):Sp:=fun vs H Q _=>∃ (n:Int),vs=[.int n]∧n.natAbs≤10 ^ 40∧Q (.str (tx (Ve n))) H
theorem F3 (T:Tx w K mg):Aa P w K mg base CX0 1 T.NO T.KR ["many"] (RU K):=by
 refine T.EL.F.ok RW (fun _ _ _ _ h=>by walk_at "LN") ?_
 ·walk_at "I2"
  obtain ⟨n,rfl,hn,k⟩:=h
  refine ⟨_,(AE (AI (aU (pv 0)))),?_⟩
  delta bH
  rw [BB,Yb]
  have:=Do hn
  refine ⟨KN hn,by rw [AY,AY,PySem.sizeLine_eq];simp only [zB,zG];lia,?_⟩
  rw [A4]
  exact k
theorem Bw:AJ ["told","ends","words","end","place"] ["told","ends"] (AF Ev):=by walk_at "SC"
noncomputable def XS (ns:List Int):List Nat:=Ay [32] ([98,97,114]::ns.map dec)
noncomputable def tlW:List (List Nat)→List Int→List (List Nat)
 | e::es,p::ps=>e::dec p::tlW es ps
 | _,_=>[]
noncomputable def Ql (t:Thr)(es:List (List Nat))(ps:List Int):List Nat:=Ay [32] ([116,104,114,111,119]::frT t.a t.b::frT t.c t.d::tlW es ps)
theorem WZ:Str.ofString "throw"=tx [116,104,114,111,119]:=by rfl
theorem o_bar:Str.ofString "bar"=tx [98,97,114]:=by rfl
theorem RG:∀ {es:List (List Nat)} {ps:List Int} {e:List Nat} {p:Int} {i:Nat},es[i]? = some e→ps[i]? = some p→tlW (es.take (i+1)) (ps.take (i+1))=tlW (es.take i) (ps.take i)++[e,dec p]
 | x::es,y::ps,e,p,0,h1,h2=>by cases h1;cases h2;cases es<;>cases ps<;>rfl
 | x::es,y::ps,e,p,i+1,h1,h2=>by
  show x::dec y::tlW (es.take (i+1)) (ps.take (i+1))=x::dec y::tlW (es.take i) (ps.take i)++[e,dec p]
  rw [RG (es:=es) (ps:=ps) (i:=i) h1 h2];rfl
theorem Pl:∀ (es:List (List Nat)) (ps:List Int),(tlW es ps).length≤2*es.length
 | [],[]=>by decide
 | [],_::_=>by simp [tlW]
 | _::_,[]=>by simp [tlW]
 | _::es,_::ps=>by
  have:=Pl es ps
  show (tlW es ps).length+1+1≤2*(es.length+1)
  lia
theorem Tj:∀ {es:List (List Nat)} {ps:List Int},(∀ e∈es,e.length≤4)→(∀ p∈ps,p.natAbs≤10 ^ 40)→((tlW es ps).map fun x=>x.length+1).sum≤48*es.length
 | [],[],_,_=>by decide
 | [],_::_,_,_=>by simp [tlW]
 | _::_,[],_,_=>by simp [tlW]
 | e::es,p::ps,h1,h2=>by
  have a:=h1 e (by simp)
  have b:=Do (h2 p (by simp))
  have:=Tj (es:=es) (ps:=ps) (fun x h=>h1 x (by simp [h])) (fun x h=>h2 x (by simp [h]))
  show (e.length+1)+((dec p).length+1+((tlW es ps).map fun x=>x.length+1).sum)≤48*(es.length+1)
  lia
theorem ES {ns:List Int}(h:∀ n∈ns,n.natAbs≤10 ^ 40):((ns.map dec).map List.length).sum≤42*ns.length:=by
 induction ns with
 | nil=>decide
 | cons n r ih =>
  have:=ih fun x hx=>h x (by simp [hx])
  have:=Do (h n (by simp))
  rw [zU,zU,zn,zB];lia
noncomputable def PH (K:W.Frag):Sp:=fun vs H Q _=>∃ (D N q:Addr) (es:List (List Nat)),vs=[.ref D,.ref N]∧H N=some (.tup (tvs es))∧es.length≤2∧(∀ e∈es,e.length≤4) ∧
 ((∃ ns:List Int,H D=some (.tup [.str "bar",.ref q])∧H q=some (.tup (ns.map V.int))∧ns.length≤3∧(∀ n∈ns,n.natAbs≤1000)∧∀ H',AG H H'→Q (.str (tx (XS ns))) H') ∨
  ∃ (t:Thr) (ps:List Int),H D=some (.tup (.str "throw"::.ref q::ps.map V.int))∧H q=some (.tup t.vs)∧OkT t∧ps.length=es.length∧(∀ n∈ps,n.natAbs≤1000)∧∀ H',AG H H'→Q (.str (tx (Ql t es ps))) H')
theorem EB (T:Tx w K mg):Aa P w K mg base CX0 5 T.Ik T.Hu ["told","ends"] (PH K):=by
 refine T.Cs.F.ok Bw (fun _ _ _ _ h=>by walk_at "LN") ?_
 ·walk_at "I2"
  obtain ⟨D,N,q,es,rfl,eN,le,l4,cc⟩:=h
  refine ⟨_,(AD (Ae (ptc Bg (pxi AL (pv 0) AC) AN) (AE (AI (CY PySem.F.plainAttrs_str PySem.F.slot_str_join PySem.F.type_str_join BU AN (AA (AH B7 (Ao (AA AN AB)) (pcl T.Bf (Bv T) hr AR (AA (pxi AL (pv 0) AC) AB))) AB))))
    AS)
   (AD (pst 2 Bw (AH B7 (Ao (AA AN AB)) (pcl T.Dc (E1 T) hr AR (AA (pxi AL (pv 0) AC) AB))))
   (AD (Bo PassesOwn.never rfl (jG (by rfl) T.z_zip (AA (pv 1) (AA (Ct eQ (pv 0) (EK AC) Eg) AB))) (TR (n:=2) rfl (Dr (pgn 3 Bw) (Dr (pgn 4 Bw) Pp)))
    (AE (pst 2 Bw (AH B7 (pv 2) (Ao (AA (pv 3) (AA (Al Ah (by rfl) T.Dh CG (AA (pv 4) AB)) AB)))))))
   (AE (AI (CY PySem.F.plainAttrs_str PySem.F.slot_str_join PySem.F.type_str_join BU AN (AA (pv 2) AB))))))),?_⟩
  walk_at "Q"
  delta Ux
  rcases cc with ⟨ns,eD,eq,l3,bd,k⟩ | ⟨t,ps,eD,eq,ok,lp,bd,k⟩
  ·refine ⟨_,SqT.of eD,_,rfl,rfl,?_⟩
   rw [if_pos (by rw [zE rfl])]
   delta tBM Ck
   refine ⟨tyS,by decide,fun D1 H1 n1 s1 e1=>⟨_,SqT.of (s1.get eD),_,rfl,q,ns,rfl,.inr (SqT.of (s1.get eq)),fun n hn=>by have:=bd n hn;lia,by lia,fun D2 H2 n2 s2 e2=>⟨_,rfl,_,s2.get e1,_,e2,by rw [z0,z0,PySem.sizeLine_eq];show 1+_≤_;lia,fun D3 H3 n3 s3 e3=>⟨[32],HK,[98,97,114]::ns.map dec,SqL.of (by rw [o_bar] at e3;exact e3),?_,k _ (s1.trans (s2.trans s3))⟩⟩⟩⟩
   have hs:((ns.map dec).map List.length).sum≤42*ns.length:=ES fun n hn=>by have:=bd n hn;lia
   rw [zU,zn]
   simp only [zB,zG,z0]
   lia
  ·refine ⟨_,SqT.of eD,V.str "throw",Cd (j:=0) rfl,rfl,?_⟩
   rw [if_neg (by decide)]
   walk_at "NX"
   walk_at "Q"
   delta Ux
   refine ⟨by decide,fun D1 H1 n1 s1 e1=>⟨_,SqT.of (s1.get eD),_,Cd (j:=1) rfl,q,t,rfl,SqT.of (s1.get eq),ok.b0,ok.d0,ok.g1,ok.g2,by have:=ok.a1;lia,by have:=ok.b1;lia,by have:=ok.c1;lia,by have:=ok.d1;lia,fun D2 H2 n2 s2 e2=>⟨_,rfl,_,s2.get e1,_,e2,by rw [PySem.sizeLine_eq];show 1+2≤_;lia,fun W H3 n3 s3 e3=>?_⟩⟩⟩
   replace eD:=(s1.trans (s2.trans s3)).get eD
   replace eN:=(s1.trans (s2.trans s3)).get eN
   have n0:H W=none:=s1.free (s2.free n3)
   have s4:=s1.trans (s2.trans s3)
   replace e3:H3 W=some (.lst (tvs ([116,104,114,111,119]::frT t.a t.b::frT t.c t.d::tlW (es.take 0) (ps.take 0)))):=e3.trans (by rw [WZ];rfl)
   clear s1 s2 s3 e1 e2 n1 n2 n3
   walk_at "NX"
   walk_at "Q"
   have ec:Nh (V.str "throw"::V.ref q::ps.map V.int) (some 2) none=ps.map V.int:=(KB (i:=2)).trans rfl
   refine ⟨_,rfl,_,rfl,2,rfl,D,_,rfl,SqT.of eD,fun z=>?_,fun P nP=>⟨N,P,rfl,⟨_,SqT.of ((Ak nP).get eN)⟩,⟨_,SqT.of AM⟩,aW (xs:=tvs es) (ys:=ps.map V.int) (fun i σ H'=>∃ (o3 o4:Option V) (W:Addr),σ=[some (.ref D),some (.ref N),some (.ref W),o3,o4]∧AG H H'∧H' N=some (.tup (tvs es))∧H' P=some (.tup (ps.map V.int))∧H' W=some (.lst (tvs ([116,104,114,111,119]::frT t.a t.b::frT t.c t.d::tlW (es.take i) (ps.take i))))) (by rw [z0,z0,lp]) ⟨none,none,W,rfl,s4.upd nP,(Ak nP).get eN,by rw [AM,ec],(Ak nP).get e3⟩ (fun _ _ _ _ zq=>by obtain ⟨_,_,_,_,_,a,b,_⟩:=zq;exact ⟨SqT.of a,SqT.of b⟩) ?_ ?_⟩⟩
   ·have z:=z.1
    rw [show (some (2:Int))=some ((2:Nat):Int) from rfl,HT.sIx_nat] at z
    simp only [zB,z0] at z
    lia
   ·clear e3 s4 n0 ec
    rintro i x y σ H1 c H2 hx hy ⟨o3,o4,W,rfl,s1,eN,eP,eW⟩ nc s2 ec
    rw [zN,zi] at hx hy
    obtain ⟨e,he,rfl⟩:=hx
    obtain ⟨p,hp,rfl⟩:=hy
    have bp:=bd p (zW hp)
    refine ⟨c,_,rfl,SqT.of ec,rfl,?_⟩
    delta Ux
    refine ⟨KN (by lia),by decide,fun c1 H3 n3 s3 e3=>⟨_,s3.get (s2.get eW),_,e3,?_,fun W2 H4 n4 s4 e4=>?_⟩⟩
    ·have:(tlW (es.take i) (ps.take i)).length≤2*es.length:=zO (Pl _ _) (by have:=List.length_take_le i es;have:=List.length_take_le' i es;lia)
     simp only [z0,zB,zG,PySem.sizeLine_eq]
     lia
    ·have s5:=s2.trans (s3.trans s4)
     exact ⟨⟨_,rfl⟩,⟨_,rfl⟩,s1.trans s5,s5.get eN,s5.get eP,e4.trans (by rw [RG he hp,BB,zc];rfl)⟩
   ·clear e3 s4 n0 ec
    rintro σ H1 ⟨o3,o4,W,rfl,s1,eN,eP,eW⟩
    refine hM _ _ ?_
    clear hM M
    delta tBM Ck
    rw [show (tvs es).length=es.length from z0 ..,zj,qL (by lia:ps.length≤es.length)] at eW
    refine ⟨tyS,[32],HK,_,SqL.of eW,?_,k _ s1⟩
    have f1:=BL (x:=t.a) (y:=t.b) (by have:=ok.a1;lia) (by have:=ok.b1;lia)
    have f2:=BL (x:=t.c) (y:=t.d) (by have:=ok.c1;lia) (by have:=ok.d1;lia)
    have f3:=Tj (es:=es) (ps:=ps) l4 fun p h=>by have:=bd p h;lia
    have f4:=Pl es ps
    have f5:((tlW es ps).map List.length).sum≤((tlW es ps).map fun x=>x.length+1).sum:=by
     induction tlW es ps with
     | nil=>decide
     | cons a r ih=>rw [zU,zU,zn,zn];lia
    simp only [zU,zn,zB,zG]
    lia
theorem Uy:AJ ["run"] ["run"] (AF ML):=by walk_at "SC"
theorem Yn:Str.ofString ":"=tx [58]:=by rfl
noncomputable def cy (p q:Int)(t:Thr):List Nat:=Ay [58] [dec p,dec q,frT t.a t.b,frT t.c t.d]
noncomputable def UF (K:W.Frag):Sp:=fun vs H Q _=>∃ (D q:Addr) (x y:Int) (t:Thr),vs=[.ref D]∧H D=some (.tup [.int x,.int y,.ref q])∧H q=some (.tup t.vs)∧OkT t∧x.natAbs≤1000∧y.natAbs≤1000∧∀ H',AG H H'→Q (.str (tx (cy x y t))) H'
theorem Uq (T:Tx w K mg):Aa P w K mg base CX0 5 T.Py T.ON ["run"] (UF K):=by
 refine T.QU.F.ok Uy (fun _ _ _ _ h=>by walk_at "LN") ?_
 ·walk_at "I2"
  obtain ⟨D,q,x,y,t,rfl,eD,eq,ok,bx,b_y,k⟩:=h
  refine ⟨_,(AE (AI (CY PySem.F.plainAttrs_str PySem.F.slot_str_join PySem.F.type_str_join BU AN (AA (AH B7 (Ao (AA (Al Ah (by rfl) T.Dh CG (AA (pxi AL (pv 0) AC) AB)) (AA (Al Ah (by rfl) T.Dh CG (AA (pxi AL (pv 0) AC) AB)) AB))) (pcl T.Dc (E1 T) hr AR (AA (pxi AL (pv 0) AC) AB))) AB)))),?_⟩
  delta tBM Ck
  refine ⟨tyS,_,SqT.of eD,_,rfl,x,rfl,KN (by lia),_,SqT.of eD,_,rfl,y,rfl,KN (by lia),by decide,fun D1 H1 n1 s1 e1=>?_⟩
  refine ⟨_,SqT.of (s1.get eD),_,rfl,q,t,rfl,SqT.of (s1.get eq),ok.b0,ok.d0,ok.g1,ok.g2,by have:=ok.a1;lia,by have:=ok.b1;lia,by have:=ok.c1;lia,by have:=ok.d1;lia,fun D2 H2 n2 s2 e2=>⟨_,rfl,_,s2.get e1,_,e2,by rw [PySem.sizeLine_eq];show 2+2≤_;lia,fun D3 H3 n3 s3 e3=>⟨[58],Yn,[dec x,dec y,frT t.a t.b,frT t.c t.d],SqL.of (by rw [BB,BB] at e3;exact e3),?_,k _ (s1.trans (s2.trans s3))⟩⟩⟩
  have f1:=BL (x:=t.a) (y:=t.b) (by have:=ok.a1;lia) (by have:=ok.b1;lia)
  have f2:=BL (x:=t.c) (y:=t.d) (by have:=ok.c1;lia) (by have:=ok.d1;lia)
  have:=Do (n:=x) (by lia)
  have:=Do (n:=y) (by lia)
  simp only [zU,List.map_nil,zn,List.sum_nil,zB,zG]
  lia
theorem Qr:AJ ["beach","words","numbers"] ["beach","words"] (AF OF):=by walk_at "SC"
theorem ND:∀ {ws:List (List Nat)} {ns:List Int},numsOf ws=some ns→ns.length=ws.length∧∀ n∈ns,n.natAbs≤999999999
 | [],ns,h=>by cases (show some []=some ns from h);exact ⟨rfl,fun _ z=>absurd z (by simp)⟩
 | w::r,ns,h=>by
  unfold numsOf at h
  cases ha:rdN w with
  | none=>rw [ha] at h;cases h
  | some m =>
   rw [ha] at h
   obtain ⟨ms,h1,rfl⟩:=zi.mp h
   obtain ⟨h2,h3⟩:=ND h1
   refine ⟨by rw [zB,zB,h2],fun n hn=>?_⟩
   rcases zF.mp hn with rfl | hn
   ·exact num9 ha
   ·exact h3 n hn
noncomputable def G9 {w:World}{K:W.Frag}{mg:Str→Option Value}(T:Tx w K mg):Sp:=fun vs H Q E=>∃ (b S P:Addr) (ow:List Addr) (gs:List G) (past:List (List G)) (W:Addr) (ws:List (List Nat)),vs=[.ref b,.ref W]∧Bch T.AK H b S P ow gs past∧SqL K H W (tvs ws)∧OkW ws∧(ws.length≠3∨numsOf ws=none→∀ H',AG H H'→E (T.err .badrow) none H')∧∀ p f h,numsOf ws=some [p,f,h]→(∀ e,PK gs past p f h=some e→∀ H',AG H H'→E (T.err e) none H')∧(PK gs past p f h=none→∀ H' S' ow',Kp b P H H'→Bch T.AK H' b S' P ow' (FK gs p [⟨p,f,h⟩]) (past++[gs])→(∀ a∈ow',a∈ow∨H a=none)→Q (.str (tx (Sa p f h))) H')
theorem WG (T:Tx w K mg):Aa P w K mg base (CXE P w) 5 T.Nq T.Q8 ["beach","words"] (G9 T):=by
 refine T.Nc.F.okX Qr (fun _ _ _ _ h=>by walk_at "LN") ?_
 ·walk_at "I2"
  obtain ⟨b,S,P,ow,gs,past,W,ws,rfl,hb,hW,ok,kE,k⟩:=h
  refine ⟨_,(AD (pst 2 Qr (pcl T.BZ (Br T) hr Aw (AA (pv 1) (AA AC AB))))
   (AE (AI (pcl T.Dm (Ec T) hr AR (AA (Aj (pv 0) T.AQ T.Di.mt (Mi T) (hr.mono (by decide)) T.Di.b .nil Aw (AA (pxi AX (pv 2) AC) (AA (pxi AX (pv 2) AC) (AA (pxi AX (pv 2) AC) AB)))) AB))))),?_⟩
  walk_at "Q"
  delta Ux
  refine ⟨W,ws,3,rfl,hW,ok,fun h H1 s1=>kE (h.imp (fun h z=>h (by lia)) id) H1 s1,fun ns h3 hn D H1 n1 s1 e1=>?_⟩
  walk_at "NX"
  obtain ⟨hl,h9⟩:=ND hn
  obtain ⟨p,f,h,rfl⟩:=ZT (hl.trans (by lia))
  obtain ⟨k1,k2⟩:=k p f h hn
  clear k kE
  have hb1:=hb.same s1
  obtain ⟨dx,eb⟩:=hb1.at_
  delta Ux
  have big:999999999≤10 ^ 40:=by decide +kernel
  refine ⟨dx,_,eb,rfl,_,SqL.of e1,_,rfl,_,SqL.of e1,_,rfl,_,SqL.of e1,_,rfl,?_⟩
  refine ⟨b,S,P,ow,gs,past,p,f,h,rfl,hb1,fun e he H2 s2=>k1 e he _ (s1.trans s2),fun hE H2 S' ow' D2 kp b2 o2 e2=>?_⟩
  exact ⟨D2,p,f,h,rfl,e2,zO (h9 p (by simp)) big,zO (h9 f (by simp)) big,zO (h9 h (by simp)) big,fun H3 s3=>k2 hE H3 S' ow' ((Kp.of s1).trans (kp.trans (Kp.of s3))) (b2.same s3) fun a ha=>(o2 a ha).imp id fun z=>s1.free z⟩
theorem Of:AJ ["beach","words","numbers"] ["beach","words"] (AF MD):=by walk_at "SC"
noncomputable def FX {w:World}{K:W.Frag}{mg:Str→Option Value}(T:Tx w K mg):Sp:=fun vs H Q E=>∃ (b S P:Addr) (ow:List Addr) (gs:List G) (past:List (List G)) (W:Addr) (ws:List (List Nat)),vs=[.ref b,.ref W]∧Bch T.AK H b S P ow gs past∧SqL K H W (tvs ws)∧OkW ws∧(ws.length≠1∨numsOf ws=none→∀ H',AG H H'→E (T.err .badrow) none H')∧∀ p,numsOf ws=some [p]→(∀ e,Qb gs past p=some e→∀ H',AG H H'→E (T.err e) none H')∧(∀ g,CW gs p=some g→Qb gs past p=none→∀ H' S' ow',Kp b P H H'→Bch T.AK H' b S' P ow' (FK gs p []) (past++[gs])→(∀ a∈ow',a∈ow∨H a=none)→Q (.str (tx (Sa p g.f g.h))) H')
theorem U1 (T:Tx w K mg):Aa P w K mg base (CXE P w) 5 T.Ll T.Ob ["beach","words"] (FX T):=by
 refine T.Lr.F.okX Of (fun _ _ _ _ h=>by walk_at "LN") ?_
 ·walk_at "I2"
  obtain ⟨b,S,P,ow,gs,past,W,ws,rfl,hb,hW,ok,kE,k⟩:=h
  refine ⟨_,(AD (pst 2 Of (pcl T.BZ (Br T) hr Aw (AA (pv 1) (AA AC AB))))
   (AE (AI (pcl T.Dm (Ec T) hr AR (AA (Aj (pv 0) T.AQ T.HH.mt (R3 T) (hr.mono (by decide)) T.HH.b .nil Aw (AA (pxi AX (pv 2) AC) AB)) AB))))),?_⟩
  walk_at "Q"
  delta Ux
  refine ⟨W,ws,1,rfl,hW,ok,fun h H1 s1=>kE (h.imp (fun h z=>h (by lia)) id) H1 s1,fun ns h3 hn D H1 n1 s1 e1=>?_⟩
  walk_at "NX"
  obtain ⟨hl,h9⟩:=ND hn
  obtain ⟨p,rfl⟩:=ZG (hl.trans (by lia))
  obtain ⟨k1,k2⟩:=k p hn
  clear k kE
  have hb1:=hb.same s1
  obtain ⟨dx,eb⟩:=hb1.at_
  delta Ux
  refine ⟨dx,_,eb,rfl,_,SqL.of e1,_,rfl,?_⟩
  refine ⟨b,S,P,ow,gs,past,p,rfl,hb1,fun e he H2 s2=>k1 e he _ (s1.trans s2),fun g hg hE H2 S' ow' D2 kp b2 o2 e2=>?_⟩
  obtain ⟨hm,rfl⟩:=Bi hg
  have o:=hb.std.ok g hm
  exact ⟨D2,g.p,g.f,g.h,rfl,e2,TJ ⟨o.p0,o.p1⟩,TJ ⟨o.f0,Int.le_trans o.fh o.h1⟩,TJ ⟨Int.le_trans o.f0 o.fh,o.h1⟩,fun H3 s3=>k2 g hg hE H3 S' ow' ((Kp.of s1).trans (kp.trans (Kp.of s3))) (b2.same s3) fun a ha=>(o2 a ha).imp id fun z=>s1.free z⟩
theorem O3:AJ ["beach","words","numbers"] ["beach","words"] (AF MC):=by walk_at "SC"
noncomputable def FT {w:World}{K:W.Frag}{mg:Str→Option Value}(T:Tx w K mg):Sp:=fun vs H Q E=>∃ (b S P:Addr) (ow:List Addr) (gs:List G) (past:List (List G)) (W:Addr) (ws:List (List Nat)),vs=[.ref b,.ref W]∧Bch T.AK H b S P ow gs past∧SqL K H W (tvs ws)∧OkW ws∧(ws.length≠3∨numsOf ws=none→∀ H',AG H H'→E (T.err .badrow) none H')∧∀ p x y,numsOf ws=some [p,x,y]→(∀ e,Ir gs past p x y=some e→∀ H',AG H H'→E (T.err e) none H')∧(∀ g,CW gs p=some g→Ir gs past p x y=none→∀ H' S' ow',Kp b P H H'→Bch T.AK H' b S' P ow' (FK gs p [⟨p,g.f+x,g.h+y⟩]) (past++[gs])→(∀ a∈ow',a∈ow∨H a=none)→Q (.str (tx (Sa p (g.f+x) (g.h+y)))) H')
theorem Ui (T:Tx w K mg):Aa P w K mg base (CXE P w) 5 T.Lo T.O2 ["beach","words"] (FT T):=by
 refine T.Ln.F.okX O3 (fun _ _ _ _ h=>by walk_at "LN") ?_
 ·walk_at "I2"
  obtain ⟨b,S,P,ow,gs,past,W,ws,rfl,hb,hW,ok,kE,k⟩:=h
  refine ⟨_,(AD (pst 2 O3 (pcl T.BZ (Br T) hr Aw (AA (pv 1) (AA AC AB))))
   (AE (AI (pcl T.Dm (Ec T) hr AR (AA (Aj (pv 0) T.AQ T.C2.mt (LL T) (hr.mono (by decide)) T.C2.b .nil Aw (AA (pxi AX (pv 2) AC) (AA (pxi AX (pv 2) AC) (AA (pxi AX (pv 2) AC) AB)))) AB))))),?_⟩
  walk_at "Q"
  delta Ux
  refine ⟨W,ws,3,rfl,hW,ok,fun h H1 s1=>kE (h.imp (fun h z=>h (by lia)) id) H1 s1,fun ns h3 hn D H1 n1 s1 e1=>?_⟩
  walk_at "NX"
  obtain ⟨hl,h9⟩:=ND hn
  obtain ⟨p,x,y,rfl⟩:=ZT (hl.trans (by lia))
  obtain ⟨k1,k2⟩:=k p x y hn
  clear k kE
  have hb1:=hb.same s1
  obtain ⟨dx,eb⟩:=hb1.at_
  delta Ux
  have B1:∀ {n:Int},n.natAbs≤2000000000→n.natAbs≤10 ^ 40:=fun h=>zO h (by decide +kernel)
  have b1:=h9 p (by simp)
  have b2:=h9 x (by simp)
  have b3:=h9 y (by simp)
  refine ⟨dx,_,eb,rfl,_,SqL.of e1,_,rfl,_,SqL.of e1,_,rfl,_,SqL.of e1,_,rfl,?_⟩
  refine ⟨b,S,P,ow,gs,past,p,x,y,rfl,hb1,fun e he H2 s2=>k1 e he _ (s1.trans s2),fun g hg hE H2 S' ow' D2 kp b2 o2 e2=>?_⟩
  have o:=hb.std.ok g (Bi hg).1
  have o1:=o.f0
  have o2':=o.fh
  have o3:=o.h1
  exact ⟨D2,p,g.f+x,g.h+y,rfl,e2,B1 (by lia),B1 (by lia),B1 (by lia),fun H3 s3=>k2 g hg hE H3 S' ow' ((Kp.of s1).trans (kp.trans (Kp.of s3))) (b2.same s3) fun a ha=>(o2 a ha).imp id fun z=>s1.free z⟩
theorem Oq:AJ ["beach","words","numbers"] ["beach","words"] (AF Li):=by walk_at "SC"
noncomputable def Fc {w:World}{K:W.Frag}{mg:Str→Option Value}(T:Tx w K mg):Sp:=fun vs H Q E=>∃ (b S P:Addr) (ow:List Addr) (gs:List G) (past:List (List G)) (W:Addr) (ws:List (List Nat)),vs=[.ref b,.ref W]∧Bch T.AK H b S P ow gs past∧SqL K H W (tvs ws)∧OkW ws∧(ws.length≠3∨numsOf ws=none→∀ H',AG H H'→E (T.err .badrow) none H')∧∀ p x y,numsOf ws=some [p,x,y]→(∀ e,Ir gs past p (-x) (-y)=some e→∀ H',AG H H'→E (T.err e) none H')∧(∀ g,CW gs p=some g→Ir gs past p (-x) (-y)=none→∀ H' S' ow',Kp b P H H'→Bch T.AK H' b S' P ow' (FK gs p [⟨p,g.f+(-x),g.h+(-y)⟩]) (past++[gs])→(∀ a∈ow',a∈ow∨H a=none)→Q (.str (tx (Sa p (g.f+(-x)) (g.h+(-y))))) H')
theorem Ud (T:Tx w K mg):Aa P w K mg base (CXE P w) 5 T.MH T.Ou ["beach","words"] (Fc T):=by
 refine T.Lj.F.okX Oq (fun _ _ _ _ h=>by walk_at "LN") ?_
 ·walk_at "I2"
  obtain ⟨b,S,P,ow,gs,past,W,ws,rfl,hb,hW,ok,kE,k⟩:=h
  refine ⟨_,(AD (pst 2 Oq (pcl T.BZ (Br T) hr Aw (AA (pv 1) (AA AC AB))))
   (AE (AI (pcl T.Dm (Ec T) hr AR (AA (Aj (pv 0) T.AQ T.Hc.mt (RT T) (hr.mono (by decide)) T.Hc.b .nil Aw (AA (pxi AX (pv 2) AC) (AA (pxi AX (pv 2) AC) (AA (pxi AX (pv 2) AC) AB)))) AB))))),?_⟩
  walk_at "Q"
  delta Ux
  refine ⟨W,ws,3,rfl,hW,ok,fun h H1 s1=>kE (h.imp (fun h z=>h (by lia)) id) H1 s1,fun ns h3 hn D H1 n1 s1 e1=>?_⟩
  walk_at "NX"
  obtain ⟨hl,h9⟩:=ND hn
  obtain ⟨p,x,y,rfl⟩:=ZT (hl.trans (by lia))
  obtain ⟨k1,k2⟩:=k p x y hn
  clear k kE
  have hb1:=hb.same s1
  obtain ⟨dx,eb⟩:=hb1.at_
  delta Ux
  have B1:∀ {n:Int},n.natAbs≤2000000000→n.natAbs≤10 ^ 40:=fun h=>zO h (by decide +kernel)
  have b1:=h9 p (by simp)
  have b2:=h9 x (by simp)
  have b3:=h9 y (by simp)
  refine ⟨dx,_,eb,rfl,_,SqL.of e1,_,rfl,_,SqL.of e1,_,rfl,_,SqL.of e1,_,rfl,?_⟩
  refine ⟨b,S,P,ow,gs,past,p,x,y,rfl,hb1,fun e he H2 s2=>k1 e he _ (s1.trans s2),fun g hg hE H2 S' ow' D2 kp b2 o2 e2=>?_⟩
  have o:=hb.std.ok g (Bi hg).1
  have o1:=o.f0
  have o2':=o.fh
  have o3:=o.h1
  exact ⟨D2,p,g.f+(-x),g.h+(-y),rfl,e2,B1 (by lia),B1 (by lia),B1 (by lia),fun H3 s3=>k2 g hg hE H3 S' ow' ((Kp.of s1).trans (kp.trans (Kp.of s3))) (b2.same s3) fun a ha=>(o2 a ha).imp id fun z=>s1.free z⟩
theorem OY:AJ ["beach","words","numbers"] ["beach","words"] (AF Lq):=by walk_at "SC"
theorem kpP {C b S P:Addr}{ow:List Addr}{gs:List G}{past:List (List G)}{H H':Hp}(_:Bch C H b S P ow gs past)(k:Kp b b H H'):Kp b P H H':=fun a u h1 _ e=>k a u h1 h1 e
theorem gC {α:Type}{l:List α}(h:l.length≤300):(l.length:Int).natAbs≤10 ^ 40:=zO (show (l.length:Int).natAbs≤300 by lia) (by decide +kernel)
noncomputable def FS {w:World}{K:W.Frag}{mg:Str→Option Value}(T:Tx w K mg):Sp:=fun vs H Q E=>∃ (b S P:Addr) (ow:List Addr) (gs:List G) (past:List (List G)) (W:Addr) (ws:List (List Nat)),vs=[.ref b,.ref W]∧Bch T.AK H b S P ow gs past∧SqL K H W (tvs ws)∧OkW ws∧(2≤ws.length∨numsOf ws=none→∀ H',AG H H'→E (T.err .badrow) none H')∧∀ n,(ws=[]∧n=1∨numsOf ws=some [n])→(∀ e,T5 past n=some e→∀ H',AG H H'→E (T.err e) none H')∧(T5 past n=none→∀ H' S' P' ow',Kp b P H H'→Bch T.AK H' b S' P' ow' (past.getD (past.length-n.toNat) []) (past.take (past.length-n.toNat))→(∀ a∈ow',a∈ow∨H a=none)→Q (.str (tx (Ve ((past.take (past.length-n.toNat)).length:Int)))) H')
theorem UG (T:Tx w K mg):Aa P w K mg base (CXE P w) 5 T.L8 T.OM ["beach","words"] (FS T):=by
 refine T.Lc.F.okX OY (fun _ _ _ _ h=>by walk_at "LN") ?_
 ·walk_at "I2"
  obtain ⟨b,S,P,ow,gs,past,W,ws,rfl,hb,hW,ok,kE,k⟩:=h
  refine ⟨_,(AD (Ae (ptc Bg (AT AW (by rfl) T.BN A0 (AA (pv 1) AB)) AC) (AE (AI (pcl T.EL (F3 T) hr AR (AA (Eu (pv 0) T.AQ T.CJ.mt (LI T) (hr.mono (by decide)) T.CJ.bd.choose_spec.2 T.CJ.bd.choose_spec.1 Aw) AB))))
    AS)
   (AD (pst 2 OY (pcl T.BZ (Br T) hr Aw (AA (pv 1) (AA AC AB))))
   (AE (AI (pcl T.EL (F3 T) hr AR (AA (Aj (pv 0) T.AQ T.CJ.mt (LI T) (hr.mono (by decide)) T.CJ.b .nil Aw (AA (pxi AX (pv 2) AC) AB)) AB)))))),?_⟩
  obtain ⟨dx,eb⟩:=hb.at_
  walk_at "Q"
  delta Ux
  refine ⟨_,.inl hW,?_⟩
  rw [z0]
  by_cases h0:ws=[]
  ·rw [if_pos (zE (by rw [h0];rfl))]
   obtain ⟨k1,k2⟩:=k 1 (.inl ⟨h0,rfl⟩)
   refine ⟨dx,_,eb,rfl,b,S,P,ow,gs,past,1,rfl,hb,fun e he=>k1 e he _ (AG.refl _),fun hE H' S' P' ow' kp b2 o2=>⟨_,rfl,?_,k2 hE H' S' P' ow' (kpP hb kp) b2 o2⟩⟩
   exact gC b2.len
  ·rw [if_neg (fun z=>h0 (q9.mp (by have:=zH z;lia)))]
   walk_at "NX"
   delta Ux
   refine ⟨W,ws,1,rfl,hW,ok,fun h H1 s1=>kE (h.imp (fun h=>?_) id) H1 s1,fun ns h1 hn D H1 n1 s1 e1=>?_⟩
   ·have:=List.length_pos_iff.mpr h0
    lia
   obtain ⟨hl,h9⟩:=ND hn
   obtain ⟨n,rfl⟩:=ZG (hl.trans (by lia))
   obtain ⟨k1,k2⟩:=k n (.inr hn)
   refine ⟨dx,_,s1.get eb,rfl,D,rfl,_,SqL.of e1,_,rfl,b,S,P,ow,gs,past,n,rfl,hb.same s1,fun e he=>k1 e he _ s1,fun hE H' S' P' ow' kp b2 o2=>⟨_,rfl,?_,k2 hE H' S' P' ow' ((Kp.of s1).trans (kpP (hb.same s1) kp)) b2 fun a ha=>(o2 a ha).imp id fun z=>s1.free z⟩⟩
   exact gC b2.len
theorem TY:AJ ["beach","words"] ["beach","words"] (AF Jk):=by walk_at "SC"
noncomputable def ER {w:World}{K:W.Frag}{mg:Str→Option Value}(T:Tx w K mg):Sp:=fun vs H Q E=>∃ (b S P:Addr) (ow:List Addr) (gs:List G) (past:List (List G)) (W:Addr) (ws:List (List Nat)),vs=[.ref b,.ref W]∧Bch T.AK H b S P ow gs past∧SqL K H W (tvs ws)∧OkW ws∧(ws≠[]→∀ H',AG H H'→E (T.err .badrow) none H')∧(ws=[]→∀ H',AG H H'→Q (.str (tx (Ve past.length))) H')
theorem TH (T:Tx w K mg):Aa P w K mg base (CXE P w) 2 T.Ja T.Mh ["beach","words"] (ER T):=by
 refine T.Je.F.okX TY (fun _ _ _ _ h=>by walk_at "LN") ?_
 ·walk_at "I2"
  obtain ⟨b,S,P,ow,gs,past,W,ws,rfl,hb,hW,ok,kE,k⟩:=h
  refine ⟨_,(AD (A5 (pcl T.Bl (Bx T) hr Aw (AA (pv 1) (AA AC AB))))
   (AE (AI (pcl T.EL (F3 T) hr AR (AA (Eu (pv 0) T.AQ T.Fs.mt (Qe T) (hr.mono (by decide)) T.Fs.b .nil AR) AB))))),?_⟩
  obtain ⟨dx,eb⟩:=hb.at_
  walk_at "Q"
  delta Ux
  refine ⟨W,ws,0,rfl,hW,ok,fun h=>kE (fun z=>h (by rw [z];rfl)) _ (AG.refl _),fun h=>?_⟩
  have h0:ws=[]:=q9.mp (by lia)
  have k:=k h0
  walk_at "NX"
  delta Ux
  exact ⟨dx,_,eb,rfl,b,S,P,ow,gs,past,rfl,hb,_,rfl,gC hb.len,k _ (AG.refl _)⟩
theorem Tk:AJ ["beach","words"] ["beach","words"] (AF Io):=by walk_at "SC"
theorem ZM {c:Nat}:∀ {l:List Nat},(∀ x∈l,x≤c)→l.sum≤c*l.length
 | [],_=>by simp
 | a::r,h=>by
  rw [zn,zB,Nat.mul_succ]
  have:=h a zP
  have:=ZM fun x hx=>h x (zK _ hx)
  lia
theorem SW {α:Type}{f:α→List Nat}:∀ {ys:List V} {gs:List α},Paired (fun v g=>v=V.str (tx (f g))) ys gs→ys=tvs (gs.map f)
 | _,_,.nil=>rfl
 | _,_,.cons h r=>by rw [h,SW r];rfl
theorem o_col:Str.ofString ":"=tx [58]:=by rfl
theorem Zo:Str.ofString "gates"=tx [103,97,116,101,115]:=by rfl
noncomputable def Gy (g:G):List Nat:=Ay [58] [dec g.p,dec g.f,dec g.h]
noncomputable def fi (gs:List G):List Nat:=Ay [32] ([103,97,116,101,115]::gs.map Gy)
noncomputable def Ea {w:World}{K:W.Frag}{mg:Str→Option Value}(T:Tx w K mg):Sp:=fun vs H Q E=>∃ (b S P:Addr) (ow:List Addr) (gs:List G) (past:List (List G)) (W:Addr) (ws:List (List Nat)),vs=[.ref b,.ref W]∧Bch T.AK H b S P ow gs past∧SqL K H W (tvs ws)∧OkW ws∧(ws≠[]→∀ H',AG H H'→E (T.err .badrow) none H')∧(ws=[]→∀ H',AG H H'→Q (.str (tx (fi gs))) H')
theorem Sz (T:Tx w K mg):Aa P w K mg base (CXE P w) 2 T.JM T.Mo ["beach","words"] (Ea T):=by
 refine T.IZ.F.okX Tk (fun _ _ _ _ h=>by walk_at "LN") ?_
 ·walk_at "I2"
  obtain ⟨b,S,P,ow,gs,past,W,ws,rfl,hb,hW,ok,kE,k⟩:=h
  refine ⟨_,(AD (A5 (pcl T.Bl (Bx T) hr Aw (AA (pv 1) (AA AC AB))))
   (AE (AI (CY PySem.F.plainAttrs_str PySem.F.slot_str_join PySem.F.type_str_join BU AN (AA (AH B7 (Ao (AA AN AB)) (Bj rfl (⟨rfl,by decide +kernel,by decide +kernel,by decide +kernel,rfl,by decide +kernel,by with_unfolding_all rfl,by rfl,by rfl,by rfl⟩:Ar _ _ "gate" [] []) (A7 (Eu (pv 0) T.AQ T.GB.mt (RH T) (hr.mono (by decide)) T.GB.b .nil AR)) (fun _ _ _ _  => (fV (K:=K) rfl PySem.F.plainAttrs_str PySem.F.slot_str_join PySem.F.type_str_join (Y2 (K:=K) rfl) AN (AA (pcl T.Bf (Bv T) hr AR (AA (pv 0) AB)) AB))) (fun _ _ _ _=>BJ))) AB))))),?_⟩
  obtain ⟨dx,eb⟩:=hb.at_
  walk_at "Q"
  delta tBM Ck
  refine ⟨W,ws,0,rfl,hW,ok,fun h=>kE (fun z=>h (by rw [z];rfl)) _ (AG.refl _),fun h=>?_⟩
  have h0:ws=[]:=q9.mp (by lia)
  have k:=k h0
  walk_at "NX"
  delta tBM Ck C5
  refine ⟨tyS,by decide,fun D1 H1 n1 s1 e1=>⟨dx,_,s1.get eb,rfl,b,S,P,ow,gs,past,rfl,hb.same s1,fun H2 D2 as n2 s2 e2 ga=>⟨_,rfl,⟨_,SqL.of e2⟩,fun D nD=>?_⟩⟩⟩
  have l40:=hb.std.len
  have okg:=hb.std.ok
  have lw:∀ g∈gs,(Gy g).length≤128:=fun g hg=>by
   have o:=okg g hg
   have:=Do (TJ ⟨o.p0,o.p1⟩)
   have:=Do (n:=g.f) (TJ ⟨o.f0,Int.le_trans o.fh o.h1⟩)
   have:=Do (n:=g.h) (TJ ⟨Int.le_trans o.f0 o.fh,o.h1⟩)
   show (dec g.p++([58]++(dec g.f++([58]++dec g.h)))).length≤_
   simp only [zD,zB,zG]
   lia
  refine KI (F:=fun _ v g=>v=V.str (tx (Gy g))) (fun _ _ _ _ _ h=>h) (fun _ _ _ _ _ _ h=>h) (SqL.of e2) ga nD (by lia) ?_ ?_
  ·intro v g H3 R hg s3 ev hR
   have o:=okg g hg
   have b1:=TJ ⟨o.p0,o.p1⟩
   have b2:=TJ (n:=g.f) ⟨o.f0,Int.le_trans o.fh o.h1⟩
   have b3:=TJ (n:=g.h) ⟨Int.le_trans o.f0 o.fh,o.h1⟩
   delta tBM Ck
   refine ⟨tyS,v,[g.p,g.f,g.h],rfl,.inr (SqT.of ev),fun n hn=>?_,by show 3≤100000;decide,fun D3 H4 n4 s4 e4=>⟨[58],o_col,_,rfl,[dec g.p,dec g.f,dec g.h],SqL.of e4,?_,hR _ _ s4 rfl⟩⟩
   ·simp only [zF,zf,or_false] at hn
    rcases hn with rfl | rfl | rfl<;>assumption
   ·have:=Do b1
    have:=Do b2
    have:=Do b3
    simp only [zU,List.map_nil,zn,List.sum_nil,zB,zG]
    lia
  ·intro H3 ys s3 e3 pr
   have ey:ys=tvs (gs.map Gy):=SW pr
   subst ey
   refine ⟨_,s3.get (s2.get e1),_,e3,by rw [z0,z0,PySem.sizeLine_eq];show 1+_≤_;lia,fun D4 H4 n4 s4 e4=>⟨[32],HK,[103,97,116,101,115]::gs.map Gy,SqL.of (by rw [Zo] at e4;exact e4),?_,k _ (s1.trans (s2.trans (s3.trans s4)))⟩⟩
   have h1:((gs.map Gy).map List.length).sum≤128*((gs.map Gy).map List.length).length:=ZM fun x hx=>by
    obtain ⟨y,hy,rfl⟩:=zZ.mp hx
    obtain ⟨g,hg,rfl⟩:=zZ.mp hy
    exact lw g hg
   rw [z0,z0] at h1
   show 5+((gs.map Gy).map List.length).sum+((gs.map Gy).length+1)*1≤_
   rw [z0]
   lia
theorem Q6:AJ ["beach","words"] ["beach","words"] (AF F4):=by walk_at "SC"
theorem Edg.bd {sg:List G}{t:Thr}{p q:Int}(h:Edg sg t p q)(ok:∀ g∈sg,g.p.natAbs≤1000):∀ n∈[p,q],n.natAbs≤1000:=fun n hn=>by
 obtain ⟨x,hx,y,hy,_,_,_,_,rfl,rfl⟩:=h.at_
 simp only [zF,zf,or_false] at hn
 rcases hn with rfl | rfl
 ·exact ok x hx
 ·exact ok y hy
theorem OkG.p9 {g:G}(h:OkG g):g.p.natAbs≤1000:=by
 have:=h.p0
 have:=h.p1
 lia
theorem Bd.ok {gs:List G}{ns:List Int}(h:Bd gs ns)(ok:∀ g∈gs,OkG g):ns.length≤3∧∀ n∈ns,n.natAbs≤1000:=by
 cases h with
 | no sg hp ha hn ht=>rw [ht];exact ⟨by decide,fun _ z=>absurd z (by simp)⟩
 | yes sg hp ha i j k a b c hf h1 h2 h3 ht =>
  rw [ht]
  refine ⟨by show 3≤3;decide,fun n hn=>?_⟩
  have o:∀ g∈sg,g.p.natAbs≤1000:=fun g hg=>by
   have:=ok g (hp.mem_iff.mp hg)
   have:=this.p0
   have:=(ok g (hp.mem_iff.mp hg)).p1
   lia
  simp only [zF,zf,or_false] at hn
  rcases hn with rfl | rfl | rfl
  ·exact o _ (zW h1)
  ·exact o _ (zW h2)
  ·exact o _ (zW h3)
theorem GW.iv {H:Hp}:∀ {ns:List Int} {vs:List V},GW H (ns.map Tr.i) vs→vs=ns.map V.int
 | [],_,h=>h
 | n::ns,_,⟨v,r,e,h1,h2⟩=>by rw [e,show v=V.int n from h1,GW.iv h2];rfl
theorem Enc.bar {H:Hp}{ns:List Int}{D:Addr}(h:Enc H (trB ns) (.ref D)):∃ q,H D=some (.tup [.str "bar",.ref q])∧H q=some (.tup (ns.map V.int)):=by
 obtain ⟨p,_,e,eD,v1,_,rfl,rfl,v2,_,rfl,⟨q,vs,rfl,eq,h3⟩,rfl⟩:=h
 cases e
 exact ⟨q,eD,by rw [GW.iv h3] at eq;exact eq⟩
theorem Enc.thr {H:Hp}{t:Thr}{ns:List Int}{D:Addr}(h:Enc H (.t (.s "throw"::trT t::ns.map Tr.i)) (.ref D)):∃ q,H D=some (.tup (.str "throw"::.ref q::ns.map V.int))∧H q=some (.tup t.vs):=by
 obtain ⟨p,_,e,eD,v1,_,rfl,rfl,v2,_,rfl,⟨q,vs,rfl,eq,h3⟩,h4⟩:=h
 cases e
 rw [GW.iv h4] at eD
 exact ⟨q,eD,by rw [GW.iv (ns:=[t.a,t.b,t.c,t.d]) h3] at eq;exact eq⟩
noncomputable def Cu {w:World}{K:W.Frag}{mg:Str→Option Value}(T:Tx w K mg):Sp:=fun vs H Q E=>∃ (b S P:Addr) (ow:List Addr) (gs:List G) (past:List (List G)) (W:Addr) (ws:List (List Nat)),vs=[.ref b,.ref W]∧Bch T.AK H b S P ow gs past∧SqL K H W (tvs ws)∧OkW ws∧ws.length<4000∧(numsOf ws=none→∀ H',AG H H'→E (T.err .badrow) none H')∧∀ ps,numsOf ws=some ps→(Bs ps→∀ H',AG H H'→E (T.err .badlist) none H')∧(¬ Bs ps→∀ p∈ps,p∈AU gs)∧(¬ Bs ps→∀ H' sg,AG H H'→sg.Perm (B4 gs ps)→Asc sg→(∀ t,OkT t→(∀ g∈sg,t.pas g)→Own sg t→Q (.str (tx (Ql t [] []))) H')∧∀ ns,ns≠[]→Bd sg ns→Q (.str (tx (XS ns))) H')
theorem QL (T:Tx w K mg):Aa P w K mg base (CXE P w) 10 T.Fu T.Ig ["beach","words"] (Cu T):=by
 refine T.F8.F.okX Q6 (fun _ _ _ _ h=>by walk_at "LN") ?_
 ·walk_at "I2"
  obtain ⟨b,S,P,ow,gs,past,W,ws,rfl,hb,hW,okw,lw,kE,k⟩:=h
  refine ⟨_,(AE (AI (pcl T.Cs (EB T) hr AR (AA (Aj (pv 0) T.AQ T.BE.mt (DK T) (hr.mono (by decide)) T.BE.b .nil Aw (AA (pcl T.CC (Cc T) hr Aw (AA (pv 1) AB)) AB)) (AA (Ag AB) AB))))),?_⟩
  obtain ⟨dx,eb⟩:=hb.at_
  have okg:=hb.std.ok
  delta Ux
  refine ⟨dx,_,eb,rfl,W,ws,rfl,hW,okw,kE,fun ps hp D1 H1 n1 s1 e1=>?_⟩
  have k:=k ps hp
  have lp:=(ND hp).1
  refine ⟨b,S,P,ow,gs,past,D1,ps,rfl,hb.same s1,SqL.of e1,by lia,fun z H2 s2=>k.1 z _ (s1.trans s2),k.2.1,fun nb D2 H2 sg x s2 pm as an en=>⟨by decide,fun D3 H3 n3 s3 e3=>?_⟩⟩
  have kk:=k.2.2 nb
  have oks:∀ g∈sg,OkG g:=fun g hg=>okg g (BX (pm.mem_iff.mp hg))
  rcases an with ⟨t,okt,all,ow,rfl⟩ | ⟨ns,ne,f,rfl⟩
  ·obtain ⟨q',eD,eq⟩:=Enc.thr (ns:=[]) en
   exact ⟨D2,D3,q',[],rfl,e3,by decide,fun _ z=>absurd z (by simp),.inr ⟨_,[],s3.get eD,s3.get eq,okt,rfl,fun _ z=>absurd z (by simp),fun H4 s4=>(kk H4 sg (s1.trans (s2.trans (s3.trans s4))) pm as).1 t okt all ow⟩⟩
  ·obtain ⟨q',eD,eq⟩:=Enc.bar en
   obtain ⟨l3,b3⟩:=f.ok oks
   exact ⟨D2,D3,q',[],rfl,e3,by decide,fun _ z=>absurd z (by simp),.inl ⟨ns,s3.get eD,s3.get eq,l3,b3,fun H4 s4=>(kk H4 sg (s1.trans (s2.trans (s3.trans s4))) pm as).2 ns ne f⟩⟩
theorem PZ:AJ ["beach","words"] ["beach","words"] (AF Ep):=by walk_at "SC"
noncomputable def Ca {w:World}{K:W.Frag}{mg:Str→Option Value}(T:Tx w K mg):Sp:=fun vs H Q E=>∃ (b S P:Addr) (ow:List Addr) (gs:List G) (past:List (List G)) (W:Addr) (ws:List (List Nat)),vs=[.ref b,.ref W]∧Bch T.AK H b S P ow gs past∧SqL K H W (tvs ws)∧OkW ws∧ws.length<4000∧(numsOf ws=none→∀ H',AG H H'→E (T.err .badrow) none H')∧∀ ps,numsOf ws=some ps→(Bs ps→∀ H',AG H H'→E (T.err .badlist) none H')∧(¬ Bs ps→∀ p∈ps,p∈AU gs)∧(¬ Bs ps→ps.length<2→∀ H',AG H H'→E (T.err .few) none H')∧(¬ Bs ps→2≤ps.length→∀ H' sg,AG H H'→sg.Perm (B4 gs ps)→Asc sg→(∀ t p q,OkT t→(∀ g∈sg,t.pas g)→Edg sg t p q→Q (.str (tx (Ql t [[102,111,111,116],[104,101,97,100]] [p,q]))) H')∧∀ ns,ns≠[]→Bd sg ns→Q (.str (tx (XS ns))) H')
theorem PM (T:Tx w K mg):Aa P w K mg base (CXE P w) 9 T.FI T.Hn ["beach","words"] (Ca T):=by
 refine T.El.F.okX PZ (fun _ _ _ _ h=>by walk_at "LN") ?_
 ·walk_at "I2"
  obtain ⟨b,S,P,ow,gs,past,W,ws,rfl,hb,hW,okw,lw,kE,k⟩:=h
  refine ⟨_,(AE (AI (pcl T.Cs (EB T) hr AR (AA (Aj (pv 0) T.AQ T.Bc.mt (FY T) (hr.mono (by decide)) T.Bc.b .nil Aw (AA (pcl T.CC (Cc T) hr Aw (AA (pv 1) AB)) AB)) (AA (Ag (AA AN (AA AN AB))) AB))))),?_⟩
  obtain ⟨dx,eb⟩:=hb.at_
  have okg:=hb.std.ok
  delta Ux
  refine ⟨dx,_,eb,rfl,W,ws,rfl,hW,okw,kE,fun ps hp D1 H1 n1 s1 e1=>?_⟩
  have k:=k ps hp
  have lp:=(ND hp).1
  refine ⟨b,S,P,ow,gs,past,D1,ps,rfl,hb.same s1,SqL.of e1,by lia,fun z H2 s2=>k.1 z _ (s1.trans s2),k.2.1,fun nb h2 H2 s2=>k.2.2.1 nb h2 _ (s1.trans s2),fun nb h2 D2 H2 sg x s2 pm as an en=>⟨by decide,fun D3 H3 n3 s3 e3=>?_⟩⟩
  have kk:=k.2.2.2 nb h2
  have oks:∀ g∈sg,OkG g:=fun g hg=>okg g (BX (pm.mem_iff.mp hg))
  rcases an with ⟨t,p,q,okt,all,ed,rfl⟩ | ⟨ns,ne,f,rfl⟩
  ·obtain ⟨q',eD,eq⟩:=Enc.thr (ns:=[p,q]) en
   exact ⟨D2,D3,q',[[102,111,111,116],[104,101,97,100]],rfl,e3,by decide,by decide,.inr ⟨_,[p,q],s3.get eD,s3.get eq,okt,rfl,(ed.bd (fun g hg=>(oks g hg).p9)),fun H4 s4=>(kk H4 sg (s1.trans (s2.trans (s3.trans s4))) pm as).1 t p q okt all ed⟩⟩
  ·obtain ⟨q',eD,eq⟩:=Enc.bar en
   obtain ⟨l3,b3⟩:=f.ok oks
   exact ⟨D2,D3,q',[[102,111,111,116],[104,101,97,100]],rfl,e3,by decide,by decide,.inl ⟨ns,s3.get eD,s3.get eq,l3,b3,fun H4 s4=>(kk H4 sg (s1.trans (s2.trans (s3.trans s4))) pm as).2 ns ne f⟩⟩
theorem Pi:AJ ["beach","words"] ["beach","words"] (AF En):=by walk_at "SC"
noncomputable def CZ {w:World}{K:W.Frag}{mg:Str→Option Value}(T:Tx w K mg):Sp:=fun vs H Q E=>∃ (b S P:Addr) (ow:List Addr) (gs:List G) (past:List (List G)) (W:Addr) (ws:List (List Nat)),vs=[.ref b,.ref W]∧Bch T.AK H b S P ow gs past∧SqL K H W (tvs ws)∧OkW ws∧ws.length<4000∧(numsOf ws=none→∀ H',AG H H'→E (T.err .badrow) none H')∧∀ ps,numsOf ws=some ps→(Bs ps→∀ H',AG H H'→E (T.err .badlist) none H')∧(¬ Bs ps→∀ p∈ps,p∈AU gs)∧(¬ Bs ps→ps.length<2→∀ H',AG H H'→E (T.err .few) none H')∧(¬ Bs ps→2≤ps.length→∀ H' sg,AG H H'→sg.Perm (B4 gs ps)→Asc sg→(∀ t p q,OkT (Kz t)→(∀ g∈sg,(Kz t).pas g)→Edg (sg.map CV) t p q→Q (.str (tx (Ql (Kz t) [[104,101,97,100],[102,111,111,116]] [p,q]))) H')∧∀ ns,ns≠[]→Bd sg ns→Q (.str (tx (XS ns))) H')
theorem PU (T:Tx w K mg):Aa P w K mg base (CXE P w) 9 T.Es T.Hl ["beach","words"] (CZ T):=by
 refine T.Ez.F.okX Pi (fun _ _ _ _ h=>by walk_at "LN") ?_
 ·walk_at "I2"
  obtain ⟨b,S,P,ow,gs,past,W,ws,rfl,hb,hW,okw,lw,kE,k⟩:=h
  refine ⟨_,(AE (AI (pcl T.Cs (EB T) hr AR (AA (Aj (pv 0) T.AQ T.Bb.mt (FO T) (hr.mono (by decide)) T.Bb.b .nil Aw (AA (pcl T.CC (Cc T) hr Aw (AA (pv 1) AB)) AB)) (AA (Ag (AA AN (AA AN AB))) AB))))),?_⟩
  obtain ⟨dx,eb⟩:=hb.at_
  have okg:=hb.std.ok
  delta Ux
  refine ⟨dx,_,eb,rfl,W,ws,rfl,hW,okw,kE,fun ps hp D1 H1 n1 s1 e1=>?_⟩
  have k:=k ps hp
  have lp:=(ND hp).1
  refine ⟨b,S,P,ow,gs,past,D1,ps,rfl,hb.same s1,SqL.of e1,by lia,fun z H2 s2=>k.1 z _ (s1.trans s2),k.2.1,fun nb h2 H2 s2=>k.2.2.1 nb h2 _ (s1.trans s2),fun nb h2 D2 H2 sg x s2 pm as an en=>⟨by decide,fun D3 H3 n3 s3 e3=>?_⟩⟩
  have kk:=k.2.2.2 nb h2
  have oks:∀ g∈sg,OkG g:=fun g hg=>okg g (BX (pm.mem_iff.mp hg))
  rcases an with ⟨t,p,q,okt,all,ed,rfl⟩ | ⟨ns,ne,f,rfl⟩
  ·obtain ⟨q',eD,eq⟩:=Enc.thr (ns:=[p,q]) en
   exact ⟨D2,D3,q',[[104,101,97,100],[102,111,111,116]],rfl,e3,by decide,by decide,.inr ⟨_,[p,q],s3.get eD,s3.get eq,okt,rfl,(ed.bd (fun g hg=>by obtain ⟨g2,h2,rfl⟩:=zZ.mp hg;exact (oks g2 h2).p9)),fun H4 s4=>(kk H4 sg (s1.trans (s2.trans (s3.trans s4))) pm as).1 t p q okt all ed⟩⟩
  ·obtain ⟨q',eD,eq⟩:=Enc.bar en
   obtain ⟨l3,b3⟩:=f.ok oks
   exact ⟨D2,D3,q',[[104,101,97,100],[102,111,111,116]],rfl,e3,by decide,by decide,.inl ⟨ns,s3.get eD,s3.get eq,l3,b3,fun H4 s4=>(kk H4 sg (s1.trans (s2.trans (s3.trans s4))) pm as).2 ns ne f⟩⟩
theorem U6:AJ ["beach","words"] ["beach","words"] (AF Lf):=by walk_at "SC"
noncomputable abbrev Dn (r:Run):List Nat:=cy r.g.p r.last.p r.t
noncomputable def Yy (rs:List Run):List Nat:=Ay [32] ([114,117,110,115]::rs.map Dn)
theorem Vx:Str.ofString "runs"=tx [114,117,110,115]:=by rfl
theorem WP {β:Type}{f:β→List Nat}{ys:List V}{as:List Addr}{bs:List β}(hl:ys.length=bs.length)(h:∀ (i:Nat) (y:V),ys[i]? = some y→∃ (q:Addr) (b:β),as[i]? = some q∧bs[i]? = some b∧y=V.str (tx (f b))):ys=tvs (bs.map f):=by
 refine List.ext_getElem? fun i=>?_
 rw [show tvs (bs.map f)=bs.map fun b=>V.str (tx (f b)) from zp ..,zN]
 by_cases hi:i<ys.length
 ·obtain ⟨q,b,_,e,z⟩:=h i _ (z9 hi)
  rw [z9 hi,e,z];rfl
 ·rw [List.getElem?_eq_none (by lia),List.getElem?_eq_none (by lia)];rfl
theorem Pm {c:Nat}:∀ {l:List Nat},(∀ x∈l,x≤c)→l.sum≤c*l.length
 | [],_=>by simp
 | a::r,h=>by
  rw [zn,zB,Nat.mul_succ]
  have:=h a zP
  have:=Pm fun x hx=>h x (zK _ hx)
  lia
theorem Run.last_mem (r:Run):r.last∈r.all:=by
 show r.rest.getLastD r.g∈r.g::r.rest
 rw [List.getLastD_eq_getLast?]
 cases h:r.rest.getLast? with
 | none=>exact zP
 | some x=>exact zK _ (List.mem_of_getLast? h)
theorem VC {x y:Int}{t:Thr}(hx:x.natAbs≤1000)(hy:y.natAbs≤1000)(ok:OkT t):(cy x y t).length≤300:=by
 have f1:=BL (x:=t.a) (y:=t.b) (by have:=ok.a1;lia) (by have:=ok.b1;lia)
 have f2:=BL (x:=t.c) (y:=t.d) (by have:=ok.c1;lia) (by have:=ok.d1;lia)
 have:=Do (n:=x) (by lia)
 have:=Do (n:=y) (by lia)
 show (dec x++([58]++(dec y++([58]++(frT t.a t.b++([58]++frT t.c t.d)))))).length≤_
 simp only [zD,zB,zG]
 lia
noncomputable def FP {w:World}{K:W.Frag}{mg:Str→Option Value}(T:Tx w K mg):Sp:=fun vs H Q E=>∃ (b S P:Addr) (ow:List Addr) (gs:List G) (past:List (List G)) (W:Addr) (ws:List (List Nat)),vs=[.ref b,.ref W]∧Bch T.AK H b S P ow gs past∧SqL K H W (tvs ws)∧OkW ws∧(ws≠[]→∀ H',AG H H'→E (T.err .badrow) none H')∧(ws=[]→∀ H' rs,AG H H'→(rs.flatMap Run.all).Perm gs→Asc (rs.flatMap Run.all)→Far rs→UU rs→(∀ r∈rs,OkT r.t∧∀ g∈r.all,r.t.pas g)→Q (.str (tx (Yy rs))) H')
theorem T4 (T:Tx w K mg):Aa P w K mg base (CXE P w) 10 T.L5 T.OS ["beach","words"] (FP T):=by
 refine T.Lp.F.okX U6 (fun _ _ _ _ h=>by walk_at "LN") ?_
 ·walk_at "I2"
  obtain ⟨b,S,P,ow,gs,past,W,ws,rfl,hb,hW,ok,kE,k⟩:=h
  refine ⟨_,(AD (A5 (pcl T.Bl (Bx T) hr Aw (AA (pv 1) (AA AC AB))))
   (AE (AI (CY PySem.F.plainAttrs_str PySem.F.slot_str_join PySem.F.type_str_join BU AN (AA (AH B7 (Ao (AA AN AB)) (Bj rfl (⟨rfl,by decide +kernel,by decide +kernel,by decide +kernel,rfl,by decide +kernel,by with_unfolding_all rfl,by rfl,by rfl,by rfl⟩:Ar _ _ "run" [] []) (A7 (Eu (pv 0) T.AQ T.C0.mt (Kq T) (hr.mono (by decide)) T.C0.b .nil AR)) (fun _ _ _ _  => (pcl T.QU (Uq T) hr AR (AA (pv 0) AB))) (fun _ _ _ _=>BJ))) AB))))),?_⟩
  obtain ⟨dx,eb⟩:=hb.at_
  walk_at "Q"
  delta tBM Ck
  refine ⟨W,ws,0,rfl,hW,ok,fun h=>kE (fun z=>h (by rw [z];rfl)) _ (AG.refl _),fun h=>?_⟩
  have h0:ws=[]:=q9.mp (by lia)
  have k:=k h0
  walk_at "NX"
  delta tBM Ck C5
  refine ⟨tyS,by decide,fun D1 H1 n1 s1 e1=>⟨dx,_,s1.get eb,rfl,b,S,P,ow,gs,past,rfl,hb.same s1,fun D2 H2 as rs n2 s2 ra ows=>⟨_,rfl,⟨_,SqL.of ra.eD⟩,fun D nD=>?_⟩⟩⟩
  have okg:=hb.std.ok
  have l40:=hb.std.len
  have la:as.length=rs.length:=ra.at_.length
  have lr:rs.length≤40:=zO (Pn rs) (by rw [ra.perm.length_eq];exact l40)
  have bdr:∀ r∈rs,r.g.p.natAbs≤1000∧r.last.p.natAbs≤1000:=fun r hr=>by
   have o:∀ g∈r.all,g.p.natAbs≤1000:=fun g hg=>(okg g (ra.perm.mem_iff.mp (List.mem_flatMap.mpr ⟨r,hr,hg⟩))).p9
   exact ⟨o _ zP,o _ r.last_mem⟩
  have okr:∀ r∈rs,OkT r.t∧∀ g∈r.all,r.t.pas g:=fun r hr=>by
   obtain ⟨i,hi,rfl⟩:=qU hr
   obtain ⟨a,_,q,_,_,h⟩:=Paired.get ra.at_ (z9 hi)
   exact h
  refine OG (E:=Hm) (F:=fun _ y _ r=>y=V.str (tx (Dn r))) (fun _ _ _ _ s h=>h.same s) (fun _ _ _ _ _ _ h=>h) (fun _ _ _ _ _ _ _ _ h=>h) (SqL.of ra.eD) ra.at_ nD (by lia) ?_ ?_
  ·intro q r H3 R hr s3 nD3 ⟨q2,e1,e2,o1,_⟩ hR
   obtain ⟨b1,b2⟩:=bdr r hr
   delta Ux
   exact ⟨q,q2,_,_,r.t,rfl,e1,e2,o1,b1,b2,fun H4 s4=>hR _ _ s4 rfl⟩
  ·intro H3 ys s3 e3 ly pr
   obtain rfl:ys=tvs (rs.map Dn):=WP (as:=as) (by lia) pr
   refine ⟨_,s3.get (s2.get e1),_,e3,by rw [z0,z0,PySem.sizeLine_eq];show 1+_≤_;lia,fun D4 H4 n4 s4 e4=>⟨[32],HK,[114,117,110,115]::rs.map Dn,SqL.of (by rw [Vx] at e4;exact e4),?_,k _ rs (s1.trans (s2.trans (s3.trans s4))) ra.perm ra.asc ra.far ows okr⟩⟩
   have h1:((rs.map Dn).map List.length).sum≤300*((rs.map Dn).map List.length).length:=Pm fun x hx=>by
    obtain ⟨y,hy,rfl⟩:=zZ.mp hx
    obtain ⟨r,hr,rfl⟩:=zZ.mp hy
    exact VC (bdr r hr).1 (bdr r hr).2 (okr r hr).1
   rw [z0,z0] at h1
   show 4+((rs.map Dn).map List.length).sum+((rs.map Dn).length+1)*1≤_
   rw [z0]
   lia
theorem Ol:AJ ["beach","words","told"] ["beach","words"] (AF Lm):=by walk_at "SC"
noncomputable def Qk (ns:List Int)(t:Thr):List Nat:=Ay [32] ([109,111,115,116]::(ns.map dec++[[116,104,114,111,119],frT t.a t.b,frT t.c t.d]))
theorem jw:Str.ofString "most"=tx [109,111,115,116]:=by rfl
noncomputable def Fh {w:World}{K:W.Frag}{mg:Str→Option Value}(T:Tx w K mg):Sp:=fun vs H Q E=>∃ (b S P:Addr) (ow:List Addr) (gs:List G) (past:List (List G)) (W:Addr) (ws:List (List Nat)),vs=[.ref b,.ref W]∧Bch T.AK H b S P ow gs past∧SqL K H W (tvs ws)∧OkW ws∧LM.Tbl H Cq D0 O8∧(ws≠[]→∀ H',AG H H'→E (T.err .badrow) none H')∧(ws=[]→((gs.length=0∨12<gs.length)→∀ H',AG H H'→E (T.err .size) none H')∧(1≤gs.length→gs.length≤12→∀ H' t sg,CU Cq H H'→LM.Tbl H' Cq D0 O8→OkT t→Ox sg t→sg.Perm gs→Asc sg→Q (.str (tx (Qk (AU (sg.filter fun g=>decide (t.pas g))) t))) H'))
theorem VF (T:Tx w K mg):Aa P w K mg base (CXE P w) 11 T.Lz T.O6 ["beach","words"] (Fh T):=by
 refine T.MI.F.okX Ol (fun _ _ _ _ h=>by walk_at "LN") ?_
 ·walk_at "I2"
  obtain ⟨b,S,P,ow,gs,past,W,ws,rfl,hb,hW,ok,tb,kE,k⟩:=h
  refine ⟨_,(AD (A5 (pcl T.Bl (Bx T) hr Aw (AA (pv 1) (AA AC AB))))
   (AD (pst 2 Ol (Eu (pv 0) T.AQ T.Cy.mt (K9 T) (hr.mono (by decide)) T.Cy.b .nil Aw))
   (AE (AI (CY PySem.F.plainAttrs_str PySem.F.slot_str_join PySem.F.type_str_join BU AN (AA (AH B7 (AH B7 (AH B7 (Ao (AA AN AB)) (pcl T.Bf (Bv T) hr AR (AA (pxi AL (pv 2) AC) AB))) (Ao (AA AN AB))) (pcl T.Dc (E1 T) hr AR (AA (pxi AL (pv 2) AC) AB))) AB)))))),?_⟩
  obtain ⟨dx,eb⟩:=hb.at_
  walk_at "Q"
  delta Ux
  refine ⟨W,ws,0,rfl,hW,ok,fun h=>kE (fun z=>h (by rw [z];rfl)) _ (AG.refl _),fun h=>?_⟩
  have h0:ws=[]:=q9.mp (by lia)
  have k:=k h0
  walk_at "NX"
  walk_at "Q"
  delta Ux
  refine ⟨dx,_,eb,rfl,b,S,P,ow,gs,past,rfl,hb,tb,fun h=>k.1 h _ (AG.refl _),fun h1 h2 D1 H1 L q t sg nL s1 tb1 ma mf=>?_⟩
  walk_at "NX"
  delta tBM Ck
  have okg:=hb.std.ok
  have bf:∀ n∈AU (sg.filter fun g=>decide (t.pas g)),n.natAbs≤10 ^ 40:=fun n hn=>by
   obtain ⟨g,hg,rfl⟩:=zZ.mp hn
   have:=(okg g (ma.hp.mem_iff.mp (zz.mp hg).1)).p9
   lia
  have lf:(AU (sg.filter fun g=>decide (t.pas g))).length≤12:=by rw [z0];exact zO (qA _ _) (by rw [ma.hp.length_eq];exact h2)
  have okt:=ma.ok
  have kk:=fun H' s tb=>k.2 h1 h2 H' t sg s tb ma.ok mf ma.hp ma.ha
  have eD:=ma.eD
  have eL:H1 L=some (.lst ((AU (sg.filter fun g=>decide (t.pas g))).map V.int)):=ma.eL
  have eq:=ma.eq
  generalize AU (sg.filter fun g=>decide (t.pas g))=ns at *
  refine ⟨tyS,by decide,fun D2 H2 n2 s2 e2=>⟨_,SqT.of (s2.get eD),_,rfl,L,ns,rfl,.inl (SqL.of (s2.get eL)),bf,by lia,fun D3 H3 n3 s3 e3=>⟨_,rfl,_,s3.get e2,_,e3,by rw [z0,z0,PySem.sizeLine_eq];show 1+_≤_;lia,fun D4 H4 n4 s4 e4=>⟨by decide,fun D5 H5 n5 s5 e5=>⟨_,s5.get e4,_,e5,?_,fun D6 H6 n6 s6 e6=>?_⟩⟩⟩⟩⟩
  ·rw [zD,z0,z0,PySem.sizeLine_eq]
   show 1+_+1≤_
   lia
  have s26:=s2.trans (s3.trans (s4.trans (s5.trans s6)))
  refine ⟨_,SqT.of (s26.get eD),_,rfl,q,t,rfl,SqT.of (s26.get eq),okt.b0,okt.d0,okt.g1,okt.g2,by have:=okt.a1;lia,by have:=okt.b1;lia,by have:=okt.c1;lia,by have:=okt.d1;lia,fun D7 H7 n7 s7 e7=>⟨_,rfl,_,s7.get e6,_,e7,?_,fun D8 H8 n8 s8 e8=>?_⟩⟩
  ·rw [zD,zD,z0,z0,PySem.sizeLine_eq]
   show 1+_+1+2≤_
   lia
  have s28:=s26.trans (s7.trans s8)
  refine ⟨[32],HK,[109,111,115,116]::(ns.map dec++[[116,104,114,111,119],frT t.a t.b,frT t.c t.d]),SqL.of (e8.trans ?_),?_,kk _ (s1.trans (CU.of s28)) (Bq tb1 s28)⟩
  ·rw [jw,WZ,show tvs ([109,111,115,116]::(ns.map dec++[[116,104,114,111,119],frT t.a t.b,frT t.c t.d]))=V.str (tx [109,111,115,116])::(tvs (ns.map dec)++tvs [[116,104,114,111,119],frT t.a t.b,frT t.c t.d]) from by rw [tvs,zU,zc],zx,zx];rfl
  have f1:=BL (x:=t.a) (y:=t.b) (by have:=okt.a1;lia) (by have:=okt.b1;lia)
  have f2:=BL (x:=t.c) (y:=t.d) (by have:=okt.c1;lia) (by have:=okt.d1;lia)
  have hs:((ns.map dec).map List.length).sum≤42*ns.length:=ES bf
  simp only [zc,List.sum_append,zD,zU,List.map_nil,zn,List.sum_nil,zB,zG,z0]
  lia
theorem Fv:AJ ["beach","words","height","rise"] ["beach","words"] (AF Gz):=by walk_at "SC"
noncomputable def aZ (ns:List Int):List Nat:=Ay [32] ([112,97,115,115,101,100]::ns.map dec)
theorem UB:Str.ofString "passed"=tx [112,97,115,115,101,100]:=by rfl
noncomputable def Df {w:World}{K:W.Frag}{mg:Str→Option Value}(T:Tx w K mg):Sp:=fun vs H Q E=>∃ (b S P:Addr) (ow:List Addr) (gs:List G) (past:List (List G)) (W:Addr) (ws:List (List Nat)),vs=[.ref b,.ref W]∧Bch T.AK H b S P ow gs past∧SqL K H W (tvs ws)∧OkW ws∧(ws.length≠2→∀ H',AG H H'→E (T.err .badrow) none H')∧∀ w1 w2,ws=[w1,w2]→(rdF w1=none→∀ H',AG H H'→E (T.err .badrow) none H')∧∀ x y,rdF w1=some (x,y)→(rdF w2=none→∀ H',AG H H'→E (T.err .badrow) none H')∧∀ z v,rdF w2=some (z,v)→(PJ x y z v→∀ H',AG H H'→E (T.err .badthrow) none H')∧(¬ PJ x y z v→∀ H',AG H H'→Q (.str (tx (aZ (AU (gs.filter (Qf x y z v)))))) H')
theorem Rt (T:Tx w K mg):Aa P w K mg base (CXE P w) 7 T.Gx T.Ku ["beach","words"] (Df T):=by
 refine T.HD.F.okX Fv (fun _ _ _ _ h=>by walk_at "LN") ?_
 ·walk_at "I2"
  obtain ⟨b,S,P,ow,gs,past,W,ws,rfl,hb,hW,ok,kE,k⟩:=h
  refine ⟨_,(AD (A5 (pcl T.Bl (Bx T) hr Aw (AA (pv 1) (AA AC AB))))
   (AD (pst 2 Fv (pcl T.EA (Gi T) hr Aw (AA (pxi AX (pv 1) AC) AB)))
   (AD (pst 3 Fv (pcl T.EA (Gi T) hr Aw (AA (pxi AX (pv 1) AC) AB)))
   (AE (AI (CY PySem.F.plainAttrs_str PySem.F.slot_str_join PySem.F.type_str_join BU AN (AA (AH B7 (Ao (AA AN AB)) (pcl T.Bf (Bv T) hr AR (AA (Aj (pv 0) T.AQ T.CF.mt (IF T) (hr.mono (by decide)) T.CF.b .nil Aw (AA (AH aO (pv 2) (pv 3)) AB)) AB))) AB))))))),?_⟩
  obtain ⟨dx,eb⟩:=hb.at_
  walk_at "Q"
  delta Ux
  refine ⟨W,ws,2,rfl,hW,ok,fun h=>kE (fun z=>h (by rw [z];rfl)) _ (AG.refl _),fun h=>?_⟩
  match ws,h with
  | [w1,w2],_ =>
   have k:=k w1 w2 rfl
   walk_at "NX"
   walk_at "Q"
   delta Ux
   have a1:=ok.1 w1 (by simp)
   have a2:=ok.1 w2 (by simp)
   refine ⟨_,hW,V.str (tx w1),rfl,w1,rfl,a1.1,a1.2,fun h H1 s1=>k.1 h _ s1,fun x y hxy D1 H1 n1 s1 e1=>?_⟩
   have k:=k.2 x y hxy
   walk_at "NX"
   walk_at "Q"
   delta Ux
   refine ⟨_,s1.seq hW,V.str (tx w2),rfl,w2,rfl,a2.1,a2.2,fun h H2 s2=>k.1 h _ (s1.trans s2),fun z v hzv D2 H2 n2 s2 e2=>?_⟩
   have k:=k.2 z v hzv
   walk_at "NX"
   delta tBM Ck
   have okg:=hb.std.ok
   have l40:=hb.std.len
   refine ⟨tyS,by decide,fun D3 H3 n3 s3 e3=>⟨dx,_,(s1.trans (s2.trans s3)).get eb,rfl,?_⟩⟩
   have s03:=s1.trans (s2.trans s3)
   unfold bR
   refine ⟨D1,D2,_,_,rfl,rfl,SqT.of ((s2.trans s3).get e1),SqT.of (s3.get e2),by simp,by rw [PySem.sizeLine_eq];show 2+2≤_;lia,fun h=>(by cases h),fun _ q n4=>?_⟩
   have s4:=Ak (o:=.tup ([V.int x,V.int y]++[V.int z,V.int v])) n4
   have e4:upd H3 q (.tup ([V.int x,V.int y]++[V.int z,V.int v])) q=some (.tup [.int x,.int y,.int z,.int v]):=AM
   generalize upd H3 q (.tup ([V.int x,V.int y]++[V.int z,V.int v]))=H4 at *
   refine ⟨b,S,P,ow,gs,past,q,x,y,z,v,rfl,hb.same (s03.trans s4),e4,fun bad=>k.1 bad _ (s03.trans s4),fun nb D5 H5 n5 s5 e5=>?_⟩
   have lf:(AU (gs.filter (Qf x y z v))).length≤40:=by rw [z0];exact zO (qA _ _) l40
   have bf:∀ n∈AU (gs.filter (Qf x y z v)),n.natAbs≤10 ^ 40:=fun n hn=>by
    obtain ⟨g,hg,rfl⟩:=zZ.mp hn
    have:=(okg g (zz.mp hg).1).p9
    lia
   have kk:=fun H' s=>k.2 nb H' s
   generalize AU (gs.filter (Qf x y z v))=ns at *
   refine ⟨D5,ns,rfl,.inl (SqL.of e5),bf,by lia,fun D6 H6 n6 s6 e6=>⟨_,rfl,_,(s4.trans (s5.trans s6)).get e3,_,e6,by rw [z0,z0,PySem.sizeLine_eq];show 1+_≤_;lia,fun D7 H7 n7 s7 e7=>⟨[32],HK,[112,97,115,115,101,100]::ns.map dec,SqL.of (by rw [UB] at e7;exact e7),?_,kk _ (s03.trans (s4.trans (s5.trans (s6.trans s7))))⟩⟩⟩
   have hs:((ns.map dec).map List.length).sum≤42*ns.length:=ES bf
   rw [zU,zn]
   simp only [zB,zG,z0]
   lia
theorem JA:AJ ["beach","row","words","asked"] ["beach","row"] (AF MA):=by walk_at "SC"
noncomputable abbrev OkL (l:List Nat):Prop:=(∀ c∈l,c<128)∧l.length≤100000
noncomputable def tx2 (s:String):List Nat:=(Str.ofString s).cps.toList
noncomputable def O0 {w:World}{K:W.Frag}{mg:Str→Option Value}(T:Tx w K mg):Sp:=fun vs H Q E=>∃ (b:Addr) (l w:List Nat) (ws:List (List Nat)),vs=[.ref b,.str (tx l)]∧OkL l∧B8 32 l=w::ws∧((w=tx2 "put"∧∀ W H1,H W=none→AG H H1→H1 W=some (.lst (tvs ws))→G9 T [.ref b,.ref W] H1 Q E)∨(w=tx2 "take"∧∀ W H1,H W=none→AG H H1→H1 W=some (.lst (tvs ws))→FX T [.ref b,.ref W] H1 Q E)∨(w=tx2 "lift"∧∀ W H1,H W=none→AG H H1→H1 W=some (.lst (tvs ws))→FT T [.ref b,.ref W] H1 Q E)∨(w=tx2 "sink"∧∀ W H1,H W=none→AG H H1→H1 W=some (.lst (tvs ws))→Fc T [.ref b,.ref W] H1 Q E)∨(w=tx2 "back"∧∀ W H1,H W=none→AG H H1→H1 W=some (.lst (tvs ws))→FS T [.ref b,.ref W] H1 Q E)∨(w=tx2 "deeds"∧∀ W H1,H W=none→AG H H1→H1 W=some (.lst (tvs ws))→ER T [.ref b,.ref W] H1 Q E)∨(w=tx2 "gates"∧∀ W H1,H W=none→AG H H1→H1 W=some (.lst (tvs ws))→Ea T [.ref b,.ref W] H1 Q E)∨(w=tx2 "through"∧∀ W H1,H W=none→AG H H1→H1 W=some (.lst (tvs ws))→Cu T [.ref b,.ref W] H1 Q E)∨(w=tx2 "steepest"∧∀ W H1,H W=none→AG H H1→H1 W=some (.lst (tvs ws))→Ca T [.ref b,.ref W] H1 Q E)∨(w=tx2 "flattest"∧∀ W H1,H W=none→AG H H1→H1 W=some (.lst (tvs ws))→CZ T [.ref b,.ref W] H1 Q E)∨(w=tx2 "runs"∧∀ W H1,H W=none→AG H H1→H1 W=some (.lst (tvs ws))→FP T [.ref b,.ref W] H1 Q E)∨(w=tx2 "most"∧∀ W H1,H W=none→AG H H1→H1 W=some (.lst (tvs ws))→Fh T [.ref b,.ref W] H1 Q E)∨(w=tx2 "passed"∧∀ W H1,H W=none→AG H H1→H1 W=some (.lst (tvs ws))→Df T [.ref b,.ref W] H1 Q E)∨(Dk.lookup (tx w)=none∧∀ H1,AG H H1→E (T.err .badrow) none H1))
theorem T6 (T:Tx w K mg):Aa P w K mg base (CXE P w) 12 T.Qw T.OV ["beach","row"] (O0 T):=by
 refine T.G8.F.okX JA (fun _ _ _ _ h=>by walk_at "LN") ?_
 ·walk_at "I2"
  obtain ⟨b,l,w,ws,rfl,ok,hc,k⟩:=h
  refine ⟨_,(AD (pst 2 JA (CY PySem.F.plainAttrs_str PySem.F.slot_str_split PySem.F.type_str_split Uj (pv 1) (AA AN AB)))
   (AD (pst 3 JA (aR T.gA (by rfl) T.VW (pxi AX (pv 2) AC) ⟨rfl,rfl,rfl,rfl⟩))
   (AD (Ae (ptc OK (pv 3) Fp) (AE (A1 C4 rfl T.Mn (by rfl) T.IY (AA AN AB)))
    AS)
   (AE (AI (Yo (k:=11) (.cons T.Nc (WG T) (.cons T.Lr (U1 T) (.cons T.Ln (Ui T) (.cons T.Lj (Ud T) (.cons T.Lc (UG T) (.cons T.Je (TH T) (.cons T.IZ (Sz T) (.cons T.F8 (QL T) (.cons T.El (PM T) (.cons T.Ez (PU T) (.cons T.Lp (T4 T) (.cons T.MI (VF T) (.cons T.HD (Rt T) .nil))))))))))))) (hr.mono (by decide)) Aw (pv 3) (AA (pv 0) (AA (Ct Et (pv 2) (EK AC) Eg) AB)))))))),?_⟩
  walk_at "Q"
  delta tBM VT
  refine ⟨tyS,l,rfl,32,HK,by have:=ok.2;rw [PySem.sizeLine_eq];lia,fun L H1 n1 s1 e1=>?_⟩
  rw [hc] at e1
  walk_at "NX"
  have nd:∀ {c:Addr},H1 c=none→H c=none:=fun n=>s1.free n
  walk_at "Q"
  delta bB
  refine ⟨_,SqL.of e1,_,Cd (j:=0) rfl,tx w,rfl,?_⟩
  have go:∀ (f:Addr) (sp:Sp),(f,sp)∈[(T.Nq,G9 T),(T.Ll,FX T),(T.Lo,FT T),(T.MH,Fc T),(T.L8,FS T),(T.Ja,ER T),(T.JM,Ea T),(T.Fu,Cu T),(T.FI,Ca T),(T.Es,CZ T),(T.L5,FP T),(T.Lz,Fh T),(T.Gx,Df T)]→(∀ W H1,H W=none→AG H H1→H1 W=some (.lst (tvs ws))→sp [.ref b,.ref W] H1 Q E)→M [some (V.ref b),some (V.str (tx l)),some (V.ref L),some (V.ref f)] H1:=fun f sp hm kk=>by
   refine hM _ _ ?_
   clear hM M
   walk_at "Q"
   delta VO
   rw [if_neg (fun z=>by cases (zH z))]
   walk_at "NX"
   delta VO
   exact ⟨_,hm,rfl,_,SqL.of e1,fun W H2 n2 s2 e2=>kk W H2 (s1.free n2) (s1.trans s2) (by rw [e2];exact congrArg (fun z=>some (HO.lst z)) (KB (i:=1)))⟩
  rcases k with ⟨rfl,k⟩ | ⟨rfl,k⟩ | ⟨rfl,k⟩ | ⟨rfl,k⟩ | ⟨rfl,k⟩ | ⟨rfl,k⟩ | ⟨rfl,k⟩ | ⟨rfl,k⟩ | ⟨rfl,k⟩ | ⟨rfl,k⟩ | ⟨rfl,k⟩ | ⟨rfl,k⟩ | ⟨rfl,k⟩ | ⟨hn,k⟩
  ·rw [show Dk.lookup (tx (tx2 "put"))=some "put_row" by decide +kernel]
   exact ⟨_,T.Nc.m,go _ (G9 T) (by simp) k⟩
  ·rw [show Dk.lookup (tx (tx2 "take"))=some "take_row" by decide +kernel]
   exact ⟨_,T.Lr.m,go _ (FX T) (by simp) k⟩
  ·rw [show Dk.lookup (tx (tx2 "lift"))=some "lift_row" by decide +kernel]
   exact ⟨_,T.Ln.m,go _ (FT T) (by simp) k⟩
  ·rw [show Dk.lookup (tx (tx2 "sink"))=some "sink_row" by decide +kernel]
   exact ⟨_,T.Lj.m,go _ (Fc T) (by simp) k⟩
  ·rw [show Dk.lookup (tx (tx2 "back"))=some "back_row" by decide +kernel]
   exact ⟨_,T.Lc.m,go _ (FS T) (by simp) k⟩
  ·rw [show Dk.lookup (tx (tx2 "deeds"))=some "deeds_row" by decide +kernel]
   exact ⟨_,T.Je.m,go _ (ER T) (by simp) k⟩
  ·rw [show Dk.lookup (tx (tx2 "gates"))=some "gates_row" by decide +kernel]
   exact ⟨_,T.IZ.m,go _ (Ea T) (by simp) k⟩
  ·rw [show Dk.lookup (tx (tx2 "through"))=some "through_row" by decide +kernel]
   exact ⟨_,T.F8.m,go _ (Cu T) (by simp) k⟩
  ·rw [show Dk.lookup (tx (tx2 "steepest"))=some "steepest_row" by decide +kernel]
   exact ⟨_,T.El.m,go _ (Ca T) (by simp) k⟩
  ·rw [show Dk.lookup (tx (tx2 "flattest"))=some "flattest_row" by decide +kernel]
   exact ⟨_,T.Ez.m,go _ (CZ T) (by simp) k⟩
  ·rw [show Dk.lookup (tx (tx2 "runs"))=some "runs_row" by decide +kernel]
   exact ⟨_,T.Lp.m,go _ (FP T) (by simp) k⟩
  ·rw [show Dk.lookup (tx (tx2 "most"))=some "most_row" by decide +kernel]
   exact ⟨_,T.MI.m,go _ (Fh T) (by simp) k⟩
  ·rw [show Dk.lookup (tx (tx2 "passed"))=some "passed_row" by decide +kernel]
   exact ⟨_,T.HD.m,go _ (Df T) (by simp) k⟩
  ·rw [hn]
   refine hM _ _ ?_
   clear go hM M
   walk_at "Q"
   delta Ux
   exact ⟨by decide,k _ s1⟩
theorem Rq:AJ ["beach","row"] ["beach","row"] (AF HJ):=by walk_at "SC"
noncomputable def V7:Err→Str
 | .badrow=>"refused: bad row"
 | .nogate=>"refused: no gate"
 | .taken=>"refused: taken"
 | .upside=>"refused: upside down"
 | .bounds=>"refused: out of bounds"
 | .full=>"refused: beach full"
 | .deeds=>"refused: deeds full"
 | .nothing=>"refused: nothing back"
 | .badlist=>"refused: bad list"
 | .few=>"refused: too few"
 | .size=>"refused: wrong size"
 | .badthrow=>"refused: bad throw"
noncomputable def BH {w:World}{K:W.Frag}{mg:Str→Option Value}(T:Tx w K mg):Sp:=fun vs H Q _=>∃ (b:Addr) (x:Str),vs=[.ref b,.str x]∧∀ E:XK,(∀ e H',Q (.str (V7 e)) H'→E (T.err e) none H')→O0 T vs H Q E
theorem Rs (T:Tx w K mg):Aa P w K mg base CX0 13 T.NE T.LV ["beach","row"] (BH T):=by
 refine T.NF.F.ok Rq (fun _ _ _ _ h=>by walk_at "LN") ?_
 ·walk_at "I2"
  obtain ⟨b,x,rfl,k⟩:=h
  refine ⟨_,(AE (hV rfl rfl (fun _ _ _ hp=>(AE (AI (VG (T6 T) (hr.mono (by decide)) (by rfl) T.G8.m T.G8.F.kp T.G8.b .nil hp (AA (pv 0) (AA (pv 1) AB))))))
    (PHs.cons (by rfl) T.IY (by decide) (fun _ _=>(AE (AI AN))) (PHs.cons (by rfl) T.VE (by decide) (fun _ _=>(AE (AI AN))) (PHs.cons (by rfl) T.Wz (by decide) (fun _ _=>(AE (AI AN))) (PHs.cons (by rfl) T.M4 (by decide) (fun _ _=>(AE (AI AN))) (PHs.cons (by rfl) T.GD (by decide) (fun _ _=>(AE (AI AN))) (PHs.cons (by rfl) T.OW (by decide) (fun _ _=>(AE (AI AN))) (PHs.cons (by rfl) T.Og (by decide) (fun _ _=>(AE (AI AN))) (PHs.cons (by rfl) T.Km (by decide) (fun _ _=>(AE (AI AN))) (PHs.cons (by rfl) T.KA (by decide) (fun _ _=>(AE (AI AN))) (PHs.cons (by rfl) T.UP (by decide) (fun _ _=>(AE (AI AN))) (PHs.cons (by rfl) T.Oj (by decide) (fun _ _=>(AE (AI AN))) (PHs.cons (by rfl) T.L6 (by decide) (fun _ _=>(AE (AI AN))) PHs.nil)))))))))))))),?_⟩
  delta tTry WI
  refine k _ fun e H' hq=>?_
  cases e
  case badrow=>exact Bu T.xs 0 rfl rfl rfl hq
  case nogate=>exact Bu T.xs 1 rfl rfl rfl hq
  case taken=>exact Bu T.xs 2 rfl rfl rfl hq
  case upside=>exact Bu T.xs 3 rfl rfl rfl hq
  case bounds=>exact Bu T.xs 4 rfl rfl rfl hq
  case full=>exact Bu T.xs 5 rfl rfl rfl hq
  case deeds=>exact Bu T.xs 6 rfl rfl rfl hq
  case nothing=>exact Bu T.xs 7 rfl rfl rfl hq
  case badlist=>exact Bu T.xs 8 rfl rfl rfl hq
  case few=>exact Bu T.xs 9 rfl rfl rfl hq
  case size=>exact Bu T.xs 10 rfl rfl rfl hq
  case badthrow=>exact Bu T.xs 11 rfl rfl rfl hq
theorem Tb:AJ ["self"] ["self"] (AF Il):=by walk_at "SC"
noncomputable def NS {w:World}{K:W.Frag}{mg:Str→Option Value}(T:Tx w K mg):Sp:=fun vs H Q _=>∃ (d dx:Addr),vs=[.ref d]∧H d=some (.ins T.B3 dx [])∧∀ H' b S P,H b=none→H S=none→H P=none→(∀ a u,a≠d→H a=some u→H' a=some u)→H' d=some (.ins T.B3 dx [("beach",.ref b)])→Bch T.AK H' b S P [S,P] [] []→Q .non H'
theorem Z4 {w:World}{K:W.Frag}{mg:Str→Option Value}{T:Tx w K mg}{H:Hp}{Q:Addr→Hp→Prop}{E:XK}(k:∀ d dx b S P H',H d=none→H b=none→H S=none→H P=none→AG H H'→H' d=some (.ins T.B3 dx [("beach",.ref b)])→Bch T.AK H' b S P [S,P] [] []→Q d H') :
  ∀ x dx,H x=none→H dx=none→dx≠x→NS T [V.ref x] (upd (upd H dx (.own x)) x (.ins T.B3 dx [])) (fun v H2=>v=V.non∧Q x H2) E:=fun x dx nx nd hd=>by
 have fr:∀ {c:Addr},upd (upd H dx (.own x)) x (.ins T.B3 dx []) c=none→H c=none:=fun {c} n=>by
  have h1:c≠x:=fun z=>by rw [z,AM] at n;cases n
  have h2:c≠dx:=fun z=>by rw [AO h1,z,AM] at n;cases n
  rwa [AO h1,AO h2] at n
 refine ⟨x,dx,rfl,AM,fun H' b S P nb nS nP kp eb hb=>⟨rfl,k x dx b S P H' nx (fr nb) (fr nS) (fr nP) (fun a u e=>kp a u (Af e nx) ?_) eb hb⟩⟩
 rw [AO (Af e nx),AO (Af e nd)]
 exact e
theorem To (T:Tx w K mg):Aa P w K mg base CX0 3 T.JN T.Mq ["self"] (NS T):=by
 refine T.Op.F.ok Tb (fun _ _ _ _ h=>by walk_at "LN") ?_
 ·walk_at "I2"
  obtain ⟨d,dx,rfl,ed,k⟩:=h
  refine ⟨_,(AE (Ng (pv 0) (RF T.MW (K4 T) (hr.mono (by decide)) (by rfl) T.Wu T.HX.b .nil AR) rfl)),?_⟩
  delta Ux
  refine VA fun b S P H1 nb nS nP s1 hb=>?_
  refine ⟨_,_,_,s1.get ed,T.Da,T.NG,by decide,?_⟩
  have bd:b≠d:=fun z=>by rw [z,ed] at nb;cases nb
  have Sd:S≠d:=fun z=>by rw [z,ed] at nS;cases nS
  have Pd:P≠d:=fun z=>by rw [z,ed] at nP;cases nP
  refine k _ b S P nb nS nP (fun a u h1 h2=>(AO h1).trans (s1 a u h2)) AM (hb.keep fun a u hc e=>(AO ?_).trans e)
  rcases hc with rfl | hc | ⟨xs,rfl⟩
  ·exact bd
  ·simp only [zF,zf,or_false] at hc
   rcases hc with rfl | rfl<;>assumption
  ·intro z;rw [z,s1.get ed] at e;cases e
theorem QD:AJ ["self","row"] ["self","row"] (AF F0):=by walk_at "SC"
noncomputable def Q4 {w:World}{K:W.Frag}{mg:Str→Option Value}(T:Tx w K mg):Sp:=fun vs H Q E=>∃ (d dx b:Addr) (x:Str),vs=[.ref d,.str x]∧H d=some (.ins T.B3 dx [("beach",.ref b)])∧BH T [.ref b,.str x] H Q E
theorem BA (T:Tx w K mg):Aa P w K mg base CX0 14 T.LZ T.Ju ["self","row"] (Q4 T):=by
 refine T.Ad.F.ok QD (fun _ _ _ _ h=>by walk_at "LN") ?_
 ·walk_at "I2"
  obtain ⟨d,dx,b,x,rfl,ed,k⟩:=h
  refine ⟨_,(AE (AI (pcl T.NF (Rs T) hr AR (AA (Bm (pv 0) rfl) (AA (pv 1) AB))))),?_⟩
  delta Ux
  exact ⟨_,dx,_,ed,T.Da,T.NG,_,rfl,k⟩
theorem Zk:AJ ["_law_script","_law_k"] ["_law_script","_law_k"] (AF V1):=by walk_at "SC"
noncomputable def NQ (K:W.Frag):Sp:=fun vs H Q _=>∃ (a:Addr) (k:Int) (ns:List Int),vs=[.ref a,.int k]∧0≤k∧SqL K H a (ns.map V.int)∧Q (.int (ns.getD k.toNat 0)) H
theorem J6 (T:Tx w K mg):Aa P w K mg base CX0 1 T.YV T.WM ["_law_script","_law_k"] (NQ K):=by
 refine T.Lw.F.ok Zk (fun _ _ _ _ h=>by walk_at "LN") ?_
 ·walk_at "I2"
  obtain ⟨a,k,ns,rfl,h0,hS,hq⟩:=h
  refine ⟨_,(AD (Ae (ptc E7 (pv 1) (AT AW (by rfl) T.BN A0 (AA (pv 0) AB))) (AE (AI (pxi AX (pv 0) (pv 1))))
    AS)
   (AE (AI AC))),?_⟩
  delta Ux
  refine ⟨_,Or.inl hS,?_⟩
  obtain ⟨k,rfl⟩:=Int.eq_ofNat_of_zero_le h0
  rw [z0]
  by_cases hk:k<ns.length
  ·rw [if_pos (by simpa using hk)]
   refine ⟨_,hS,_,Cd (v:=V.int (ns.getD k 0)) ?_,hq⟩
   rw [zN,z9 hk,zR,z9 hk]
   rfl
  ·rw [if_neg (by simpa using hk)]
   rw [qK,zR,List.getElem?_eq_none (by lia)] at hq
   exact hq
theorem CB:AJ ["_law_cell","_law_many","_law_mixed","_law_row","_law_left","_law_once","_law_k"] ["_law_cell","_law_many","_law_mixed"] (AF Ls):=by walk_at "SC"
noncomputable def Fj:Sp:=fun vs H Q _=>∃ (c m:Int) (b:Bool),vs=[.int c,.int m,.bl b]∧0≤m∧m≤100∧∀ D H' (xs:List Int),H D=none→AG H H'→H' D=some (.lst (xs.map V.int))→xs.length=m.toNat→(∀ x∈xs,0≤x∧x<4004001)→Q (.ref D) H'
noncomputable def W_spr (c m:Int)(b:Bool)(D:Addr)(H:Hp):Nat→St→Hp→Prop:=fun i σ H'=>∃ (xs:List Int) (lf on:Int) (k:Option V),σ=[some (.int c),some (.int m),some (.bl b),some (.ref D),some (.int lf),some (.int on),k]∧AG H H'∧H' D=some (.lst (xs.map V.int))∧xs.length=i∧(∀ x∈xs,0≤x∧x<4004001)∧0≤on∧on<2147483647
theorem JV (T:Tx w K mg):Aa P w K mg base CX0 1 T.Pt T.OR ["_law_cell","_law_many","_law_mixed"] Fj:=by
 refine T.HG.F.ok CB (fun _ _ _ _ h=>by walk_at "LN") ?_
 ·walk_at "I2"
  obtain ⟨c,m,b,rfl,h0,h1,k⟩:=h
  refine ⟨_,(AD (pst 3 CB (Ao AB))
   (AD (pst 4 CB (pv 0))
   (AD (pst 5 CB (AH Aq (pv 0) AC))
   (AD (Bo PassesOwn.never rfl (DF (by rfl) T.EX (AA (pv 1) AB)) (pgn 6 CB)
    (AD (pst 5 CB (AH Aq (AH Ap (AH Ap (AH Qj (pv 5) AC) AC) (pv 6)) AC))
     (AE (Ae (EC (pv 2)) (AE (A5 (DT (pv 3) (AH Aq (AH Aq (AH Ap (AH Qj (pv 5) AC) (pv 6)) AC) AC))))
      (AD (A5 (DT (pv 3) (AH Aq (pv 4) AC)))
       (AE (pst 4 CB (AH EU (pv 4) AC))))))))
   (AE (AI (pv 3))))))),?_⟩
  delta Ux
  walk_at "AUTO"
  refine ⟨_,rfl,m,rfl,by lia,by lia,CM (n:=m.toNat) (W_spr c m b p H) ⟨[],_,_,none,rfl,hs,he,rfl,fun _ z=>absurd z (by simp),by lia,by lia⟩ ?_ ?_⟩
  ·rintro i σ H1 hi ⟨xs,lf,on,k',rfl,s1,e1,hl,hb,o1,o2⟩
   have hz:(xs.map V.int).length<sizeLine:=by rw [z0,PySem.sizeLine_eq];lia
   delta Ux
   walk_at "AUTO"
   cases b
   ·rw [if_neg (by decide)]
    refine ⟨⟨_,e1⟩,_,e1,hz,?_⟩
    walk_at "AUTO"
    refine ⟨xs++[lf % 4004001],_,_,_,rfl,s1.updFresh hn,?_,by rw [zD,hl];rfl,fun z hz=>(zb.mp hz).elim (hb z) (fun q=>by rw [zI.mp q];lia),by lia,by lia⟩
    rw [AM,zc];rfl
   ·rw [if_pos rfl]
    refine ⟨⟨_,e1⟩,_,e1,hz,?_⟩
    walk_at "AUTO"
    refine ⟨xs++[((on*48271+11+(0+(i:Int))) % 2147483647*69621+(0+(i:Int))) % 2147483647 % 4004001],_,_,_,rfl,s1.updFresh hn,?_,by rw [zD,hl];rfl,fun z hz=>(zb.mp hz).elim (hb z) (fun q=>by rw [zI.mp q];lia),by lia,by lia⟩
    rw [AM,zc];rfl
  ·rintro σ H1 ⟨xs,lf,on,k',rfl,s1,e1,hl,hb,o1,o2⟩
   delta Ux
   exact k _ _ xs hn s1 e1 hl hb
theorem HR:AJ ["_law_kind","_law_line","_law_wide","_law_low","_law_high","_law_under","_law_over"] ["_law_kind","_law_line","_law_wide","_law_low","_law_high"] (AF JE):=by walk_at "SC"
noncomputable def NZ:Sp:=fun vs H Q _=>∃ kd ln wd lo hi:Int,vs=[.int kd,.int ln,.int wd,.int lo,.int hi]∧0<wd∧wd<10000∧∀ D H' f h,AG H H'→H' D=some (.tup [.int f,.int h])→Q (.ref D) H'
theorem Ta (T:Tx w K mg):Aa P w K mg base CX0 1 T.On T.NC ["_law_kind","_law_line","_law_wide","_law_low","_law_high"] NZ:=by
 refine T.Od.F.ok HR (fun _ _ _ _ h=>by walk_at "LN") ?_
 ·walk_at "I2"
  obtain ⟨kd,ln,wd,lo,hi,rfl,h0,h1,k⟩:=h
  refine ⟨_,(AD (pst 5 HR (AH EU (pv 1) (pv 2)))
   (AD (pst 6 HR (GR DR (AH EU (GR DR (pv 1)) (pv 2))))
   (AD (Ae (ptc Bg (pv 0) AC) (AE (AI (Ag (AA (AH Ax (AH Aq (pv 3) AC) AC) (AA (AH Ap (AH Ax (AH Aq (pv 3) AC) AC) (AH Aq (pv 4) AC)) AB)))))
    AS)
   (AD (Ae (ptc Bg (pv 0) AC) (AE (AI (Ag (AA (AH Ax (AH Aq (pv 3) AC) AC) (AA (AH Ap (AH Ax (AH Aq (pv 3) AC) AC) (AH Aq (pv 4) AC)) AB)))))
    AS)
   (AD (Ae (YG (ptc Bg (pv 0) AC) (Wj (ptc Bg (AH Aq (pv 3) AC) AC))).pt (AE (AI (Ag (AA (pv 6) (AA (AH Ap (pv 6) (AH Aq (pv 4) AC)) AB)))))
    AS)
   (AD (Ae (ptc Bg (pv 0) AC) (AE (AI (Ag (AA (AH Ax (pv 5) (AH Aq (pv 4) AC)) (AA (pv 5) AB)))))
    AS)
   (AE (AI (Ag (AA (AH Ax (pv 5) (AH Aq (pv 3) AC)) (AA (AH Ap (pv 6) (AH Aq (pv 4) AC)) AB))))))))))),?_⟩
  walk_at "Q"
  delta Ux
  walk_at "AUTO"
  walk_at "NX"
  walk_at "Q"
  delta Ux
  walk_at "AUTO"
  walk_at "NX"
  delta Ux
  walk_at "AUTO"
  repeat' (first | split | exact k _ _ _ _ (by assumption) (by assumption) | walk_at "STEP")
theorem Ai:AJ ["_law_script","_law_at_here","_law_many","_law_cell","_law_kind","_law_places","_law_lows","_law_highs","_law_span","_law_near","_law_ends","_law_made","_law_used","_law_k","_law_place","_law_step","_law_line","_law_foot","_law_head"] ["_law_script","_law_at_here","_law_many"] (AF Nv):=by walk_at "SC"
noncomputable def Q5 (K:W.Frag):Sp:=fun vs H Q _=>∃ (a:Addr) (at' many:Int) (ns:List Int),vs=[.ref a,.int at',.int many]∧SqL K H a (ns.map V.int)∧0≤at'∧at'≤63∧0≤many∧many≤41∧∀ D H' as gs,H D=none→AG H H'→H' D=some (.lst (as.map V.ref))→Am H' as gs→gs.length=many.toNat→(∀ g∈gs,OkG g)→(gs.map G.p).Nodup→Q (.ref D) H'
noncomputable def Cf (fr:St)(H:Hp):St→Hp→Prop:=fun σ H'=>∃ f h:Int,σ=fr++[some (.int f),some (.int h)]∧H'=H
structure Gb (many span near e0 e1:Int):Prop where
 s0:2≤span
 s1:span≤2001
 s2:many≤span
 n0:-1000≤near
 n1:near+span≤1001
 b0:e0.natAbs≤1000
 b1:e1.natAbs≤10000
structure Gl (H':Hp)(P L R E:Addr)(ps ls rs:List Int)(e0 e1:Int):Prop where
 eP:H' P=some (.lst (ps.map V.int))
 eL:H' L=some (.lst (ls.map V.int))
 eR:H' R=some (.lst (rs.map V.int))
 eE:H' E=some (.lst [.int e0,.int e1])
theorem Gl.same {H H':Hp}{P L R E:Addr}{ps ls rs:List Int}{e0 e1:Int}(g:Gl H P L R E ps ls rs e0 e1)(s:AG H H'):Gl H' P L R E ps ls rs e0 e1:=⟨s.get g.eP,s.get g.eL,s.get g.eR,s.get g.eE⟩
noncomputable def Cg (a P L R:Addr)(at' many cl:Int)(ps ls rs:List Int)(H:Hp):St→Hp→Prop:=fun σ H'=>∃ (E:Addr) (span near e0 e1:Int),σ=[some (.ref a),some (.int at'),some (.int many),some (.int cl),some (.int (cl / 2 % 5)),some (.ref P),some (.ref L),some (.ref R),some (.int span),some (.int near),some (.ref E),none,none,none,none,none,none,none,none]∧AG H H'∧Gl H' P L R E ps ls rs e0 e1∧Gb many span near e0 e1
structure Gm (H':Hp)(M U:Addr)(as:List Addr)(gs:List G)(kvs:List (Key×V))(near span:Int)(i:Nat):Prop where
 eM:H' M=some (.lst (as.map V.ref))
 at_:Am H' as gs
 eU:H' U=some (.dK kvs)
 len:gs.length=i
 kl:kvs.length≤i
 keys:∀ z:Int,(Ed kvs (Sum.inl z:Key)).isSome=true↔z∈gs.map G.p
 ok:∀ g∈gs,OkG g
 nd:(gs.map G.p).Nodup
 stretch:∀ g∈gs,near≤g.p∧g.p<near+span
noncomputable def Wg (a P L R E M U:Addr)(at' many cl span near:Int)(H:Hp):Nat→St→Hp→Prop:=fun i σ H'=>∃ (as:List Addr) (gs:List G) (kvs:List (Key×V)) (x1 x2 x3 x4 x5 x6:Option V),σ=[some (.ref a),some (.int at'),some (.int many),some (.int cl),some (.int (cl / 2 % 5)),some (.ref P),some (.ref L),some (.ref R),some (.int span),some (.int near),some (.ref E),some (.ref M),some (.ref U),x1,x2,x3,x4,x5,x6]∧AG H H'∧Gm H' M U as gs kvs near span i
noncomputable def Wi (a P L R E M U:Addr)(at' many cl span near:Int)(gs:List G)(kk p0:Int)(x4 x5 x6:Option V)(H:Hp):Nat→St→Hp→Prop:=fun j σ H'=>∃ (pl:Int) (x3:Option V),σ=[some (.ref a),some (.int at'),some (.int many),some (.int cl),some (.int (cl / 2 % 5)),some (.ref P),some (.ref L),some (.ref R),some (.int span),some (.int near),some (.ref E),some (.ref M),some (.ref U),some (.int kk),some (.int pl),x3,x4,x5,x6]∧H'=H∧near≤pl∧pl<near+span ∧
 (pl∉gs.map G.p∨(pl=near+(p0-near+j) % span∧∀ t:Nat,t<j→near+(p0-near+t) % span∈gs.map G.p))
theorem VU (T:Tx w K mg):Aa P w K mg base CX0 2 T.SA T.Qq ["_law_script","_law_at_here","_law_many"] (Q5 K):=by
 refine T.Sc.F.ok Ai (fun _ _ _ _ h=>by walk_at "LN") ?_
 ·walk_at "I2"
  obtain ⟨a,at',many,ns,rfl,hS,a0,a1,m0,m1,k⟩:=h
  refine ⟨_,(AD (pst 3 Ai (pcl T.Lw (J6 T) hr AR (AA (pv 0) (AA (pv 1) AB))))
   (AD (pst 4 Ai (AH Aq (AH EU (pv 3) AC) AC))
   (AD (pst 5 Ai (pcl T.HG (JV T) hr AR (AA (pcl T.Lw (J6 T) hr AR (AA (pv 0) (AA (AH Ap (pv 1) AC) AB))) (AA (AH Ap (pv 2) AC) (AA (pec Bg (AH Aq (pv 3) AC) AC) AB)))))
   (AD (pst 6 Ai (pcl T.HG (JV T) hr AR (AA (pcl T.Lw (J6 T) hr AR (AA (pv 0) (AA (AH Ap (pv 1) AC) AB))) (AA (AH Ap (pv 2) AC) (AA (pec Bg (AH Aq (pv 3) AC) AC) AB)))))
   (AD (pst 7 Ai (pcl T.HG (JV T) hr AR (AA (pcl T.Lw (J6 T) hr AR (AA (pv 0) (AA (AH Ap (pv 1) AC) AB))) (AA (AH Ap (pv 2) AC) (AA (pec Bg (AH Aq (pv 3) AC) AC) AB)))))
   (AD (pst 8 Ai (AT (Nl (by rfl)) (by rfl) T.Wd Vw (AA AC (AA (pxi AX (Ao (AA (AH Ap (pv 2) (AH Aq (pxi AX (pv 5) (pv 2)) AC)) (AA AC AB))) (AH Aq (AH EU (pv 3) AC) AC)) AB))))
   (AD (pst 9 Ai (AH Ax (AH Aq (pxi AX (pv 5) (AH Ap (pv 2) AC)) (AH Ax AC (pv 8))) AC))
   (AD (pst 10 Ai (Ao (AA (AH Ax (AH Aq (pxi AX (pv 6) (pv 2)) AC) AC) (AA (AH Ax (AH Aq (pxi AX (pv 7) (pv 2)) AC) AC) AB))))
   (Jy (Ae (ptc Bg (pv 4) AC) (AE (Ys (AH Ap (pxi AX (pv 10) AC) (AH Qj (AH Ax (AH Aq (pxi AX (pv 10) AC) AC) AC) (AH Ax (pv 8) AC))) (c5 (pv 10) AC Yh)))
    AS)
   (AD (pst 11 Ai (Ao AB))
   (AD (pst 12 Ai YK)
   (AD (Bo PassesOwn.never rfl (DF (by rfl) T.EX (AA (pv 2) AB)) (pgn 13 Ai)
    (AD (pst 14 Ai (AH Ap (pv 9) (AH Aq (pxi AX (pv 5) (pv 13)) (pv 8))))
     (AD (Bo PassesOwn.never rfl (DF (by rfl) T.EX (AA (pv 13) AB)) (pgn 15 Ai)
      (AE (Ae (iB (ia hu (pv 14) (pv 12))) (AE (pst 14 Ai (AH Ap (pv 9) (AH Aq (AH Ap (AH Ax (pv 14) (pv 9)) AC) (pv 8)))))
        AS)))
     (AD (Zy hu (pv 12) (pv 14) Jb rfl)
     (AD (pst 16 Ai (AH Ap (AH Qj (pxi AX (pv 10) AC) (AH Ax (pv 8) AC)) (AH Qj (AH Ax (pxi AX (pv 10) AC) (pxi AX (pv 10) AC)) (AH Ax (pv 14) (pv 9)))))
     (AD (Ys (pcl T.Od (Ta T) hr AR (AA (pv 4) (AA (pv 16) (AA (AH Ax (pv 8) AC) (AA (pxi AX (pv 6) (pv 13)) (AA (pxi AX (pv 7) (pv 13)) AB)))))) (TR (n:=2) rfl (Dr (pgn 17 Ai) (Dr (pgn 18 Ai) Pp))))
     (Jy (Ae (YG (ptc Bg (pv 4) AC) (Wj (ptc Bg (pv 13) (AH Aq (pxi AX (pv 6) (AH Ap (pv 2) AC)) (pv 2))))).pt (AD (pst 17 Ai (AH Ax (AH Ap (pv 17) (AH Aq (pxi AX (pv 7) (AH Ap (pv 2) AC)) AC)) AC))
       (AE (pst 18 Ai (AH Ax (AH Ap (pv 18) (AH Aq (pxi AX (pv 7) (AH Ap (pv 2) AC)) AC)) AC))))
      AS)
     (AD (pst 17 Ai (AT (Nl (by rfl)) (by rfl) T.Wd Vw (AA (GR DR AC) (AA (AT (Sv (by rfl)) (by rfl) T.bU YX (AA AC (AA (pv 17) AB))) AB))))
     (AE (A5 (DT (pv 11) (Ag (AA (pv 14) (AA (pv 17) (AA (AT (Nl (by rfl)) (by rfl) T.Wd Vw (AA (pv 17) (AA (AT (Sv (by rfl)) (by rfl) T.bU YX (AA AC (AA (pv 18) AB))) AB))) AB)))))))))))))))
   (AE (AI (pv 11))))))))))))))),?_⟩
  walk_at "Q"
  delta NQ
  walk_at "AUTO"
  walk_at "NX"
  walk_at "Q"
  delta Ux
  walk_at "NX"
  walk_at "Q"
  delta NQ Fj
  walk_at "AUTO"
  intro P H1 ps nP s1 eP lP _
  walk_at "NX"
  walk_at "Q"
  delta NQ Fj
  walk_at "AUTO"
  intro L H2 ls nL s2 eL lL _
  walk_at "NX"
  walk_at "Q"
  delta NQ Fj
  walk_at "AUTO"
  intro R H3 rs nR s3 eR lR _
  walk_at "NX"
  walk_at "Q"
  delta Ux
  walk_at "AUTO"
  obtain ⟨sp,hsp,hsp2⟩:=atL2 (x:=many+ps.getD many.toNat 0 % 9) (y:=2001) (e:=ns.getD at'.toNat 0 / 10 % 2) (by lia) (by lia)
  walk_at "AUTO"
  have hspB:2≤(if sp>2 then sp else 2)∧(if sp>2 then sp else 2)≤2001∧many≤(if sp>2 then sp else 2):=by split<;>lia
  generalize (if sp>2 then sp else 2)=span at hspB ⊢
  obtain ⟨hb1,hb2,hb3⟩:=hspB
  walk_at "NX"
  walk_at "Q"
  delta Ux
  walk_at "AUTO"
  walk_at "NX"
  have hnear:=Int.emod_nonneg (ps.getD (many+1).toNat 0) (show (2002-span)≠0 by lia)
  have hnear2:=Int.emod_lt_of_pos (ps.getD (many+1).toNat 0) (show 0<2002-span by lia)
  generalize ps.getD (many+1).toNat 0 % (2002-span)=nr at hnear hnear2 ⊢
  walk_at "Q"
  delta Ux
  walk_at "AUTO"
  walk_at "NX"
  have hp0:H p=none:=AG.free (by walk_at "SAME") hn
  refine ⟨Cg a P L R at' many (ns.getD at'.toNat 0) ps ls rs H,?_,?_⟩
  ·delta Ux
   split
   ·walk_at "AUTO"
    have hq:=Ch (show ((rs.getD many.toNat 0 % 2001-1000) % 7-3).natAbs≤3 by lia) (show (span-1).natAbs≤2000 by lia)
    refine ⟨p,span,_,_,_,rfl,AG.updFresh (by walk_at "SAME") hp0,⟨?_,?_,?_,AM⟩,⟨hb1,hb2,hb3,by lia,by lia,by lia,?_⟩⟩
    ·rw [AO (Af (o:=.lst (ps.map V.int)) (by walk_at "SAT") hn)];walk_at "SAT"
    ·rw [AO (Af (o:=.lst (ls.map V.int)) (by walk_at "SAT") hn)];walk_at "SAT"
    ·rw [AO (Af (o:=.lst (rs.map V.int)) (by walk_at "SAT") hn)];walk_at "SAT"
    ·lia
   ·exact ⟨p,span,_,_,_,rfl,(by walk_at "SAME"),⟨by walk_at "SAT",by walk_at "SAT",by walk_at "SAT",by walk_at "SAT"⟩,⟨hb1,hb2,hb3,by lia,by lia,by lia,by lia⟩⟩
  clear hnear hnear2 hp0 hsp hsp2 he hs hn p H' nr hb1 hb2 hb3 span sp
  rintro σ1 H5 ⟨E,span,near,e0,e1,rfl,s5,gl,gb⟩
  obtain ⟨hb1,hb2,hb3,hb4,hb5,hb6,hb7⟩:=id gb
  walk_at "Q"
  delta Ux
  refine ⟨by decide,fun Ma H6 nM s6 eM=>?_⟩
  walk_at "NX"
  walk_at "Q"
  delta Ux
  intro U H7 nU s7 eU
  walk_at "NX"
  have nU5:H5 U=none:=s6.free nU
  have n0M:H Ma=none:=s5.free nM
  refine JD fun M0 hM0=>?_
  delta Ux
  refine ⟨_,rfl,many,rfl,by lia,by lia,CM (n:=many.toNat) (Wg a P L R E Ma U at' many (ns.getD at'.toNat 0) span near H5) ⟨[],[],[],none,none,none,none,none,none,rfl,s6.trans s7,⟨s7.get eM,.nil,eU,rfl,zL _,fun z=>by simp [Ed],fun _ h=>absurd h (by simp),by simp,fun _ h=>absurd h (by simp)⟩⟩ ?_ ?_⟩
  ·rintro i σ H8 hi ⟨as,gs,kvs,x1,x2,x3,x4,x5,x6,rfl,s8,gm⟩
   have gl8:=gl.same s8
   have eP8:=gl8.eP
   have eL8:=gl8.eL
   have eR8:=gl8.eR
   have eE8:=gl8.eE
   dsimp only [EH,List.set_cons_succ,List.set_cons_zero]
   walk_at "Q"
   delta Ux
   walk_at "AUTO"
   walk_at "NX"
   generalize hp0:near+ps.getD (0+(i:Int)).toNat 0 % span=p0
   have q1:=Int.emod_nonneg (ps.getD (0+(i:Int)).toNat 0) (show span≠0 by lia)
   have q2:=Int.emod_lt_of_pos (ps.getD (0+(i:Int)).toNat 0) (show 0<span by lia)
   have hl1:near≤p0:=by lia
   have hl2:p0<near+span:=by lia
   walk_at "Q"
   delta Ux
   refine ⟨_,rfl,0+(i:Int),rfl,by lia,by lia,CM (n:=(0+(i:Int)).toNat) (Wi a P L R E Ma U at' many (ns.getD at'.toNat 0) span near gs (0+(i:Int)) p0 x4 x5 x6 H8) ⟨p0,x3,rfl,rfl,hl1,hl2,.inr ⟨?_,fun t ht=>absurd ht (by lia)⟩⟩ ?_ ?_⟩
   ·rw [show p0-near+((0:Nat):Int)=p0-near by lia,Int.emod_eq_of_lt (by lia) (by lia)];lia
   ·rintro j σ H9 hj ⟨pl,y3,rfl,rfl,l1,l2,hor⟩
    delta Ux
    refine ⟨_,Ua.k (k:=Sum.inl pl) gm.eU,?_⟩
    by_cases hu':pl∈gs.map G.p
    ·rw [if_pos ((gm.keys pl).mpr hu')]
     walk_at "AUTO"
     have r1:=Int.emod_nonneg (pl-near+1) (show span≠0 by lia)
     have r2:=Int.emod_lt_of_pos (pl-near+1) (show 0<span by lia)
     refine ⟨_,_,rfl,rfl,by lia,by lia,.inr ?_⟩
     rcases hor with z | ⟨z1,z2⟩
     ·exact absurd hu' z
     ·refine ⟨?_,fun t ht=>?_⟩
      ·rw [z1,show near+(p0-near+(j:Int)) % span-near+1=(p0-near+(j:Int)) % span+1 by lia,Int.emod_add_emod,show p0-near+(j:Int)+1=p0-near+((j+1:Nat):Int) by lia]
      ·rcases (by lia:t<j∨t=j) with e | e
       ·exact z2 t e
       ·subst e;rw [← z1];exact hu'
    ·rw [if_neg (fun z=>hu' ((gm.keys pl).mp z))]
     exact ⟨pl,_,rfl,rfl,l1,l2,.inl hu'⟩
   ·rintro σ H9 ⟨pl,y3,rfl,rfl,l1,l2,hor⟩
    have hfree:pl∉gs.map G.p:=by
     rcases hor with z | ⟨z1,z2⟩
     ·exact z
     ·intro hin
      have hlen:(gs.map G.p).length=i:=by rw [z0];exact gm.len
      refine Up (near:=near) (span:=span) (o:=p0-near) (used:=gs.map G.p) (by rw [hlen];lia) fun t ht=>?_
      rw [hlen] at ht
      rcases (by lia:t<i∨t=i) with e | e
      ·exact z2 t (by lia)
      ·subst e
       rw [show (((0+(t:Int)).toNat:Nat):Int)=(t:Int) by lia] at z1
       rw [← z1];exact hin
    walk_at "NX"
    refine JD fun Md hM=>?_
    delta Ux
    refine ⟨_,Y4.k (k:=Sum.inl pl) gm.eU (by rw [PySem.sizeLine_eq];have:=gm.kl;lia),?_⟩
    refine hM _ _ ?_
    clear hM Md
    have hMU:Ma≠U:=IA gm.eM gm.eU (by intro z;cases z)
    have s9:AG H5 (upd H9 U (.dK (F7 kvs (Sum.inl pl) (V.bl true)))):=s8.updFresh nU5
    have eM9:upd H9 U (.dK (F7 kvs (Sum.inl pl) (V.bl true))) Ma=some (.lst (as.map V.ref)):=by rw [AO hMU];exact gm.eM
    have eU9:upd H9 U (.dK (F7 kvs (Sum.inl pl) (V.bl true))) U=some (.dK (F7 kvs (Sum.inl pl) (V.bl true))):=AM
    have at9:=gm.at_.upd (u:=.dK (F7 kvs (Sum.inl pl) (V.bl true))) gm.eU (by intro ys z;cases z)
    generalize upd H9 U (.dK (F7 kvs (Sum.inl pl) (V.bl true)))=HA at s9 eM9 eU9 at9 ⊢
    have glA:=gl.same s9
    have ePA:=glA.eP
    have eLA:=glA.eL
    have eRA:=glA.eR
    have eEA:=glA.eE
    clear eP8 eL8 eR8 eE8 gl8
    refine JD fun Md hM=>?_
    delta Ux
    walk_at "AUTO"
    refine hM _ _ ?_
    clear hM Md
    refine JD fun Md hM=>?_
    delta NZ
    walk_at "AUTO"
    intro TT HB f h sB eB
    walk_at "AUTO"
    refine ⟨rfl,_,_,rfl,_,_,rfl,rfl,?_⟩
    refine hM _ _ ?_
    clear hM Md
    refine ⟨Cf [some (V.ref a),some (V.int at'),some (V.int many),some (V.int (ns.getD at'.toNat 0)),some (V.int (ns.getD at'.toNat 0 / 2 % 5)),some (V.ref P),some (V.ref L),some (V.ref R),some (V.int span),some (V.int near),some (V.ref E),some (V.ref Ma),some (V.ref U),some (V.int (0+(i:Int))),some (V.int pl),y3,some (V.int (e0*(span-1)+(e1-e0)*(pl-near)))] HB,?_,?_⟩
    ·delta Ux
     split
     ·walk_at "AUTO"
      split
      ·walk_at "AUTO"
       exact ⟨_,_,rfl,rfl⟩
      ·exact ⟨_,_,rfl,rfl⟩
     ·exact ⟨_,_,rfl,rfl⟩
    rintro σ HB' ⟨f1,h1,rfl,rfl⟩
    walk_at "Q"
    delta Ux
    have eMB:=sB.get eM9
    have hff:∃ f2:Int,(if (if f1<1000 then f1 else 1000)>-1000 then if f1<1000 then f1 else 1000 else -1000)=f2∧-1000≤f2∧f2≤1000:=⟨_,rfl,by (repeat' split)<;>lia,by (repeat' split)<;>lia⟩
    obtain ⟨f2,ef2,f3,f4⟩:=hff
    rw [ef2]
    walk_at "NX"
    have hhh:∃ h2:Int,(if (if h1<1000 then h1 else 1000)>f2 then if h1<1000 then h1 else 1000 else f2)=h2∧f2≤h2∧h2≤1000:=⟨_,rfl,by (repeat' split)<;>lia,by (repeat' split)<;>lia⟩
    obtain ⟨h2,eh2,h3,h4⟩:=hhh
    delta Ux
    rw [eh2]
    refine ⟨⟨_,eMB⟩,by decide,fun TP HC nC sC eC=>?_⟩
    have eMC:=sC.get eMB
    have eUC:=sC.get (sB.get eU9)
    have atC:=(at9.same sB).same sC
    have sAll:=(s9.trans sB).trans sC
    have lk:=gm.kl
    have lg:=gm.len
    have la:=at9.len
    refine ⟨_,eMC,by rw [z0,PySem.sizeLine_eq];lia,as++[TP],gs++[⟨pl,f2,h2⟩],F7 kvs (Sum.inl pl) (V.bl true),_,_,_,_,_,_,rfl,sAll.updFresh nM,?_⟩
    have hkey:∀ z:Int,(Ed (F7 kvs (Sum.inl pl:Key) (V.bl true)) (Sum.inl z)).isSome=true↔z∈(gs++[⟨pl,f2,h2⟩]:List G).map G.p:=fun z=>by
     rw [YT,zc,zb]
     by_cases e:z=pl
     ·subst e;simp
     ·rw [if_neg (fun q=>e (Sum.inl.inj q)),gm.keys z]
      simp [e]
    refine ⟨by rw [AM,zc];rfl,?_,by rw [AO (Ne.symm hMU)];exact eUC,by rw [zD,lg];rfl,zO (JR ..) (by lia),hkey,fun g hg=>?_,?_,fun g hg=>?_⟩
    ·exact (atC.snoc (a:=TP) (g:=⟨pl,f2,h2⟩) eC).upd eMC (by intro ys z;cases z)
    ·rcases zb.mp hg with z | z
     ·exact gm.ok g z
     ·rw [zI.mp z]
      exact ⟨by show -1000≤pl;lia,by show pl≤1000;lia,f3,h3,h4⟩
    ·rw [zc]
     exact WS gm.nd hfree
    ·rcases zb.mp hg with z | z
     ·exact gm.stretch g z
     ·rw [zI.mp z]
      exact ⟨l1,l2⟩
  ·rintro σ H8 ⟨as,gs,kvs,x1,x2,x3,x4,x5,x6,rfl,s8,gm⟩
   refine hM0 _ _ ?_;clear hM0 M0
   delta Ux
   exact k Ma _ as gs n0M (s5.trans s8) gm.eM gm.at_ gm.len gm.ok gm.nd
theorem Vn:AJ ["_law_found"] ["_law_found"] (AF N1):=by walk_at "SC"
noncomputable def Lx:Sp:=fun vs H Q _=>∃ i:Int,vs=[.int i]∧Q (.bl true) H
theorem VX (T:Tx w K mg):Aa P w K mg base CX0 1 T.SJ T.QB ["_law_found"] Lx:=by
 refine T.R9.F.ok Vn (fun _ _ _ _ h=>by walk_at "LN") ?_
 ·walk_at "I2"
  obtain ⟨i,rfl,hq⟩:=h
  refine ⟨_,(AE (AI (V8 (AT JW (by rfl) T.HL Fx (AA (pv 0) (AA (TM (v:=.ty "int") (by rfl) T.bA ZW rfl) AB))) (V3 (cG (AT JW (by rfl) T.HL Fx (AA (pv 0) (AA (TM (v:=.ty "bool") (by rfl) T.iF aD rfl) AB)))))))),?_⟩
  delta Ux
  refine ⟨_,.int i,true,rfl,?_⟩
  rw [if_pos rfl]
  exact ⟨_,.int i,false,rfl,hq⟩
theorem UI:AJ ["_law_one","_law_two"] ["_law_one","_law_two"] (AF Tt):=by walk_at "SC"
noncomputable def NL:Sp:=fun vs H Q _=>∃ a b:Int,vs=[.int a,.int b]∧0≤a∧0≤b∧Q (.int (Int.gcd a b)) H
noncomputable def W_gcd (a b:Int)(H:Hp):Nat→St→Hp→Prop:=fun m σ H'=>∃ (d r:Int),m=r.toNat∧σ=[some (.int d),some (.int r)]∧H'=H∧0≤d∧0≤r∧Int.gcd d r=Int.gcd a b
theorem YB (T:Tx w K mg):Aa P w K mg base CX0 1 T.Wr T.UD ["_law_one","_law_two"] NL:=by
 refine T.W3.F.ok UI (fun _ _ _ _ h=>by walk_at "LN") ?_
 ·walk_at "I2"
  obtain ⟨a,b,rfl,ha,hb,k⟩:=h
  refine ⟨_,(AD (US PassesOwn.never (ptc Ib (pv 1) AC)
    (AE (fm (i:=0) (j:=1) (by rfl) UI.nd rfl rfl (by decide) rfl rfl (AA (pv 1) (AA (AH Wp (pv 0) (pv 1)) AB)) (by rfl))))
   (AE (AI (pv 0)))),?_⟩
  delta Ux
  refine ⟨W_gcd a b H,⟨_,a,b,rfl,rfl,rfl,ha,hb,rfl⟩,?_⟩
  rintro m σ H' ⟨d,r,rfl,rfl,rfl,hd,hr',e⟩
  delta Ux
  by_cases h0:r=0
  ·subst h0
   simp only [decide_true,Bool.not_true,qE,if_false]
   delta Ux
   rw [← e,Sh hd] at k
   exact k
  ·simp only [h0,decide_false,Bool.not_false,if_true]
   refine ⟨_,fun _ _ h=>h,?_⟩
   delta Ux
   have hp:0<r:=by lia
   have hf:=WV (d:=d) hp
   refine ⟨h0,_,?_,r,d.fmod r,rfl,rfl,rfl,hr',hf.1,(Us hd hp).trans e⟩
   lia
theorem MF:AJ ["_law_found","_law_k"] ["_law_found"] (AF OD):=by walk_at "SC"
noncomputable def V9 (K:W.Frag):Sp:=fun vs H Q _=>∃ (q:Addr) (x y z v:Int),vs=[.ref q]∧H q=some (.tup [.int x,.int y,.int z,.int v])∧x.natAbs≤999999999∧y.natAbs≤999999999∧z.natAbs≤999999999∧v.natAbs≤999999999∧0<y∧0<v∧Int.gcd x y=1∧Int.gcd z v=1∧∀ H',AG H H'→Q (.bl true) H'
noncomputable def bD (q:Addr)(H:Hp):Nat→St→Hp→Prop:=fun i σ H'=>∃ x,σ=[some (.ref q),x]∧H'=H
theorem VQ (T:Tx w K mg):Aa P w K mg base CX0 2 T.SS T.Q7 ["_law_found"] (V9 K):=by
 refine T.R8.F.ok MF (fun _ _ _ _ h=>by walk_at "LN") ?_
 ·walk_at "I2"
  obtain ⟨q,x,y,z,v,rfl,hq,b1,b2,b3,b4,hy,hv,g1,g2,k⟩:=h
  refine ⟨_,(AD (Ae (Kn (La (EC (AT JW (by rfl) T.HL Fx (AA (pv 0) (AA (TM (v:=.ty "tuple") (by rfl) T.aE ZX rfl) AB))))) (Fz (ptc Ib (AT AW (by rfl) T.BN A0 (AA (pv 0) AB)) AC))).pt (AE (AI Jb))
    AS)
   (AD (Bo PassesOwn.never rfl (DF (by rfl) T.EX (AA AC AB)) (pgn 1 MF)
    (AE (Ae (Kn (La (EC (pcl T.R9 (VX T) hr AR (AA (pxi AL (pv 0) (pv 1)) AB)))) (Fz (ptc IC (AT Mg (by rfl) T.Wn S8 (AA (pxi AL (pv 0) (pv 1)) AB)) AC))).pt (AE (AI Jb))
      AS)))
   (AD (Bo PassesOwn.never rfl (A7 (Ao (AA AC (AA AC AB)))) (pgn 1 MF)
    (AE (Ae (Kn (ptc E7 (pxi AL (pv 0) (AH Ap (pv 1) AC)) AC) (Fz (ptc Ib (pcl T.W3 (YB T) hr AR (AA (AT Mg (by rfl) T.Wn S8 (AA (pxi AL (pv 0) (pv 1)) AB)) (AA (pxi AL (pv 0) (AH Ap (pv 1) AC)) AB))) AC))).pt (AE (AI Jb))
      AS)))
   (AE (AI Jb))))),?_⟩
  delta Lx NL
  walk_at "AUTO"
  refine ⟨4,rfl,by decide,by decide,CM (n:=4) (bD q H) ⟨none,rfl,rfl⟩ ?_ ?_⟩
  ·rintro i σ H1 hi ⟨o,rfl,rfl⟩
   obtain ⟨u,hu',bu⟩:=atLn (P:=fun u=>u.natAbs≤999999999) (ls:=[x,y,z,v]) (e:=0+(i:Int)) (by lia) (by simp only [zB,zG];lia) (fun u hu=>by
    simp only [zF,zf,or_false] at hu
    rcases hu with rfl | rfl | rfl | rfl<;>assumption)
   have hu':atI [V.int x,V.int y,V.int z,V.int v] (0+(i:Int))=some (V.int u):=hu'
   delta Lx
   walk_at "AUTO"
   exact ⟨_,rfl,rfl⟩
  ·rintro σ H1 ⟨o,rfl,rfl⟩
   refine ⟨by decide,fun p H2 hn hs he=>⟨p,rfl,⟨_,SqL.of he⟩,JF (xs:=[.int 0,.int 2]) (bD q H2) ⟨o,rfl,rfl⟩ ?_ ?_ ?_⟩⟩
   ·rintro i σ H3 _ ⟨o,rfl,rfl⟩
    exact SqL.of he
   ·rintro i w σ H3 hi ⟨o,rfl,rfl⟩
    rcases i with _ | _ | i
    ·cases hi
     delta NL
     walk_at "AUTO"
     rw [U7,g1]
     exact Vp (by simp) ⟨_,rfl,rfl⟩
    ·cases hi
     delta NL
     walk_at "AUTO"
     rw [U7,g2]
     exact Vp (by simp) ⟨_,rfl,rfl⟩
    ·cases hi
   ·rintro σ H3 ⟨o,rfl,rfl⟩
    exact k _ hs
theorem X5:AJ ["_law_top","_law_bottom"] ["_law_top","_law_bottom"] (AF QV):=by walk_at "SC"
noncomputable def XD (K:W.Frag):Sp:=fun vs H Q _=>∃ (a b:Int),vs=[.int a,.int b]∧a.natAbs≤10 ^ 40∧b.natAbs≤10 ^ 40∧Q (.str (tx (frT a b))) H
theorem J1 (T:Tx w K mg):Aa P w K mg base CX0 1 T.VB T.Su ["_law_top","_law_bottom"] (XD K):=by
 refine T.IT.F.ok X5 (fun _ _ _ _ h=>by walk_at "LN") ?_
 ·walk_at "I2"
  obtain ⟨a,b,rfl,ha,hb,k⟩:=h
  refine ⟨_,(AD (Ae (ptc Bg (pv 1) AC) (AE (AI (Al Ah (by rfl) T.Dh CG (AA (pv 0) AB))))
    AS)
   (AE (AI (AH AZ (AH AZ (Al Ah (by rfl) T.Dh CG (AA (pv 0) AB)) AN) (Al Ah (by rfl) T.Dh CG (AA (pv 1) AB)))))),?_⟩
  have d1:=Do ha
  have d2:=Do hb
  walk_at "Q"
  delta Ux
  by_cases h1:b=1
  ·rw [if_pos (zE h1)]
   refine ⟨KN ha,?_⟩
   rw [BB]
   unfold frT at k
   rw [if_pos h1] at k
   exact k
  ·rw [if_neg (fun z=>h1 (zH z))]
   walk_at "NX"
   delta Ux
   refine ⟨KN ha,?_⟩
   rw [BB,o_sl,A4,AY,AY,PySem.sizeLine_eq]
   simp only [zB,zG]
   refine ⟨by lia,KN hb,?_⟩
   rw [BB,A4,AY,AY]
   simp only [zD,zB,zG]
   refine ⟨by lia,?_⟩
   unfold frT at k
   rw [if_neg h1,← List.singleton_append (x:=47),← zx] at k
   exact k
theorem Xs:AJ ["_law_throw_here","_law_between_two"] ["_law_throw_here","_law_between_two"] (AF Qt):=by walk_at "SC"
noncomputable def XX (K:W.Frag):Sp:=fun vs H Q _=>∃ (q:Addr) (t:Thr) (c:Nat),vs=[.ref q,.str (tx [c])]∧H q=some (.tup t.vs)∧OkT t∧∀ H',AG H H'→Q (.str (tx (frT t.a t.b++[c]++frT t.c t.d))) H'
theorem Nk (T:Tx w K mg):Aa P w K mg base CX0 3 T.UN T.SI ["_law_throw_here","_law_between_two"] (XX K):=by
 refine T.NB.F.ok Xs (fun _ _ _ _ h=>by walk_at "LN") ?_
 ·walk_at "I2"
  obtain ⟨q,t,c,rfl,eq,ok,k⟩:=h
  refine ⟨_,(AD (Ae (La (EC (pcl T.R8 (VQ T) hr AR (AA (pv 0) AB)))) (AE (AI AN))
    AS)
   (AE (AI (AH AZ (AH AZ (pcl T.IT (J1 T) hr AR (AA (pxi AL (pv 0) AC) (AA (pxi AL (pv 0) AC) AB))) (pv 1)) (pcl T.IT (J1 T) hr AR (AA (pxi AL (pv 0) AC) (AA (pxi AL (pv 0) AC) AB))))))),?_⟩
  walk_at "Q"
  delta Ux
  refine ⟨q,_,_,_,_,rfl,eq,ok.a1,ok.b1,ok.c1,ok.d1,ok.b0,ok.d0,ok.g1,ok.g2,fun H1 s1=>⟨true,rfl,?_⟩⟩
  rw [if_neg (by decide)]
  walk_at "NX"
  delta Ux
  have f1:=BL (x:=t.a) (y:=t.b) (by have:=ok.a1;lia) (by have:=ok.b1;lia)
  have f2:=BL (x:=t.c) (y:=t.d) (by have:=ok.c1;lia) (by have:=ok.d1;lia)
  refine ⟨_,SqT.of (s1.get eq),_,rfl,_,SqT.of (s1.get eq),_,rfl,t.a,t.b,rfl,by have:=ok.a1;lia,by have:=ok.b1;lia,?_⟩
  refine ⟨_,rfl,by rw [AY,AY,PySem.sizeLine_eq];simp only [zB,zG];lia,_,SqT.of (s1.get eq),_,rfl,_,SqT.of (s1.get eq),_,rfl,t.c,t.d,rfl,by have:=ok.c1;lia,by have:=ok.d1;lia,?_⟩
  refine ⟨_,rfl,?_,?_⟩
  ·rw [A4,AY,AY,PySem.sizeLine_eq];simp only [zD,zB,zG];lia
  ·rw [A4,A4];exact k _ s1
theorem Cw:AJ ["_law_found","_law_marks","_law_text_here","_law_k"] ["_law_found","_law_marks"] (AF GF):=by walk_at "SC"
theorem YA:Str.ofString "bar "=tx [98,97,114,32]:=by rfl
theorem U0:Str.ofString "throw "=tx [116,104,114,111,119,32]:=by rfl
theorem UJ:∀ l:List (List Nat),(l.map List.length).sum≤(l.map fun x=>x.length+1).sum
 | []=>by decide
 | a::r=>by have:=UJ r;rw [zU,zU,zn,zn];lia
theorem Cv {s:List Nat}:∀ ys:List (List Nat),(Ay s ys).length≤(ys.map List.length).sum+ys.length*s.length
 | []=>by simp [Ay]
 | [y]=>by simp [Ay]
 | y::z::ys=>by
  have:=Cv (s:=s) (z::ys)
  rw [A6 (by simp),zD,zD,zU,zn,zB,Nat.succ_mul]
  lia
theorem DI {s:List Nat}{x:List Nat}:∀ {ys:List (List Nat)},ys≠[]→Ay s (ys++[x])=Ay s ys++(s++x)
 | [y],_=>rfl
 | y::z::ys,_=>by
  rw [qV,A6 (by simp),DI (ys:=z::ys) (by simp),A6 (ys:=z::ys) (by simp)]
  simp only [zx]
noncomputable def JT (K:W.Frag):Sp:=fun vs H Q _=>∃ (D N q:Addr) (es:List (List Nat)),vs=[.ref D,.ref N]∧SqL K H N (tvs es)∧es.length≤2∧(∀ e∈es,e.length≤4) ∧
 ((∃ ns:List Int,H D=some (.tup [.str "bar",.ref q])∧H q=some (.tup (ns.map V.int))∧ns≠[]∧ns.length≤3∧(∀ n∈ns,n.natAbs≤1000)∧∀ H',AG H H'→Q (.str (tx (XS ns))) H') ∨
  ∃ (t:Thr) (ps:List Int),H D=some (.tup (.str "throw"::.ref q::ps.map V.int))∧H q=some (.tup t.vs)∧OkT t∧ps.length=es.length∧(∀ n∈ps,n.natAbs≤1000)∧∀ H',AG H H'→Q (.str (tx (Ql t es ps))) H')
theorem Ew (T:Tx w K mg):Aa P w K mg base CX0 4 T.K8 T.Jr ["_law_found","_law_marks"] (JT K):=by
 refine T.DZ.F.ok Cw (fun _ _ _ _ h=>by walk_at "LN") ?_
 ·walk_at "I2"
  obtain ⟨D,N,q,es,rfl,eN,le,l4,cc⟩:=h
  refine ⟨_,(AD (Ae (ptc Bg (pxi AL (pv 0) AC) AN) (AE (AI (AH AZ AN (CY PySem.F.plainAttrs_str PySem.F.slot_str_join PySem.F.type_str_join BU AN (AA (Bj rfl (⟨rfl,by decide +kernel,by decide +kernel,by decide +kernel,rfl,by decide +kernel,by with_unfolding_all rfl,by rfl,by rfl,by rfl⟩:Ar _ _ "_law_place" [] []) (Nu (pxi AL (pv 0) AC)) (fun _ _ _ _  => (Al Ah (by rfl) T.Dh CG (AA (pv 0) AB))) (fun _ _ _ _=>BJ)) AB)))))
    AS)
   (AD (pst 2 Cw (AH AZ AN (pcl T.NB (Nk T) hr AR (AA (pxi AL (pv 0) AC) (AA AN AB)))))
   (AD (Bo PassesOwn.never rfl (DF (by rfl) T.EX (AA (AT AW (by rfl) T.BN A0 (AA (pv 1) AB)) AB)) (pgn 3 Cw)
    (AE (pst 2 Cw (AH AZ (AH AZ (AH AZ (AH AZ (pv 2) AN) (pxi AX (pv 1) (pv 3))) AN) (Al Ah (by rfl) T.Dh CG (AA (pxi AL (pv 0) (AH Ap AC (pv 3))) AB))))))
   (AE (AI (pv 2)))))),?_⟩
  walk_at "Q"
  delta Ux
  rcases cc with ⟨ns,eD,eq,nne,l3,bd,k⟩ | ⟨t,ps,eD,eq,ok,lp,bd,k⟩
  ·refine ⟨_,SqT.of eD,_,rfl,rfl,?_⟩
   rw [if_pos (by rw [zE rfl])]
   delta tBM Ck XY
   refine ⟨tyS,_,SqT.of eD,_,rfl,q,rfl,⟨_,SqT.of eq⟩,fun D1 nD=>?_⟩
   refine J9 (.inr ⟨q,rfl,SqT.of eq⟩) (by lia) nD (fun n H2 R hm s2 hR=>?_) fun H2 s2 e2=>?_
   ·delta Ux
    refine ⟨KN (by have:=bd n hm;lia),?_⟩
    rw [BB]
    exact hR
   have hs:((ns.map dec).map List.length).sum≤42*ns.length:=ES fun n hn=>by have:=bd n hn;lia
   have hj:=Cv (s:=[32]) (ns.map dec)
   rw [z0] at hj
   refine ⟨[32],HK,_,SqL.of e2,?_,?_,?_⟩
   ·simp only [z0,zB,zG];lia
   ·rw [YA,AY,AY,PySem.sizeLine_eq]
    simp only [zB,zG] at hj ⊢
    lia
   ·rw [YA,A4,show [98,97,114,32]++Ay [32] (ns.map dec)=Ay [32] ([98,97,114]::ns.map dec) from by rw [A6 (by intro z;exact nne (List.map_eq_nil_iff.mp z))];rfl]
    exact k _ s2
  ·refine ⟨_,SqT.of eD,V.str "throw",Cd (j:=0) rfl,rfl,?_⟩
   rw [if_neg (by decide)]
   walk_at "NX"
   walk_at "Q"
   delta Ux
   have f1:=BL (x:=t.a) (y:=t.b) (by have:=ok.a1;lia) (by have:=ok.b1;lia)
   have f2:=BL (x:=t.c) (y:=t.d) (by have:=ok.c1;lia) (by have:=ok.d1;lia)
   refine ⟨_,SqT.of eD,_,Cd (j:=1) rfl,q,t,32,rfl,eq,ok,fun H1 s1=>⟨_,rfl,?_,?_⟩⟩
   ·rw [U0,AY,AY,PySem.sizeLine_eq];simp only [zD,zB,zG];lia
   rw [U0,A4,show [116,104,114,111,119,32]++(frT t.a t.b++[32]++frT t.c t.d)=Ql t (es.take 0) (ps.take 0) from by show _=[116,104,114,111,119]++([32]++(frT t.a t.b++([32]++frT t.c t.d)));simp only [zx];rfl]
   walk_at "NX"
   walk_at "Q"
   delta Ux
   refine ⟨_,rfl,_,rfl,_,.inl (s1.seq eN),_,rfl,by rw [z0];lia,by rw [z0];lia,CM (fun i σ H'=>∃ o:Option V,σ=[some (.ref D),some (.ref N),some (.str (tx (Ql t (es.take i) (ps.take i)))),o]∧AG H H') ⟨_,rfl,s1⟩ ?_ ?_⟩
   ·rintro i σ H2 hi ⟨o,rfl,s2⟩
    rw [z0] at hi
    dsimp only [EH,List.set_cons_succ,List.set_cons_zero]
    delta Ux
    have hi:i<es.length:=by lia
    have hp:i<ps.length:=by lia
    have be:=l4 _ (zY hi)
    have bp:=bd _ (zY hp)
    have dp:=Do (n:=ps[i]) (by lia)
    have hl:(Ql t (es.take i) (ps.take i)).length≤1000:=by
     have hj:=Cv (s:=[32]) ([116,104,114,111,119]::frT t.a t.b::frT t.c t.d::tlW (es.take i) (ps.take i))
     have f3:=Tj (es:=es.take i) (ps:=ps.take i) (fun e he=>l4 e (zy he)) fun p h=>by have:=bd p (zy h);lia
     have f4:=Pl (es.take i) (ps.take i)
     have f6:(es.take i).length≤2:=by rw [zw];lia
     have f5:=UJ (tlW (es.take i) (ps.take i))
     unfold Ql
     simp only [zU,zn,zB,zG] at hj
     lia
    rw [HK,A4]
    refine ⟨by rw [AY,AY,PySem.sizeLine_eq];show _+1≤_;lia,_,s2.seq eN,_,by rw [Int.zero_add];exact Cd (by rw [zN,z9 hi];rfl),_,rfl,?_⟩
    rw [A4,A4,AY,AY,AY,AY,AY,PySem.sizeLine_eq]
    simp only [zD,zB,zG]
    refine ⟨by lia,by lia,_,SqT.of (s2.get eD),_,by rw [Int.zero_add,show (2:Int)+(i:Int)=((i+2:Nat):Int) by lia];exact Cd (by rw [List.getElem?_cons_succ,List.getElem?_cons_succ,zN,z9 hp];rfl),_,rfl,KN (by lia),?_⟩
    rw [BB,A4,AY]
    refine ⟨by lia,?_,⟨_,rfl⟩,s2⟩
    unfold Ql
    rw [RG (z9 hi) (z9 hp),show ∀ (a b c:List Nat) (l:List (List Nat)) (x y:List Nat),a::b::c::(l++[x,y])=(a::b::c::l++[x])++[y] from fun a b c l x y=>by simp,DI (by simp),DI (by simp)]
    simp only [zx]
   ·rintro σ H2 ⟨o,rfl,s2⟩
    refine hM _ _ ?_
    rw [z0,qK,zj,qL (by lia:ps.length≤es.length)]
    delta Ux
    exact k _ s2
theorem Qo:AJ ["_law_desk","_law_beach","_law_places","_law_words"] ["_law_desk","_law_beach","_law_places"] (AF Nx):=by walk_at "SC"
theorem Hd {gs:List G}{ps:List Int}(s:Std gs)(h:∀ p∈ps,p∈AU gs):∀ p∈ps,p.natAbs≤1000:=fun p hp=>by
 obtain ⟨g,hg,rfl⟩:=zZ.mp (h p hp)
 exact (s.ok g hg).p9
theorem Cr:∀ {ps:List Int},(∀ p∈ps,p.natAbs≤1000)→numsOf (ps.map dec)=some ps
 | [],_=>rfl
 | p::r,h=>by
  show (match rdN (dec p) with | none=>none | some n=>(numsOf (r.map dec)).map (n::·))=_
  rw [Pr (by have:=h p (by simp);lia),Cr fun x hx=>h x (by simp [hx])];rfl
theorem Ss {s:List Nat}{c:Nat}:∀ {ys:List (List Nat)},c∈Ay s ys→c∈s∨∃ y∈ys,c∈y
 | [],h=>absurd h (by simp [Ay])
 | [y],h=>.inr ⟨y,by simp,h⟩
 | y::z::r,h=>by
  rw [A6 (by simp)] at h
  rcases zb.mp h with h | h
  ·exact .inr ⟨y,by simp,h⟩
  rcases zb.mp h with h | h
  ·exact .inl h
  ·exact (Ss h).imp id fun ⟨y,hy,hc⟩=>⟨y,by simp [zF.mp hy],hc⟩
noncomputable abbrev Oc (w:List Nat)(ps:List Int):List Nat:=w++32::Ay [32] (ps.map dec)
theorem KH {w:List Nat}{ps:List Int}(h:32∉w)(ne:ps≠[]):B8 32 (Oc w ps)=w::ps.map dec:=by
 rw [Gf h,P4 (fun z=>ne (List.map_eq_nil_iff.mp z)) fun p hp z=>?_]
 obtain ⟨n,_,rfl⟩:=zZ.mp hp
 have:=B0 n 32 z
 lia
theorem J4 {w:List Nat}{ps:List Int}(h:∀ c∈w,c<128)(l:w.length≤100)(lp:ps.length≤40)(b:∀ p∈ps,p.natAbs≤1000):OkL (Oc w ps):=by
 have hs:((ps.map dec).map List.length).sum≤42*ps.length:=ES fun n hn=>by have:=b n hn;lia
 have hj:=Cv (s:=[32]) (ps.map dec)
 simp only [z0,zB,zG] at hj
 refine ⟨fun c hc=>?_,by simp only [zD,zB];lia⟩
 rcases zb.mp hc with z | z
 ·exact h c z
 rcases zF.mp z with z | z
 ·lia
 rcases Ss z with z | ⟨y,hy,z⟩
 ·rw [zI.mp z];decide
 ·obtain ⟨n,_,rfl⟩:=zZ.mp hy
  have:=B0 n c z
  lia
theorem KF {ps:List Int}(lp:ps.length≤40)(b:∀ p∈ps,p.natAbs≤1000):OkW (ps.map dec):=⟨fun p hp=>by
 obtain ⟨n,hn,rfl⟩:=zZ.mp hp
 have:=Do (n:=n) (by have:=b n hn;lia)
 exact ⟨fun c hc=>by have:=B0 n c hc;lia,by lia⟩,by rw [z0];lia⟩
theorem bY (s:String):Str.ofString s=tx (tx2 s):=rfl
theorem W4 {w:String}{ps:List Int}:Str.ofString w++tx (32::Ay [32] (ps.map dec))=tx (Oc (tx2 w) ps):=by rw [bY,A4]
theorem wsz {ps:List Int}(lp:ps.length≤40)(b:∀ p∈ps,p.natAbs≤1000)(w:Str)(hw:w.length≤100):w.length+(tx (32::Ay [32] (ps.map dec))).length≤sizeLine:=by
 have hs:((ps.map dec).map List.length).sum≤42*ps.length:=ES fun n hn=>by have:=b n hn;lia
 have hj:=Cv (s:=[32]) (ps.map dec)
 simp only [z0,zB,zG] at hj
 have e:(tx (32::Ay [32] (ps.map dec))).length=(32::Ay [32] (ps.map dec)).length:=by rw [AY]
 rw [e,PySem.sizeLine_eq,zB];lia
inductive Wq (es:List (List Nat))(x:Tr)(txt:List Nat):Prop where
 | throw (t:Thr) (ps:List Int) (ok:OkT t) (e:x = .t (.s "throw"::trT t::ps.map Tr.i)) (l:ps.length=es.length) (b:∀ n∈ps,n.natAbs≤1000) (et:txt=Ql t es ps)
 | bar (ns:List Int) (ne:ns≠[]) (e:x=trB ns) (l:ns.length≤3) (b:∀ n∈ns,n.natAbs≤1000) (et:txt=XS ns)
theorem Te {K:W.Frag}{H:Hp}{x:Tr}{txt:List Nat}{es:List (List Nat)}{D N:Addr}{Q:VK}{E:XK}(h:Wq es x txt)(en:Enc H x (.ref D))(eN:SqL K H N (tvs es))(le:es.length≤2)(l4:∀ e∈es,e.length≤4)(k:∀ H',AG H H'→Q (.str (tx txt)) H'):JT K [.ref D,.ref N] H Q E:=by
 rcases h with ⟨t,ps,ok,rfl,l,b,rfl⟩ | ⟨ns,ne,rfl,l,b,rfl⟩
 ·obtain ⟨q,eD,eq⟩:=Enc.thr en
  exact ⟨D,N,q,es,rfl,eN,le,l4,.inr ⟨t,ps,eD,eq,ok,l,b,k⟩⟩
 ·obtain ⟨q,eD,eq⟩:=Enc.bar en
  exact ⟨D,N,q,es,rfl,eN,le,l4,.inl ⟨ns,eD,eq,ne,l,b,k⟩⟩
theorem Ue {w:World}{K:W.Frag}{mg:Str→Option Value}{T:Tx w K mg}{H:Hp}{Q:VK}{E:XK}{b S P:Addr}{ow:List Addr}{gs:List G}{past:List (List G)}{ps:List Int}(hb:Bch T.AK H b S P ow gs past)(nb:¬ Bs ps)(hp:∀ p∈ps,p∈AU gs)
  (k:∀ H' sg x txt,AG H H'→sg.Perm (B4 gs ps)→Asc sg→XT sg x→Wq [] x txt→Q (.str (tx txt)) H'):BH T [.ref b,.str (tx (Oc (tx2 "through") ps))] H Q E:=by
 have few:=Hd hb.std hp
 have l40:ps.length≤40:=qI fun z=>nb (.inr (.inl z))
 have ne:ps≠[]:=fun z=>nb (.inl z)
 have okg:=hb.std.ok
 refine ⟨b,_,rfl,fun E' hE=>⟨b,_,tx2 "through",ps.map dec,rfl,J4 (by decide +kernel) (by decide +kernel) l40 few,KH (by decide +kernel) ne,.inr (.inr (.inr (.inr (.inr (.inr (.inr (.inl ⟨rfl,fun W H1 nW s1 eW=>⟨b,S,P,ow,gs,past,W,_,rfl,hb.same s1,SqL.of eW,KF l40 few,by rw [z0];lia,fun h=>(by rw [Cr few] at h;cases h),fun ps' h=>?_⟩⟩)))))))⟩⟩
 rw [Cr few] at h
 cases h
 refine ⟨fun z=>absurd z nb,fun _=>hp,fun _ H2 sg s2 pm as=>⟨fun t okt all ow=>k H2 sg _ _ (s1.trans s2) pm as (.throw t okt all ow rfl) (.throw t [] okt rfl rfl (by simp) rfl),fun ns ne f=>?_⟩⟩
 obtain ⟨l3,b3⟩:=f.ok fun g hg=>okg g (BX (pm.mem_iff.mp hg))
 exact k H2 sg _ _ (s1.trans s2) pm as (.bar ns ne f rfl) (.bar ns ne rfl l3 b3 rfl)
theorem Mb {w:World}{K:W.Frag}{mg:Str→Option Value}{T:Tx w K mg}{H:Hp}{Q:VK}{E:XK}{b S P:Addr}{ow:List Addr}{gs:List G}{past:List (List G)}{ps:List Int}(hb:Bch T.AK H b S P ow gs past)(nb:¬ Bs ps)(hp:∀ p∈ps,p∈AU gs)(kf:ps.length<2→∀ H',AG H H'→Q (.str (V7 .few)) H')
  (k:2≤ps.length→∀ H' sg x txt,AG H H'→sg.Perm (B4 gs ps)→Asc sg→TB id sg sg x→Wq [[102,111,111,116],[104,101,97,100]] x txt→Q (.str (tx txt)) H'):BH T [.ref b,.str (tx (Oc (tx2 "steepest") ps))] H Q E:=by
 have few:=Hd hb.std hp
 have l40:ps.length≤40:=qI fun z=>nb (.inr (.inl z))
 have ne:ps≠[]:=fun z=>nb (.inl z)
 have okg:=hb.std.ok
 refine ⟨b,_,rfl,fun E' hE=>⟨b,_,tx2 "steepest",ps.map dec,rfl,J4 (by decide +kernel) (by decide +kernel) l40 few,KH (by decide +kernel) ne,.inr (.inr (.inr (.inr (.inr (.inr (.inr (.inr (.inl ⟨rfl,fun W H1 nW s1 eW=>⟨b,S,P,ow,gs,past,W,_,rfl,hb.same s1,SqL.of eW,KF l40 few,by rw [z0];lia,fun h=>(by rw [Cr few] at h;cases h),fun ps' h=>?_⟩⟩))))))))⟩⟩
 rw [Cr few] at h
 cases h
 refine ⟨fun z=>absurd z nb,fun _=>hp,fun _ l2 H2 s2=>hE _ _ (kf l2 H2 (s1.trans s2)),fun _ l2 H2 sg s2 pm as=>?_⟩
 have oks:∀ g∈sg,OkG g:=fun g hg=>okg g (BX (pm.mem_iff.mp hg))
 refine ⟨fun t p q okt all ed=>k l2 H2 sg _ _ (s1.trans s2) pm as (.throw t p q okt all ed rfl) (.throw t [p,q] okt rfl rfl (ed.bd fun g hg=>(oks g hg).p9) rfl),fun ns ne f=>?_⟩
 obtain ⟨l3,b3⟩:=f.ok oks
 exact k l2 H2 sg _ _ (s1.trans s2) pm as (.bar ns ne f rfl) (.bar ns ne rfl l3 b3 rfl)
theorem Tv {w:World}{K:W.Frag}{mg:Str→Option Value}{T:Tx w K mg}{H:Hp}{Q:VK}{E:XK}{b S P:Addr}{ow:List Addr}{gs:List G}{past:List (List G)}{ps:List Int}(hb:Bch T.AK H b S P ow gs past)(nb:¬ Bs ps)(hp:∀ p∈ps,p∈AU gs)(kf:ps.length<2→∀ H',AG H H'→Q (.str (V7 .few)) H')
  (k:2≤ps.length→∀ H' sg x txt,AG H H'→sg.Perm (B4 gs ps)→Asc sg→TB Kz sg (sg.map CV) x→Wq [[104,101,97,100],[102,111,111,116]] x txt→Q (.str (tx txt)) H'):BH T [.ref b,.str (tx (Oc (tx2 "flattest") ps))] H Q E:=by
 have few:=Hd hb.std hp
 have l40:ps.length≤40:=qI fun z=>nb (.inr (.inl z))
 have ne:ps≠[]:=fun z=>nb (.inl z)
 have okg:=hb.std.ok
 refine ⟨b,_,rfl,fun E' hE=>⟨b,_,tx2 "flattest",ps.map dec,rfl,J4 (by decide +kernel) (by decide +kernel) l40 few,KH (by decide +kernel) ne,.inr (.inr (.inr (.inr (.inr (.inr (.inr (.inr (.inr (.inl ⟨rfl,fun W H1 nW s1 eW=>⟨b,S,P,ow,gs,past,W,_,rfl,hb.same s1,SqL.of eW,KF l40 few,by rw [z0];lia,fun h=>(by rw [Cr few] at h;cases h),fun ps' h=>?_⟩⟩)))))))))⟩⟩
 rw [Cr few] at h
 cases h
 refine ⟨fun z=>absurd z nb,fun _=>hp,fun _ l2 H2 s2=>hE _ _ (kf l2 H2 (s1.trans s2)),fun _ l2 H2 sg s2 pm as=>?_⟩
 have oks:∀ g∈sg,OkG g:=fun g hg=>okg g (BX (pm.mem_iff.mp hg))
 refine ⟨fun t p q okt all ed=>k l2 H2 sg _ _ (s1.trans s2) pm as (.throw t p q okt all ed rfl) (.throw (Kz t) [p,q] okt rfl rfl (ed.bd fun g hg=>(by obtain ⟨g2,h2,rfl⟩:=zZ.mp hg;exact (oks g2 h2).p9)) rfl),fun ns ne f=>?_⟩
 obtain ⟨l3,b3⟩:=f.ok oks
 exact k l2 H2 sg _ _ (s1.trans s2) pm as (.bar ns ne f rfl) (.bar ns ne rfl l3 b3 rfl)
noncomputable def WB {w:World}{K:W.Frag}{mg:Str→Option Value}(T:Tx w K mg):Sp:=fun vs H Q _=>∃ (d dx b:Addr) (S P:Addr) (ow:List Addr) (gs:List G) (past:List (List G)) (b2 S2 P2:Addr) (ow2:List Addr) (past2:List (List G)) (l:Addr) (ps:List Int),vs=[.ref d,.ref b2,.ref l]∧H d=some (.ins T.B3 dx [("beach",.ref b)])∧Bch T.AK H b S P ow gs past∧Bch T.AK H b2 S2 P2 ow2 gs past2∧SqL K H l (ps.map V.int)∧¬ Bs ps∧(∀ p∈ps,p∈AU gs)∧∀ H',AG H H'→Q (.bl true) H'
theorem QC (T:Tx w K mg):Aa P w K mg base CX0 15 T.SO T.Qv ["_law_desk","_law_beach","_law_places"] (WB T):=by
 refine T.Np.F.ok Qo (fun _ _ _ _ h=>by walk_at "LN") ?_
 ·walk_at "I2"
  obtain ⟨d,dx,b,S,P,ow,gs,past,b2,S2,P2,ow2,past2,l,ps,rfl,ed,hb,hb2,hl,nb,hp,k⟩:=h
  refine ⟨_,(AD (pst 3 Qo (AH AZ AN (CY PySem.F.plainAttrs_str PySem.F.slot_str_join PySem.F.type_str_join BU AN (AA (Bj rfl (⟨rfl,by decide +kernel,by decide +kernel,by decide +kernel,rfl,by decide +kernel,by with_unfolding_all rfl,by rfl,by rfl,by rfl⟩:Ar _ _ "_law_place" [] []) (A7 (pv 2)) (fun _ _ _ _  => (Al Ah (by rfl) T.Dh CG (AA (pv 0) AB))) (fun _ _ _ _=>BJ)) AB))))
   (AD (Ae (ptc Ib (Aj (pv 0) T.Da T.Ad.mt (BA T) (hr.mono (by decide)) T.Ad.b .nil AR (AA (AH AZ AN (pv 3)) AB)) (pcl T.DZ (Ew T) hr AR (AA (Aj (pv 1) T.AQ T.BE.mt (DK T) (hr.mono (by decide)) T.BE.b .nil L7 (AA (Al Gw (by rfl) T.Td Pk (AA (pv 2) AB)) AB)) (AA (Ao AB) AB)))) (AE (AI Jb))
    AS)
   (AD (Ae (ptc E7 (AT AW (by rfl) T.BN A0 (AA (pv 2) AB)) AC) (AE (AI (pec Bg (Aj (pv 0) T.Da T.Ad.mt (BA T) (hr.mono (by decide)) T.Ad.b .nil AR (AA (AH AZ AN (pv 3)) AB)) AN)))
    AS)
   (AD (Ae (ptc Ib (Aj (pv 0) T.Da T.Ad.mt (BA T) (hr.mono (by decide)) T.Ad.b .nil AR (AA (AH AZ AN (pv 3)) AB)) (pcl T.DZ (Ew T) hr AR (AA (Aj (pv 1) T.AQ T.Bc.mt (FY T) (hr.mono (by decide)) T.Bc.b .nil L7 (AA (Al Gw (by rfl) T.Td Pk (AA (pv 2) AB)) AB)) (AA (Ao (AA AN (AA AN AB))) AB)))) (AE (AI Jb))
    AS)
   (AE (AI (pec Bg (Aj (pv 0) T.Da T.Ad.mt (BA T) (hr.mono (by decide)) T.Ad.b .nil AR (AA (AH AZ AN (pv 3)) AB)) (pcl T.DZ (Ew T) hr AR (AA (Aj (pv 1) T.AQ T.Bb.mt (FO T) (hr.mono (by decide)) T.Bb.b .nil L7 (AA (Al Gw (by rfl) T.Td Pk (AA (pv 2) AB)) AB)) (AA (Ao (AA AN (AA AN AB))) AB)))))))))),?_⟩
  have few:=Hd hb.std hp
  have l40:ps.length≤40:=qI fun z=>nb (.inr (.inl z))
  walk_at "Q"
  delta tBM Ck C5
  have hs:((ps.map dec).map List.length).sum≤42*ps.length:=ES fun n hn=>by have:=few n hn;lia
  have hj:=Cv (s:=[32]) (ps.map dec)
  simp only [z0,zB,zG] at hj
  refine ⟨tyS,⟨_,hl⟩,fun D nD=>J9 (.inl ⟨l,rfl,hl⟩) (by lia) nD (fun n H2 R hm s2 hR=>?_) fun H2 s2 e2=>?_⟩
  ·delta Ux
   refine ⟨KN (by have:=few n hm;lia),?_⟩
   rw [BB]
   exact hR
  refine ⟨[32],HK,_,SqL.of e2,by simp only [z0,zB,zG];lia,by rw [HK,AY,AY,PySem.sizeLine_eq];simp only [zB,zG];lia,?_⟩
  rw [HK,A4]
  have hw:=wsz (ps:=ps) l40 few
  walk_at "NX"
  have ed2:=s2.get ed
  have hb_2:=hb.same s2
  have hb2_2:=hb2.same s2
  have hl2:=s2.seq hl
  replace k:=fun H' s=>k H' (s2.trans s)
  clear ed hb hb2 hl e2 s2 nD hj hs
  have sne:∀ sg:List G,sg.Perm (B4 gs ps)→sg≠[]:=fun sg pm z=>by
   have:=DS hp
   rw [z] at pm
   rw [← pm.length_eq] at this
   exact nb (.inl (q9.mp this.symm))
  walk_at "Q"
  delta Ux
  refine ⟨dx,_,ed2,rfl,hw _ (by decide),?_⟩
  rw [W4]
  refine ⟨d,dx,b,_,rfl,ed2,Ue hb_2 nb hp fun H3 sg x txt s3 pm ac an tt=>?_⟩
  have hb2_3:=hb2_2.same s3
  obtain ⟨dx2,eb2⟩:=hb2_3.at_
  refine ⟨dx2,_,eb2,rfl,_,.inl (s3.seq hl2),fun l4 H4 n4 s4 e4=>⟨b2,S2,P2,ow2,gs,past2,l4,ps,rfl,hb2_3.same s4,SqL.of e4,by lia,fun z=>absurd z nb,fun _=>hp,fun _ D5 H5 sg' x' s5 pm' ac' an' en=>⟨by decide,fun N H6 n6 s6 e6=>?_⟩⟩⟩
  cases MX pm' ac' pm ac
  cases an'.uniq (sne _ pm) an
  refine Te tt (Enc.same s6 en) (SqL.of e6) (by decide) (by simp) fun H7 s7=>?_
  refine ⟨rfl,?_⟩
  rw [if_neg (by simp)]
  walk_at "NX"
  have sA:=s3.trans (s4.trans (s5.trans (s6.trans s7)))
  have ed_7:=sA.get ed2
  have hb_7:=hb_2.same sA
  have hb2_7:=hb2_2.same sA
  have hl7:=sA.seq hl2
  replace k:=fun H' s=>k H' (sA.trans s)
  clear ed2 hb_2 hb2_2 hl2 sA s3 s4 s5 s6 s7 hb2_3 eb2 e4 e6 n4 n6 an an' en tt ac pm pm' ac'
  walk_at "Q"
  delta Ux
  refine ⟨_,.inl hl7,?_⟩
  rw [z0]
  by_cases l2:ps.length<2
  ·rw [if_pos (zE (by lia))]
   refine ⟨dx,_,ed_7,rfl,hw _ (by decide),?_⟩
   rw [W4]
   refine ⟨d,dx,b,_,rfl,ed_7,Mb hb_7 nb hp (fun _ H8 s8=>?_) fun z=>absurd l2 (by lia)⟩
   refine ⟨rfl,?_⟩
   rw [show decide (V.str (V7 Err.few)=V.str (Str.ofString "refused: too few"))=true from zE rfl]
   exact k _ s8
  rw [if_neg (fun z=>l2 (by have:=zH z;lia))]
  have l2:2≤ps.length:=by lia
  walk_at "NX"
  walk_at "Q"
  delta Ux
  refine ⟨dx,_,ed_7,rfl,hw _ (by decide),?_⟩
  rw [W4]
  refine ⟨d,dx,b,_,rfl,ed_7,Mb hb_7 nb hp (fun z=>absurd z (by lia)) fun _ H8 sg x txt s8 pm ac an tt=>?_⟩
  have hb2_8:=hb2_7.same s8
  obtain ⟨dx2,eb2⟩:=hb2_8.at_
  refine ⟨dx2,_,eb2,rfl,_,.inl (s8.seq hl7),fun l4 H4 n4 s4 e4=>⟨b2,S2,P2,ow2,gs,past2,l4,ps,rfl,hb2_8.same s4,SqL.of e4,by lia,fun z=>absurd z nb,fun _=>hp,fun _ z=>absurd z (by lia),fun _ _ D5 H5 sg' x' s5 pm' ac' an' en=>⟨by decide,fun N H6 n6 s6 e6=>?_⟩⟩⟩
  cases MX pm' ac' pm ac
  cases an'.uniq an
  refine Te tt (Enc.same s6 en) (SqL.of e6) (by decide) (by simp) fun H7 s7=>?_
  refine ⟨rfl,?_⟩
  rw [if_neg (by simp)]
  walk_at "NX"
  have sA:=s8.trans (s4.trans (s5.trans (s6.trans s7)))
  have ed_9:=sA.get ed_7
  have hb_9:=hb_7.same sA
  have hb2_9:=hb2_7.same sA
  have hl9:=sA.seq hl7
  replace k:=fun H' s=>k H' (sA.trans s)
  clear ed_7 hb_7 hb2_7 hl7 sA s8 s4 s5 s6 s7 hb2_8 eb2 e4 e6 n4 n6 an an' en tt ac pm pm' ac'
  delta Ux
  refine ⟨dx,_,ed_9,rfl,hw _ (by decide),?_⟩
  rw [W4]
  refine ⟨d,dx,b,_,rfl,ed_9,Tv hb_9 nb hp (fun z=>absurd z (by lia)) fun _ H8 sg x txt s8 pm ac an tt=>?_⟩
  have hb2_8:=hb2_9.same s8
  obtain ⟨dx2,eb2⟩:=hb2_8.at_
  refine ⟨dx2,_,eb2,rfl,_,.inl (s8.seq hl9),fun l4 H4 n4 s4 e4=>⟨b2,S2,P2,ow2,gs,past2,l4,ps,rfl,hb2_8.same s4,SqL.of e4,by lia,fun z=>absurd z nb,fun _=>hp,fun _ z=>absurd z (by lia),fun _ _ D5 H5 sg' x' s5 pm' ac' an' en=>⟨by decide,fun N H6 n6 s6 e6=>?_⟩⟩⟩
  cases MX pm' ac' pm ac
  cases an'.uniq an
  refine Te tt (Enc.same s6 en) (SqL.of e6) (by decide) (by simp) fun H7 s7=>?_
  refine ⟨rfl,?_⟩
  rw [zE rfl]
  exact k _ (s8.trans (s4.trans (s5.trans (s6.trans s7))))
theorem Oi:AJ ["_law_desk","_law_beach","_law_throw_here","_law_row"] ["_law_desk","_law_beach","_law_throw_here"] (AF MM):=by walk_at "SC"
theorem no32 (x y:Int):32∉frT x y:=by
 unfold frT
 split
 ·exact fun h=>by have:=B0 x 32 h;lia
 ·intro h
  rcases zb.mp h with z | z
  ·have:=B0 x 32 z;lia
  ·rcases zF.mp z with z | z
   ·lia
   ·have:=B0 y 32 z;lia
theorem gt (x:Int):47∉dec x:=fun h=>by have:=B0 x 47 h;lia
theorem Jx (x y:Int):∀ c∈frT x y,c<128:=by
 unfold frT
 split
 ·exact fun c h=>by have:=B0 x c h;lia
 ·intro c h
  rcases zb.mp h with z | z
  ·have:=B0 x c z;lia
  ·rcases zF.mp z with z | z
   ·lia
   ·have:=B0 y c z;lia
theorem WY {x y:Int}(hx:x.natAbs≤999999999)(hy:y.natAbs≤999999999):rdF (frT x y)=some (x,y):=by
 unfold frT
 by_cases h:y=1
 ·rw [if_pos h]
  unfold rdF
  rw [Gv (gt x),h]
  show (rdN (dec x)).map _=_
  rw [Pr hx];rfl
 ·rw [if_neg h]
  unfold rdF
  rw [Gf (gt x),Gv (gt y)]
  show (match rdN (dec x),rdN (dec y) with | some x,some y=>some (x,y) | _,_=>none)=_
  rw [Pr hx,Pr hy]
noncomputable def NJ (t:Thr):List Nat:=tx2 "passed"++32::(frT t.a t.b++32::frT t.c t.d)
theorem Y5 (t:Thr):B8 32 (NJ t)=[tx2 "passed",frT t.a t.b,frT t.c t.d]:=by
 unfold NJ
 rw [Gf (by decide +kernel),Gf (no32 _ _),Gv (no32 _ _)]
theorem aM {x y z v:Int}(h:¬ PJ x y z v):0<y∧0<v∧x.natAbs≤999999999∧y.natAbs≤999999999∧z.natAbs≤999999999∧v.natAbs≤999999999:=by
 have b:∀ n∈[x,y,z,v],¬ (n < -999999999∨999999999<n):=fun n hn q=>h (.inr (.inr ⟨n,hn,q⟩))
 have b1:=b x (by simp)
 have b2:=b y (by simp)
 have b3:=b z (by simp)
 have b4:=b v (by simp)
 have h1:¬ y<1:=fun q=>h (.inl q)
 have h2:¬ v<1:=fun q=>h (.inr (.inl q))
 lia
theorem WH {s y:List Nat}{c:Nat}:∀ {r:List (List Nat)},Ay s ((c::y)::r)=c::Ay s (y::r)
 | []=>rfl
 | z::r=>by rw [A6 (ys:=z::r) (by simp),A6 (ys:=z::r) (by simp)];rfl
theorem Ni:∀ {ys:List (List Nat)} {a:List Nat},Ay [] (a::ys.map (32::·))=Ay [32] (a::ys)
 | [],_=>rfl
 | y::r,a=>by
  rw [zU,A6 (ys:=(32::y)::r.map _) (by simp),A6 (s:=[32]) (ys:=y::r) (by simp),Ni,WH]
  rfl
theorem Yx {K:W.Frag}{ns:List Int}{te:TE}{caps:St}{D a:Addr}{H1:Hp}{Q:Hp→Prop}(hl:SqL K H1 a (ns.map V.int))(hz:ns.length≤1000000)(hD:H1 D=none)
  (hs:∀ n H (R:VK),n∈ns→AG H1 H→R (.str (tx (32::dec n))) H→te (some (.int n)::caps) H R)
  (hd:∀ H,AG H1 H→H D=some (.lst (tvs (ns.map fun n=>32::dec n)))→Q H):Ds te EM caps (Itl K a) D H1 Q:=by
 let f:V→V:=fun v=>match v with | .int n=>.str (tx (32::dec n)) | v=>v
 have ef:(ns.map V.int).map f=tvs (ns.map fun n=>32::dec n):=by rw [zp,tvs,zp];rfl
 exact K5 (by rw [z0,PySem.sizeLine_eq];lia) hD hl f (fun x H R hx s hR=>by
  obtain ⟨n,hn,rfl⟩:=zZ.mp hx
  exact hs n H R hn s hR) fun H s e=>hd H s (by rw [e,ef])
theorem Xo:Str.ofString "passed "=tx [112,97,115,115,101,100,32]:=by rfl
noncomputable def UW {w:World}{K:W.Frag}{mg:Str→Option Value}(T:Tx w K mg):Sp:=fun vs H Q _=>∃ (d dx b:Addr) (S P:Addr) (ow:List Addr) (gs:List G) (past:List (List G)) (b2 S2 P2:Addr) (ow2:List Addr) (past2:List (List G)) (q:Addr) (t:Thr),vs=[.ref d,.ref b2,.ref q]∧H d=some (.ins T.B3 dx [("beach",.ref b)])∧Bch T.AK H b S P ow gs past∧Bch T.AK H b2 S2 P2 ow2 gs past2∧H q=some (.tup t.vs)∧¬ PJ t.a t.b t.c t.d∧∀ H',AG H H'→Q (.bl true) H'
theorem Om (T:Tx w K mg):Aa P w K mg base CX0 15 T.QE T.Oa ["_law_desk","_law_beach","_law_throw_here"] (UW T):=by
 refine T.MG.F.ok Oi (fun _ _ _ _ h=>by walk_at "LN") ?_
 ·walk_at "I2"
  obtain ⟨d,dx,b,S,P,ow,gs,past,b2,S2,P2,ow2,past2,q,t,rfl,ed,hb,hb2,eq,nb,k⟩:=h
  refine ⟨_,(AD (pst 3 Oi (AH AZ (AH AZ (AH AZ AN (pcl T.IT (J1 T) hr AR (AA (pxi AL (pv 2) AC) (AA (pxi AL (pv 2) AC) AB)))) AN) (pcl T.IT (J1 T) hr AR (AA (pxi AL (pv 2) AC) (AA (pxi AL (pv 2) AC) AB)))))
   (AE (AI (pec Bg (Aj (pv 0) T.Da T.Ad.mt (BA T) (hr.mono (by decide)) T.Ad.b .nil AR (AA (pv 3) AB)) (CY PySem.F.plainAttrs_str PySem.F.slot_str_join PySem.F.type_str_join BU AN (AA (AH B7 (Ao (AA AN AB)) (Bj rfl (⟨rfl,by decide +kernel,by decide +kernel,by decide +kernel,rfl,by decide +kernel,by with_unfolding_all rfl,by rfl,by rfl,by rfl⟩:Ar _ _ "_law_place" [] []) (A7 (Aj (pv 1) T.AQ T.CF.mt (IF T) (hr.mono (by decide)) T.CF.b .nil L7 (AA (pv 2) AB))) (fun _ _ _ _  => (AH AZ AN (Al Ah (by rfl) T.Dh CG (AA (pv 0) AB)))) (fun _ _ _ _=>BJ))) AB)))))),?_⟩
  walk_at "Q"
  delta Ux
  obtain ⟨b0,d0,ha,hb9,hc,hd⟩:=aM nb
  have f1:=BL (x:=t.a) (y:=t.b) (by lia) (by lia)
  have f2:=BL (x:=t.c) (y:=t.d) (by lia) (by lia)
  refine ⟨_,SqT.of eq,_,rfl,_,SqT.of eq,_,rfl,t.a,t.b,rfl,by lia,by lia,_,rfl,?_⟩
  rw [Xo,A4,HK,A4,AY,AY,AY,AY,PySem.sizeLine_eq]
  simp only [zD,zB,zG]
  refine ⟨by lia,by lia,_,SqT.of eq,_,rfl,_,SqT.of eq,_,rfl,t.c,t.d,rfl,by lia,by lia,_,rfl,?_⟩
  rw [A4,AY,AY]
  refine ⟨by simp only [zD,zB,zG];lia,?_⟩
  rw [show [112,97,115,115,101,100,32]++frT t.a t.b++[32]++frT t.c t.d=NJ t from by unfold NJ;rw [show tx2 "passed"=[112,97,115,115,101,100] from by decide +kernel];simp]
  walk_at "NX"
  delta Ux
  have r1:=WY ha hb9
  have r2:=WY hc hd
  refine ⟨dx,_,ed,rfl,d,dx,b,tx (NJ t),rfl,ed,b,tx (NJ t),rfl,fun E' hE=>⟨b,NJ t,tx2 "passed",[frT t.a t.b,frT t.c t.d],rfl,⟨?_,?_⟩,Y5 t,.inr (.inr (.inr (.inr (.inr (.inr (.inr (.inr (.inr (.inr (.inr (.inr (.inl ⟨rfl,fun W H1 nW s1 eW=>⟨b,S,P,ow,gs,past,W,_,rfl,hb.same s1,SqL.of eW,⟨?_,by show 2≤100001;decide⟩,fun h=>absurd rfl h,fun w1 w2 hw=>?_⟩⟩))))))))))))⟩⟩
  ·unfold NJ
   intro c hc
   rcases zb.mp hc with z | z
   ·exact (by decide +kernel:∀ c∈tx2 "passed",c<128) c z
   ·rcases zF.mp z with z | z
    ·lia
    ·rcases zb.mp z with z | z
     ·exact Jx _ _ c z
     ·rcases zF.mp z with z | z
      ·lia
      ·exact Jx _ _ c z
  ·unfold NJ
   rw [show tx2 "passed"=[112,97,115,115,101,100] from by decide +kernel]
   simp only [zD,zB,zG]
   lia
  ·intro p hp
   simp only [zF,zf,or_false] at hp
   rcases hp with rfl | rfl
   ·exact ⟨Jx _ _,by lia⟩
   ·exact ⟨Jx _ _,by lia⟩
  obtain ⟨rfl,z⟩:=List.cons.inj hw
  obtain ⟨rfl,-⟩:=List.cons.inj z
  refine ⟨fun h=>(by rw [r1] at h;cases h),fun x y hxy=>?_⟩
  rw [r1] at hxy
  cases hxy
  refine ⟨fun h=>(by rw [r2] at h;cases h),fun z v hzv=>?_⟩
  rw [r2] at hzv
  cases hzv
  refine ⟨fun h=>absurd h nb,fun _ H2 s2=>?_⟩
  delta tBM Ck C5
  obtain ⟨dx2,eb2⟩:=hb2.at_
  have okg:=hb.std.ok
  have l40:=hb.std.len
  have s02:=s1.trans s2
  have lf:(AU (gs.filter (Qf t.a t.b t.c t.d))).length≤40:=by rw [z0];exact zO (qA _ _) l40
  have bf:∀ n∈AU (gs.filter (Qf t.a t.b t.c t.d)),n.natAbs≤10 ^ 40:=fun n hn=>by
   obtain ⟨g,hg,rfl⟩:=zZ.mp hn
   have:=(okg g (zz.mp hg).1).p9
   lia
  refine ⟨tyS,by decide,fun D3 H3 n3 s3 e3=>⟨dx2,_,(s02.trans s3).get eb2,rfl,b2,S2,P2,ow2,gs,past2,q,t.a,t.b,t.c,t.d,rfl,hb2.same (s02.trans s3),(s02.trans s3).get eq,fun h=>absurd h nb,fun _ D4 H4 n4 s4 e4=>?_⟩⟩
  generalize AU (gs.filter (Qf t.a t.b t.c t.d))=ns at *
  refine ⟨D4,rfl,⟨_,SqL.of e4⟩,fun D nD=>Yx (SqL.of e4) (by lia) nD (fun n H5 R hm s5 hR=>?_) fun H5 s5 e5=>?_⟩
  ·delta Ux
   have dn:=Do (bf n hm)
   refine ⟨KN (bf n hm),?_⟩
   rw [BB]
   refine ⟨by rw [HK,AY,AY,PySem.sizeLine_eq];simp only [zB,zG];lia,?_⟩
   rw [HK,A4]
   exact hR
  ·refine ⟨_,s5.get (s4.get e3),_,e5,by rw [z0,z0,PySem.sizeLine_eq];show 1+_≤_;lia,fun D6 H6 n6 s6 e6=>⟨[],by rfl,[112,97,115,115,101,100]::ns.map (fun n=>32::dec n),SqL.of (by rw [UB] at e6;exact e6),?_,?_⟩⟩
   ·have h1:((ns.map fun n=>32::dec n).map List.length).sum≤43*((ns.map fun n=>32::dec n).map List.length).length:=Pm fun x hx=>by
     obtain ⟨y,hy,rfl⟩:=zZ.mp hx
     obtain ⟨n,hn,rfl⟩:=zZ.mp hy
     have:=Do (bf n hn)
     show (dec n).length+1≤43
     lia
    rw [z0,z0] at h1
    simp only [zU,zn,zB,zG]
    lia
   ·rw [show ns.map (fun n=>32::dec n)=(ns.map dec).map (32::·) from by rw [zp];rfl,Ni,zE (by rfl)]
    exact k _ (s02.trans (s3.trans (s4.trans (s5.trans s6))))
theorem Cz:AJ ["_law_script","_law_how","_law_row","_law_beach","_law_desk","_law_k","_law_places","_law_text_here","_law_due","_law_told","_law_cell","_law_throw_here","_law_one"] ["_law_script"] (AF WW):=by walk_at "SC"
theorem Vg {sg:List G}{t t':Thr}(h:Ox sg t)(h':Ox sg t'):t=t':=by
 obtain ⟨i,e,b⟩:=h
 obtain ⟨i',e',b'⟩:=h'
 have h1:=b i' t' e'
 have h2:=b' i t e
 have:i=i':=by
  rcases Nat.lt_trichotomy i i' with z | z | z
  ·have:=h2.2 z
   lia
  ·exact z
  ·have:=h1.2 z
   lia
 subst this
 rw [e] at e'
 exact zV e'
theorem aA {H:Hp}{D:Addr}{gs:List G}{L q:Addr}{t:Thr}{sg:List G}(ma:Vl H D gs L q t sg)(ok:∀ g∈gs,OkG g)(h:1≤gs.length):AU (sg.filter fun g=>decide (t.pas g))≠[]:=fun z=>by
 have ls:=ma.hp.length_eq
 match sg,ma,ls,z with
 | [],_,ls,_=>rw [← ls] at h;exact absurd h (by decide)
 | g::r,ma,_,z =>
  have:=ma.most g.f 0 1 (by decide) [g] (List.singleton_sublist.mpr zP) fun x hx=>by
   rw [zI.mp hx]
   have:=(ok g (ma.hp.mem_iff.mp zP)).fh
   unfold Gj
   lia
  rw [List.map_eq_nil_iff.mp z] at this
  exact absurd this (by simp)
theorem Zs:Str.ofString "most "=tx [109,111,115,116,32]:=by rfl
theorem Xv:Str.ofString " throw "=tx [32,116,104,114,111,119,32]:=by rfl
theorem Xy {ns:List Int}{t:Thr}(ne:ns≠[]):[109,111,115,116,32]++Ay [32] (ns.map dec)++[32,116,104,114,111,119,32]++(frT t.a t.b++[32]++frT t.c t.d)=Qk ns t:=by
 have n1:ns.map dec≠[]:=fun z=>ne (List.map_eq_nil_iff.mp z)
 unfold Qk
 rw [A6 (by simp),show ∀ (l:List (List Nat)) (a b c:List Nat),l++[a,b,c]=(l++[a]++[b])++[c] from fun l a b c=>by simp,DI (by simp),DI (by simp),DI n1]
 simp only [zx,qV,List.nil_append]
theorem Xb:∀ {ys:List (List Nat)} {a:List Nat},a++Ay [] ys=Ay [] (a::ys)
 | [],a=>by show a++[]=a;rw [qS]
 | y::r,a=>by rw [A6 (ys:=y::r) (by simp)];rfl
theorem XI {rs:List Run}:[114,117,110,115]++Ay [] (rs.map fun r=>32::Dn r)=Yy rs:=by
 rw [Xb,show (rs.map fun r=>32::Dn r)=(rs.map Dn).map (32::·) from by rw [zp];rfl,Ni];rfl
theorem Uf:∀ {ys:List V} {gs:List G},Paired (fun v g=>v=V.int g.p) ys gs→ys=(AU gs).map V.int
 | _,_,.nil=>rfl
 | _,_,.cons h r=>by rw [h,Uf r];rfl
theorem Y1:Str.ofString "put "=tx [112,117,116,32]:=by rfl
theorem au {w:World}{K:W.Frag}{mg:Str→Option Value}{T:Tx w K mg}{H:Hp}{Q:VK}{E:XK}{b S P:Addr}{ow:List Addr}{gs:List G}{past:List (List G)}{p f h:Int}(hb:Bch T.AK H b S P ow gs past)(og:OkG ⟨p,f,h⟩)(hE:PK gs past p f h=none)
  (k:∀ H' S' ow',Kp b P H H'→Bch T.AK H' b S' P ow' (FK gs p [⟨p,f,h⟩]) (past++[gs])→(∀ a∈ow',a∈ow∨H a=none)→Q (.str (tx (Sa p f h))) H'):BH T [.ref b,.str (tx (Oc (tx2 "put") [p,f,h]))] H Q E:=by
 have few:∀ x∈[p,f,h],x.natAbs≤1000:=fun x hx=>by
  have h1:-1000≤p:=og.p0
  have h2:p≤1000:=og.p1
  have h3:-1000≤f:=og.f0
  have h4:f≤h:=og.fh
  have h5:h≤1000:=og.h1
  simp only [zF,zf,or_false] at hx
  rcases hx with rfl | rfl | rfl<;>omega
 refine ⟨b,_,rfl,fun E' hE'=>⟨b,_,tx2 "put",[p,f,h].map dec,rfl,J4 (by decide +kernel) (by decide +kernel) (by show 3≤40;decide) few,KH (by decide +kernel) (by simp),.inl ⟨rfl,fun W H1 nW s1 eW=>⟨b,S,P,ow,gs,past,W,_,rfl,hb.same s1,SqL.of eW,KF (by show 3≤40;decide) few,fun z=>?_,fun p' f' h' hz=>?_⟩⟩⟩⟩
 ·rw [Cr few] at z
  exact (z.elim (fun z=>z rfl) fun z=>by cases z).elim
 ·rw [Cr few] at hz
  cases hz
  exact ⟨fun e he=>(by rw [hE] at he;cases he),fun _ H2 S' ow' kp hb' ho=>k H2 S' ow' ((Kp.of s1).trans kp) hb' fun a ha=>(ho a ha).imp id fun z=>s1.free z⟩
theorem Y6 {w:World}{K:W.Frag}{mg:Str→Option Value}{T:Tx w K mg}{H:Hp}{Q:VK}{E:XK}{b S P:Addr}{ow:List Addr}{gs:List G}{past:List (List G)}(hb:Bch T.AK H b S P ow gs past)
  (k:∀ H' rs,AG H H'→(rs.flatMap Run.all).Perm gs→Asc (rs.flatMap Run.all)→Far rs→UU rs→(∀ r∈rs,OkT r.t∧∀ g∈r.all,r.t.pas g)→Q (.str (tx (Yy rs))) H'):BH T [.ref b,.str (Str.ofString "runs")] H Q E:=
 ⟨b,_,rfl,fun E' hE'=>⟨b,_,tx2 "runs",[],rfl,⟨by decide +kernel,by decide +kernel⟩,by decide +kernel,.inr (.inr (.inr (.inr (.inr (.inr (.inr (.inr (.inr (.inr (.inl ⟨rfl,fun W H1 nW s1 eW=>⟨b,S,P,ow,gs,past,W,[],rfl,hb.same s1,SqL.of eW,⟨fun p hp=>absurd hp (by simp),by decide⟩,fun z=>absurd rfl z,fun _ H2 rs s2=>k H2 rs (s1.trans s2)⟩⟩))))))))))⟩⟩
theorem YM {w:World}{K:W.Frag}{mg:Str→Option Value}{T:Tx w K mg}{H:Hp}{Q:VK}{E:XK}{b S P:Addr}{ow:List Addr}{gs:List G}{past:List (List G)}(hb:Bch T.AK H b S P ow gs past)(tb:LM.Tbl H Cq D0 O8)
  (ks:(gs.length=0∨12<gs.length)→∀ H',AG H H'→Q (.str (V7 .size)) H')
  (k:1≤gs.length→gs.length≤12→∀ H' t sg,CU Cq H H'→LM.Tbl H' Cq D0 O8→OkT t→Ox sg t→sg.Perm gs→Asc sg→Q (.str (tx (Qk (AU (sg.filter fun g=>decide (t.pas g))) t))) H'):BH T [.ref b,.str (Str.ofString "most")] H Q E:=
 ⟨b,_,rfl,fun E' hE'=>⟨b,_,tx2 "most",[],rfl,⟨by decide +kernel,by decide +kernel⟩,by decide +kernel,.inr (.inr (.inr (.inr (.inr (.inr (.inr (.inr (.inr (.inr (.inr (.inl ⟨rfl,fun W H1 nW s1 eW=>⟨b,S,P,ow,gs,past,W,[],rfl,hb.same s1,SqL.of eW,⟨fun p hp=>absurd hp (by simp),by decide⟩,Bq tb s1,fun z=>absurd rfl z,fun _=>⟨fun h H2 s2=>hE' _ _ (ks h H2 (s1.trans s2)),fun h1 h2 H2 t sg s2=>k h1 h2 H2 t sg ((CU.of s1).trans s2)⟩⟩⟩)))))))))))⟩⟩
structure W2 (C:Addr)(H:Hp)(b S P:Nat→Addr)(ow:Nat→List Addr)(gs:Nat→List G)(past:Nat→List (List G))(L0:List (Addr×HO)):Prop where
 fam:Fam C H 2 b S P ow gs past
 it:∀ p∈L0,H p.1=some p.2∧Yc 2 ow p.1 p.2
 tb:LM.Tbl H Cq D0 O8
theorem W2.same {C:Addr}{H H':Hp}{b S P:Nat→Addr}{ow:Nat→List Addr}{gs:Nat→List G}{past:Nat→List (List G)}{L0:List (Addr×HO)}(w:W2 C H b S P ow gs past L0)(s:AG H H'):W2 C H' b S P ow gs past L0:=
 ⟨w.fam.same s,fun p hp=>⟨s _ _ (w.it p hp).1,(w.it p hp).2⟩,Bq w.tb s⟩
theorem W2.step {C:Addr}{H H':Hp}{b S P:Nat→Addr}{ow:Nat→List Addr}{gs:Nat→List G}{past:Nat→List (List G)}{L0:List (Addr×HO)}(w:W2 C H b S P ow gs past L0){i:Nat}(hi:i<2)(k:Kp (b i) (P i) H H'){S' P':Addr}{ow':List Addr}{gs':List G}{past':List (List G)}(hb:Bch C H' (b i) S' P' ow' gs' past')(ho:∀ a∈ow',a∈ow i∨H a=none) :
  W2 C H' b (HE S i S') (HE P i P') (HE ow i ow') (HE gs i gs') (HE past i past') L0 where
 fam:=w.fam.step hi k hb ho
 it:=fun p hp=>by
  obtain ⟨h1,h2⟩:=w.it p hp
  exact ⟨w.fam.get hi k h1 h2,Fam.far ho hi h1 h2⟩
 tb:=by
  obtain ⟨dx,eb⟩:=(w.fam.bch i hi).at_
  obtain ⟨ps,ep,_⟩:=(w.fam.bch i hi).pa
  have g:∀ a u,(∀ x,u≠.lst x)→(∀ x y z,u≠.ins x y z)→H a=some u→H' a=some u:=fun a u h1 h2 e=>k a u (fun z=>by rw [z,eb] at e;cases e;exact h2 _ _ _ rfl) (fun z=>by rw [z,ep] at e;cases e;exact h1 _ rfl) e
  rcases w.tb with h | ⟨c,o,u,vs,t,h1,h2,h3⟩
  ·exact .inl (g _ _ (fun _ z=>nomatch z) (fun _ _ _ z=>nomatch z) h)
  ·exact .inr ⟨c,o,u,vs,t,g _ _ (fun _ z=>nomatch z) (fun _ _ _ z=>nomatch z) h1,g _ _ (fun _ z=>nomatch z) (fun _ _ _ z=>nomatch z) h2,h3⟩
noncomputable def VS (K:W.Frag):Sp:=fun vs H Q _=>∃ (a:Addr) (ns:List Int),vs=[.ref a]∧SqL K H a (ns.map V.int)∧ns.length≤63∧LM.Tbl H Cq D0 O8∧∀ H',Q (.bl true) H'
theorem cq (T:Tx w K mg):Aa P w K mg base CX0 16 T.bE T.Zd ["_law_script"] (VS K):=by
 refine T.d_law.F.ok Cz (fun _ _ _ _ h=>by walk_at "LN") ?_
 ·walk_at "I2"
  obtain ⟨a,ns,rfl,hS,hl,tb,k⟩:=h
  refine ⟨_,(AD (pst 1 Cz (pcl T.Lw (J6 T) hr AR (AA (pv 0) (AA AC AB))))
   (AD (pst 2 Cz (pcl T.Sc (VU T) hr AR (AA (pv 0) (AA AC (AA (AH Ap AC (AH Aq (AH EU (pv 1) AC) (pxi AX (Ao (AA AC (AA AC AB))) (AH Aq (pv 1) AC)))) AB)))))
   (AD (pst 3 Cz (RF T.MW (K4 T) (hr.mono (by decide)) (by rfl) T.Wu T.HX.b .nil AR))
   (AD (pst 4 Cz (RF T.TW (To T) (hr.mono (by decide)) (by rfl) T.ju T.Op.b .nil AR))
   (AD (Bo PassesOwn.never rfl (DF (by rfl) T.EX (AA (AT AW (by rfl) T.BN A0 (AA (pv 2) AB)) AB)) (pgn 5 Cz)
    (AD (A5 (Aj (pv 3) T.AQ T.Di.mt (Mi T) (hr.mono (by decide)) T.Di.b .nil L7 (AA (pxi AL (pxi AX (pv 2) (pv 5)) AC) (AA (pxi AL (pxi AX (pv 2) (pv 5)) AC) (AA (pxi AL (pxi AX (pv 2) (pv 5)) AC) AB)))))
     (AE (A5 (Aj (pv 4) T.Da T.Ad.mt (BA T) (hr.mono (by decide)) T.Ad.b .nil AR (AA (AH AZ AN (CY PySem.F.plainAttrs_str PySem.F.slot_str_join PySem.F.type_str_join BU AN (AA (Bj rfl (⟨rfl,by decide +kernel,by decide +kernel,by decide +kernel,rfl,by decide +kernel,by with_unfolding_all rfl,by rfl,by rfl,by rfl⟩:Ar _ _ "_law_part_here" [] []) (Nu (pxi AX (pv 2) (AH Ax (AH Ax (AT AW (by rfl) T.BN A0 (AA (pv 2) AB)) AC) (pv 5)))) (fun _ _ _ _  => (Al Ah (by rfl) T.Dh CG (AA (pv 0) AB))) (fun _ _ _ _=>BJ)) AB))) AB))))))
   (AD (MN (i:=6) rfl Cz.nd rfl (Or.inl rfl) (⟨rfl,by decide +kernel,by decide +kernel,by decide +kernel,rfl,by decide +kernel,by with_unfolding_all rfl,by rfl,by rfl,by rfl⟩:Ar _ _ "_law_gate" [] []) (A7 (pv 2)) (fun _ _ _ _  => (pxi (G1 (K:=K) rfl) (pv 0) AC)) (fun _ _ _ _=>BJ))
   (AD (Ae (Kn (La (EC (pcl T.Np (QC T) hr AR (AA (pv 4) (AA (pv 3) (AA (pv 6) AB)))))) (Fz (La (EC (pcl T.Np (QC T) hr AR (AA (pv 4) (AA (pv 3) (AA (Ct Et (pv 6) Eg (EK AC)) AB)))))))).pt (AE (AI Jb))
    AS)
   (AD (pst 7 Cz (CY PySem.F.plainAttrs_str PySem.F.slot_str_join PySem.F.type_str_join BU AN (AA (Bj rfl (⟨rfl,by decide +kernel,by decide +kernel,by decide +kernel,rfl,by decide +kernel,by with_unfolding_all rfl,by rfl,by rfl,by rfl⟩:Ar _ _ "_law_run" [] []) (A7 (Eu (pv 3) T.AQ T.C0.mt (Kq T) (hr.mono (by decide)) T.C0.b .nil AR)) (fun _ _ _ _  => (AH AZ (AH AZ (AH AZ (AH AZ (AH AZ AN (Al Ah (by rfl) T.Dh CG (AA (pxi (G1 (K:=K) rfl) (pv 0) AC) AB))) AN) (Al Ah (by rfl) T.Dh CG (AA (pxi (G1 (K:=K) rfl) (pv 0) AC) AB))) AN) (pcl T.NB (Nk T) hr AR (AA (pxi (G1 (K:=K) rfl) (pv 0) AC) (AA AN AB))))) (fun _ _ _ _=>BJ)) AB)))
   (AD (Ae (ptc Ib (Aj (pv 4) T.Da T.Ad.mt (BA T) (hr.mono (by decide)) T.Ad.b .nil AR (AA AN AB)) (AH AZ AN (pv 7))) (AE (AI Jb))
    AS)
   (AD (pst 8 Cz AN)
   (Jy (Ae (ptc Zc (AT AW (by rfl) T.BN A0 (AA (pv 2) AB)) AC) (AD (pst 9 Cz (Eu (pv 3) T.AQ T.Cy.mt (K9 T) (hr.mono (by decide)) T.Cy.b .nil L7))
     (AE (pst 8 Cz (AH AZ (AH AZ (AH AZ AN (CY PySem.F.plainAttrs_str PySem.F.slot_str_join PySem.F.type_str_join BU AN (AA (Bj rfl (⟨rfl,by decide +kernel,by decide +kernel,by decide +kernel,rfl,by decide +kernel,by with_unfolding_all rfl,by rfl,by rfl,by rfl⟩:Ar _ _ "_law_place" [] []) (A7 (pxi AL (pv 9) AC)) (fun _ _ _ _  => (Al Ah (by rfl) T.Dh CG (AA (pv 0) AB))) (fun _ _ _ _=>BJ)) AB))) AN) (pcl T.NB (Nk T) hr AR (AA (pxi AL (pv 9) AC) (AA AN AB)))))))
    AS)
   (AD (Ae (ptc Ib (Aj (pv 4) T.Da T.Ad.mt (BA T) (hr.mono (by decide)) T.Ad.b .nil AR (AA AN AB)) (pv 8)) (AE (AI Jb))
    AS)
   (AD (pst 10 Cz (pcl T.Lw (J6 T) hr AR (AA (pv 0) (AA AC AB))))
   (AD (pst 11 Cz (Ag (AA (AH Ax (AH Aq (pv 10) AC) AC) (AA (AH Ap AC (AH Aq (AH EU (pv 10) AC) AC)) (AA (AH Ax (AH Aq (AH EU (pv 10) AC) AC) AC) (AA (AH Ap AC (AH Aq (AH EU (pv 10) AC) AC)) AB))))))
   (AD (pst 12 Cz (Aj (pv 3) T.AQ T.BE.mt (DK T) (hr.mono (by decide)) T.BE.b .nil L7 (AA (Ct Et (pv 6) Eg (EK AC)) AB)))
   (AE (AI (V8 (pcl T.MG (Om T) hr AR (AA (pv 4) (AA (pv 3) (AA (pv 11) AB)))) (V3 (pcl T.MG (Om T) hr AR (AA (pv 4) (AA (pv 3) (AA (pxi AL (pv 12) AC) AB))))))))))))))))))))))),?_⟩
  obtain ⟨scI,hI,rd⟩:∃ scI:List (Addr×HO),(∀ p∈scI,H p.1=some p.2∧((∃ xs,p.2 = .lst xs)∨∃ o v,p.2 = .frz o v))∧∀ H',(∀ p∈scI,H' p.1=some p.2)→SqL K H' a (ns.map V.int):=by
   rcases hS with (h | ⟨o,h⟩) | h
   ·exact ⟨[(a,.lst (ns.map V.int))],fun p hp=>(by rw [zI.mp hp];exact ⟨h,.inl ⟨_,rfl⟩⟩),fun H' h'=>.inl (.inl (h' _ (zI.mpr rfl)))⟩
   ·exact ⟨[(a,.frz o (.lst (ns.map V.int)))],fun p hp=>(by rw [zI.mp hp];exact ⟨h,.inr ⟨_,_,rfl⟩⟩),fun H' h'=>.inl (.inr ⟨o,h' _ (zI.mpr rfl)⟩)⟩
   ·exact ⟨[],fun p hp=>absurd hp (by simp),fun H' _=>.inr h⟩
  walk_at "Q"
  refine ⟨_,rfl,a,0,ns,rfl,by decide,hS,?_⟩
  walk_at "NX"
  generalize ns.getD (Int.toNat 0) 0=how
  walk_at "Q"
  delta Q5
  refine ⟨by decide,fun z H1 n1 s1 e1=>?_⟩
  obtain ⟨m,hm,hm2⟩:=atL2 (x:=14) (y:=40) (e:=how % 2) (by lia) (by lia)
  have hm3:0<m:=by lia
  have q1:=Int.emod_nonneg (how / 2) (show m≠0 by lia)
  have q2:=Int.emod_lt_of_pos (how / 2) hm3
  refine ⟨_,SqL.of e1,_,hm,m,rfl,hm3,⟨_,s1.seq hS⟩,by lia,by lia,fun D1 H2 as gs nD s2 e2 ga lg ok nd=>?_⟩
  have h40:gs.length≤40:=by lia
  have h01:1≤gs.length:=by lia
  walk_at "NX"
  have s02:=s1.trans s2
  clear lg hm hm2 hm3 q1 q2 e1 n1 nD
  have la:=ga.len
  walk_at "Q"
  delta Ux
  refine VA fun b0 S0 P0 H3 nb0 nS0 nP0 s3 hb0=>?_
  walk_at "NX"
  walk_at "Q"
  delta Ux
  refine Z4 fun d dx c S1 P1 H4 nd nc nS1 nP1 s4 ed hc=>?_
  walk_at "NX"
  have f0:=Fam.nil (C:=T.AK) (H:=H2)
  have f1:=f0.push s3 nb0 nS0 nP0 hb0
  have f2:=f1.push s4 nc nS1 nP1 hc
  obtain ⟨_,aS0⟩:=hb0.lv S0 (by simp)
  obtain ⟨_,aP0⟩:=hb0.lv P0 (by simp)
  obtain ⟨L1,hL1⟩:∃ L1:List (Addr×HO),L1=[(D1,.lst (as.map V.ref)),(d,.ins T.B3 dx [("beach",.ref c)])]:=⟨_,rfl⟩
  obtain ⟨b,S,P,ow,G0,past,f4,⟨eb0,eb1⟩,⟨eo0,eo1⟩,egs⟩:∃ b S P ow G0 past,Fam T.AK H4 2 b S P ow G0 past∧(b 0=b0∧b 1=c)∧(ow 0=[S0,P0]∧ow 1=[S1,P1])∧∀ i,i<2→G0 i=[]∧past i=[]:=
   ⟨_,_,_,_,_,_,f2,⟨rfl,rfl⟩,⟨rfl,rfl⟩,fun i hi=>(by
    match i,hi with
    | 0,_=>exact ⟨rfl,rfl⟩
    | 1,_=>exact ⟨rfl,rfl⟩)⟩
  have off:∀ x:Addr,(∃ u,H2 x=some u)→∀ i,i<2→x∉ow i:=fun x ⟨u,e⟩ i hi z=>by
   match i,hi with
   | 0,_ =>
    rw [eo0] at z
    simp only [zF,zf,or_false] at z
    rcases z with rfl | rfl
    ·rw [nS0] at e;cases e
    ·rw [nP0] at e;cases e
   | 1,_ =>
    rw [eo1] at z
    simp only [zF,zf,or_false] at z
    rcases z with rfl | rfl
    ·rw [s3.free nS1] at e;cases e
    ·rw [s3.free nP1] at e;cases e
  have w4:W2 T.AK H4 b S P ow G0 past (scI++L1):=by
   refine ⟨f4,fun p hp=>?_,Bq tb (s02.trans (s3.trans s4))⟩
   rcases zb.mp hp with hp | hp
   ·obtain ⟨e,hf⟩:=hI p hp
    refine ⟨s4 _ _ (s3 _ _ (s02 _ _ e)),?_⟩
    rcases hf with hf | hf
    ·exact .inr (.inr (.inr ⟨hf,off _ ⟨_,s02 _ _ e⟩⟩))
    ·exact .inl hf
   ·rw [hL1] at hp
    simp only [zF,zf,or_false] at hp
    rcases hp with rfl | rfl
    ·exact ⟨s4.get (s3.get e2),.inr (.inr (.inr ⟨⟨_,rfl⟩,off _ ⟨_,e2⟩⟩))⟩
    ·exact ⟨ed,.inr (.inr (.inl ⟨_,_,_,rfl⟩))⟩
  have ga4:=(ga.same s3).same s4
  have mD:(D1,HO.lst (as.map V.ref))∈scI++L1:=by rw [hL1];simp
  have md:∃ dx,(d,HO.ins T.B3 dx [("beach",.ref (b 1))])∈scI++L1:=⟨dx,by rw [hL1,eb1];simp⟩
  have rdw:∀ H',(∀ p∈scI++L1,H' p.1=some p.2)→SqL K H' a (ns.map V.int):=fun H' h=>rd H' fun p hp=>h p (qD _ hp)
  have g0:=egs 0 (by decide)
  have g1:=egs 1 (by decide)
  rw [← eb0]
  clear f0 f1 f2 f4 off egs eo0 eo1 eb1 hL1 hb0 hc ed nd nc nS1 nP1 nS0 nP0 nb0 aS0 aP0 ga e2 s02 s1 s2 s3 s4 hS hI rd tb eb0
  generalize scI++L1=L0 at *
  clear scI L1 b0 S0 P0 c S1 P1 H1 H2 H3
  walk_at "Q"
  delta Ux
  refine ⟨_,rfl,_,rfl,_,.inl (SqL.of (w4.it _ mD).1),_,rfl,by rw [z0];lia,by rw [z0];lia,CM (fun i σ H'=>∃ (o5:Option V) (S P:Nat→Addr) (ow:Nat→List Addr) (G0:Nat→List G) (past:Nat→List (List G)),σ=[some (.ref a),some (.int how),some (.ref D1),some (.ref (b 0)),some (.ref d),o5,none,none,none,none,none,none,none]∧W2 T.AK H' b S P ow G0 past L0∧Am H' as gs∧((G0 0).Perm (gs.take i)∧(past 0).length=i)∧(G0 1).Perm (gs.reverse.take i)∧(past 1).length=i) ⟨none,S,P,ow,G0,past,rfl,w4,ga4,⟨(by rw [g0.1];exact List.Perm.refl _),by rw [g0.2];rfl⟩,(by rw [g1.1];exact List.Perm.refl _),by rw [g1.2];rfl⟩ ?_ ?_⟩
  ·clear w4 ga4 g0 g1 S P ow G0 past
   rintro i σ H1 hi ⟨o5,S,P,ow,G0,past,rfl,w,ga1,⟨pm0,l0⟩,pm1,l1⟩
   rw [z0,la] at hi
   have hi:i<gs.length:=by lia
   dsimp only [EH,List.set_cons_succ,List.set_cons_zero]
   obtain ⟨ai,hai,ti⟩:=ga1.get (z9 hi)
   obtain ⟨fp1,fp2⟩:=UM pm0 hi nd h40 ok (past:=past 0) (by lia)
   have ogi:=ok _ (zY hi)
   have hb0:=w.fam.bch 0 (by decide)
   obtain ⟨dx0,eb0⟩:=hb0.at_
   have ei:atI (as.map V.ref) (0+(i:Int))=some (.ref ai):=by rw [Int.zero_add];exact Cd (by rw [zN,hai];rfl)
   generalize gs[i]=g at *
   walk_at "Q"
   delta Ux
   refine ⟨dx0,_,eb0,rfl,_,SqL.of (w.it _ mD).1,_,ei,_,rfl,_,SqT.of ti,_,rfl,_,SqL.of (w.it _ mD).1,_,ei,_,rfl,_,SqT.of ti,_,rfl,_,SqL.of (w.it _ mD).1,_,ei,_,rfl,_,SqT.of ti,_,rfl,b 0,S 0,P 0,ow 0,G0 0,past 0,g.p,g.f,g.h,rfl,hb0,fun e he=>(by rw [fp1] at he;cases he),fun hE7 H7 S' ow' D kp hb7 o7 eD=>?_⟩
   walk_at "NX"
   clear hE7
   obtain ⟨S7,P7,ow7,G7,past7,w7,pm7,l7,pm8,l8⟩:∃ S7 P7 ow7 G7 past7,W2 T.AK H7 b S7 P7 ow7 G7 past7 L0∧(G7 0).Perm (gs.take (i+1))∧(past7 0).length=i+1∧(G7 1).Perm (gs.reverse.take i)∧(past7 1).length=i:=
    ⟨_,_,_,_,_,w.step (i:=0) (by decide) kp hb7 o7,by rw [CP];exact fp2,by rw [CP,zD,l0];rfl,by rw [BW (by decide)];exact pm1,by rw [BW (by decide)];exact l1⟩
   have ga7:Am H7 as gs:=ga1.keep fun a xs e=>w.fam.get (by decide) kp e (.inr (.inl ⟨xs,rfl⟩))
   clear w hb0 eb0 ti kp hb7 o7 eD fp1 fp2 ogi hai ei ga1 pm0 pm1 l0 l1 S P ow G0 past
   have hj:gs.length-1-i<gs.length:=by lia
   obtain ⟨aj,haj,tj⟩:=ga7.get (z9 hj)
   have hir:i<gs.reverse.length:=by rw [List.length_reverse];exact hi
   obtain ⟨fp1,fp2⟩:=UM pm8 hir (by rw [List.map_reverse];exact (List.reverse_perm _).nodup_iff.mpr nd) (by rw [List.length_reverse];exact h40) (fun x hx=>ok x (List.mem_reverse.mp hx)) (past:=past7 1) (by lia)
   rw [List.getElem_reverse] at fp1 fp2
   have ogj:=ok _ (zY hj)
   have ej:atI (as.map V.ref) (((as.map V.ref).length:Int)-1-(0+(i:Int)))=some (.ref aj):=by
    rw [z0,la,show (gs.length:Int)-1-(0+(i:Int))=((gs.length-1-i:Nat):Int) by lia]
    exact Cd (by rw [zN,haj];rfl)
   generalize gs[gs.length-1-i]=g at *
   obtain ⟨dx,md⟩:=md
   have few:∀ x∈[g.p,g.f,g.h],x.natAbs≤1000:=fun x hx=>by
    have h1:=ogj.p0
    have h2:=ogj.p1
    have h3:=ogj.f0
    have h4:=ogj.fh
    have h5:=ogj.h1
    simp only [zF,zf,or_false] at hx
    rcases hx with rfl | rfl | rfl<;>omega
   delta tBM Ck XY
   refine ⟨dx,_,(w7.it _ md).1,rfl,tyS,_,.inl (SqL.of (w7.it _ mD).1),_,SqL.of (w7.it _ mD).1,_,ej,_,rfl,⟨_,SqT.of tj⟩,fun D2 nD2=>J9 (ns:=[g.p,g.f,g.h]) (.inr ⟨_,rfl,SqT.of tj⟩) (by show 3≤1000000;decide) nD2 (fun n H8 R hm s8 hR=>?_) fun H8 s8 e8=>?_⟩
   ·delta Ux
    refine ⟨KN ?_,?_⟩
    ·have:=few n hm;lia
    rw [BB]
    exact hR
   have w8:=w7.same s8
   have hs:(([g.p,g.f,g.h].map dec).map List.length).sum≤42*3:=ES fun n hn=>by have:=few n hn;lia
   have hb8:=w8.fam.bch 1 (by decide)
   refine ⟨[32],HK,_,SqL.of e8,by simp only [z0,zB,zG];lia,?_⟩
   have hj:=Cv (s:=[32]) ([g.p,g.f,g.h].map dec)
   simp only [z0,zB,zG] at hj
   refine ⟨by rw [Y1,AY,AY,PySem.sizeLine_eq];simp only [zB,zG];lia,d,dx,b 1,_,rfl,(w8.it _ md).1,?_⟩
   rw [show Str.ofString "put "++tx (Ay [32] ([g.p,g.f,g.h].map dec))=tx (Oc (tx2 "put") [g.p,g.f,g.h]) from by rw [Y1,A4];rfl]
   refine au hb8 ogj fp1 fun H9 S' ow' kp hb9 o9=>⟨⟨_,rfl⟩,_,_,_,_,_,w8.step (i:=1) (by decide) kp hb9 o9,(ga7.same s8).keep fun a xs e=>w8.fam.get (by decide) kp e (.inr (.inl ⟨xs,rfl⟩)),by rw [BW (by decide)];exact pm7,by rw [BW (by decide)];exact l7,by rw [CP];exact fp2,by rw [CP,zD,l8];rfl⟩
  ·clear w4 ga4 g0 g1 S P ow G0 past
   rintro σ H1 ⟨o5,S,P,ow,G0,past,rfl,w,ga1,⟨pm0,-⟩,pm1,-⟩
   rw [z0,la,qK,zj] at pm0
   rw [z0,la,qK,qL (by rw [List.length_reverse];exact zL _)] at pm1
   refine hM _ _ ?_
   clear hM M
   have hb1:=w.fam.bch 1 (by decide)
   have hb0:=w.fam.bch 0 (by decide)
   have pm1:=pm1.trans (List.reverse_perm _)
   have eg:G0 0=G0 1:=BO hb0.std.asc hb1.std.asc (pm0.trans pm1.symm)
   rw [eg] at hb0
   clear eg pm0
   obtain ⟨dx,md⟩:=md
   have ed:=(w.it _ md).1
   have e1:=(w.it _ mD).1
   have tb:=w.tb
   have sc:∃ xs:List Int,SqL K H1 a (xs.map V.int):=⟨ns,rdw H1 fun p hp=>(w.it p hp).1⟩
   dsimp only at e1 ed
   generalize G0 1=sg at *
   generalize b 0=b0 at *
   generalize b 1=c at *
   generalize S 0=S0 at *
   generalize S 1=S1 at *
   generalize P 0=P0 at *
   generalize P 1=P1 at *
   generalize ow 0=ow0 at *
   generalize ow 1=ow1 at *
   generalize past 0=past0 at *
   generalize past 1=past1 at *
   clear w md mD rdw S P ow G0 past L0 b
   walk_at "Q"
   delta C5
   refine ⟨⟨_,SqL.of e1⟩,fun D2 nD2=>KI (fun _ v g=>v=V.int g.p) (fun _ _ _ _ _ z=>z) (fun _ _ _ _ _ _ z=>z) (SqL.of e1) ga1 nD2 (by lia) (fun v g H R hg s ev hR=>?_) fun H2 ys s2 e2 pr=>?_⟩
   ·delta qO
    exact ⟨_,SqT.of ev,_,rfl,hR _ _ (AG.refl _) rfl⟩
   cases Uf pr
   walk_at "NX"
   have npl:¬ Bs (AU gs):=fun z=>by
    have lp:(AU gs).length=gs.length:=z0 ..
    rcases z with z | z | z
    ·rw [z,zG] at lp;lia
    ·lia
    ·exact z nd
   have spl:∀ p∈AU gs,p∈AU sg:=fun p hp=>(pm1.map G.p).mem_iff.mpr hp
   replace hb0:=hb0.same s2
   replace hb1:=hb1.same s2
   replace ed:=s2.get ed
   replace tb:=Bq tb s2
   replace e1:=s2.get e1
   replace sc:∃ xs:List Int,SqL K H2 a (xs.map V.int):=sc.imp fun _ h=>s2.seq h
   clear s2 ga1 pr nD2
   walk_at "Q"
   delta Ux
   refine ⟨d,dx,c,S1,P1,ow1,sg,past1,b0,S0,P0,ow0,past0,D2,AU gs,rfl,ed,hb1,hb0,SqL.of e2,npl,spl,fun H3 s3=>⟨true,rfl,?_⟩⟩
   rw [if_neg (by decide)]
   refine ⟨_,SqL.of (s3.get e2),fun D3 H4 n4 s4 e4=>?_⟩
   rw [show (2:Int)=((2:Nat):Int) from rfl,Hb,← List.map_take] at e4
   have s34:=s3.trans s4
   have npl2:¬ Bs ((AU gs).take 2):=fun z=>by
    have lp:((AU gs).take 2).length=min 2 gs.length:=by rw [zw,AU,z0]
    rcases z with z | z | z
    ·rw [z,zG] at lp;lia
    ·lia
    ·exact z (nd.sublist (List.take_sublist _ _))
   refine ⟨d,dx,c,S1,P1,ow1,sg,past1,b0,S0,P0,ow0,past0,D3,(AU gs).take 2,rfl,s34.get ed,hb1.same s34,hb0.same s34,SqL.of e4,npl2,fun p hp=>spl p (zy hp),fun H5 s5=>⟨true,rfl,?_⟩⟩
   rw [if_neg (by decide)]
   walk_at "NX"
   have s35:=s34.trans s5
   replace hb0:=hb0.same s35
   replace hb1:=hb1.same s35
   replace ed:=s35.get ed
   replace tb:=Bq tb s35
   replace e1:=s35.get e1
   replace e2:=s35.get e2
   replace sc:∃ xs:List Int,SqL K H5 a (xs.map V.int):=sc.imp fun _ h=>s35.seq h
   clear s3 s4 s5 s34 s35 e4 n4 npl2
   have okg:=hb0.std.ok
   have l40:=hb0.std.len
   obtain ⟨dx0,eb0⟩:=hb0.at_
   walk_at "Q"
   delta tBM Ck C5
   refine ⟨tyS,dx0,_,eb0,rfl,b0,S0,P0,ow0,sg,past0,rfl,hb0,fun D6 H6 ar rs n6 s6 ra ows=>⟨_,rfl,⟨_,SqL.of ra.eD⟩,fun D nD=>?_⟩⟩
   have la6:ar.length=rs.length:=ra.at_.length
   have lr:rs.length≤40:=zO (Pn rs) (by rw [ra.perm.length_eq];exact l40)
   have bdr:∀ r∈rs,r.g.p.natAbs≤1000∧r.last.p.natAbs≤1000:=fun r hr=>by
    have o:∀ g∈r.all,g.p.natAbs≤1000:=fun g hg=>(okg g (ra.perm.mem_iff.mp (List.mem_flatMap.mpr ⟨r,hr,hg⟩))).p9
    exact ⟨o _ zP,o _ r.last_mem⟩
   have okr:∀ r∈rs,OkT r.t∧∀ g∈r.all,r.t.pas g:=fun r hr=>by
    obtain ⟨i,hi,rfl⟩:=qU hr
    obtain ⟨a,_,q,_,_,h⟩:=Paired.get ra.at_ (z9 hi)
    exact h
   refine OG (E:=Hm) (F:=fun _ y _ r=>y=V.str (tx (32::Dn r))) (fun _ _ _ _ s h=>h.same s) (fun _ _ _ _ _ _ h=>h) (fun _ _ _ _ _ _ _ _ h=>h) (SqL.of ra.eD) ra.at_ nD (by lia) ?_ ?_
   ·intro q r H7 R hr s7 nD7 ⟨q2,e7,e8,o1,_⟩ hR
    obtain ⟨b1,b2⟩:=bdr r hr
    have d1:=Do (n:=r.g.p) (by lia)
    have d2:=Do (n:=r.last.p) (by lia)
    have d3:=BL (x:=r.t.a) (y:=r.t.b) (by have:=o1.a1;lia) (by have:=o1.b1;lia)
    have d4:=BL (x:=r.t.c) (y:=r.t.d) (by have:=o1.c1;lia) (by have:=o1.d1;lia)
    delta Ux
    refine ⟨_,SqT.of e7,_,rfl,_,rfl,KN (by lia),?_⟩
    rw [BB,HK,Yn,A4,A4,AY,AY,AY,AY,PySem.sizeLine_eq]
    simp only [zD,zB,zG]
    refine ⟨by lia,by lia,_,SqT.of e7,_,rfl,_,rfl,KN (by lia),?_⟩
    rw [BB,A4,A4,AY,AY,AY]
    simp only [zD,zB,zG]
    refine ⟨by lia,by lia,_,SqT.of e7,_,rfl,q2,r.t,58,rfl,e8,o1,fun H8 s8=>⟨_,rfl,?_,?_⟩⟩
    ·rw [AY,AY];simp only [zD,zB,zG];lia
    ·rw [A4]
     refine hR _ _ s8 (congrArg (fun z=>V.str (tx z)) ?_)
     simp only [zx,List.singleton_append,qV,List.nil_append]
     rfl
   ·intro H7 ys s7 e7 ly pr
    obtain rfl:ys=tvs (rs.map fun r=>32::Dn r):=WP (as:=ar) (by lia) pr
    have h1:((rs.map fun r=>32::Dn r).map List.length).sum≤301*((rs.map fun r=>32::Dn r).map List.length).length:=Pm fun x hx=>by
     obtain ⟨y,hy,rfl⟩:=zZ.mp hx
     obtain ⟨r,hr,rfl⟩:=zZ.mp hy
     exact Nat.succ_le_succ (VC (bdr r hr).1 (bdr r hr).2 (okr r hr).1)
    rw [z0,z0] at h1
    have hj:=Cv (s:=[]) (rs.map fun r=>32::Dn r)
    rw [z0,zG] at hj
    refine ⟨[],rfl,_,SqL.of e7,by rw [z0,zG];lia,?_⟩
    walk_at "NX"
    have s57:=s6.trans s7
    replace hb0:=hb0.same s57
    replace hb1:=hb1.same s57
    replace ed:=s57.get ed
    replace tb:=Bq tb s57
    replace e1:=s57.get e1
    replace e2:=s57.get e2
    replace sc:∃ xs:List Int,SqL K H7 a (xs.map V.int):=sc.imp fun _ h=>s57.seq h
    have rpm:=ra.perm
    have rac:=ra.asc
    have rfa:=ra.far
    clear s57 s6 s7 ra e7 pr eb0 bdr ly la6
    walk_at "Q"
    delta Ux
    refine ⟨dx,_,ed,rfl,d,dx,c,_,rfl,ed,Y6 hb1 fun H8 rs' s8 pm8 ac8 far8 ow8 ok8=>?_⟩
    have ers:rs'=rs:=SF ac8 (BO ac8 rac (pm8.trans rpm.symm)) far8 rfa ow8 ows ok8 okr
    subst ers
    refine ⟨by rw [Vx,AY,AY,PySem.sizeLine_eq];simp only [zB,zG];lia,rfl,?_⟩
    rw [Vx,A4,XI,if_neg (by simp)]
    walk_at "NX"
    replace hb0:=hb0.same s8
    replace hb1:=hb1.same s8
    replace ed:=s8.get ed
    replace tb:=Bq tb s8
    replace e1:=s8.get e1
    replace e2:=s8.get e2
    replace sc:∃ xs:List Int,SqL K H8 a (xs.map V.int):=sc.imp fun _ h=>s8.seq h
    clear s8 pm8 ac8 far8 ow8 ok8 rpm rac rfa ows okr hj h1 nD n6 lr
    have lsg:sg.length=gs.length:=pm1.length_eq
    generalize tx (Ay [] (rs'.map fun r=>32::Dn r))=tr
    walk_at "Q"
    delta Ux
    walk_at "NX"
    refine ⟨fun σ' H'=>∃ (o9:Option V) (due:Str),σ'=[some (.ref a),some (.int how),some (.ref D1),some (.ref b0),some (.ref d),o5,some (.ref D2),some (.str tr),some (.str due),o9,none,none,none]∧CU Cq H8 H'∧LM.Tbl H' Cq D0 O8∧((12<gs.length∧due=V7 .size)∨(gs.length≤12∧∃ t sg',Ox sg' t∧sg'.Perm sg∧Asc sg'∧due=tx (Qk (AU (sg'.filter fun g=>decide (t.pas g))) t))),?_,?_⟩
    ·delta Ux
     refine ⟨_,.inl (SqL.of e1),?_⟩
     rw [z0]
     by_cases h12:gs.length≤12
     ·rw [if_pos (zE (by lia))]
      obtain ⟨dx0,eb0⟩:=hb0.at_
      refine ⟨dx0,_,eb0,rfl,b0,S0,P0,ow0,sg,past0,rfl,hb0,tb,fun z=>absurd z (by lia),fun _ _ D9 H9 L q t sg' nL s9 tb9 ma mf=>?_⟩
      have ne:=aA ma okg (by lia)
      have bf:∀ n∈AU (sg'.filter fun g=>decide (t.pas g)),n.natAbs≤1000:=fun n hn=>by
       obtain ⟨g,hg,rfl⟩:=zZ.mp hn
       exact (okg g (ma.hp.mem_iff.mp (zz.mp hg).1)).p9
      have lf:(AU (sg'.filter fun g=>decide (t.pas g))).length≤12:=by rw [z0];exact zO (qA _ _) (by rw [ma.hp.length_eq];lia)
      have okt:=ma.ok
      have eD:=ma.eD
      have eL:H9 L=some (.lst ((AU (sg'.filter fun g=>decide (t.pas g))).map V.int)):=ma.eL
      have eq:=ma.eq
      have kk:∀ x:Str,x=tx (Qk (AU (sg'.filter fun g=>decide (t.pas g))) t)→((12<gs.length∧x=V7 .size)∨(gs.length≤12∧∃ t sg',Ox sg' t∧sg'.Perm sg∧Asc sg'∧x=tx (Qk (AU (sg'.filter fun g=>decide (t.pas g))) t))):=
       fun x e=>.inr ⟨h12,t,sg',mf,ma.hp,ma.ha,e⟩
      generalize AU (sg'.filter fun g=>decide (t.pas g))=ps at *
      delta tBM Ck C5
      refine ⟨tyS,_,SqT.of eD,_,rfl,L,rfl,⟨_,SqL.of eL⟩,fun D nD=>J9 (.inl ⟨L,rfl,SqL.of eL⟩) (by lia) nD (fun n H10 R hm s10 hR=>?_) fun H10 s10 e10=>?_⟩
      ·delta Ux
       refine ⟨KN (by have:=bf n hm;lia),?_⟩
       rw [BB]
       exact hR
      have hs:((ps.map dec).map List.length).sum≤42*ps.length:=ES fun n hn=>by have:=bf n hn;lia
      have hj:=Cv (s:=[32]) (ps.map dec)
      simp only [z0,zB,zG] at hj
      have d3:=BL (x:=t.a) (y:=t.b) (by have:=okt.a1;lia) (by have:=okt.b1;lia)
      have d4:=BL (x:=t.c) (y:=t.d) (by have:=okt.c1;lia) (by have:=okt.d1;lia)
      refine ⟨[32],HK,_,SqL.of e10,by simp only [z0,zB,zG];lia,?_⟩
      rw [Zs,Xv,A4,A4,AY,AY,AY,AY,AY,PySem.sizeLine_eq]
      simp only [zD,zB,zG]
      refine ⟨by lia,by lia,_,SqT.of (s10.get eD),_,rfl,q,t,32,rfl,s10.get eq,okt,fun H11 s11=>⟨_,rfl,?_,⟨_,rfl⟩,(s9.trans (CU.of s10)).trans (CU.of s11),Bq (Bq tb9 s10) s11,kk _ ?_⟩⟩
      ·rw [AY];simp only [zD,zB,zG];lia
      ·rw [A4,Xy ne]
     ·rw [if_neg (fun z=>h12 (by have:=zH z;lia))]
      exact ⟨⟨_,rfl⟩,CU.of (AG.refl _),tb,.inl ⟨by lia,rfl⟩⟩
    rintro σ' H9 ⟨o9,due,rfl,s9,tb9,hd⟩
    replace hb0:=hb0.sameT s9 tb
    replace hb1:=hb1.sameT s9 tb
    replace ed:=s9.get tb ed fun _ z=>nomatch z
    replace e1:=s9.get tb e1 fun _ z=>nomatch z
    replace e2:=s9.get tb e2 fun _ z=>nomatch z
    replace sc:∃ xs:List Int,SqL K H9 a (xs.map V.int):=sc.imp fun _ h=>SqL.sameT s9 tb h
    clear s9 tb
    walk_at "Q"
    have fin:∀ H10,CU Cq H9 H10→LM.Tbl H10 Cq D0 O8→M [some (V.ref a),some (V.int how),some (V.ref D1),some (V.ref b0),some (V.ref d),o5,some (V.ref D2),some (V.str tr),some (V.str due),o9,none,none,none] H10:=fun H10 s10 tb10=>by
     refine hM _ _ ?_
     clear hM M
     have hb0:=hb0.sameT s10 tb9
     have hb1:=hb1.sameT s10 tb9
     have ed:=s10.get tb9 ed fun _ z=>nomatch z
     have e2:=s10.get tb9 e2 fun _ z=>nomatch z
     obtain ⟨xs,sc⟩:=sc
     have sc:=SqL.sameT s10 tb9 sc
     clear s10 tb10 hd
     walk_at "Q"
     refine ⟨_,rfl,a,5,xs,rfl,by decide,sc,?_⟩
     walk_at "NX"
     generalize xs.getD (Int.toNat 5) 0=cell
     walk_at "Q"
     delta Ux
     refine ⟨by decide,fun q H11 n11 s11 e11=>?_⟩
     walk_at "NX"
     replace hb0:=hb0.same s11
     replace hb1:=hb1.same s11
     replace ed:=s11.get ed
     replace e2:=s11.get e2
     clear s11 n11 sc
     have nb1:¬ PJ (cell % 81-40) (1+cell / 81 % 9) (cell / 729 % 81-40) (1+cell / 59049 % 9):=TU (by lia) (by lia) (by lia) (by lia) (by lia) (by lia)
     generalize cell % 81-40=ta at *
     generalize 1+cell / 81 % 9=tb at *
     generalize cell / 729 % 81-40=tc at *
     generalize 1+cell / 59049 % 9=td at *
     walk_at "Q"
     delta Ux
     obtain ⟨dx0,eb0⟩:=hb0.at_
     refine ⟨dx0,_,eb0,rfl,_,SqL.of e2,fun D4 H12 n12 s12 e12=>?_⟩
     rw [show (1:Int)=((1:Nat):Int) from rfl,Hb,← List.map_take] at e12
     have lp:((AU gs).take 1).length=min 1 gs.length:=by rw [zw,AU,z0]
     have npl1:¬ Bs ((AU gs).take 1):=fun z=>by
      rcases z with z | z | z
      ·rw [z,zG] at lp;lia
      ·lia
      ·exact z (nd.sublist (List.take_sublist _ _))
     have spl1:∀ p∈(AU gs).take 1,p∈AU sg:=fun p hp=>spl p (zy hp)
     refine ⟨b0,S0,P0,ow0,sg,past0,D4,(AU gs).take 1,rfl,hb0.same s12,SqL.of e12,by lia,fun z=>absurd z npl1,fun _=>spl1,fun _ D5 H13 sg1 x s13 pm13 ac13 an en=>?_⟩
     walk_at "NX"
     have l1:sg1.length≤2:=by
      have:=DS spl1
      rw [pm13.length_eq];lia
     have s23:=s12.trans s13
     replace hb0:=hb0.same s23
     replace hb1:=hb1.same s23
     replace ed:=s23.get ed
     replace e11:=s23.get e11
     rcases an with ⟨t,okt,all,ow,rfl⟩ | ⟨bs,n1,f,rfl⟩
     ·obtain ⟨q',eD,eq⟩:=Enc.thr (ns:=[]) en
      have nb2:¬ PJ t.a t.b t.c t.d:=TU (by have:=okt.b0;lia) (by have:=okt.d0;lia) okt.a1 okt.b1 okt.c1 okt.d1
      delta Ux
      refine ⟨d,dx,c,S1,P1,ow1,sg,past1,b0,S0,P0,ow0,past0,q,⟨ta,tb,tc,td⟩,rfl,ed,hb1,hb0,e11,nb1,fun H14 s14=>⟨true,rfl,?_⟩⟩
      rw [if_pos rfl]
      exact ⟨_,SqT.of (s14.get eD),_,rfl,d,dx,c,S1,P1,ow1,sg,past1,b0,S0,P0,ow0,past0,q',t,rfl,s14.get ed,hb1.same s14,hb0.same s14,s14.get eq,nb2,fun H15 _=>k H15⟩
     ·exact absurd (f.uniq (.no sg1 (List.Perm.refl _) ac13 (KD l1) rfl)) n1
    delta Ux
    refine ⟨dx,_,ed,rfl,d,dx,c,_,rfl,ed,YM hb1 tb9 (fun hz H10 s10=>?_) fun h1 h2 H10 t sg2 s10 tb10 okt mf pm10 ac10=>?_⟩
    ·rcases hd with ⟨_,rfl⟩ | ⟨h,_⟩
     ·refine ⟨rfl,?_⟩
      rw [if_neg (by simp)]
      exact fin H10 (CU.of s10) (Bq tb9 s10)
     ·lia
    ·rcases hd with ⟨h,_⟩ | ⟨_,t',sg',mf',pm',ac',rfl⟩
     ·lia
     ·cases MX pm' ac' pm10 ac10
      cases Vg mf mf'
      refine ⟨rfl,?_⟩
      rw [if_neg (by simp)]
      exact fin H10 s10 tb10
end
theorem fO {l:W.OpenLaw}{w:World}{K:W.Frag}{h:Heap}{mg:Str→Option Value}{fa:Addr}(KO:WA K=Xx w)(X:K.In h)(G:h.Ns mainGlobals mg)(hfa:mg "law"=some (.ref fa)) :
  ∃ fd:FuncData,(∀ (s:Shared) (v:Value),BindsTo s fd ⟨[v],[]⟩ [("_law_script",v)])∧(∀ h',K.In h'→isCodeTable h' Cq)∧∀ base:Heap,K.In base→base.Ns mainGlobals mg→Aa l.prog w K mg base CX0 16 fa fd ["_law_script"] (VS K):=by
 obtain ⟨g0,KO⟩:=zv KO
 obtain ⟨g1,KO⟩:=zv KO
 obtain ⟨g2,KO⟩:=zv KO
 obtain ⟨g3,KO⟩:=zv KO
 obtain ⟨g4,KO⟩:=zv KO
 obtain ⟨g5,KO⟩:=zv KO
 obtain ⟨g6,KO⟩:=zv KO
 obtain ⟨g7,KO⟩:=zv KO
 obtain ⟨g8,KO⟩:=zv KO
 obtain ⟨g9,KO⟩:=zv KO
 obtain ⟨g10,KO⟩:=zv KO
 obtain ⟨g11,KO⟩:=zv KO
 obtain ⟨g12,KO⟩:=zv KO
 obtain ⟨g13,KO⟩:=zv KO
 obtain ⟨g14,KO⟩:=zv KO
 obtain ⟨g15,KO⟩:=zv KO
 obtain ⟨g16,KO⟩:=zv KO
 obtain ⟨g17,KO⟩:=zv KO
 obtain ⟨g18,KO⟩:=zv KO
 have hH:=KO
 obtain ⟨h1,h2,h3,h4,h5,h6,h7,h8⟩:=L3 g0
 obtain ⟨h9,h10,h11,h12,h13,h14,h15,h16⟩:=L3 g1
 obtain ⟨h43,h117,h118,h119,h120,h121,h122,h123⟩:=L3 g2
 obtain ⟨h124,h125,h126,h127,h128,h129,h130,h131⟩:=L3 g3
 obtain ⟨h132,h133⟩:=inj2 g4
 obtain ⟨h17,h18,h19,h20,h21,h22,h23,h24⟩:=L3 g5
 obtain ⟨h25,h26,h27,h28,h29,h30,h31,h32⟩:=L3 g6
 obtain ⟨h33,h34,h35,h36,h37,h38,h39,h40⟩:=L3 g7
 obtain ⟨h41,h42,h44,h45,h46,h47,h48,h49⟩:=L3 g8
 obtain ⟨h50,h51,h52,h53,h54,h55,h56,h57⟩:=L3 g9
 obtain ⟨h58,h59,h60,h61,h62,h63,h64,h65⟩:=L3 g10
 obtain ⟨h66,h67,h68,h69,h70,h71,h72,h73⟩:=L3 g11
 obtain ⟨h74,h75,h76,h77,h78,h79,h80,h81⟩:=L3 g12
 obtain ⟨h82,h83,h84,h85,h86,h87,h88,h89⟩:=L3 g13
 obtain ⟨h90,h91,h92,h93,h94,h95,h96,h97⟩:=L3 g14
 obtain ⟨h98,h99,h100,h101,h102,h103,h104,h105⟩:=L3 g15
 obtain ⟨h106,h107,h108⟩:=inj3 g16
 obtain ⟨h109,h110,h111,h112,h113,h114,h116⟩:=inj7 g17
 have h115:=inj1 g18
 obtain ⟨AK,aC_Beach,pg_Beach,hd_Beach,po_Beach,sa_Beach,MW,kc_Beach,na_Beach⟩:=WO h1
 obtain ⟨B3,aC_Desk,pg_Desk,hd_Desk,po_Desk,sa_Desk,TW,kc_Desk,na_Desk⟩:=WO h2
 obtain ⟨Ef,aC_BeachError,ex_BeachError⟩:=CQ h3
 obtain ⟨GH,aC_NoGate,ex_NoGate⟩:=CQ h4
 obtain ⟨Jz,aC_Taken,ex_Taken⟩:=CQ h5
 obtain ⟨CN,aC_UpsideDown,ex_UpsideDown⟩:=CQ h6
 obtain ⟨Bz,aC_OutOfBounds,ex_OutOfBounds⟩:=CQ h7
 obtain ⟨Co,aC_BeachFull,ex_BeachFull⟩:=CQ h8
 obtain ⟨Cj,aC_DeedsFull,ex_DeedsFull⟩:=CQ h9
 obtain ⟨By,aC_NothingBack,ex_NothingBack⟩:=CQ h10
 obtain ⟨Ek,aC_BadList,ex_BadList⟩:=CQ h11
 obtain ⟨Ge,aC_TooFew,ex_TooFew⟩:=CQ h12
 obtain ⟨Cp,aC_WrongSize,ex_WrongSize⟩:=CQ h13
 obtain ⟨DH,aC_BadThrow,ex_BadThrow⟩:=CQ h14
 obtain ⟨Gd,aC_BadRow,ex_BadRow⟩:=CQ h15
 obtain ⟨f1,fd1,d1⟩:=AV (ps:=["place","height","start","end"]) X G h17 fun _ _ _ _ _ _ us hl=>by walk_at "b4"
 obtain ⟨f2,fd2,d2⟩:=AV (ps:=["one","two","three"]) X G h18 fun _ _ _ _ _ _ us hl=>by walk_at "b3"
 obtain ⟨f3,fd3,d3⟩:=AV (ps:=["gates"]) X G h19 fun _ _ _ _ _ _ us hl=>by walk_at "b1"
 obtain ⟨f4,fd4,d4⟩:=AV (ps:=["one","two"]) X G h20 fun _ _ _ _ _ _ us hl=>by walk_at "b2"
 obtain ⟨f5,fd5,d5⟩:=AV (ps:=["top","bottom"]) X G h21 fun _ _ _ _ _ _ us hl=>by walk_at "b2"
 obtain ⟨f6,fd6,d6⟩:=AV (ps:=["one","two"]) X G h22 fun _ _ _ _ _ _ us hl=>by walk_at "b2"
 obtain ⟨f7,fd7,d7⟩:=AV (ps:=["throw","place"]) X G h23 fun _ _ _ _ _ _ us hl=>by walk_at "b2"
 obtain ⟨f8,fd8,d8⟩:=AV (ps:=["place","height","other","second"]) X G h24 fun _ _ _ _ _ _ us hl=>by walk_at "b4"
 obtain ⟨f9,fd9,d9⟩:=AV (ps:=["throw","gate"]) X G h25 fun _ _ _ _ _ _ us hl=>by walk_at "b2"
 obtain ⟨f10,fd10,d10⟩:=AV (ps:=["throw","gates"]) X G h26 fun _ _ _ _ _ _ us hl=>by walk_at "b2"
 obtain ⟨f11,fd11,d11⟩:=AV (ps:=["throw","ordered"]) X G h27 fun _ _ _ _ _ _ us hl=>by walk_at "b2"
 obtain ⟨f12,fd12,d12⟩:=AV (ps:=["earlier","later"]) X G h28 fun _ _ _ _ _ _ us hl=>by walk_at "b2"
 obtain ⟨f13,fd13,d13⟩:=AV (ps:=["ordered"]) X G h29 fun _ _ _ _ _ _ us hl=>by walk_at "b1"
 obtain ⟨f14,fd14,d14⟩:=AV (ps:=["ordered"]) X G h30 fun _ _ _ _ _ _ us hl=>by walk_at "b1"
 obtain ⟨f15,fd15,d15⟩:=AV (ps:=["height"]) X G h31 fun _ _ _ _ _ _ us hl=>by walk_at "b1"
 obtain ⟨f16,fd16,d16⟩:=AV (ps:=["ordered"]) X G h32 fun _ _ _ _ _ _ us hl=>by walk_at "b1"
 obtain ⟨f17,fd17,d17⟩:=AV (ps:=["gates"]) X G h33 fun _ _ _ _ _ _ us hl=>by walk_at "b1"
 obtain ⟨f18,fd18,d18⟩:=AV (ps:=["gates"]) X G h34 fun _ _ _ _ _ _ us hl=>by walk_at "b1"
 obtain ⟨f19,fd19,d19⟩:=AV (ps:=["gates"]) X G h35 fun _ _ _ _ _ _ us hl=>by walk_at "b1"
 obtain ⟨f20,fd20,d20⟩:=AV (ps:=["gate"]) X G h36 fun _ _ _ _ _ _ us hl=>by walk_at "b1"
 obtain ⟨f21,fd21,d21⟩:=AV (ps:=["throw"]) X G h37 fun _ _ _ _ _ _ us hl=>by walk_at "b1"
 obtain ⟨f22,fd22,d22⟩:=AV (ps:=["gates"]) X G h38 fun _ _ _ _ _ _ us hl=>by walk_at "b1"
 obtain ⟨f23,fd23,d23⟩:=AV (ps:=["run","throw"]) X G h39 fun _ _ _ _ _ _ us hl=>by walk_at "b2"
 obtain ⟨f24,fd24,d24⟩:=AV (ps:=["gates"]) X G h40 fun _ _ _ _ _ _ us hl=>by walk_at "b1"
 obtain ⟨f25,fd25,d25⟩:=AV (ps:=["ordered"]) X G h41 fun _ _ _ _ _ _ us hl=>by walk_at "b1"
 obtain ⟨f26,fd26,d26⟩:=AV (ps:=["gates"]) X G h42 fun _ _ _ _ _ _ us hl=>by walk_at "b1"
 obtain ⟨c26,la26,isT⟩:=LM.Zu X G d26 h43
 obtain ⟨f27,fd27,d27⟩:=AV (ps:=["gate"]) X G h44 fun _ _ _ _ _ _ us hl=>by walk_at "b1"
 obtain ⟨f28,fd28,d28⟩:=AV (ps:=["places"]) X G h45 fun _ _ _ _ _ _ us hl=>by walk_at "b1"
 obtain ⟨f29,fd29,d29⟩:=AV (ps:=["throw"]) X G h46 fun _ _ _ _ _ _ us hl=>by walk_at "b1"
 obtain ⟨f30,fd30,d30⟩:=BY (ps:=["self"]) aC_Beach h47 fun _ _ _ _ _ _ us hl=>by walk_at "b1"
 obtain ⟨f31,fd31,d31⟩:=BY (ps:=["self","place"]) aC_Beach h48 fun _ _ _ _ _ _ us hl=>by walk_at "b2"
 obtain ⟨f32,fd32,d32⟩:=BY (ps:=["self","place"]) aC_Beach h49 fun _ _ _ _ _ _ us hl=>by walk_at "b2"
 obtain ⟨f33,fd33,d33⟩:=BY (ps:=["self","place","instead"]) aC_Beach h50 fun _ _ _ _ _ _ us hl=>by walk_at "b3"
 obtain ⟨f34,fd34,d34⟩:=BY (ps:=["self","place","foot","head"]) aC_Beach h51 fun _ _ _ _ _ _ us hl=>by walk_at "b4"
 obtain ⟨f35,fd35,d35⟩:=BY (ps:=["self","place"]) aC_Beach h52 fun _ _ _ _ _ _ us hl=>by walk_at "b2"
 obtain ⟨f36,fd36,d36⟩:=BY (ps:=["self","place","foot_by","head_by"]) aC_Beach h53 fun _ _ _ _ _ _ us hl=>by walk_at "b4"
 obtain ⟨f37,fd37,d37⟩:=BY (ps:=["self","place","foot_by","head_by"]) aC_Beach h54 fun _ _ _ _ _ _ us hl=>by walk_at "b4"
 obtain ⟨f38,fd38,d38⟩:=Zl (ps:=["self","many"]) aC_Beach h55 (fun s d _ _ _ _ _ _ _ _ _ _ _ us ho hl=>by obtain ⟨x0,x1,rfl⟩:=dL hl;exact BindsTo.of_defaults (T:=d) rfl ho rfl rfl rfl) (fun s d _ _ _ _ _ _ _ _ _ _ _ us ho hl=>by obtain ⟨x0,rfl⟩:=ZG (Nat.succ.inj hl);exact BindsTo.of_defaults (T:=d) rfl ho rfl rfl rfl)
 obtain ⟨f39,fd39,d39⟩:=BY (ps:=["self"]) aC_Beach h56 fun _ _ _ _ _ _ us hl=>by walk_at "b1"
 obtain ⟨f40,fd40,d40⟩:=BY (ps:=["self"]) aC_Beach h57 fun _ _ _ _ _ _ us hl=>by walk_at "b1"
 obtain ⟨f41,fd41,d41⟩:=BY (ps:=["self","places"]) aC_Beach h58 fun _ _ _ _ _ _ us hl=>by walk_at "b2"
 obtain ⟨f42,fd42,d42⟩:=BY (ps:=["self","places"]) aC_Beach h59 fun _ _ _ _ _ _ us hl=>by walk_at "b2"
 obtain ⟨f43,fd43,d43⟩:=BY (ps:=["self","places"]) aC_Beach h60 fun _ _ _ _ _ _ us hl=>by walk_at "b2"
 obtain ⟨f44,fd44,d44⟩:=BY (ps:=["self","places"]) aC_Beach h61 fun _ _ _ _ _ _ us hl=>by walk_at "b2"
 obtain ⟨f45,fd45,d45⟩:=BY (ps:=["self","places"]) aC_Beach h62 fun _ _ _ _ _ _ us hl=>by walk_at "b2"
 obtain ⟨f46,fd46,d46⟩:=BY (ps:=["self"]) aC_Beach h63 fun _ _ _ _ _ _ us hl=>by walk_at "b1"
 obtain ⟨f47,fd47,d47⟩:=BY (ps:=["self"]) aC_Beach h64 fun _ _ _ _ _ _ us hl=>by walk_at "b1"
 obtain ⟨f48,fd48,d48⟩:=BY (ps:=["self","throw"]) aC_Beach h65 fun _ _ _ _ _ _ us hl=>by walk_at "b2"
 obtain ⟨f49,fd49,d49⟩:=AV (ps:=["text"]) X G h66 fun _ _ _ _ _ _ us hl=>by walk_at "b1"
 obtain ⟨f50,fd50,d50⟩:=AV (ps:=["text"]) X G h67 fun _ _ _ _ _ _ us hl=>by walk_at "b1"
 obtain ⟨f51,fd51,d51⟩:=AV (ps:=["text"]) X G h68 fun _ _ _ _ _ _ us hl=>by walk_at "b1"
 obtain ⟨f52,fd52,d52⟩:=AV (ps:=["top","bottom"]) X G h69 fun _ _ _ _ _ _ us hl=>by walk_at "b2"
 obtain ⟨f53,fd53,d53⟩:=AV (ps:=["words","many"]) X G h70 fun _ _ _ _ _ _ us hl=>by walk_at "b2"
 obtain ⟨f54,fd54,d54⟩:=AV (ps:=["words"]) X G h71 fun _ _ _ _ _ _ us hl=>by walk_at "b1"
 obtain ⟨f55,fd55,d55⟩:=AV (ps:=["words","many"]) X G h72 fun _ _ _ _ _ _ us hl=>by walk_at "b2"
 obtain ⟨f56,fd56,d56⟩:=AV (ps:=["numbers"]) X G h73 fun _ _ _ _ _ _ us hl=>by walk_at "b1"
 obtain ⟨f57,fd57,d57⟩:=AV (ps:=["throw"]) X G h74 fun _ _ _ _ _ _ us hl=>by walk_at "b1"
 obtain ⟨f58,fd58,d58⟩:=AV (ps:=["gate"]) X G h75 fun _ _ _ _ _ _ us hl=>by walk_at "b1"
 obtain ⟨f59,fd59,d59⟩:=AV (ps:=["many"]) X G h76 fun _ _ _ _ _ _ us hl=>by walk_at "b1"
 obtain ⟨f60,fd60,d60⟩:=AV (ps:=["told","ends"]) X G h77 fun _ _ _ _ _ _ us hl=>by walk_at "b2"
 obtain ⟨f61,fd61,d61⟩:=AV (ps:=["run"]) X G h78 fun _ _ _ _ _ _ us hl=>by walk_at "b1"
 obtain ⟨f62,fd62,d62⟩:=AV (ps:=["beach","words"]) X G h79 fun _ _ _ _ _ _ us hl=>by walk_at "b2"
 obtain ⟨f63,fd63,d63⟩:=AV (ps:=["beach","words"]) X G h80 fun _ _ _ _ _ _ us hl=>by walk_at "b2"
 obtain ⟨f64,fd64,d64⟩:=AV (ps:=["beach","words"]) X G h81 fun _ _ _ _ _ _ us hl=>by walk_at "b2"
 obtain ⟨f65,fd65,d65⟩:=AV (ps:=["beach","words"]) X G h82 fun _ _ _ _ _ _ us hl=>by walk_at "b2"
 obtain ⟨f66,fd66,d66⟩:=AV (ps:=["beach","words"]) X G h83 fun _ _ _ _ _ _ us hl=>by walk_at "b2"
 obtain ⟨f67,fd67,d67⟩:=AV (ps:=["beach","words"]) X G h84 fun _ _ _ _ _ _ us hl=>by walk_at "b2"
 obtain ⟨f68,fd68,d68⟩:=AV (ps:=["beach","words"]) X G h85 fun _ _ _ _ _ _ us hl=>by walk_at "b2"
 obtain ⟨f69,fd69,d69⟩:=AV (ps:=["beach","words"]) X G h86 fun _ _ _ _ _ _ us hl=>by walk_at "b2"
 obtain ⟨f70,fd70,d70⟩:=AV (ps:=["beach","words"]) X G h87 fun _ _ _ _ _ _ us hl=>by walk_at "b2"
 obtain ⟨f71,fd71,d71⟩:=AV (ps:=["beach","words"]) X G h88 fun _ _ _ _ _ _ us hl=>by walk_at "b2"
 obtain ⟨f72,fd72,d72⟩:=AV (ps:=["beach","words"]) X G h89 fun _ _ _ _ _ _ us hl=>by walk_at "b2"
 obtain ⟨f73,fd73,d73⟩:=AV (ps:=["beach","words"]) X G h90 fun _ _ _ _ _ _ us hl=>by walk_at "b2"
 obtain ⟨f74,fd74,d74⟩:=AV (ps:=["beach","words"]) X G h91 fun _ _ _ _ _ _ us hl=>by walk_at "b2"
 obtain ⟨f75,fd75,d75⟩:=AV (ps:=["beach","row"]) X G h92 fun _ _ _ _ _ _ us hl=>by walk_at "b2"
 obtain ⟨f76,fd76,d76⟩:=AV (ps:=["beach","row"]) X G h93 fun _ _ _ _ _ _ us hl=>by walk_at "b2"
 obtain ⟨f77,fd77,d77⟩:=BY (ps:=["self"]) aC_Desk h94 fun _ _ _ _ _ _ us hl=>by walk_at "b1"
 obtain ⟨f78,fd78,d78⟩:=BY (ps:=["self","row"]) aC_Desk h95 fun _ _ _ _ _ _ us hl=>by walk_at "b2"
 obtain ⟨f79,fd79,d79⟩:=AV (ps:=["_law_script","_law_k"]) X G h96 fun _ _ _ _ _ _ us hl=>by walk_at "b2"
 obtain ⟨f80,fd80,d80⟩:=AV (ps:=["_law_cell","_law_many","_law_mixed"]) X G h97 fun _ _ _ _ _ _ us hl=>by walk_at "b3"
 obtain ⟨f81,fd81,d81⟩:=AV (ps:=["_law_kind","_law_line","_law_wide","_law_low","_law_high"]) X G h98 fun _ _ _ _ _ _ us hl=>by walk_at "b5"
 obtain ⟨f82,fd82,d82⟩:=AV (ps:=["_law_script","_law_at_here","_law_many"]) X G h99 fun _ _ _ _ _ _ us hl=>by walk_at "b3"
 obtain ⟨f83,fd83,d83⟩:=AV (ps:=["_law_found"]) X G h100 fun _ _ _ _ _ _ us hl=>by walk_at "b1"
 obtain ⟨f84,fd84,d84⟩:=AV (ps:=["_law_one","_law_two"]) X G h101 fun _ _ _ _ _ _ us hl=>by walk_at "b2"
 obtain ⟨f85,fd85,d85⟩:=AV (ps:=["_law_found"]) X G h102 fun _ _ _ _ _ _ us hl=>by walk_at "b1"
 obtain ⟨f86,fd86,d86⟩:=AV (ps:=["_law_top","_law_bottom"]) X G h103 fun _ _ _ _ _ _ us hl=>by walk_at "b2"
 obtain ⟨f87,fd87,d87⟩:=AV (ps:=["_law_throw_here","_law_between_two"]) X G h104 fun _ _ _ _ _ _ us hl=>by walk_at "b2"
 obtain ⟨f88,fd88,d88⟩:=AV (ps:=["_law_found","_law_marks"]) X G h105 fun _ _ _ _ _ _ us hl=>by walk_at "b2"
 obtain ⟨f89,fd89,d89⟩:=AV (ps:=["_law_desk","_law_beach","_law_places"]) X G h106 fun _ _ _ _ _ _ us hl=>by walk_at "b3"
 obtain ⟨f90,fd90,d90⟩:=AV (ps:=["_law_desk","_law_beach","_law_throw_here"]) X G h107 fun _ _ _ _ _ _ us hl=>by walk_at "b3"
 obtain ⟨f91,oc,od,sl,kV,dc,pm,an,cd,ct,a,l,c,k⟩:=WQ h108
 obtain ⟨t_LEAST,ak_LEAST⟩:=G2 h109
 obtain ⟨t_GREATEST,ak_GREATEST⟩:=G2 h110
 obtain ⟨t_MOST_GATES,ak_MOST_GATES⟩:=G2 h111
 obtain ⟨t_MOST_DEEDS,ak_MOST_DEEDS⟩:=G2 h112
 obtain ⟨t_SMALL_BEACH,ak_SMALL_BEACH⟩:=G2 h113
 obtain ⟨t_GREAT_NUMBER,ak_GREAT_NUMBER⟩:=G2 h114
 obtain ⟨t_FIGURES,ak_FIGURES⟩:=Z5 h115
 obtain ⟨t_MOST_FIGURES,ak_MOST_FIGURES⟩:=G2 h116
 obtain ⟨Tz,VW,gA⟩:=aJ X G h117 hH
 have e:=hfa.symm.trans (W.mg_of X G a)
 cases e
 let T:Tx w K mg:=⟨AK,
  W.mg_of X G aC_Beach,
  ⟨pg_Beach,hd_Beach,po_Beach,sa_Beach⟩,
  B3,
  W.mg_of X G aC_Desk,
  ⟨pg_Desk,hd_Desk,po_Desk,sa_Desk⟩,
  na_Beach "standing" (by simp only [zF,true_or,or_true]),
  na_Beach "past" (by simp only [zF,true_or,or_true]),
  na_Desk "beach" (by simp only [zF,true_or,or_true]),
  Ef,
  W.mg_of X G aC_BeachError,
  ex_BeachError,
  GH,
  W.mg_of X G aC_NoGate,
  ex_NoGate,
  Jz,
  W.mg_of X G aC_Taken,
  ex_Taken,
  CN,
  W.mg_of X G aC_UpsideDown,
  ex_UpsideDown,
  Bz,
  W.mg_of X G aC_OutOfBounds,
  ex_OutOfBounds,
  Co,
  W.mg_of X G aC_BeachFull,
  ex_BeachFull,
  Cj,
  W.mg_of X G aC_DeedsFull,
  ex_DeedsFull,
  By,
  W.mg_of X G aC_NothingBack,
  ex_NothingBack,
  Ek,
  W.mg_of X G aC_BadList,
  ex_BadList,
  Ge,
  W.mg_of X G aC_TooFew,
  ex_TooFew,
  Cp,
  W.mg_of X G aC_WrongSize,
  ex_WrongSize,
  DH,
  W.mg_of X G aC_BadThrow,
  ex_BadThrow,
  Gd,
  W.mg_of X G aC_BadRow,
  ex_BadRow,
  Ym (.cons aC_BadRow (.cons aC_NoGate (.cons aC_Taken (.cons aC_UpsideDown (.cons aC_OutOfBounds (.cons aC_BeachFull (.cons aC_DeedsFull (.cons aC_NothingBack (.cons aC_BadList (.cons aC_TooFew (.cons aC_WrongSize (.cons aC_BadThrow .nil)))))))))))) h16,
  f1,fd1,d1,
  f2,fd2,d2,
  f3,fd3,d3,
  f4,fd4,d4,
  f5,fd5,d5,
  f6,fd6,d6,
  f7,fd7,d7,
  f8,fd8,d8,
  f9,fd9,d9,
  f10,fd10,d10,
  f11,fd11,d11,
  f12,fd12,d12,
  f13,fd13,d13,
  f14,fd14,d14,
  f15,fd15,d15,
  f16,fd16,d16,
  f17,fd17,d17,
  f18,fd18,d18,
  f19,fd19,d19,
  f20,fd20,d20,
  f21,fd21,d21,
  f22,fd22,d22,
  f23,fd23,d23,
  f24,fd24,d24,
  f25,fd25,d25,
  f26,fd26,d26,
  c26,la26,
  f27,fd27,d27,
  f28,fd28,d28,
  f29,fd29,d29,
  f30,fd30,d30,
  f31,fd31,d31,
  f32,fd32,d32,
  f33,fd33,d33,
  f34,fd34,d34,
  f35,fd35,d35,
  f36,fd36,d36,
  f37,fd37,d37,
  f38,fd38,d38,
  f39,fd39,d39,
  f40,fd40,d40,
  f41,fd41,d41,
  f42,fd42,d42,
  f43,fd43,d43,
  f44,fd44,d44,
  f45,fd45,d45,
  f46,fd46,d46,
  f47,fd47,d47,
  f48,fd48,d48,
  f49,fd49,d49,
  f50,fd50,d50,
  f51,fd51,d51,
  f52,fd52,d52,
  f53,fd53,d53,
  f54,fd54,d54,
  f55,fd55,d55,
  f56,fd56,d56,
  f57,fd57,d57,
  f58,fd58,d58,
  f59,fd59,d59,
  f60,fd60,d60,
  f61,fd61,d61,
  f62,fd62,d62,
  f63,fd63,d63,
  f64,fd64,d64,
  f65,fd65,d65,
  f66,fd66,d66,
  f67,fd67,d67,
  f68,fd68,d68,
  f69,fd69,d69,
  f70,fd70,d70,
  f71,fd71,d71,
  f72,fd72,d72,
  f73,fd73,d73,
  f74,fd74,d74,
  f75,fd75,d75,
  f76,fd76,d76,
  f77,fd77,d77,
  f78,fd78,d78,
  f79,fd79,d79,
  f80,fd80,d80,
  f81,fd81,d81,
  f82,fd82,d82,
  f83,fd83,d83,
  f84,fd84,d84,
  f85,fd85,d85,
  f86,fd86,d86,
  f87,fd87,d87,
  f88,fd88,d88,
  f89,fd89,d89,
  f90,fd90,d90,
  _,_,⟨Nt l c k,W.mg_of X G a,(Nt l c k).binds (ps:=["_law_script"]) fun _ _ _ _ _ _ us hl=>by walk_at "b1"⟩,
  ⟨MW,d30.mt.1,d30.mt.2,kc_Beach⟩,
  ⟨TW,d77.mt.1,d77.mt.2,kc_Desk⟩,
  _,
  W.mg_of X G ak_LEAST,
  ⟨_,rfl⟩,
  _,
  W.mg_of X G ak_GREATEST,
  ⟨_,rfl⟩,
  _,
  W.mg_of X G ak_MOST_GATES,
  ⟨_,rfl⟩,
  _,
  W.mg_of X G ak_MOST_DEEDS,
  ⟨_,rfl⟩,
  _,
  W.mg_of X G ak_SMALL_BEACH,
  ⟨_,rfl⟩,
  _,
  W.mg_of X G ak_GREAT_NUMBER,
  ⟨_,rfl⟩,
  _,
  W.mg_of X G ak_FIGURES,
  ⟨_,rfl⟩,
  _,
  W.mg_of X G ak_MOST_FIGURES,
  ⟨_,rfl⟩,
  Tz,
  VW,
  gA,
  W.mg_none_of X G (BV h118),
  W.mg_none_of X G (BV h119),
  W.mg_none_of X G (BV h120),
  W.mg_none_of X G (BV h121),
  W.mg_none_of X G (BV h122),
  W.mg_none_of X G (BV h123),
  W.mg_none_of X G (BV h124),
  W.mg_none_of X G (BV h125),
  W.mg_none_of X G (BV h126),
  W.mg_none_of X G (BV h127),
  W.mg_none_of X G (BV h128),
  W.mg_none_of X G (BV h129),
  W.mg_none_of X G (BV h130),
  W.mg_none_of X G (BV h131),
  W.mg_none_of X G (BV h132),
  W.mg_none_of X G (BV h133)⟩
 exact ⟨_,fun s v=>.of_eq rfl,isT,fun base _ _=>cq T⟩
end TG
open PySem PySem.W PyProof.Rows
set_option maxRecDepth 100000 in
set_option maxHeartbeats 0 in
theorem PySem.Challenge.cw_throwgate_k35_desk_as_beach_holds : PySem.Challenge.rw_throwgate_k35_desk_as_beach.Holds := by
 w_on;o_law
 refine holds_open (q:=TG.qv) (loose:=TG.N9) (Xt:=fun _=>true) (XP:=fun _ _=>True) (Yf:=fun s=>(LM.Jg (s.heap.get? TG.Cq),TG.WA (TG.Kof TG.addrs s.heap))) (Ya:=fun w=>(true,TG.Xx w)) (YP:=LM.Hf TG.Cq TG.addrs TG.WA TG.Xx) (N:=12732) TG.aQ (fun w s e=>LM.Hf.of (by decide) w s e) LM.Hf.keeps (fun _ _=>trivial) (fun _ _ _ _ _=>trivial) (by rfl) (by rfl) (by rfl) (fun _ _=>TG.jP rfl) rfl (by assumption) (by decide +kernel) ⟨rfl,rfl,rfl,rfl,rfl,by decide +kernel⟩ ?hw ?hc
 case hw=>w_witness2
 case hc =>
  exact LM.XE (T:=TG.Cq) (l:=PySem.Challenge.rw_throwgate_k35_desk_as_beach) (n:=63) (k:=16) (x:="_law_script") (CX:=L2.CX0) (sp:=TG.VS) rfl (by decide) rfl ⟨rfl,by decide,by decide⟩ (fun w mg fa h K KO KX G hmg=>TG.fO KO KX G hmg) (fun _ _ a ns hl hO hS=>⟨a,ns,rfl,hS,hl,.inl hO.1,fun _=>rfl⟩) fun _ _ _ _ z=>z
