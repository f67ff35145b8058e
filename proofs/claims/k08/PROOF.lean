import PyProof.Rows.All
import Wide.All
import OpenK.AllK
import Wide.FinOn
import Lean
import PyProof.EqAt
import PyProof.EqKinds
import PyProof.TupleCall
import KE.KLam
import KE.KMinKey
import KE.KNestM
import PySem.Challenge.RW_treetrim_k08_whole_either_way
set_option Elab.async false
set_option linter.all false
noncomputable section
def La0:=@List.getElem?_eq_getElem.{0}
def La1:=@List.length_map.{0,0}
def La2:=@List.length_append.{0}
def La3:=@List.getD_eq_getElem?_getD.{0}
def La4:=@Nat.le_refl
def La5:=@List.getElem?_eq_some_iff.{0}
def La6:=@List.getElem?_map.{0,0}
def La7:=@List.mem_cons_self.{0}
def La8:=@List.size_toArray.{0}
def La9:=@List.append_assoc.{0}
def Lb0:=@List.mem_cons_of_mem.{0}
def Lb1:=@Nat.zero_le
def Lb2:=@List.length_singleton.{0}
def Lb3:=@List.map_append.{0,0}
def Lb4:=@List.length_cons.{0}
def Lb5:=@List.length_take.{0}
def Lb6:=@List.mem_cons.{0}
def Lb7:=@Nat.lt_of_lt_of_le
def Lb8:=@Bool.false_ne_true
def Lb9:=@List.mem_append.{0}
def Lc0:=@List.append_nil.{0}
def Lc1:=@Array.length_toList.{0}
def Lc2:=@List.map_cons.{0,0}
def Lc3:=@List.mem_map.{0,0}
def Lc4:=@Nat.ne_of_lt
def Lc5:=@List.take_succ_eq_append_getElem.{0}
def Lc6:=@List.drop_eq_getElem_cons.{0}
def Lc7:=@List.cons_append.{0}
def Lc8:=@List.mem_singleton.{0}
def Lc9:=@List.take_append_drop.{0}
def Ld0:=@List.length_drop.{0}
def Ld1:=@List.nil_append.{0}
def Ld2:=@List.mem_append_right.{0}
def Ld3:=@Int.toNat_natCast
def Ld4:=@List.getElem_mem.{0}
def Ld5:=@List.length_eq_zero_iff.{0}
def Ld6:=@Nat.le_trans
def Ld7:=@List.map_map.{0,0,0}
def Ld8:=@List.find?_cons.{0}
def Ld9:=@Option.bind_some.{0,0}
def Le0:=@List.mem_iff_getElem.{0}
def Le1:=@List.pairwise_cons.{0}
def Le2:=@List.take_of_length_le.{0}
def Le3:=@List.mem_append_left.{0}
def Le4:=@Bool.false_eq_true
def Le5:=@List.getElem?_append_right.{0}
def Le6:=@Nat.lt_irrefl
def Le7:=@List.length_reverse.{0}
def Le8:=@Int.toNat_of_nonneg
def Le9:=@List.take_length.{0}
def Lf0:=@List.isEmpty_iff.{0}
def Lf1:=@List.mem_range
def Lf2:=@List.mem_of_getElem?.{0}
def Lf3:=@Int.emod_lt_of_pos
def Lf4:=@Option.map_eq_some_iff.{0,0}
def Lf5:=@List.pairwise_iff_getElem.{0}
def Lf6:=@Nat.min_eq_left
def Lf7:=@Int.emod_nonneg
def Lf8:=@List.pairwise_map.{0,0}
def Lf9:=@List.drop_left.{0}
def Lg0:=@Nat.add_assoc
def Lg1:=@List.getElem?_eq_none.{0}
def Lg2:=@List.dropLast_concat.{0}
def Lg3:=@List.dropLast_concat_getLast.{0}
def Lg4:=@List.map_take.{0,0}
def Lg5:=@List.take_left.{0}
def Lg6:=@List.reverse_cons.{0}
def Lg7:=@Nat.min_eq_right
def Lg8:=@Nat.le_of_lt
def Lg9:=@List.length_replicate.{0}
def Lh0:=@Array.getElem?_toList.{0}
def Lh1:=@List.perm_append_comm.{0}
def Lh2:=@Nat.zero_add
def Lh3:=@List.map_drop.{0,0}
def Lh4:=@List.getElem?_eq_none_iff.{0}
def Lh5:=@Array.getElem?_eq_getElem.{0}
def Lh6:=@List.length_dropLast.{0}
def Lh7:=@List.mem_filter.{0}
def Lh8:=@Option.isSome_iff_exists.{0}
def Lh9:=@Nat.sub_self
def Li0:=@List.getElem?_range
def Li1:=@Nat.lt_succ_self
def Li2:=@List.lookup_cons.{0,0}
def Li3:=@List.mem_reverse.{0}
def Li4:=@List.drop_of_length_le.{0}
def Li5:=@Option.map_some.{0,0}
def Li6:=@Bool.eq_iff_iff
def Li7:=@Array.getD_eq_getD_getElem?.{0}
def Li8:=@List.length_range
def Li9:=@Array.perm_iff_toList_perm.{0}
def Lj0:=@Array.mem_toList_iff.{0}
def Lj1:=@List.getElem?_append_left.{0}
def Lj2:=@List.take_zero.{0}
def Lj3:=@List.drop_drop.{0}
def Lj4:=@Bool.and_eq_true
def Lj5:=@List.filter_cons.{0}
def Lj6:=@List.takeWhile_cons.{0}
def Lj7:=@Nat.ne_of_gt
def Lj8:=@Int.zero_add
def Lj9:=@List.mem_filterMap.{0,0}
def Lk0:=@List.pairwise_singleton.{0}
def Lk1:=@List.length_nil.{0}
def Lk2:=@List.getElem?_cons_succ.{0}
def Lk3:=@List.ext_getElem?.{0}
def Lk4:=@Option.isSome_map.{0,0}
def Lk5:=@Nat.sub_zero
def Lk6:=@Nat.add_zero
local macro_rules | `(tactic| omega) => `(tactic| lia)
set_option tactic.hygienic false
set_option bootstrap.genMatcherCode false
set_option genSizeOf false
set_option maxRecDepth 100000
namespace L2
open PySem PySem.Spec PyProof.Rows
abbrev Key:=Sum Int Str
def keyIs:Key→Value→Bool
 | .inl k,v=>Value.isInt k v
 | .inr x,v=>Value.isStrOf x v
def keyH(w:World):Key→Int
 | .inl k=>hashInt k
 | .inr x=>hashStr w x
theorem keyIs_shape:∀ {k:Key} {v:Value},keyIs k v=true→(∃ i t,k=Sum.inl i∧v=Value.int i t)∨(∃ x t,k=Sum.inr x∧v=Value.str x t)
 | .inl i,v,h=>by
  obtain⟨t,e⟩:=Value.isInt_shape (k:=i) (v:=v) h
  exact .inl ⟨i,t,rfl,e⟩
 | .inr x,v,h=>by
  obtain⟨t,e⟩:=Value.isStrOf_shape (x:=x) (v:=v) h;exact .inr ⟨x,t,rfl,e⟩
theorem keyIs_int(i:Int)(t:Tok):keyIs (.inl i) (.int i t)=true:=by simp[keyIs,Value.isInt]
theorem keyIs_str(x:Str)(t:Tok):keyIs (.inr x) (.str x t)=true:=by simp[keyIs,Value.isStrOf]
theorem key_ll(a b:Int):decide ((Sum.inl a:Key)=Sum.inl b)=(a == b):=by
 by_cases e:a=b
 ·subst e; simp
 ·have h:¬ (Sum.inl a:Key)=Sum.inl b:=fun q=>e (Sum.inl.inj q);rw[decide_eq_false h];exact (beq_eq_false_iff_ne.mpr e).symm
theorem key_rr(a b:Str):decide ((Sum.inr a:Key)=Sum.inr b)=decide (a=b):=by
 by_cases e:a=b
 ·subst e; simp
 ·have h:¬ (Sum.inr a:Key)=Sum.inr b:=fun q=>e (Sum.inr.inj q);rw[decide_eq_false h,decide_eq_false e]
theorem key_lr(a:Int)(b:Str):decide ((Sum.inl a:Key)=Sum.inr b)=false:=decide_eq_false (fun q=>nomatch q)
theorem key_rl(a:Str)(b:Int):decide ((Sum.inr a:Key)=Sum.inl b)=false:=decide_eq_false (fun q=>nomatch q)
def mixKind(prog:Program)(w:World):PySem.KeyKind prog w Key where
 is:=keyIs
 hash:=keyH w
 inj:=fun v a b ha hb=>by
  rcases keyIs_shape ha with ⟨i,t,rfl,rfl⟩ | ⟨x,t,rfl,rfl⟩
  ·rcases keyIs_shape hb with ⟨j,u,rfl,e⟩ | ⟨y,u,rfl,e⟩
   ·injection e with e1 _; rw[e1]
   ·exact nomatch e
  ·rcases keyIs_shape hb with ⟨j,u,rfl,e⟩ | ⟨y,u,rfl,e⟩
   ·exact nomatch e
   ·injection e with e1 _; rw[e1]
 byValue:=fun k v h=>by
  rcases keyIs_shape h with ⟨i,t,rfl,rfl⟩ | ⟨x,t,rfl,rfl⟩ <;> rfl
 pyHash:=fun hv h=>by
  rcases keyIs_shape hv with ⟨i,t,rfl,rfl⟩ | ⟨x,t,rfl,rfl⟩
  ·exact wpAny_pyHash_int h
  ·exact wpAny_pyHash_str h
 eqBool:=fun hu hv h=>by
  rcases keyIs_shape hu with ⟨i,t,rfl,rfl⟩ | ⟨x,t,rfl,rfl⟩
  ·rcases keyIs_shape hv with ⟨j,u,rfl,rfl⟩ | ⟨y,u,rfl,rfl⟩
   ·rw[key_ll] at h; exact wpAny_eqBool_int h
   ·rw[key_lr] at h; exact SeqAt.EqAt.int_str i t y u _ _ _ _ h
  ·rcases keyIs_shape hv with ⟨j,u,rfl,rfl⟩ | ⟨y,u,rfl,rfl⟩
   ·rw[key_rl] at h; exact SeqAt.EqAt.str_int x t j u _ _ _ _ h
   ·rw[key_rr] at h; exact wpAny_eqBool_str h
 «strs»:=fun k x t v h=>by
  rcases keyIs_shape h with ⟨i,u,rfl,e⟩ | ⟨y,u,rfl,e⟩
  ·exact nomatch e
  ·injection e with e1 _
   subst e1;cases v <;> rfl
theorem mixKind_int(prog:Program)(w:World)(i:Int)(t:Tok):(mixKind prog w).is (.inl i) (.int i t)=true:=keyIs_int i t
theorem mixKind_str(prog:Program)(w:World)(x:Str)(t:Tok):(mixKind prog w).is (.inr x) (.str x t)=true:=keyIs_str x t
inductive V where
 | non | bl (b:Bool) | int (i:Int) | str (x:Str) | byt (b:Array UInt8) | flt (b:UInt64) | ref (a:Addr) | ty (n:String)
 deriving DecidableEq
def RelV:V→Value→Prop
 | .non,u=>u=Value.none
 | .bl b,u=>u=Value.bool b
 | .int i,u=>∃ t,u=Value.int i t
 | .str x,u=>∃ t,u=Value.str x t
 | .byt b,u=>∃ t,u=Value.bytes b t
 | .flt b,u=>∃ t,u=Value.float b t
 | .ref a,u=>u=Value.ref a
 | .ty n,u=>u=Value.type n
abbrev Vals:List V→List Value→Prop:=Paired RelV
theorem Vals.length{xs:List V}{us:List Value}(r:Vals xs us):xs.length=us.length:=Paired.length r
theorem Vals.get:∀ {xs:List V} {us:List Value} {i:Nat} {x:V},Vals xs us→xs[i]?=some x→∃ u,us[i]?=some u∧RelV x u
 | _,_,_,_,.nil,e=>by simp at e
 | _,_,0,_,.cons r _,e=>by simp at e; subst e; exact⟨_,rfl,r⟩
 | _,_,i+1,x,.cons _ t,e=>by
  obtain⟨u,h1,h2⟩:=Vals.get (i:=i) (x:=x) t (by simpa using e);exact⟨u,by simpa using h1,h2⟩
theorem Vals.append:∀ {xs ys:List V} {us ws:List Value},Vals xs us→Vals ys ws→Vals (xs++ys) (us++ws)
 | _,_,_,_,.nil,s=>s
 | _,_,_,_,.cons r t,s=>.cons r (Vals.append t s)
theorem Vals.take:∀ {xs:List V} {us:List Value} (n:Nat),Vals xs us→Vals (xs.take n) (us.take n)
 | _,_,0,_=>.nil
 | _,_,_+1,.nil=>.nil
 | _,_,n+1,.cons r t=>.cons r (Vals.take n t)
theorem Vals.drop:∀ {xs:List V} {us:List Value} (n:Nat),Vals xs us→Vals (xs.drop n) (us.drop n)
 | _,_,0,r=>r
 | _,_,_+1,.nil=>.nil
 | _,_,n+1,.cons _ t=>Vals.drop n t
def RelO:Option V→Option Value→Prop
 | some v,some u=>RelV v u
 | none,none=>True
 | _,_=>False
def KV{κ:Type}:List (κ×V)→List (κ×Value)→Prop:=Paired fun (p:κ×V) (q:κ×Value)=>p.1=q.1∧RelV p.2 q.2
def kV:Key→V
 | .inl i=>.int i
 | .inr x=>.str x
inductive HO where
 | lst (xs:List V)
 | tup (xs:List V)
 | dK (kvs:List (Key×V)) | dT (kvs:List (List Key×V))
 | set (S:Int→Bool) (n:Nat)
 | ins (C dx:Addr) (fs:List (Str×V))
 | own (x:Addr)
 | xd (fs:List (Str×V))
 | met (f x:Addr)
 | rng (lo hi:Int)
 | frz (o:Obj) (u:HO)
 | tbl (ps:Array Value)
 | ext (φ:Heap→Prop)
abbrev Hp:=Addr→Option HO
def upd(H:Hp)(a:Addr)(o:HO):Hp:=fun b=>if b=a then some o else H b
theorem upd_same{H:Hp}{a:Addr}{o:HO}:upd H a o a=some o:=by unfold upd; rw[if_pos rfl]
theorem upd_ne{H:Hp}{a b:Addr}{o:HO}(h:b≠a):upd H a o b=H b:=by unfold upd; rw[if_neg h]
theorem upd_upd{H:Hp}{a:Addr}{o u:HO}:upd (upd H a o) a u=upd H a u:=by
 funext b; unfold upd; split <;> rfl
theorem ne_of_none{H:Hp}{a b:Addr}{o:HO}(h:H a=some o)(h':H b=none):a≠b:=by
 intro e; subst e; rw[h] at h'; cases h'
section
variable (P:Program) (w:World)
def ObjOk(H:Hp)(h:Heap)(a:Addr):HO→Prop
 | .lst xs=>xs.length≤sizeLine∧∃ (its:List Value) (n:Nat),Vals xs its∧h.get? a=some { cls:=.type "list",data:=.seq its.toArray n }
 | .tup xs=>xs.length≤sizeLine∧∃ its:List Value,Vals xs its∧IsTup h a its.toArray
 | .dK kvs=>kvs.length≤sizeLine∧(a == sysModules)=false∧∃ vs,KV kvs vs∧h.DictOf (mixKind P w) a vs
 | .dT kvs=>kvs.length≤sizeLine∧(a == sysModules)=false∧∃ xs:List (List Key×Addr×Value),
   Paired (fun (p:List Key×V) (q:List Key×Addr×Value)=>p.1=q.1∧H q.2.1=some (.tup (p.1.map kV))∧RelV p.2 q.2.2) kvs xs ∧
   ∃ o es ep,h.get? a=some o∧o.ExactDict∧o.data=.dict es ep∧es.toList=xs.map (entryOfKey (tupleKind (mixKind P w)))∧(xs.map (·.1)).Nodup
 | .set S n=>h.SetOf (intKind P w) a S n
 | .ins C dx fs=>H dx=some (.own a)∧fs.length≤1000∧dx≠a∧h.get? a=some (PySem.W.instObj C dx) ∧
   ∃ mA,h.Ns1 dx mA∧(∀ f,RelO (fs.lookup f) (mA f))∧PySem.Within mA (fs.map (·.1))
 | .own _=>∃ o,h.get? a=some o
 | .xd fs=>∃ mA,h.Ns1 a mA∧∀ f,RelO (fs.lookup f) (mA f)
 | .rng lo hi=>∃ t u v,h.get? a=some { cls:=.type "range",data:=.fields #[.int lo t,.int hi u,.int 1 v] }
 | .frz o u=>h.get? a=some o∧ObjOk H h a u
 | .tbl ps=>h.get? a=some { cls:=.none,data:=.fields ps }
 | .met f x=>h.get? a=some (PySem.W.methodObj (.ref f) (.ref x))
 | .ext φ=>φ h∧(∃ o,h.get? a=some o)∧∀ h1 h2:Heap,φ h1→(∀ o,h1.get? a=some o→h2.get? a=some o)→φ h2
def HOk(H:Hp)(h:Heap):Prop:=∀ a o,H a=some o→ObjOk P w H h a o
end
section
variable {P:Program} {w:World} {H H':Hp} {h h':Heap} {a:Addr} {o:HO}
theorem ObjOk.lt(x:ObjOk P w H h a o):a<h.objs.size:=by
 cases o with
 | lst xs=>obtain⟨_,_,_,_,e⟩:=x; exact Heap.lt_size e
 | tup xs=>obtain⟨_,_,_,p⟩:=x; exact p.lt
 | dK kvs=>obtain⟨_,_,_,_,o,_,_,e,_⟩:=x; exact Heap.lt_size e
 | dT kvs=>obtain⟨_,_,_,_,o,_,_,e,_⟩:=x; exact Heap.lt_size e
 | set S n=>obtain⟨o,_,_,_,e,_⟩:=x; exact Heap.lt_size e
 | ins C dx fs=>obtain⟨_,_,_,e,_⟩:=x; exact Heap.lt_size e
 | own y=>obtain⟨_,e⟩:=x; exact Heap.lt_size e
 | xd fs=>obtain⟨_,⟨_,_,_,e,_⟩,_⟩:=x; exact Heap.lt_size e
 | rng lo hi=>obtain⟨_,_,_,e⟩:=x; exact Heap.lt_size e
 | frz ob u=>obtain⟨e,_⟩:=x; exact Heap.lt_size e
 | tbl ps=>exact Heap.lt_size (show h.get? a=some _ from x)
 | met f y=>exact Heap.lt_size (show h.get? a=some _ from x)
 | ext φ=>obtain⟨_,⟨_,e⟩,_⟩:=x; exact Heap.lt_size e
theorem Paired.mapP{α β:Type}{F G:α→β→Prop}:∀ {l₁:List α} {l₂:List β},Paired F l₁ l₂→(∀ a b,F a b→G a b)→Paired G l₁ l₂
 | _,_,.nil,_=>.nil
 | _,_,.cons r t,f=>.cons (f _ _ r) (Paired.mapP t f)
theorem ObjOk.stay(x:ObjOk P w H h a o)(k:∀ b u,(b=a∨H b=some (.own a))→h.get? b=some u→h'.get? b=some u)
  (ho:∀ b,H b=some (.own a)→H' b=some (.own a)) (ht:∀ b xs,H b=some (.tup xs)→H' b=some (.tup xs)):ObjOk P w H' h' a o:=by
 induction o with
 | lst xs=>obtain⟨z,its,n,r,e⟩:=x; exact⟨z,its,n,r,k _ _ (.inl rfl) e⟩
 | tup xs=>obtain⟨z,its,r,ob,e,c⟩:=x; exact⟨z,its,r,ob,k _ _ (.inl rfl) e,c⟩
 | dK kvs=>obtain⟨z,y,vs,r,ob,es,ep,e,c⟩:=x; exact⟨z,y,vs,r,ob,es,ep,k _ _ (.inl rfl) e,c⟩
 | dT kvs =>
  obtain⟨z,y,xs,r,ob,es,ep,e,c⟩:=x
  exact⟨z,y,xs,Paired.mapP r fun p q z=>⟨z.1,ht _ _ z.2.1,z.2.2⟩,ob,es,ep,k _ _ (.inl rfl) e,c⟩
 | set S n=>obtain⟨ob,es,ep,t,e,c⟩:=x; exact⟨ob,es,ep,t,k _ _ (.inl rfl) e,c⟩
 | ins C dx fs =>
  obtain⟨d,z,ne,e,mA,⟨od,es,ep,e2,c⟩,r⟩:=x
  exact⟨ho _ d,z,ne,k _ _ (.inl rfl) e,mA,⟨od,es,ep,k _ _ (.inr d) e2,c⟩,r⟩
 | own y=>obtain⟨ob,e⟩:=x; exact⟨ob,k _ _ (.inl rfl) e⟩
 | xd fs=>obtain⟨mA,⟨od,es,ep,e,c⟩,r⟩:=x; exact⟨mA,⟨od,es,ep,k _ _ (.inl rfl) e,c⟩,r⟩
 | rng lo hi=>obtain⟨t,u,v,e⟩:=x; exact⟨t,u,v,k _ _ (.inl rfl) e⟩
 | frz ob u ih=>obtain⟨e,q⟩:=x; exact⟨k _ _ (.inl rfl) e,ih q⟩
 | tbl ps =>
  have e:h.get? a=some { cls:=.none,data:=.fields ps }:=x
  show h'.get? a=some { cls:=.none,data:=.fields ps }
  exact k a _ (.inl rfl) e
 | met f y =>
  have e:h.get? a=some (PySem.W.methodObj (.ref f) (.ref y)):=x
  show h'.get? a=some (PySem.W.methodObj (.ref f) (.ref y))
  exact k a _ (.inl rfl) e
 | ext φ=>obtain⟨p,⟨o,e⟩,st⟩:=x; exact⟨st _ _ p fun o q=>k _ _ (.inl rfl) q,⟨o,k _ _ (.inl rfl) e⟩,st⟩
theorem HOk.lt(x:HOk P w H h)(e:H a=some o):a<h.objs.size:=(x a o e).lt
theorem HOk.fresh(x:HOk P w H h)(e:h.objs.size≤a):H a=none:=by
 cases q:H a with
 | none=>rfl
 | some u=>exact absurd (Lb7 (x.lt q) e) (Le6 _)
theorem HOk.kept(x:HOk P w H h)(k:∀ b u,h.get? b=some u→h'.get? b=some u):HOk P w H h':=fun a o e =>
 (x a o e).stay (fun b u _ q=>k b u q) (fun _ q=>q) fun _ _ q=>q
theorem HOk.laid(x:HOk P w H h)(k:∀ b u,h.get? b=some u→h'.get? b=some u)(hp:h.objs.size≤a)(new:ObjOk P w (upd H a o) h' a o):HOk P w (upd H a o) h':=fun b u e=>by
 have hn:=x.fresh hp
 by_cases hb:b=a
 ·subst hb; rw[upd_same] at e; cases e; exact new
 ·rw[upd_ne hb] at e;exact (x b u e).stay (fun c v _ q=>k c v q) (fun c q=>by rw[upd_ne (ne_of_none q hn)]; exact q) fun c xs q=>by rw[upd_ne (ne_of_none q hn)]; exact q
end
def Rd(H:Hp)(a:Addr)(u:HO):Prop:=H a=some u∨∃ o,H a=some (.frz o u)
theorem Rd.ok{P:Program}{w:World}{H:Hp}{h:Heap}{a:Addr}{u:HO}(r:Rd H a u)(x:HOk P w H h):ObjOk P w H h a u:=by
 rcases r with r | ⟨o,r⟩
 ·exact x a u r
 ·obtain⟨_,q⟩:=x a _ r;exact q
def Mut:Option HO→Prop
 | some (.lst _)=>True
 | some (.dK _)=>True
 | some (.dT _)=>True
 | some (.set _ _)=>True
 | some (.ins _ _ _)=>True
 | some (.ext _)=>True
 | _=>False
section
variable {P:Program} {w:World} {H:Hp} {h h':Heap} {x e:Addr} {o':HO}
theorem HOk.write(ok:HOk P w H h)(mu:Mut (H x))(he:e=x∨H e=some (.own x))(k:∀ b u,b≠e→h.get? b=some u→h'.get? b=some u)(heo:∃ u,h'.get? e=some u)
  (new:ObjOk P w (upd H x o') h' x o'):HOk P w (upd H x o') h':=fun b u q=>by
 have nown:∀ c y,H c=some (.own y)→c≠x:=fun c y r z=>by subst z; rw[r] at mu; exact mu
 have ntup:∀ c xs,H c=some (.tup xs)→c≠x:=fun c xs r z=>by subst z; rw[r] at mu; exact mu
 by_cases hb:b=x
 ·subst hb; rw[upd_same] at q; cases q; exact new
 ·rw[upd_ne hb] at q
  by_cases hbe:b=e
  ·have q':H b=some (.own x):=by
    rcases he with z | z
    ·exact absurd (hbe.trans z) hb
    ·rw[hbe]; exact z
   rw[q] at q'; cases q';obtain⟨v,hv⟩:=heo;exact⟨v,by rw[hbe]; exact hv⟩
  ·refine (ok b u q).stay (fun c v hc r=>k c v ?_ r) (fun c r=>by rw[upd_ne (nown c b r)]; exact r) fun c xs r=>by rw[upd_ne (ntup c xs r)]; exact r
   rcases hc with rfl | hc
   ·exact hbe
   ·rintro rfl
    rcases he with z | z
    ·exact nown c b hc z
    ·rw[hc] at z; cases z; exact hb rfl
end
structure Un(fs ex:List Addr)(H H':Hp)(h h':Heap):Prop where
 keep:∀ b o,h.get? b=some o→H b=none→b∉fs→b∉ex→h'.get? b=some o
 slot:∀ b o,h.get? b=some o→H b=none→b∈fs→b∉ex→∃ sl,h'.get? b=some { o with slots:=sl }
 free:∀ b o,h.get? b=some o→H b=none→b∉ex→H' b=none
 there:∀ b o,h.get? b=some o→b∉ex→∃ o',h'.get? b=some o'
 tups:∀ b xs,H b=some (.tup xs)→H' b=some (.tup xs)
 frzs:∀ b o u,H b=some (.frz o u)→H' b=some (.frz o u)
 tbls:∀ b ps,H b=some (.tbl ps)→∃ more,H' b=some (.tbl (ps++more))
section
variable {fs fs' ex ex':List Addr} {H H1 H2:Hp} {h h1 h2 h':Heap} {a x e:Addr} {o:HO}
theorem Un.any(u:Un fs ex H H1 h h1){b:Addr}{ob:Obj}(q:h.get? b=some ob)(n:H b=none)(hx:b∉ex):∃ sl,h1.get? b=some { ob with slots:=sl }:=by
 by_cases hb:b∈fs
 ·exact u.slot b ob q n hb hx
 ·exact⟨ob.slots,u.keep b ob q n hb hx⟩
theorem Un.kept(k:∀ b u,h.get? b=some u→h'.get? b=some u):Un fs ex H H h h' :=
 ⟨fun b ob q _ _ _=>k b ob q,fun b ob q _ _ _=>⟨ob.slots,k b ob q⟩,fun _ _ _ n _=>n,fun b ob q _=>⟨ob,k b ob q⟩,fun _ _ q=>q,fun _ _ _ q=>q,fun _ ps q=>⟨#[],by rw[q]; simp⟩⟩
theorem Un.refl:Un fs ex H H h h:=Un.kept fun _ _ q=>q
theorem Un.laid(k:∀ b u,h.get? b=some u→h'.get? b=some u)(hp:h.objs.size≤a)(hn:H a=none):Un fs ex H (upd H a o) h h' where
 keep:=fun b u q _ _ _=>k b u q
 slot:=fun b u q _ _ _=>⟨u.slots,k b u q⟩
 free:=fun b u q n _=>by rw[upd_ne (Lc4 (Lb7 (Heap.lt_size q) hp))]; exact n
 there:=fun b u q _=>⟨u,k b u q⟩
 tups:=fun b xs q=>by rw[upd_ne (ne_of_none q hn)]; exact q
 frzs:=fun b u xs q=>by rw[upd_ne (ne_of_none q hn)]; exact q
 tbls:=fun b ps q=>⟨#[],by rw[upd_ne (ne_of_none q hn),q]; simp⟩
theorem Un.write(mu:Mut (H x))(he:e=x∨H e=some (.own x))(k:∀ b u,b≠e→h.get? b=some u→h'.get? b=some u)(heo:∃ u,h'.get? e=some u):Un fs ex H (upd H x o) h h':=by
 have hx:∀ b,H b=none→b≠x:=fun b n z=>by subst z; rw[n] at mu; exact mu
 have hb:∀ b,H b=none→b≠e:=fun b n z=>by
  subst z
  rcases he with r | r
  ·exact hx b n r
  ·rw[n] at r; cases r
 have hm:∀ b u,H b=some u→¬ Mut (some u)→b≠x:=fun b u q nm z=>by subst z; rw[q] at mu; exact nm mu
 refine⟨fun b u q n _ _=>k b u (hb b n) q,fun b u q n _ _=>⟨u.slots,k b u (hb b n) q⟩,fun b u q n _=>by rw[upd_ne (hx b n)]; exact n,fun b u q _=>?_,
  fun b xs q=>by rw[upd_ne (hm b _ q fun z=>z)]; exact q,fun b u xs q=>by rw[upd_ne (hm b _ q fun z=>z)]; exact q,fun b ps q=>⟨#[],by rw[upd_ne (hm b _ q fun z=>z),q]; simp⟩⟩
 by_cases hbe:b=e
 ·subst hbe; exact heo
 ·exact⟨u,k b u hbe q⟩
end
def trk(h:Heap)(H:Hp):List Addr:=(List.range h.objs.size).filter fun a=>(H a).isSome
def hidT(h:Heap)(H:Hp):Heap:=PySem.W.hideAll h (trk h H)
theorem hidT_size(h:Heap)(H:Hp):(hidT h H).objs.size=h.objs.size:=PySem.W.hideAll_size _ _
theorem hidT_get{h:Heap}{H:Hp}{b:Addr}{o:Obj}(e:h.get? b=some o)(n:H b=none):(hidT h H).get? b=some o :=
 PySem.W.hideAll_get _ e fun hm=>by
  have q:(H b).isSome=true:=(Lh7.mp hm).2;rw[n] at q; simp at q
theorem of_hidT{h:Heap}{H:Hp}{b:Addr}{o:Obj}(e:(hidT h H).get? b=some o):h.get? b=some o∧H b=none:=by
 have e':h.get? b=some o:=PySem.W.of_hideAll (trk h H) e;refine⟨e',?_⟩
 cases q:H b with
 | none=>rfl
 | some x =>
  have hm:b∈trk h H:=Lh7.mpr ⟨Lf1.mpr (Heap.lt_size e'),by simp[q]⟩;have z:(hidT h H).get? b=none:=PySem.W.hideAll_none (trk h H) hm;rw[z] at e; cases e
def allNews(g h:Heap)(L:Addr):List (Addr×Obj):=(List.range h.objs.size).filterMap fun a=>if a=L∨(g.get? a).isSome=true then none else (h.get? a).map fun o=>(a,o)
theorem mem_allNews{g h:Heap}{L a:Addr}{o:Obj}(h1:a≠L)(h2:g.get? a=none)(h3:h.get? a=some o):(a,o)∈allNews g h L :=
 Lj9.mpr ⟨a,Lf1.mpr (Heap.lt_size h3),by simp[h1,h2,h3]⟩
theorem of_mem_allNews{g h:Heap}{L:Addr}{p:Addr×Obj}(hp:p∈allNews g h L):p.1≠L∧g.get? p.1=none∧h.get? p.1=some p.2:=by
 obtain⟨b,_,e⟩:=Lj9.mp hp
 split at e
 ·cases e
 ·rename_i hn
  cases q:h.get? b with
  | none=>rw[q] at e; simp at e
  | some u =>
   rw[q] at e;simp only[Option.map_some,Option.some.injEq] at e;subst e;refine⟨fun z=>hn (.inl z),?_,q⟩
   show g.get? b=none
   cases r:g.get? b with
   | none=>rfl
   | some v=>exact (hn (.inr (by simp[r]))).elim
def rest(g h:Heap)(L d:Addr):List (Addr×Obj):=(allNews g h L).filter fun p=>decide (p.1≠d)
theorem news_all{g h:Heap}{L:Addr}:News g L h (allNews g h L):=fun p hp=>let ⟨a,b,c⟩:=of_mem_allNews hp; ⟨c,a,b⟩
structure Mod(K:PySem.W.Frag)(mg:Str→Option Value)(base:Heap):Prop where
 kin:K.In base
 glob:base.Ns mainGlobals mg
 blt:∃ mb,base.Ns builtinsNs mb∧∀ x:Str,x≠"__name__"→mb x=bootBuiltins x
 nolimit:base.NoLimit
structure Cx where
 prog:Program
 w:World
 K:PySem.W.Frag
 mg:Str→Option Value
 base:Heap
 A:Around
 N:List Str
 s₀:Shared
 H₀:Hp
 env:Env
 outer:List Env
 stack:List Env
 ex:List Addr
 fn:Str→Bool
 calm:Bool
 pn:List (Addr×Obj)
 xe:Value→Shared→Prop
def frs(l:List Env):List Addr:=l.filterMap (·.frame)
abbrev Cx.fs(X:Cx):List Addr:=frs X.outer
def Vis(sc:Scope)(x:Str):Prop:=sc.names.lookup x=some .local∨sc.names.lookup x=some .cell∨sc.names.lookup x=some .free
def Loc(sc:Scope)(x:Str):Prop:=sc.names.lookup x=some .local∨sc.names.lookup x=some .cell
def Look(env:Env)(h:Heap)(m:Str→Option Value)(x:Str)(u:Value):Prop :=
 (env.kindOf x=some .local∧m x=some u)∨((env.kindOf x=some .cell∨env.kindOf x=some .free)∧∃ c,env.cells.lookup x=some c∧h.IsCell c (some u))
structure Cx.Ok(X:Cx):Prop where
 mod:Mod X.K X.mg X.base
 kind:X.env.scope.kind=.function
 glob:X.env.globals=mainGlobals
 blt:X.env.builtins=builtinsNs
 above:X.s₀.heap.objs.size≤X.env.locals
 inj:∀ x y c,X.env.cells.lookup x=some c→X.env.cells.lookup y=some c→x=y
 has:∀ x,(X.env.kindOf x=some .cell∨X.env.kindOf x=some .free)→∃ c,X.env.cells.lookup x=some c
 cab:∀ x c,X.fn x=true→X.env.cells.lookup x=some c→X.s₀.heap.objs.size≤c
 hd:X.calm=true→X.A.handled=none
 frames:X.A.frames=some X.stack
 stk:X.stack=X.outer∨(X.stack=X.env::X.outer∧X.env.frame=some X.env.locals)
 exf:∀ b∈X.ex,b≠X.env.locals∧∀ x c,X.env.cells.lookup x=some c→c≠b
 bs:∀ b o,X.base.get? b=some o→X.s₀.heap.get? b=some o∧X.H₀ b=none
 bsz:X.base.objs.size≤X.s₀.heap.objs.size
 noex:∀ b o,X.base.get? b=some o→b∉X.ex
 exfs:∀ b∈X.ex,b∉X.fs
 funs:X.s₀.heap.FunFrames X.base X.outer
 frf:∀ b∈X.fs,X.H₀ b=none
structure Inv(X:Cx)(pins:List (Addr×Obj))(σ:List (Option V))(H:Hp)(s:Shared):Prop where
 ok:X.Ok
 os:s.os=X.s₀.os
 bare:AllBare s.gens
 base:Un X.fs X.ex X.H₀ H X.s₀.heap s.heap
 loc:∃ m,s.heap.Ns X.env.locals m∧∀ (i:Nat) (x:Str) (v:V),X.N[i]?=some x→σ[i]?=some (some v)→Vis X.env.scope x→∃ u,RelV v u∧Look X.env s.heap m x u
 cell:∀ x c,X.env.cells.lookup x=some c→∃ v,s.heap.IsCell c v
 free:H X.env.locals=none
 freeC:∀ x c,X.env.cells.lookup x=some c→H c=none
 pin:∀ p∈X.pn++pins,s.heap.get? p.1=some p.2∧H p.1=none∧p.1≠X.env.locals∧p.1∉X.fs∧∀ v,p.2.data≠.cell v
 hok:HOk X.prog X.w H s.heap
 len:σ.length=X.N.length
section
variable {X:Cx} {pins:List (Addr×Obj)} {σ:List (Option V)} {H H':Hp} {s:Shared} {h':Heap}
theorem Cx.Ok.nofr(ok:X.Ok){b:Addr}{o:Obj}(e:X.base.get? b=some o):b∉X.fs:=fun hb=>by
 have:=(ok.funs.mem hb).1;rw[e] at this; cases this
theorem Inv.bs(I:Inv X pins σ H s):∀ b o,X.base.get? b=some o→s.heap.get? b=some o∧H b=none:=fun b o e =>
 ⟨I.base.keep b o (I.ok.bs b o e).1 (I.ok.bs b o e).2 (I.ok.nofr e) (I.ok.noex b o e),I.base.free b o (I.ok.bs b o e).1 (I.ok.bs b o e).2 (I.ok.noex b o e)⟩
theorem Inv.bk(I:Inv X pins σ H s):∀ b o,X.base.get? b=some o→s.heap.get? b=some o:=fun b o e=>(I.bs b o e).1
theorem Inv.mod(I:Inv X pins σ H s):Mod X.K X.mg X.base:=I.ok.mod
theorem Inv.kIn(I:Inv X pins σ H s):X.K.In s.heap:=I.ok.mod.kin.keeps I.bk
theorem Inv.fr(I:Inv X pins σ H s):∃ m,Fr X.base X.env.locals s.heap m :=
 let ⟨m,hn,_⟩:=I.loc
 ⟨m,hn,I.bk,Ld6 I.ok.bsz I.ok.above⟩
theorem Inv.lt(I:Inv X pins σ H s):X.env.locals<s.heap.objs.size:=let ⟨_,hn,_⟩:=I.loc; hn.lt
theorem Inv.sz(I:Inv X pins σ H s):X.s₀.heap.objs.size≤s.heap.objs.size:=Ld6 I.ok.above (Lg8 I.lt)
theorem Inv.nofs(I:Inv X pins σ H s){a:Addr}(h:s.heap.objs.size≤a):a∉X.fs:=fun hb=>by
 obtain⟨_,o,ho,_⟩:=I.ok.funs.mem hb;exact absurd (Lb7 (Heap.lt_size ho) (Ld6 I.sz h)) (Le6 _)
theorem Inv.cne(I:Inv X pins σ H s):∀ x c,X.env.cells.lookup x=some c→c≠X.env.locals:=fun x c e z=>by
 obtain⟨v,o,ho,hd⟩:=I.cell x c e;obtain⟨m,⟨o',es,ep,ho',hd',_⟩,_⟩:=I.loc;rw[z,ho'] at ho; cases ho; rw[hd'] at hd; cases hd
theorem Inv.funs(I:Inv X pins σ H s):s.heap.FunFrames X.base X.outer:=by
 have all:∀ (l:List Env),(∀ b∈frs l,b∈X.fs)→X.s₀.heap.FunFrames X.base l→s.heap.FunFrames X.base l:=by
  intro l
  induction l with
  | nil=>intro _ _; trivial
  | cons env r ih =>
   intro hs hl;obtain⟨hk,⟨L,o,hf,hn,ho,hd⟩,hr⟩:=hl;have hL:L∈X.fs:=hs L (by unfold frs; rw[List.filterMap_cons,hf]; exact La7);obtain⟨sl,e⟩:=I.base.slot L o ho (I.ok.frf L hL) hL fun z=>I.ok.exfs L z hL;exact⟨hk,⟨L,_,hf,hn,e,hd⟩,ih (fun b hb=>hs b (by unfold frs; rw[List.filterMap_cons,hf]; exact Lb0 _ hb)) hr⟩
 exact all X.outer (fun _ hb=>hb) I.ok.funs
theorem Inv.stack(I:Inv X pins σ H s):s.heap.FunFrames X.base X.stack:=by
 rcases I.ok.stk with e | ⟨e,hf⟩
 ·rw[e]; exact I.funs
 ·rw[e];obtain⟨m,hn,_⟩:=I.loc;refine .cons (by rw[I.ok.kind]; decide) hf hn ?_ I.funs;exact Heap.get?_none_of_le (Ld6 I.ok.bsz I.ok.above)
theorem Inv.stkSub(I:Inv X pins σ H s):∀ b∈frs X.stack,b∈X.env.locals::X.fs:=fun b hb=>by
 rcases I.ok.stk with e | ⟨e,hf⟩
 ·rw[e] at hb; exact Lb0 _ hb
 ·rw[e] at hb;unfold frs at hb;rw[List.filterMap_cons,hf] at hb;exact hb
theorem Inv.stkFree(I:Inv X pins σ H s):∀ b∈frs X.stack,H b=none:=fun b hb=>by
 rcases Lb6.mp (I.stkSub b hb) with e | hb
 ·rw[e]; exact I.free
 ·obtain⟨_,o,ho,_⟩:=I.ok.funs.mem hb;exact I.base.free b o ho (I.ok.frf b hb) fun z=>I.ok.exfs b z hb
theorem Inv.step{g':Array GenState}{t':Nat}{d':Drawn}{ch:List Addr}(I:Inv X pins σ H s)
  (hch:∀ b∈ch,(b∈X.ex∨X.s₀.heap.objs.size≤b)∧b≠X.env.locals∧(∀ x c,X.env.cells.lookup x=some c→c≠b)∧∀ p∈X.pn++pins,p.1≠b)
  (keep:∀ b o,b≠X.env.locals→b∉X.fs→b∉ch→s.heap.get? b=some o→H b=none→h'.get? b=some o)
  (slot:∀ b o,b≠X.env.locals→b∈X.fs→b∉ch→s.heap.get? b=some o→H b=none→∃ sl,h'.get? b=some { o with slots:=sl }) (free:∀ b o,b∉ch→s.heap.get? b=some o→H b=none→H' b=none)
  (there:∀ b o,b∉ch→s.heap.get? b=some o→∃ o',h'.get? b=some o')
  (tups:∀ b xs,H b=some (.tup xs)→H' b=some (.tup xs)) (frzs:∀ b o u,H b=some (.frz o u)→H' b=some (.frz o u)) (tbls:∀ b ps,H b=some (.tbl ps)→∃ more,H' b=some (.tbl (ps++more)))
  (ns:∀ m,s.heap.Ns X.env.locals m→h'.Ns X.env.locals m) (hok:HOk X.prog X.w H' h') (hg:AllBare g') :
  Inv X pins σ H' { s with heap:=h',gens:=g',drawn:=d',toks:=t' }:=by
 have neL:∀ b o,X.s₀.heap.get? b=some o→b≠X.env.locals:=fun b o e=>Lc4 (Lb7 (Heap.lt_size e) I.ok.above)
 have neC:∀ b o,X.s₀.heap.get? b=some o→b∉X.ex→b∉ch:=fun b o e hx hb=>by
  rcases (hch b hb).1 with z | z
  ·exact hx z
  ·exact absurd (Lb7 (Heap.lt_size e) z) (Le6 _)
 have cellK:∀ x c,X.env.cells.lookup x=some c→∀ v,s.heap.IsCell c v→h'.IsCell c v:=fun x c e v ⟨o,ho,hd⟩=>by
  have nch:c∉ch:=fun z=>(hch c z).2.2.1 x c e rfl
  by_cases hc:c∈X.fs
  ·obtain⟨sl,q⟩:=slot c o (I.cne x c e) hc nch ho (I.freeC x c e);exact⟨_,q,hd⟩
  ·exact⟨o,keep c o (I.cne x c e) hc nch ho (I.freeC x c e),hd⟩
 refine⟨I.ok,I.os,hg,⟨fun b o e n hb hx=>?_,fun b o e n hb hx=>?_,fun b o e n hx=>?_,fun b o e hx=>?_,fun b xs e=>tups b xs (I.base.tups b xs e),fun b o xs e=>frzs b o xs (I.base.frzs b o xs e),fun b ps e=>?_⟩,?_,fun x c e=>?_,?_,fun x c e=>?_,fun p hp=>?_,hok,I.len⟩
 ·exact keep b o (neL b o e) hb (neC b o e hx) (I.base.keep b o e n hb hx) (I.base.free b o e n hx)
 ·obtain⟨sl,e1⟩:=I.base.slot b o e n hb hx;obtain⟨sl',e2⟩:=slot b _ (neL b o e) hb (neC b o e hx) e1 (I.base.free b o e n hx);exact⟨sl',e2⟩
 ·obtain⟨o',e1⟩:=I.base.there b o e hx;exact free b o' (neC b o e hx) e1 (I.base.free b o e n hx)
 ·obtain⟨o',e1⟩:=I.base.there b o e hx;exact there b o' (neC b o e hx) e1
 ·obtain⟨m1,e1⟩:=I.base.tbls b ps e;obtain⟨m2,e2⟩:=tbls b _ e1;exact⟨m1++m2,by rw[e2,Array.append_assoc]⟩
 ·obtain⟨m,hn,hl⟩:=I.loc;refine⟨m,ns m hn,fun i x v e1 e2 e3=>?_⟩;obtain⟨u,r,l⟩:=hl i x v e1 e2 e3;refine⟨u,r,?_⟩
  rcases l with l | ⟨k,c,e,z⟩
  ·exact .inl l
  ·exact .inr ⟨k,c,e,cellK x c e _ z⟩
 ·obtain⟨v,z⟩:=I.cell x c e;exact⟨v,cellK x c e v z⟩
 ·obtain⟨m,⟨o,_,_,ho,_⟩,_⟩:=I.loc;exact free _ o (fun z=>(hch _ z).2.1 rfl) ho I.free
 ·obtain⟨v,o,ho,hd⟩:=I.cell x c e;exact free c o (fun z=>(hch c z).2.2.1 x c e rfl) ho (I.freeC x c e)
 ·obtain⟨e,n,ne,nf,d⟩:=I.pin p hp;have nch:p.1∉ch:=fun z=>(hch p.1 z).2.2.2 p hp rfl;exact⟨keep p.1 p.2 ne nf nch e n,free p.1 p.2 nch e n,ne,nf,d⟩
theorem Inv.un{t':Nat}(I:Inv X pins σ H s)(u:Un X.fs [] H H' s.heap h')(hok:HOk X.prog X.w H' h'):Inv X pins σ H' { s with heap:=h',toks:=t' }:=by
 obtain⟨m,⟨o,es,ep,ho,r⟩,_⟩:=id I.loc;obtain⟨sl,hL⟩:=u.any ho I.free (by simp)
 exact I.step (g':=s.gens) (d':=s.drawn) (ch:=[]) (fun _ z=>nomatch z) (fun b o _ hb _ e n=>u.keep b o e n hb (by simp)) (fun b o _ hb _ e n=>u.slot b o e n hb (by simp)) (fun b o _ e n=>u.free b o e n (by simp)) (fun b o _ e=>u.there b o e (by simp)) u.tups u.frzs u.tbls (fun m' hm=>by
  obtain⟨o',es',ep',ho',r'⟩:=hm;rw[ho] at ho'; cases ho'
  exact⟨_,es',ep',hL,r'⟩) hok I.bare
theorem Inv.call{g':Array GenState}{t':Nat}{d':Drawn}{ch:List Addr}(I:Inv X pins σ H s)(u:Un (frs X.stack) ch H H' s.heap h')(hok:HOk X.prog X.w H' h')(hg:AllBare g')
  (hch:∀ b∈ch,(b∈X.ex∨X.s₀.heap.objs.size≤b)∧b≠X.env.locals∧(∀ x c,X.env.cells.lookup x=some c→c≠b)∧∀ p∈X.pn++pins,p.1≠b) :
  Inv X pins σ H' { s with heap:=h',gens:=g',drawn:=d',toks:=t' }:=by
 obtain⟨m,⟨o,es,ep,ho,r⟩,_⟩:=id I.loc;obtain⟨sl,hL⟩:=u.any ho I.free fun z=>(hch _ z).2.1 rfl
 exact I.step (ch:=ch) hch (fun b o hL hb hc e n=>u.keep b o e n (fun z=>(Lb6.mp (I.stkSub b z)).elim hL hb) hc) (fun b o _ _ hc e n=>u.any e n hc) (fun b o hc e n=>u.free b o e n hc) (fun b o hc e=>u.there b o e hc) u.tups u.frzs u.tbls (fun m' hm=>by
  obtain⟨o',es',ep',ho',r'⟩:=hm;rw[ho] at ho'; cases ho'
  exact⟨_,es',ep',hL,r'⟩) hok hg
theorem Inv.turned{t':Nat}{it:Addr}(I:Inv X pins σ H s)(k:∀ b o,b≠it→s.heap.get? b=some o→h'.get? b=some o)(hn:H it=none)(hL:it≠X.env.locals)
  (h1:it∈X.ex∨X.s₀.heap.objs.size≤it) (h2:∀ x c,X.env.cells.lookup x=some c→c≠it) (h3:∀ p∈X.pn++pins,p.1≠it):Inv X pins σ H { s with heap:=h',toks:=t' }:=by
 have nit:∀ b u,H b=some u→b≠it:=fun b u e z=>by rw[z,hn] at e; cases e
 refine I.step (g':=s.gens) (d':=s.drawn) (ch:=[it]) (fun b hb=>?_) (fun b o _ _ hc e _=>k b o (fun z=>hc (by simp[z])) e) (fun b o _ _ hc e _=>⟨o.slots,k b o (fun z=>hc (by simp[z])) e⟩) (fun _ _ _ _ n=>n)
  (fun b o hc e=>⟨o,k b o (fun z=>hc (by simp[z])) e⟩) (fun _ _ e=>e) (fun _ _ _ e=>e) (fun b ps e=>⟨#[],by rw[e]; simp⟩) (fun m hm=>?_) (fun b u e=>?_) I.bare
 ·have e:b=it:=by simpa using hb
  subst e;exact⟨h1,hL,h2,h3⟩
 ·obtain⟨o,es,ep,ho,r⟩:=hm;exact⟨o,es,ep,k _ o (Ne.symm hL) ho,r⟩
 ·refine (I.hok b u e).stay (fun c v hc q=>k c v ?_ q) (fun _ q=>q) fun _ _ q=>q
  rcases hc with z | z
  ·rw[z]; exact nit b u e
  ·exact nit c _ z
theorem Inv.tok(I:Inv X pins σ H s)(t:Nat):Inv X pins σ H { s with toks:=t }:=I.un (h':=s.heap) (t':=t) Un.refl I.hok
theorem Inv.kept{t':Nat}(I:Inv X pins σ H s)(k:∀ b u,s.heap.get? b=some u→h'.get? b=some u):Inv X pins σ H { s with heap:=h',toks:=t' }:=I.un (Un.kept k) (I.hok.kept k)
theorem Inv.laid{a:Addr}{o:HO}{t':Nat}(I:Inv X pins σ H s)(k:∀ b u,s.heap.get? b=some u→h'.get? b=some u)(hp:s.heap.objs.size≤a)(new:ObjOk X.prog X.w (upd H a o) h' a o) :
  Inv X pins σ (upd H a o) { s with heap:=h',toks:=t' }:=I.un (Un.laid k hp (I.hok.fresh hp)) (I.hok.laid k hp new)
theorem Inv.write{x e:Addr}{o:HO}{t':Nat}(I:Inv X pins σ H s)(mu:Mut (H x))(he:e=x∨H e=some (.own x))(k:∀ b u,b≠e→s.heap.get? b=some u→h'.get? b=some u)(heo:∃ u,h'.get? e=some u)
  (new:ObjOk X.prog X.w (upd H x o) h' x o):Inv X pins σ (upd H x o) { s with heap:=h',toks:=t' }:=I.un (Un.write mu he k heo) (I.hok.write mu he k heo new)
theorem Inv.weak{σ':List (Option V)}(I:Inv X pins σ H s)(hl:σ'.length=σ.length)(w:∀ (i:Nat) v,σ'[i]?=some (some v)→σ[i]?=some (some v)):Inv X pins σ' H s :=
 ⟨I.ok,I.os,I.bare,I.base,let ⟨m,hn,hl'⟩:=I.loc; ⟨m,hn,fun i x v e1 e2 e3=>hl' i x v e1 (w i v e2) e3⟩,I.cell,I.free,I.freeC,I.pin,I.hok,hl.trans I.len⟩
theorem Inv.pins_of{pins':List (Addr×Obj)}(I:Inv X pins σ H s)(h:∀ p∈pins',s.heap.get? p.1=some p.2∧H p.1=none∧p.1≠X.env.locals∧p.1∉X.fs∧∀ v,p.2.data≠.cell v):Inv X pins' σ H s :=
 ⟨I.ok,I.os,I.bare,I.base,I.loc,I.cell,I.free,I.freeC,fun p hp=>(Lb9.mp hp).elim (fun z=>I.pin p (Le3 _ z)) (h p),I.hok,I.len⟩
theorem nodup_ix{N:List Str}(hN:N.Nodup){i j:Nat}{x:Str}(a:N[i]?=some x)(b:N[j]?=some x):i=j:=by
 obtain⟨h1,e1⟩:=La5.mp a;obtain⟨h2,e2⟩:=La5.mp b;exact (List.getElem_inj hN).mp (e1.trans e2.symm)
theorem store_ok2{M:Model}{A:Around}{E:Value→Shared→Prop}{i:Nat}{x:Str}{v:V}{u:Value}{Q:Unit→Shared→Prop}(I:Inv X pins σ H s)(hN:X.N.Nodup)(hi:X.N[i]?=some x)(hx:Loc X.env.scope x)(r:RelV v u)
  (h:∀ s',Inv X pins (σ.set i (some v)) H s'→(∃ a,Heap.SameBut a s.heap s'.heap∧(a=X.env.locals∨X.env.cells.lookup x=some a))→Q () s') (hf:X.fn x=true∨X.env.scope.names.lookup x=some .local:=by first | exact .inl rfl | exact .inr rfl | assumption):wpAny M A (storeName X.env x u) Q E s:=by
 obtain⟨m,hn,hl⟩:=id I.loc;have hcls:(X.env.scope.kind == .class || (X.env.scope.kind == .module && X.env.locals != X.env.globals))=false:=by rw[I.ok.kind]; rfl
 have hiσ:i<σ.length:=by rw[I.len]; exact (La5.mp hi).1
 have cne:=I.cne
 have tracked:∀ {a:Addr} {h':Heap},(∃ o,s.heap.get? a=some o∧H a=none)→Heap.SameBut a s.heap h'→HOk X.prog X.w H h':=fun {a h'} ha hs b ob e=>by
  obtain⟨_,_,hfree⟩:=ha;refine (I.hok b ob e).stay (fun c w' hc q=>(hs.2 c ?_).trans q) (fun _ q=>q) fun _ _ q=>q;rintro rfl
  rcases hc with rfl | hc
  ·rw[hfree] at e; cases e
  ·rw[hfree] at hc; cases hc
 rcases hx with hk | hk
 ·refine wpAny_storeName_local hk hn (fun h' hn' hs=>?_) hcls;obtain⟨oL,_,_,hoL,_⟩:=id hn;refine h _ ⟨I.ok,I.os,I.bare,⟨fun b o e n hb hx=>?_,fun b o e n hb hx=>?_,I.base.free,fun b o e hx=>?_,I.base.tups,I.base.frzs,I.base.tbls⟩,⟨_,hn',fun j y v' e1 e2 e3=>?_⟩,fun y c e=>?_,I.free,I.freeC,fun p hp=>?_,tracked ⟨oL,hoL,I.free⟩ hs,by simpa using I.len⟩ ⟨_,hs,.inl rfl⟩
  ·exact (hs.2 b (Lc4 (Lb7 (Heap.lt_size e) I.ok.above))).trans (I.base.keep b o e n hb hx)
  ·obtain⟨sl,e1⟩:=I.base.slot b o e n hb hx;exact⟨sl,(hs.2 b (Lc4 (Lb7 (Heap.lt_size e) I.ok.above))).trans e1⟩
  ·obtain⟨o',e1⟩:=I.base.there b o e hx;exact⟨o',(hs.2 b (Lc4 (Lb7 (Heap.lt_size e) I.ok.above))).trans e1⟩
  ·by_cases hj:j=i
   ·subst hj;rw[hi] at e1; cases e1;rw[List.getElem?_set_self hiσ] at e2;cases e2;exact⟨u,r,.inl ⟨hk,by simp⟩⟩
   ·rw[List.getElem?_set_ne (Ne.symm hj)] at e2;obtain⟨u',r',q⟩:=hl j y v' e1 e2 e3;refine⟨u',r',?_⟩
    rcases q with ⟨k,e⟩ | ⟨k,c,e,z⟩
    ·refine .inl ⟨k,?_⟩
     have:y≠x:=fun e=>hj (nodup_ix hN e1 (e ▸ hi));simp[this,e]
    ·exact .inr ⟨k,c,e,z.sameBut hs (cne y c e)⟩
  ·obtain⟨w',z⟩:=I.cell y c e;exact⟨w',z.sameBut hs (cne y c e)⟩
  ·obtain⟨e,n,ne,nf,d⟩:=I.pin p hp;exact⟨(hs.2 p.1 ne).trans e,n,ne,nf,d⟩
 ·have hfn:X.fn x=true:=by
   rcases hf with z | z
   ·exact z
   ·rw[z] at hk; cases hk
  obtain⟨c,hc⟩:=I.ok.has x (.inl hk);obtain⟨w',z⟩:=I.cell x c hc;refine wpAny_storeName_cell I.ok.kind hk hc z (fun h' hc' hs=>?_);obtain⟨oc,hoc,hocd⟩:=id z;refine h { s with heap:=h' } ⟨I.ok,I.os,I.bare,⟨fun b o e n hb hx=>?_,fun b o e n hb hx=>?_,I.base.free,fun b o e hx=>?_,I.base.tups,I.base.frzs,I.base.tbls⟩,⟨m,hn.sameBut hs (Ne.symm (cne x c hc)),fun j y v' e1 e2 e3=>?_⟩,fun y c' e=>?_,I.free,I.freeC,fun p hp=>?_,tracked ⟨oc,hoc,I.freeC x c hc⟩ hs,by simpa using I.len⟩ ⟨c,hs,.inr hc⟩
  ·exact (hs.2 b (Lc4 (Lb7 (Heap.lt_size e) (I.ok.cab x c hfn hc)))).trans (I.base.keep b o e n hb hx)
  ·obtain⟨sl,e1⟩:=I.base.slot b o e n hb hx;exact⟨sl,(hs.2 b (Lc4 (Lb7 (Heap.lt_size e) (I.ok.cab x c hfn hc)))).trans e1⟩
  ·obtain⟨o',e1⟩:=I.base.there b o e hx;exact⟨o',(hs.2 b (Lc4 (Lb7 (Heap.lt_size e) (I.ok.cab x c hfn hc)))).trans e1⟩
  ·by_cases hj:j=i
   ·subst hj;rw[hi] at e1; cases e1;rw[List.getElem?_set_self hiσ] at e2;cases e2;exact⟨u,r,.inr ⟨.inl hk,c,hc,hc'⟩⟩
   ·rw[List.getElem?_set_ne (Ne.symm hj)] at e2;obtain⟨u',r',q⟩:=hl j y v' e1 e2 e3;refine⟨u',r',?_⟩
    rcases q with q | ⟨k,c',e,z'⟩
    ·exact .inl q
    ·refine .inr ⟨k,c',e,z'.sameBut hs ?_⟩;rintro rfl;exact hj (nodup_ix hN e1 (I.ok.inj _ _ _ e hc ▸ hi))
  ·by_cases hcc:c'=c
   ·subst hcc; exact⟨_,hc'⟩
   ·obtain⟨w2,z2⟩:=I.cell y c' e;exact⟨w2,z2.sameBut hs hcc⟩
  ·obtain⟨e,n,ne,nf,d⟩:=I.pin p hp;refine⟨(hs.2 p.1 ?_).trans e,n,ne,nf,d⟩;intro q;rw[q,hoc] at e;have q':oc=p.2:=Option.some.inj e;exact d w' (by rw[← q']; exact hocd)
theorem store_ok{M:Model}{A:Around}{E:Value→Shared→Prop}{i:Nat}{x:Str}{v:V}{u:Value}{Q:Unit→Shared→Prop}(I:Inv X pins σ H s)(hN:X.N.Nodup)(hi:X.N[i]?=some x)(hx:Loc X.env.scope x)(r:RelV v u)
  (h:∀ s',Inv X pins (σ.set i (some v)) H s'→Q () s') (hf:X.fn x=true∨X.env.scope.names.lookup x=some .local:=by first | exact .inl rfl | exact .inr rfl | assumption):wpAny M A (storeName X.env x u) Q E s :=
 store_ok2 I hN hi hx r (fun s' I' _=>h s' I') hf
theorem Inv.call'{s':Shared}{ch:List Addr}(I:Inv X pins σ H s)(ho:s'.os=s.os)(u:Un (frs X.stack) ch H H' s.heap s'.heap)(hok:HOk X.prog X.w H' s'.heap)(hg:AllBare s'.gens)
  (hch:∀ b∈ch,(b∈X.ex∨X.s₀.heap.objs.size≤b)∧b≠X.env.locals∧(∀ x c,X.env.cells.lookup x=some c→c≠b)∧∀ p∈X.pn++pins,p.1≠b):Inv X pins σ H' s':=by
 obtain⟨h',g',d',t',o'⟩:=s';have e:o'=s.os:=ho;subst e;exact I.call (g':=g') (t':=t') (d':=d') u hok hg hch
end
abbrev XK:=Value→Option Addr→Hp→Prop
abbrev St:=List (Option V)
abbrev VK:=V→Hp→Prop
abbrev TE:=St→Hp→VK→Prop
abbrev TT:=St→Hp→(Bool→Hp→Prop)→Prop
abbrev TA:=St→Hp→(List V→Hp→Prop)→Prop
structure Ends where
 nx:St→Hp→Prop
 rt:VK
 bk:St→Hp→Prop:=fun _ _=>False
 ct:St→Hp→Prop:=fun _ _=>False
abbrev TS:=Ends→St→Hp→Prop
inductive EP(X:Cx)(pins:List (Addr×Obj))(σ:St)(Q:VK)(u:Value)(s':Shared):Prop
 | mk (v:V) (H':Hp) (i:Inv X pins σ H' s') (r:RelV v u) (q:Q v H'):EP X pins σ Q u s'
def TP(X:Cx)(pins:List (Addr×Obj))(σ:St)(Q:Bool→Hp→Prop)(b:Bool)(s':Shared):Prop:=∃ H',Inv X pins σ H' s'∧Q b H'
inductive AP(X:Cx)(pins:List (Addr×Obj))(σ:St)(Q:List V→Hp→Prop)(us:List Value)(s':Shared):Prop
 | mk (vs:List V) (H':Hp) (i:Inv X pins σ H' s') (r:Vals vs us) (q:Q vs H'):AP X pins σ Q us s'
def SP(X:Cx)(pins:List (Addr×Obj))(D:Ends)(f:Flow)(s':Shared):Prop :=
 match f with
 | .next=>∃ σ' H',Inv X pins σ' H' s'∧D.nx σ' H'
 | .brk=>∃ σ' H',Inv X pins σ' H' s'∧D.bk σ' H'
 | .cont=>∃ σ' H',Inv X pins σ' H' s'∧D.ct σ' H'
 | .ret u=>∃ v σ' H',Inv X pins σ' H' s'∧RelV v u∧D.rt v H'
def PE(X:Cx)(e:Expr)(t:TE):Prop :=
 ∀ (pins:List (Addr×Obj)) (s:Shared) (σ:St) (H:Hp) (Q:VK),Inv X pins σ H s→t σ H Q→wpAny (model X.prog X.w) X.A (eval e X.env) (EP X pins σ Q) X.xe s
def PT(X:Cx)(e:Expr)(t:TT):Prop :=
 ∀ (pins:List (Addr×Obj)) (s:Shared) (σ:St) (H:Hp) (Q:Bool→Hp→Prop),Inv X pins σ H s→t σ H Q→wpAny (model X.prog X.w) X.A (isTrue e X.env (eval e X.env)) (TP X pins σ Q) X.xe s
def PW(X:Cx)(e:Expr)(t:TT):Prop :=
 ∀ (whole:Sem Value) (pins:List (Addr×Obj)) (s:Shared) (σ:St) (H:Hp) (Q:Bool→Hp→Prop),Inv X pins σ H s→t σ H Q→wpAny (model X.prog X.w) X.A (isTrue e X.env whole) (TP X pins σ Q) X.xe s
theorem PW.pt{X:Cx}{e:Expr}{t:TT}(h:PW X e t):PT X e t:=h _
def PA(X:Cx)(es:List Expr)(t:TA):Prop :=
 ∀ (pos:Pos) (pins:List (Addr×Obj)) (s:Shared) (σ:St) (H:Hp) (Q:List V→Hp→Prop),Inv X pins σ H s→t σ H Q→wpAny (model X.prog X.w) X.A (spliced (backTo pos (starEach es X.env))) (AP X pins σ Q) X.xe s
def PS(X:Cx)(st:Stmt)(t:TS):Prop :=
 ∀ (pins:List (Addr×Obj)) (s:Shared) (σ:St) (H:Hp) (D:Ends),Inv X pins σ H s→t D σ H→wpAny (model X.prog X.w) X.A (exec st X.env) (SP X pins D) X.xe s
def PSs(X:Cx)(st:List Stmt)(t:TS):Prop :=
 ∀ (pins:List (Addr×Obj)) (s:Shared) (σ:St) (H:Hp) (D:Ends),Inv X pins σ H s→t D σ H→wpAny (model X.prog X.w) X.A (execs st X.env) (SP X pins D) X.xe s
theorem thn{α:Type}{t:Sem α}{Q Q':α→Shared→Prop}{M:Model}{A:Around}{E:Value→Shared→Prop}{s:Shared}(h:wpAny M A t Q E s)(hQ:∀ a s,Q a s→Q' a s):wpAny M A t Q' E s:=wpAny_mono h hQ fun _ _ x=>x
section
variable {X:Cx}
inductive VarR(i:Nat)(σ:St)(H:Hp)(Q:VK):Prop
 | mk (v:V) (e:σ[i]?=some (some v)) (q:Q v H):VarR i σ H Q
def tVar(i:Nat):TE:=fun σ H Q=>VarR i σ H Q
def tC(v:V):TE:=fun _ H Q=>Q v H
theorem pe_var{i:Nat}{x:Str}{pos:Pos}(hN:X.N[i]?=some x)(hv:Vis X.env.scope x)(hd:(x == ("__debug__":Str))=false:=by decide)(hcd:(x == ("__classdict__":Str))=false:=by decide):PE X (.Name x pos) (tVar i):=by
 intro pins s σ H Q I h;obtain⟨v,e,h⟩:=h;obtain⟨m,hn,hl⟩:=I.loc;obtain⟨u,r,l⟩:=hl i x v hN e hv;have fin:EP X pins σ Q u s:=⟨v,H,I,r,h⟩
 rcases l with ⟨hk,hm⟩ | ⟨hk,c,hc,hcell⟩
 ·exact wpAny_Name (wpAny_loadName_local I.ok.kind hk hn hm fin) hd
 ·rcases hk with hk | hk
  ·exact wpAny_Name (wpAny_loadName_cell I.ok.kind hk hc hcell fin) hd
  ·exact wpAny_Name (wpAny_loadName_free I.ok.kind hk hc hcell fin hcd) hd
theorem pe_int{i j pos}:PE X (.Constant (.int i) j pos) (tC (.int i)):=fun _ _ _ H _ I h=>wpAny_Constant_int ⟨.int i,H,I.tok _,⟨_,rfl⟩,h⟩
theorem pe_bl{b j pos}:PE X (.Constant (.bool b) j pos) (tC (.bl b)):=fun _ _ _ H _ I h=>Constant_bool ⟨.bl b,H,I,rfl,h⟩
theorem pe_non{j pos}:PE X (.Constant .none j pos) (tC .non):=fun _ _ _ H _ I h=>Constant_none ⟨.non,H,I,rfl,h⟩
theorem pe_str{x j pos}:PE X (.Constant (.str x) j pos) (tC (.str x)):=fun _ _ _ H _ I h=>Calls.Constant_str ⟨.str x,H,I.tok _,⟨_,rfl⟩,h⟩
def Gl(X:Cx)(x:Str):Prop:=X.env.kindOf x=some .globalImplicit
theorem ld_glob{E:Value→Shared→Prop}{pins:List (Addr×Obj)}{s:Shared}{σ:St}{H:Hp}{x:Str}{u:Value}{pos:Pos}{Q:Value→Shared→Prop}(I:Inv X pins σ H s)(hg:Gl X x)(hm:X.mg x=some u)(h:Q u s)
  (hd:(x == ("__debug__":Str))=false:=by decide):wpAny (model X.prog X.w) X.A (eval (.Name x pos) X.env) Q E s :=
 Calls.Name_function_global I.ok.kind hg (Calls.loadGlobal_global (by rw[I.ok.glob]; exact I.mod.glob.keeps I.bk) hm h) hd
theorem ld_blt{E:Value→Shared→Prop}{pins:List (Addr×Obj)}{s:Shared}{σ:St}{H:Hp}{x:Str}{u:Value}{pos:Pos}{Q:Value→Shared→Prop}(I:Inv X pins σ H s)(hg:Gl X x)(hm:X.mg x=none)(hv:bootBuiltins x=some u)(h:Q u s)
  (hn:x≠"__name__":=by decide) (hd:(x == ("__debug__":Str))=false:=by decide):wpAny (model X.prog X.w) X.A (eval (.Name x pos) X.env) Q E s:=by
 obtain⟨mb,h1,h2⟩:=I.mod.blt;exact Calls.Name_function_global I.ok.kind hg (Calls.loadGlobal_builtin (by rw[I.ok.glob]; exact I.mod.glob.keeps I.bk) hm (by rw[I.ok.blt]; exact h1.keeps I.bk) ((h2 x hn).trans hv) h) hd
theorem pe_bltn{x:Str}{v:V}{u:Value}{pos:Pos}(hg:Gl X x)(hm:X.mg x=none)(hv:bootBuiltins x=some u)(r:RelV v u)(hn:x≠"__name__":=by decide)(hd:(x == ("__debug__":Str))=false:=by decide):PE X (.Name x pos) (tC v) :=
 fun _ _ _ H _ I h=>ld_blt I hg hm hv ⟨v,H,I,r,h⟩ hn hd
variable {a b:Expr} {ta tb:TE} {pos:Pos}
def PC(X:Cx)(op:CmpOp)(a b:Expr)(t:TE):Prop :=
 ∀ (pins:List (Addr×Obj)) (s:Shared) (σ:St) (H:Hp) (Q:VK),Inv X pins σ H s→t σ H Q →
  wpAny (model X.prog X.w) X.A (eval a X.env) (fun v s₁=>wpAny (model X.prog X.w) X.A (eval b X.env) (fun u s₂=>wpAny (model X.prog X.w) X.A (compareOp op v u) (EP X pins σ Q) X.xe s₂) X.xe s₁) X.xe s
theorem nobehind(b:Expr){op:CmpOp}(h:op≠.In)(h2:op≠.NotIn):behindInMarks op b=false:=by
 have e1:(op == CmpOp.In)=false:=by cases op <;> first | rfl | exact absurd rfl h
 have e2:(op == CmpOp.NotIn)=false:=by cases op <;> first | rfl | exact absurd rfl h2
 cases b <;> simp[behindInMarks,e1,e2]
def tNotN(ta:TE):TE:=fun σ H Q=>ta σ H fun x H1=>Q (.bl (!decide (x=.non))) H1
theorem RelV.none_iff{x:V}{v:Value}(r:RelV x v):(v == Value.none)=decide (x=.non):=by
 cases x with
 | non=>cases r; rfl
 | bl _=>cases r; rfl
 | int _=>obtain⟨t,rfl⟩:=r; rfl
 | str _=>obtain⟨t,rfl⟩:=r; rfl
 | byt _=>obtain⟨t,rfl⟩:=r; rfl
 | flt _=>obtain⟨t,rfl⟩:=r; rfl
 | ref _=>cases r; rfl
 | ty _=>cases r; rfl
theorem pc_notN{j pos'}(ha:PE X a ta):PC X .IsNot a (.Constant .none j pos') (tNotN ta):=by
 intro pins s σ H Q I h;refine thn (ha pins s σ H _ I h) fun v s1 hZr=>?_;obtain⟨x,H1,I1,r1,q1⟩:=hZr;exact Constant_none (isnot_none_gen ⟨.bl _,H1,I1,by rw[r1.none_iff]; rfl,q1⟩)
def tB(t:TE):TT:=fun σ H Q=>t σ H fun x H1=>∃ c,x=.bl c∧Q c H1
theorem pt_cmp{op:CmpOp}{t:TE}(h:PC X op a b t)(h1:behindInMarks op b=false:=by first | exact nobehind _ (by decide) (by decide) | rfl):PT X (.Compare a [op] [b] pos) (tB t):=by
 intro pins s σ H Q I hw;refine wpAny_isTrue_Compare1 (thn (h pins s σ H _ I hw) fun v s1 h1=>thn h1 fun u s2 h2=>thn h2 fun c s3 ⟨x,H1,I1,r1,q1⟩=>?_) h1;obtain⟨d,rfl,q⟩:=q1;cases r1;exact wpAny_truthy_bool ⟨H1,I1,q⟩
theorem pt_val{e:Expr}{t:TE}(h:PE X e t)(he:∀ whole,isTrue e X.env whole=(do let v ← whole; standAt e.pos; holding [v] (truthy v)):=by intro _; rfl):PT X e (tB t):=by
 intro pins s σ H Q I hw;refine isTrue_plain (thn (h pins s σ H _ I hw) fun v s1 ⟨x,H1,I1,r1,q1⟩=>?_) (he _);obtain⟨d,rfl,q⟩:=q1;cases r1;exact wpAny_truthy_bool ⟨H1,I1,q⟩
variable {tA tB':TT} {rest:List Expr}
def tAnd(t u:TT):TT:=fun σ H Q=>t σ H fun c H1=>if c=true then u σ H1 Q else Q false H1
def tOr(t u:TT):TT:=fun σ H Q=>t σ H fun c H1=>if c=true then Q true H1 else u σ H1 Q
def tNot(t:TT):TT:=fun σ H Q=>t σ H fun c H1=>Q (!c) H1
theorem pw_and1(ha:PT X a tA):PW X (.BoolOp .And [a] pos) tA:=by
 intro wh pins s σ H Q I h;refine isTrue_and (thn (ha pins s σ H Q I h) fun c s1 e=>?_)
 cases c with
 | true=>exact isTrue_and_nil e
 | false=>exact e
theorem pw_or1(ha:PT X a tA):PW X (.BoolOp .Or [a] pos) tA:=by
 intro wh pins s σ H Q I h;refine isTrue_or (thn (ha pins s σ H Q I h) fun c s1 e=>?_)
 cases c with
 | false=>exact isTrue_or_nil e
 | true=>exact e
theorem pw_and(ha:PT X a tA)(hb:PW X (.BoolOp .And (b::rest) pos) tB'):PW X (.BoolOp .And (a::b::rest) pos) (tAnd tA tB'):=by
 intro wh pins s σ H Q I h;refine isTrue_and (thn (ha pins s σ H _ I h) fun c s1 ⟨H1,I1,q1⟩=>?_)
 cases c with
 | true=>exact hb wh pins s1 σ H1 Q I1 q1
 | false=>exact⟨H1,I1,q1⟩
theorem pw_or(ha:PT X a tA)(hb:PW X (.BoolOp .Or (b::rest) pos) tB'):PW X (.BoolOp .Or (a::b::rest) pos) (tOr tA tB'):=by
 intro wh pins s σ H Q I h;refine isTrue_or (thn (ha pins s σ H _ I h) fun c s1 ⟨H1,I1,q1⟩=>?_)
 cases c with
 | true=>exact⟨H1,I1,q1⟩
 | false=>exact hb wh pins s1 σ H1 Q I1 q1
theorem pt_not(ha:PT X a tA):PT X (.UnaryOp .Not a pos) (tNot tA):=by
 intro pins s σ H Q I h;exact isTrue_not (ha pins s σ H (fun c H1=>Q (!c) H1) I h)
def tAndV(ta tb:TE):TE:=fun σ H Q=>ta σ H fun x H1=>∃ c,x=.bl c∧if c=true then tb σ H1 Q else Q (.bl false) H1
def tNotV(ta:TE):TE:=fun σ H Q=>ta σ H fun x H1=>∃ c,x=.bl c∧Q (.bl (!c)) H1
theorem pe_one{op}{t:TE}(h:PE X a t):PE X (.BoolOp op [a] pos) t:=fun pins s σ H Q I hw=>BoolOp_one (h pins s σ H Q I hw)
theorem pe_and(ha:PE X a ta)(hb:PE X (.BoolOp .And (b::rest) pos) tb):PE X (.BoolOp .And (a::b::rest) pos) (tAndV ta tb):=by
 intro pins s σ H Q I h;refine BoolOp_and (thn (ha pins s σ H _ I h) fun v s1 hZr=>?_);obtain⟨x,H1,I1,r1,q1⟩:=hZr;obtain⟨c,rfl,q1⟩:=q1;cases r1;refine wpAny_truthy_bool ?_
 cases c with
 | true=>exact hb pins s1 σ H1 Q I1 q1
 | false=>exact⟨.bl false,H1,I1,rfl,q1⟩
theorem pe_not(ha:PE X a ta):PE X (.UnaryOp .Not a pos) (tNotV ta):=by
 intro pins s σ H Q I h;refine UnaryOp_ (thn (ha pins s σ H _ I h) fun v s1 hZr=>?_);obtain⟨x,H1,I1,r1,q1⟩:=hZr;obtain⟨c,rfl,q1⟩:=q1;cases r1;exact not_of (wpAny_truthy_bool ⟨.bl (!c),H1,I1,rfl,q1⟩)
def tIf(t:TT)(ta tb:TE):TE:=fun σ H Q=>t σ H fun c H1=>if c=true then ta σ H1 Q else tb σ H1 Q
theorem pe_ifExp{c:Expr}(hc:PT X c tA)(ha:PE X a ta)(hb:PE X b tb):PE X (.IfExp c a b pos) (tIf tA ta tb):=by
 intro pins s σ H Q I h;refine wpAny_IfExp (thn (hc pins s σ H _ I h) fun d s1 ⟨H1,I1,q1⟩=>?_)
 cases d with
 | true=>exact ha pins s1 σ H1 Q I1 q1
 | false=>exact hb pins s1 σ H1 Q I1 q1
end
def SqL(K:PySem.W.Frag)(H:Hp)(a:Addr)(xs:List V):Prop :=
 Rd H a (.lst xs) ∨
  ∃ (o:Obj) (its:Array Value) (n:Nat),K.lookup a=some o∧o.cls=.type "list"∧o.dict=none∧o.data=.seq its n∧its.size≤sizeLine∧Vals xs its.toList
def SqT(K:PySem.W.Frag)(H:Hp)(a:Addr)(xs:List V):Prop :=
 Rd H a (.tup xs) ∨
  ∃ (o:Obj) (its:Array Value) (n:Nat),K.lookup a=some o∧o.cls=.type "tuple"∧o.data=.seq its n∧its.size≤sizeLine∧Vals xs its.toList
def absV:Value→Option V
 | .none=>some .non
 | .bool b=>some (.bl b)
 | .int i _=>some (.int i)
 | .str x _=>some (.str x)
 | .bytes b _=>some (.byt b)
 | .float b _=>some (.flt b)
 | .ref a=>some (.ref a)
 | .type n=>some (.ty n)
 | _=>none
theorem RelV.abs{x:V}{u:Value}(r:RelV x u):absV u=some x:=by
 cases x with
 | non=>cases r; rfl
 | bl _=>cases r; rfl
 | int _=>obtain⟨t,rfl⟩:=r; rfl
 | str _=>obtain⟨t,rfl⟩:=r; rfl
 | byt _=>obtain⟨t,rfl⟩:=r; rfl
 | flt _=>obtain⟨t,rfl⟩:=r; rfl
 | ref _=>cases r; rfl
 | ty _=>cases r; rfl
theorem RelV.inj{x y:V}{u:Value}(r:RelV x u)(q:RelV y u):x=y:=Option.some.inj (r.abs.symm.trans q.abs)
theorem Vals.inj:∀ {xs ys:List V} {us:List Value},Vals xs us→Vals ys us→xs=ys
 | _,_,_,.nil,.nil=>rfl
 | _,_,_,.cons r t,.cons r' t'=>by rw[r.inj r',Vals.inj t t']
section
variable {X:Cx} {pins:List (Addr×Obj)} {σ:St} {H:Hp} {s:Shared} {a:Addr} {xs ys:List V}
theorem SqL.of{K:PySem.W.Frag}(h:H a=some (.lst xs)):SqL K H a xs:=.inl (.inl h)
theorem SqT.of{K:PySem.W.Frag}(h:H a=some (.tup xs)):SqT K H a xs:=.inl (.inl h)
theorem Inv.list(I:Inv X pins σ H s)(h:SqL X.K H a xs):∃ its:List Value,Vals xs its∧PlainL s.heap a its.toArray∧xs.length≤sizeLine:=by
 rcases h with h | ⟨o,its,n,hk,hc,hd,hs,hz,r⟩
 ·obtain⟨z,its,n,r,e⟩:=h.ok I.hok;exact⟨its,r,⟨_,n,e,rfl,rfl,rfl⟩,z⟩
 ·refine⟨its.toList,r,⟨o,n,I.kIn a o hk,hc,hd,by simpa using hs⟩,?_⟩;have e:=r.length;simp only[Array.length_toList] at e;omega
theorem Inv.tuple(I:Inv X pins σ H s)(h:SqT X.K H a xs):∃ its:List Value,Vals xs its∧IsTup s.heap a its.toArray∧xs.length≤sizeLine:=by
 rcases h with h | ⟨o,its,n,hk,hc,hs,hz,r⟩
 ·obtain⟨z,its,r,p⟩:=h.ok I.hok;exact⟨its,r,p,z⟩
 ·refine⟨its.toList,r,⟨o,I.kIn a o hk,hc,n,by simpa using hs⟩,?_⟩;have e:=r.length;simp only[Array.length_toList] at e;omega
theorem Inv.list_inj(I:Inv X pins σ H s)(h:SqL X.K H a xs)(h':SqL X.K H a ys):xs=ys:=by
 obtain⟨its,r,⟨o,n,e,_,_,d⟩,_⟩:=I.list h;obtain⟨its',r',⟨o',n',e',_,_,d'⟩,_⟩:=I.list h';rw[e] at e'; cases e';rw[d] at d';injection d' with d1 _
 have:its=its':=by simpa using congrArg Array.toList d1
 subst this;exact r.inj r'
end
abbrev Cx.wish(X:Cx)(E:Value→Shared→Prop):Cx:={ X with xe:=E }
abbrev Cx.nox(X:Cx):Cx:=X.wish fun _ _=>False
theorem Cx.Ok.wish{X:Cx}(ok:X.Ok)(E:Value→Shared→Prop):(X.wish E).Ok :=
 ⟨ok.mod,ok.kind,ok.glob,ok.blt,ok.above,ok.inj,ok.has,ok.cab,ok.hd,ok.frames,ok.stk,ok.exf,ok.bs,ok.bsz,ok.noex,ok.exfs,ok.funs,ok.frf⟩
theorem Cx.Ok.unwish{X:Cx}{E:Value→Shared→Prop}(ok:(X.wish E).Ok):X.Ok :=
 ⟨ok.mod,ok.kind,ok.glob,ok.blt,ok.above,ok.inj,ok.has,ok.cab,ok.hd,ok.frames,ok.stk,ok.exf,ok.bs,ok.bsz,ok.noex,ok.exfs,ok.funs,ok.frf⟩
section
variable {X:Cx} {pins:List (Addr×Obj)} {σ:St} {H:Hp} {s:Shared} {E:Value→Shared→Prop}
theorem Inv.wish(I:Inv X pins σ H s)(E:Value→Shared→Prop):Inv (X.wish E) pins σ H s:=⟨I.ok.wish E,I.os,I.bare,I.base,I.loc,I.cell,I.free,I.freeC,I.pin,I.hok,I.len⟩
theorem Inv.unwish(I:Inv (X.wish E) pins σ H s):Inv X pins σ H s:=⟨I.ok.unwish,I.os,I.bare,I.base,I.loc,I.cell,I.free,I.freeC,I.pin,I.hok,I.len⟩
theorem SP.unwish{D:Ends}{f:Flow}{s':Shared}(h:SP (X.wish E) pins D f s'):SP X pins D f s':=by
 cases f with
 | next=>obtain⟨σ',H',I,q⟩:=h; exact⟨σ',H',I.unwish,q⟩
 | brk=>obtain⟨σ',H',I,q⟩:=h; exact⟨σ',H',I.unwish,q⟩
 | cont=>obtain⟨σ',H',I,q⟩:=h; exact⟨σ',H',I.unwish,q⟩
 | ret u=>obtain⟨v,σ',H',I,r,q⟩:=h; exact⟨v,σ',H',I.unwish,r,q⟩
theorem PSs.nox{st:List Stmt}{t:TS}(h:PSs X.nox st t):PSs X st t:=fun pins s σ H D I hw =>
 wpAny_mono (h pins s σ H D (I.wish _) hw) (fun _ _ q=>q.unwish) fun _ _ z=>False.elim z
end
section
variable {X:Cx} {st:Stmt} {rest:List Stmt} {t u:TS} {e:Expr} {te:TE} {pos:Pos}
def tNext:TS:=fun D σ H=>D.nx σ H
def tSeq(t u:TS):TS:=fun D σ H=>t { D with nx:=u D } σ H
theorem pss_nil:PSs X [] tNext:=fun _ _ σ H _ I h=>wpAny_execs_nil ⟨σ,H,I,h⟩
theorem pss_cons(h1:PS X st t)(h2:PSs X rest u):PSs X (st::rest) (tSeq t u):=by
 intro pins s σ H D I h;refine wpAny_execs_cons (thn (h1 pins s σ H { D with nx:=u D } I h) fun f s1 q=>?_)
 cases f with
 | next =>
  obtain⟨σ',H',I',q⟩:=q
  exact h2 pins s1 σ' H' D I' q
 | ret v=>exact q
 | brk=>exact q
 | cont=>exact q
theorem pss_one(h1:PS X st t):PSs X [st] t:=by
 intro pins s σ H D I h;refine wpAny_execs_cons (thn (h1 pins s σ H D I h) fun f s1 q=>?_)
 cases f with
 | next=>exact wpAny_execs_nil q
 | ret v=>exact q
 | brk=>exact q
 | cont=>exact q
theorem Inv.quiet{pins:List (Addr×Obj)}{σ:St}{H:Hp}{s:Shared}(I:Inv X pins σ H s):interactive X.env=false:=by simp[interactive,I.ok.kind]
def tDrop(te:TE):TS:=fun D σ H=>te σ H fun _ H1=>D.nx σ H1
theorem ps_expr(he:PE X e te)(hs:swapsWith e none pos.line X.env=pure false:=by rfl):PS X (.Expr e pos) (tDrop te):=by
 intro pins s σ H D I h;exact wpAny_Expr_any (thn (he pins s σ H _ I h) fun v s1 ⟨x,H1,I1,r1,q1⟩=>⟨σ,H1,I1,q1⟩) I.quiet hs
def tRet(te:TE):TS:=fun D σ H=>te σ H D.rt
theorem ps_ret(he:PE X e te):PS X (.Return (some e) pos) (tRet te):=by
 intro pins s σ H D I h;exact wpAny_Return_some (thn (he pins s σ H _ I h) fun v s1 ⟨x,H1,I1,r1,q1⟩=>⟨x,σ,H1,I1,r1,q1⟩)
def tIfS(c:TT)(t u:TS):TS:=fun D σ H=>c σ H fun b H1=>if b=true then t D σ H1 else u D σ H1
theorem ps_if{c:Expr}{a b:List Stmt}{tc:TT}(hc:PT X c tc)(ha:PSs X a t)(hb:PSs X b u):PS X (.If c a b pos) (tIfS tc t u):=by
 intro pins s σ H D I h;refine wpAny_If (thn (hc pins s σ H _ I h) fun d s1 ⟨H1,I1,q1⟩=>?_)
 cases d with
 | true=>exact ha pins s1 σ H1 D I1 q1
 | false=>exact hb pins s1 σ H1 D I1 q1
def tNever:TS:=fun _ _ _=>False
theorem ps_never:PS X st tNever:=fun _ _ _ _ _ _ h=>h.elim
end
abbrev TG:=V→St→Hp→(St→Hp→Prop)→Prop
abbrev TGs:=List V→St→Hp→(St→Hp→Prop)→Prop
def PG(X:Cx)(target:Expr)(t:TG):Prop :=
 ∀ (pins:List (Addr×Obj)) (s:Shared) (σ:St) (H:Hp) (v:V) (u:Value) (Q:St→Hp→Prop),Inv X pins σ H s→RelV v u→t v σ H Q →
  wpAny (model X.prog X.w) X.A (assign target X.env u) (fun _ s'=>∃ σ' H',Inv X pins σ' H' s'∧Q σ' H') X.xe s
def PGs(X:Cx)(ts:List Expr)(t:TGs):Prop :=
 ∀ (pins:List (Addr×Obj)) (s:Shared) (σ:St) (H:Hp) (vs:List V) (us:List Value) (Q:St→Hp→Prop),Inv X pins σ H s→Vals vs us→t vs σ H Q →
  wpAny (model X.prog X.w) X.A (assignInOrder ((assignEach ts X.env).map (·.2)) us) (fun _ s'=>∃ σ' H',Inv X pins σ' H' s'∧Q σ' H') X.xe s
abbrev TIp:=V→V→Hp→VK→Prop
def PIp(X:Cx)(op:Operator)(t:TIp):Prop :=
 ∀ (pins:List (Addr×Obj)) (s:Shared) (σ:St) (H:Hp) (x y:V) (v u:Value) (Q:VK),Inv X pins σ H s→RelV x v→RelV y u→t x y H Q →
  wpAny (model X.prog X.w) X.A (inplaceOp op v u) (EP X pins σ Q) X.xe s
section
variable {X:Cx} {pos:Pos}
def gName(i:Nat):TG:=fun v σ H Q=>Q (σ.set i (some v)) H
theorem pg_name{i:Nat}{x:Str}(hN:X.N.Nodup)(hi:X.N[i]?=some x)(hx:Loc X.env.scope x)(hf:X.fn x=true∨X.env.scope.names.lookup x=some .local:=by first | exact .inl rfl | exact .inr rfl | assumption):PG X (.Name x pos) (gName i):=by
 intro pins s σ H v u Q I r h;exact wpAny_assign_Name (store_ok I hN hi hx r (fun s' I'=>⟨_,H,I',h⟩) hf)
def gNil:TGs:=fun vs σ H Q=>vs=[]∧Q σ H
def gCons(t:TG)(u:TGs):TGs:=fun vs σ H Q=>∃ v r,vs=v::r∧t v σ H fun σ' H'=>u r σ' H' Q
theorem pgs_nil:PGs X [] gNil:=by
 intro pins s σ H vs us Q I r h;obtain⟨e,h⟩:=h;subst e;cases r;exact assignInOrder_nil ⟨σ,H,I,h⟩
theorem pgs_cons{e:Expr}{es:List Expr}{t:TG}{u:TGs}(h1:PG X e t)(h2:PGs X es u)
  (hs:(assignEach (e::es) X.env).map (·.2)=assign e X.env::(assignEach es X.env).map (·.2):=by rfl):PGs X (e::es) (gCons t u):=by
 intro pins s σ H vs us Q I r h;obtain⟨v,vr,e1,h⟩:=h;subst e1
 cases r with
 | cons r rr =>
  rw[hs];refine assignInOrder_cons (thn (h1 pins s σ H _ _ _ I r h) fun _ s1 ⟨σ1,H1,I1,q1⟩=>?_);exact h2 pins s1 σ1 H1 _ _ Q I1 rr q1
def gTup(K:PySem.W.Frag)(n:Nat)(t:TGs):TG:=fun v σ H Q=>∃ a xs,v=.ref a∧SqT K H a xs∧xs.length=n∧t xs σ H Q
theorem pg_tup{es:List Expr}{k:Nat}{t:TGs}{n:Nat}(hc:X.calm=true)(h:PGs X es t)
  (hn:(assignEach es X.env).length=n:=by rfl) (hst:(assignEach es X.env).findIdx? (·.1)=none:=by rfl):PG X (.Tuple es k pos) (gTup X.K n t):=by
 intro pins s σ H v u Q I r hw;obtain⟨a,xs,e1,hq,hl,hw⟩:=hw;subst e1;cases r;obtain⟨its,rv,ht,hz⟩:=I.tuple hq;refine assign_Tuple_tuple (I.ok.hd hc) ht (by simp[hn,← hl,rv.length]) hst fun h' hx=>?_;have I1:Inv X pins σ H { s with heap:=h' }:=I.kept (t':=s.toks) fun b o e=>hx b o (Lc4 (Heap.lt_size e)) e
 exact h pins _ σ H xs _ Q I1 (by simpa using rv) hw
def tAsg(te:TE)(g:TG):TS:=fun D σ H=>te σ H fun x H1=>g x σ H1 D.nx
theorem ps_asg{tg e:Expr}{te:TE}{g:TG}(he:PE X e te)(hg:PG X tg g)(hs:swapsWithSole [tg] e pos.line X.env=pure false:=by rfl)(hw:swappedStores [tg] e X.env=pure none:=by rfl)
  (h1:(assignEach [tg] X.env).map (·.2)=[assign tg X.env]:=by rfl):PS X (.Assign [tg] e pos) (tAsg te g):=by
 intro pins s σ H D I h;refine wpAny_Assign_stores (thn (he pins s σ H _ I h) fun v s1 ⟨x,H1,I1,r1,q1⟩=>?_) hs hw;rw[h1];exact thn (hg pins s1 σ H1 x v _ I1 r1 q1) fun _ s2 q=>q
theorem ps_set{i:Nat}{x:Str}{e:Expr}{te:TE}{pos':Pos}(hN:X.N.Nodup)(hi:X.N[i]?=some x)(hx:Loc X.env.scope x)(he:PE X e te)(hs:swapsWith e (some (.Name x pos')) pos.line X.env=pure false:=by rfl)(hf:X.fn x=true∨X.env.scope.names.lookup x=some .local:=by first | exact .inl rfl | exact .inr rfl | assumption) :
  PS X (.Assign [.Name x pos'] e pos) (tAsg te (gName i)):=by
 intro pins s σ H D I h;refine wpAny_Assign_Name (thn (he pins s σ H _ I h) fun v s1 ⟨y,H1,I1,r1,q1⟩=>?_) hs;exact store_ok I1 hN hi hx r1 (fun s2 I2=>⟨_,H1,I2,q1⟩) hf
def tAug(i:Nat)(te:TE)(ti:TIp):TS:=fun D σ H=>∃ x,σ[i]?=some (some x)∧te σ H fun y H1=>ti x y H1 fun z H2=>D.nx (σ.set i (some z)) H2
theorem ps_aug{i:Nat}{x:Str}{e:Expr}{te:TE}{op:Operator}{ti:TIp}{pos':Pos}(hN:X.N.Nodup)(hi:X.N[i]?=some x)(hx:Loc X.env.scope x)(he:PE X e te)(ho:PIp X op ti)(hf:X.fn x=true∨X.env.scope.names.lookup x=some .local:=by first | exact .inl rfl | exact .inr rfl | assumption) :
  PS X (.AugAssign (.Name x pos') op e pos) (tAug i te ti):=by
 intro pins s σ H D I h;obtain⟨v,e1,h⟩:=h;obtain⟨m,hn,hl⟩:=I.loc;have vis:Vis X.env.scope x:=by rcases hx with k | k; exact .inl k; exact .inr (.inl k)
 obtain⟨u,r,l⟩:=hl i x v hi e1 vis;refine wpAny_AugAssign_Name ?_
 have go:wpAny (model X.prog X.w) X.A (eval e X.env) (fun w s₂=>wpAny (model X.prog X.w) X.A (inplaceOp op u w) (fun r s₃=>wpAny (model X.prog X.w) X.A (storeName X.env x r) (fun _=>SP X pins D .next) X.xe s₃) X.xe s₂) X.xe s:=by
  refine thn (he pins s σ H _ I h) fun w s1 hZr=>?_;obtain⟨y,H1,I1,r1,q1⟩:=hZr;refine thn (ho pins s1 σ H1 v y u w _ I1 r r1 q1) fun z s2 hZr=>?_;obtain⟨zv,H2,I2,r2,q2⟩:=hZr;exact store_ok I2 hN hi hx r2 (fun s3 I3=>⟨_,H2,I3,q2⟩) hf
 rcases l with ⟨hk,hm⟩ | ⟨hk,c,hc,hcell⟩
 ·exact wpAny_loadName_local I.ok.kind hk hn hm go
 ·rcases hk with hk | hk
  ·exact wpAny_loadName_cell I.ok.kind hk hc hcell go
  ·rcases hx with k | k
   ·have:X.env.scope.names.lookup x=some .free:=hk;rw[k] at this; cases this
   ·have:X.env.scope.names.lookup x=some .free:=hk;rw[k] at this; cases this
def ipI(f:Int→Int→Int):TIp:=fun x y H Q=>∃ i j,x=.int i∧y=.int j∧Q (.int (f i j)) H
theorem ip_add:PIp X .Add (ipI fun i j=>i+j):=by
 intro pins s σ H x y v u Q I r1 r2 h;obtain⟨i,j,e1,e2,q⟩:=h;subst e1; subst e2;obtain⟨t,rfl⟩:=r1;obtain⟨t',rfl⟩:=r2;exact iadd_int ⟨.int _,H,I.tok _,⟨_,rfl⟩,q⟩
def tWhile(c:TT)(tb:TS):TS:=fun D σ H=>∃ W:Nat→St→Hp→Prop,(∃ m,W m σ H)∧∀ m σ H,W m σ H →
 c σ H fun b H1=>if b=true then ∃ N:St→Hp→Prop,(∀ σ' H',N σ' H'→∃ m',m'<m∧W m' σ' H')∧tb { D with nx:=N,ct:=N,bk:=D.nx } σ H1 else D.nx σ H1
theorem ps_while{c:Expr}{body:List Stmt}{tc:TT}{tb:TS}(hp:PassesOwn (model X.prog X.w) X.A X.env X.xe)(hc:PT X c tc)(hb:PSs X body tb):PS X (.While c body [] pos) (tWhile tc tb):=by
 intro pins s σ H D I h;obtain⟨W,⟨m0,w0⟩,turn⟩:=h;refine wpAny_While (codeAny_whileLoop (fun n s'=>∃ σ' H',Inv X pins σ' H' s'∧W n σ' H') ?_ m0 ⟨σ,H,I,w0⟩);rintro n s1 ⟨σ1,H1,I1,w1⟩;refine wpAny_passesOwn hp (thn (hc pins s1 σ1 H1 _ I1 (turn n σ1 H1 w1)) fun b s2 ⟨H2,I2,q2⟩=>?_)
 cases b with
 | true =>
  obtain⟨N,hN,q2⟩:=q2;rw[if_pos rfl];refine wpAny_passesOwn hp (thn (hb pins s2 σ1 H2 _ I2 q2) fun f s3 q3=>?_)
  cases f with
  | next =>
   obtain⟨σ3,H3,I3,n3⟩:=q3;obtain⟨m',hm,w3⟩:=hN σ3 H3 n3
   exact⟨m',hm,σ3,H3,I3,w3⟩
  | cont =>
   obtain⟨σ3,H3,I3,n3⟩:=q3;obtain⟨m',hm,w3⟩:=hN σ3 H3 n3
   exact⟨m',hm,σ3,H3,I3,w3⟩
  | brk=>exact q3
  | ret v=>exact q3
 | false =>
  rw[if_neg Lb8];exact wpAny_execs_nil ⟨σ1,H2,I2,q2⟩
end
structure It where
 go:Nat→Hp→Prop
 yld:Nat→Hp→V→Hp→Prop
 stop:Nat→Hp→Prop
def FpOk(X:Cx)(pins:List (Addr×Obj))(H:Hp)(b:Addr):Prop :=
 H b=none∧b≠X.env.locals∧b∉X.fs∧(b∈X.ex∨X.s₀.heap.objs.size≤b)∧(∀ x c,X.env.cells.lookup x=some c→c≠b)∧∀ p∈X.pn++pins,p.1≠b
theorem Inv.fpOk{X:Cx}{pins:List (Addr×Obj)}{σ:St}{H H':Hp}{s:Shared}{b:Addr}(I:Inv X pins σ H s)(hb:s.heap.objs.size≤b)(hn:H' b=none):FpOk X pins H' b:=by
 refine⟨hn,Lj7 (Lb7 I.lt hb),I.nofs hb,.inr (Ld6 I.sz hb),fun x c e z=>?_,fun p hp z=>?_⟩
 ·obtain⟨v,q⟩:=I.cell x c e;exact absurd (Lb7 q.lt (by rw[z]; exact hb)) (Le6 _)
 ·exact absurd (Lb7 (Heap.lt_size (I.pin p hp).1) (by rw[z]; exact hb)) (Le6 _)
structure Turn(P:Program)(w:World)(K:PySem.W.Frag)(tg:Expr)(J:It)(fp:List Addr)(it:Addr)(tn:Nat→Heap→Prop):Prop where
 mem:it∈fp
 obj:∀ i h,tn i h→∀ b∈fp,∃ o,h.get? b=some o∧∀ v,o.data≠.cell v
 keep:∀ i h h',tn i h→(∀ b∈fp,∀ o,h.get? b=some o→h'.get? b=some o)→tn i h'
 item:∀ (X:Cx),X.prog=P→X.w=w→X.K=K→X.calm=true→∀ (i:Nat) (pins:List (Addr×Obj)) (s:Shared) (σ:St) (H:Hp) (E:Value→Shared→Prop),Inv X pins σ H s→(∀ b∈fp,FpOk X pins H b)→tn i s.heap→J.go i H →
  wpAny (model P w) X.A (pyNext (.ref it)) (fun r s1=>∃ u,r=some u ∧
   wpAny (model P w) X.A (letOwnedTupleGo tg (.ref it) u) (fun _ s2=>∃ x H',Inv X pins σ H' s2∧RelV x u∧J.yld i H x H'∧tn (i+1) s2.heap∧∀ b∈fp,H' b=none) E s1) E s
 done:∀ (X:Cx),X.prog=P→X.w=w→X.K=K→X.calm=true→∀ (i:Nat) (pins:List (Addr×Obj)) (s:Shared) (σ:St) (H:Hp) (E:Value→Shared→Prop),Inv X pins σ H s→(∀ b∈fp,FpOk X pins H b)→tn i s.heap→J.stop i H →
  wpAny (model P w) X.A (pyNext (.ref it)) (fun r s1=>r=none∧Inv X pins σ H s1) E s
 self:∀ (A:Around) (i:Nat) (s:Shared) (Q:Value→Shared→Prop) (E:Value→Shared→Prop),tn i s.heap→Q (.ref it) s→wpAny (model P w) A (pyIter (.ref it)) Q E s
abbrev TI:=St→Hp→(It→Hp→Prop)→Prop
def PIE(X:Cx)(pins:List (Addr×Obj))(σ:St)(tg:Expr)(R:It→Hp→Prop)(itv:Value)(s2:Shared):Prop :=
 ∃ (it:Addr) (fp:List Addr) (tn:Nat→Heap→Prop) (J:It) (H':Hp),itv=.ref it∧Inv X pins σ H' s2∧Turn X.prog X.w X.K tg J fp it tn∧tn 0 s2.heap∧(∀ b∈fp,FpOk X pins H' b)∧R J H'
def PI(X:Cx)(tg iter:Expr)(wi:TI):Prop :=
 ∀ (pins:List (Addr×Obj)) (s:Shared) (σ:St) (H:Hp) (R:It→Hp→Prop),Inv X pins σ H s→wi σ H R →
  wpAny (model X.prog X.w) X.A (eval iter X.env) (fun v s1=>wpAny (model X.prog X.w) X.A (pyIter v) (PIE X pins σ tg R) X.xe s1) X.xe s
theorem go_of{M:Model}{A:Around}{E:Value→Shared→Prop}{s:Shared}{tg:Expr}{it:Addr}{u:Value}{o:Obj}{n:String}{vs:Array Value}{Q:Unit→Shared→Prop}(ho:s.heap.get? it=some o)(hc:o.cls=.type n)(hd:o.data=.fields vs)
    (hn:["enumerate","zip","dict_itemiterator","dict_reverseitemiterator","odict_iterator","itertools.zip_longest","itertools.pairwise"].contains n=false) (hQ:Q () s):wpAny M A (letOwnedTupleGo tg (.ref it) u) Q E s:=by
  unfold letOwnedTupleGo
  cases tg <;> first
    | exact wpAny_pure hQ
    | (cases u <;> first
        | exact wpAny_pure hQ
        | (refine wpAny_bind (wpAny_load ho ?_)
           rw[hc,hd]
           show wpAny M A (if (["enumerate","zip","dict_itemiterator","dict_reverseitemiterator","odict_iterator","itertools.zip_longest","itertools.pairwise"].contains n && vs[0]? == some (rawInt _))=true then _ else _) Q E s
           rw[if_neg (by intro h; rw[hn,Bool.false_and] at h; cases h)]
           exact wpAny_pure hQ))
def Itl(K:PySem.W.Frag)(a:Addr):It :=
 ⟨fun i H=>∃ xs x,SqL K H a xs∧xs[i]?=some x,fun i H x H'=>H'=H∧∀ xs,SqL K H a xs→xs[i]?=some x,fun i H=>∃ xs,SqL K H a xs∧xs.length≤i⟩
def Itr(lo:Int)(n:Nat):It:=⟨fun i _=>i<n,fun i H x H'=>H'=H∧x=.int (lo+i),fun i _=>n≤i⟩
theorem turn_list{P:Program}{w:World}{K:PySem.W.Frag}{tg:Expr}(a it:Addr):Turn P w K tg (Itl K a) [it] it (fun i h=>h.IsListIter it a i) where
 mem:=by simp
 obj:=fun i h st b hb=>by
  have e:b=it:=by simpa using hb
  subst e;obtain⟨o,e,c,d⟩:=st;exact⟨o,e,fun v z=>by rw[d] at z; cases z⟩
 keep:=fun i h h' st k=>st.at fun o e=>k it (by simp) o e
 item:=by
  intro X hP hw hK hc i pins s σ H E I hf st hg;subst hP hw hK;obtain⟨xs,x,hq,hx⟩:=hg;obtain⟨its,rv,p,hz⟩:=I.list hq;obtain⟨u,hu,ru⟩:=rv.get hx;obtain⟨f0,f1,f2,f3,f4,f5⟩:=hf it (by simp);refine wpAny_pyNext_list_item st p.isList (x:=u) (by simpa using hu) fun h' st' sb=>?_;have I1:Inv X pins σ H { s with heap:=h' }:=I.turned (t':=s.toks) (fun b o hb e=>(sb.2 b hb).trans e) f0 f1 f3 f4 f5
  obtain⟨o,e,c,d⟩:=id st';exact⟨u,rfl,go_of (s:={ s with heap:=h' }) e c d (by decide) ⟨x,H,I1,ru,⟨rfl,fun ys hy=>by rw[I.list_inj hy hq]; exact hx⟩,st',fun b hb=>(hf b hb).1⟩⟩
 done:=by
  intro X hP hw hK hc i pins s σ H E I hf st hg;subst hP hw hK;obtain⟨xs,hq,hx⟩:=hg;obtain⟨its,rv,p,hz⟩:=I.list hq;obtain⟨f0,f1,f2,f3,f4,f5⟩:=hf it (by simp);have hl:=rv.length;exact wpAny_pyNext_list_end (I.ok.hd hc) st p.isList (by simp; omega) fun h' eb=>⟨rfl,I.turned (t':=s.toks) (fun b o hb e=>eb b o hb e) f0 f1 f3 f4 f5⟩
 self:=fun _ _ _ _ _ st h=>wpAny_pyIter_listiter st h
theorem turn_range{P:Program}{w:World}{K:PySem.W.Frag}{tg:Expr}(it:Addr)(lo:Int)(n:Nat):Turn P w K tg (Itr lo n) [it] it (fun i h=>IsRangeIter h it (lo+(i:Nat) * 1) ((n:Int) - (i:Nat)) 1) where
 mem:=by simp
 obj:=fun i h st b hb=>by
  have e:b=it:=by simpa using hb
  subst e
  exact⟨_,st,fun v z=>by
   have z':Data.fields _=Data.cell v:=z
   cases z'⟩
 keep:=fun i h h' st k=>k it (by simp) _ st
 item:=by
  intro X hP hw hK hc i pins s σ H E I hf st hg;subst hP hw hK;obtain⟨f0,f1,f2,f3,f4,f5⟩:=hf it (by simp);have W:=Walks.range (prog:=X.prog) (w:=X.w) (I.ok.hd hc) it lo 1 n;refine W.item i s _ _ hg st fun v h' tk hv st' kk=>?_;obtain⟨t,rfl⟩:=hv;have I1:Inv X pins σ H { s with heap:=h',toks:=tk }:=I.turned (fun b o hb e=>kk b o (by simpa using hb) e) f0 f1 f3 f4 f5
  refine⟨_,rfl,go_of (s:={ s with heap:=h',toks:=tk }) (n:="range_iterator") st' rfl rfl (by decide) ⟨.int (lo+i),H,I1,⟨t,?_⟩,⟨rfl,rfl⟩,st',fun b hb=>(hf b hb).1⟩⟩
  rw[Int.mul_one]
 done:=by
  intro X hP hw hK hc i pins s σ H E I hf st hg;subst hP hw hK;obtain⟨f0,f1,f2,f3,f4,f5⟩:=hf it (by simp);exact wpAny_pyNext_range_end (I.ok.hd hc) st (by have:n≤i:=hg; omega) fun h' eb=>⟨rfl,I.turned (t':=s.toks) (fun b o hb e=>eb b o hb e) f0 f1 f3 f4 f5⟩
 self:=fun _ _ _ _ _ st h=>wpAny_pyIter_rangeiter st h
section
variable {X:Cx} {tg:Expr}
inductive ListI(K:PySem.W.Frag)(R:It→Hp→Prop)(x:V)(H1:Hp):Prop
 | mk (a:Addr) (e:x=.ref a) (h:∃ xs,SqL K H1 a xs) (q:R (Itl K a) H1):ListI K R x H1
def iList(K:PySem.W.Frag)(tl:TE):TI:=fun σ H R=>tl σ H (ListI K R)
theorem pi_list{l:Expr}{tl:TE}(hl:PE X l tl):PI X tg l (iList X.K tl):=by
 intro pins s σ H R I h;refine thn (hl pins s σ H _ I h) fun v s1 hZr=>?_;obtain⟨x,H1,I1,r1,q1⟩:=hZr;obtain⟨a,e,⟨xs,hq⟩,q⟩:=q1;subst e;cases r1;obtain⟨its,rv,p,hz⟩:=I1.list hq;refine wpAny_pyIter_list p.isList ?_;refine⟨s1.heap.objs.size,[s1.heap.objs.size],_,_,H1,rfl,I1.kept (t':=s1.toks) fun b o e=>Heap.get?_push_of_some _ e,turn_list a _,⟨_,Heap.get?_push_size _ rfl,rfl,rfl⟩,fun b hb=>?_,q⟩;have e:b=s1.heap.objs.size:=by simpa using hb
 subst e;exact I1.fpOk (La4 _) (I1.hok.fresh (La4 _))
theorem range_it{pins:List (Addr×Obj)}{σ:St}{H:Hp}{s:Shared}{R:It→Hp→Prop}{E:Value→Shared→Prop}{lo hi:Int}{t u v:Tok}{tk:Nat}(I:Inv X pins σ H s)(h1:-(2 ^ 62)≤lo)(h2:lo<2 ^ 62)(h3:-(2 ^ 62)≤hi)(h4:hi<2 ^ 62)
  (q:R (Itr lo (hi - lo).toNat) H):wpAny (model X.prog X.w) X.A (pyIter (.ref s.heap.objs.size)) (PIE X pins σ tg R) E { s with heap:=s.heap.push { cls:=.type "range",data:=.fields #[.int lo t,.int hi u,.int 1 v] },toks:=tk }:=by
 refine wpAny_pyIter_range (IsRange.new ..) (small_one h1 h2 h3 h4) ?_;have I1:Inv X pins σ H { s with heap:=s.heap.push { cls:=.type "range",data:=.fields #[.int lo t,.int hi u,.int 1 v] },toks:=tk }:=I.kept fun b o e=>Heap.get?_push_of_some _ e
 refine⟨(s.heap.push { cls:=.type "range",data:=.fields #[.int lo t,.int hi u,.int 1 v] }).objs.size,[(s.heap.push { cls:=.type "range",data:=.fields #[.int lo t,.int hi u,.int 1 v] }).objs.size],_,_,H,rfl,
  I1.kept (t':=tk) fun b o e=>Heap.get?_push_of_some _ e,turn_range _ lo (hi - lo).toNat,?_,fun b hb=>?_,q⟩
 ·have e1:lo+((0:Nat):Int) * 1=lo:=by simp
  have e2:(((hi - lo).toNat:Nat):Int) - ((0:Nat):Int)=Builtin.Range.rangeSize lo hi 1:=by rw[rangeSize_one]; split <;> omega
  show IsRangeIter _ _ (lo+((0:Nat):Int) * 1) ((((hi - lo).toNat:Nat):Int) - ((0:Nat):Int)) 1
  rw[e1,e2];exact Heap.get?_push_size _ rfl
 ·have e:b=(s.heap.push { cls:=.type "range",data:=.fields #[.int lo t,.int hi u,.int 1 v] }).objs.size:=by simpa using hb
  subst e;exact I1.fpOk (La4 _) (I1.hok.fresh (La4 _))
inductive Rng1I(R:It→Hp→Prop)(vs:List V)(H1:Hp):Prop
 | mk (j:Int) (e:vs=[.int j]) (h1:-(2 ^ 62)≤j) (h2:j<2 ^ 62) (q:R (Itr 0 j.toNat) H1):Rng1I R vs H1
def iRng1(ta:TA):TI:=fun σ H R=>ta σ H (Rng1I R)
def iRng2(ta:TA):TI:=fun σ H R=>ta σ H fun vs H1=>∃ i j:Int,vs=[.int i,.int j]∧(-(2 ^ 62)≤i∧i<2 ^ 62∧-(2 ^ 62)≤j∧j<2 ^ 62)∧R (Itr i (j - i).toNat) H1
theorem pi_range1{a:Expr}{ta:TA}{p pos:Pos}(hg:Gl X "range")(hm:X.mg "range"=none)(ha:PA X [a] ta)(hs:starEach [a] X.env=[(false,eval a X.env)]:=by rfl):PI X tg (.Call (.Name "range" p) [a] [] pos) (iRng1 ta):=by
 intro pins s σ H R I h;refine Call_ (ld_blt I hg hm boot_range (PyProof.Rows.callWith_type1 (thn (ha pos pins s σ H _ I h) fun us s1 ⟨vs,H1,I1,r1,q1⟩=>?_) hs rfl));obtain⟨j,e,q1,q2,q⟩:=q1;subst e
 cases r1 with
 | cons r rr =>
  cases rr;obtain⟨t,rfl⟩:=r;exact call_range_1 (range_it I1 (by omega) (by omega) q1 q2 (by simpa using q))
theorem pi_range2{a b:Expr}{ta:TA}{p pos:Pos}(hg:Gl X "range")(hm:X.mg "range"=none)(ha:PA X [a,b] ta)(hs:starEach [a,b] X.env=[(false,eval a X.env),(false,eval b X.env)]:=by rfl)(hs2:starEach [b] X.env=[(false,eval b X.env)]:=by rfl) :
  PI X tg (.Call (.Name "range" p) [a,b] [] pos) (iRng2 ta):=by
 intro pins s σ H R I h;refine Call_ (ld_blt I hg hm boot_range (PyProof.Rows.callWith_type1 (thn (ha pos pins s σ H _ I h) fun us s1 ⟨vs,H1,I1,r1,q1⟩=>?_) (by rw[hs,hs2]) (by rw[hs2]; rfl)));obtain⟨i,j,e,⟨q1,q2,q3,q4⟩,q⟩:=q1;subst e
 cases r1 with
 | cons r rr =>
  cases rr with
  | cons r' rr =>
   cases rr;obtain⟨t,rfl⟩:=r;obtain⟨t',rfl⟩:=r';exact call_range_2 (range_it I1 q1 q2 q3 q4 q)
def tFor(wi:TI)(g:TG)(tb:TS):TS:=fun D σ H=>wi σ H fun J H1=>∃ W:Nat→Nat→St→Hp→Prop,(∃ m,W 0 m σ H1)∧∀ i m σ H,W i m σ H →
 (J.stop i H∧D.nx σ H)∨(J.go i H∧∃ N:St→Hp→Prop,(∀ σ' H',N σ' H'→∃ m',m'<m∧W (i+1) m' σ' H')∧∀ x H',J.yld i H x H'→g x σ H' fun σ2 H2=>tb { D with nx:=N,ct:=N,bk:=D.nx } σ2 H2)
def pinsAt(fp:List Addr)(h:Heap):List (Addr×Obj):=fp.filterMap fun b=>(h.get? b).map fun o=>(b,o)
theorem mem_pinsAt{fp:List Addr}{h:Heap}{b:Addr}{o:Obj}(hb:b∈fp)(e:h.get? b=some o):(b,o)∈pinsAt fp h:=Lj9.mpr ⟨b,hb,by rw[e]; rfl⟩
theorem of_pinsAt{fp:List Addr}{h:Heap}{p:Addr×Obj}(hp:p∈pinsAt fp h):p.1∈fp∧h.get? p.1=some p.2:=by
 obtain⟨b,hb,e⟩:=Lj9.mp hp
 cases q:h.get? b with
 | none=>rw[q] at e; cases e
 | some o =>
  rw[q] at e;have e':(b,o)=p:=Option.some.inj e;subst e';exact⟨hb,q⟩
theorem Inv.pinned{pins:List (Addr×Obj)}{σ:St}{H:Hp}{s:Shared}{fp:List Addr}(I:Inv X pins σ H s)(hf:∀ b∈fp,FpOk X pins H b)(ho:∀ b∈fp,∃ o,s.heap.get? b=some o∧∀ v,o.data≠.cell v):Inv X (pins++pinsAt fp s.heap) σ H s :=
 I.pins_of fun p hp=>(Lb9.mp hp).elim (fun z=>I.pin p (Ld2 _ z)) fun z=>by
  obtain⟨hb,e⟩:=of_pinsAt z;obtain⟨f0,f1,f2,_⟩:=hf p.1 hb;obtain⟨o,e',d⟩:=ho p.1 hb;rw[e] at e'; cases e';exact⟨e,f0,f1,f2,d⟩
theorem Inv.unpinned{pins pl:List (Addr×Obj)}{σ:St}{H:Hp}{s:Shared}(I:Inv X (pins++pl) σ H s):Inv X pins σ H s:=I.pins_of fun p hp=>I.pin p (Ld2 _ (Le3 _ hp))
theorem ps_for{iter:Expr}{body:List Stmt}{wi:TI}{g:TG}{tb:TS}{pos:Pos}(hp:PassesOwn (model X.prog X.w) X.A X.env X.xe)(hc:X.calm=true)(hi:PI X tg iter wi)(hg:PG X tg g)(hb:PSs X body tb)
  (hs:∀ x,foldedSetIterable iter X.env x=pure x:=by intro _; rfl):PS X (.For tg iter body [] pos) (tFor wi g tb):=by
 intro pins s σ H D I h;refine wpAny_For (thn (hi pins s σ H _ I h) fun v s1 h1=>thn h1 fun itv s2 h2=>?_) hs;obtain⟨it,fp,tn,J,H2,e,I2,T,st2,f2,W,⟨m0,w0⟩,turn⟩:=h2;subst e;have stat:∀ {H':Hp},(∀ b∈fp,H' b=none)→∀ b∈fp,FpOk X pins H' b:=fun hn b hb=>⟨hn b hb,(f2 b hb).2⟩;refine codeAny_forLoop_any (fun n s'=>∃ i σ' H',Inv X pins σ' H' s'∧tn i s'.heap∧(∀ b∈fp,H' b=none)∧W i n σ' H') ?_ m0 ⟨0,σ,H2,I2,st2,fun b hb=>(f2 b hb).1,w0⟩;rintro n s3 ⟨i,σ3,H3,I3,st3,fr3,w3⟩
 rcases turn i n σ3 H3 w3 with ⟨stop,qn⟩ | ⟨go,N,hN,step⟩
 ·refine wpAny_passesOwn hp (thn (T.done X rfl rfl rfl hc i pins s3 σ3 H3 X.xe I3 (stat fr3) st3 stop) fun r s4 ⟨hr,I4⟩=>?_);subst hr;exact wpAny_execs_nil ⟨σ3,H3,I4,qn⟩
 ·refine wpAny_passesOwn hp (thn (T.item X rfl rfl rfl hc i pins s3 σ3 H3 X.xe I3 (stat fr3) st3 go) fun r s4 ⟨u,hr,h4⟩=>?_);subst hr;refine wpAny_passesOwn hp (thn h4 fun _ s5 hZr=>?_);obtain⟨x,H5,I5,r5,y5,st5,fr5⟩:=hZr;have I5':=I5.pinned (stat fr5) (T.obj _ _ st5);refine wpAny_passesOwn hp (thn (hg _ s5 σ3 H5 x u _ I5' r5 (step x H5 y5)) fun _ s6 ⟨σ6,H6,I6,q6⟩=>?_);refine wpAny_passesOwn hp (thn (hb _ s6 σ6 H6 _ I6 q6) fun f s7 q7=>?_)
  have again:∀ {σ7:St} {H7:Hp},Inv X (pins++pinsAt fp s5.heap) σ7 H7 s7→N σ7 H7→∃ m,m<n∧∃ i σ' H',Inv X pins σ' H' s7∧tn i s7.heap∧(∀ b∈fp,H' b=none)∧W i m σ' H':=fun {σ7 H7} I7 n7=>by
   obtain⟨m',hm,w7⟩:=hN σ7 H7 n7;refine⟨m',hm,i+1,σ7,H7,I7.unpinned,T.keep _ _ _ st5 fun b hb o e=>(I7.pin (b,o) (Ld2 _ (Ld2 _ (mem_pinsAt hb e)))).1,fun b hb=>?_,w7⟩;obtain⟨o,e,d⟩:=T.obj _ _ st5 b hb;exact (I7.pin (b,o) (Ld2 _ (Ld2 _ (mem_pinsAt hb e)))).2.1
  cases f with
  | next=>obtain⟨σ7,H7,I7,n7⟩:=q7; exact again I7 n7
  | cont=>obtain⟨σ7,H7,I7,n7⟩:=q7; exact again I7 n7
  | brk=>obtain⟨σ7,H7,I7,q7⟩:=q7; exact⟨σ7,H7,I7.unpinned,q7⟩
  | ret v=>obtain⟨x7,σ7,H7,I7,r7,q7⟩:=q7; exact⟨x7,σ7,H7,I7.unpinned,r7,q7⟩
end
theorem for_list{K:PySem.W.Frag}{a:Addr}{xs:List V}{g:TG}{tb:TS}{D:Ends}{σ:St}{H:Hp}(Pv:Nat→St→Hp→Prop)(h0:Pv 0 σ H)(hl:∀ i σ H,i≤xs.length→Pv i σ H→SqL K H a xs)
  (hs:∀ i x σ H,xs[i]?=some x→Pv i σ H→g x σ H fun σ2 H2=>tb { D with nx:=Pv (i+1),ct:=Pv (i+1),bk:=D.nx } σ2 H2) (hd:∀ σ H,Pv xs.length σ H→D.nx σ H) :
  ∃ W:Nat→Nat→St→Hp→Prop,(∃ m,W 0 m σ H)∧∀ i m σ H,W i m σ H →
   ((Itl K a).stop i H∧D.nx σ H)∨((Itl K a).go i H∧∃ N:St→Hp→Prop,(∀ σ' H',N σ' H'→∃ m',m'<m∧W (i+1) m' σ' H')∧∀ x H',(Itl K a).yld i H x H'→g x σ H' fun σ2 H2=>tb { D with nx:=N,ct:=N,bk:=D.nx } σ2 H2):=by
 refine⟨fun i m σ H=>m=xs.length - i∧i≤xs.length∧Pv i σ H,⟨xs.length,by simp,Lb1 _,h0⟩,?_⟩;rintro i m σ H ⟨rfl,hi,p⟩;have q:=hl i σ H hi p
 by_cases hlt:i<xs.length
 ·refine .inr ⟨⟨xs,xs[i],q,by simp[hlt]⟩,Pv (i+1),fun σ' H' p'=>⟨xs.length - (i+1),by omega,rfl,hlt,p'⟩,fun x H' y=>?_⟩;obtain⟨e,y⟩:=y;subst e;exact hs i x σ _ (y xs q) p
 ·have e:i=xs.length:=by omega
  subst e;exact .inl ⟨⟨xs,q,La4 _⟩,hd σ H p⟩
theorem for_range{lo:Int}{n:Nat}{g:TG}{tb:TS}{D:Ends}{σ:St}{H:Hp}(Pv:Nat→St→Hp→Prop)(h0:Pv 0 σ H)
  (hs:∀ i σ H,i<n→Pv i σ H→g (.int (lo+i)) σ H fun σ2 H2=>tb { D with nx:=Pv (i+1),ct:=Pv (i+1),bk:=D.nx } σ2 H2) (hd:∀ σ H,Pv n σ H→D.nx σ H) :
  ∃ W:Nat→Nat→St→Hp→Prop,(∃ m,W 0 m σ H)∧∀ i m σ H,W i m σ H →
   ((Itr lo n).stop i H∧D.nx σ H)∨((Itr lo n).go i H∧∃ N:St→Hp→Prop,(∀ σ' H',N σ' H'→∃ m',m'<m∧W (i+1) m' σ' H')∧∀ x H',(Itr lo n).yld i H x H'→g x σ H' fun σ2 H2=>tb { D with nx:=N,ct:=N,bk:=D.nx } σ2 H2):=by
 refine⟨fun i m σ H=>m=n - i∧i≤n∧Pv i σ H,⟨n,by simp,Lb1 _,h0⟩,?_⟩;rintro i m σ H ⟨rfl,hi,p⟩
 by_cases hlt:i<n
 ·refine .inr ⟨hlt,Pv (i+1),fun σ' H' p'=>⟨n - (i+1),by omega,rfl,hlt,p'⟩,fun x H' y=>?_⟩;obtain⟨e,y⟩:=y;subst e y;exact hs i σ _ hlt p
 ·have e:i=n:=by omega
  subst e;exact .inl ⟨La4 _,hd σ H p⟩
theorem while_by{c:TT}{tb:TS}{D:Ends}{σ:St}{H:Hp}(Pv:St→Hp→Prop)(μ:St→Hp→Nat)(h0:Pv σ H)
  (hs:∀ σ H,Pv σ H→c σ H fun b H1=>if b=true then tb { D with nx:=fun σ' H'=>Pv σ' H'∧μ σ' H'<μ σ H,ct:=fun σ' H'=>Pv σ' H'∧μ σ' H'<μ σ H,bk:=D.nx } σ H1 else D.nx σ H1)
  (mono:∀ σ H Q Q',(∀ b H1,Q b H1→Q' b H1)→c σ H Q→c σ H Q'):tWhile c tb D σ H:=by
 refine⟨fun m σ H=>m=μ σ H∧Pv σ H,⟨_,rfl,h0⟩,?_⟩;rintro m σ H ⟨rfl,p⟩;refine mono σ H _ _ (fun b H1 q=>?_) (hs σ H p)
 cases b with
 | true=>exact⟨_,fun σ' H' ⟨p',l⟩=>⟨_,l,rfl,p'⟩,q⟩
 | false=>exact q
abbrev R2:=V→V→Hp→VK→Prop
def OpR(X:Cx)(f:Value→Value→Sem Value)(r:R2):Prop :=
 ∀ (pins:List (Addr×Obj)) (s:Shared) (σ:St) (H:Hp) (x y:V) (v u:Value) (Q:VK),Inv X pins σ H s→RelV x v→RelV y u→r x y H Q →
  wpAny (model X.prog X.w) X.A (f v u) (EP X pins σ Q) X.xe s
def UnR(X:Cx)(f:Value→Sem Value)(r:V→Hp→VK→Prop):Prop :=
 ∀ (pins:List (Addr×Obj)) (s:Shared) (σ:St) (H:Hp) (x:V) (v:Value) (Q:VK),Inv X pins σ H s→RelV x v→r x H Q →
  wpAny (model X.prog X.w) X.A (f v) (EP X pins σ Q) X.xe s
def CallR(X:Cx)(f:Value)(r:List V→Hp→VK→Prop):Prop :=
 ∀ (pins:List (Addr×Obj)) (s:Shared) (σ:St) (H:Hp) (xs:List V) (us:List Value) (Q:VK),Inv X pins σ H s→Vals xs us→r xs H Q →
  wpAny (model X.prog X.w) X.A (call f us) (EP X pins σ Q) X.xe s
def TruR(X:Cx)(r:V→Hp→(Bool→Hp→Prop)→Prop):Prop :=
 ∀ (pins:List (Addr×Obj)) (s:Shared) (σ:St) (H:Hp) (x:V) (v:Value) (Q:Bool→Hp→Prop),Inv X pins σ H s→RelV x v→r x H Q →
  wpAny (model X.prog X.w) X.A (truthy v) (TP X pins σ Q) X.xe s
def tOp(r:R2)(ta tb:TE):TE:=fun σ H Q=>ta σ H fun x H1=>tb σ H1 fun y H2=>r x y H2 Q
def tUn(r:V→Hp→VK→Prop)(ta:TE):TE:=fun σ H Q=>ta σ H fun x H1=>r x H1 Q
def rI(C:Int→Int→Prop)(g:Int→Int→V):R2:=fun x y H Q=>∃ i j,x=.int i∧y=.int j∧C i j∧Q (g i j) H
def rI0(g:Int→Int→V):R2:=fun x y H Q=>∃ i j,x=.int i∧y=.int j∧Q (g i j) H
def rU(g:Int→V):V→Hp→VK→Prop:=fun x H Q=>∃ i,x=.int i∧Q (g i) H
section
variable {X:Cx} {a b c:Expr} {ta tb tc:TE} {pos:Pos}
theorem binT(ha:PE X a ta)(hb:PE X b tb){pins:List (Addr×Obj)}{s:Shared}{σ:St}{H:Hp}{R:V→V→Hp→Prop}(I:Inv X pins σ H s)
  (h:ta σ H fun x H1=>tb σ H1 fun y H2=>R x y H2) {Q:Value→Shared→Prop} {f:Value→Value→Sem Value}
  (hf:∀ v u s2 x y H2,Inv X pins σ H2 s2→RelV x v→RelV y u→R x y H2→wpAny (model X.prog X.w) X.A (f v u) Q X.xe s2) :
  wpAny (model X.prog X.w) X.A (eval a X.env) (fun v s₁=>wpAny (model X.prog X.w) X.A (eval b X.env) (fun u s₂=>wpAny (model X.prog X.w) X.A (f v u) Q X.xe s₂) X.xe s₁) X.xe s:=by
 refine thn (ha pins s σ H _ I h) fun v s1 hZr=>?_;obtain⟨x,H1,I1,r1,q1⟩:=hZr;refine thn (hb pins s1 σ H1 _ I1 q1) fun u s2 hZr=>?_;obtain⟨y,H2,I2,r2,q2⟩:=hZr;exact hf v u s2 x y H2 I2 r1 r2 q2
theorem pe_op{op:Operator}{r:R2}(ho:OpR X (binaryOp op) r)(ha:PE X a ta)(hb:PE X b tb):PE X (.BinOp a op b pos) (tOp r ta tb):=by
 intro pins s σ H Q I h;exact wpAny_BinOp (binT ha hb I h fun v u s2 x y H2 I2 rx ry q=>ho pins s2 σ H2 x y v u Q I2 rx ry q)
theorem pe_un{op:UnaryOp}{r:V→Hp→VK→Prop}(ho:UnR X (unaryOp op) r)(ha:PE X a ta):PE X (.UnaryOp op a pos) (tUn r ta):=by
 intro pins s σ H Q I h;exact UnaryOp_ (thn (ha pins s σ H _ I h) fun v s1 ⟨x,H1,I1,r1,q1⟩=>ho pins s1 σ H1 x v Q I1 r1 q1)
theorem opI{f:Value→Value→Sem Value}{C:Int→Int→Prop}{g:Int→Int→Int}
  (rule:∀ (i j:Int) (t u:Tok) (s:Shared) (Q:Value→Shared→Prop) (E:Value→Shared→Prop),C i j→Q (.int (g i j) s.toks) { s with toks:=s.toks+1 }→wpAny (model X.prog X.w) X.A (f (.int i t) (.int j u)) Q E s) :
  OpR X f (rI C fun i j=>.int (g i j)):=by
 intro pins s σ H x y v u Q I rx ry h;obtain⟨i,j,rfl,rfl,hc,q⟩:=h;obtain⟨t,rfl⟩:=rx;obtain⟨t',rfl⟩:=ry;exact rule i j t t' s _ _ hc ⟨.int (g i j),H,I.tok _,⟨_,rfl⟩,q⟩
theorem opI0{f:Value→Value→Sem Value}{g:Int→Int→Int}
  (rule:∀ (i j:Int) (t u:Tok) (s:Shared) (Q:Value→Shared→Prop) (E:Value→Shared→Prop),Q (.int (g i j) s.toks) { s with toks:=s.toks+1 }→wpAny (model X.prog X.w) X.A (f (.int i t) (.int j u)) Q E s) :
  OpR X f (rI0 fun i j=>.int (g i j)):=by
 intro pins s σ H x y v u Q I rx ry h;obtain⟨i,j,rfl,rfl,q⟩:=h;obtain⟨t,rfl⟩:=rx;obtain⟨t',rfl⟩:=ry;exact rule i j t t' s _ _ ⟨.int (g i j),H,I.tok _,⟨_,rfl⟩,q⟩
theorem opB0{f:Value→Value→Sem Value}{g:Int→Int→Bool}
  (rule:∀ (i j:Int) (t u:Tok) (s:Shared) (Q:Value→Shared→Prop) (E:Value→Shared→Prop),Q (.bool (g i j)) s→wpAny (model X.prog X.w) X.A (f (.int i t) (.int j u)) Q E s) :
  OpR X f (rI0 fun i j=>.bl (g i j)):=by
 intro pins s σ H x y v u Q I rx ry h;obtain⟨i,j,rfl,rfl,q⟩:=h;obtain⟨t,rfl⟩:=rx;obtain⟨t',rfl⟩:=ry;exact rule i j t t' s _ _ ⟨.bl (g i j),H,I,rfl,q⟩
def CDiv(i j:Int):Prop:=0<j∧j<1073741824
def CPow(i j:Int):Prop:=0≤j∧j≤1000000∧i.natAbs<2 ^ 64
theorem op_add:OpR X (binaryOp .Add) (rI0 fun i j=>.int (i+j)):=opI0 fun _ _ _ _ _ _ _ q=>add_int q
theorem op_sub:OpR X (binaryOp .Sub) (rI0 fun i j=>.int (i - j)):=opI0 fun _ _ _ _ _ _ _ q=>sub_int q
theorem op_fdiv:OpR X (binaryOp .FloorDiv) (rI CDiv fun i j=>.int (i / j)):=opI fun i j _ _ _ _ _ hc q=>by
 have h1:(0:Int)<j:=hc.1;have h2:j<1073741824:=hc.2;exact floordiv_int (by omega) (by rw[Int.fdiv_eq_ediv_of_nonneg i (by omega)]; exact q) (.inl (PyProof.noPylong_small (by omega)))
theorem op_mod:OpR X (binaryOp .Mod) (rI (fun _ j=>0<j) fun i j=>.int (i % j)):=opI fun i j _ _ _ _ _ hc q=>by
 have h1:(0:Int)<j:=hc;exact mod_int' (by omega) (by rw[Int.fmod_eq_emod_of_nonneg i (by omega)]; exact q)
theorem op_pow:OpR X (binaryOp .Pow) (rI CPow fun i j=>.int (i ^ j.toNat)):=opI fun _ _ _ _ _ _ _ hc q=>pow_int_small hc.1 hc.2.1 hc.2.2 q
theorem unI{f:Value→Sem Value}{g:Int→Int}
  (rule:∀ (i:Int) (t:Tok) (s:Shared) (Q:Value→Shared→Prop) (E:Value→Shared→Prop),Q (.int (g i) s.toks) { s with toks:=s.toks+1 }→wpAny (model X.prog X.w) X.A (f (.int i t)) Q E s) :
  UnR X f (rU fun i=>.int (g i)):=by
 intro pins s σ H x v Q I rx h;obtain⟨i,rfl,q⟩:=h;obtain⟨t,rfl⟩:=rx;exact rule i t s _ _ ⟨.int (g i),H,I.tok _,⟨_,rfl⟩,q⟩
theorem un_neg:UnR X (unaryOp .USub) (rU fun i=>.int (-i)):=unI fun _ _ _ _ _ q=>neg_int q
end
def scal:V→V→Bool
 | .non,.non=>true | .non,.int _=>true | .int _,.non=>true | .non,.bl _=>true | .bl _,.non=>true | .non,.str _=>true | .str _,.non=>true
 | .int _,.int _=>true | .bl _,.bl _=>true | .str _,.str _=>true | .byt _,.byt _=>true
 | .int _,.str _=>true | .str _,.int _=>true | .bl _,.str _=>true | .str _,.bl _=>true
 | _,_=>false
def rEq:R2:=fun x y H Q=>scal x y=true∧Q (.bl (decide (x=y))) H
def rNe:R2:=fun x y H Q=>scal x y=true∧Q (.bl (!decide (x=y))) H
theorem dec_int{i j:Int}:decide (V.int i=V.int j)=(i == j):=by
 rw[Li6];simp
theorem dec_bl{i j:Bool}:decide (V.bl i=V.bl j)=(i == j):=by
 rw[Li6];simp
theorem dec_str{i j:Str}:decide (V.str i=V.str j)=(i == j):=by
 rw[Li6];simp
theorem dec_byt{i j:Array UInt8}:decide (V.byt i=V.byt j)=(i.toList == j.toList):=by
 rw[Li6];cases i;cases j;simp
section
variable {X:Cx} {a b c:Expr} {ta tb tc:TE} {pos:Pos}
theorem fin_bl{pins:List (Addr×Obj)}{σ:St}{H:Hp}{s:Shared}{Q:VK}{k k':Bool}(I:Inv X pins σ H s)(q:Q (.bl k) H)(e:k=k'):EP X pins σ Q (.bool k') s:=by
 subst e;exact⟨.bl k,H,I,rfl,q⟩
theorem op_eq:OpR X (compareOp .Eq) rEq:=by
 intro pins s σ H x y v u Q I rx ry h;obtain⟨hs,q⟩:=h
 cases x with
 | non =>
  cases rx
  cases y with
  | non=>cases ry; exact PySem.EqNone.eq_none_none (fin_bl I q (by simp))
  | bl j=>cases ry; exact PySem.EqNone.eq_none_bool (fin_bl I q (by simp))
  | int j=>obtain⟨t',rfl⟩:=ry; exact PySem.EqNone.eq_none_int (fin_bl I q (by simp))
  | str j=>obtain⟨t',rfl⟩:=ry; exact PySem.EqNone.eq_none_str (fin_bl I q (by simp))
  | _=>exact absurd (show false=true from hs) Lb8
 | bl i =>
  cases rx
  cases y with
  | non=>cases ry; exact PySem.EqNone.eq_bool_none (fin_bl I q (by simp))
  | bl j=>cases ry; exact eq_bool (fin_bl I q dec_bl)
  | str j=>obtain⟨t',rfl⟩:=ry; exact PySem.EqMixed.eq_bool_str (fin_bl I q (by simp))
  | _=>exact absurd (show false=true from hs) Lb8
 | int i =>
  obtain⟨t,rfl⟩:=rx
  cases y with
  | non=>cases ry; exact PySem.EqNone.eq_int_none (fin_bl I q (by simp))
  | int j=>obtain⟨t',rfl⟩:=ry; exact eq_int (fin_bl I q dec_int)
  | str j=>obtain⟨t',rfl⟩:=ry; exact PySem.EqMixed.eq_int_str (fin_bl I q (by simp))
  | _=>exact absurd (show false=true from hs) Lb8
 | str i =>
  obtain⟨t,rfl⟩:=rx
  cases y with
  | non=>cases ry; exact PySem.EqNone.eq_str_none (fin_bl I q (by simp))
  | bl j=>cases ry; exact PySem.EqMixed.eq_str_bool (fin_bl I q (by simp))
  | int j=>obtain⟨t',rfl⟩:=ry; exact PySem.EqMixed.eq_str_int (fin_bl I q (by simp))
  | str j=>obtain⟨t',rfl⟩:=ry; exact eq_str (fin_bl I q dec_str)
  | _=>exact absurd (show false=true from hs) Lb8
 | byt i =>
  obtain⟨t,rfl⟩:=rx
  cases y with
  | byt j=>obtain⟨t',rfl⟩:=ry; exact PySem.W.eq_bytes (fin_bl I q dec_byt)
  | _=>exact absurd (show false=true from hs) Lb8
 | _=>cases y <;> exact absurd (show false=true from hs) Lb8
theorem op_ne:OpR X (compareOp .NotEq) rNe:=by
 intro pins s σ H x y v u Q I rx ry h;obtain⟨hs,q⟩:=h
 cases x with
 | non =>
  cases rx
  cases y with
  | non=>cases ry; exact PySem.EqNone.ne_none_none (fin_bl I q (by simp))
  | bl j=>cases ry; exact PySem.EqNone.ne_none_bool (fin_bl I q (by simp))
  | int j=>obtain⟨t',rfl⟩:=ry; exact PySem.EqNone.ne_none_int (fin_bl I q (by simp))
  | str j=>obtain⟨t',rfl⟩:=ry; exact PySem.EqNone.ne_none_str (fin_bl I q (by simp))
  | _=>exact absurd (show false=true from hs) Lb8
 | bl i =>
  cases rx
  cases y with
  | non=>cases ry; exact PySem.EqNone.ne_bool_none (fin_bl I q (by simp))
  | bl j=>cases ry; exact ne_bool (fin_bl I q (congrArg not dec_bl))
  | str j=>obtain⟨t',rfl⟩:=ry; exact PySem.EqMixed.ne_bool_str (fin_bl I q (by simp))
  | _=>exact absurd (show false=true from hs) Lb8
 | int i =>
  obtain⟨t,rfl⟩:=rx
  cases y with
  | non=>cases ry; exact PySem.EqNone.ne_int_none (fin_bl I q (by simp))
  | int j=>obtain⟨t',rfl⟩:=ry; exact ne_int (fin_bl I q (congrArg not dec_int))
  | str j=>obtain⟨t',rfl⟩:=ry; exact PySem.EqMixed.ne_int_str (fin_bl I q (by simp))
  | _=>exact absurd (show false=true from hs) Lb8
 | str i =>
  obtain⟨t,rfl⟩:=rx
  cases y with
  | non=>cases ry; exact PySem.EqNone.ne_str_none (fin_bl I q (by simp))
  | bl j=>cases ry; exact PySem.EqMixed.ne_str_bool (fin_bl I q (by simp))
  | int j=>obtain⟨t',rfl⟩:=ry; exact PySem.EqMixed.ne_str_int (fin_bl I q (by simp))
  | str j=>obtain⟨t',rfl⟩:=ry; exact ne_str (fin_bl I q (congrArg not dec_str))
  | _=>exact absurd (show false=true from hs) Lb8
 | byt i =>
  obtain⟨t,rfl⟩:=rx
  cases y with
  | byt j=>obtain⟨t',rfl⟩:=ry; exact PySem.W.ne_bytes (fin_bl I q (congrArg not dec_byt))
  | _=>exact absurd (show false=true from hs) Lb8
 | _=>cases y <;> exact absurd (show false=true from hs) Lb8
theorem op_lt:OpR X (compareOp .Lt) (rI0 fun i j=>.bl (decide (i<j))):=opB0 fun _ _ _ _ _ _ _ q=>lt_int q
theorem op_gt:OpR X (compareOp .Gt) (rI0 fun i j=>.bl (decide (j<i))):=opB0 fun _ _ _ _ _ _ _ q=>gt_int q
theorem op_ge:OpR X (compareOp .GtE) (rI0 fun i j=>.bl (decide (j≤i))):=opB0 fun _ _ _ _ _ _ _ q=>ge_int q
theorem nomark(b:Expr){op:CmpOp}(h:op≠.In:=by decide)(h2:op≠.NotIn:=by decide):behindInMarks op b=false:=by
 have e1:(op == CmpOp.In)=false:=by cases op <;> first | rfl | exact absurd rfl h
 have e2:(op == CmpOp.NotIn)=false:=by cases op <;> first | rfl | exact absurd rfl h2
 cases b <;> simp[behindInMarks,e1,e2]
theorem pe_cmpR{op:CmpOp}{r:R2}(ho:OpR X (compareOp op) r)(ha:PE X a ta)(hb:PE X b tb)(hm:behindInMarks op b=false):PE X (.Compare a [op] [b] pos) (tOp r ta tb):=by
 intro pins s σ H Q I h;exact wpAny_Compare1 (binT ha hb I h fun v u s2 x y H2 I2 rx ry q=>ho pins s2 σ H2 x y v u Q I2 rx ry q) hm
def tTest(t:TE):TT:=fun σ H Q=>t σ H fun x H'=>∃ k,x=.bl k∧Q k H'
theorem pt_cmpR{op:CmpOp}{r:R2}(ho:OpR X (compareOp op) r)(ha:PE X a ta)(hb:PE X b tb)(hm:behindInMarks op b=false):PT X (.Compare a [op] [b] pos) (tTest (tOp r ta tb)):=by
 intro pins s σ H Q I h
 refine wpAny_isTrue_Compare1 (thn (ha pins s σ H _ I h) fun v s1 ⟨x,H1,I1,r1,q1⟩=>thn (hb pins s1 σ H1 _ I1 q1) fun u s2 ⟨y,H2,I2,r2,q2⟩ =>
  thn (ho pins s2 σ H2 x y v u _ I2 r1 r2 q2) fun c s3 ⟨z,H3,I3,r3,k,e,q3⟩=>?_) hm
 subst e;cases r3;exact wpAny_truthy_bool ⟨H3,I3,q3⟩
def TruV(K:PySem.W.Frag)(x:V)(H:Hp)(k:Bool):Prop :=
 match x with
 | .non=>k=false
 | .bl b=>k=b
 | .int i=>k=(i != 0)
 | .str y=>y.length≤sizeLine∧k=((y.length:Int) != 0)
 | .byt y=>y.size≤sizeLine∧k=((y.size:Int) != 0)
 | .ref p=>(∃ xs,SqL K H p xs∧k=!xs.isEmpty)∨(∃ xs,SqT K H p xs∧k=!xs.isEmpty)∨∃ kvs,H p=some (.dK kvs)∧k=!kvs.isEmpty
 | _=>False
theorem isEmpty_kv{κ:Type}{kvs:List (κ×V)}{vs:List (κ×Value)}(r:KV kvs vs):(!vs.isEmpty)=!kvs.isEmpty:=by
 cases r <;> rfl
theorem isEmpty_of{xs:List V}{its:List Value}(r:Vals xs its):(!its.toArray.isEmpty)=!xs.isEmpty:=by
 cases r <;> simp
theorem line63:(sizeLine:Nat)<2 ^ 63:=by rw[sizeLine_eq]; decide
theorem tru_ok:TruR X (fun x H Q=>∃ k,TruV X.K x H k∧Q k H):=by
 intro pins s σ H x v Q I rx h;obtain⟨k,e,q⟩:=h;have hl:=line63;have hs:sizeLine=16777216:=sizeLine_eq
 cases x with
 | non =>
  cases rx;have e':k=false:=e;subst e'
  exact truthy_none ⟨H,I,q⟩
 | bl b =>
  cases rx;have e':k=b:=e;subst e'
  exact wpAny_truthy_bool ⟨H,I,q⟩
 | int i =>
  obtain⟨t,rfl⟩:=rx;have e':k=(i != 0):=e;subst e'
  exact PySem.P.truthy_int ⟨H,I,q⟩
 | str y =>
  obtain⟨t,rfl⟩:=rx;obtain⟨hy,e'⟩:y.length≤sizeLine∧k=((y.length:Int) != 0):=e;subst e'
  exact PySem.P.truthy_str (by omega) ⟨H,I.tok _,q⟩
 | byt y =>
  obtain⟨t,rfl⟩:=rx;obtain⟨hy,e'⟩:y.size≤sizeLine∧k=((y.size:Int) != 0):=e;subst e'
  exact PySem.W.truthy_bytes (by omega) ⟨H,I.tok _,q⟩
 | ref p =>
  cases rx;have e':(∃ xs,SqL X.K H p xs∧k=!xs.isEmpty)∨(∃ xs,SqT X.K H p xs∧k=!xs.isEmpty)∨∃ kvs,H p=some (.dK kvs)∧k=!kvs.isEmpty:=e
  rcases e' with ⟨xs,hx,e'⟩ | ⟨xs,hx,e'⟩ | ⟨kvs,hx,e'⟩
  ·subst e';obtain⟨its,r,pl,hz⟩:=I.list hx;have hlen:=r.length;exact wpAny_truthy_list pl.isList (by simp only[List.size_toArray]; omega) ⟨H,I.tok _,by rw[isEmpty_of r]; exact q⟩
  ·subst e';obtain⟨its,r,pl,hz⟩:=I.tuple hx;have hlen:=r.length;exact truthy_tuple pl (by simp only[List.size_toArray]; omega) ⟨H,I.tok _,by rw[isEmpty_of r]; exact q⟩
  ·subst e';obtain⟨hz,hS,vs,r,m⟩:kvs.length≤sizeLine∧(p == sysModules)=false∧∃ vs,KV kvs vs∧s.heap.DictOf (mixKind X.prog X.w) p vs:=I.hok p _ hx;have hlen:kvs.length=vs.length:=Paired.length r
   exact wpAny_truthy_dict hS m (by omega) ⟨H,I.tok _,by rw[isEmpty_kv r]; exact q⟩
 | _=>exact (show False from e).elim
theorem pt_truth(ha:PE X a ta)(he:∀ whole,isTrue a X.env whole=(do let v ← whole; standAt a.pos; holding [v] (truthy v))) :
  PT X a (fun σ H Q=>ta σ H fun x H'=>∃ k,TruV X.K x H' k∧Q k H'):=by
 intro pins s σ H Q I h;exact isTrue_plain (thn (ha pins s σ H _ I h) fun v s1 ⟨x,H1,I1,r1,q1⟩=>tru_ok pins s1 σ H1 x v Q I1 r1 q1) (he _)
theorem op_add_str:OpR X (binaryOp .Add) (fun x y H Q=>∃ i j,x=.str i∧y=.str j∧i.length+j.length≤sizeLine∧Q (.str (i++j)) H):=by
 intro pins s σ H x y v u Q I rx ry h;obtain⟨i,j,rfl,rfl,hz,q⟩:=h;obtain⟨t,rfl⟩:=rx;obtain⟨t',rfl⟩:=ry;exact add_str (fun t' tk=>⟨.str (i++j),H,I.tok _,⟨_,rfl⟩,q⟩) hz
theorem vals1{x:V}{us:List Value}(r:Vals [x] us):∃ u,us=[u]∧RelV x u:=by
 cases r with
 | cons r1 r2=>cases r2; exact⟨_,rfl,r1⟩
theorem vals2{x y:V}{us:List Value}(r:Vals [x,y] us):∃ u w',us=[u,w']∧RelV x u∧RelV y w':=by
 cases r with
 | cons r1 r2 =>
  cases r2 with
  | cons r3 r4=>cases r4; exact⟨_,_,rfl,r1,r3⟩
theorem call_abs:CallR X (.builtin "abs") (fun xs H Q=>∃ i,xs=[.int i]∧Q (.int (if i<0 then -i else i)) H):=by
 intro pins s σ H xs us Q I r h;obtain⟨i,rfl,q⟩:=h;obtain⟨u,rfl,t,rfl⟩:=vals1 r;exact call_abs_int fun u tk=>⟨.int (if i<0 then -i else i),H,I.tok _,⟨_,rfl⟩,q⟩
theorem call_min2(hc:X.calm=true):CallR X (.builtin "min") (fun xs H Q=>∃ i j,xs=[.int i,.int j]∧Q (.int (if j<i then j else i)) H):=by
 intro pins s σ H xs us Q I r h;obtain⟨i,j,rfl,q⟩:=h;obtain⟨u,w',rfl,⟨t,rfl⟩,⟨t',rfl⟩⟩:=vals2 r;refine min_two_ints (I.ok.hd hc) fun h' tk k=>⟨_,H,I.kept k,?_,q⟩
 by_cases hj:j<i
 ·rw[if_pos hj,if_pos hj]; exact⟨_,rfl⟩
 ·rw[if_neg hj,if_neg hj]; exact⟨_,rfl⟩
end
structure ObjM(h:Heap)(x dx C:Addr)(mA:Str→Option Value):Prop where
 obj:h.get? x=some (PySem.W.instObj C dx)
 ns:h.Ns1 dx mA
 ne:dx≠x
set_option tactic.hygienic true in
theorem lookIn_ns{h:Heap}{dx:Addr}{mA:Str→Option Value}(n:h.Ns1 dx mA):∃ od,h.get? dx=some od∧∀ name,PySem.W.lookIn name od=some (mA name):=by
 obtain⟨o,es,ep,ho,hd,hk,_,hm⟩:=n;refine⟨o,ho,fun name=>?_⟩;have e:=hm name;unfold nsFind findBy at e;rw[← Array.find?_toList] at e;unfold PySem.W.lookIn;rw[hd];dsimp only
 split
 ·rename_i y q
  rw[q] at e;exact congrArg some e
 ·rename_i q
  rw[q] at e
  have a:es.toList.any (·.refKey)=false:=by
   rw[List.any_eq_false];intro y hy;obtain⟨z,t,hkey⟩:=hk y (Lj0.mp hy);simp[DictEntry.refKey,hkey]
  have a':¬ es.toList.any (·.refKey)=true:=by rw[a]; exact Lb8
  rw[if_neg a'];exact congrArg some e
theorem ObjM.look{h:Heap}{x dx C:Addr}{mA:Str→Option Value}(I:ObjM h x dx C mA):∃ od,PySem.W.InstAt h x (PySem.W.instObj C dx) C (some od)∧∀ name,PySem.W.lookIn name od=some (mA name) :=
 let ⟨od,ho,hl⟩:=lookIn_ns I.ns
 ⟨od,⟨I.obj,rfl,rfl,ho⟩,hl⟩
section
variable {prog:Program} {w:World} {A:Around} {E:Value→Shared→Prop} {s:Shared} {K:PySem.W.Frag} {x dx C f:Addr} {mA:Str→Option Value} {name:Str} {v:Value}
theorem get_map{expr:Bool}{Q:Value→Shared→Prop}(X:K.In s.heap)(I:ObjM s.heap x dx C mA)(hg:PySem.W.plainGet K C name=true)(hh:PySem.W.hasDictIn K C=true)
  (ha:PySem.W.findIn K (.ref C) name=some none) (hv:mA name=some v) (hv':PySem.W.handedIn v=true) (h:Q v { s with toks:=s.toks+1 }) :
  wpAny (model prog w) A (getAttr (.ref x) name expr) Q E s:=by
 obtain⟨od,J,hl⟩:=I.look;exact PySem.W.get_value X J (PySem.W.plainGet_of hg).1 (PySem.W.findObj_own hh ha rfl (by rw[hl,hv])) hv' h
theorem set_map{ns:List Str}{Q:Unit→Shared→Prop}(X:K.In s.heap)(I:ObjM s.heap x dx C mA)
  (hs:PySem.W.findIn K (.ref C) "__setattr__"=some (some (.builtin "object.__setattr__"))) (hp:PySem.W.plainOver K C=true) (ht:PySem.W.takerIn K C name=some none) (hh:PySem.W.hasDictIn K C=true)
  (hw:PySem.Within mA ns) (hsz:ns.length≤sizeLine)
  (h:∀ h',ObjM h' x dx C (fun y=>if y=name then some v else mA y)→Heap.SameBut dx s.heap h'→Q () { s with heap:=h',toks:=s.toks+2 }) :
  wpAny (model prog w) A (setAttr (.ref x) name v) Q E s:=by
 obtain⟨od,J,hl⟩:=I.look;refine PySem.W.set_plain X J hs (PySem.W.osa_open (s:={ s with toks:=s.toks+1 }) (r:=none) X J hp ht fun b=>?_)
 obtain⟨cd,hc,hd'⟩:=PySem.W.any_some hh;have hx:s.heap.get? x=some ⟨.ref C,some dx,.plain,#[]⟩:=I.obj;refine wpAny_bind (wpAny_pure (wpAny_bind (wpAny_bind (wpAny_loadPart hx (wpAny_bind (PySem.W.Looks.here (s:={ s with toks:=s.toks+1 }) (PySem.W.looks_clsIn X hc) ?_))))))
 rw[hd'];refine wpAny_pure (a:=some dx) (wpAny_bind (wpAny_pure (wpAny_bind ?_)));refine wpAny_nsSet1 (s:={ s with toks:=s.toks+1 }) I.ns fun h' hn2 hs2=>?_
 obtain⟨oD,esD,epD,hoD,hdD,hcD⟩:=hn2.count (PySem.Within.cons name v hw);refine wpAny_bind (wpAny_lookBehind hoD (by rw[hdD]; exact pastItsLine_dict (Ld6 hcD (by rw[Lb4]; omega))) ?_);exact wpAny_pure (h _ ⟨(hs2.2 _ (Ne.symm I.ne)).trans I.obj,hn2,I.ne⟩ hs2)
theorem make_map{R:Result→Shared→Prop}{vs:List Value}{kw:List (Str×Value)}(X:K.In s.heap)(hm:PySem.W.makesIn K C=true)
  (hi:PySem.W.findIn K (.ref C) "__init__"=some (some (.ref f))) (hf:PySem.W.typeIn K (.ref f)=some (.type "function"))
  (h:codeAny (model prog w) (A.under (.builtin "type.__call__" ⟨.ref C::vs,kw⟩)) (.call (.ref f) ⟨.ref (s.heap.objs.size+1)::vs,kw⟩) (PySem.W.InitBack (s.heap.objs.size+1) R)
   { s with heap:=(s.heap.push PySem.W.emptyDict).push (PySem.W.instObj C s.heap.objs.size) }) :
  codeAny (model prog w) A (.call (.ref C) ⟨vs,kw⟩) R s:=by
 obtain⟨hh,g,d,t,os⟩:=s;exact PySem.W.make_core (PySem.W.makes_of X hm) (PySem.W.looks_findIn X hi) (fun self=>PySem.W.bind_fn X self hf) (.inl rfl) h
end
def putF(f:Str)(v:V):List (Str×V)→List (Str×V)
 | []=>[(f,v)]
 | (g,x)::r=>if g=f then (g,v)::r else (g,x)::putF f v r
theorem lookup_putF(f g:Str)(v:V):∀ fs:List (Str×V),(putF f v fs).lookup g=if g=f then some v else fs.lookup g
 | []=>by
  show List.lookup g [(f,v)]=_
  by_cases h:g=f
  ·have hb:(g == f)=true:=beq_iff_eq.mpr h;simp only[List.lookup,hb,if_pos h]
  ·have hb:(g == f)=false:=beq_eq_false_iff_ne.mpr h
   simp only[List.lookup,hb,if_neg h]
 | (k,x)::r=>by
  have ih:=lookup_putF f g v r;rw[show putF f v ((k,x)::r)=(if k=f then (k,v)::r else (k,x)::putF f v r) from rfl]
  by_cases hk:k=f
  ·rw[if_pos hk]
   by_cases h:g=k
   ·have hb:(g == k)=true:=beq_iff_eq.mpr h;simp only[List.lookup,hb,if_pos (h.trans hk)]
   ·have hb:(g == k)=false:=beq_eq_false_iff_ne.mpr h;simp only[List.lookup,hb,if_neg (fun e:g=f=>h (e.trans hk.symm))]
  ·rw[if_neg hk]
   by_cases h:g=k
   ·have hb:(g == k)=true:=beq_iff_eq.mpr h;simp only[List.lookup,hb,if_neg (fun e:g=f=>hk (h.symm.trans e))]
   ·have hb:(g == k)=false:=beq_eq_false_iff_ne.mpr h;simp only[List.lookup,hb];exact ih
theorem keys_putF(f:Str)(v:V):∀ fs:List (Str×V),f∈(putF f v fs).map (·.1)∧∀ g,g∈fs.map (·.1)→g∈(putF f v fs).map (·.1)
 | []=>⟨by simp[putF],fun g h=>by simp at h⟩
 | (k,x)::r=>by
  obtain⟨i1,i2⟩:=keys_putF f v r;rw[show putF f v ((k,x)::r)=(if k=f then (k,v)::r else (k,x)::putF f v r) from rfl]
  by_cases hk:k=f
  ·rw[if_pos hk];subst hk;exact⟨by simp,fun g h=>by simpa using h⟩
  ·rw[if_neg hk];refine⟨?_,fun g h=>?_⟩
   ·rw[Lc2];exact Lb0 _ i1
   ·rw[Lc2] at h ⊢
    rcases Lb6.mp h with e | e
    ·exact Lb6.mpr (.inl e)
    ·exact Lb0 _ (i2 g e)
theorem length_putF(f:Str)(v:V):∀ fs:List (Str×V),(putF f v fs).length≤fs.length+1
 | []=>by simp[putF]
 | (k,x)::r=>by
  have ih:=length_putF f v r;rw[show putF f v ((k,x)::r)=(if k=f then (k,v)::r else (k,x)::putF f v r) from rfl]
  by_cases hk:k=f
  ·rw[if_pos hk,Lb4,Lb4]; omega
  ·rw[if_neg hk,Lb4,Lb4]; omega
theorem RelO.some_of{v:V}{o:Option Value}(r:RelO (some v) o):∃ u,o=some u∧RelV v u:=by
 cases o with
 | none=>exact (show False from r).elim
 | some u=>exact⟨u,rfl,r⟩
theorem handed_of{v:V}{u:Value}(r:RelV v u):PySem.W.handedIn u=true:=by
 cases v with
 | non=>cases (show u=Value.none from r); rfl
 | bl b=>cases (show u=Value.bool b from r); rfl
 | int i=>obtain⟨t,e⟩:=(show ∃ t,u=Value.int i t from r); cases e; rfl
 | str x=>obtain⟨t,e⟩:=(show ∃ t,u=Value.str x t from r); cases e; rfl
 | byt b=>obtain⟨t,e⟩:=(show ∃ t,u=Value.bytes b t from r); cases e; rfl
 | flt b=>obtain⟨t,e⟩:=(show ∃ t,u=Value.float b t from r); cases e; rfl
 | ref a=>cases (show u=Value.ref a from r); rfl
 | ty n=>cases (show u=Value.type n from r); rfl
section
variable {P:Program} {w:World} {H H':Hp} {h h':Heap} {a C dx:Addr} {fs fs':List (Str×V)}
theorem ins_get(hok:HOk P w H h)(e:H a=some (.ins C dx fs)):∃ mA,ObjM h a dx C mA∧(∀ f,RelO (fs.lookup f) (mA f))∧PySem.Within mA (fs.map (·.1))∧fs.length≤1000∧H dx=some (.own a):=by
 obtain⟨d,z,ne,ob,mA,n,r,q⟩:=(show ObjOk P w H h a (.ins C dx fs) from hok a _ e);exact⟨mA,⟨ob,n,ne⟩,r,q,z,d⟩
end
structure Cls(K:PySem.W.Frag)(C:Addr):Prop where
 pg:PySem.W.plainGet K C Str.empty=true
 hd:PySem.W.hasDictIn K C=true
 po:PySem.W.plainOver K C=true
 sa:PySem.W.findIn K (.ref C) "__setattr__"=some (some (.builtin "object.__setattr__"))
theorem Cls.get{K:PySem.W.Frag}{C:Addr}(c:Cls K C)(f:Str):PySem.W.plainGet K C f=true:=c.pg
def NoAttr(K:PySem.W.Frag)(C:Addr)(f:Str):Prop:=PySem.W.findIn K (.ref C) f=some none
theorem NoAttr.taker{K:PySem.W.Frag}{C:Addr}{f:Str}(n:NoAttr K C f):PySem.W.takerIn K C f=some none:=by
 unfold PySem.W.takerIn;rw[show PySem.W.findIn K (.ref C) f=some none from n];rfl
section
variable {X:Cx} {pins:List (Addr×Obj)} {σ:St} {H:Hp} {s:Shared} {a C dx:Addr} {fs:List (Str×V)} {f:Str} {v:V} {A:Around} {E:Value→Shared→Prop}
theorem getattr_ok{b:Bool}{Q:Value→Shared→Prop}(I:Inv X pins σ H s)(e:H a=some (.ins C dx fs))(c:Cls X.K C)(n:NoAttr X.K C f)(l:fs.lookup f=some v)
  (h:∀ u s',Inv X pins σ H s'→RelV v u→Q u s'):wpAny (model X.prog X.w) A (getAttr (.ref a) f b) Q E s:=by
 obtain⟨mA,O,r,_,_,_⟩:=ins_get I.hok e;obtain⟨u,hu,ru⟩:=RelO.some_of (v:=v) (o:=mA f) (by rw[← l]; exact r f);exact get_map I.kIn O (c.get f) c.hd n hu (handed_of ru) (h u _ (I.tok _) ru)
theorem setattr_ok{y:V}{u:Value}{Q:Unit→Shared→Prop}(I:Inv X pins σ H s)(e:H a=some (.ins C dx fs))(c:Cls X.K C)(n:NoAttr X.K C f)(hl:fs.length<1000)(ry:RelV y u)
  (h:∀ s',Inv X pins σ (upd H a (.ins C dx (putF f y fs))) s'→Q () s'):wpAny (model X.prog X.w) A (setAttr (.ref a) f u) Q E s:=by
 obtain⟨mA,O,r,wi,_,ho⟩:=ins_get I.hok e;have hz:(fs.map (·.1)).length≤sizeLine:=by rw[La1,sizeLine_eq]; omega
 refine set_map I.kIn O c.sa c.po n.taker c.hd wi hz fun h' O' sb=>h _ ?_;have hd:∃ o,h'.get? dx=some o:=let ⟨o,_,_,e',_⟩:=O'.ns; ⟨o,e'⟩
 refine I.write (x:=a) (e:=dx) (by rw[e]; exact True.intro) (.inr ho) (fun b q hb z=>(sb.2 b hb).trans z) hd ?_;refine⟨by rw[upd_ne O.ne]; exact ho,?_,O.ne,O'.obj,_,O'.ns,fun g=>?_,fun g hg=>?_⟩
 ·have:=length_putF f y fs; omega
 ·show RelO ((putF f y fs).lookup g) (if g=f then some u else mA g)
  rw[lookup_putF]
  by_cases q:g=f
  ·rw[if_pos q,if_pos q]; exact ry
  ·rw[if_neg q,if_neg q]; exact r g
 ·by_cases q:g=f
  ·rw[q]; exact (keys_putF f y fs).1
  ·refine (keys_putF f y fs).2 g (wi g fun z=>hg ?_)
   show (if g=f then some u else mA g)=none
   rw[if_neg q]; exact z
theorem Inv.made(I:Inv X pins σ H s):Inv X pins σ (upd (upd H s.heap.objs.size (.own (s.heap.objs.size+1))) (s.heap.objs.size+1) (.ins C s.heap.objs.size []))
  { s with heap:=(s.heap.push PySem.W.emptyDict).push (PySem.W.instObj C s.heap.objs.size) }:=by
 have e1:(s.heap.push PySem.W.emptyDict).get? s.heap.objs.size=some PySem.W.emptyDict:=Heap.get?_push_size s.heap rfl
 have e2:((s.heap.push PySem.W.emptyDict).push (PySem.W.instObj C s.heap.objs.size)).get? (s.heap.objs.size+1)=some (PySem.W.instObj C s.heap.objs.size):=by
  have:=Heap.get?_push_size (s.heap.push PySem.W.emptyDict) (o:=PySem.W.instObj C s.heap.objs.size) rfl
  rwa [Heap.size_push] at this
 have e3:(s.heap.push PySem.W.emptyDict).Ns s.heap.objs.size (fun _=>none):=⟨PySem.W.emptyDict,#[],_,e1,rfl,(fun e he=>absurd he (by simp)),fun _=>rfl⟩;have I1:=I.laid (a:=s.heap.objs.size) (o:=.own (s.heap.objs.size+1)) (h':=s.heap.push PySem.W.emptyDict) (t':=s.toks) (fun b u q=>Heap.get?_push_of_some _ q) (La4 _) ⟨_,e1⟩;refine I1.laid (a:=s.heap.objs.size+1) (o:=.ins C s.heap.objs.size []) (t':=s.toks) (fun b u q=>Heap.get?_push_of_some _ q) (Nat.le_of_eq (Heap.size_push _ _)) ?_;have ne:s.heap.objs.size≠s.heap.objs.size+1:=Lc4 (Li1 _);refine⟨by rw[upd_ne ne,upd_same],Lb1 _,ne,e2,fun _=>none,(Heap.Ns1.of_empty e3).at fun o q=>Heap.get?_push_of_some _ q,fun _=>True.intro,fun y hy=>absurd rfl hy⟩
theorem attr_of{prog:Program}{w:World}{env:Env}{e:Expr}{f:Str}{pos:Pos}{s:Shared}{Q:Value→Shared→Prop}(hb:attributeBase e f env (eval e env)=eval e env)
  (h:wpAny (model prog w) A (eval e env) (fun o s₁=>wpAny (model prog w) A (getAttr o f true) Q E s₁) E s):wpAny (model prog w) A (eval (.Attribute e f pos) env) Q E s :=
 Attribute_any_ h (by rw[arm_eval_Attribute,hb])
end
inductive FldR(K:PySem.W.Frag)(f:Str)(Q:VK)(x:V)(H1:Hp):Prop
 | mk (a C dx:Addr) (fs:List (Str×V)) (v:V) (e:x=.ref a) (h:H1 a=some (.ins C dx fs)) (c:Cls K C) (n:NoAttr K C f) (l:fs.lookup f=some v) (q:Q v H1):FldR K f Q x H1
def tFld(K:PySem.W.Frag)(ta:TE)(f:Str):TE:=fun σ H Q=>ta σ H (FldR K f Q)
def sFld(K:PySem.W.Frag)(ta tv:TE)(f:Str):TS:=fun D σ H=>tv σ H fun y H1=>ta σ H1 fun x H2=>∃ a C dx fs,x=.ref a∧H2 a=some (.ins C dx fs)∧Cls K C∧NoAttr K C f∧fs.length<1000 ∧
 D.nx σ (upd H2 a (.ins C dx (putF f y fs)))
section
variable {X:Cx} {o e value:Expr} {f:Str} {pos pos' tpos:Pos} {ta tv:TE}
theorem pe_fld(he:PE X e ta)(hb:attributeBase e f X.env (eval e X.env)=eval e X.env):PE X (.Attribute e f pos) (tFld X.K ta f):=by
 intro pins s σ H Q I h;refine attr_of hb (thn (he pins s σ H _ I h) fun u s1 hZr=>?_);obtain⟨x,H1,I1,rx,a,C,dx,fs,v,ex,ea,c,n,l,q⟩:=hZr;subst ex;obtain rfl:u=Value.ref a:=rx;exact getattr_ok I1 ea c n l fun u' s2 I2 ru=>⟨v,H1,I2,ru,q⟩
theorem ps_fld(ha:PE X o ta)(hv:PE X value tv)(hs:swapsWith value (some (.Attribute o f pos')) pos.line X.env=pure false):PS X (.Assign [.Attribute o f pos'] value pos) (sFld X.K ta tv f):=by
 intro pins s σ H D I h;refine plainObj_wpAny_Assign_Attribute (thn (hv pins s σ H _ I h) fun u s1 ⟨y,H1,I1,ry,q⟩=>thn (ha pins s1 σ H1 _ I1 q) fun ov s2 ⟨x,H2,I2,rx,a,C,dx,fs,ex,ea,c,n,l,q2⟩=>?_) hs;subst ex;obtain rfl:ov=Value.ref a:=rx;exact setattr_ok I2 ea c n l ry fun s3 I3=>⟨σ,_,I3,q2⟩
end
section
variable {X:Cx} {pins:List (Addr×Obj)} {σ:St} {H:Hp} {s:Shared} {A:Around} {E:Value→Shared→Prop} {Q:Value→Shared→Prop} {c:Value} {b:Bool}
inductive TyOf(K:PySem.W.Frag)(H:Hp):V→Value→Prop where
 | non:TyOf K H .non (.type "NoneType")
 | bl (x:Bool):TyOf K H (.bl x) (.type "bool")
 | int (i:Int):TyOf K H (.int i) (.type "int")
 | str (x:Str):TyOf K H (.str x) (.type "str")
 | flt (x:UInt64):TyOf K H (.flt x) (.type "float")
 | lst {a:Addr} {xs:List V} (e:H a=some (.lst xs)):TyOf K H (.ref a) (.type "list")
 | frz {a:Addr} {o:Obj} {xs:List V} (e:H a=some (.frz o (.lst xs))):TyOf K H (.ref a) (.type "list")
 | tup {a:Addr} {xs:List V} (e:H a=some (.tup xs)):TyOf K H (.ref a) (.type "tuple")
 | dK {a:Addr} {kvs:List (Key×V)} (e:H a=some (.dK kvs)):TyOf K H (.ref a) (.type "dict")
 | dT {a:Addr} {kvs:List (List Key×V)} (e:H a=some (.dT kvs)):TyOf K H (.ref a) (.type "dict")
 | ins {a C dx:Addr} {fs:List (Str×V)} (e:H a=some (.ins C dx fs)) (cl:Cls K C) (ha:PySem.W.findIn K (.ref C) "__class__"=some (some (.builtin "object.__class__")))
   (hn:PySem.W.specialIn K (.builtin "object.__class__") "__get__"=some (some (.builtin "getset_descriptor.__get__"))) (htk:PySem.W.takesIn K (.builtin "object.__class__")=some true)
   (hm:PySem.W.mroIn K C (.type "object")=some true):TyOf K H (.ref a) (.ref C)
theorem isinst_ok{x:V}{u t:Value}(I:Inv X pins σ H s)(rx:RelV x u)(ty:TyOf X.K H x t)(e:PySem.W.kitOne X.K t c=some b)(h:∀ tk,Q (.bool b) { s with toks:=tk }) :
  wpAny (model X.prog X.w) A (call (.builtin "isinstance") [u,c]) Q E s:=by
 cases ty with
 | non=>cases (show u=Value.none from rx); exact PySem.W.kia_one PySem.W.kitx_none I.kIn True.intro e (fun z=>nomatch z) h
 | bl y=>cases (show u=Value.bool y from rx); exact PySem.W.kia_one PySem.W.kitx_bool I.kIn True.intro e (fun z=>nomatch z) h
 | int i=>obtain⟨t,q⟩:=(show ∃ t,u=Value.int i t from rx); cases q; exact PySem.W.kia_one PySem.W.kitx_int I.kIn True.intro e (fun z=>nomatch z) h
 | str y=>obtain⟨t,q⟩:=(show ∃ t,u=Value.str y t from rx); cases q; exact PySem.W.kia_one PySem.W.kitx_str I.kIn True.intro e (fun z=>nomatch z) h
 | flt y=>obtain⟨t,q⟩:=(show ∃ t,u=Value.float y t from rx); cases q; exact PySem.W.kia_one PySem.W.kitx_float I.kIn True.intro e (fun z=>nomatch z) h
 | @lst a xs ea =>
  cases (show u=Value.ref a from rx);obtain⟨_,_,n,_,h1⟩:=(show ObjOk X.prog X.w H s.heap a (.lst xs) from I.hok a _ ea)
  exact PySem.W.kia_one PySem.W.kitx_list I.kIn ⟨_,h1,rfl⟩ e (fun z=>nomatch z) h
 | @frz a ob xs ea =>
  cases (show u=Value.ref a from rx);obtain⟨_,_,_,n,_,h1⟩:=(show ObjOk X.prog X.w H s.heap a (.frz ob (.lst xs)) from I.hok a _ ea)
  exact PySem.W.kia_one PySem.W.kitx_list I.kIn ⟨_,h1,rfl⟩ e (fun z=>nomatch z) h
 | @tup a xs ea =>
  cases (show u=Value.ref a from rx);obtain⟨_,_,_,p⟩:=(show ObjOk X.prog X.w H s.heap a (.tup xs) from I.hok a _ ea);obtain⟨o,h1,h2,_⟩:=p
  exact PySem.W.kia_one PySem.W.kitx_tuple I.kIn ⟨o,h1,h2⟩ e (fun z=>nomatch z) h
 | @dK a kvs ea =>
  cases (show u=Value.ref a from rx);obtain⟨_,_,vs,_,p⟩:=(show ObjOk X.prog X.w H s.heap a (.dK kvs) from I.hok a _ ea);obtain⟨o,es,ep,h1,h2,_⟩:=p
  exact PySem.W.kia_one PySem.W.kitx_dict I.kIn ⟨o,h1,h2.1⟩ e (fun z=>nomatch z) h
 | @dT a kvs ea =>
  cases (show u=Value.ref a from rx);obtain⟨_,_,xs,_,o,es,ep,h1,h2,_⟩:=(show ObjOk X.prog X.w H s.heap a (.dT kvs) from I.hok a _ ea)
  exact PySem.W.kia_one PySem.W.kitx_dict I.kIn ⟨o,h1,h2.1⟩ e (fun z=>nomatch z) h
 | @ins a C dx fs ea cl ha hn htk hm =>
  cases (show u=Value.ref a from rx);obtain⟨mA,O,_⟩:=ins_get I.hok ea;obtain⟨od,J,_⟩:=O.look;exact PySem.W.kia_one (PySem.W.kitx_own (cl.get _) cl.hd ha hn htk hm) I.kIn J e (fun z=>nomatch z) h
end
structure Room(k:Nat)(A:Around):Prop where
 hd:A.handled=none
 dp:A.depth+3 * k+5<recursionLimit
 un:A.units+16 * k+200<cLine
 gu:A.guards=some []
theorem Room.mono{j k:Nat}{A:Around}(r:Room k A)(h:j≤k):Room j A:=⟨r.hd,by have:=r.dp; omega,by have:=r.un; omega,r.gu⟩
theorem Room.deeper{k:Nat}{A:Around}(r:Room (k+1) A)(env:Env):Room k (A.deeper env) :=
 ⟨r.hd,by have:=r.dp; show A.depth+1+3 * k+5<_; omega,by have:=r.un; show A.units+3+16 * k+200<_; omega,r.gu⟩
theorem Room.in1{k:Nat}{A:Around}(r:Room (k+1) A):Room k A.in1 :=
 ⟨r.hd,by have:=r.dp; show A.depth+3 * k+5<_; omega,by have:=r.un; show A.units+1+16 * k+200<_; omega,r.gu⟩
theorem make_depth{A:Around}{C:Addr}{us:List Value}{kw:List (Str×Value)}:(A.under (.builtin "type.__call__" ⟨.ref C::us,kw⟩)).depth=A.depth+1:=by
 first | rfl | simp[Around.under,Code.weight,Code.isCreation,Code.isGuard,Code.isCaller,Code.frames,Code.isFrame,guardIds]
theorem make_units{A:Around}{C:Addr}{us:List Value}{kw:List (Str×Value)}:(A.under (.builtin "type.__call__" ⟨.ref C::us,kw⟩)).units=A.units+1:=by
 first | rfl | simp[Around.under,Code.cUnits,Code.frames,Code.isFrame]
theorem Room.make{k:Nat}{A:Around}(r:Room (k+1) A)(C:Addr)(us:List Value)(kw:List (Str×Value)):Room k (A.under (.builtin "type.__call__" ⟨.ref C::us,kw⟩)) :=
 ⟨r.hd,by have:=r.dp; rw[make_depth]; omega,by have:=r.un; rw[make_units]; omega,by have:=r.gu; first | exact this | simpa [Around.under,Code.guards,Code.isGuard,guardIds,pushGuards] using this⟩
theorem Room.depth{k:Nat}{A:Around}(r:Room k A):A.depth<recursionLimit:=by have:=r.dp; omega
theorem Room.units{k:Nat}{A:Around}(r:Room k A):A.units+64<cLine:=by have:=r.un; omega
theorem Room.units0{k:Nat}{A:Around}(r:Room k A):A.units<cLine:=by have:=r.un; omega
def tNil:TA:=fun _ H Q=>Q [] H
def tCons(ta:TE)(tr:TA):TA:=fun σ H Q=>ta σ H fun x H1=>tr σ H1 fun xs H2=>Q (x::xs) H2
section
variable {X:Cx} {e:Expr} {es:List Expr} {te:TE} {t:TA} {pos:Pos}
theorem pa_nil:PA X [] tNil:=fun _ _ _ _ H Q I h=>Calls.spliced_nil ⟨[],H,I,.nil,h⟩
theorem pa_cons(ha:PE X e te)(hr:PA X es t)(hs:starEach (e::es) X.env=(false,eval e X.env)::starEach es X.env:=by rfl):PA X (e::es) (tCons te t):=by
 intro pos pins s σ H Q I h;rw[hs]
 show wpAny _ _ (spliced ((false,eval e X.env)::backTo pos (starEach es X.env))) _ _ s
 refine Calls.spliced_cons (thn (ha pins s σ H _ I h) fun u s1 hZr=>?_);obtain⟨x,H1,I1,r1,q1⟩:=hZr;exact thn (hr pos pins s1 σ H1 _ I1 q1) fun us s2 ⟨xs,H2,I2,r2,q2⟩=>⟨x::xs,H2,I2,.cons r1 r2,q2⟩
def tTup(t:TA):TE:=fun σ H Q=>t σ H fun xs H1=>xs.length≤sizeLine∧∀ p,H1 p=none→Q (.ref p) (upd H1 p (.tup xs))
def tLst(t:TA):TE:=fun σ H Q=>t σ H fun xs H1=>xs.length≤sizeLine∧∀ p,H1 p=none→Q (.ref p) (upd H1 p (.lst xs))
theorem pe_tup{x1}(h:PA X es t):PE X (.Tuple es x1 pos) (tTup t):=by
 intro pins s σ H Q I hq;refine wpAny_Tuple_spliced (thn (h pos pins s σ H _ I hq) fun us s1 ⟨xs,H1,I1,r,z,q⟩=>⟨by rw[← r.length]; exact z,?_⟩);have hf:H1 s1.heap.objs.size=none:=I1.hok.fresh (La4 _);refine⟨.ref s1.heap.objs.size,upd H1 s1.heap.objs.size (.tup xs),I1.laid (t':=s1.toks) (fun b u e=>Heap.get?_push_of_some _ e) (La4 _) ?_,rfl,q _ hf⟩;exact⟨z,us,r,⟨_,Heap.get?_push_size _ rfl,rfl,_,rfl⟩⟩
theorem pe_lst(h:PA X es t):PE X (.List es pos) (tLst t):=by
 intro pins s σ H Q I hq;refine wpAny_List_spliced (thn (h pos pins s σ H _ I hq) fun us s1 ⟨xs,H1,I1,r,z,q⟩=>⟨by rw[← r.length]; exact z,?_⟩);have hf:H1 s1.heap.objs.size=none:=I1.hok.fresh (La4 _);refine⟨.ref s1.heap.objs.size,upd H1 s1.heap.objs.size (.lst xs),I1.laid (t':=s1.toks) (fun b u e=>Heap.get?_push_of_some _ e) (La4 _) ?_,rfl,q _ hf⟩;exact⟨z,us,0,r,Heap.get?_push_size _ rfl⟩
end
abbrev Sp:=List V→Hp→VK→XK→Prop
abbrev CXT:=List Env→Hp→Shared→XK→Value→Shared→Prop
structure Env0(P:Program)(w:World)(K:PySem.W.Frag)(mg:Str→Option Value)(base:Heap)(A:Around)(outer:List Env)(s:Shared)(H:Hp):Prop where
 frames:A.frames=some outer
 mod:Mod K mg base
 bs:∀ b o,base.get? b=some o→s.heap.get? b=some o∧H b=none
 bsz:base.objs.size≤s.heap.objs.size
 funs:s.heap.FunFrames base outer
 frf:∀ b∈frs outer,H b=none
 hok:HOk P w H s.heap
 bare:AllBare s.gens
def CE(outer:List Env)(P:Program)(w:World)(H:Hp)(s:Shared)(Q:VK)(u:Value)(s':Shared):Prop :=
 ∃ v H',s'.os=s.os∧AllBare s'.gens∧Un (frs outer) [] H H' s.heap s'.heap∧HOk P w H' s'.heap∧RelV v u∧Q v H'
def CR(CX:CXT)(outer:List Env)(P:Program)(w:World)(H:Hp)(s:Shared)(Q:VK)(E:XK)(r:Result)(s':Shared):Prop :=
 match r with
 | .ok (.ret u)=>CE outer P w H s Q u s'
 | .ok _=>False
 | .error e=>CX outer H s E e s'
structure FnOk(P:Program)(w:World)(K:PySem.W.Frag)(mg:Str→Option Value)(base:Heap)(CX:CXT)(k:Nat)(f:Addr)(fd:FuncData)(ps:List Str)(sp:Sp):Prop where
 len:∀ vs H Q E,sp vs H Q E→vs.length=ps.length
 run:∀ (A:Around) (outer:List Env) (s:Shared) (H:Hp) (args:Args) (us:List Value) (vs:List V) (Q:VK) (E:XK),Room k A→Env0 P w K mg base A outer s H→BindsTo s fd args (ps.zip us)→Vals vs us→sp vs H Q E →
  codeAny (model P w) A (.call (.ref f) args) (CR CX outer P w H s Q E) s
theorem Env0.make{P:Program}{w:World}{K:PySem.W.Frag}{mg:Str→Option Value}{base:Heap}{A:Around}{outer:List Env}{s:Shared}{H:Hp}(e:Env0 P w K mg base A outer s H)(C:Addr)(us:List Value)(kw:List (Str×Value)) :
  Env0 P w K mg base (A.under (.builtin "type.__call__" ⟨.ref C::us,kw⟩)) outer s H:=⟨by first | exact e.frames | (simpa [Around.under,Code.envs,Code.isFrame,pushEnvs] using e.frames),e.mod,e.bs,e.bsz,e.funs,e.frf,e.hok,e.bare⟩
section
variable {X:Cx} {pins:List (Addr×Obj)} {σ:St} {H:Hp} {s s':Shared}
theorem Inv.env0(I:Inv X pins σ H s):Env0 X.prog X.w X.K X.mg X.base X.A X.stack s H :=
 ⟨I.ok.frames,I.ok.mod,I.bs,Ld6 I.ok.bsz I.sz,I.stack,I.stkFree,I.hok,I.bare⟩
theorem Inv.after{Q:VK}{u:Value}(I:Inv X pins σ H s)(h:CE X.stack X.prog X.w H s Q u s'):EP X pins σ Q u s':=by
 obtain⟨v,H',os,bare,un,hok,r,q⟩:=h;obtain⟨hh,g,d,t,os'⟩:=s';obtain rfl:os'=s.os:=os;exact⟨v,H',I.call (h':=hh) (g':=g) (d':=d) (t':=t) (ch:=[]) un hok bare (fun b z=>absurd z (by simp)),r,q⟩
end
def tCall(sp:Sp)(dvs:List V)(E:XK)(t:TA):TE:=fun σ H Q=>t σ H fun vs H1=>sp (vs++dvs) H1 Q E
def tMake(C:Addr)(sp:Sp)(dvs:List V)(E:XK)(t:TA):TE:=fun σ H Q=>t σ H fun vs H1=>∀ x dx,H1 x=none→H1 dx=none→dx≠x →
 sp (.ref x::(vs++dvs)) (upd (upd H1 dx (.own x)) x (.ins C dx [])) (fun v H2=>v=.non∧Q (.ref x) H2) E
def Binds(K:PySem.W.Frag)(fd:FuncData)(ps:List Str)(ds:List Value):Prop :=
 ∀ (s:Shared) (us:List Value),K.In s.heap→(us++ds).length=ps.length→BindsTo s fd ⟨us,[]⟩ (ps.zip (us++ds))
theorem Binds.all{K:PySem.W.Frag}{fd:FuncData}{ps:List Str}(h:∀ us:List Value,us.length=ps.length→bindArgs fd ⟨us,[]⟩=pure (ps.zip us)):Binds K fd ps []:=fun s us _ hl=>by
 rw[Lc0] at hl ⊢;exact .of_eq (h us hl)
def Passes(CX:CXT)(X:Cx)(E:XK):Prop:=∀ (pins:List (Addr×Obj)) (σ:St) (H:Hp) (s:Shared) (e:Value) (s':Shared),Inv X pins σ H s→CX X.stack H s E e s'→X.xe e s'
section
variable {X:Cx} {CX:CXT} {k:Nat} {f C:Addr} {fd:FuncData} {ps:List Str} {sp:Sp} {dvs:List V} {ds:List Value} {E:XK} {x m:Str} {p pos apos:Pos} {e o:Expr} {es:List Expr} {ta:TE} {t:TA}
theorem run_fn{pins:List (Addr×Obj)}{σ:St}{H:Hp}{s:Shared}{Q:VK}{us:List Value}{vs:List V}(F:FnOk X.prog X.w X.K X.mg X.base CX k f fd ps sp)(hr:Room k X.A)(hb:Binds X.K fd ps ds)(hd:Vals dvs ds)(hx:Passes CX X E)
  (I:Inv X pins σ H s) (r:Vals vs us) (h:sp (vs++dvs) H Q E):wpAny (model X.prog X.w) X.A (call (.ref f) us) (EP X pins σ Q) X.xe s:=by
 have r2:Vals (vs++dvs) (us++ds):=r.append hd;have hl:(us++ds).length=ps.length:=by rw[← r2.length]; exact F.len _ _ _ _ h
 refine wpAny_call (codeAny_mono (F.run X.A X.stack s H ⟨us,[]⟩ (us++ds) (vs++dvs) Q E hr I.env0 (hb s us I.kIn hl) r2 h) fun r s' hq=>?_)
 cases r with
 | error e=>exact hx pins σ H s e s' I hq
 | ok fl =>
  cases fl with
  | ret u=>exact I.after hq
  | next=>exact False.elim hq
  | brk=>exact False.elim hq
  | cont=>exact False.elim hq
theorem pe_call(F:FnOk X.prog X.w X.K X.mg X.base CX k f fd ps sp)(hr:Room k X.A)(hg:Gl X x)(hm:X.mg x=some (.ref f))(hk:PySem.W.keepIn X.K (.ref f)=true)(hb:Binds X.K fd ps ds)(hd:Vals dvs ds)(hx:Passes CX X E)
  (ha:PA X (e::es) t) (hdb:(x == ("__debug__":Str))=false:=by decide) (he:starEach (e::es) X.env=(false,eval e X.env)::starEach es X.env:=by rfl) (hpl:(backTo pos (starEach es X.env)).any (·.1)=false:=by rfl) :
  PE X (.Call (.Name x p) (e::es) [] pos) (tCall sp dvs E t):=by
 intro pins s σ H Q I h;refine wpAny_Call_Name_kw (ld_glob I hg hm ?_ hdb);refine PySem.W.callWith_K (h₀:=X.base) I.ok.mod.kin hk (thn (ha pos pins s σ H _ I h) fun us s1 ⟨vs,H1,I1,r,q⟩=>⟨I1.kIn,?_⟩) he hpl;exact run_fn F hr hb hd hx I1 r q
structure Mk(K:PySem.W.Frag)(C f:Addr):Prop where
 makes:PySem.W.makesIn K C=true
 init:PySem.W.findIn K (.ref C) "__init__"=some (some (.ref f))
 fn:PySem.W.isFn K (.ref f)=true
 kp:PySem.W.keepIn K (.ref C)=true
theorem run_make{pins:List (Addr×Obj)}{σ:St}{H:Hp}{s:Shared}{Q:VK}{us:List Value}{vs:List V}(M:Mk X.K C f)(F:FnOk X.prog X.w X.K X.mg X.base CX k f fd ps sp)(hr:Room (k+1) X.A)(hb:Binds X.K fd ps ds)(hd:Vals dvs ds)
  (hx:Passes CX X E) (I:Inv X pins σ H s) (r:Vals vs us)
  (h:∀ x dx,H x=none→H dx=none→dx≠x→sp (.ref x::(vs++dvs)) (upd (upd H dx (.own x)) x (.ins C dx [])) (fun v H2=>v=.non∧Q (.ref x) H2) E) :
  wpAny (model X.prog X.w) X.A (call (.ref C) us) (EP X pins σ Q) X.xe s:=by
 have hq:=h (s.heap.objs.size+1) s.heap.objs.size (I.hok.fresh (Nat.le_succ _)) (I.hok.fresh (La4 _)) (Lc4 (Li1 _));have I2:=Inv.made (C:=C) I;have r2:Vals (V.ref (s.heap.objs.size+1)::(vs++dvs)) (Value.ref (s.heap.objs.size+1)::(us++ds)):=.cons rfl (r.append hd)
 have hl:(Value.ref (s.heap.objs.size+1)::us++ds).length=ps.length:=by
  have e:=r2.length;rw[F.len _ _ _ _ hq] at e;exact e.symm
 refine wpAny_call (make_map (f:=f) I.kIn M.makes M.init (beq_iff_eq.mp M.fn) (codeAny_mono (F.run _ X.stack _ _ ⟨Value.ref (s.heap.objs.size+1)::us,[]⟩ (Value.ref (s.heap.objs.size+1)::(us++ds)) _ _ E (hr.make C us [])
  (I2.env0.make C us []) (hb _ (Value.ref (s.heap.objs.size+1)::us) I2.kIn hl) r2 hq) fun r s' hq'=>?_))
 cases r with
 | error e=>exact hx pins σ _ _ e s' I2 hq'
 | ok fl =>
  cases fl with
  | ret u =>
   obtain⟨v,H',I3,rv,ev,q3⟩:=I2.after hq';subst ev
   exact⟨rv,⟨V.ref (s.heap.objs.size+1),H',I3,rfl,q3⟩⟩
  | next=>exact False.elim hq'
  | brk=>exact False.elim hq'
  | cont=>exact False.elim hq'
theorem pe_make(M:Mk X.K C f)(F:FnOk X.prog X.w X.K X.mg X.base CX k f fd ps sp)(hr:Room (k+1) X.A)(hg:Gl X x)(hm:X.mg x=some (.ref C))(hb:Binds X.K fd ps ds)(hd:Vals dvs ds)(hx:Passes CX X E)
  (ha:PA X (e::es) t) (hdb:(x == ("__debug__":Str))=false:=by decide) (he:starEach (e::es) X.env=(false,eval e X.env)::starEach es X.env:=by rfl) (hpl:(backTo pos (starEach es X.env)).any (·.1)=false:=by rfl) :
  PE X (.Call (.Name x p) (e::es) [] pos) (tMake C sp dvs E t):=by
 intro pins s σ H Q I h;refine wpAny_Call_Name_kw (ld_glob I hg hm ?_ hdb);refine PySem.W.callWith_K (h₀:=X.base) I.ok.mod.kin M.kp (thn (ha pos pins s σ H _ I h) fun us s1 ⟨vs,H1,I1,r,q⟩=>⟨I1.kIn,?_⟩) he hpl;exact run_make M F hr hb hd hx I1 r q
end
section
variable {X:Cx} {CX:CXT} {k:Nat} {f C:Addr} {fd:FuncData} {ps ks:List Str} {sp:Sp} {E:XK} {x m:Str} {p pos apos kpos:Pos} {e o:Expr} {es:List Expr} {kws:List Keyword} {te ta:TE} {t tk:TA} {nm:Option Str}
variable {g:List Value→List Value→List Value} {gV:List V→List V→List V}
end
structure FnScope(N P:List Str)(sc:Scope):Prop where
 kind:sc.kind=.function
 co:sc.isCoroutine=false
 gen:sc.isGenerator=false
 nd:N.Nodup
 pre:N.take P.length=P
 par:∀ x∈P,sc.names.lookup x=some .local∨sc.names.lookup x=some .cell
 nofree:∀ y∈sc.names,y.2≠.free
theorem scD{N P:List Str}{sc:Scope}(a:sc.kind=.function)(b:sc.isCoroutine=false)(c:sc.isGenerator=false)(e:N.take P.length=P)(d:N.Nodup:=by decide +kernel)(f:∀ x∈P,sc.names.lookup x=some .local∨sc.names.lookup x=some .cell:=by decide +kernel)(g:∀ y∈sc.names,y.2≠.free:=by decide +kernel):FnScope N P sc:=⟨a,b,c,d,e,f,g⟩
theorem bindL_out{kindOf:Str→Option NameKind}{x:Str}:∀ {binds:List (Str×Value)} {m:Str→Option Value},(∀ v,(x,v)∉binds)→bindL kindOf binds m x=m x
 | [],_,_=>rfl
 | (n,v)::r,m,h=>by
  unfold bindL;rw[bindL_out fun w hw=>h w (Lb0 _ hw)]
  split
  ·have:x≠n:=by rintro rfl; exact h v La7
   simp[this]
  ·rfl
theorem bindC_out{kindOf:Str→Option NameKind}{x:Str}:∀ {binds:List (Str×Value)} {m:Str→Option Value},(∀ v,(x,v)∉binds)→bindC kindOf binds m x=m x
 | [],_,_=>rfl
 | (n,v)::r,m,h=>by
  unfold bindC;rw[bindC_out fun w hw=>h w (Lb0 _ hw)]
  split
  ·rfl
  ·have:x≠n:=by rintro rfl; exact h v La7
   simp[this]
theorem bindL_get{kindOf:Str→Option NameKind}{x:Str}{v:Value}:∀ {P:List Str} {vs:List Value} {i:Nat} {m:Str→Option Value},P.Nodup→P[i]?=some x→vs[i]?=some v→kindOf x=some .local →
  bindL kindOf (P.zip vs) m x=some v
 | [],_,_,_,_,h,_,_=>by simp at h
 | _::_,[],_,_,_,_,h,_=>by simp at h
 | p::P,w::vs,0,m,nd,h1,h2,hk=>by
  simp at h1 h2; subst h1; subst h2
  show bindL kindOf ((p,w)::P.zip vs) m p=_
  unfold bindL;rw[bindL_out fun v hv=>(List.nodup_cons.mp nd).1 (List.of_mem_zip hv).1,if_pos hk]
  simp
 | p::P,w::vs,i+1,m,nd,h1,h2,hk=>by
  show bindL kindOf ((p,w)::P.zip vs) m x=_
  unfold bindL;exact bindL_get (i:=i) (List.nodup_cons.mp nd).2 (by simpa using h1) (by simpa using h2) hk
theorem bindC_get{kindOf:Str→Option NameKind}{x:Str}{v:Value}:∀ {P:List Str} {vs:List Value} {i:Nat} {m:Str→Option Value},P.Nodup→P[i]?=some x→vs[i]?=some v→kindOf x≠some .local →
  bindC kindOf (P.zip vs) m x=some v
 | [],_,_,_,_,h,_,_=>by simp at h
 | _::_,[],_,_,_,_,h,_=>by simp at h
 | p::P,w::vs,0,m,nd,h1,h2,hk=>by
  simp at h1 h2; subst h1; subst h2
  show bindC kindOf ((p,w)::P.zip vs) m p=_
  unfold bindC;rw[bindC_out fun v hv=>(List.nodup_cons.mp nd).1 (List.of_mem_zip hv).1,if_neg hk]
  simp
 | p::P,w::vs,i+1,m,nd,h1,h2,hk=>by
  show bindC kindOf ((p,w)::P.zip vs) m x=_
  unfold bindC;exact bindC_get (i:=i) (List.nodup_cons.mp nd).2 (by simpa using h1) (by simpa using h2) hk
def start(N:List Str)(vs:List V):St:=vs.map some++List.replicate (N.length - vs.length) none
def cxOf(CX:CXT)(P:Program)(w:World)(K:PySem.W.Frag)(mg:Str→Option Value)(base:Heap)(N:List Str)(qual:Str)(scope:Scope)(f:Addr)(cd:Value)(A:Around)(outer:List Env)(s:Shared)(H:Hp)(E:XK):Cx where
 prog:=P
 w:=w
 K:=K
 mg:=mg
 base:=base
 A:=A.deeper (envOfC qual scope s.heap.objs.size f cd)
 N:=N
 s₀:=s
 H₀:=H
 env:=envOfC qual scope s.heap.objs.size f cd
 outer:=outer
 stack:=envOfC qual scope s.heap.objs.size f cd::outer
 ex:=[]
 calm:=true
 fn:=fun _=>true
 pn:=[]
 xe:=fun e s'=>wpAny (model P w) (A.deeper (envOfC qual scope s.heap.objs.size f cd)) (leaving (envOfC qual scope s.heap.objs.size f cd) e) (fun _ s''=>CX outer H s E e s'') (fun e' s''=>CX outer H s E e' s'') s'
theorem cell_has{sc:Scope}{n:Nat}{x:Str}(h:sc.names.lookup x=some .cell):∃ c,(cellsFrom n sc.names []).lookup x=some c:=by
 have q:=PySem.W.cellsFrom_some sc.names n [] (.inl h);exact Lh8.mp q
theorem inv_start{CX:CXT}{P:Program}{w:World}{K:PySem.W.Frag}{mg:Str→Option Value}{base:Heap}{N ps:List Str}{qual:Str}{scope:Scope}{f:Addr}{cd:Value}{A:Around}{outer:List Env}{s s1:Shared}{H:Hp}{E:XK}{us:List Value}{vs:List V}
  (S:FnScope N ps scope) (hd:A.handled=none) (e0:Env0 P w K mg base A outer s H) (hl:vs.length=ps.length) (r:Vals vs us)
  (x:InCallC s s.heap.objs.size (bindL (envOfC qual scope s.heap.objs.size f cd).kindOf (ps.zip us) fun _=>none) (cellsFrom (s.heap.objs.size+1) scope.names []) (bindC (envOfC qual scope s.heap.objs.size f cd).kindOf (ps.zip us) fun _=>none) s1) :
  Inv (cxOf CX P w K mg base N qual scope f cd A outer s H E) [] (start N vs) H s1:=by
 have hpl:ps.length≤N.length:=by have:=congrArg List.length S.pre; rw[Lb5] at this; omega
 obtain⟨h1,tk,rfl,hk⟩:=x.done;have noA:∀ b:Addr,b∉(cxOf CX P w K mg base N qual scope f cd A outer s H E).ex:=fun b z=>absurd (show b∈([]:List Addr) from z) (by simp)
 refine⟨⟨e0.mod,S.kind,rfl,rfl,La4 _,fun y z c h1 h2=>?_,fun y hy=>?_,fun y c _ h=>?_,fun _=>hd,Around.frames_deeper e0.frames,.inr ⟨rfl,rfl⟩,fun b z=>absurd z (noA b),e0.bs,e0.bsz,fun b _ _=>noA b,fun b z=>absurd z (noA b),e0.funs,e0.frf⟩,
  rfl,e0.bare,Un.kept hk,⟨_,x.toInCall.ns,fun i y v h1 h2 h3=>?_⟩,fun y c h=>⟨_,x.cell y c h⟩,e0.hok.fresh (La4 _),fun y c h=>?_,fun p hp=>absurd (show p∈([]:List (Addr×Obj)) from hp) (by simp),e0.hok.kept hk,?_⟩
 ·exact name_of_addr x.apart (PySem.mem_of_lookup h1) (PySem.mem_of_lookup h2)
 ·have hy:scope.names.lookup y=some .cell∨scope.names.lookup y=some .free:=hy
  rcases hy with hy | hy
  ·exact cell_has hy
  ·exact absurd rfl (S.nofree _ (PySem.mem_of_lookup hy))
 ·exact Lg8 (x.above y c (PySem.mem_of_lookup h))
 ·have hi:i<vs.length:=by
   unfold start at h2
   by_cases hi:i<vs.length
   ·exact hi
   ·rw[Le5 (by simpa using hi)] at h2;rw[List.getElem?_replicate] at h2
    split at h2 <;> cases h2
  have ha:vs[i]?=some v:=by
   unfold start at h2;rw[Lj1 (by simpa using hi),La6] at h2
   cases e:vs[i]? with
   | none=>rw[e] at h2; cases h2
   | some a=>rw[e] at h2; cases h2; rfl
  obtain⟨u,hu,rv⟩:=r.get ha
  have hp:ps[i]?=some y:=by
   rw[← S.pre,List.getElem?_take_of_lt (by omega)]; exact h1
  have ndP:ps.Nodup:=by rw[← S.pre]; exact S.nd.sublist (List.take_sublist _ _)
  refine⟨u,rv,?_⟩
  rcases S.par y (Lf2 hp) with k | k
  ·exact .inl ⟨k,bindL_get ndP hp hu k⟩
  ·obtain⟨c,e⟩:=cell_has (n:=s.heap.objs.size+1) k;refine .inr ⟨.inl k,c,e,?_⟩;have q:=x.cell y c e;rw[bindC_get ndP hp hu (by show scope.names.lookup y≠_; rw[k]; decide)] at q;exact q
 ·exact e0.hok.fresh (Lg8 (x.above y c (PySem.mem_of_lookup h)))
 ·unfold start
  show _=N.length
  rw[La2,La1,Lg9];omega
theorem fn_of{CX:CXT}{P:Program}{w:World}{K:PySem.W.Frag}{mg:Str→Option Value}{base:Heap}{k:Nat}{f:Addr}{name qual:Str}{params:Arguments}{body:List Stmt}{scope:Scope}{dV kV doc pm cdv ct oc:Value}{an od:Option Addr}
  {osl:Array (Option Value)} {N ps:List Str} {sp:Sp} (lk:K.lookup f=some ⟨oc,od,.func (PySem.W.fnOf name qual params body scope dV kV doc pm an cdv ct),osl⟩) (hcd:PySem.W.codeIn K cdv qual=true) (S:FnScope N ps scope)
  (len:∀ vs H Q E,sp vs H Q E→vs.length=ps.length)
  (hbody:∀ (A:Around) (outer:List Env) (s:Shared) (H:Hp) (vs:List V) (Q:VK) (E:XK),Room k (A.deeper (envOfC qual scope s.heap.objs.size f cdv))→sp vs H Q E →
   ∃ t,PSs (cxOf CX P w K mg base N qual scope f cdv A outer s H E) body t∧t { nx:=fun _ H'=>Q .non H',rt:=Q } (start N vs) H) :
  FnOk P w K mg base CX (k+1) f (PySem.W.fnOf name qual params body scope dV kV doc pm an cdv ct) ps sp:=by
 refine⟨len,fun A outer s H args us vs Q E hr e0 hb r hsp=>?_⟩;have hl:=len _ _ _ _ hsp;have KX:K.In s.heap:=e0.mod.kin.keeps fun b o e=>(e0.bs b o e).1;have lim:s.heap.NoLimit:=e0.mod.nolimit.keeps fun b o e=>(e0.bs b o e).1
 have hkind:∀ y∈ps.zip us,scope.names.lookup y.1=some .local∨(scope.names.lookup y.1=some .cell∧((cellsFrom (s.heap.objs.size+1) scope.names []).lookup y.1).isSome=true):=fun ⟨n,v⟩ hy=>by
  rcases S.par n (List.of_mem_zip hy).1 with q | q
  ·exact .inl q
  ·exact .inr ⟨q,PySem.W.cellsFrom_some _ _ _ (.inl q)⟩
 refine codeAny_call_function hr.depth (KX _ _ lk) rfl S.co S.gen rfl (PySem.W.codeRec_of KX hcd) (hb _ _ _ _ ?_);refine wpAny_newFunctionEnv_cells S.kind hkind fun env he s1 x=>?_;subst he;refine⟨lim.keeps x.toInCall.keep,codeAny_func ?_⟩;obtain⟨t,ht,hq⟩:=hbody A outer s H vs Q E (hr.deeper _) hsp;have I:Inv (cxOf CX P w K mg base N qual scope f cdv A outer s H E) [] (start N vs) H s1:=inv_start S hr.hd e0 hl r x;refine wpAny_mono (ht [] s1 (start N vs) H _ I hq) (fun fl s' hs=>?_) fun e s' hs=>hs
 have fin:∀ {σ':St} {H':Hp} {v:V} {u:Value},Inv (cxOf CX P w K mg base N qual scope f cdv A outer s H E) [] σ' H' s'→RelV v u→Q v H'→CE outer P w H s Q u s' :=
  fun {σ' H' v u} J rv q=>⟨v,H',J.os,J.bare,J.base,J.hok,rv,q⟩
 cases fl with
 | ret u =>
  obtain⟨v,σ',H',J,rv,q⟩:=hs
  exact fin J rv q
 | next =>
  obtain⟨σ',H',J,q⟩:=hs
  exact fin (v:=V.non) (u:=Value.none) J rfl q
 | brk =>
  obtain⟨_,_,_,q⟩:=hs
  exact False.elim q
 | cont =>
  obtain⟨_,_,_,q⟩:=hs;exact False.elim q
section
variable {X:Cx} {x:Str} {p pos:Pos} {e:Expr} {es:List Expr} {t:TA} {id T:String} {r:List V→Hp→VK→Prop}
def tCB(r:List V→Hp→VK→Prop)(t:TA):TE:=fun σ H Q=>t σ H fun vs H1=>r vs H1 Q
theorem pe_callB(hc:CallR X (.builtin id) r)(hg:Gl X x)(hm:X.mg x=none)(hv:bootBuiltins x=some (.builtin id))(ha:PA X (e::es) t)(hn:x≠"__name__":=by decide)(hdb:(x == ("__debug__":Str))=false:=by decide)
  (he:starEach (e::es) X.env=(false,eval e X.env)::starEach es X.env:=by rfl) (hpl:(backTo pos (starEach es X.env)).any (·.1)=false:=by rfl):PE X (.Call (.Name x p) (e::es) [] pos) (tCB r t):=by
 intro pins s σ H Q I h;refine wpAny_Call_Name_kw (ld_blt I hg hm hv ?_ hn hdb);exact PyProof.Rows.callWith_builtin1 (thn (ha pos pins s σ H _ I h) fun us s1 ⟨vs,H1,I1,r1,q1⟩=>hc pins s1 σ H1 vs us Q I1 r1 q1) he hpl
theorem pe_callTy(hc:CallR X (.type T) r)(hg:Gl X x)(hm:X.mg x=none)(hv:bootBuiltins x=some (.type T))(ha:PA X (e::es) t)(hn:x≠"__name__":=by decide)(hdb:(x == ("__debug__":Str))=false:=by decide)
  (he:starEach (e::es) X.env=(false,eval e X.env)::starEach es X.env:=by rfl) (hpl:(backTo pos (starEach es X.env)).any (·.1)=false:=by rfl):PE X (.Call (.Name x p) (e::es) [] pos) (tCB r t):=by
 intro pins s σ H Q I h;refine wpAny_Call_Name_kw (ld_blt I hg hm hv ?_ hn hdb);exact PyProof.Rows.callWith_type1 (thn (ha pos pins s σ H _ I h) fun us s1 ⟨vs,H1,I1,r1,q1⟩=>hc pins s1 σ H1 vs us Q I1 r1 q1) he hpl
end
end L2
namespace HT
open PySem PyProof.Rows
def lexLt:List Int→List Int→Bool
 | [],[]=>false
 | [],_::_=>true
 | _::_,[]=>false
 | x::xs,y::ys=>if x=y then lexLt xs ys else decide (x<y)
theorem eqAt_int(A:Around)(s:Shared)(a:Int)(t:Tok)(c:Int)(u:Tok):∃ e,SeqAt.EqAt A s (.int a t) (.int c u) e∧(e=true↔a=c) :=
 ⟨(a == c),SeqAt.EqAt.int_int a t c u,by simp⟩
theorem rcLt_int(A:Around)(s:Shared)(a:Int)(t:Tok)(c:Int)(u:Tok)(prog:Program)(w:World)(E:Value→Shared→Prop)(Q:Value→Shared→Prop)(h:Q (.bool (decide (a<c))) s) :
  wpAny (model prog w) A (richCompare .Lt (.int a t) (.int c u)) Q E s :=
 (PyProof.Rows.lt_int h:wpAny (model prog w) A (compareOp .Lt (.int a t) (.int c u)) Q E s)
section
open PySem.SeqAt
open PySem.AutoSeq1 (wpAny_loadPart')
open PySem.MeetsSeq PySem.MeetsSeq2 PySem.MeetsSeq3
end
section
variable {prog:Program} {w:World} {A:Around} {E:Value→Shared→Prop} {s:Shared}
theorem cat_tup{t b:Addr}{vs ws:List Value}{Q:Value→Shared→Prop}(ht:IsTup s.heap t vs.toArray)(hb:IsTup s.heap b ws.toArray)(hv:vs≠[])
  (h1:ws=[]→Q (.ref t) s) (h2:ws≠[]→Q (.ref s.heap.objs.size) { s with heap:=s.heap.push { cls:=.type "tuple",data:=.seq (vs++ws).toArray } })
  (hsz:vs.length+ws.length≤sizeLine):wpAny (model prog w) A (binaryOp .Add (.ref t) (.ref b)) Q E s:=by
 obtain⟨⟨cls,dd,data,sl⟩,ho,hc,n,hd⟩:=id ht;obtain⟨⟨cls2,dd2,data2,sl2⟩,ho2,hc2,n2,hd2⟩:=id hb;simp only at hc hd hc2 hd2;subst hc hd hc2 hd2;have e:vs.toArray++ws.toArray=(vs++ws).toArray:=by simp
 by_cases hw:ws=[]
 ·exact concat_meets ⟨_,ho,rfl⟩ ⟨_,ho2,rfl⟩ noFill_tuple_add seq_tuple_add PySem.F.slot_tuple_add PySem.F.entry_tuple_add (PySem.F.args_tuple_add_2 _ _)
   (tuple_addW1 t b vs.toArray ws.toArray n n2 dd dd2 sl sl2 (by simpa using hv) (by simp[hw])) ⟨ho,ho2,h1 hw⟩
 ·refine concat_meets ⟨_,ho,rfl⟩ ⟨_,ho2,rfl⟩ noFill_tuple_add seq_tuple_add PySem.F.slot_tuple_add PySem.F.entry_tuple_add (PySem.F.args_tuple_add_2 _ _)
   (tuple_addW2 t b vs.toArray ws.toArray n n2 dd dd2 sl sl2 (by simpa using hv) (by simpa using hw) (by rw[List.size_toArray,List.size_toArray]; exact hsz)) ⟨ho,ho2,?_⟩
  rw[e];exact h2 hw
def sIx(n d:Nat):Option Int→Nat
 | none=>d
 | some v=>if v<0 then (v+(n:Int)).toNat else min v.toNat n
theorem sIx_none(n d:Nat):sIx n d none=d:=rfl
theorem sIx_nat(n d k:Nat):sIx n d (some (k:Int))=min k n:=by
 show (if (k:Int)<0 then ((k:Int)+(n:Int)).toNat else min (k:Int).toNat n)=min k n
 rw[if_neg (by omega),Ld3]
theorem sIx_le(n d:Nat)(hd:d≤n)(o:Option Int):sIx n d o≤n:=by
 cases o with
 | none=>exact hd
 | some v =>
  show (if v<0 then (v+(n:Int)).toNat else min v.toNat n)≤n
  by_cases hv:v<0
  ·rw[if_pos hv]; omega
  ·rw[if_neg hv]; exact Nat.min_le_right _ _
theorem clip_eq(v:Int)(n d:Nat):(if v<0 then max (v+(n:Int)) 0 else min v (n:Int))=((sIx n d (some v):Nat):Int):=by
 show (if v<0 then max (v+(n:Int)) 0 else min v (n:Int))=(((if v<0 then (v+(n:Int)).toNat else min v.toNat n):Nat):Int)
 by_cases hv:v<0
 ·simp only[if_pos hv]; omega
 ·simp only[if_neg hv]; omega
theorem adjust_gen(lo hi:Option Int)(n:Nat):Builtin.Slice.sliceAdjust lo hi 1 (n:Int)=(((sIx n 0 lo:Nat):Int),((sIx n n hi:Nat):Int)):=by
 have h1:¬ ((1:Int)<0):=by omega
 unfold Builtin.Slice.sliceAdjust;simp only[h1,if_false];refine Prod.ext ?_ ?_
 ·cases lo with
  | none=>rfl
  | some v=>exact clip_eq v n 0
 ·cases hi with
  | none=>rfl
  | some v=>exact clip_eq v n n
theorem places_gen(i j:Nat):Builtin.Slice.slicePlaces (i:Int) (j:Int) 1=j - i:=by
 unfold Builtin.Slice.slicePlaces;have h1:(1:Int) > 0:=by omega
 simp only[h1,if_true,Int.ediv_one]
 split <;> omega
theorem slicePart_{v:Value}{o:Option Int}{Q:Option Int→Shared→Prop}(p:IsPart v o)(h:Q o s):wpAny (model prog w) A (Builtin.Slice.slicePartIndex v) Q E s:=by
 cases p with
 | none=>exact slicePart_none h
 | int i t=>exact slicePart_int h
theorem sliceApplied_gen{sl:Addr}{vl vu:Value}{lo hi:Option Int}{n:Nat}{Q:Int×Int×Nat→Shared→Prop}(hs:s.heap.IsSliceOf sl vl vu .none)(pl:IsPart vl lo)(pu:IsPart vu hi)
  (h:Q (((sIx n 0 lo:Nat):Int),1,sIx n n hi - sIx n 0 lo) s):wpAny (model prog w) A (Builtin.Slice.sliceApplied (.ref sl) (pure (n:Int))) Q E s:=by
 obtain⟨os,hos,hcs,hds⟩:=id hs;unfold Builtin.Slice.sliceApplied Builtin.Slice.sliceFields;refine wpAny_bind (wpAny_bind (wpAny_field hos hds (x:=vl) rfl (wpAny_bind (wpAny_field hos hds (x:=vu) rfl (wpAny_bind (wpAny_field hos hds (x:=.none) rfl (wpAny_pure ?_)))))));refine wpAny_bind (slicePart_none ?_)
 show wpAny _ _ (if ((1:Int) == 0)=true then _ else _) _ _ s
 rw[if_neg (by decide)];refine wpAny_bind (slicePart_ pl (wpAny_bind (slicePart_ pu (wpAny_bind (wpAny_pure ?_)))))
 show wpAny _ _ (match Builtin.Slice.sliceAdjust lo hi 1 (n:Int) with | (lo,hi)=>pure (lo,(1:Int),Builtin.Slice.slicePlaces lo hi 1)) _ _ s
 rw[adjust_gen lo hi n]
 show wpAny _ _ (pure (((sIx n 0 lo:Nat):Int),(1:Int),Builtin.Slice.slicePlaces ((sIx n 0 lo:Nat):Int) ((sIx n n hi:Nat):Int) 1)) _ _ s
 rw[places_gen];exact wpAny_pure h
theorem pick_gen(xs:Array Value)(i k:Nat):((List.range k).filterMap fun (m:Nat)=>xs[((i:Int)+(m:Int) * 1).toNat]?).toArray=((xs.toList.drop i).take k).toArray:=by
 have e:(fun (m:Nat)=>xs[((i:Int)+(m:Int) * 1).toNat]?)=fun m=>xs[i+m]?:=by
  funext m
  have:((i:Int)+(m:Int) * 1).toNat=i+m:=by omega
  rw[this]
 rw[e]
 have:=pick_run xs i k;rw[List.filterMap_map] at this;have e2:((fun x=>xs[x]?)∘fun x=>i+x)=fun m=>xs[i+m]?:=rfl;rw[e2] at this;rw[this]
theorem getItem_tuple_cut{t sl:Addr}{items:Array Value}{vl vu:Value}{lo hi:Option Int}{Q:Value→Shared→Prop}(ht:IsTup s.heap t items)(hs:s.heap.IsSliceOf sl vl vu .none)(pl:IsPart vl lo)(pu:IsPart vu hi)
  (hw:¬ (sIx items.size 0 lo=0∧sIx items.size items.size hi=items.size))
  (h:Q (.ref s.heap.objs.size) { s with heap:=s.heap.push { cls:=.type "tuple",data:=.seq ((items.toList.drop (sIx items.size 0 lo)).take (sIx items.size items.size hi - sIx items.size 0 lo)).toArray } })
  (hsz:items.size≤sizeLine):wpAny (model prog w) A (getItem (.ref t) (.ref sl)) Q E s:=by
 have htake:sizeOk (.seq ((items.toList.drop (sIx items.size 0 lo)).take (sIx items.size items.size hi - sIx items.size 0 lo)).toArray):=by
  show ((items.toList.drop (sIx items.size 0 lo)).take (sIx items.size items.size hi - sIx items.size 0 lo)).toArray.size≤sizeLine
  rw[La8,Lb5,Ld0,Lc1];omega
 have hj:sIx items.size items.size hi≤items.size:=sIx_le _ _ (La4 _) hi;obtain⟨os,hos,hcs,hds⟩:=id hs;have hTs:s.TypeIs (.ref sl) "slice":=⟨os,hos,hcs⟩;unfold getItem;try with_reducible refine wpAny_holding ?_
 first | refine wpAny_bind (wpAny_pure ?_) | skip
 refine wpAny_bind (wpAny_sequenceKey ht.typeIs (by decide) ?_)
 refine wpAny_bind (wpAny_callSpecial?_slot (name:=Str.ofString "__getitem__") ht.typeIs PyProof.Rows.slot_tuple_getitem
  (wpAny_call_entry PyProof.Rows.slot_tuple_getitem ht.typeIs entry_tuple_getitem ?_ (args_tuple_getitem _ _)))
 show wpAny _ _ (Builtin.Tuple.tupleItemsOf (.ref t) >>= _) _ _ s
 refine wpAny_bind (tupleItemsOf_ ht ?_);refine wpAny_bind (wpAny_typeOf hTs ?_);rw[if_pos (by decide)];refine wpAny_bind (sliceApplied_gen hs pl pu ?_)
 have hno:¬ ((((sIx items.size 0 lo:Nat):Int) == 0 && (1:Int) == 1 && (sIx items.size items.size hi - sIx items.size 0 lo) == items.size)=true):=by
  intro q;rw[Lj4,Lj4] at q;have q1:((sIx items.size 0 lo:Nat):Int)=0:=eq_of_beq q.1.1;have q2:sIx items.size items.size hi - sIx items.size 0 lo=items.size:=eq_of_beq q.2;exact hw ⟨by omega,by omega⟩
 show wpAny _ _ (if (((sIx items.size 0 lo:Nat):Int) == 0 && (1:Int) == 1 && (sIx items.size items.size hi - sIx items.size 0 lo) == items.size)=true then _ else _) _ _ s
 rw[if_neg hno,pick_gen]
 first
  | exact wpAny_bind (m:=Builtin.Tuple.tupleExact _) (wpAny_newObj_type (wpAny_pure ⟨_,rfl,wpAny_pure h⟩) htake)
  | exact wpAny_bind (m:=Builtin.Tuple.tupleExact _) (wpAny_newObj_type (wpAny_bind (wpAny_pure (wpAny_pure ⟨_,rfl,wpAny_pure h⟩))) htake)
  | exact wpAny_bind (wpAny_bind (m:=Builtin.Tuple.tupleExact _) (wpAny_newObj_type (wpAny_pure (wpAny_pure ⟨_,rfl,wpAny_pure h⟩)) htake))
  | exact wpAny_bind (wpAny_bind (m:=Builtin.Tuple.tupleExact _) (wpAny_newObj_type (wpAny_pure ⟨_,rfl,wpAny_pure h⟩) htake))
end
end HT
namespace L2
open PySem PySem.Spec PyProof.Rows
abbrev TO:=St→Hp→(Option Int→Hp→Prop)→Prop
def PO(X:Cx)(e:Option Expr)(t:TO):Prop :=
 ∀ (pins:List (Addr×Obj)) (s:Shared) (σ:St) (H:Hp) (Q:Option Int→Hp→Prop),Inv X pins σ H s→t σ H Q →
  wpAny (model X.prog X.w) X.A (evalPart e X.env) (fun u s'=>∃ o H',Inv X pins σ H' s'∧IsPart u o∧Q o H') X.xe s
def tNoPart:TO:=fun _ H Q=>Q none H
def tPart(t:TE):TO:=fun σ H Q=>t σ H fun x H1=>∃ i,x=.int i∧Q (some i) H1
theorem intsAre_of{ns:List Int}:∀ {us:List Value},Vals (ns.map V.int) us→IntsAre us ns:=by
 induction ns with
 | nil=>intro us r; rw[List.map_nil] at r; cases r; exact .nil
 | cons n ns ih =>
  intro us r;rw[Lc2] at r
  cases r with
  | cons r1 r2 =>
   obtain⟨t,e⟩:=r1;subst e;exact .cons n t (ih r2)
section
variable {X:Cx} {e:Expr} {te:TE} {lo hi:Option Expr} {tl th:TO} {pos p2:Pos}
theorem po_none:PO X none tNoPart:=by
 intro pins s σ H Q I h;rw[evalPart_none];exact wpAny_pure ⟨none,H,I,.none,h⟩
theorem po_some(h:PE X e te):PO X (some e) (tPart te):=by
 intro pins s σ H Q I hw;rw[evalPart_some];refine thn (h pins s σ H _ I hw) fun u s1 hZr=>?_;obtain⟨x,H1,I1,r1,q1⟩:=hZr;obtain⟨i,rfl,q⟩:=q1;obtain⟨t,rfl⟩:=r1;exact⟨some i,H1,I1,.int i t,q⟩
def SlR(X:Cx)(r:V→Option Int→Option Int→Hp→VK→Prop):Prop :=
 ∀ (pins:List (Addr×Obj)) (s:Shared) (σ:St) (H:Hp) (x:V) (v vl vu:Value) (lo hi:Option Int) (sl:Addr) (Q:VK),Inv X pins σ H s→RelV x v→s.heap.IsSliceOf sl vl vu .none→IsPart vl lo→IsPart vu hi→r x lo hi H Q →
  ∃ T id,typeLookup (.type T) "__getitem__"=pure (some (.builtin id))∧s.TypeIs v T∧wpAny (model X.prog X.w) X.A (getItem v (.ref sl)) (EP X pins σ Q) X.xe s
def tSl(r:V→Option Int→Option Int→Hp→VK→Prop)(te:TE)(tl th:TO):TE:=fun σ H Q=>te σ H fun x H1=>tl σ H1 fun l H2=>th σ H2 fun u H3=>r x l u H3 Q
theorem pe_slice{r:V→Option Int→Option Int→Hp→VK→Prop}(hr:SlR X r)(he:PE X e te)(hl:PO X lo tl)(hu:PO X hi th):PE X (.Subscript e (.Slice lo hi none p2) pos) (tSl r te tl th):=by
 intro pins s σ H Q I h;refine Subscript_ (thn (he pins s σ H _ I h) fun v s1 hZr=>?_);obtain⟨x,H1,I1,r1,q1⟩:=hZr;refine wpAny_Slice (thn (hl pins s1 σ H1 _ I1 q1) fun vl s2 ⟨l,H2,I2,pl,q2⟩=>thn (hu pins s2 σ H2 _ I2 q2) fun vu s3 hZr=>?_);obtain⟨u,H3,I3,pu,q3⟩:=hZr;rw[evalPart_none];refine wpAny_pure ?_;have I4:Inv X pins σ H3 { s3 with heap:=s3.heap.push { cls:=.type "slice",data:=.fields #[vl,vu,.none] } }:=I3.kept (t':=s3.toks) fun b ob q=>Heap.get?_push_of_some _ q
 obtain⟨T,id,hT,ht,hg⟩:=hr pins { s3 with heap:=s3.heap.push { cls:=.type "slice",data:=.fields #[vl,vu,.none] } } σ H3 x v vl vu l u s3.heap.objs.size Q I4 r1 (Heap.IsSliceOf.new ..) pl pu q3
 show wpAny (model X.prog X.w) X.A (subscriptTail e (.Slice lo hi none p2) v (.ref s3.heap.objs.size)) (EP X pins σ Q) X.xe { s3 with heap:=s3.heap.push { cls:=.type "slice",data:=.fields #[vl,vu,.none] } }
 exact tail_any (ops:=[.ref s3.heap.objs.size,v]) ht hT hg (by with_unfolding_all rfl)
def cutV(xs:List V)(lo hi:Option Int):List V:=(xs.drop (HT.sIx xs.length 0 lo)).take (HT.sIx xs.length xs.length hi - HT.sIx xs.length 0 lo)
theorem cutV_length(xs:List V)(lo hi:Option Int):(cutV xs lo hi).length≤xs.length:=by
 unfold cutV;rw[Lb5,Ld0];omega
def rSlT(K:PySem.W.Frag):V→Option Int→Option Int→Hp→VK→Prop:=fun x lo hi H Q=>∃ a xs,x=.ref a∧SqT K H a xs ∧
 ¬ (HT.sIx xs.length 0 lo=0∧HT.sIx xs.length xs.length hi=xs.length)∧∀ p,H p=none→Q (.ref p) (upd H p (.tup (cutV xs lo hi)))
theorem sl_tup:SlR X (rSlT X.K):=by
 intro pins s σ H x v vl vu lo hi sl Q I rx hs pl pu h;obtain⟨a,xs,rfl,hx,hw,q⟩:=h;cases rx;obtain⟨its,r,ht,hz⟩:=I.tuple hx;have hlen:its.toArray.size=xs.length:=by rw[La8]; exact r.length.symm
 refine⟨"tuple",_,PyProof.Rows.slot_tuple_getitem.lookup,ht.typeIs,?_⟩;refine HT.getItem_tuple_cut ht hs pl pu (by rw[hlen]; exact hw) ?_ (by rw[hlen]; exact hz);rw[hlen];refine⟨.ref s.heap.objs.size,_,I.laid (t':=s.toks) (o:=.tup (cutV xs lo hi)) (fun b ob q=>Heap.get?_push_of_some _ q) (La4 _) ?_,rfl,q _ (I.hok.fresh (La4 _))⟩;exact⟨Ld6 (cutV_length xs lo hi) hz,_,(r.drop (HT.sIx xs.length 0 lo)).take (HT.sIx xs.length xs.length hi - HT.sIx xs.length 0 lo),IsTup.new _ _⟩
def rCatT(K:PySem.W.Frag):R2:=fun x y H Q=>∃ a b xs ys,x=.ref a∧y=.ref b∧SqT K H a xs∧SqT K H b ys∧xs≠[]∧xs.length+ys.length≤sizeLine ∧
 (ys=[]→Q (.ref a) H)∧(ys≠[]→∀ p,H p=none→Q (.ref p) (upd H p (.tup (xs++ys))))
theorem Vals.nil_iff{xs:List V}{us:List Value}(r:Vals xs us):us=[]↔xs=[]:=by
 cases r with
 | nil=>simp
 | cons _ _=>simp
theorem op_catT:OpR X (binaryOp .Add) (rCatT X.K):=by
 intro pins s σ H x y v u Q I rx ry h;obtain⟨a,b,xs,ys,rfl,rfl,ha,hb,hx,hz,q1,q2⟩:=h;cases rx;cases ry;obtain⟨its,r1,p1,_⟩:=I.tuple ha;obtain⟨its2,r2,p2,_⟩:=I.tuple hb;refine HT.cat_tup p1 p2 (fun z=>hx (r1.nil_iff.mp z)) (fun z=>⟨.ref a,H,I,rfl,q1 (r2.nil_iff.mp z)⟩) (fun z=>?_) (by rw[← r1.length,← r2.length]; exact hz);refine⟨.ref s.heap.objs.size,_,I.laid (t':=s.toks) (o:=.tup (xs++ys)) (fun b ob q=>Heap.get?_push_of_some _ q) (La4 _) ?_,rfl,q2 (fun w=>z (r2.nil_iff.mpr w)) _ (I.hok.fresh (La4 _))⟩;exact⟨by rw[La2]; exact hz,_,r1.append r2,IsTup.new _ _⟩
end
def ixN(n:Nat)(i:Int):Option Nat:=if 0≤i then (if i<n then some i.toNat else none) else if -(n:Int)≤i then some (i+n).toNat else none
def atI{α:Type}(xs:List α)(i:Int):Option α:=(ixN xs.length i).bind fun j=>xs[j]?
theorem ixN_seq{n:Nat}{i:Int}{j:Nat}(h:ixN n i=some j):seqIndex? i n=some j∧j<n∧-(n:Int)≤i∧i<n:=by
 unfold ixN at h
 by_cases h0:0≤i
 ·rw[if_pos h0] at h
  by_cases h1:i<n
  ·rw[if_pos h1] at h;have e:i.toNat=j:=Option.some.inj h;exact⟨by rw[seqIndex_of h0 h1,e],by omega,by omega,h1⟩
  ·rw[if_neg h1] at h; cases h
 ·rw[if_neg h0] at h
  by_cases h1:-(n:Int)≤i
  ·rw[if_pos h1] at h;have e:(i+n).toNat=j:=Option.some.inj h;exact⟨by rw[seqIndex_neg (by omega) h1,e],by omega,h1,by omega⟩
  ·rw[if_neg h1] at h; cases h
theorem atI_get{α:Type}{xs:List α}{i:Int}{v:α}(h:atI xs i=some v):∃ j,seqIndex? i xs.length=some j∧xs[j]?=some v∧j<xs.length∧-(xs.length:Int)≤i∧i<xs.length:=by
 unfold atI at h
 cases e:ixN xs.length i with
 | none=>rw[e] at h; cases h
 | some j =>
  rw[e] at h;obtain⟨h1,h2,h3,h4⟩:=ixN_seq e;exact⟨j,h1,h,h2,h3,h4⟩
theorem atI_nat{α:Type}{xs:List α}{j:Nat}{v:α}(h:xs[j]?=some v):atI xs (j:Int)=some v:=by
 have hj:j<xs.length:=(La5.mp h).1
 have e:ixN xs.length (j:Int)=some j:=by
  unfold ixN;rw[if_pos (by omega),if_pos (by omega)]; simp
 unfold atI; rw[e]; exact h
def PlainIx(b:Expr):Prop:=∀ o i,subscripted b false o i=operate [o,i] (getItem o i)
def IxR(X:Cx)(r:R2):Prop :=
 ∀ (value slice:Expr) (pins:List (Addr×Obj)) (s:Shared) (σ:St) (H:Hp) (x y:V) (v u:Value) (Q:VK),Inv X pins σ H s→RelV x v→RelV y u→r x y H Q →
  subscripted slice false v u=operate [v,u] (getItem v u)→wpAny (model X.prog X.w) X.A (subscriptTail value slice v u) (EP X pins σ Q) X.xe s
def MtR(X:Cx)(id:String)(r:V→List V→Hp→VK→Prop):Prop :=
 ∀ (pins:List (Addr×Obj)) (s:Shared) (σ:St) (H:Hp) (x:V) (xs:List V) (v:Value) (us:List Value) (Q:VK),Inv X pins σ H s→RelV x v→Vals xs us→r x xs H Q →
  wpAny (model X.prog X.w) X.A (call (.builtin id) (v::us)) (EP X pins σ Q) X.xe s
section
variable {X:Cx} {a b:Expr} {ta tb:TE} {pos:Pos}
theorem pe_ix{r:R2}(hr:IxR X r)(ha:PE X a ta)(hb:PE X b tb)(hs:PlainIx b):PE X (.Subscript a b pos) (tOp r ta tb):=by
 intro pins s σ H Q I h;exact Subscript_ (binT ha hb I h fun v u s2 x y H2 I2 rx ry q=>hr a b pins s2 σ H2 x y v u Q I2 rx ry q (hs _ _))
def rIxL(K:PySem.W.Frag):R2:=fun x y H Q=>∃ p xs i v,x=.ref p∧y=.int i∧SqL K H p xs∧atI xs i=some v∧Q v H
def rIxT(K:PySem.W.Frag):R2:=fun x y H Q=>∃ p xs i v,x=.ref p∧y=.int i∧SqT K H p xs∧atI xs i=some v∧Q v H
def rIxS:R2:=fun x y H Q=>∃ z i c,x=.str z∧y=.int i∧z.length≤sizeLine∧atI z.cps.toList i=some c∧Q (.str ⟨#[c]⟩) H
theorem ix_list:IxR X (rIxL X.K):=by
 intro value slice pins s σ H x y v u Q I rx ry h hs;obtain⟨p,xs,i,z,rfl,rfl,hq,he,q⟩:=h;cases rx;obtain⟨t,rfl⟩:=ry;obtain⟨its,r,pl,hz⟩:=I.list hq;obtain⟨j,h1,h2,h3,h4,h5⟩:=atI_get he;obtain⟨w,ew,rw'⟩:=r.get h2;have hl:=r.length;have hn:=line63;have fin:EP X pins σ Q w s:=⟨z,H,I,rw',q⟩
 by_cases h0:0≤i
 ·have hj:i.toNat=j:=by
   rw[seqIndex_of h0 h5] at h1;exact Option.some.inj h1
  exact item_listR pl.isList h0 (by omega) (by rw[hj]; simpa using ew) fin hs
 ·have hj:(i+(its.toArray.size:Int)).toNat=j:=by
   rw[seqIndex_neg (by omega) h4] at h1;rw[La8,← hl];exact Option.some.inj h1
  exact subscriptTail_builtinR (x:=w) pl.isList.typeIs slot_list_getitem.lookup
   (wpAny_getItem_list_neg (Q:=fun r s'=>r=w∧EP X pins σ Q r s') pl.isList (by omega) (by rw[La8] <;> omega) (by omega) (by rw[hj]; simpa using ew) ⟨rfl,fin⟩) hs
theorem ix_tup:IxR X (rIxT X.K):=by
 intro value slice pins s σ H x y v u Q I rx ry h hs;obtain⟨p,xs,i,z,rfl,rfl,hq,he,q⟩:=h;cases rx;obtain⟨t,rfl⟩:=ry;obtain⟨its,r,pl,hz⟩:=I.tuple hq;obtain⟨j,h1,h2,h3,h4,h5⟩:=atI_get he;obtain⟨w,ew,rw'⟩:=r.get h2;have hl:=r.length;have hn:=line63;have fin:EP X pins σ Q w s:=⟨z,H,I,rw',q⟩
 exact subscriptTail_builtinR (x:=w) pl.typeIs slot_tuple_getitem.lookup
  (getItem_tuple (j:=j) (Q:=fun r s'=>r=w∧EP X pins σ Q r s') pl (by omega) (by omega) (by rw[La8,← hl]; exact h1) (by simpa using ew) ⟨rfl,fin⟩) hs
theorem ix_str:IxR X rIxS:=by
 intro value slice pins s σ H x y v u Q I rx ry h hs;obtain⟨z,i,c,rfl,rfl,hz,he,q⟩:=h;obtain⟨t,rfl⟩:=rx;obtain⟨t',rfl⟩:=ry;obtain⟨j,h1,h2,h3,h4,h5⟩:=atI_get he;have hl:z.cps.toList.length=z.length:=by simp[Str.length]
 rw[hl] at h1 h4 h5;have hn:=line63
 exact tail_any (typeIs_str s z t) slot_str_getitem.lookup (getItem_str (c:=c) (by
  have e1:decide (i < -(2 ^ 63:Int))=false:=decide_eq_false (by omega);have e2:decide (i≥2 ^ 63)=false:=decide_eq_false (by omega)
  rw[e1,e2,Bool.or_false]) (by rw[h1]; simpa using h2) ⟨.str ⟨#[c]⟩,H,I.tok _,⟨_,rfl⟩,q⟩) hs
theorem slice_bounds(lo hi:Option Int)(n:Nat):(sliceBounds lo hi none n).1=((HT.sIx n 0 lo:Nat):Int)∧(sliceBounds lo hi none n).2.1=((HT.sIx n n hi:Nat):Int)∧(sliceBounds lo hi none n).2.2=1:=by
 refine⟨?_,?_,rfl⟩
 ·cases lo with
  | none=>simp[sliceBounds,HT.sIx]
  | some i =>
   simp only[sliceBounds,HT.sIx,Option.getD_none,show (1:Int) > 0 by decide,if_true]
   by_cases h:i<0
   ·simp only[h,if_true] <;> omega
   ·simp only[h,if_false] <;> omega
 ·cases hi with
  | none=>simp[sliceBounds,HT.sIx]
  | some i =>
   simp only[sliceBounds,HT.sIx,Option.getD_none,show (1:Int) > 0 by decide,if_true]
   by_cases h:i<0
   ·simp only[h,if_true] <;> omega
   ·simp only[h,if_false] <;> omega
theorem slicePick_cut(its:List Value)(lo hi:Option Int):slicePick its.toArray lo hi none=((its.drop (HT.sIx its.length 0 lo)).take (HT.sIx its.length its.length hi - HT.sIx its.length 0 lo)).toArray:=by
 obtain⟨h1,h2,h3⟩:=slice_bounds lo hi its.toArray.size;unfold slicePick;rw[h1,h2,h3];simp only[sliceRange_one,pick_run,List.size_toArray] <;> rfl
def rSlL(K:PySem.W.Frag):V→Option Int→Option Int→Hp→VK→Prop:=fun x lo hi H Q=>∃ a xs,x=.ref a∧SqL K H a xs∧∀ p,H p=none→Q (.ref p) (upd H p (.lst (cutV xs lo hi)))
theorem sl_list:SlR X (rSlL X.K):=by
 intro pins s σ H x v vl vu lo hi sl Q I rx hs pl pu h;obtain⟨a,xs,rfl,hx,q⟩:=h;cases rx;obtain⟨its,r,ht,hz⟩:=I.list hx;have hlen:=r.length;refine⟨"list",_,slot_list_getitem.lookup,ht.isList.typeIs,?_⟩;refine wpAny_getItem_list_slice ht.isList hs pl pu .none (by simp) ?_ (by rw[List.size_toArray] <;> omega)
 rw[slicePick_cut,← hlen];refine⟨.ref s.heap.objs.size,_,I.laid (t':=s.toks) (o:=.lst (cutV xs lo hi)) (fun b ob q=>Heap.get?_push_of_some _ q) (La4 _) ?_,rfl,q _ (I.hok.fresh (La4 _))⟩;exact⟨Ld6 (cutV_length xs lo hi) hz,_,0,(r.drop (HT.sIx xs.length 0 lo)).take (HT.sIx xs.length xs.length hi - HT.sIx xs.length 0 lo),Heap.get?_push_size _ rfl⟩
theorem call_len_seq:CallR X (.builtin "len") (fun xs H Q=>∃ p ys,xs=[.ref p]∧(SqL X.K H p ys∨SqT X.K H p ys)∧Q (.int ys.length) H):=by
 intro pins s σ H xs us Q I r h;obtain⟨p,ys,rfl,hq,q⟩:=h;obtain⟨u,rfl,rx⟩:=vals1 r;cases rx;have hn:=line63
 rcases hq with hq | hq
 ·obtain⟨its,r',pl,hz⟩:=I.list hq;have hlen:=r'.length;exact Calls.call_len_list pl.isList (by simp only[List.size_toArray] <;> omega) ⟨.int ys.length,H,I.tok _,⟨s.toks+1,by rw[La8,hlen]⟩,q⟩
 ·obtain⟨its,r',pl,hz⟩:=I.tuple hq;have hlen:=r'.length;exact len_tuple pl (by simp only[List.size_toArray] <;> omega) ⟨.int ys.length,H,I.tok _,⟨s.toks+1,by rw[La8,hlen]⟩,q⟩
theorem call_list_of:CallR X (.type "list") (fun xs H Q=>∃ p ys,xs=[.ref p]∧(SqL X.K H p ys∨SqT X.K H p ys)∧∀ l,H l=none→Q (.ref l) (upd H l (.lst ys))):=by
 intro pins s σ H xs us Q I r h;obtain⟨p,ys,rfl,hq,q⟩:=h;obtain⟨u,rfl,rx⟩:=vals1 r;cases rx
 have fin:∀ (its:List Value),Vals ys its→ys.length≤sizeLine→∀ (h':Heap) (c':Nat),(∀ b o',s.heap.get? b=some o'→h'.get? b=some o') →
   h'.get? s.heap.objs.size=some { cls:=.type "list",dict:=none,data:=.seq its.toArray c',slots:=#[] }→EP X pins σ Q (.ref s.heap.objs.size) { s with heap:=h' }:=fun its r' hz h' c' kp e =>
  ⟨.ref s.heap.objs.size,_,I.laid (t':=s.toks) kp (La4 _) (show ObjOk X.prog X.w _ h' _ (.lst ys) from ⟨hz,its,c',r',e⟩),rfl,q _ (I.hok.fresh (La4 _))⟩
 rcases hq with hq | hq
 ·obtain⟨its,r',pl,hz⟩:=I.list hq;have hlen:=r'.length;obtain⟨o,ho,hc,n,hd⟩:=pl.isList;exact call_list_seq p (.inl rfl) ho hc hd (fun h' c' kp e=>fin its r' hz h' c' kp e) (by simp only[List.size_toArray] <;> omega)
 ·obtain⟨its,r',pl,hz⟩:=I.tuple hq;have hlen:=r'.length;obtain⟨o,ho,hc,n,hd⟩:=pl;exact call_list_seq p (.inr rfl) ho hc hd (fun h' c' kp e=>fin its r' hz h' c' kp e) (by simp only[List.size_toArray] <;> omega)
theorem call_tuple_of:CallR X (.type "tuple") (fun xs H Q=>∃ p ys,xs=[.ref p]∧((SqL X.K H p ys∧∀ l,H l=none→Q (.ref l) (upd H l (.tup ys)))∨(SqT X.K H p ys∧Q (.ref p) H))):=by
 intro pins s σ H xs us Q I r h;obtain⟨p,ys,rfl,h⟩:=h;obtain⟨u,rfl,rx⟩:=vals1 r;cases rx
 rcases h with ⟨hq,q⟩ | ⟨hq,q⟩
 ·obtain⟨its,r',pl,hz⟩:=I.list hq;have hlen:=r'.length;refine call_tuple_list pl.isList (fun h' kp=>?_) (by simp only[List.size_toArray] <;> omega)
  have I1:Inv X pins σ H { s with heap:=h' }:=I.kept (t':=s.toks) kp
  have I2:Inv X pins σ (upd H h'.objs.size (.tup ys)) { s with heap:=h'.push { cls:=.type "tuple",data:=.seq its.toArray } } :=
   I1.laid (t':=s.toks) (fun b o e=>Heap.get?_push_of_some _ e) (La4 _) (show ObjOk X.prog X.w _ _ _ (.tup ys) from ⟨hz,its,r',IsTup.new _ _⟩)
  exact⟨.ref h'.objs.size,_,I2,rfl,q _ (I1.hok.fresh (La4 _))⟩
 ·obtain⟨its,r',pl,hz⟩:=I.tuple hq;exact call_tuple_same pl ⟨.ref p,H,I,rfl,q⟩
def tyV(K:PySem.W.Frag)(T:String)(x:V)(H:Hp):Prop:=match x with
 | .str _=>T="str"
 | .int _=>T="int"
 | .ref p=>(T="list"∧∃ xs,SqL K H p xs)∨(T="tuple"∧∃ o,K.lookup p=some o∧o.cls=.type "tuple"∧o.dict=none) ∨
   (T="dict"∧((∃ kvs,H p=some (.dK kvs))∨∃ kvs,H p=some (.dT kvs)))∨(T="set"∧∃ S n,H p=some (.set S n))
 | _=>False
theorem tyV_is{pins:List (Addr×Obj)}{σ:St}{H:Hp}{s:Shared}{T:String}{x:V}{v:Value}(I:Inv X pins σ H s)(r:RelV x v)(ty:tyV X.K T x H) :
  s.TypeIs v T∧∀ a,v=.ref a→∃ ob,s.heap.get? a=some ob∧ob.dict=none:=by
 cases x with
 | str z =>
  obtain⟨t,rfl⟩:=r;cases (show T="str" from ty)
  exact⟨typeIs_str s z t,fun _ e=>nomatch e⟩
 | int i =>
  obtain⟨t,rfl⟩:=r;cases (show T="int" from ty)
  exact⟨typeIs_int s i t,fun _ e=>nomatch e⟩
 | ref p =>
  cases r
  rcases ty with ⟨rfl,xs,hq⟩ | ⟨rfl,o,hk,hc,hd⟩ | ⟨rfl,hk⟩ | ⟨rfl,S,n,hk⟩
  ·obtain⟨its,_,pl,_⟩:=I.list hq;refine⟨pl.isList.typeIs,fun a e=>?_⟩;cases e;obtain⟨o,n,e,c,hd,_⟩:=pl;exact⟨o,e,hd⟩
  ·refine⟨⟨o,I.kIn p o hk,hc⟩,fun a e=>?_⟩;cases e;exact⟨o,I.kIn _ o hk,hd⟩
  ·have z:∃ o,s.heap.get? p=some o∧o.ExactDict:=by
    rcases hk with ⟨kvs,hk⟩ | ⟨kvs,hk⟩
    ·obtain⟨_,_,_,_,o,_,_,e,ex,_⟩:=I.hok p _ hk;exact⟨o,e,ex⟩
    ·obtain⟨_,_,_,_,o,_,_,e,ex,_⟩:=I.hok p _ hk;exact⟨o,e,ex⟩
   obtain⟨o,e,ex⟩:=z;refine⟨⟨o,e,ex.1⟩,fun a e2=>?_⟩;cases e2;exact⟨o,e,ex.2.1⟩
  ·obtain⟨o,_,_,_,e,ex,_⟩:=I.hok p _ hk;refine⟨⟨o,e,ex.1⟩,fun a e2=>?_⟩;cases e2
   exact⟨o,e,ex.2.1⟩
 | _=>exact False.elim ty
def tBM0(K:PySem.W.Frag)(T:String)(r:V→List V→Hp→VK→Prop)(to:TE):TE:=fun σ H Q=>to σ H fun x H1=>tyV K T x H1∧r x [] H1 Q
def tBM(K:PySem.W.Frag)(T:String)(r:V→List V→Hp→VK→Prop)(to:TE)(t:TA):TE:=fun σ H Q=>to σ H fun x H1=>tyV K T x H1∧t σ H1 fun xs H2=>r x xs H2 Q
variable {o e:Expr} {es:List Expr} {to:TE} {t:TA} {name:Str} {apos cpos:Pos} {T id:String} {r:V→List V→Hp→VK→Prop}
theorem pe_bm0(pa:PlainAttrs T)(slot:Slot T name id)(hty:typeOf (.builtin id)=pure (.type "method_descriptor"))(hm:MtR X id r)(ho:PE X o to)
  (hbase:attributeBase o name X.env (eval o X.env)=eval o X.env:=by rfl) (hline:(apos.endLine == cpos.line)=true:=by rfl):PE X (.Call (.Attribute o name apos) [] [] cpos) (tBM0 X.K T r to):=by
 intro pins s σ H Q I h;refine wpAny_Call_method0_late hbase hline (thn (ho pins s σ H _ I h) fun v s1 hZr=>?_);obtain⟨x,H1,I1,r1,ty,q1⟩:=hZr;obtain⟨h1,h2⟩:=tyV_is I1 r1 ty;exact⟨T,id,pa,slot,hty,h1,h2,Calls.callWith_builtin rfl (PySem.evalArgs_none (hm pins s1 σ H1 x [] v [] Q I1 r1 .nil q1))⟩
theorem pe_bm(pa:PlainAttrs T)(slot:Slot T name id)(hty:typeOf (.builtin id)=pure (.type "method_descriptor"))(hm:MtR X id r)(ho:PE X o to)(ha:PA X (e::es) t)
  (hbase:attributeBase o name X.env (eval o X.env)=eval o X.env:=by rfl)
  (hfew:((backTo cpos (starEach (e::es) X.env)).all (fun x=>!x.1) && (backToKw cpos (keywordEach [] X.env)).all (fun x=>x.1.isSome)
   && decide ((e::es).length+([]:List Keyword).length+(if ([]:List Keyword).isEmpty then 0 else 1)<30))=true:=by rfl)
  (hline:(apos.endLine == cpos.line)=true:=by rfl) (hs:starEach (e::es) X.env=(false,eval e X.env)::starEach es X.env:=by rfl) (hplain:(backTo cpos (starEach es X.env)).any (·.1)=false:=by rfl) :
  PE X (.Call (.Attribute o name apos) (e::es) [] cpos) (tBM X.K T r to t):=by
 intro pins s σ H Q I h;refine wpAny_Call_method_late hbase hfew hline rfl (thn (ho pins s σ H _ I h) fun v s1 hZr=>?_);obtain⟨x,H1,I1,r1,ty,q1⟩:=hZr;obtain⟨h1,h2⟩:=tyV_is I1 r1 ty;refine⟨T,id,pa,slot,hty,h1,h2,?_⟩;have hA:=ha cpos pins s1 σ H1 _ I1 q1;rw[hs] at hA ⊢;refine Calls.callWith_builtin (by show (false || (backTo cpos (starEach es X.env)).any (·.1))=false; rw[hplain] <;> rfl) (Calls.evalArgs_plain ?_)
 exact thn hA fun us s2 ⟨vs,H2,I2,r2,q2⟩=>hm pins s2 σ H2 x vs v us Q I2 r1 r2 q2
end
def MtM(X:Cx)(id:String)(r:V→List V→Hp→VK→Prop):Prop :=
 ∀ (pins:List (Addr×Obj)) (s:Shared) (σ:St) (H:Hp) (x:V) (xs:List V) (v:Value) (us:List Value) (Q:VK),Inv X pins σ H s→RelV x v→Vals xs us→r x xs H Q →
  wpAny (model X.prog X.w) X.A (call (.builtin id) (v::us)) (EP X pins σ Q) X.xe s
theorem Vals.one{x:V}{us:List Value}(h:Vals [x] us):∃ u,us=[u]∧RelV x u:=by
 cases h with
 | cons r t=>cases t; exact⟨_,rfl,r⟩
theorem Vals.zero:∀ {us:List Value},Vals [] us→us=[]
 | _,.nil=>rfl
theorem Vals.dropLast{xs:List V}{us:List Value}(h:Vals xs us):Vals xs.dropLast us.dropLast:=by
 induction h with
 | nil=>exact .nil
 | cons r t ih =>
  cases t with
  | nil=>exact .nil
  | cons q t'=>exact .cons r ih
theorem Vals.reverse{xs:List V}{us:List Value}(h:Vals xs us):Vals xs.reverse us.reverse:=by
 induction h with
 | nil=>exact .nil
 | cons r t ih=>rw[Lg6,Lg6]; exact Vals.append ih (.cons r .nil)
theorem erase_last{α:Type}(l:List α):l.eraseIdx (l.length - 1)=l.dropLast:=by
 induction l with
 | nil=>rfl
 | cons a r ih =>
  cases r with
  | nil=>rfl
  | cons b r =>
   have e:(a::b::r).length - 1=((b::r).length - 1)+1:=by
    have h1:(a::b::r).length=r.length+2:=rfl;have h2:(b::r).length=r.length+1:=rfl;omega
   rw[e,List.eraseIdx_cons_succ,ih]
   all_goals rfl
section
variable {X:Cx} {pins:List (Addr×Obj)} {σ:St} {H:Hp} {s:Shared} {l b:Addr} {xs ys zs:List V}
theorem Inv.lset{its its':List Value}{n:Nat}{f:Array Value→Array Value}{t':Nat}(I:Inv X pins σ H s)(hH:H l=some (.lst xs))
  (e:s.heap.get? l=some { cls:=.type "list",data:=.seq its.toArray n }) (hf:f its.toArray=its'.toArray) (hv:Vals ys its') (hz:ys.length≤sizeLine) :
  Inv X pins σ (upd H l (.lst ys)) { s with heap:=s.heap.update l (Obj.mapSeq f),toks:=t' }:=by
 have q:=PySem.IsL.update e f;rw[hf] at q;refine I.write (x:=l) (e:=l) (by rw[hH]; exact trivial) (.inl rfl) (fun b' u hb hu=>(Heap.get?_update_other s.heap (Obj.mapSeq f) (Ne.symm hb)).trans hu) ⟨_,q⟩ ?_;exact⟨hz,its',_,hv,q⟩
theorem Inv.lnew{its:List Value}{t':Nat}(I:Inv X pins σ H s)(hv:Vals ys its)(hz:ys.length≤sizeLine) :
  Inv X pins σ (upd H s.heap.objs.size (.lst ys)) { s with heap:=s.heap.push { cls:=.type "list",data:=.seq its.toArray },toks:=t' } :=
 I.laid (fun _ _ q=>Heap.get?_push_of_some _ q) (La4 _) ⟨hz,its,0,hv,Heap.get?_push_size _ rfl⟩
theorem Inv.fresh(I:Inv X pins σ H s):H s.heap.objs.size=none:=I.hok.fresh (La4 _)
theorem Inv.lstM(I:Inv X pins σ H s)(hH:H l=some (.lst xs)):xs.length≤sizeLine∧∃ (its:List Value) (n:Nat),Vals xs its∧xs.length=its.length∧s.heap.get? l=some { cls:=.type "list",data:=.seq its.toArray n }:=by
 obtain⟨z,its,n,r,e⟩:=I.hok l _ hH;exact⟨z,its,n,r,r.length,e⟩
theorem notLongL{n:Nat}(h:n≤sizeLine):Builtin.List.listTooLong n=false:=by
 unfold Builtin.List.listTooLong;exact decide_eq_false (by omega)
end
section
variable {X:Cx}
def rAppend:V→List V→Hp→VK→Prop:=fun x vs H Q=>∃ l xs y,x=.ref l∧vs=[y]∧H l=some (.lst xs)∧xs.length<sizeLine∧Q .non (upd H l (.lst (xs++[y])))
theorem mt_append:MtM X "list.append" rAppend:=by
 intro pins s σ H x vs v us Q I rx rv h;obtain⟨l,xs,y,rfl,rfl,hH,hz,q⟩:=h;cases rx;obtain⟨u,rfl,ru⟩:=rv.one;obtain⟨z,its,n,r,hl,e⟩:=I.lstM hH;refine call_meets F.slot_list_append ⟨_,e,rfl⟩ F.entry_list_append (F.args_list_append_2 _ _) (PySem.list_append l its.toArray n u (by rw[La8]; omega)) ⟨e,?_⟩;refine⟨.non,_,I.lset (its':=its++[u]) hH e (by simp) (r.append (.cons ru .nil)) ?_,rfl,q⟩;rw[La2,Lb2];omega
inductive ExtendR(x:V)(vs:List V)(H:Hp)(Q:VK):Prop
 | mk (l b:Addr) (xs zs:List V) (e:x=.ref l) (e':vs=[.ref b]) (h:H l=some (.lst xs)) (h':H b=some (.lst zs)) (hz:xs.length+zs.length≤sizeLine) (q:Q .non (upd H l (.lst (xs++zs)))):ExtendR x vs H Q
def rExtend:V→List V→Hp→VK→Prop:=fun x vs H Q=>ExtendR x vs H Q
theorem mt_extend:MtM X "list.extend" rExtend:=by
 intro pins s σ H x vs v us Q I rx rv h;obtain⟨l,b,xs,zs,rfl,rfl,hH,hB,hz,q⟩:=h;cases rx;obtain⟨u,rfl,ru⟩:=rv.one;cases ru;obtain⟨z,its,n,r,hl,e⟩:=I.lstM hH;obtain⟨z2,its2,n2,r2,hl2,e2⟩:=I.lstM hB;have hsz:its.toArray.size+its2.toArray.size≤sizeLine:=by rw[La8,La8]; omega
 have hlong:¬ (!its.toArray.isEmpty && Builtin.List.listTooLong (its.toArray.size+its2.toArray.size))=true:=by
  rw[notLongL hsz,Bool.and_false];exact Lb8
 refine call_meets F.slot_list_extend ⟨_,e,rfl⟩ F.entry_list_extend (F.args_list_extend_2 _ _)
  (AutoSeq1.list_extend_list_list_0 l its.toArray n b its2.toArray n2 hlong (by rw[La8]; omega) (by omega)) ⟨e,e2,?_⟩
 refine⟨.non,_,I.lset (its':=its++its2) hH e (by simp) (r.append r2) ?_,rfl,q⟩;rw[La2];omega
inductive PopR(x:V)(vs:List V)(H:Hp)(Q:VK):Prop
 | mk (l:Addr) (xs:List V) (y:V) (e:x=.ref l) (e':vs=[]) (h:H l=some (.lst xs)) (hy:xs[xs.length - 1]?=some y) (q:Q y (upd H l (.lst xs.dropLast))):PopR x vs H Q
def rPop:V→List V→Hp→VK→Prop:=fun x vs H Q=>PopR x vs H Q
theorem mt_pop:MtM X "list.pop" rPop:=by
 intro pins s σ H x vs v us Q I rx rv h;obtain⟨l,xs,y,rfl,rfl,hH,hy,q⟩:=h;cases rx;have hus:=rv.zero;subst hus;obtain⟨z,its,n,r,hl,e⟩:=I.lstM hH;obtain⟨u,hu,ru⟩:=r.get hy
 have hy':its.toArray[its.toArray.size - 1]?=some u:=by
  show its.toArray[its.length - 1]?=some u
  rw[← Lh0,← hl];exact hu
 refine call_meets F.slot_list_pop ⟨_,e,rfl⟩ F.entry_list_pop (F.args_list_pop_1 _) (MeetsSeq.list_pop_last l its.toArray n u hy' (by rw[La8]; omega)) ⟨e,?_⟩;refine⟨y,_,I.lset (its':=its.dropLast) hH e ?_ r.dropLast ?_,ru,q⟩
 ·show its.toArray.eraseIdxIfInBounds (its.toArray.size - 1)=its.dropLast.toArray
  rw[La8,List.eraseIdxIfInBounds_toArray,erase_last]
 ·rw[Lh6];omega
def rReverse:V→List V→Hp→VK→Prop:=fun x vs H Q=>∃ l xs,x=.ref l∧vs=[]∧H l=some (.lst xs)∧Q .non (upd H l (.lst xs.reverse))
theorem mt_reverse:MtM X "list.reverse" rReverse:=by
 intro pins s σ H x vs v us Q I rx rv h;obtain⟨l,xs,rfl,rfl,hH,q⟩:=h;cases rx;have hus:=rv.zero;subst hus;obtain⟨z,its,n,r,hl,e⟩:=I.lstM hH;refine call_meets F.slot_list_reverse ⟨_,e,rfl⟩ F.entry_list_reverse (F.args_list_reverse_1 _) (AutoSeq1.list_reverse_list_0 l its.toArray n (by rw[La8]; omega)) ⟨e,?_⟩;refine⟨.non,_,I.lset (its':=its.reverse) hH e (by simp) r.reverse ?_,rfl,q⟩;rw[Le7];omega
def rCat:R2:=fun x y H Q=>∃ l b xs zs,x=.ref l∧y=.ref b∧H l=some (.lst xs)∧H b=some (.lst zs)∧xs.length+zs.length≤sizeLine∧∀ p,H p=none→Q (.ref p) (upd H p (.lst (xs++zs)))
theorem op_cat:OpR X (binaryOp .Add) rCat:=by
 intro pins s σ H x y v u Q I rx ry h;obtain⟨l,b,xs,zs,rfl,rfl,hH,hB,hz,q⟩:=h;cases rx;cases ry;obtain⟨z,its,n,r,hl,e⟩:=I.lstM hH;obtain⟨z2,its2,n2,r2,hl2,e2⟩:=I.lstM hB;refine PySem.P.add_list e e2 ?_ (by rw[La8,La8]; omega);have ea:its.toArray++its2.toArray=(its++its2).toArray:=by simp
 rw[ea];exact⟨.ref _,_,I.lnew (t':=s.toks) (r.append r2) (by rw[La2]; omega),rfl,q _ I.fresh⟩
end
section
variable {prog:Program} {w:World} {A:Around} {E:Value→Shared→Prop} {s:Shared}
set_option maxRecDepth 100000 in
end
section
variable {X:Cx}
end
end L2
namespace Att
open PySem PySem.W PySem.Calls PyProof.Rows
theorem ints_of_wellAll{P:Params}{h:Heap}:∀ (ns:List Int) (vs:List Value),WellAll P h vs (ns.map WData.int)→IntsAre vs ns:=by
 intro ns
 induction ns with
 | nil =>
  intro vs w;rw[List.map_nil] at w;cases w
  exact .nil
 | cons n ns ih =>
  intro vs w;rw[Lc2] at w
  cases w with
  | cons a b =>
   cases a;exact .cons _ _ (ih _ b)
theorem script_of{l:OpenLaw}{n:Nat}(hn:l.most=some n){P:Params}{h:Heap}{args:List WData}{vals:List Value}
  (hpre:l.row.toRowW.claim.pre args=true) (hwl:WellAll P h vals args) :
  ∃ a vs ns,vals=[Value.ref a]∧args=[WData.list (ns.map WData.int)]∧h.get? a=some { cls:=.type "list",data:=.seq vs.toArray }∧IntsAre vs ns∧ns.length≤n:=by
 have hsh:WShape.hasAll [] args [.list .int]=true:=(pre_splitW hpre).1;have hc:l.pre.holds [] { args:=args }=true:=(pre_splitW hpre).2;obtain⟨d,r,rfl,h1,h2⟩:=hasAllW_cons hsh;obtain rfl:=hasAllW_nil h2;obtain⟨xs,rfl,h3⟩:=hasW_list h1;obtain⟨ns,rfl⟩:=items_int h3
 have hlen:ns.length≤n:=by
  unfold OpenLaw.pre at hc
  have h4:(WTm.not (.lt (.lit (.int (n:Int))) (.len (.arg 0)))).holds [] { args:=[.list (ns.map .int)] }=true:=by
   have h4:=(holds_andW hc).1;rw[hn] at h4;exact h4
  have h5:=condW_of h4 (w_not (w_lt w_lit (w_len_list (w_arg rfl))));rw[La1] at h5;refine Nat.le_of_not_lt fun q=>?_;have q':(n:Int)<((ns.length:Nat):Int):=by omega
  first
   | (rw[decide_eq_true q'] at h5; exact absurd h5 (by decide))
   | (simp at h5; omega)
 cases hwl with
 | cons w1 w2 =>
  cases w2
  cases w1 with
  | list ho hall=>exact⟨_,_,ns,rfl,rfl,ho,ints_of_wellAll ns _ hall,hlen⟩
theorem post_true(l:OpenLaw)(args:List WData):l.row.toRowW.claim.post args (.bool true) args=true :=
 postW_of (r:=l.row.toRowW) (X:=(true == true))
  (show WShape.has [] (.bool true) .bool=true by first | rfl | decide | simp[WShape.has,WShape.arms,WShape.armsAll])
  (show (WTm.eq .res (.lit (.bool true))).value [] { args:=args,res:=some (.bool true),after:=args }=some (.bool (true == true)) from w_eq_bool (w_res rfl) w_lit) rfl
theorem attach_call{l:OpenLaw}{n:Nat}{q:Program}{loose:List Str}{XP:(Str→Option Value)→Heap→Prop}{YP:World→Heap→Prop}{d:DefRec}
  (hn:l.most=some n) (hdf:d.params.defaults=[])
  (call:∀ (w:World) (s₀ s₁:Shared) (mg mb:Str→Option Value) (fa:Addr) (o:Obj) (pm cd doc:Value) (a:Addr) (vs:List Value) (ns:List Int),
   Ground q loose [] XP w s₀ mg mb s₁.heap→YP w s₁.heap →
   s₁.heap.get? fa=some o→o.data=.func (docDef d.name d.params d.body d.scope pm cd doc)→s₁.heap.CodeRec cd d.name→mg d.name=some (.ref fa) →
   s₁.heap.get? a=some { cls:=.type "list",data:=.seq vs.toArray }→IntsAre vs ns→ns.length≤n→s₁.gens=#[] →
   codeAny (model l.prog w) callerA (.call (.ref fa) ⟨[.ref a],[]⟩) (fun r s'=>r=.ok (.ret (.bool true))∧OldK s₁.heap s'.heap∧s'.os=s₁.os∧AllBare s'.gens) s₁) :
  WalkO q loose XP YP l.row.toRowW d [] (fun f vs=>PySem.call f vs):=by
 intro w s₀ s₁ mg mb G Y fa o pm cd doc dV kV ho hd hcd hD hmg hg args vals as hpre hlay hrd hwl hlo;obtain rfl:dV=.none:=Dflts.none hD hdf;obtain rfl:kV=.none:=Dflts.noKw hD;obtain⟨a,vs,ns,rfl,rfl,hobj,hints,hlen⟩:=script_of hn hpre hwl;refine enter_call (codeAny_mono (call w s₀ s₁ mg mb fa o pm cd doc a vs ns G Y ho (fd_plain hd) hcd hmg hobj hints hlen hg) fun r s' hq=>?_);obtain⟨rfl,h2,h3,h4⟩:=hq;exact⟨.inl ⟨.bool true,.bool true,[],rfl,fun _=>rfl,.bool true,post_true l _,fun _=>⟨List.Pairwise.nil,fun _ hm=>(nomatch hm)⟩⟩,h2,h3,h4⟩
section
variable {prog:Program} {w:World} {A:Around} {E:Value→Shared→Prop} {s:Shared} {K:Frag}
end
end Att
namespace L2
open PySem PySem.Spec PyProof.Rows
theorem vals_ints:∀ {vs:List Value} {ns:List Int},IntsAre vs ns→Vals (ns.map V.int) vs
 | _,_,.nil=>.nil
 | _,_,.cons n t h=>.cons ⟨t,rfl⟩ (vals_ints h)
end L2
namespace L2
open PySem PySem.Spec PyProof.Rows
def inClass(s:Stmt)(j:Nat):Stmt:=match s with
 | .ClassDef _ _ _ body _ _ _ _ _ _ _=>body.getD j (.Pass ⟨0,0,0,0⟩)
 | _=>.Pass ⟨0,0,0,0⟩
def defArgs(s:Stmt):Arguments:=match s with
 | .FunctionDef _ a _ _ _ _ _ _ _ _=>a
 | _=>{ posonlyargs:=[],args:=[],vararg:=none,kwonlyargs:=[],kw_defaults:=[],kwarg:=none,defaults:=[] }
def defBody(s:Stmt):List Stmt:=match s with
 | .FunctionDef _ _ b _ _ _ _ _ _ _=>b
 | _=>[]
def defScope(s:Stmt):Scope:=match s with
 | .FunctionDef _ _ _ _ _ _ sc _ _ _=>sc
 | _=>{ kind:=.function,names:=[],isGenerator:=false,isCoroutine:=false }
abbrev CX0:CXT:=fun _ _ _ _ _ _=>False
abbrev E0:XK:=fun _ _ _=>False
theorem pass0{X:Cx}:Passes CX0 X E0:=fun _ _ _ _ _ _ _ h=>h.elim
structure Fun(K:PySem.W.Frag)(x qual:Str)(st:Stmt)(f:Addr)(fd:FuncData):Prop where
 ex:∃ (oc:Value) (od:Option Addr) (kV doc pm:Value) (an:Option Addr) (cdv ct:Value) (osl:Array (Option Value)),
  fd=PySem.W.fnOf x qual (defArgs st) (defBody st) (defScope st) .none kV doc pm an cdv ct∧K.lookup f=some ⟨oc,od,.func fd,osl⟩∧PySem.W.codeIn K cdv qual=true
 kp:PySem.W.keepIn K (.ref f)=true
section
variable {P:Program} {w:World} {K:PySem.W.Frag} {mg:Str→Option Value} {base:Heap}
theorem Fun.ok{x qual:Str}{st:Stmt}{f:Addr}{fd:FuncData}{N ps:List Str}{k:Nat}{sp:Sp}(F:Fun K x qual st f fd)(S:FnScope N ps (defScope st))(len:∀ vs H Q E,sp vs H Q E→vs.length=ps.length)
  (hbody:∀ (cdv:Value) (A:Around) (outer:List Env) (s:Shared) (H:Hp) (vs:List V) (Q:VK) (E:XK),Room k (A.deeper (envOfC qual (defScope st) s.heap.objs.size f cdv))→sp vs H Q E →
   ∃ t,PSs (cxOf CX0 P w K mg base N qual (defScope st) f cdv A outer s H E).nox (defBody st) t∧t { nx:=fun _ H'=>Q .non H',rt:=Q } (start N vs) H):FnOk P w K mg base CX0 (k+1) f fd ps sp:=by
 obtain⟨oc,od,kV,doc,pm,an,cdv,ct,osl,rfl,lk,hcd⟩:=F.ex;refine fn_of lk hcd S len fun A outer s H vs Q E hr hsp=>?_;obtain⟨t,h,q⟩:=hbody cdv A outer s H vs Q E hr hsp;exact⟨t,h.nox,q⟩
theorem Fun.binds{x qual:Str}{st:Stmt}{f:Addr}{fd:FuncData}{ps:List Str}(F:Fun K x qual st f fd)
  (h:∀ (kV doc pm:Value) (an:Option Addr) (cdv ct:Value) (us:List Value),us.length=ps.length→bindArgs (PySem.W.fnOf x qual (defArgs st) (defBody st) (defScope st) .none kV doc pm an cdv ct) ⟨us,[]⟩=pure (ps.zip us)):Binds K fd ps []:=by
 obtain⟨oc,od,kV,doc,pm,an,cdv,ct,osl,rfl,lk,hcd⟩:=F.ex;exact .all (h kV doc pm an cdv ct)
theorem fun_mk{x qual:Str}{st:Stmt}{f:Addr}{oc:Value}{od an:Option Addr}{osl:Array (Option Value)}{kV doc pm cdv ct:Value}(l:K.lookup f=some ⟨oc,od,.func (PySem.W.fnOf x qual (defArgs st) (defBody st) (defScope st) .none kV doc pm an cdv ct),osl⟩)
  (c:PySem.W.codeIn K cdv qual=true) (k:PySem.W.keepIn K (.ref f)=true):Fun K x qual st f (PySem.W.fnOf x qual (defArgs st) (defBody st) (defScope st) .none kV doc pm an cdv ct):=⟨⟨oc,od,kV,doc,pm,an,cdv,ct,osl,rfl,l,c⟩,k⟩
end
theorem hu_of{A:Around}{k:Nat}(hr:Room k A):A.units+1<cLine:=Nat.lt_of_le_of_lt (Nat.add_le_add_left (by decide:1≤64) _) hr.units
section
variable {X:Cx}
theorem pv(i:Nat){x:Str}{pos:Pos}(hN:X.N[i]?=some x:=by rfl)(hv:Vis X.env.scope x:=by first | exact Or.inl rfl | exact Or.inr (Or.inl rfl) | exact Or.inr (Or.inr rfl))(hd:(x == ("__debug__":Str))=false:=by decide)
  (hcd:(x == ("__classdict__":Str))=false:=by decide):PE X (.Name x pos) (tVar i):=pe_var hN hv hd hcd
end
theorem iteF{A B:Prop}(h:B):if false=true then A else B:=by
 rw[if_neg Lb8];exact h
theorem iteT{A B:Prop}(h:A):if true=true then A else B:=by
 rw[if_pos rfl];exact h
theorem ite2{c A B:Prop}[Decidable c](h1:c→A)(h2:¬ c→B):if c then A else B:=by
 by_cases h:c
 ·rw[if_pos h];exact h1 h
 ·rw[if_neg h];exact h2 h
theorem iteNS{c A B:Prop}[Decidable c](hc:c)(h:B):if (!decide c)=true then A else B:=by
 rw[decide_eq_true hc];exact iteF h
def Same(H H':Hp):Prop:=∀ b o,H b=some o→H' b=some o
theorem Same.refl(H:Hp):Same H H:=fun _ _ h=>h
theorem Same.trans{H H1 H2:Hp}(a:Same H H1)(b:Same H1 H2):Same H H2:=fun c o h=>b c o (a c o h)
theorem Same.seq{K:PySem.W.Frag}{H H':Hp}{a:Addr}{xs:List V}(e:Same H H')(h:SqL K H a xs):SqL K H' a xs:=by
 rcases h with (h | ⟨o,h⟩) | h
 ·exact .inl (.inl (e _ _ h))
 ·exact .inl (.inr ⟨o,e _ _ h⟩)
 ·exact .inr h
end L2
set_option maxHeartbeats 4000000
namespace TT
open PySem
inductive Tr where
 | node (m:Str) (ks:List Tr)
def Tr.mark:Tr→Str
 | .node m _=>m
def Tr.kids:Tr→List Tr
 | .node _ ks=>ks
mutual
def Tr.knots:Tr→Nat
 | .node _ ks=>1+knotsOf ks
def knotsOf:List Tr→Nat
 | []=>0
 | t::ts=>t.knots+knotsOf ts
end
theorem knots_eq(t:Tr):t.knots=1+knotsOf t.kids:=by cases t; rfl
theorem knotsOf_append:∀ (a b:List Tr),knotsOf (a++b)=knotsOf a+knotsOf b
 | [],b=>by simp[knotsOf]
 | t::a,b=>by rw[Lc7,knotsOf,knotsOf_append a b,knotsOf]; omega
theorem knotsOf_perm{a b:List Tr}(h:a.Perm b):knotsOf a=knotsOf b:=by
 induction h with
 | nil=>rfl
 | cons x _ ih=>rw[knotsOf,knotsOf,ih]
 | swap x y l=>simp only[knotsOf]; omega
 | trans _ _ i1 i2=>exact i1.trans i2
theorem length_le_knots:∀ ts:List Tr,ts.length≤knotsOf ts
 | []=>La4 _
 | t::ts=>by
  have:=length_le_knots ts;rw[Lb4,knotsOf,knots_eq]; omega
theorem knots_mem{t:Tr}:∀ {ts:List Tr},t∈ts→t.knots≤knotsOf ts
 | a::ts,h=>by
  rcases Lb6.mp h with rfl | h
  ·rw[knotsOf]; omega
  ·have:=knots_mem h; rw[knotsOf]; omega
mutual
def Tr.pp:Tr→List (List Int)
 | .node _ ks=>[]::pps 0 ks
def pps:Nat→List Tr→List (List Int)
 | _,[]=>[]
 | i,t::ts=>t.pp.map (fun p=>(i:Int)::p)++pps (i+1) ts
end
theorem pp_eq(t:Tr):t.pp=[]::pps 0 t.kids:=by cases t; rfl
mutual
theorem Tr.pp_length:∀ t:Tr,t.pp.length=t.knots
 | .node _ ks=>by rw[Tr.pp,Tr.knots,Lb4,pps_length 0 ks]; omega
theorem pps_length:∀ (i:Nat) (ts:List Tr),(pps i ts).length=knotsOf ts
 | _,[]=>rfl
 | i,t::ts=>by rw[pps,knotsOf,La2,La1,Tr.pp_length t,pps_length (i+1) ts]
end
abbrev Job:=List Int×List Tr
def Job.all(j:Job):List (List Int):=(pps 0 j.2).map (j.1++·)
def subs(p:List Int):Nat→List Tr→List Job
 | _,[]=>[]
 | i,t::ts=>(p++[(i:Int)],t.kids)::subs p (i+1) ts
def allOf(js:List Job):List (List Int):=js.flatMap Job.all
theorem allOf_nil:allOf []=[]:=rfl
theorem allOf_cons(j:Job)(js:List Job):allOf (j::js)=j.all++allOf js:=by simp[allOf]
theorem allOf_append(a b:List Job):allOf (a++b)=allOf a++allOf b:=by simp[allOf]
theorem subs_length(p:List Int):∀ (i:Nat) (ts:List Tr),(subs p i ts).length=ts.length
 | _,[]=>rfl
 | i,t::ts=>by rw[subs,Lb4,subs_length p (i+1) ts,Lb4]
theorem pps_split(p:List Int):∀ (i:Nat) (ts:List Tr),((pps i ts).map (p++·)).Perm ((subs p i ts).map (·.1)++allOf (subs p i ts))
 | _,[]=>.nil
 | i,t::ts=>by
  have ih:=pps_split p (i+1) ts;rw[pps,subs,Lb3,Lc2,allOf_cons,pp_eq,Lc2,Lc2,Ld7,Lc7,Lc7];refine List.Perm.cons _ ?_
  have e:Job.all (p++[(i:Int)],t.kids)=(pps 0 t.kids).map ((fun x=>p++x)∘fun q=>(i:Int)::q):=by
   unfold Job.all;refine List.map_congr_left fun q _=>?_;simp
  rw[e];refine (List.Perm.append_left _ ih).trans ?_;rw[← La9,← La9];exact List.Perm.append_right _ Lh1
theorem job_split(j:Job):j.all.Perm ((subs j.1 0 j.2).map (·.1)++allOf (subs j.1 0 j.2)):=pps_split j.1 0 j.2
theorem turn_last{F:List (List Int)}{T:List Job}{j:Job}{C:List (List Int)}(h:(F++allOf (T++[j])).Perm C) :
  ((F++(subs j.1 0 j.2).map (·.1))++allOf (T++subs j.1 0 j.2)).Perm C:=by
 refine List.Perm.trans ?_ h;rw[allOf_append,allOf_append,allOf_cons,allOf_nil,Lc0,La9];refine List.Perm.append_left _ ?_;refine List.Perm.trans ?_ (List.Perm.append_left _ (job_split j).symm);rw[← La9,← La9];exact List.Perm.append_right _ Lh1
def deeper(js:List Job):List Job:=js.flatMap fun j=>subs j.1 0 j.2
theorem deeper_perm:∀ js:List Job,(allOf js).Perm ((deeper js).map (·.1)++allOf (deeper js))
 | []=>.nil
 | j::js=>by
  have ih:=deeper_perm js;have e:deeper (j::js)=subs j.1 0 j.2++deeper js:=by simp[deeper]
  rw[e,allOf_cons,allOf_append,Lb3];refine (List.Perm.append (job_split j) ih).trans ?_;rw[La9,La9];refine List.Perm.append_left _ ?_;rw[← La9,← La9];exact List.Perm.append_right _ Lh1
theorem turn_level{F:List (List Int)}{L:List Job}{C:List (List Int)}(h:(F++allOf L).Perm C):((F++(deeper L).map (·.1))++allOf (deeper L)).Perm C:=by
 refine List.Perm.trans ?_ h;rw[La9];exact List.Perm.append_left _ (deeper_perm L).symm
open HT
theorem lex_irr:∀ a:List Int,HT.lexLt a a=false
 | []=>rfl
 | x::a=>by simp[HT.lexLt,lex_irr a]
theorem lex_tr:∀ a b c:List Int,HT.lexLt a b=true→HT.lexLt b c=true→HT.lexLt a c=true
 | [],[],_,h,_=>by simp[HT.lexLt] at h
 | [],_::_,[],_,h=>by simp[HT.lexLt] at h
 | [],_::_,_::_,_,_=>rfl
 | _::_,[],_,h,_=>by simp[HT.lexLt] at h
 | _::_,_::_,[],_,h=>by simp[HT.lexLt] at h
 | x::a,y::b,z::c,h,k=>by
  simp only[HT.lexLt] at h k ⊢
  by_cases e1:x=y
  ·subst e1;rw[if_pos rfl] at h
   by_cases e2:x=z
   ·rw[if_pos e2] at k ⊢; exact lex_tr a b c h k
   ·rw[if_neg e2] at k ⊢; exact k
  ·rw[if_neg e1] at h;have h':=of_decide_eq_true h
   by_cases e2:y=z
   ·subst e2;rw[if_neg e1]; exact h
   ·rw[if_neg e2] at k;have k':=of_decide_eq_true k;rw[if_neg (by omega)];exact decide_eq_true (by omega)
theorem lex_tot:∀ a b:List Int,HT.lexLt a b=false→HT.lexLt b a=false→a=b
 | [],[],_,_=>rfl
 | [],_::_,h,_=>by simp[HT.lexLt] at h
 | _::_,[],_,h=>by simp[HT.lexLt] at h
 | x::a,y::b,h,k=>by
  simp only[HT.lexLt] at h k
  by_cases e:x=y
  ·subst e;rw[if_pos rfl] at h k;rw[lex_tot a b h k]
  ·rw[if_neg e] at h;rw[if_neg (Ne.symm e)] at k
   have:=of_decide_eq_false h
   have:=of_decide_eq_false k;omega
theorem lex_neg(a b c:List Int)(h:HT.lexLt a c=true):HT.lexLt a b=true∨HT.lexLt b c=true:=by
 cases h1:HT.lexLt a b with
 | true=>exact .inl rfl
 | false =>
  cases h2:HT.lexLt b a with
  | true=>exact .inr (lex_tr _ _ _ h2 h)
  | false=>rw[lex_tot a b h1 h2] at h; exact .inr h
def Rising(l:List (List Int)):Prop:=l.Pairwise fun a b=>HT.lexLt b a=false
theorem rising_one:∀ (a b:List (List Int)),a.Perm b→Rising a→Rising b→a=b
 | [],b,h,_,_=>h.nil_eq
 | x::a,[],h,_,_=>absurd h.length_eq (by simp)
 | x::a,y::b,h,ha,hb=>by
  obtain⟨h1,h2⟩:=Le1.mp ha;obtain⟨k1,k2⟩:=Le1.mp hb
  have e:x=y:=by
   have mx:x∈y::b:=h.mem_iff.mp La7;have my:y∈x::a:=h.mem_iff.mpr La7
   rcases Lb6.mp mx with e | mx
   ·exact e
   ·rcases Lb6.mp my with e | my
    ·exact e.symm
    ·exact lex_tot _ _ (k1 x mx) (h1 y my)
  subst e;rw[rising_one a b ((List.perm_cons x).mp h) h2 k2]
def down:List Tr→List Int→Option (List Tr)
 | ts,[]=>some ts
 | ts,i::p=>if i<0 then none else match ts[i.toNat]? with
  | none=>none
  | some t=>down t.kids p
theorem down_append:∀ (ts:List Tr) (p q:List Int),down ts (p++q)=(down ts p).bind fun u=>down u q
 | ts,[],q=>rfl
 | ts,i::p,q=>by
  rw[Lc7,down,down]
  by_cases h:i<0
  ·rw[if_pos h,if_pos h]; rfl
  ·rw[if_neg h,if_neg h]
   cases e:ts[i.toNat]? with
   | none=>rfl
   | some t=>exact down_append t.kids p q
theorem down_pps:∀ (n:Nat) (ts:List Tr),knotsOf ts≤n→∀ (pre:List Tr) (p:List Int),p∈pps pre.length ts→∃ u,down (pre++ts) p=some u
 | n,[],_,pre,p,h=>by simp[pps] at h
 | 0,t::ts,hn,_,_,_=>by rw[knotsOf,knots_eq] at hn; omega
 | n+1,t::ts,hn,pre,p,h=>by
  rw[knotsOf,knots_eq] at hn;rw[pps] at h
  rcases Lb9.mp h with h | h
  ·obtain⟨q,hq,rfl⟩:=Lc3.mp h;have e:(pre++t::ts)[((pre.length:Nat):Int).toNat]?=some t:=by simp
   rw[down,if_neg (by omega),e];rw[pp_eq] at hq
   rcases Lb6.mp hq with rfl | hq
   ·exact⟨_,rfl⟩
   ·exact down_pps n t.kids (by omega) [] q hq
  ·have:=down_pps n ts (by omega) (pre++[t]) p (by simpa using h)
   simpa using this
theorem down_knots:∀ (p:List Int) (ts u:List Tr),down ts p=some u→knotsOf u≤knotsOf ts
 | [],ts,u,h=>by cases h; exact La4 _
 | i::p,ts,u,h=>by
  rw[down] at h
  by_cases hi:i<0
  ·rw[if_pos hi] at h; cases h
  ·rw[if_neg hi] at h
   cases e:ts[i.toNat]? with
   | none=>rw[e] at h; cases h
   | some t =>
    rw[e] at h;have h1:=down_knots p t.kids u h;have h2:=knots_mem (Lf2 e);rw[knots_eq] at h2;omega
end TT
set_option linter.all false
namespace TT
open PySem PySem.W PyProof.Rows
structure POrd(lt:Nat→Nat→Bool):Prop where
 irr:∀ a,lt a a=false
 tr:∀ a b c,lt a b=true→lt b c=true→lt a c=true
 neg:∀ a b c,lt a c=true→lt a b=true∨lt b c=true
abbrev ple(lt:Nat→Nat→Bool)(a b:Nat):Prop:=lt b a=false
section
variable {lt:Nat→Nat→Bool}
theorem POrd.rfl'(O:POrd lt)(a:Nat):ple lt a a:=O.irr a
theorem POrd.le_tr(O:POrd lt){a b c:Nat}(h1:ple lt a b)(h2:ple lt b c):ple lt a c:=by
 unfold ple at *
 cases h:lt c a with
 | false=>rfl
 | true =>
  rcases O.neg c b a h with q | q
  ·rw[h2] at q; cases q
  ·rw[h1] at q; cases q
theorem POrd.le_of(O:POrd lt){a b:Nat}(h:lt a b=true):ple lt a b:=by
 unfold ple
 cases q:lt b a with
 | false=>rfl
 | true=>have:=O.tr _ _ _ h q; rw[O.irr] at this; cases this
abbrev pat(p:Array Nat)(k:Nat):Nat:=p.getD k 0
def SortTo(lt:Nat→Nat→Bool)(p:Array Nat)(k:Nat):Prop:=∀ i j,i≤j→j<k→ple lt (pat p i) (pat p j)
def FallTo(lt:Nat→Nat→Bool)(p:Array Nat)(k:Nat):Prop:=∀ i j,i≤j→j<k→ple lt (pat p j) (pat p i)
def Same2(lt:Nat→Nat→Bool)(a b:Nat):Prop:=ple lt a b∧ple lt b a
theorem pat_of{p q:Array Nat}{i j:Nat}(h:p[i]?=q[j]?):pat p i=pat q j:=by
 unfold pat;rw[Li7,Li7,h]
theorem pat_rev{p:Array Nat}{i j:Nat}(hj:j≤p.size)(k:Nat):pat (kas_rev p i j) k=if i≤k∧k<j then pat p (i+j - 1 - k) else pat p k:=by
 have e:=getElem?_mirror_all (xs:=p) (i:=i) hj k;unfold kas_rev
 by_cases h:i≤k∧k<j
 ·rw[if_pos h] at e ⊢; exact pat_of e
 ·rw[if_neg h] at e ⊢; exact pat_of e
theorem pat_bub{p:Array Nat}{s d:Nat}(hs:s<p.size)(hd:d≤s)(k:Nat):pat (bubble p s d) k=if k=s - d then pat p s else if s - d<k∧k≤s then pat p (k - 1) else pat p k:=by
 have e:=getElem?_bubble hs d hd k
 by_cases h1:k=s - d
 ·rw[if_pos h1] at e ⊢; exact pat_of e
 ·rw[if_neg h1] at e ⊢
  by_cases h2:s - d<k∧k≤s
  ·rw[if_pos h2] at e ⊢; exact pat_of e
  ·rw[if_neg h2] at e ⊢; exact pat_of e
def Pl(n:Nat)(p:Array Nat):Prop:=p.Perm (List.toArray (List.range n))
theorem Pl.size{n:Nat}{p:Array Nat}(h:Pl n p):p.size=n:=by
 have:=Array.Perm.size_eq h
 simpa using this
theorem Pl.below{n:Nat}{p:Array Nat}(h:Pl n p){k:Nat}(hk:k<n):pat p k<n:=by
 have hs:=h.size;have hm:p[k]∈p:=Array.getElem_mem (by omega)
 have:p[k]∈List.toArray (List.range n):=(Array.Perm.mem_iff h).mp hm;have e:pat p k=p[k]:=by unfold pat; rw[Li7]; simp[show k<p.size by omega]
 rw[e]
 simpa using this
theorem Pl.rev{n i j:Nat}{p:Array Nat}(h:Pl n p):Pl n (kas_rev p i j):=(mirror_perm p i j _).trans h
theorem Pl.bub{n i d:Nat}{p:Array Nat}(h:Pl n p):Pl n (bubble p i d):=(bubble_perm p i d).trans h
def Cmps(lt:Nat→Nat→Bool)(n:Nat)(cmp:Nat→Nat→(Bool→Shared→Prop)→Shared→Prop)(s:Shared):Prop :=
 ∀ i j C,i<n→j<n→C (lt i j) s→cmp i j C s
variable {cmp:Nat→Nat→(Bool→Shared→Prop)→Shared→Prop} {s:Shared} {n:Nat}
theorem sort_one(O:POrd lt){p:Array Nat}{m:Nat}(hs:SortTo lt p m)(hm:1≤m)(h:lt (pat p m) (pat p (m - 1))=false):SortTo lt p (m+1):=by
 intro i j hij hj
 by_cases e:j=m
 ·subst e
  by_cases e2:i=j
  ·subst e2; exact O.rfl' _
  ·exact O.le_tr (hs i (j - 1) (by omega) (by omega)) h
 ·exact hs i j hij (by omega)
theorem fall_one(O:POrd lt){p:Array Nat}{m:Nat}(hs:FallTo lt p m)(hm:1≤m)(h:ple lt (pat p m) (pat p (m - 1))):FallTo lt p (m+1):=by
 intro i j hij hj
 by_cases e:j=m
 ·subst e
  by_cases e2:i=j
  ·subst e2; exact O.rfl' _
  ·exact O.le_tr h (hs i (j - 1) (by omega) (by omega))
 ·exact hs i j hij (by omega)
theorem asc_ok(O:POrd lt)(hc:Cmps lt n cmp s){p:Array Nat}(hp:Pl n p){Q:Nat→Shared→Prop}:∀ (f m:Nat),1≤m→m+f≤n→SortTo lt p m →
  (∀ r,m≤r→r≤m+f→SortTo lt p r→(r=m+f∨lt (pat p r) (pat p (r - 1))=true)→Q r s)→(kas_asc p f m).kasWp cmp Q s
 | 0,m,_,_,hs,k=>k m (La4 _) (La4 _) hs (.inl rfl)
 | f+1,m,h1,h2,hs,k=>by
  refine hc _ _ _ (hp.below (by omega)) (hp.below (by omega)) ?_
  cases e:lt (p.getD m 0) (p.getD (m - 1) 0) with
  | true=>exact k m (La4 _) (by omega) hs (.inr e)
  | false =>
   show (kas_asc p f (m+1)).kasWp cmp Q s
   exact asc_ok O hc hp f (m+1) (by omega) (by omega) (sort_one O hs h1 e) fun r a b c d=>k r (by omega) (by omega) c (d.elim (fun z=>.inl (by omega)) .inr)
theorem fall_same(O:POrd lt){p q:Array Nat}{m:Nat}(hs:FallTo lt p m)(h:∀ k,k<m→Same2 lt (pat q k) (pat p k)):FallTo lt q m:=fun i j hij hj =>
 O.le_tr (h j hj).1 (O.le_tr (hs i j hij hj) (h i (by omega)).2)
def Alike(lt:Nat→Nat→Bool)(p:Array Nat)(m r:Nat):Prop:=∀ k,m≤k+1+r→k<m→Same2 lt (pat p k) (pat p (m - 1))
theorem rev_alike(O:POrd lt){p:Array Nat}{m r:Nat}(hm:m≤p.size)(ha:Alike lt p m r)(hr:r+1≤m)(k:Nat):Same2 lt (pat (kas_rev p (m - (r+1)) m) k) (pat p k):=by
 rw[pat_rev hm]
 by_cases h:m - (r+1)≤k∧k<m
 ·rw[if_pos h];have a:=ha (m - (r+1)+m - 1 - k) (by omega) (by omega);have b:=ha k (by omega) h.2;exact⟨O.le_tr a.1 b.2,O.le_tr b.1 a.2⟩
 ·rw[if_neg h];exact⟨O.rfl' _,O.rfl' _⟩
theorem desc_ok(O:POrd lt)(hc:Cmps lt n cmp s){Q:Array Nat×Nat×Nat→Shared→Prop}:∀ (f:Nat) (p:Array Nat) (m r:Nat),Pl n p→r+1≤m→m+f≤n→FallTo lt p m→Alike lt p m r →
  (∀ p' m' r',Pl n p'→r'+1≤m'→m'≤n→FallTo lt p' m'→Alike lt p' m' r'→Q (p',m',r') s)→(kas_desc f p m r).kasWp cmp Q s
 | 0,p,m,r,hp,h1,h2,hf,ha,k=>k p m r hp h1 (by omega) hf ha
 | f+1,p,m,r,hp,h1,h2,hf,ha,k=>by
  have hsz:=hp.size;refine hc _ _ _ (hp.below (by omega)) (hp.below (by omega)) ?_
  cases e:lt (p.getD m 0) (p.getD (m - 1) 0) with
  | true =>
   have one:∀ q:Array Nat,Alike lt q (m+1) 0:=fun q k a b=>by
    have:k=m+1 - 1:=by omega
    subst this;exact⟨O.rfl' _,O.rfl' _⟩
   have up:=fall_one O hf (by omega) (O.le_of e)
   by_cases hr:r > 0
   ·show (if r > 0 then kas_desc f (kas_rev p (m - (r+1)) m) (m+1) 0 else kas_desc f p (m+1) 0).kasWp cmp Q s
    rw[if_pos hr];exact desc_ok O hc f _ (m+1) 0 hp.rev (by omega) (by omega) (fall_same O up fun k _=>rev_alike O (by omega) ha h1 k) (one _) k
   ·show (if r > 0 then kas_desc f (kas_rev p (m - (r+1)) m) (m+1) 0 else kas_desc f p (m+1) 0).kasWp cmp Q s
    rw[if_neg hr]
    exact desc_ok O hc f _ (m+1) 0 hp (by omega) (by omega) up (one _) k
  | false =>
   show (KasT.ask (p.getD (m - 1) 0) (p.getD m 0) fun d=>if d=true then .ret (p,m,r) else kas_desc f p (m+1) (r+1)).kasWp cmp Q s
   refine hc _ _ _ (hp.below (by omega)) (hp.below (by omega)) ?_
   cases e2:lt (p.getD (m - 1) 0) (p.getD m 0) with
   | true=>exact k p m r hp h1 (by omega) hf ha
   | false =>
    refine desc_ok O hc f p (m+1) (r+1) hp (by omega) (by omega) (fall_one O hf (by omega) e2) (fun k a b=>?_) k;have e3:m+1 - 1=m:=by omega
    rw[e3]
    by_cases hk:k=m
    ·subst hk; exact⟨O.rfl' _,O.rfl' _⟩
    ·have q:=ha k (by omega) (by omega);exact⟨O.le_tr q.1 e,O.le_tr e2 q.2⟩
theorem sort_of_fall{p:Array Nat}{m:Nat}(hm:m≤p.size)(hf:FallTo lt p m):SortTo lt (kas_rev p 0 m) m:=by
 intro i j hij hj;rw[pat_rev hm,pat_rev hm,if_pos ⟨Lb1 _,by omega⟩,if_pos ⟨Lb1 _,hj⟩];exact hf _ _ (by omega) (by omega)
theorem tail_ok(O:POrd lt)(hc:Cmps lt n cmp s){p:Array Nat}{m:Nat}{Q:Nat×Array Nat→Shared→Prop}(hp:Pl n p)(h1:1≤m)(h2:m≤n)(hf:FallTo lt p m)
  (k:∀ r q,Pl n q→1≤r→r≤n→SortTo lt q r→Q (r,q) s):(kas_tail3 m n p).kasWp cmp Q s:=by
 unfold kas_tail3;rw[KasT.kasWp_bind];exact asc_ok O hc hp.rev _ _ h1 (by omega) (sort_of_fall (by rw[hp.size]; omega) hf) fun r a b c _=>k r _ hp.rev (by omega) (by omega) c
theorem descPart_ok(O:POrd lt)(hc:Cmps lt n cmp s){p:Array Nat}{m:Nat}{Q:Nat×Array Nat→Shared→Prop}(hp:Pl n p)(h1:1≤m)(h2:m<n)(hf:FallTo lt p (m+1))
  (k:∀ r q,Pl n q→1≤r→r≤n→SortTo lt q r→Q (r,q) s):(kas_descPart m n p).kasWp cmp Q s:=by
 unfold kas_descPart;rw[KasT.kasWp_bind];refine desc_ok O hc _ p (m+1) 0 hp (by omega) (by omega) hf (fun k a b=>?_) fun p' m' r' hp' hr hm hf' ha'=>?_
 ·have:k=m+1 - 1:=by omega
  subst this;exact⟨O.rfl' _,O.rfl' _⟩
 ·by_cases h:r' > 0
  ·show (if r' > 0 then kas_tail3 m' n (kas_rev p' (m' - (r'+1)) m') else kas_tail3 m' n p').kasWp cmp Q s
   rw[if_pos h];exact tail_ok O hc hp'.rev (by omega) hm (fall_same O hf' fun k _=>rev_alike O (by rw[hp'.size]; exact hm) ha' hr k) k
  ·show (if r' > 0 then kas_tail3 m' n (kas_rev p' (m' - (r'+1)) m') else kas_tail3 m' n p').kasWp cmp Q s
   rw[if_neg h];exact tail_ok O hc hp' (by omega) hm hf' k
theorem count_ok(O:POrd lt)(hc:Cmps lt n cmp s){p:Array Nat}{Q:Nat×Array Nat→Shared→Prop}(hp:Pl n p)(h2:2≤n)(k:∀ r q,Pl n q→1≤r→r≤n→SortTo lt q r→Q (r,q) s) :
  (kas_count n p).kasWp cmp Q s:=by
 unfold kas_count;rw[KasT.kasWp_bind];have hsz:=hp.size;refine asc_ok O hc hp _ 1 (La4 _) (by omega) (fun i j a b=>?_) fun r a b hs hstop=>?_
 ·have e:i=j:=by omega
  subst e; exact O.rfl' _
 ·by_cases e:r=n
  ·subst e;rw[if_pos (by simp)];exact k r p hp a (La4 _) hs
  ·rw[if_neg (by simpa using e)]
   have hlt:lt (pat p r) (pat p (r - 1))=true:=by
    rcases hstop with z | z
    ·omega
    ·exact z
   by_cases h1:r > 1
   ·rw[if_pos h1];refine hc _ _ _ (hp.below (by omega)) (hp.below (by omega)) ?_
    cases e2:lt (p.getD 0 0) (p.getD (r - 1) 0) with
    | true=>exact k r p hp a (by omega) hs
    | false =>
     show (kas_descPart r n (kas_rev p 0 r)).kasWp cmp Q s
     have al:∀ x,x<r→Same2 lt (pat p x) (pat p 0):=fun x hx=>⟨O.le_tr (hs x (r - 1) (by omega) (by omega)) e2,hs 0 x (by omega) hx⟩;refine descPart_ok O hc hp.rev a (by omega) (fun i j hij hj=>?_) k
     have v:∀ x,x<r→Same2 lt (pat (kas_rev p 0 r) x) (pat p 0):=fun x hx=>by
      rw[pat_rev (by omega),if_pos ⟨Lb1 _,hx⟩];exact al _ (by omega)
     by_cases ej:j=r
     ·subst ej;have er:pat (kas_rev p 0 j) j=pat p j:=by rw[pat_rev (by omega),if_neg (by omega)]
      by_cases ei:i=j
      ·subst ei; exact O.rfl' _
      ·rw[er];exact O.le_tr (O.le_of hlt) (O.le_tr (al (j - 1) (by omega)).1 (v i (by omega)).2)
     ·exact O.le_tr (v j (by omega)).1 (v i (by omega)).2
   ·rw[if_neg h1];have e1:r=1:=by omega
    subst e1;refine descPart_ok O hc hp (La4 _) (by omega) (fun i j hij hj=>?_) k
    by_cases ej:i=j
    ·subst ej; exact O.rfl' _
    ·have e3:i=0:=by omega
     have e4:j=1:=by omega
     subst e3 e4;exact O.le_of hlt
theorem place_ok(O:POrd lt)(hc:Cmps lt n cmp s){p:Array Nat}(hp:Pl n p){c:Nat}(hcn:c<n)(hs:SortTo lt p c){Q:Nat→Shared→Prop}:∀ (f l r:Nat),l≤r→r≤c→r - l≤f→(∀ i,i<l→ple lt (pat p i) (pat p c))→(∀ i,r≤i→i<c→ple lt (pat p c) (pat p i)) →
  (∀ l,l≤c→(∀ i,i<l→ple lt (pat p i) (pat p c))→(∀ i,l≤i→i<c→ple lt (pat p c) (pat p i))→Q l s)→(kas_place p c f l r).kasWp cmp Q s
 | 0,l,r,h1,h2,h3,a,b,k=>k l (by omega) a fun i hi hc'=>b i (by omega) hc'
 | f+1,l,r,h1,h2,h3,a,b,k=>by
  by_cases h:l≥r
  ·show (if l≥r then KasT.ret l else _).kasWp cmp Q s
   rw[if_pos h];exact k l (by omega) a fun i hi hc'=>b i (by omega) hc'
  ·show (if l≥r then KasT.ret l else KasT.ask (p.getD c 0) (p.getD ((l+r) / 2) 0) fun d=>if d=true then kas_place p c f l ((l+r) / 2) else kas_place p c f ((l+r) / 2+1) r).kasWp cmp Q s
   rw[if_neg h];refine hc _ _ _ (hp.below hcn) (hp.below (by omega)) ?_
   cases e:lt (p.getD c 0) (p.getD ((l+r) / 2) 0) with
   | true=>exact place_ok O hc hp hcn hs f l _ (by omega) (by omega) (by omega) a (fun i hi hic=>O.le_tr (O.le_of e) (hs _ i hi hic)) k
   | false=>exact place_ok O hc hp hcn hs f _ r (by omega) (by omega) (by omega) (fun i hi=>O.le_tr (hs i ((l+r) / 2) (by omega) (by omega)) e) b k
theorem sort_ins(O:POrd lt){p:Array Nat}{c l:Nat}(hc:c<p.size)(hs:SortTo lt p c)(hl:l≤c)(a:∀ i,i<l→ple lt (pat p i) (pat p c))(b:∀ i,l≤i→i<c→ple lt (pat p c) (pat p i)):SortTo lt (bubble p c (c - l)) (c+1):=by
 intro i j hij hj;have e0:c - (c - l)=l:=by omega
 rw[pat_bub hc (by omega),pat_bub hc (by omega),e0]
 by_cases h1:i=l
 ·rw[if_pos h1]
  by_cases h2:j=l
  ·rw[if_pos h2]; exact O.rfl' _
  ·rw[if_neg h2,if_pos ⟨by omega,by omega⟩]; exact b _ (by omega) (by omega)
 ·rw[if_neg h1]
  by_cases h3:l<i∧i≤c
  ·rw[if_pos h3,if_neg (by omega),if_pos ⟨by omega,by omega⟩];exact hs _ _ (by omega) (by omega)
  ·rw[if_neg h3]
   by_cases h2:j=l
   ·rw[if_pos h2]; exact a i (by omega)
   ·rw[if_neg h2]
    by_cases h4:l<j∧j≤c
    ·rw[if_pos h4]; exact hs _ _ (by omega) (by omega)
    ·rw[if_neg h4]; exact hs _ _ hij (by omega)
theorem bin_ok(O:POrd lt)(hc:Cmps lt n cmp s){Q:Array Nat→Shared→Prop}:∀ (f:Nat) (p:Array Nat) (c:Nat),Pl n p→c+f=n→SortTo lt p c→(∀ q,Pl n q→SortTo lt q n→Q q s)→(kas_bin f p c).kasWp cmp Q s
 | 0,p,c,hp,h,hs,k=>k p hp (by rw[show n=c by omega]; exact hs)
 | f+1,p,c,hp,h,hs,k=>by
  show ((kas_place p c c 0 c).bind fun l=>kas_bin f (bubble p c (c - l)) (c+1)).kasWp cmp Q s
  rw[KasT.kasWp_bind];refine place_ok O hc hp (by omega) hs c 0 c (Lb1 _) (La4 _) (by omega) (fun i hi=>absurd hi (by omega)) (fun i h1 h2=>absurd h1 (by omega)) fun l hl a b=>?_;exact bin_ok O hc f _ (c+1) hp.bub (by omega) (sort_ins O (by rw[hp.size]; omega) hs hl a b) k
theorem kas_sort_ok(O:POrd lt)(hc:Cmps lt n cmp s)(h2:2≤n){Q:Array Nat→Shared→Prop}(k:∀ q,Pl n q→SortTo lt q n→Q q s):(kas_sort n).kasWp cmp Q s:=by
 unfold kas_sort;rw[KasT.kasWp_bind];refine count_ok O hc (Array.Perm.refl _) h2 fun r q hq h1 hr hs=>?_;have em:max r 1=r:=by omega
 by_cases h:r<n
 ·show (if r<n then kas_bin (n - max r 1) q (max r 1) else .ret q).kasWp cmp Q s
  rw[if_pos h,em];exact bin_ok O hc _ q r hq (by omega) hs k
 ·show (if r<n then kas_bin (n - max r 1) q (max r 1) else .ret q).kasWp cmp Q s
  rw[if_neg h];exact k q hq (by rw[show n=r by omega]; exact hs)
end
end TT
namespace TT
open PySem L2
inductive D where
 | int (i:Int) | str (x:Str) | bl (b:Bool) | non | lst (xs:List D) | tup (xs:List D)
mutual
def D.size:D→Nat
 | .lst xs=>1+sizes xs
 | .tup xs=>1+sizes xs
 | .int _=>1
 | .str _=>1
 | .bl _=>1
 | .non=>1
def sizes:List D→Nat
 | []=>0
 | d::ds=>d.size+sizes ds
end
mutual
inductive Rep(G:Hp):V→D→Prop
 | int (i:Int):Rep G (.int i) (.int i)
 | str (x:Str):Rep G (.str x) (.str x)
 | bl (b:Bool):Rep G (.bl b) (.bl b)
 | non:Rep G .non .non
 | lst {a:Addr} {vs:List V} {ds:List D} (h:G a=some (.lst vs)) (r:Reps G vs ds):Rep G (.ref a) (.lst ds)
 | tup {a:Addr} {vs:List V} {ds:List D} (h:G a=some (.tup vs)) (r:Reps G vs ds):Rep G (.ref a) (.tup ds)
inductive Reps(G:Hp):List V→List D→Prop
 | nil:Reps G [] []
 | cons {v:V} {vs:List V} {d:D} {ds:List D} (r:Rep G v d) (t:Reps G vs ds):Reps G (v::vs) (d::ds)
end
mutual
theorem Rep.mono{G G':Hp}(e:Same G G'):∀ {v:V} {d:D},Rep G v d→Rep G' v d
 | _,_,.int i=>.int i
 | _,_,.str x=>.str x
 | _,_,.bl b=>.bl b
 | _,_,.non=>.non
 | _,_,.lst h r=>.lst (e _ _ h) (Reps.mono e r)
 | _,_,.tup h r=>.tup (e _ _ h) (Reps.mono e r)
theorem Reps.mono{G G':Hp}(e:Same G G'):∀ {vs:List V} {ds:List D},Reps G vs ds→Reps G' vs ds
 | _,_,.nil=>.nil
 | _,_,.cons r t=>.cons (Rep.mono e r) (Reps.mono e t)
end
section
variable {G:Hp}
theorem Reps.length:∀ {vs:List V} {ds:List D},Reps G vs ds→vs.length=ds.length
 | _,_,.nil=>rfl
 | _,_,.cons _ t=>by rw[Lb4,Lb4,Reps.length t]
theorem Reps.append:∀ {vs ws:List V} {ds es:List D},Reps G vs ds→Reps G ws es→Reps G (vs++ws) (ds++es)
 | _,_,_,_,.nil,s=>s
 | _,_,_,_,.cons r t,s=>.cons r (Reps.append t s)
theorem Reps.take:∀ {vs:List V} {ds:List D} (n:Nat),Reps G vs ds→Reps G (vs.take n) (ds.take n)
 | _,_,0,_=>.nil
 | _,_,_+1,.nil=>.nil
 | _,_,n+1,.cons r t=>.cons r (Reps.take n t)
theorem Reps.drop:∀ {vs:List V} {ds:List D} (n:Nat),Reps G vs ds→Reps G (vs.drop n) (ds.drop n)
 | _,_,0,r=>r
 | _,_,_+1,.nil=>.nil
 | _,_,n+1,.cons _ t=>Reps.drop n t
theorem Reps.get:∀ {vs:List V} {ds:List D} {i:Nat} {d:D},Reps G vs ds→ds[i]?=some d→∃ v,vs[i]?=some v∧Rep G v d
 | _,_,_,_,.nil,e=>by simp at e
 | _,_,0,_,.cons r _,e=>by simp at e; subst e; exact⟨_,rfl,r⟩
 | _,_,i+1,d,.cons _ t,e=>by
  obtain⟨v,h1,h2⟩:=Reps.get (i:=i) (d:=d) t (by simpa using e);exact⟨v,by simpa using h1,h2⟩
theorem Reps.at:∀ {vs:List V} {ds:List D} {i:Nat} {v:V},Reps G vs ds→vs[i]?=some v→∃ d,ds[i]?=some d∧Rep G v d
 | _,_,_,_,.nil,e=>by simp at e
 | _,_,0,_,.cons r _,e=>by simp at e; subst e; exact⟨_,rfl,r⟩
 | _,_,i+1,d,.cons _ t,e=>by
  obtain⟨v,h1,h2⟩:=Reps.at (i:=i) (v:=d) t (by simpa using e);exact⟨v,by simpa using h1,h2⟩
theorem reps_ints{vs:List V}{p:List Int}(h:Reps G vs (p.map D.int)):vs=p.map V.int:=by
 induction p generalizing vs with
 | nil=>cases h; rfl
 | cons i p ih =>
  cases h with
  | cons r t=>cases r; rw[Lc2,ih t]
theorem ints_reps:∀ (p:List Int),Reps G (p.map V.int) (p.map D.int)
 | []=>.nil
 | i::p=>.cons (.int i) (ints_reps p)
end
mutual
def Tr.d:Tr→D
 | .node m ks=>.tup (.str m::dOf ks)
def dOf:List Tr→List D
 | []=>[]
 | t::ts=>t.d::dOf ts
end
theorem dOf_map:∀ ts:List Tr,dOf ts=ts.map Tr.d
 | []=>rfl
 | t::ts=>by rw[dOf,dOf_map ts,Lc2]
theorem tree_d(t:Tr):t.d=.tup (.str t.mark::t.kids.map Tr.d):=by cases t; rw[Tr.d,dOf_map]; rfl
def rowD(ts:List Tr):D:=.lst (ts.map Tr.d)
def pathD(p:List Int):D:=.lst (p.map D.int)
section
variable {G:Hp}
theorem Rep.row{v:V}{ts:List Tr}(r:Rep G v (rowD ts)):∃ a vs,v=.ref a∧G a=some (.lst vs)∧Reps G vs (ts.map Tr.d):=by
 cases r with
 | lst h t=>exact⟨_,_,rfl,h,t⟩
theorem Rep.tree{v:V}{t:Tr}(r:Rep G v t.d):∃ a vs,v=.ref a∧G a=some (.tup (.str t.mark::vs))∧Reps G vs (t.kids.map Tr.d):=by
 rw[tree_d] at r
 cases r with
 | tup h t =>
  cases t with
  | cons r t =>
   cases r;exact⟨_,_,rfl,h,t⟩
theorem Rep.path{v:V}{p:List Int}(r:Rep G v (pathD p)):∃ a,v=.ref a∧G a=some (.lst (p.map V.int)):=by
 cases r with
 | lst h t =>
  have e:=reps_ints t;subst e;exact⟨_,rfl,h⟩
end
structure Ext(G H G' H':Hp):Prop where
 g:Same G G'
 gh:Same G' H'
 h:Same H H'
 new:∀ a o,H a=some o→G' a=G a
section
variable {G H G1 H1 G2 H2:Hp} {p:Addr} {o:HO}
theorem Ext.refl(s:Same G H):Ext G H G H:=⟨Same.refl G,s,Same.refl H,fun _ _ _=>rfl⟩
theorem Ext.trans(a:Ext G H G1 H1)(b:Ext G1 H1 G2 H2):Ext G H G2 H2 :=
 ⟨a.g.trans b.g,b.gh,a.h.trans b.h,fun c u e=>(b.new c u (a.h c u e)).trans (a.new c u e)⟩
theorem same_upd(n:H p=none):Same H (upd H p o):=fun b u e=>by
 rw[upd_ne (ne_of_none e n)]; exact e
theorem Ext.add(s:Same G H)(n:H p=none):Ext G H (upd G p o) (upd H p o):=by
 have ng:G p=none:=by
  cases e:G p with
  | none=>rfl
  | some u=>rw[s p u e] at n; cases n
 refine⟨same_upd ng,fun b u e=>?_,same_upd n,fun b u e=>?_⟩
 ·by_cases hb:b=p
  ·subst hb; rw[upd_same] at e ⊢; exact e
  ·rw[upd_ne hb] at e ⊢; exact s b u e
 ·exact upd_ne (ne_of_none e n)
theorem Ext.keep(x:Ext G H G1 H1){a:Addr}{u:HO}(h:H a=some u)(n:G a=none):G1 a=none:=(x.new a u h).trans n
theorem same_mut{a:Addr}(s:Same G H)(n:G a=none):Same G (upd H a o):=fun b u e=>by
 rw[upd_ne (ne_of_none e n)]; exact s b u e
theorem _root_.L2.Same.none{a:Addr}(s:Same G H)(n:H a=Option.none):G a=Option.none:=by
 cases e:G a with
 | none=>rfl
 | some u=>rw[s a u e] at n; cases n
end
end TT
namespace TT
open PySem PySem.Spec PyProof.Rows L2
section
open PySem.SeqAt PySem.MeetsSeq PySem.MeetsSeq2 PySem.MeetsSeq3 HT
open PySem.AutoSeq1 (wpAny_loadPart')
theorem ints_at{us:List Value}{ns:List Int}(h:IntsAre us ns):∀ {i:Nat} {k:Int},ns[i]?=some k→∃ t,us[i]?=some (.int k t):=by
 induction h with
 | nil=>intro i k e; simp at e
 | cons a t _ ih =>
  intro i k e
  cases i with
  | zero=>simp at e; subst e; exact⟨t,rfl⟩
  | succ i=>obtain⟨u,hu⟩:=ih (i:=i) (k:=k) (by simpa using e); exact⟨u,by simpa using hu⟩
set_option maxHeartbeats 1000000 in
theorem less_loop(l b:Addr)(xs ys:Array Value)(c1 c2:Nat)(d1 d2:Option Addr)(s1 s2:Array (Option Value))(ns ms:List Int)(hi:IntsAre xs.toList ns)(hj:IntsAre ys.toList ms)(k:Nat) :
  ∀ i:Nat,xs.size - i=k→i≤xs.size→i≤ys.size→Meets (Builtin.«list.__eq__.loop» ⟨[.ref l,.ref b,rawInt i,rawInt 0],[]⟩)
   (fun _ R s=>s.heap.get? l=some ⟨.type "list",d1,.seq xs c1,s1⟩∧s.heap.get? b=some ⟨.type "list",d2,.seq ys c2,s2⟩∧R (.ok (.ret (.bool (HT.lexLt (ns.drop i) (ms.drop i))))) s):=by
 have z1:xs.size=ns.length:=by rw[← hi.length]; simp
 have z2:ys.size=ms.length:=by rw[← hj.length]; simp
 induction k with
 | zero =>
  intro i hk h1 h2 prog w A R s h;obtain⟨hp,g,d,tk,os⟩:=s;obtain⟨ha,hb,h⟩:=h
  wp_walk using wpAny_loadPart' ha,wpAny_loadPart' hb
  have e1:xs[((i:Nat):Int).toNat]?=none:=by simp; omega
  have en:ns.drop i=[]:=Li4 (by omega);rw[en] at h
  by_cases hy:i<ys.size
  ·have e2:ys[((i:Nat):Int).toNat]?=some ys[i]:=by simp[hy]
   rw[e1,e2]
   wp_walk using wpAny_loadPart' ha,wpAny_loadPart' hb
   show R (.ok (.ret (.bool (decide (xs.size<ys.size))))) _
   have em:HT.lexLt [] (ms.drop i)=decide (xs.size<ys.size):=by
    rw[Lc6 (show i<ms.length by omega)];exact (decide_eq_true (by omega)).symm
   rw[← em];exact h
  ·have e2:ys[((i:Nat):Int).toNat]?=none:=by simp; omega
   rw[e1,e2]
   wp_walk using wpAny_loadPart' ha,wpAny_loadPart' hb
   show R (.ok (.ret (.bool (decide (xs.size<ys.size))))) _
   have em:HT.lexLt [] (ms.drop i)=decide (xs.size<ys.size):=by
    rw[Li4 (show ms.length≤i by omega)];exact (decide_eq_false (by omega)).symm
   rw[← em]
   exact h
 | succ k ih =>
  intro i hk h1 h2 prog w A R s h;obtain⟨hp,g,d,tk,os⟩:=s;obtain⟨ha,hb,h⟩:=h
  wp_walk using wpAny_loadPart' ha,wpAny_loadPart' hb
  have hx:i<xs.size:=by omega
  have hxn:i<ns.length:=by omega
  obtain⟨ta,ea⟩:=ints_at hi (i:=i) (k:=ns[i]) (by simp[hxn]);have e1:xs[((i:Nat):Int).toNat]?=some (.int ns[i] ta):=by rw[Ld3,← Lh0]; exact ea
  by_cases hy:i<ys.size
  ·have hyn:i<ms.length:=by omega
   obtain⟨tc,ec⟩:=ints_at hj (i:=i) (k:=ms[i]) (by simp[hyn]);have e2:ys[((i:Nat):Int).toNat]?=some (.int ms[i] tc):=by rw[Ld3,← Lh0]; exact ec
   rw[e1,e2]
   have hd:HT.lexLt (ns.drop i) (ms.drop i)=if ns[i]=ms[i] then HT.lexLt (ns.drop (i+1)) (ms.drop (i+1)) else decide (ns[i]<ms[i]):=by
    rw[Lc6 hxn,Lc6 hyn]
    all_goals rfl
   rw[hd] at h;have hc:((i:Int)+1)=((i+1:Nat):Int):=by push_cast; rfl
   obtain⟨e,he,hiff⟩:=eqAt_int A.in1 ⟨hp,g,d,tk,os⟩ ns[i] ta ms[i] tc;refine wpAny_bind (he prog w _ _ ?_)
   cases e with
   | true =>
    rw[if_pos (hiff.mp rfl)] at h
    wp_walk
    rw[hc]
    exact⟨plainId_quiet plain_eq_loop _,codeAny_builtin entry_eq_loop (by
     rw[Around.under_plainId plain_eq_loop _]
     exact ih (i+1) (by omega) (by omega) (by omega) prog w A R _ ⟨ha,hb,h⟩)⟩
   | false =>
    rw[if_neg (fun q=>absurd (hiff.mpr q) Lb8)] at h;have hri:=rcLt_int A.in1 ⟨hp,g,d,tk,os⟩ ns[i] ta ms[i] tc prog w
    wp_walk using wpAny_loadPart' ha,wpAny_loadPart' hb
    rw[e1,e2]
    wp_walk using hri
    exact h
  ·have e2:ys[((i:Nat):Int).toNat]?=none:=by simp; omega
   rw[e1,e2]
   wp_walk using wpAny_loadPart' ha,wpAny_loadPart' hb
   show R (.ok (.ret (.bool (decide (xs.size<ys.size))))) _
   have em:HT.lexLt (ns.drop i) (ms.drop i)=decide (xs.size<ys.size):=by
    rw[Li4 (show ms.length≤i by omega),Lc6 hxn];exact (decide_eq_false (by omega)).symm
   rw[← em];exact h
theorem less_ints(l b:Addr)(xs ys:Array Value)(c1 c2:Nat)(d1 d2:Option Addr)(s1 s2:Array (Option Value))(ns ms:List Int)(hi:IntsAre xs.toList ns)(hj:IntsAre ys.toList ms) :
  Meets (Builtin.«list.__lt__» ⟨[.ref l,.ref b],[]⟩)
   (fun _ R s=>s.heap.get? l=some ⟨.type "list",d1,.seq xs c1,s1⟩∧s.heap.get? b=some ⟨.type "list",d2,.seq ys c2,s2⟩∧R (.ok (.ret (.bool (HT.lexLt ns ms)))) s):=by
 intro prog w A R s h;obtain⟨hp,g,d,tk,os⟩:=s;obtain⟨ha,hb,h⟩:=h;have f3:=AutoSeq1.sub_list_list
 wp_walk using wpAny_loadPart' ha,wpAny_loadPart' hb
 exact⟨plainId_quiet plain_eq_loop _,codeAny_builtin entry_eq_loop (by
  rw[Around.under_plainId plain_eq_loop _]
  exact less_loop l b xs ys c1 c2 d1 d2 s1 s2 ns ms hi hj _ 0 rfl (Lb1 _) (Lb1 _) prog w A R _ ⟨ha,hb,by simpa using h⟩)⟩
theorem sortLt_list{prog:Program}{w:World}{A:Around}{E:Value→Shared→Prop}{s:Shared}{l b:Addr}{xs ys:Array Value}{ns ms:List Int}{Q:Bool→Shared→Prop}(hl:s.heap.IsList l xs)(hb:s.heap.IsList b ys)
  (hi:IntsAre xs.toList ns) (hj:IntsAre ys.toList ms) (hu:A.units<cLine) (h:Q (HT.lexLt ns ms) s):wpAny (model prog w) A (oneLt' true (.ref l) (.ref b)) Q E s:=by
 obtain⟨⟨c1,d1,dt1,sl1⟩,ho,hc,n,hd⟩:=id hl;obtain⟨⟨c2,d2,dt2,sl2⟩,ho2,hc2,n2,hd2⟩:=id hb;simp only at hc hd hc2 hd2;subst hc hd hc2 hd2;rw[oneLt'_eq];simp only[if_true];refine wpAny_bind (wpAny_cRoomFor hu ?_);refine wpAny_bind (wpAny_callSpecialIfBound?_slot (T:="list") ⟨_,ho,rfl⟩ PySem.F.slot_list_lt (call_meets PySem.F.slot_list_lt ⟨_,ho,rfl⟩ PySem.F.entry_list_lt (PySem.F.args_list_lt_2 _ _) (less_ints l b xs ys n n2 d1 d2 sl1 sl2 ns ms hi hj) ⟨ho,ho2,?_⟩));exact wpAny_truthy_bool h
end
section
variable {prog:Program} {w:World} {A:Around} {E:Value→Shared→Prop} {s:Shared}
theorem sort_short{a:Addr}{us:List Value}{n:Nat}{P:PySem.Fin→Shared→Prop}(ho:s.heap.get? a=some (seqObj "list" us.toArray n))(h2:us.length<2)
  (h:∀ h' c,(∀ b o,b≠a→s.heap.get? b=some o→h'.get? b=some o)→h'.get? a=some (seqObj "list" us.toArray c)→P (.done (.ret .none)) { s with heap:=h' }) :
  wpAny (model prog w) A (Builtin.«list.sort» ⟨[.ref a],[]⟩) P E s:=by
 have small:us.length≤sizeLine:=by rw[sizeLine_eq]; omega
 have hlt:a<s.heap.objs.size:=Heap.lt_size ho;rw[list_sort_plain];refine wpAny_bind (listItems_at ho rfl ?_);refine wpAny_bind (listUpdate_at ho rfl ?_ (by rw[La8]; exact small) (Lb1 _));obtain⟨k1,hk1⟩:∃ k1,(s.heap.update a (Obj.mapSeq fun _=>(#[]:Array Value))).get? a=some (seqObj "list" #[] k1):=⟨_,get?_update_seq ho fun _=>#[]⟩;refine wpAny_bind (seqEpoch_at hk1 rfl ?_);refine wpAny_bind (wpAny_newTuple ?_ (by show us.length≤_; exact small));refine wpAny_bind (wpAny_newList ?_ (Lb1 _));refine wpAny_holding ?_;have hk2:(((s.heap.update a (Obj.mapSeq fun _=>(#[]:Array Value))).push (seqObj "tuple" us.toArray 0)).push (seqObj "list" #[] 0)).get? a=some (seqObj "list" #[] k1):=Heap.get?_push_of_some _ (Heap.get?_push_of_some _ hk1)
 show wpAny (model prog w) A _ P E { s with heap:=((s.heap.update a (Obj.mapSeq fun _=>(#[]:Array Value))).push (seqObj "tuple" us.toArray 0)).push (seqObj "list" #[] 0) }
 dsimp only;have hs:us.toArray.size<2:=by rw[La8]; exact h2
 rw[if_pos hs,if_pos hs];refine wpAny_bind (wpAny_pure ?_);rw[StateT.run_pure];refine wpAny_bind (wpAny_pure ?_);dsimp only
 have eo:(arrOf (SortSt.mk' general' (us.toArray.zip us.toArray) #[] 7 none)).map (·.2)=us.toArray:=by
  show (us.toArray.zip us.toArray).map (·.2)=us.toArray
  apply Array.toList_inj.mp
  simp only[Array.toList_map,Array.toList_zip];exact List.map_snd_zip (La4 _)
 rw[eo];refine wpAny_bind (seqEpoch_at hk2 rfl ?_);refine wpAny_bind (listUpdate_at hk2 rfl ?_ (Lb1 _) (by show us.length≤_; omega));simp only[bne_self_eq_false,Bool.false_eq_true,if_false]
 obtain⟨k3,hk3⟩:∃ k3,((((s.heap.update a (Obj.mapSeq fun _=>(#[]:Array Value))).push (seqObj "tuple" us.toArray 0)).push (seqObj "list" #[] 0)).update a (Obj.mapSeq fun _=>us.toArray)).get? a=some (seqObj "list" us.toArray k3) :=
  ⟨_,get?_update_seq hk2 fun _=>us.toArray⟩
 refine wpAny_pure (h _ k3 (fun b o hb e=>?_) hk3);rw[Heap.get?_update_other _ _ (Ne.symm hb)];exact Heap.get?_push_of_some _ (Heap.get?_push_of_some _ ((Heap.get?_update_other _ _ (Ne.symm hb)).trans e))
theorem sorted_short{l:Addr}{us:List Value}{Q:Value→Shared→Prop}(hl:s.heap.IsList l us.toArray)(h2:us.length<2)
  (h:∀ p h' c,s.heap.objs.size≤p→(∀ b o,s.heap.get? b=some o→h'.get? b=some o)→h'.get? p=some (seqObj "list" us.toArray c)→Q (.ref p) { s with heap:=h' }) :
  wpAny (model prog w) A (call (.builtin "sorted") [.ref l]) Q E s:=by
 have small:us.toArray.size≤sizeLine:=by rw[La8,sizeLine_eq]; omega
 refine Calls.call_function_entry kind_sorted plain_sorted entry_sorted (args_sorted1 _) ?_;unfold Builtin.«sorted»;refine wpAny_bind (m:=checkCount "sorted" 1 1 _) (wpAny_pure ?_);refine wpAny_bind (collect_list hl ?_ small);refine wpAny_bind (wpAny_newList ?_ (by rw[← La8]; exact small));have z:((s.heap.push (seqObj "list" #[] 0)).update s.heap.objs.size (Obj.mapSeq (·++us.toArray))).objs.size=s.heap.objs.size+1:=by rw[Heap.size_update,size_push']
 have at1:(((s.heap.push (seqObj "list" #[] 0)).update s.heap.objs.size (Obj.mapSeq (·++us.toArray))).push (seqObj "list" us.toArray 0)).get? (s.heap.objs.size+1)=some (seqObj "list" us.toArray 0):=by
  rw[← z]; exact Heap.get?_push_size _ rfl
 have old:∀ b o,s.heap.get? b=some o→(((s.heap.push (seqObj "list" #[] 0)).update s.heap.objs.size (Obj.mapSeq (·++us.toArray))).push (seqObj "list" us.toArray 0)).get? b=some o:=fun b o q=>by
  have hb:=Heap.lt_size q;refine Heap.get?_push_of_some _ ?_;rw[Heap.get?_update_other _ _ (Lj7 hb)];exact Heap.get?_push_of_some _ q
 show wpAny _ _ _ _ _ { s with heap:=((s.heap.push (seqObj "list" #[] 0)).update s.heap.objs.size (Obj.mapSeq (·++us.toArray))).push (seqObj "list" us.toArray 0) }
 rw[z];refine wpAny_bind (wpAny_holding (wpAny_call_entry slot_list_sort ⟨_,at1,rfl⟩ entry_list_sort ?body (args_list_sort _)))
 case body =>
  refine sort_short (s:={ s with heap:=((s.heap.push (seqObj "list" #[] 0)).update s.heap.objs.size (Obj.mapSeq (·++us.toArray))).push (seqObj "list" us.toArray 0) }) at1 h2 fun h' c kp e=>⟨_,rfl,?_⟩
  refine wpAny_pure ⟨_,rfl,h _ h' c (Nat.le_succ _) (fun b o q=>kp b o ?_ (old b o q)) e⟩;exact Lc4 (Nat.lt_succ_of_lt (Heap.lt_size q))
end
theorem ns_one{h:Heap}{a:Addr}{m m':Str→Option Value}(x:h.Ns a m)(y:h.Ns a m'):m=m':=by
 obtain⟨o,es,ep,ho,hd,_,hm⟩:=x;obtain⟨o',es',ep',ho',hd',_,hm'⟩:=y;rw[ho] at ho';cases ho';rw[hd] at hd';cases hd'
 funext z
 rw[← hm z,← hm' z]
section
variable {X:Cx} {pins:List (Addr×Obj)} {σ:L2.St} {H:Hp} {s:Shared} {h':Heap}
theorem turnNew{t':Nat}{fp:List Addr}{p:Addr}{o:HO}(I:Inv X pins σ H s)(hf:∀ b∈fp,FpOk X pins H b)(k:∀ b u,b∉fp→s.heap.get? b=some u→h'.get? b=some u)(hp:s.heap.objs.size≤p)
  (new:ObjOk X.prog X.w (upd H p o) h' p o):Inv X pins σ (upd H p o) { s with heap:=h',toks:=t' }:=by
 have hn:H p=none:=I.hok.fresh hp;have np:∀ b u,s.heap.get? b=some u→b≠p:=fun b u e=>Lc4 (Lb7 (Heap.lt_size e) hp);have nt:∀ b u,H b=some u→b∉fp:=fun b u e z=>by rw[(hf b z).1] at e; cases e
 refine I.step (g':=s.gens) (d':=s.drawn) (ch:=fp) (fun b hb=>?_) (fun b ob _ _ hc e _=>k b ob hc e) (fun b ob _ _ hc e _=>⟨ob.slots,k b ob hc e⟩) (fun b ob _ e n=>by rw[upd_ne (np b ob e)]; exact n)
  (fun b ob hc e=>⟨ob,k b ob hc e⟩) (fun b xs e=>by rw[upd_ne (ne_of_none e hn)]; exact e) (fun b ob xs e=>by rw[upd_ne (ne_of_none e hn)]; exact e) (fun b ps e=>⟨#[],by rw[upd_ne (ne_of_none e hn),e]; simp⟩) (fun m hm=>?_) (fun b u e=>?_) I.bare
 ·obtain⟨_,f1,_,f3,f4,f5⟩:=hf b hb;exact⟨f3,f1,f4,f5⟩
 ·obtain⟨ob,es,ep,ho,r⟩:=hm;exact⟨ob,es,ep,k _ ob (fun z=>(hf _ z).2.1 rfl) ho,r⟩
 ·by_cases hb:b=p
  ·subst hb;rw[upd_same] at e;cases e;exact new
  ·rw[upd_ne hb] at e;refine (I.hok b u e).stay (fun c v hc q=>k c v ?_ q) (fun c q=>by rw[upd_ne (ne_of_none q hn)]; exact q) fun c xs q=>by rw[upd_ne (ne_of_none q hn)]; exact q
   rcases hc with rfl | hc
   ·exact nt c u e
   ·exact nt c _ hc
theorem laidL{t':Nat}{p:Addr}{o:HO}{m:Str→Option Value}(I:Inv X pins σ H s)(hm:s.heap.Ns X.env.locals m)(hm':h'.Ns X.env.locals m)(k:∀ b u,b≠X.env.locals→s.heap.get? b=some u→h'.get? b=some u)(hn:H p=none)
  (nf:∀ b u,s.heap.get? b=some u→H b=none→b≠p) (new:ObjOk X.prog X.w (upd H p o) h' p o):Inv X pins σ (upd H p o) { s with heap:=h',toks:=t' }:=by
 have nL:∀ b u,H b=some u→b≠X.env.locals:=fun b u e z=>by rw[z,I.free] at e; cases e
 have ths:∀ b ob,s.heap.get? b=some ob→∃ o',h'.get? b=some o':=fun b ob e=>by
  by_cases hb:b=X.env.locals
  ·obtain⟨ob',_,_,ho,_⟩:=hm';exact⟨ob',by rw[hb]; exact ho⟩
  ·exact⟨ob,k b ob hb e⟩
 refine I.step (g':=s.gens) (d':=s.drawn) (ch:=[]) (fun _ z=>nomatch z) (fun b ob hL _ _ e _=>k b ob hL e) (fun b ob hL _ _ e _=>⟨ob.slots,k b ob hL e⟩) (fun b ob _ e n=>by rw[upd_ne (nf b ob e n)]; exact n)
  (fun b ob _ e=>ths b ob e) (fun b xs e=>by rw[upd_ne (ne_of_none e hn)]; exact e) (fun b ob xs e=>by rw[upd_ne (ne_of_none e hn)]; exact e) (fun b ps e=>⟨#[],by rw[upd_ne (ne_of_none e hn),e]; simp⟩) (fun m2 h2=>?_) (fun b u e=>?_) I.bare
 ·rw[ns_one h2 hm];exact hm'
 ·by_cases hb:b=p
  ·subst hb;rw[upd_same] at e;cases e;exact new
  ·rw[upd_ne hb] at e;refine (I.hok b u e).stay (fun c v hc q=>k c v ?_ q) (fun c q=>by rw[upd_ne (ne_of_none q hn)]; exact q) fun c xs q=>by rw[upd_ne (ne_of_none q hn)]; exact q
   rcases hc with rfl | hc
   ·exact nL c u e
   ·exact nL c _ hc
end
theorem paired_get{α β:Type}{R:α→β→Prop}:∀ {xs:List α} {ys:List β} {i:Nat} {x:α} {y:β},Paired R xs ys→xs[i]?=some x→ys[i]?=some y→R x y
 | _,_,_,_,_,.nil,e,_=>by simp at e
 | _,_,0,_,_,.cons r _,e,f=>by simp at e f; subst e f; exact r
 | _,_,i+1,_,_,.cons _ t,e,f=>paired_get (i:=i) t (by simpa using e) (by simpa using f)
theorem paired_length{α β:Type}{R:α→β→Prop}:∀ {xs:List α} {ys:List β},Paired R xs ys→xs.length=ys.length
 | _,_,.nil=>rfl
 | _,_,.cons _ t=>by rw[Lb4,Lb4,paired_length t]
theorem paired_pick{α β:Type}{R:α→β→Prop}{xs:List α}{ys:List β}{dx:α}{dy:β}(h:Paired R xs ys):∀ q:List Nat,(∀ i∈q,i<xs.length)→Paired R (q.map fun i=>xs.getD i dx) (q.map fun i=>ys.getD i dy)
 | [],_=>.nil
 | i::q,hq=>by
  have hi:=hq i La7;have hl:=paired_length h;refine .cons ?_ (paired_pick h q fun j hj=>hq j (Lb0 _ hj));refine paired_get (i:=i) h ?_ ?_
  ·show xs[i]?=some (xs.getD i dx)
   rw[La3]; simp[hi]
  ·show ys[i]?=some (ys.getD i dy)
   rw[La3]; simp[← hl,hi]
theorem pick_range{α:Type}(ys:List α)(d:α):(List.range ys.length).map (fun i=>ys.getD i d)=ys:=by
 apply Lk3
 intro i
 by_cases h:i<ys.length
 ·rw[La6,La0 (show i<(List.range ys.length).length by simpa using h)];simp[h]
 ·rw[Lh4.mpr (by simpa using h),Lh4.mpr (by omega)]
theorem obj_ex{P:Program}{w:World}{H:Hp}{h:Heap}{a:Addr}{o:HO}(x:ObjOk P w H h a o):∃ ob,h.get? a=some ob:=by
 cases o with
 | lst xs=>obtain⟨_,_,_,_,e⟩:=x; exact⟨_,e⟩
 | tup xs=>obtain⟨_,_,_,ob,e,_⟩:=x; exact⟨_,e⟩
 | dK kvs=>obtain⟨_,_,_,_,o,_,_,e,_⟩:=x; exact⟨_,e⟩
 | dT kvs=>obtain⟨_,_,_,_,o,_,_,e,_⟩:=x; exact⟨_,e⟩
 | set S n=>obtain⟨o,_,_,_,e,_⟩:=x; exact⟨_,e⟩
 | ins C dx fs=>obtain⟨_,_,_,e,_⟩:=x; exact⟨_,e⟩
 | own y=>exact x
 | xd fs=>obtain⟨_,⟨_,_,_,e,_⟩,_⟩:=x; exact⟨_,e⟩
 | rng lo hi=>obtain⟨_,_,_,e⟩:=x; exact⟨_,e⟩
 | frz ob u=>exact⟨_,x.1⟩
 | tbl ps=>exact⟨_,x⟩
 | met f y=>exact⟨_,x⟩
 | ext φ=>exact x.2.1
def rSorted(K:PySem.W.Frag):List V→Hp→VK→Prop:=fun xs H Q=>∃ (p:Addr) (vs:List V) (ps:List (List Int)) (R:V→List Int→Prop),xs=[.ref p]∧SqL K H p vs∧Paired R vs ps ∧
 (∀ v q,R v q→∃ a,v=.ref a∧H a=some (.lst (q.map V.int)))∧ps.length<64∧∀ l vs' ps',H l=none→Paired R vs' ps'→ps'.Perm ps→Rising ps'→Q (.ref l) (upd H l (.lst vs'))
section
variable {X:Cx}
theorem call_sorted(hu:X.A.in1.in1.units<cLine):CallR X (.builtin "sorted") (rSorted X.K):=by
 intro pins s σ H xs us Q I r h;obtain⟨p,vs,ps,R,rfl,hq,hR,hA,h64,k⟩:=h;obtain⟨u,rfl,rx⟩:=vals1 r;cases rx;obtain⟨its,rv,pl,hz⟩:=I.list hq;have hl:=rv.length;have hl2:=paired_length hR
 by_cases h2:its.length<2
 ·refine sorted_short pl.isList h2 fun D h' c hD kp e=>?_;refine⟨.ref D,_,I.laid (t':=s.toks) (o:=.lst vs) kp hD ⟨hz,its,c,rv,e⟩,rfl,k D vs ps (I.hok.fresh hD) hR (List.Perm.refl _) ?_⟩
  have:ps.length<2:=by omega
  match ps,this with
  | [],_=>exact List.Pairwise.nil
  | [_],_=>exact Lk0 _ _
  | _::_::_,z=>simp at z <;> omega
 ·obtain⟨m,F⟩:=I.fr;have hm:s.heap.Ns X.env.locals m:=F.ns;have N:News X.base X.env.locals s.heap (allNews X.base s.heap X.env.locals):=news_all
  have item:∀ i,i<its.length→∃ (a:Addr) (ks:List Value) (c:Nat),its.getD i Value.none=.ref a∧Vals ((ps.getD i []).map V.int) ks∧(a,({ cls:=.type "list",data:=.seq ks.toArray c }:Obj))∈allNews X.base s.heap X.env.locals:=fun i hi=>by
   have e1:vs[i]?=some vs[i]:=by simp[show i<vs.length by omega]
   have e2:ps[i]?=some (ps.getD i []):=by rw[La3]; simp[show i<ps.length by omega]
   obtain⟨a,ea,ha⟩:=hA _ _ (paired_get hR e1 e2);obtain⟨_,ks,c,rk,eo⟩:=I.hok a _ ha;obtain⟨u,eu,ru⟩:=rv.get e1;rw[ea] at ru;cases ru;refine⟨a,ks,c,?_,rk,mem_allNews (fun z=>?_) ?_ eo⟩
   ·rw[La3,eu]; rfl
   ·rw[z,I.free] at ha; cases ha
   ·cases q:X.base.get? a with
    | none=>rfl
    | some ob=>rw[(I.bs a ob q).2] at ha; cases ha
  have item':∀ v∈its,∃ (a:Addr) (ob:Obj),v=.ref a∧ob.cls=.type "list"∧(a,ob)∈allNews X.base s.heap X.env.locals:=fun v hv=>by
   obtain⟨i,hi,ei⟩:=Le0.mp hv;obtain⟨a,ks,c,e1,_,e3⟩:=item i hi;refine⟨a,_,?_,rfl,e3⟩;rw[← e1,La3]; simp[hi,ei]
  refine PySem.W.kas_sorted (T:=.type "list") F N pl.isList (by omega) (by omega) (fun h Fh Nh v hv=>?_) (by decide) fun D e1 h' F' N' hD=>?_
  ·obtain⟨a,ob,rfl,hc,hmem⟩:=item' v hv;exact PySem.W.kitAt_ty _ h ⟨ob,(Nh _ hmem).1,hc⟩
  ·have O:POrd fun i j=>HT.lexLt (ps.getD i []) (ps.getD j []):=⟨fun a=>lex_irr _,fun a b c=>lex_tr _ _ _,fun a b c=>lex_neg _ _ _⟩;refine kas_sort_ok O (fun i j C hi hj hC=>?_) (by omega) fun q hq hs=>?_
   ·obtain⟨a,ks,c,ea,ra,ma⟩:=item i hi;obtain⟨b,ks2,c2,eb,rb,mb⟩:=item j hj;unfold PySem.W.kas_ask;rw[keyLt'_oneType,ea,eb];exact sortLt_list ⟨_,(N' _ (Lb0 _ ma)).1,rfl,_,rfl⟩ ⟨_,(N' _ (Lb0 _ mb)).1,rfl,_,rfl⟩ (intsAre_of ra) (intsAre_of rb) hu hC
   ·refine PySem.W.KasFin.intro F' N' (.head fun z hz'=>Lc4 (hD z hz')) fun h2' c F2 N2=>?_
    have hDn:H D=none:=by
     cases e:H D with
     | none=>rfl
     | some u =>
      obtain⟨ob,eo⟩:∃ ob,s.heap.get? D=some ob:=obj_ex (I.hok D u e);exact absurd (hD _ (mem_allNews (N' _ La7).2.1 (N' _ La7).2.2 eo)) (Le6 _)
    have hlen:q.size=its.length:=hq.size
    have hin:∀ i∈q.toList,i<its.length:=fun i hi=>by
     have:i∈List.toArray (List.range its.length):=(Array.Perm.mem_iff hq).mp (Lj0.mp hi)
     simpa using this
    have keep:∀ b u,b≠X.env.locals→s.heap.get? b=some u→h2'.get? b=some u:=fun b u hb e=>by
     cases e2:X.base.get? b with
     | some ob =>
      have:=I.bk b ob e2;rw[e] at this;cases this
      exact F2.keep b _ e2
     | none=>exact (N2 (b,u) (Lb0 _ (mem_allNews hb e2 e))).1
    have hperm:(q.toList.map fun i=>ps.getD i []).Perm ps:=by
     have hp2:q.toList.Perm (List.range its.length):=by simpa using Li9.mp hq
     have:=hp2.map fun i=>ps.getD i [];rw[show its.length=ps.length by omega] at this;exact this.trans (List.Perm.of_eq (pick_range ps []))
    refine⟨.ref D,_,laidL (s:=s) (h':=h2') (t':=s.toks) (o:=.lst (q.toList.map fun i=>vs.getD i .non)) I hm F2.ns keep hDn (fun b u e n z=>?_) ⟨?_,q.toList.map fun i=>its.getD i Value.none,c,?_,(N2 (D,_) La7).1⟩,rfl,
     k D _ (q.toList.map fun i=>ps.getD i []) hDn (paired_pick hR _ fun i hi=>by have:=hin i hi; omega) hperm ?_⟩
    ·subst z;exact absurd (hD _ (mem_allNews (N' _ La7).2.1 (N' _ La7).2.2 e)) (Le6 _)
    ·rw[La1,Lc1]; omega
    ·exact paired_pick rv _ fun i hi=>by have:=hin i hi; omega
    ·refine Lf8.mpr ?_;rw[Lf5];intro i j hi hj hij
     have:=hs i j (Lg8 hij) (by rw[Lc1] at hj; omega)
     simpa [ple,pat,show i<q.size by rw[Array.length_toList] at hi; exact hi,show j<q.size by rw[Lc1] at hj; exact hj] using this
end
inductive NeER(K:PySem.W.Frag)(x y:V)(H:Hp)(Q:VK):Prop
 | mk (p q:Addr) (xs:List V) (e:x=.ref p) (e':y=.ref q) (h:SqL K H p xs) (h':SqL K H q []) (k:Q (.bl (!xs.isEmpty)) H):NeER K x y H Q
def rNeE(K:PySem.W.Frag):R2:=fun x y H Q=>NeER K x y H Q
inductive EqER(K:PySem.W.Frag)(x y:V)(H:Hp)(Q:VK):Prop
 | mk (p q:Addr) (xs:List V) (e:x=.ref p) (e':y=.ref q) (h:SqL K H p xs) (h':SqL K H q []) (k:Q (.bl xs.isEmpty) H):EqER K x y H Q
def rEqE(K:PySem.W.Frag):R2:=fun x y H Q=>EqER K x y H Q
section
variable {X:Cx}
theorem op_neE(hu:X.A.units<cLine):OpR X (compareOp .NotEq) (rNeE X.K):=by
 intro pins s σ H x y v u Q I rx ry h;obtain⟨p,q,xs,rfl,rfl,hp,hq,k⟩:=h;cases rx;cases ry;obtain⟨its,r1,l1,_⟩:=I.list hp;obtain⟨its2,r2,l2,_⟩:=I.list hq;have e2:its2=[]:=r2.zero;subst e2
 cases xs with
 | nil =>
  have e1:its=[]:=r1.zero;subst e1;refine SeqAt.RcNeAt.lists (e:=fun _=>true) l1.isList l2.isList rfl hu (fun j h1 _=>absurd h1 (Nat.not_lt_zero j)) X.prog X.w X.xe _ ?_
  exact⟨.bl false,H,I,rfl,k⟩
 | cons z zs =>
  refine SeqAt.RcNeAt.lists_lengths l1.isList l2.isList ?_ hu X.prog X.w X.xe _ ⟨.bl true,H,I,rfl,k⟩
  have:=r1.length;simp only[List.length_cons] at this;simp only[List.size_toArray,List.length_nil,bne_iff_ne];omega
theorem op_eqE(hu:X.A.units<cLine):OpR X (compareOp .Eq) (rEqE X.K):=by
 intro pins s σ H x y v u Q I rx ry h;obtain⟨p,q,xs,rfl,rfl,hp,hq,k⟩:=h;cases rx;cases ry;obtain⟨its,r1,l1,_⟩:=I.list hp;obtain⟨its2,r2,l2,_⟩:=I.list hq;have e2:its2=[]:=r2.zero;subst e2
 cases xs with
 | nil =>
  have e1:its=[]:=r1.zero;subst e1
  exact SeqAt.eq_listAt (e:=fun _=>true) l1.isList l2.isList rfl hu (fun j h1 _=>absurd h1 (Nat.not_lt_zero j)) ⟨.bl true,H,I,rfl,k⟩
 | cons z zs =>
  refine SeqAt.eq_list_lengthsAt l1.isList l2.isList ?_ hu ⟨.bl false,H,I,rfl,k⟩
  have:=r1.length;simp only[List.length_cons] at this;simp only[List.size_toArray,List.length_nil,bne_iff_ne];omega
inductive IsiR(K:PySem.W.Frag)(xs:List V)(H:Hp)(Q:VK):Prop
 | mk (x:V) (n:String) (t:Value) (b:Bool) (e:xs=[x,.ty n]) (ty:TyOf K H x t) (h:PySem.W.kitOne K t (.type n)=some b) (k:Q (.bl b) H):IsiR K xs H Q
def rIsi(K:PySem.W.Frag):List V→Hp→VK→Prop:=fun xs H Q=>IsiR K xs H Q
theorem call_isi:CallR X (.builtin "isinstance") (rIsi X.K):=by
 intro pins s σ H xs us Q I r h;obtain⟨x,n,t,b,rfl,ty,e,k⟩:=h;obtain⟨u,w',rfl,r1,r2⟩:=vals2 r;cases (show w'=Value.type n from r2);exact isinst_ok I r1 ty e fun tk=>⟨.bl b,H,I.tok tk,rfl,k⟩
def rSum(K:PySem.W.Frag):List V→Hp→VK→Prop:=fun xs H Q=>∃ (p:Addr) (ns:List Int),xs=[.ref p]∧SqL K H p (ns.map V.int)∧Q (.int ns.sum) H
theorem call_sum(hc:X.calm=true):CallR X (.builtin "sum") (rSum X.K):=by
 intro pins s σ H xs us Q I r h;obtain⟨p,ns,rfl,hq,k⟩:=h;obtain⟨u,rfl,rx⟩:=vals1 r;cases rx;obtain⟨its,rv,pl,hz⟩:=I.list hq;have hi:IntsAre its ns:=intsAre_of rv;have en:numsOf its=ns:=hi.numsOf;obtain⟨zs,hzs⟩:=hi.allInts.items;have hl:=pl.isList;rw[hzs] at hl;refine sum_intListG (I.ok.hd hc) hl fun h' tk t' kp=>⟨.int ns.sum,H,I.kept kp,⟨t',?_⟩,k⟩;have e1:numsOf (intItems zs).toList=ns:=by rw[← hzs]; exact en
 rw[nums_intItems] at e1;rw[preSum_eq,Le2 (by simp),e1]
def Ite(K:PySem.W.Frag)(a:Addr):It :=
 ⟨fun i H=>∃ xs x,SqL K H a xs∧xs[i]?=some x,fun i H v H'=>∃ p x,H p=none∧v=.ref p∧H'=upd H p (.tup [.int i,x])∧∀ xs,SqL K H a xs→xs[i]?=some x,fun i H=>∃ xs,SqL K H a xs∧xs.length≤i⟩
theorem turn_enum{P:Program}{w:World}{K:PySem.W.Frag}{es:List Expr}{kk:Nat}{tp:Pos}(a e it:Addr)(hei:e≠it) :
  Turn P w K (.Tuple es kk tp) (Ite K a) [e,it] e (fun i h=>(∃ old,IsEnum h e it ((i:Nat):Int) old)∧h.IsListIter it a i) where
 mem:=by simp
 obj:=fun i h st b hb=>by
  obtain⟨⟨old,he⟩,hi⟩:=st
  rcases Lb6.mp hb with rfl | hb
  ·exact⟨_,he,fun v z=>nomatch z⟩
  ·have eb:b=it:=by simpa using hb
   subst eb;obtain⟨o,e1,c,d⟩:=hi;exact⟨o,e1,fun v z=>by rw[d] at z; cases z⟩
 keep:=fun i h h' st k=>⟨let ⟨old,he⟩:=st.1; ⟨old,k e (by simp) _ he⟩,st.2.at fun o q=>k it (by simp) o q⟩
 item:=by
  intro X hP hw hK hc i pins s σ H E I hf st hg;subst hP hw hK;obtain⟨xs,x,hq,hx⟩:=hg;obtain⟨⟨old,he⟩,hi⟩:=st;obtain⟨its,rv,pl,hz⟩:=I.list hq;obtain⟨u,hu,ru⟩:=rv.get hx;have hn:H s.heap.objs.size=none:=I.fresh;refine wpAny_pyNext_enum_item he hi pl.isList (x:=u) (by simpa using hu) hei fun h' heo hi' ht' hsz' kp=>⟨_,rfl,?_⟩;refine wpAny_letOwnedTupleGo_enum (s:={ s with heap:=h',toks:=s.toks+1 }) heo fun h2 he2 hs2=>?_
  have hs3:Heap.SameBut e h' h2:=hs2
  have lt:∀ b∈[e,it],b<s.heap.objs.size:=fun b hb=>by
   rcases Lb6.mp hb with rfl | hb
   ·exact Heap.lt_size he
   ·have eb:b=it:=by simpa using hb
    subst eb;obtain⟨o,e1,_⟩:=hi;exact Heap.lt_size e1
  have ht2:h2.get? s.heap.objs.size=some { cls:=.type "tuple",data:=.seq #[.int i s.toks,u] }:=(hs3.2 _ (Lj7 (lt e (by simp)))).trans ht'
  refine⟨.ref s.heap.objs.size,upd H s.heap.objs.size (.tup [.int i,x]),turnNew (s:=s) (h':=h2) (t':=s.toks+1) (fp:=[e,it]) I hf (fun b ob hb q=>?_) (La4 _) ⟨by show 2≤sizeLine; decide,[.int i s.toks,u],.cons ⟨_,rfl⟩ (.cons ru .nil),⟨_,ht2,rfl,_,rfl⟩⟩,rfl,
   ⟨_,x,hn,rfl,rfl,fun ys hy=>by rw[I.list_inj hy hq]; exact hx⟩,⟨⟨u,he2⟩,?_⟩,fun b hb=>?_⟩
  ·have h1:b≠e:=fun z=>hb (by simp[z]);have h3:b≠it:=fun z=>hb (by simp[z]);exact (hs3.2 b h1).trans (kp b ob h1 h3 q)
  ·exact hi'.extBut hs3.extBut (Ne.symm hei)
  ·rw[upd_ne (Lc4 (lt b hb))];exact (hf b hb).1
 done:=by
  intro X hP hw hK hc i pins s σ H E I hf st hg;subst hP hw hK;obtain⟨xs,hq,hx⟩:=hg;obtain⟨⟨old,he⟩,hi⟩:=st;obtain⟨its,rv,pl,hz⟩:=I.list hq;obtain⟨f0,f1,f2,f3,f4,f5⟩:=hf it (by simp);have hl:=rv.length;exact wpAny_pyNext_enum_end (I.ok.hd hc) he hi pl.isList (by simp; omega) fun h' eb=>⟨rfl,I.turned (t':=s.toks) (fun b o hb q=>eb b o hb q) f0 f1 f3 f4 f5⟩
 self:=fun _ _ _ _ _ st h=>let ⟨_,he⟩:=st.1; wpAny_pyIter_enum he h
def iEnum(K:PySem.W.Frag)(ta:TA):TI:=fun σ H R=>ta σ H fun vs H1=>∃ a,vs=[.ref a]∧(∃ xs,SqL K H1 a xs)∧R (Ite K a) H1
theorem pi_enum{a:Expr}{ta:TA}{es:List Expr}{kk:Nat}{tp p pos:Pos}(hg:Gl X "enumerate")(hm:X.mg "enumerate"=none)(ha:PA X [a] ta)(hs:starEach [a] X.env=[(false,eval a X.env)]:=by rfl) :
  PI X (.Tuple es kk tp) (.Call (.Name "enumerate" p) [a] [] pos) (iEnum X.K ta):=by
 intro pins s σ H R I h;refine Call_ (ld_blt I hg hm boot_enumerate (PyProof.Rows.callWith_type1 (thn (ha pos pins s σ H _ I h) fun us s1 ⟨vs,H1,I1,r1,q1⟩=>?_) hs rfl));obtain⟨b,rfl,⟨xs,hq⟩,q⟩:=q1;obtain⟨u,rfl,rx⟩:=vals1 r1;cases rx;obtain⟨its,rv,pl,hz⟩:=I1.list hq;refine call_enumerate_list pl.isList fun h' he hi hsz kp=>?_;have I2:Inv X pins σ H1 { s1 with heap:=h' }:=I1.kept (t':=s1.toks) kp
 refine wpAny_pyIter_enum (s:={ s1 with heap:=h' }) he ⟨s1.heap.objs.size+1,[s1.heap.objs.size+1,s1.heap.objs.size],_,_,H1,rfl,I2,turn_enum b _ _ (Nat.succ_ne_self _),⟨⟨_,he⟩,hi⟩,fun c hc=>?_,q⟩
 have hc':s1.heap.objs.size≤c:=by
  rcases Lb6.mp hc with rfl | hc
  ·exact Nat.le_succ _
  ·have:c=s1.heap.objs.size:=by simpa using hc
   exact Nat.le_of_eq this.symm
 exact I1.fpOk hc' (I1.hok.fresh hc')
theorem for_enum{K:PySem.W.Frag}{a:Addr}{xs:List V}{g:TG}{tb:TS}{De:Ends}{σ:L2.St}{H:Hp}(Pv:Nat→L2.St→Hp→Prop)(h0:Pv 0 σ H)(hl:∀ i σ H,i≤xs.length→Pv i σ H→SqL K H a xs)
  (hs:∀ i x σ H p,xs[i]?=some x→Pv i σ H→H p=none→g (.ref p) σ (upd H p (.tup [.int i,x])) fun σ2 H2=>tb { De with nx:=Pv (i+1),ct:=Pv (i+1),bk:=De.nx } σ2 H2) (hd:∀ σ H,Pv xs.length σ H→De.nx σ H) :
  ∃ W:Nat→Nat→L2.St→Hp→Prop,(∃ m,W 0 m σ H)∧∀ i m σ H,W i m σ H →
   ((Ite K a).stop i H∧De.nx σ H)∨((Ite K a).go i H∧∃ N:L2.St→Hp→Prop,(∀ σ' H',N σ' H'→∃ m',m'<m∧W (i+1) m' σ' H')∧∀ x H',(Ite K a).yld i H x H'→g x σ H' fun σ2 H2=>tb { De with nx:=N,ct:=N,bk:=De.nx } σ2 H2):=by
 refine⟨fun i m σ H=>m=xs.length - i∧i≤xs.length∧Pv i σ H,⟨xs.length,by simp,Lb1 _,h0⟩,?_⟩;rintro i m σ H ⟨rfl,hi,p⟩;have q:=hl i σ H hi p
 by_cases hlt:i<xs.length
 ·refine .inr ⟨⟨xs,xs[i],q,by simp[hlt]⟩,Pv (i+1),fun σ' H' p'=>⟨xs.length - (i+1),by omega,rfl,hlt,p'⟩,fun x H' y=>?_⟩;obtain⟨b,z,hb,rfl,rfl,hz⟩:=y;exact hs i z σ H b (hz xs q) p hb
 ·have e:i=xs.length:=by omega
  subst e;exact .inl ⟨⟨xs,q,La4 _⟩,hd σ H p⟩
end
structure Ok1(P:Program)(w:World)(K:PySem.W.Frag)(mg:Str→Option Value)(base:Heap)(k:Nat)(x:Str)(ps:List Str)(sp:Sp):Prop where
 ex:∃ (f:Addr) (fd:FuncData),FnOk P w K mg base CX0 k f fd ps sp∧mg x=some (.ref f)∧PySem.W.keepIn K (.ref f)=true∧Binds K fd ps []
theorem pe_fn{X:Cx}{k:Nat}{x:Str}{ps:List Str}{sp:Sp}{e:Expr}{es:List Expr}{t:TA}{p pos:Pos}(F:Ok1 X.prog X.w X.K X.mg X.base k x ps sp)(hr:Room k X.A)(hg:Gl X x)(ha:PA X (e::es) t)
  (hdb:(x == ("__debug__":Str))=false:=by decide) (he:starEach (e::es) X.env=(false,eval e X.env)::starEach es X.env:=by rfl) (hpl:(backTo pos (starEach es X.env)).any (·.1)=false:=by rfl) :
  PE X (.Call (.Name x p) (e::es) [] pos) (tCall sp [] E0 t):=by
 obtain⟨f,fd,F,hm,hk,hb⟩:=F.ex;exact pe_call F hr hg hm hk hb .nil pass0 ha hdb he hpl
section
variable {G H:Hp} {p:Addr} {o:HO}
theorem Ext.tmp(s:Same G H)(n:H p=none):Ext G H G (upd H p o):=⟨Same.refl G,s.trans (same_upd n),same_upd n,fun _ _ _=>rfl⟩
end
theorem cut_from(xs:List V)(k:Nat):cutV xs (some (k:Int)) none=xs.drop k:=by
 unfold cutV;rw[HT.sIx_nat,HT.sIx_none]
 by_cases h:k≤xs.length
 ·rw[Lf6 h,Le2 (by rw[Ld0]; exact La4 _)]
 ·rw[Lg7 (by omega),Lh9,Lj2,Li4 (by omega)]
theorem cut_to(xs:List V)(k:Nat):cutV xs none (some (k:Int))=xs.take k:=by
 unfold cutV;rw[HT.sIx_nat,HT.sIx_none,List.drop_zero,Lk5]
 by_cases h:k≤xs.length
 ·rw[Lf6 h]
 ·rw[Lg7 (by omega),Le2 (La4 _),Le2 (by omega)]
theorem cut_last(xs:List V):cutV xs (some (-1)) none=xs.drop (xs.length - 1):=by
 unfold cutV
 rw[HT.sIx_none,show HT.sIx xs.length 0 (some (-1))=xs.length - 1 from by
  show (if (-1:Int)<0 then ((-1:Int)+(xs.length:Int)).toNat else min (-1:Int).toNat xs.length)=xs.length - 1
  rw[if_pos (by decide)]; omega]
 exact Le2 (by rw[Ld0]; exact La4 _)
theorem cut_front(xs:List V):cutV xs none (some (-1))=xs.take (xs.length - 1):=by
 unfold cutV
 rw[HT.sIx_none,show HT.sIx xs.length xs.length (some (-1))=xs.length - 1 from by
  show (if (-1:Int)<0 then ((-1:Int)+(xs.length:Int)).toNat else min (-1:Int).toNat xs.length)=xs.length - 1
  rw[if_pos (by decide)]; omega,List.drop_zero,Lk5]
theorem line_big:(1000000:Nat)≤sizeLine:=by decide
theorem kids_cut(m:Str)(kv:List V):cutV (.str m::kv) (some 1) none=kv:=cut_from (.str m::kv) 1
theorem kids_not(m:Str)(kv:List V):¬ (HT.sIx (V.str m::kv).length 0 (some 1)=0∧HT.sIx (V.str m::kv).length (V.str m::kv).length none=(V.str m::kv).length):=by
 rintro⟨h,_⟩
 have:HT.sIx (V.str m::kv).length 0 (some ((1:Nat):Int))=min 1 (V.str m::kv).length:=HT.sIx_nat _ _ _;rw[show ((1:Nat):Int)=1 from rfl] at this;rw[this] at h;simp at h
def tIfM(c:TT)(t u:TS):TS:=fun De σ H=>∃ N:L2.St→Hp→Prop,(c σ H fun b H1=>if b=true then t { De with nx:=N } σ H1 else u { De with nx:=N } σ H1)∧∀ σ' H',N σ' H'→De.nx σ' H'
theorem ps_ifM{X:Cx}{c:Expr}{a b:List Stmt}{tc:TT}{t u:TS}{pos:Pos}(hc:PT X c tc)(ha:PSs X a t)(hb:PSs X b u):PS X (.If c a b pos) (tIfM tc t u):=by
 intro pins s σ H De I h;obtain⟨N,h,hN⟩:=h;refine thn (ps_if hc ha hb pins s σ H { De with nx:=N } I h) fun f s' q=>?_
 cases f with
 | next=>obtain⟨σ',H',I',q⟩:=q; exact⟨σ',H',I',hN _ _ q⟩
 | brk=>exact q
 | cont=>exact q
 | ret v=>exact q
def Word(x:Str):Prop:=1≤x.length∧x.length≤28∧∀ c∈x.cps.toList,97≤c∧c≤122
instance (x:Str):Decidable (Word x):=by unfold Word; infer_instance
mutual
def Tr.words:Tr→Prop
 | .node m ks=>Word m∧wordsOf ks
def wordsOf:List Tr→Prop
 | []=>True
 | t::ts=>t.words∧wordsOf ts
end
theorem wordsOf_iff:∀ {ts:List Tr},wordsOf ts↔∀ t∈ts,t.words
 | []=>by simp[wordsOf]
 | t::ts=>by
  rw[wordsOf,wordsOf_iff (ts:=ts)]
  constructor
  ·rintro⟨h1,h2⟩ u hu
   rcases Lb6.mp hu with rfl | hu
   ·exact h1
   ·exact h2 u hu
  ·intro h;exact⟨h t La7,fun u hu=>h u (Lb0 _ hu)⟩
theorem word_sab:Word (Str.ofString "sab"):=by decide +kernel
theorem word_tab:Word (Str.ofString "tab"):=by decide +kernel
theorem word_sob:Word (Str.ofString "sob"):=by decide +kernel
theorem word_sat:Word (Str.ofString "sat"):=by decide +kernel
theorem four_words(n:Int):∃ m,atI [V.str (Str.ofString "sab"),V.str (Str.ofString "tab"),V.str (Str.ofString "sob"),V.str (Str.ofString "sat")] (n % 4)=some (V.str m)∧Word m:=by
 have h1:0≤n % 4:=Lf7 _ (by decide);have h2:n % 4<4:=Lf3 _ (by decide);generalize n % 4=k at *;obtain rfl | rfl | rfl | rfl:k=0∨k=1∨k=2∨k=3:=by omega
 ·exact⟨_,rfl,word_sab⟩
 ·exact⟨_,rfl,word_tab⟩
 ·exact⟨_,rfl,word_sob⟩
 ·exact⟨_,rfl,word_sat⟩
theorem seven_ints(n:Int):∃ k:Nat,atI [V.int 0,V.int 0,V.int 1,V.int 1,V.int 2,V.int 3,V.int 4] (n % 7)=some (V.int (k:Int)):=by
 have h1:0≤n % 7:=Lf7 _ (by decide);have h2:n % 7<7:=Lf3 _ (by decide);generalize n % 7=k at *;obtain rfl | rfl | rfl | rfl | rfl | rfl | rfl:k=0∨k=1∨k=2∨k=3∨k=4∨k=5∨k=6:=by omega
 ·exact⟨0,rfl⟩
 ·exact⟨0,rfl⟩
 ·exact⟨1,rfl⟩
 ·exact⟨1,rfl⟩
 ·exact⟨2,rfl⟩
 ·exact⟨3,rfl⟩
 ·exact⟨4,rfl⟩
theorem alphabet_all:∀ k:_root_.Fin 26,atI (Str.ofString "abcdefghijklmnopqrstuvwxyz").cps.toList ((k.val:Nat):Int)=some (97+k.val):=by decide +kernel
theorem alphabet_at(n:Int):∃ c,atI (Str.ofString "abcdefghijklmnopqrstuvwxyz").cps.toList (n % 26)=some c∧97≤c∧c≤122:=by
 have h1:0≤n % 26:=Lf7 _ (by decide);have h2:n % 26<26:=Lf3 _ (by decide)
 have:=alphabet_all ⟨(n % 26).toNat,by omega⟩;simp only[Int.toNat_of_nonneg h1] at this;exact⟨_,this,by omega,by omega⟩
theorem ints_ix{ns:List Int}{i:Nat}(h:i<ns.length):atI (ns.map V.int) (i:Int)=some (V.int ns[i]):=atI_nat (by rw[La6,La0 h]; rfl)
theorem ints_ixI{ns:List Int}{i:Int}(h0:0≤i)(h:i<ns.length):∃ n,atI (ns.map V.int) i=some (V.int n):=by
 have:=ints_ix (ns:=ns) (i:=i.toNat) (by omega);rw[Le8 h0] at this;exact⟨_,this⟩
theorem paired_mono{α β:Type}{R S:α→β→Prop}(f:∀ a b,R a b→S a b):∀ {xs:List α} {ys:List β},Paired R xs ys→Paired S xs ys
 | _,_,.nil=>.nil
 | _,_,.cons r t=>.cons (f _ _ r) (paired_mono f t)
theorem paired_app{α β:Type}{R:α→β→Prop}:∀ {xs xs':List α} {ys ys':List β},Paired R xs ys→Paired R xs' ys'→Paired R (xs++xs') (ys++ys')
 | _,_,_,_,.nil,s=>s
 | _,_,_,_,.cons r t,s=>.cons r (paired_app t s)
theorem paired_snoc{α β:Type}{R:α→β→Prop}{y:α}:∀ {xs:List α} {zs:List β},Paired R (xs++[y]) zs→∃ ys z,zs=ys++[z]∧Paired R xs ys∧R y z
 | [],_,.cons r .nil=>⟨[],_,rfl,.nil,r⟩
 | x::xs,_,.cons r t=>by
  obtain⟨ys,z,rfl,t',q⟩:=paired_snoc t;exact⟨_::ys,z,rfl,.cons r t',q⟩
theorem last_of{α:Type}:∀ (xs:List α),xs.isEmpty=false→∃ ys y,xs=ys++[y]
 | [],h=>by simp at h
 | x::xs,_=>⟨(x::xs).dropLast,(x::xs).getLast (by simp),(Lg3 (by simp)).symm⟩
theorem last_at{α:Type}(ys:List α)(y:α):(ys++[y])[(ys++[y]).length - 1]?=some y:=by simp
section
variable (K:PySem.W.Frag)
open PySem.W
theorem kit_list_list:kitOne K (.type "list") (.type "list")=some true:=by rfl
theorem kit_tuple_tuple:kitOne K (.type "tuple") (.type "tuple")=some true:=by rfl
theorem kit_str_str:kitOne K (.type "str") (.type "str")=some true:=by rfl
theorem kit_int_bool:kitOne K (.type "int") (.type "bool")=some false:=by rfl
theorem kit_int_int:kitOne K (.type "int") (.type "int")=some true:=by rfl
end
def JobRel(G:Hp)(v:V)(j:Job):Prop:=∃ (q:Addr) (v1 v2:V),v=.ref q∧G q=some (.tup [v1,v2])∧Rep G v1 (pathD j.1)∧Rep G v2 (rowD j.2)
theorem JobRel.mono{G G':Hp}(e:Same G G'){v:V}{j:Job}(h:JobRel G v j):JobRel G' v j:=by
 obtain⟨q,v1,v2,rfl,hq,r1,r2⟩:=h;exact⟨q,v1,v2,rfl,e _ _ hq,r1.mono e,r2.mono e⟩
def PathRel(G:Hp)(v:V)(p:List Int):Prop:=Rep G v (pathD p)
theorem PathRel.mono{G G':Hp}(e:Same G G'){v:V}{p:List Int}(h:PathRel G v p):PathRel G' v p:=Rep.mono e h
theorem paths_reps{G:Hp}:∀ {vs:List V} {ps:List (List Int)},Paired (PathRel G) vs ps→Reps G vs (ps.map pathD)
 | _,_,.nil=>.nil
 | _,_,.cons r t=>.cons r (paths_reps t)
section
variable {G H G2 H2:Hp} {a:Addr} {o:HO}
theorem Ext.mut(x:Ext G H G2 H2)(n:G2 a=none)(nh:H a=none):Ext G H G2 (upd H2 a o):=⟨x.g,same_mut x.gh n,same_mut x.h nh,x.new⟩
end
theorem rel_path{G H:Hp}(s:Same G H){v:V}{p:List Int}(r:PathRel G v p):∃ a,v=.ref a∧H a=some (.lst (p.map V.int)):=by
 obtain⟨a,rfl,h⟩:=Rep.path r;exact⟨a,rfl,s _ _ h⟩
theorem subs_at(p:List Int):∀ (ts:List Tr) (j i:Nat) (h:i<ts.length),(subs p j ts)[i]?=some (p++[((j+i:Nat):Int)],ts[i].kids)
 | t::ts,j,0,_=>by simp[subs]
 | t::ts,j,i+1,h=>by
  have:=subs_at p ts (j+1) i (by simpa using h);rw[subs,Lk2,this];have e:j+1+i=j+(i+1):=by omega
  rw[e];simp
theorem take_one{α:Type}{l:List α}{i:Nat}{x:α}(h:l[i]?=some x):l.take (i+1)=l.take i++[x]:=by
 obtain⟨hi,e⟩:=La5.mp h;rw[Lc5 hi,e]
def FstRel(G:Hp)(v f:V):Prop:=∃ (q:Addr) (s:V),v=.ref q∧G q=some (.tup [f,s])
theorem jobs_firsts{G:Hp}:∀ {vs:List V} {js:List Job},Paired (JobRel G) vs js→∃ fs,Paired (FstRel G) vs fs∧Paired (PathRel G) fs (js.map (·.1))
 | _,_,.nil=>⟨[],.nil,.nil⟩
 | _,_,.cons r t=>by
  obtain⟨q,v1,v2,rfl,hq,r1,_⟩:=r;obtain⟨fs,h1,h2⟩:=jobs_firsts t;exact⟨v1::fs,.cons ⟨q,v2,rfl,hq⟩ h1,.cons r1 h2⟩
theorem deeper_snoc(L:List Job)(j:Job):deeper (L++[j])=deeper L++subs j.1 0 j.2:=by simp[deeper]
theorem deeper_len{L:List Job}{n:Nat}(h:∀ j∈L,j.1.length≤n):∀ j∈deeper L,j.1.length≤n+(deeper L).length:=by
 intro j hj;obtain⟨i,hi,hm⟩:=List.mem_flatMap.mp hj;have h1:=h i hi;have h2:1≤(deeper L).length:=List.length_pos_of_mem hj;obtain⟨k,hk,ek⟩:=Le0.mp hm;have hk2:k<i.2.length:=by rw[subs_length] at hk; exact hk
 have e1:=subs_at i.1 i.2 0 k hk2;rw[La0 hk,ek] at e1;have e2:=Option.some.inj e1;rw[e2]
 show (i.1++[_]).length≤_
 rw[La2,Lb2];omega
end TT
namespace TT
open PySem
theorem bt_list:bootBuiltins "list"=some (.type "list"):=by decide +kernel
theorem bt_tuple:bootBuiltins "tuple"=some (.type "tuple"):=by decide +kernel
theorem bt_len:bootBuiltins "len"=some (.builtin "len"):=by decide +kernel
theorem bt_min:bootBuiltins "min"=some (.builtin "min"):=by decide +kernel
theorem bt_abs:bootBuiltins "abs"=some (.builtin "abs"):=by decide +kernel
theorem bt_sum:bootBuiltins "sum"=some (.builtin "sum"):=by decide +kernel
theorem bt_sorted:bootBuiltins "sorted"=some (.builtin "sorted"):=by decide +kernel
theorem bt_isinstance:bootBuiltins "isinstance"=some (.builtin "isinstance"):=by decide +kernel
theorem bt_str:bootBuiltins "str"=some (.type "str"):=by decide +kernel
theorem bt_int:bootBuiltins "int"=some (.type "int"):=by decide +kernel
theorem bt_bool:bootBuiltins "bool"=some (.type "bool"):=by decide +kernel
end TT
namespace TT
open PySem PySem.Spec PyProof.Rows L2
theorem pe_ty{X:Cx}{x:Str}{n:String}{pos:Pos}(hg:Gl X x)(hm:X.mg x=none)(hv:bootBuiltins x=some (.type n))(hn:x≠"__name__":=by decide)(hd:(x == ("__debug__":Str))=false:=by decide):PE X (.Name x pos) (tC (.ty n)) :=
 pe_bltn hg hm hv (v:=.ty n) rfl hn hd
section
variable {X:Cx} {pins:List (Addr×Obj)} {σ:L2.St} {H:Hp} {s:Shared}
end
section
variable {X:Cx} {pins:List (Addr×Obj)} {σ:L2.St} {H:Hp} {s:Shared} {E E':XK}
end
section
variable {P:Program} {w:World} {K:PySem.W.Frag} {mg:Str→Option Value} {base:Heap} {N:List Str} {qual:Str} {scope:Scope} {f:Addr} {cd:Value} {A:Around} {outer:List Env} {s:Shared} {H:Hp} {E:XK}
end
section
variable {P:Program} {w:World} {K:PySem.W.Frag} {mg:Str→Option Value} {base:Heap}
end
section
variable {X:Cx} {pins:List (Addr×Obj)} {σ:L2.St} {H H':Hp} {s s':Shared}
end
section
variable {X:Cx} {pins:List (Addr×Obj)} {σ:L2.St} {H:Hp} {s:Shared} {x:Addr} {oe:Obj}
end
abbrev TB:=Ends→(Value→Hp→Prop)→L2.St→Hp→Prop
section
variable {X:Cx} {k:Nat} {sp:Sp} {ps:List Str} {f:Str} {e:Expr} {es:List Expr} {t:TA} {p pos:Pos}
end
section
variable {X:Cx}
variable {body suite:List Stmt} {b₀:Stmt} {c:Str} {np hpos pos:Pos} {C:Addr} {tb:TB}
end
section
variable {X:Cx} {pins:List (Addr×Obj)} {σ:L2.St} {H:Hp} {s:Shared}
variable {body suite:List Stmt} {b₀:Stmt} {c n:Str} {np hpos pos:Pos} {C:Addr} {tb:TB}
end
end TT
namespace TT
open PySem PySem.Spec PySem.W PyProof.Rows Builtin Builtin.ObjectAttr Builtin.Getset_descriptor
section
variable {prog:Program} {w:World} {A:Around} {E:Value→Shared→Prop} {K:PySem.W.Frag} {x C:Addr} {h:Heap} {g:Array GenState} {d:Drawn} {t:Nat} {os:OsState}
end
end TT
namespace TT
open PySem PySem.Spec PyProof.Rows L2
def Itd(hi:Int)(n:Nat):It:=⟨fun i _=>i<n,fun i H x H'=>H'=H∧x=.int (hi - i),fun i _=>n≤i⟩
theorem turn_down{P:Program}{w:World}{K:PySem.W.Frag}{tg:Expr}(it:Addr)(hi:Int)(n:Nat):Turn P w K tg (Itd hi n) [it] it (fun i h=>IsRangeIter h it (hi+(i:Nat) * (-1)) ((n:Int) - (i:Nat)) (-1)) where
 mem:=by simp
 obj:=fun i h st b hb=>by
  have e:b=it:=by simpa using hb
  subst e;exact⟨_,st,fun v z=>(nomatch (show Data.fields _=Data.cell v from z))⟩
 keep:=fun i h h' st k=>k it (by simp) _ st
 item:=by
  intro X hP hw hK hc i pins s σ H E I hf st hg;subst hP hw hK;obtain⟨f0,f1,f2,f3,f4,f5⟩:=hf it (by simp);refine (Walks.range (prog:=X.prog) (w:=X.w) (I.ok.hd hc) it hi (-1) n).item i s _ _ hg st fun v h' tk hv st' kk=>?_;obtain⟨t,rfl⟩:=hv;have I1:Inv X pins σ H { s with heap:=h',toks:=tk }:=I.turned (fun b o hb e=>kk b o (by simpa using hb) e) f0 f1 f3 f4 f5
  refine⟨_,rfl,go_of (s:={ s with heap:=h',toks:=tk }) (n:="range_iterator") st' rfl rfl (by decide) ⟨.int (hi - i),H,I1,⟨t,?_⟩,⟨rfl,rfl⟩,st',fun b hb=>(hf b hb).1⟩⟩
  have e:hi+(i:Nat) * (-1:Int)=hi - i:=by omega
  rw[e]
 done:=by
  intro X hP hw hK hc i pins s σ H E I hf st hg;subst hP hw hK;obtain⟨f0,f1,f2,f3,f4,f5⟩:=hf it (by simp);exact wpAny_pyNext_range_end (I.ok.hd hc) st (by have:n≤i:=hg; omega) fun h' eb=>⟨rfl,I.turned (t':=s.toks) (fun b o hb e=>eb b o hb e) f0 f1 f3 f4 f5⟩
 self:=fun _ _ _ _ _ st h=>wpAny_pyIter_rangeiter st h
section
variable {X:Cx} {tg:Expr}
def iRngD(ta:TA):TI:=fun σ H R=>ta σ H fun vs H1=>∃ i j:Int,vs=[.int i,.int j,.int (-1)]∧(-(2 ^ 62)≤i∧i<2 ^ 62∧-(2 ^ 62)≤j∧j<2 ^ 62)∧R (Itd i (i - j).toNat) H1
theorem pi_rangeD{a b c:Expr}{ta:TA}{p pos:Pos}(hg:Gl X "range")(hm:X.mg "range"=none)(ha:PA X [a,b,c] ta)(hs:starEach [a,b,c] X.env=(false,eval a X.env)::starEach [b,c] X.env:=by rfl)(hs2:(backTo pos (starEach [b,c] X.env)).any (·.1)=false:=by rfl) :
  PI X tg (.Call (.Name "range" p) [a,b,c] [] pos) (iRngD ta):=by
 intro pins s σ H R I h;refine Call_ (ld_blt I hg hm boot_range (PyProof.Rows.callWith_type1 (thn (ha pos pins s σ H _ I h) fun us s1 ⟨vs,H1,I1,r1,q1⟩=>?_) hs hs2));obtain⟨i,j,e,⟨q1,q2,q3,q4⟩,q⟩:=q1;subst e
 cases r1 with
 | cons r rr=>cases rr with
  | cons r' rr=>cases rr with
   | cons r'' rr =>
    cases rr;obtain⟨t,rfl⟩:=r;obtain⟨t',rfl⟩:=r';obtain⟨t'',rfl⟩:=r'';refine call_range_3 (by decide) ?_ (.inl (PyProof.noPylong_small (by decide)));refine wpAny_pyIter_range (IsRange.new ..) (PySem.W.small_down q1 q2 q3 q4) ?_;generalize hob:({ cls:=.type "range",data:=.fields #[.int i t,.int j t',.int (-1) t''] }:Obj)=ob;have J1:Inv X pins σ H1 { s1 with heap:=s1.heap.push ob,toks:=s1.toks }:=I1.kept fun b o e=>Heap.get?_push_of_some _ e
    refine⟨(s1.heap.push ob).objs.size,[(s1.heap.push ob).objs.size],_,_,H1,rfl,J1.kept (t':=s1.toks) fun b o e=>Heap.get?_push_of_some _ e,turn_down _ i (i - j).toNat,?_,fun b hb=>?_,q⟩
    ·have e1:i+((0:Nat):Int) * (-1)=i:=by simp
     have e2:(((i - j).toNat:Nat):Int) - ((0:Nat):Int)=Builtin.Range.rangeSize i j (-1):=by rw[PySem.W.rangeSize_downNat]; omega
     show IsRangeIter _ _ (i+((0:Nat):Int) * (-1)) ((((i - j).toNat:Nat):Int) - ((0:Nat):Int)) (-1)
     rw[e1,e2];exact Heap.get?_push_size _ rfl
    ·have e:b=(s1.heap.push ob).objs.size:=by simpa using hb
     subst e;exact J1.fpOk (La4 _) (J1.hok.fresh (La4 _))
end
theorem for_down{hi:Int}{n:Nat}{g:TG}{tb:TS}{De:Ends}{σ:L2.St}{H:Hp}(Pv:Nat→L2.St→Hp→Prop)(h0:Pv 0 σ H)
  (step:∀ i σ H,i<n→Pv i σ H→g (.int (hi - i)) σ H fun σ2 H2=>tb { De with nx:=Pv (i+1),ct:=Pv (i+1),bk:=De.nx } σ2 H2) (last:∀ σ H,Pv n σ H→De.nx σ H) :
  ∃ W:Nat→Nat→L2.St→Hp→Prop,(∃ m,W 0 m σ H)∧∀ i m σ H,W i m σ H →
   ((Itd hi n).stop i H∧De.nx σ H)∨((Itd hi n).go i H∧∃ N:L2.St→Hp→Prop,(∀ σ' H',N σ' H'→∃ m',m'<m∧W (i+1) m' σ' H')∧∀ x H',(Itd hi n).yld i H x H'→g x σ H' fun σ2 H2=>tb { De with nx:=N,ct:=N,bk:=De.nx } σ2 H2):=by
 refine⟨fun i m σ H=>m=n - i∧i≤n∧Pv i σ H,⟨n,by simp,Lb1 _,h0⟩,?_⟩;rintro i m σ H ⟨rfl,hle,pv⟩
 by_cases hlt:i<n
 ·refine .inr ⟨hlt,Pv (i+1),fun σ' H' p'=>⟨n - (i+1),by omega,rfl,hlt,p'⟩,?_⟩;rintro x H' ⟨rfl,rfl⟩;exact step i σ _ hlt pv
 ·obtain rfl:i=n:=by omega
  exact .inl ⟨La4 _,last σ H pv⟩
def Itv(K:PySem.W.Frag)(a:Addr)(n:Nat):It :=
 ⟨fun i H=>i<n∧∃ xs x,SqL K H a xs∧xs.length=n∧xs[n - 1 - i]?=some x,fun i H x H'=>H'=H∧∀ xs,SqL K H a xs→xs.length=n→xs[n - 1 - i]?=some x,fun i H=>n=i⟩
theorem turn_rev{P:Program}{w:World}{K:PySem.W.Frag}{tg:Expr}(a it:Addr)(n:Nat):Turn P w K tg (Itv K a n) [it] it (fun i h=>i≤n∧h.IsRevIter it a ((n:Int) - 1 - (i:Nat))) where
 mem:=by simp
 obj:=fun i h st b hb=>by
  have e:b=it:=by simpa using hb
  subst e;obtain⟨_,o,e,c,d⟩:=st;exact⟨o,e,fun v z=>by rw[d] at z; cases z⟩
 keep:=fun i h h' st k=>by
  obtain⟨hi,o,e,c,d⟩:=st;exact⟨hi,o,k it (by simp) o e,c,d⟩
 item:=by
  intro X hP hw hK hc i pins s σ H E I hf st hg;subst hP hw hK;obtain⟨hin,xs,x,hq,hl,hx⟩:=hg;obtain⟨its,rv,p,hz⟩:=I.list hq;obtain⟨u,hu,ru⟩:=rv.get hx;obtain⟨f0,f1,f2,f3,f4,f5⟩:=hf it (by simp);obtain⟨_,st⟩:=st;have e1:(n:Int) - 1 - (i:Nat)=((n - 1 - i:Nat):Int):=by omega
  rw[e1] at st;refine wpAny_pyNext_rev_item st p.isList (x:=u) (by simpa using hu) fun h' st' sb=>?_;have I1:Inv X pins σ H { s with heap:=h' }:=I.turned (t':=s.toks) (fun b o hb e=>(sb.2 b hb).trans e) f0 f1 f3 f4 f5
  have e2:((n - 1 - i:Nat):Int) - 1=(n:Int) - 1 - ((i+1:Nat):Int):=by omega
  rw[e2] at st';obtain⟨o,e,c,d⟩:=id st';exact⟨u,rfl,go_of (s:={ s with heap:=h' }) e c d (by decide) ⟨x,H,I1,ru,⟨rfl,fun ys hy hyl=>by rw[I.list_inj hy hq]; exact hx⟩,⟨hin,st'⟩,fun b hb=>(hf b hb).1⟩⟩
 done:=by
  intro X hP hw hK hc i pins s σ H E I hf st hg;subst hP hw hK;obtain⟨f0,f1,f2,f3,f4,f5⟩:=hf it (by simp);obtain⟨_,st⟩:=st;obtain rfl:n=i:=hg;have e1:(n:Int) - 1 - (n:Nat)=-1:=by omega
  rw[e1] at st;exact wpAny_pyNext_rev_end (I.ok.hd hc) st fun h' eb=>⟨rfl,I.turned (t':=s.toks) (fun b o hb e=>eb b o hb e) f0 f1 f3 f4 f5⟩
 self:=fun _ _ _ _ _ st h=>wpAny_pyIter_revIter st.2 h
section
variable {X:Cx} {tg:Expr}
theorem bt_reversed:bootBuiltins "reversed"=some (.type "reversed"):=by decide +kernel
def iRev(K:PySem.W.Frag)(ta:TA):TI:=fun σ H R=>ta σ H fun vs H1=>∃ a xs,vs=[.ref a]∧SqL K H1 a xs∧R (Itv K a xs.length) H1
theorem pi_rev{e:Expr}{ta:TA}{p pos:Pos}(hg:Gl X "reversed")(hm:X.mg "reversed"=none)(ha:PA X [e] ta)(hs:starEach [e] X.env=[(false,eval e X.env)]:=by rfl):PI X tg (.Call (.Name "reversed" p) [e] [] pos) (iRev X.K ta):=by
 intro pins s σ H R I h;refine Call_ (ld_blt I hg hm bt_reversed (PyProof.Rows.callWith_type1 (thn (ha pos pins s σ H _ I h) fun us s1 ⟨vs,H1,I1,r1,q1⟩=>?_) hs rfl));obtain⟨a,xs,e,hq,q⟩:=q1;subst e
 cases r1 with
 | cons r rr =>
  cases rr;cases r;obtain⟨its,rv,pl,hz⟩:=I1.list hq;refine call_reversed_list pl.isList ?_;have hl:=rv.length;have J:Inv X pins σ H1 { s1 with heap:=s1.heap.push (revObj a ((its.toArray.size:Int) - 1)) }:=I1.kept (t':=s1.toks) fun b o e=>Heap.get?_push_of_some _ e
  have hit:(s1.heap.push (revObj a ((its.toArray.size:Int) - 1))).IsRevIter s1.heap.objs.size a ((xs.length:Int) - 1 - ((0:Nat):Int)):=⟨_,Heap.get?_push_size _ rfl,rfl,by
   have e:(its.toArray.size:Int) - 1=(xs.length:Int) - 1 - ((0:Nat):Int):=by simp only[List.size_toArray]; omega
   rw[e]
   rfl⟩
  refine wpAny_pyIter_revIter hit ?_;refine⟨s1.heap.objs.size,[s1.heap.objs.size],_,_,H1,rfl,J,turn_rev a _ xs.length,⟨Lb1 _,hit⟩,fun b hb=>?_,q⟩;have e:b=s1.heap.objs.size:=by simpa using hb
  subst e;exact I1.fpOk (La4 _) (I1.hok.fresh (La4 _))
end
theorem for_rev{K:PySem.W.Frag}{a:Addr}{xs:List V}{g:TG}{tb:TS}{De:Ends}{σ:L2.St}{H:Hp}(Pv:Nat→L2.St→Hp→Prop)(h0:Pv 0 σ H)(stays:∀ i σ H,i≤xs.length→Pv i σ H→SqL K H a xs)
  (step:∀ i x σ H,xs[xs.length - 1 - i]?=some x→i<xs.length→Pv i σ H→g x σ H fun σ2 H2=>tb { De with nx:=Pv (i+1),ct:=Pv (i+1),bk:=De.nx } σ2 H2) (last:∀ σ H,Pv xs.length σ H→De.nx σ H) :
  ∃ W:Nat→Nat→L2.St→Hp→Prop,(∃ m,W 0 m σ H)∧∀ i m σ H,W i m σ H →
   ((Itv K a xs.length).stop i H∧De.nx σ H)∨((Itv K a xs.length).go i H∧∃ N:L2.St→Hp→Prop,(∀ σ' H',N σ' H'→∃ m',m'<m∧W (i+1) m' σ' H')∧∀ x H',(Itv K a xs.length).yld i H x H'→g x σ H' fun σ2 H2=>tb { De with nx:=N,ct:=N,bk:=De.nx } σ2 H2):=by
 refine⟨fun i m σ H=>m=xs.length - i∧i≤xs.length∧Pv i σ H,⟨xs.length,by simp,Lb1 _,h0⟩,?_⟩;rintro i m σ H ⟨rfl,hle,pv⟩;have hq:=stays i σ H hle pv
 by_cases hlt:i<xs.length
 ·have hx:xs[xs.length - 1 - i]?=some (xs[xs.length - 1 - i]'(by omega)):=La0 (by omega);refine .inr ⟨⟨hlt,xs,_,hq,rfl,hx⟩,Pv (i+1),fun σ' H' p'=>⟨xs.length - (i+1),by omega,rfl,hlt,p'⟩,?_⟩;rintro x H' ⟨rfl,hxx⟩;exact step i x σ _ (hxx xs hq rfl) hlt pv
 ·obtain rfl:i=xs.length:=by omega
  exact .inl ⟨rfl,last σ H pv⟩
def Small(a:Int):Prop:=a.natAbs<10 ^ 100
section
variable {X:Cx}
end
mutual
theorem Rep.one{G:Hp}:∀ {v:V} {d e:D},Rep G v d→Rep G v e→d=e
 | _,_,_,.int _,k=>by cases k; rfl
 | _,_,_,.str _,k=>by cases k; rfl
 | _,_,_,.bl _,k=>by cases k; rfl
 | _,_,_,.non,k=>by cases k; rfl
 | _,_,_,.lst h r,k=>by
  cases k with
  | lst h' r' =>
   rw[h] at h';cases h'
   rw[Reps.one r r']
  | tup h' r' =>
   rw[h] at h'
   cases h'
 | _,_,_,.tup h r,k=>by
  cases k with
  | lst h' r' =>
   rw[h] at h'
   cases h'
  | tup h' r' =>
   rw[h] at h';cases h';rw[Reps.one r r']
theorem Reps.one{G:Hp}:∀ {vs:List V} {ds es:List D},Reps G vs ds→Reps G vs es→ds=es
 | _,_,_,.nil,k=>by cases k; rfl
 | _,_,_,.cons r t,k=>by
  cases k with
  | cons r' t'=>rw[Rep.one r r',Reps.one t t']
end
mutual
theorem Tr.d_one:∀ {t u:Tr},t.d=u.d→t=u
 | .node m ks,.node m' ks',h=>by
  rw[Tr.d,Tr.d] at h;injection h with h
  injection h with h1 h2
  injection h1 with h1
  rw[h1,dOf_one h2]
theorem dOf_one:∀ {ts us:List Tr},dOf ts=dOf us→ts=us
 | [],[],_=>rfl
 | [],u::us,h=>by rw[dOf,dOf] at h; cases h
 | t::ts,[],h=>by rw[dOf,dOf] at h; cases h
 | t::ts,u::us,h=>by
  rw[dOf,dOf] at h;injection h with h1 h2
  rw[Tr.d_one h1,dOf_one h2]
end
theorem rowD_one{ts us:List Tr}(h:rowD ts=rowD us):ts=us:=by
 unfold rowD at h;injection h with h
 rw[← dOf_map,← dOf_map] at h;exact dOf_one h
theorem all_iff{n:Nat}{e:Nat→Bool}:(List.range n).all e=true↔∀ j,j<n→e j=true:=by
 rw[List.all_eq_true];exact⟨fun h j hj=>h j (Lf1.mpr hj),fun h j hj=>h j (Lf1.mp hj)⟩
theorem lists_same{α:Type}{a b:List α}(hl:a.length=b.length)(h:∀ j,j<a.length→a[j]?=b[j]?):a=b:=by
 apply Lk3 
 intro j
 by_cases hj:j<a.length
 ·exact h j hj
 ·rw[Lg1 (by omega),Lg1 (by omega)]
section
variable {P:Program} {w:World} {G H:Hp} {s:Shared}
theorem items_eq{A:Around}{vs ws:List V}{ds es:List D}{xs ys:List Value}(hr:Reps G vs ds)(hq:Reps G ws es)(rv:Vals vs xs)(rw':Vals ws ys)
  (one:∀ (j:Nat) (v w:V) (d e:D) (x y:Value),ds[j]?=some d→es[j]?=some e→Rep G v d→Rep G w e→RelV v x→RelV w y→∃ b,SeqAt.EqAt A s x y b∧(b=true↔d=e)) :
  ∃ f:Nat→Bool,(∀ j (h1:j<xs.toArray.size) (h2:j<ys.toArray.size),SeqAt.EqAt A s xs.toArray[j] ys.toArray[j] (f j))∧∀ j,j<ds.length→j<es.length→(f j=true↔ds[j]?=es[j]?):=by
 have l1:=hr.length;have l2:=hq.length;have l3:=rv.length;have l4:=rw'.length
 have H0:∀ j:Nat,∃ b:Bool,(∀ (h1:j<xs.toArray.size) (h2:j<ys.toArray.size),SeqAt.EqAt A s xs.toArray[j] ys.toArray[j] b)∧(j<ds.length→j<es.length→(b=true↔ds[j]?=es[j]?)):=by
  intro j
  by_cases h1:j<ds.length
  ·by_cases h2:j<es.length
   ·obtain⟨v,hv,rd⟩:=hr.get (La0 h1);obtain⟨w,hw,re⟩:=hq.get (La0 h2);obtain⟨x,hx,rx⟩:=rv.get hv;obtain⟨y,hy,ry⟩:=rw'.get hw;obtain⟨b,hb,hi⟩:=one j v w _ _ x y (La0 h1) (La0 h2) rd re rx ry;refine⟨b,fun h3 h4=>?_,fun _ _=>?_⟩
    ·have e1:xs.toArray[j]=x:=by
      have:=La5.mp hx;obtain⟨_,e⟩:=this
      simpa using e
     have e2:ys.toArray[j]=y:=by
      obtain⟨_,e⟩:=La5.mp hy
      simpa using e
     rw[e1,e2];exact hb
    ·rw[hi,La0 h1,La0 h2];exact⟨fun z=>by rw[z],fun z=>Option.some.inj z⟩
   ·exact⟨true,fun _ h4=>absurd h4 (by rw[La8]; omega),fun _ h=>absurd h h2⟩
  ·exact⟨true,fun h3 _=>absurd h3 (by rw[La8]; omega),fun h _=>absurd h h1⟩
 obtain⟨f,hf⟩:=Classical.skolem.mp H0;exact⟨f,fun j=>(hf j).1,fun j=>(hf j).2⟩
theorem tree_eq(hok:HOk P w H s.heap)(sm:Same G H):∀ (n:Nat) (A:Around) (t u:Tr) (v1 v2:V) (x y:Value),t.knots≤n→A.units+n<cLine→Rep G v1 t.d→Rep G v2 u.d→RelV v1 x→RelV v2 y →
  ∃ b,SeqAt.EqAt A s x y b∧(b=true↔t.d=u.d)
 | 0,_,t,_,_,_,_,_,hk,_,_,_,_,_=>by rw[knots_eq] at hk; omega
 | n+1,A,t,u,v1,v2,x,y,hk,hu,r1,r2,q1,q2=>by
  obtain⟨a,av,rfl,ha,ra⟩:=r1.tree;obtain⟨c,cv,rfl,hc,rc⟩:=r2.tree;cases (show x=Value.ref a from q1);cases (show y=Value.ref c from q2)
  by_cases hac:a=c
  ·subst hac;exact⟨true,SeqAt.EqAt.same _,fun _=>r1.one r2,fun _=>rfl⟩
  ·obtain⟨_,xs,rx,hx⟩:=hok a _ (sm _ _ ha);obtain⟨_,ys,ry,hy⟩:=hok c _ (sm _ _ hc);have R1:Reps G (.str t.mark::av) (.str t.mark::t.kids.map Tr.d):=.cons (.str _) ra;have R2:Reps G (.str u.mark::cv) (.str u.mark::u.kids.map Tr.d):=.cons (.str _) rc
   obtain⟨f,hf,hi⟩:=items_eq (s:=s) (A:=A.in1) R1 R2 rx ry (fun j v w d e p q hd he rd re rp rq=>by
    cases j with
    | zero =>
     have e1:D.str t.mark=d:=by simpa using hd
     have e2:D.str u.mark=e:=by simpa using he
     subst e1 e2;cases rd;cases re;obtain⟨k1,rfl⟩:=(show ∃ k,p=Value.str t.mark k from rp);obtain⟨k2,rfl⟩:=(show ∃ k,q=Value.str u.mark k from rq);refine⟨_,SeqAt.EqAt.str_str _ _ _ _,?_⟩;rw[beq_iff_eq]
     exact⟨fun z=>by rw[z],fun z=>by injection z⟩
    | succ i =>
     have hd':(t.kids.map Tr.d)[i]?=some d:=by simpa using hd
     have he':(u.kids.map Tr.d)[i]?=some e:=by simpa using he
     rw[La6] at hd' he';obtain⟨k1,h1,rfl⟩:=Lf4.mp hd';obtain⟨k2,h2,rfl⟩:=Lf4.mp he';have hkn:=knots_mem (Lf2 h1);rw[knots_eq] at hk
     exact tree_eq hok sm n A.in1 k1 k2 v w p q (by omega) (by show A.units+1+n<cLine; omega) rd re rp rq)
   refine⟨_,SeqAt.EqAt.of_refs hac (SeqAt.RcAt.tuples (show s.heap.IsTuple a xs.toArray from hx) (show s.heap.IsTuple c ys.toArray from hy) (by omega) hf),?_⟩;have l1:=rx.length;have l2:=ry.length;have l3:=R1.length;have l4:=R2.length;rw[Lj4,all_iff,beq_iff_eq,La8,La8,tree_d t,tree_d u]
   constructor
   ·rintro⟨h1,h2⟩;congr 1;exact lists_same (by omega) fun j hj=>(hi j hj (by omega)).mp (h1 j (by omega))
   ·intro h;injection h with h
    refine⟨fun j hj=>(hi j (by omega) (by omega)).mpr (by rw[h]),?_⟩
    have:=congrArg List.length h;omega
end
theorem call_intB{X:Cx}:CallR X (.type "int") (fun xs H Q=>∃ b,xs=[.bl b]∧Q (.int (if b=true then 1 else 0)) H):=by
 intro pins s σ H xs us Q I r h;obtain⟨b,rfl,k⟩:=h;obtain⟨u,rfl,rx⟩:=vals1 r;cases (show u=Value.bool b from rx);exact call_int_bool ⟨.int (if b=true then 1 else 0),H,I.tok _,⟨_,rfl⟩,k⟩
end TT
namespace TT
open PySem L2
def levelsOf(ts:List Tr)(p:List Int):List (List Tr):=(List.range (p.length+1)).map fun j=>(down ts (p.take j)).getD []
theorem levelsOf_length(ts:List Tr)(p:List Int):(levelsOf ts p).length=p.length+1:=by unfold levelsOf; rw[La1,Li8]
theorem levelsOf_get{ts us:List Tr}{p:List Int}{j:Nat}(hj:j≤p.length)(h:down ts (p.take j)=some us):(levelsOf ts p)[j]?=some us:=by
 unfold levelsOf;rw[La6,Li0 (by omega),Li5,h];rfl
theorem down_at{ts:List Tr}{p:List Int}(h:(down ts p).isSome=true){i:Nat}(hi:i<p.length) :
  ∃ us t,down ts (p.take i)=some us∧0≤p[i]∧us[(p[i]).toNat]?=some t∧down ts (p.take (i+1))=some t.kids:=by
 have e:=down_append ts (p.take i) (p.drop i);rw[Lc9] at e
 cases h1:down ts (p.take i) with
 | none=>rw[h1] at e; rw[e] at h; cases h
 | some us =>
  rw[h1,Lc6 hi] at e;have e2:down ts p=down us (p[i]::p.drop (i+1)):=e;rw[down] at e2
  by_cases h0:p[i]<0
  ·rw[if_pos h0] at e2; rw[e2] at h; cases h
  ·rw[if_neg h0] at e2
   cases h2:us[(p[i]).toNat]? with
   | none=>rw[h2] at e2; rw[e2] at h; cases h
   | some t =>
    refine⟨us,t,rfl,by omega,h2,?_⟩;rw[Lc5 hi,down_append,h1]
    show down us [p[i]]=_
    rw[down,if_neg h0,h2];rfl
def setAt:List Tr→List Int→List Tr→List Tr
 | _,[],xs=>xs
 | ts,i::p,xs=>match ts[i.toNat]? with
  | none=>ts
  | some t=>ts.take i.toNat++[Tr.node t.mark (setAt t.kids p xs)]++ts.drop (i.toNat+1)
theorem setAt_cons{ts xs:List Tr}{i:Int}{p:List Int}{t:Tr}(h:ts[i.toNat]?=some t):setAt ts (i::p) xs=ts.take i.toNat++[Tr.node t.mark (setAt t.kids p xs)]++ts.drop (i.toNat+1):=by rw[setAt,h]
theorem knots_cut{ts:List Tr}{i:Nat}{t:Tr}(h:ts[i]?=some t):knotsOf ts=knotsOf (ts.take i)+(1+knotsOf t.kids)+knotsOf (ts.drop (i+1)):=by
 obtain⟨hi,e⟩:=La5.mp h;have h1:=knotsOf_append (ts.take i) (ts.drop i);rw[Lc9,Lc6 hi,knotsOf,knots_eq,e] at h1;omega
theorem setAt_knots:∀ (p:List Int) (ts us xs:List Tr),down ts p=some us→knotsOf (setAt ts p xs)+knotsOf us=knotsOf ts+knotsOf xs
 | [],ts,us,xs,h=>by cases h; rw[setAt]; omega
 | i::p,ts,us,xs,h=>by
  rw[down] at h
  by_cases h0:i<0
  ·rw[if_pos h0] at h; cases h
  ·rw[if_neg h0] at h
   cases h2:ts[i.toNat]? with
   | none=>rw[h2] at h; cases h
   | some t =>
    rw[h2] at h
    have:=setAt_knots p t.kids us xs h;have hc:=knots_cut h2;rw[setAt_cons h2,knotsOf_append,knotsOf_append,knotsOf,knotsOf,Tr.knots];omega
inductive Stp where
 | mark (p:List Int) (m:Str) | cut (p:List Int) | put (p:List Int) (n:Int) (m:Str)
def Stp.path:Stp→List Int
 | .mark p _=>p
 | .cut p=>p
 | .put p _ _=>p
def Stp.many:Stp→Int
 | .put _ n _=>n
 | _=>1
def Stp.kind:Stp→Str
 | .mark _ _=>Str.ofString "mark"
 | .cut _=>Str.ofString "cut"
 | .put _ _ _=>Str.ofString "put"
def Stp.d:Stp→D
 | .mark p m=>.tup [.str (Str.ofString "mark"),pathD p,.str m]
 | .cut p=>.tup [.str (Str.ofString "cut"),pathD p]
 | .put p n m=>.tup [.str (Str.ofString "put"),pathD p,.int n,.str m]
def Stp.instead:Stp→List Tr→List Tr
 | .mark _ m,t::_=>[.node m t.kids]
 | .cut _,t::_=>t.kids
 | .put _ _ m,ts=>[.node m ts]
 | _,[]=>[]
def Stp.beside(st:Stp)(row:List Tr):Option (List Tr) :=
 if st.path=[] then none else (down row st.path.dropLast).bind fun bs=>if st.path.getLastD 0<0∨st.many<0∨(bs.length:Int)<st.path.getLastD 0+st.many then none else some bs
def Stp.row(st:Stp)(row bs:List Tr):List Tr :=
 setAt row st.path.dropLast (bs.take (st.path.getLastD 0).toNat++st.instead ((bs.drop (st.path.getLastD 0).toNat).take st.many.toNat)++bs.drop ((st.path.getLastD 0).toNat+st.many.toNat))
def Stp.Fit(st:Stp):Prop:=st.path.length≤1000∧(∀ a∈st.path,Small a)∧Small st.many
theorem Rep.stepOf{G:Hp}{v:V}{k:Str}{p:List Int}{rest:List D}(r:Rep G v (.tup (.str k::pathD p::rest)))(hl:rest.length≤2):∃ a xs pa,v=.ref a∧G a=some (.tup xs)∧xs[0]?=some (.str k)∧xs[1]?=some (.ref pa)∧G pa=some (.lst (p.map V.int))∧xs.length≤4:=by
 cases r with
 | tup h t =>
  obtain⟨x,hx,rx⟩:=t.get (i:=0) (d:=.str k) rfl;obtain⟨y,hy,ry⟩:=t.get (i:=1) (d:=pathD p) rfl;cases rx;obtain⟨pa,rfl,hpa⟩:=Rep.path ry;have e:=t.length;exact⟨_,_,pa,rfl,h,hx,hy,hpa,by rw[e]; exact Nat.succ_le_succ (Nat.succ_le_succ hl)⟩
theorem Rep.step{G:Hp}{v:V}{st:Stp}(r:Rep G v st.d):∃ a xs pa,v=.ref a∧G a=some (.tup xs)∧xs[0]?=some (.str st.kind)∧xs[1]?=some (.ref pa)∧G pa=some (.lst (st.path.map V.int))∧xs.length≤4:=by
 cases st with
 | mark p m=>exact Rep.stepOf (k:=Str.ofString "mark") (p:=p) (rest:=[.str m]) r (by show 1≤2; decide)
 | cut p=>exact Rep.stepOf (k:=Str.ofString "cut") (p:=p) (rest:=[]) r (by show 0≤2; decide)
 | put p n m=>exact Rep.stepOf (k:=Str.ofString "put") (p:=p) (rest:=[.int n,.str m]) r (by show 2≤2; decide)
theorem last_int{p:List Int}(h:p≠[]):atI (p.map V.int) (-1)=some (.int (p.getLastD 0)):=by
 obtain⟨q,i,rfl⟩:∃ q i,p=q++[i]:=⟨p.dropLast,p.getLast h,(Lg3 h).symm⟩;unfold atI ixN;rw[if_neg (by decide),if_pos (by simp only[List.length_map,List.length_append,List.length_singleton]; omega)];have e:((-1:Int)+(((q++[i]).map V.int).length:Int)).toNat=q.length:=by simp only[List.length_map,List.length_append,List.length_singleton]; omega
 rw[Ld9,e];simp
theorem front_ints(p:List Int):cutV (p.map V.int) none (some (-1))=p.dropLast.map V.int:=by
 rw[cut_front,La1,List.dropLast_eq_take,Lg4]
theorem last_of_levels{ts us:List Tr}{p:List Int}{vs:List V}{G:Hp}(r:Reps G vs ((levelsOf ts p).map rowD))(h:down ts p=some us):∃ v,atI vs (-1)=some v∧Rep G v (rowD us):=by
 have hl:=r.length;rw[La1,levelsOf_length] at hl;have hg:=levelsOf_get (La4 _) (show down ts (p.take p.length)=some us by rw[Le9]; exact h);obtain⟨v,hv,rv⟩:=r.get (i:=p.length) (d:=rowD us) (by rw[La6,hg]; rfl);refine⟨v,?_,rv⟩;unfold atI ixN;rw[if_neg (by decide),if_pos (by omega)];have e:((-1:Int)+(vs.length:Int)).toNat=p.length:=by omega
 rw[Ld9,e,hv]
theorem Ext.freeze{G H G2 H2:Hp}{a:Addr}{o:HO}(x:Ext G H G2 H2)(n:G2 a=none)(nh:H a=none)(h:H2 a=some o):Ext G H (upd G2 a o) H2:=by
 refine⟨x.g.trans (same_upd n),fun b u e=>?_,x.h,fun b u e=>?_⟩
 ·by_cases hb:b=a
  ·subst hb;rw[upd_same] at e;cases e;exact h
  ·rw[upd_ne hb] at e;exact x.gh b u e
 ·rw[upd_ne (ne_of_none e nh)];exact x.new b u e
end TT
namespace TT
open PySem
def dif(t u:Tr):Nat:=if t.mark=u.mark then 0 else 1
inductive Ed:List Tr→List Tr→Nat→Prop
 | nil:Ed [] [] 0
 | del {X F G:List Tr} {t:Tr} {n:Nat} (e:X=F++[t]) (h:Ed (F++t.kids) G n):Ed X G (n+1)
 | ins {Y F G:List Tr} {u:Tr} {n:Nat} (e:Y=G++[u]) (h:Ed F (G++u.kids) n):Ed F Y (n+1)
 | both {X Y F G:List Tr} {t u:Tr} {n m:Nat} (e:X=F++[t]) (e':Y=G++[u]) (h:Ed F G n) (k:Ed t.kids u.kids m):Ed X Y (n+m+dif t u)
theorem snoc_inj{a b:List Tr}{t u:Tr}(h:a++[t]=b++[u]):a=b∧t=u:=by
 obtain⟨h1,h2⟩:=List.append_inj' h rfl;exact⟨h1,by simpa using h2⟩
theorem snoc_ne{a:List Tr}{t:Tr}:¬ []=a++[t]:=by simp
theorem knots_snoc(F:List Tr)(t:Tr):knotsOf (F++[t])=knotsOf (F++t.kids)+1:=by
 rw[knotsOf_append,knotsOf_append,knotsOf,knotsOf,knots_eq];omega
theorem row_split:∀ F:List Tr,F=[]∨∃ a t,F=a++[t]
 | []=>.inl rfl
 | x::xs=>.inr ⟨(x::xs).dropLast,(x::xs).getLast (by simp),(Lg3 (by simp)).symm⟩
theorem Ed.sym{F G:List Tr}{n:Nat}(h:Ed F G n):Ed G F n:=by
 induction h with
 | nil=>exact .nil
 | del e _ ih=>exact .ins e ih
 | ins e _ ih=>exact .del e ih
 | @both X Y F G t u n m e e' _ _ ih ih' =>
  have:dif t u=dif u t:=by
   unfold dif
   by_cases h:t.mark=u.mark
   ·rw[if_pos h,if_pos h.symm]
   ·rw[if_neg h,if_neg fun z=>h z.symm]
  rw[this];exact .both e' e ih ih'
theorem Ed.app{A C B D:List Tr}{n m:Nat}(h:Ed A C n)(k:Ed B D m):Ed (A++B) (C++D) (n+m):=by
 induction k with
 | nil=>rw[Lc0,Lc0]; exact h
 | @del X F G t m e _ ih =>
  subst e;rw[← La9] at ih
  exact .del (La9 ..).symm ih
 | @ins Y F G u m e _ ih =>
  subst e;rw[← La9 C] at ih
  exact .ins (La9 ..).symm ih
 | @both X Y F G t u a b e e' h1 h2 ih ih' =>
  subst e e'
  have:=Ed.both (X:=A++F++[t]) (Y:=C++G++[u]) rfl rfl ih h2;rw[La9,La9] at this;rw[show n+(a+b+dif t u)=n+a+b+dif t u by omega];exact this
theorem ed_same:∀ (N:Nat) (F:List Tr),knotsOf F≤N→Ed F F 0
 | N,F,h=>by
  rcases row_split F with rfl | ⟨a,t,rfl⟩
  ·exact .nil
  ·have hk:=knots_snoc a t;rw[knotsOf_append a t.kids] at hk
   match N,h with
   | 0,h=>omega
   | N+1,h =>
    have h1:=ed_same N a (by omega);have h2:=ed_same N t.kids (by omega)
    have:=Ed.both (t:=t) (u:=t) rfl rfl h1 h2
    rwa [show dif t t=0 from if_pos rfl] at this
theorem Ed.refl(F:List Tr):Ed F F 0:=ed_same _ F (La4 _)
theorem Ed.ofNil:∀ (N:Nat) (G:List Tr),knotsOf G≤N→Ed [] G (knotsOf G)
 | N,G,h=>by
  rcases row_split G with rfl | ⟨a,u,rfl⟩
  ·exact .nil
  ·have hk:=knots_snoc a u
   match N,h with
   | 0,h=>omega
   | N+1,h =>
    rw[hk];exact .ins rfl (Ed.ofNil N (a++u.kids) (by omega))
theorem Ed.size{F G:List Tr}{n:Nat}(h:Ed F G n):knotsOf F≤knotsOf G+n∧knotsOf G≤knotsOf F+n:=by
 induction h with
 | nil=>exact⟨La4 _,La4 _⟩
 | @del X F G t n e _ ih=>subst e; have:=knots_snoc F t; omega
 | @ins Y F G u n e _ ih=>subst e; have:=knots_snoc G u; omega
 | @both X Y F G t u a b e e' _ _ ih ih' =>
  subst e e';have h1:=knots_snoc F t;have h2:=knots_snoc G u;rw[knotsOf_append F t.kids] at h1;rw[knotsOf_append G u.kids] at h2;omega
theorem dif_tri(t u v:Tr):dif t v≤dif t u+dif u v:=by
 unfold dif
 by_cases h1:t.mark=u.mark
 ·by_cases h2:u.mark=v.mark
  ·rw[if_pos (h1.trans h2)]; omega
  ·rw[if_neg h2]; split <;> omega
 ·rw[if_neg h1]; split <;> omega
theorem Ed.tri:∀ (N:Nat) (F G H:List Tr) (n m:Nat),knotsOf F+knotsOf G+knotsOf H≤N→Ed F G n→Ed G H m→∃ k,k≤n+m∧Ed F H k:=by
 intro N
 induction N with
 | zero =>
  intro F G H n m hN h1 h2
  have a1:F=[]:=by
   rcases row_split F with h | ⟨a,t,rfl⟩
   ·exact h
   ·have:=knots_snoc a t; omega
  have a2:H=[]:=by
   rcases row_split H with h | ⟨a,t,rfl⟩
   ·exact h
   ·have:=knots_snoc a t; omega
  subst a1 a2
  exact⟨0,Lb1 _,.nil⟩
 | succ N ih =>
  intro F G H n m hN h1 h2
  cases h1 with
  | nil=>exact⟨m,by omega,h2⟩
  | @del _ F0 _ t n e h =>
   subst e;have hk:=knots_snoc F0 t;obtain⟨k,hk1,hk2⟩:=ih _ _ _ _ _ (by omega) h h2
   exact⟨k+1,by omega,.del rfl hk2⟩
  | @ins _ _ G0 u n e h =>
   subst e;have hu:=knots_snoc G0 u;generalize hX:G0++[u]=X at h2
   cases h2 with
   | nil=>exact absurd hX.symm snoc_ne
   | @del _ G1 _ u1 m e h' =>
    obtain⟨rfl,rfl⟩:=snoc_inj (hX.trans e);obtain⟨k,hk1,hk2⟩:=ih _ _ _ _ _ (by omega) h h'
    exact⟨k,by omega,hk2⟩
   | @ins _ _ H0 v m e h' =>
    subst e;have hv:=knots_snoc H0 v;have hF:Ed F X (n+1):=.ins hX.symm h;obtain⟨k,hk1,hk2⟩:=ih F X (H0++v.kids) (n+1) m (by rw[← hX]; omega) hF h'
    exact⟨k+1,by omega,.ins rfl hk2⟩
   | @both _ _ G1 H0 u1 v a b e e' ha hb =>
    obtain⟨rfl,rfl⟩:=snoc_inj (hX.trans e);subst e';have hv:=knots_snoc H0 v;obtain⟨k,hk1,hk2⟩:=ih F (G0++u.kids) (H0++v.kids) n (a+b) (by omega) h (ha.app hb)
    exact⟨k+1,by omega,.ins rfl hk2⟩
  | @both _ _ F0 G0 t u a b e e' ha hb =>
   subst e;have ht:=knots_snoc F0 t;have hu:=knots_snoc G0 u;have hF:Ed (F0++[t]) G (a+b+dif t u):=.both rfl e' ha hb
   cases h2 with
   | nil=>exact absurd e' snoc_ne
   | @del _ G1 _ u1 m e2 h' =>
    obtain⟨rfl,rfl⟩:=snoc_inj (e'.symm.trans e2);subst e';obtain⟨k,hk1,hk2⟩:=ih (F0++t.kids) (G0++u.kids) H (a+b) m (by omega) (ha.app hb) h'
    exact⟨k+1,by omega,.del rfl hk2⟩
   | @ins _ _ H0 v m e2 h' =>
    subst e2;have hv:=knots_snoc H0 v;obtain⟨k,hk1,hk2⟩:=ih (F0++[t]) G (H0++v.kids) _ m (by omega) hF h'
    exact⟨k+1,by omega,.ins rfl hk2⟩
   | @both _ _ G1 H0 u1 v c d e2 e3 hc hd =>
    obtain⟨rfl,rfl⟩:=snoc_inj (e'.symm.trans e2);subst e' e3;have hv:=knots_snoc H0 v;rw[knotsOf_append F0 t.kids] at ht;rw[knotsOf_append G0 u.kids] at hu;rw[knotsOf_append H0 v.kids] at hv;obtain⟨k,hk1,hk2⟩:=ih F0 G0 H0 a c (by omega) ha hc;obtain⟨j,hj1,hj2⟩:=ih t.kids u.kids v.kids b d (by omega) hb hd
    have:=dif_tri t u v;exact⟨k+j+dif t v,by omega,.both rfl rfl hk2 hj2⟩
def Least(F G:List Tr)(n:Nat):Prop:=Ed F G n∧∀ m,Ed F G m→n≤m
theorem Least.one{F G:List Tr}{n m:Nat}(h:Least F G n)(k:Least F G m):n=m:=Nat.le_antisymm (h.2 m k.1) (k.2 n h.1)
theorem Least.sym{F G:List Tr}{n:Nat}(h:Least F G n):Least G F n:=⟨h.1.sym,fun m hm=>h.2 m hm.sym⟩
theorem Least.nilL(G:List Tr):Least [] G (knotsOf G):=⟨Ed.ofNil _ G (La4 _),fun m h=>by have:=h.size.2; rw[knotsOf] at this; omega⟩
theorem Least.nilR(F:List Tr):Least F [] (knotsOf F):=(Least.nilL F).sym
theorem Least.step{F G:List Tr}{t u:Tr}{a b c d:Nat}(h1:Least (F++t.kids) (G++[u]) a)(h2:Least (F++[t]) (G++u.kids) b)(h3:Least F G c)(h4:Least t.kids u.kids d) :
  Least (F++[t]) (G++[u]) (min (a+1) (min (b+1) (c+d+dif t u))):=by
 refine⟨?_,fun m h=>?_⟩
 ·by_cases hA:a+1≤min (b+1) (c+d+dif t u)
  ·rw[Lf6 hA]; exact .del rfl h1.1
  ·rw[Lg7 (by omega)]
   by_cases hB:b+1≤c+d+dif t u
   ·rw[Lf6 hB]; exact .ins rfl h2.1
   ·rw[Lg7 (by omega)]; exact .both rfl rfl h3.1 h4.1
 ·generalize hX:F++[t]=X at h;generalize hY:G++[u]=Y at h
  cases h with
  | nil=>exact absurd hX.symm snoc_ne
  | @del _ F1 _ t1 n e h =>
   obtain⟨rfl,rfl⟩:=snoc_inj (hX.trans e);subst hY
   have:=h1.2 n h
   omega
  | @ins _ _ G1 u1 n e h =>
   obtain⟨rfl,rfl⟩:=snoc_inj (hY.trans e);subst hX
   have:=h2.2 n h
   omega
  | @both _ _ F1 G1 t1 u1 n k e e' h h' =>
   obtain⟨rfl,rfl⟩:=snoc_inj (hX.trans e);obtain⟨rfl,rfl⟩:=snoc_inj (hY.trans e')
   have:=h3.2 n h
   have:=h4.2 k h';omega
theorem beside_parts{st:Stp}{ts bs:List Tr}(h:st.beside ts=some bs):st.path≠[]∧down ts st.path.dropLast=some bs∧0≤st.path.getLastD 0∧0≤st.many∧st.path.getLastD 0+st.many≤bs.length:=by
 unfold Stp.beside at h
 by_cases hp:st.path=[]
 ·rw[if_pos hp] at h; cases h
 ·rw[if_neg hp] at h
  cases hd:down ts st.path.dropLast with
  | none=>rw[hd] at h; cases h
  | some us =>
   rw[hd,Ld9] at h
   by_cases hc:st.path.getLastD 0<0∨st.many<0∨(us.length:Int)<st.path.getLastD 0+st.many
   ·rw[if_pos hc] at h; cases h
   ·rw[if_neg hc] at h;cases h;exact⟨hp,rfl,by omega,by omega,by omega⟩
theorem set_at{ts:List Tr}{i:Nat}{t u:Tr}(h:ts[i]?=some t):(ts.take i++[u]++ts.drop (i+1))[i]?=some u:=by
 obtain⟨hi,_⟩:=La5.mp h;rw[La9,Le5 (by rw[Lb5]; omega),Lb5,Lf6 (by omega),Lh9];rfl
theorem set_take{ts:List Tr}{i:Nat}{t u:Tr}(h:ts[i]?=some t):(ts.take i++[u]++ts.drop (i+1)).take i=ts.take i:=by
 obtain⟨hi,_⟩:=La5.mp h;rw[La9,List.take_append_of_le_length (by rw[Lb5]; omega),List.take_take,Nat.min_self]
theorem set_drop{ts:List Tr}{i:Nat}{t u:Tr}(h:ts[i]?=some t):(ts.take i++[u]++ts.drop (i+1)).drop (i+1)=ts.drop (i+1):=by
 obtain⟨hi,_⟩:=La5.mp h;rw[List.drop_left' (by rw[La2,Lb5,Lb2]; omega)]
theorem down_set:∀ (p:List Int) (ts us xs:List Tr),down ts p=some us→down (setAt ts p xs) p=some xs
 | [],ts,us,xs,_=>by rw[setAt]; rfl
 | i::p,ts,us,xs,h=>by
  rw[down] at h
  by_cases h0:i<0
  ·rw[if_pos h0] at h; cases h
  ·rw[if_neg h0] at h
   cases h2:ts[i.toNat]? with
   | none=>rw[h2] at h; cases h
   | some t =>
    rw[h2] at h;rw[setAt_cons h2,down,if_neg h0,set_at h2];exact down_set p t.kids us xs h
theorem set_set:∀ (p:List Int) (ts us xs ys:List Tr),down ts p=some us→setAt (setAt ts p xs) p ys=setAt ts p ys
 | [],ts,us,xs,ys,_=>rfl
 | i::p,ts,us,xs,ys,h=>by
  rw[down] at h
  by_cases h0:i<0
  ·rw[if_pos h0] at h; cases h
  ·rw[if_neg h0] at h
   cases h2:ts[i.toNat]? with
   | none=>rw[h2] at h; cases h
   | some t =>
    rw[h2] at h;rw[setAt_cons h2,setAt_cons (set_at h2),set_take h2,set_drop h2,setAt_cons h2]
    show _++[Tr.node t.mark (setAt (setAt t.kids p xs) p ys)]++_=_
    rw[set_set p t.kids us xs ys h]
theorem set_same:∀ (p:List Int) (ts us:List Tr),down ts p=some us→setAt ts p us=ts
 | [],ts,us,h=>by cases h; rw[setAt]
 | i::p,ts,us,h=>by
  rw[down] at h
  by_cases h0:i<0
  ·rw[if_pos h0] at h; cases h
  ·rw[if_neg h0] at h
   cases h2:ts[i.toNat]? with
   | none=>rw[h2] at h; cases h
   | some t =>
    rw[h2] at h;rw[setAt_cons h2,set_same p t.kids us h];obtain⟨hi,et⟩:=La5.mp h2;have e:Tr.node t.mark t.kids=t:=by cases t; rfl
    rw[e,La9,List.singleton_append,← et,← Lc6 hi,Lc9]
def Stp.back:Stp→List Tr→Stp
 | .put p _ _,_=>.cut p
 | .cut p,t::_=>.put p (t.kids.length:Int) t.mark
 | .mark p _,t::_=>.mark p t.mark
 | st,[]=>st
theorem back_path(st:Stp)(xs:List Tr):(st.back xs).path=st.path:=by
 cases st <;> cases xs <;> rfl
theorem back_many{st:Stp}{xs:List Tr}(h:xs.length=st.many.toNat):(st.back xs).many=((st.instead xs).length:Int):=by
 cases st with
 | put p n m=>rfl
 | cut p =>
  match xs,h with
  | [t],_=>rfl
  | [],h=>exact absurd (show (0:Nat)=1 from h) (by decide)
  | _::_::r,h=>exact absurd (show r.length+1+1=1 from h) (by omega)
 | mark p m =>
  match xs,h with
  | [t],_=>rfl
  | [],h=>exact absurd (show (0:Nat)=1 from h) (by decide)
  | _::_::r,h=>exact absurd (show r.length+1+1=1 from h) (by omega)
theorem back_instead{st:Stp}{xs:List Tr}(h:xs.length=st.many.toNat):(st.back xs).instead (st.instead xs)=xs:=by
 cases st with
 | put p n m=>rfl
 | cut p =>
  match xs,h with
  | [t],_=>cases t; rfl
  | [],h=>exact absurd (show (0:Nat)=1 from h) (by decide)
  | _::_::r,h=>exact absurd (show r.length+1+1=1 from h) (by omega)
 | mark p m =>
  match xs,h with
  | [t],_=>cases t; rfl
  | [],h=>exact absurd (show (0:Nat)=1 from h) (by decide)
  | _::_::r,h=>exact absurd (show r.length+1+1=1 from h) (by omega)
theorem step_back{st:Stp}{ts bs xs:List Tr}(h:st.beside ts=some bs)(hxs:(bs.drop (st.path.getLastD 0).toNat).take st.many.toNat=xs):∃ cs,(st.back xs).beside (st.row ts bs)=some cs∧(st.back xs).row (st.row ts bs) cs=ts:=by
 obtain⟨hp,hd,hi0,hn0,hle⟩:=beside_parts h;obtain⟨i,hi⟩:∃ i:Nat,st.path.getLastD 0=(i:Int):=⟨(st.path.getLastD 0).toNat,by omega⟩;obtain⟨n,hn⟩:∃ n:Nat,st.many=(n:Int):=⟨st.many.toNat,by omega⟩;have hin:(st.path.getLastD 0).toNat=i:=by omega
 have hnn:st.many.toNat=n:=by omega
 rw[hin,hnn] at hxs;have hl:xs.length=st.many.toNat:=by rw[← hxs,Lb5,Ld0,hnn]; omega
 have hr:st.row ts bs=setAt ts st.path.dropLast (bs.take i++st.instead xs++bs.drop (i+n)):=by
  unfold Stp.row;rw[hin,hnn,hxs]
 have hm:=back_many hl;have hb:=back_instead hl;have hcl:(bs.take i).length=i:=by rw[Lb5]; omega
 have ht:(bs.take i++st.instead xs++bs.drop (i+n)).take i=bs.take i:=by rw[La9,List.take_left' hcl]
 have hc:(bs.take i++st.instead xs++bs.drop (i+n)).drop i=st.instead xs++bs.drop (i+n):=by rw[La9,List.drop_left' hcl]
 have hq:(bs.take i++st.instead xs++bs.drop (i+n)).drop (i+(st.instead xs).length)=bs.drop (i+n):=by rw[List.drop_left' (by rw[La2,hcl])]
 have hmn:(st.back xs).many.toNat=(st.instead xs).length:=by rw[hm]; rfl
 rw[hr];refine⟨bs.take i++st.instead xs++bs.drop (i+n),?_,?_⟩
 ·unfold Stp.beside;rw[back_path,if_neg hp,down_set _ ts bs _ hd,Ld9,if_neg];rw[hi,hm];rintro (z | z | z)
  ·omega
  ·omega
  ·rw[La2,La2,hcl] at z;omega
 ·unfold Stp.row;rw[back_path,hin,hmn,ht,hc,hq,Lg5,hb,set_set _ ts bs _ _ hd]
  have e1:bs.take i++xs++bs.drop (i+n)=bs:=by
   rw[← hxs,La9,← Lj3,Lc9,Lc9]
  rw[e1];exact set_same _ ts bs hd
def runS:List Stp→List Tr→Option (List Tr)
 | [],ts=>some ts
 | st::r,ts=>match st.beside ts with
  | none=>none
  | some bs=>runS r (st.row ts bs)
theorem runS_app:∀ (a b:List Stp) (ts:List Tr),runS (a++b) ts=(runS a ts).bind (runS b)
 | [],b,ts=>rfl
 | st::a,b,ts=>by
  rw[Lc7,runS,runS]
  cases st.beside ts with
  | none=>rfl
  | some bs=>exact runS_app a b _
def backsS:List Stp→List Tr→List Stp
 | [],_=>[]
 | st::r,ts=>match st.beside ts with
  | none=>[]
  | some bs=>st.back ((bs.drop (st.path.getLastD 0).toNat).take st.many.toNat)::backsS r (st.row ts bs)
theorem backsS_snoc:∀ (a:List Stp) (st:Stp) (ts cs bs:List Tr),runS a ts=some cs→st.beside cs=some bs→backsS (a++[st]) ts=backsS a ts++[st.back ((bs.drop (st.path.getLastD 0).toNat).take st.many.toNat)]
 | [],st,ts,cs,bs,h,k=>by
  cases h
  show backsS [st] ts=[st.back _]
  rw[backsS,k]
  rfl
 | s::a,st,ts,cs,bs,h,k=>by
  rw[runS] at h;rw[Lc7,backsS,backsS]
  cases e:s.beside ts with
  | none=>rw[e] at h; cases h
  | some us =>
   rw[e] at h;exact congrArg _ (backsS_snoc a st _ cs bs h k)
theorem runS_back:∀ (a:List Stp) (ts cs:List Tr),runS a ts=some cs→runS (backsS a ts).reverse cs=some ts
 | [],ts,cs,h=>by cases h; rfl
 | s::a,ts,cs,h=>by
  rw[runS] at h;rw[backsS]
  cases e:s.beside ts with
  | none=>rw[e] at h; cases h
  | some us =>
   rw[e] at h;have ih:=runS_back a _ cs h;obtain⟨ds,h1,h2⟩:=step_back e rfl
   show runS (_::backsS a (s.row ts us)).reverse cs=some ts
   rw[Lg6,runS_app,ih,Ld9,runS,h1]
   show runS [] _=some ts
   rw[h2];rfl
end TT
namespace TT
open PySem PySem.Spec PyProof.Rows L2
def tMid(t:TS):TS:=fun De σ H=>∃ N:L2.St→Hp→Prop,t { De with nx:=N } σ H∧∀ σ' H',N σ' H'→De.nx σ' H'
theorem ps_mid{X:Cx}{st:Stmt}{t:TS}(h:PS X st t):PS X st (tMid t):=by
 intro pins s σ H De I ⟨N,q,hN⟩;refine thn (h pins s σ H { De with nx:=N } I q) fun f s' q=>?_
 cases f with
 | next=>obtain⟨σ',H',I',q⟩:=q; exact⟨σ',H',I',hN _ _ q⟩
 | brk=>exact q
 | cont=>exact q
 | ret v=>exact q
theorem path_len:∀ (p:List Int) (ts:List Tr),(down ts p).isSome=true→p.length≤knotsOf ts
 | [],_,_=>Lb1 _
 | i::p,ts,h=>by
  rw[down] at h
  by_cases h0:i<0
  ·rw[if_pos h0] at h; cases h
  ·rw[if_neg h0] at h
   cases e:ts[i.toNat]? with
   | none=>rw[e] at h; cases h
   | some t =>
    rw[e] at h;have h1:=path_len p t.kids h;have h2:=knots_mem (Lf2 e);rw[knots_eq] at h2;rw[Lb4];omega
theorem path_in{ts:List Tr}{p:List Int}(h:(down ts p).isSome=true):∀ a∈p,a.natAbs<knotsOf ts+1:=fun a ha=>by
 obtain⟨i,hi,rfl⟩:=Le0.mp ha;obtain⟨us,t,hus,h0,ht,_⟩:=down_at h hi;have h1:=(La5.mp ht).1;have h2:=length_le_knots us;have h3:=down_knots _ _ _ hus;omega
theorem pick_int{xs:List Int}{j:Int}(h0:0≤j)(h1:j<xs.length):∃ n,atI (xs.map V.int) j=some (V.int n)∧n∈xs:=by
 have hj:j.toNat<xs.length:=by omega
 have e:=ints_ix (ns:=xs) hj;rw[Le8 h0] at e;exact⟨_,e,Ld4 hj⟩
end TT
namespace TT
open PySem
end TT
namespace TT
open PySem PySem.Spec PyProof.Rows L2
def rNeRow(K:PySem.W.Frag):R2:=fun x y H Q=>∃ (G:Hp) (ts us:List Tr),Same G H∧Rep G x (rowD ts)∧Rep G y (rowD us)∧knotsOf ts≤100∧((ts=us→Q (.bl false) H)∧(ts≠us→Q (.bl true) H))
theorem op_neRow{X:Cx}{k:Nat}(hr:Room k X.A):OpR X (compareOp .NotEq) (rNeRow X.K):=by
 intro pins s σ H x y v u Q I rx ry h;obtain⟨G,ts,us,sm,r1,r2,hk,q1,q2⟩:=h;have hun:=hr.un;obtain⟨a,av,rfl,ha,ra⟩:=r1.row;obtain⟨c,cv,rfl,hc,rc⟩:=r2.row;cases (show v=Value.ref a from rx);cases (show u=Value.ref c from ry);obtain⟨xs,rv,p1,_⟩:=I.list (SqL.of (K:=X.K) (sm _ _ ha));obtain⟨ys,rw',p2,_⟩:=I.list (SqL.of (K:=X.K) (sm _ _ hc))
 obtain⟨f,hf,hi⟩:=items_eq (s:=s) (A:=X.A.in1) ra rc rv rw' (fun j v w d e p q hd he rd re rp rq=>by
  rw[La6] at hd he;obtain⟨k1,h1,rfl⟩:=Lf4.mp hd;obtain⟨k2,h2,rfl⟩:=Lf4.mp he;have hkn:=knots_mem (Lf2 h1)
  exact tree_eq I.hok sm 100 X.A.in1 k1 k2 v w p q (by omega) (by show X.A.units+1+100<cLine; omega) rd re rp rq)
 have l1:=rv.length;have l2:=rw'.length;have l3:=ra.length;have l4:=rc.length
 by_cases hl:xs.length=ys.length
 ·have key:(List.range xs.toArray.size).all f=true↔ts=us:=by
   rw[all_iff,La8]
   constructor
   ·intro h;refine rowD_one ?_;unfold rowD;congr 1;exact lists_same (by omega) fun j hj=>(hi j hj (by omega)).mp (h j (by omega))
   ·rintro rfl j hj;exact (hi j (by omega) (by omega)).mpr rfl
  refine SeqAt.RcNeAt.lists p1.isList p2.isList (by rw[La8,La8]; exact hl) (by omega) hf X.prog X.w X.xe _ ?_
  cases hb:(List.range xs.toArray.size).all f with
  | true=>exact⟨.bl false,H,I,rfl,q1 (key.mp hb)⟩
  | false=>exact⟨.bl true,H,I,rfl,q2 fun z=>by rw[key.mpr z] at hb; cases hb⟩
 ·refine SeqAt.RcNeAt.lists_lengths p1.isList p2.isList (by rw[La8,La8,bne_iff_ne]; exact hl) (by omega) X.prog X.w X.xe _ ⟨.bl true,H,I,rfl,q2 fun z=>?_⟩;subst z;omega
theorem step_parts{G:Hp}{v:V}{st:Stp}(r:Rep G v st.d):∃ (a pq:Addr) (rest:List V) (ds:List D),v=.ref a∧G a=some (.tup (.str st.kind::.ref pq::rest))∧G pq=some (.lst (st.path.map V.int))∧st.d=.tup (.str st.kind::pathD st.path::ds)∧Reps G rest ds∧rest.length≤2:=by
 cases st with
 | mark p m =>
  cases r with
  | tup h t=>cases t with
   | cons r1 t=>cases t with
    | cons r2 t =>
     have hl:=t.length;cases r1;obtain⟨pa,rfl,hp⟩:=Rep.path r2
     exact⟨_,pa,_,_,rfl,h,hp,rfl,t,by rw[hl]; simp⟩
 | cut p =>
  cases r with
  | tup h t=>cases t with
   | cons r1 t=>cases t with
    | cons r2 t =>
     have hl:=t.length;cases r1;obtain⟨pa,rfl,hp⟩:=Rep.path r2
     exact⟨_,pa,_,_,rfl,h,hp,rfl,t,by rw[hl]; simp⟩
 | put p n m =>
  cases r with
  | tup h t=>cases t with
   | cons r1 t=>cases t with
    | cons r2 t =>
     have hl:=t.length;cases r1;obtain⟨pa,rfl,hp⟩:=Rep.path r2;exact⟨_,pa,_,_,rfl,h,hp,rfl,t,by rw[hl]; simp⟩
section
variable {X:Cx}
end
theorem forIn_fold{α β:Type}{l:List α}{f:α→β→Sem (ForInStep β)}(h:α→β→β):∀ (c:β),(∀ x∈l,∀ c,f x c=pure (.yield (h x c)))→forIn l c f=pure (l.foldl (fun c x=>h x c) c):=by
 induction l with
 | nil=>intro c _; rfl
 | cons x l ih =>
  intro c hf;rw[List.forIn_cons,hf x La7,pure_bind,List.foldl_cons];exact ih _ fun y hy=>hf y (Lb0 _ hy)
def capsOf(env:Env)(names:List (Str×NameKind))(acc:List (Str×Addr)):List (Str×Addr):=names.foldl (fun c x=>if (x.2 == NameKind.free)=true then (x.1,(env.cells.lookup x.1).getD 0)::c else c) acc
theorem capsOf_sub{env:Env}:∀ (names:List (Str×NameKind)) (acc:List (Str×Addr)),(∀ y∈names,y.2=.free→∃ c,env.cells.lookup y.1=some c)→(∀ y c,acc.lookup y=some c→env.cells.lookup y=some c) →
  ∀ y c,(capsOf env names acc).lookup y=some c→env.cells.lookup y=some c
 | [],acc,_,ha,y,c,h=>ha y c h
 | x::names,acc,hn,ha,y,c,h=>by
  refine capsOf_sub names _ (fun z hz=>hn z (Lb0 _ hz)) ?_ y c h;intro z d hd;dsimp only at hd
  by_cases hf:(x.2 == NameKind.free)=true
  ·rw[if_pos hf] at hd;rw[Li2] at hd
   cases hz:z == x.1 with
   | true =>
    rw[hz] at hd;have e:z=x.1:=by simpa using hz
    obtain⟨c',hc'⟩:=hn x (La7 ..) (by simpa using hf);rw[hc'] at hd;rw[e,hc']
    simpa using hd
   | false=>rw[hz] at hd; exact ha z d hd
  ·rw[if_neg hf] at hd;exact ha z d hd
theorem capsOf_has{env:Env}:∀ (names:List (Str×NameKind)) (acc:List (Str×Addr)) (y:Str),((∃ c,acc.lookup y=some c)∨(y,NameKind.free)∈names)→∃ c,(capsOf env names acc).lookup y=some c
 | [],acc,y,h=>by
  rcases h with h | h
  ·exact h
  ·exact nomatch h
 | x::names,acc,y,h=>by
  refine capsOf_has names _ y ?_;dsimp only
  by_cases hf:(x.2 == NameKind.free)=true
  ·rw[if_pos hf,Li2]
   cases hz:y == x.1 with
   | true=>exact .inl ⟨_,rfl⟩
   | false =>
    rcases h with h | h
    ·exact .inl h
    ·rcases Lb6.mp h with e | h
     ·rw[← e] at hz; simp at hz
     ·exact .inr h
  ·rw[if_neg hf]
   rcases h with h | h
   ·exact .inl h
   ·rcases Lb6.mp h with e | h
    ·rw[← e] at hf; exact absurd rfl hf
    ·exact .inr h
theorem closure_caps{env:Env}{scope:Scope}(h:∀ y∈scope.names,y.2=.free→∃ c,env.cells.lookup y.1=some c):closureFor scope env=pure (capsOf env scope.names []):=by
 simp only[closureFor]
 rw[forIn_fold (fun x c=>if (x.2 == NameKind.free)=true then (x.1,(env.cells.lookup x.1).getD 0)::c else c) [] (fun x hx c=>by
  obtain⟨n,k⟩:=x
  by_cases hf:(k == NameKind.free)=true
  ·obtain⟨a,ha⟩:=h _ hx (by simpa using hf);simp only[hf,if_true,cellOf,ha,pure_bind,Option.getD_some]
  ·simp only[hf,if_false,Bool.false_eq_true])]
 rfl
def compXC(X:Cx)(scope:Scope)(cl:List (Str×Addr))(C:Addr)(N:List Str)(s2:Shared)(H2:Hp)(fp:List Addr):Cx :=
 { X with N:=N,s₀:=s2,H₀:=H2,env:=compEnvC scope cl C X.env,outer:=X.stack,stack:=X.stack,ex:=fp,fn:=fun _=>false,pn:=[],xe:=fun _ _=>False }
def cap0(n:Nat)(caps:List Nat)(σ:L2.St):L2.St:=List.replicate n none++caps.map fun j=>(σ[j]?).join
def tFillC(g:TG)(te:TE)(n:Nat)(caps:List Nat)(J:It)(σ:L2.St)(H1:Hp)(Q:VK):Prop:=∀ acc,H1 acc=none→∃ W:Nat→Nat→Hp→List V→Prop,(∃ m,W 0 m (upd H1 acc (.lst [])) []) ∧
 ∀ i m H2 ys,W i m H2 ys→H2 acc=some (.lst ys)→(J.stop i H2∧Q (.ref acc) H2)∨(J.go i H2∧ys.length<sizeLine∧∀ x H3,J.yld i H2 x H3→g x (cap0 n caps σ) H3 fun σ2 H4 =>
  (∀ (j:Nat) (v:V),(cap0 n caps σ)[j]?=some (some v)→σ2[j]?=some (some v))∧te σ2 H4 fun y H6=>H6 acc=some (.lst ys)∧∃ m',m'<m∧W (i+1) m' (upd H6 acc (.lst (ys++[y]))) (ys++[y]))
def tCompC(wi:TI)(g:TG)(te:TE)(n:Nat)(caps:List Nat):TE:=fun σ H Q=>wi σ H fun J H1=>tFillC g te n caps J σ H1 Q
structure CapOk(X:Cx)(scope:Scope)(N:List Str)(n:Nat)(caps:List Nat):Prop where
 kind:scope.kind=.function
 cell:∀ y∈scope.names,y.2≠.cell
 names:∀ y∈scope.names,y.2=.local→scope.names.lookup y.1=some .local
 len:N.length=n+caps.length
 free:∀ y∈scope.names,y.2=.free→X.env.scope.names.lookup y.1=some .cell
 caps:∀ (i j:Nat),caps[i]?=some j→∃ y,N[n+i]?=some y∧X.N[j]?=some y∧X.env.scope.names.lookup y=some .cell∧scope.names.lookup y=some .free
theorem relabel_free{env:Env}:∀ {names:List (Str×NameKind)} {x:Str} {k:NameKind},(∀ y∈names,y.2≠.cell)→(names.map fun (n,k)=>if (k == NameKind.free && env.scope.kind == .function && env.kindOf n == some .cell) then (n,NameKind.cell) else (n,k)).lookup x=some k →
  (k=.cell∨k=.free)→(x,NameKind.free)∈names
 | [],x,k,_,e,_=>by simp at e
 | (n,kn)::l,x,k,hc,e,hk=>by
  rw[Lc2,Li2] at e
  cases hx:x == n with
  | true =>
   have ex:x=n:=by simpa using hx
   subst ex
   have hkn:kn=.free:=by
    by_cases hf:kn=.free
    ·exact hf
    ·exfalso
     have eb:(kn == NameKind.free)=false:=by simpa using hf
     simp only[eb,Bool.false_and,Bool.false_eq_true,if_false] at e;rw[hx] at e;simp only at e;cases e
     rcases hk with z | z
     ·exact hc _ (La7 ..) z
     ·exact hf z
   rw[hkn]
   exact La7 ..
  | false =>
   refine Lb0 _ (relabel_free (env:=env) (fun y hy=>hc y (Lb0 _ hy)) ?_ hk)
   by_cases hf:(kn == NameKind.free && env.scope.kind == .function && env.kindOf n == some .cell)=true
   ·rw[if_pos hf] at e;simp only at e;rw[hx] at e;exact e
   ·rw[if_neg hf] at e;simp only at e;rw[hx] at e;exact e
section
variable {X:Cx}
theorem compOkC{pins:List (Addr×Obj)}{σ:L2.St}{H:Hp}{s:Shared}{scope:Scope}{C:Addr}{N:List Str}{n:Nat}{caps:List Nat}{fp:List Addr}(I:Inv X pins σ H s)(hc:X.calm=true)(co:CapOk X scope N n caps)
  (hC:s.heap.objs.size≤C) (hf:∀ b∈fp,FpOk X pins H b) (hlt:∀ b∈fp,b<s.heap.objs.size) (hsub:∀ y c,(capsOf X.env scope.names []).lookup y=some c→X.env.cells.lookup y=some c):(compXC X scope (capsOf X.env scope.names []) C N s H fp).Ok where
 mod:=I.ok.mod
 kind:=co.kind
 glob:=I.ok.glob
 blt:=I.ok.blt
 above:=hC
 inj:=fun x y c e e'=>I.ok.inj x y c (hsub x c e) (hsub y c e')
 has:=fun x hx=>by
  have key:∀ k,(k=NameKind.cell∨k=.free)→(compXC X scope (capsOf X.env scope.names []) C N s H fp).env.kindOf x=some k→∃ c,(capsOf X.env scope.names []).lookup x=some c:=fun k hk e =>
   capsOf_has scope.names [] x (.inr (relabel_free (env:=X.env) co.cell e hk))
  rcases hx with e | e
  ·exact key _ (.inl rfl) e
  ·exact key _ (.inr rfl) e
 cab:=fun x c e _=>nomatch e
 hd:=fun _=>I.ok.hd hc
 frames:=I.ok.frames
 stk:=.inl rfl
 exf:=fun b hb=>⟨Lc4 (Lb7 (hlt b hb) hC),fun x c e=>(hf b hb).2.2.2.2.1 x c (hsub x c e)⟩
 bs:=I.bs
 bsz:=Ld6 I.ok.bsz I.sz
 noex:=fun b o e hb=>by
  rcases (hf b hb).2.2.2.1 with z | z
  ·exact I.ok.noex b o e z
  ·exact absurd (Lb7 (Heap.lt_size e) (Ld6 I.ok.bsz z)) (Le6 _)
 exfs:=fun b hb z=>by
  rcases Lb6.mp (I.stkSub b z) with e | z
  ·exact (hf b hb).2.1 e
  ·exact (hf b hb).2.2.1 z
 funs:=I.stack
 frf:=I.stkFree
theorem mem_of_lookup:∀ {l:List (Str×NameKind)} {x:Str} {k:NameKind},l.lookup x=some k→(x,k)∈l
 | (n,kn)::l,x,k,h=>by
  rw[Li2] at h
  cases hx:x == n with
  | true =>
   rw[hx] at h;have e:x=n:=by simpa using hx
   cases h;rw[e]
   exact La7 ..
  | false =>
   rw[hx] at h;exact Lb0 _ (mem_of_lookup h)
theorem lookup_relabel_free{env:Env}:∀ {names:List (Str×NameKind)} {x:Str},names.lookup x=some .free →
  (names.map fun (n,k)=>if (k == NameKind.free && env.scope.kind == .function && env.kindOf n == some .cell) then (n,NameKind.cell) else (n,k)).lookup x=some .cell ∨
  (names.map fun (n,k)=>if (k == NameKind.free && env.scope.kind == .function && env.kindOf n == some .cell) then (n,NameKind.cell) else (n,k)).lookup x=some .free
 | (n,k)::r,x,h=>by
  rw[Li2] at h;rw[Lc2,Li2]
  cases hx:x == n with
  | true =>
   rw[hx] at h;cases h
   by_cases hf:(NameKind.free == NameKind.free && env.scope.kind == .function && env.kindOf n == some .cell)=true
   ·left
    simp only[hf,if_true,hx]
   ·right
    rw[if_neg hf]
    simp only[hx]
  | false =>
   rw[hx] at h;have ih:=lookup_relabel_free (env:=env) h
   by_cases hf:(k == NameKind.free && env.scope.kind == .function && env.kindOf n == some .cell)=true
   ·rw[if_pos hf];simp only[hx];exact ih
   ·rw[if_neg hf];simp only[hx];exact ih
theorem ok_kind{scope:Scope}{x:Str}(h:scope.names.lookup x=some .free):((relabel scope X.env).names.lookup x=some .cell∨(relabel scope X.env).names.lookup x=some .free):=lookup_relabel_free (env:=X.env) h
def PTs(X:Cx)(ifs:List Expr)(tt:L2.TT):Prop:=∀ (pins:List (Addr×Obj)) (s:Shared) (σ:L2.St) (H:Hp) (Q:Bool→Hp→Prop),Inv X pins σ H s→tt σ H Q →
 wpAny (model X.prog X.w) X.A (forIn ifs true fun c r=>if r=true then do let ok ← isTrue c X.env (eval c X.env); pure (ForInStep.yield ok) else pure (ForInStep.yield r)) (TP X pins σ Q) X.xe s
theorem pts_nil:PTs X [] fun _ H Q=>Q true H:=fun _ _ _ H _ I h=>wpAny_tests_nil ⟨H,I,h⟩
theorem pts_one{c:Expr}{tc:L2.TT}(h:PT X c tc):PTs X [c] tc:=fun pins s σ H Q I q=>wpAny_tests_one (h pins s σ H Q I q)
def tFillT(g:TG)(tt:L2.TT)(te:TE)(n:Nat)(caps:List Nat)(J:It)(σ:L2.St)(H1:Hp)(Q:VK):Prop:=∀ acc,H1 acc=none→∃ W:Nat→Nat→Hp→List V→Prop,(∃ m,W 0 m (upd H1 acc (.lst [])) []) ∧
 ∀ i m H2 ys,W i m H2 ys→H2 acc=some (.lst ys)→(J.stop i H2∧Q (.ref acc) H2)∨(J.go i H2∧ys.length<sizeLine∧∀ x H3,J.yld i H2 x H3→g x (cap0 n caps σ) H3 fun σ2 H4 =>
  (∀ (j:Nat) (v:V),(cap0 n caps σ)[j]?=some (some v)→σ2[j]?=some (some v))∧tt σ2 H4 fun b H5=>if b=true then te σ2 H5 fun y H6=>H6 acc=some (.lst ys)∧∃ m',m'<m∧W (i+1) m' (upd H6 acc (.lst (ys++[y]))) (ys++[y])
   else H5 acc=some (.lst ys)∧∃ m',m'<m∧W (i+1) m' H5 ys)
def tCompT(wi:TI)(g:TG)(tt:L2.TT)(te:TE)(n:Nat)(caps:List Nat):TE:=fun σ H Q=>wi σ H fun J H1=>tFillT g tt te n caps J σ H1 Q
theorem comp_core{elt tg iter:Expr}{ifs:List Expr}{scope:Scope}{pos:Pos}{N:List Str}{n:Nat}{caps:List Nat}{wi:TI}{g:TG}{tt:L2.TT}{te:TE}{use:Option (Value→Sem Unit)}{PP:Value→Shared→Prop}{R:It→Hp→Prop}{pins:List (Addr×Obj)}{s:Shared}{σ:L2.St}{H:Hp}{Q:VK}(hc:X.calm=true)(hi:PI X tg iter wi)(co:CapOk X scope N n caps)(hg:∀ cl C s2 H2 fp,PG (compXC X scope cl C N s2 H2 fp) tg g)
  (ht:∀ cl C s2 H2 fp,PTs (compXC X scope cl C N s2 H2 fp) ifs tt) (he:∀ cl C s2 H2 fp,PE (compXC X scope cl C N s2 H2 fp) elt te) (hs:∀ x,foldedSetIterable iter X.env x=pure x) (I:Inv X pins σ H s) (h:wi σ H R) (hR:∀ J H1,R J H1→tFillT g tt te n caps J σ H1 Q)
  (fin:∀ (acc C:Addr) (cl:List (Str×Addr)) (s2 s5:Shared) (H2 H':Hp) (fp:List Addr) (σ':L2.St),Inv X pins σ H2 s2→s2.heap.objs.size≤C→(∀ b∈fp,FpOk X pins H2 b)→Inv (compXC X scope cl C N s2 H2 fp) [] σ' H' s5→Q (.ref acc) H'→compPost (model X.prog X.w) X.A X.xe use PP (.ref acc) C (.ok .next) s5) :
  wpAny (model X.prog X.w) X.A (comprehension (.ListComp elt [⟨tg,iter,ifs,0⟩] scope pos) scope X.env (firstIterPos [⟨tg,iter,ifs,0⟩] pos) (newList []) (firstAsync [⟨tg,iter,ifs,0⟩]) (firstIter [⟨tg,iter,ifs,0⟩] X.env) use) PP X.xe s:=by
 have hcells:∀ y∈scope.names,y.2=.free→∃ c,X.env.cells.lookup y.1=some c:=fun y hy hf=>I.ok.has y.1 (.inl (co.free y hy hf));have hsub:=capsOf_sub (env:=X.env) scope.names [] hcells (fun _ _ z=>nomatch z);have hhas:∀ y,(y,NameKind.free)∈scope.names→∃ c,(capsOf X.env scope.names []).lookup y=some c:=fun y hy=>capsOf_has scope.names [] y (.inr hy);refine wpAny_comprehension_free (cl:=capsOf X.env scope.names []) (use:=use) rfl hs (closure_caps hcells) co.kind co.names (thn (hi pins s σ H _ I h) fun v s1 h1=>thn h1 fun itv s2 h2=>?_);obtain⟨it,fp,tn,J,H2,rfl,I2,T,st2,f2,q⟩:=h2;have hlt:∀ b∈fp,b<s2.heap.objs.size:=fun b hb=>let ⟨o,e,_⟩:=T.obj _ _ st2 b hb; Heap.lt_size e
 refine wpAny_newObj_type (wpAny_newFunctionEnv co.cell (by intro y hy; simp at hy) (fun h1 hns hsb=>?_) co.kind);obtain⟨W,⟨m0,w0⟩,turn⟩:=hR _ _ q s2.heap.objs.size I2.fresh;have hCs:(s2.heap.push { cls:=.type "list",dict:=none,data:=.seq ([]:List Value).toArray }).objs.size=s2.heap.objs.size+1:=Heap.size_push ..;dsimp only at hns hsb ⊢;generalize hC:(s2.heap.push { cls:=.type "list",dict:=none,data:=.seq ([]:List Value).toArray }).objs.size=C at hns hsb hCs ⊢;have leC:s2.heap.objs.size≤C:=by omega
 have old:∀ b o,s2.heap.get? b=some o→h1.get? b=some o:=fun b o e=>by
  have hb:=Heap.lt_size e;exact hsb.extBut b o (Lc4 (Lb7 hb leC)) (Heap.get?_push_of_some _ (Heap.get?_push_of_some _ e))
 have accAt:h1.get? s2.heap.objs.size=some { cls:=.type "list",dict:=none,data:=.seq ([]:List Value).toArray } :=
  hsb.extBut _ _ (Lc4 (by omega)) (Heap.get?_push_of_some _ (Heap.get?_push_size _ rfl))
 have hCn:H2 C=none:=I2.hok.fresh leC;have ok0:=compOkC (N:=N) (C:=C) I2 hc co leC f2 hlt hsub;generalize hcl:capsOf X.env scope.names []=cl at *
 have I4:Inv (compXC X scope cl C N s2 H2 fp) [] (cap0 n caps σ) (upd H2 s2.heap.objs.size (.lst [])) { s2 with heap:=h1,toks:=s2.toks+([]:List (Str×Value)).length }:=by
  refine⟨ok0,rfl,I2.bare,Un.laid old (La4 _) I2.fresh,⟨_,hns,fun i x v ex ev hv=>?_⟩,(fun x c e=>?_),?_,(fun x c e=>?_),(fun p hp=>(nomatch hp)),?_,?_⟩
  ·unfold cap0 at ev
   by_cases hin:i<n
   ·rw[Lj1 (by rw[Lg9]; exact hin),List.getElem?_replicate,if_pos hin] at ev;cases ev
   ·rw[Le5 (by rw[Lg9]; omega),Lg9,La6] at ev;obtain⟨j,hj,ej⟩:=Lf4.mp ev;obtain⟨y,hy1,hy2,hy3,hy4⟩:=co.caps _ _ hj;rw[show n+(i - n)=i by omega] at hy1;have exy:x=y:=Option.some.inj (ex.symm.trans hy1);subst exy
    have esv:σ[j]?=some (some v):=by
     cases z:σ[j]? with
     | none=>rw[z] at ej; cases ej
     | some o=>rw[z] at ej; exact congrArg some ej
    obtain⟨m2,hm2,hl2⟩:=I2.loc;obtain⟨u,ru,lk⟩:=hl2 j x v hy2 esv (.inr (.inl hy3));refine⟨u,ru,?_⟩
    rcases lk with ⟨kk,_⟩ | ⟨_,c,hc1,hc2⟩
    ·rw[show X.env.kindOf x=some .cell from hy3] at kk;cases kk
    ·right
     obtain⟨c',hc'⟩:=hhas x (mem_of_lookup hy4);have e1:=hsub x c' hc';rw[hc1] at e1;cases e1;refine⟨?_,c,hc',hc2.keeps old⟩;exact ok_kind (X:=X) hy4
  ·obtain⟨v,hv⟩:=I2.cell x c (hsub x c e);exact⟨v,hv.keeps old⟩
  ·show upd H2 s2.heap.objs.size (.lst []) C=none
   rw[upd_ne (Lj7 (by omega))];exact hCn
  ·obtain⟨v,hv⟩:=I2.cell x c (hsub x c e);rw[upd_ne (Lc4 hv.lt)];exact I2.freeC x c (hsub x c e)
  ·exact I2.hok.laid old (La4 _) ⟨Lb1 _,[],0,.nil,accAt⟩
  ·show (cap0 n caps σ).length=N.length
   unfold cap0;rw[La2,Lg9,La1,co.len]
 have st4:tn 0 h1:=T.keep _ _ _ st2 fun b _ o e=>old b o e
 have fr4:∀ b∈fp,upd H2 s2.heap.objs.size (.lst []) b=none:=fun b hb=>by
  rw[upd_ne (Lc4 (hlt b hb))];exact (f2 b hb).1
 have stat:∀ {pn:List (Addr×Obj)} {H':Hp},(∀ p∈pn,p.1∉fp)→(∀ b∈fp,H' b=none)→∀ b∈fp,FpOk (compXC X scope cl C N s2 H2 fp) pn H' b:=fun hpn hn b hb =>
  ⟨hn b hb,Lc4 (Lb7 (hlt b hb) leC),ok0.exfs b hb,.inl hb,(fun x c e=>(ok0.exf b hb).2 x c e),fun p hp z=>hpn p hp (z ▸ hb)⟩
 have loop:∀ s4:Shared,s4={ s2 with heap:=h1,toks:=s2.toks+([]:List (Str×Value)).length } →
   codeAny (model X.prog X.w) X.A (.compLoop (.ListComp elt [⟨tg,iter,ifs,0⟩] scope pos) 0 (.ref it) (.ref s2.heap.objs.size) (compEnvC scope cl C X.env))
    (compPost (model X.prog X.w) X.A X.xe use PP (.ref s2.heap.objs.size) C) s4:=by
  rintro s4 rfl;refine codeAny_loop rfl (fun m s'=>∃ i σ' H' ys,Inv (compXC X scope cl C N s2 H2 fp) [] σ' H' s'∧(∀ (j:Nat) (v:V),(cap0 n caps σ)[j]?=some (some v)→σ'[j]?=some (some v))∧tn i s'.heap∧(∀ b∈fp,H' b=none)∧H' s2.heap.objs.size=some (.lst ys)∧W i m H' ys) ?_ m0 ⟨0,_,_,[],I4,fun _ _ z=>z,st4,fr4,upd_same,w0⟩;rintro m s' ⟨i,σ',H',ys,I',wk',st',fr',ha',w'⟩
  show wpAny _ _ ((compTurn (.ListComp elt [⟨tg,iter,ifs,0⟩] scope pos) 0 (.ref it) (.ref s2.heap.objs.size) (compEnvC scope cl C X.env)).onRaise (fun x=>do noteFrame x (compEnvC scope cl C X.env); theTreesLotGoes x)) _ _ s'
  refine wpAny_noted ?_;rw[compTurn_list];refine wpAny_bind (wpAny_standAt (wpAny_bind ?_))
  rcases turn i m H' ys w' ha' with ⟨stop,qn⟩ | ⟨go,hz,step⟩
  ·refine thn (T.done (compXC X scope cl C N s2 H2 fp) rfl rfl rfl hc i [] s' σ' H' _ I' (stat ((fun p hp=>(nomatch hp))) fr') st' stop) fun r s5 ⟨hr,I5⟩=>?_;subst hr;exact wpAny_pure (fin _ _ _ _ _ _ _ _ _ I2 leC f2 I5 qn)
  ·refine thn (T.item (compXC X scope cl C N s2 H2 fp) rfl rfl rfl hc i [] s' σ' H' _ I' (stat ((fun p hp=>(nomatch hp))) fr') st' go) fun r s5 ⟨u,hr,h5⟩=>?_;subst hr;refine wpAny_bind (thn h5 fun _ s6 hZr=>?_);obtain⟨x,H6,I6,r6,y6,st6,fr6⟩:=hZr;have I6':=(I6.weak (σ':=cap0 n caps σ) (by rw[I4.len]; exact I6.len.symm) wk').pinned (stat ((fun p hp=>(nomatch hp))) fr6) (T.obj _ _ st6);refine wpAny_bind (wpAny_mono (hg cl C s2 H2 fp _ s6 _ H6 x u _ I6' r6 (step x H6 y6)) (fun _ s7 ⟨σ7,H7,I7,wk7,q7⟩=>?_) fun _ _ z=>False.elim z)
   have kp:∀ {s9:Shared} {H9:Hp} {σ9:L2.St},Inv (compXC X scope cl C N s2 H2 fp) ([]++pinsAt fp s6.heap) σ9 H9 s9→tn (i+1) s9.heap∧∀ b∈fp,H9 b=none:=fun I9 =>
    ⟨T.keep _ _ _ st6 fun b hb o e=>(I9.pin (b,o) (Ld2 _ (mem_pinsAt hb e))).1,fun b hb=>let ⟨o,e,_⟩:=T.obj _ _ st6 b hb; (I9.pin (b,o) (Ld2 _ (mem_pinsAt hb e))).2.1⟩
   refine wpAny_bind (wpAny_mono (ht cl C s2 H2 fp _ s7 σ7 H7 _ I7 q7) (fun ok s8 ⟨H8,I8,q8⟩=>?_) fun _ _ z=>False.elim z)
   cases ok with
   | false =>
    rw[if_neg Lb8] at q8;obtain⟨ha8,m8,hm8,w8⟩:=q8
    exact wpAny_pure ⟨rfl,m8,hm8,i+1,σ7,_,ys,I8.unpinned,wk7,(kp I8).1,(kp I8).2,ha8,w8⟩
   | true =>
    rw[if_pos rfl] at q8;refine wpAny_bind (wpAny_bind (wpAny_mono (he cl C s2 H2 fp _ s8 σ7 H8 _ I8 q8) (fun v9 s9 ⟨y,H9,I9,r9,ha9,m9,hm9,w9⟩=>?_) fun _ _ z=>False.elim z));refine wpAny_bind (wpAny_mono (mt_append (X:=compXC X scope cl C N s2 H2 fp) _ s9 σ7 H9 (.ref s2.heap.objs.size) [y] _ [v9] (fun _ HA=>HA=upd H9 s2.heap.objs.size (.lst (ys++[y]))) I9 rfl (.cons r9 .nil) ⟨_,ys,y,rfl,rfl,ha9,hz,rfl⟩) (fun _ sA ⟨_,HA,IA,_,eA⟩=>?_) fun _ _ z=>False.elim z);subst eA;exact wpAny_pure (wpAny_pure ⟨rfl,m9,hm9,i+1,σ7,_,ys++[y],IA.unpinned,wk7,(kp IA).1,(kp IA).2,upd_same,w9⟩)
 exact codeAny_compStart_list (loop _ rfl) (T.self _ 0 _ _ _ st4 (loop _ rfl))
theorem pe_compC{elt tg iter:Expr}{scope:Scope}{pos:Pos}{N:List Str}{n:Nat}{caps:List Nat}{wi:TI}{g:TG}{te:TE}(hc:X.calm=true)(hi:PI X tg iter wi)(co:CapOk X scope N n caps)(hg:∀ cl C s2 H2 fp,PG (compXC X scope cl C N s2 H2 fp) tg g)
  (he:∀ cl C s2 H2 fp,PE (compXC X scope cl C N s2 H2 fp) elt te) (hs:∀ x,foldedSetIterable iter X.env x=pure x:=by intro _; rfl):PE X (.ListComp elt [⟨tg,iter,[],0⟩] scope pos) (tCompC wi g te n caps):=by
 intro pins s σ H Q I h;rw[eval_ListComp];refine comp_core (ifs:=[]) (tt:=fun _ H Q=>Q true H) (R:=fun J H1=>tFillC g te n caps J σ H1 Q) (Q:=Q) hc hi co hg (fun _ _ _ _ _=>pts_nil) he hs I h (fun _ _ r=>r) (fun acc C cl s2 s5 H2 H' fp σ' I2 leC f2 I5 qn=>?_);obtain⟨m5,hn5,_⟩:=I5.loc;refine⟨m5,hn5,fun h' sb=>?_⟩;have sb':Heap.SameBut C s5.heap h':=sb;have up:∀ b o,s2.heap.get? b=some o→∀ o',s5.heap.get? b=some o'→h'.get? b=some o':=fun b o e o' e'=>(sb'.2 b (Lc4 (Lb7 (Heap.lt_size e) leC))).trans e';have u5:=I5.base
 have un:Un (frs X.stack) fp H2 H' s2.heap h' :=
  ⟨fun b o e n hb hx=>up b o e _ (u5.keep b o e n hb hx),fun b o e n hb hx=>let ⟨sl,z⟩:=u5.slot b o e n hb hx; ⟨sl,up b o e _ z⟩,u5.free,fun b o e hx=>let ⟨o',z⟩:=u5.there b o e hx; ⟨o',up b o e _ z⟩,u5.tups,u5.frzs,u5.tbls⟩
 have hok5:HOk X.prog X.w H' h':=fun b u e=>by
  have nC:∀ c v,H' c=some v→c≠C:=fun c v z e2=>by
   have:H' C=none:=I5.free;rw[e2,this] at z;cases z
  refine (I5.hok b u e).stay (fun c v hcc z=>(sb'.2 c ?_).trans z) (fun _ z=>z) fun _ _ z=>z
  rcases hcc with rfl | hcc
  ·exact nC c u e
  ·exact nC c _ hcc
 have fin:Inv X pins σ H' { s5 with heap:=h' }:=I2.call' (s':={ s5 with heap:=h' }) (ch:=fp) I5.os un hok5 I5.bare fun b hb=>let ⟨_,g1,_,g3,g4,g5⟩:=f2 b hb; ⟨g3,g1,g4,g5⟩
 exact⟨.ref acc,H',fin,rfl,qn⟩
theorem comp_set{scope:Scope}{N:List Str}{k:Nat}{nm:Str}{pos':Pos}{pins:List (Addr×Obj)}{σ σ':L2.St}{De:Ends}{acc C:Addr}{cl:List (Str×Addr)}{s2 s5:Shared}{H2 H':Hp}{fp:List Addr}(hN:X.N.Nodup)(hk':X.N[k]?=some nm)(hnm:Loc X.env.scope nm)(hf:X.fn nm=true∨X.env.scope.names.lookup nm=some .local)
  (I2:Inv X pins σ H2 s2) (leC:s2.heap.objs.size≤C) (f2:∀ b∈fp,FpOk X pins H2 b) (I5:Inv (compXC X scope cl C N s2 H2 fp) [] σ' H' s5) (qn:De.nx (σ.set k (some (.ref acc))) H'):compPost (model X.prog X.w) X.A X.xe (some (assign (.Name nm pos') X.env)) (fun _ s'=>SP X pins De .next s') (.ref acc) C (.ok .next) s5:=by
 obtain⟨m5,hn5,_⟩:=I5.loc;have fin:Inv X pins σ H' s5:=I2.call' (ch:=fp) I5.os I5.base I5.hok I5.bare fun b hb=>let ⟨_,g1,_,g3,g4,g5⟩:=f2 b hb; ⟨g3,g1,g4,g5⟩
 refine wpAny_assign_Name (store_ok2 (v:=.ref acc) fin hN hk' hnm rfl (fun s6 I6 ⟨a6,sb6,ha6⟩=>?_) hf)
 have neC:C≠a6:=by
  intro z
  rcases ha6 with e | e
  ·exact absurd (Lb7 I2.lt leC) (by rw[z,e]; exact Le6 _)
  ·obtain⟨v,q⟩:=I2.cell _ _ e;exact absurd (Lb7 q.lt leC) (by rw[z]; exact Le6 _)
 refine⟨m5,hn5.sameBut sb6 neC,fun h' sb=>⟨_,H',?_,qn⟩⟩;have hCn':H' C=none:=I5.free;refine I6.turned (t':=s6.toks) (it:=C) (fun b o hb e=>(sb.2 b hb).trans e) hCn' (Lj7 (Lb7 I2.lt leC)) (.inr (Ld6 I2.sz leC)) (fun y c e z=>?_) (fun q hq z=>?_)
 ·obtain⟨v,q⟩:=I2.cell y c e;exact absurd (Lb7 q.lt leC) (by rw[z]; exact Le6 _)
 ·exact absurd (Lb7 (Heap.lt_size (I2.pin q hq).1) leC) (by rw[z]; exact Le6 _)
theorem ps_setCompC{elt tg iter:Expr}{scope:Scope}{pos pos' pos2:Pos}{N:List Str}{n:Nat}{caps:List Nat}{wi:TI}{g:TG}{te:TE}{k:Nat}{nm:Str}(hN:X.N.Nodup)(hk':X.N[k]?=some nm)(hnm:Loc X.env.scope nm)(hc:X.calm=true)(hi:PI X tg iter wi)(co:CapOk X scope N n caps)
  (hg:∀ cl C s2 H2 fp,PG (compXC X scope cl C N s2 H2 fp) tg g) (he:∀ cl C s2 H2 fp,PE (compXC X scope cl C N s2 H2 fp) elt te)
  (hs:∀ x,foldedSetIterable iter X.env x=pure x:=by intro _; rfl) (hsw:swapsWith (.ListComp elt [⟨tg,iter,[],0⟩] scope pos) (some (.Name nm pos')) pos2.line X.env=pure true:=by rfl)
  (hf:X.fn nm=true∨X.env.scope.names.lookup nm=some .local:=by first | exact .inl rfl | exact .inr rfl | assumption):PS X (.Assign [.Name nm pos'] (.ListComp elt [⟨tg,iter,[],0⟩] scope pos) pos2) (tAsg (tCompC wi g te n caps) (gName k)):=by
 intro pins s σ H De I h;rw[exec_Assign_Name_used _ _ _ _ hsw];refine wpAny_bind (wpAny_standAt (wpAny_bind ?_));rw[arm_evalThenUse_ListComp];refine wpAny_bind ?_;refine thn (Q:=fun _ s'=>SP X pins De .next s') ?_ fun _ s' q=>wpAny_pure (wpAny_pure q);refine comp_core (ifs:=[]) (tt:=fun _ H Q=>Q true H) (use:=some (assign (.Name nm pos') X.env)) (R:=fun J H1=>tFillC g te n caps J σ H1 fun v H'=>De.nx (σ.set k (some v)) H') (Q:=fun v H'=>De.nx (σ.set k (some v)) H') hc hi co hg (fun _ _ _ _ _=>pts_nil) he hs I h (fun _ _ r=>r) (fun acc C cl s2 s5 H2 H' fp σ' I2 leC f2 I5 qn=>comp_set hN hk' hnm hf I2 leC f2 I5 qn)
theorem ps_setCompT{elt tg iter c:Expr}{tc:L2.TT}{scope:Scope}{pos pos' pos2:Pos}{N:List Str}{n:Nat}{caps:List Nat}{wi:TI}{g:TG}{te:TE}{k:Nat}{nm:Str}(hN:X.N.Nodup)(hk':X.N[k]?=some nm)(hnm:Loc X.env.scope nm)(hc:X.calm=true)(hi:PI X tg iter wi)(co:CapOk X scope N n caps)
  (hg:∀ cl C s2 H2 fp,PG (compXC X scope cl C N s2 H2 fp) tg g) (ht:∀ cl C s2 H2 fp,PT (compXC X scope cl C N s2 H2 fp) c tc) (he:∀ cl C s2 H2 fp,PE (compXC X scope cl C N s2 H2 fp) elt te)
  (hs:∀ x,foldedSetIterable iter X.env x=pure x:=by intro _; rfl) (hsw:swapsWith (.ListComp elt [⟨tg,iter,[c],0⟩] scope pos) (some (.Name nm pos')) pos2.line X.env=pure true:=by rfl)
  (hf:X.fn nm=true∨X.env.scope.names.lookup nm=some .local:=by first | exact .inl rfl | exact .inr rfl | assumption):PS X (.Assign [.Name nm pos'] (.ListComp elt [⟨tg,iter,[c],0⟩] scope pos) pos2) (tAsg (tCompT wi g tc te n caps) (gName k)):=by
 intro pins s σ H De I h;rw[exec_Assign_Name_used _ _ _ _ hsw];refine wpAny_bind (wpAny_standAt (wpAny_bind ?_));rw[arm_evalThenUse_ListComp];refine wpAny_bind ?_;refine thn (Q:=fun _ s'=>SP X pins De .next s') ?_ fun _ s' q=>wpAny_pure (wpAny_pure q);refine comp_core (ifs:=[c]) (tt:=tc) (use:=some (assign (.Name nm pos') X.env)) (R:=fun J H1=>tFillT g tc te n caps J σ H1 fun v H'=>De.nx (σ.set k (some v)) H') (Q:=fun v H'=>De.nx (σ.set k (some v)) H') hc hi co hg (fun cl C s2 H2 fp=>pts_one (ht cl C s2 H2 fp)) he hs I h (fun _ _ r=>r) (fun acc C cl s2 s5 H2 H' fp σ' I2 leC f2 I5 qn=>comp_set hN hk' hnm hf I2 leC f2 I5 qn)
end
theorem comp_fill{J:It}{g:TG}{te:TE}{σ:L2.St}{n0:Nat}{caps:List Nat}{G H:Hp}{Q:VK}(n:Nat)(ds:Nat→D)(sm:Same G H)(hn:n≤1000)(go:∀ i H2,i<n→Same H H2→J.go i H2)(stop:∀ H2,Same H H2→J.stop n H2)
  (turn:∀ i x H2 H3,i<n→Same H H2→J.yld i H2 x H3→H3=H2∧∀ (G2:Hp),Ext G H G2 H2→∀ (R:V→Hp→Prop),(∀ (G' H':Hp) (y:V),Ext G2 H2 G' H'→Rep G' y (ds i)→R y H') →
   g x (cap0 n0 caps σ) H2 fun σ2 H4=>(∀ (j:Nat) (v:V),(cap0 n0 caps σ)[j]?=some (some v)→σ2[j]?=some (some v))∧te σ2 H4 R)
  (k:∀ (G' H':Hp) (l:Addr),Ext G H G' H'→Rep G' (.ref l) (.lst ((List.range n).map ds))→Q (.ref l) H'):tFillC g te n0 caps J σ H Q:=by
 have big:=line_big;intro acc hacc;have na:G acc=none:=sm.none hacc;refine⟨fun i m H2 ys=>∃ G2:Hp,m=n - i∧i≤n∧ys.length=i∧Ext G H G2 H2∧G2 acc=none∧Reps G2 ys ((List.range i).map ds),⟨_,G,rfl,Lb1 _,rfl,Ext.tmp sm hacc,na,.nil⟩,?_⟩;rintro i m H2 ys ⟨G2,rfl,hi,hyl,x,nA,rys⟩ hya
 by_cases hlt:i<n
 ·refine .inr ⟨go i H2 hlt x.h,by omega,fun x0 H3 y=>?_⟩;obtain⟨rfl,t⟩:=turn i x0 H2 H3 hlt x.h y;refine t G2 x _ fun G4 H4 y4 x4 r4=>?_;have hya4:=x4.h _ _ hya;have nA4:=x4.keep hya nA;refine⟨hya4,n - (i+1),by omega,G4,rfl,hlt,by rw[La2,Lb2,hyl],(x.trans x4).mut nA4 hacc,nA4,?_⟩;rw[List.range_succ,Lb3];exact (rys.mono x4.g).append (.cons r4 .nil)
 ·obtain rfl:i=n:=by omega
  exact .inl ⟨stop H2 x.h,k _ _ _ (x.freeze nA hacc hya) (.lst upd_same (rys.mono (same_upd nA)))⟩
theorem capOk_nil{X:Cx}{scope:Scope}{N:List Str}{n:Nat}(hn:N.length=n)(kind:scope.kind=.function)(cell:∀ y∈scope.names,y.2≠.cell)(names:∀ y∈scope.names,y.2=.local→scope.names.lookup y.1=some .local)(free:∀ y∈scope.names,y.2≠.free):CapOk X scope N n [] where
 kind:=kind
 cell:=cell
 names:=names
 len:=hn
 free:=fun y hy hf=>absurd hf (free y hy)
 caps:=fun i j h=>by simp at h
theorem cap_none2{j:Nat}{v:V}{σ:L2.St}(h:([none,none]:L2.St)[j]?=some (some v)):σ[j]?=some (some v):=by
 match j,h with
 | 0,h=>cases h
 | 1,h=>cases h
 | j+2,h=>cases h
section
variable {X:Cx}
theorem pe_compT{elt tg iter c:Expr}{tc:L2.TT}{scope:Scope}{pos:Pos}{N:List Str}{n:Nat}{caps:List Nat}{wi:TI}{g:TG}{te:TE}(hc:X.calm=true)(hi:PI X tg iter wi)(co:CapOk X scope N n caps)(hg:∀ cl C s2 H2 fp,PG (compXC X scope cl C N s2 H2 fp) tg g)
  (ht:∀ cl C s2 H2 fp,PT (compXC X scope cl C N s2 H2 fp) c tc) (he:∀ cl C s2 H2 fp,PE (compXC X scope cl C N s2 H2 fp) elt te) (hs:∀ x,foldedSetIterable iter X.env x=pure x:=by intro _; rfl):PE X (.ListComp elt [⟨tg,iter,[c],0⟩] scope pos) (tCompT wi g tc te n caps):=by
 intro pins s σ H Q I h;rw[eval_ListComp];refine comp_core (ifs:=[c]) (tt:=tc) (R:=fun J H1=>tFillT g tc te n caps J σ H1 Q) (Q:=Q) hc hi co hg (fun cl C s2 H2 fp=>pts_one (ht cl C s2 H2 fp)) he hs I h (fun _ _ r=>r) (fun acc C cl s2 s5 H2 H' fp σ' I2 leC f2 I5 qn=>?_);obtain⟨m5,hn5,_⟩:=I5.loc;refine⟨m5,hn5,fun h' sb=>?_⟩;have sb':Heap.SameBut C s5.heap h':=sb;have up:∀ b o,s2.heap.get? b=some o→∀ o',s5.heap.get? b=some o'→h'.get? b=some o':=fun b o e o' e'=>(sb'.2 b (Lc4 (Lb7 (Heap.lt_size e) leC))).trans e';have u5:=I5.base
 have un:Un (frs X.stack) fp H2 H' s2.heap h' :=
  ⟨fun b o e n hb hx=>up b o e _ (u5.keep b o e n hb hx),fun b o e n hb hx=>let ⟨sl,z⟩:=u5.slot b o e n hb hx; ⟨sl,up b o e _ z⟩,u5.free,fun b o e hx=>let ⟨o',z⟩:=u5.there b o e hx; ⟨o',up b o e _ z⟩,u5.tups,u5.frzs,u5.tbls⟩
 have hok5:HOk X.prog X.w H' h':=fun b u e=>by
  have nC:∀ c v,H' c=some v→c≠C:=fun c v z e2=>by
   have:H' C=none:=I5.free;rw[e2,this] at z;cases z
  refine (I5.hok b u e).stay (fun c v hcc z=>(sb'.2 c ?_).trans z) (fun _ z=>z) fun _ _ z=>z
  rcases hcc with rfl | hcc
  ·exact nC c u e
  ·exact nC c _ hcc
 have fin:Inv X pins σ H' { s5 with heap:=h' }:=I2.call' (s':={ s5 with heap:=h' }) (ch:=fp) I5.os un hok5 I5.bare fun b hb=>let ⟨_,g1,_,g3,g4,g5⟩:=f2 b hb; ⟨g3,g1,g4,g5⟩
 exact⟨.ref acc,H',fin,rfl,qn⟩
end
theorem comp_fillT{J:It}{g:TG}{tt:L2.TT}{te:TE}{σ:L2.St}{n0:Nat}{caps:List Nat}{G H:Hp}{Q:VK}(n:Nat)(b:Nat→Bool)(ds:Nat→D)(sm:Same G H)(hn:n≤1000)(go:∀ i H2,i<n→Same H H2→J.go i H2)(stop:∀ H2,Same H H2→J.stop n H2)
  (turn:∀ i x H2 H3,i<n→Same H H2→J.yld i H2 x H3→H3=H2∧∀ (G2:Hp),Ext G H G2 H2→∀ (R:V→Hp→Prop) (R0:Hp→Prop),(∀ (G' H':Hp) (y:V),Ext G2 H2 G' H'→Rep G' y (ds i)→b i=true→R y H')→(b i=false→R0 H2) →
   g x (cap0 n0 caps σ) H2 fun σ2 H4=>(∀ (j:Nat) (v:V),(cap0 n0 caps σ)[j]?=some (some v)→σ2[j]?=some (some v))∧tt σ2 H4 fun k H5=>if k=true then te σ2 H5 R else R0 H5)
  (k:∀ (G' H':Hp) (l:Addr),Ext G H G' H'→Rep G' (.ref l) (.lst (((List.range n).filter b).map ds))→Q (.ref l) H'):tFillT g tt te n0 caps J σ H Q:=by
 have big:=line_big;intro acc hacc;have na:G acc=none:=sm.none hacc;refine⟨fun i m H2 ys=>∃ G2:Hp,m=n - i∧i≤n∧ys.length≤i∧Ext G H G2 H2∧G2 acc=none∧Reps G2 ys (((List.range i).filter b).map ds),⟨_,G,rfl,Lb1 _,La4 _,Ext.tmp sm hacc,na,.nil⟩,?_⟩;rintro i m H2 ys ⟨G2,rfl,hi,hyl,x,nA,rys⟩ hya
 by_cases hlt:i<n
 ·refine .inr ⟨go i H2 hlt x.h,by omega,fun x0 H3 y=>?_⟩;obtain⟨rfl,t⟩:=turn i x0 H2 H3 hlt x.h y;refine t G2 x _ _ (fun G4 H4 y4 x4 r4 hb=>?_) (fun hb=>?_)
  ·have hya4:=x4.h _ _ hya;have nA4:=x4.keep hya nA;refine⟨hya4,n - (i+1),by omega,G4,rfl,hlt,by rw[La2,Lb2]; omega,(x.trans x4).mut nA4 hacc,nA4,?_⟩;rw[List.range_succ,List.filter_append,Lb3,Lj5,if_pos hb];exact (rys.mono x4.g).append (.cons r4 .nil)
  ·refine⟨hya,n - (i+1),by omega,G2,rfl,hlt,by omega,x,nA,?_⟩;rw[List.range_succ,List.filter_append,Lj5,if_neg (by rw[hb]; exact Lb8),List.filter_nil,Lc0];exact rys
 ·obtain rfl:i=n:=by omega
  exact .inl ⟨stop H2 x.h,k _ _ _ (x.freeze nA hacc hya) (.lst upd_same (rys.mono (same_upd nA)))⟩
end TT
namespace TT
open PySem
mutual
def Tr.mir:Tr→Tr
 | .node m ks=>.node m (mirL ks)
def mirL:List Tr→List Tr
 | []=>[]
 | t::ts=>mirL ts++[t.mir]
end
theorem mir_mark(t:Tr):t.mir.mark=t.mark:=by cases t; rfl
theorem mir_kids(t:Tr):t.mir.kids=mirL t.kids:=by cases t; rfl
theorem mirL_app:∀ a b:List Tr,mirL (a++b)=mirL b++mirL a
 | [],b=>by rw[Ld1,mirL,Lc0]
 | t::a,b=>by rw[Lc7,mirL,mirL_app a b,mirL,La9]
mutual
theorem mir_mir:∀ t:Tr,t.mir.mir=t
 | .node m ks=>by rw[Tr.mir,Tr.mir,mirL_mirL ks]
theorem mirL_mirL:∀ ts:List Tr,mirL (mirL ts)=ts
 | []=>rfl
 | t::ts=>by rw[mirL,mirL_app,mirL_mirL ts,mirL,mirL,mir_mir t]; rfl
end
theorem dif_mir(t u:Tr):dif t.mir u.mir=dif t u:=by unfold dif; rw[mir_mark,mir_mark]
theorem Ed.triE{F G H:List Tr}{n m:Nat}(h:Ed F G n)(k:Ed G H m):∃ j,j≤n+m∧Ed F H j:=Ed.tri _ F G H n m (La4 _) h k
theorem ed_top(t:Tr):Ed [t] t.kids 1:=.del (F:=[]) (t:=t) rfl (Ed.refl t.kids)
theorem Ed.mir{F G:List Tr}{n:Nat}(h:Ed F G n):∃ m,m≤n∧Ed (mirL F) (mirL G) m:=by
 induction h with
 | nil=>exact⟨0,La4 _,.nil⟩
 | @del X F G t n e _ ih =>
  obtain⟨m,hm,k⟩:=ih;subst e;rw[mirL_app] at k
  have e2:Ed (mirL (F++[t])) (mirL t.kids++mirL F) (1+0):=by
   rw[mirL_app,show mirL [t]=[t.mir] from rfl,← mir_kids];exact (ed_top t.mir).app (Ed.refl _)
  obtain⟨j,hj,r⟩:=e2.triE k
  exact⟨j,by omega,r⟩
 | @ins Y F G u n e _ ih =>
  obtain⟨m,hm,k⟩:=ih;subst e;rw[mirL_app] at k
  have e2:Ed (mirL (G++[u])) (mirL u.kids++mirL G) (1+0):=by
   rw[mirL_app,show mirL [u]=[u.mir] from rfl,← mir_kids];exact (ed_top u.mir).app (Ed.refl _)
  obtain⟨j,hj,r⟩:=k.triE e2.sym
  exact⟨j,by omega,r⟩
 | @both X Y F G t u a b e e' _ _ ih ih' =>
  obtain⟨m,hm,k⟩:=ih;obtain⟨m',hm',k'⟩:=ih';subst e e';rw[← mir_kids,← mir_kids] at k'
  have e2:Ed [t.mir] [u.mir] (0+m'+dif t u):=by
   rw[← dif_mir];exact .both (F:=[]) (G:=[]) rfl rfl .nil k'
  rw[mirL_app,mirL_app];exact⟨0+m'+dif t u+m,by omega,Ed.app e2 k⟩
theorem Least.mir{F G:List Tr}{n:Nat}(h:Least F G n):Least (mirL F) (mirL G) n:=by
 obtain⟨m,hm,k⟩:=h.1.mir
 have low:∀ j,Ed (mirL F) (mirL G) j→n≤j:=fun j hj=>by
  obtain⟨i,hi,r⟩:=hj.mir;rw[mirL_mirL,mirL_mirL] at r
  have:=h.2 i r;omega
 have:=low m k;obtain rfl:m=n:=by omega
 exact⟨k,low⟩
theorem Least.stepL{F G:List Tr}{t u:Tr}{a b c d:Nat}(h1:Least (t.kids++F) (u::G) a)(h2:Least (t::F) (u.kids++G) b)(h3:Least F G c)(h4:Least t.kids u.kids d) :
  Least (t::F) (u::G) (min (a+1) (min (b+1) (c+d+dif t u))):=by
 have g1:=h1.mir;have g2:=h2.mir;have g4:=h4.mir;rw[mirL_app,mirL,← mir_kids] at g1;rw[mirL_app,mirL,← mir_kids] at g2;rw[← mir_kids,← mir_kids] at g4;have g:=(Least.step g1 g2 h3.mir g4).mir;rw[dif_mir,mirL_app,mirL_app,mirL_mirL,mirL_mirL,show mirL [t.mir]=[t.mir.mir] from rfl,show mirL [u.mir]=[u.mir.mir] from rfl,mir_mir,mir_mir] at g;exact g
inductive At(ms:List Str)(es:List Nat):Nat→Nat→List Tr→Prop
 | nil (i:Nat):At ms es i i []
 | cons {i j e:Nat} {t:Tr} {r:List Tr} (hm:ms[i]?=some t.mark) (he:es[i]?=some j) (hk:At ms es (i+1) j t.kids) (hr:At ms es j e r):At ms es i e (t::r)
section
variable {ms:List Str} {es:List Nat}
theorem At.size{i e:Nat}{F:List Tr}(h:At ms es i e F):e=i+knotsOf F:=by
 induction h with
 | nil i=>rfl
 | @cons i j e t r _ _ _ _ ihk ihr=>rw[knotsOf,knots_eq]; omega
theorem At.app{i j e:Nat}{F G:List Tr}(h:At ms es i j F)(k:At ms es j e G):At ms es i e (F++G):=by
 induction h with
 | nil i=>exact k
 | cons hm he hk _ _ ihr=>exact .cons hm he hk (ihr k)
theorem At.first{i e:Nat}{F:List Tr}(h:At ms es i e F)(hlt:i<e):∃ (t:Tr) (r:List Tr) (j:Nat),F=t::r∧ms[i]?=some t.mark∧es[i]?=some j∧At ms es (i+1) j t.kids∧At ms es j e r:=by
 cases h with
 | nil=>omega
 | @cons _ j _ t r hm he hk hr=>exact⟨t,r,j,rfl,hm,he,hk,hr⟩
theorem At.empty{i e:Nat}{F:List Tr}(h:At ms es i e F)(hle:e≤i):F=[]:=by
 cases h with
 | nil=>rfl
 | cons _ _ hk hr =>
  have h1:=hk.size;have h2:=hr.size;omega
theorem At.uniq{i e:Nat}{F:List Tr}(h:At ms es i e F):∀ {G:List Tr},At ms es i e G→F=G:=by
 induction h with
 | nil i=>intro G k; exact (k.empty (La4 _)).symm
 | @cons i j e t r hm he hk hr ihk ihr =>
  intro G k;have h1:=hk.size;have h2:=hr.size;obtain⟨u,q,j',rfl,hm',he',hk',hr'⟩:=k.first (by omega);rw[he] at he';cases he';have e1:=ihk hk';have e2:=ihr hr';rw[hm] at hm';have e3:=Option.some.inj hm'
  cases t with
  | node m ks =>
   cases u with
   | node m' ks' =>
    have e1:ks=ks':=e1;have e3:m=m':=e3;rw[e1,e2,e3]
theorem At.later{e:Nat}:∀ (d i:Nat) {F:List Tr},At ms es i e F→i+d≤e→∃ G,At ms es (i+d) e G
 | 0,i,F,h,_=>⟨F,h⟩
 | d+1,i,F,h,hd=>by
  obtain⟨t,r,j,rfl,_,_,hk,hr⟩:=h.first (by omega);obtain⟨G,k⟩:=At.later d (i+1) (hk.app hr) (by omega);exact⟨G,by rwa [show i+1+d=i+(d+1) by omega] at k⟩
end
def below(p:List Int)(i:Nat)(ts:List Tr):List (List Int):=(pps i ts).map (p++·)
theorem below_cons(p:List Int)(i:Nat)(t:Tr)(r:List Tr):below p i (t::r)=(p++[(i:Int)])::(below (p++[(i:Int)]) 0 t.kids++below p (i+1) r):=by
 unfold below;rw[pps,pp_eq,Lb3,Lc2,Lc2,Ld7,Lc7];congr 2;refine List.map_congr_left fun q _=>?_;simp
theorem below_length(p:List Int)(i:Nat)(ts:List Tr):(below p i ts).length=knotsOf ts:=by unfold below; rw[La1,pps_length]
theorem below_deep(p:List Int)(i:Nat):∀ (N:Nat) (ts:List Tr),knotsOf ts≤N→∀ q∈below p i ts,p.length<q.length
 | N,ts,_,q,hq=>by
  unfold below at hq;obtain⟨z,hz,rfl⟩:=Lc3.mp hq
  have:z≠[]:=by
   have key:∀ (ts:List Tr) (i:Nat),∀ z∈pps i ts,z≠[]:=by
    intro ts
    induction ts with
    | nil=>intro i z hz; rw[pps] at hz; simp at hz
    | cons t r ih =>
     intro i z hz;rw[pps] at hz
     rcases Lb9.mp hz with h | h
     ·obtain⟨y,_,rfl⟩:=Lc3.mp h;simp
     ·exact ih _ z h
   exact key ts i z hz
  have:=List.length_pos_iff.mpr this;rw[La2];omega
def endU(ps:List (List Int))(k:Nat):Nat:=k+1+((ps.drop (k+1)).takeWhile fun q=>decide ((ps.getD k []).length<q.length)).length
theorem take_run{α:Type}{f:α→Bool}:∀ (a b:List α),(∀ x∈a,f x=true)→(∀ x,b.head?=some x→f x=false)→((a++b).takeWhile f).length=a.length
 | [],[],_,_=>rfl
 | [],x::b,_,h=>by rw[Ld1,Lj6,h x rfl]; rfl
 | x::a,b,h,k=>by
  rw[Lc7,Lj6,h x (La7 ..),Lb4];rw[if_pos rfl,Lb4,take_run a b (fun y hy=>h y (Lb0 _ hy)) k]
def Marks(T:List Tr)(f:List Int→Str):Prop:=∀ (p:List Int) (i:Nat) (us:List Tr) (t:Tr),down T p=some us→us[i]?=some t→f (p++[(i:Int)])=t.mark
theorem at_below{T:List Tr}{f:List Int→Str}(hf:Marks T f)(ps:List (List Int)):∀ (N:Nat) (ts:List Tr),knotsOf ts≤N→∀ (p:List Int) (i:Nat) (us:List Tr) (A B:List (List Int)),ps=A++(below p i ts++B) →
  (∀ q,B.head?=some q→q.length≤p.length+1)→down T p=some us→us.drop i=ts→At (ps.map f) ((List.range ps.length).map (endU ps)) A.length (A.length+knotsOf ts) ts
 | _,[],_,p,i,us,A,B,_,_,_,_=>.nil _
 | 0,t::r,hN,_,_,_,_,_,_,_,_,_=>by rw[knotsOf,knots_eq] at hN; omega
 | N+1,t::r,hN,p,i,us,A,B,hps,hB,hd,hu=>by
  rw[knotsOf,knots_eq] at hN;rw[below_cons] at hps
  have hut:us[i]?=some t:=by
   have:(us.drop i)[0]?=some t:=by rw[hu]; rfl
   rwa [List.getElem?_drop] at this
  have hat:ps[A.length]?=some (p++[(i:Int)]):=by
   rw[hps,Le5 (La4 _),Lh9];rfl
  have hlen:A.length<ps.length:=(La5.mp hat).1;have hgd:ps.getD A.length []=p++[(i:Int)]:=by rw[La3,hat]; rfl
  have hdr:ps.drop (A.length+1)=below (p++[(i:Int)]) 0 t.kids++(below p (i+1) r++B):=by
   rw[hps,← Lj3,Lf9];simp
  have hB2:∀ q,(below p (i+1) r++B).head?=some q→q.length≤p.length+1:=fun q hq=>by
   cases r with
   | nil=>exact hB q hq
   | cons u r' =>
    rw[below_cons] at hq
    have:p++[((i+1:Nat):Int)]=q:=Option.some.inj hq;rw[← this];simp
  have hend:endU ps A.length=A.length+1+knotsOf t.kids:=by
   unfold endU;rw[hgd,hdr,take_run,below_length]
   ·intro q hq;exact decide_eq_true (below_deep _ _ _ _ (La4 _) q hq)
   ·intro q hq
    have:=hB2 q hq;refine decide_eq_false ?_;rw[La2,Lb2];omega
  have k1:=at_below hf ps N t.kids (by omega) (p++[(i:Int)]) 0 t.kids (A++[p++[(i:Int)]]) (below p (i+1) r++B) (by rw[hps]; simp) (fun q hq=>by have:=hB2 q hq; rw[La2,Lb2]; omega)
   (by
    rw[down_append,hd,Ld9,down,if_neg (by omega)]
    show (match us[((i:Nat):Int).toNat]? with | none=>none | some t=>down t.kids [])=_
    rw[Ld3,hut]
    rfl) rfl
  have k2:=at_below hf ps N r (by omega) p (i+1) us (A++[p++[(i:Int)]]++below (p++[(i:Int)]) 0 t.kids) B (by rw[hps]; simp) hB hd (by rw[← List.drop_drop,hu]; rfl);rw[La2,Lb2] at k1;rw[La2,La2,Lb2,below_length] at k2;refine .cons (j:=A.length+1+knotsOf t.kids) ?_ ?_ k1 ?_
  ·rw[La6,hat,Li5,hf p i us t hd hut]
  ·rw[La6,Li0 hlen,Li5,hend]
  ·rw[knotsOf,knots_eq,show A.length+(1+knotsOf t.kids+knotsOf r)=A.length+1+knotsOf t.kids+knotsOf r by omega];exact k2
theorem at_row{T:List Tr}{f:List Int→Str}(hf:Marks T f):At ((pps 0 T).map f) ((List.range (pps 0 T).length).map (endU (pps 0 T))) 0 (knotsOf T) T:=by
 have:=at_below hf (pps 0 T) _ T (La4 _) [] 0 T [] [] (by unfold below; simp) (fun q hq=>nomatch hq) rfl rfl
 simpa using this
theorem lex_cons(i:Int)(a b:List Int):HT.lexLt (i::a) (i::b)=HT.lexLt a b:=by rw[HT.lexLt,if_pos rfl]
theorem pps_head:∀ (ts:List Tr) (i:Nat),∀ q∈pps i ts,∃ (j:Nat) (r:List Int),q=(j:Int)::r∧i≤j
 | [],i,q,h=>by rw[pps] at h; simp at h
 | t::ts,i,q,h=>by
  rw[pps] at h
  rcases Lb9.mp h with h | h
  ·obtain⟨y,_,rfl⟩:=Lc3.mp h;exact⟨i,y,rfl,La4 _⟩
  ·obtain⟨j,r,e,hj⟩:=pps_head ts (i+1) q h;exact⟨j,r,e,by omega⟩
mutual
theorem Tr.pp_rising:∀ t:Tr,Rising t.pp
 | .node m ks=>by
  rw[Tr.pp];refine Le1.mpr ⟨fun q hq=>?_,pps_rising 0 ks⟩;obtain⟨j,r,rfl,_⟩:=pps_head ks 0 q hq;rfl
theorem pps_rising:∀ (i:Nat) (ts:List Tr),Rising (pps i ts)
 | i,[]=>by rw[pps]; exact List.Pairwise.nil
 | i,t::ts=>by
  rw[pps];refine List.pairwise_append.mpr ⟨?_,pps_rising (i+1) ts,fun a ha b hb=>?_⟩
  ·refine Lf8.mpr ((Tr.pp_rising t).imp fun {a b} h=>?_)
   show HT.lexLt ((i:Int)::b) ((i:Int)::a)=false
   rw[lex_cons];exact h
  ·obtain⟨y,_,rfl⟩:=Lc3.mp ha;obtain⟨j,r,rfl,hj⟩:=pps_head ts (i+1) b hb;rw[HT.lexLt,if_neg (by omega)];exact decide_eq_false (by omega)
end
theorem sorted_pps{ps:List (List Int)}{ts:List Tr}(h:ps.Perm (pps 0 ts))(hr:Rising ps):ps=pps 0 ts:=rising_one _ _ h hr (pps_rising 0 ts)
end TT
namespace TT
open PySem L2
inductive Ch where
 | mk (n:Nat) (ps:List (Nat×Nat)) (cs:List Ch)
def Ch.n:Ch→Nat
 | .mk n _ _=>n
def pairD(p:Nat×Nat):D:=.tup [.int (p.1:Int),.int (p.2:Int)]
def keyD(s o:Nat×Nat):D:=.tup [pairD s,pairD o]
mutual
inductive RepC(C:Addr)(G:Hp):V→Ch→Prop
 | mk {x dx p q:Addr} {n:Nat} {ps:List (Nat×Nat)} {cs:List Ch} {pvs cvs:List V} (hx:G x=some (.ins C dx [("steps",.int (n:Int)),("pairs",.ref p),("parts",.ref q)])) (hp:G p=some (.lst pvs)) (hps:Reps G pvs (ps.map pairD))
   (hq:G q=some (.lst cvs)) (hcs:RepCs C G cvs cs):RepC C G (.ref x) (.mk n ps cs)
inductive RepCs(C:Addr)(G:Hp):List V→List Ch→Prop
 | nil:RepCs C G [] []
 | cons {v:V} {vs:List V} {c:Ch} {cs:List Ch} (r:RepC C G v c) (t:RepCs C G vs cs):RepCs C G (v::vs) (c::cs)
end
mutual
theorem RepC.mono{C:Addr}{G G':Hp}(e:Same G G'):∀ {v:V} {c:Ch},RepC C G v c→RepC C G' v c
 | _,_,.mk hx hp hps hq hcs=>.mk (e _ _ hx) (e _ _ hp) (hps.mono e) (e _ _ hq) (RepCs.mono e hcs)
theorem RepCs.mono{C:Addr}{G G':Hp}(e:Same G G'):∀ {vs:List V} {cs:List Ch},RepCs C G vs cs→RepCs C G' vs cs
 | _,_,.nil=>.nil
 | _,_,.cons r t=>.cons (RepC.mono e r) (RepCs.mono e t)
end
theorem RepCs.length{C:Addr}{G:Hp}:∀ {vs:List V} {cs:List Ch},RepCs C G vs cs→vs.length=cs.length
 | _,_,.nil=>rfl
 | _,_,.cons _ t=>by rw[Lb4,Lb4,RepCs.length t]
theorem RepCs.append{C:Addr}{G:Hp}:∀ {vs ws:List V} {cs ds:List Ch},RepCs C G vs cs→RepCs C G ws ds→RepCs C G (vs++ws) (cs++ds)
 | _,_,_,_,.nil,s=>s
 | _,_,_,_,.cons r t,s=>.cons r (RepCs.append t s)
theorem RepCs.at{C:Addr}{G:Hp}:∀ {vs:List V} {cs:List Ch} {i:Nat} {v:V},RepCs C G vs cs→vs[i]?=some v→∃ c,cs[i]?=some c∧RepC C G v c
 | _,_,_,_,.nil,e=>by simp at e
 | _,_,0,_,.cons r _,e=>by simp at e; subst e; exact⟨_,rfl,r⟩
 | _,_,i+1,v,.cons _ t,e=>by
  obtain⟨c,h1,h2⟩:=RepCs.at (i:=i) (v:=v) t (by simpa using e);exact⟨c,by simpa using h1,h2⟩
theorem RepC.steps{C:Addr}{G:Hp}{v:V}{c:Ch}(r:RepC C G v c):∃ x dx p q,v=.ref x∧G x=some (.ins C dx [("steps",.int (c.n:Int)),("pairs",.ref p),("parts",.ref q)]):=by
 cases r with
 | mk hx _ _ _ _=>exact⟨_,_,_,_,rfl,hx⟩
def OutRep(C:Addr)(G:Hp)(v:V)(ms:List Str)(es:List Nat):Prop:=∃ x dx m e,v=.ref x∧G x=some (.ins C dx [("marks",.ref m),("ends",.ref e)])∧G m=some (.lst (ms.map V.str))∧G e=some (.lst (es.map fun (k:Nat)=>V.int (k:Int)))
theorem OutRep.mono{C:Addr}{G G':Hp}{v:V}{ms:List Str}{es:List Nat}(r:OutRep C G v ms es)(s:Same G G'):OutRep C G' v ms es:=by
 obtain⟨x,dx,m,e,h0,h1,h2,h3⟩:=r;exact⟨x,dx,m,e,h0,s _ _ h1,s _ _ h2,s _ _ h3⟩
def markF(T:List Tr)(p:List Int):Str:=match down T p.dropLast with
 | none=>Str.empty
 | some bs=>match bs[(p.getLastD 0).toNat]? with
  | none=>Str.empty
  | some t=>t.mark
theorem markF_ok(T:List Tr):Marks T (markF T):=by
 intro p i us t hd hu;unfold markF;rw[Lg2,hd];have e:((p++[(i:Int)]).getLastD 0).toNat=i:=by simp
 rw[e];dsimp only;rw[hu]
def marksL(T:List Tr):List Str:=(pps 0 T).map (markF T)
def endsL(T:List Tr):List Nat:=(List.range (pps 0 T).length).map (endU (pps 0 T))
theorem at_whole(T:List Tr):At (marksL T) (endsL T) 0 (knotsOf T) T:=at_row (markF_ok T)
theorem marksL_length(T:List Tr):(marksL T).length=knotsOf T:=by unfold marksL; rw[La1,pps_length]
theorem pps_knot{T:List Tr}{p:List Int}(h:p∈pps 0 T):∃ bs t,p≠[]∧down T p.dropLast=some bs∧0≤p.getLastD 0∧bs[(p.getLastD 0).toNat]?=some t:=by
 obtain⟨u,hu⟩:=down_pps _ T (La4 _) [] p h;rw[show ([]:List Tr)++T=T from rfl] at hu;obtain⟨j,r,e,_⟩:=pps_head T 0 p h;have hne:p≠[]:=by rw[e]; simp
 obtain⟨q,i,rfl⟩:∃ q i,p=q++[i]:=⟨p.dropLast,p.getLast hne,(Lg3 hne).symm⟩;have hs:(down T (q++[i])).isSome=true:=by rw[hu]; rfl
 obtain⟨us,t,h1,h2,h3,_⟩:=down_at hs (i:=q.length) (by simp);rw[List.take_left' rfl] at h1;have e2:(q++[i])[q.length]'(by simp)=i:=by simp
 rw[e2] at h2 h3;have e3:(q++[i]).getLastD 0=i:=by simp
 refine⟨us,t,hne,by rw[Lg2]; exact h1,by rw[e3]; exact h2,by rw[e3]; exact h3⟩
def InS(es:List Nat)(N:Nat)(s:Nat×Nat):Prop:=(s.2=N∧s.1≤N)∨∃ k,k<N∧es[k]?=some s.2∧k+1≤s.1∧s.1≤s.2
section
variable {ms:List Str} {es:List Nat} {N:Nat} {T:List Tr}
theorem At.under{i e k:Nat}{F:List Tr}(h:At ms es i e F)(hk:i≤k)(hke:k<e):∃ (t:Tr) (j:Nat),es[k]?=some j∧At ms es (k+1) j t.kids∧j≤e:=by
 obtain⟨G,g⟩:=At.later (k - i) i h (by omega);rw[show i+(k - i)=k by omega] at g;obtain⟨t,r,j,rfl,_,he,hkd,hr⟩:=g.first hke
 have:=hr.size;exact⟨t,j,he,hkd,by omega⟩
theorem InS.row(h:At ms es 0 N T){s:Nat×Nat}(hs:InS es N s):∃ F,At ms es s.1 s.2 F∧s.2≤N:=by
 rcases hs with ⟨e,hl⟩ | ⟨k,hk,he,h1,h2⟩
 ·obtain⟨F,f⟩:=At.later s.1 0 h (by omega);rw[Lh2] at f;exact⟨F,by rw[e]; exact f,by omega⟩
 ·obtain⟨t,j,hj,hkd,hle⟩:=h.under (k:=k) (Lb1 _) hk;rw[he] at hj;cases hj;obtain⟨F,f⟩:=At.later (s.1 - (k+1)) (k+1) hkd (by omega);rw[show k+1+(s.1 - (k+1))=s.1 by omega] at f;exact⟨F,f,hle⟩
theorem InS.whole(es:List Nat)(N:Nat):InS es N (0,N):=.inl ⟨rfl,Lb1 _⟩
theorem InS.parts(h:At ms es 0 N T){i e:Nat}(hs:InS es N (i,e))(hlt:i<e):∃ j,es[i]?=some j∧i+1≤j∧j≤e∧InS es N (i+1,e)∧InS es N (i+1,j)∧InS es N (j,e):=by
 obtain⟨F,f,hN⟩:=hs.row h;obtain⟨t,r,j,rfl,_,he,hk,hr⟩:=f.first hlt;have h1:=hk.size;have h2:=hr.size;have hlt2:i<e:=hlt;have hN2:e≤N:=hN;refine⟨j,he,by omega,by omega,?_,.inr ⟨i,by omega,he,La4 _,by show i+1≤j; omega⟩,?_⟩
 ·rcases hs with ⟨z,hl⟩ | ⟨k,hk',he',z1,z2⟩
  ·have z:e=N:=z;exact .inl ⟨z,by show i+1≤N; omega⟩
  ·have z1:k+1≤i:=z1;exact .inr ⟨k,hk',he',by show k+1≤i+1; omega,by show i+1≤e; omega⟩
 ·rcases hs with ⟨z,hl⟩ | ⟨k,hk',he',z1,z2⟩
  ·have z:e=N:=z;exact .inl ⟨z,by show j≤N; omega⟩
  ·have z1:k+1≤i:=z1;exact .inr ⟨k,hk',he',by show k+1≤j; omega,by show j≤e; omega⟩
end
def Desc(l:List (Nat×Nat)):Prop:=l.Pairwise fun p q=>p.1 > q.1∨(p.1=q.1∧p.2≥q.2)
theorem Desc.before{l:List (Nat×Nat)}(h:Desc l){a:Nat}{s s':Nat×Nat}(hs:l[a]?=some s)(hm:s'∈l)(hgt:s.1<s'.1):s'∈l.take a:=by
 obtain⟨j,hj,e⟩:=Le0.mp hm;obtain⟨ha,ea⟩:=La5.mp hs
 by_cases hja:j<a
 ·refine Le0.mpr ⟨j,by rw[Lb5]; omega,?_⟩;rw[List.getElem_take,e]
 ·exfalso
  by_cases he:j=a
  ·subst he;rw[ea] at e;rw[e] at hgt;omega
  ·have:=Lf5.mp h a j ha hj (by omega);rw[ea,e] at this
   rcases this with z | z <;> omega
inductive Plan(ms ms':List Str)(es es':List Nat):Nat×Nat→Nat×Nat→Ch→Prop
 | none {i k:Nat}:Plan ms ms' es es' (i,i) (k,k) (.mk 0 [] [])
 | cut {i e:Nat} {o:Nat×Nat} {c:Ch} (hlt:i<e) (h:Plan ms ms' es es' (i+1,e) o c):Plan ms ms' es es' (i,e) o (.mk (1+c.n) [] [c])
 | put {k f:Nat} {s:Nat×Nat} {c:Ch} (hlt:k<f) (h:Plan ms ms' es es' s (k+1,f) c):Plan ms ms' es es' s (k,f) (.mk (1+c.n) [] [c])
 | stay {i e k f j l:Nat} {b r:Ch} {d:Nat} (hi:i<e) (hk:k<f) (hj:es[i]?=some j) (hl:es'[k]?=some l) (hd:d=if ms[i]?=ms'[k]? then 0 else 1) (hb:Plan ms ms' es es' (i+1,j) (k+1,l) b) (hr:Plan ms ms' es es' (j,e) (l,f) r) :
   Plan ms ms' es es' (i,e) (k,f) (.mk (d+(b.n+r.n)) [(i,k)] [b,r])
def Known(ms ms':List Str)(es es':List Nat)(s o:Nat×Nat)(c:Ch):Prop:=Plan ms ms' es es' s o c∧∀ F G,At ms es s.1 s.2 F→At ms' es' o.1 o.2 G→Least F G c.n
section
variable {ms ms':List Str} {es es':List Nat}
theorem known_min{s o:Nat×Nat}{F G:List Tr}(f:At ms es s.1 s.2 F)(g:At ms' es' o.1 o.2 G){c:Ch}(hp:Plan ms ms' es es' s o c)
  (h1:s.1<s.2→∃ a,Known ms ms' es es' (s.1+1,s.2) o a∧c.n≤1+a.n) (h2:o.1<o.2→∃ b,Known ms ms' es es' s (o.1+1,o.2) b∧c.n≤1+b.n)
  (h3:s.1<s.2→o.1<o.2→∃ j l x y,es[s.1]?=some j∧es'[o.1]?=some l∧Known ms ms' es es' (s.1+1,j) (o.1+1,l) x∧Known ms ms' es es' (j,s.2) (l,o.2) y∧c.n≤(if ms[s.1]?=ms'[o.1]? then 0 else 1)+(x.n+y.n))
  (hc:(c.n=0∧¬ s.1<s.2∧¬ o.1<o.2)∨(∃ a,s.1<s.2∧Known ms ms' es es' (s.1+1,s.2) o a∧c.n=1+a.n)∨(∃ b,o.1<o.2∧Known ms ms' es es' s (o.1+1,o.2) b∧c.n=1+b.n) ∨
   ∃ j l x y,s.1<s.2∧o.1<o.2∧es[s.1]?=some j∧es'[o.1]?=some l∧Known ms ms' es es' (s.1+1,j) (o.1+1,l) x∧Known ms ms' es es' (j,s.2) (l,o.2) y∧c.n=(if ms[s.1]?=ms'[o.1]? then 0 else 1)+(x.n+y.n)) :
  Known ms ms' es es' s o c:=by
 refine⟨hp,fun F' G' f' g'=>?_⟩;rw[← f.uniq f',← g.uniq g']
 by_cases hs:s.1<s.2
 ·obtain⟨t,r,j,rfl,hm,he,hk,hr⟩:=f.first hs;obtain⟨a,ka,la⟩:=h1 hs;have l1:=ka.2 _ _ (hk.app hr) g
  by_cases ho:o.1<o.2
  ·obtain⟨u,q,l,rfl,hm',he',hk',hr'⟩:=g.first ho;obtain⟨b,kb,lb⟩:=h2 ho;obtain⟨j2,l2,x,y,e1,e2,kx,ky,ly⟩:=h3 hs ho;rw[he] at e1;cases e1;rw[he'] at e2;cases e2;have m2:=kb.2 _ _ f (hk'.app hr');have m3:=kx.2 _ _ hk hk';have m4:=ky.2 _ _ hr hr';have st:=Least.stepL l1 m2 m4 m3
   have ed:(if ms[s.1]?=ms'[o.1]? then 0 else 1)=dif t u:=by
    unfold dif;rw[hm,hm']
    by_cases z:t.mark=u.mark
    ·rw[if_pos z,if_pos (by rw[z])]
    ·rw[if_neg z,if_neg (fun w=>z (Option.some.inj w))]
   rw[ed] at ly
   have en:c.n=min (a.n+1) (min (b.n+1) (y.n+x.n+dif t u)):=by
    rcases hc with ⟨_,z,_⟩ | ⟨a',_,ka',e⟩ | ⟨b',_,kb',e⟩ | ⟨j3,l3,x',y',_,_,e3,e4,kx',ky',e⟩
    ·exact absurd hs z
    ·have:a'.n=a.n:=(ka'.2 _ _ (hk.app hr) g).one l1;omega (config:={})
    ·have:b'.n=b.n:=(kb'.2 _ _ f (hk'.app hr')).one m2;omega (config:={})
    ·rw[he] at e3;cases e3;rw[he'] at e4;cases e4;have h5:x'.n=x.n:=(kx'.2 _ _ hk hk').one m3;have h6:y'.n=y.n:=(ky'.2 _ _ hr hr').one m4;rw[ed] at e;omega (config:={})
   rw[en];exact st
  ·have ge:=g.empty (by omega (config:={}));subst ge
   have:c.n=knotsOf (t::r):=by
    have k1:=l1.one (Least.nilR _);rw[knotsOf_append] at k1;rw[knotsOf,knots_eq]
    rcases hc with ⟨_,z,_⟩ | ⟨a',_,ka',e⟩ | ⟨b',z,_⟩ | ⟨j3,l3,x',y',_,z,_⟩
    ·exact absurd hs z
    ·have:a'.n=a.n:=(ka'.2 _ _ (hk.app hr) g).one l1;omega (config:={})
    ·exact absurd z ho
    ·exact absurd z ho
   rw[this];exact Least.nilR _
 ·have fe:=f.empty (by omega (config:={}));subst fe
  by_cases ho:o.1<o.2
  ·obtain⟨u,q,l,rfl,hm',he',hk',hr'⟩:=g.first ho;obtain⟨b,kb,lb⟩:=h2 ho;have m2:=kb.2 _ _ f (hk'.app hr')
   have:c.n=knotsOf (u::q):=by
    have k1:=m2.one (Least.nilL _);rw[knotsOf_append] at k1;rw[knotsOf,knots_eq]
    rcases hc with ⟨_,_,z⟩ | ⟨a',z,_⟩ | ⟨b',_,kb',e⟩ | ⟨j3,l3,x',y',z,_⟩
    ·exact absurd ho z
    ·exact absurd z hs
    ·have:b'.n=b.n:=(kb'.2 _ _ f (hk'.app hr')).one m2;omega (config:={})
    ·exact absurd z hs
   rw[this];exact Least.nilL _
  ·have ge:=g.empty (by omega (config:={}));subst ge
   have:c.n=0:=by
    rcases hc with ⟨z,_⟩ | ⟨a',z,_⟩ | ⟨b',z,_⟩ | ⟨j3,l3,x',y',z,_⟩
    ·exact z
    ·exact absurd z hs
    ·exact absurd z ho
    ·exact absurd z hs
   rw[this];exact Least.nilL []
end
end TT
namespace PySem
open Sem (wp)
def Heap.RawDict(h:Heap)(d:Addr)(es:Array DictEntry)(ep:Nat):Prop:=∃ o,h.get? d=some o∧o.ExactDict∧o.data=.dict es ep
theorem Heap.RawDict.at{h h':Heap}{d:Addr}{es:Array DictEntry}{ep:Nat}(x:h.RawDict d es ep)(e:∀ o,h.get? d=some o→h'.get? d=some o):h'.RawDict d es ep:=let ⟨o,ho,r⟩:=x; ⟨o,e _ ho,r⟩
section
variable {prog:Program} {w:World} {A:Around} {E:Value→Shared→Prop} {s:Shared} {d it:Addr} {es:Array DictEntry} {ep:Nat}
theorem raw_iter{Q:Value→Shared→Prop}(hd:(d == sysModules)=false)(hm:s.heap.RawDict d es ep)
  (hQ:Q (.ref s.heap.objs.size) { s with heap:=s.heap.push { cls:=.type "dict_keyiterator",data:=.fields #[.ref d,.int 0 0,.int es.size 0,.int ep 0] } }):wpAny (model prog w) A (pyIter (.ref d)) Q E s:=by
 obtain⟨o,ho,hc,hdat⟩:=hm;have hT:s.TypeIs (.ref d) "dict":=⟨o,ho,hc.1⟩;refine wpAny_pyIter_slot hT F.slot_dict_iter (wpAny_call_entry F.slot_dict_iter hT F.entry_dict_iter ?_ (F.args_dict_iter_1 _));unfold Builtin.«dict.__iter__»;refine wpAny_bind ?_;unfold Builtin.Dict.dictSlotNone;refine wpAny_bind (wpAny_notOrdered_dict hT ?_)
 show wpAny _ _ (pure (Value.ref d)) _ _ s
 refine wpAny_pure ?_
 show wpAny _ _ (Builtin.Dict.showsAll d >>= _) _ _ s
 unfold Builtin.Dict.showsAll;rw[if_neg (by rw[hd]; exact Lb8)];refine wpAny_bind (wpAny_pure (wpAny_bind (wpAny_dictEntries ho hdat (wpAny_bind (wpAny_dictEpoch ho hdat ?_)))));refine wpAny_bind (wpAny_newObj_type (wpAny_pure ⟨_,rfl,"dict_keyiterator",_,⟨_,Heap.get?_push_size _ rfl,rfl⟩,F.slot_dict_keyiterator_next.lookup,?_⟩))
 simpa [rawInt] using hQ
theorem raw_next{i:Nat}{Q:Option Value→Shared→Prop}(hit:s.heap.IsKeyIter it d i es.size ep)(hm:s.heap.RawDict d es ep)(hlt:i<es.size)
  (hQ:∀ h',h'.IsKeyIter it d (i+1) es.size ep→Heap.SameBut it s.heap h'→Q (some es[i].key) { s with heap:=h' }):wpAny (model prog w) A (pyNext (.ref it)) Q E s:=by
 obtain⟨o,ho,hc,hd⟩:=id hit;obtain⟨od,hod,hcd,hdd⟩:=hm;unfold pyNext
 refine wpAny_bind (wpAny_attempt (wpAny_callSpecial?_slot (name:=Str.ofString "__next__") hit.typeIs F.slot_dict_keyiterator_next
  (wpAny_call_entry F.slot_dict_keyiterator_next hit.typeIs F.entry_dict_keyiterator_next ?_ (F.args_dict_keyiterator_next_1 _))))
 refine wpAny_bind (wpAny_pure (wpAny_bind (wpAny_bind ?_)))
 first | refine wpAny_bind (wpAny_typeNameOfWhole_keyiter hit.typeIs (wpAny_pure ?_)) | refine wpAny_bind (wpAny_typeNameOf_keyiter hit.typeIs (wpAny_pure ?_))
 refine wpAny_bind (wpAny_fieldsOf ho hd ?_);simp only[show Builtin.Dict_items.ownsTuple "dict_keyiterator"=false by decide,Bool.false_eq_true,if_false]
 show wpAny _ _ (if (Value.ref d == Value.none)=true then _ else _) _ _ s
 rw[if_neg (show ¬ ((Value.ref d == Value.none)=true) from Lb8)];refine wpAny_bind (wpAny_pure (wpAny_bind (wpAny_dictEntries hod hdd ?_)));rw[if_neg (by simp)];refine wpAny_bind (wpAny_pure (wpAny_bind (wpAny_dictEpoch hod hdd ?_)));rw[if_neg (by simp)];refine wpAny_pure ?_;simp only[show ¬ ((i:Int)<0) from by omega,if_false,Int.toNat_natCast,Array.getElem?_eq_getElem hlt];refine wpAny_bind ?_
 first | refine wpAny_bind (wpAny_typeNameOfWhole_keyiter hit.typeIs (wpAny_pure ?_)) | refine wpAny_bind (wpAny_typeNameOf_keyiter hit.typeIs (wpAny_pure ?_))
 refine wpAny_bind (wpAny_isOneOf_keyiter hit.typeIs ?_)
 show wpAny _ _ (setField (.ref it) 1 (rawInt ((i:Int)+1)) >>= _) _ _ s
 refine wpAny_bind (wpAny_setField ho hd (by simp) ?_)
 have hit':(s.heap.update it (Obj.mapFields (·.setIfInBounds 1 (rawInt ((i:Int)+1))))).IsKeyIter it d (i+1) es.size ep :=
  ⟨_,Heap.get?_update_self _ ho (Obj.isFreed_of_fields (Obj.data_mapFields hd _)),(Obj.cls_mapFields ..).trans hc,by rw[Obj.data_mapFields hd]; simp[rawInt]⟩
 refine wpAny_bind (wpAny_holding ?_);refine wpAny_bind (wpAny_isOneOf_keyiter (s:={ s with heap:=s.heap.update it (Obj.mapFields (·.setIfInBounds 1 (rawInt ((i:Int)+1)))) }) hit'.typeIs ?_)
 show wpAny _ _ (pure es[i].key) _ _ _
 exact wpAny_pure (wpAny_pure ⟨_,rfl,wpAny_pure (hQ _ hit' (Heap.SameBut.update ..))⟩)
theorem raw_end{i:Nat}{Q:Option Value→Shared→Prop}(hh:A.handled=none)(hit:s.heap.IsKeyIter it d i es.size ep)(hm:s.heap.RawDict d es ep)(hge:es.size≤i)
  (hQ:∀ h',Heap.ExtBut it s.heap h'→Q none { s with heap:=h' }):wpAny (model prog w) A (pyNext (.ref it)) Q E s:=by
 obtain⟨o,ho,hc,hd⟩:=id hit;obtain⟨od,hod,hcd,hdd⟩:=hm;unfold pyNext
 refine wpAny_bind (wpAny_attempt (wpAny_callSpecial?_slot (name:=Str.ofString "__next__") hit.typeIs F.slot_dict_keyiterator_next
  (wpAny_call_entry F.slot_dict_keyiterator_next hit.typeIs F.entry_dict_keyiterator_next ?_ (F.args_dict_keyiterator_next_1 _))))
 refine wpAny_bind (wpAny_pure (wpAny_bind (wpAny_bind ?_)))
 first | refine wpAny_bind (wpAny_typeNameOfWhole_keyiter hit.typeIs (wpAny_pure ?_)) | refine wpAny_bind (wpAny_typeNameOf_keyiter hit.typeIs (wpAny_pure ?_))
 refine wpAny_bind (wpAny_fieldsOf ho hd ?_);simp only[show Builtin.Dict_items.ownsTuple "dict_keyiterator"=false by decide,Bool.false_eq_true,if_false]
 show wpAny _ _ (if (Value.ref d == Value.none)=true then _ else _) _ _ s
 rw[if_neg (show ¬ ((Value.ref d == Value.none)=true) from Lb8)];refine wpAny_bind (wpAny_pure (wpAny_bind (wpAny_dictEntries hod hdd ?_)));rw[if_neg (by simp)];refine wpAny_bind (wpAny_pure (wpAny_bind (wpAny_dictEpoch hod hdd ?_)));rw[if_neg (by simp)];refine wpAny_pure ?_;simp only[show ¬ ((i:Int)<0) from by omega,if_false,Int.toNat_natCast,Array.getElem?_eq_none hge];refine wpAny_bind ?_
 first | refine wpAny_bind (wpAny_typeNameOfWhole_keyiter hit.typeIs (wpAny_pure ?_)) | refine wpAny_bind (wpAny_typeNameOf_keyiter hit.typeIs (wpAny_pure ?_))
 show wpAny _ _ (setField (.ref it) 0 .none >>= _) _ _ s
 refine wpAny_bind (wpAny_setField ho hd (by simp) ?_)
 show wpAny _ _ (newExc (.type "StopIteration") [] >>= _) _ _ _
 refine wpAny_bind ?_;simp only[newExc,newTuple];refine wpAny_bind (wpAny_newObj_type ?_ (by size_fits));refine wpAny_bind (m:=firstArgMember _ _) (wpAny_of_eq (a:=Value.none) (by first | rfl | (simp only[firstArgMember]; rfl)) ?_);refine wpAny_newObj_type ?_ (by size_fits);simp only[raiseNew];refine wpAny_bind (wpAny_handled ?_);rw[show A.in1.handled=none from hh];refine wpAny_bind (wpAny_pure (wpAny_throw ?_));refine wpAny_bind (wpAny_isInstance (T:="StopIteration") (b:=true) ⟨_,Heap.get?_push_size _ rfl,rfl⟩ isSubtype_stop ?_);exact wpAny_pure (hQ _ (((Heap.SameBut.update ..).extBut.push _).push _))
end
theorem raw_walks{prog:Program}{w:World}{A:Around}(hh:A.handled=none)(I d:Addr)(hne:d≠I)(es:Array DictEntry)(ep:Nat) :
  Walks prog w A I [I,d] [I] es.size (fun i v=>∃ h:i<es.size,v=es[i].key) (fun i h=>h.IsKeyIter I d i es.size ep∧h.RawDict d es ep) where
 sub:=fun b hb=>by simp at hb; simp[hb]
 frame:=fun _ _ _ st hk=>⟨st.1.at fun o e=>hk I (by simp) o e,st.2.at fun o e=>hk d (by simp) o e⟩
 item:=fun i s Q E hi st hQ=>raw_next st.1 st.2 hi fun h' hit' hs'=>hQ _ h' s.toks ⟨hi,rfl⟩ ⟨hit',st.2.at fun o e=>hs'.extBut d o hne e⟩ fun b o hb e=>hs'.extBut b o (fun h=>hb (by simp[h])) e
 done:=fun s Q E st hQ=>raw_end hh st.1 st.2 (La4 _) fun h' he'=>hQ h' s.toks fun b o hb e=>he' b o (fun h=>hb (by simp[h])) e
 self:=fun _ _ _ _ st hQ=>wpAny_pyIter_keyiter st.1 hQ
theorem F.dict_len:typeLookup (.type "dict") "__len__"=pure (some (.builtin "dict.__len__")):=by rw[typeLookup_type,builtinLookup_eq_fast]; kernel_rfl
theorem raw_collect{prog:Program}{w:World}{A:Around}{E:Value→Shared→Prop}{s:Shared}{d:Addr}{es:Array DictEntry}{ep:Nat}{Q:List Value→Shared→Prop}(hh:A.handled=none)(hd:(d == sysModules)=false)(hm:s.heap.RawDict d es ep)(hn:es.size≤sizeLine)
  (hQ:∀ h' tk,(∀ b o,s.heap.get? b=some o→h'.get? b=some o)→s.heap.objs.size<h'.objs.size→Q (es.toList.map (·.key)) { s with heap:=h',toks:=tk }):wpAny (model prog w) A (collect (.ref d)) Q E s:=by
 obtain⟨od,hod,hcd,hdd⟩:=id hm;have hdlt:d<s.heap.objs.size:=Heap.lt_size hod;unfold collect;refine wpAny_bind (wpAny_runValue (codeAny_builtin F.entry_proto_collect ?_));rw[Around.under_plainId F.plain_proto_collect _]
 show wpAny _ A.in1 (newList [] >>= fun l=>again (.builtin "list.__iadd__" ⟨[l,.ref d],[]⟩)) _ _ s
 refine wpAny_bind (wpAny_newObj_type ?_);refine wpAny_pure ⟨plainId_quiet F.plain_list_iadd _,codeAny_builtin F.entry_list_iadd ?_⟩;rw[Around.under_plainId F.plain_list_iadd _];generalize hS:s.heap.objs.size=S at *;have hSd:S≠d:=Lj7 hdlt;have g1:∀ b o,s.heap.get? b=some o→(s.heap.push { cls:=.type "list",data:=.seq ([]:List Value).toArray }).get? b=some o:=fun b o e=>Heap.get?_push_of_some _ e;have hS₁:(s.heap.push { cls:=.type "list",data:=.seq ([]:List Value).toArray }).get? S=some { cls:=.type "list",data:=.seq ([]:List Value).toArray }:=by rw[← hS]; exact Heap.get?_push_size _ rfl
 have hz1:(s.heap.push { cls:=.type "list",data:=.seq ([]:List Value).toArray }).objs.size=S+1:=by rw[Heap.size_push,hS]
 generalize s.heap.push { cls:=.type "list",data:=.seq ([]:List Value).toArray }=h1 at *;have hm1:h1.RawDict d es ep:=hm.at fun o e=>g1 d o e;have hT1:({ s with heap:=h1 }:Shared).TypeIs (.ref d) "dict":=⟨od,g1 _ _ hod,hcd.1⟩
 have hs1:Builtin.List.listSameRef (.ref S) (.ref d)=false:=by simp[Builtin.List.listSameRef,hSd]
 show wpAny _ A.in1 (Builtin.List.listExtendWith (.ref S) (.ref d) (.ref S)) _ _ _
 unfold Builtin.List.listExtendWith;refine wpAny_bind (wpAny_typeOf hT1 ?_);rw[if_neg (by rw[hs1]; decide)];refine wpAny_bind (raw_iter (s:={ s with heap:=h1 }) hd hm1 ?_)
 have hI:h1.objs.size=S+1:=hz1;have g2:∀ b o,h1.get? b=some o→(h1.push { cls:=.type "dict_keyiterator",data:=.fields #[.ref d,.int 0 0,.int es.size 0,.int ep 0] }).get? b=some o:=fun b o e=>Heap.get?_push_of_some _ e;have hit:(h1.push { cls:=.type "dict_keyiterator",data:=.fields #[.ref d,.int 0 0,.int es.size 0,.int ep 0] }).IsKeyIter h1.objs.size d 0 es.size ep:=⟨_,Heap.get?_push_size _ rfl,rfl,rfl⟩;generalize h1.push { cls:=.type "dict_keyiterator",data:=.fields #[.ref d,.int 0 0,.int es.size 0,.int ep 0] }=h2 at *;rw[hI] at hit ⊢;have hm2:h2.RawDict d es ep:=hm1.at fun o e=>g2 d o e;have hT2:({ s with heap:=h2 }:Shared).TypeIs (.ref d) "dict":=⟨od,g2 _ _ (g1 _ _ hod),hcd.1⟩
 refine wpAny_bind (wpAny_holding ?_);unfold Builtin.List.listLengthHint;refine wpAny_bind (wpAny_specialOf hT2 F.dict_len ?_);generalize hid:("dict.__len__":String)=id0
 wp_delta
 rw[show splitId id0=some ("dict","__len__") from by subst hid; decide +kernel];subst hid;refine wpAny_bind (wpAny_isInstance (T:="dict") (b:=true) hT2 (by rw[isSubtype_type]; kernel_rfl) ?_);refine wpAny_ite_split (fun hab=>absurd hab (by decide)) (fun _=>?_);refine wpAny_ite_split (fun _=>?_) (fun hab=>absurd (by decide +kernel) hab);refine wpAny_bind (wpAny_typeOf hT2 ?_);refine wpAny_pure ?_;refine wpAny_ite_split (fun _=>?_) (fun hab=>absurd (by decide +kernel) hab);refine wpAny_bind (wpAny_rule ?_);refine wpAny_bind ?_
 show wpAny _ _ (updateSeq S (·.push .none) >>= fun _=>updateSeq S (·.pop)) _ _ _
 have hS₂:=g2 _ _ hS₁;refine wpAny_bind (wpAny_updateSeq hS₂ rfl ?_);have hS₃:=Heap.get?_update_self (Obj.mapSeq (·.push Value.none)) hS₂ rfl;refine wpAny_updateSeq (hz:=by seq_fits) hS₃ rfl ?_;have hS₄:=Heap.get?_update_self (Obj.mapSeq (·.pop)) hS₃ rfl;have g4:∀ b o,b≠S→h2.get? b=some o→((h2.update S (Obj.mapSeq (·.push Value.none))).update S (Obj.mapSeq (·.pop))).get? b=some o:=fun b o hb e=>(Heap.get?_update_other _ _ (Ne.symm hb)).trans ((Heap.get?_update_other _ _ (Ne.symm hb)).trans e);have hSI:S≠S+1:=Lc4 (Li1 _)
 have hSf:S∉[S+1,d]:=fun hmm=>by
  rcases Lb6.mp hmm with e | e
  ·exact hSI e
  ·exact hSd (Lc8.mp e)
 have W:=(raw_walks (prog:=prog) (w:=w) (A:=A.in1) hh (S+1) d (Lc4 (Nat.lt_succ_of_lt hdlt)) es ep).toS;refine wpAny_pure ⟨plainId_quiet F.plain_extend_loop _,codeAny_extend_loopS W hn _ hSf _ es.size 0 _ _ _ rfl (Lb1 _) ⟨hit.at fun o e=>g4 _ o (Ne.symm hSI) e,hm2.at fun o e=>g4 _ o (Ne.symm hSd) e⟩ hS₄ (ItemsOf.nil _) fun s' acc' c' hmv hS' hacc=>?_⟩
 show wpAny _ A (load S >>= _) _ _ s'
 refine wpAny_bind (wpAny_load hS' ?_)
 have el:acc'.toList=es.toList.map (·.key):=by
  obtain⟨a1,a2⟩:=hacc;refine Lk3 fun i=>?_
  by_cases hi:i<es.size
  ·obtain⟨_,e⟩:=a2 i acc'[i] (Lh5 (by omega));rw[Lh0,Lh5 (by omega),e,La6,Lh0,Lh5 hi];rfl
  ·rw[Lg1 (by rw[Lc1]; omega),Lg1 (by rw[La1,Lc1]; omega)]
 refine wpAny_pure ?_;rw[Moved.eq_with hmv]
 show Q acc'.toList _
 rw[el];refine hQ s'.heap s'.toks (fun b o e=>hmv.heap b o (fun hmem=>?_) (g4 b o ?_ (g2 _ _ (g1 _ _ e)))) (by first | exact Heap.lt_size hS' | (rw[hS]; exact Heap.lt_size hS'))
 ·have hb:=Heap.lt_size e;rw[hS] at hb
  rcases Lb6.mp hmem with e' | hmem
  ·rw[e'] at hb; exact Le6 _ hb
  ·rw[Lc8.mp hmem] at hb; exact absurd hb (Nat.not_lt.mpr (Nat.le_succ _))
 ·have hb:=Heap.lt_size e;rw[hS] at hb;exact Lc4 hb
end PySem
namespace TT
open PySem PySem.W PyProof.Rows
def plt(p q:Int×Int):Bool:=if p.1=q.1 then decide (p.2<q.2) else decide (p.1<q.1)
theorem plt_ord(ps:List (Int×Int)):POrd fun i j=>plt (ps.getD i (0,0)) (ps.getD j (0,0)) where
 irr:=fun a=>by simp[plt]
 tr:=fun a b c h k=>by
  simp only[plt] at *;generalize ps.getD a (0,0)=x at *;generalize ps.getD b (0,0)=y at *;generalize ps.getD c (0,0)=z at *
  split at h <;> split at k <;> split <;> simp only[decide_eq_true_eq] at * <;> omega
 neg:=fun a b c h=>by
  simp only[plt] at *;generalize ps.getD a (0,0)=x at *;generalize ps.getD b (0,0)=y at *;generalize ps.getD c (0,0)=z at *
  split at h <;> split <;> split <;> simp only[decide_eq_true_eq] at * <;> omega
def Duos(h:Heap)(vs:List Value)(ps:List (Int×Int)):Prop:=Paired (fun v (p:Int×Int)=>∃ (a:Addr) (o:Obj) (n:Nat) (t u:Tok),v=.ref a∧h.get? a=some o∧o.cls=.type "tuple"∧o.data=.seq #[.int p.1 t,.int p.2 u] n) vs ps
theorem Duos.keep{h h':Heap}{vs:List Value}{ps:List (Int×Int)}(x:Duos h vs ps)(k:∀ b o,o.cls=.type "tuple"→h.get? b=some o→h'.get? b=some o):Duos h' vs ps:=by
 unfold Duos at *
 induction x with
 | nil=>exact .nil
 | cons r _ ih =>
  obtain⟨a,o,n,t,u,e,ho,hc,hd⟩:=r;exact .cons ⟨a,o,n,t,u,e,k a o hc ho,hc,hd⟩ ih
theorem Duos.app{h:Heap}{vs ws:List Value}{ps qs:List (Int×Int)}(x:Duos h vs ps)(y:Duos h ws qs):Duos h (vs++ws) (ps++qs):=by
 unfold Duos at *
 induction x with
 | nil=>exact y
 | cons r _ ih=>exact .cons r ih
theorem Duos.rev{h:Heap}{vs:List Value}{ps:List (Int×Int)}(x:Duos h vs ps):Duos h vs.reverse ps.reverse:=by
 unfold Duos at x
 induction x with
 | nil=>exact .nil
 | cons r _ ih =>
  rw[Lg6,Lg6];exact Duos.app ih (.cons r .nil)
theorem Duos.length{h:Heap}{vs:List Value}{ps:List (Int×Int)}(x:Duos h vs ps):vs.length=ps.length:=Paired.length x
theorem Duos.at{h:Heap}{vs:List Value}{ps:List (Int×Int)}(x:Duos h vs ps){i:Nat}(hi:i<vs.length) :
  ∃ (a:Addr) (o:Obj) (n:Nat) (t u:Tok),vs.getD i Value.none=.ref a∧h.get? a=some o∧o.cls=.type "tuple"∧o.data=.seq #[.int (ps.getD i (0,0)).1 t,.int (ps.getD i (0,0)).2 u] n:=by
 unfold Duos at x
 induction x generalizing i with
 | nil=>simp at hi
 | cons r _ ih =>
  cases i with
  | zero=>simpa using r
  | succ i =>
   have:=ih (i:=i) (by simpa using hi)
   simpa using this
theorem Duos.pick{h:Heap}{vs:List Value}{ps:List (Int×Int)}(x:Duos h vs ps):∀ (l:List Nat),(∀ i∈l,i<vs.length)→Duos h (l.map fun i=>vs.getD i Value.none) (l.map fun i=>ps.getD i (0,0))
 | [],_=>.nil
 | i::l,hl=>by
  obtain⟨a,o,n,t,u,e⟩:=x.at (hl i (La7 ..));exact .cons ⟨a,o,n,t,u,e⟩ (x.pick l fun j hj=>hl j (Lb0 _ hj))
theorem Duos.tups{h:Heap}{vs:List Value}{ps:List (Int×Int)}(x:Duos h vs ps):∃ fs:List Value,KatTups h vs fs∧fs.length=vs.length∧∀ f∈fs,∃ i t,f=Value.int i t:=by
 unfold Duos at x
 induction x with
 | nil=>exact⟨[],KatTups.nil,rfl,fun _ h=>nomatch h⟩
 | @cons v p vs ps r _ ih =>
  obtain⟨fs,h1,h2,h3⟩:=ih;obtain⟨a,o,n,t,u,e,ho,hc,hd⟩:=r;subst e;refine⟨.int p.1 t::fs,KatTups.cons ho hc hd rfl h1,by simp[h2],fun f hf=>?_⟩
  rcases Lb6.mp hf with rfl | hf
  ·exact⟨_,_,rfl⟩
  ·exact h3 f hf
section
variable {prog:Program} {w:World} {A:Around} {E:Value→Shared→Prop} {s:Shared}
theorem duo_lt{vs:List Value}{ps:List (Int×Int)}(x:Duos s.heap vs ps){i j:Nat}(hi:i<vs.length)(hj:j<vs.length){C:Bool→Shared→Prop}(h:C (plt (ps.getD i (0,0)) (ps.getD j (0,0))) s) :
  kas_ask prog w A (tuples' true) vs i j C s:=by
 obtain⟨a,o,n,t,u,e,ho,hc,hd⟩:=x.at hi;obtain⟨a',o',n',t',u',e',ho',hc',hd'⟩:=x.at hj;generalize ps.getD i (0,0)=p at *;generalize ps.getD j (0,0)=q at *;unfold kas_ask;rw[e,e'];refine kat_lt ho hd ho' hd' ?_;refine kat_cons (SeqAt.EqAt.int_int _ _ _ _ prog w _ _ ?_)
 by_cases h1:p.1=q.1
 ·rw[show (p.1 == q.1)=true by simpa using h1];refine kat_yes (kat_cons (SeqAt.EqAt.int_int _ _ _ _ prog w _ _ ?_))
  by_cases h2:p.2=q.2
  ·rw[show (p.2 == q.2)=true by simpa using h2];refine kat_yes (kat_nil ?_);have e1:plt p q=decide (2<2):=by simp[plt,h1,h2]
   rw[e1] at h;exact h
  ·rw[show (p.2 == q.2)=false by simpa using h2];refine kat_no (kat_one _ _ ?_);have e1:plt p q=decide (p.2<q.2):=by simp[plt,h1]
   rw[e1] at h;exact wpAny_lt_int (Q:=PySem.W.BoolBack _) h
 ·rw[show (p.1 == q.1)=false by simpa using h1];refine kat_no (oneLt_int ?_);have e1:plt p q=decide (p.1<q.1):=by simp[plt,h1]
  rw[e1] at h;exact h
theorem duo_sort_rev{a:Addr}{vs:List Value}{ps:List (Int×Int)}{n:Nat}{P:PySem.Fin→Shared→Prop}(ho:s.heap.get? a=some (seqObj "list" vs.toArray n))(h64:vs.length<64)(x:Duos s.heap vs ps)
  (h:∀ (out:List Value) (qs:List (Int×Int)),(∀ v∈out,v∈vs)→Duos s.heap out qs→qs.Perm ps→(qs.Pairwise fun p q=>plt p q=false)→P (.done (.ret .none)) { s with heap:=sortedHeap s.heap a vs out.toArray }) :
  wpAny (model prog w) A (Builtin.«list.sort» ⟨[.ref a],[(Str.ofString "reverse",.bool true)]⟩) P E s:=by
 rw[list_sort_rev];have ha:a<s.heap.objs.size:=Heap.lt_size ho;have hl:=x.length;refine wpAny_bind (listItems_at ho rfl ?_);refine wpAny_bind (listUpdate_at ho rfl ?_);obtain⟨e1,ho1⟩:∃ e1,(s.heap.update a (Obj.mapSeq fun _=>#[])).get? a=some (seqObj "list" #[] e1):=⟨_,get?_update_seq ho (fun _=>#[])⟩;refine wpAny_bind (seqEpoch_at ho1 rfl ?_);refine wpAny_bind (wpAny_newTuple ?_);refine wpAny_bind (wpAny_newList ?_);refine wpAny_holding ?_
 have ho6:(((s.heap.update a (Obj.mapSeq fun _=>#[])).push (seqObj "tuple" vs.toArray 0)).push (seqObj "list" #[] 0)).get? a=some (seqObj "list" #[] e1):=by
  rw[Heap.get?_push_ne _ _ _ (by rw[size_push',Heap.size_update]; exact Lc4 (Nat.lt_succ_of_lt ha)),Heap.get?_push_ne _ _ _ (by rw[Heap.size_update]; exact Lc4 ha)];exact ho1
 have x6:Duos (((s.heap.update a (Obj.mapSeq fun _=>#[])).push (seqObj "tuple" vs.toArray 0)).push (seqObj "list" #[] 0)) vs ps:=x.keep fun b o hc e=>by
  have hb:a≠b:=fun z=>by
   subst z;rw[ho] at e;cases e;exact absurd (show Value.type "list"=Value.type "tuple" from hc) (by decide)
  exact Heap.get?_push_of_some _ (Heap.get?_push_of_some _ ((Heap.get?_update_other _ _ hb).trans e))
 show wpAny (model prog w) A _ P E { s with heap:=((s.heap.update a (Obj.mapSeq fun _=>#[])).push (seqObj "tuple" vs.toArray 0)).push (seqObj "list" #[] 0) }
 have hsz:vs.toArray.size=vs.length:=by simp
 dsimp only;refine wpAny_bind (wpAny_rule ?_)
 by_cases h2:vs.toArray.size<2
 ·rw[if_pos h2,if_pos h2];refine wpAny_bind (wpAny_pure ?_);rw[StateT.run_pure];refine wpAny_bind (wpAny_pure ?_);dsimp only;refine wpAny_bind (seqEpoch_at ho6 rfl ?_)
  have eo:(Array.map (fun x=>x.snd) (arrOf (SortSt.mk' general' (vs.toArray.zip vs.toArray).reverse #[] 7 none))).reverse=vs.toArray:=by
   show (((vs.toArray.zip vs.toArray).reverse).map (·.2)).reverse=vs.toArray
   rw[Array.map_reverse,Array.reverse_reverse]
   apply Array.toList_inj.mp
   rw[Array.toList_map,Array.toList_zip,List.map_snd_zip (by simp)]
  simp only[if_true,eo];refine wpAny_bind (listUpdate_at ho6 rfl ?_ (hsz2:=by rw[hsz,sizeLine_eq]; omega));simp only[bne_self_eq_false,Bool.false_eq_true,if_false];refine wpAny_pure (h vs ps (fun _ q=>q) x (List.Perm.refl _) ?_)
  have:ps.length<2:=by omega
  match ps,this with
  | [],_=>exact List.Pairwise.nil
  | [_],_=>exact Lk0 _ _
  | _::_::_,z=>simp at z <;> omega
 ·rw[if_neg h2,if_neg h2];obtain⟨fs,t1,t2,t3⟩:=x6.tups;refine wpAny_bind (kat_kind (T:=.type "int") t1 (by omega) (fun v hv=>?_) (by decide) ?_)
  ·obtain⟨i,t,rfl⟩:=t3 v hv;exact fun A Q E s _ q=>wpAny_typeOf (T:="int") (v:=.int i t) rfl q
  rw[show (Value.type "int" != Value.type "tuple")=true by decide];rw[kat_pairs true (ks:=vs) (vs:=vs) rfl];have hrl:vs.reverse.length=vs.length:=Le7;have O:=plt_ord ps.reverse
  have run:=kat_run (prog:=prog) (w:=w) (A:=A) (E:=E) (κ:=tuples' true) (ks:=vs.reverse) (vs:=vs.reverse) (s:={ s with heap:=((s.heap.update a (Obj.mapSeq fun _=>#[])).push (seqObj "tuple" vs.toArray 0)).push (seqObj "list" #[] 0) })
   (Q:=fun st' s'=>s'={ s with heap:=((s.heap.update a (Obj.mapSeq fun _=>#[])).push (seqObj "tuple" vs.toArray 0)).push (seqObj "list" #[] 0) }∧failedOf st'=none∧∃ p:Array Nat,Pl vs.reverse.length p∧SortTo (fun i j=>plt (ps.reverse.getD i (0,0)) (ps.reverse.getD j (0,0))) p vs.reverse.length∧arrOf st'=p.map (kas_item (vs.reverse.toArray.zip vs.reverse.toArray)))
   (G:=fun p s'=>s'={ s with heap:=((s.heap.update a (Obj.mapSeq fun _=>#[])).push (seqObj "tuple" vs.toArray 0)).push (seqObj "list" #[] 0) }∧Pl vs.reverse.length p∧SortTo (fun i j=>plt (ps.reverse.getD i (0,0)) (ps.reverse.getD j (0,0))) p vs.reverse.length)
   rfl (by omega) (by omega) (fun p st' s' a1 a2 a3 a4=>⟨a4.1,a3,p,a4.2.1,a4.2.2,a2⟩)
   (kas_sort_ok O (fun i j C hi hj hC=>duo_lt x6.rev hi hj hC) (by omega) fun q hq hs=>⟨rfl,hq,hs⟩)
  refine wpAny_bind (wpAny_mono run ?_ fun _ _ e=>e);rintro⟨⟨⟩,st'⟩ s' ⟨rfl,hf,q,hq,hs,har⟩;dsimp only at har hf ⊢;have hout:=kat_snds (ks:=vs.reverse) (vs:=vs.reverse) rfl har;have hqs:q.size=vs.length:=by rw[hq.size,hrl]
  have hin:∀ i∈q.toList,i<vs.reverse.length:=fun i hi=>by
   have:i∈List.toArray (List.range vs.reverse.length):=(Array.Perm.mem_iff hq).mp (Lj0.mp hi)
   simpa using this
  refine wpAny_bind (seqEpoch_at ho6 rfl ?_);simp only[if_true,hout,List.reverse_toArray];refine wpAny_bind (listUpdate_at ho6 rfl ?_ (hsz2:=by rw[La8,Le7,La1,Lc1,sizeLine_eq]; omega));rw[hf];simp only[bne_self_eq_false,Bool.false_eq_true,if_false];refine wpAny_pure (h _ (q.toList.map fun i=>ps.reverse.getD i (0,0)).reverse (fun v hv=>?_) ((x.rev.pick _ hin).rev) ?_ ?_)
  ·obtain⟨i,hi,rfl⟩:=Lc3.mp (Li3.mp hv);have hlt:=hin i hi;rw[La3,La0 hlt];exact Li3.mp (Ld4 hlt)
  ·have hp2:q.toList.Perm (List.range vs.reverse.length):=by simpa using Li9.mp hq
   have hp3:=hp2.map fun i=>ps.reverse.getD i (0,0);rw[show vs.reverse.length=ps.reverse.length by rw[Le7,Le7]; exact hl] at hp3;exact (List.reverse_perm _).trans (hp3.trans ((List.Perm.of_eq (pick_range ps.reverse (0,0))).trans (List.reverse_perm _)))
  ·rw[List.pairwise_reverse];refine Lf8.mpr ?_;rw[Lf5];intro i j hi hj hij
   have:=hs i j (Lg8 hij) (by rw[Lc1] at hj; omega)
   simpa [ple,pat,show i<q.size by rw[Array.length_toList] at hi; exact hi,show j<q.size by rw[Lc1] at hj; exact hj] using this
end
end TT
namespace TT
open PySem PySem.Spec PyProof.Rows L2
mutual
inductive KRep(h:Heap):D→Value→Prop
 | int (i:Int) (t:Tok):KRep h (.int i) (.int i t)
 | str (x:Str) (t:Tok):KRep h (.str x) (.str x t)
 | tup {a:Addr} {o:Obj} {items:Array Value} {n:Nat} {ds:List D} (ho:h.get? a=some o) (hc:o.cls=.type "tuple") (hd:o.data=.seq items n) (r:KReps h ds items.toList):KRep h (.tup ds) (.ref a)
inductive KReps(h:Heap):List D→List Value→Prop
 | nil:KReps h [] []
 | cons {d:D} {v:Value} {ds:List D} {vs:List Value} (r:KRep h d v) (t:KReps h ds vs):KReps h (d::ds) (v::vs)
end
mutual
def D.deep:D→Nat
 | .tup ds=>1+deeps ds
 | .lst _=>0
 | .int _=>0
 | .str _=>0
 | .bl _=>0
 | .non=>0
def deeps:List D→Nat
 | []=>0
 | d::ds=>max d.deep (deeps ds)
end
mutual
def hashD(P:Program)(w:World):D→Int
 | .int i=>(mixKind P w).hash (.inl i)
 | .str x=>(mixKind P w).hash (.inr x)
 | .tup ds=>reduceHash (Builtin.Tuple.tupleHashOf (hashDs P w ds))
 | .lst _=>0
 | .bl _=>0
 | .non=>0
def hashDs(P:Program)(w:World):List D→List Int
 | []=>[]
 | d::ds=>hashD P w d::hashDs P w ds
end
mutual
def drawD:D→Nat
 | .tup ds=>drawDs ds+1
 | .lst _=>1
 | .int _=>1
 | .str _=>1
 | .bl _=>1
 | .non=>1
def drawDs:List D→Nat
 | []=>0
 | d::ds=>drawD d+drawDs ds
end
theorem hashDs_app(P:Program)(w:World):∀ a b:List D,hashDs P w (a++b)=hashDs P w a++hashDs P w b
 | [],b=>rfl
 | d::a,b=>by rw[Lc7,hashDs,hashDs_app P w a b,hashDs,Lc7]
theorem drawDs_app:∀ a b:List D,drawDs (a++b)=drawDs a+drawDs b
 | [],b=>by rw[Ld1,drawDs,Lh2]
 | d::a,b=>by rw[Lc7,drawDs,drawDs_app a b,drawDs,Lg0]
theorem deeps_mem{d:D}:∀ {ds:List D},d∈ds→d.deep≤deeps ds
 | e::ds,h=>by
  rw[deeps]
  rcases Lb6.mp h with rfl | h
  ·exact Nat.le_max_left _ _
  ·exact Ld6 (deeps_mem h) (Nat.le_max_right _ _)
mutual
theorem KRep.inj{h:Heap}:∀ {d e:D} {v:Value},KRep h d v→KRep h e v→d=e
 | _,_,_,.int i t,k=>by cases k; rfl
 | _,_,_,.str x t,k=>by cases k; rfl
 | _,_,_,.tup ho _ hd r,k=>by
  cases k with
  | tup ho' _ hd' r' =>
   rw[ho] at ho';cases ho';rw[hd] at hd';cases hd';rw[KReps.inj r r']
theorem KReps.inj{h:Heap}:∀ {ds es:List D} {vs:List Value},KReps h ds vs→KReps h es vs→ds=es
 | _,_,_,.nil,k=>by cases k; rfl
 | _,_,_,.cons r t,k=>by
  cases k with
  | cons r' t'=>rw[KRep.inj r r',KReps.inj t t']
end
mutual
theorem KRep.keeps{h h':Heap}(k:∀ b o,(∃ items n,o.data=Data.seq items n)→h.get? b=some o→h'.get? b=some o):∀ {d:D} {v:Value},KRep h d v→KRep h' d v
 | _,_,.int i t=>.int i t
 | _,_,.str x t=>.str x t
 | _,_,.tup ho hc hd r=>.tup (k _ _ ⟨_,_,hd⟩ ho) hc hd (KReps.keeps k r)
theorem KReps.keeps{h h':Heap}(k:∀ b o,(∃ items n,o.data=Data.seq items n)→h.get? b=some o→h'.get? b=some o):∀ {ds:List D} {vs:List Value},KReps h ds vs→KReps h' ds vs
 | _,_,.nil=>.nil
 | _,_,.cons r t=>.cons (KRep.keeps k r) (KReps.keeps k t)
end
theorem KReps.length{h:Heap}:∀ {ds:List D} {vs:List Value},KReps h ds vs→ds.length=vs.length
 | _,_,.nil=>rfl
 | _,_,.cons _ t=>by rw[Lb4,Lb4,KReps.length t]
theorem KReps.get{h:Heap}:∀ {ds:List D} {vs:List Value} {i:Nat} {d:D},KReps h ds vs→ds[i]?=some d→∃ v,vs[i]?=some v∧KRep h d v
 | _,_,_,_,.nil,e=>by simp at e
 | _,_,0,_,.cons r _,e=>by simp at e; subst e; exact⟨_,rfl,r⟩
 | _,_,i+1,d,.cons _ t,e=>by
  obtain⟨v,h1,h2⟩:=KReps.get (i:=i) (d:=d) t (by simpa using e);exact⟨v,by simpa using h1,h2⟩
section
variable {P:Program} {w:World}
theorem khash:∀ (n:Nat) (d:D) (v:Value) {A:Around} {E:Value→Shared→Prop} {s:Shared} {Q:Int→Shared→Prop},d.deep≤n→A.units+n<cLine→KRep s.heap d v→Q (hashD P w d) { s with toks:=s.toks+drawD d } →
    wpAny (model P w) A (PySem.pyHash v) Q E s:=by
  intro n
  induction n with
  | zero =>
    intro d v A E s Q hn hu r h
    cases r with
    | int i t=>exact (mixKind P w).pyHash (mixKind_int P w i t) h
    | str x t=>exact (mixKind P w).pyHash (mixKind_str P w x t) h
    | tup _ _ _ _=>rw[D.deep] at hn; omega
  | succ n khash =>
   intro d v A E s Q hn hu r h
   cases r with
   | int i t=>exact (mixKind P w).pyHash (mixKind_int P w i t) h
   | str x t=>exact (mixKind P w).pyHash (mixKind_str P w x t) h
   | @tup a o items cnt ks ho hc hd hi =>
    rw[D.deep] at hn;have hT:s.TypeIs (.ref a) "tuple":=⟨o,ho,hc⟩;unfold pyHash
    first | unfold pyHashByItsType | skip
    first | refine wpAny_bind (wpAny_cRoomFor_or (.inr (by omega)) ?_) | skip
    refine wpAny_bind (wpAny_specialOf hT F.slot_tuple_hash.lookup ?_)
    show wpAny _ _ (if (some (Value.builtin "tuple.__hash__") == some Value.none)=true then _ else _) Q E s
    rw[if_neg (by rw[beq_builtin_none]; exact Lb8)];refine wpAny_bind (wpAny_specialOf hT F.slot_tuple_hash.lookup ?_)
    show wpAny _ _ (callSpecialIfBoundUnlessNone? (.ref a) "__hash__" _ >>= _) Q E s
    refine wpAny_bind (wpAny_callSpecialIfBoundUnlessNone?_slot hT F.slot_tuple_hash (wpAny_call_entry F.slot_tuple_hash hT F.entry_tuple_hash ?_ (F.args_tuple_hash_1 _)))
    show wpAny _ _ (Builtin.Tuple.tupleItemsOf (.ref a) >>= _) _ _ s
    refine wpAny_bind (wpAny_tupleItemsOf ho hd ?_);refine wpAny_bind ?_;rw[← Array.forIn_toList]
    refine wpAny_forIn_list _
      (fun rest (b:Array Int) s'=>∃ done left,ks=done++left∧KReps s.heap left rest∧b.toList=hashDs P w done∧s'={ s with toks:=s.toks+drawDs done })
      _ ?_ ?_ _ _ ⟨[],ks,rfl,hi,rfl,rfl⟩
    · rintro x rest b s' ⟨done,left,rfl,hl,hb,rfl⟩
      cases hl with
      | @cons k _ ks' _ h1 hl' =>
        have hk:k.deep≤n:=Ld6 (deeps_mem (ds:=done++k::ks') (Ld2 done (La7 ..))) (by omega);refine wpAny_bind (khash k x hk (by show A.units+1+n<cLine; omega) h1 ?_);have e1:hashDs P w (done++[k])=hashDs P w done++[hashD P w k]:=by rw[hashDs_app]; rfl
        have e2:drawDs (done++[k])=drawDs done+drawD k:=by rw[drawDs_app]; rfl
        first
          | exact wpAny_pure ⟨done++[k],ks',by simp,hl',by rw[e1]; simp[hb],by rw[e2]; simp[Nat.add_assoc]⟩
          | exact wpAny_bind (wpAny_pure (wpAny_pure ⟨done++[k],ks',by simp,hl',by rw[e1]; simp[hb],by rw[e2]; simp[Nat.add_assoc]⟩))
    · rintro b s' ⟨done,left,rfl,hl,hb,rfl⟩;cases hl;rw[Lc0] at h;rw[hashD,drawD] at h
      show wpAny _ _ (retInt (Builtin.Tuple.tupleHashOf b.toList)) _ _ _
      rw[hb];refine wpAny_ret_mkInt ?_
      show wpAny _ _ (if (decide (-(2:Int) ^ 63≤Builtin.Tuple.tupleHashOf (hashDs P w done)) && decide (Builtin.Tuple.tupleHashOf (hashDs P w done)<2 ^ 63))=true then _ else _) Q E _
      unfold reduceHash at h
      by_cases hr:(decide (-(2:Int) ^ 63≤Builtin.Tuple.tupleHashOf (hashDs P w done)) && decide (Builtin.Tuple.tupleHashOf (hashDs P w done)<2 ^ 63))=true
      · rw[if_pos hr];rw[if_pos hr] at h;exact wpAny_pure (by simpa [Nat.add_assoc] using h)
      · rw[if_neg hr];rw[if_neg hr] at h;exact wpAny_bind (wpAny_rule (wpAny_pure (by simpa [Nat.add_assoc] using h)))
theorem keq{s:Shared}:∀ (n:Nat) (A:Around) (d e:D) (x y:Value),d.deep≤n→A.units+n<cLine→KRep s.heap d x→KRep s.heap e y→∃ b,SeqAt.EqAt A s x y b∧(b=true↔d=e):=by
  intro n
  induction n with
  | zero =>
    intro A d e x y hn hu r q
    cases r with
    | int i t =>
      cases q with
      | int j u=>exact⟨_,SeqAt.EqAt.int_int _ _ _ _,by rw[beq_iff_eq]; exact⟨fun z=>by rw[z],fun z=>by injection z⟩⟩
      | str y u=>exact⟨_,SeqAt.EqAt.int_str _ _ _ _,⟨fun z=>(nomatch z),fun z=>(nomatch z)⟩⟩
      | tup ho hc hd r=>exact⟨_,SeqAt.EqAt.int_tuple _ _ ⟨_,ho,hc,_,hd⟩ (by omega),⟨fun z=>(nomatch z),fun z=>(nomatch z)⟩⟩
    | str x t =>
      cases q with
      | int j u=>exact⟨_,SeqAt.EqAt.str_int _ _ _ _,⟨fun z=>(nomatch z),fun z=>(nomatch z)⟩⟩
      | str y u=>exact⟨_,SeqAt.EqAt.str_str _ _ _ _,by rw[beq_iff_eq]; exact⟨fun z=>by rw[z],fun z=>by injection z⟩⟩
      | tup ho hc hd r=>exact⟨_,SeqAt.EqAt.str_tuple _ _ ⟨_,ho,hc,_,hd⟩ (by omega),⟨fun z=>(nomatch z),fun z=>(nomatch z)⟩⟩
    | tup _ _ _ _=>rw[D.deep] at hn; omega
  | succ n keq =>
   intro A d e x y hn hu r0 q0
   cases r0 with
   | int i t =>
      cases q0 with
      | int j u=>exact⟨_,SeqAt.EqAt.int_int _ _ _ _,by rw[beq_iff_eq]; exact⟨fun z=>by rw[z],fun z=>by injection z⟩⟩
      | str y u=>exact⟨_,SeqAt.EqAt.int_str _ _ _ _,⟨fun z=>(nomatch z),fun z=>(nomatch z)⟩⟩
      | tup ho hc hd r=>exact⟨_,SeqAt.EqAt.int_tuple _ _ ⟨_,ho,hc,_,hd⟩ (by omega),⟨fun z=>(nomatch z),fun z=>(nomatch z)⟩⟩
   | str x t =>
      cases q0 with
      | int j u=>exact⟨_,SeqAt.EqAt.str_int _ _ _ _,⟨fun z=>(nomatch z),fun z=>(nomatch z)⟩⟩
      | str y u=>exact⟨_,SeqAt.EqAt.str_str _ _ _ _,by rw[beq_iff_eq]; exact⟨fun z=>by rw[z],fun z=>by injection z⟩⟩
      | tup ho hc hd r=>exact⟨_,SeqAt.EqAt.str_tuple _ _ ⟨_,ho,hc,_,hd⟩ (by omega),⟨fun z=>(nomatch z),fun z=>(nomatch z)⟩⟩
   | @tup a o xs cnt ds ho hc hd r =>
    cases q0 with
    | int i t=>exact⟨_,SeqAt.EqAt.tuple_int _ _ ⟨_,ho,hc,_,hd⟩ (by omega),⟨fun z=>(nomatch z),fun z=>(nomatch z)⟩⟩
    | str x t=>exact⟨_,SeqAt.EqAt.tuple_str _ _ ⟨_,ho,hc,_,hd⟩ (by omega),⟨fun z=>(nomatch z),fun z=>(nomatch z)⟩⟩
    | @tup c o' ys cnt' es ho' hc' hd' r' =>
    rw[D.deep] at hn
    by_cases hac:a=c
    · subst hac;exact⟨true,SeqAt.EqAt.same _,fun _=>KRep.inj (.tup ho hc hd r) (.tup ho' hc' hd' r'),fun _=>rfl⟩
    · have l1:ds.length=xs.size:=by rw[r.length,Lc1]
      have l2:es.length=ys.size:=by rw[r'.length,Lc1]
      have H0:∀ j:Nat,∃ b:Bool,(∀ (h1:j<xs.size) (h2:j<ys.size),SeqAt.EqAt A.in1 s xs[j] ys[j] b)∧(j<ds.length→j<es.length→(b=true↔ds[j]?=es[j]?)):=by
        intro j
        by_cases h1:j<ds.length
        · by_cases h2:j<es.length
          · obtain⟨x,hx,rx⟩:=r.get (La0 h1);obtain⟨y,hy,ry⟩:=r'.get (La0 h2);obtain⟨b,hb,hi⟩:=keq A.in1 ds[j] es[j] x y (Ld6 (deeps_mem (Ld4 h1)) (by omega)) (by show A.units+1+n<cLine; omega) rx ry;refine⟨b,fun h3 h4=>?_,fun _ _=>?_⟩
            · have e1:xs[j]=x:=by
                obtain⟨_,e⟩:=La5.mp hx
                simpa using e
              have e2:ys[j]=y:=by
                obtain⟨_,e⟩:=La5.mp hy
                simpa using e
              rw[e1,e2];exact hb
            · rw[hi,La0 h1,La0 h2];exact⟨fun z=>by rw[z],fun z=>Option.some.inj z⟩
          · exact⟨true,fun _ h4=>absurd h4 (by omega),fun _ h=>absurd h h2⟩
        · exact⟨true,fun h3 _=>absurd h3 (by omega),fun h _=>absurd h h1⟩
      obtain⟨f,hf⟩:=Classical.skolem.mp H0;refine⟨_,SeqAt.EqAt.of_refs hac (SeqAt.RcAt.tuples ⟨_,ho,hc,_,hd⟩ ⟨_,ho',hc',_,hd'⟩ (by omega) (fun j=>(hf j).1)),?_⟩;rw[Lj4,all_iff,beq_iff_eq]
      constructor
      · rintro⟨h1,h2⟩;congr 1;exact lists_same (by omega) fun j hj=>((hf j).2 hj (by omega)).mp (h1 j (by omega))
      · intro h;injection h with h
        refine⟨fun j hj=>((hf j).2 (by omega) (by omega)).mpr (by rw[h]),?_⟩
        have:=congrArg List.length h;omega
theorem kquiet:∀ (n:Nat) (d:D) (v:Value) {A:Around} {E:Value→Shared→Prop} {s:Shared} {Q:Bool→Shared→Prop},d.deep≤n→KRep s.heap d v→Q true s→wpAny (model P w) A (eqIsQuiet n v) Q E s:=by
  intro n
  induction n with
  | zero =>
    intro d v A E s Q hn r h
    cases r with
    | int i t=>rw[eqIsQuiet_byValue _ rfl]; exact wpAny_pure h
    | str x t=>rw[eqIsQuiet_byValue _ rfl]; exact wpAny_pure h
    | tup _ _ _ _=>rw[D.deep] at hn; omega
  | succ n kquiet =>
   intro d v A E s Q hn r h
   cases r with
   | int i t=>rw[eqIsQuiet_byValue _ rfl]; exact wpAny_pure h
   | str x t=>rw[eqIsQuiet_byValue _ rfl]; exact wpAny_pure h
   | @tup a o items cnt ds ho hc hd hi =>
    rw[D.deep] at hn;have hT:s.TypeIs (.ref a) "tuple":=⟨o,ho,hc⟩;unfold eqIsQuiet;refine wpAny_bind (wpAny_specialOf hT F.slot_tuple_eq.lookup ?_)
    show wpAny _ _ (isInstance (.ref a) (.type "tuple") >>= _) _ _ s
    refine wpAny_bind (wpAny_isInstance hT isSubtype_tuple_tuple ?_);simp only[Bool.not_true,Bool.false_eq_true,if_false];refine wpAny_bind (wpAny_seqItems ho hd ?_);refine wpAny_bind ?_
    show wpAny _ _ (forIn items _ _) _ _ s
    rw[← Array.forIn_toList];refine wpAny_forIn_list _ (fun rest r s'=>r.1=none∧s'=s∧∃ es,KReps s.heap es rest∧deeps es≤n) _ ?_ ?_ _ _ ⟨rfl,rfl,ds,hi,by omega⟩
    · rintro v rest r s' ⟨hr,rfl,es,hes,hde⟩
      cases hes with
      | @cons d _ es' _ h1 h2 =>
        rw[deeps] at hde;refine wpAny_bind (kquiet d v (Ld6 (Nat.le_max_left _ _) hde) h1 ?_);simp only[Bool.not_true,Bool.false_eq_true,if_false];exact wpAny_pure ⟨rfl,rfl,es',h2,Ld6 (Nat.le_max_right _ _) hde⟩
    · rintro⟨r1,r2⟩ s' ⟨hr,rfl,_⟩;simp only at hr;subst hr;exact wpAny_pure h
end
instance decD:DecidableEq D:=Classical.typeDecidableEq D
def nestKind(P:Program)(w:World):HeapKind P w D where
 is:=fun h d a=>KRep h d (.ref a)∧d.deep≤8
 hash:=hashD P w
 draws:=drawD
 room:=fun A=>A.units+8<cLine
 inj:=fun hx hy=>hx.1.inj hy.1
 keeps:=fun {h h' k a d o es ep} x ho hd hs=>⟨x.1.keeps fun b o' hq e=>by
  have hne:b≠d:=by
   rintro rfl;rw[ho] at e;cases e;obtain⟨_,_,hq⟩:=hq;rw[hd] at hq;cases hq
  exact (hs.2 b hne).trans e,x.2⟩
 pyHash:=fun hu hk h=>khash 8 _ _ hk.2 hu hk.1 h
 eqBool:=fun {A E s x y a b Q} hu hx hy h=>by
  obtain⟨c,hc,hi⟩:=keq (s:=s) 8 A x y _ _ hx.2 hu hx.1 hy.1
  have e:c=decide (x=y):=by
   by_cases q:x=y
   ·rw[decide_eq_true q]; exact hi.mpr q
   ·rw[decide_eq_false q]
    cases c with
    | false=>rfl
    | true=>exact absurd (hi.mp rfl) q
  exact hc P w E Q (by rw[e]; exact h)
 quiet:=fun hk h=>kquiet 8 _ _ hk.2 hk.1 h
end TT
namespace L2
open PySem PySem.Spec PyProof.Rows
section
variable {κ:Type} [DecidableEq κ]
def valV(kvs:List (κ×V))(k:κ):Option V:=(kvs.find? fun kv=>decide (kv.1=k)).map (·.2)
def putK(kvs:List (κ×V))(k:κ)(v:V):List (κ×V) :=
 if (kvs.any fun kv=>decide (kv.1=k))=true then kvs.map (fun kv=>if kv.1=k then (kv.1,v) else kv) else kvs++[(k,v)]
theorem valV_pos{p:κ×V}{r:List (κ×V)}{k:κ}(e:p.1=k):valV (p::r) k=some p.2:=by simp[valV,List.find?_cons,e]
theorem valV_neg{p:κ×V}{r:List (κ×V)}{k:κ}(e:¬ p.1=k):valV (p::r) k=valV r k:=by simp[valV,List.find?_cons,e]
theorem length_putK(kvs:List (κ×V))(k:κ)(v:V):(putK kvs k v).length≤kvs.length+1:=by
 unfold putK
 split
 ·rw[La1]; omega
 ·rw[La2,Lb4,Lk1]; omega
theorem RelO.isSome_eq{o:Option V}{u:Option Value}(r:RelO o u):o.isSome=u.isSome:=by
 cases o with
 | none=>cases u with
  | none=>rfl
  | some _=>exact (show False from r).elim
 | some _=>cases u with
  | none=>exact (show False from r).elim
  | some _=>rfl
theorem RelO.getD{o:Option V}{u:Option Value}{d:V}{d':Value}(r:RelO o u)(rd:RelV d d'):RelV (o.getD d) (u.getD d'):=by
 cases o with
 | none=>cases u with
  | none=>exact rd
  | some _=>exact (show False from r).elim
 | some _=>cases u with
  | none=>exact (show False from r).elim
  | some _=>exact r
theorem KV.val{kvs:List (κ×V)}{vs:List (κ×Value)}(r:KV kvs vs)(k:κ):RelO (valV kvs k) (valueAt vs k):=by
 unfold KV at r
 induction r with
 | nil=>exact True.intro
 | @cons p q ps qs h t ih =>
  obtain⟨h1,h2⟩:=h
  by_cases e:p.1=k
  ·have e':q.1=k:=h1.symm.trans e;have b:valueAt (q::qs) k=some q.2:=by simp[valueAt,List.find?_cons,e']
   rw[valV_pos e,b]; exact h2
  ·have e':¬ q.1=k:=fun z=>e (h1.trans z);have b:valueAt (q::qs) k=valueAt qs k:=by simp[valueAt,List.find?_cons,e']
   rw[valV_neg e,b]; exact ih
theorem KV.any{kvs:List (κ×V)}{vs:List (κ×Value)}(r:KV kvs vs)(k:κ):(kvs.any fun kv=>decide (kv.1=k))=vs.any fun kv=>decide (kv.1=k):=by
 unfold KV at r
 induction r with
 | nil=>rfl
 | cons h t ih=>rw[List.any_cons,List.any_cons,ih,h.1]
theorem KV.repl{kvs:List (κ×V)}{vs:List (κ×Value)}(r:KV kvs vs)(k:κ){y:V}{u:Value}(ry:RelV y u) :
  KV (kvs.map fun kv=>if kv.1=k then (kv.1,y) else kv) (vs.map fun kv=>if kv.1=k then (kv.1,u) else kv):=by
 unfold KV at r ⊢
 induction r with
 | nil=>exact .nil
 | @cons p q ps qs h t ih =>
  rw[Lc2,Lc2];refine .cons ?_ ih;obtain⟨h1,h2⟩:=h
  by_cases e:p.1=k
  ·rw[if_pos e,if_pos (h1.symm.trans e)]; exact⟨h1,ry⟩
  ·rw[if_neg e,if_neg (fun z=>e (h1.trans z))]; exact⟨h1,h2⟩
theorem KV.put{kvs:List (κ×V)}{vs:List (κ×Value)}(r:KV kvs vs)(k:κ){y:V}{u:Value}(ry:RelV y u):KV (putK kvs k y) (stored vs k u):=by
 unfold putK stored;rw[r.any k]
 by_cases e:(vs.any fun kv=>decide (kv.1=k))=true
 ·rw[if_pos e,if_pos e]; exact r.repl k ry
 ·rw[if_neg e,if_neg e]; exact Paired.snoc r ⟨rfl,ry⟩
end
theorem kV_is{P:Program}{w:World}{k:Key}{u:Value}(r:RelV (kV k) u):(mixKind P w).is k u=true:=by
 cases k with
 | inl i=>obtain⟨t,e⟩:=(show ∃ t,u=Value.int i t from r); subst e; exact mixKind_int P w i t
 | inr x=>obtain⟨t,e⟩:=(show ∃ t,u=Value.str x t from r); subst e; exact mixKind_str P w x t
theorem items_are{P:Program}{w:World}:∀ {ks:List Key} {us:List Value},Vals (ks.map kV) us→ItemsAre (mixKind P w) ks us
 | [],_,r=>by rw[List.map_nil] at r; cases r; exact .nil
 | k::ks,_,r=>by
  rw[Lc2] at r
  cases r with
  | cons h t=>exact .cons (kV_is h) (items_are t)
abbrev KT(H:Hp):List (List Key×V)→List (List Key×Addr×Value)→Prop:=Paired fun p q=>p.1=q.1∧H q.2.1=some (.tup (p.1.map kV))∧RelV p.2 q.2.2
theorem KT.val{H:Hp}{kvs:List (List Key×V)}{xs:List (List Key×Addr×Value)}(r:KT H kvs xs)(k:List Key):RelO (valV kvs k) ((atKey xs k).map (·.2)):=by
 induction r with
 | nil=>exact True.intro
 | @cons p q ps qs h t ih =>
  obtain⟨h1,_,h2⟩:=h
  by_cases e:p.1=k
  ·have e':q.1=k:=h1.symm.trans e;have b:atKey (q::qs) k=some q.2:=by simp[atKey,List.find?_cons,e']
   rw[valV_pos e,b]; exact h2
  ·have e':¬ q.1=k:=fun z=>e (h1.trans z);have b:atKey (q::qs) k=atKey qs k:=by simp[atKey,List.find?_cons,e']
   rw[valV_neg e,b]; exact ih
section
variable {P:Program} {w:World} {H:Hp} {h:Heap} {a:Addr}
theorem rd_of{u:HO}(ok:HOk P w H h)(e:Rd H a u):ObjOk P w H h a u:=e.ok ok
theorem dk_rd{kvs:List (Key×V)}(ok:HOk P w H h)(e:Rd H a (.dK kvs)):kvs.length≤sizeLine∧(a == sysModules)=false∧∃ vs,KV kvs vs∧h.DictOf (mixKind P w) a vs :=
 show ObjOk P w H h a (.dK kvs) from rd_of ok e
theorem dk_of{kvs:List (Key×V)}(ok:HOk P w H h)(e:H a=some (.dK kvs)):kvs.length≤sizeLine∧(a == sysModules)=false∧∃ vs,KV kvs vs∧h.DictOf (mixKind P w) a vs:=dk_rd ok (.inl e)
theorem key_of{ks:List Key}(ok:HOk P w H h)(e:H a=some (.tup (ks.map kV))):(tupleKind (mixKind P w)).is h ks a:=by
 obtain⟨_,its,r,o,h1,h2,n,h3⟩:=(show ObjOk P w H h a (.tup (ks.map kV)) from ok a _ e);exact⟨o,its.toArray,n,h1,h2,h3,by simpa using items_are r⟩
theorem dt_rd{kvs:List (List Key×V)}(ok:HOk P w H h)(e:Rd H a (.dT kvs)):kvs.length≤sizeLine∧(a == sysModules)=false ∧
  ∃ xs,KT H kvs xs∧h.DictOfH (tupleKind (mixKind P w)) a xs:=by
 obtain⟨z,y,xs,r,o,es,ep,h1,h2,h3,h4,h5⟩:=(show ObjOk P w H h a (.dT kvs) from rd_of ok e);refine⟨z,y,xs,r,o,es,ep,h1,h2,h3,h4,fun x hx=>?_,h5⟩
 have all:∀ {l:List (List Key×V)} {m:List (List Key×Addr×Value)},KT H l m→∀ x∈m,(tupleKind (mixKind P w)).is h x.1 x.2.1:=by
  intro l m q
  induction q with
  | nil=>intro x hx; exact nomatch hx
  | @cons p q ps qs hq t ih =>
   intro x hx
   rcases Lb6.mp hx with e | hx
   ·subst e;exact key_of ok (by rw[← hq.1]; exact hq.2.1)
   ·exact ih x hx
 exact all r x hx
end
def DGet(H:Hp)(a:Addr)(y:V)(r:Option V):Prop :=
 (∃ kvs k,Rd H a (.dK kvs)∧y=kV k∧r=valV kvs k)∨∃ kvs k b,Rd H a (.dT kvs)∧y=.ref b∧H b=some (.tup (k.map kV))∧r=valV kvs k
theorem DGet.k{H:Hp}{a:Addr}{kvs:List (Key×V)}{k:Key}(e:H a=some (.dK kvs)):DGet H a (kV k) (valV kvs k):=.inl ⟨kvs,k,.inl e,rfl,rfl⟩
section
variable {X:Cx} {pins:List (Addr×Obj)} {σ:St} {H:Hp} {s:Shared} {a:Addr} {y v:V} {u r:Value} {o:Option V} {A:Around} {E:Value→Shared→Prop}
theorem Inv.big(I:Inv X pins σ H s):sysModules<s.heap.objs.size:=by
 have h:mainGlobals<s.heap.objs.size:=(I.mod.glob.keeps I.bk).lt;exact Nat.lt_trans (by decide) h
theorem d_write{h':Heap}{t':Nat}{ob:HO}(I:Inv X pins σ H s)(mu:Mut (H a))(hs:Heap.SameBut a s.heap h')(he:∃ q,h'.get? a=some q)(new:ObjOk X.prog X.w (upd H a ob) h' a ob) :
  Inv X pins σ (upd H a ob) { s with heap:=h',toks:=t' } :=
 I.write (x:=a) (e:=a) mu (.inl rfl) (fun b q hb z=>(hs.2 b hb).trans z) he new
theorem dk_new{P:Program}{w:World}{H':Hp}{h':Heap}{kvs:List (Key×V)}{vs:List (Key×Value)}(z:kvs.length≤sizeLine)(hd:(a == sysModules)=false)(rel:KV kvs vs)(dd:h'.DictOf (mixKind P w) a vs) :
  ObjOk P w H' h' a (.dK kvs):=⟨z,hd,vs,rel,dd⟩
end
section
variable {X:Cx} {pins:List (Addr×Obj)} {σ:St} {H:Hp} {s:Shared} {a:Addr} {kvs:List (Key×V)} {k:Key} {u:Value} {A:Around} {E:Value→Shared→Prop}
end
def NoSl(i:Expr):Prop:=∀ ov iv,subscripted i false ov iv=operate [ov,iv] (getItem ov iv)
theorem subD_of{prog:Program}{w:World}{A:Around}{E:Value→Shared→Prop}{s:Shared}{env:Env}{value slice:Expr}{pos:Pos}{T id:String}{Q:Value→Shared→Prop}
  (hl:typeLookup (.type T) "__getitem__"=pure (some (.builtin id))) (hs:NoSl slice)
  (h:wpAny (model prog w) A (eval value env) (fun o s₁=>wpAny (model prog w) A (eval slice env) (fun i s₂=>s₂.TypeIs o T∧wpAny (model prog w) A (getItem o i) Q E s₂) E s₁) E s) :
  wpAny (model prog w) A (eval (.Subscript value slice pos) env) Q E s:=by
 refine Subscript_ (wpAny_mono h (fun o s₁ h₁=>wpAny_mono h₁ (fun i s₂ h₂=>?_) fun _ _ x=>x) fun _ _ x=>x);obtain⟨hT,h₂⟩:=h₂;unfold subscriptTail;refine wpAny_bind ?_;rw[getitemInPython_of_ne hT.not_modules];refine wpAny_bind (wpAny_specialOf hT hl ?_)
 have fin:wpAny (model prog w) A (subscripted slice false o i) (fun r s₃=>wpAny (model prog w) A (letTemporaryGo value o r >>= fun _=>pure r) Q E s₃) E s₂:=by
  rw[hs o i];exact wpAny_operating (wpAny_mono h₂ (fun r s₃ h₃=>wpAny_bind (wpAny_letTemporaryGo (wpAny_pure h₃))) fun _ _ x=>x)
 first
  | exact wpAny_pure (wpAny_bind fin)
  | exact wpAny_bind (wpAny_pure (wpAny_bind fin))
  | exact wpAny_bind fin
section
variable {X:Cx} {o i e value:Expr} {pos pos' tpos:Pos} {td ty tv:TE}
end
theorem dk_empty{P:Program}{w:World}{H:Hp}(h:Heap)(hb:sysModules<h.objs.size):ObjOk P w H (h.push { cls:=.type "dict",data:=.dict #[] }) h.objs.size (.dK []) :=
 ⟨Lb1 _,beq_eq_false_iff_ne.mpr (Ne.symm (Lc4 hb)),[],.nil,Heap.DictOf.new h⟩
section
variable {X:Cx} {pos:Pos}
end
def tPairs:List (TE×TE)→St→Hp→(List (V×V)→Hp→Prop)→Prop
 | [],_,H,Q=>Q [] H
 | (tk,tv)::r,σ,H,Q=>tk σ H fun x H1=>tv σ H1 fun y H2=>tPairs r σ H2 fun ps H3=>Q ((x,y)::ps) H3
abbrev VV:List (V×V)→List (Value×Value)→Prop:=Paired fun p q=>RelV p.1 q.1∧RelV p.2 q.2
def PPs(X:Cx)(pos:Pos)(keys:List (Option Expr))(values:List Expr)(trs:List (TE×TE)):Prop :=
 ∀ (pins:List (Addr×Obj)) (s:Shared) (σ:St) (H:Hp) (Q:List (V×V)→Hp→Prop),Inv X pins σ H s→tPairs trs σ H Q →
  wpAny (model X.prog X.w) X.A (evalPairs (pairTrees keys values X.env pos)) (fun vs s'=>∃ ps H',Inv X pins σ H' s'∧VV ps vs∧Q ps H') X.xe s
theorem pps_nil{X:Cx}{pos:Pos}:PPs X pos [] [] []:=fun pins s σ H Q I h=>pairTrees_nil_walk ⟨[],H,I,.nil,h⟩
theorem pps_cons{X:Cx}{pos:Pos}{k v:Expr}{ks:List (Option Expr)}{vs:List Expr}{tk tv:TE}{trs:List (TE×TE)}(hk:PE X k tk)(hv:PE X v tv)(hr:PPs X pos ks vs trs) :
  PPs X pos (some k::ks) (v::vs) ((tk,tv)::trs):=fun pins s σ H Q I h =>
 pairTrees_cons_walk (thn (hk pins s σ H _ I h) fun u s1 ⟨x,H1,I1,rx,q1⟩=>thn (hv pins s1 σ H1 _ I1 q1) fun w2 s2 ⟨y,H2,I2,ry,q2⟩ =>
  thn (hr pins s2 σ H2 _ I2 q2) fun ws s3 ⟨ps,H3,I3,rel,q3⟩=>⟨(x,y)::ps,H3,I3,.cons ⟨rx,ry⟩ rel,q3⟩)
def mergeK(kvs more:List (Key×V)):List (Key×V):=more.foldl (fun acc kv=>putK acc kv.1 kv.2) kvs
theorem KV.merge:∀ {more:List (Key×V)} {rs:List (Key×Value)} {kvs:List (Key×V)} {vs:List (Key×Value)},KV more rs→KV kvs vs→KV (mergeK kvs more) (merged vs rs):=by
 intro more rs kvs vs r;unfold KV at r
 induction r generalizing kvs vs with
 | nil=>intro q; exact q
 | @cons p q ps qs h t ih =>
  intro r0
  have e:KV (putK kvs p.1 p.2) (stored vs q.1 q.2):=by
   have:=r0.put p.1 h.2;rw[← h.1]; exact this
  exact ih e
theorem length_mergeK:∀ (more kvs:List (Key×V)),(mergeK kvs more).length≤kvs.length+more.length
 | [],kvs=>by show kvs.length≤kvs.length+0; omega
 | p::r,kvs=>by
  have h1:=length_mergeK r (putK kvs p.1 p.2);have h2:=length_putK kvs p.1 p.2
  show (mergeK (putK kvs p.1 p.2) r).length≤_
  rw[Lb4]; omega
theorem carries_of{P:Program}{w:World}:∀ {kvs:List (Key×V)} {ws:List (Value×Value)},VV (kvs.map fun kv=>(kV kv.1,kv.2)) ws→∃ rs,Carries (mixKind P w) ws rs∧KV kvs rs
 | [],_,r=>by rw[List.map_nil] at r; cases r; exact⟨[],True.intro,.nil⟩
 | p::kvs,_,r=>by
  rw[Lc2] at r
  cases r with
  | @cons a b as bs h t =>
   obtain⟨rs,c,q⟩:=carries_of (P:=P) (w:=w) t;obtain⟨b1,b2⟩:=b;exact⟨(p.1,b2)::rs,⟨kV_is h.1,rfl,c⟩,.cons ⟨rfl,h.2⟩ q⟩
def tDisp(trs:List (TE×TE)):TE:=fun σ H Q=>∀ p,H p=none→tPairs trs σ (upd H p (.dK [])) fun ps H2=>H2 p=some (.dK [])∧∃ kvs:List (Key×V),ps=kvs.map (fun kv=>(kV kv.1,kv.2))∧kvs.length≤15∧Q (.ref p) (upd H2 p (.dK (mergeK [] kvs)))
theorem pe_disp{X:Cx}{pos:Pos}{keys:List (Option Expr)}{values:List Expr}{trs:List (TE×TE)}(h:PPs X pos keys values trs)(hall:keys.all (·.isSome)=true)(hl:keys.length=values.length)(h0:keys≠[])
  (h15:keys.length≤15):PE X (.Dict keys values pos) (tDisp trs):=by
 intro pins s σ H Q I q;have hn:=I.hok.fresh (La4 s.heap.objs.size);have I1:=I.laid (a:=s.heap.objs.size) (o:=.dK []) (h':=s.heap.push { cls:=.type "dict",data:=.dict #[] }) (t':=s.toks) (fun _ _ q=>Heap.get?_push_of_some _ q) (La4 _) (dk_empty s.heap I.big);refine wpAny_Dict_walk (knd:=mixKind X.prog X.w) hall hl h0 h15 (thn (h pins _ σ _ _ I1 (q _ hn)) fun ws s2 hZr=>?_);obtain⟨ps,H2,I2,rel,e,kvs,ep,lk,q2⟩:=hZr;subst ep;obtain⟨rs,c,rk⟩:=carries_of (P:=X.prog) (w:=X.w) rel;obtain⟨z,hd,vs0,r0,dd⟩:=dk_of I2.hok e;cases r0;refine⟨rs,c,dd,fun h' dd' hs=>⟨.ref s.heap.objs.size,_,?_,rfl,q2⟩⟩
 have hz:(mergeK [] kvs).length≤sizeLine:=by
  have h1:=length_mergeK kvs [];rw[Lk1] at h1;rw[sizeLine_eq]; omega
 have he:∃ q,h'.get? s.heap.objs.size=some q:=let ⟨q,_,_,hq,_⟩:=dd'; ⟨q,hq⟩
 exact d_write I2 (by rw[e]; exact True.intro) hs he (dk_new hz hd (rk.merge .nil) dd')
structure M2(X:Cx)(o:Expr)(m:Str)(apos:Pos)(e f:Expr)(cpos:Pos):Prop where
 base:attributeBase o m X.env (eval o X.env)=eval o X.env
 few:((backTo cpos (starEach [e,f] X.env)).all (fun x=>!x.1) && (backToKw cpos (keywordEach [] X.env)).all (fun x=>x.1.isSome)
  && decide (([e,f]:List Expr).length+([]:List Keyword).length+(if ([]:List Keyword).isEmpty then 0 else 1)<30))=true
 line:(apos.endLine == cpos.line)=true
 trees:backTo cpos (starEach [e,f] X.env)=[(false,eval e X.env),(false,eval f X.env)]
def IsD(H:Hp)(a:Addr):Prop:=(∃ kvs,Rd H a (.dK kvs))∨∃ kvs,Rd H a (.dT kvs)
theorem isD_at{X:Cx}{pins:List (Addr×Obj)}{σ:St}{H:Hp}{s:Shared}{a:Addr}(I:Inv X pins σ H s)(d:IsD H a) :
  s.TypeIs (.ref a) "dict"∧(∀ b,Value.ref a=.ref b→∃ ob,s.heap.get? b=some ob∧ob.dict=none)∧(a == sysModules)=false:=by
 rcases d with ⟨kvs,e⟩ | ⟨kvs,e⟩
 ·obtain⟨_,hd,vs,_,dd⟩:=dk_rd I.hok e;refine⟨dd.typeIs,fun b q=>?_,hd⟩;cases q;obtain⟨ob,_,_,h1,h2,_⟩:=dd;exact⟨ob,h1,h2.2.1⟩
 ·obtain⟨_,hd,xs,_,dd⟩:=dt_rd I.hok e;refine⟨dd.typeIs,fun b q=>?_,hd⟩;cases q;obtain⟨ob,_,_,h1,h2,_⟩:=dd;exact⟨ob,h1,h2.2.1⟩
section
variable {X:Cx} {pins:List (Addr×Obj)} {σ:St} {H:Hp} {s:Shared} {a:Addr} {y d:V} {u r:Value} {o:Option V} {A:Around} {E:Value→Shared→Prop}
theorem d_get2{Q:Value→Shared→Prop}(hu:A.units+1<cLine)(I:Inv X pins σ H s)(g:DGet H a y o)(ry:RelV y u)(rd:RelV d r)(h:∀ w' s',Inv X pins σ H s'→RelV (o.getD d) w'→Q w' s') :
  wpAny (model X.prog X.w) A (call (.builtin "dict.get") [.ref a,u,r]) Q E s:=by
 rcases g with ⟨kvs,k,e,ey,l⟩ | ⟨kvs,k,b,e,ey,eb,l⟩
 ·subst ey;obtain⟨z,hd,vs,rel,dd⟩:=dk_rd I.hok e;refine call_meetsIn PySem.F.slot_dict_get dd.typeIs PySem.F.entry_dict_get (PySem.F.args_dict_get_3 _ _ _) (meets_dict_get_default (mixKind X.prog X.w) a (kV_is ry) hd r) ⟨_,dd.mapOf,h _ _ (I.tok _) ?_⟩;rw[l];exact (rel.val k).getD rd
 ·subst ey;cases (show u=Value.ref b from ry);obtain⟨z,hd,xs,rel,dd⟩:=dt_rd I.hok e;refine call_meetsIn PySem.F.slot_dict_get dd.typeIs PySem.F.entry_dict_get (PySem.F.args_dict_get_3 _ _ _) (meetsH_dict_get_default (tupleKind (mixKind X.prog X.w)) a b hd r) ⟨tupleKind_room_in1 hu,k,xs,key_of I.hok eb,dd,h _ _ (I.tok _) ?_⟩;rw[l];exact (rel.val k).getD rd
end
def tDGet2(td ty tx:TE):TE:=fun σ H Q=>td σ H fun x H1=>∃ a,x=.ref a∧IsD H1 a∧ty σ H1 fun y H2=>tx σ H2 fun z H3=>∃ o,DGet H3 a y o∧Q (o.getD z) H3
section
variable {X:Cx} {o e f:Expr} {apos cpos:Pos} {td ty tx:TE}
theorem pe_dget2(hu:X.A.units+1<cLine)(ho:PE X o td)(he:PE X e ty)(hf:PE X f tx)(m:M2 X o "get" apos e f cpos):PE X (.Call (.Attribute o "get" apos) [e,f] [] cpos) (tDGet2 td ty tx):=by
 intro pins s σ H Q I h;refine wpAny_Call_method m.base m.few m.line PySem.F.plainAttrs_dict PySem.F.slot_dict_get PySem.F.type_dict_get (thn (ho pins s σ H _ I h) fun u s1 hZr=>?_);obtain⟨x,H1,I1,rx,a,ex,d,q1⟩:=hZr;subst ex;obtain rfl:u=Value.ref a:=rx;obtain⟨t1,t2,_⟩:=isD_at I1 d;refine⟨t1,t2,?_⟩;rw[m.trees]
 refine Calls.callWith_builtin rfl (Calls.evalArgs_plain (Calls.spliced_cons (thn (he pins s1 σ H1 _ I1 q1) fun iv s2 ⟨y,H2,I2,ry,q2⟩ =>
  Calls.spliced_cons (thn (hf pins s2 σ H2 _ I2 q2) fun fv s3 ⟨z,H3,I3,rz,ov,g,q3⟩=>Calls.spliced_nil ?_))))
 exact d_get2 hu I3 g ry rz fun w' s4 I4 rw'=>⟨_,H3,I4,rw',q3⟩
end
section
variable {X:Cx} {pins:List (Addr×Obj)} {σ:St} {H:Hp} {s:Shared} {a:Addr} {kvs:List (Key×V)} {A:Around} {E:Value→Shared→Prop}
end
section
variable {X:Cx} {pins:List (Addr×Obj)} {σ:St} {H:Hp} {s:Shared} {a:Addr} {y:V} {u:Value} {A:Around} {E:Value→Shared→Prop}
end
end L2
namespace TT
open PySem PySem.Spec PyProof.Rows L2
mutual
def D.plain:D→Bool
 | .int _=>true
 | .str _=>true
 | .tup ds=>plains ds
 | .lst _=>false
 | .bl _=>false
 | .non=>false
def plains:List D→Bool
 | []=>true
 | d::ds=>d.plain && plains ds
end
def KeyD(d:D):Prop:=d.plain=true∧d.deep≤8∧∃ ds,d=.tup ds
mutual
theorem krep_of{P:Program}{w:World}{G H:Hp}{h:Heap}(ok:HOk P w H h)(sm:Same G H):∀ {v:V} {d:D} {u:Value},Rep G v d→d.plain=true→RelV v u→KRep h d u
 | _,_,_,.int i,_,r=>by obtain⟨t,rfl⟩:=(show ∃ t,_=Value.int i t from r); exact .int i t
 | _,_,_,.str x,_,r=>by obtain⟨t,rfl⟩:=(show ∃ t,_=Value.str x t from r); exact .str x t
 | _,_,_,.bl b,hp,_=>nomatch hp
 | _,_,_,.non,hp,_=>nomatch hp
 | _,_,_,.lst _ _,hp,_=>nomatch hp
 | _,_,_,.tup (a:=a) (vs:=vs) (ds:=ds) e t,hp,r=>by
  cases r;obtain⟨_,its,rv,o,h1,h2,n,h3⟩:=ok a _ (sm _ _ e);exact .tup h1 h2 h3 (by simpa using kreps_of ok sm t hp rv)
theorem kreps_of{P:Program}{w:World}{G H:Hp}{h:Heap}(ok:HOk P w H h)(sm:Same G H):∀ {vs:List V} {ds:List D} {us:List Value},Reps G vs ds→plains ds=true→Vals vs us→KReps h ds us
 | _,_,_,.nil,_,r=>by cases r; exact .nil
 | _,_,_,.cons r t,hp,q=>by
  rw[plains,Lj4] at hp
  cases q with
  | cons q1 q2=>exact .cons (krep_of ok sm r hp.1 q1) (kreps_of ok sm t hp.2 q2)
end
abbrev NTab:=List (D×Addr×V)
def NRel(xs:NTab)(ys:List (D×Addr×Value)):Prop:=Paired (fun (p:D×Addr×V) (q:D×Addr×Value)=>p.1=q.1∧p.2.1=q.2.1∧RelV p.2.2 q.2.2) xs ys
def NO(P:Program)(w:World)(a:Addr)(xs:NTab):HO:=.ext fun h=>xs.length≤sizeLine∧(a == sysModules)=false∧∃ (ys:List (D×Addr×Value)) (o:Obj) (es:Array DictEntry) (ep:Nat),NRel xs ys∧h.get? a=some o∧o.ExactDict∧o.data=.dict es ep ∧
 es.toList=ys.map (entryOfKey (nestKind P w))∧(ys.map (·.1)).Nodup
def look(xs:NTab)(k:D):Option V:=(xs.find? fun x=>decide (x.1=k)).map (·.2.2)
def putN(xs:NTab)(k:D)(b:Addr)(v:V):NTab:=if (look xs k).isSome=true then xs.map (fun x=>if x.1=k then (x.1,x.2.1,v) else x) else xs++[(k,b,v)]
def NKeys(G:Hp)(xs:NTab):Prop:=∀ x∈xs,Rep G (.ref x.2.1) x.1∧KeyD x.1
theorem NKeys.mono{G G':Hp}{xs:NTab}(h:NKeys G xs)(s:Same G G'):NKeys G' xs:=fun x hx=>⟨(h x hx).1.mono s,(h x hx).2⟩
theorem nrel_look{xs:NTab}{ys:List (D×Addr×Value)}(r:NRel xs ys)(k:D):RelO (look xs k) ((atKey ys k).map (·.2)):=by
 unfold NRel at r
 induction r with
 | nil=>exact True.intro
 | @cons p q ps qs h t ih =>
  obtain⟨h1,_,h2⟩:=h
  by_cases e:p.1=k
  ·have e':q.1=k:=h1.symm.trans e;have a:look (p::ps) k=some p.2.2:=by simp[look,List.find?_cons,e]
   have b:atKey (q::qs) k=some q.2:=by simp[atKey,List.find?_cons,e']
   rw[a,b]; exact h2
  ·have e':¬ q.1=k:=fun z=>e (h1.trans z);have a:look (p::ps) k=look ps k:=by simp[look,List.find?_cons,e]
   have b:atKey (q::qs) k=atKey qs k:=by simp[atKey,List.find?_cons,e']
   rw[a,b]; exact ih
theorem look_put(xs:NTab)(k:D)(b:Addr)(v:V)(j:D):look (putN xs k b v) j=if j=k then some v else look xs j:=by
 unfold putN
 by_cases hs:(look xs k).isSome=true
 ·rw[if_pos hs]
  have key:∀ l:NTab,look (l.map fun x=>if x.1=k then (x.1,x.2.1,v) else x) j=if j=k then (look l j).map (fun _=>v) else look l j:=by
   intro l
   induction l with
   | nil=>split <;> rfl
   | cons x l ih =>
    by_cases h1:x.1=k
    ·by_cases h2:j=k
     ·subst h2;simp[look,List.find?_cons,h1]
     ·have h3:¬ x.1=j:=fun z=>h2 (z.symm.trans h1);rw[if_neg h2] at ih ⊢;have a:look (x::l) j=look l j:=by simp[look,List.find?_cons,h3]
      rw[a,← ih,Lc2,if_pos h1];simp[look,List.find?_cons,h3]
    ·by_cases h3:x.1=j
     ·have h2:¬ j=k:=fun z=>h1 (h3.trans z);rw[if_neg h2,Lc2,if_neg h1];simp[look,List.find?_cons,h3]
     ·have a:look (x::l) j=look l j:=by simp[look,List.find?_cons,h3]
      rw[a,← ih,Lc2,if_neg h1];simp[look,List.find?_cons,h3]
  rw[key]
  by_cases h2:j=k
  ·subst h2;rw[if_pos rfl,if_pos rfl]
   cases e:look xs j with
   | none=>rw[e] at hs; cases hs
   | some u=>rfl
  ·rw[if_neg h2,if_neg h2]
 ·rw[if_neg hs]
  by_cases h2:j=k
  ·subst h2;rw[if_pos rfl]
   have hn:xs.find? (fun x=>decide (x.1=j))=none:=by
    cases e:xs.find? (fun x=>decide (x.1=j)) with
    | none=>rfl
    | some u=>exfalso; apply hs; unfold look; rw[e]; rfl
   unfold look;rw[List.find?_append,hn];simp
  ·rw[if_neg h2]
   have:¬ k=j:=fun z=>h2 z.symm;unfold look;rw[List.find?_append];simp[List.find?_cons,this]
theorem NRel.put{xs:NTab}{ys:List (D×Addr×Value)}(r:NRel xs ys)(k:D)(b:Addr){v:V}{u:Value}(rv:RelV v u):NRel (putN xs k b v) (storedH ys k b u):=by
 have e:(look xs k).isSome=(atKey ys k).isSome:=by rw[(nrel_look r k).isSome_eq,Lk4]
 unfold putN storedH;rw[e]
 by_cases q:(atKey ys k).isSome=true
 ·rw[if_pos q,if_pos q];clear e q;unfold NRel at r ⊢
  induction r with
  | nil=>exact .nil
  | @cons p q ps qs h t ih =>
   rw[Lc2,Lc2];refine .cons ?_ ih;obtain⟨h1,h2,h3⟩:=h;unfold putAt
   by_cases e:p.1=k
   ·rw[if_pos e,if_pos (h1.symm.trans e)]; exact⟨h1,h2,rv⟩
   ·rw[if_neg e,if_neg (fun z=>e (h1.trans z))]; exact⟨h1,h2,h3⟩
 ·rw[if_neg q,if_neg q]; exact Paired.snoc r ⟨rfl,rfl,rv⟩
theorem length_putN(xs:NTab)(k:D)(b:Addr)(v:V):(putN xs k b v).length≤xs.length+1:=by
 unfold putN
 split
 ·rw[La1]; omega
 ·rw[La2,Lb2]; exact La4 _
theorem NKeys.put{G:Hp}{xs:NTab}{k:D}{b:Addr}(h:NKeys G xs)(hk:Rep G (.ref b) k)(hd:KeyD k)(v:V):NKeys G (putN xs k b v):=by
 intro x hx;unfold putN at hx
 split at hx
 ·obtain⟨y,hy,rfl⟩:=Lc3.mp hx
  by_cases e:y.1=k
  ·rw[if_pos e]; exact h y hy
  ·rw[if_neg e]; exact h y hy
 ·rcases Lb9.mp hx with q | q
  ·exact h x q
  ·rw[Lc8.mp q];exact⟨hk,hd⟩
section
variable {X:Cx} {pins:List (Addr×Obj)} {σ:L2.St} {G H:Hp} {s:Shared} {a b:Addr} {xs:NTab} {k:D}
theorem nd_obj(I:Inv X pins σ H s)(e:H a=some (NO X.prog X.w a xs))(sm:Same G H)(hk:NKeys G xs):xs.length≤sizeLine∧(a == sysModules)=false∧∃ ys,NRel xs ys∧s.heap.DictOfH (nestKind X.prog X.w) a ys:=by
 obtain⟨⟨hz,hd,ys,o,es,ep,r,h1,h2,h3,h4,h5⟩,_,_⟩:=(show ObjOk X.prog X.w H s.heap a (NO X.prog X.w a xs) from I.hok a _ e);refine⟨hz,hd,ys,r,o,es,ep,h1,h2,h3,h4,?_,h5⟩
 have all:∀ {l:NTab} {m:List (D×Addr×Value)},NRel l m→(∀ x∈l,Rep G (.ref x.2.1) x.1∧KeyD x.1)→∀ x∈m,(nestKind X.prog X.w).is s.heap x.1 x.2.1:=by
  intro l m q;unfold NRel at q
  induction q with
  | nil=>intro _ x hx; exact nomatch hx
  | @cons p q ps qs hq t ih =>
   intro hl x hx
   rcases Lb6.mp hx with e | hx
   ·subst e;obtain⟨rk,h1,h2,_⟩:=hl p (La7 ..);rw[← hq.1,← hq.2.1];exact⟨krep_of I.hok sm rk h1 rfl,h2⟩
   ·exact ih (fun y hy=>hl y (Lb0 _ hy)) x hx
 exact all r hk
theorem nd_key(I:Inv X pins σ H s)(sm:Same G H)(r:Rep G (.ref b) k)(hk:KeyD k):(nestKind X.prog X.w).is s.heap k b:=⟨krep_of I.hok sm r hk.1 rfl,hk.2.1⟩
theorem nd_type(I:Inv X pins σ H s)(e:H a=some (NO X.prog X.w a xs)):s.TypeIs (.ref a) "dict":=by
 obtain⟨⟨hz,hd,ys,o,es,ep,r,h1,h2,h3,h4,h5⟩,_,_⟩:=(show ObjOk X.prog X.w H s.heap a (NO X.prog X.w a xs) from I.hok a _ e);exact⟨o,h1,h2.1⟩
theorem no_ok{P:Program}{w:World}{H':Hp}{h':Heap}{ys:List (D×Addr×Value)}(hz:xs.length≤sizeLine)(hd:(a == sysModules)=false)(r:NRel xs ys)(dd:h'.DictOfH (nestKind P w) a ys):ObjOk P w H' h' a (NO P w a xs):=by
 obtain⟨o,es,ep,h1,h2,h3,h4,_,h5⟩:=dd;refine⟨⟨hz,hd,ys,o,es,ep,r,h1,h2,h3,h4,h5⟩,⟨o,h1⟩,fun g1 g2 ⟨z1,z2,ys',o',es',ep',r',k1,k2⟩ k=>⟨z1,z2,ys',o',es',ep',r',k _ k1,k2⟩⟩
end
inductive NGetR(P:Program)(w:World)(Q:VK)(x y:V)(H2:Hp):Prop
 | mk (a b:Addr) (xs:NTab) (G:Hp) (k:D) (v:V) (e:x=.ref a) (e':y=.ref b) (h:H2 a=some (NO P w a xs)) (sm:Same G H2) (nk:NKeys G xs) (r:Rep G (.ref b) k) (kd:KeyD k) (l:look xs k=some v) (q:Q v H2):NGetR P w Q x y H2
inductive NInR(P:Program)(w:World)(neg:Bool)(Q:VK)(x y:V)(H2:Hp):Prop
 | mk (a b:Addr) (xs:NTab) (G:Hp) (k:D) (e:x=.ref a) (e':y=.ref b) (h:H2 a=some (NO P w a xs)) (sm:Same G H2) (nk:NKeys G xs) (r:Rep G (.ref b) k) (kd:KeyD k) (q:Q (.bl (if neg=true then !(look xs k).isSome else (look xs k).isSome)) H2):NInR P w neg Q x y H2
inductive NPutR(P:Program)(w:World)(De:Ends)(σ:L2.St)(v x y:V)(H3:Hp):Prop
 | mk (a b:Addr) (xs:NTab) (G:Hp) (k:D) (e:x=.ref a) (e':y=.ref b) (h:H3 a=some (NO P w a xs)) (sm:Same G H3) (nk:NKeys G xs) (r:Rep G (.ref b) k) (kd:KeyD k) (l:xs.length<sizeLine) (q:De.nx σ (upd H3 a (NO P w a (putN xs k b v)))):NPutR P w De σ v x y H3
def tNGet(P:Program)(w:World)(td ty:TE):TE:=fun σ H Q=>td σ H fun x H1=>ty σ H1 fun y H2=>NGetR P w Q x y H2
def tNIn(P:Program)(w:World)(ty td:TE):TE:=fun σ H Q=>ty σ H fun y H1=>td σ H1 fun x H2=>NInR P w false Q x y H2
def tNNotIn(P:Program)(w:World)(ty td:TE):TE:=fun σ H Q=>ty σ H fun y H1=>td σ H1 fun x H2=>NInR P w true Q x y H2
def sNPut(P:Program)(w:World)(td ty tv:TE):TS:=fun De σ H=>tv σ H fun v H1=>td σ H1 fun x H2=>ty σ H2 fun y H3=>NPutR P w De σ v x y H3
def tNNew(P:Program)(w:World):TE:=fun _ H Q=>∀ p,H p=none→Q (.ref p) (upd H p (NO P w p []))
section
variable {X:Cx} {o i e value:Expr} {pos pos' tpos:Pos} {td ty tv:TE}
theorem pe_nnew:PE X (.Dict [] [] pos) (tNNew X.prog X.w):=fun pins s σ H Q I h =>
 wpAny_Dict_empty ⟨.ref s.heap.objs.size,_,I.laid (a:=s.heap.objs.size) (o:=NO X.prog X.w s.heap.objs.size []) (t':=s.toks) (fun _ _ q=>Heap.get?_push_of_some _ q) (La4 _) (no_ok (Lb1 _) (beq_eq_false_iff_ne.mpr (Ne.symm (Lc4 I.big))) .nil (Heap.DictOfH.new s.heap)),rfl,h _ (I.hok.fresh (La4 _))⟩
theorem pe_nget(hu:X.A.units+9<cLine)(ho:PE X o td)(hi:PE X i ty)(hs:NoSl i):PE X (.Subscript o i pos) (tNGet X.prog X.w td ty):=by
 intro pins s σ H Q I h;refine subD_of PySem.F.slot_dict_getitem.lookup hs (thn (ho pins s σ H _ I h) fun u s1 ⟨x,H1,I1,rx,q1⟩=>thn (hi pins s1 σ H1 _ I1 q1) fun iv s2 hZr=>?_);obtain⟨y,H2,I2,ry,a,b,xs,G,k,v,ex,ey,ea,sm,hk,rk,hkd,hl,q2⟩:=hZr;subst ex ey;obtain rfl:u=Value.ref a:=rx;obtain rfl:iv=Value.ref b:=ry;obtain⟨_,_,ys,r,dd⟩:=nd_obj I2 ea sm hk;obtain⟨w',hw,rw'⟩:=RelO.some_of (v:=v) (o:=(atKey ys k).map (·.2)) (by rw[← hl]; exact nrel_look r k);obtain⟨p,hp,hp2⟩:=Lf4.mp hw;refine⟨nd_type I2 ea,wpAny_getItem_heap (knd:=nestKind X.prog X.w) (show X.A.units+1+8<cLine by omega) (nd_key I2 sm rk hkd) dd hp ?_⟩;rw[hp2];exact⟨v,H2,I2.tok _,rw',q2⟩
theorem pc_nin(hu:X.A.units+9<cLine)(hi:PE X i ty)(ho:PE X o td):PC X .In i o (tNIn X.prog X.w ty td):=by
 intro pins s σ H Q I h;refine thn (hi pins s σ H _ I h) fun iv s1 ⟨y,H1,I1,ry,q1⟩=>thn (ho pins s1 σ H1 _ I1 q1) fun u s2 hZr=>?_;obtain⟨x,H2,I2,rx,a,b,xs,G,k,ex,ey,ea,sm,hk,rk,hkd,q2⟩:=hZr;subst ex ey;obtain rfl:u=Value.ref a:=rx;obtain rfl:iv=Value.ref b:=ry;obtain⟨_,hd,ys,r,dd⟩:=nd_obj I2 ea sm hk;refine wpAny_in_heap (knd:=nestKind X.prog X.w) (show X.A.units+1+8<cLine by omega) (nd_key I2 sm rk hkd) hd dd ?_;have q:=(nrel_look r k).isSome_eq;rw[Lk4] at q;rw[← q];exact⟨.bl (look xs k).isSome,H2,I2.tok _,rfl,q2⟩
theorem pc_nnotin(hu:X.A.units+9<cLine)(hi:PE X i ty)(ho:PE X o td):PC X .NotIn i o (tNNotIn X.prog X.w ty td):=by
 intro pins s σ H Q I h;refine thn (hi pins s σ H _ I h) fun iv s1 ⟨y,H1,I1,ry,q1⟩=>thn (ho pins s1 σ H1 _ I1 q1) fun u s2 hZr=>?_;obtain⟨x,H2,I2,rx,a,b,xs,G,k,ex,ey,ea,sm,hk,rk,hkd,q2⟩:=hZr;subst ex ey;obtain rfl:u=Value.ref a:=rx;obtain rfl:iv=Value.ref b:=ry;obtain⟨_,hd,ys,r,dd⟩:=nd_obj I2 ea sm hk;refine wpAny_notIn_heap (knd:=nestKind X.prog X.w) (show X.A.units+1+8<cLine by omega) (nd_key I2 sm rk hkd) hd dd ?_;have q:=(nrel_look r k).isSome_eq;rw[Lk4] at q;rw[← q];exact⟨.bl (!(look xs k).isSome),H2,I2.tok _,rfl,q2⟩
theorem ps_nput(hu:X.A.units+9<cLine)(ho:PE X o td)(hi:PE X i ty)(hv:PE X value tv)(hs:swapsWith value (some (.Subscript o i pos')) pos.line X.env=pure false) :
  PS X (.Assign [.Subscript o i pos'] value pos) (sNPut X.prog X.w td ty tv):=by
 intro pins s σ H De I h;refine wpAny_Assign_Subscript (thn (hv pins s σ H _ I h) fun r s1 ⟨v,H1,I1,rv,q1⟩=>thn (ho pins s1 σ H1 _ I1 q1) fun u s2 ⟨x,H2,I2,rx,q2⟩=>thn (hi pins s2 σ H2 _ I2 q2) fun iv s3 ⟨y,H3,I3,ry,a,b,xs,G,k,ex,ey,ea,sm,hk,rk,hkd,hlt,q3⟩=>?_) hs;subst ex ey;obtain rfl:u=Value.ref a:=rx;obtain rfl:iv=Value.ref b:=ry;obtain⟨hz,hd,ys,rr,dd⟩:=nd_obj I3 ea sm hk;have hl:(putN xs k b v).length≤sizeLine:=by have:=length_putN xs k b v; omega
 have hyl:xs.length=ys.length:=Paired.length rr;refine wpAny_setItem_heap (knd:=nestKind X.prog X.w) (hsz:=by omega) (show X.A.units+1+8<cLine by omega) (nd_key I3 sm rk hkd) dd fun h' dd' hs'=>?_;have he:∃ q,h'.get? a=some q:=let ⟨q,_,_,hq,_⟩:=dd'; ⟨q,hq⟩
 exact⟨σ,_,d_write I3 (by rw[ea]; exact True.intro) hs' he (no_ok hl hd (rr.put k b rv) dd'),q3⟩
end
section
variable {prog:Program} {w:World} {A:Around} {E:Value→Shared→Prop} {s:Shared}
theorem sorted_keys_rev{d:Addr}{es:Array DictEntry}{ep:Nat}{ps:List (Int×Int)}{Q:Value→Shared→Prop}(hh:A.in1.handled=none)(hd:(d == sysModules)=false)(hm:s.heap.RawDict d es ep)(h64:es.size<64)(x:Duos s.heap (es.toList.map (·.key)) ps)
  (h:∀ (p:Addr) (h':Heap) (tk:Nat) (c:Nat) (out:List Value) (qs:List (Int×Int)),s.heap.objs.size≤p→(∀ b o,s.heap.get? b=some o→h'.get? b=some o)→h'.get? p=some (seqObj "list" out.toArray c)→(∀ v∈out,v∈es.toList.map (·.key))→Duos h' out qs→qs.Perm ps→(qs.Pairwise fun p q=>plt p q=false) →
   Q (.ref p) { s with heap:=h',toks:=tk }) :
  wpAny (model prog w) A (call (.builtin "sorted") [.ref d] [(Str.ofString "reverse",.bool true)]) Q E s:=by
 refine call_function_entry_kw kind_sorted plain_sorted entry_sorted (args_sorted_rev _ _) ?_;unfold Builtin.«sorted»;refine wpAny_bind (m:=checkCount "sorted" 1 1 _) (wpAny_pure ?_);refine wpAny_bind (raw_collect hh hd hm (by rw[sizeLine_eq]; omega) fun h1 tk k1 hlt1=>?_);have hlen:(es.toList.map (·.key)).length<64:=by rw[La1,Lc1]; exact h64
 generalize es.toList.map (·.key)=ks at *;refine wpAny_bind (wpAny_newList (items:=ks) ?_ (by rw[sizeLine_eq]; omega));have hoL:(h1.push (seqObj "list" ks.toArray 0)).get? h1.objs.size=some (seqObj "list" ks.toArray 0):=Heap.get?_push_size _ rfl;have k2:∀ b o,s.heap.get? b=some o→(h1.push (seqObj "list" ks.toArray 0)).get? b=some o:=fun b o e=>Heap.get?_push_of_some _ (k1 b o e);have x2:Duos (h1.push (seqObj "list" ks.toArray 0)) ks ps:=x.keep fun b o _ e=>k2 b o e
 show wpAny _ _ _ _ _ { s with heap:=h1.push (seqObj "list" ks.toArray 0),toks:=tk }
 refine wpAny_bind (wpAny_holding (wpAny_call_entry_kw slot_list_sort ⟨_,hoL,rfl⟩ entry_list_sort (duo_sort_rev (s:={ s with heap:=h1.push (seqObj "list" ks.toArray 0),toks:=tk }) hoL hlen x2 fun out qs a0 a1 a2 a3=>⟨_,rfl,?_⟩) (args_list_sort_rev _ _)))
 refine wpAny_pure ⟨_,rfl,?_⟩;have hsz:=Lg8 hlt1;obtain⟨c,hc⟩:=sortedHeap_at (out:=out.toArray) hoL
 have kk:∀ b o,b≠h1.objs.size→(h1.push (seqObj "list" ks.toArray 0)).get? b=some o→(sortedHeap (h1.push (seqObj "list" ks.toArray 0)) h1.objs.size ks out.toArray).get? b=some o:=fun b o hb e=>by
  rw[sortedHeap_old hb (Heap.lt_size e)]; exact e
 refine h _ _ tk c out qs hsz (fun b o e=>kk b o (Lc4 (Lb7 (Heap.lt_size e) hsz)) (k2 b o e)) hc a0 (a1.keep fun b o hcls e=>kk b o (fun z=>?_) e) a2 a3;subst z;rw[hoL] at e;cases e;exact absurd (show Value.type "list"=Value.type "tuple" from hcls) (by decide)
end
theorem Rep.pair'{G:Hp}{v:V}{s:Nat×Nat}(r:Rep G v (pairD s)):∃ a,v=.ref a∧G a=some (.tup [.int (s.1:Int),.int (s.2:Int)]):=by
 cases r with
 | tup h rs =>
  cases rs with
  | cons r1 rs =>
   cases rs with
   | cons r2 rs=>cases rs; cases r1; cases r2; exact⟨_,rfl,h⟩
def intP(p:Nat×Nat):Int×Int:=((p.1:Int),(p.2:Int))
def rSortR(P:Program)(w:World):List V→Hp→VK→Prop:=fun vs H1 Q=>∃ (a:Addr) (xs:NTab) (G:Hp) (ps:List (Nat×Nat)),vs=[.ref a]∧H1 a=some (NO P w a xs)∧Same G H1∧NKeys G xs∧xs.map (·.1)=ps.map pairD∧ps.length<64 ∧
 ∀ (l:Addr) (vs:List V) (qs:List (Nat×Nat)),H1 l=none→Reps G vs (qs.map pairD)→qs.Perm ps→Desc qs→Q (.ref l) (upd H1 l (.lst vs))
section
variable {X:Cx} {e:Expr} {t:TE} {t':TA} {p pos kp cp:Pos} {k:Nat}
theorem duos_of{P:Program}{w:World}{G H:Hp}{h:Heap}(ok:HOk P w H h)(sm:Same G H):∀ {xs:NTab} {ys:List (D×Addr×Value)} {ps:List (Nat×Nat)},NRel xs ys→NKeys G xs→xs.map (·.1)=ps.map pairD→Duos h (ys.map fun y=>Value.ref y.2.1) (ps.map intP)
 | _,_,[],.nil,_,_=>.nil
 | _,_,q::ps,.nil,_,e=>nomatch e
 | _,_,[],.cons _ _,_,e=>nomatch e
 | x::xs,y::ys,q::ps,.cons r t,nk,e=>by
  rw[Lc2,Lc2,List.cons.injEq] at e;have rk:=(nk x La7).1;rw[e.1] at rk;refine .cons ?_ (duos_of ok sm t (fun z hz=>nk z (Lb0 _ hz)) e.2)
  cases rk with
  | tup hG rs =>
   cases rs with
   | cons r1 rs =>
    cases rs with
    | cons r2 rs =>
     cases rs;cases r1;cases r2;obtain⟨_,its,rv,o,h1,h2,n,h3⟩:=ok _ _ (sm _ _ hG)
     cases rv with
     | cons q1 rv =>
      cases rv with
      | cons q2 rv =>
       cases rv;obtain⟨t1,rfl⟩:=q1;obtain⟨t2,rfl⟩:=q2;refine⟨x.2.1,o,n,t1,t2,by rw[r.2.1],h1,h2,h3⟩
theorem duos_back{G:Hp}{h:Heap}:∀ {out:List Value} {qs:List (Nat×Nat)},Duos h out (qs.map intP)→(∀ v∈out,∃ (a:Addr) (o:Obj) (n:Nat) (t u:Tok) (q:Nat×Nat),v=.ref a∧G a=some (.tup [.int (q.1:Int),.int (q.2:Int)])∧h.get? a=some o∧o.data=.seq #[.int (q.1:Int) t,.int (q.2:Int) u] n) →
  ∃ vs:List V,Vals vs out∧Reps G vs (qs.map pairD)
 | _,[],.nil,_=>⟨[],.nil,.nil⟩
 | _,q::qs,.cons r t,m=>by
  obtain⟨vs,h1,h2⟩:=duos_back t fun z hz=>m z (Lb0 _ hz);obtain⟨a,o,n,t1,u1,rfl,e1,e2,e3⟩:=r;obtain⟨a',o',n',t2,u2,q',ea,g1,g2,g3⟩:=m _ La7;cases ea;rw[e1] at g2;cases g2;rw[e3] at g3;injection g3 with g4 g5
  have g6:=congrArg Array.toList g4;simp only[List.cons.injEq,Value.int.injEq,and_true] at g6;have ha:((intP q).1:Int)=q'.1:=g6.1.1;have hb:((intP q).2:Int)=q'.2:=g6.2.1;have e9:q=q':=Prod.ext (Int.ofNat_inj.mp ha) (Int.ofNat_inj.mp hb);subst e9;exact⟨.ref a::vs,.cons rfl h1,.cons (.tup g1 (.cons (.int _) (.cons (.int _) .nil))) h2⟩
theorem perm_pull{α β:Type}{f:α→β}:∀ {qs:List β} {ps:List α},qs.Perm (ps.map f)→∃ qs':List α,qs=qs'.map f∧qs'.Perm ps:=by
 intro qs ps h;generalize hl:ps.map f=l at h
 replace h:=h.symm
 induction h generalizing ps with
 | nil=>cases ps with
  | nil=>exact⟨[],rfl,.refl _⟩
  | cons _ _=>cases hl
 | cons x _ ih=>cases ps with
  | nil=>cases hl
  | cons y ys =>
   rw[Lc2,List.cons.injEq] at hl;obtain⟨q,rfl,hp⟩:=ih hl.2
   exact⟨y::q,by rw[← hl.1]; rfl,.cons _ hp⟩
 | swap x y l=>match ps,hl with
  | a::b::ps,hl =>
   rw[Lc2,Lc2,List.cons.injEq,List.cons.injEq] at hl
   exact⟨b::a::ps,by rw[← hl.1,← hl.2.1,← hl.2.2]; rfl,.swap _ _ _⟩
 | trans _ _ ih1 ih2 =>
  obtain⟨q,e,hp⟩:=ih1 hl;obtain⟨q2,e2,hp2⟩:=ih2 e.symm;exact⟨q2,e2,hp2.trans hp⟩
theorem desc_of{qs:List (Nat×Nat)}(h:(qs.map intP).Pairwise fun p q=>plt p q=false):Desc qs:=by
 rw[Lf8] at h;refine h.imp fun {a b} k=>?_;unfold plt intP at k;dsimp only at k
 split at k
 ·next e=>have:=of_decide_eq_false k; right; omega
 ·next e=>have:=of_decide_eq_false k; left; omega
theorem pe_sortedRev{x:Str}{fp:Pos}(hg:Gl X "sorted")(hm:X.mg "sorted"=none)(hh:X.A.handled=none)(ha:PA X [.Name x fp] t'):PE X (.Call (.Name "sorted" p) [.Name x fp] [⟨some "reverse",.Constant (.bool true) k cp,kp⟩] pos) (tCB (rSortR X.prog X.w) t'):=by
 intro pins s σ H Q I h;refine wpAny_Call_Name_kw (ld_blt I hg hm bt_sorted ?_ (by decide) (by decide));refine callWith_kw (thn (ha pos pins s σ H _ I h) fun us s1 hZr=>?_);obtain⟨vs,H1,I1,r1,a,xs,G,ps,ev,ea,sm,nk,ek,h64,q1⟩:=hZr;subst ev;obtain⟨u,rfl,rx⟩:=vals1 r1;obtain rfl:u=Value.ref a:=rx;refine kws_cons (thn ((pe_bl (b:=true) (X:=X)) pins s1 σ H1 (fun v H2=>v=.bl true∧H2=H1) I1 ⟨rfl,rfl⟩) fun bv s2 ⟨v,H2,I2,rv,ev,eH⟩=>kws_nil ?_);subst ev eH;obtain rfl:bv=Value.bool true:=rv;obtain⟨⟨hz,hd,ys,o,es,ep,r,h1,h2,h3,h4,h5⟩,_,_⟩:=(show ObjOk X.prog X.w H2 s2.heap a (NO X.prog X.w a xs) from I2.hok a _ ea);have hxl:xs.length=ps.length:=by simpa using congrArg List.length ek
 have hyl:xs.length=ys.length:=Paired.length r;have hes:es.size=ys.length:=by rw[← Lc1,h4,La1]
 have ekeys:es.toList.map (·.key)=ys.map fun y=>Value.ref y.2.1:=by rw[h4,Ld7]; rfl
 have dd:=duos_of I2.hok sm r nk ek;refine sorted_keys_rev (ps:=ps.map intP) (show X.A.handled=none from hh) hd ⟨o,h1,h2,h3⟩ (by omega) (by rw[ekeys]; exact dd) fun p h' tk c out qs hp kp e hmem a1 a2 a3=>?_;rw[ekeys] at hmem;obtain⟨qs,rfl,a9⟩:=perm_pull a2
 have mem:∀ v∈out,∃ (a:Addr) (o:Obj) (n:Nat) (t u:Tok) (q:Nat×Nat),v=.ref a∧G a=some (.tup [.int (q.1:Int),.int (q.2:Int)])∧h'.get? a=some o∧o.data=.seq #[.int (q.1:Int) t,.int (q.2:Int) u] n:=by
  intro v hv;obtain⟨y,hy,rfl⟩:=Lc3.mp (hmem v hv)
  obtain⟨x,hx,rxy⟩:∃ x∈xs,x.2.1=y.2.1:=by
   have key:∀ {l:NTab} {m:List (D×Addr×Value)},NRel l m→∀ y∈m,∃ x∈l,x.2.1=y.2.1:=by
    intro l m q;unfold NRel at q
    induction q with
    | nil=>intro y hy; exact nomatch hy
    | cons hq t ih =>
     intro y hy
     rcases Lb6.mp hy with rfl | hy
     ·exact⟨_,La7,hq.2.1⟩
     ·obtain⟨x,hx,e⟩:=ih y hy;exact⟨x,Lb0 _ hx,e⟩
   exact key r y hy
  have hmx:x.1∈ps.map pairD:=by rw[← ek]; exact List.mem_map_of_mem hx
  obtain⟨q,_,eq⟩:=Lc3.mp hmx;have rk:=(nk x hx).1;rw[← eq] at rk;obtain⟨b,eb,hb⟩:=Rep.pair' rk;cases eb;obtain⟨_,its,rv,o',k1,k2,n,k3⟩:=I2.hok _ _ (sm _ _ hb)
  cases rv with
  | cons q1 rv =>
   cases rv with
   | cons q2 rv =>
    cases rv;obtain⟨t1,rfl⟩:=q1;obtain⟨t2,rfl⟩:=q2;exact⟨x.2.1,o',n,t1,t2,q,by rw[rxy],hb,kp _ _ k1,k3⟩
 obtain⟨vs,rvs,reps⟩:=duos_back (G:=G) a1 mem;have hvl:=rvs.length;have hql:=a1.length;rw[La1,a9.length_eq] at hql;exact⟨.ref p,_,I2.laid (t':=tk) (o:=.lst vs) kp hp ⟨by rw[sizeLine_eq]; omega,out,c,rvs,e⟩,rfl,q1 p vs qs (I2.hok.fresh hp) reps a9 (desc_of a3)⟩
end
end TT
namespace TT
open PySem L2
theorem fold_goal{g:Prop}(h:∀ Z':Prop,(g→Z')→Z'):g:=h g id
theorem seq_gen{a b:TS}{D:Ends}{σ:L2.St}{H:Hp}(h:∀ R:Ends,(∀ σ' H',b D σ' H'→R.nx σ' H')→(∀ v H',D.rt v H'→R.rt v H')→a R σ H):tSeq a b D σ H:=h { D with nx:=b D } (fun _ _ z=>z) (fun _ _ z=>z)
theorem for_listG{K:PySem.W.Frag}{a:Addr}{xs:List V}{g:TG}{tb:TS}{D:Ends}{σ:L2.St}{H:Hp}(Pv:Nat→L2.St→Hp→Prop)(h0:Pv 0 σ H)(hl:∀ i σ H,i≤xs.length→Pv i σ H→SqL K H a xs)
  (hs:∀ i x σ H,xs[i]?=some x→Pv i σ H→∀ R:Ends,(∀ σ' H',Pv (i+1) σ' H'→R.nx σ' H')→(∀ v H',D.rt v H'→R.rt v H')→g x σ H fun σ2 H2=>tb R σ2 H2) (hd:∀ σ H,Pv xs.length σ H→D.nx σ H) :
  ∃ W:Nat→Nat→L2.St→Hp→Prop,(∃ m,W 0 m σ H)∧∀ i m σ H,W i m σ H →
   ((Itl K a).stop i H∧D.nx σ H)∨((Itl K a).go i H∧∃ N:L2.St→Hp→Prop,(∀ σ' H',N σ' H'→∃ m',m'<m∧W (i+1) m' σ' H')∧∀ x H',(Itl K a).yld i H x H'→g x σ H' fun σ2 H2=>tb { D with nx:=N,ct:=N,bk:=D.nx } σ2 H2) :=
 for_list Pv h0 hl (fun i x σ H hi hp=>hs i x σ H hi hp _ (fun _ _ z=>z) (fun _ _ z=>z)) hd
theorem for_rangeG{lo:Int}{n:Nat}{g:TG}{tb:TS}{D:Ends}{σ:L2.St}{H:Hp}(Pv:Nat→L2.St→Hp→Prop)(h0:Pv 0 σ H)
  (hs:∀ i σ H,i<n→Pv i σ H→∀ R:Ends,(∀ σ' H',Pv (i+1) σ' H'→R.nx σ' H')→(∀ v H',D.rt v H'→R.rt v H')→g (.int (lo+i)) σ H fun σ2 H2=>tb R σ2 H2) (hd:∀ σ H,Pv n σ H→D.nx σ H) :
  ∃ W:Nat→Nat→L2.St→Hp→Prop,(∃ m,W 0 m σ H)∧∀ i m σ H,W i m σ H →
   ((Itr lo n).stop i H∧D.nx σ H)∨((Itr lo n).go i H∧∃ N:L2.St→Hp→Prop,(∀ σ' H',N σ' H'→∃ m',m'<m∧W (i+1) m' σ' H')∧∀ x H',(Itr lo n).yld i H x H'→g x σ H' fun σ2 H2=>tb { D with nx:=N,ct:=N,bk:=D.nx } σ2 H2) :=
 for_range Pv h0 (fun i σ H hi hp=>hs i σ H hi hp _ (fun _ _ z=>z) (fun _ _ z=>z)) hd
theorem for_revG{K:PySem.W.Frag}{a:Addr}{xs:List V}{g:TG}{tb:TS}{D:Ends}{σ:L2.St}{H:Hp}(Pv:Nat→L2.St→Hp→Prop)(h0:Pv 0 σ H)(stays:∀ i σ H,i≤xs.length→Pv i σ H→SqL K H a xs)
  (step:∀ i x σ H,xs[xs.length - 1 - i]?=some x→i<xs.length→Pv i σ H→∀ R:Ends,(∀ σ' H',Pv (i+1) σ' H'→R.nx σ' H')→(∀ v H',D.rt v H'→R.rt v H')→g x σ H fun σ2 H2=>tb R σ2 H2) (last:∀ σ H,Pv xs.length σ H→D.nx σ H) :
  ∃ W:Nat→Nat→L2.St→Hp→Prop,(∃ m,W 0 m σ H)∧∀ i m σ H,W i m σ H →
   ((Itv K a xs.length).stop i H∧D.nx σ H)∨((Itv K a xs.length).go i H∧∃ N:L2.St→Hp→Prop,(∀ σ' H',N σ' H'→∃ m',m'<m∧W (i+1) m' σ' H')∧∀ x H',(Itv K a xs.length).yld i H x H'→g x σ H' fun σ2 H2=>tb { D with nx:=N,ct:=N,bk:=D.nx } σ2 H2) :=
 for_rev Pv h0 stays (fun i x σ H hi hl hp=>step i x σ H hi hl hp _ (fun _ _ z=>z) (fun _ _ z=>z)) last
theorem for_enumG{K:PySem.W.Frag}{a:Addr}{xs:List V}{g:TG}{tb:TS}{D:Ends}{σ:L2.St}{H:Hp}(Pv:Nat→L2.St→Hp→Prop)(h0:Pv 0 σ H)(hl:∀ i σ H,i≤xs.length→Pv i σ H→SqL K H a xs)
  (hs:∀ i x σ H p,xs[i]?=some x→Pv i σ H→H p=none→∀ R:Ends,(∀ σ' H',Pv (i+1) σ' H'→R.nx σ' H')→(∀ v H',D.rt v H'→R.rt v H')→g (.ref p) σ (upd H p (.tup [.int i,x])) fun σ2 H2=>tb R σ2 H2) (hd:∀ σ H,Pv xs.length σ H→D.nx σ H) :
  ∃ W:Nat→Nat→L2.St→Hp→Prop,(∃ m,W 0 m σ H)∧∀ i m σ H,W i m σ H →
   ((Ite K a).stop i H∧D.nx σ H)∨((Ite K a).go i H∧∃ N:L2.St→Hp→Prop,(∀ σ' H',N σ' H'→∃ m',m'<m∧W (i+1) m' σ' H')∧∀ x H',(Ite K a).yld i H x H'→g x σ H' fun σ2 H2=>tb { D with nx:=N,ct:=N,bk:=D.nx } σ2 H2) :=
 for_enum Pv h0 hl (fun i x σ H p hi hp hn=>hs i x σ H p hi hp hn _ (fun _ _ z=>z) (fun _ _ z=>z)) hd
theorem len1{α:Type}{us:List α}(h:us.length=1):∃ a,us=[a]:=by
 cases us with
 | nil=>cases h
 | cons a r=>cases r with
  | nil=>exact⟨a,rfl⟩
  | cons b r=>cases h
theorem len2{α:Type}{us:List α}(h:us.length=2):∃ a b,us=[a,b]:=by
 cases us with
 | nil=>cases h
 | cons a r =>
  obtain⟨b,rfl⟩:=len1 (us:=r) (Nat.succ.inj h);exact⟨a,b,rfl⟩
theorem len3{α:Type}{us:List α}(h:us.length=3):∃ a b c,us=[a,b,c]:=by
 cases us with
 | nil=>cases h
 | cons a r =>
  obtain⟨b,c,rfl⟩:=len2 (us:=r) (Nat.succ.inj h);exact⟨a,b,c,rfl⟩
theorem len4{α:Type}{us:List α}(h:us.length=4):∃ a b c d,us=[a,b,c,d]:=by
 cases us with
 | nil=>cases h
 | cons a r =>
  obtain⟨b,c,d,rfl⟩:=len3 (us:=r) (Nat.succ.inj h);exact⟨a,b,c,d,rfl⟩
theorem len5{α:Type}{us:List α}(h:us.length=5):∃ a b c d e,us=[a,b,c,d,e]:=by
 cases us with
 | nil=>cases h
 | cons a r =>
  obtain⟨b,c,d,e,rfl⟩:=len4 (us:=r) (Nat.succ.inj h);exact⟨a,b,c,d,e,rfl⟩
end TT
namespace L2
open PySem PySem.Spec PyProof.Rows
def onV(o:Option (Option V))(k:V→Prop):Prop:=match o with
 | some (some v)=>k v
 | _=>False
def onI(x:V)(k:Int→Prop):Prop:=match x with
 | .int i=>k i
 | _=>False
def onR(x:V)(k:Addr→Prop):Prop:=match x with
 | .ref i=>k i
 | _=>False
def onB(x:V)(k:Bool→Prop):Prop:=match x with
 | .bl i=>k i
 | _=>False
def onC(vs:List V)(k:V→List V→Prop):Prop:=match vs with
 | v::r=>k v r
 | []=>False
def on1(vs:List V)(k:V→Prop):Prop:=match vs with
 | [v]=>k v
 | _=>False
theorem on1.ex{vs:List V}{k:V→Prop}(h:on1 vs k):∃ v,vs=[v]∧k v:=by
 cases vs with
 | nil=>exact h.elim
 | cons v r=>cases r with
  | nil=>exact⟨v,rfl,h⟩
  | cons _ _=>exact h.elim
theorem onV.ex{o:Option (Option V)}{k:V→Prop}(h:onV o k):∃ v,o=some (some v)∧k v:=by
 cases o with
 | none=>exact h.elim
 | some o=>cases o with
  | none=>exact h.elim
  | some v=>exact⟨v,rfl,h⟩
theorem onI.ex{x:V}{k:Int→Prop}(h:onI x k):∃ i,x=.int i∧k i:=by
 cases x <;> first | exact⟨_,rfl,h⟩ | exact False.elim h
theorem onR.ex{x:V}{k:Addr→Prop}(h:onR x k):∃ i,x=.ref i∧k i:=by
 cases x <;> first | exact⟨_,rfl,h⟩ | exact False.elim h
theorem onB.ex{x:V}{k:Bool→Prop}(h:onB x k):∃ i,x=.bl i∧k i:=by
 cases x <;> first | exact⟨_,rfl,h⟩ | exact False.elim h
theorem onC.ex{vs:List V}{k:V→List V→Prop}(h:onC vs k):∃ v r,vs=v::r∧k v r:=by
 cases vs with
 | nil=>exact h.elim
 | cons v r=>exact⟨v,r,rfl,h⟩
theorem iteTB{A B:Prop}(h:A):onB (.bl true) fun b=>if b=true then A else B:=h
theorem iteFB{A B:Prop}(h:B):onB (.bl false) fun b=>if b=true then A else B:=by show (if false=true then A else B); rw[if_neg Lb8]; exact h
def cVar(i:Nat):TE:=fun σ H Q=>onV σ[i]? fun v=>Q v H
def cI(C:Int→Int→Prop)(g:Int→Int→V):R2:=fun x y H Q=>onI x fun i=>onI y fun j=>C i j∧Q (g i j) H
def cI0(g:Int→Int→V):R2:=fun x y H Q=>onI x fun i=>onI y fun j=>Q (g i j) H
def cU(g:Int→V):V→Hp→VK→Prop:=fun x H Q=>onI x fun i=>Q (g i) H
def cPart(t:TE):TO:=fun σ H Q=>t σ H fun x H1=>onI x fun i=>Q (some i) H1
def cTest(t:TE):TT:=fun σ H Q=>t σ H fun x H'=>onB x fun k=>Q k H'
inductive IxL(K:PySem.W.Frag)(H:Hp)(Q:VK)(p:Addr)(i:Int):Prop
 | mk (xs:List V) (v:V) (h:SqL K H p xs) (e:atI xs i=some v) (q:Q v H):IxL K H Q p i
inductive IxT(K:PySem.W.Frag)(H:Hp)(Q:VK)(p:Addr)(i:Int):Prop
 | mk (xs:List V) (v:V) (h:SqT K H p xs) (e:atI xs i=some v) (q:Q v H):IxT K H Q p i
inductive SlL(K:PySem.W.Frag)(H:Hp)(Q:VK)(lo hi:Option Int)(a:Addr):Prop
 | mk (xs:List V) (h:SqL K H a xs) (k:∀ p,H p=none→Q (.ref p) (upd H p (.lst (cutV xs lo hi)))):SlL K H Q lo hi a
inductive SlT(K:PySem.W.Frag)(H:Hp)(Q:VK)(lo hi:Option Int)(a:Addr):Prop
 | mk (xs:List V) (h:SqT K H a xs) (n:¬ (HT.sIx xs.length 0 lo=0∧HT.sIx xs.length xs.length hi=xs.length)) (k:∀ p,H p=none→Q (.ref p) (upd H p (.tup (cutV xs lo hi)))):SlT K H Q lo hi a
inductive CatL(H:Hp)(Q:VK)(l b:Addr):Prop
 | mk (xs zs:List V) (h1:H l=some (.lst xs)) (h2:H b=some (.lst zs)) (hl:xs.length+zs.length≤sizeLine) (k:∀ p,H p=none→Q (.ref p) (upd H p (.lst (xs++zs)))):CatL H Q l b
inductive TupR(K:PySem.W.Frag)(n:Nat)(t:TGs)(σ:St)(H:Hp)(Q:St→Hp→Prop)(a:Addr):Prop
 | mk (xs:List V) (h:SqT K H a xs) (e:xs.length=n) (q:t xs σ H Q):TupR K n t σ H Q a
inductive LenR(K:PySem.W.Frag)(H:Hp)(Q:VK)(p:Addr):Prop
 | mk (ys:List V) (h:SqL K H p ys∨SqT K H p ys) (q:Q (.int ys.length) H):LenR K H Q p
inductive LstR(K:PySem.W.Frag)(H:Hp)(Q:VK)(p:Addr):Prop
 | mk (ys:List V) (h:SqL K H p ys∨SqT K H p ys) (k:∀ l,H l=none→Q (.ref l) (upd H l (.lst ys))):LstR K H Q p
inductive AppR(H:Hp)(Q:VK)(l:Addr)(y:V):Prop
 | mk (xs:List V) (h:H l=some (.lst xs)) (hl:xs.length<sizeLine) (q:Q .non (upd H l (.lst (xs++[y])))):AppR H Q l y
def cIxL(K:PySem.W.Frag):R2:=fun x y H Q=>onR x fun p=>onI y (IxL K H Q p)
def cIxT(K:PySem.W.Frag):R2:=fun x y H Q=>onR x fun p=>onI y (IxT K H Q p)
def cSlL(K:PySem.W.Frag):V→Option Int→Option Int→Hp→VK→Prop:=fun x lo hi H Q=>onR x (SlL K H Q lo hi)
def cSlT(K:PySem.W.Frag):V→Option Int→Option Int→Hp→VK→Prop:=fun x lo hi H Q=>onR x (SlT K H Q lo hi)
def cCat:R2:=fun x y H Q=>onR x fun l=>onR y (CatL H Q l)
def cTup(K:PySem.W.Frag)(n:Nat)(t:TGs):TG:=fun v σ H Q=>onR v (TupR K n t σ H Q)
def cCons(t:TG)(u:TGs):TGs:=fun vs σ H Q=>onC vs fun v r=>t v σ H fun σ' H'=>u r σ' H' Q
def cLen(K:PySem.W.Frag):List V→Hp→VK→Prop:=fun xs H Q=>on1 xs fun x=>onR x (LenR K H Q)
def cLst(K:PySem.W.Frag):List V→Hp→VK→Prop:=fun xs H Q=>on1 xs fun x=>onR x (LstR K H Q)
def cTpl(K:PySem.W.Frag):List V→Hp→VK→Prop:=fun xs H Q=>on1 xs fun x=>onR x fun p=>∃ ys,((SqL K H p ys∧∀ l,H l=none→Q (.ref l) (upd H l (.tup ys)))∨(SqT K H p ys∧Q (.ref p) H))
def cApp:V→List V→Hp→VK→Prop:=fun x vs H Q=>onR x fun l=>on1 vs (AppR H Q l)
def cAug(i:Nat)(te:TE)(ti:TIp):TS:=fun D σ H=>onV σ[i]? fun x=>te σ H fun y H1=>ti x y H1 fun z H2=>D.nx (σ.set i (some z)) H2
def cIp(f:Int→Int→Int):TIp:=fun x y H Q=>onI x fun i=>onI y fun j=>Q (.int (f i j)) H
section
variable {X:Cx}
theorem pc(i:Nat){x:Str}{pos:Pos}(hN:X.N[i]?=some x:=by rfl)(hv:Vis X.env.scope x:=by first | exact Or.inl rfl | exact Or.inr (Or.inl rfl) | exact Or.inr (Or.inr rfl))(hd:(x == ("__debug__":Str))=false:=by decide)
  (hcd:(x == ("__classdict__":Str))=false:=by decide):PE X (.Name x pos) (cVar i):=fun pins s σ H Q I h=>pe_var hN hv hd hcd pins s σ H Q I (let ⟨v,e,q⟩:=onV.ex h; ⟨v,e,q⟩)
theorem OpR.sub{f:Value→Value→Sem Value}{r r':R2}(h:OpR X f r)(k:∀ x y H Q,r' x y H Q→r x y H Q):OpR X f r':=fun pins s σ H x y v u Q I a b q=>h pins s σ H x y v u Q I a b (k _ _ _ _ q)
theorem cI.ex{C:Int→Int→Prop}{g:Int→Int→V}:∀ x y H Q,cI C g x y H Q→rI C g x y H Q:=fun _ _ _ _ h =>
 let ⟨i,e,h⟩:=onI.ex h; let ⟨j,e',h⟩:=onI.ex h; ⟨i,j,e,e',h⟩
theorem cI0.ex{g:Int→Int→V}:∀ x y H Q,cI0 g x y H Q→rI0 g x y H Q:=fun _ _ _ _ h =>
 let ⟨i,e,h⟩:=onI.ex h; let ⟨j,e',h⟩:=onI.ex h; ⟨i,j,e,e',h⟩
theorem oc_add:OpR X (binaryOp .Add) (cI0 fun i j=>.int (i+j)):=op_add.sub cI0.ex
theorem oc_sub:OpR X (binaryOp .Sub) (cI0 fun i j=>.int (i - j)):=op_sub.sub cI0.ex
theorem oc_fdiv:OpR X (binaryOp .FloorDiv) (cI CDiv fun i j=>.int (i / j)):=op_fdiv.sub cI.ex
theorem oc_mod:OpR X (binaryOp .Mod) (cI (fun _ j=>0<j) fun i j=>.int (i % j)):=op_mod.sub cI.ex
theorem oc_lt:OpR X (compareOp .Lt) (cI0 fun i j=>.bl (decide (i<j))):=op_lt.sub cI0.ex
theorem oc_gt:OpR X (compareOp .Gt) (cI0 fun i j=>.bl (decide (j<i))):=op_gt.sub cI0.ex
theorem oc_ge:OpR X (compareOp .GtE) (cI0 fun i j=>.bl (decide (j≤i))):=op_ge.sub cI0.ex
theorem oc_cat:OpR X (binaryOp .Add) cCat:=op_cat.sub fun _ _ _ _ h =>
 let ⟨i,e,h⟩:=onR.ex h; let ⟨j,e',xs,zs,h1,h2,h3,h4⟩:=onR.ex h; ⟨i,j,xs,zs,e,e',h1,h2,h3,h4⟩
theorem uc_neg:UnR X (unaryOp .USub) (cU fun i=>.int (-i)):=fun pins s σ H x v Q I a h=>un_neg pins s σ H x v Q I a (onI.ex h)
theorem xc_list:IxR X (cIxL X.K):=fun value slice pins s σ H x y v u Q I rx ry h hs =>
 let ⟨p,e,h⟩:=onR.ex h; let ⟨i,e',xs,w,h1,h2,h3⟩:=onI.ex h; ix_list value slice pins s σ H x y v u Q I rx ry ⟨p,xs,i,w,e,e',h1,h2,h3⟩ hs
theorem xc_tup:IxR X (cIxT X.K):=fun value slice pins s σ H x y v u Q I rx ry h hs =>
 let ⟨p,e,h⟩:=onR.ex h; let ⟨i,e',xs,w,h1,h2,h3⟩:=onI.ex h; ix_tup value slice pins s σ H x y v u Q I rx ry ⟨p,xs,i,w,e,e',h1,h2,h3⟩ hs
theorem sc_list:SlR X (cSlL X.K):=fun pins s σ H x v vl vu lo hi sl Q I rx hs pl pu h =>
 let ⟨p,e,xs,h1,h2⟩:=onR.ex h; sl_list pins s σ H x v vl vu lo hi sl Q I rx hs pl pu ⟨p,xs,e,h1,h2⟩
theorem sc_tup:SlR X (cSlT X.K):=fun pins s σ H x v vl vu lo hi sl Q I rx hs pl pu h =>
 let ⟨p,e,xs,h1,h2,h3⟩:=onR.ex h; sl_tup pins s σ H x v vl vu lo hi sl Q I rx hs pl pu ⟨p,xs,e,h1,h2,h3⟩
theorem po_c{e:Expr}{te:TE}(h:PE X e te):PO X (some e) (cPart te):=by
 intro pins s σ H Q I hw;rw[evalPart_some];refine thn (h pins s σ H _ I hw) fun u s1 hZr=>?_;obtain⟨x,H1,I1,r1,q1⟩:=hZr;obtain⟨i,rfl,q⟩:=onI.ex q1;obtain⟨t,rfl⟩:=r1;exact⟨some i,H1,I1,.int i t,q⟩
theorem pt_c{a b:Expr}{ta tb:TE}{pos:Pos}{op:CmpOp}{r:R2}(ho:OpR X (compareOp op) r)(ha:PE X a ta)(hb:PE X b tb)(hm:behindInMarks op b=false):PT X (.Compare a [op] [b] pos) (cTest (tOp r ta tb)):=by
 intro pins s σ H Q I h
 refine wpAny_isTrue_Compare1 (thn (ha pins s σ H _ I h) fun v s1 ⟨x,H1,I1,r1,q1⟩=>thn (hb pins s1 σ H1 _ I1 q1) fun u s2 ⟨y,H2,I2,r2,q2⟩ =>
  thn (ho pins s2 σ H2 x y v u _ I2 r1 r2 q2) fun c s3 ⟨z,H3,I3,r3,q3⟩=>?_) hm
 obtain⟨k,e,q3⟩:=onB.ex q3;subst e;cases r3;exact wpAny_truthy_bool ⟨H3,I3,q3⟩
theorem pt_valc{e:Expr}{t:TE}(h:PE X e t)(he:∀ whole,isTrue e X.env whole=(do let v ← whole; standAt e.pos; holding [v] (truthy v)):=by intro _; rfl):PT X e (cTest t):=by
 intro pins s σ H Q I hw;refine isTrue_plain (thn (h pins s σ H _ I hw) fun v s1 ⟨x,H1,I1,r1,q1⟩=>?_) (he _);obtain⟨d,e,q⟩:=onB.ex q1;subst e;cases r1;exact wpAny_truthy_bool ⟨H1,I1,q⟩
theorem gc_tup{pos:Pos}{es:List Expr}{k:Nat}{t:TGs}{n:Nat}(hc:X.calm=true)(h:PGs X es t)
  (hn:(assignEach es X.env).length=n:=by rfl) (hst:(assignEach es X.env).findIdx? (·.1)=none:=by rfl):PG X (.Tuple es k pos) (cTup X.K n t):=fun pins s σ H v u Q I r h' =>
 let ⟨a,e,xs,h1,h2,h3⟩:=onR.ex h'; pg_tup hc h hn hst pins s σ H v u Q I r ⟨a,xs,e,h1,h2,h3⟩
theorem gcs_cons{e:Expr}{es:List Expr}{t:TG}{u:TGs}(h1:PG X e t)(h2:PGs X es u)
  (hs:(assignEach (e::es) X.env).map (·.2)=assign e X.env::(assignEach es X.env).map (·.2):=by rfl):PGs X (e::es) (cCons t u):=fun pins s σ H vs us Q I r h =>
 pgs_cons h1 h2 hs pins s σ H vs us Q I r (onC.ex h)
theorem cc_len:CallR X (.builtin "len") (cLen X.K):=fun pins s σ H xs us Q I r h =>
 let ⟨x,e,h⟩:=on1.ex h; let ⟨p,e',ys,h1,h2⟩:=onR.ex h; call_len_seq pins s σ H xs us Q I r ⟨p,ys,by rw[e,e'],h1,h2⟩
theorem cc_list:CallR X (.type "list") (cLst X.K):=fun pins s σ H xs us Q I r h =>
 let ⟨x,e,h⟩:=on1.ex h; let ⟨p,e',ys,h1,h2⟩:=onR.ex h; call_list_of pins s σ H xs us Q I r ⟨p,ys,by rw[e,e'],h1,h2⟩
theorem cc_tuple:CallR X (.type "tuple") (cTpl X.K):=fun pins s σ H xs us Q I r h =>
 let ⟨x,e,h⟩:=on1.ex h; let ⟨p,e',ys,h⟩:=onR.ex h; call_tuple_of pins s σ H xs us Q I r ⟨p,ys,by rw[e,e'],h⟩
theorem mc_append:MtM X "list.append" cApp:=fun pins s σ H x xs v us Q I rx r h =>
 let ⟨l,e,h⟩:=onR.ex h; let ⟨y,e',ys,h1,h2,h3⟩:=on1.ex h; mt_append pins s σ H x xs v us Q I rx r ⟨l,ys,y,e,e',h1,h2,h3⟩
theorem sc_aug{pos:Pos}{i:Nat}{x:Str}{e:Expr}{te:TE}{op:Operator}{ti:TIp}{pos':Pos}(hN:X.N.Nodup)(hi:X.N[i]?=some x)(hx:Loc X.env.scope x)(he:PE X e te)(ho:PIp X op ti)(hf:X.fn x=true∨X.env.scope.names.lookup x=some .local:=by first | exact .inl rfl | exact .inr rfl | assumption) :
  PS X (.AugAssign (.Name x pos') op e pos) (cAug i te ti):=fun pins s σ H D I h=>ps_aug hN hi hx he ho hf pins s σ H D I (onV.ex h)
theorem ic_add:PIp X .Add (cIp fun i j=>i+j):=fun pins s σ H x y v u Q I r1 r2 h =>
 let ⟨i,e,h⟩:=onI.ex h; let ⟨j,e',h⟩:=onI.ex h; ip_add pins s σ H x y v u Q I r1 r2 ⟨i,j,e,e',h⟩
end
end L2
namespace TT
open PySem
abbrev Pr:=List Tr×List Tr
def Pr.kn(p:Pr):Nat:=knotsOf p.1+knotsOf p.2
def needsOf(F:List Tr)(t:Tr)(G:List Tr)(u:Tr):List Pr:=[(F++t.kids,G++[u]),(F++[t],G++u.kids),(F,G),(t.kids,u.kids)]
def Wt:Nat→Nat
 | 0=>3
 | n+1=>3+4 * Wt n
abbrev Kn:=Pr→Option Nat
def wE(k:Kn)(e:Pr×Bool):Nat:=if (k e.1).isSome=true then 1 else if e.2=true then 2 else Wt e.1.kn
def wT(k:Kn):List (Pr×Bool)→Nat
 | []=>0
 | e::T=>wE k e+wT k T
structure Wk(k:Kn)(T:List (Pr×Bool)):Prop where
 ok:∀ p n,k p=some n→Least p.1 p.2 n
 ex:∀ A p B,T=A++(p,true)::B→∃ F t G u,p=(F++[t],G++[u])∧∀ q∈needsOf F t G u,(k q).isSome=true∨q∈B.map (·.1)
theorem Wt_pos(n:Nat):3≤Wt n:=by cases n <;> simp only[Wt] <;> omega
theorem Wt_succ(n:Nat):Wt n≤Wt (n+1):=by simp only[Wt]; omega
theorem Wt_le{n m:Nat}(h:n≤m):Wt n≤Wt m:=by
 induction h with
 | refl=>exact La4 _
 | step _ ih=>exact Ld6 ih (Wt_succ _)
theorem wE_pos(k:Kn)(e:Pr×Bool):1≤wE k e:=by
 have:=Wt_pos e.1.kn;unfold wE
 split
 ·exact La4 _
 ·split <;> omega
theorem wT_app(k:Kn):∀ A B:List (Pr×Bool),wT k (A++B)=wT k A+wT k B
 | [],B=>by rw[Ld1,wT,Lh2]
 | e::A,B=>by rw[Lc7,wT,wT,wT_app k A B,Lg0]
theorem length_le_wT(k:Kn):∀ T:List (Pr×Bool),T.length≤wT k T
 | []=>La4 _
 | e::T=>by have:=length_le_wT k T; have:=wE_pos k e; rw[wT,Lb4]; omega
def putK(k:Kn)(p:Pr)(n:Nat):Kn:=fun q=>open Classical in if q=p then some n else k q
theorem putK_self(k:Kn)(p:Pr)(n:Nat):putK k p n p=some n:=by unfold putK; rw[if_pos rfl]
theorem putK_ne{k:Kn}{p q:Pr}{n:Nat}(h:q≠p):putK k p n q=k q:=by unfold putK; rw[if_neg h]
theorem putK_some{k:Kn}{p q:Pr}{n:Nat}(h:(k q).isSome=true):(putK k p n q).isSome=true:=by
 by_cases e:q=p
 ·rw[e,putK_self]; rfl
 ·rw[putK_ne e]; exact h
theorem wE_put(k:Kn)(p:Pr)(n:Nat)(e:Pr×Bool):wE (putK k p n) e≤wE k e:=by
 by_cases h:e.1=p
 ·have:wE (putK k p n) e=1:=by unfold wE; rw[h,putK_self]; rfl
  rw[this]; exact wE_pos k e
 ·unfold wE; rw[putK_ne h]; exact La4 _
theorem wT_put(k:Kn)(p:Pr)(n:Nat):∀ T:List (Pr×Bool),wT (putK k p n) T≤wT k T
 | []=>La4 _
 | e::T=>by have:=wT_put k p n T; have:=wE_put k p n e; rw[wT,wT]; omega
theorem wT_put_last{k:Kn}{p:Pr}{b:Bool}{n:Nat}(T:List (Pr×Bool))(h:k p=none):wT (putK k p n) (T++[(p,b)])<wT k (T++[(p,b)]):=by
 have h1:=wT_put k p n T;have h2:wE (putK k p n) (p,b)=1:=by unfold wE; rw[putK_self]; rfl
 have h3:2≤wE k (p,b):=by
  have:=Wt_pos p.kn;unfold wE
  show 2≤(if (k p).isSome=true then 1 else if b=true then 2 else Wt p.kn)
  rw[h]
  split
  ·next z=>cases z
  ·split <;> omega
 rw[wT_app,wT_app];simp only[wT];omega
theorem Wk.put{k:Kn}{T:List (Pr×Bool)}{p:Pr}{n:Nat}(h:Wk k T)(l:Least p.1 p.2 n):Wk (putK k p n) T:=by
 refine⟨fun q m e=>?_,fun A q B e=>?_⟩
 ·by_cases z:q=p
  ·subst z;rw[putK_self] at e;cases e;exact l
  ·rw[putK_ne z] at e;exact h.ok q m e
 ·obtain⟨F,t,G,u,e1,h1⟩:=h.ex A q B e;refine⟨F,t,G,u,e1,fun r hr=>?_⟩
  rcases h1 r hr with h2 | h2
  ·exact .inl (putK_some h2)
  ·exact .inr h2
theorem Wk.pop{k:Kn}{T:List (Pr×Bool)}{p:Pr}{b:Bool}(h:Wk k (T++[(p,b)]))(hp:(k p).isSome=true):Wk k T:=by
 refine⟨h.ok,fun A q B e=>?_⟩;obtain⟨F,t,G,u,e1,h1⟩:=h.ex A q (B++[(p,b)]) (by rw[e,La9]; rfl);refine⟨F,t,G,u,e1,fun r hr=>?_⟩
 rcases h1 r hr with h2 | h2
 ·exact .inl h2
 ·rw[Lb3,Lb9] at h2
  rcases h2 with h2 | h2
  ·exact .inr h2
  ·have:r=p:=by simpa using h2
   subst this;exact .inl hp
theorem wT_pop{k:Kn}{T:List (Pr×Bool)}{p:Pr}{b:Bool}:wT k T<wT k (T++[(p,b)]):=by
 rw[wT_app]
 have:=wE_pos k (p,b);simp only[wT];omega
def missing(k:Kn)(qs:List Pr):List Pr:=qs.filter fun q=>!(k q).isSome
theorem missing_mem{k:Kn}{qs:List Pr}{q:Pr}(h:q∈qs):(k q).isSome=true∨q∈missing k qs:=by
 cases z:(k q).isSome with
 | true=>exact .inl rfl
 | false=>exact .inr (Lh7.mpr ⟨h,by rw[z]; rfl⟩)
theorem missing_nil{k:Kn}{qs:List Pr}{q:Pr}(h:missing k qs=[])(m:q∈qs):∃ n,k q=some n:=by
 rcases missing_mem (k:=k) m with z | z
 ·exact Lh8.mp z
 ·rw[h] at z; cases z
theorem Wk.known{k:Kn}{T:List (Pr×Bool)}{F G:List Tr}{t u:Tr}(h:Wk k (T++[((F++[t],G++[u]),true)])):missing k (needsOf F t G u)=[]:=by
 obtain⟨F',t',G',u',e1,h1⟩:=h.ex T _ [] rfl
 cases e1':Prod.mk.inj e1 with
 | intro a b =>
  obtain⟨rfl,rfl⟩:=snoc_inj a;obtain⟨rfl,rfl⟩:=snoc_inj b;refine List.filter_eq_nil_iff.mpr fun q hq=>?_
  rcases h1 q hq with z | z
  ·rw[z]; exact Lb8
  ·cases z
theorem last_app{α:Type}{T A B:List α}{e x:α}(h:T++[e]=A++x::B):(B=[]∧T=A∧e=x)∨∃ B',B=B'++[e]∧T=A++x::B':=by
 rcases List.eq_nil_or_concat B with rfl | ⟨B',y,rfl⟩
 ·left
  have:=List.append_inj' h rfl;exact⟨rfl,this.1,by simpa using this.2⟩
 ·right
  have e1:T++[e]=(A++x::B')++[y]:=by rw[h]; simp
  have:=List.append_inj' e1 rfl;have e2:e=y:=by simpa using this.2
  exact⟨B',by rw[e2]; simp,this.1⟩
theorem split_app{α:Type}{T C A B:List α}{x:α}(h:T++C=A++x::B):(∃ B',T=A++x::B'∧B=B'++C)∨x∈C:=by
 rcases List.append_eq_append_iff.mp h with ⟨a,e1,e2⟩ | ⟨a,e1,e2⟩
 ·right; rw[e2]; simp
 ·cases a with
  | nil =>
   right
   rw[Ld1] at e2
   rw[← e2]; simp
  | cons y a =>
   left
   rw[Lc7] at e2;injection e2 with e3 e4
   exact⟨a,by rw[e1,e3],e4⟩
theorem Wk.push{k:Kn}{T:List (Pr×Bool)}{F G:List Tr}{t u:Tr}{b:Bool}(h:Wk k (T++[((F++[t],G++[u]),b)])) :
  Wk k (T++[((F++[t],G++[u]),true)]++(missing k (needsOf F t G u)).map fun q=>(q,false)):=by
 refine⟨h.ok,fun A p B e=>?_⟩
 rcases split_app e with ⟨B1,e1,rfl⟩ | hm
 ·rcases last_app e1 with ⟨rfl,rfl,e2⟩ | ⟨B2,rfl,rfl⟩
  ·obtain⟨rfl,_⟩:=Prod.mk.inj e2;refine⟨F,t,G,u,rfl,fun q hq=>?_⟩
   rcases missing_mem (k:=k) hq with z | z
   ·exact .inl z
   ·refine .inr ?_;rw[Ld1,Ld7];exact Lc3.mpr ⟨q,z,rfl⟩
  ·obtain⟨F',t',G',u',e3,h1⟩:=h.ex A p (B2++[((F++[t],G++[u]),b)]) (by rw[La9]; rfl);refine⟨F',t',G',u',e3,fun r hr=>?_⟩
   rcases h1 r hr with z | z
   ·exact .inl z
   ·refine .inr ?_;rw[Lb3,Lb3,Lb9]
    left
    rw[Lb3] at z;exact z
 ·obtain⟨q,_,e2⟩:=Lc3.mp hm;cases (Prod.mk.inj e2).2
theorem needs_kn{F G:List Tr}{t u:Tr}{q:Pr}(h:q∈needsOf F t G u):q.kn+1≤Pr.kn (F++[t],G++[u]):=by
 have e1:=knots_snoc F t;have e2:=knots_snoc G u;have e3:=knotsOf_append F t.kids;have e4:=knotsOf_append G u.kids;unfold Pr.kn
 rcases Lb6.mp h with rfl | h
 ·simp only; omega
 rcases Lb6.mp h with rfl | h
 ·simp only; omega
 rcases Lb6.mp h with rfl | h
 ·simp only; omega
 rcases Lb6.mp h with rfl | h
 ·simp only; omega
 cases h
theorem wT_some(k:Kn){n:Nat}:∀ qs:List Pr,(∀ q∈qs,q.kn≤n)→wT k (qs.map fun q=>(q,false))≤qs.length * Wt n
 | [],_=>Lb1 _
 | q::qs,h=>by
  have h1:=wT_some k qs fun r hr=>h r (Lb0 _ hr)
  have h2:wE k (q,false)≤Wt n:=by
   have:=Wt_le (h q (La7 ..))
   have:=Wt_pos n;unfold wE
   split
   ·omega
   ·simpa using Wt_le (h q (La7 ..))
  rw[Lc2,wT,Lb4,Nat.succ_mul];omega
theorem wT_push{k:Kn}{T:List (Pr×Bool)}{F G:List Tr}{t u:Tr}{b:Bool}(h:Wk k (T++[((F++[t],G++[u]),b)]))(hk:k (F++[t],G++[u])=none)(hm:missing k (needsOf F t G u)≠[]) :
  wT k (T++[((F++[t],G++[u]),true)]++(missing k (needsOf F t G u)).map fun q=>(q,false))<wT k (T++[((F++[t],G++[u]),b)]):=by
 cases b with
 | true=>exact absurd h.known hm
 | false =>
  have hn:∃ n,Pr.kn (F++[t],G++[u])=n+1:=by
   have:=needs_kn (q:=(F,G)) (F:=F) (G:=G) (t:=t) (u:=u) (by simp[needsOf]);exact⟨Pr.kn (F++[t],G++[u]) - 1,by omega⟩
  obtain⟨n,hn⟩:=hn
  have h1:=wT_some k (n:=n) (missing k (needsOf F t G u)) fun q hq=>by
   have:=needs_kn (Lh7.mp hq).1;omega
  have h2:(missing k (needsOf F t G u)).length≤4:=List.length_filter_le _ _;have h3:=Nat.mul_le_mul_right (Wt n) h2
  have h4:wE k ((F++[t],G++[u]),false)=3+4 * Wt n:=by
   unfold wE;rw[hk]
   show (if (none:Option Nat).isSome=true then 1 else if false=true then 2 else Wt (Pr.kn (F++[t],G++[u])))=_
   rw[hn];rfl
  have h5:wE k ((F++[t],G++[u]),true)=2:=by
   unfold wE;rw[hk];rfl
  rw[wT_app,wT_app,wT_app];simp only[wT];omega
theorem Wk.value{k:Kn}{T:List (Pr×Bool)}{F G:List Tr}{t u:Tr}{a b c d:Nat}(h:Wk k T)(h1:k (F++t.kids,G++[u])=some a)(h2:k (F++[t],G++u.kids)=some b)(h3:k (F,G)=some c)(h4:k (t.kids,u.kids)=some d) :
  Least (F++[t]) (G++[u]) (min (a+1) (min (b+1) (c+d+dif t u))):=Least.step (h.ok _ _ h1) (h.ok _ _ h2) (h.ok _ _ h3) (h.ok _ _ h4)
theorem Wk.start(p:Pr):Wk (fun _=>none) [(p,false)]:=by
 refine⟨fun _ _ z=>(nomatch z),fun A q B e=>?_⟩
 cases A with
 | nil =>
  rw[Ld1] at e;injection e with e _
  cases (Prod.mk.inj e).2
 | cons x A =>
  rw[Lc7] at e;injection e with _ e
  cases A <;> cases e
theorem wT_start(p:Pr):wT (fun _=>none) [(p,false)]=Wt p.kn:=by simp[wT,wE]
theorem wt10:Wt 10=4194303:=by decide
end TT
namespace TT
open PySem PySem.Spec PyProof.Rows L2
def rEqT0(K:PySem.W.Frag):R2:=fun x y H Q=>onR x fun p=>onR y fun q=>∃ xs,SqT K H p xs∧SqT K H q []∧Q (.bl xs.isEmpty) H
def cCatT(K:PySem.W.Frag):R2:=fun x y H Q=>onR x fun a=>onR y fun b=>∃ xs ys,SqT K H a xs∧SqT K H b ys∧xs.length+ys.length≤sizeLine∧(xs=[]→Q (.ref b) H)∧(xs≠[]→ys=[]→Q (.ref a) H) ∧
 (xs≠[]→ys≠[]→∀ p,H p=none→Q (.ref p) (upd H p (.tup (xs++ys))))
def cMin3:List V→Hp→VK→Prop:=fun xs H Q=>∃ i j k,xs=[.int i,.int j,.int k]∧Q (.int (min i (min j k))) H
section
variable {X:Cx}
theorem op_eqT0(hu:X.A.units<cLine):OpR X (compareOp .Eq) (rEqT0 X.K):=by
 intro pins s σ H x y v u Q I rx ry h;obtain⟨p,e1,h1⟩:=onR.ex h;obtain⟨q,e2,xs,hp,hq,k⟩:=onR.ex h1;subst e1 e2;cases rx;cases ry;obtain⟨its,r1,l1,_⟩:=I.tuple hp;obtain⟨its2,r2,l2,_⟩:=I.tuple hq;have e2:its2=[]:=r2.zero;subst e2;refine SeqAt.RcAt.tuples (e:=fun _=>true) l1 l2 hu (fun j _ h2=>absurd h2 (Nat.not_lt_zero j)) X.prog X.w X.xe _ ?_
 have e:((List.range (min its.toArray.size ([]:List Value).toArray.size)).all (fun _=>true) && its.toArray.size == ([]:List Value).toArray.size)=xs.isEmpty:=by
  cases xs with
  | nil =>
   have e1:its=[]:=r1.zero;subst e1
   rfl
  | cons z zs =>
   have:=r1.length
   cases its with
   | nil=>cases this
   | cons _ _=>simp
 rw[e];exact⟨.bl xs.isEmpty,H,I,rfl,k⟩
theorem cat_tup0{M:World}{prog:Program}{A:Around}{E:Value→Shared→Prop}{s:Shared}{t b:Addr}{ws:List Value}{Q:Value→Shared→Prop}(ht:IsTup s.heap t ([]:List Value).toArray)(hb:IsTup s.heap b ws.toArray)(h:Q (.ref b) s):wpAny (model prog M) A (binaryOp .Add (.ref t) (.ref b)) Q E s:=by
 obtain⟨⟨cls,dd,data,sl⟩,ho,hc,n,hd⟩:=id ht;obtain⟨⟨cls2,dd2,data2,sl2⟩,ho2,hc2,n2,hd2⟩:=id hb;simp only at hc hd hc2 hd2;subst hc hd hc2 hd2
 exact concat_meets ⟨_,ho,rfl⟩ ⟨_,ho2,rfl⟩ noFill_tuple_add seq_tuple_add PySem.F.slot_tuple_add PySem.F.entry_tuple_add (PySem.F.args_tuple_add_2 _ _)
   (tuple_addW0 t b ([]:List Value).toArray ws.toArray n n2 dd dd2 sl sl2 rfl) ⟨ho,ho2,h⟩
theorem oc_catT:OpR X (binaryOp .Add) (cCatT X.K):=by
 intro pins s σ H x y v u Q I rx ry h;obtain⟨a,ea,h1⟩:=onR.ex h;obtain⟨b,eb,xs,ys,ha,hb,hz,q0,q1,q2⟩:=onR.ex h1
 by_cases hx:xs=[]
 ·subst hx ea eb;cases rx;cases ry;obtain⟨its,r1,p1,_⟩:=I.tuple ha;obtain⟨its2,r2,p2,_⟩:=I.tuple hb;have e1:its=[]:=r1.zero;subst e1;exact cat_tup0 p1 p2 ⟨.ref b,H,I,rfl,q0 rfl⟩
 ·exact op_catT pins s σ H x y v u Q I rx ry ⟨a,b,xs,ys,ea,eb,ha,hb,hx,hz,q1 hx,q2 hx⟩
theorem cc_min3(hc:X.calm=true):CallR X (.builtin "min") cMin3:=by
 intro pins s σ H xs us Q I r h;obtain⟨i,j,k,rfl,q⟩:=h
 cases r with
 | cons r1 r=>cases r with
  | cons r2 r=>cases r with
   | cons r3 r =>
    cases r;obtain⟨t1,rfl⟩:=r1;obtain⟨t2,rfl⟩:=r2;obtain⟨t3,rfl⟩:=r3;refine min_three_ints (I.ok.hd hc) fun h' tk kk=>⟨_,H,I.kept kk,?_,q⟩
    by_cases h1:j<i
    ·rw[if_pos h1]
     by_cases h2:k<j
     ·rw[if_pos h2]; exact⟨t3,by congr 1; omega⟩
     ·rw[if_neg h2]; exact⟨t2,by congr 1; omega⟩
    ·rw[if_neg h1]
     by_cases h2:k<i
     ·rw[if_pos h2]; exact⟨t3,by congr 1; omega⟩
     ·rw[if_neg h2]; exact⟨t1,by congr 1; omega⟩
end
def rowT(ts:List Tr):D:=.tup (ts.map Tr.d)
def prD(p:Pr):D:=.tup [rowT p.1,rowT p.2]
theorem rowT_one{a b:List Tr}(h:rowT a=rowT b):a=b:=by
 refine rowD_one ?_;unfold rowT at h;unfold rowD;injection h with h
 rw[h]
theorem prD_one{p q:Pr}(h:prD p=prD q):p=q:=by
 unfold prD at h;injection h with h
 injection h with h1 h2
 injection h2 with h2 _
 exact Prod.ext (rowT_one h1) (rowT_one h2)
mutual
theorem Tr.d_deep:∀ t:Tr,t.d.deep≤t.knots
 | .node m ks=>by
  have h:=ds_deep ks;rw[tree_d]
  show 1+max 0 (deeps (ks.map Tr.d))≤1+knotsOf ks
  omega
theorem ds_deep:∀ ts:List Tr,deeps (ts.map Tr.d)≤knotsOf ts
 | []=>La4 _
 | t::ts=>by
  have h1:=Tr.d_deep t;have h2:=ds_deep ts
  show max t.d.deep (deeps (ts.map Tr.d))≤t.knots+knotsOf ts
  omega
end
mutual
theorem Tr.d_plain:∀ t:Tr,t.d.plain=true
 | .node m ks=>by
  rw[tree_d];exact ds_plain ks
theorem ds_plain:∀ ts:List Tr,plains (ts.map Tr.d)=true
 | []=>rfl
 | t::ts=>by
  show (t.d.plain && plains (ts.map Tr.d))=true
  rw[Tr.d_plain t,ds_plain ts];rfl
end
theorem prD_key{p:Pr}(h1:knotsOf p.1≤5)(h2:knotsOf p.2≤5):KeyD (prD p):=by
 refine⟨?_,?_,_,rfl⟩
 ·show (plains (p.1.map Tr.d) && (plains (p.2.map Tr.d) && true))=true
  rw[ds_plain,ds_plain];rfl
 ·have e1:=ds_deep p.1;have e2:=ds_deep p.2
  show 1+max (1+deeps (p.1.map Tr.d)) (max (1+deeps (p.2.map Tr.d)) 0)≤8
  omega
theorem Rep.rowT{G:Hp}{v:V}{ts:List Tr}(r:Rep G v (rowT ts)):∃ a vs,v=.ref a∧G a=some (.tup vs)∧Reps G vs (ts.map Tr.d):=by
 cases r with
 | tup h t=>exact⟨_,_,rfl,h,t⟩
theorem Rep.pr{G:Hp}{v:V}{p:Pr}(r:Rep G v (prD p)):∃ a x y,v=.ref a∧G a=some (.tup [x,y])∧Rep G x (TT.rowT p.1)∧Rep G y (TT.rowT p.2):=by
 cases r with
 | tup h t=>cases t with
  | cons r1 t=>cases t with
   | cons r2 t=>cases t; exact⟨_,_,_,rfl,h,r1,r2⟩
theorem Reps.snoc{G:Hp}{vs:List V}{ts:List Tr}{t:Tr}(r:Reps G vs ((ts++[t]).map Tr.d)):∃ us y,vs=us++[y]∧Reps G us (ts.map Tr.d)∧Rep G y t.d:=by
 have hl:=r.length;rw[La1,La2,Lb2] at hl
 obtain⟨us,y,rfl⟩:∃ us y,vs=us++[y]:=by
  cases hq:vs.isEmpty with
  | true=>rw[Lf0.mp hq] at hl; simp at hl
  | false=>exact last_of vs hq
 rw[La2,Lb2] at hl;rw[Lb3] at r;have e:us.length=(ts.map Tr.d).length:=by rw[La1]; omega
 refine⟨us,y,rfl,?_,?_⟩
 ·have:=r.take us.length
  rwa [Lg5,e,Lg5] at this
 ·have:=r.drop us.length;rw[Lf9,e,Lf9] at this
  cases this with
  | cons r _=>exact r
theorem cut_snoc(xs:List V)(y:V):cutV (xs++[y]) none (some (-1))=xs:=by rw[cut_front]; simp
theorem front_not(xs:List V)(y:V):¬ (HT.sIx (xs++[y]).length 0 none=0∧HT.sIx (xs++[y]).length (xs++[y]).length (some (-1))=(xs++[y]).length):=by
 rintro⟨_,h⟩;have e:=congrArg List.length (cut_snoc xs y);unfold cutV at e;rw[h,Lb5,Ld0,La2,Lb2] at e
 have:HT.sIx (xs.length+1) 0 none=0:=rfl;rw[this] at e;omega
section
variable {K:PySem.W.Frag} {G H:Hp} {a b:Addr} {xs ys:List V} {F ks:List Tr} {Q:VK}
theorem cat_rows(sm:Same G H)(ha:H a=some (.tup xs))(hb:H b=some (.tup ys))(rx:Rep G (.ref a) (rowT F))(ry:Rep G (.ref b) (rowT ks))(hz:xs.length+ys.length≤1000)
  (k:∀ (G' H':Hp) (r:V),Ext G H G' H'→Rep G' r (rowT (F++ks))→Q r H'):cCatT K (.ref a) (.ref b) H Q:=by
 have big:=line_big;have rx2:=rx;have ry2:=ry
 cases rx with
 | @tup _ vs _ hg r1 =>
 cases ry with
 | @tup _ ws _ hg2 r2 =>
 have e1:xs=vs:=by have:=(sm _ _ hg).symm.trans ha; injection this with this; injection this with this; exact this.symm
 have e2:ys=ws:=by have:=(sm _ _ hg2).symm.trans hb; injection this with this; injection this with this; exact this.symm
 subst e1 e2;have l1:=r1.length;have l2:=r2.length;rw[La1] at l1 l2;refine⟨xs,ys,SqT.of ha,SqT.of hb,by omega,fun z=>?_,fun _ z=>?_,fun _ _ p hp=>?_⟩
 ·subst z;have e:F=[]:=Ld5.mp l1.symm;subst e;exact k _ _ _ (Ext.refl sm) ry2
 ·subst z;have e:ks=[]:=Ld5.mp l2.symm;subst e;refine k _ _ _ (Ext.refl sm) ?_;rw[Lc0];exact rx2
 ·have y:=Ext.add (o:=.tup (xs++ys)) sm hp;refine k _ _ _ y (.tup upd_same ?_);rw[Lb3];exact (r1.append r2).mono y.g
theorem front_row{x:V}{t:Tr}(sm:Same G H)(r:Rep G x (rowT (F++[t])))(k:∀ (G' H':Hp) (p:Addr) (zs:List V),Ext G H G' H'→H' p=some (.tup zs)→zs.length=F.length→Rep G' (.ref p) (rowT F)→Q (.ref p) H'):cSlT K x none (some (-1)) H Q:=by
 obtain⟨a,vs,rfl,ha,rs⟩:=r.rowT;obtain⟨us,y,rfl,ru,_⟩:=rs.snoc;refine⟨_,SqT.of (sm _ _ ha),front_not us y,fun p hp=>?_⟩;rw[cut_snoc];have e:=Ext.add (o:=.tup us) sm hp;refine k _ _ p us e upd_same ?_ (.tup upd_same (ru.mono e.g))
 have:=ru.length
 rwa [La1] at this
theorem kids_row{x:V}{t:Tr}(sm:Same G H)(r:Rep G x t.d)(k:∀ (G' H':Hp) (p:Addr) (zs:List V),Ext G H G' H'→H' p=some (.tup zs)→zs.length=t.kids.length→Rep G' (.ref p) (rowT t.kids)→Q (.ref p) H'):cSlT K x (some 1) none H Q:=by
 obtain⟨a,kv,rfl,ha,rs⟩:=r.tree;refine⟨_,SqT.of (sm _ _ ha),kids_not _ _,fun p hp=>?_⟩;rw[kids_cut];have e:=Ext.add (o:=.tup kv) sm hp;refine k _ _ p kv e upd_same ?_ (.tup upd_same (rs.mono e.g))
 have:=rs.length
 rwa [La1] at this
end
theorem atI_snoc{α:Type}(xs:List α)(y:α):atI (xs++[y]) (-1)=some y:=by
 have e:ixN (xs++[y]).length (-1)=some xs.length:=by
  unfold ixN;rw[if_neg (by decide),if_pos (by rw[La2,Lb2]; omega),La2,Lb2];congr 1;omega
 unfold atI;rw[e];simp
theorem Reps.snocD{G:Hp}{vs:List V}{ds:List D}{d:D}(r:Reps G vs (ds++[d])):∃ us y,vs=us++[y]∧Reps G us ds∧Rep G y d:=by
 have hl:=r.length;rw[La2,Lb2] at hl
 obtain⟨us,y,rfl⟩:∃ us y,vs=us++[y]:=by
  cases hq:vs.isEmpty with
  | true=>rw[Lf0.mp hq] at hl; simp at hl
  | false=>exact last_of vs hq
 rw[La2,Lb2] at hl;have e:us.length=ds.length:=by omega
 refine⟨us,y,rfl,?_,?_⟩
 ·have:=r.take us.length
  rwa [Lg5,e,Lg5] at this
 ·have:=r.drop us.length;rw[Lf9,e,Lf9] at this
  cases this with
  | cons r _=>exact r
theorem look_putK{tab:NTab}{k:Kn}{p:Pr}{a:Addr}{n:Nat}(h:∀ q,look tab (prD q)=(k q).map fun n=>V.int (n:Int))(q:Pr):look (putN tab (prD p) a (.int (n:Int))) (prD q)=(putK k p n q).map fun n=>V.int (n:Int):=by
 rw[look_put]
 by_cases e:q=p
 ·rw[e,if_pos rfl,putK_self];rfl
 ·rw[if_neg (fun z=>e (prD_one z)),putK_ne e];exact h q
theorem length_putS{xs:NTab}{k:D}{b:Addr}{v:V}(h:(look xs k).isSome=true):(putN xs k b v).length=xs.length:=by
 unfold putN;rw[if_pos h,La1]
theorem put_bound{tab:NTab}{k:Kn}{p:Pr}{b:Bool}{a:Addr}{n N:Nat}{T:List (Pr×Bool)}(h:∀ q,look tab (prD q)=(k q).map fun n=>V.int (n:Int))(hl:tab.length+wT k (T++[(p,b)])≤N) :
  (putN tab (prD p) a (.int (n:Int))).length+wT (putK k p n) (T++[(p,b)])≤N:=by
 cases e:k p with
 | none =>
  have h1:=length_putN tab (prD p) a (.int (n:Int));have h2:=wT_put_last (b:=b) (n:=n) T e
  omega
 | some m =>
  have h1:=length_putS (xs:=tab) (k:=prD p) (b:=a) (v:=.int (n:Int)) (by rw[h,e]; rfl);have h2:=wT_put k p n (T++[(p,b)]);omega
theorem least_bare{p:Pr}(h:p.1=[]∨p.2=[]):Least p.1 p.2 (knotsOf p.1+knotsOf p.2):=by
 rcases h with h | h
 ·rw[h,show knotsOf ([]:List Tr)=0 from rfl,Lh2];exact Least.nilL _
 ·rw[h,show knotsOf ([]:List Tr)=0 from rfl,Lk6];exact Least.nilR _
theorem big24:4194303<sizeLine:=by decide
section
variable {K:PySem.W.Frag} {G H:Hp} {σ:L2.St} {i j:Nat} {x y:V} {F:List Tr} {t:Tr} {Q:VK}
theorem var_in(h:σ[i]?=some (some x))(q:Q x H):cVar i σ H Q:=by
 unfold cVar;rw[h];exact q
theorem ev_front(hi:σ[i]?=some (some x))(sm:Same G H)(r:Rep G x (rowT (F++[t])))(k:∀ (G' H':Hp) (p:Addr) (zs:List V),Ext G H G' H'→H' p=some (.tup zs)→zs.length=F.length→Rep G' (.ref p) (rowT F)→Q (.ref p) H') :
  tSl (cSlT K) (cVar i) tNoPart (cPart (tUn (cU fun i=>.int (-i)) (tC (.int 1)))) σ H Q:=by
 refine var_in hi ?_;exact front_row sm r k
theorem ev_kids(hi:σ[i]?=some (some x))(sm:Same G H)(r:Rep G x t.d)(k:∀ (G' H':Hp) (p:Addr) (zs:List V),Ext G H G' H'→H' p=some (.tup zs)→zs.length=t.kids.length→Rep G' (.ref p) (rowT t.kids)→Q (.ref p) H') :
  tSl (cSlT K) (cVar i) (cPart (tC (.int 1))) tNoPart σ H Q:=by
 refine var_in hi ?_;exact kids_row sm r k
theorem ev_cut(hi:σ[i]?=some (some x))(hj:σ[j]?=some (some y))(sm:Same G H)(rx:Rep G x (rowT (F++[t])))(ry:Rep G y t.d)(hz:F.length+t.kids.length≤1000)
  (k:∀ (G' H':Hp) (r:V),Ext G H G' H'→Rep G' r (rowT (F++t.kids))→Q r H') :
  tOp (cCatT K) (tSl (cSlT K) (cVar i) tNoPart (cPart (tUn (cU fun i=>.int (-i)) (tC (.int 1))))) (tSl (cSlT K) (cVar j) (cPart (tC (.int 1))) tNoPart) σ H Q:=by
 refine ev_front (Q:=fun x1 H1=>tSl (cSlT K) (cVar j) (cPart (tC (.int 1))) tNoPart σ H1 fun y1 H2=>cCatT K x1 y1 H2 Q) hi sm rx fun G1 H1 p1 zs x1 h1 l1 r1=>?_;refine ev_kids hj x1.gh (ry.mono x1.g) fun G2 H2 p2 ws x2 h2 l2 r2=>?_;exact cat_rows x2.gh (x2.h _ _ h1) h2 (r1.mono x2.g) r2 (by omega) fun G3 H3 r x3 rr=>k G3 H3 r ((x1.trans x2).trans x3) rr
end
def sift(k:Kn):List V→List Pr→List V
 | v::vs,q::qs=>if (k q).isSome=true then sift k vs qs else v::sift k vs qs
 | _,_=>[]
theorem sift_app(k:Kn)(v:V)(q:Pr):∀ (vs:List V) (qs:List Pr),vs.length=qs.length→sift k (vs++[v]) (qs++[q])=sift k vs qs++(if (k q).isSome=true then [] else [v])
 | [],[],_=>by
  show (if (k q).isSome=true then sift k [] [] else v::sift k [] [])=_
  cases (k q).isSome <;> rfl
 | [],_::_,h=>by cases h
 | _::_,[],h=>by cases h
 | w::vs,r::qs,h=>by
  have ih:=sift_app k v q vs qs (Nat.succ.inj h)
  show (if (k r).isSome=true then sift k (vs++[v]) (qs++[q]) else w::sift k (vs++[v]) (qs++[q]))=(if (k r).isSome=true then sift k vs qs else w::sift k vs qs)++_
  rw[ih];cases (k r).isSome <;> rfl
theorem sift_reps{G:Hp}{k:Kn}:∀ {vs:List V} {qs:List Pr},Reps G vs (qs.map prD)→Reps G (sift k vs qs) ((missing k qs).map prD)
 | _,[],h=>by cases h; exact .nil
 | _,q::qs,h=>by
  cases h with
  | cons r t =>
   have ih:=sift_reps (k:=k) t;unfold missing;rw[Lj5]
   show Reps G (if (k q).isSome=true then sift k _ qs else _::sift k _ qs) _
   cases (k q).isSome with
   | true=>exact ih
   | false=>exact .cons r ih
theorem sift_len(k:Kn):∀ (vs:List V) (qs:List Pr),(sift k vs qs).length≤vs.length
 | [],_=>Lb1 _
 | _::vs,[]=>Lb1 _
 | v::vs,q::qs=>by
  have ih:=sift_len k vs qs
  show (if (k q).isSome=true then sift k vs qs else v::sift k vs qs).length≤_
  cases (k q).isSome with
  | true=>exact Nat.le_succ_of_le ih
  | false=>exact Nat.succ_le_succ ih
section
variable {H:Hp} {σ:L2.St} {Q:VK}
theorem asg_in{te:TE}{g:TG}{D:Ends}(h:te σ H fun x H1=>g x σ H1 D.nx):tAsg te g D σ H:=h
theorem op_var{r:R2}{tb:TE}{i:Nat}{x:V}(e:σ[i]?=some (some x))(h:tb σ H fun y H2=>r x y H2 Q):tOp r (cVar i) tb σ H Q:=var_in e h
theorem lst_in{t:TA}(h:t σ H fun xs H1=>xs.length≤sizeLine∧∀ p,H1 p=none→Q (.ref p) (upd H1 p (.lst xs))):tLst t σ H Q:=h
theorem tup_in{t:TA}(h:t σ H fun xs H1=>xs.length≤sizeLine∧∀ p,H1 p=none→Q (.ref p) (upd H1 p (.tup xs))):tTup t σ H Q:=h
theorem cons_in{ta:TE}{tr:TA}{Q:List V→Hp→Prop}(h:ta σ H fun x H1=>tr σ H1 fun xs H2=>Q (x::xs) H2):tCons ta tr σ H Q:=h
end
theorem big25:4194400≤sizeLine:=by decide
theorem needs_few{F G:List Tr}{t u:Tr}(h1:knotsOf (F++[t])≤5)(h2:knotsOf (G++[u])≤5){r:Pr}(h:r∈needsOf F t G u):knotsOf r.1≤5∧knotsOf r.2≤5:=by
 have e1:=knots_snoc F t;have e2:=knots_snoc G u;have e3:=knotsOf_append F t.kids;have e4:=knotsOf_append G u.kids
 rcases Lb6.mp h with rfl | h
 ·exact⟨show knotsOf (F++t.kids)≤5 by omega,h2⟩
 rcases Lb6.mp h with rfl | h
 ·exact⟨h1,show knotsOf (G++u.kids)≤5 by omega⟩
 rcases Lb6.mp h with rfl | h
 ·exact⟨show knotsOf F≤5 by omega,show knotsOf G≤5 by omega⟩
 rcases Lb6.mp h with rfl | h
 ·exact⟨show knotsOf t.kids≤5 by omega,show knotsOf u.kids≤5 by omega⟩
 cases h
theorem dif_int(t u:Tr):(if (!decide (V.str t.mark=V.str u.mark))=true then (1:Int) else 0)=(dif t u:Nat):=by
 unfold dif
 by_cases e:t.mark=u.mark
 ·rw[if_pos e,e]; simp
 ·rw[if_neg e,decide_eq_false (fun z=>e (V.str.inj z))]; rfl
theorem flag_map(qs:List Pr):(qs.map fun q=>(q,false)).map (fun e:Pr×Bool=>prD e.1)=qs.map prD:=by rw[Ld7]; rfl
end TT
namespace TT
open PySem
mutual
def Ch.pairs:Ch→List (Nat×Nat)
 | .mk _ ps cs=>ps++pairsOf cs
def pairsOf:List Ch→List (Nat×Nat)
 | []=>[]
 | c::cs=>c.pairs++pairsOf cs
end
mutual
def Ch.many:Ch→Nat
 | .mk _ _ cs=>1+manyOf cs
def manyOf:List Ch→Nat
 | []=>0
 | c::cs=>c.many+manyOf cs
end
theorem pairsOf_app:∀ a b:List Ch,pairsOf (a++b)=pairsOf a++pairsOf b
 | [],b=>rfl
 | c::a,b=>by rw[Lc7,pairsOf,pairsOf,pairsOf_app a b,La9]
theorem manyOf_app:∀ a b:List Ch,manyOf (a++b)=manyOf a+manyOf b
 | [],b=>by rw[Ld1,manyOf,Lh2]
 | c::a,b=>by rw[Lc7,manyOf,manyOf,manyOf_app a b,Lg0]
theorem length_le_many:∀ cs:List Ch,cs.length≤manyOf cs
 | []=>La4 _
 | .mk n ps ds::cs=>by have:=length_le_many cs; rw[manyOf,Ch.many,Lb4]; omega
def Lie(es es':List Nat)(p q:Nat×Nat):Prop:=p.1<q.1∧p.2<q.2∧∃ j l,es[p.1]?=some j∧es'[p.2]?=some l∧(q.1<j↔q.2<l)
def difP(ms ms':List Str)(p:Nat×Nat):Nat:=if ms[p.1]?=ms'[p.2]? then 0 else 1
def difs(ms ms':List Str):List (Nat×Nat)→Nat
 | []=>0
 | p::ps=>difP ms ms' p+difs ms ms' ps
theorem difs_app(ms ms':List Str):∀ a b,difs ms ms' (a++b)=difs ms ms' a+difs ms ms' b
 | [],b=>by rw[Ld1,difs,Lh2]
 | p::a,b=>by rw[Lc7,difs,difs,difs_app ms ms' a b,Lg0]
section
variable {ms ms':List Str} {es es':List Nat}
structure Fits(ms ms':List Str)(es es':List Nat)(s o:Nat×Nat)(c:Ch):Prop where
 inn:∀ p∈c.pairs,(s.1≤p.1∧p.1<s.2)∧o.1≤p.2∧p.2<o.2
 sum:c.n+2 * c.pairs.length+(s.1+o.1)=s.2+o.2+difs ms ms' c.pairs
 lie:c.pairs.Pairwise (Lie es es')
 few:c.many+2 * (s.1+o.1)≤2 * (s.2+o.2)+1
theorem many_one(n:Nat)(c:Ch):(Ch.mk n [] [c]).many=1+c.many:=by rw[Ch.many,manyOf,manyOf,Lk6]
theorem pairs_one(n:Nat)(c:Ch):(Ch.mk n [] [c]).pairs=c.pairs:=by rw[Ch.pairs,pairsOf,pairsOf,Lc0,Ld1]
theorem Plan.fits{s o:Nat×Nat}{c:Ch}(h:Plan ms ms' es es' s o c):∀ {F G:List Tr},At ms es s.1 s.2 F→At ms' es' o.1 o.2 G→Fits ms ms' es es' s o c:=by
 induction h with
 | @none i k =>
  intro F G f g;have ez:(Ch.mk 0 [] []).pairs=[]:=rfl;refine⟨fun p hp=>?_,?_,?_,?_⟩
  ·rw[ez] at hp;cases hp
  ·show 0+2 * 0+(i+k)=i+k+0
   omega
  ·rw[ez]; exact List.Pairwise.nil
  ·show 1+0+2 * (i+k)≤2 * (i+k)+1
   omega
 | @cut i e o c hlt h ih =>
  intro F G f g;obtain⟨t,r,j,rfl,hm,he,hk,hr⟩:=At.first f hlt;have x:=ih (hk.app hr) g;refine⟨fun p hp=>?_,?_,?_,?_⟩
  ·rw[pairs_one] at hp
   have:=x.inn p hp;exact⟨⟨by have:=this.1.1; show i≤p.1; have h9:i+1≤p.1:=this; omega,this.1.2⟩,this.2⟩
  ·rw[pairs_one]
   have:=x.sum
   show 1+c.n+2 * c.pairs.length+(i+o.1)=e+o.2+difs ms ms' c.pairs
   have h9:c.n+2 * c.pairs.length+(i+1+o.1)=e+o.2+difs ms ms' c.pairs:=this;omega
  ·rw[pairs_one]; exact x.lie
  ·rw[many_one];have h9:c.many+2 * (i+1+o.1)≤2 * (e+o.2)+1:=x.few
   show 1+c.many+2 * (i+o.1)≤2 * (e+o.2)+1
   omega
 | @put k f s c hlt h ih =>
  intro F G f' g;obtain⟨t,r,j,rfl,hm,he,hk,hr⟩:=At.first g hlt;have x:=ih f' (hk.app hr);refine⟨fun p hp=>?_,?_,?_,?_⟩
  ·rw[pairs_one] at hp
   have:=x.inn p hp;exact⟨this.1,by have:=this.2.1; show k≤p.2; have h9:k+1≤p.2:=this; omega,this.2.2⟩
  ·rw[pairs_one]
   have:=x.sum
   show 1+c.n+2 * c.pairs.length+(s.1+k)=s.2+f+difs ms ms' c.pairs
   have h9:c.n+2 * c.pairs.length+(s.1+(k+1))=s.2+f+difs ms ms' c.pairs:=this;omega
  ·rw[pairs_one]; exact x.lie
  ·rw[many_one];have h9:c.many+2 * (s.1+(k+1))≤2 * (s.2+f)+1:=x.few
   show 1+c.many+2 * (s.1+k)≤2 * (s.2+f)+1
   omega
 | @stay i e k f j l b r d hi hk hj hl hd hb hr ihb ihr =>
  intro F G f' g;obtain⟨t,rr,j',rfl,hm,he,hkt,hrt⟩:=At.first f' hi;obtain⟨u,qq,l',rfl,hm',he',hku,hru⟩:=At.first g hk;rw[hj] at he;cases he;rw[hl] at he';cases he';have x:=ihb hkt hku;have y:=ihr hrt hru;have z1:=hkt.size;have z2:=hrt.size;have z3:=hku.size;have z4:=hru.size
  have ep:(Ch.mk (d+(b.n+r.n)) [(i,k)] [b,r]).pairs=(i,k)::(b.pairs++r.pairs):=by
   rw[Ch.pairs,pairsOf,pairsOf,pairsOf,Lc0]; rfl
  have z5:j≤e:=by have:e=j+knotsOf rr:=z2; omega
  have z6:i+1≤j:=by have:j=i+1+knotsOf t.kids:=z1; omega
  have z7:l≤f:=by have:f=l+knotsOf qq:=z4; omega
  have z8:k+1≤l:=by have:l=k+1+knotsOf u.kids:=z3; omega
  have xb:∀ p∈b.pairs,(i+1≤p.1∧p.1<j)∧k+1≤p.2∧p.2<l:=x.inn;have yb:∀ p∈r.pairs,(j≤p.1∧p.1<e)∧l≤p.2∧p.2<f:=y.inn;refine⟨fun p hp=>?_,?_,?_,?_⟩
  ·rw[ep] at hp
   show (i≤p.1∧p.1<e)∧k≤p.2∧p.2<f
   rcases Lb6.mp hp with e1 | hp
   ·subst e1;exact⟨⟨La4 _,hi⟩,La4 _,hk⟩
   ·rcases Lb9.mp hp with hp | hp
    ·have:=xb p hp;omega
    ·have:=yb p hp;omega
  ·rw[ep,Lb4,La2,difs,difs_app];have h1:b.n+2 * b.pairs.length+(i+1+(k+1))=j+l+difs ms ms' b.pairs:=x.sum;have h2:r.n+2 * r.pairs.length+(j+l)=e+f+difs ms ms' r.pairs:=y.sum;have h3:difP ms ms' (i,k)=d:=by rw[hd]; rfl
   show d+(b.n+r.n)+2 * (b.pairs.length+r.pairs.length+1)+(i+k)=e+f+(difP ms ms' (i,k)+(difs ms ms' b.pairs+difs ms ms' r.pairs))
   rw[h3];clear xb yb z1 z2 z3 z4 z5 z6 z7 z8;omega
  ·rw[ep];refine Le1.mpr ⟨fun q hq=>?_,List.pairwise_append.mpr ⟨x.lie,y.lie,fun p hp q hq=>?_⟩⟩
   ·rcases Lb9.mp hq with hq | hq
    ·have:=xb q hq;exact⟨by show i<q.1; omega,by show k<q.2; omega,j,l,hj,hl,by omega⟩
    ·have:=yb q hq;exact⟨by show i<q.1; omega,by show k<q.2; omega,j,l,hj,hl,by omega⟩
   ·have h1:=xb p hp;have h2:=yb q hq;obtain⟨_,j1,e1,_,le1⟩:=At.under hkt (k:=p.1) (by omega) (by omega);obtain⟨_,l1,e2,_,le2⟩:=At.under hku (k:=p.2) (by omega) (by omega);exact⟨by omega,by omega,j1,l1,e1,e2,by omega⟩
  ·have h1:b.many+2 * (i+1+(k+1))≤2 * (j+l)+1:=x.few;have h2:r.many+2 * (j+l)≤2 * (e+f)+1:=y.few
   show 1+(b.many+(r.many+0))+2 * (i+k)≤2 * (e+f)+1
   clear xb yb z1 z2 z3 z4 z5 z6 z7 z8;omega
theorem difs_le(ms ms':List Str):∀ ps,difs ms ms' ps≤ps.length
 | []=>La4 _
 | p::ps=>by
  have:=difs_le ms ms' ps
  have:difP ms ms' p≤1:=by unfold difP; split <;> omega
  rw[difs,Lb4]; omega
theorem Fits.len{s o:Nat×Nat}{c:Ch}(h:Fits ms ms' es es' s o c):c.pairs.length+(s.1+o.1)≤s.2+o.2:=by
 have:=h.sum
 have:=difs_le ms ms' c.pairs;omega
end
inductive AtP(ps:List (List Int))(es:List Nat):Nat→Nat→List Int→Nat→Prop
 | nil (i:Nat) (p:List Int) (n:Nat):AtP ps es i i p n
 | cons {i j e:Nat} {p:List Int} {n:Nat} (hp:ps[i]?=some (p++[(n:Int)])) (he:es[i]?=some j) (hk:AtP ps es (i+1) j (p++[(n:Int)]) 0) (hr:AtP ps es j e p (n+1)):AtP ps es i e p n
section
variable {ps:List (List Int)} {es:List Nat}
theorem AtP.le{i e n:Nat}{p:List Int}(h:AtP ps es i e p n):i≤e:=by
 induction h with
 | nil=>exact La4 _
 | cons _ _ _ _ a b=>omega
theorem AtP.path{i e n:Nat}{p:List Int}(h:AtP ps es i e p n):∀ x,i≤x→x<e→∃ (m:Nat) (q:List Int),ps[x]?=some (p++(m:Int)::q)∧n≤m:=by
 induction h with
 | nil i=>intro x h1 h2; omega
 | @cons i j e p n hp he hk hr ihk ihr =>
  intro x h1 h2
  by_cases hx:x=i
  ·subst hx;exact⟨n,[],by rw[hp],La4 _⟩
  ·by_cases hj:x<j
   ·obtain⟨m,q,e1,_⟩:=ihk x (by omega) hj;exact⟨n,(m:Int)::q,by rw[e1,La9]; rfl,La4 _⟩
   ·obtain⟨m,q,e1,hm⟩:=ihr x (by omega) h2;exact⟨m,q,e1,by omega⟩
theorem AtP.end{i e n:Nat}{p:List Int}(h:AtP ps es i e p n):∀ x,i≤x→x<e→∃ j,es[x]?=some j∧j≤e:=by
 induction h with
 | nil i=>intro x h1 h2; omega
 | @cons i j e p n hp he hk hr ihk ihr =>
  intro x h1 h2
  have:=hr.le
  by_cases hx:x=i
  ·subst hx;exact⟨j,he,by omega⟩
  ·by_cases hj:x<j
   ·obtain⟨j1,e1,l1⟩:=ihk x (by omega) hj;exact⟨j1,e1,by omega⟩
   ·exact ihr x (by omega) h2
theorem pre_cons{p q r:List Int}{n m:Nat}:((p++(n:Int)::q) <+: (p++(m:Int)::r))→n=m:=by
 intro h;rw[List.prefix_append_right_inj] at h
 have:=(List.cons_prefix_cons.mp h).1;omega
theorem AtP.sides{i e n:Nat}{p:List Int}(h:AtP ps es i e p n):∀ x y,i≤x→x<y→y<e→∃ (a b:List Int) (j:Nat),ps[x]?=some a∧ps[y]?=some b∧es[x]?=some j∧(y<j↔a <+: b)∧¬ b <+: a:=by
 induction h with
 | nil i=>intro x y h1 h2 h3; omega
 | @cons i j e p n hp he hk hr ihk ihr =>
  intro x y h1 h2 h3
  by_cases hx:x=i
  ·subst hx
   by_cases hj:y<j
   ·obtain⟨m,q,e1,_⟩:=hk.path y (by omega) hj;refine⟨_,_,j,hp,e1,he,⟨fun _=>List.prefix_append _ _,fun _=>hj⟩,fun z=>?_⟩
    have:=z.length_le;rw[La2,Lb4] at this;omega
   ·obtain⟨m,q,e1,hm⟩:=hr.path y (by omega) h3;refine⟨_,_,j,hp,e1,he,⟨fun z=>absurd z hj,fun z=>?_⟩,fun z=>?_⟩
    ·have:=pre_cons (q:=[]) z;omega
    ·have:=pre_cons (r:=[]) z;omega
  ·by_cases hj:x<j
   ·by_cases hy:y<j
    ·exact ihk x y (by omega) h2 hy
    ·obtain⟨m,q,e1,_⟩:=hk.path x (by omega) hj;obtain⟨j1,e3,l1⟩:=hk.end x (by omega) hj;obtain⟨m',q',e2,hm⟩:=hr.path y (by omega) h3;rw[La9] at e1;refine⟨_,_,j1,e1,e2,e3,⟨fun z=>by omega,fun z=>?_⟩,fun z=>?_⟩
     ·have:=pre_cons (q:=(m:Int)::q) z;omega
     ·have:=pre_cons (r:=(m:Int)::q) z;omega
   ·exact ihr x y (by omega) h2 h3
theorem atp_below(ps:List (List Int)):∀ (N:Nat) (ts:List Tr),knotsOf ts≤N→∀ (p:List Int) (i:Nat) (A B:List (List Int)),ps=A++(below p i ts++B) →
  (∀ q,B.head?=some q→q.length≤p.length+1)→AtP ps ((List.range ps.length).map (endU ps)) A.length (A.length+knotsOf ts) p i
 | _,[],_,p,i,A,B,_,_=>.nil _ _ _
 | 0,t::r,hN,_,_,_,_,_,_=>by rw[knotsOf,knots_eq] at hN; omega
 | N+1,t::r,hN,p,i,A,B,hps,hB=>by
  rw[knotsOf,knots_eq] at hN;rw[below_cons] at hps
  have hat:ps[A.length]?=some (p++[(i:Int)]):=by
   rw[hps,Le5 (La4 _),Lh9];rfl
  have hlen:A.length<ps.length:=(La5.mp hat).1;have hgd:ps.getD A.length []=p++[(i:Int)]:=by rw[La3,hat]; rfl
  have hdr:ps.drop (A.length+1)=below (p++[(i:Int)]) 0 t.kids++(below p (i+1) r++B):=by
   rw[hps,← Lj3,Lf9];simp
  have hB2:∀ q,(below p (i+1) r++B).head?=some q→q.length≤p.length+1:=fun q hq=>by
   cases r with
   | nil=>exact hB q hq
   | cons u r' =>
    rw[below_cons] at hq
    have:p++[((i+1:Nat):Int)]=q:=Option.some.inj hq;rw[← this];simp
  have hend:endU ps A.length=A.length+1+knotsOf t.kids:=by
   unfold endU;rw[hgd,hdr,take_run,below_length]
   ·intro q hq;exact decide_eq_true (below_deep _ _ _ _ (La4 _) q hq)
   ·intro q hq
    have:=hB2 q hq;refine decide_eq_false ?_;rw[La2,Lb2];omega
  have k1:=atp_below ps N t.kids (by omega) (p++[(i:Int)]) 0 (A++[p++[(i:Int)]]) (below p (i+1) r++B) (by rw[hps]; simp) (fun q hq=>by have:=hB2 q hq; rw[La2,Lb2]; omega);have k2:=atp_below ps N r (by omega) p (i+1) (A++[p++[(i:Int)]]++below (p++[(i:Int)]) 0 t.kids) B (by rw[hps]; simp) hB;rw[La2,Lb2] at k1;rw[La2,La2,Lb2,below_length] at k2;refine .cons (j:=A.length+1+knotsOf t.kids) hat ?_ k1 ?_
  ·rw[La6,Li0 hlen,Li5,hend]
  ·rw[knotsOf,knots_eq,show A.length+(1+knotsOf t.kids+knotsOf r)=A.length+1+knotsOf t.kids+knotsOf r by omega];exact k2
theorem atp_row(T:List Tr):AtP (pps 0 T) (endsL T) 0 (knotsOf T) [] 0:=by
 have:=atp_below (pps 0 T) _ T (La4 _) [] 0 [] [] (by unfold below; simp) (fun q hq=>(nomatch hq))
 simpa [endsL] using this
end
end TT
namespace TT
open PySem PySem.Spec PyProof.Rows L2
def Asc(l:List (Nat×Nat)):Prop:=l.Pairwise fun p q=>plt (intP q) (intP p)=false
theorem paired_of{α β:Type}{R:α→β→Prop}{dx:α}{dy:β}:∀ {xs:List α} {ys:List β},xs.length=ys.length→(∀ i,i<xs.length→R (xs.getD i dx) (ys.getD i dy))→Paired R xs ys
 | [],[],_,_=>.nil
 | [],_::_,h,_=>by cases h
 | _::_,[],h,_=>by cases h
 | x::xs,y::ys,h,k=>.cons (k 0 (Nat.succ_pos _)) (paired_of (Nat.succ.inj h) fun i hi=>k (i+1) (Nat.succ_lt_succ hi))
theorem getD_intP(o:Option (Nat×Nat)):(o.map intP).getD (0,0)=intP (o.getD (0,0)):=by cases o <;> rfl
theorem plt_tot{p q:Nat×Nat}(h1:plt (intP p) (intP q)=false)(h2:plt (intP q) (intP p)=false):p=q:=by
 unfold plt intP at h1 h2
 by_cases e:(p.1:Int)=q.1
 ·rw[if_pos e] at h1;rw[if_pos e.symm] at h2;have a:=of_decide_eq_false h1;have b:=of_decide_eq_false h2;exact Prod.ext (by omega) (by omega)
 ·rw[if_neg e] at h1;rw[if_neg (Ne.symm e)] at h2;have a:=of_decide_eq_false h1;have b:=of_decide_eq_false h2;omega
theorem asc_one:∀ (a b:List (Nat×Nat)),a.Perm b→Asc a→Asc b→a=b
 | [],b,h,_,_=>h.nil_eq
 | x::a,[],h,_,_=>absurd h.length_eq (by simp)
 | x::a,y::b,h,ha,hb=>by
  obtain⟨h1,h2⟩:=Le1.mp ha;obtain⟨k1,k2⟩:=Le1.mp hb
  have e:x=y:=by
   have mx:x∈y::b:=h.mem_iff.mp La7;have my:y∈x::a:=h.mem_iff.mpr La7
   rcases Lb6.mp mx with e | mx
   ·exact e
   ·rcases Lb6.mp my with e | my
    ·exact e.symm
    ·exact plt_tot (h1 y my |> fun z=>k1 x mx) (h1 y my)
  subst e;rw[asc_one a b ((List.perm_cons x).mp h) h2 k2]
theorem asc_lie{es es':List Nat}{l:List (Nat×Nat)}(h:l.Pairwise (Lie es es')):Asc l:=h.imp fun {p q} z=>by
 unfold plt intP
 have:=z.1;rw[if_neg (by show ¬ (q.1:Int)=p.1; omega)];exact decide_eq_false (by show ¬ (q.1:Int)<p.1; omega)
def rSortedP(K:PySem.W.Frag):List V→Hp→VK→Prop:=fun xs H Q=>∃ (p:Addr) (vs:List V) (G:Hp) (ps:List (Nat×Nat)),xs=[.ref p]∧SqL K H p vs∧Same G H∧Reps G vs (ps.map pairD)∧ps.length<64 ∧
 ∀ l vs' qs,H l=none→Reps G vs' (qs.map pairD)→qs.Perm ps→Asc qs→Q (.ref l) (upd H l (.lst vs'))
theorem reps_paired{G:Hp}:∀ {vs:List V} {ps:List (Nat×Nat)},Reps G vs (ps.map pairD)→Paired (fun v p=>Rep G v (pairD p)) vs ps
 | _,[],h=>by cases h; exact .nil
 | _,p::ps,h=>by cases h with | cons r t=>exact .cons r (reps_paired t)
theorem paired_reps{G:Hp}:∀ {vs:List V} {ps:List (Nat×Nat)},Paired (fun v p=>Rep G v (pairD p)) vs ps→Reps G vs (ps.map pairD)
 | _,_,.nil=>.nil
 | _,_,.cons r t=>.cons r (paired_reps t)
section
variable {X:Cx}
theorem call_sortedP:CallR X (.builtin "sorted") (rSortedP X.K):=by
 intro pins s σ H xs us Q I r h;obtain⟨p,vs,G,ps,rfl,hq,sm,hR0,h64,k⟩:=h;have hR:=reps_paired hR0;obtain⟨u,rfl,rx⟩:=vals1 r;cases rx;obtain⟨its,rv,pl,hz⟩:=I.list hq;have hl:=rv.length;have hl2:=paired_length hR
 by_cases h2:its.length<2
 ·refine sorted_short pl.isList h2 fun D h' c hD kp e=>?_;refine⟨.ref D,_,I.laid (t':=s.toks) (o:=.lst vs) kp hD ⟨hz,its,c,rv,e⟩,rfl,k D vs ps (I.hok.fresh hD) hR0 (List.Perm.refl _) ?_⟩
  have:ps.length<2:=by omega
  match ps,this with
  | [],_=>exact List.Pairwise.nil
  | [_],_=>exact Lk0 _ _
  | _::_::_,z=>simp at z <;> omega
 ·obtain⟨m,F⟩:=I.fr;have hm:s.heap.Ns X.env.locals m:=F.ns;have N:News X.base X.env.locals s.heap (allNews X.base s.heap X.env.locals):=news_all
  have item:∀ i,i<its.length→∃ (a:Addr) (ob:Obj) (n:Nat) (t u:Tok),its.getD i Value.none=.ref a∧ob.cls=.type "tuple"∧ob.data=.seq #[.int ((ps.getD i (0,0)).1:Int) t,.int ((ps.getD i (0,0)).2:Int) u] n∧(a,ob)∈allNews X.base s.heap X.env.locals:=fun i hi=>by
   have e1:vs[i]?=some vs[i]:=by simp[show i<vs.length by omega]
   have e2:ps[i]?=some (ps.getD i (0,0)):=by rw[La3]; simp[show i<ps.length by omega]
   have hp0:Rep G vs[i] (pairD (ps.getD i (0,0))):=paired_get (R:=fun v p=>Rep G v (pairD p)) hR e1 e2;obtain⟨a,ea,ha⟩:=Rep.pair' hp0;have ha:=sm _ _ ha;obtain⟨_,kts,rk,ob,h1,h2,n,h3⟩:=I.hok a _ ha
   cases rk with
   | cons q1 rk =>
    cases rk with
    | cons q2 rk =>
     cases rk;obtain⟨t1,rfl⟩:=q1;obtain⟨t2,rfl⟩:=q2;obtain⟨u,eu,ru⟩:=rv.get e1;rw[ea] at ru;cases ru;refine⟨a,ob,n,t1,t2,?_,h2,h3,mem_allNews (fun z=>?_) ?_ h1⟩
     ·rw[La3,eu]; rfl
     ·rw[z,I.free] at ha; cases ha
     ·cases q:X.base.get? a with
      | none=>rfl
      | some ob=>rw[(I.bs a ob q).2] at ha; cases ha
  refine PySem.W.kat_sorted F N pl.isList (by omega) (by omega) fun D e1 h' F' N' hD=>?_
  have x6:Duos h' its (ps.map intP):=by
   refine paired_of (dx:=Value.none) (dy:=(0,0)) (by rw[La1]; omega) fun i hi=>?_;obtain⟨a,ob,n,t,u,e1,e2,e3,e4⟩:=item i hi;refine⟨a,ob,n,t,u,e1,(N' _ (Lb0 _ e4)).1,e2,?_⟩
   have eg:(ps.map intP).getD i (0,0)=intP (ps.getD i (0,0)):=by
    rw[La3,La3,La6]
    have:i<ps.length:=by omega
    rw[La0 this];rfl
   rw[eg];exact e3
  obtain⟨fs,t1,t2,t3⟩:=x6.tups;refine PySem.W.kat_kind (T:=.type "int") t1 (by omega) (fun v hv=>?_) (by decide) ?_
  ·obtain⟨i,t,rfl⟩:=t3 v hv;exact fun A Q E s _ q=>wpAny_typeOf (T:="int") (v:=.int i t) rfl q
  rw[show (Value.type "int" != Value.type "tuple")=true by decide]
  ·have O:=plt_ord (ps.map intP);refine kas_sort_ok O (fun i j C hi hj hC=>duo_lt x6 hi hj hC) (by omega) fun q hq hs=>?_;refine PySem.W.KasFin.intro F' N' (.head fun z hz'=>Lc4 (hD z hz')) fun h2' c F2 N2=>?_
   have hDn:H D=none:=by
    cases e:H D with
    | none=>rfl
    | some u =>
     obtain⟨ob,eo⟩:∃ ob,s.heap.get? D=some ob:=obj_ex (I.hok D u e);exact absurd (hD _ (mem_allNews (N' _ La7).2.1 (N' _ La7).2.2 eo)) (Le6 _)
   have hlen:q.size=its.length:=hq.size
   have hin:∀ i∈q.toList,i<its.length:=fun i hi=>by
    have:i∈List.toArray (List.range its.length):=(Array.Perm.mem_iff hq).mp (Lj0.mp hi)
    simpa using this
   have keep:∀ b u,b≠X.env.locals→s.heap.get? b=some u→h2'.get? b=some u:=fun b u hb e=>by
    cases e2:X.base.get? b with
    | some ob =>
     have:=I.bk b ob e2;rw[e] at this;cases this
     exact F2.keep b _ e2
    | none=>exact (N2 (b,u) (Lb0 _ (mem_allNews hb e2 e))).1
   have hperm:(q.toList.map fun i=>ps.getD i (0,0)).Perm ps:=by
    have hp2:q.toList.Perm (List.range its.length):=by simpa using Li9.mp hq
    have:=hp2.map fun i=>ps.getD i (0,0);rw[show its.length=ps.length by omega] at this;exact this.trans (List.Perm.of_eq (pick_range ps (0,0)))
   refine⟨.ref D,_,laidL (s:=s) (h':=h2') (t':=s.toks) (o:=.lst (q.toList.map fun i=>vs.getD i .non)) I hm F2.ns keep hDn (fun b u e n z=>?_) ⟨?_,q.toList.map fun i=>its.getD i Value.none,c,?_,(N2 (D,_) La7).1⟩,rfl,
    k D _ (q.toList.map fun i=>ps.getD i (0,0)) hDn (paired_reps (paired_pick hR _ fun i hi=>by have:=hin i hi; omega)) hperm ?_⟩
   ·subst z;exact absurd (hD _ (mem_allNews (N' _ La7).2.1 (N' _ La7).2.2 e)) (Le6 _)
   ·rw[La1,Lc1]; omega
   ·exact paired_pick rv _ fun i hi=>by have:=hin i hi; omega
   ·refine Lf8.mpr ?_;rw[Lf5];intro i j hi hj hij
    have:=hs i j (Lg8 hij) (by rw[Lc1] at hj; omega)
    simpa [getD_intP,ple,pat,show i<q.size by rw[Array.length_toList] at hi; exact hi,show j<q.size by rw[Lc1] at hj; exact hj] using this
end
end TT
namespace L2
open PySem PySem.Spec PyProof.Rows
end L2
namespace TT
open PySem PySem.Spec PyProof.Rows L2
section
variable {P:Program} {w:World} {G H:Hp} {s:Shared}
theorem path_rcAt{A:Around}(hok:HOk P w H s.heap){p q:List Int}{a c:Addr}(hu:A.units<cLine)(ha:H a=some (.lst (p.map V.int)))(hc:H c=some (.lst (q.map V.int))):SeqAt.RcAt A s (.ref a) (.ref c) (decide (p=q)):=by
 obtain⟨_,xs,n1,rx,hx⟩:=hok a _ ha;obtain⟨_,ys,n2,ry,hy⟩:=hok c _ hc;have l1:=rx.length;have l2:=ry.length;rw[La1] at l1 l2;have i1:s.heap.IsList a xs.toArray:=⟨_,hx,rfl,_,rfl⟩;have i2:s.heap.IsList c ys.toArray:=⟨_,hy,rfl,_,rfl⟩
 by_cases hl:xs.length=ys.length
 ·have key:(List.range xs.toArray.size).all (fun j=>decide (p.getD j 0=q.getD j 0))=decide (p=q):=by
   rw[Li6,all_iff,decide_eq_true_iff,La8]
   constructor
   ·intro h;refine lists_same (by omega) fun j hj=>?_
    have:=of_decide_eq_true (h j (by omega));rw[La3,La3] at this;have hj2:j<q.length:=by omega
    rw[La0 hj,La0 hj2] at this ⊢;exact congrArg some this
   ·rintro rfl j hj;exact decide_eq_true rfl
  rw[← key];refine SeqAt.RcAt.lists i1 i2 (by rw[La8,La8]; exact hl) hu fun j h1 h2=>?_;rw[La8] at h1 h2;have hp:j<p.length:=by omega
  have hq:j<q.length:=by omega
  obtain⟨u1,e1,t1⟩:=rx.get (i:=j) (x:=.int (p.getD j 0)) (by rw[La6,La3,La0 hp]; rfl);obtain⟨u2,e2,t2⟩:=ry.get (i:=j) (x:=.int (q.getD j 0)) (by rw[La6,La3,La0 hq]; rfl);obtain⟨k1,rfl⟩:=t1;obtain⟨k2,rfl⟩:=t2
  have z1:xs.toArray[j]=Value.int (p.getD j 0) k1:=by
   obtain⟨_,e⟩:=La5.mp e1
   simpa using e
  have z2:ys.toArray[j]=Value.int (q.getD j 0) k2:=by
   obtain⟨_,e⟩:=La5.mp e2
   simpa using e
  rw[z1,z2]
  have:=SeqAt.EqAt.int_int (A:=A.in1) (s:=s) (p.getD j 0) k1 (q.getD j 0) k2
  rwa [show (p.getD j 0 == q.getD j 0)=decide (p.getD j 0=q.getD j 0) from rfl] at this
 ·rw[decide_eq_false (fun z=>hl (by subst z; omega))];exact SeqAt.RcAt.lists_lengths i1 i2 (by rw[La8,La8,bne_iff_ne]; exact hl) hu
theorem path_eqAt{A:Around}(hok:HOk P w H s.heap){p q:List Int}{a c:Addr}(hu:A.units<cLine)(ha:H a=some (.lst (p.map V.int)))(hc:H c=some (.lst (q.map V.int))):SeqAt.EqAt A s (.ref a) (.ref c) (decide (p=q)):=by
 by_cases hac:a=c
 ·subst hac;rw[ha] at hc;have e:p.map V.int=q.map V.int:=by injection hc with hc; injection hc
  have e2:p=q:=List.map_inj_right (fun _ _ z=>V.int.inj z) |>.mp e;rw[decide_eq_true e2];exact SeqAt.EqAt.same _
 ·exact SeqAt.EqAt.of_refs hac (path_rcAt hok hu ha hc)
end
def cNotInP:R2:=fun x y H Q=>∃ (G:Hp) (p:List Int) (qs:List (List Int)),Same G H∧Rep G x (pathD p)∧Rep G y (.lst (qs.map pathD))∧Q (.bl (!decide (p∈qs))) H
section
variable {X:Cx}
theorem op_notinP{k:Nat}(hr:Room k X.A):OpR X (compareOp .NotIn) cNotInP:=by
 intro pins s σ H x y v u Q I rx ry h;obtain⟨G,p,qs,sm,r1,r2,hq⟩:=h;have hun:=hr.un;obtain⟨a,rfl,ha⟩:=r1.path;cases (show v=Value.ref a from rx)
 cases r2 with
 | @lst l vs _ hl rs =>
 cases (show u=Value.ref l from ry);obtain⟨its,rv,p1,_⟩:=I.list (SqL.of (K:=X.K) (sm _ _ hl));have l1:=rv.length;have l2:=rs.length;rw[La1] at l2
 have one:∀ j,j<its.length→∃ b:Addr,its[j]?=some (.ref b)∧H b=some (.lst ((qs.getD j []).map V.int)):=fun j hj=>by
  obtain⟨d,hd,rd⟩:=rs.at (i:=j) (La0 (show j<vs.length by omega));rw[La6,La0 (show j<qs.length by omega)] at hd;cases hd;obtain⟨b,eb,hb⟩:=Rep.path rd;obtain⟨z,ez,rz⟩:=rv.get (i:=j) (La0 (show j<vs.length by omega));rw[eb] at rz;cases rz;refine⟨b,ez,?_⟩;rw[La3,La0 (show j<qs.length by omega)];exact sm _ _ hb
 classical
 let e:Value→Bool:=fun z=>decide (∃ j,j<its.length∧its[j]?=some z∧qs.getD j []=p)
 have key:its.toArray.any e=decide (p∈qs):=by
  rw[Li6,decide_eq_true_iff,List.any_toArray,List.any_eq_true]
  constructor
  ·rintro⟨z,_,hz⟩;obtain⟨j,hj,_,ep⟩:=of_decide_eq_true hz;rw[La3,La0 (show j<qs.length by omega)] at ep;rw[← ep];exact Ld4 _
  ·intro hp;obtain⟨j,hj,ep⟩:=Le0.mp hp;have hj':j<its.length:=by omega
   refine⟨its[j],Ld4 _,decide_eq_true ⟨j,hj',La0 hj',?_⟩⟩;rw[La3,La0 hj];exact ep
 refine SeqAt.notIn_listAt e p1.isList (fun z hz=>?_) ?_
 ·obtain⟨j,hj,ez⟩:=Le0.mp (List.mem_toArray.mp hz);obtain⟨b,eb,hb⟩:=one j hj;rw[La0 hj,ez] at eb;cases eb;have h1:=path_eqAt (A:=X.A.in1) (s:=s) I.hok (show X.A.units+1<cLine by omega) hb (sm _ _ ha)
  have h2:e (.ref b)=decide (qs.getD j []=p):=by
   show decide _=decide _
   rw[decide_eq_decide]
   constructor
   ·rintro⟨i,hi,ei,ep⟩;obtain⟨b',eb',hb'⟩:=one i hi;rw[ei] at eb';cases eb';rw[hb] at hb';have e3:(qs.getD j []).map V.int=(qs.getD i []).map V.int:=by injection hb' with hb'; injection hb'
    rw[List.map_inj_right (fun _ _ z=>V.int.inj z) |>.mp e3];exact ep
   ·intro ep;exact⟨j,hj,by rw[La0 hj,ez],ep⟩
  rw[h2];exact h1
 ·rw[key];exact⟨.bl (!decide (p∈qs)),H,I,rfl,hq⟩
end
end TT
namespace TT
open PySem
mutual
def Tr.kp(A:Nat→Option Str):Nat→Tr→List Tr
 | n,.node _ ks=>match A n with
  | none=>kpL A (n+1) ks
  | some m=>[Tr.node m (kpL A (n+1) ks)]
def kpL(A:Nat→Option Str):Nat→List Tr→List Tr
 | _,[]=>[]
 | n,t::ts=>t.kp A n++kpL A (n+t.knots) ts
end
theorem kp_none{A:Nat→Option Str}{n:Nat}(t:Tr)(h:A n=none):t.kp A n=kpL A (n+1) t.kids:=by cases t; rw[Tr.kp,h]; rfl
theorem kp_some{A:Nat→Option Str}{n:Nat}{m:Str}(t:Tr)(h:A n=some m):t.kp A n=[Tr.node m (kpL A (n+1) t.kids)]:=by cases t; rw[Tr.kp,h]; rfl
theorem kpL_app(A:Nat→Option Str):∀ (a b:List Tr) (n:Nat),kpL A n (a++b)=kpL A n a++kpL A (n+knotsOf a) b
 | [],b,n=>by rw[Ld1,kpL,knotsOf,Ld1,Lk6]
 | t::a,b,n=>by rw[Lc7,kpL,kpL,kpL_app A a b,knotsOf,La9,Lg0]
theorem kpL_congr{A B:Nat→Option Str}:∀ (N:Nat) (ts:List Tr),knotsOf ts≤N→∀ n,(∀ x,n≤x→x<n+knotsOf ts→A x=B x)→kpL A n ts=kpL B n ts
 | _,[],_,n,_=>by rw[kpL,kpL]
 | 0,t::r,hN,_,_=>by rw[knotsOf,knots_eq] at hN; omega
 | N+1,t::r,hN,n,h=>by
  rw[knotsOf,knots_eq] at hN h;rw[kpL,kpL,knots_eq];have h1:=kpL_congr N r (by omega) (n+(1+knotsOf t.kids)) fun x a b=>h x (by omega) (by omega);have h2:=kpL_congr N t.kids (by omega) (n+1) fun x a b=>h x (by omega) (by omega);have h3:=h n (La4 _) (by omega);rw[h1]
  cases e:A n with
  | none=>rw[kp_none t e,kp_none t (h3 ▸ e),h2]
  | some m=>rw[kp_some t e,kp_some t (h3 ▸ e),h2]
theorem kpL_same{A B:Nat→Option Str}{ts:List Tr}{n:Nat}(h:∀ x,n≤x→x<n+knotsOf ts→A x=B x):kpL A n ts=kpL B n ts:=kpL_congr _ ts (La4 _) n h
theorem At.kept{ms:List Str}{es:List Nat}{A:Nat→Option Str}{i e:Nat}{F:List Tr}(h:At ms es i e F):(∀ x,i≤x→x<e→A x=ms[x]?)→kpL A i F=F:=by
 induction h with
 | nil i=>intro _; rw[kpL]
 | @cons i j e t r hm he hk hr ihk ihr =>
  intro h;have z1:=hk.size;have z2:=hr.size;have e1:=h i (La4 _) (by omega);rw[hm] at e1;have h1:=ihk fun x a b=>h x (by omega) (by omega);have h2:=ihr fun x a b=>h x (by omega) (by omega);rw[kpL,kp_some t e1,h1,knots_eq,show i+(1+knotsOf t.kids)=j by omega,h2];cases t;rfl
theorem Plan.kept{ms ms':List Str}{es es':List Nat}{S S':Nat→Option Str}{s o:Nat×Nat}{c:Ch}(h:Plan ms ms' es es' s o c):∀ {F G:List Tr},At ms es s.1 s.2 F→At ms' es' o.1 o.2 G →
  (∀ p∈c.pairs,∃ m,S p.1=some m∧S' p.2=some m)→(∀ x,s.1≤x→x<s.2→(∀ p∈c.pairs,p.1≠x)→S x=Option.none)→(∀ y,o.1≤y→y<o.2→(∀ p∈c.pairs,p.2≠y)→S' y=Option.none)→kpL S s.1 F=kpL S' o.1 G:=by
 induction h with
 | @none i k =>
  intro F G f g _ _ _
  rw[f.empty (La4 _),g.empty (La4 _),kpL,kpL]
 | @cut i e o c hlt h ih =>
  intro F G f g hp hS hS';rw[pairs_one] at hp hS hS';obtain⟨t,r,j,rfl,hm,he,hk,hr⟩:=At.first f hlt;have x:=(h.fits (hk.app hr) g).inn;have z:=ih (hk.app hr) g hp (fun y a b=>hS y (by have h9:i+1≤y:=a; show i≤y; omega) b) hS';have z1:=hk.size
  rw[kpL,kp_none t (hS i (La4 _) hlt fun p hq=>by have h9:i+1≤p.1:=(x p hq).1.1; omega),← z,kpL_app,knots_eq,Lg0]
 | @put k f s c hlt h ih =>
  intro F G f' g hp hS hS';rw[pairs_one] at hp hS hS';obtain⟨t,r,j,rfl,hm,he,hk,hr⟩:=At.first g hlt;have x:=(h.fits f' (hk.app hr)).inn;have z:=ih f' (hk.app hr) hp hS (fun y a b=>hS' y (by have h9:k+1≤y:=a; show k≤y; omega) b)
  rw[kpL,kp_none t (hS' k (La4 _) hlt fun p hq=>by have h9:k+1≤p.2:=(x p hq).2.1; omega),z,kpL_app,knots_eq,Lg0]
 | @stay i e k f j l b r d hi hk hj hl hd hb hr ihb ihr =>
  intro F G f' g hp hS hS';obtain⟨t,rr,j',rfl,hm,he,hkt,hrt⟩:=At.first f' hi;obtain⟨u,qq,l',rfl,hm',he',hku,hru⟩:=At.first g hk;rw[hj] at he;cases he;rw[hl] at he';cases he'
  have ep:(Ch.mk (d+(b.n+r.n)) [(i,k)] [b,r]).pairs=(i,k)::(b.pairs++r.pairs):=by
   rw[Ch.pairs,pairsOf,pairsOf,pairsOf,Lc0]; rfl
  rw[ep] at hp hS hS';have xb:∀ p∈b.pairs,(i+1≤p.1∧p.1<j)∧k+1≤p.2∧p.2<l:=(hb.fits hkt hku).inn;have xr:∀ p∈r.pairs,(j≤p.1∧p.1<e)∧l≤p.2∧p.2<f:=(hr.fits hrt hru).inn;have z1:=hkt.size;have z2:=hrt.size;have z3:=hku.size;have z4:=hru.size;dsimp only at z1 z2 z3 z4 hS hS'
  have kb:=ihb hkt hku (fun p q=>hp p (Lb0 _ (Le3 _ q)))
   (fun x a b' q=>by
    dsimp only at a b';refine hS x (by omega) (by omega) fun p hq=>?_
    rcases Lb6.mp hq with e1 | hq
    ·subst e1; show i≠x; omega
    ·rcases Lb9.mp hq with hq | hq
     ·exact q p hq
     ·have:=xr p hq; omega)
   (fun x a b' q=>by
    dsimp only at a b';refine hS' x (by omega) (by omega) fun p hq=>?_
    rcases Lb6.mp hq with e1 | hq
    ·subst e1; show k≠x; omega
    ·rcases Lb9.mp hq with hq | hq
     ·exact q p hq
     ·have:=xr p hq; omega)
  have kr:=ihr hrt hru (fun p q=>hp p (Lb0 _ (Ld2 _ q)))
   (fun x a b' q=>by
    dsimp only at a b';refine hS x (by omega) (by omega) fun p hq=>?_
    rcases Lb6.mp hq with e1 | hq
    ·subst e1; show i≠x; omega
    ·rcases Lb9.mp hq with hq | hq
     ·have:=xb p hq; omega
     ·exact q p hq)
   (fun x a b' q=>by
    dsimp only at a b';refine hS' x (by omega) (by omega) fun p hq=>?_
    rcases Lb6.mp hq with e1 | hq
    ·subst e1; show k≠x; omega
    ·rcases Lb9.mp hq with hq | hq
     ·have:=xb p hq; omega
     ·exact q p hq)
  obtain⟨m,m1,m2⟩:=hp (i,k) La7;dsimp only at kb kr m1 m2 ⊢;rw[kpL,kpL,kp_some t m1,kp_some u m2,kb,knots_eq,knots_eq,show i+(1+knotsOf t.kids)=j by omega,show k+(1+knotsOf u.kids)=l by omega,kr]
def putO(o:Option Str)(t:Tr):List Tr:=match o with
 | none=>t.kids
 | some m=>[Tr.node m t.kids]
def stpO(o:Option Str)(p:List Int):Stp:=match o with
 | none=>.cut p
 | some m=>.mark p m
theorem stpO_path(o:Option Str)(p:List Int):(stpO o p).path=p:=by cases o <;> rfl
theorem stpO_many(o:Option Str)(p:List Int):(stpO o p).many=1:=by cases o <;> rfl
theorem stpO_instead(o:Option Str)(p:List Int)(t:Tr)(r:List Tr):(stpO o p).instead (t::r)=putO o t:=by cases o <;> rfl
inductive Does(o:Option Str):List Tr→List Int→List Tr→Prop
 | here (a b:List Tr) (t:Tr):Does o (a++t::b) [(a.length:Int)] (a++(putO o t++b))
 | deep (a b:List Tr) (m:Str) {ks ls:List Tr} {p:List Int} (h:Does o ks p ls):Does o (a++Tr.node m ks::b) ((a.length:Int)::p) (a++Tr.node m ls::b)
theorem Does.ne{o:Option Str}{ts rs:List Tr}{p:List Int}(h:Does o ts p rs):p≠[]:=by cases h <;> exact fun z=>nomatch z
theorem Does.step{o:Option Str}{ts rs:List Tr}{p:List Int}(h:Does o ts p rs):∃ bs,(stpO o p).beside ts=some bs∧(stpO o p).row ts bs=rs:=by
 induction h with
 | here a b t =>
  refine⟨a++t::b,?_,?_⟩
  ·unfold Stp.beside;rw[stpO_path,stpO_many,if_neg (by simp)]
   show (if _ then none else some (a++t::b))=_
   rw[if_neg]
   show ¬ ((a.length:Int)<0∨(1:Int)<0∨((a++t::b).length:Int)<(a.length:Int)+1)
   rw[La2,Lb4];omega
  ·unfold Stp.row;rw[stpO_path,stpO_many]
   show setAt _ [] ((a++t::b).take (a.length:Int).toNat++(stpO o _).instead (((a++t::b).drop (a.length:Int).toNat).take 1)++(a++t::b).drop ((a.length:Int).toNat+1))=_
   rw[setAt,Ld3,Lg5,Lf9,← Lj3,Lf9,La9]
   show a++((stpO o _).instead (t::[])++b)=_
   rw[stpO_instead]
 | @deep a b m ks ls p h ih =>
  obtain⟨bs,h1,h2⟩:=ih;have hn:=h.ne
  obtain⟨x,q,rfl⟩:∃ x q,p=x::q:=by
   cases p with
   | nil=>exact absurd rfl hn
   | cons x q=>exact⟨x,q,rfl⟩
  have hat:(a++Tr.node m ks::b)[((a.length:Nat):Int).toNat]?=some (Tr.node m ks):=by simp
  have e1:((a.length:Int)::x::q).dropLast=(a.length:Int)::(x::q).dropLast:=rfl;have e2:((a.length:Int)::x::q).getLastD 0=(x::q).getLastD 0:=by simp[List.getLastD]
  refine⟨bs,?_,?_⟩
  ·unfold Stp.beside at h1 ⊢;rw[stpO_path,stpO_many,if_neg hn] at h1;rw[stpO_path,stpO_many,if_neg (by simp),e1,e2,down,if_neg (by omega),hat];exact h1
  ·unfold Stp.row at h2 ⊢;rw[stpO_path,stpO_many] at h2;have e4:(a++Tr.node m ks::b).drop (a.length+1)=b:=by simp
   rw[stpO_path,stpO_many,e1,e2,setAt_cons hat,Ld3,Lg5,e4,La9];have e3:∀ z,(stpO o ((a.length:Int)::x::q)).instead z=(stpO o (x::q)).instead z:=fun z=>by cases o <;> cases z <;> rfl
   rw[e3]
   show a++([Tr.node m (setAt ks _ _)]++b)=_
   rw[h2];rfl
def setO(A:Nat→Option Str)(k:Nat)(o:Option Str):Nat→Option Str:=fun x=>if x=k then o else A x
theorem setO_at(A:Nat→Option Str)(k:Nat)(o:Option Str):setO A k o k=o:=if_pos rfl
theorem setO_ne{A:Nat→Option Str}{k x:Nat}{o:Option Str}(h:x≠k):setO A k o x=A x:=if_neg h
theorem does_kp{A:Nat→Option Str}{o:Option Str}:∀ (N:Nat) (ts:List Tr),knotsOf ts≤N→∀ (n k:Nat) (a b:List Tr),k<knotsOf ts→(∀ x,n≤x→x≤n+k→A x≠none) →
  ∃ p,(pps a.length ts)[k]?=some p∧Does o (a++(kpL A n ts++b)) p (a++(kpL (setO A (n+k) o) n ts++b))
 | _,[],_,_,k,_,_,hk,_=>by rw[knotsOf] at hk; omega
 | 0,t::r,hN,_,_,_,_,_,_=>by rw[knotsOf,knots_eq] at hN; omega
 | N+1,t::r,hN,n,k,a,b,hk,hA=>by
  rw[knotsOf,knots_eq] at hN hk
  obtain⟨m,hm⟩:∃ m,A n=some m:=by
   cases e:A n with
   | none=>exact absurd e (hA n (La4 _) (by omega))
   | some m=>exact⟨m,rfl⟩
  have hpl:(pps 0 t.kids).length=knotsOf t.kids:=pps_length 0 t.kids;rw[kpL,kp_some t hm,pps,pp_eq,Lc2,Lc7]
  by_cases h0:k=0
  ·subst h0;refine⟨[(a.length:Int)],rfl,?_⟩
   have e1:kpL (setO A (n+0) o) n (t::r)=putO o (Tr.node m (kpL A (n+1) t.kids))++kpL A (n+t.knots) r:=by
    have c1:kpL (setO A n o) (n+1) t.kids=kpL A (n+1) t.kids:=kpL_same fun x h1 h2=>setO_ne (by omega);have c2:kpL (setO A n o) (n+t.knots) r=kpL A (n+t.knots) r:=kpL_same fun x h1 h2=>setO_ne (by rw[knots_eq] at h1; omega);rw[Lk6,kpL,c2]
    cases o with
    | none=>rw[kp_none t (setO_at A n none),c1]; rfl
    | some m'=>rw[kp_some t (setO_at A n (some m')),c1]; rfl
   rw[e1,La9,La9];exact .here a _ _
  ·have c0:setO A (n+k) o n=some m:=(setO_ne (by omega)).trans hm;rw[kpL,kp_some t c0]
   by_cases h1:k≤knotsOf t.kids
   ·obtain⟨q,hq,hd⟩:=does_kp (A:=A) (o:=o) N t.kids (by omega) (n+1) (k - 1) [] [] (by omega) fun x u v=>hA x (by omega) (by omega);have c2:kpL (setO A (n+k) o) (n+t.knots) r=kpL A (n+t.knots) r:=kpL_same fun x h1 h2=>setO_ne (by rw[knots_eq] at h1; omega);rw[Ld1,Ld1,Lc0,Lc0,show n+1+(k - 1)=n+k by omega] at hd;refine⟨(a.length:Int)::q,?_,?_⟩
    ·obtain⟨j,rfl⟩:∃ j,k=j+1:=⟨k - 1,by omega⟩;have hq':(pps 0 t.kids)[j]?=some q:=hq;rw[Lk2,Lj1 (by rw[La1]; omega),La6,hq'];rfl
    ·rw[c2,La9,La9];exact .deep a _ m hd
   ·obtain⟨q,hq,hd⟩:=does_kp (A:=A) (o:=o) N r (by omega) (n+t.knots) (k - t.knots) (a++[Tr.node m (kpL A (n+1) t.kids)]) b (by rw[knots_eq]; omega) fun x u v=>hA x (by omega) (by rw[knots_eq] at v; omega);have c1:kpL (setO A (n+k) o) (n+1) t.kids=kpL A (n+1) t.kids:=kpL_same fun x h1 h2=>setO_ne (by omega);rw[show n+t.knots+(k - t.knots)=n+k by rw[knots_eq]; omega] at hd;rw[La2,Lb2] at hq;refine⟨q,?_,?_⟩
    ·obtain⟨j,rfl⟩:∃ j,k=j+1:=⟨k - 1,by omega⟩;rw[Lk2,Le5 (by rw[La1]; omega),La1,hpl,← hq];congr 1;rw[knots_eq];omega
    ·rw[c1];rw[La9,La9] at hd;rw[La9,La9];exact hd
def opsN(T:List Tr)(l:List (Nat×Option Str)):List Stp:=l.map fun q=>stpO q.2 ((pps 0 T).getD q.1 [])
def setsO(A:Nat→Option Str):List (Nat×Option Str)→Nat→Option Str
 | []=>A
 | q::l=>setsO (setO A q.1 q.2) l
def GoodO(N:Nat):(Nat→Option Str)→List (Nat×Option Str)→Prop
 | _,[]=>True
 | A,q::l=>q.1<N∧(∀ y,y≤q.1→A y≠none)∧GoodO N (setO A q.1 q.2) l
theorem run_ops(T:List Tr):∀ (l:List (Nat×Option Str)) (A:Nat→Option Str),GoodO (knotsOf T) A l→runS (opsN T l) (kpL A 0 T)=some (kpL (setsO A l) 0 T)
 | [],A,_=>rfl
 | q::l,A,⟨h1,h2,h3⟩=>by
  obtain⟨p,hp,hd⟩:=does_kp (A:=A) (o:=q.2) _ T (La4 _) 0 q.1 [] [] h1 (fun x _ hx=>h2 x (by omega));rw[Ld1,Ld1,Lc0,Lc0,Lh2] at hd;obtain⟨bs,e1,e2⟩:=hd.step
  have eg:(pps 0 T).getD q.1 []=p:=by
   have hp':(pps 0 T)[q.1]?=some p:=hp;rw[La3,hp'];rfl
  show runS (stpO q.2 ((pps 0 T).getD q.1 [])::opsN T l) (kpL A 0 T)=_
  rw[eg,runS,e1]
  show runS (opsN T l) ((stpO q.2 p).row (kpL A 0 T) bs)=_
  rw[e2,run_ops T l _ h3];rfl
theorem setsO_out{x:Nat}:∀ {l:List (Nat×Option Str)} {A:Nat→Option Str},(∀ q∈l,q.1≠x)→setsO A l x=A x
 | [],_,_=>rfl
 | q::l,A,h=>by
  rw[setsO,setsO_out fun p hp=>h p (Lb0 _ hp)];exact setO_ne fun e=>h q La7 e.symm
theorem setsO_in{x:Nat}{o:Option Str}:∀ {l:List (Nat×Option Str)} {A:Nat→Option Str},l.Pairwise (fun a b=>a.1≠b.1)→(x,o)∈l→setsO A l x=o
 | q::l,A,hp,h=>by
  obtain⟨h1,h2⟩:=Le1.mp hp;rw[setsO]
  rcases Lb6.mp h with e | h
  ·subst e;rw[setsO_out fun p hq e=>h1 p hq e.symm];exact setO_at _ _ _
  ·exact setsO_in h2 h
theorem good_marks{N:Nat}:∀ {l:List (Nat×Option Str)} {A:Nat→Option Str},(∀ q∈l,q.1<N∧q.2≠none)→(∀ y,A y≠none)→GoodO N A l∧∀ y,setsO A l y≠none
 | [],_,_,h=>⟨trivial,h⟩
 | q::l,A,hl,h=>by
  have hq:=hl q La7
  have:=good_marks (l:=l) (A:=setO A q.1 q.2) (fun p hp=>hl p (Lb0 _ hp)) fun y=>by
   unfold setO
   split
   ·exact hq.2
   ·exact h y
  exact⟨⟨hq.1,fun y _=>h y,this.1⟩,this.2⟩
theorem good_cuts{N:Nat}:∀ {xs:List Nat} {A:Nat→Option Str},xs.Pairwise (fun a b=>b<a)→(∀ x∈xs,x<N)→(∀ x∈xs,∀ y,y≤x→A y≠none)→GoodO N A (xs.map fun x=>(x,none))
 | [],_,_,_,_=>trivial
 | x::xs,A,hp,hN,h=>by
  obtain⟨h1,h2⟩:=Le1.mp hp;refine⟨hN x La7,h x La7,good_cuts h2 (fun z hz=>hN z (Lb0 _ hz)) fun z hz y hy=>?_⟩
  have:=h1 z hz;rw[setO_ne (by show y≠x; omega)];exact h z (Lb0 _ hz) y hy
def markO(ms ms':List Str):List (Nat×Nat)→List (Nat×Option Str)
 | []=>[]
 | p::ps=>(if ms[p.1]?=ms'[p.2]? then [] else [(p.1,some (ms'.getD p.2 Str.empty))])++markO ms ms' ps
theorem markO_length(ms ms':List Str):∀ ps,(markO ms ms' ps).length=difs ms ms' ps
 | []=>rfl
 | p::ps=>by
  rw[markO,difs,La2,markO_length ms ms' ps];unfold difP
  split <;> rfl
theorem markO_mem{ms ms':List Str}{q:Nat×Option Str}:∀ {ps:List (Nat×Nat)},q∈markO ms ms' ps→∃ p∈ps,q=(p.1,some (ms'.getD p.2 Str.empty))∧ms[p.1]?≠ms'[p.2]?
 | p::ps,h=>by
  rw[markO] at h
  rcases Lb9.mp h with h | h
  ·by_cases e:ms[p.1]?=ms'[p.2]?
   ·rw[if_pos e] at h; cases h
   ·rw[if_neg e] at h;exact⟨p,La7,Lc8.mp h,e⟩
  ·obtain⟨p',h1,h2⟩:=markO_mem h;exact⟨p',Lb0 _ h1,h2⟩
theorem markO_has{ms ms':List Str}{p:Nat×Nat}(e:ms[p.1]?≠ms'[p.2]?):∀ {ps:List (Nat×Nat)},p∈ps→(p.1,some (ms'.getD p.2 Str.empty))∈markO ms ms' ps
 | q::ps,h=>by
  rw[markO]
  rcases Lb6.mp h with rfl | h
  ·rw[if_neg e];exact Le3 _ La7
  ·exact Ld2 _ (markO_has e h)
theorem markO_pw{ms ms':List Str}:∀ {ps:List (Nat×Nat)},ps.Pairwise (fun a b=>a.1≠b.1)→(markO ms ms' ps).Pairwise (fun a b=>a.1≠b.1)
 | [],_=>.nil
 | p::ps,h=>by
  obtain⟨h1,h2⟩:=Le1.mp h;rw[markO];refine List.pairwise_append.mpr ⟨?_,markO_pw h2,fun a ha b hb=>?_⟩
  ·split
   ·exact .nil
   ·exact Le1.mpr ⟨(fun _ z=>nomatch z),List.Pairwise.nil⟩
  ·obtain⟨q,hq,e,_⟩:=markO_mem hb
   by_cases e2:ms[p.1]?=ms'[p.2]?
   ·rw[if_pos e2] at ha; cases ha
   ·rw[if_neg e2] at ha;rw[Lc8.mp ha,e];exact h1 q hq
def gone(N:Nat)(S:List Nat):List Nat:=(List.range N).reverse.filter fun x=>!decide (x∈S)
theorem gone_mem{N:Nat}{S:List Nat}{x:Nat}:x∈gone N S↔x<N∧x∉S:=by
 unfold gone;rw[Lh7,Li3,Lf1];simp
theorem gone_desc(N:Nat)(S:List Nat):(gone N S).Pairwise (fun a b=>b<a):=by
 unfold gone;refine List.Pairwise.filter _ ?_;rw[List.pairwise_reverse];exact List.pairwise_lt_range
theorem filter_count{α:Type}(f:α→Bool):∀ l:List α,(l.filter f).length+(l.filter fun x=>!f x).length=l.length
 | []=>rfl
 | x::l=>by
  have:=filter_count f l;rw[Lj5,Lj5];cases f x <;> simp <;> omega
theorem gone_length{N:Nat}{S:List Nat}(hS:S.Pairwise (· < ·))(hN:∀ x∈S,x<N):(gone N S).length+S.length=N:=by
 have h1:=filter_count (fun x=>decide (x∈S)) (List.range N)
 have e:(List.range N).filter (fun x=>decide (x∈S))=S:=by
  have p1:((List.range N).filter (fun x=>decide (x∈S))).Pairwise (· < ·):=List.Pairwise.filter _ List.pairwise_lt_range
  have:∀ (a b:List Nat),a.Pairwise (· < ·)→b.Pairwise (· < ·)→(∀ x,x∈a↔x∈b)→a=b:=by
   intro a
   induction a with
   | nil =>
    intro b _ _ h
    cases b with
    | nil=>rfl
    | cons y b=>exact nomatch (h y).mpr La7
   | cons x a ih =>
    intro b ha hb h
    cases b with
    | nil=>exact nomatch (h x).mp La7
    | cons y b =>
     obtain⟨a1,a2⟩:=Le1.mp ha;obtain⟨b1,b2⟩:=Le1.mp hb
     have exy:x=y:=by
      rcases Lb6.mp ((h x).mp La7) with e | m
      ·exact e
      ·rcases Lb6.mp ((h y).mpr La7) with e | m'
       ·exact e.symm
       ·have:=b1 x m
        have:=a1 y m';omega
     subst exy;rw[ih b a2 b2 fun z=>⟨fun hz=>?_,fun hz=>?_⟩]
     ·rcases Lb6.mp ((h z).mp (Lb0 _ hz)) with e | m
      ·have:=a1 z hz; omega
      ·exact m
     ·rcases Lb6.mp ((h z).mpr (Lb0 _ hz)) with e | m
      ·have:=b1 z hz; omega
      ·exact m
  refine this _ _ p1 hS fun x=>?_;rw[Lh7,Lf1];exact⟨fun h=>of_decide_eq_true h.2,fun h=>⟨hN x h,decide_eq_true h⟩⟩
 rw[e,Li8] at h1;unfold gone;rw[List.filter_reverse,Le7];omega
theorem paths_ne{T:List Tr}{x y:Nat}(hx:x<knotsOf T)(hy:y<knotsOf T)(h:(pps 0 T).getD x []=(pps 0 T).getD y []):x=y:=by
 have key:∀ x y,x<y→y<knotsOf T→(pps 0 T).getD x []≠(pps 0 T).getD y []:=fun x y h1 h2 e=>by
  obtain⟨a,b,j,ha,hb,_,_,n⟩:=(atp_row T).sides x y (Lb1 _) h1 h2;rw[La3,La3,ha,hb] at e;have e':a=b:=e;exact n (by rw[e']; exact⟨[],Lc0 _⟩)
 rcases Nat.lt_trichotomy x y with z | z | z
 ·exact absurd h (key x y z hy)
 ·exact z
 ·exact absurd h.symm (key y x z hx)
def firsts(c:Ch):List Nat:=c.pairs.map (·.1)
def seconds(c:Ch):List Nat:=c.pairs.map (·.2)
def cutsN(T:List Tr)(S:List Nat):List Stp:=opsN T ((gone (knotsOf T) S).map fun x=>(x,none))
def marksN(T U:List Tr)(c:Ch):List Stp:=opsN T (markO (marksL T) (marksL U) c.pairs)
section
variable {T U:List Tr} {c:Ch}
theorem Fits.rise1(f:Fits (marksL T) (marksL U) (endsL T) (endsL U) (0,knotsOf T) (0,knotsOf U) c):(firsts c).Pairwise (· < ·):=Lf8.mpr (f.lie.imp fun h=>h.1)
theorem Fits.rise2(f:Fits (marksL T) (marksL U) (endsL T) (endsL U) (0,knotsOf T) (0,knotsOf U) c):(seconds c).Pairwise (· < ·):=Lf8.mpr (f.lie.imp fun h=>h.2.1)
theorem cuts_length1(f:Fits (marksL T) (marksL U) (endsL T) (endsL U) (0,knotsOf T) (0,knotsOf U) c):(cutsN T (firsts c)).length+c.pairs.length=knotsOf T:=by
 have:=gone_length f.rise1 (N:=knotsOf T) fun x hx=>by
  obtain⟨p,hp,rfl⟩:=Lc3.mp hx;exact (f.inn p hp).1.2
 unfold firsts at this;rw[La1] at this;unfold cutsN opsN firsts;rw[La1,La1];exact this
theorem cuts_length2(f:Fits (marksL T) (marksL U) (endsL T) (endsL U) (0,knotsOf T) (0,knotsOf U) c):(cutsN U (seconds c)).length+c.pairs.length=knotsOf U:=by
 have:=gone_length f.rise2 (N:=knotsOf U) fun x hx=>by
  obtain⟨p,hp,rfl⟩:=Lc3.mp hx;exact (f.inn p hp).2.2
 unfold seconds at this;rw[La1] at this;unfold cutsN opsN seconds;rw[La1,La1];exact this
theorem marks_length:(marksN T U c).length=difs (marksL T) (marksL U) c.pairs:=by
 unfold marksN opsN;rw[La1,markO_length]
def asIs(T:List Tr):Nat→Option Str:=fun x=>some ((marksL T).getD x Str.empty)
theorem asIs_ok{x:Nat}(h:x<knotsOf T):asIs T x=(marksL T)[x]?:=by
 have h':x<(marksL T).length:=by rw[marksL_length]; exact h
 unfold asIs;rw[La3,La0 h'];rfl
theorem asIs_kp(T:List Tr):kpL (asIs T) 0 T=T:=(at_whole T).kept fun x _ h=>asIs_ok h
theorem cuts_pw(N:Nat)(S:List Nat):((gone N S).map fun x=>((x,none):Nat×Option Str)).Pairwise (fun a b=>a.1≠b.1):=Lf8.mpr ((gone_desc N S).imp fun h e=>by have h:_<_:=h; exact absurd e (by show ¬ _=_; omega))
theorem cuts_run{A:Nat→Option Str}(S:List Nat)(hA:∀ y,A y≠none):runS (cutsN T S) (kpL A 0 T)=some (kpL (setsO A ((gone (knotsOf T) S).map fun x=>(x,none))) 0 T) :=
 run_ops T _ A (good_cuts (gone_desc _ _) (fun x hx=>(gone_mem.mp hx).1) fun _ _ y _=>hA y)
theorem lead_mid(hp:Plan (marksL T) (marksL U) (endsL T) (endsL U) (0,knotsOf T) (0,knotsOf U) c):∃ M,runS (marksN T U c++cutsN T (firsts c)) T=some M∧runS (cutsN U (seconds c)) U=some M:=by
 have f:=hp.fits (at_whole T) (at_whole U);have pw1:c.pairs.Pairwise fun a b=>a.1≠b.1:=f.lie.imp fun h e=>by have:=h.1; omega
 have gm:=good_marks (N:=knotsOf T) (l:=markO (marksL T) (marksL U) c.pairs) (A:=asIs T) (fun q hq=>by
  obtain⟨p,h1,h2,_⟩:=markO_mem hq;rw[h2]
  exact⟨(f.inn p h1).1.2,fun z=>nomatch z⟩) (fun y z=>nomatch z)
 have r1:=run_ops T _ _ gm.1;rw[asIs_kp] at r1;have r2:=cuts_run (T:=T) (firsts c) gm.2;have r3:=cuts_run (T:=U) (A:=asIs U) (seconds c) (fun y z=>nomatch z);rw[asIs_kp] at r3;refine⟨_,by rw[runS_app]; unfold marksN; rw[r1]; exact r2,?_⟩;rw[r3];refine congrArg some (Eq.symm ?_);refine hp.kept (at_whole T) (at_whole U) ?_ ?_ ?_
 ·intro p hq;have hin:=f.inn p hq;have b1:p.1<knotsOf T:=hin.1.2;have b2:p.2<knotsOf U:=hin.2.2;refine⟨(marksL U).getD p.2 Str.empty,?_,?_⟩
  ·rw[setsO_out fun q hq' e=>by
    obtain⟨x,hx,rfl⟩:=Lc3.mp hq';have e:x=p.1:=e
    exact (gone_mem.mp hx).2 (e ▸ Lc3.mpr ⟨p,hq,rfl⟩)]
   by_cases e:(marksL T)[p.1]?=(marksL U)[p.2]?
   ·rw[setsO_out fun q hq' e'=>?_]
    ·rw[asIs_ok b1,e,← asIs_ok b2];rfl
    ·obtain⟨p',h1,h2,h3⟩:=markO_mem hq';rw[h2] at e';have e':p'.1=p.1:=e'
     have:p'=p:=by
      obtain⟨i,hi,rfl⟩:=Le0.mp h1;obtain⟨j,hj,rfl⟩:=Le0.mp hq
      rcases Nat.lt_trichotomy i j with z | z | z
      ·exact absurd e' (Lf5.mp pw1 i j hi hj z)
      ·subst z; rfl
      ·exact absurd e'.symm (Lf5.mp pw1 j i hj hi z)
     rw[this] at h3;exact h3 e
   ·exact setsO_in (markO_pw pw1) (markO_has e hq)
  ·rw[setsO_out fun q hq' e=>by
    obtain⟨x,hx,rfl⟩:=Lc3.mp hq';have e:x=p.2:=e
    exact (gone_mem.mp hx).2 (e ▸ Lc3.mpr ⟨p,hq,rfl⟩)]
   rfl
 ·intro x _ hx hn;refine setsO_in (cuts_pw _ _) (Lc3.mpr ⟨x,gone_mem.mpr ⟨hx,fun z=>?_⟩,rfl⟩);obtain⟨p,h1,h2⟩:=Lc3.mp z;exact hn p h1 h2
 ·intro x _ hx hn;refine setsO_in (cuts_pw _ _) (Lc3.mpr ⟨x,gone_mem.mpr ⟨hx,fun z=>?_⟩,rfl⟩);obtain⟨p,h1,h2⟩:=Lc3.mp z;exact hn p h1 h2
theorem backs_length:∀ (a:List Stp) (ts cs:List Tr),runS a ts=some cs→(backsS a ts).length=a.length
 | [],ts,cs,h=>rfl
 | s::a,ts,cs,h=>by
  rw[runS] at h;rw[backsS]
  cases e:s.beside ts with
  | none=>rw[e] at h; cases h
  | some us =>
   rw[e] at h;exact congrArg (· + 1) (backs_length a _ cs h)
def changesN(T U:List Tr)(c:Ch):List Stp:=marksN T U c++cutsN T (firsts c)++(backsS (cutsN U (seconds c)) U).reverse
theorem changes_lead(hp:Plan (marksL T) (marksL U) (endsL T) (endsL U) (0,knotsOf T) (0,knotsOf U) c):runS (changesN T U c) T=some U:=by
 obtain⟨M,h1,h2⟩:=lead_mid hp;unfold changesN;rw[runS_app,h1];exact runS_back _ _ _ h2
theorem changes_many(hp:Plan (marksL T) (marksL U) (endsL T) (endsL U) (0,knotsOf T) (0,knotsOf U) c):(changesN T U c).length=c.n:=by
 obtain⟨M,h1,h2⟩:=lead_mid hp;have f:=hp.fits (at_whole T) (at_whole U);have e1:=cuts_length1 f;have e2:=cuts_length2 f;have e3:=marks_length (T:=T) (U:=U) (c:=c);have e4:=backs_length _ _ _ h2;have e5:c.n+2 * c.pairs.length+(0+0)=knotsOf T+knotsOf U+difs (marksL T) (marksL U) c.pairs:=f.sum;unfold changesN;rw[La2,La2,Le7];omega
end
theorem cuts_paths(T:List Tr)(S:List Nat)(hS:∀ x∈S,x<knotsOf T):(((pps 0 T).reverse.filter fun p=>!decide (p∈S.map fun x=>(pps 0 T).getD x [])).map Stp.cut)=cutsN T S:=by
 have e:pps 0 T=(List.range (knotsOf T)).map fun x=>(pps 0 T).getD x []:=by
  refine Lk3 fun i=>?_;rw[La6]
  by_cases h:i<knotsOf T
  ·rw[Li0 h,Li5,La3,La0 (by rw[pps_length]; exact h)];rfl
  ·rw[Lg1 (by rw[pps_length]; omega),Lg1 (by rw[Li8]; omega)];rfl
 unfold cutsN opsN gone;rw[Ld7]
 conv=>lhs; rw[show (pps 0 T).reverse=((List.range (knotsOf T)).map fun x=>(pps 0 T).getD x []).reverse from congrArg _ e]
 rw[← List.map_reverse,List.filter_map,Ld7]
 have e2:(List.range (knotsOf T)).reverse.filter ((fun p=>!decide (p∈S.map fun x=>(pps 0 T).getD x []))∘fun x=>(pps 0 T).getD x [])=(List.range (knotsOf T)).reverse.filter fun x=>!decide (x∈S):=by
  refine List.filter_congr fun x hx=>?_;have hx:x<knotsOf T:=Lf1.mp (Li3.mp hx)
  show (!decide _)=!decide _
  congr 1;refine decide_eq_decide.mpr ⟨fun z=>?_,fun z=>Lc3.mpr ⟨x,z,rfl⟩⟩;obtain⟨y,hy,e3⟩:=Lc3.mp z;rw[← paths_ne (hS y hy) hx e3];exact hy
 rw[e2];rfl
end TT
namespace K8
open PySem L2 TT
def top(i:Nat):Stmt:=PySem.Challenge.pw_treetrim_k08_whole_either_way.main.body.getD i (.Pass ⟨0,0,0,0⟩)
abbrev sMark:Stmt:=top 1
abbrev sTU:Stmt:=top 2
abbrev sKnot:Stmt:=top 3
abbrev sLevels:Stmt:=top 4
abbrev sAt:Stmt:=top 5
abbrev sMarkAt:Stmt:=top 6
abbrev sWith:Stmt:=top 7
abbrev sPaths:Stmt:=top 9
abbrev sLeads:Stmt:=top 10
abbrev sOutlineI:Stmt:=inClass (top 12) 0
abbrev sChoiceI:Stmt:=inClass (top 13) 0
abbrev sCost:Stmt:=top 14
abbrev sBest:Stmt:=top 15
abbrev sEnd:Stmt:=top 16
abbrev sWhole:Stmt:=top 17
abbrev sStr:Stmt:=top 18
abbrev sUnder:Stmt:=top 19
abbrev sRight:Stmt:=top 20
abbrev sWithout:Stmt:=top 21
abbrev sChoices:Stmt:=top 22
abbrev sStaying:Stmt:=top 23
abbrev sMatched:Stmt:=top 25
abbrev sNum:Stmt:=top 26
abbrev sDone:Stmt:=top 31
abbrev sTurned:Stmt:=top 32
abbrev sTaken:Stmt:=top 33
abbrev sMany:Stmt:=top 34
abbrev sInstead:Stmt:=top 35
abbrev sLed:Stmt:=top 36
abbrev sChanges:Stmt:=top 38
abbrev sMarks:Stmt:=top 39
abbrev sCuts:Stmt:=top 40
abbrev sWholeI:Stmt:=top 42
abbrev sDrawn:Stmt:=top 43
abbrev sAll:Stmt:=top 44
abbrev sStepped:Stmt:=top 45
abbrev sIsPath:Stmt:=top 46
abbrev sAre:Stmt:=top 47
abbrev sWalked:Stmt:=top 48
abbrev sSize:Stmt:=top 49
abbrev sWandered:Stmt:=top 50
abbrev sTwo:Stmt:=top 51
abbrev sLeast:Stmt:=top 52
abbrev sWord:Stmt:=top 53
abbrev sRoom:Stmt:=top 54
abbrev sLaw:Stmt:=top 55
structure Txt(mg:Str→Option Value):Prop where
 list:mg "list"=none
 tuple:mg "tuple"=none
 len:mg "len"=none
 range:mg "range"=none
 min:mg "min"=none
 abs:mg "abs"=none
 sum:mg "sum"=none
 sorted:mg "sorted"=none
 isinstance:mg "isinstance"=none
 enumerate:mg "enumerate"=none
 str:mg "str"=none
 int:mg "int"=none
 bool:mg "bool"=none
 reversed:mg "reversed"=none
section
variable {P:Program} {w:World} {K:PySem.W.Frag} {mg:Str→Option Value} {base:Heap}
inductive PspTU(vs:List V)(H:Hp)(Q:VK):Prop
 | mk (G:Hp) (v:V) (t:Tr):vs=[v]→Same G H→Rep G v t.d→(∀ (G' H':Hp) (r:V),Ext G H G' H'→Rep G' r (rowD t.kids)→Q r H')→PspTU  vs H Q
def spTU:Sp:=fun vs H Q _=>PspTU  vs H Q
theorem scTU:FnScope ["tree"] ["tree"] (defScope sTU):=scD rfl rfl rfl rfl
theorem ok_tu{f:Addr}{fd:FuncData}(F:Fun K "trees_under" "trees_under" sTU f fd)(T:Txt mg):FnOk P w K mg base CX0 3 f fd ["tree"] spTU:=by
 refine F.ok scTU (fun vs H Q E h=>?_) (fun cdv A outer s H vs Q E hr h=>?_)
 ·obtain⟨G,v,t,rfl,_⟩:=h;rfl
 ·refine fold_goal fun Z' Y'=>?_;obtain⟨G,v,t,rfl,sm,r,k⟩:=h;refine Y' ?_;clear Y' Z';refine fold_goal fun Z' Y'=>?_;obtain⟨a,kv,rfl,ha,rk⟩:=r.tree;refine Y' ?_;clear Y' Z';refine⟨_,(pss_one (ps_ret (pe_callTy cc_list rfl T.list bt_list (pa_cons (pe_slice sc_tup (pc 0) (po_c pe_int) po_none) pa_nil)))),?_⟩;refine⟨_,SqT.of (sm _ _ ha),kids_not _ _,fun p hp=>⟨kv,.inr (SqT.of (by rw[upd_same,kids_cut])),fun l hl=>?_⟩⟩;have x1:Ext G H G (upd H p (.tup (cutV (V.str t.mark::kv) (some 1) none))):=Ext.tmp sm hp;have x2:=x1.trans (Ext.add (o:=.lst kv) x1.gh hl);exact k _ _ _ x2 (.lst upd_same (rk.mono x2.g))
inductive PspMark(vs:List V)(H:Hp)(Q:VK):Prop
 | mk (G:Hp) (v:V) (t:Tr):vs=[v]→Same G H→Rep G v t.d→Q (.str t.mark) H→PspMark  vs H Q
def spMark:Sp:=fun vs H Q _=>PspMark  vs H Q
theorem scMark:FnScope ["tree"] ["tree"] (defScope sMark):=scD rfl rfl rfl rfl
theorem ok_mark{f:Addr}{fd:FuncData}(F:Fun K "mark_of" "mark_of" sMark f fd):FnOk P w K mg base CX0 3 f fd ["tree"] spMark:=by
 refine F.ok scMark (fun vs H Q E h=>?_) (fun cdv A outer s H vs Q E hr h=>?_)
 ·obtain⟨G,v,t,rfl,_⟩:=h;rfl
 ·refine fold_goal fun Z' Y'=>?_;obtain⟨G,v,t,rfl,sm,r,k⟩:=h;refine Y' ?_;clear Y' Z';refine fold_goal fun Z' Y'=>?_;obtain⟨a,kv,rfl,ha,rk⟩:=r.tree;refine Y' ?_;clear Y' Z';refine⟨_,(pss_one (ps_ret (pe_ix xc_tup (pc 0) pe_int (fun _ _=>rfl)))),?_⟩;exact⟨_,_,SqT.of (sm _ _ ha),atI_nat (j:=0) rfl,k⟩
inductive PspLevels(vs:List V)(H:Hp)(Q:VK):Prop
 | mk (G:Hp) (v u:V) (ts:List Tr) (p:List Int):vs=[v,u]→Same G H→Rep G v (rowD ts)→Rep G u (pathD p)→(down ts p).isSome=true→p.length≤1000→(∀ (G' H':Hp) (r:V),Ext G H G' H'→Rep G' r (.lst ((levelsOf ts p).map rowD))→Q r H')→PspLevels  vs H Q
def spLevels:Sp:=fun vs H Q _=>PspLevels  vs H Q
theorem scLevels:FnScope ["row","path","found","place"] ["row","path"] (defScope sLevels):=scD rfl rfl rfl rfl
theorem ok_levels{f:Addr}{fd:FuncData}(F:Fun K "levels" "levels" sLevels f fd)(T:Txt mg)(F_tu:Ok1 P w K mg base 3 "trees_under" ["tree"] spTU):FnOk P w K mg base CX0 5 f fd ["row","path"] spLevels:=by
 refine F.ok scLevels (fun vs H Q E h=>?_) (fun cdv A outer s H vs Q E hr h=>?_)
 ·obtain⟨G,v,u,ts,p,rfl,_⟩:=h;rfl
 ·refine fold_goal fun Z' Y'=>?_;obtain⟨G,v,u,ts,p,rfl,sm,rv,ru,hd,hp,k⟩:=h;refine Y' ?_;clear Y' Z';have nd:=scLevels.nd;have big:=line_big;refine fold_goal fun Z' Y'=>?_;obtain⟨pa,rfl,hpa⟩:=ru.path;refine Y' ?_;clear Y' Z'
  refine⟨_,(pss_cons (ps_set (i:=2) nd rfl (Or.inl rfl) (pe_lst (pa_cons (pc 0) pa_nil)))
   (pss_cons (ps_for PassesOwn.never rfl (pi_list (pc 1)) (pg_name (i:=3) nd rfl (Or.inl rfl))
    (pss_one (ps_expr (pe_bm PySem.F.plainAttrs_list PySem.F.slot_list_append PySem.F.type_list_append mc_append (pc 2) (pa_cons (pe_fn F_tu (hr.mono (by decide)) rfl (pa_cons (pe_ix xc_list (pe_ix xc_list (pc 2) (pe_un uc_neg pe_int) (fun _ _=>rfl)) (pc 3) (fun _ _=>rfl)) pa_nil)) pa_nil)))))
   (pss_one (ps_ret (pc 2))))),?_⟩
  refine⟨(by show 1≤sizeLine; decide),fun pf hpf=>?_⟩;have npf:G pf=none:=sm.none hpf;have x0:Ext G H G (upd H pf (.lst [v])):=Ext.tmp sm hpf;have hlv:∀ i us,i≤p.length→down ts (p.take i)=some us→(levelsOf ts p).take (i+1)=(levelsOf ts p).take i++[us]:=fun i us hi h=>take_one (levelsOf_get hi h)
  refine⟨pa,rfl,⟨_,SqL.of (x0.h _ _ (sm _ _ hpa))⟩,for_list (K:=K) (a:=pa) (xs:=p.map V.int)
   (fun i σ H2=>∃ (G2:Hp) (fv:List V) (z:Option V),σ=[some v,some (.ref pa),some (.ref pf),z]∧Ext G H G2 H2∧G2 pf=none∧H2 pf=some (.lst fv)∧Reps G2 fv (((levelsOf ts p).take (i+1)).map rowD))
   ⟨G,[v],none,rfl,x0,npf,upd_same,?_⟩ (fun i σ H2 _ hZq=>by obtain⟨G2,_,_,_,x,_⟩:=hZq; exact SqL.of (x.h _ _ (sm _ _ hpa))) ?_ ?_⟩
  ·rw[hlv 0 ts (Lb1 _) rfl,Lj2,Ld1];exact .cons rv .nil
  ·intro i y σ H2 hi hZp;refine fold_goal fun Z' Y'=>?_;obtain⟨G2,fv,z,rfl,x,nf,hf,rf⟩:=hZp;refine Y' ?_;clear Y' Z'
   have hil:i<p.length:=by
    have:=(La5.mp hi).1
    rwa [La1] at this
   obtain rfl:V.int p[i]=y:=by
    rw[La6,La0 hil] at hi;exact Option.some.inj hi
   refine fold_goal fun Z' Y'=>?_;obtain⟨us,t,hus,h0,ht,hk⟩:=down_at hd hil;refine Y' ?_;clear Y' Z';have hfl:=rf.length;rw[La1,Lb5,levelsOf_length] at hfl;obtain⟨lv,hlvv,rlv⟩:=rf.get (i:=i) (d:=rowD us) (by rw[La6,List.getElem?_take_of_lt (by omega),levelsOf_get (by omega) hus]; rfl)
   have hlast:atI fv (-1)=some lv:=by
    unfold atI ixN;rw[if_neg (by decide),if_pos (by omega)];have e:((-1:Int)+(fv.length:Int)).toNat=i:=by omega
    rw[Ld9,e,hlvv]
   refine fold_goal fun Z' Y'=>?_;obtain⟨ua,uv,rfl,hua,rus⟩:=rlv.row;refine Y' ?_;clear Y' Z';obtain⟨tr,htr,rtr⟩:=rus.get (i:=(p[i]).toNat) (d:=t.d) (by rw[La6,ht]; rfl)
   have hix:atI uv p[i]=some tr:=by
    have:=atI_nat htr
    rwa [Le8 h0] at this
   refine⟨.inl ⟨rfl,_,SqL.of hf⟩,fv,_,SqL.of hf,hlast,uv,tr,SqL.of (x.gh _ _ hua),hix,G2,tr,t,rfl,x.gh,rtr,fun G3 H3 r3 x3 rr=>?_⟩;have hf3:=x3.h _ _ hf;have nf3:G3 pf=none:=x3.keep hf nf;refine⟨fv,hf3,by omega,?_⟩;refine⟨G3,_,_,rfl,(x.trans x3).mut nf3 hpf,nf3,upd_same,?_⟩;rw[hlv (i+1) t.kids (by omega) hk,Lb3];exact (rf.mono x3.g).append (.cons rr .nil)
  ·intro σ H2 hZp;refine fold_goal fun Z' Y'=>?_;obtain⟨G2,fv,z,rfl,x,nf,hf,rf⟩:=hZp;refine Y' ?_;clear Y' Z';refine (k _ _ _ (x.freeze nf hpf hf) (.lst upd_same ?_));rw[La1,Le2 (by rw[levelsOf_length]; exact La4 _)] at rf;exact rf.mono (same_upd nf)
inductive PspAt(vs:List V)(H:Hp)(Q:VK):Prop
 | mk (G:Hp) (v u:V) (ts us:List Tr) (p:List Int):vs=[v,u]→Same G H→Rep G v (rowD ts)→Rep G u (pathD p)→down ts p=some us→p.length≤1000→(∀ (G' H':Hp) (r:V),Ext G H G' H'→Rep G' r (rowD us)→Q r H')→PspAt  vs H Q
def spAt:Sp:=fun vs H Q _=>PspAt  vs H Q
theorem scAt:FnScope ["row","path"] ["row","path"] (defScope sAt):=scD rfl rfl rfl rfl
theorem ok_at{f:Addr}{fd:FuncData}(F:Fun K "trees_at" "trees_at" sAt f fd)(F_levels:Ok1 P w K mg base 5 "levels" ["row","path"] spLevels):FnOk P w K mg base CX0 7 f fd ["row","path"] spAt:=by
 refine F.ok scAt (fun vs H Q E h=>?_) (fun cdv A outer s H vs Q E hr h=>?_)
 ·obtain⟨G,v,u,ts,us,p,rfl,_⟩:=h;rfl
 ·refine fold_goal fun Z' Y'=>?_;obtain⟨G,v,u,ts,us,p,rfl,sm,rv,ru,hd,hp,k⟩:=h;refine Y' ?_;clear Y' Z';refine⟨_,(pss_one (ps_ret (pe_ix xc_list (pe_fn F_levels (hr.mono (by decide)) rfl (pa_cons (pc 0) (pa_cons (pc 1) pa_nil))) (pe_un uc_neg pe_int) (fun _ _=>rfl)))),?_⟩;refine⟨G,v,u,ts,p,rfl,sm,rv,ru,by rw[hd]; rfl,hp,fun G1 H1 r x rr=>?_⟩
  cases rr with
  | lst ha rl =>
   refine fold_goal fun Z' Y'=>?_;obtain⟨lv,hlv,rlv⟩:=last_of_levels rl hd;refine Y' ?_;clear Y' Z';exact⟨_,lv,SqL.of (x.gh _ _ ha),hlv,k _ _ _ x rlv⟩
inductive AllInv(G H:Hp)(v:V)(pf pt:Addr)(C:List (List Int))(m:Nat)(σ:L2.St)(H2:Hp):Prop
 | mk (G2:Hp) (fv:List V) (F:List (List Int)) (tv:List V) (J:List Job) (a b c:Option V):σ=[some v,some (.ref pf),some (.ref pt),a,b,c]→Ext G H G2 H2→G2 pf=none→G2 pt=none→pf≠pt→H2 pf=some (.lst fv)→H2 pt=some (.lst tv)→Paired (PathRel G2) fv F→Paired (JobRel G2) tv J→(F++allOf J).Perm C→J.length≤F.length+1→((∀ j∈J,j.1.length≤F.length))→(allOf J).length+J.length=m→AllInv G H v pf pt C m σ H2
inductive PspAll(vs:List V)(H:Hp)(Q:VK):Prop
 | mk (G:Hp) (v:V) (ts:List Tr):vs=[v]→Same G H→Rep G v (rowD ts)→knotsOf ts<64→(∀ (G' H':Hp) (r:V) (ps:List (List Int)),Ext G H G' H'→Rep G' r (.lst (ps.map pathD))→ps.Perm (pps 0 ts)→Rising ps→Q r H')→PspAll  vs H Q
def spAll:Sp:=fun vs H Q _=>PspAll  vs H Q
theorem scAll:FnScope ["_law_row","_law_found","_law_todo","_law_path","_law_trees","_law_k"] ["_law_row"] (defScope sAll):=scD rfl rfl rfl rfl
theorem ok_all{f:Addr}{fd:FuncData}(F:Fun K "_law_all_paths" "_law_all_paths" sAll f fd)(T:Txt mg):FnOk P w K mg base CX0 7 f fd ["_law_row"] spAll:=by
 refine F.ok scAll (fun vs H Q E h=>?_) (fun cdv A outer s H vs Q E hr h=>?_)
 ·obtain⟨G,v,ts,rfl,_⟩:=h;rfl
 ·refine fold_goal fun Z' Y'=>?_;obtain⟨G,v,ts,rfl,sm,rv,h64,k⟩:=h;refine Y' ?_;clear Y' Z';have nd:=scAll.nd;have hu:=hr.units0;have hu2:=(hr.in1.in1).units0;have big:=line_big
  refine⟨_,(pss_cons (ps_set (i:=1) nd rfl (Or.inl rfl) (pe_lst pa_nil))
   (pss_cons (ps_set (i:=2) nd rfl (Or.inl rfl) (pe_lst (pa_cons (pe_tup (pa_cons (pe_lst pa_nil) (pa_cons (pe_callTy cc_list rfl T.list bt_list (pa_cons (pc 0) pa_nil)) pa_nil))) pa_nil)))
   (pss_cons (ps_while PassesOwn.never (pt_c (op_neE hu) (pc 2) (pe_lst pa_nil) (nomark _))
    (pss_cons (ps_asg (pe_bm0 PySem.F.plainAttrs_list PySem.F.slot_list_pop PySem.F.type_list_pop mt_pop (pc 2)) (gc_tup rfl (gcs_cons (pg_name (i:=3) nd rfl (Or.inl rfl)) (gcs_cons (pg_name (i:=4) nd rfl (Or.inl rfl)) pgs_nil))))
    (pss_one (ps_for PassesOwn.never rfl (pi_range1 rfl T.range (pa_cons (pe_callB cc_len rfl T.len bt_len (pa_cons (pc 4) pa_nil)) pa_nil)) (pg_name (i:=5) nd rfl (Or.inl rfl))
     (pss_cons (ps_expr (pe_bm PySem.F.plainAttrs_list PySem.F.slot_list_append PySem.F.type_list_append mc_append (pc 1) (pa_cons (pe_op oc_cat (pc 3) (pe_lst (pa_cons (pc 5) pa_nil))) pa_nil)))
     (pss_one (ps_expr (pe_bm PySem.F.plainAttrs_list PySem.F.slot_list_append PySem.F.type_list_append mc_append (pc 2) (pa_cons (pe_tup (pa_cons (pe_op oc_cat (pc 3) (pe_lst (pa_cons (pc 5) pa_nil))) (pa_cons (pe_callTy cc_list rfl T.list bt_list (pa_cons (pe_slice sc_tup (pe_ix xc_list (pc 4) (pc 5) (fun _ _=>rfl)) (po_c pe_int) po_none) pa_nil)) pa_nil))) pa_nil)))))))))
   (pss_one (ps_ret (pe_callB (call_sorted hu2) rfl T.sorted bt_sorted (pa_cons (pc 1) pa_nil))))))),?_⟩
  have hC:(pps 0 ts).length<64:=by rw[pps_length]; exact h64
  refine fold_goal fun Z' Y'=>?_;obtain⟨ra,rvs,rfl,hra,rts⟩:=rv.row;refine Y' ?_;clear Y' Z';refine⟨Lb1 _,fun pf hpf=>⟨Lb1 _,fun pp hpp=>?_⟩⟩;have npf:G pf=none:=sm.none hpf;have y0:Ext G (upd H pf (.lst [])) G (upd H pf (.lst [])):=Ext.refl (sm.trans (same_upd hpf));have y1:=y0.trans (Ext.add (o:=.lst []) y0.gh hpp);refine⟨rvs,.inl (SqL.of (y1.gh _ _ (y1.g _ _ hra))),fun pl hpl=>?_⟩;have y2:=y1.trans (Ext.add (o:=.lst rvs) y1.gh hpl);refine⟨by show 2≤sizeLine; decide,fun q0 hq0=>⟨by show 1≤sizeLine; decide,fun pt hpt=>?_⟩⟩;have y3:=y2.trans (Ext.add (o:=.tup [.ref pp,.ref pl]) y2.gh hq0);have y4:=y3.trans (Ext.tmp (o:=.lst [.ref q0]) y3.gh hpt);have x0:Ext G H G (upd H pf (.lst [])):=Ext.tmp sm hpf;have x4:=x0.trans y4;have npt:H pt=none:=(x0.trans y3).h.none hpt;refine⟨AllInv G H (.ref ra) pf pt (pps 0 ts),⟨_,_,[],[],[.ref q0],[([],ts)],none,none,none,rfl,x4,y4.keep upd_same npf,y3.gh.none hpt,ne_of_none (y3.h _ _ upd_same) hpt,y4.h _ _ upd_same,upd_same,.nil,.cons ⟨q0,_,_,rfl,upd_same,.lst ?_ .nil,.lst (vs:=rvs) ?_ ?_⟩ .nil,?_,?_,?_,rfl⟩,?_⟩
  ·exact (Ext.add (o:=.tup [.ref pp,.ref pl]) y2.gh hq0).g _ _ ((Ext.add (o:=.lst rvs) y1.gh hpl).g _ _ upd_same)
  ·exact (Ext.add (o:=.tup [.ref pp,.ref pl]) y2.gh hq0).g _ _ upd_same
  ·exact rts.mono y3.g
  ·rw[Ld1,allOf_cons,allOf_nil,Lc0];exact List.Perm.of_eq (by unfold Job.all; simp)
  ·simp
  ·intro j hj
   have:j=([],ts):=by simpa using hj
   subst this;exact La4 _
  intro m σ H2 hZp;refine fold_goal fun Z' Y'=>?_;obtain⟨G2,fv,Fo,tv,J,z3,z4,z5,rfl,x,nf,nt,hne,hf2,ht2,hF,hJ,hperm,hlen,hdeep,hm⟩:=hZp;refine Y' ?_;clear Y' Z'
  have hFC:Fo.length+(allOf J).length<64:=by
   have:=hperm.length_eq;rw[La2] at this;omega
  have hfl:=paired_length hF;have hjl:=paired_length hJ;refine⟨Lb1 _,fun pe hpe=>⟨pt,pe,tv,rfl,rfl,SqL.of (same_upd hpe _ _ ht2),SqL.of upd_same,?_⟩⟩;have x1:=x.trans (Ext.tmp (o:=.lst []) x.gh hpe);have hf1:=same_upd (o:=.lst []) hpe _ _ hf2;have ht1:=same_upd (o:=.lst []) hpe _ _ ht2;dsimp only[onB]
  cases he:tv.isEmpty with
  | true =>
   refine iteF ?_;have e1:tv=[]:=Lf0.mp he;subst e1;cases hJ;rw[allOf_nil,Lc0] at hperm;refine⟨pf,fv,Fo,PathRel G2,rfl,SqL.of hf1,hF,fun v' q' r'=>rel_path x1.gh r',by omega,fun l vs' ps' hl hR hp hri=>?_⟩;have x2:=x1.trans (Ext.add (o:=.lst vs') x1.gh hl)
   exact k _ _ _ ps' x2 (.lst upd_same (paths_reps (paired_mono (fun _ _ z=>z.mono (Ext.add (o:=.lst vs') x1.gh hl).g) hR))) (hp.trans hperm) hri
  | false =>
   refine iteT ⟨fun σ' H'=>∃ m',m'<m∧AllInv G H (.ref ra) pf pt (pps 0 ts) m' σ' H',fun _ _ z=>z,?_⟩;refine fold_goal fun Z' Y'=>?_;obtain⟨t0,y,rfl⟩:=last_of tv he;refine Y' ?_;clear Y' Z';refine fold_goal fun Z' Y'=>?_;obtain⟨J0,j,rfl,hJ0,q,v1,v2,rfl,hq,r1,r2⟩:=paired_snoc hJ;refine Y' ?_;clear Y' Z';obtain⟨p,us⟩:=j;refine fold_goal fun Z' Y'=>?_;obtain⟨pa,rfl,hpa⟩:=Rep.path r1;refine Y' ?_;clear Y' Z';refine fold_goal fun Z' Y'=>?_;obtain⟨ta,uvs,rfl,hta,rus⟩:=r2.row;refine Y' ?_;clear Y' Z';have hsub:(subs p 0 us).length=us.length:=subs_length p 0 us;have hj1:p.length≤Fo.length:=hdeep (p,us) (by simp)
   have hsplit:(Job.all (p,us)).length=(subs p 0 us).length+(allOf (subs p 0 us)).length:=by
    have h:=(job_split (p,us)).length_eq;rw[La2,La1] at h;exact h
   have hall:(allOf (J0++[(p,us)])).length=(allOf J0).length+(Job.all (p,us)).length:=by
    rw[allOf_append,allOf_cons,allOf_nil,Lc0,La2]
   have hjl0:(J0++[(p,us)]).length=J0.length+1:=by simp
   have hul:uvs.length=us.length:=by
    have h:=rus.length;rw[La1] at h;exact h
   refine⟨.inl ⟨rfl,_,SqL.of ht1⟩,pt,_,_,rfl,rfl,ht1,last_at t0 _,[.ref pa,.ref ta],SqT.of ?_,rfl,rfl,?_⟩
   ·exact same_mut x1.gh nt _ _ hq
   rw[Lg2];have x3:=x1.mut (o:=.lst t0) nt npt;have hf3:upd (upd H2 pe (.lst [])) pt (.lst t0) pf=some (.lst fv):=by rw[upd_ne hne]; exact hf1
   refine⟨uvs,.inl (SqL.of (x3.gh _ _ hta)),_,rfl,by omega,by omega,for_rangeG
    (fun i σ H5=>∃ (G5:Hp) (fv5 tv5:List V) (z:Option V),σ=[some (.ref ra),some (.ref pf),some (.ref pt),some (.ref pa),some (.ref ta),z]∧Ext G H G5 H5∧Same G2 G5∧G5 pf=none∧G5 pt=none∧H5 pf=some (.lst fv5)∧H5 pt=some (.lst tv5) ∧
     Paired (PathRel G5) fv5 (Fo++((subs p 0 us).take i).map (·.1))∧Paired (JobRel G5) tv5 (J0++(subs p 0 us).take i))
    ⟨G2,fv,t0,_,rfl,x3,Same.refl _,nf,nt,hf3,upd_same,by simpa using hF,by simpa using hJ0⟩ ?_ ?_⟩
   ·intro i σ H5 hi hZp R0 hnx0 hrx0;refine fold_goal fun Z' Y'=>?_;obtain⟨G5,fv5,tv5,z,rfl,x5,s25,nf5,nt5,hf5,ht5,hF5,hJ5⟩:=hZp;refine Y' ?_;clear Y' Z';have hi2:i<us.length:=by rw[← hul]; simpa using hi
    have hiu:i<(subs p 0 us).length:=by omega
    have hsi:(subs p 0 us)[i]?=some (p++[(i:Int)],us[i].kids):=by
     have:=subs_at p us 0 i hi2
     rwa [Lh2] at this
    have hfl5:=paired_length hF5;have hjl5:=paired_length hJ5;rw[La2,La1,Lb5] at hfl5;rw[La2,Lb5] at hjl5;obtain⟨tr,htr,rtr⟩:=rus.get (i:=i) (d:=us[i].d) (by rw[La6,La0 hi2]; rfl);refine fold_goal fun Z' Y'=>?_;obtain⟨tra,kv,rfl,htra,rkv⟩:=rtr.tree;refine Y' ?_;clear Y' Z';have hat:atI uvs (0+(i:Int))=some (.ref tra):=by rw[Lj8]; exact atI_nat htr
    have hpa5:=x5.gh _ _ (s25 _ _ hpa);refine⟨.inl ⟨rfl,_,SqL.of hf5⟩,by show 1≤sizeLine; decide,fun a1 h1=>⟨_,_,same_upd h1 _ _ hpa5,upd_same,by rw[La1]; show p.length+1≤sizeLine; omega,fun a2 h2=>?_⟩⟩;have w1:=x5.trans (Ext.tmp (o:=.lst [V.int (0+(i:Int))]) x5.gh h1);have w2:=w1.trans (Ext.add (o:=.lst (p.map V.int++[V.int (0+(i:Int))])) w1.gh h2);have s2:Same G5 (upd G5 a2 (.lst (p.map V.int++[V.int (0+(i:Int))]))):=same_upd (w1.gh.none h2);have nf2:upd G5 a2 (.lst (p.map V.int++[V.int (0+(i:Int))])) pf=none:=by rw[upd_ne (ne_of_none (same_upd h1 _ _ hf5) h2)]; exact nf5
    have nt2:upd G5 a2 (.lst (p.map V.int++[V.int (0+(i:Int))])) pt=none:=by rw[upd_ne (ne_of_none (same_upd h1 _ _ ht5) h2)]; exact nt5
    have hf6:=same_upd (o:=.lst (p.map V.int++[V.int (0+(i:Int))])) h2 _ _ (same_upd (o:=.lst [V.int (0+(i:Int))]) h1 _ _ hf5);have ht6:=same_upd (o:=.lst (p.map V.int++[V.int (0+(i:Int))])) h2 _ _ (same_upd (o:=.lst [V.int (0+(i:Int))]) h1 _ _ ht5);refine⟨fv5,hf6,by omega,?_⟩;have w3:=w2.mut (o:=.lst (fv5++[V.ref a2])) nf2 hpf
    have ht7:upd (upd (upd H5 a1 (.lst [V.int (0+(i:Int))])) a2 (.lst (p.map V.int++[V.int (0+(i:Int))]))) pf (.lst (fv5++[V.ref a2])) pt=some (.lst tv5):=by
     rw[upd_ne (Ne.symm hne)];exact ht6
    have hf7:upd (upd (upd H5 a1 (.lst [V.int (0+(i:Int))])) a2 (.lst (p.map V.int++[V.int (0+(i:Int))]))) pf (.lst (fv5++[V.ref a2])) pf=some (.lst (fv5++[V.ref a2])):=upd_same
    have hF7:Paired (PathRel (upd G5 a2 (.lst (p.map V.int++[V.int (0+(i:Int))])))) (fv5++[V.ref a2]) (Fo++((subs p 0 us).take (i+1)).map (·.1)):=by
     rw[take_one hsi,Lb3,← La9];refine paired_app (paired_mono (fun _ _ r=>r.mono s2) hF5) (.cons ?_ .nil);refine .lst upd_same ?_;rw[Lj8,← List.map_singleton (f:=V.int),← Lb3];exact ints_reps _
    generalize upd (upd (upd H5 a1 (.lst [V.int (0+(i:Int))])) a2 (.lst (p.map V.int++[V.int (0+(i:Int))]))) pf (.lst (fv5++[V.ref a2]))=H7 at w3 hf7 ht7 ⊢;generalize upd G5 a2 (.lst (p.map V.int++[V.int (0+(i:Int))]))=G7 at w3 s2 nf2 nt2 hF7;have hpa7:=w3.gh _ _ (s2 _ _ (s25 _ _ hpa));refine⟨.inl ⟨rfl,_,SqL.of ht7⟩,by show 1≤sizeLine; decide,fun b1 hb1=>⟨_,_,same_upd hb1 _ _ hpa7,upd_same,by rw[La1]; show p.length+1≤sizeLine; omega,fun b2 hb2=>?_⟩⟩;have u1:=w3.trans (Ext.tmp (o:=.lst [V.int (0+(i:Int))]) w3.gh hb1);have u2:=u1.trans (Ext.add (o:=.lst (p.map V.int++[V.int (0+(i:Int))])) u1.gh hb2);have e2:Same G7 (upd G7 b2 (.lst (p.map V.int++[V.int (0+(i:Int))]))):=same_upd (u1.gh.none hb2);refine⟨uvs,_,SqL.of (u2.gh _ _ (e2 _ _ (s2 _ _ (s25 _ _ hta)))),hat,_,SqT.of (u2.gh _ _ (e2 _ _ (s2 _ _ (s25 _ _ htra)))),kids_not _ _,fun b3 hb3=>?_⟩;rw[kids_cut];have u3:=u2.trans (Ext.tmp (o:=.tup kv) u2.gh hb3);refine⟨kv,.inr (SqT.of upd_same),fun b4 hb4=>⟨by show 2≤sizeLine; decide,fun b5 hb5=>?_⟩⟩;have u4:=u3.trans (Ext.add (o:=.lst kv) u3.gh hb4);have u5:=u4.trans (Ext.add (o:=.tup [.ref b2,.ref b4]) u4.gh hb5);have v7:Ext G7 H7 G7 H7:=Ext.refl w3.gh;have v1:=v7.trans (Ext.tmp (o:=.lst [V.int (0+(i:Int))]) v7.gh hb1);have v2:=v1.trans (Ext.add (o:=.lst (p.map V.int++[V.int (0+(i:Int))])) v1.gh hb2);have v3:=v2.trans (Ext.tmp (o:=.tup kv) v2.gh hb3);have v4:=v3.trans (Ext.add (o:=.lst kv) v3.gh hb4);have v5:=v4.trans (Ext.add (o:=.tup [.ref b2,.ref b4]) v4.gh hb5);refine⟨tv5,v5.h _ _ ht7,by omega,?_⟩;refine hnx0 _ _ ⟨_,fv5++[V.ref a2],tv5++[V.ref b5],_,rfl,u5.mut (v5.keep ht7 nt2) npt,s25.trans (s2.trans v5.g),v5.keep hf7 nf2,v5.keep ht7 nt2,?_,upd_same,paired_mono (fun _ _ r=>r.mono v5.g) hF7,?_⟩
    ·rw[upd_ne hne]; exact v5.h _ _ hf7
    ·rw[take_one hsi,← La9];have gb2:Same (upd G7 b2 (.lst (p.map V.int++[V.int (0+(i:Int))]))) (upd (upd G7 b2 (.lst (p.map V.int++[V.int (0+(i:Int))]))) b4 (.lst kv)):=same_upd (v3.gh.none hb4);have gb4:Same (upd (upd G7 b2 (.lst (p.map V.int++[V.int (0+(i:Int))]))) b4 (.lst kv)) (upd (upd (upd G7 b2 (.lst (p.map V.int++[V.int (0+(i:Int))]))) b4 (.lst kv)) b5 (.tup [.ref b2,.ref b4])):=same_upd (v4.gh.none hb5);refine paired_app (paired_mono (fun _ _ r=>(r.mono s2).mono v5.g) hJ5) (.cons ⟨b5,_,_,rfl,upd_same,.lst (gb4 _ _ (gb2 _ _ upd_same)) ?_,.lst (gb4 _ _ upd_same) (((rkv.mono s25).mono s2).mono v5.g)⟩ .nil);rw[Lj8,← List.map_singleton (f:=V.int),← Lb3];exact ints_reps _
   ·intro σ H5 hZp;refine fold_goal fun Z' Y'=>?_;obtain⟨G5,fv5,tv5,z,rfl,x5,s25,nf5,nt5,hf5,ht5,hF5,hJ5⟩:=hZp;refine Y' ?_;clear Y' Z';rw[Ld3,Le2 (by omega)] at hF5 hJ5;refine⟨(allOf (J0++subs p 0 us)).length+(J0++subs p 0 us).length,?_,G5,fv5,_,tv5,_,_,_,_,rfl,x5,nf5,nt5,hne,hf5,ht5,hF5,hJ5,turn_last hperm,?_,?_,rfl⟩
    ·rw[allOf_append,La2,La2];omega
    ·rw[La2,La2,La1];omega
    ·intro j hj;rw[La2,La1]
     rcases Lb9.mp hj with h | h
     ·have:=hdeep j (by simp[h]);omega
     ·refine fold_goal fun Z' Y'=>?_;obtain⟨i,hi,ei⟩:=Le0.mp h;refine Y' ?_;clear Y' Z';have hi2:i<us.length:=by omega
      have e1:=subs_at p us 0 i hi2;rw[La0 hi,ei] at e1;cases e1
      show (p++[_]).length≤_
      rw[La2,Lb2];omega
inductive LvInv(G H:Hp)(v:V)(pf:Addr)(C:List (List Int))(m:Nat)(σ:L2.St)(H2:Hp):Prop
 | mk (G2:Hp) (fv:List V) (F:List (List Int)) (pl:Addr) (lv:List V) (L:List Job) (a b c d e:Option V):σ=[some v,some (.ref pf),some (.ref pl),a,b,c,d,e]→Ext G H G2 H2→G2 pf=none→pf≠pl→H2 pf=some (.lst fv)→H2 pl=some (.lst lv)→Paired (PathRel G2) fv F→Paired (JobRel G2) lv L→(F++allOf L).Perm C→L.length≤F.length+1→((∀ j∈L,j.1.length≤F.length))→(allOf L).length+(if L.isEmpty=true then 0 else 1)=m→LvInv G H v pf C m σ H2
theorem scPaths:FnScope ["row","found","level","deeper","path","trees","place","tree"] ["row"] (defScope sPaths):=scD rfl rfl rfl rfl
inductive DpInv(G H G2:Hp)(v:V)(pf pl pd:Addr)(fv lv:List V)(L:List Job)(i:Nat)(σ:L2.St)(H3:Hp):Prop
 | mk (G3:Hp) (dv:List V) (b4 b5 b6 b7:Option V):σ=[some v,some (.ref pf),some (.ref pl),some (.ref pd),b4,b5,b6,b7]→Ext G H G3 H3→Same G2 G3→G3 pf=none→G3 pd=none→H3 pf=some (.lst fv)→H3 pl=some (.lst lv)→H3 pd=some (.lst dv)→Paired (JobRel G3) dv (deeper (L.take i))→DpInv G H G2 v pf pl pd fv lv L i σ H3
theorem ok_paths{f:Addr}{fd:FuncData}(F:Fun K "paths" "paths" sPaths f fd)(T:Txt mg)(F_tu:Ok1 P w K mg base 3 "trees_under" ["tree"] spTU):FnOk P w K mg base CX0 7 f fd ["row"] spAll:=by
 refine F.ok scPaths (fun vs H Q E h=>?_) (fun cdv A outer s H vs Q E hr h=>?_)
 ·obtain⟨G,v,ts,rfl,_⟩:=h;rfl
 ·refine fold_goal fun Z' Y'=>?_;obtain⟨G,v,ts,rfl,sm,rv,h64,k⟩:=h;refine Y' ?_;clear Y' Z';have nd:=scPaths.nd;have nd2:(["path","trees"]:List Str).Nodup:=by decide +kernel
  have hu2:=(hr.in1.in1).units0;have big:=line_big
  refine⟨_,(pss_cons (ps_set (i:=1) nd rfl (Or.inl rfl) (pe_lst pa_nil))
   (pss_cons (ps_set (i:=2) nd rfl (Or.inl rfl) (pe_lst (pa_cons (pe_tup (pa_cons (pe_lst pa_nil) (pa_cons (pc 0) pa_nil))) pa_nil)))
   (pss_cons (ps_while PassesOwn.never (pt_truth (pc 2) (fun _=>rfl))
    (pss_cons (ps_set (i:=3) nd rfl (Or.inl rfl) (pe_lst pa_nil))
    (pss_cons (ps_for PassesOwn.never rfl (pi_list (pc 2)) (gc_tup rfl (gcs_cons (pg_name (i:=4) nd rfl (Or.inl rfl)) (gcs_cons (pg_name (i:=5) nd rfl (Or.inl rfl)) pgs_nil)))
     (pss_one (ps_for PassesOwn.never rfl (pi_enum rfl T.enumerate (pa_cons (pc 5) pa_nil)) (gc_tup rfl (gcs_cons (pg_name (i:=6) nd rfl (Or.inl rfl)) (gcs_cons (pg_name (i:=7) nd rfl (Or.inl rfl)) pgs_nil)))
      (pss_one (ps_expr (pe_bm PySem.F.plainAttrs_list PySem.F.slot_list_append PySem.F.type_list_append mc_append (pc 3) (pa_cons (pe_tup (pa_cons (pe_op oc_cat (pc 4) (pe_lst (pa_cons (pc 6) pa_nil))) (pa_cons (pe_fn F_tu (hr.mono (by decide)) rfl (pa_cons (pc 7) pa_nil)) pa_nil))) pa_nil)))))))
    (pss_cons (ps_expr (pe_bm PySem.F.plainAttrs_list PySem.F.slot_list_extend PySem.F.type_list_extend mt_extend (pc 1) (pa_cons
     (pe_compC (N:=["path","trees"]) (n:=2) (caps:=[]) (g:=cTup K 2 (cCons (gName 0) (cCons (gName 1) gNil))) (te:=cVar 0) rfl (pi_list (pc 3)) (capOk_nil rfl rfl (by decide +kernel) (by decide +kernel) (by decide +kernel)) (fun cl C s2 H2 fp=>gc_tup rfl (gcs_cons (pg_name (i:=0) nd2 rfl (Or.inl rfl) (.inr rfl)) (gcs_cons (pg_name (i:=1) nd2 rfl (Or.inl rfl) (.inr rfl)) pgs_nil))) (fun cl C s2 H2 fp=>pc 0)) pa_nil)))
    (pss_one (ps_set (i:=2) nd rfl (Or.inl rfl) (pc 3)))))))
   (pss_one (ps_ret (pe_callB (call_sorted hu2) rfl T.sorted bt_sorted (pa_cons (pc 1) pa_nil))))))),?_⟩
  have hC:(pps 0 ts).length<64:=by rw[pps_length]; exact h64
  refine seq_gen fun R8 hn8 hr8=>?_;refine⟨Lb1 _,fun pf hpf=>hn8 _ _ ?_⟩;clear hn8;(try dsimp only);refine seq_gen fun R9 hn9 hr9=>?_;refine⟨Lb1 _,fun pp hpp=>⟨by show 2≤sizeLine; decide,fun q0 hq0=>⟨by show 1≤sizeLine; decide,fun pl hpl=>hn9 _ _ ?_⟩⟩⟩;clear hn9;(try dsimp only);refine seq_gen fun R0 hn0 hr0=>?_;have npf:G pf=none:=sm.none hpf;have y0:Ext G (upd H pf (.lst [])) G (upd H pf (.lst [])):=Ext.refl (sm.trans (same_upd hpf));have y1:=y0.trans (Ext.add (o:=.lst []) y0.gh hpp);have y2:=y1.trans (Ext.add (o:=.tup [.ref pp,v]) y1.gh hq0);have y3:=y2.trans (Ext.tmp (o:=.lst [.ref q0]) y2.gh hpl);have x0:Ext G H G (upd H pf (.lst [])):=Ext.tmp sm hpf;have x3:=x0.trans y3
  refine⟨LvInv G H v pf (pps 0 ts),⟨_,_,[],[],pl,[.ref q0],[([],ts)],none,none,none,none,none,rfl,x3,y3.keep upd_same npf,ne_of_none (y2.h _ _ upd_same) hpl,y3.h _ _ upd_same,upd_same,.nil,
   .cons ⟨q0,_,_,rfl,upd_same,.lst ((Ext.add (o:=.tup [.ref pp,v]) y1.gh hq0).g _ _ upd_same) .nil,rv.mono y2.g⟩ .nil,?_,by simp,?_,rfl⟩,?_⟩
  ·rw[Ld1,allOf_cons,allOf_nil,Lc0];exact List.Perm.of_eq (by unfold Job.all; simp)
  ·intro j hj
   have:j=([],ts):=by simpa using hj
   subst this;exact La4 _
  intro m σ H2 hZp;refine fold_goal fun Z' Y'=>?_;obtain⟨G2,fv,Fo,pl,lv,L,z3,z4,z5,z6,z7,rfl,x,nf,hne,hf2,hl2,hF,hL,hperm,hlen,hdeep,hm⟩:=hZp;refine Y' ?_;clear Y' Z'
  have hFC:Fo.length+(allOf L).length<64:=by
   have:=hperm.length_eq;rw[La2] at this;omega
  have hfl:=paired_length hF;have hll:=paired_length hL;refine⟨!lv.isEmpty,.inl ⟨lv,SqL.of hl2,rfl⟩,?_⟩
  cases he:lv.isEmpty with
  | true =>
   refine iteF ?_;have e1:lv=[]:=Lf0.mp he;subst e1;cases hL;rw[allOf_nil,Lc0] at hperm;refine hn0 _ _ ?_;(try dsimp only);refine⟨pf,fv,Fo,PathRel G2,rfl,SqL.of hf2,hF,fun v' q' r'=>rel_path x.gh r',by omega,fun l vs' ps' hl hR hp hri=>?_⟩;have x2:=x.trans (Ext.add (o:=.lst vs') x.gh hl)
   exact k _ _ _ ps' x2 (.lst upd_same (paths_reps (paired_mono (fun _ _ z=>z.mono (Ext.add (o:=.lst vs') x.gh hl).g) hR))) (hp.trans hperm) hri
  | false =>
   refine iteT ⟨fun σ' H'=>∃ m',m'<m∧LvInv G H v pf (pps 0 ts) m' σ' H',fun _ _ z=>z,?_⟩
   have hLne:L.isEmpty=false:=by
    cases L with
    | nil=>cases hL; simp at he
    | cons _ _=>rfl
   have hdl:=(deeper_perm L).length_eq;rw[La2,La1] at hdl;(try dsimp only);refine seq_gen fun R1 hn1 hr1=>?_;refine⟨Lb1 _,fun pd hpd=>hn1 _ _ ?_⟩;clear hn1;(try dsimp only);refine seq_gen fun R2 hn2 hr2=>?_;have hpdH:H pd=none:=x.h.none hpd;have npd:G2 pd=none:=x.gh.none hpd;have nlf:pl≠pd:=ne_of_none hl2 hpd;have nff:pf≠pd:=ne_of_none hf2 hpd;have x1:=x.trans (Ext.tmp (o:=.lst []) x.gh hpd)
   refine⟨pl,rfl,⟨_,SqL.of (same_upd hpd _ _ hl2)⟩,for_listG (K:=K) (a:=pl) (xs:=lv)
    (DpInv G H G2 v pf pl pd fv lv L)
    ⟨G2,[],_,_,_,_,rfl,x1,Same.refl _,nf,npd,same_upd hpd _ _ hf2,same_upd hpd _ _ hl2,upd_same,.nil⟩ (fun i σ H3 _ hZq=>by obtain⟨_,_,_,_,_,_,_,_,_,_,_,_,h,_⟩:=hZq; exact SqL.of h) ?_ ?_⟩
   ·intro i y σ H3 hi hZp R3 hn3 hr3;refine fold_goal fun Z' Y'=>?_;obtain⟨G3,dv,b4,b5,b6,b7,rfl,x3,s23,nf3,nd3,hf3,hl3,hd3,hD⟩:=hZp;refine Y' ?_;clear Y' Z';have hil:i<lv.length:=(La5.mp hi).1;have hiL:i<L.length:=by omega
    obtain⟨q,v1,v2,rfl,hq,r1,r2⟩:=paired_get hL hi (La0 hiL);have hmem:L[i]∈L:=Ld4 hiL;have hj1:=hdeep _ hmem;have hcut:L.take (i+1)=L.take i++[L[i]]:=take_one (La0 hiL)
    have hdn:(deeper (L.take i)).length+L[i].2.length≤(deeper L).length:=by
     have e1:deeper L=deeper (L.take (i+1))++deeper (L.drop (i+1)):=by
      unfold deeper;rw[← List.flatMap_append,Lc9]
     have e2:=congrArg List.length e1;rw[hcut,deeper_snoc,La2,La2,subs_length] at e2;omega
    generalize L[i]=j at r1 r2 hj1 hcut hdn;obtain⟨p,us⟩:=j
    replace hj1:p.length≤Fo.length:=hj1
    replace hdn:(deeper (L.take i)).length+us.length≤(deeper L).length:=hdn
    refine fold_goal fun Z' Y'=>?_;obtain⟨pa,rfl,hpa⟩:=Rep.path r1;refine Y' ?_;clear Y' Z';refine fold_goal fun Z' Y'=>?_;obtain⟨ta,uvs,rfl,hta,rus⟩:=r2.row;refine Y' ?_;clear Y' Z'
    have hul:uvs.length=us.length:=by
     have h:=rus.length;rw[La1] at h;exact h
    refine⟨_,SqT.of (x3.gh _ _ (s23 _ _ hq)),rfl,rfl,?_⟩
    refine⟨ta,rfl,⟨_,SqL.of (x3.gh _ _ (s23 _ _ hta))⟩,for_enumG (K:=K) (a:=ta) (xs:=uvs)
     (fun i2 σ H4=>∃ (G4:Hp) (dv4:List V) (c6 c7:Option V),σ=[some v,some (.ref pf),some (.ref pl),some (.ref pd),some (.ref pa),some (.ref ta),c6,c7]∧Ext G H G4 H4∧Same G2 G4∧G4 pf=none∧G4 pd=none∧H4 pf=some (.lst fv)∧H4 pl=some (.lst lv)∧H4 pd=some (.lst dv4) ∧
      Paired (JobRel G4) dv4 (deeper (L.take i)++(subs p 0 us).take i2))
     ⟨G3,dv,_,_,rfl,x3,s23,nf3,nd3,hf3,hl3,hd3,by simpa using hD⟩ (fun i2 σ H4 _ hZq=>by obtain⟨_,_,_,_,_,x4,s24,_⟩:=hZq; exact SqL.of (x4.gh _ _ (s24 _ _ hta))) ?_ ?_⟩
    ·intro i2 y2 σ H4 pq hi2 hZp hpq R4 hn4 hr4;refine fold_goal fun Z' Y'=>?_;obtain⟨G4,dv4,c6,c7,rfl,x4,s24,nf4,nd4,hf4,hl4,hd4,hD4⟩:=hZp;refine Y' ?_;clear Y' Z';have hi2u:i2<us.length:=by have:=(La5.mp hi2).1; omega
     have hsi:(subs p 0 us)[i2]?=some (p++[(i2:Int)],us[i2].kids):=by
      have:=subs_at p us 0 i2 hi2u
      rwa [Lh2] at this
     refine fold_goal fun Z' Y'=>?_;obtain⟨dd,hdd,rtr⟩:=rus.at hi2;refine Y' ?_;clear Y' Z';rw[La6,La0 hi2u] at hdd;cases Option.some.inj hdd;have hdl4:=paired_length hD4;rw[La2,Lb5,subs_length] at hdl4;have o4:Ext G4 H4 G4 H4:=Ext.refl x4.gh;have o5:=o4.trans (Ext.tmp (o:=.tup [V.int (i2:Int),y2]) o4.gh hpq);refine⟨_,SqT.of upd_same,rfl,rfl,?_⟩;refine⟨.inl ⟨rfl,_,SqL.of (o5.h _ _ hd4)⟩,by show 1≤sizeLine; decide,fun a1 h1=>⟨_,_,same_upd h1 _ _ (o5.gh _ _ (s24 _ _ hpa)),upd_same,by rw[La1]; show p.length+1≤sizeLine; omega,fun a2 h2=>?_⟩⟩;have o6:=o5.trans (Ext.tmp (o:=.lst [V.int (i2:Int)]) o5.gh h1);have o7:=o6.trans (Ext.add (o:=.lst (p.map V.int++[V.int (i2:Int)])) o6.gh h2);refine⟨_,y2,us[i2],rfl,o7.gh,(rtr.mono s24).mono o7.g,fun G8 H8 r8 x8 rr8=>⟨by show 2≤sizeLine; decide,fun b5 hb5=>?_⟩⟩;have o8:=o7.trans x8;have o9:=o8.trans (Ext.add (o:=.tup [.ref a2,r8]) o8.gh hb5);refine⟨dv4,o9.h _ _ hd4,by omega,hn4 _ _ ?_⟩;have nd9:=o9.keep hd4 nd4;refine⟨_,dv4++[V.ref b5],_,_,rfl,(x4.trans o9).mut nd9 hpdH,s24.trans o9.g,o9.keep hf4 nf4,nd9,?_,?_,upd_same,?_⟩
     ·rw[upd_ne nff]; exact o9.h _ _ hf4
     ·rw[upd_ne nlf]; exact o9.h _ _ hl4
     ·rw[take_one hsi,← La9];have s89:Same G8 (upd G8 b5 (.tup [.ref a2,r8])):=same_upd (o8.gh.none hb5);refine paired_app (paired_mono (fun _ _ r=>r.mono o9.g) hD4) (.cons ⟨b5,_,_,rfl,upd_same,.lst (s89 _ _ (x8.g _ _ upd_same)) ?_,rr8.mono s89⟩ .nil);rw[← List.map_singleton (f:=V.int),← Lb3];exact ints_reps _
    ·intro σ H4 hZp;refine fold_goal fun Z' Y'=>?_;obtain⟨G4,dv4,c6,c7,rfl,x4,s24,nf4,nd4,hf4,hl4,hd4,hD4⟩:=hZp;refine Y' ?_;clear Y' Z';rw[Le2 (l:=subs p 0 us) (by rw[subs_length]; omega)] at hD4;exact hn3 _ _ ⟨G4,dv4,_,_,_,_,rfl,x4,s24,nf4,nd4,hf4,hl4,hd4,by rw[hcut,deeper_snoc]; exact hD4⟩
   ·intro σ H3 hZp;refine fold_goal fun Z' Y'=>?_;obtain⟨G3,dv,b4,b5,b6,b7,rfl,x3,s23,nf3,nd3,hf3,hl3,hd3,hD⟩:=hZp;refine Y' ?_;clear Y' Z';rw[hll,Le9] at hD;refine fold_goal fun Z' Y'=>?_;obtain⟨fs,hfs,hps⟩:=jobs_firsts hD;refine Y' ?_;clear Y' Z';have hdl3:=paired_length hD;have hfsl:=paired_length hfs;refine hn2 _ _ ?_;clear hn2;(try dsimp only);refine seq_gen fun R5 hn5 hr5=>?_;refine⟨.inl ⟨rfl,_,SqL.of hf3⟩,pd,rfl,⟨_,SqL.of hd3⟩,fun acc hacc=>?_⟩;have nad:pd≠acc:=ne_of_none hd3 hacc;refine⟨fun i mm H4 ys=>mm=dv.length - i∧i≤dv.length∧ys=fs.take i∧H4=upd H3 acc (.lst (fs.take i)),⟨_,rfl,Lb1 _,rfl,rfl⟩,?_⟩;rintro i mm H4 ys ⟨rfl,hi,rfl,rfl⟩ hya;have hd4:upd H3 acc (.lst (fs.take i)) pd=some (.lst dv):=by rw[upd_ne nad]; exact hd3
    by_cases hlt:i<dv.length
    ·refine .inr ⟨⟨dv,dv[i],SqL.of hd4,La0 hlt⟩,by rw[Lb5]; omega,fun x4 H5 y=>?_⟩;obtain⟨rfl,hy⟩:=y;have e4:=hy dv (SqL.of hd4);have hif:i<fs.length:=by omega
     obtain⟨q,s2,rfl,hq⟩:=paired_get hfs e4 (La0 hif)
     have hqa:upd H3 acc (.lst (fs.take i)) q=some (.tup [fs[i],s2]):=by
      rw[upd_ne (ne_of_none (x3.gh _ _ hq) hacc)];exact x3.gh _ _ hq
     refine⟨_,SqT.of hqa,rfl,rfl,(fun j v' hj=>cap_none2 hj),hya,dv.length - (i+1),by omega,rfl,hlt,(take_one (La0 hif)).symm,?_⟩;rw[upd_upd,take_one (La0 hif)]
    ·have ei:i=dv.length:=by omega
     subst ei;refine .inl ⟨⟨dv,SqL.of hd4,La4 _⟩,?_⟩;rw[Le2 (by omega)] at hd4 ⊢;have hf4:upd H3 acc (.lst fs) pf=some (.lst fv):=by rw[upd_ne (ne_of_none hf3 hacc)]; exact hf3
     refine⟨pf,acc,fv,fs,rfl,rfl,hf4,upd_same,by omega,hn5 _ _ ?_⟩;refine⟨(allOf (deeper L)).length+(if (deeper L).isEmpty=true then 0 else 1),?_,G3,fv++fs,Fo++(deeper L).map (·.1),pd,dv,deeper L,_,_,_,_,_,rfl,(x3.trans (Ext.tmp x3.gh hacc)).mut nf3 hpf,nf3,nff,upd_same,?_,paired_app (paired_mono (fun _ _ r=>r.mono s23) hF) hps,hD,turn_level hperm,?_,?_,rfl⟩
     ·rw[hLne] at hm;simp only[Bool.false_eq_true,if_false] at hm
      cases hde:(deeper L).isEmpty with
      | true=>simp only[if_true]; omega
      | false =>
       have:1≤(deeper L).length:=by
        cases hdd:deeper L with
        | nil=>rw[hdd] at hde; simp at hde
        | cons _ _=>simp
       simp only[Bool.false_eq_true,if_false];omega
     ·rw[upd_ne (Ne.symm nff)]; exact hd4
     ·rw[La2,La1]; omega
     ·intro j hj
      have:=deeper_len hdeep j hj;rw[La2,La1];exact this
inductive PspWord(vs:List V)(H:Hp)(Q:VK):Prop
 | mk (n:Int):vs=[.int n]→(∀ (H':Hp) (x:Str),Same H H'→Word x→Q (.str x) H')→PspWord  vs H Q
def spWord:Sp:=fun vs H Q _=>PspWord  vs H Q
theorem scWord:FnScope ["_law_cell","_law_left","_law_word"] ["_law_cell"] (defScope sWord):=scD rfl rfl rfl rfl
def leftOf:L2.St→Nat
 | [_,some (.int l),_]=>(l+1).toNat
 | _=>0
theorem word_len{l:Int}{n:Nat}(h0:0≤l)(h:(l+1) * 26 ^ n≤10 ^ 39):n≤27:=by
 by_cases hn:n≤27
 ·exact hn
 ·exfalso
  obtain⟨d,rfl⟩:∃ d,n=28+d:=⟨n - 28,by omega⟩;have p0:(0:Int)<26 ^ d:=Int.pow_pos (by decide);have e:(26:Int) ^ (28+d)=26 ^ 28 * 26 ^ d:=Int.pow_add ..;have h1:(26:Int) ^ 28 * 26 ^ d≥26 ^ 28 * 1:=Int.mul_le_mul_of_nonneg_left (by omega) (by decide);have h2:(l+1) * (26 ^ (28+d):Int)≥1 * (26 ^ (28+d):Int):=Int.mul_le_mul_of_nonneg_right (by omega) (by rw[e]; exact Int.mul_nonneg (by decide) (by omega));have h3:(26:Int) ^ 28 > 10 ^ 39:=by decide
  rw[e] at h2;rw[e] at h;omega
theorem ok_word{f:Addr}{fd:FuncData}(F:Fun K "_law_any_word" "_law_any_word" sWord f fd)(T:Txt mg):FnOk P w K mg base CX0 3 f fd ["_law_cell"] spWord:=by
 refine F.ok scWord (fun vs H Q E h=>?_) (fun cdv A outer s H vs Q E hr h=>?_)
 ·obtain⟨n,rfl,_⟩:=h;rfl
 ·refine fold_goal fun Z' Y'=>?_;obtain⟨n,rfl,k⟩:=h;refine Y' ?_;clear Y' Z';have nd:=scWord.nd
  refine⟨_,(pss_cons (ps_set (i:=1) nd rfl (Or.inl rfl) (pe_op op_mod (pe_callB call_abs rfl T.abs bt_abs (pa_cons (pv 0) pa_nil)) (pe_op op_pow pe_int pe_int)))
   (pss_cons (ps_set (i:=2) nd rfl (Or.inl rfl) pe_str)
   (pss_cons (ps_while PassesOwn.never (pt_cmpR op_ge (pv 1) pe_int (nomark _))
    (pss_cons (ps_set (i:=2) nd rfl (Or.inl rfl) (pe_op op_add_str (pe_ix ix_str pe_str (pe_op op_mod (pv 1) pe_int) (fun _ _=>rfl)) (pv 2)))
    (pss_one (ps_set (i:=1) nd rfl (Or.inl rfl) (pe_op op_sub (pe_op op_fdiv (pv 1) pe_int) pe_int)))))
   (pss_one (ps_ret (pv 2)))))),?_⟩
  refine⟨_,rfl,n,rfl,_,_,rfl,rfl,⟨by decide,by decide,by decide⟩,_,_,rfl,rfl,(by show (0:Int)<10 ^ (39:Int).toNat; decide),?_⟩
  refine while_by (fun σ H2=>∃ (l:Int) (x:Str),σ=[some (.int n),some (.int l),some (.str x)]∧H2=H∧-1≤l∧(l+1) * 26 ^ x.length≤10 ^ 39∧(∀ c∈x.cps.toList,97≤c∧c≤122)∧(l=-1→1≤x.length)∧x.length≤28)
   (fun σ _=>leftOf σ) ?_ ?_ (fun σ H Q Q' hq ⟨v,e,i,j,e1,e2,kk,e3,h⟩=>⟨v,e,i,j,e1,e2,kk,e3,hq _ _ h⟩)
  ·refine⟨_,_,rfl,rfl,?_,?_,?_,?_,?_⟩
   ·have:=Lf7 (if n<0 then -n else n) (b:=10 ^ (39:Int).toNat) (by decide);omega
   ·have:=Lf3 (if n<0 then -n else n) (b:=10 ^ (39:Int).toNat) (by decide)
    show (_+1) * 26 ^ 0≤_
    have e:(10:Int) ^ (39:Int).toNat=10 ^ 39:=rfl;rw[e] at this;omega
   ·intro c hc
    have:c∈([]:List Nat):=hc;cases this
   ·intro e
    have:=Lf7 (if n<0 then -n else n) (b:=10 ^ (39:Int).toNat) (by decide);omega
   ·exact Lb1 _
  ·intro σ H2 hZp;refine fold_goal fun Z' Y'=>?_;obtain⟨l,x,rfl,rfl,hl,hb,hw,h1,h28⟩:=hZp;refine Y' ?_;clear Y' Z';refine⟨_,rfl,_,_,rfl,rfl,_,rfl,?_⟩;refine ite2 (fun hge=>?_) (fun hge=>?_)
   ·have h0:0≤l:=of_decide_eq_true hge;have hlen:=word_len h0 hb;refine fold_goal fun Z' Y'=>?_;obtain⟨c,hat,hc1,hc2⟩:=alphabet_at l;refine Y' ?_;clear Y' Z';refine⟨_,rfl,_,_,rfl,rfl,(by show (0:Int)<26; decide),_,_,c,rfl,rfl,(by decide +kernel),hat,_,rfl,_,_,rfl,rfl,?_,?_⟩
    ·show 1+x.length≤sizeLine
     have:=line_big;omega
    ·refine⟨_,rfl,_,_,rfl,rfl,⟨by decide,by decide⟩,_,_,rfl,rfl,?_⟩
     have hx:((⟨#[c]⟩:Str)++x).length=1+x.length:=by
      show (#[c]++x.cps).size=1+x.cps.size
      rw[Array.size_append]; rfl
     have hq:l / 26≤l:=by omega
     refine⟨⟨l / 26 - 1,(⟨#[c]⟩:Str)++x,rfl,rfl,by omega,?_,?_,?_,?_⟩,?_⟩
     ·rw[hx,Int.sub_add_cancel,Nat.add_comm,Int.pow_succ,← Int.mul_assoc,Int.mul_assoc (l / 26),Int.mul_comm (26 ^ x.length) 26,← Int.mul_assoc];have p0:(0:Int)≤26 ^ x.length:=Int.le_of_lt (Int.pow_pos (by decide));exact Int.le_trans (Int.mul_le_mul_of_nonneg_right (by omega) p0) hb
     ·intro d hd;have hd':d∈((#[c]++x.cps):Array Nat).toList:=hd;rw[Array.toList_append] at hd'
      rcases Lb9.mp hd' with h | h
      ·have:d=c:=by simpa using h
       omega
      ·exact hw d h
     ·intro _; rw[hx]; omega
     ·rw[hx]; omega
     ·show (l / 26 - 1+1).toNat<(l+1).toNat
      omega
   ·have:l=-1:=by
     have:¬ 0≤l:=fun z=>hge (decide_eq_true z);omega
    refine⟨_,rfl,?_⟩;exact k _ x (Same.refl _) ⟨h1 this,h28,hw⟩
theorem knots_grow(m:Str)(ts:List Tr)(n:Nat):knotsOf (ts.take n++[Tr.node m (ts.drop n)])=knotsOf ts+1:=by
 have e:=knotsOf_append (ts.take n) (ts.drop n);rw[Lc9] at e;rw[knotsOf_append,knotsOf,Tr.knots,knotsOf,e];omega
theorem words_grow{m:Str}{ts:List Tr}(n:Nat)(hm:Word m)(h:wordsOf ts):wordsOf (ts.take n++[Tr.node m (ts.drop n)]):=by
 rw[wordsOf_iff] at h ⊢;intro t ht
 rcases Lb9.mp ht with q | q
 ·exact h t (List.mem_of_mem_take q)
 ·have e:t=Tr.node m (ts.drop n):=by simpa using q
  subst e;exact⟨hm,wordsOf_iff.mpr fun u hu=>h u (List.mem_of_mem_drop hu)⟩
theorem words_perm{a b:List Tr}(h:a.Perm b)(w:wordsOf a):wordsOf b:=wordsOf_iff.mpr fun t ht=>wordsOf_iff.mp w t (h.mem_iff.mpr ht)
inductive PspDrawn(vs:List V)(H:Hp)(Q:VK):Prop
 | mk (G:Hp) (c:Addr) (ns:List Int):vs=[.ref c]→Same G H→G c=some (.lst (ns.map V.int))→ns.length≤1000→(∀ (G' H':Hp) (r:V) (ts:List Tr),Ext G H G' H'→Rep G' r (rowD ts)→knotsOf ts≤ns.length→wordsOf ts→Q r H')→PspDrawn  vs H Q
def spDrawn:Sp:=fun vs H Q _=>PspDrawn  vs H Q
theorem scDrawn:FnScope ["_law_cells","_law_row","_law_j","_law_cell","_law_mark","_law_many"] ["_law_cells"] (defScope sDrawn):=scD rfl rfl rfl rfl
inductive DrInv(G H:Hp)(c:Addr)(i:Nat)(σ:L2.St)(H2:Hp):Prop
 | mk (G2:Hp) (rv:V) (ts:List Tr) (v2 v3 v4 v5:Option V):σ=[some (.ref c),some rv,v2,v3,v4,v5]→Ext G H G2 H2→Rep G2 rv (rowD ts)→knotsOf ts≤i→wordsOf ts→DrInv G H c i σ H2
theorem ok_drawn{f:Addr}{fd:FuncData}(F:Fun K "_law_drawn_row" "_law_drawn_row" sDrawn f fd)(T:Txt mg)(F_word:Ok1 P w K mg base 3 "_law_any_word" ["_law_cell"] spWord):FnOk P w K mg base CX0 5 f fd ["_law_cells"] spDrawn:=by
 refine F.ok scDrawn (fun vs H Q E h=>?_) (fun cdv A outer s H vs Q E hr h=>?_)
 ·obtain⟨G,c,ns,rfl,_⟩:=h;rfl
 ·refine fold_goal fun Z' Y'=>?_;obtain⟨G,c,ns,rfl,sm,hc,hns,k⟩:=h;refine Y' ?_;clear Y' Z';have nd:=scDrawn.nd
  refine⟨_,(pss_cons (ps_set (i:=1) nd rfl (Or.inl rfl) (pe_lst pa_nil))
   (pss_cons (ps_for PassesOwn.never rfl (pi_range1 rfl T.range (pa_cons (pe_callB cc_len rfl T.len bt_len (pa_cons (pc 0) pa_nil)) pa_nil)) (pg_name (i:=2) nd rfl (Or.inl rfl))
    (pss_cons (ps_set (i:=3) nd rfl (Or.inl rfl) (pe_ix xc_list (pc 0) (pc 2) (fun _ _=>rfl)))
    (pss_cons (ps_set (i:=4) nd rfl (Or.inl rfl) (pe_ix xc_list (pe_lst (pa_cons pe_str (pa_cons pe_str (pa_cons pe_str (pa_cons pe_str pa_nil))))) (pe_op oc_mod (pe_op oc_fdiv (pc 3) pe_int) pe_int) (fun _ _=>rfl)))
    (pss_cons (ps_ifM (pt_c op_eq (pe_op oc_mod (pc 3) pe_int) pe_int (nomark _))
     (pss_one (ps_set (i:=4) nd rfl (Or.inl rfl) (pe_fn F_word (hr.mono (by decide)) rfl (pa_cons (pe_op oc_fdiv (pc 3) pe_int) pa_nil))))
     pss_nil)
    (pss_cons (ps_set (i:=5) nd rfl (Or.inl rfl) (pe_callB (call_min2 rfl) rfl T.min bt_min (pa_cons (pe_ix xc_list (pe_lst (pa_cons pe_int (pa_cons pe_int (pa_cons pe_int (pa_cons pe_int (pa_cons pe_int (pa_cons pe_int (pa_cons pe_int pa_nil)))))))) (pe_op oc_mod (pc 3) pe_int) (fun _ _=>rfl)) (pa_cons (pe_callB cc_len rfl T.len bt_len (pa_cons (pc 1) pa_nil)) pa_nil))))
    (pss_cons (ps_set (i:=1) nd rfl (Or.inl rfl) (pe_op oc_cat (pe_slice sc_list (pc 1) po_none (po_c (pe_op oc_sub (pe_callB cc_len rfl T.len bt_len (pa_cons (pc 1) pa_nil)) (pc 5)))) (pe_lst (pa_cons (pe_callTy cc_tuple rfl T.tuple bt_tuple (pa_cons (pe_op oc_cat (pe_lst (pa_cons (pc 4) pa_nil)) (pe_slice sc_list (pc 1) (po_c (pe_op oc_sub (pe_callB cc_len rfl T.len bt_len (pa_cons (pc 1) pa_nil)) (pc 5))) po_none)) pa_nil)) pa_nil))))
    (pss_one (ps_if (pt_c op_eq (pe_op oc_mod (pe_op oc_fdiv (pe_ix xc_list (pc 0) (pe_op oc_mod (pe_op oc_add (pc 2) pe_int) (pe_callB cc_len rfl T.len bt_len (pa_cons (pc 0) pa_nil))) (fun _ _=>rfl)) pe_int) pe_int) pe_int (nomark _))
     (pss_one (ps_set (i:=1) nd rfl (Or.inl rfl) (pe_op oc_cat (pe_slice sc_list (pc 1) (po_c (pe_un uc_neg pe_int)) po_none) (pe_slice sc_list (pc 1) po_none (po_c (pe_un uc_neg pe_int))))))
     pss_nil))))))))
   (pss_one (ps_ret (pc 1))))),?_⟩
  have hcl:(ns.map V.int).length=ns.length:=La1 ..;have big:=line_big;refine⟨Lb1 _,fun p0 hp0=>?_⟩;have x0:Ext G H (upd G p0 (.lst [])) (upd H p0 (.lst [])):=Ext.add sm hp0
  refine⟨_,.inl (SqL.of (x0.h _ _ (sm _ _ hc))),_,rfl,by rw[hcl]; omega,by rw[hcl]; omega,for_rangeG
   (DrInv G H c)
   ⟨_,.ref p0,[],none,none,none,none,rfl,x0,.lst upd_same .nil,La4 _,trivial⟩ ?_ ?_⟩
  ·intro i σ H2 hi hZp R0 hnx0 hrx0;refine fold_goal fun Z' Y'=>?_;obtain⟨G2,rv,ts,v2,v3,v4,v5,rfl,x,rr,hk,hw⟩:=hZp;refine Y' ?_;clear Y' Z';have hin:i<ns.length:=by rw[hcl] at hi; simpa using hi
   have hc2:H2 c=some (.lst (ns.map V.int)):=x.h _ _ (sm _ _ hc);have hcell:atI (ns.map V.int) (0+(i:Int))=some (.int ns[i]):=by rw[Lj8]; exact ints_ix hin
   refine fold_goal fun Z' Y'=>?_;obtain⟨ra,tvs,rfl,hra,rts⟩:=rr.row;refine Y' ?_;clear Y' Z';have hlen:=rts.length;rw[La1] at hlen;have hlk:=length_le_knots ts;refine⟨_,_,SqL.of hc2,hcell,?_⟩;refine fold_goal fun Z' Y'=>?_;obtain⟨m0,hm0,wm0⟩:=four_words (ns[i] / 4);refine Y' ?_;clear Y' Z';refine⟨by show 4≤sizeLine; decide,fun p1 hp1=>⟨⟨by decide,by decide⟩,(by show (0:Int)<4; decide),_,_,SqL.of upd_same,hm0,?_⟩⟩;have x1:=x.trans (Ext.tmp (o:=.lst [V.str (Str.ofString "sab"),V.str (Str.ofString "tab"),V.str (Str.ofString "sob"),V.str (Str.ofString "sat")]) x.gh hp1);(try dsimp only);refine seq_gen fun Ra hna hra=>?_;refine⟨fun σ' H'=>∃ m:Str,σ'=[some (.ref c),some (.ref ra),some (.int (0+(i:Int))),some (.int ns[i]),some (.str m),v5]∧Word m∧Ext G H G2 H',?_,?_⟩
   ·refine⟨(by show (0:Int)<11; decide),rfl,?_⟩;refine ite2 (fun _=>?_) (fun _=>?_)
    ·refine⟨⟨by decide,by decide⟩,_,rfl,fun H4 y sm4 wy=>?_⟩;exact⟨y,rfl,wy,⟨x1.g,x1.gh.trans sm4,x1.h.trans sm4,x1.new⟩⟩
    ·exact⟨m0,rfl,wm0,x1⟩
   ·intro σ' H3 hZp;refine fold_goal fun Z' Y'=>?_;obtain⟨m,rfl,wm,x3⟩:=hZp;refine Y' ?_;clear Y' Z';refine hna _ _ ?_;clear hna hra Ra;have hra3:H3 ra=some (.lst tvs):=x3.gh _ _ hra;(try dsimp only);refine seq_gen fun Rb hnb hrb=>?_;obtain⟨k7,hk7⟩:=seven_ints ns[i];refine⟨by show 7≤sizeLine; decide,fun p2 hp2=>⟨(by show (0:Int)<7; decide),_,_,SqL.of upd_same,hk7,tvs,.inl (SqL.of (same_upd hp2 _ _ hra3)),_,_,rfl,?_⟩⟩;have x4:=x3.trans (Ext.tmp (o:=.lst [V.int 0,V.int 0,V.int 1,V.int 1,V.int 2,V.int 3,V.int 4]) x3.gh hp2)
    obtain⟨mn,hmn,hml⟩:∃ mn:Nat,(if (tvs.length:Int)<(k7:Int) then (tvs.length:Int) else (k7:Int))=(mn:Int)∧mn≤tvs.length:=by
     by_cases h:(tvs.length:Int)<(k7:Int)
     ·exact⟨tvs.length,by rw[if_pos h],La4 _⟩
     ·exact⟨k7,by rw[if_neg h],by omega⟩
    rw[hmn];have hsub:(tvs.length:Int) - (mn:Int)=((tvs.length - mn:Nat):Int):=by omega
    have hra4:=x4.gh _ _ hra;refine hnb _ _ ?_;clear hnb hrb Rb;(try dsimp only);refine seq_gen fun Rc hnc hrc=>?_;refine⟨tvs,.inl (SqL.of hra4),tvs,SqL.of hra4,fun p3 hp3=>?_⟩;rw[hsub,cut_to];have x5:=x4.trans (Ext.tmp (o:=.lst (tvs.take (tvs.length - mn))) x4.gh hp3);have hra5:=x5.gh _ _ hra;refine⟨(by show 1≤sizeLine; decide),fun p4 hp4=>?_⟩;have x6:=x5.trans (Ext.tmp (o:=.lst [V.str m]) x5.gh hp4);have hra6:=x6.gh _ _ hra;refine⟨tvs,.inl (SqL.of hra6),tvs,SqL.of hra6,fun p5 hp5=>?_⟩;rw[hsub,cut_from];have x7:=x6.trans (Ext.tmp (o:=.lst (tvs.drop (tvs.length - mn))) x6.gh hp5);refine⟨_,_,same_upd hp5 _ _ upd_same,upd_same,(by rw[Ld0]; show 1+_≤sizeLine; omega),fun p6 hp6=>?_⟩;have x8:=x7.trans (Ext.tmp (o:=.lst ([V.str m]++tvs.drop (tvs.length - mn))) x7.gh hp6);refine⟨_,.inl ⟨SqL.of upd_same,fun p7 hp7=>?_⟩⟩;have x9:=x8.trans (Ext.add (o:=.tup ([V.str m]++tvs.drop (tvs.length - mn))) x8.gh hp7);refine⟨by show 1≤sizeLine; decide,fun p8 hp8=>?_⟩;have x10:=x9.trans (Ext.tmp (o:=.lst [V.ref p7]) x9.gh hp8)
    have h38:upd (upd (upd (upd (upd (upd (upd H3 p2 (.lst [V.int 0,V.int 0,V.int 1,V.int 1,V.int 2,V.int 3,V.int 4])) p3 (.lst (tvs.take (tvs.length - mn)))) p4 (.lst [V.str m])) p5 (.lst (tvs.drop (tvs.length - mn)))) p6 (.lst ([V.str m]++tvs.drop (tvs.length - mn)))) p7 (.tup ([V.str m]++tvs.drop (tvs.length - mn)))) p8 (.lst [V.ref p7]) p3=some (.lst (tvs.take (tvs.length - mn))) :=
     same_upd hp8 _ _ (same_upd hp7 _ _ (same_upd hp6 _ _ (same_upd hp5 _ _ (same_upd hp4 _ _ upd_same))))
    refine⟨_,_,h38,upd_same,(by rw[Lb5]; show _+1≤sizeLine; omega),fun p9 hp9=>?_⟩;have x11:=x10.trans (Ext.add (o:=.lst (tvs.take (tvs.length - mn)++[V.ref p7])) x10.gh hp9);have s7:Same G2 (upd G2 p7 (.tup ([V.str m]++tvs.drop (tvs.length - mn)))):=same_upd (x8.gh.none hp7);have s9:Same (upd G2 p7 (.tup ([V.str m]++tvs.drop (tvs.length - mn)))) (upd (upd G2 p7 (.tup ([V.str m]++tvs.drop (tvs.length - mn)))) p9 (.lst (tvs.take (tvs.length - mn)++[V.ref p7]))):=same_upd (x10.gh.none hp9)
    have R:Rep (upd (upd G2 p7 (.tup ([V.str m]++tvs.drop (tvs.length - mn)))) p9 (.lst (tvs.take (tvs.length - mn)++[V.ref p7]))) (.ref p9) (rowD (ts.take (tvs.length - mn)++[Tr.node m (ts.drop (tvs.length - mn))])):=by
     refine .lst upd_same ?_;rw[Lb3,Lg4];refine ((rts.take _).mono (s7.trans s9)).append (.cons ?_ .nil);rw[tree_d];refine .tup (s9 _ _ upd_same) (.cons (.str m) ?_)
     show Reps _ _ ((ts.drop (tvs.length - mn)).map Tr.d)
     rw[Lh3];exact (rts.drop _).mono (s7.trans s9)
    have hkn:=knots_grow m ts (tvs.length - mn);have hwn:=words_grow (tvs.length - mn) wm hw;have hc11:=x11.h _ _ (sm _ _ hc);have h9:=x11.gh _ _ (upd_same (H:=upd G2 p7 (.tup ([V.str m]++tvs.drop (tvs.length - mn)))) (a:=p9) (o:=.lst (tvs.take (tvs.length - mn)++[V.ref p7])));generalize tvs.take (tvs.length - mn)++[V.ref p7]=rvs at *;generalize ts.take (tvs.length - mn)++[Tr.node m (ts.drop (tvs.length - mn))]=rs at *;have hpos:(0:Int)<((ns.map V.int).length:Int):=by rw[hcl]; omega
    have hm1:0≤(0+(i:Int)+1) % ((ns.map V.int).length:Int):=Lf7 _ (by omega);have hm2:(0+(i:Int)+1) % ((ns.map V.int).length:Int)<((ns.map V.int).length:Int):=Lf3 _ hpos;obtain⟨nx,hnx⟩:=ints_ixI (ns:=ns) hm1 (by rw[hcl] at hm2 ⊢; exact hm2);refine hnc _ _ ?_;clear hnc hrc Rc;refine⟨_,.inl (SqL.of hc11),hpos,_,_,SqL.of hc11,hnx,⟨by decide,by decide⟩,(by show (0:Int)<4; decide),rfl,?_⟩;refine ite2 (fun _=>?_) (fun _=>?_)
    ·refine fold_goal fun Z' Y'=>?_;obtain⟨_,rvs',e9,hg9,rrs⟩:=R.row;refine Y' ?_;clear Y' Z';cases e9;rw[upd_same] at hg9;cases hg9;have hrl:=rrs.length;rw[La1] at hrl;have hrk:=length_le_knots rs;refine⟨rvs,SqL.of h9,fun q1 h1=>?_⟩;rw[cut_last];have x12:=x11.trans (Ext.tmp (o:=.lst (rvs.drop (rvs.length - 1))) x11.gh h1);refine⟨rvs,SqL.of (same_upd h1 _ _ h9),fun q2 h2=>?_⟩;rw[cut_front];have x13:=x12.trans (Ext.tmp (o:=.lst (rvs.take (rvs.length - 1))) x12.gh h2);refine⟨_,_,same_upd h2 _ _ upd_same,upd_same,(by rw[Ld0,Lb5]; omega),fun q3 h3=>?_⟩;have x14:=x13.trans (Ext.add (o:=.lst (rvs.drop (rvs.length - 1)++rvs.take (rvs.length - 1))) x13.gh h3)
     have hpm:(rs.drop (rvs.length - 1)++rs.take (rvs.length - 1)).Perm rs:=by
      have:=Lh1 (l₁:=rs.drop (rvs.length - 1)) (l₂:=rs.take (rvs.length - 1))
      rwa [Lc9] at this
     refine hnx0 _ _ ⟨_,.ref q3,rs.drop (rvs.length - 1)++rs.take (rvs.length - 1),_,_,_,_,rfl,x14,.lst upd_same ?_,?_,words_perm hpm.symm hwn⟩
     ·rw[Lb3,Lh3,Lg4];exact ((rrs.drop _).append (rrs.take _)).mono (same_upd (x13.gh.none h3))
     ·rw[knotsOf_perm hpm]; omega
    ·exact hnx0 _ _ ⟨_,.ref p9,rs,_,_,_,_,rfl,x11,R,by omega,hwn⟩
  ·intro σ H2 hZp;refine fold_goal fun Z' Y'=>?_;obtain⟨G2,rv,ts,v2,v3,v4,v5,rfl,x,rr,hk,hw⟩:=hZp;refine Y' ?_;clear Y' Z';rw[hcl,Ld3] at hk;exact (k G2 H2 rv ts x rr hk hw)
theorem cut_mid(xs:List V)(i n:Nat)(h:i+n≤xs.length):cutV xs (some (i:Int)) (some ((i+n:Nat):Int))=(xs.drop i).take n:=by
 unfold cutV;rw[HT.sIx_nat,HT.sIx_nat,Lf6 h,Lf6 (show i≤xs.length by omega)];congr 1;omega
def Stp.taken(st:Stp)(bs:List Tr):List Tr:=(bs.drop (st.path.getLastD 0).toNat).take st.many.toNat
theorem mid_knots(bs:List Tr)(i n:Nat):knotsOf (bs.take i)+knotsOf ((bs.drop i).take n)+knotsOf (bs.drop (i+n))=knotsOf bs:=by
 have h1:=knotsOf_append (bs.take i) (bs.drop i);have h2:=knotsOf_append ((bs.drop i).take n) ((bs.drop i).drop n);rw[Lc9] at h1 h2;rw[Lj3] at h2;omega
theorem instead_knots(st:Stp)(xs:List Tr):knotsOf (st.instead xs)≤knotsOf xs+1:=by
 cases st with
 | mark p m =>
  cases xs with
  | nil=>exact Lb1 _
  | cons t r=>simp only[Stp.instead,knotsOf,Tr.knots,knots_eq]; omega
 | cut p =>
  cases xs with
  | nil=>exact Lb1 _
  | cons t r=>simp only[Stp.instead,knotsOf,knots_eq]; omega
 | put p n m=>simp only[Stp.instead,knotsOf,Tr.knots]; omega
theorem beside_some{st:Stp}{ts bs:List Tr}(h:st.beside ts=some bs):st.path≠[]∧down ts st.path.dropLast=some bs∧0≤st.path.getLastD 0∧0≤st.many∧st.path.getLastD 0+st.many≤bs.length:=by
 unfold Stp.beside at h
 by_cases hp:st.path=[]
 ·rw[if_pos hp] at h; cases h
 ·rw[if_neg hp] at h
  cases hd:down ts st.path.dropLast with
  | none=>rw[hd] at h; cases h
  | some us =>
   rw[hd,Ld9] at h
   by_cases hc:st.path.getLastD 0<0∨st.many<0∨(us.length:Int)<st.path.getLastD 0+st.many
   ·rw[if_pos hc] at h; cases h
   ·rw[if_neg hc] at h;cases h;exact⟨hp,rfl,by omega,by omega,by omega⟩
theorem put_of{G:Hp}{v:V}{p:List Int}{n:Int}{m:Str}(r:Rep G v (Stp.put p n m).d):∃ a pa,v=.ref a∧G a=some (.tup [.str (Str.ofString "put"),.ref pa,.int n,.str m]):=by
 cases r with
 | tup h t=>cases t with
  | cons r1 t=>cases t with
   | cons r2 t=>cases t with
    | cons r3 t=>cases t with
     | cons r4 t =>
      cases t; cases r1; cases r3; cases r4;refine fold_goal fun Z' Y'=>?_;obtain⟨pa,rfl,_⟩:=Rep.path r2;refine Y' ?_;clear Y' Z';exact⟨_,pa,rfl,h⟩
theorem mark_of_step{G:Hp}{v:V}{p:List Int}{m:Str}(r:Rep G v (Stp.mark p m).d):∃ a pa,v=.ref a∧G a=some (.tup [.str (Str.ofString "mark"),.ref pa,.str m]):=by
 cases r with
 | tup h t=>cases t with
  | cons r1 t=>cases t with
   | cons r2 t=>cases t with
    | cons r3 t =>
     cases t; cases r1; cases r3;refine fold_goal fun Z' Y'=>?_;obtain⟨pa,rfl,_⟩:=Rep.path r2;refine Y' ?_;clear Y' Z';exact⟨_,pa,rfl,h⟩
theorem row_knots{st:Stp}{ts bs:List Tr}(h:st.beside ts=some bs):knotsOf (st.row ts bs)≤knotsOf ts+1:=by
 refine fold_goal fun Z' Y'=>?_;obtain⟨_,hd,hi0,hn0,hle⟩:=beside_some h;refine Y' ?_;clear Y' Z';have h1:=mid_knots bs (st.path.getLastD 0).toNat st.many.toNat;have h2:=instead_knots st ((bs.drop (st.path.getLastD 0).toNat).take st.many.toNat);have h3:=setAt_knots st.path.dropLast ts bs (bs.take (st.path.getLastD 0).toNat++st.instead ((bs.drop (st.path.getLastD 0).toNat).take st.many.toNat)++bs.drop ((st.path.getLastD 0).toNat+st.many.toNat)) hd;rw[knotsOf_append,knotsOf_append] at h3;unfold Stp.row;omega
def abD(ts:List Tr)(F:List Int)(j:Nat):D:=.tup [rowD ((down ts (F.take j)).getD []),.int (F.getD j 0)]
def absD(ts:List Tr)(F:List Int)(i:Nat):List D:=(List.range i).map (abD ts F)
theorem absD_succ(ts:List Tr)(F:List Int)(i:Nat):absD ts F (i+1)=absD ts F i++[abD ts F i]:=by unfold absD; rw[List.range_succ,Lb3]; rfl
theorem absD_length(ts:List Tr)(F:List Int)(i:Nat):(absD ts F i).length=i:=by unfold absD; rw[La1,Li8]
theorem pair_of{G:Hp}{v:V}{us:List Tr}{k:Int}(r:Rep G v (.tup [rowD us,.int k])):∃ q u,v=.ref q∧G q=some (.tup [u,.int k])∧Rep G u (rowD us):=by
 cases r with
 | tup h t=>cases t with
  | cons r1 t=>cases t with
   | cons r2 t =>
    cases t; cases r2;exact⟨_,_,rfl,h,r1⟩
theorem beside_none{st:Stp}{ts:List Tr}(h:st.path=[]∨down ts st.path.dropLast=none):st.beside ts=none:=by
 unfold Stp.beside
 by_cases hp:st.path=[]
 ·rw[if_pos hp]
 ·rw[if_neg hp]
  rcases h with h | h
  ·exact absurd h hp
  ·rw[h]; rfl
inductive PspStepped(vs:List V)(H:Hp)(Q:VK):Prop
 | mk (G:Hp) (v u:V) (ts:List Tr) (st:Stp):vs=[v,u]→Same G H→Rep G v (rowD ts)→Rep G u st.d→st.Fit→knotsOf ts≤900→((∀ bs,st.beside ts=some bs→∀ (G' H':Hp) (r:V),Ext G H G' H'→Rep G' r (rowD (st.row ts bs))→Q r H'))→((st.beside ts=none→∀ H':Hp,Same H H'→Q .non H'))→PspStepped  vs H Q
def spStepped:Sp:=fun vs H Q _=>PspStepped  vs H Q
theorem scStepped:FnScope ["_law_row","_law_step","_law_path","_law_above","_law_trees","_law_k","_law_here","_law_many","_law_made","_law_beside"] ["_law_row","_law_step"] (defScope sStepped):=scD rfl rfl rfl rfl
theorem ok_stepped{f:Addr}{fd:FuncData}(F:Fun K "_law_stepped" "_law_stepped" sStepped f fd)(T:Txt mg):FnOk P w K mg base CX0 5 f fd ["_law_row","_law_step"] spStepped:=by
 refine F.ok scStepped (fun vs H Q E h=>?_) (fun cdv A outer s H vs Q E hr h=>?_)
 ·obtain⟨G,v,u,ts,st,rfl,_⟩:=h;rfl
 ·refine fold_goal fun Z' Y'=>?_;obtain⟨G,v,u,ts,st,rfl,sm,rv,ru,hfit,hkt,kq,kn⟩:=h;refine Y' ?_;clear Y' Z';have nd:=scStepped.nd;have hu:=hr.units0;have big:=line_big;have hpl:=hfit.1
  refine⟨_,(pss_cons (ps_set (i:=2) nd rfl (Or.inl rfl) (pe_ix xc_tup (pc 1) pe_int (fun _ _=>rfl)))
   (pss_cons (ps_if (pt_c (op_eqE hu) (pc 2) (pe_lst pa_nil) (nomark _))
    (pss_one (ps_ret pe_non))
    pss_nil)
   (pss_cons (ps_set (i:=3) nd rfl (Or.inl rfl) (pe_lst pa_nil))
   (pss_cons (ps_set (i:=4) nd rfl (Or.inl rfl) (pe_callTy cc_list rfl T.list bt_list (pa_cons (pc 0) pa_nil)))
   (pss_cons (ps_for PassesOwn.never rfl (pi_list (pe_slice sc_list (pc 2) po_none (po_c (pe_un uc_neg pe_int)))) (pg_name (i:=5) nd rfl (Or.inl rfl))
    (pss_cons (ps_if (PW.pt (pw_or (pt_c oc_lt (pc 5) pe_int (nomark _)) (pw_or1 (pt_c oc_ge (pc 5) (pe_callB cc_len rfl T.len bt_len (pa_cons (pc 4) pa_nil)) (nomark _)))))
     (pss_one (ps_ret pe_non))
     pss_nil)
    (pss_cons (ps_expr (pe_bm PySem.F.plainAttrs_list PySem.F.slot_list_append PySem.F.type_list_append mc_append (pc 3) (pa_cons (pe_tup (pa_cons (pc 4) (pa_cons (pc 5) pa_nil))) pa_nil)))
    (pss_one (ps_set (i:=4) nd rfl (Or.inl rfl) (pe_callTy cc_list rfl T.list bt_list (pa_cons (pe_slice sc_tup (pe_ix xc_list (pc 4) (pc 5) (fun _ _=>rfl)) (po_c pe_int) po_none) pa_nil)))))))
   (pss_cons (ps_set (i:=6) nd rfl (Or.inl rfl) (pe_ix xc_list (pc 2) (pe_un uc_neg pe_int) (fun _ _=>rfl)))
   (pss_cons (ps_set (i:=7) nd rfl (Or.inl rfl) pe_int)
   (pss_cons (ps_ifM (pt_c op_eq (pe_ix xc_tup (pc 1) pe_int (fun _ _=>rfl)) pe_str (nomark _))
    (pss_one (ps_set (i:=7) nd rfl (Or.inl rfl) (pe_ix xc_tup (pc 1) pe_int (fun _ _=>rfl))))
    pss_nil)
   (pss_cons (ps_if (PW.pt (pw_or (pt_c oc_lt (pc 6) pe_int (nomark _)) (pw_or (pt_c oc_lt (pc 7) pe_int (nomark _)) (pw_or1 (pt_c oc_gt (pe_op oc_add (pc 6) (pc 7)) (pe_callB cc_len rfl T.len bt_len (pa_cons (pc 4) pa_nil)) (nomark _))))))
    (pss_one (ps_ret pe_non))
    pss_nil)
   (pss_cons (ps_set (i:=8) nd rfl (Or.inl rfl) (pe_lst pa_nil))
   (pss_cons (ps_ifM (pt_c op_eq (pe_ix xc_tup (pc 1) pe_int (fun _ _=>rfl)) pe_str (nomark _))
    (pss_one (ps_set (i:=8) nd rfl (Or.inl rfl) (pe_lst (pa_cons (pe_callTy cc_tuple rfl T.tuple bt_tuple (pa_cons (pe_op oc_cat (pe_lst (pa_cons (pe_ix xc_tup (pc 1) pe_int (fun _ _=>rfl)) pa_nil)) (pe_slice sc_list (pc 4) (po_c (pc 6)) (po_c (pe_op oc_add (pc 6) (pc 7))))) pa_nil)) pa_nil))))
    (pss_one (ps_if (pt_c op_eq (pe_ix xc_tup (pc 1) pe_int (fun _ _=>rfl)) pe_str (nomark _))
     (pss_one (ps_set (i:=8) nd rfl (Or.inl rfl) (pe_callTy cc_list rfl T.list bt_list (pa_cons (pe_slice sc_tup (pe_ix xc_list (pc 4) (pc 6) (fun _ _=>rfl)) (po_c pe_int) po_none) pa_nil))))
     (pss_one (ps_set (i:=8) nd rfl (Or.inl rfl) (pe_lst (pa_cons (pe_callTy cc_tuple rfl T.tuple bt_tuple (pa_cons (pe_op oc_cat (pe_lst (pa_cons (pe_ix xc_tup (pc 1) pe_int (fun _ _=>rfl)) pa_nil)) (pe_callTy cc_list rfl T.list bt_list (pa_cons (pe_slice sc_tup (pe_ix xc_list (pc 4) (pc 6) (fun _ _=>rfl)) (po_c pe_int) po_none) pa_nil))) pa_nil)) pa_nil)))))))
   (pss_cons (ps_set (i:=8) nd rfl (Or.inl rfl) (pe_op oc_cat (pe_op oc_cat (pe_slice sc_list (pc 4) po_none (po_c (pc 6))) (pc 8)) (pe_slice sc_list (pc 4) (po_c (pe_op oc_add (pc 6) (pc 7))) po_none)))
   (pss_cons (ps_for PassesOwn.never rfl (pi_rev rfl T.reversed (pa_cons (pc 3) pa_nil)) (gc_tup rfl (gcs_cons (pg_name (i:=9) nd rfl (Or.inl rfl)) (gcs_cons (pg_name (i:=5) nd rfl (Or.inl rfl)) pgs_nil)))
    (pss_one (ps_set (i:=8) nd rfl (Or.inl rfl) (pe_op oc_cat (pe_op oc_cat (pe_slice sc_list (pc 9) po_none (po_c (pc 5))) (pe_lst (pa_cons (pe_callTy cc_tuple rfl T.tuple bt_tuple (pa_cons (pe_op oc_cat (pe_lst (pa_cons (pe_ix xc_tup (pe_ix xc_list (pc 9) (pc 5) (fun _ _=>rfl)) pe_int (fun _ _=>rfl)) pa_nil)) (pc 8)) pa_nil)) pa_nil))) (pe_slice sc_list (pc 9) (po_c (pe_op oc_add (pc 5) pe_int)) po_none)))))
   (pss_one (ps_ret (pc 8)))))))))))))))),?_⟩
  refine fold_goal fun Z' Y'=>?_;obtain⟨a,sx,pa,rfl,ha,h0,h1,hp,_⟩:=ru.step;refine Y' ?_;clear Y' Z';have hpH:=sm _ _ hp;refine seq_gen fun Ra hna hra=>?_;refine⟨sx,_,SqT.of (sm _ _ ha),atI_nat (j:=1) h1,hna _ _ ?_⟩;clear hna hra Ra;(try dsimp only);refine seq_gen fun Rb hnb hrb=>?_;refine⟨Lb1 _,fun pe hpe0=>⟨pa,pe,_,rfl,rfl,SqL.of (same_upd hpe0 _ _ hpH),SqL.of upd_same,?_⟩⟩;have x0:Ext G H G (upd H pe (.lst [])):=Ext.tmp sm hpe0;dsimp only[onB]
  cases hq:(st.path.map V.int).isEmpty with
  | true=>exact iteT (hrb _ _ (kn (beside_none (.inl (by simpa using hq))) _ x0.h))
  | false =>
  have hpe:st.path≠[]:=fun z=>by rw[z] at hq; cases hq
  refine iteF (hnb _ _ ?_);clear hnb hrb Rb;(try dsimp only);generalize hF:st.path.dropLast=Fp at *;have hFl:Fp.length≤1000:=by rw[← hF,Lh6]; omega
  refine seq_gen fun Ra hna hra=>?_;refine⟨Lb1 _,fun pA hpA=>hna _ _ ?_⟩;clear hna hra Ra;(try dsimp only);refine seq_gen fun Rb hnb hrb=>?_;have x1:=x0.trans (Ext.tmp (o:=.lst []) x0.gh hpA);have nHA:H pA=none:=x0.h.none hpA;have nGA:G pA=none:=x0.gh.none hpA;refine fold_goal fun Z' Y'=>?_;obtain⟨ra,rvs,rfl,hra,rts⟩:=rv.row;refine Y' ?_;clear Y' Z';refine⟨rvs,.inl (SqL.of (x1.gh _ _ hra)),fun pt hpt=>hnb _ _ ?_⟩;clear hnb hrb Rb;have y2:=Ext.add (o:=.lst rvs) x1.gh hpt;have x2:=x1.trans y2;have hA2:=same_upd (o:=.lst rvs) hpt _ _ (upd_same (H:=upd H pe (.lst [])) (a:=pA) (o:=.lst []));have nA2:upd G pt (.lst rvs) pA=none:=y2.keep upd_same nGA;(try dsimp only);refine seq_gen fun R1 hn1 hr1=>?_;refine⟨_,SqL.of (x2.gh _ _ (x2.g _ _ hp)),fun q1 h1q=>?_⟩;rw[front_ints,hF];have y3:=Ext.add (o:=.lst (Fp.map V.int)) x2.gh h1q;have x3:=x2.trans y3;have hA3:=same_upd (o:=.lst (Fp.map V.int)) h1q _ _ hA2;have nA3:=y3.keep hA2 nA2
  refine⟨q1,rfl,⟨_,SqL.of upd_same⟩,for_listG (K:=K) (a:=q1) (xs:=Fp.map V.int)
   (fun i σ H5=>∃ (G5:Hp) (tv:V) (us:List Tr) (av:List V) (z5:Option V),σ=[some (.ref ra),some (.ref a),some (.ref pa),some (.ref pA),some tv,z5,none,none,none,none]∧Ext G H G5 H5∧Same (upd (upd G pt (.lst rvs)) q1 (.lst (Fp.map V.int))) G5∧Rep G5 tv (rowD us)∧down ts (Fp.take i)=some us ∧
    G5 pA=none∧H5 pA=some (.lst av)∧Reps G5 av (absD ts Fp i))
   ⟨_,.ref pt,ts,[],none,rfl,x3,Same.refl _,.lst (y3.g _ _ upd_same) (rts.mono (y2.g.trans y3.g)),rfl,nA3,hA3,.nil⟩ (fun i σ H5 _ hZq=>by obtain⟨G5,_,_,_,_,_,x,s5,_⟩:=hZq; exact SqL.of (x.gh _ _ (s5 _ _ upd_same))) ?_ ?_⟩
  ·intro i y σ H5 hi hZp R2 hn2 hr2;refine fold_goal fun Z' Y'=>?_;obtain⟨G5,tv,us,av,z5,rfl,x,s5,rt,hd,nA,hA,rA⟩:=hZp;refine Y' ?_;clear Y' Z'
   have hil:i<Fp.length:=by
    have:=(La5.mp hi).1
    rwa [La1] at this
   obtain rfl:V.int Fp[i]=y:=by
    rw[La6,La0 hil] at hi;exact Option.some.inj hi
   have hall:down ts Fp=down us (Fp[i]::Fp.drop (i+1)):=by
    have e:=down_append ts (Fp.take i) (Fp.drop i);rw[Lc9,hd,Lc6 hil] at e;exact e
   refine fold_goal fun Z' Y'=>?_;obtain⟨ta,tvs,rfl,hta,rus⟩:=rt.row;refine Y' ?_;clear Y' Z';have hlen:=rus.length;rw[La1] at hlen;dsimp only[gName];refine seq_gen fun Ra hna hra=>?_;refine ?_;refine ite2 (fun hneg=>?_) (fun hneg=>?_)
   ·refine iteT (hra _ _ (hr2 _ _ (hr1 _ _ (kn (beside_none (.inr ?_)) _ x.h))));rw[hF,hall,down,if_pos (of_decide_eq_true hneg)]
   ·have n0:¬ Fp[i]<0:=fun z=>hneg (decide_eq_true z);refine⟨tvs,.inl (SqL.of (x.gh _ _ hta)),?_⟩;refine ite2 (fun hge=>?_) (fun hge=>?_)
    ·refine hra _ _ (hr2 _ _ (hr1 _ _ (kn (beside_none (.inr ?_)) _ x.h)));have hg:=of_decide_eq_true hge;have en:us[(Fp[i]).toNat]?=none:=Lh4.mpr (by omega);rw[hF,hall,down,if_neg n0,en]
    ·have n1:¬ (tvs.length:Int)≤Fp[i]:=fun z=>hge (decide_eq_true z);have hju:(Fp[i]).toNat<us.length:=by omega
     have hget:us[(Fp[i]).toNat]?=some us[(Fp[i]).toNat]:=La0 hju;generalize us[(Fp[i]).toNat]=t at hget;obtain⟨tr,htr,rtr⟩:=rus.get (i:=(Fp[i]).toNat) (d:=t.d) (by rw[La6,hget]; rfl)
     have hix:atI tvs Fp[i]=some tr:=by
      have:=atI_nat htr
      rwa [Le8 (by omega)] at this
     refine hna _ _ ?_;clear hna hra Ra;(try dsimp only);refine seq_gen fun Ra hna hra=>?_;refine⟨.inl ⟨rfl,_,SqL.of hA⟩,(by show 2≤sizeLine; decide),fun q6 h6=>?_⟩;have y6:=Ext.add (o:=.tup [.ref ta,.int Fp[i]]) x.gh h6;have x6:=x.trans y6;have hA6:=same_upd (o:=.tup [.ref ta,.int Fp[i]]) h6 _ _ hA;have nA6:=y6.keep hA nA;have hal:=rA.length;rw[absD_length] at hal;refine⟨av,hA6,(by omega),hna _ _ ?_⟩;clear hna hra Ra;have x7:=x6.mut (o:=.lst (av++[.ref q6])) nA6 nHA;refine fold_goal fun Z' Y'=>?_;obtain⟨tra,kv,rfl,htra,rkv⟩:=rtr.tree;refine Y' ?_;clear Y' Z';have hta7:=x7.gh _ _ (y6.g _ _ hta);have htra7:=x7.gh _ _ (y6.g _ _ htra);refine⟨tvs,_,SqL.of hta7,hix,_,SqT.of htra7,kids_not _ _,fun q8 h8=>⟨kv,.inr (SqT.of (by rw[upd_same,kids_cut])),fun q9 h9=>?_⟩⟩;have x8:=x7.trans (Ext.tmp (o:=.tup (cutV (V.str t.mark::kv) (some 1) none)) x7.gh h8);have y9:=Ext.add (o:=.lst kv) x8.gh h9;have x9:=x8.trans y9;have hA8:upd (upd (upd H5 q6 (.tup [.ref ta,.int Fp[i]])) pA (.lst (av++[.ref q6]))) q8 (.tup (cutV (V.str t.mark::kv) (some 1) none)) pA=some (.lst (av++[.ref q6])):=same_upd h8 _ _ upd_same;refine hn2 _ _ ⟨_,.ref q9,t.kids,_,_,rfl,x9,s5.trans (y6.g.trans y9.g),.lst upd_same ((rkv.mono y6.g).mono y9.g),?_,y9.keep hA8 nA6,same_upd h9 _ _ hA8,?_⟩
     ·rw[Lc5 hil,down_append,hd]
      show down us [Fp[i]]=_
      rw[down,if_neg n0,hget];rfl
     ·rw[absD_succ];refine ((rA.mono y6.g).mono y9.g).append (.cons ?_ .nil);unfold abD;rw[hd];have eF:Fp.getD i 0=Fp[i]:=by rw[La3,La0 hil]; rfl
      rw[eF];exact .tup (y9.g _ _ upd_same) (.cons ((rt.mono y6.g).mono y9.g) (.cons (.int _) .nil))
  ·intro σ H5 hZp;refine fold_goal fun Z' Y'=>?_;obtain⟨G5,tv,bs,av,z5,rfl,x,s5,rt,hd,nA,hA,rA⟩:=hZp;refine Y' ?_;clear Y' Z';refine hn1 _ _ ?_;clear hn1 hr1 R1;rw[La1,Le9] at hd;rw[La1] at rA;have hal:=rA.length;rw[absD_length] at hal;have hp5:=x.gh _ _ (x.g _ _ hp);have ha5:=x.gh _ _ (x.g _ _ ha)
   have hput:∀ p n m,st=.put p n m→sx[2]?=some (.int n)∧sx[3]?=some (.str m):=by
    rintro p n m rfl;refine fold_goal fun Z' Y'=>?_;obtain⟨a',pa',e,ha'⟩:=put_of ru;refine Y' ?_;clear Y' Z';cases e;rw[ha] at ha';cases ha';exact⟨rfl,rfl⟩
   have hmrk:∀ p m,st=.mark p m→sx[2]?=some (.str m):=by
    rintro p m rfl;refine fold_goal fun Z' Y'=>?_;obtain⟨a',pa',e,ha'⟩:=mark_of_step ru;refine Y' ?_;clear Y' Z';cases e;rw[ha] at ha';cases ha';rfl
   refine fold_goal fun Z' Y'=>?_;obtain⟨ta,tvs,rfl,hta,rbs⟩:=rt.row;refine Y' ?_;clear Y' Z';have hbl:=rbs.length;rw[La1] at hbl;have hta5:=x.gh _ _ hta;have hkb:=down_knots _ _ _ hd;have hkbl:=length_le_knots bs;(try dsimp only);refine seq_gen fun Ra hna hra=>?_;refine⟨_,_,SqL.of hp5,last_int hpe,hna _ _ ?_⟩;clear hna hra Ra;(try dsimp only);refine seq_gen fun Ra hna hra=>hna _ _ ?_;clear hna hra Ra;(try dsimp only);refine seq_gen fun Ra hna hra=>?_;refine⟨fun σ' H'=>σ'=[some (.ref ra),some (.ref a),some (.ref pa),some (.ref pA),some (.ref ta),z5,some (.int (st.path.getLastD 0)),some (.int st.many),none,none]∧H'=H5,?_,?_⟩
   ·refine⟨sx,_,SqT.of ha5,atI_nat (j:=0) h0,rfl,?_⟩;dsimp only[onB]
    cases st with
    | mark p m=>exact iteF ⟨rfl,rfl⟩
    | cut p=>exact iteF ⟨rfl,rfl⟩
    | put p n m=>exact iteT ⟨sx,_,SqT.of ha5,atI_nat (j:=2) (hput p n m rfl).1,rfl,rfl⟩
   rintro σ' H' ⟨rfl,rfl⟩;refine hna _ _ ?_;clear hna hra Ra
   have none_if:(st.path.getLastD 0<0∨st.many<0∨(bs.length:Int)<st.path.getLastD 0+st.many)→st.beside ts=none:=fun h=>by
    unfold Stp.beside;rw[if_neg hpe,hF,hd,Ld9,if_pos h]
   (try dsimp only);refine seq_gen fun Ra hna hra=>?_;refine ?_;refine ite2 (fun hlt=>?_) (fun hlt=>?_)
   ·exact iteT (hra _ _ (kn (none_if (.inl (of_decide_eq_true hlt))) _ x.h))
   have n1:¬ st.path.getLastD 0<0:=fun z=>hlt (decide_eq_true z);refine ?_;refine ite2 (fun hlt2=>?_) (fun hlt2=>?_)
   ·exact iteT (hra _ _ (kn (none_if (.inr (.inl (of_decide_eq_true hlt2)))) _ x.h))
   have n2:¬ st.many<0:=fun z=>hlt2 (decide_eq_true z);refine⟨tvs,.inl (SqL.of hta5),?_⟩;refine ite2 (fun hgt=>?_) (fun hgt=>?_)
   ·have hg:=of_decide_eq_true hgt;exact hra _ _ (kn (none_if (.inr (.inr (by rw[← hbl]; exact hg)))) _ x.h)
   refine hna _ _ ?_;clear hna hra Ra;(try dsimp only);have n3:¬ (tvs.length:Int)<st.path.getLastD 0+st.many:=fun z=>hgt (decide_eq_true z)
   have hb:st.beside ts=some bs:=by
    unfold Stp.beside;rw[if_neg hpe,hF,hd,Ld9,if_neg (by rw[← hbl]; omega)]
   obtain⟨i,hi⟩:∃ i:Nat,st.path.getLastD 0=(i:Int):=⟨(st.path.getLastD 0).toNat,by omega⟩;obtain⟨n,hn⟩:∃ n:Nat,st.many=(n:Int):=⟨st.many.toNat,by omega⟩;have htk:Stp.taken st bs=(bs.drop i).take n:=by unfold Stp.taken; rw[hi,hn]; rfl
   have htl:(Stp.taken st bs).length=n:=by rw[htk,Lb5,Ld0]; omega
   have hmid:=mid_knots bs i n;rw[← htk] at hmid;have hins:=instead_knots st (Stp.taken st bs);have hkil:=length_le_knots (st.instead (Stp.taken st bs));have hin:(i:Int)+(n:Int)=((i+n:Nat):Int):=by omega
   rw[hi,hn];refine seq_gen fun Ra hna hra=>?_;refine⟨Lb1 _,fun pm hpm=>hna _ _ ?_⟩;clear hna hra Ra;have x6:=x.trans (Ext.tmp (o:=.lst []) x.gh hpm);have hA6:=same_upd (o:=.lst []) hpm _ _ hA;(try dsimp only);refine seq_gen fun R3 hn3 hr3=>?_;refine⟨fun σ' H'=>∃ (G7:Hp) (mv:V),σ'=[some (.ref ra),some (.ref a),some (.ref pa),some (.ref pA),some (.ref ta),z5,some (.int (i:Int)),some (.int (n:Int)),some mv,none]∧Ext G H G7 H'∧Same G5 G7∧Rep G7 mv (rowD (st.instead (Stp.taken st bs)))∧G7 pA=none∧H' pA=some (.lst av),?_,?_⟩
   ·have one:n=1→∃ (t:Tr) (tr:V),bs[i]?=some t∧Stp.taken st bs=[t]∧atI tvs (i:Int)=some tr∧Rep G5 tr t.d:=fun e=>by
     subst e;have hib:i<bs.length:=by omega
     obtain⟨tr,htr,rtr⟩:=rbs.get (i:=i) (d:=bs[i].d) (by rw[La6,La0 hib]; rfl);refine⟨bs[i],tr,La0 hib,?_,atI_nat htr,rtr⟩;rw[htk,Lc6 hib];rfl
    refine⟨sx,_,SqT.of (x6.gh _ _ (x.g _ _ ha)),atI_nat (j:=0) h0,rfl,?_⟩;dsimp only[onB]
    cases st with
    | put p nn m =>
     refine iteT ?_;refine⟨sx,_,SqT.of (x6.gh _ _ (x.g _ _ ha)),atI_nat (j:=3) (hput p nn m rfl).2,(by show 1≤sizeLine; decide),fun p1 g1=>?_⟩;have o6:=Ext.refl x6.gh;have x7:=o6.trans (Ext.tmp (o:=.lst [V.str m]) o6.gh g1);refine⟨tvs,SqL.of (x7.gh _ _ hta),fun p2 g2=>?_⟩;rw[hin,cut_mid tvs i n (by omega)];have x8:=x7.trans (Ext.tmp (o:=.lst ((tvs.drop i).take n)) x7.gh g2);refine⟨_,_,same_upd g2 _ _ upd_same,upd_same,(by rw[Lb5]; show 1+_≤sizeLine; omega),fun p3 g3=>⟨_,.inl ⟨SqL.of upd_same,fun p4 g4=>?_⟩⟩⟩;have x9:=x8.trans (Ext.tmp (o:=.lst ([V.str m]++(tvs.drop i).take n)) x8.gh g3);have y10:=Ext.add (o:=.tup ([V.str m]++(tvs.drop i).take n)) x9.gh g4;have x10:=x9.trans y10;refine⟨by show 1≤sizeLine; decide,fun p5 g5=>?_⟩;have y11:=Ext.add (o:=.lst [.ref p4]) x10.gh g5;have o11:=x10.trans y11;refine⟨_,.ref p5,rfl,x6.trans o11,o11.g,.lst upd_same (.cons ?_ .nil),o11.keep hA6 nA,o11.h _ _ hA6⟩;rw[htk,tree_d];refine .tup (y11.g _ _ upd_same) (.cons (.str m) ?_)
     show Reps _ _ (((bs.drop i).take n).map Tr.d)
     rw[Lg4,Lh3]
     exact ((rbs.drop i).take n).mono o11.g
    | cut p =>
     refine fold_goal fun Z' Y'=>?_;obtain⟨t,tr,hbi,htt,hix,rtr⟩:=one (by have:(1:Int)=(n:Int):=hn; omega);refine Y' ?_;clear Y' Z';refine fold_goal fun Z' Y'=>?_;obtain⟨tra,kv,rfl,htra,rkv⟩:=rtr.tree;refine Y' ?_;clear Y' Z';refine iteF ⟨sx,_,SqT.of (x6.gh _ _ (x.g _ _ ha)),atI_nat (j:=0) h0,rfl,iteTB ?_⟩;refine⟨tvs,_,SqL.of (x6.gh _ _ hta),hix,_,SqT.of (x6.gh _ _ htra),kids_not _ _,fun p1 g1=>⟨kv,.inr (SqT.of (by rw[upd_same,kids_cut])),fun p2 g2=>?_⟩⟩;have x7:=x6.trans (Ext.tmp (o:=.tup (cutV (V.str t.mark::kv) (some 1) none)) x6.gh g1);have y8:=Ext.add (o:=.lst kv) x7.gh g2;have hA7:=same_upd (o:=.tup (cutV (V.str t.mark::kv) (some 1) none)) g1 _ _ hA6;refine⟨_,.ref p2,rfl,x7.trans y8,y8.g,?_,y8.keep hA7 nA,same_upd g2 _ _ hA7⟩;rw[htt]
     exact .lst upd_same (rkv.mono y8.g)
    | mark p m =>
     refine fold_goal fun Z' Y'=>?_;obtain⟨t,tr,hbi,htt,hix,rtr⟩:=one (by have:(1:Int)=(n:Int):=hn; omega);refine Y' ?_;clear Y' Z';refine fold_goal fun Z' Y'=>?_;obtain⟨tra,kv,rfl,htra,rkv⟩:=rtr.tree;refine Y' ?_;clear Y' Z';have hkvl:=rkv.length;rw[La1] at hkvl
     have hkk:knotsOf t.kids+1≤knotsOf bs:=by
      have:=knots_mem (Lf2 hbi);rw[knots_eq] at this;omega
     have hkkl:=length_le_knots t.kids;refine iteF ⟨sx,_,SqT.of (x6.gh _ _ (x.g _ _ ha)),atI_nat (j:=0) h0,rfl,iteFB ?_⟩;refine⟨sx,_,SqT.of (x6.gh _ _ (x.g _ _ ha)),atI_nat (j:=2) (hmrk p m rfl),(by show 1≤sizeLine; decide),fun p1 g1=>?_⟩;have o6:=Ext.refl x6.gh;have x7:=o6.trans (Ext.tmp (o:=.lst [V.str m]) o6.gh g1);refine⟨tvs,_,SqL.of (x7.gh _ _ hta),hix,_,SqT.of (x7.gh _ _ htra),kids_not _ _,fun p2 g2=>⟨kv,.inr (SqT.of (by rw[upd_same,kids_cut])),fun p3 g3=>?_⟩⟩;have x8:=x7.trans (Ext.tmp (o:=.tup (cutV (V.str t.mark::kv) (some 1) none)) x7.gh g2);have x9:=x8.trans (Ext.tmp (o:=.lst kv) x8.gh g3);refine⟨_,_,same_upd g3 _ _ (same_upd g2 _ _ upd_same),upd_same,(by show 1+kv.length≤sizeLine; omega),fun p4 g4=>⟨_,.inl ⟨SqL.of upd_same,fun p5 g5=>?_⟩⟩⟩;have x10:=x9.trans (Ext.tmp (o:=.lst ([V.str m]++kv)) x9.gh g4);have y11:=Ext.add (o:=.tup ([V.str m]++kv)) x10.gh g5;have x11:=x10.trans y11;refine⟨by show 1≤sizeLine; decide,fun p6 g6=>?_⟩;have y12:=Ext.add (o:=.lst [.ref p5]) x11.gh g6;have o12:=x11.trans y12;refine⟨_,.ref p6,rfl,x6.trans o12,o12.g,?_,o12.keep hA6 nA,o12.h _ _ hA6⟩;rw[htt];refine .lst upd_same (.cons ?_ .nil);rw[tree_d];exact .tup (y12.g _ _ upd_same) (.cons (.str m) (rkv.mono o12.g))
   intro σ' H7 hZp;refine fold_goal fun Z' Y'=>?_;obtain⟨G7,mv,rfl,x7,s7,rm,nA7,hA7⟩:=hZp;refine Y' ?_;clear Y' Z';refine hn3 _ _ ?_;clear hn3 hr3 R3;refine fold_goal fun Z' Y'=>?_;obtain⟨ma,mvs,rfl,hma,rms⟩:=rm.row;refine Y' ?_;clear Y' Z';have hml:=rms.length;rw[La1] at hml;have hta7:=s7 _ _ hta;(try dsimp only);refine seq_gen fun R4 hn4 hr4=>?_;refine⟨tvs,SqL.of (x7.gh _ _ hta7),fun p1 g1=>?_⟩;rw[cut_to];have o7:=Ext.refl x7.gh;have x8:=o7.trans (Ext.tmp (o:=.lst (tvs.take i)) o7.gh g1);refine⟨_,_,upd_same,x8.gh _ _ hma,(by rw[Lb5]; omega),fun p2 g2=>?_⟩;have x9:=x8.trans (Ext.tmp (o:=.lst (tvs.take i++mvs)) x8.gh g2);refine⟨tvs,SqL.of (x9.gh _ _ hta7),fun p3 g3=>?_⟩;rw[hin,cut_from];have x10:=x9.trans (Ext.tmp (o:=.lst (tvs.drop (i+n))) x9.gh g3);refine⟨_,_,same_upd g3 _ _ upd_same,upd_same,(by rw[La2,Lb5,Ld0]; omega),fun p4 g4=>?_⟩;have y11:=Ext.add (o:=.lst (tvs.take i++mvs++tvs.drop (i+n))) x10.gh g4;have o11:=x10.trans y11;have x11:=x7.trans o11;have hA11:=o11.h _ _ hA7;have nA11:=o11.keep hA7 nA7;have rb11:=rbs.mono (s7.trans y11.g);generalize hX:bs.take i++st.instead (Stp.taken st bs)++bs.drop (i+n)=X at *
   have RC:Rep (upd G7 p4 (.lst (tvs.take i++mvs++tvs.drop (i+n)))) (.ref p4) (rowD X):=by
    refine .lst upd_same ?_;rw[← hX,Lb3,Lb3,Lg4,Lh3];exact ((rb11.take i).append (rms.mono y11.g)).append (rb11.drop (i+n))
   have hkX:knotsOf X≤1000:=by
    rw[← hX,knotsOf_append,knotsOf_append];omega
   have hds:(down ts Fp).isSome=true:=by rw[hd]; rfl
   have sA:Same G5 (upd G7 p4 (.lst (tvs.take i++mvs++tvs.drop (i+n)))):=s7.trans y11.g;refine hn4 _ _ ?_;clear hn4 hr4 R4;(try dsimp only);refine seq_gen fun R5 hn5 hr5=>?_
   refine⟨pA,av,rfl,SqL.of hA11,for_revG (K:=K) (a:=pA) (xs:=av)
    (fun j σ H2=>∃ (G2:Hp) (cv:V) (us:List Tr) (a5 a9:Option V),σ=[some (.ref ra),some (.ref a),some (.ref pa),some (.ref pA),some (.ref ta),a5,some (.int (i:Int)),some (.int (n:Int)),some cv,a9]∧Ext G H G2 H2∧Same G5 G2∧G2 pA=none∧H2 pA=some (.lst av) ∧
     down ts (Fp.take (Fp.length - j))=some us∧Rep G2 cv (rowD (setAt us (Fp.drop (Fp.length - j)) X)))
    ⟨_,.ref p4,bs,z5,none,rfl,x11,sA,nA11,hA11,?_,?_⟩ (fun j σ H2 _ hZq=>by obtain⟨G2,_,_,_,_,_,_,_,_,hA2,_⟩:=hZq; exact SqL.of hA2) ?_ ?_⟩
   ·rw[Lk5,Le9];exact hd
   ·rw[Lk5,List.drop_length,setAt];exact RC
   ·intro j y σ H2 hy hj hZp R6 hn6 hr6;refine fold_goal fun Z' Y'=>?_;obtain⟨G2,cv,us,a5,a9,rfl,x2,s2,nA2,hA2,hus,rc⟩:=hZp;refine Y' ?_;clear Y' Z';rw[hal] at hj hy;generalize hdd:Fp.length - 1 - j=d at hy;have hdl:d<Fp.length:=by omega
    have hd1:Fp.length - j=d+1:=by omega
    have hd2:Fp.length - (j+1)=d:=by omega
    rw[hd1] at hus rc;refine fold_goal fun Z' Y'=>?_;obtain⟨ls,t,hls,hk0,ht,hk⟩:=down_at hds hdl;refine Y' ?_;clear Y' Z';obtain rfl:t.kids=us:=Option.some.inj (hk.symm.trans hus);refine fold_goal fun Z' Y'=>?_;obtain⟨dd,hdD,rdd⟩:=rA.at hy;refine Y' ?_;clear Y' Z'
    have hab:dd=.tup [rowD ls,.int Fp[d]]:=by
     have e:(absD ts Fp Fp.length)[d]?=some (abD ts Fp d):=by unfold absD; rw[La6,Li0 hdl]; rfl
     have e2:=Option.some.inj (hdD.symm.trans e);rw[e2];unfold abD;rw[hls,La3,La0 hdl];rfl
    subst hab;refine fold_goal fun Z' Y'=>?_;obtain⟨q,lv,rfl,hq,rlv⟩:=pair_of rdd;refine Y' ?_;clear Y' Z';refine fold_goal fun Z' Y'=>?_;obtain⟨la,lvs',rfl,hla,rls⟩:=rlv.row;refine Y' ?_;clear Y' Z';obtain⟨tr,htr,rtr⟩:=rls.get (i:=(Fp[d]).toNat) (d:=t.d) (by rw[La6,ht]; rfl)
    have hix:atI lvs' Fp[d]=some tr:=by
     have:=atI_nat htr
     rwa [Le8 hk0] at this
    refine fold_goal fun Z' Y'=>?_;obtain⟨tra,kv,rfl,htra,_⟩:=rtr.tree;refine Y' ?_;clear Y' Z';have hll:=rls.length;rw[La1] at hll;have hkl:=down_knots _ _ _ hls;have hkk:=length_le_knots ls;obtain⟨e,he⟩:∃ e:Nat,Fp[d]=(e:Int):=⟨(Fp[d]).toNat,by omega⟩;have het:(Fp[d]).toNat=e:=by omega
    have hcut:=setAt_cons (xs:=X) (p:=Fp.drop (d+1)) ht;rw[het] at hcut
    have hsk:knotsOf (setAt t.kids (Fp.drop (d+1)) X)≤3000:=by
     have e1:=down_append ts (Fp.take (d+1)) (Fp.drop (d+1));rw[Lc9,hus,hd] at e1;have e2:=setAt_knots (Fp.drop (d+1)) t.kids bs X e1.symm;have e3:=down_knots _ _ _ hus;omega
    have hcl:=length_le_knots (setAt t.kids (Fp.drop (d+1)) X);refine fold_goal fun Z' Y'=>?_;obtain⟨ca,cvs,rfl,hca,rcs⟩:=rc.row;refine Y' ?_;clear Y' Z';have hccl:=rcs.length;rw[La1] at hccl;have hla2:=s2 _ _ hla;refine⟨[.ref la,.int Fp[d]],SqT.of (x2.gh _ _ (s2 _ _ hq)),rfl,rfl,?_⟩;rw[he] at hix ⊢;refine⟨lvs',SqL.of (x2.gh _ _ hla2),fun q1 h1=>?_⟩;rw[cut_to];have o2:=Ext.refl x2.gh;have x4:=o2.trans (Ext.tmp (o:=.lst (lvs'.take e)) o2.gh h1);refine⟨lvs',_,SqL.of (x4.gh _ _ hla2),hix,_,_,SqT.of (x4.gh _ _ (s2 _ _ htra)),atI_nat (j:=0) rfl,(by show 1≤sizeLine; decide),fun q2 h2=>?_⟩;have x5:=x4.trans (Ext.tmp (o:=.lst [V.str t.mark]) x4.gh h2);refine⟨_,_,upd_same,x5.gh _ _ hca,(by show 1+cvs.length≤sizeLine; omega),fun q3 h3=>⟨_,.inl ⟨SqL.of upd_same,fun q4 h4=>?_⟩⟩⟩;have x6':=x5.trans (Ext.tmp (o:=.lst ([V.str t.mark]++cvs)) x5.gh h3);have y7:=Ext.add (o:=.tup ([V.str t.mark]++cvs)) x6'.gh h4;have x7':=x6'.trans y7;refine⟨by show 1≤sizeLine; decide,fun q5 h5=>?_⟩;have x8':=x7'.trans (Ext.tmp (o:=.lst [.ref q4]) x7'.gh h5);refine⟨_,_,same_upd h5 _ _ (same_upd h4 _ _ (same_upd h3 _ _ (same_upd h2 _ _ upd_same))),upd_same,(by rw[Lb5]; show _+1≤sizeLine; omega),fun q6 h6=>?_⟩;have x9':=x8'.trans (Ext.tmp (o:=.lst (lvs'.take e++[.ref q4])) x8'.gh h6);have hla9:=x9'.gh _ _ (y7.g _ _ hla2);refine⟨lvs',SqL.of hla9,fun q7 h7=>?_⟩;have hc1:(e:Int)+1=((e+1:Nat):Int):=by omega
    rw[hc1,cut_from];have x10':=x9'.trans (Ext.tmp (o:=.lst (lvs'.drop (e+1))) x9'.gh h7);refine⟨_,_,same_upd h7 _ _ upd_same,upd_same,(by rw[La2,Lb5,Ld0]; show _+1+_≤sizeLine; omega),fun q8 h8=>?_⟩;have y11':=Ext.add (o:=.lst (lvs'.take e++[.ref q4]++lvs'.drop (e+1))) x10'.gh h8;have o11:=x10'.trans y11';refine hn6 _ _ ⟨_,.ref q8,ls,_,_,rfl,x2.trans o11,s2.trans o11.g,o11.keep hA2 nA2,o11.h _ _ hA2,by rw[hd2]; exact hls,?_⟩;rw[hd2,Lc6 hdl,hcut];refine .lst upd_same ?_;rw[Lb3,Lb3,Lg4,Lh3];have rl9:=rls.mono (s2.trans o11.g);refine ((rl9.take e).append (.cons ?_ .nil)).append (rl9.drop (e+1));rw[tree_d];exact .tup (y11'.g _ _ upd_same) (.cons (.str _) (rcs.mono o11.g))
   ·intro σ H2 hZp;refine fold_goal fun Z' Y'=>?_;obtain⟨G2,cv,us,a5,a9,rfl,x2,s2,nA2,hA2,hus,rc⟩:=hZp;refine Y' ?_;clear Y' Z';refine hn5 _ _ ?_;clear hn5 hr5 R5;rw[hal,Lh9,Lj2] at hus;obtain rfl:ts=us:=Option.some.inj hus;rw[hal,Lh9,List.drop_zero] at rc;refine (kq bs hb _ _ _ x2 ?_);unfold Stp.row;rw[hF,hi,hn];unfold Stp.taken at hX;rw[hi,hn] at hX;rw[show (i:Int).toNat=i from rfl,show (n:Int).toNat=n from rfl] at hX ⊢;rw[hX];exact rc
inductive PspSize(vs:List V)(H:Hp)(Q:VK):Prop
 | mk (G:Hp) (a:Addr) (xs:List V) (ts:List Tr):vs=[.ref a]→Same G H→((G a=some (.lst xs)∨G a=some (.tup xs)))→Reps G xs (ts.map Tr.d)→knotsOf ts≤1000→(∀ H':Hp,Same H H'→Q (.int (knotsOf ts:Int)) H')→PspSize  vs H Q
def spSize:Sp:=fun vs H Q _=>PspSize  vs H Q
theorem scSize:FnScope ["_law_trees","_law_many","_law_todo","_law_tree"] ["_law_trees"] (defScope sSize):=scD rfl rfl rfl rfl
theorem ok_size{f:Addr}{fd:FuncData}(F:Fun K "_law_size" "_law_size" sSize f fd)(T:Txt mg):FnOk P w K mg base CX0 5 f fd ["_law_trees"] spSize:=by
 refine F.ok scSize (fun vs H Q E h=>?_) (fun cdv A outer s H vs Q E hr h=>?_)
 ·obtain⟨G,a,xs,ts,rfl,_⟩:=h;rfl
 ·refine fold_goal fun Z' Y'=>?_;obtain⟨G,a,xs,ts,rfl,sm,ha,rts,hkt,k⟩:=h;refine Y' ?_;clear Y' Z';have nd:=scSize.nd;have hu:=hr.units0;have big:=line_big
  refine⟨_,(pss_cons (ps_set (i:=1) nd rfl (Or.inl rfl) pe_int)
   (pss_cons (ps_set (i:=2) nd rfl (Or.inl rfl) (pe_callTy cc_list rfl T.list bt_list (pa_cons (pc 0) pa_nil)))
   (pss_cons (ps_while PassesOwn.never (pt_c (op_neE hu) (pc 2) (pe_lst pa_nil) (nomark _))
    (pss_cons (ps_set (i:=3) nd rfl (Or.inl rfl) (pe_bm0 PySem.F.plainAttrs_list PySem.F.slot_list_pop PySem.F.type_list_pop mt_pop (pc 2)))
    (pss_cons (ps_set (i:=1) nd rfl (Or.inl rfl) (pe_op oc_add (pc 1) pe_int))
    (pss_one (ps_set (i:=2) nd rfl (Or.inl rfl) (pe_op oc_cat (pc 2) (pe_callTy cc_list rfl T.list bt_list (pa_cons (pe_slice sc_tup (pc 3) (po_c pe_int) po_none) pa_nil))))))))
   (pss_one (ps_ret (pc 1)))))),?_⟩
  refine⟨xs,(ha.elim (fun z=>.inl (SqL.of (sm _ _ z))) (fun z=>.inr (SqT.of (sm _ _ z)))),fun p0 hp0=>?_⟩
  refine⟨fun m σ H2=>∃ (pt:Addr) (tv:List V) (us:List Tr) (c:Nat) (z:Option V),σ=[some (.ref a),some (.int (c:Int)),some (.ref pt),z]∧Ext G H G H2∧G pt=none∧H pt=none∧H2 pt=some (.lst tv)∧Reps G tv (us.map Tr.d)∧knotsOf us=m∧c+m=knotsOf ts,
   ⟨_,p0,xs,ts,0,none,rfl,Ext.tmp sm hp0,sm.none hp0,hp0,upd_same,rts,rfl,by omega⟩,?_⟩
  intro m σ H2 hZp;refine fold_goal fun Z' Y'=>?_;obtain⟨pt,tv,us,c,z,rfl,x,nG,nH,hpt,rus,rfl,hm⟩:=hZp;refine Y' ?_;clear Y' Z';refine⟨Lb1 _,fun pe hpe=>⟨pt,pe,tv,rfl,rfl,SqL.of (same_upd hpe _ _ hpt),SqL.of upd_same,?_⟩⟩;have x1:=x.trans (Ext.tmp (o:=.lst []) x.gh hpe);have hpt1:=same_upd (o:=.lst []) hpe _ _ hpt;dsimp only[onB]
  cases he:tv.isEmpty with
  | true =>
   have e1:tv=[]:=Lf0.mp he;subst e1;have hul:=rus.length;rw[La1] at hul;have e2:us=[]:=Ld5.mp hul.symm;subst e2
   have e3:c=knotsOf ts:=by
    rw[show knotsOf []=0 from rfl] at hm;omega
   refine iteF ?_;rw[e3]
   exact k _ x1.h
  | false =>
   refine fold_goal fun Z' Y'=>?_;obtain⟨t0,y,rfl⟩:=last_of tv he;refine Y' ?_;clear Y' Z';have hul:=rus.length;rw[La1,La2,Lb2] at hul
   obtain⟨us0,t,rfl⟩:∃ us0 t,us=us0++[t]:=by
    cases hq:us.isEmpty with
    | true=>rw[Lf0.mp hq] at hul; simp at hul
    | false=>exact last_of us hq
   rw[Lb3] at rus;have hl0:t0.length=us0.length:=by rw[La2,Lb2] at hul; omega
   have r0:Reps G t0 (us0.map Tr.d):=by
    have:=rus.take t0.length
    rwa [Lg5,show t0.length=(us0.map Tr.d).length by rw[La1]; exact hl0,Lg5] at this
   have rt:Rep G y t.d:=by
    have:=rus.drop t0.length;rw[Lf9,show t0.length=(us0.map Tr.d).length by rw[La1]; exact hl0,Lf9] at this
    cases this with
    | cons r _=>exact r
   refine fold_goal fun Z' Y'=>?_;obtain⟨tra,kv,rfl,htra,rkv⟩:=rt.tree;refine Y' ?_;clear Y' Z';have hkm:knotsOf (us0++[t])=knotsOf us0+(1+knotsOf t.kids):=by rw[knotsOf_append,knotsOf,knotsOf,knots_eq]; rfl
   have hkvl:=rkv.length;rw[La1] at hkvl;have l1:=length_le_knots us0;have l2:=length_le_knots t.kids;refine iteT ⟨fun σ' H'=>∃ m',m'<knotsOf (us0++[t])∧∃ (pt:Addr) (tv:List V) (us:List Tr) (c:Nat) (z:Option V),σ'=[some (.ref a),some (.int (c:Int)),some (.ref pt),z]∧Ext G H G H'∧G pt=none∧H pt=none∧H' pt=some (.lst tv)∧Reps G tv (us.map Tr.d)∧knotsOf us=m'∧c+m'=knotsOf ts,fun _ _ z=>z,?_⟩;refine⟨.inl ⟨rfl,_,SqL.of hpt1⟩,pt,_,_,rfl,rfl,hpt1,last_at t0 _,?_⟩;rw[Lg2];have x2:=x1.mut (o:=.lst t0) nG nH;have ht2:=x2.gh _ _ htra;refine ?_;refine⟨_,SqT.of ht2,kids_not _ _,fun q1 h1=>⟨kv,.inr (SqT.of (by rw[upd_same,kids_cut])),fun q2 h2=>?_⟩⟩;have x3:=x2.trans (Ext.tmp (o:=.tup (cutV (V.str t.mark::kv) (some 1) none)) x2.gh h1);have x4:=x3.trans (Ext.tmp (o:=.lst kv) x3.gh h2);refine⟨_,_,same_upd h2 _ _ (same_upd h1 _ _ upd_same),upd_same,(by omega),fun q3 h3=>?_⟩;have x5:=x4.trans (Ext.tmp (o:=.lst (t0++kv)) x4.gh h3);have ec:(c:Int)+1=((c+1:Nat):Int):=by omega
   refine⟨_,?_,q3,_,us0++t.kids,c+1,_,rfl,x5,x4.gh.none h3,x4.h.none h3,upd_same,?_,rfl,?_⟩
   ·rw[knotsOf_append]; omega
   ·rw[Lb3];exact r0.append rkv
   ·rw[knotsOf_append]; omega
inductive PspWandered(vs:List V)(H:Hp)(Q:VK):Prop
 | mk (G:Hp) (v:V) (ca:Addr) (ts:List Tr) (ns:List Int):vs=[v,.ref ca]→Same G H→Rep G v (rowD ts)→G ca=some (.lst (ns.map V.int))→ns.length≤20→knotsOf ts≤30→(∀ (G' H':Hp) (r:V) (cs:List Tr) (sts:List Stp),Ext G H G' H'→Rep G' r (.tup [rowD cs,.lst (sts.map Stp.d)])→runS sts ts=some cs→(∀ st∈sts,st.Fit)→sts.length≤ns.length→knotsOf cs≤50→(knotsOf ts≤5→knotsOf cs≤5)→Q r H')→PspWandered  vs H Q
def spWandered:Sp:=fun vs H Q _=>PspWandered  vs H Q
theorem scWandered:FnScope ["_law_row","_law_cells","_law_steps","_law_j","_law_cell","_law_every","_law_rest","_law_mark","_law_path","_law_step","_law_made"] ["_law_row","_law_cells"] (defScope sWandered):=scD rfl rfl rfl rfl
theorem small_le{n:Nat}(h:n≤1000000):Small (n:Int):=by
 unfold Small
 have:(1000000:Nat)<10 ^ 100:=by decide
 omega
inductive WdInv(G H:Hp)(ca ps:Addr)(ts:List Tr)(ns:List Int)(i:Nat)(σ:L2.St)(H2:Hp):Prop
 | mk (G2:Hp) (rv:V) (cs:List Tr) (sv:List V) (sts:List Stp) (z3 z4 z5 z6 z7 z8 z9 z10:Option V):σ=[some rv,some (.ref ca),some (.ref ps),z3,z4,z5,z6,z7,z8,z9,z10]→Ext G H G2 H2→Rep G2 rv (rowD cs)→G2 ps=none→H2 ps=some (.lst sv)→Reps G2 sv (sts.map Stp.d)→runS sts ts=some cs→((∀ st∈sts,st.Fit))→sts.length≤i→knotsOf cs≤30+i→i≤ns.length→((knotsOf ts≤5→knotsOf cs≤5))→WdInv G H ca ps ts ns i σ H2
theorem ok_wandered{f:Addr}{fd:FuncData}(F:Fun K "_law_wandered" "_law_wandered" sWandered f fd)(T:Txt mg)(F_all:Ok1 P w K mg base 7 "_law_all_paths" ["_law_row"] spAll)(F_word:Ok1 P w K mg base 3 "_law_any_word" ["_law_cell"] spWord)
  (F_stepped:Ok1 P w K mg base 5 "_law_stepped" ["_law_row","_law_step"] spStepped) (F_size:Ok1 P w K mg base 5 "_law_size" ["_law_trees"] spSize):FnOk P w K mg base CX0 9 f fd ["_law_row","_law_cells"] spWandered:=by
 refine F.ok scWandered (fun vs H Q E h=>?_) (fun cdv A outer s H vs Q E hr h=>?_)
 ·obtain⟨G,v,ca,ts,ns,rfl,_⟩:=h;rfl
 ·refine fold_goal fun Z' Y'=>?_;obtain⟨G,v,ca,ts,ns,rfl,sm,rv,hca,hns,hkt,kq⟩:=h;refine Y' ?_;clear Y' Z';have nd:=scWandered.nd;have hu:=hr.units0;have big:=line_big;have hcl:(ns.map V.int).length=ns.length:=La1 ..
  refine⟨_,(pss_cons (ps_set (i:=2) nd rfl (Or.inl rfl) (pe_lst pa_nil))
   (pss_cons (ps_for PassesOwn.never rfl (pi_range1 rfl T.range (pa_cons (pe_callB cc_len rfl T.len bt_len (pa_cons (pc 1) pa_nil)) pa_nil)) (pg_name (i:=3) nd rfl (Or.inl rfl))
    (pss_cons (ps_set (i:=4) nd rfl (Or.inl rfl) (pe_ix xc_list (pc 1) (pc 3) (fun _ _=>rfl)))
    (pss_cons (ps_set (i:=5) nd rfl (Or.inl rfl) (pe_fn F_all (hr.mono (by decide)) rfl (pa_cons (pc 0) pa_nil)))
    (pss_cons (ps_set (i:=6) nd rfl (Or.inl rfl) (pe_op oc_fdiv (pc 4) pe_int))
    (pss_cons (ps_set (i:=7) nd rfl (Or.inl rfl) (pe_ix xc_list (pe_lst (pa_cons pe_str (pa_cons pe_str (pa_cons pe_str (pa_cons pe_str pa_nil))))) (pe_op oc_mod (pe_op oc_fdiv (pe_ix xc_list (pc 1) (pe_op oc_mod (pe_op oc_add (pc 3) pe_int) (pe_callB cc_len rfl T.len bt_len (pa_cons (pc 1) pa_nil))) (fun _ _=>rfl)) pe_int) pe_int) (fun _ _=>rfl)))
    (pss_cons (ps_mid (ps_if (pt_c op_eq (pe_op oc_mod (pc 4) pe_int) pe_int (nomark _))
     (pss_one (ps_set (i:=7) nd rfl (Or.inl rfl) (pe_fn F_word (hr.mono (by decide)) rfl (pa_cons (pe_op oc_fdiv (pc 4) pe_int) pa_nil))))
     pss_nil))
    (pss_cons (ps_set (i:=8) nd rfl (Or.inl rfl) (pe_lst (pa_cons (pe_op oc_mod (pc 6) (pe_op oc_add (pe_callB cc_len rfl T.len bt_len (pa_cons (pc 0) pa_nil)) pe_int)) pa_nil)))
    (pss_cons (ps_mid (ps_if (pt_c (op_neE hu) (pc 5) (pe_lst pa_nil) (nomark _))
     (pss_one (ps_set (i:=8) nd rfl (Or.inl rfl) (pe_ix xc_list (pc 5) (pe_op oc_mod (pc 6) (pe_callB cc_len rfl T.len bt_len (pa_cons (pc 5) pa_nil))) (fun _ _=>rfl))))
     pss_nil))
    (pss_cons (ps_set (i:=9) nd rfl (Or.inl rfl) (pe_tup (pa_cons pe_str (pa_cons (pc 8) (pa_cons (pe_ix xc_list (pe_lst (pa_cons pe_int (pa_cons pe_int (pa_cons pe_int (pa_cons pe_int pa_nil))))) (pe_op oc_mod (pe_op oc_fdiv (pc 6) pe_int) pe_int) (fun _ _=>rfl)) (pa_cons (pc 7) pa_nil))))))
    (pss_cons (ps_mid (ps_if (PW.pt (pw_and (pt_c (op_neE hu) (pc 5) (pe_lst pa_nil) (nomark _)) (pw_and1 (pt_c op_eq (pe_op oc_mod (pc 4) pe_int) pe_int (nomark _)))))
     (pss_one (ps_set (i:=9) nd rfl (Or.inl rfl) (pe_tup (pa_cons pe_str (pa_cons (pc 8) pa_nil)))))
     pss_nil))
    (pss_cons (ps_mid (ps_if (PW.pt (pw_and (pt_c (op_neE hu) (pc 5) (pe_lst pa_nil) (nomark _)) (pw_and1 (pt_c op_eq (pe_op oc_mod (pc 4) pe_int) pe_int (nomark _)))))
     (pss_one (ps_set (i:=9) nd rfl (Or.inl rfl) (pe_tup (pa_cons pe_str (pa_cons (pc 8) (pa_cons (pc 7) pa_nil))))))
     pss_nil))
    (pss_cons (ps_mid (ps_set (i:=10) nd rfl (Or.inl rfl) (pe_fn F_stepped (hr.mono (by decide)) rfl (pa_cons (pc 0) (pa_cons (pc 9) pa_nil)))))
    (pss_one (ps_if (PW.pt (pw_and (pt_cmp (pc_notN (pc 10))) (pw_and1 (pt_c oc_lt (pe_fn F_size (hr.mono (by decide)) rfl (pa_cons (pc 10) pa_nil)) pe_int (nomark _)))))
     (pss_cons (ps_expr (pe_bm PySem.F.plainAttrs_list PySem.F.slot_list_append PySem.F.type_list_append mc_append (pc 2) (pa_cons (pc 9) pa_nil)))
     (pss_one (ps_set (i:=0) nd rfl (Or.inl rfl) (pc 10))))
     pss_nil))))))))))))))
   (pss_one (ps_ret (pe_tup (pa_cons (pc 0) (pa_cons (pc 2) pa_nil))))))),?_⟩
  refine⟨Lb1 _,fun ps hps=>?_⟩;have x0:Ext G H G (upd H ps (.lst [])):=Ext.tmp sm hps
  refine⟨_,.inl (SqL.of (x0.gh _ _ hca)),_,rfl,by rw[hcl]; omega,by rw[hcl]; omega,for_rangeG
   (WdInv G H ca ps ts ns)
   ⟨G,v,ts,[],[],none,none,none,none,none,none,none,none,rfl,x0,rv,sm.none hps,upd_same,.nil,rfl,(fun _ z=>nomatch z),La4 _,by omega,Lb1 _,id⟩ ?_ ?_⟩
  ·intro i σ H2 hi hZp R0 hn0 hr0;refine fold_goal fun Z' Y'=>?_;obtain⟨G2,rv,cs,sv,sts,z3,z4,z5,z6,z7,z8,z9,z10,rfl,x,rr,ns2,hs2,rs,hrun,hfit,hsl,hkc,_,h9k⟩:=hZp;refine Y' ?_;clear Y' Z';have hin:i<ns.length:=by rw[hcl] at hi; simpa using hi
   have hcell:atI (ns.map V.int) (0+(i:Int))=some (.int ns[i]):=by rw[Lj8]; exact ints_ix hin
   have hca2:=x.h _ _ (sm _ _ hca);refine fold_goal fun Z' Y'=>?_;obtain⟨ra,rvs,rfl,hra,rts⟩:=rr.row;refine Y' ?_;clear Y' Z';have hrl:=rts.length;rw[La1] at hrl;have hrk:=length_le_knots cs;refine⟨_,_,SqL.of hca2,hcell,?_⟩;refine⟨G2,_,cs,rfl,x.gh,rr,by omega,fun G3 H3 re ps3 x3 rre hperm hri=>?_⟩
   cases rre with
   | @lst ea evs _ hea revs =>
   have x4:=x.trans x3;have hs3:=x3.h _ _ hs2;have ns3:=x3.keep hs2 ns2;refine⟨⟨by decide,by decide⟩,?_⟩;(try dsimp only);refine seq_gen fun Ra hna hra=>?_;have hpos:(0:Int)<((ns.map V.int).length:Int):=by rw[hcl]; omega
   have hm1:0≤(0+(i:Int)+1) % ((ns.map V.int).length:Int):=Lf7 _ (by omega);have hm2:(0+(i:Int)+1) % ((ns.map V.int).length:Int)<((ns.map V.int).length:Int):=Lf3 _ hpos;obtain⟨nx,hnx⟩:=ints_ixI (ns:=ns) hm1 (by rw[hcl] at hm2 ⊢; exact hm2);refine fold_goal fun Z' Y'=>?_;obtain⟨m0,hm0,_⟩:=four_words (nx / 5);refine Y' ?_;clear Y' Z';refine⟨by show 4≤sizeLine; decide,fun p1 h1=>?_⟩;have x5:=x4.trans (Ext.tmp (o:=.lst [V.str (Str.ofString "sab"),V.str (Str.ofString "tab"),V.str (Str.ofString "sob"),V.str (Str.ofString "sat")]) x4.gh h1);have hca5:=x5.h _ _ (sm _ _ hca);have hs5:=same_upd (o:=.lst [V.str (Str.ofString "sab"),V.str (Str.ofString "tab"),V.str (Str.ofString "sob"),V.str (Str.ofString "sat")]) h1 _ _ hs3;refine⟨_,.inl (SqL.of hca5),hpos,_,_,SqL.of hca5,hnx,⟨by decide,by decide⟩,(by show (0:Int)<4; decide),_,_,SqL.of upd_same,hm0,?_⟩;refine hna _ _ ?_;clear hna hra Ra;(try dsimp only);refine seq_gen fun Rb hnb hrb=>?_;refine⟨fun σ' H'=>∃ m:Str,σ'=[some (.ref ra),some (.ref ca),some (.ref ps),some (.int (0+(i:Int))),some (.int ns[i]),some (.ref ea),some (.int (ns[i] / 3)),some (.str m),z8,z9,z10]∧Ext G H G3 H'∧H' ps=some (.lst sv),?_,?_⟩
   ·refine⟨(by show (0:Int)<11; decide),rfl,?_⟩;refine ite2 (fun _=>?_) (fun _=>⟨m0,rfl,x5,hs5⟩);refine⟨⟨by decide,by decide⟩,_,rfl,fun H4 y s4 _=>?_⟩;exact⟨y,rfl,⟨x5.g,x5.gh.trans s4,x5.h.trans s4,x5.new⟩,s4 _ _ hs5⟩
   intro σ' H6 hZp;refine fold_goal fun Z' Y'=>?_;obtain⟨m,rfl,x6,hs6⟩:=hZp;refine Y' ?_;clear Y' Z';refine hnb _ _ ?_;clear hnb hrb Rb;(try dsimp only);refine seq_gen fun Rc hnc hrc=>?_;clear x5 hs5 hca5;have hra6:=x6.gh _ _ (x3.g _ _ hra);have hp2:(0:Int)<(rvs.length:Int)+1:=by omega
   have c1:0≤ns[i] / 3 % ((rvs.length:Int)+1):=Lf7 _ (by omega);have c2:ns[i] / 3 % ((rvs.length:Int)+1)<(rvs.length:Int)+1:=Lf3 _ hp2;refine⟨rvs,.inl (SqL.of hra6),hp2,(by show 1≤sizeLine; decide),fun q1 g1=>?_⟩;have y7:=Ext.add (o:=.lst [V.int (ns[i] / 3 % ((rvs.length:Int)+1))]) x6.gh g1;have x7:=x6.trans y7;have hs7:=y7.h _ _ hs6;have ns7:=y7.keep hs6 ns3;have hea7:=x7.gh _ _ (y7.g _ _ hea);have hevl:=revs.length;rw[La1] at hevl;have hpl:=hperm.length_eq;rw[pps_length] at hpl
   have hsm0:Small (ns[i] / 3 % ((rvs.length:Int)+1)):=by
    obtain⟨e,he⟩:∃ e:Nat,ns[i] / 3 % ((rvs.length:Int)+1)=(e:Int):=⟨(ns[i] / 3 % ((rvs.length:Int)+1)).toNat,by omega⟩;rw[he] at c2 ⊢;exact small_le (by omega)
   refine hnc _ _ ?_;clear hnc hrc Rc;(try dsimp only);refine seq_gen fun Rd hnd hrd=>?_;refine⟨fun σ' H'=>∃ (G8:Hp) (pq:Addr) (p:List Int),σ'=[some (.ref ra),some (.ref ca),some (.ref ps),some (.int (0+(i:Int))),some (.int ns[i]),some (.ref ea),some (.int (ns[i] / 3)),some (.str m),some (.ref pq),z9,z10]∧Ext G H G8 H'∧Same G3 G8∧G8 pq=some (.lst (p.map V.int))∧p.length≤100∧(∀ b∈p,Small b)∧G8 ps=none∧H' ps=some (.lst sv),?_,?_⟩
   ·refine⟨Lb1 _,fun pe hpe=>⟨ea,pe,evs,rfl,rfl,SqL.of (same_upd hpe _ _ hea7),SqL.of upd_same,?_⟩⟩;have x8:=x7.trans (Ext.tmp (o:=.lst []) x7.gh hpe);have hs8:=same_upd (o:=.lst []) hpe _ _ hs7;have hea8:=same_upd (o:=.lst []) hpe _ _ hea7;dsimp only[onB]
    cases he:evs.isEmpty with
    | true=>exact iteF ⟨_,q1,[ns[i] / 3 % ((rvs.length:Int)+1)],rfl,x8,y7.g,upd_same,by show 1≤100; decide,(fun b hb=>by rw[show b=ns[i] / 3 % ((rvs.length:Int)+1) by simpa using hb]; exact hsm0),ns7,hs8⟩
    | false =>
     have hep:0<evs.length:=by
      cases evs with
      | nil=>cases he
      | cons _ _=>simp
     have hpos3:(0:Int)<(evs.length:Int):=by omega
     have d1:0≤ns[i] / 3 % (evs.length:Int):=Lf7 _ (by omega);have d2:ns[i] / 3 % (evs.length:Int)<(evs.length:Int):=Lf3 _ hpos3;have hj:(ns[i] / 3 % (evs.length:Int)).toNat<evs.length:=by omega
     obtain⟨d,hd,rd⟩:=revs.at (La0 hj);rw[La6] at hd;refine fold_goal fun Z' Y'=>?_;obtain⟨p,hp,rfl⟩:=Lf4.mp hd;refine Y' ?_;clear Y' Z';refine fold_goal fun Z' Y'=>?_;obtain⟨pq,epq,hpq⟩:=Rep.path rd;refine Y' ?_;clear Y' Z'
     have hix:atI evs (ns[i] / 3 % (evs.length:Int))=some (.ref pq):=by
      have:=atI_nat (La0 hj)
      rwa [Le8 d1,epq] at this
     have hmem:p∈pps 0 cs:=hperm.mem_iff.mp (Lf2 hp);obtain⟨u,hu'⟩:=down_pps _ cs (La4 _) [] p hmem;have hsome:(down cs p).isSome=true:=by rw[show ([]:List Tr)++cs=cs from rfl] at hu'; rw[hu']; rfl
     have hlp:=path_len p cs hsome;have hpi:=path_in hsome;refine iteT ⟨evs,.inl (SqL.of hea8),hpos3,evs,_,SqL.of hea8,hix,?_⟩;refine⟨_,pq,p,rfl,x8,y7.g,y7.g _ _ hpq,by omega,fun b hb=>?_,ns7,hs8⟩
     have:=hpi b hb;unfold Small;have b6:(1000000:Nat)<10 ^ 100:=by decide
     omega
   intro σ' H8 hZp;refine fold_goal fun Z' Y'=>?_;obtain⟨G8,pq,p,rfl,x8,s38,hpq,hpl8,hsp8,ns8,hs8⟩:=hZp;refine Y' ?_;clear Y' Z';refine hnd _ _ ?_;clear hnd hrd Rd;(try dsimp only);refine seq_gen fun Re hne hre=>?_;clear x7 y7 hs7 ns7 hea7 x6 hs6;have h40:0≤ns[i] / 3 / 6 % 4:=Lf7 _ (by decide);have h41:ns[i] / 3 / 6 % 4<4:=Lf3 _ (by decide);refine fold_goal fun Z' Y'=>?_;obtain⟨mn,hmn,hmm⟩:=pick_int (xs:=[0,1,2,3]) h40 h41;refine Y' ?_;clear Y' Z'
   have hmnS:Small mn:=by
    simp only[List.mem_cons,List.not_mem_nil,or_false] at hmm;unfold Small;have b6:(1000000:Nat)<10 ^ 100:=by decide
    generalize (10:Nat) ^ 100=B at *
    rcases hmm with rfl | rfl | rfl | rfl <;> omega
   have hs1:Small 1:=by unfold Small; decide
   refine⟨(by show 4≤sizeLine; decide),fun ml hml=>?_⟩;have x9:=x8.trans (Ext.tmp (o:=.lst [V.int 0,V.int 1,V.int 2,V.int 3]) x8.gh hml);have hs9:=same_upd (o:=.lst [V.int 0,V.int 1,V.int 2,V.int 3]) hml _ _ hs8;refine⟨⟨by decide,by decide⟩,(by show (0:Int)<4; decide),_,_,SqL.of upd_same,hmn,(by show 4≤sizeLine; decide),fun q2 g2=>?_⟩;have y10:=Ext.add (o:=.tup [V.str (Str.ofString "put"),V.ref pq,V.int mn,V.str m]) x9.gh g2;have x10:=x9.trans y10;have hs10:=y10.h _ _ hs9;have ns10:=y10.keep hs9 ns8;refine hne _ _ ?_;clear hne hre Re;(try dsimp only);refine seq_gen fun Rf hnf hrf=>?_;refine⟨fun σ' H'=>∃ (G9:Hp) (sa:Addr) (st:Stp),σ'=[some (.ref ra),some (.ref ca),some (.ref ps),some (.int (0+(i:Int))),some (.int ns[i]),some (.ref ea),some (.int (ns[i] / 3)),some (.str m),some (.ref pq),some (.ref sa),z10]∧Ext G H G9 H'∧Same G8 G9∧Rep G9 (.ref sa) st.d∧st.Fit∧G9 ps=none∧H' ps=some (.lst sv),?_,?_⟩
   ·have base0:∃ (G9:Hp) (sa:Addr) (st:Stp),G9=upd G8 q2 (.tup [V.str (Str.ofString "put"),V.ref pq,V.int mn,V.str m])∧sa=q2∧st=.put p mn m:=⟨_,_,_,rfl,rfl,rfl⟩;have rput:Rep (upd G8 q2 (.tup [V.str (Str.ofString "put"),V.ref pq,V.int mn,V.str m])) (.ref q2) (Stp.put p mn m).d:=.tup upd_same (.cons (.str _) (.cons (.lst (y10.g _ _ hpq) (ints_reps _)) (.cons (.int _) (.cons (.str _) .nil))));have fput:(Stp.put p mn m).Fit:=⟨by show p.length≤1000; omega,hsp8,hmnS⟩;refine⟨Lb1 _,fun pe hpe=>⟨ea,pe,evs,rfl,rfl,SqL.of (same_upd hpe _ _ (x10.gh _ _ (y10.g _ _ (s38 _ _ hea)))),SqL.of upd_same,?_⟩⟩;have x11:=x10.trans (Ext.tmp (o:=.lst []) x10.gh hpe);have hs11:=same_upd (o:=.lst []) hpe _ _ hs10;refine ite2 (fun _=>?_) (fun _=>iteF ⟨_,q2,.put p mn m,rfl,x11,y10.g,rput,fput,ns10,hs11⟩);refine⟨(by show (0:Int)<3; decide),rfl,?_⟩;refine ite2 (fun _=>?_) (fun _=>⟨_,q2,.put p mn m,rfl,x11,y10.g,rput,fput,ns10,hs11⟩);refine⟨(by show 2≤sizeLine; decide),fun q3 g3=>?_⟩;have y12:=Ext.add (o:=.tup [V.str (Str.ofString "cut"),V.ref pq]) x11.gh g3;exact⟨_,q3,.cut p,rfl,x11.trans y12,y10.g.trans y12.g,.tup upd_same (.cons (.str _) (.cons (.lst (y12.g _ _ (y10.g _ _ hpq)) (ints_reps _)) .nil)),⟨by show p.length≤1000; omega,hsp8,hs1⟩,y12.keep hs11 ns10,y12.h _ _ hs11⟩
   intro σ' H11 hZp;refine fold_goal fun Z' Y'=>?_;obtain⟨G9,sa,st,rfl,x11,s89,rst,hfst,ns11,hs11⟩:=hZp;refine Y' ?_;clear Y' Z';refine hnf _ _ ?_;clear hnf hrf Rf;(try dsimp only);refine seq_gen fun Rg hng hrg=>?_;clear x9 x10 y10 hs9 hs10 ns10;refine⟨fun σ' H'=>∃ (G9:Hp) (sa:Addr) (st:Stp),σ'=[some (.ref ra),some (.ref ca),some (.ref ps),some (.int (0+(i:Int))),some (.int ns[i]),some (.ref ea),some (.int (ns[i] / 3)),some (.str m),some (.ref pq),some (.ref sa),z10]∧Ext G H G9 H'∧Same G8 G9∧Rep G9 (.ref sa) st.d∧st.Fit∧G9 ps=none∧H' ps=some (.lst sv),?_,?_⟩
   ·refine⟨Lb1 _,fun pe hpe=>⟨ea,pe,evs,rfl,rfl,SqL.of (same_upd hpe _ _ (x11.gh _ _ (s89 _ _ (s38 _ _ hea)))),SqL.of upd_same,?_⟩⟩;have x12:=x11.trans (Ext.tmp (o:=.lst []) x11.gh hpe);have hs12:=same_upd (o:=.lst []) hpe _ _ hs11;refine ite2 (fun _=>?_) (fun _=>iteF ⟨_,sa,st,rfl,x12,s89,rst,hfst,ns11,hs12⟩);refine⟨(by show (0:Int)<3; decide),rfl,?_⟩;refine ite2 (fun _=>?_) (fun _=>⟨_,sa,st,rfl,x12,s89,rst,hfst,ns11,hs12⟩);refine⟨(by show 3≤sizeLine; decide),fun q3 g3=>?_⟩;have y13:=Ext.add (o:=.tup [V.str (Str.ofString "mark"),V.ref pq,V.str m]) x12.gh g3;exact⟨_,q3,.mark p m,rfl,x12.trans y13,s89.trans y13.g,.tup upd_same (.cons (.str _) (.cons (.lst (y13.g _ _ (s89 _ _ hpq)) (ints_reps _)) (.cons (.str _) .nil))),⟨by show p.length≤1000; omega,hsp8,hs1⟩,y13.keep hs12 ns11,y13.h _ _ hs12⟩
   clear x11 s89 rst hfst ns11 hs11 sa st G9;intro σ' H11 hZp;refine fold_goal fun Z' Y'=>?_;obtain⟨G9,sa,st,rfl,x11,s89,rst,hfst,ns11,hs11⟩:=hZp;refine Y' ?_;clear Y' Z';refine hng _ _ ?_;clear hng hrg Rg;(try dsimp only);refine seq_gen fun Rh hnh hrh=>?_;have sG:Same G2 G9:=x3.g.trans (s38.trans s89);have rr9:Rep G9 (.ref ra) (rowD cs):=rr.mono sG;refine⟨fun σ' H'=>∃ (GA:Hp) (mv:V),σ'=[some (.ref ra),some (.ref ca),some (.ref ps),some (.int (0+(i:Int))),some (.int ns[i]),some (.ref ea),some (.int (ns[i] / 3)),some (.str m),some (.ref pq),some (.ref sa),some mv]∧Ext G H GA H'∧Same G9 GA∧((st.beside cs=none∧mv=.non)∨∃ bs,st.beside cs=some bs∧Rep GA mv (rowD (st.row cs bs)))∧GA ps=none∧H' ps=some (.lst sv),?_,?_⟩
   ·exact⟨G9,.ref ra,.ref sa,cs,st,rfl,x11.gh,rr9,rst,hfst,by omega,(fun bs hb G' H' r x' rr'=>⟨G',r,rfl,x11.trans x',x'.g,.inr ⟨bs,hb,rr'⟩,x'.keep hs11 ns11,x'.h _ _ hs11⟩),(fun hb H' s'=>⟨G9,.non,rfl,⟨x11.g,x11.gh.trans s',x11.h.trans s',x11.new⟩,Same.refl _,.inl ⟨hb,rfl⟩,ns11,s' _ _ hs11⟩)⟩
   intro σ' H12 hZp;refine fold_goal fun Z' Y'=>?_;obtain⟨GA,mv,rfl,x12,s9A,hmade,nsA,hsA⟩:=hZp;refine Y' ?_;clear Y' Z';refine hnh _ _ ?_;clear hnh hrh Rh;have rsA:Reps GA sv (sts.map Stp.d):=rs.mono (sG.trans s9A);have rrA:Rep GA (.ref ra) (rowD cs):=rr9.mono s9A
   rcases hmade with ⟨hb,rfl⟩ | ⟨bs,hb,rm⟩
   ·refine⟨_,rfl,iteF (iteF ?_)⟩;exact hn0 _ _ ⟨GA,_,cs,sv,sts,_,_,_,_,_,_,_,_,rfl,x12,rrA,nsA,hsA,rsA,hrun,hfit,by omega,by omega,by omega,h9k⟩
   ·refine fold_goal fun Z' Y'=>?_;obtain⟨da,dvs,rfl,hda,rds⟩:=rm.row;refine Y' ?_;clear Y' Z';have hkr:=row_knots hb;refine⟨_,rfl,iteT ?_⟩;refine⟨GA,da,dvs,st.row cs bs,rfl,x12.gh,.inl hda,rds,by omega,fun H13 s13=>?_⟩;have x13:Ext G H GA H13:=⟨x12.g,x12.gh.trans s13,x12.h.trans s13,x12.new⟩;have hs13:=s13 _ _ hsA;refine ite2 (fun hsz=>?_) (fun _=>hn0 _ _ ⟨GA,_,cs,sv,sts,_,_,_,_,_,_,_,_,rfl,x13,rrA,nsA,hs13,rsA,hrun,hfit,by omega,by omega,by omega,h9k⟩);have hsvl:=rsA.length;rw[La1] at hsvl;refine⟨.inl ⟨rfl,_,SqL.of hs13⟩,sv,hs13,by omega,?_⟩;have x14:=x13.mut (o:=.lst (sv++[.ref sa])) nsA hps;refine (hn0 _ _ ⟨GA,_,st.row cs bs,_,sts++[st],_,_,_,_,_,_,_,_,rfl,x14,rm,nsA,upd_same,?_,?_,?_,?_,by omega,by omega,fun _=>by have:=of_decide_eq_true hsz; omega⟩)
    ·rw[Lb3];exact rsA.append (.cons (rst.mono s9A) .nil)
    ·rw[runS_app,hrun,Ld9,runS,hb];rfl
    ·intro s' hs'
     rcases Lb9.mp hs' with q | q
     ·exact hfit s' q
     ·rw[show s'=st by simpa using q];exact hfst
    ·rw[La2,Lb2];omega
  ·intro σ H2 hZp;refine fold_goal fun Z' Y'=>?_;obtain⟨G2,rv,cs,sv,sts,z3,z4,z5,z6,z7,z8,z9,z10,rfl,x,rr,ns2,hs2,rs,hrun,hfit,hsl,hkc,_,h9k⟩:=hZp;refine Y' ?_;clear Y' Z';have y1:=x.freeze ns2 hps hs2;refine⟨(by show 2≤sizeLine; decide),fun q1 h1=>?_⟩;have y2:=Ext.add (o:=.tup [rv,.ref ps]) y1.gh h1;have hl:(Int.toNat ((ns.map V.int).length:Int))=ns.length:=by rw[hcl]; rfl
   refine kq _ _ _ cs sts (y1.trans y2) (.tup upd_same (.cons ((rr.mono (same_upd ns2)).mono y2.g) (.cons (.lst (y2.g _ _ upd_same) ((rs.mono (same_upd ns2)).mono y2.g)) .nil))) hrun hfit (by omega) (by omega) h9k
inductive PspMarkAt(vs:List V)(H:Hp)(Q:VK):Prop
 | mk (G:Hp) (v u:V) (ts bs:List Tr) (p:List Int) (t:Tr):vs=[v,u]→Same G H→Rep G v (rowD ts)→Rep G u (pathD p)→p≠[]→down ts p.dropLast=some bs→0≤p.getLastD 0→bs[(p.getLastD 0).toNat]?=some t→p.length≤1000→(∀ (G' H':Hp),Ext G H G' H'→Q (.str t.mark) H')→PspMarkAt  vs H Q
def spMarkAt:Sp:=fun vs H Q _=>PspMarkAt  vs H Q
theorem scMarkAt:FnScope ["row","path"] ["row","path"] (defScope sMarkAt):=scD rfl rfl rfl rfl
theorem ok_markat{f:Addr}{fd:FuncData}(F:Fun K "mark_at" "mark_at" sMarkAt f fd)(F_mark:Ok1 P w K mg base 3 "mark_of" ["tree"] spMark)(F_at:Ok1 P w K mg base 7 "trees_at" ["row","path"] spAt):FnOk P w K mg base CX0 9 f fd ["row","path"] spMarkAt:=by
 refine F.ok scMarkAt (fun vs H Q E h=>?_) (fun cdv A outer s H vs Q E hr h=>?_)
 ·obtain⟨G,v,u,ts,bs,p,t,rfl,_⟩:=h;rfl
 ·refine fold_goal fun Z' Y'=>?_;obtain⟨G,v,u,ts,bs,p,t,rfl,sm,rv,ru,hp,hd,h0,ht,hl,k⟩:=h;refine Y' ?_;clear Y' Z';refine⟨_,(pss_one (ps_ret (pe_fn F_mark (hr.mono (by decide)) rfl (pa_cons (pe_ix xc_list (pe_fn F_at (hr.mono (by decide)) rfl (pa_cons (pc 0) (pa_cons (pe_slice sc_list (pc 1) po_none (po_c (pe_un uc_neg pe_int))) pa_nil))) (pe_ix xc_list (pc 1) (pe_un uc_neg pe_int) (fun _ _=>rfl)) (fun _ _=>rfl)) pa_nil)))),?_⟩;refine fold_goal fun Z' Y'=>?_;obtain⟨pa,rfl,hpa⟩:=ru.path;refine Y' ?_;clear Y' Z';refine⟨_,SqL.of (sm _ _ hpa),fun q1 g1=>?_⟩;rw[front_ints];have y1:=Ext.add (o:=.lst (p.dropLast.map V.int)) sm g1;refine⟨_,v,.ref q1,ts,bs,p.dropLast,rfl,y1.gh,rv.mono y1.g,.lst upd_same (ints_reps _),hd,by rw[Lh6]; omega,fun G3 H3 r3 x3 rr3=>?_⟩;refine fold_goal fun Z' Y'=>?_;obtain⟨ba,bvs,rfl,hba,rbs⟩:=rr3.row;refine Y' ?_;clear Y' Z';obtain⟨tv,htv,rtv⟩:=rbs.get (i:=(p.getLastD 0).toNat) (d:=t.d) (by rw[La6,ht]; rfl)
  have hix:atI bvs (p.getLastD 0)=some tv:=by
   have:=atI_nat htv
   rwa [Le8 h0] at this
  exact⟨_,_,SqL.of (x3.gh _ _ (x3.g _ _ (y1.g _ _ hpa))),last_int hp,bvs,_,SqL.of (x3.gh _ _ hba),hix,G3,tv,t,rfl,x3.gh,rtv,k _ _ (y1.trans x3)⟩
inductive PspEnd(vs:List V)(H:Hp)(Q:VK):Prop
 | mk (G:Hp) (v:V) (ps:List (List Int)) (i:Nat):vs=[v,.int (i:Int)]→Same G H→Rep G v (.lst (ps.map pathD))→i<ps.length→ps.length≤1000→Q (.int (endU ps i:Int)) H→PspEnd  vs H Q
def spEnd:Sp:=fun vs H Q _=>PspEnd  vs H Q
theorem scEnd:FnScope ["own","first","end"] ["own","first"] (defScope sEnd):=scD rfl rfl rfl rfl
theorem run_in{α:Type}{f:α→Bool}:∀ {l:List α} {j:Nat},j<(l.takeWhile f).length→∃ x,l[j]?=some x∧f x=true
 | [],j,h=>by simp at h
 | x::l,j,h=>by
  rw[Lj6] at h
  cases hx:f x with
  | false=>rw[hx] at h; simp at h
  | true =>
   rw[hx,if_pos rfl,Lb4] at h
   cases j with
   | zero=>exact⟨x,rfl,hx⟩
   | succ j =>
    refine fold_goal fun Z' Y'=>?_;obtain⟨y,h1,h2⟩:=run_in (f:=f) (l:=l) (j:=j) (by omega);refine Y' ?_;clear Y' Z';exact⟨y,by simpa using h1,h2⟩
theorem run_out{α:Type}{f:α→Bool}:∀ {l:List α},(∃ x,l[(l.takeWhile f).length]?=some x∧f x=false)∨l.length=(l.takeWhile f).length
 | []=>.inr rfl
 | x::l=>by
  rw[Lj6]
  cases hx:f x with
  | false=>exact .inl ⟨x,rfl,hx⟩
  | true =>
   rw[if_pos rfl,Lb4,Lb4]
   rcases run_out (f:=f) (l:=l) with ⟨y,h1,h2⟩ | h
   ·exact .inl ⟨y,by simpa using h1,h2⟩
   ·exact .inr (by omega)
theorem ok_end{f:Addr}{fd:FuncData}(F:Fun K "end_under" "end_under" sEnd f fd)(T:Txt mg):FnOk P w K mg base CX0 3 f fd ["own","first"] spEnd:=by
 refine F.ok scEnd (fun vs H Q E h=>?_) (fun cdv A outer s H vs Q E hr h=>?_)
 ·obtain⟨G,v,ps,i,rfl,_⟩:=h;rfl
 ·refine fold_goal fun Z' Y'=>?_;obtain⟨G,v,ps,i,rfl,sm,rv,hi,hl,k⟩:=h;refine Y' ?_;clear Y' Z';have nd:=scEnd.nd
  refine⟨_,(pss_cons (ps_set (i:=2) nd rfl (Or.inl rfl) (pe_op oc_add (pc 1) pe_int))
   (pss_cons (ps_while PassesOwn.never (PW.pt (pw_and (pt_c oc_lt (pc 2) (pe_callB cc_len rfl T.len bt_len (pa_cons (pc 0) pa_nil)) (nomark _)) (pw_and1 (pt_c oc_gt (pe_callB cc_len rfl T.len bt_len (pa_cons (pe_ix xc_list (pc 0) (pc 2) (fun _ _=>rfl)) pa_nil)) (pe_callB cc_len rfl T.len bt_len (pa_cons (pe_ix xc_list (pc 0) (pc 1) (fun _ _=>rfl)) pa_nil)) (nomark _)))))
    (pss_one (sc_aug (i:=2) nd rfl (Or.inl rfl) pe_int ic_add)))
   (pss_one (ps_ret (pc 2))))),?_⟩
  cases rv with
  | @lst oa ovs _ hoa rov =>
  have hoa2:=sm _ _ hoa;have hol:=rov.length;rw[La1] at hol
  have plen:∀ j (hj:j<ps.length),∃ qa,ovs[j]?=some (.ref qa)∧H qa=some (.lst (ps[j].map V.int)):=fun j hj=>by
   obtain⟨x,hx,rx⟩:=rov.get (i:=j) (d:=pathD ps[j]) (by rw[La6,La0 hj]; rfl);refine fold_goal fun Z' Y'=>?_;obtain⟨qa,rfl,hq⟩:=rx.path;refine Y' ?_;clear Y' Z';exact⟨qa,hx,sm _ _ hq⟩
  refine fold_goal fun Z' Y'=>?_;obtain⟨qi,hqi,hqi2⟩:=plen i hi;refine Y' ?_;clear Y' Z';have hgd:ps.getD i []=ps[i]:=by rw[La3,La0 hi]; rfl
  generalize hn:((ps.drop (i+1)).takeWhile fun q=>decide ((ps.getD i []).length<q.length)).length=n;have ek:endU ps i=i+1+n:=by unfold endU; rw[hn]
  rw[ek] at k;refine ?_;refine⟨fun m σ H2=>∃ j:Nat,σ=[some (.ref oa),some (.int (i:Int)),some (.int ((i+1+j:Nat):Int))]∧H2=H∧j≤n∧m=n - j,⟨_,0,(show [some (V.ref oa),some (V.int (i:Int)),some (V.int ((i:Int)+1))]=_ by rw[show ((i+1+0:Nat):Int)=(i:Int)+1 by omega]),rfl,Lb1 _,rfl⟩,?_⟩;intro m σ H2 hZp;refine fold_goal fun Z' Y'=>?_;obtain⟨j,rfl,rfl,hj,rfl⟩:=hZp;refine Y' ?_;clear Y' Z';refine⟨ovs,.inl (SqL.of hoa2),?_⟩
  by_cases hjn:j<n
  ·refine fold_goal fun Z' Y'=>?_;obtain⟨q,hq,hqf⟩:=run_in (l:=ps.drop (i+1)) (f:=fun q=>decide ((ps.getD i []).length<q.length)) (j:=j) (by omega);refine Y' ?_;clear Y' Z';rw[List.getElem?_drop] at hq;obtain⟨hlt,eq⟩:=La5.mp hq;have hqf:=of_decide_eq_true hqf;rw[hgd] at hqf;refine fold_goal fun Z' Y'=>?_;obtain⟨qa,hqa,hqa2⟩:=plen (i+1+j) hlt;refine Y' ?_;clear Y' Z';refine ite2 (fun _=>?_) (fun z=>absurd (decide_eq_true (by omega)) z);refine⟨ovs,_,SqL.of hoa2,atI_nat hqa,_,.inl (SqL.of hqa2),ovs,_,SqL.of hoa2,atI_nat hqi,_,.inl (SqL.of hqi2),?_⟩;refine ite2 (fun _=>?_) (fun z=>absurd (decide_eq_true (by rw[La1,La1,eq]; omega)) z);refine⟨fun σ' H'=>∃ m',m'<n - j∧∃ j:Nat,σ'=[some (.ref oa),some (.int (i:Int)),some (.int ((i+1+j:Nat):Int))]∧H'=H2∧j≤n∧m'=n - j,fun _ _ z=>z,?_⟩;refine⟨n - (j+1),by omega,j+1,?_,rfl,hjn,rfl⟩;have e:((i+1+j:Nat):Int)+1=((i+1+(j+1):Nat):Int):=by omega
   show [some (V.ref oa),some (V.int (i:Int)),some (V.int (((i+1+j:Nat):Int)+1))]=_
   rw[e]
  ·obtain rfl:j=n:=by omega
   rcases run_out (l:=ps.drop (i+1)) (f:=fun q=>decide ((ps.getD i []).length<q.length)) with ⟨q,hq,hqf⟩ | hq
   ·rw[hn,List.getElem?_drop] at hq;obtain⟨hlt,eq⟩:=La5.mp hq;have hqf:=of_decide_eq_false hqf;rw[hgd] at hqf;refine fold_goal fun Z' Y'=>?_;obtain⟨qa,hqa,hqa2⟩:=plen (i+1+j) hlt;refine Y' ?_;clear Y' Z';refine ite2 (fun _=>?_) (fun z=>absurd (decide_eq_true (by omega)) z);refine⟨ovs,_,SqL.of hoa2,atI_nat hqa,_,.inl (SqL.of hqa2),ovs,_,SqL.of hoa2,atI_nat hqi,_,.inl (SqL.of hqi2),?_⟩;refine ite2 (fun z=>absurd (of_decide_eq_true z) (by rw[La1,La1,eq]; omega)) (fun _=>?_);exact k
   ·rw[hn,Ld0] at hq;refine ite2 (fun z=>absurd (of_decide_eq_true z) (by omega)) (fun _=>?_);exact iteF k
end
end K8
namespace TT
open PySem PySem.Spec PyProof.Rows L2
theorem capOk_one{X:Cx}{scope:Scope}{N:List Str}{n j:Nat}(own:List Str)(x:Str)(hN:N=own++[x])(hn:n=own.length)(kind:scope.kind=.function)(cell:∀ y∈scope.names,y.2≠.cell)(names:∀ y∈scope.names,y.2=.local→scope.names.lookup y.1=some .local)
  (free:∀ y∈scope.names,y.2=.free→y.1=x) (hX:X.env.scope.names.lookup x=some .cell) (hj:X.N[j]?=some x) (hs:scope.names.lookup x=some .free):CapOk X scope N n [j] where
 kind:=kind
 cell:=cell
 names:=names
 len:=by rw[hN,hn,La2]; rfl
 free:=fun y hy hf=>by rw[free y hy hf]; exact hX
 caps:=fun i k h=>by
  cases i with
  | zero =>
   cases h
   exact⟨x,by rw[hN,hn]; simp,hj,hX,hs⟩
  | succ i=>simp at h
theorem cap_keep1{a x:V}{j:Nat}{v:V}(h:([none,some a]:L2.St)[j]?=some (some v)):([some x,some a]:L2.St)[j]?=some (some v):=by
 match j,h with
 | 0,h=>cases h
 | 1,h=>exact h
 | j+2,h=>simp at h
end TT
namespace K8
open PySem L2 TT
structure ClsTxt(K:PySem.W.Frag)(mg:Str→Option Value)(CO CC:Addr):Prop where
 clO:Cls K CO
 nM:NoAttr K CO "marks"
 nE:NoAttr K CO "ends"
 mO:mg "Outline"=some (.ref CO)
 clC:Cls K CC
 nS:NoAttr K CC "steps"
 nP:NoAttr K CC "pairs"
 nQ:NoAttr K CC "parts"
 mC:mg "Choice"=some (.ref CC)
section
variable {P:Program} {w:World} {K:PySem.W.Frag} {mg:Str→Option Value} {base:Heap}
inductive PspOut(C:Addr)(vs:List V)(H:Hp)(Q:VK):Prop
 | mk (G:Hp) (x dx:Addr) (v:V) (ts:List Tr):vs=[.ref x,v]→H x=some (.ins C dx [])→G x=none→Same G H→Rep G v (rowD ts)→knotsOf ts<64→(∀ (G' H':Hp) (m e:Addr),Same G G'→Same G' H'→(∀ b o,b≠x→H b=some o→H' b=some o∧G' b=G b)→G' x=none→H' x=some (.ins C dx [("marks",.ref m),("ends",.ref e)])→G' m=some (.lst ((marksL ts).map V.str))→G' e=some (.lst ((endsL ts).map fun (k:Nat)=>V.int (k:Int)))→Q .non H')→PspOut C vs H Q
def spOut(C:Addr):Sp:=fun vs H Q _=>PspOut C vs H Q
theorem scOut:FnScope ["self","row","own"] ["self","row"] (defScope sOutlineI):=scD rfl rfl rfl rfl
theorem nd_path:(["path","row"]:List Str).Nodup:=by decide +kernel
theorem nd_first:(["first","own"]:List Str).Nodup:=by decide +kernel
theorem strs_of:∀ {G:Hp} {vs:List V} {ms:List Str},Reps G vs (ms.map D.str)→vs=ms.map V.str
 | _,_,[],.nil=>rfl
 | _,_,m::ms,.cons (.str _) t=>by rw[Lc2,strs_of t]
theorem ok_outline{CO CC:Addr}{f:Addr}{fd:FuncData}(F:Fun K "__init__" "Outline.__init__" sOutlineI f fd)(T:Txt mg)(X:ClsTxt K mg CO CC)(F_paths:Ok1 P w K mg base 7 "paths" ["row"] spAll)(F_markat:Ok1 P w K mg base 9 "mark_at" ["row","path"] spMarkAt)
  (F_end:Ok1 P w K mg base 3 "end_under" ["own","first"] spEnd):FnOk P w K mg base CX0 11 f fd ["self","row"] (spOut CO):=by
 refine F.ok scOut (fun vs H Q E h=>?_) (fun cdv A outer s H vs Q E hr h=>?_)
 ·obtain⟨G,x,dx,v,ts,rfl,_⟩:=h;rfl
 ·refine fold_goal fun Z' Y'=>?_;obtain⟨G,x,dx,v,ts,rfl,hx,nGx,sm,rv,h64,k⟩:=h;refine Y' ?_;clear Y' Z';have nd:=scOut.nd;have big:=line_big
  refine⟨_,(pss_cons (ps_set (i:=2) nd rfl (Or.inr rfl) (pe_fn F_paths (hr.mono (by decide)) rfl (pa_cons (pc 1) pa_nil)))
   (pss_cons (ps_fld (pc 0) (pe_compC (N:=["path","row"]) (n:=1) (caps:=[1]) (g:=gName 0) (te:=tCall spMarkAt [] E0 (tCons (cVar 1) (tCons (cVar 0) tNil))) rfl (pi_list (pc 2)) (capOk_one ["path"] "row" rfl rfl rfl (by decide +kernel) (by decide +kernel) (by decide +kernel) rfl rfl rfl)
     (fun cl C s2 H2 fp=>pg_name (i:=0) nd_path rfl (Or.inl rfl) (.inr rfl)) (fun cl C s2 H2 fp=>pe_fn F_markat (hr.mono (by decide)) rfl (pa_cons (pc 1) (pa_cons (pc 0) pa_nil)))) rfl)
   (pss_one (ps_fld (pc 0) (pe_compC (N:=["first","own"]) (n:=1) (caps:=[2]) (g:=gName 0) (te:=tCall spEnd [] E0 (tCons (cVar 1) (tCons (cVar 0) tNil))) rfl (pi_range1 rfl T.range (pa_cons (pe_callB cc_len rfl T.len bt_len (pa_cons (pc 2) pa_nil)) pa_nil)) (capOk_one ["first"] "own" rfl rfl rfl (by decide +kernel) (by decide +kernel) (by decide +kernel) rfl rfl rfl)
     (fun cl C s2 H2 fp=>pg_name (i:=0) nd_first rfl (Or.inl rfl) (.inr rfl)) (fun cl C s2 H2 fp=>pe_fn F_end (hr.mono (by decide)) rfl (pa_cons (pc 1) (pa_cons (pc 0) pa_nil)))) rfl)))),?_⟩
  refine seq_gen fun Ra hna hra=>?_;refine⟨G,v,ts,rfl,sm,rv,h64,fun G1 H1 r1 ps x1 rr hperm hri=>hna _ _ ?_⟩;clear hna hra Ra;have eps:=sorted_pps hperm hri;subst eps;have hxH1:=x1.h _ _ hx;have nG1x:=x1.keep hx nGx;have hpl:=pps_length 0 ts;have rr0:=rr
  cases rr with
  | @lst oa ovs _ hoa rov =>
  have hol:=rov.length;rw[La1,hpl] at hol;have memp:∀ i (hi:i<knotsOf ts),(pps 0 ts)[i]'(by omega)∈pps 0 ts:=fun i hi=>Ld4 _;(try dsimp only);refine seq_gen fun Rb hnb hrb=>?_;refine⟨oa,rfl,⟨_,SqL.of (x1.gh _ _ hoa)⟩,?_⟩
  refine comp_fill (J:=Itl K oa) (knotsOf ts) (fun i=>.str (markF ts ((pps 0 ts).getD i []))) x1.gh (by omega)
   (fun i H2 hi s2=>⟨ovs,ovs[i]'(by omega),SqL.of (s2 _ _ (x1.gh _ _ hoa)),La0 _⟩) (fun H2 s2=>⟨ovs,SqL.of (s2 _ _ (x1.gh _ _ hoa)),by omega⟩) ?_ ?_
  ·rintro i y H2 H3 hi s2 ⟨rfl,hy⟩;refine⟨rfl,fun G2 xx R kR=>?_⟩;have hy:=hy ovs (SqL.of (s2 _ _ (x1.gh _ _ hoa)));refine fold_goal fun Z' Y'=>?_;obtain⟨d,hd,rd⟩:=rov.at hy;refine Y' ?_;clear Y' Z';have hip:i<(pps 0 ts).length:=by omega
   rw[La6,La0 hip] at hd;cases hd;refine fold_goal fun Z' Y'=>?_;obtain⟨bs,t,hne,hdn,h0,ht⟩:=pps_knot (memp i hi);refine Y' ?_;clear Y' Z';have hmem:=memp i hi;obtain⟨u,hu'⟩:=down_pps _ ts (La4 _) [] _ hmem;have hsome:(down ts (pps 0 ts)[i]).isSome=true:=by rw[show ([]:List Tr)++ts=ts from rfl] at hu'; rw[hu']; rfl
   have hlp:=path_len _ ts hsome
   have eF:markF ts ((pps 0 ts).getD i [])=t.mark:=by
    rw[La3,La0 hip]
    show markF ts (pps 0 ts)[i]=t.mark
    unfold markF;rw[hdn];dsimp only;rw[ht]
   refine⟨fun j v' hj=>cap_keep1 hj,G2,v,y,ts,bs,(pps 0 ts)[i],t,rfl,xx.gh,(rv.mono x1.g).mono xx.g,rd.mono xx.g,hne,hdn,h0,ht,by omega,fun G' H' x'=>kR G' H' _ x' ?_⟩;rw[eF];exact .str _
  intro G2 H2 m x2 rm
  have hm:G2 m=some (.lst ((marksL ts).map V.str)):=by
   cases rm with
   | lst h t =>
    have e:(List.range (knotsOf ts)).map (fun i=>D.str (markF ts ((pps 0 ts).getD i [])))=(marksL ts).map D.str:=by
     have e0:=congrArg (List.map fun p=>D.str (markF ts p)) (pick_range (pps 0 ts) []);rw[Ld7,hpl] at e0;unfold marksL;rw[Ld7];exact e0
    rw[e] at t;rw[strs_of t] at h;exact h
  have hxH2:=x2.h _ _ hxH1;have nG2x:=x2.keep hxH1 nG1x;refine⟨x,CO,dx,[],rfl,hxH2,X.clO,X.nM,by decide,hnb _ _ ?_⟩;clear hnb hrb Rb;have sm3:Same G2 (upd H2 x (.ins CO dx (putF "marks" (.ref m) []))):=same_mut x2.gh nG2x;have hx3:upd H2 x (.ins CO dx (putF "marks" (.ref m) [])) x=some (.ins CO dx [("marks",.ref m)]):=upd_same;have kp3:∀ b o,b≠x→H2 b=some o→upd H2 x (.ins CO dx (putF "marks" (.ref m) [])) b=some o:=fun b o hb e=>by rw[upd_ne hb]; exact e
  generalize upd H2 x (.ins CO dx (putF "marks" (.ref m) []))=H3 at *;have hoa3:=sm3 _ _ (x2.g _ _ hoa);refine⟨ovs,.inl (SqL.of hoa3),_,rfl,by omega,by omega,?_⟩;refine comp_fill (J:=Itr 0 (Int.toNat (ovs.length:Int))) (knotsOf ts) (fun i=>.int (endU (pps 0 ts) i:Int)) sm3 (by omega) (fun i H2 hi _=>?_) (fun H2 _=>?_) ?_ ?_
  ·show i<(Int.toNat (ovs.length:Int))
   rw[Ld3]; omega
  ·show (Int.toNat (ovs.length:Int))≤knotsOf ts
   rw[Ld3]; omega
  ·rintro i y H4 H5 hi s4 ⟨rfl,rfl⟩;refine⟨rfl,fun G4 xx R kR=>?_⟩;refine⟨fun j v' hj=>cap_keep1 hj,G4,.ref oa,pps 0 ts,i,?_,xx.gh,(rr0.mono x2.g).mono xx.g,by omega,by omega,kR G4 _ _ (Ext.refl xx.gh) (.int _)⟩;rw[Lj8];rfl
  intro G4 H4 e x4 re
  have he:G4 e=some (.lst ((endsL ts).map fun (k:Nat)=>V.int (k:Int))):=by
   cases re with
   | lst h t =>
    have e:(List.range (knotsOf ts)).map (fun i=>D.int (endU (pps 0 ts) i:Int))=((endsL ts).map fun (k:Nat)=>(k:Int)).map D.int:=by
     unfold endsL;rw[hpl,Ld7,Ld7];rfl
    rw[e] at t;rw[reps_ints t,Ld7] at h;exact h
  have hxH4:=x4.h _ _ hx3;have nG4x:=x4.keep hx3 nG2x;refine⟨x,CO,dx,_,rfl,hxH4,X.clO,X.nE,by show 1<1000; decide,?_⟩;refine k G4 _ m e ((x1.g.trans x2.g).trans x4.g) (same_mut x4.gh nG4x) (fun b o hb hbo=>⟨?_,?_⟩) nG4x ?_ (x4.g _ _ hm) he
  ·rw[upd_ne hb];exact x4.h _ _ (kp3 b o hb (x2.h _ _ (x1.h _ _ hbo)))
  ·rw[x4.new b o (kp3 b o hb (x2.h _ _ (x1.h _ _ hbo))),x2.new b o (x1.h _ _ hbo),x1.new b o hbo]
  ·rw[upd_same];rfl
theorem make_outline{C:Addr}{G H:Hp}{v:V}{ts:List Tr}{Q:VK}{E:XK}(sm:Same G H)(rv:Rep G v (rowD ts))(h64:knotsOf ts<64)(k:∀ (G' H':Hp) (r:V),Ext G H G' H'→OutRep C G' r (marksL ts) (endsL ts)→Q r H') :
  ∀ x dx,H x=none→H dx=none→dx≠x→spOut C (.ref x::([v]++[])) (upd (upd H dx (.own x)) x (.ins C dx [])) (fun v H2=>v=.non∧Q (.ref x) H2) E:=by
 intro x dx nx ndx nex
 have s0:Same H (upd (upd H dx (.own x)) x (.ins C dx [])):=fun b o e=>by
  rw[upd_ne (ne_of_none e nx),upd_ne (ne_of_none e ndx)];exact e
 refine⟨G,x,dx,v,ts,rfl,upd_same,sm.none nx,sm.trans s0,rv,h64,fun G' H' m e g gh kp ngx hx hm he=>⟨rfl,?_⟩⟩;have g2:Same G' (upd G' x (.ins C dx [("marks",.ref m),("ends",.ref e)])):=same_upd ngx;refine k (upd G' x (.ins C dx [("marks",.ref m),("ends",.ref e)])) H' (.ref x) ⟨g.trans g2,fun b o eb=>?_,fun b o eb=>(kp b o (ne_of_none eb nx) (s0 b o eb)).1,fun b o eb=>?_⟩ ⟨x,dx,m,e,rfl,upd_same,g2 _ _ hm,g2 _ _ he⟩
 ·by_cases hb:b=x
  ·subst hb;rw[upd_same] at eb;cases eb;exact hx
  ·rw[upd_ne hb] at eb;exact gh b o eb
 ·rw[upd_ne (ne_of_none eb nx)];exact (kp b o (ne_of_none eb nx) (s0 b o eb)).2
end
end K8
namespace TT
open PySem PySem.Spec PyProof.Rows L2
theorem capOk_none{X:Cx}{scope:Scope}{N:List Str}{n:Nat}(hn:N.length=n)(kind:scope.kind=.function)(cell:∀ y∈scope.names,y.2≠.cell)(names:∀ y∈scope.names,y.2=.local→scope.names.lookup y.1=some .local)
  (free:∀ y∈scope.names,y.2≠.free):CapOk X scope N n [] where
 kind:=kind
 cell:=cell
 names:=names
 len:=hn
 free:=fun y hy hf=>absurd hf (free y hy)
 caps:=fun i k h=>by simp at h
def sumN(cs:List Ch):Nat:=(cs.map Ch.n).sum
theorem sumN_int:∀ cs:List Ch,(cs.map fun c=>(c.n:Int)).sum=(sumN cs:Int)
 | []=>rfl
 | c::cs=>by
  unfold sumN;rw[Lc2,Lc2,List.sum_cons,List.sum_cons,sumN_int cs];unfold sumN;omega
end TT
namespace K8
open PySem L2 TT
section
variable {P:Program} {w:World} {K:PySem.W.Frag} {mg:Str→Option Value} {base:Heap}
inductive PspChoice(C:Addr)(vs:List V)(H:Hp)(Q:VK):Prop
 | mk (G:Hp) (x dx q:Addr) (n:Nat) (pv:V) (cvs:List V) (cs:List Ch):vs=[.ref x,.int (n:Int),pv,.ref q]→H x=some (.ins C dx [])→G x=none→Same G H→G q=some (.lst cvs)→RepCs C G cvs cs→cs.length≤1000→(∀ H':Hp,Same G H'→(∀ b o,b≠x→H b=some o→H' b=some o)→H' x=some (.ins C dx [("steps",.int ((n+sumN cs:Nat):Int)),("pairs",pv),("parts",.ref q)])→Q .non H')→PspChoice C vs H Q
def spChoice(C:Addr):Sp:=fun vs H Q _=>PspChoice C vs H Q
theorem scChoice:FnScope ["self","steps","pairs","parts"] ["self","steps","pairs","parts"] (defScope sChoiceI):=scD rfl rfl rfl rfl
theorem nd_part:(["part"]:List Str).Nodup:=by decide +kernel
theorem ok_choice{CO CC:Addr}{f:Addr}{fd:FuncData}(F:Fun K "__init__" "Choice.__init__" sChoiceI f fd)(T:Txt mg)(X:ClsTxt K mg CO CC):FnOk P w K mg base CX0 3 f fd ["self","steps","pairs","parts"] (spChoice CC):=by
 refine F.ok scChoice (fun vs H Q E h=>?_) (fun cdv A outer s H vs Q E hr h=>?_)
 ·obtain⟨G,x,dx,q,n,pv,cvs,cs,rfl,_⟩:=h;rfl
 ·refine fold_goal fun Z' Y'=>?_;obtain⟨G,x,dx,q,n,pv,cvs,cs,rfl,hx,nGx,sm,hq,rcs,hcl,k⟩:=h;refine Y' ?_;clear Y' Z';have nd:=scChoice.nd;have big:=line_big;have hl:=rcs.length
  refine⟨_,(pss_cons (ps_fld (L2.pv 0) (pe_op op_add (L2.pv 1) (pe_callB (call_sum rfl) rfl T.sum bt_sum (pa_cons (pe_compC (N:=["part"]) (n:=1) (caps:=[]) (g:=gName 0) (te:=tFld K (tVar 0) "steps") rfl (pi_list (L2.pv 3)) (capOk_none rfl rfl (by decide +kernel) (by decide +kernel) (by decide +kernel))
     (fun cl C s2 H2 fp=>pg_name (i:=0) nd_part rfl (Or.inl rfl) (.inr rfl)) (fun cl C s2 H2 fp=>pe_fld (L2.pv 0) rfl)) pa_nil))) rfl)
   (pss_cons (ps_fld (L2.pv 0) (L2.pv 2) rfl)
   (pss_one (ps_fld (L2.pv 0) (L2.pv 3) rfl)))),?_⟩
  refine⟨_,rfl,_,rfl,q,rfl,⟨_,SqL.of (sm _ _ hq)⟩,?_⟩
  refine comp_fill (J:=Itl K q) cs.length (fun i=>.int (((cs.map Ch.n).getD i 0:Nat):Int)) sm hcl
   (fun i H2 hi s2=>⟨cvs,cvs[i]'(by omega),SqL.of (s2 _ _ (sm _ _ hq)),La0 _⟩) (fun H2 s2=>⟨cvs,SqL.of (s2 _ _ (sm _ _ hq)),by omega⟩) ?_ ?_
  ·rintro i y H2 H3 hi s2 ⟨rfl,hy⟩;refine⟨rfl,fun G2 xx R kR=>?_⟩;have hy:=hy cvs (SqL.of (s2 _ _ (sm _ _ hq)));refine fold_goal fun Z' Y'=>?_;obtain⟨c,hc,rc⟩:=rcs.at hy;refine Y' ?_;clear Y' Z';refine fold_goal fun Z' Y'=>?_;obtain⟨cx,cdx,cp,cq,rfl,hcx⟩:=rc.steps;refine Y' ?_;clear Y' Z';refine⟨fun j v hj=>?_,_,rfl,cx,CC,cdx,_,_,rfl,xx.gh _ _ (xx.g _ _ hcx),X.clC,X.nS,rfl,kR G2 _ _ (Ext.refl xx.gh) ?_⟩
   ·match j,hj with
    | 0,hj=>cases hj
    | j+1,hj=>simp[cap0] at hj
   ·have e:(cs.map Ch.n).getD i 0=c.n:=by rw[La3,La6,hc]; rfl
    rw[e];exact .int _
  intro G2 H2 l x2 rl
  have hl2:H2 l=some (.lst ((cs.map fun c=>(c.n:Int)).map V.int)):=by
   cases rl with
   | lst h t =>
    have e:(List.range cs.length).map (fun i=>D.int (((cs.map Ch.n).getD i 0:Nat):Int))=(cs.map fun c=>(c.n:Int)).map D.int:=by
     have e0:=congrArg (List.map fun (m:Nat)=>D.int (m:Int)) (pick_range (cs.map Ch.n) 0);rw[Ld7,La1,Ld7] at e0;rw[Ld7];exact e0
    rw[e] at t;rw[reps_ints t] at h;exact x2.gh _ _ h
  refine⟨l,cs.map fun c=>(c.n:Int),rfl,SqL.of hl2,_,_,rfl,rfl,_,rfl,x,CC,dx,[],rfl,x2.h _ _ hx,X.clC,X.nS,by decide,?_⟩;rw[sumN_int];have e1:(n:Int)+(sumN cs:Int)=((n+sumN cs:Nat):Int):=by omega
  refine⟨_,rfl,_,rfl,x,CC,dx,_,rfl,upd_same,X.clC,X.nP,by show 1<1000; decide,?_⟩;refine⟨_,rfl,_,rfl,x,CC,dx,_,rfl,upd_same,X.clC,X.nQ,by show 2<1000; decide,?_⟩;have nG2x:=x2.keep hx nGx;refine k _ (fun b o e=>?_) (fun b o hb e=>?_) ?_
  ·have hb:b≠x:=fun z=>by subst z; rw[nGx] at e; cases e
   rw[upd_ne hb,upd_ne hb,upd_ne hb];exact x2.gh _ _ (x2.g _ _ e)
  ·rw[upd_ne hb,upd_ne hb,upd_ne hb];exact x2.h _ _ e
  ·rw[upd_same,← e1];rfl
theorem make_choice{C:Addr}{G H:Hp}{p q:Addr}{n:Nat}{ps:List (Nat×Nat)}{pvs cvs:List V}{cs:List Ch}{Q:VK}{E:XK}(sm:Same G H)(hp:G p=some (.lst pvs))(hps:Reps G pvs (ps.map pairD))(hq:G q=some (.lst cvs))(rcs:RepCs C G cvs cs)(hcl:cs.length≤1000)
  (k:∀ (G' H':Hp) (r:V),Ext G H G' H'→RepC C G' r (.mk (n+sumN cs) ps cs)→Q r H') :
  ∀ x dx,H x=none→H dx=none→dx≠x→spChoice C (.ref x::([.int (n:Int),.ref p,.ref q]++[])) (upd (upd H dx (.own x)) x (.ins C dx [])) (fun v H2=>v=.non∧Q (.ref x) H2) E:=by
 intro x dx nx ndx nex
 have s0:Same H (upd (upd H dx (.own x)) x (.ins C dx [])):=fun b o e=>by
  rw[upd_ne (ne_of_none e nx),upd_ne (ne_of_none e ndx)];exact e
 have ngx:G x=none:=sm.none nx;refine⟨G,x,dx,q,n,.ref p,cvs,cs,rfl,upd_same,ngx,sm.trans s0,hq,rcs,hcl,fun H' gh kp hx=>⟨rfl,?_⟩⟩;have g2:Same G (upd G x (.ins C dx [("steps",.int ((n+sumN cs:Nat):Int)),("pairs",.ref p),("parts",.ref q)])):=same_upd ngx
 refine k (upd G x (.ins C dx [("steps",.int ((n+sumN cs:Nat):Int)),("pairs",.ref p),("parts",.ref q)])) H' (.ref x) ⟨g2,fun b o eb=>?_,fun b o eb=>kp b o (ne_of_none eb nx) (s0 b o eb),fun b o eb=>by rw[upd_ne (ne_of_none eb nx)]⟩
  (.mk upd_same (g2 _ _ hp) (hps.mono g2) (g2 _ _ hq) (rcs.mono g2))
 by_cases hb:b=x
 ·subst hb;rw[upd_same] at eb;cases eb;exact hx
 ·rw[upd_ne hb] at eb;exact gh b o eb
end
end K8
namespace TT
open PySem PySem.Spec PyProof.Rows L2
theorem Rep.pair{G:Hp}{v:V}{s:Nat×Nat}(r:Rep G v (pairD s)):∃ a,v=.ref a∧G a=some (.tup [.int (s.1:Int),.int (s.2:Int)]):=by
 cases r with
 | tup h t=>cases t with
  | cons r1 t=>cases t with
   | cons r2 t =>
    cases t; cases r1; cases r2;exact⟨_,rfl,h⟩
theorem pair_rep{G:Hp}{a:Addr}{i j:Nat}(h:G a=some (.tup [.int (i:Int),.int (j:Int)])):Rep G (.ref a) (pairD (i,j)):=.tup h (.cons (.int _) (.cons (.int _) .nil))
theorem keyD_ok(s o:Nat×Nat):KeyD (keyD s o):=⟨rfl,by show (2:Nat)≤8; decide,_,rfl⟩
theorem hu9_of{A:Around}{k:Nat}(hr:Room k A):A.units+9<cLine:=by
 have:=hr.un;omega
structure MkR(P:Program)(w:World)(K:PySem.W.Frag)(mg:Str→Option Value)(base:Heap)(k:Nat)(x:Str)(C:Addr)(ps:List Str)(sp:Sp):Prop where
 ex:∃ (f:Addr) (fd:FuncData),Mk K C f∧FnOk P w K mg base CX0 k f fd ps sp∧mg x=some (.ref C)∧Binds K fd ps []
theorem pe_mk{X:Cx}{k:Nat}{x:Str}{C:Addr}{ps:List Str}{sp:Sp}{e:Expr}{es:List Expr}{t:TA}{p pos:Pos}(F:MkR X.prog X.w X.K X.mg X.base k x C ps sp)(hr:Room (k+1) X.A)(hg:Gl X x)(ha:PA X (e::es) t)
  (hdb:(x == ("__debug__":Str))=false:=by decide) (he:starEach (e::es) X.env=(false,eval e X.env)::starEach es X.env:=by rfl) (hpl:(backTo pos (starEach es X.env)).any (·.1)=false:=by rfl) :
  PE X (.Call (.Name x p) (e::es) [] pos) (tMake C sp [] E0 t):=by
 refine fold_goal fun Z' Y'=>?_;obtain⟨f,fd,M,F,hm,hb⟩:=F.ex;refine Y' ?_;clear Y' Z';exact pe_make M F hr hg hm hb .nil pass0 ha hdb he hpl
end TT
namespace K8
open PySem L2 TT
section
variable {P:Program} {w:World} {K:PySem.W.Frag} {mg:Str→Option Value} {base:Heap}
inductive PspWhole(C:Addr)(vs:List V)(H:Hp)(Q:VK):Prop
 | mk (G:Hp) (v:V) (ms:List Str) (es:List Nat):vs=[v]→Same G H→OutRep C G v ms es→(∀ (G' H':Hp) (r:V),Ext G H G' H'→Rep G' r (pairD (0,ms.length))→Q r H')→PspWhole C vs H Q
def spWhole(C:Addr):Sp:=fun vs H Q _=>PspWhole C vs H Q
theorem scWhole:FnScope ["outline"] ["outline"] (defScope sWhole):=scD rfl rfl rfl rfl
theorem ok_whole{CO CC:Addr}{f:Addr}{fd:FuncData}(F:Fun K "whole" "whole" sWhole f fd)(T:Txt mg)(X:ClsTxt K mg CO CC):FnOk P w K mg base CX0 3 f fd ["outline"] (spWhole CO):=by
 refine F.ok scWhole (fun vs H Q E h=>?_) (fun cdv A outer s H vs Q E hr h=>?_)
 ·obtain⟨G,v,ms,es,rfl,_⟩:=h;rfl
 ·refine fold_goal fun Z' Y'=>?_;obtain⟨G,v,ms,es,rfl,sm,⟨x,dx,m,e,rfl,hx,hm,he⟩,k⟩:=h;refine Y' ?_;clear Y' Z';refine⟨_,(pss_one (ps_ret (pe_tup (pa_cons pe_int (pa_cons (pe_callB cc_len rfl T.len bt_len (pa_cons (pe_fld (pc 0) rfl) pa_nil)) pa_nil))))),?_⟩;refine⟨x,CO,dx,_,_,rfl,sm _ _ hx,X.clO,X.nM,rfl,_,.inl (SqL.of (sm _ _ hm)),(by show 2≤sizeLine; decide),fun q g=>?_⟩;rw[La1];exact k _ _ _ (Ext.add sm g) (pair_rep upd_same)
inductive PspUnder(C:Addr)(vs:List V)(H:Hp)(Q:VK):Prop
 | mk (G:Hp) (v:V) (ms:List Str) (es:List Nat) (i j:Nat):vs=[v,.int (i:Int)]→Same G H→OutRep C G v ms es→es[i]?=some j→(∀ (G' H':Hp) (r:V),Ext G H G' H'→Rep G' r (pairD (i+1,j))→Q r H')→PspUnder C vs H Q
def spUnder(C:Addr):Sp:=fun vs H Q _=>PspUnder C vs H Q
theorem scUnder:FnScope ["outline","first"] ["outline","first"] (defScope sUnder):=scD rfl rfl rfl rfl
theorem ends_at{es:List Nat}{i j:Nat}(h:es[i]?=some j):atI (es.map fun (k:Nat)=>V.int (k:Int)) (i:Int)=some (.int (j:Int)):=atI_nat (by rw[La6,h]; rfl)
theorem ok_under{CO CC:Addr}{f:Addr}{fd:FuncData}(F:Fun K "under" "under" sUnder f fd)(X:ClsTxt K mg CO CC):FnOk P w K mg base CX0 3 f fd ["outline","first"] (spUnder CO):=by
 refine F.ok scUnder (fun vs H Q E h=>?_) (fun cdv A outer s H vs Q E hr h=>?_)
 ·obtain⟨G,v,ms,es,i,j,rfl,_⟩:=h;rfl
 ·refine fold_goal fun Z' Y'=>?_;obtain⟨G,v,ms,es,i,j,rfl,sm,⟨x,dx,m,e,rfl,hx,hm,he⟩,hj,k⟩:=h;refine Y' ?_;clear Y' Z';refine⟨_,(pss_one (ps_ret (pe_tup (pa_cons (pe_op oc_add (pc 1) pe_int) (pa_cons (pe_ix xc_list (pe_fld (pc 0) rfl) (pc 1) (fun _ _=>rfl)) pa_nil))))),?_⟩;refine⟨x,CO,dx,_,_,rfl,sm _ _ hx,X.clO,X.nE,rfl,_,_,SqL.of (sm _ _ he),ends_at hj,(by show 2≤sizeLine; decide),fun q g=>?_⟩;exact k _ _ _ (Ext.add sm g) (pair_rep upd_same)
inductive PspRight(C:Addr)(vs:List V)(H:Hp)(Q:VK):Prop
 | mk (G:Hp) (v u:V) (ms:List Str) (es:List Nat) (i e j:Nat):vs=[v,u]→Same G H→OutRep C G v ms es→Rep G u (pairD (i,e))→es[i]?=some j→(∀ (G' H':Hp) (r:V),Ext G H G' H'→Rep G' r (pairD (j,e))→Q r H')→PspRight C vs H Q
def spRight(C:Addr):Sp:=fun vs H Q _=>PspRight C vs H Q
theorem scRight:FnScope ["outline","stretch"] ["outline","stretch"] (defScope sRight):=scD rfl rfl rfl rfl
theorem ok_right{CO CC:Addr}{f:Addr}{fd:FuncData}(F:Fun K "right_of" "right_of" sRight f fd)(X:ClsTxt K mg CO CC):FnOk P w K mg base CX0 3 f fd ["outline","stretch"] (spRight CO):=by
 refine F.ok scRight (fun vs H Q E h=>?_) (fun cdv A outer s H vs Q E hr h=>?_)
 ·obtain⟨G,v,u,ms,es,i,e,j,rfl,_⟩:=h;rfl
 ·refine fold_goal fun Z' Y'=>?_;obtain⟨G,v,u,ms,es,i,e,j,rfl,sm,⟨x,dx,m,ea,rfl,hx,hm,he⟩,ru,hj,k⟩:=h;refine Y' ?_;clear Y' Z';refine fold_goal fun Z' Y'=>?_;obtain⟨sa,rfl,hsa⟩:=ru.pair;refine Y' ?_;clear Y' Z';refine⟨_,(pss_one (ps_ret (pe_tup (pa_cons (pe_ix xc_list (pe_fld (pc 0) rfl) (pe_ix xc_tup (pc 1) pe_int (fun _ _=>rfl)) (fun _ _=>rfl)) (pa_cons (pe_ix xc_tup (pc 1) pe_int (fun _ _=>rfl)) pa_nil))))),?_⟩;refine⟨x,CO,dx,_,_,rfl,sm _ _ hx,X.clO,X.nE,rfl,_,_,SqT.of (sm _ _ hsa),atI_nat (j:=0) rfl,_,_,SqL.of (sm _ _ he),ends_at hj,_,_,SqT.of (sm _ _ hsa),atI_nat (j:=1) rfl,(by show 2≤sizeLine; decide),fun q g=>?_⟩;exact k _ _ _ (Ext.add sm g) (pair_rep upd_same)
inductive PspWithout(vs:List V)(H:Hp)(Q:VK):Prop
 | mk (G:Hp) (u:V) (i e:Nat):vs=[u]→Same G H→Rep G u (pairD (i,e))→(∀ (G' H':Hp) (r:V),Ext G H G' H'→Rep G' r (pairD (i+1,e))→Q r H')→PspWithout  vs H Q
def spWithout:Sp:=fun vs H Q _=>PspWithout  vs H Q
theorem scWithout:FnScope ["stretch"] ["stretch"] (defScope sWithout):=scD rfl rfl rfl rfl
theorem ok_without{f:Addr}{fd:FuncData}(F:Fun K "without_first" "without_first" sWithout f fd):FnOk P w K mg base CX0 3 f fd ["stretch"] spWithout:=by
 refine F.ok scWithout (fun vs H Q E h=>?_) (fun cdv A outer s H vs Q E hr h=>?_)
 ·obtain⟨G,u,i,e,rfl,_⟩:=h;rfl
 ·refine fold_goal fun Z' Y'=>?_;obtain⟨G,u,i,e,rfl,sm,ru,k⟩:=h;refine Y' ?_;clear Y' Z';refine fold_goal fun Z' Y'=>?_;obtain⟨sa,rfl,hsa⟩:=ru.pair;refine Y' ?_;clear Y' Z';refine⟨_,(pss_one (ps_ret (pe_tup (pa_cons (pe_op oc_add (pe_ix xc_tup (pc 0) pe_int (fun _ _=>rfl)) pe_int) (pa_cons (pe_ix xc_tup (pc 0) pe_int (fun _ _=>rfl)) pa_nil))))),?_⟩;refine⟨_,_,SqT.of (sm _ _ hsa),atI_nat (j:=0) rfl,_,_,SqT.of (sm _ _ hsa),atI_nat (j:=1) rfl,(by show 2≤sizeLine; decide),fun q g=>?_⟩;exact k _ _ _ (Ext.add sm g) (pair_rep upd_same)
inductive PspStay(P:Program)(w:World)(CO CC:Addr)(vs:List V)(H:Hp)(Q:VK):Prop
 | mk (G:Hp) (ab:Addr) (xs:NTab) (hv tv sv ov bv rv:V) (ms ms':List Str) (es es':List Nat) (i e k f j l:Nat) (m m':Str) (b r:Ch):vs=[.ref ab,hv,tv,sv,ov]→Same G H→H ab=some (NO P w ab xs)→NKeys G xs→OutRep CO G hv ms es→OutRep CO G tv ms' es'→Rep G sv (pairD (i,e))→Rep G ov (pairD (k,f))→es[i]?=some j→es'[k]?=some l→ms[i]?=some m→ms'[k]?=some m'→look xs (keyD (i+1,j) (k+1,l))=some bv→RepC CC G bv b→look xs (keyD (j,e) (l,f))=some rv→RepC CC G rv r→(∀ (G' H':Hp) (c:V),Ext G H G' H'→RepC CC G' c (.mk ((if ms[i]?=ms'[k]? then 0 else 1)+sumN [b,r]) [(i,k)] [b,r])→Q c H')→PspStay P w CO CC vs H Q
def spStay(P:Program)(w:World)(CO CC:Addr):Sp:=fun vs H Q _=>PspStay P w CO CC vs H Q
theorem scStay:FnScope ["best","here","there","stretch","opposite","first","second","below","beside","steps"] ["best","here","there","stretch","opposite"] (defScope sStaying):=scD rfl rfl rfl rfl
theorem ok_stay{CO CC:Addr}{f:Addr}{fd:FuncData}(F:Fun K "staying" "staying" sStaying f fd)(X:ClsTxt K mg CO CC)(F_under:Ok1 P w K mg base 3 "under" ["outline","first"] (spUnder CO))(F_right:Ok1 P w K mg base 3 "right_of" ["outline","stretch"] (spRight CO))
  (F_ch:MkR P w K mg base 3 "Choice" CC ["self","steps","pairs","parts"] (spChoice CC)):FnOk P w K mg base CX0 5 f fd ["best","here","there","stretch","opposite"] (spStay P w CO CC):=by
 refine F.ok scStay (fun vs H Q E h=>?_) (fun cdv A outer s H vs Q E hr h=>?_)
 ·obtain⟨G,ab,xs,hv,tv,sv,ov,bv,rv,ms,ms',es,es',i,e,k,f,j,l,m,m',b,r,rfl,_⟩:=h;rfl
 ·refine fold_goal fun Z' Y'=>?_;obtain⟨G,ab,xs,hv,tv,sv,ov,bv,rv,ms,ms',es,es',i,e,k,f,j,l,m,m',b,r,rfl,sm,hab,nk,oh,ot,rs,ro,hj,hl,hmi,hmk,lb,rb,lr,rr,kq⟩:=h;refine Y' ?_;clear Y' Z';have nd:=scStay.nd;have hun:=hr.un;have hu9:=hu9_of hr
  refine⟨_,(pss_cons (ps_set (i:=5) nd rfl (Or.inl rfl) (pe_ix xc_tup (pc 3) pe_int (fun _ _=>rfl)))
   (pss_cons (ps_set (i:=6) nd rfl (Or.inl rfl) (pe_ix xc_tup (pc 4) pe_int (fun _ _=>rfl)))
   (pss_cons (ps_set (i:=7) nd rfl (Or.inl rfl) (pe_nget hu9 (pc 0) (pe_tup (pa_cons (pe_fn F_under (hr.mono (by decide)) rfl (pa_cons (pc 1) (pa_cons (pc 5) pa_nil))) (pa_cons (pe_fn F_under (hr.mono (by decide)) rfl (pa_cons (pc 2) (pa_cons (pc 6) pa_nil))) pa_nil))) (fun _ _=>rfl)))
   (pss_cons (ps_set (i:=8) nd rfl (Or.inl rfl) (pe_nget hu9 (pc 0) (pe_tup (pa_cons (pe_fn F_right (hr.mono (by decide)) rfl (pa_cons (pc 1) (pa_cons (pc 3) pa_nil))) (pa_cons (pe_fn F_right (hr.mono (by decide)) rfl (pa_cons (pc 2) (pa_cons (pc 4) pa_nil))) pa_nil))) (fun _ _=>rfl)))
   (pss_cons (ps_mid (ps_set (i:=9) nd rfl (Or.inl rfl) (pe_ifExp (pt_c op_eq (pe_ix xc_list (pe_fld (pc 1) rfl) (pc 5) (fun _ _=>rfl)) (pe_ix xc_list (pe_fld (pc 2) rfl) (pc 6) (fun _ _=>rfl)) (nomark _)) pe_int pe_int)))
   (pss_one (ps_ret (pe_mk F_ch (hr.mono (by decide)) rfl (pa_cons (pc 9) (pa_cons (pe_lst (pa_cons (pe_tup (pa_cons (pc 5) (pa_cons (pc 6) pa_nil))) pa_nil)) (pa_cons (pe_lst (pa_cons (pc 7) (pa_cons (pc 8) pa_nil))) pa_nil))))))))))),?_⟩
  refine fold_goal fun Z' Y'=>?_;obtain⟨sa,rfl,hsa⟩:=rs.pair;refine Y' ?_;clear Y' Z';refine fold_goal fun Z' Y'=>?_;obtain⟨oa,rfl,hoa⟩:=ro.pair;refine Y' ?_;clear Y' Z';refine⟨_,_,SqT.of (sm _ _ hsa),atI_nat (j:=0) rfl,?_⟩;refine⟨_,_,SqT.of (sm _ _ hoa),atI_nat (j:=0) rfl,?_⟩;(try dsimp only);refine seq_gen fun Ra hna hra=>?_;refine⟨G,hv,ms,es,i,j,rfl,sm,oh,hj,fun G1 H1 r1 x1 rr1=>⟨G1,tv,ms',es',k,l,rfl,x1.gh,ot.mono x1.g,hl,fun G2 H2 r2 x2 rr2=>⟨by show 2≤sizeLine; decide,fun q g=>?_⟩⟩⟩;have x12:=x1.trans x2;have y3:=Ext.add (o:=.tup [r1,r2]) x12.gh g;have x3:=x12.trans y3;refine⟨ab,q,xs,_,keyD (i+1,j) (k+1,l),bv,rfl,rfl,x3.h _ _ hab,x3.gh,nk.mono x3.g,.tup upd_same (.cons ((rr1.mono x2.g).mono y3.g) (.cons (rr2.mono y3.g) .nil)),keyD_ok _ _,lb,?_⟩;generalize upd G2 q (.tup [r1,r2])=G3 at *;generalize upd H2 q (.tup [r1,r2])=H3 at *;clear y3 x12;refine hna _ _ ?_;clear hna hra Ra;(try dsimp only);refine seq_gen fun Rb hnb hrb=>?_;refine⟨G3,hv,_,ms,es,i,e,j,rfl,x3.gh,oh.mono x3.g,(pair_rep hsa).mono x3.g,hj,fun G4 H4 r4 x4 rr4=>⟨G4,tv,_,ms',es',k,f,l,rfl,x4.gh,ot.mono (x3.g.trans x4.g),(pair_rep hoa).mono (x3.g.trans x4.g),hl,fun G5 H5 r5 x5 rr5=>⟨by show 2≤sizeLine; decide,fun q6 g6=>?_⟩⟩⟩;have x35:=(x3.trans x4).trans x5;have y6:=Ext.add (o:=.tup [r4,r5]) x35.gh g6;have x6:=x35.trans y6;refine⟨ab,q6,xs,_,keyD (j,e) (l,f),rv,rfl,rfl,x6.h _ _ hab,x6.gh,nk.mono x6.g,.tup upd_same (.cons ((rr4.mono x5.g).mono y6.g) (.cons (rr5.mono y6.g) .nil)),keyD_ok _ _,lr,?_⟩;generalize upd G5 q6 (.tup [r4,r5])=G6 at *;generalize upd H5 q6 (.tup [r4,r5])=H6 at *;clear y6 x35;refine hnb _ _ ?_;clear hnb hrb Rb;refine fold_goal fun Z' Y'=>?_;obtain⟨hx,hdx,hma,hea,rfl,h1,h2,h3⟩:=oh;refine Y' ?_;clear Y' Z';refine fold_goal fun Z' Y'=>?_;obtain⟨tx,tdx,tma,tea,rfl,t1,t2,t3⟩:=ot;refine Y' ?_;clear Y' Z';have a1:atI (ms.map V.str) (i:Int)=some (.str m):=atI_nat (by rw[La6,hmi]; rfl);have a2:atI (ms'.map V.str) (k:Int)=some (.str m'):=atI_nat (by rw[La6,hmk]; rfl);refine⟨fun σ' H'=>σ'=[some (.ref ab),some (.ref hx),some (.ref tx),some (.ref sa),some (.ref oa),some (.int (i:Int)),some (.int (k:Int)),some bv,some rv,some (.int ((if ms[i]?=ms'[k]? then 0 else 1:Nat):Int))]∧H'=H6,?_,?_⟩
  ·refine⟨hx,CO,hdx,_,_,rfl,x6.gh _ _ (x6.g _ _ h1),X.clO,X.nM,rfl,_,_,SqL.of (x6.gh _ _ (x6.g _ _ h2)),a1,tx,CO,tdx,_,_,rfl,x6.gh _ _ (x6.g _ _ t1),X.clO,X.nM,rfl,_,_,SqL.of (x6.gh _ _ (x6.g _ _ t2)),a2,rfl,?_⟩;rw[hmi,hmk];refine ite2 (fun z=>?_) (fun z=>?_)
   ·have z:=of_decide_eq_true z;injection z with z
    rw[if_pos (by rw[z])];exact⟨rfl,rfl⟩
   ·have z:¬ (some m=some m'):=fun w=>z (decide_eq_true (by rw[Option.some.inj w]));rw[if_neg z];exact⟨rfl,rfl⟩
  rintro σ' H' ⟨rfl,rfl⟩;refine⟨(by show 2≤sizeLine; decide),fun q7 g7=>⟨by show 1≤sizeLine; decide,fun q8 g8=>⟨by show 2≤sizeLine; decide,fun q9 g9=>?_⟩⟩⟩;have y7:=Ext.add (o:=.tup [.int (i:Int),.int (k:Int)]) x6.gh g7;have y8:=Ext.add (o:=.lst [.ref q7]) y7.gh g8;have y9:=Ext.add (o:=.lst [bv,rv]) y8.gh g9;have x9:=((x6.trans y7).trans y8).trans y9;exact make_choice (ps:=[(i,k)]) (cs:=[b,r]) x9.gh (y9.g _ _ upd_same) (.cons (pair_rep (y9.g _ _ (y8.g _ _ upd_same))) .nil) upd_same (.cons (rb.mono x9.g) (.cons (rr.mono x9.g) .nil)) (by show 2≤1000; decide) fun G' H' c x' rc=>kq _ _ _ (x9.trans x') rc
end
def chs(ms ms':List Str)(i e k f:Nat)(b r a c:Ch):List Ch :=
 (if i<e∧k<f then [Ch.mk ((if ms[i]?=ms'[k]? then 0 else 1)+sumN [b,r]) [(i,k)] [b,r]] else [])++(if i<e then [Ch.mk (1+sumN [a]) [] [a]] else [])++(if k<f then [Ch.mk (1+sumN [c]) [] [c]] else []) ++
  (if i<e∨k<f then [] else [Ch.mk (0+sumN []) [] []])
theorem make_choiceQ{C:Addr}{G H:Hp}{p q:Addr}{z:Int}{n:Nat}{ps:List (Nat×Nat)}{pvs cvs:List V}{cs:List Ch}{Q:Addr→Hp→Prop}{E:XK}(hz:z=(n:Int))(sm:Same G H)(hp:G p=some (.lst pvs))(hps:Reps G pvs (ps.map pairD))(hq:G q=some (.lst cvs))(rcs:RepCs C G cvs cs)(hcl:cs.length≤1000)
  (k:∀ (G' H':Hp) (x:Addr),Ext G H G' H'→RepC C G' (.ref x) (.mk (n+sumN cs) ps cs)→Q x H') (x dx:Addr) (nx:H x=none) (ndx:H dx=none) (nex:dx≠x) :
  spChoice C (.ref x::([.int z,.ref p,.ref q]++[])) (upd (upd H dx (.own x)) x (.ins C dx [])) (fun v H2=>v=.non∧Q x H2) E:=by
 subst hz
 exact make_choice (Q:=fun v H2=>∃ x,v=.ref x∧Q x H2) (E:=E) sm hp hps hq rcs hcl (fun G' H' r xx hr=>by
  cases hr with
  | mk h1 h2 h3 h4 h5=>exact⟨_,rfl,k _ _ _ xx (.mk h1 h2 h3 h4 h5)⟩) x dx nx ndx nex |> fun h=>by
   refine fold_goal fun Z' Y'=>?_;obtain⟨G,x',dx',q',n',pc,cvs,cs,e,h1,h2,h3,h4,h5,h6,h7⟩:=h;refine Y' ?_;clear Y' Z';refine⟨G,x',dx',q',n',pc,cvs,cs,e,h1,h2,h3,h4,h5,h6,fun H' a b c=>?_⟩;refine fold_goal fun Z' Y'=>?_;obtain⟨e9,x9,e10,hQ⟩:=h7 H' a b c;refine Y' ?_;clear Y' Z';cases e10;exact⟨e9,hQ⟩
theorem choice_then{C:Addr}{vs:List V}{H:Hp}{Q Q':VK}{E:XK}(h:spChoice C vs H Q E)(k:∀ v H',Q v H'→Q' v H'):spChoice C vs H Q' E:=by
 refine fold_goal fun Z' Y'=>?_;obtain⟨G,x',dx',q',n',pc,cvs,cs,e,h1,h2,h3,h4,h5,h6,h7⟩:=h;refine Y' ?_;clear Y' Z';exact⟨G,x',dx',q',n',pc,cvs,cs,e,h1,h2,h3,h4,h5,h6,fun H' a b c=>k _ _ (h7 H' a b c)⟩
section
variable {P:Program} {w:World} {K:PySem.W.Frag} {mg:Str→Option Value} {base:Heap}
inductive PspChoices(P:Program)(w:World)(CO CC:Addr)(vs:List V)(H:Hp)(Q:VK):Prop
 | mk (G:Hp) (ab:Addr) (xs:NTab) (hv tv sv ov bv rv av cv:V) (ms ms':List Str) (es es':List Nat) (i e k f j l:Nat) (b r a c:Ch):vs=[.ref ab,hv,tv,sv,ov]→Same G H→H ab=some (NO P w ab xs)→G ab=none→NKeys G xs→OutRep CO G hv ms es→OutRep CO G tv ms' es'→Rep G sv (pairD (i,e))→Rep G ov (pairD (k,f))→((i<e→k<f→es[i]?=some j∧es'[k]?=some l∧(∃ m,ms[i]?=some m)∧(∃ m',ms'[k]?=some m')∧look xs (keyD (i+1,j) (k+1,l))=some bv∧RepC CC G bv b∧look xs (keyD (j,e) (l,f))=some rv∧RepC CC G rv r))→((i<e→look xs (keyD (i+1,e) (k,f))=some av∧RepC CC G av a))→((k<f→look xs (keyD (i,e) (k+1,f))=some cv∧RepC CC G cv c))→(∀ (G' H':Hp) (la:Addr) (fv:List V),Ext G H G' H'→G' la=some (.lst fv)→RepCs CC G' fv (chs ms ms' i e k f b r a c)→Q (.ref la) H')→PspChoices P w CO CC vs H Q
def spChoices(P:Program)(w:World)(CO CC:Addr):Sp:=fun vs H Q _=>PspChoices P w CO CC vs H Q
theorem scChoices:FnScope ["best","here","there","stretch","opposite","found"] ["best","here","there","stretch","opposite"] (defScope sChoices):=scD rfl rfl rfl rfl
theorem ok_choices{CO CC:Addr}{f:Addr}{fd:FuncData}(F:Fun K "choices" "choices" sChoices f fd)(F_stay:Ok1 P w K mg base 5 "staying" ["best","here","there","stretch","opposite"] (spStay P w CO CC))(F_without:Ok1 P w K mg base 3 "without_first" ["stretch"] spWithout)
  (F_ch:MkR P w K mg base 3 "Choice" CC ["self","steps","pairs","parts"] (spChoice CC)):FnOk P w K mg base CX0 7 f fd ["best","here","there","stretch","opposite"] (spChoices P w CO CC):=by
 refine F.ok scChoices (fun vs H Q E h=>?_) (fun cdv A outer s H vs Q E hr h=>?_)
 ·obtain⟨G,ab,xs,hv,tv,sv,ov,bv,rv,av,cv,ms,ms',es,es',i,e,k,f,j,l,b,r,a,c,rfl,_⟩:=h;rfl
 ·refine fold_goal fun Z' Y'=>?_;obtain⟨G,ab,xs,hv,tv,sv,ov,bv,rv,av,cv,ms,ms',es,es',i,e,k,f,j,l,b,r,a,c,rfl,sm,hab,nab,nk,oh,ot,rs,ro,h3,h1,h2,kq⟩:=h;refine Y' ?_;clear Y' Z';have nd:=scChoices.nd;have hu9:=hu9_of hr;have big:=line_big
  refine⟨_,(pss_cons (ps_set (i:=5) nd rfl (Or.inl rfl) (pe_lst pa_nil))
   (pss_cons (ps_mid (ps_if (PW.pt (pw_and (pt_c oc_lt (pe_ix xc_tup (pc 3) pe_int (fun _ _=>rfl)) (pe_ix xc_tup (pc 3) pe_int (fun _ _=>rfl)) (nomark _)) (pw_and1 (pt_c oc_lt (pe_ix xc_tup (pc 4) pe_int (fun _ _=>rfl)) (pe_ix xc_tup (pc 4) pe_int (fun _ _=>rfl)) (nomark _)))))
    (pss_one (ps_expr (pe_bm PySem.F.plainAttrs_list PySem.F.slot_list_append PySem.F.type_list_append mc_append (pc 5) (pa_cons (pe_fn F_stay (hr.mono (by decide)) rfl (pa_cons (pc 0) (pa_cons (pc 1) (pa_cons (pc 2) (pa_cons (pc 3) (pa_cons (pc 4) pa_nil)))))) pa_nil))))
    pss_nil))
   (pss_cons (ps_mid (ps_if (pt_c oc_lt (pe_ix xc_tup (pc 3) pe_int (fun _ _=>rfl)) (pe_ix xc_tup (pc 3) pe_int (fun _ _=>rfl)) (nomark _))
    (pss_one (ps_expr (pe_bm PySem.F.plainAttrs_list PySem.F.slot_list_append PySem.F.type_list_append mc_append (pc 5) (pa_cons (pe_mk F_ch (hr.mono (by decide)) rfl (pa_cons pe_int (pa_cons (pe_lst pa_nil) (pa_cons (pe_lst (pa_cons (pe_nget hu9 (pc 0) (pe_tup (pa_cons (pe_fn F_without (hr.mono (by decide)) rfl (pa_cons (pc 3) pa_nil)) (pa_cons (pc 4) pa_nil))) (fun _ _=>rfl)) pa_nil)) pa_nil)))) pa_nil))))
    pss_nil))
   (pss_cons (ps_mid (ps_if (pt_c oc_lt (pe_ix xc_tup (pc 4) pe_int (fun _ _=>rfl)) (pe_ix xc_tup (pc 4) pe_int (fun _ _=>rfl)) (nomark _))
    (pss_one (ps_expr (pe_bm PySem.F.plainAttrs_list PySem.F.slot_list_append PySem.F.type_list_append mc_append (pc 5) (pa_cons (pe_mk F_ch (hr.mono (by decide)) rfl (pa_cons pe_int (pa_cons (pe_lst pa_nil) (pa_cons (pe_lst (pa_cons (pe_nget hu9 (pc 0) (pe_tup (pa_cons (pc 3) (pa_cons (pe_fn F_without (hr.mono (by decide)) rfl (pa_cons (pc 4) pa_nil)) pa_nil))) (fun _ _=>rfl)) pa_nil)) pa_nil)))) pa_nil))))
    pss_nil))
   (pss_cons (ps_mid (ps_if (pt_not (pt_truth (pc 5) (fun _=>rfl)))
    (pss_one (ps_expr (pe_bm PySem.F.plainAttrs_list PySem.F.slot_list_append PySem.F.type_list_append mc_append (pc 5) (pa_cons (pe_mk F_ch (hr.mono (by decide)) rfl (pa_cons pe_int (pa_cons (pe_lst pa_nil) (pa_cons (pe_lst pa_nil) pa_nil)))) pa_nil))))
    pss_nil))
   (pss_one (ps_ret (pc 5)))))))),?_⟩
  refine fold_goal fun Z' Y'=>?_;obtain⟨sa,rfl,hsa⟩:=rs.pair;refine Y' ?_;clear Y' Z';refine fold_goal fun Z' Y'=>?_;obtain⟨oa,rfl,hoa⟩:=ro.pair;refine Y' ?_;clear Y' Z';refine⟨Lb1 _,fun pf hpf=>?_⟩;have x0:Ext G H G (upd H pf (.lst [])):=Ext.tmp sm hpf;have npf:G pf=none:=sm.none hpf;have h0:upd H pf (.lst []) pf=some (.lst []):=upd_same;generalize upd H pf (.lst [])=H0 at *
  have app:∀ {G9 H9 G10 H10:Hp} {fv:List V} {cs:List Ch} {y:V} {ch:Ch},Ext G H G9 H9→G9 pf=none→H9 pf=some (.lst fv)→RepCs CC G9 fv cs→Ext G9 H9 G10 H10→RepC CC G10 y ch→Ext G H G10 (upd H10 pf (.lst (fv++[y])))∧G10 pf=none∧upd H10 pf (.lst (fv++[y])) pf=some (.lst (fv++[y]))∧RepCs CC G10 (fv++[y]) (cs++[ch]) :=
   fun x9 n9 h9 r9 x10 r10=>⟨(x9.trans x10).mut (x10.keep h9 n9) hpf,x10.keep h9 n9,upd_same,(r9.mono x10.g).append (.cons r10 .nil)⟩
  (try dsimp only);refine seq_gen fun Ra hna hra=>?_;refine⟨fun σ' H'=>∃ (G9:Hp) (fv:List V),σ'=[some (.ref ab),some hv,some tv,some (.ref sa),some (.ref oa),some (.ref pf)]∧Ext G H G9 H'∧G9 pf=none∧H' pf=some (.lst fv)∧RepCs CC G9 fv (if i<e∧k<f then [Ch.mk ((if ms[i]?=ms'[k]? then 0 else 1)+sumN [b,r]) [(i,k)] [b,r]] else []),?_,?_⟩
  ·refine⟨_,_,SqT.of (x0.gh _ _ hsa),atI_nat (j:=0) rfl,_,_,SqT.of (x0.gh _ _ hsa),atI_nat (j:=1) rfl,?_⟩;refine ite2 (fun z1=>?_) (fun z1=>iteF ?_)
   ·have z1:(i:Int)<(e:Int):=of_decide_eq_true z1;refine⟨_,_,SqT.of (x0.gh _ _ hoa),atI_nat (j:=0) rfl,_,_,SqT.of (x0.gh _ _ hoa),atI_nat (j:=1) rfl,?_⟩;refine ite2 (fun z2=>?_) (fun z2=>?_)
    ·have z2:(k:Int)<(f:Int):=of_decide_eq_true z2;refine fold_goal fun Z' Y'=>?_;obtain⟨hj,hl,⟨m,hm⟩,⟨m',hm'⟩,lb,rb,lr,rr⟩:=h3 (by omega) (by omega);refine Y' ?_;clear Y' Z';refine⟨.inl ⟨rfl,_,SqL.of h0⟩,G,ab,xs,hv,tv,_,_,bv,rv,ms,ms',es,es',i,e,k,f,j,l,m,m',b,r,rfl,x0.gh,x0.h _ _ hab,nk,oh,ot,pair_rep hsa,pair_rep hoa,hj,hl,hm,hm',lb,rb,lr,rr,fun G1 H1 y x1 ry=>?_⟩;refine fold_goal fun Z' Y'=>?_;obtain⟨q1,q2,q3,q4⟩:=app x0 npf h0 .nil x1 ry;refine Y' ?_;clear Y' Z';refine⟨[],x1.h _ _ h0,by decide,G1,[y],rfl,q1,q2,q3,?_⟩;rw[if_pos ⟨by omega,by omega⟩];exact q4
    ·have z2:¬ (k:Int)<(f:Int):=fun w=>z2 (decide_eq_true w);refine⟨G,[],rfl,x0,npf,h0,?_⟩;rw[if_neg (fun w=>z2 (by omega))];exact .nil
   ·have z1:¬ (i:Int)<(e:Int):=fun w=>z1 (decide_eq_true w);refine⟨G,[],rfl,x0,npf,h0,?_⟩;rw[if_neg (fun w=>z1 (by omega))];exact .nil
  intro σ' H1 hZp;refine fold_goal fun Z' Y'=>?_;obtain⟨G1,f1,rfl,x1,n1,hp1,r1⟩:=hZp;refine Y' ?_;clear Y' Z';refine hna _ _ ?_;clear hna hra Ra;have hc1:(if i<e∧k<f then [Ch.mk ((if ms[i]?=ms'[k]? then 0 else 1)+sumN [b,r]) [(i,k)] [b,r]] else []).length≤1:=by split <;> simp
  have hz1:(if i<e∧k<f then [Ch.mk ((if ms[i]?=ms'[k]? then 0 else 1)+sumN [b,r]) [(i,k)] [b,r]] else []).length=0∨i<e:=by
   by_cases w:i<e∧k<f
   ·exact .inr w.1
   ·rw[if_neg w]; exact .inl rfl
  unfold chs at kq;generalize (if i<e∧k<f then [Ch.mk ((if ms[i]?=ms'[k]? then 0 else 1)+sumN [b,r]) [(i,k)] [b,r]] else [])=c1 at *;have hl1:=r1.length;(try dsimp only);refine seq_gen fun Rb hnb hrb=>?_;refine⟨fun σ' H'=>∃ (G9:Hp) (fv:List V),σ'=[some (.ref ab),some hv,some tv,some (.ref sa),some (.ref oa),some (.ref pf)]∧Ext G H G9 H'∧G9 pf=none∧H' pf=some (.lst fv)∧RepCs CC G9 fv (c1++(if i<e then [Ch.mk (1+sumN [a]) [] [a]] else [])),?_,?_⟩
  ·refine⟨_,_,SqT.of (x1.gh _ _ (x1.g _ _ hsa)),atI_nat (j:=0) rfl,_,_,SqT.of (x1.gh _ _ (x1.g _ _ hsa)),atI_nat (j:=1) rfl,?_⟩;refine ite2 (fun z1=>?_) (fun z1=>?_)
   ·have z1:(i:Int)<(e:Int):=of_decide_eq_true z1;obtain⟨la,ra⟩:=h1 (by omega);refine⟨.inl ⟨rfl,_,SqL.of hp1⟩,Lb1 _,fun p1 g1=>?_⟩;have y1:=Ext.add (o:=.lst []) x1.gh g1;refine⟨_,_,i,e,rfl,y1.gh,pair_rep (y1.g _ _ (x1.g _ _ hsa)),fun G2 H2 r2 x2 rr2=>⟨by show 2≤sizeLine; decide,fun q g=>?_⟩⟩;have y3:=Ext.add (o:=.tup [r2,.ref oa]) x2.gh g;have z3:=((x1.trans y1).trans x2).trans y3;refine⟨ab,q,xs,_,keyD (i+1,e) (k,f),av,rfl,rfl,z3.h _ _ hab,z3.gh,nk.mono z3.g,.tup upd_same (.cons (rr2.mono y3.g) (.cons (pair_rep (z3.g _ _ hoa)) .nil)),keyD_ok _ _,la,by show 1≤sizeLine; decide,fun q9 g9=>?_⟩;have y9:=Ext.add (o:=.lst [av]) z3.gh g9;have z9:=z3.trans y9;intro xx dxx nxx ndxx nexx;refine choice_then (make_choiceQ (C:=CC) (Q:=fun y H'=>∃ G',Ext _ _ G' H'∧RepC CC G' (.ref y) _) (z:=1) (n:=1) (ps:=[]) (pvs:=[]) (cs:=[a]) rfl z9.gh (y9.g _ _ (y3.g _ _ (x2.g _ _ upd_same))) .nil upd_same (.cons (ra.mono z9.g) .nil) (by show 1≤1000; decide) (fun G' H' y x' ry=>⟨G',x',ry⟩) xx dxx nxx ndxx nexx) ?_;intro v H' hZp;refine fold_goal fun Z' Y'=>?_;obtain⟨rfl,G',x',ry⟩:=hZp;refine Y' ?_;clear Y' Z';refine⟨rfl,?_⟩;have x19:=((y1.trans x2).trans y3).trans y9;refine fold_goal fun Z' Y'=>?_;obtain⟨q1,q2,q3,q4⟩:=app x1 n1 hp1 r1 (x19.trans x') ry;refine Y' ?_;clear Y' Z';refine⟨f1,x'.h _ _ (x19.h _ _ hp1),by omega,G',_,rfl,q1,q2,q3,?_⟩;rw[if_pos (by omega)];exact q4
   ·have z1:¬ (i:Int)<(e:Int):=fun w=>z1 (decide_eq_true w);refine⟨G1,f1,rfl,x1,n1,hp1,?_⟩;rw[if_neg (by omega),Lc0];exact r1
  intro σ' H2 hZp;refine fold_goal fun Z' Y'=>?_;obtain⟨G2,f2,rfl,x2,n2,hp2,r2⟩:=hZp;refine Y' ?_;clear Y' Z';refine hnb _ _ ?_;clear hnb hrb Rb
  have hc2:(c1++(if i<e then [Ch.mk (1+sumN [a]) [] [a]] else [])).length≤2:=by
   rw[La2]
   split <;> simp <;> omega
  have hz2:(c1++(if i<e then [Ch.mk (1+sumN [a]) [] [a]] else [])).length=0↔¬ i<e:=by
   rw[La2]
   by_cases w:i<e
   ·rw[if_pos w]; simp; omega
   ·rw[if_neg w]
    rcases hz1 with z | z
    ·rw[z]; simp; omega
    ·exact absurd z w
  generalize (c1++(if i<e then [Ch.mk (1+sumN [a]) [] [a]] else []))=c2 at *;have hl2:=r2.length;(try dsimp only);refine seq_gen fun Rc hnc hrc=>?_;refine⟨fun σ' H'=>∃ (G9:Hp) (fv:List V),σ'=[some (.ref ab),some hv,some tv,some (.ref sa),some (.ref oa),some (.ref pf)]∧Ext G H G9 H'∧G9 pf=none∧H' pf=some (.lst fv)∧RepCs CC G9 fv (c2++(if k<f then [Ch.mk (1+sumN [c]) [] [c]] else [])),?_,?_⟩
  ·refine⟨_,_,SqT.of (x2.gh _ _ (x2.g _ _ hoa)),atI_nat (j:=0) rfl,_,_,SqT.of (x2.gh _ _ (x2.g _ _ hoa)),atI_nat (j:=1) rfl,?_⟩;refine ite2 (fun z1=>?_) (fun z1=>?_)
   ·have z1:(k:Int)<(f:Int):=of_decide_eq_true z1;obtain⟨la,ra⟩:=h2 (by omega);refine⟨.inl ⟨rfl,_,SqL.of hp2⟩,Lb1 _,fun p1 g1=>?_⟩;have y1:=Ext.add (o:=.lst []) x2.gh g1;refine⟨_,_,k,f,rfl,y1.gh,pair_rep (y1.g _ _ (x2.g _ _ hoa)),fun G3 H3 r3 x3 rr3=>⟨by show 2≤sizeLine; decide,fun q g=>?_⟩⟩;have y3:=Ext.add (o:=.tup [.ref sa,r3]) x3.gh g;have z3:=((x2.trans y1).trans x3).trans y3;refine⟨ab,q,xs,_,keyD (i,e) (k+1,f),cv,rfl,rfl,z3.h _ _ hab,z3.gh,nk.mono z3.g,.tup upd_same (.cons (pair_rep (z3.g _ _ hsa)) (.cons (rr3.mono y3.g) .nil)),keyD_ok _ _,la,by show 1≤sizeLine; decide,fun q9 g9=>?_⟩;have y9:=Ext.add (o:=.lst [cv]) z3.gh g9;have z9:=z3.trans y9;intro xx dxx nxx ndxx nexx;refine choice_then (make_choiceQ (C:=CC) (Q:=fun y H'=>∃ G',Ext _ _ G' H'∧RepC CC G' (.ref y) _) (z:=1) (n:=1) (ps:=[]) (pvs:=[]) (cs:=[c]) rfl z9.gh (y9.g _ _ (y3.g _ _ (x3.g _ _ upd_same))) .nil upd_same (.cons (ra.mono z9.g) .nil) (by show 1≤1000; decide) (fun G' H' y x' ry=>⟨G',x',ry⟩) xx dxx nxx ndxx nexx) ?_;intro v H' hZp;refine fold_goal fun Z' Y'=>?_;obtain⟨rfl,G',x',ry⟩:=hZp;refine Y' ?_;clear Y' Z';refine⟨rfl,?_⟩;have x19:=((y1.trans x3).trans y3).trans y9;refine fold_goal fun Z' Y'=>?_;obtain⟨q1,q2,q3,q4⟩:=app x2 n2 hp2 r2 (x19.trans x') ry;refine Y' ?_;clear Y' Z';refine⟨f2,x'.h _ _ (x19.h _ _ hp2),by omega,G',_,rfl,q1,q2,q3,?_⟩;rw[if_pos (by omega)];exact q4
   ·have z1:¬ (k:Int)<(f:Int):=fun w=>z1 (decide_eq_true w);refine⟨G2,f2,rfl,x2,n2,hp2,?_⟩;rw[if_neg (by omega),Lc0];exact r2
  intro σ' H3 hZp;refine fold_goal fun Z' Y'=>?_;obtain⟨G3,f3,rfl,x3,n3,hp3,r3⟩:=hZp;refine Y' ?_;clear Y' Z';refine hnc _ _ ?_;clear hnc hrc Rc
  have hc3:(c2++(if k<f then [Ch.mk (1+sumN [c]) [] [c]] else [])).length≤3:=by
   rw[La2]
   split <;> simp <;> omega
  have hz3:(c2++(if k<f then [Ch.mk (1+sumN [c]) [] [c]] else [])).length=0↔¬ (i<e∨k<f):=by
   rw[La2]
   by_cases w:k<f
   ·rw[if_pos w]; simp; omega
   ·rw[if_neg w]
    show c2.length+0=0↔_
    rw[Lk6,hz2];omega
  generalize (c2++(if k<f then [Ch.mk (1+sumN [c]) [] [c]] else []))=c3 at *;have hl3:=r3.length;(try dsimp only);refine seq_gen fun Rd hnd hrd=>?_;refine⟨fun σ' H'=>∃ (G9:Hp) (fv:List V),σ'=[some (.ref ab),some hv,some tv,some (.ref sa),some (.ref oa),some (.ref pf)]∧Ext G H G9 H'∧G9 pf=none∧H' pf=some (.lst fv)∧RepCs CC G9 fv (c3++(if i<e∨k<f then [] else [Ch.mk (0+sumN []) [] []])),?_,?_⟩
  ·refine⟨_,.inl ⟨_,SqL.of hp3,rfl⟩,?_⟩
   cases he:f3.isEmpty with
   | true =>
    have ef:f3=[]:=Lf0.mp he;have w:¬ (i<e∨k<f):=hz3.mp (by rw[← hl3,ef]; rfl);refine iteT ⟨.inl ⟨rfl,_,SqL.of hp3⟩,Lb1 _,fun p1 g1=>⟨Lb1 _,fun p2 g2=>?_⟩⟩;have y1:=Ext.add (o:=.lst []) x3.gh g1;have y2:=Ext.add (o:=.lst []) y1.gh g2;intro xx dxx nxx ndxx nexx;refine choice_then (make_choiceQ (C:=CC) (Q:=fun y H'=>∃ G',Ext _ _ G' H'∧RepC CC G' (.ref y) _) (z:=0) (n:=0) (ps:=[]) (pvs:=[]) (cvs:=[]) (cs:=[]) rfl y2.gh (y2.g _ _ upd_same) .nil upd_same .nil (Lb1 _) (fun G' H' y x' ry=>⟨G',x',ry⟩) xx dxx nxx ndxx nexx) ?_;intro v H' hZp;refine fold_goal fun Z' Y'=>?_;obtain⟨rfl,G',x',ry⟩:=hZp;refine Y' ?_;clear Y' Z';refine⟨rfl,?_⟩;have x19:=y1.trans y2;refine fold_goal fun Z' Y'=>?_;obtain⟨q1,q2,q3,q4⟩:=app x3 n3 hp3 r3 (x19.trans x') ry;refine Y' ?_;clear Y' Z';refine⟨f3,x'.h _ _ (x19.h _ _ hp3),by omega,G',_,rfl,q1,q2,q3,?_⟩;rw[if_neg w]
    exact q4
   | false =>
    have w:i<e∨k<f:=Classical.byContradiction fun z=>by
     have:=hz3.mpr z;rw[← hl3] at this;rw[Ld5.mp this] at he;cases he
    refine iteF ⟨G3,f3,rfl,x3,n3,hp3,?_⟩;rw[if_pos w,Lc0];exact r3
  intro σ' H4 hZp;refine fold_goal fun Z' Y'=>?_;obtain⟨G4,f4,rfl,x4,n4,hp4,r4⟩:=hZp;refine Y' ?_;clear Y' Z';refine hnd _ _ ?_;clear hnd hrd Rd;exact (kq _ _ _ _ (x4.freeze n4 hpf hp4) upd_same (r4.mono (same_upd n4)))
end
end K8
namespace TT
open PySem L2
theorem pairD_inj{p q:Nat×Nat}(h:pairD p=pairD q):p=q:=by
 unfold pairD at h;injection h with h
 injection h with h1 h2
 injection h2 with h2 _
 injection h1 with h1
 injection h2 with h2
 exact Prod.ext (Int.ofNat_inj.mp h1) (Int.ofNat_inj.mp h2)
theorem look_some(xs:NTab)(k:D):(look xs k).isSome=true↔k∈xs.map (·.1):=by
 unfold look;rw[Lk4,List.find?_isSome]
 constructor
 ·rintro⟨x,hx,e⟩;exact Lc3.mpr ⟨x,hx,of_decide_eq_true e⟩
 ·intro h;obtain⟨x,hx,e⟩:=Lc3.mp h;exact⟨x,hx,decide_eq_true e⟩
theorem put_keys{xs:NTab}{ps:List (Nat×Nat)}(e:xs.map (·.1)=ps.map pairD)(nd:ps.Nodup)(p:Nat×Nat)(b:Addr)(v:V):∃ ps':List (Nat×Nat),(putN xs (pairD p) b v).map (·.1)=ps'.map pairD∧ps'.Nodup∧∀ q,q∈ps'↔q∈ps∨q=p:=by
 unfold putN
 by_cases h:p∈ps
 ·have hs:(look xs (pairD p)).isSome=true:=(look_some _ _).mpr (by rw[e]; exact List.mem_map_of_mem h);rw[if_pos hs];refine⟨ps,?_,nd,fun q=>⟨.inl,fun z=>z.elim id fun z=>z ▸ h⟩⟩;rw[Ld7,← e];refine List.map_congr_left fun x _=>?_
  show (if x.1=pairD p then (x.1,x.2.1,v) else x).1=x.1
  split <;> rfl
 ·have hs:¬ (look xs (pairD p)).isSome=true:=fun z=>by
   rw[look_some,e] at z;obtain⟨q,hq,eq⟩:=Lc3.mp z;exact h (pairD_inj eq ▸ hq)
  rw[if_neg hs];refine⟨ps++[p],by rw[Lb3,Lb3,e]; rfl,?_,fun q=>by rw[Lb9,Lc8]⟩;rw[List.nodup_append];exact⟨nd,by simp,fun a ha b hb z=>h (by rw[List.mem_singleton.mp hb] at z; exact z ▸ ha)⟩
theorem few{N:Nat}{ps:List (Nat×Nat)}(nd:ps.Nodup)(hb:∀ p∈ps,p.1≤p.2∧p.2≤N)(hN:N≤9):ps.length≤55:=by
 have h:=List.Nodup.length_le_of_subset (l₂:=(List.range 10).flatMap fun e=>(List.range (e+1)).map fun a=>(a,e)) nd fun p hp=>by
  obtain⟨h1,h2⟩:=hb p hp;refine List.mem_flatMap.mpr ⟨p.2,Lf1.mpr (by omega),Lc3.mpr ⟨p.1,Lf1.mpr (by omega),rfl⟩⟩
 exact h
def begins(es:List Nat)(N:Nat):List (Nat×Nat):=(0,N)::(List.range N).map fun k=>(k+1,es.getD k 0)
def Cov(ss:List (Nat×Nat))(p:Nat×Nat):Prop:=∃ s∈ss,p.2=s.2∧s.1≤p.1∧p.1≤s.2
theorem begins_ok{ms:List Str}{es:List Nat}{N:Nat}{T:List Tr}(h:At ms es 0 N T):∀ s∈begins es N,s.1≤s.2∧s.2≤N:=by
 intro s hs
 rcases Lb6.mp hs with rfl | hs
 ·exact⟨Lb1 _,La4 _⟩
 ·obtain⟨k,hk,rfl⟩:=Lc3.mp hs;obtain⟨t,j,e,a,hj⟩:=h.under (Lb1 k) (Lf1.mp hk)
  have:=a.size;rw[La3,e];exact⟨by show k+1≤j; omega,hj⟩
theorem cov_all{ms:List Str}{es:List Nat}{N:Nat}{T:List Tr}(h:At ms es 0 N T)(p:Nat×Nat):Cov (begins es N) p↔InS es N p:=by
 constructor
 ·rintro⟨s,hs,h1,h2,h3⟩
  rcases Lb6.mp hs with rfl | hs
  ·exact .inl ⟨h1,h3⟩
  ·obtain⟨k,hk,rfl⟩:=Lc3.mp hs;obtain⟨t,j,e,a,hj⟩:=h.under (Lb1 k) (Lf1.mp hk);have ej:es.getD k 0=j:=by rw[La3,e]; rfl
   dsimp only at h1 h2 h3;rw[ej] at h1 h3;exact .inr ⟨k,Lf1.mp hk,by rw[h1]; exact e,h2,by omega⟩
 ·rintro (⟨h1,h2⟩ | ⟨k,hk,e,h1,h2⟩)
  ·exact⟨(0,N),La7,h1,Lb1 _,h2⟩
  ·have ej:es.getD k 0=p.2:=by rw[La3,e]; rfl
   exact⟨(k+1,es.getD k 0),Lb0 _ (Lc3.mpr ⟨k,Lf1.mpr hk,rfl⟩),ej.symm,h1,by rw[ej]; exact h2⟩
end TT
namespace K8
open PySem L2 TT
section
variable {P:Program} {w:World} {K:PySem.W.Frag} {mg:Str→Option Value} {base:Heap}
inductive PspStretches(C:Addr)(vs:List V)(H:Hp)(Q:VK):Prop
 | mk (G:Hp) (v:V) (ms:List Str) (es:List Nat) (T:List Tr):vs=[v]→Same G H→OutRep C G v ms es→At ms es 0 ms.length T→ms.length≤9→(∀ (G' H':Hp) (l:Addr) (xs:List V) (qs:List (Nat×Nat)),Ext G H G' H'→G' l=some (.lst xs)→Reps G' xs (qs.map pairD)→Desc qs→qs.length≤55→(∀ p,p∈qs↔InS es ms.length p)→Q (.ref l) H')→PspStretches C vs H Q
def spStretches(C:Addr):Sp:=fun vs H Q _=>PspStretches C vs H Q
theorem scStretches:FnScope ["outline","found","below","first","end","later"] ["outline"] (defScope sStr):=scD rfl rfl rfl rfl
theorem nd_number:(["number","outline"]:List Str).Nodup:=by decide +kernel
inductive S1Inv(P:Program)(w:World)(G H G3:Hp)(x pf bl:Addr)(ms:List Str)(es:List Nat)(i:Nat)(σ:L2.St)(H':Hp):Prop
 | mk (G9:Hp) (tab:NTab) (ps:List (Nat×Nat)) (z3 z4 z5:Option V):σ=[some (.ref x),some (.ref pf),some (.ref bl),z3,z4,z5]→Ext G H G9 H'→Same G3 G9→G9 pf=none→H' pf=some (NO P w pf tab)→NKeys G9 tab→tab.map (·.1)=ps.map pairD→ps.Nodup→((∀ p∈ps,p.1≤p.2∧p.2≤ms.length))→(∀ p,p∈ps↔Cov ((begins es ms.length).take i) p)→S1Inv P w G H G3 x pf bl ms es i σ H'
inductive S2Inv(P:Program)(w:World)(G H G3:Hp)(x pf bl:Addr)(ms:List Str)(es:List Nat)(i f0 e0:Nat)(k:Nat)(σ:L2.St)(H':Hp):Prop
 | mk (G9:Hp) (tab:NTab) (ps:List (Nat×Nat)) (z5:Option V):σ=[some (.ref x),some (.ref pf),some (.ref bl),some (.int (f0:Int)),some (.int (e0:Int)),z5]→Ext G H G9 H'→Same G3 G9→G9 pf=none→H' pf=some (NO P w pf tab)→NKeys G9 tab→tab.map (·.1)=ps.map pairD→ps.Nodup→((∀ p∈ps,p.1≤p.2∧p.2≤ms.length))→(∀ p,p∈ps↔Cov ((begins es ms.length).take i) p∨(p.2=e0∧f0≤p.1∧p.1<f0+k))→S2Inv P w G H G3 x pf bl ms es i f0 e0 k σ H'
theorem ok_stretches{CO CC:Addr}{f:Addr}{fd:FuncData}(F:Fun K "stretches" "stretches" sStr f fd)(T:Txt mg)(X:ClsTxt K mg CO CC)(F_under:Ok1 P w K mg base 3 "under" ["outline","first"] (spUnder CO))(F_whole:Ok1 P w K mg base 3 "whole" ["outline"] (spWhole CO)) :
  FnOk P w K mg base CX0 5 f fd ["outline"] (spStretches CO):=by
 refine F.ok scStretches (fun vs H Q E h=>?_) (fun cdv A outer s H vs Q E hr h=>?_)
 ·obtain⟨G,v,ms,es,T,rfl,_⟩:=h;rfl
 ·obtain⟨G,v,ms,es,Ts,rfl,sm,orp,at0,h9,k⟩:=h;have nd:=scStretches.nd;have hu9:=hu9_of hr;have big:=line_big
  refine⟨_,(pss_cons (ps_set (i:=1) nd rfl (Or.inl rfl) pe_nnew)
   (pss_cons (ps_setCompC (N:=["number","outline"]) (n:=1) (caps:=[0]) (k:=2) (g:=gName 0) (te:=tCall (spUnder CO) [] E0 (tCons (cVar 1) (tCons (cVar 0) tNil))) nd rfl (Or.inl rfl) rfl (pi_range1 rfl T.range (pa_cons (pe_callB cc_len rfl T.len bt_len (pa_cons (pe_fld (pc 0) rfl) pa_nil)) pa_nil))
     (capOk_one ["number"] "outline" rfl rfl rfl (by decide +kernel) (by decide +kernel) (by decide +kernel) rfl rfl rfl) (fun cl C s2 H2 fp=>pg_name (i:=0) nd_number rfl (Or.inl rfl) (.inr rfl)) (fun cl C s2 H2 fp=>pe_fn F_under (hr.mono (by decide)) rfl (pa_cons (pc 1) (pa_cons (pc 0) pa_nil))))
   (pss_cons (ps_for PassesOwn.never rfl (pi_list (pe_op oc_cat (pe_lst (pa_cons (pe_fn F_whole (hr.mono (by decide)) rfl (pa_cons (pc 0) pa_nil)) pa_nil)) (pc 2))) (gc_tup rfl (gcs_cons (pg_name (i:=3) nd rfl (Or.inl rfl)) (gcs_cons (pg_name (i:=4) nd rfl (Or.inl rfl)) pgs_nil)))
    (pss_one (ps_for PassesOwn.never rfl (pi_range2 rfl T.range (pa_cons (pc 3) (pa_cons (pe_op oc_add (pc 4) pe_int) pa_nil))) (pg_name (i:=5) nd rfl (Or.inl rfl))
     (pss_one (ps_nput hu9 (pc 1) (pe_tup (pa_cons (pc 5) (pa_cons (pc 4) pa_nil))) pe_bl rfl)))))
   (pss_one (ps_ret (pe_sortedRev rfl T.sorted hr.hd (pa_cons (pc 1) pa_nil))))))),?_⟩
  have orp0:=orp;obtain⟨x,dx,m,e,rfl,hx,hm,he⟩:=orp;intro pf hpf;have x0:Ext G H G (upd H pf (NO P w pf [])):=Ext.tmp sm hpf;have npf:G pf=none:=sm.none hpf;have h0:upd H pf (NO P w pf []) pf=some (NO P w pf []):=upd_same;dsimp only[cxOf];generalize upd H pf (NO P w pf [])=H0 at *;(try dsimp only);refine seq_gen fun R1 hn1 hr1=>?_;unfold tAsg;(try dsimp only);refine⟨x,CO,dx,_,_,rfl,x0.gh _ _ hx,X.clO,X.nM,rfl,_,.inl (SqL.of (x0.gh _ _ hm)),_,rfl,by rw[La1]; omega,by rw[La1]; omega,?_⟩;refine comp_fill (J:=Itr 0 (Int.toNat ((ms.map V.str).length:Int))) ms.length (fun i=>pairD (i+1,es.getD i 0)) x0.gh (by omega) (fun i H2 hi _=>?_) (fun H2 _=>?_) ?_ ?_
  ·show i<(Int.toNat ((ms.map V.str).length:Int))
   rw[Ld3,La1]; exact hi
  ·show (Int.toNat ((ms.map V.str).length:Int))≤ms.length
   rw[Ld3,La1]; exact La4 _
  ·rintro i y H2 H3 hi s2 ⟨rfl,rfl⟩;refine⟨rfl,fun G2 xx R kR=>?_⟩;obtain⟨t,j,ej,_,_⟩:=at0.under (Lb1 i) hi;refine⟨fun j v' hj=>cap_keep1 hj,G2,.ref x,ms,es,i,j,?_,xx.gh,orp0.mono xx.g,ej,fun G' H' r x' rr=>kR G' H' r x' ?_⟩
   ·rw[Lj8]; rfl
   ·show Rep G' r (pairD (i+1,es.getD i 0))
    rw[La3,ej];exact rr
  intro G1 H1 bl x1 rb;refine hn1 _ _ ?_;clear hn1 hr1 R1;have h1:=x1.h _ _ h0;have npf1:=x1.keep h0 npf;have x01:=x0.trans x1;clear x0 x1 h0
  cases rb with
  | @lst _ bvs _ hbl rbs =>
  (try dsimp only);refine seq_gen fun R2 hn2 hr2=>?_;refine⟨G1,.ref x,ms,es,rfl,x01.gh,orp0.mono x01.g,fun G2 H2 r2 x2 rr2=>⟨by show 1≤sizeLine; decide,fun l1 g1=>?_⟩⟩;have y1:=Ext.tmp (o:=.lst [r2]) x2.gh g1;have hbvl:=rbs.length;rw[La1,Li8] at hbvl;refine⟨_,_,upd_same,y1.gh _ _ (x2.g _ _ hbl),by show 1+bvs.length≤sizeLine; omega,fun l2 g2=>?_⟩;have y2:=Ext.add (o:=.lst ([r2]++bvs)) y1.gh g2;have x3:=(((x01.trans x2).trans y1).trans y2);have h3:=y2.h _ _ (y1.h _ _ (x2.h _ _ h1));have n3:=y2.keep (y1.h _ _ (x2.h _ _ h1)) (x2.keep h1 npf1);have hl2:upd G2 l2 (.lst ([r2]++bvs)) l2=some (.lst ([r2]++bvs)):=upd_same
  have hss:Reps (upd G2 l2 (.lst ([r2]++bvs))) ([r2]++bvs) ((begins es ms.length).map pairD):=by
   refine .cons (rr2.mono y2.g) ?_;rw[Ld7];exact (rbs.mono x2.g).mono y2.g
  generalize upd (upd H2 l1 (.lst [r2])) l2 (.lst ([r2]++bvs))=H3 at *;generalize upd G2 l2 (.lst ([r2]++bvs))=G3 at *
  have hN:(begins es ms.length).length=([r2]++bvs).length:=by
   have:=hss.length;rw[La1] at this;exact this.symm
  clear y1 y2 x2 rr2 x01 h1 npf1 hbl rbs;generalize [r2]++bvs=svs at *;have hbeg:=begins_ok at0
  refine⟨l2,rfl,⟨_,SqL.of (x3.gh _ _ hl2)⟩,for_listG (K:=K) (a:=l2) (xs:=svs)
   (S1Inv P w G H G3 x pf bl ms es)
   ⟨G3,[],[],none,none,none,rfl,x3,Same.refl _,n3,h3,(fun _ z=>nomatch z),rfl,List.nodup_nil,(fun _ z=>nomatch z),fun p=>⟨fun z=>(nomatch z),fun ⟨_,z,_⟩=>(nomatch z)⟩⟩
   (fun i σ H' _ hZq=>by obtain⟨_,_,_,_,_,_,_,x,s9,_⟩:=hZq; exact SqL.of (x.gh _ _ (s9 _ _ hl2))) ?_ ?_⟩
  ·intro i y σ H4 hi hZp R3 hn3 hr3;refine fold_goal fun Z' Y'=>?_;obtain⟨G4,tab,ps,z3,z4,z5,rfl,x4,s4,n4,h4,nk4,ek4,nd4,bd4,mem4⟩:=hZp;have hil:i<svs.length:=(La5.mp hi).1;have hib:i<(begins es ms.length).length:=by omega
   obtain⟨d,hd,rd⟩:=hss.at hi;rw[La6,La0 hib] at hd;cases hd;have htk:(begins es ms.length).take (i+1)=(begins es ms.length).take i++[(begins es ms.length)[i]]:=Lc5 hib;have hsb:=hbeg _ (Ld4 hib);generalize (begins es ms.length)[i]=st at *;obtain⟨f0,e0⟩:=st;obtain⟨q,rfl,hq⟩:=rd.pair;refine Y' ?_;clear Y' Z'
   replace hsb:f0≤e0∧e0≤ms.length:=hsb
   refine⟨_,SqT.of (x4.gh _ _ (s4 _ _ hq)),rfl,rfl,?_⟩
   refine⟨(f0:Int),(e0:Int)+1,rfl,⟨by omega,by omega,by omega,by omega⟩,for_rangeG
    (S2Inv P w G H G3 x pf bl ms es i f0 e0)
    ⟨G4,tab,ps,z5,rfl,x4,s4,n4,h4,nk4,ek4,nd4,bd4,fun p=>(mem4 p).trans ⟨.inl,fun z=>z.elim id fun z=>by omega⟩⟩ ?_ ?_⟩
   ·intro k σ H5 hk hZp R4 hn4 hr4;refine fold_goal fun Z' Y'=>?_;obtain⟨G5,tab5,ps5,z,rfl,x5,s5,n5,h5,nk5,ek5,nd5,bd5,mem5⟩:=hZp;refine Y' ?_;clear Y' Z';have hk':f0+k≤e0:=by omega
    have hfew:=few nd5 bd5 h9;have hxl:tab5.length=ps5.length:=by simpa using congrArg List.length ek5
    refine⟨(by show 2≤sizeLine; decide),fun q6 g6=>?_⟩;have y6:=Ext.add (o:=.tup [.int ((f0:Int)+(k:Int)),.int (e0:Int)]) x5.gh g6;have hrep:Rep (upd G5 q6 (.tup [.int ((f0:Int)+(k:Int)),.int (e0:Int)])) (.ref q6) (pairD (f0+k,e0)):=pair_rep (by rw[upd_same]; rfl);refine⟨pf,q6,tab5,_,pairD (f0+k,e0),rfl,rfl,y6.h _ _ h5,y6.gh,nk5.mono y6.g,hrep,⟨rfl,by show (1:Nat)≤8; decide,_,rfl⟩,by omega,?_⟩;obtain⟨ps6,ek6,nd6,mem6⟩:=put_keys ek5 nd5 (f0+k,e0) q6 (.bl true);refine hn4 _ _ ⟨_,_,ps6,_,rfl,(x5.trans y6).mut (y6.keep h5 n5) hpf,s5.trans y6.g,y6.keep h5 n5,upd_same,(nk5.mono y6.g).put hrep ⟨rfl,by show (1:Nat)≤8; decide,_,rfl⟩ _,ek6,nd6,fun p hp=>?_,fun p=>?_⟩
    ·rcases (mem6 p).mp hp with h | rfl
     ·exact bd5 p h
     ·exact⟨hk',hsb.2⟩
    ·rw[mem6,mem5]
     constructor
     ·rintro ((h | h) | rfl)
      ·exact .inl h
      ·exact .inr ⟨h.1,h.2.1,by omega⟩
      ·exact .inr ⟨rfl,by show f0≤f0+k; omega,by show f0+k<f0+(k+1); omega⟩
     ·rintro (h | ⟨h1,h2,h3⟩)
      ·exact .inl (.inl h)
      ·by_cases hp:p.1<f0+k
       ·exact .inl (.inr ⟨h1,h2,hp⟩)
       ·exact .inr (Prod.ext (by show p.1=f0+k; omega) h1)
   ·intro σ H5 hZp;obtain⟨G5,tab5,ps5,z,rfl,x5,s5,n5,h5,nk5,ek5,nd5,bd5,mem5⟩:=hZp;refine hn3 _ _ ⟨G5,tab5,ps5,_,_,_,rfl,x5,s5,n5,h5,nk5,ek5,nd5,bd5,fun p=>?_⟩;rw[mem5,htk]
    constructor
    ·rintro (⟨s,hs,h⟩ | ⟨h1,h2,h3⟩)
     ·exact⟨s,Le3 _ hs,h⟩
     ·exact⟨(f0,e0),Ld2 _ (Lc8.mpr rfl),h1,h2,by show p.1≤e0; omega⟩
    ·rintro⟨s,hs,h⟩
     rcases Lb9.mp hs with hs | hs
     ·exact .inl ⟨s,hs,h⟩
     ·rw[Lc8.mp hs] at h;exact .inr ⟨h.1,h.2.1,by have:=h.2.2; dsimp only at this; omega⟩
  ·intro σ H4 hZp;obtain⟨G4,tab,ps,z3,z4,z5,rfl,x4,s4,n4,h4,nk4,ek4,nd4,bd4,mem4⟩:=hZp;refine hn2 _ _ ?_;have hfew:=few nd4 bd4 h9;refine⟨pf,tab,G4,ps,rfl,h4,x4.gh,nk4,ek4,by omega,fun l vs qs hl reps hperm hdesc=>?_⟩;have y:=Ext.add (o:=.lst vs) x4.gh hl;refine k _ _ l vs qs (x4.trans y) upd_same (reps.mono y.g) hdesc (by have:=hperm.length_eq; omega) fun p=>?_;rw[hperm.mem_iff,mem4,← hN,Le9];exact cov_all at0 p
end
end K8
namespace TT
open PySem PySem.Spec PyProof.Rows L2
theorem _root_.L2.ObjM.keeps{h h':Heap}{x dx C:Addr}{mA:Str→Option Value}(I:ObjM h x dx C mA)(k:∀ b o,h.get? b=some o→h'.get? b=some o):ObjM h' x dx C mA:=by
 obtain⟨o,es,ep,ho,r⟩:=I.ns;exact⟨k _ _ I.obj,⟨o,es,ep,k _ _ ho,r⟩,I.ne⟩
section
variable {prog:Program} {w:World} {A:Around} {E:Value→Shared→Prop} {s:Shared} {K:PySem.W.Frag}
theorem lam_call{q c' x dx C:Addr}{name qual:Str}{y attr:Str}{params:Arguments}{scope:Scope}{pm ctv:Value}{p1 p2:Pos}{mA:Str→Option Value}{v:Value}{Q:Value→Shared→Prop}
  (X:K.In s.heap) (lim:s.heap.NoLimit) (hroom:A.depth<recursionLimit) (hq:s.heap.get? q=some (PySem.W.kla_obj name qual params (.Attribute (.Name y p1) attr p2) scope [] pm c' ctv)) (hcd:s.heap.CodeRec (.ref c') qual)
  (hb:∀ u,bindArgs (PySem.W.kla_fn name qual params (.Attribute (.Name y p1) attr p2) scope [] pm (.ref c') ctv) ⟨[u],[]⟩=pure [(y,u)]) (hy:scope.names.lookup y=some .local) (hcell:∀ z∈scope.names,z.2≠.cell)
  (hk:scope.kind=.function) (hco:scope.isCoroutine=false) (hgen:scope.isGenerator=false) (hd:(y == ("__debug__":Str))=false)
  (hbase:∀ env:Env,attributeBase (.Name y p1) attr env (eval (.Name y p1) env)=eval (.Name y p1) env)
  (I:ObjM s.heap x dx C mA) (hg:PySem.W.plainGet K C attr=true) (hh:PySem.W.hasDictIn K C=true) (ha:PySem.W.findIn K (.ref C) attr=some none) (hv:mA attr=some v) (hv':PySem.W.handedIn v=true)
  (h:∀ h' tk,(∀ b o,s.heap.get? b=some o→h'.get? b=some o)→s.heap.objs.size≤h'.objs.size→Q v { s with heap:=h',toks:=tk }) :
  wpAny (model prog w) A (call (.ref q) [.ref x]) Q E s:=by
 refine wpAny_call ?_;refine PySem.W.kla_callFunE hroom hq rfl hco hgen rfl hcd ?_;rw[hb];refine wpAny_pure (wpAny_newFunctionEnv hcell (fun z hz=>?_) (fun h1 hns hsb=>⟨lim.fresh _ hsb,?_⟩) hk)
 ·rw[Lc8.mp hz]; exact hy
 have k1:∀ b o,s.heap.get? b=some o→h1.get? b=some o:=fun b o e=>hsb.extBut b o (Lc4 (Heap.lt_size e)) (Heap.get?_push_of_some _ e);refine PySem.W.kla_codeExpr ?_;refine attr_of (hbase _) ?_;refine wpAny_Name (wpAny_loadName_local hk hy hns (v:=.ref x) ?_ ?_) hd
 ·simp
 refine get_map (mA:=mA) (dx:=dx) (C:=C) (X.keeps fun b o e=>k1 b o e) ?_ hg hh ha hv hv' ?_
 ·exact I.keeps k1
 ·exact h h1 _ k1 (by have:=hsb.1; rw[Heap.size_push] at this; omega)
end
def TabOk(qual:Str)(pos:Pos)(Pt:Addr)(H:Hp)(ps:Array Value):Prop :=
 ps=#[]∨∃ (c':Addr) (oc:Obj) (vs:Array Value) (t:Tok),ps=#[rawInt pos.line,rawInt pos.col,.ref c']∧c'≠Pt∧H c'=some (.frz oc (.own 0))∧oc.data=.fields vs∧vs[1]?=some (.str qual t)
theorem codeRec_keep{h1 h2:Heap}{c':Addr}{qual:Str}(r:h1.CodeRec (.ref c') qual)(k:∀ o,h1.get? c'=some o→h2.get? c'=some o):h2.CodeRec (.ref c') qual:=by
 obtain⟨c,oc,vs,tq,e,h1,r⟩:=r;cases e;exact⟨c',oc,vs,tq,rfl,k _ h1,r⟩
section
variable {X:Cx} {pins:List (Addr×Obj)} {σ:L2.St} {H:Hp} {s:Shared}
theorem Un.table{fs:List Addr}{h h':Heap}{Pt c':Addr}{ps more:Array Value}{o:HO}(hP:H Pt=some (.tbl ps))(hc:h.objs.size≤c')(hn:H c'=none)(hx:∀ b u,b≠Pt→h.get? b=some u→h'.get? b=some u)(hp:∃ u,h'.get? Pt=some u) :
  Un fs [] H (upd (upd H Pt (.tbl (ps++more))) c' o) h h' where
 keep:=fun b u q n _ _=>hx b u (fun z=>by rw[z,hP] at n; cases n) q
 slot:=fun b u q n _ _=>⟨u.slots,hx b u (fun z=>by rw[z,hP] at n; cases n) q⟩
 free:=fun b u q n _=>by
  rw[upd_ne (Lc4 (Lb7 (Heap.lt_size q) hc)),upd_ne (fun z=>by rw[z,hP] at n; cases n)];exact n
 there:=fun b u q _=>by
  by_cases z:b=Pt
  ·rw[z]; exact hp
  ·exact⟨u,hx b u z q⟩
 tups:=fun b xs q=>by rw[upd_ne (ne_of_none q hn),upd_ne (fun z=>by rw[z,hP] at q; cases q)]; exact q
 frzs:=fun b u xs q=>by rw[upd_ne (ne_of_none q hn),upd_ne (fun z=>by rw[z,hP] at q; cases q)]; exact q
 tbls:=fun b qs q=>by
  rw[upd_ne (ne_of_none q hn)]
  by_cases z:b=Pt
  ·subst z;rw[hP] at q;cases q;exact⟨more,upd_same⟩
  ·exact⟨#[],by rw[upd_ne z,q]; simp⟩
theorem lam_made{A:Around}{E:Value→Shared→Prop}{name qual:Str}{params:Arguments}{body:Expr}{scope:Scope}{c Pt:Addr}{ps:Array Value}{pos:Pos}{fl:Nat}{Q:Value→Shared→Prop}(I:Inv X pins σ H s)(hcl:closureFor scope X.env=pure [])(hg:X.env.globals=mainGlobals)
  (hcode:X.env.code=.ref c) (C:PySem.W.CodeHd X.base c Pt) (B:X.base.BuiltinsAt X.mg Pt) (hP:H Pt=some (.tbl ps)) (ht:TabOk qual pos Pt H ps) (hgP:mainGlobals≠Pt)
  (h:∀ (f c':Addr) (ctv:Value) (H':Hp) (ps':Array Value) (s':Shared),Inv X pins σ H' s'→(∀ b o,b≠Pt→H b=some o→H' b=some o)→H' Pt=some (.tbl ps')→TabOk qual pos Pt H' ps' →
   s'.heap.get? f=some (PySem.W.kla_obj name qual params body scope [] ((X.mg "__name__").getD .none) c' ctv)→s'.heap.CodeRec (.ref c') qual→(∃ oc,H' c'=some (.frz oc (.own 0)))→s.heap.objs.size≤f→Q (.ref f) s') :
  wpAny (model X.prog X.w) A (makeFunction name qual params (.expr body) scope X.env [] [] [] pos fl) Q E s:=by
 have kb:∀ b o,X.base.get? b=some o→s.heap.get? b=some o:=fun b o e=>(I.bs b o e).1;have Cs:=C.keeps kb;have Gs:s.heap.Ns mainGlobals X.mg:=I.ok.mod.glob.keeps kb;obtain⟨bm,ob,b1,b2,b3,b4,b5,b6⟩:=B;have Bs:s.heap.BuiltinsAt X.mg Pt:=⟨bm,ob,b1,b2,b3,b4,kb _ _ b5,b6⟩;have hPs:s.heap.get? Pt=some (PySem.W.tabObj ps):=(show ObjOk X.prog X.w H s.heap Pt (.tbl ps) from I.hok Pt _ hP)
 rcases ht with rfl | ⟨c',oc,vs,t,rfl,hne,hc',hod,hov⟩
 ·refine PySem.W.kla_makeFunction hcl hg Gs hcode Cs hPs True.intro rfl hgP Bs fun c' ctv h' tk hx hge hlt hrec htb=>?_;have hn:H c'=none:=I.hok.fresh hge;obtain⟨c2,oc,vs,tq,ec2,hoc,hod,hov⟩:=id hrec;cases ec2;have hx2:∀ b u,b≠Pt→s.heap.get? b=some u→(h'.push (PySem.W.kla_obj name qual params body scope [] ((X.mg "__name__").getD .none) c' ctv)).get? b=some u:=fun b u z e=>Heap.get?_push_of_some _ (hx b u z e);have hne:c'≠Pt:=fun z=>by rw[z,hP] at hn; cases hn
  have htb2:(h'.push (PySem.W.kla_obj name qual params body scope [] ((X.mg "__name__").getD .none) c' ctv)).get? Pt=some (PySem.W.tabObj (#[]++#[rawInt pos.line,rawInt pos.col,.ref c'])):=Heap.get?_push_of_some _ htb;have hrec2:(h'.push (PySem.W.kla_obj name qual params body scope [] ((X.mg "__name__").getD .none) c' ctv)).CodeRec (.ref c') qual:=codeRec_keep hrec fun o e=>Heap.get?_push_of_some _ e
  have hok:HOk X.prog X.w (upd (upd H Pt (.tbl (#[]++#[rawInt pos.line,rawInt pos.col,.ref c']))) c' (.frz oc (.own 0))) (h'.push (PySem.W.kla_obj name qual params body scope [] ((X.mg "__name__").getD .none) c' ctv)):=by
   intro b u e
   by_cases z:b=c'
   ·subst z;rw[upd_same] at e;cases e;exact⟨Heap.get?_push_of_some _ hoc,oc,Heap.get?_push_of_some _ hoc⟩
   ·rw[upd_ne z] at e
    by_cases z2:b=Pt
    ·subst z2;rw[upd_same] at e;cases e;exact htb2
    ·rw[upd_ne z2] at e;refine (I.hok b u e).stay (fun d v hd q=>hx2 d v ?_ q) (fun d q=>?_) fun d xs q=>?_
     ·rintro rfl
      rcases hd with rfl | hd
      ·exact z2 rfl
      ·rw[hP] at hd; cases hd
     ·rw[upd_ne (ne_of_none q hn),upd_ne (fun y=>by rw[y,hP] at q; cases q)]; exact q
     ·rw[upd_ne (ne_of_none q hn),upd_ne (fun y=>by rw[y,hP] at q; cases q)]; exact q
  refine h h'.objs.size c' ctv _ _ _ (I.un (t':=tk) (Un.table hP hge hn hx2 ⟨_,htb2⟩) hok) (fun b o z e=>?_) ?_ (.inr ⟨c',oc,vs,tq,rfl,hne,upd_same,hod,hov⟩) (Heap.get?_push_size _ rfl) hrec2 ⟨oc,upd_same⟩ (Ld6 hge (Lg8 hlt))
  ·rw[upd_ne (ne_of_none e hn),upd_ne z]; exact e
  ·rw[upd_ne (Ne.symm hne),upd_same];simp
 ·refine PySem.W.kla_makeFunctionHit hcl hg Gs hcode Cs hPs True.intro (codeAmong_snoc (pos:=pos) (c:=.ref c') [] True.intro rfl) Bs fun ctv h' tk hk hsz=>?_;have hk2:∀ b u,s.heap.get? b=some u→(h'.push (PySem.W.kla_obj name qual params body scope [] ((X.mg "__name__").getD .none) c' ctv)).get? b=some u:=fun b u e=>Heap.get?_push_of_some _ (hk b u e);have hoc:s.heap.get? c'=some oc:=(show ObjOk X.prog X.w H s.heap c' (.frz oc (.own 0)) from I.hok c' _ hc').1;have hrec:s.heap.CodeRec (.ref c') qual:=⟨c',oc,vs,t,rfl,hoc,hod,hov⟩;exact h h'.objs.size c' ctv H _ _ (I.kept (t':=tk) hk2) (fun _ _ _ e=>e) hP (.inr ⟨c',oc,vs,t,rfl,hne,hc',hod,hov⟩) (Heap.get?_push_size _ rfl) (codeRec_keep hrec fun o e=>hk2 _ _ e) ⟨oc,hc'⟩ hsz
end
section
variable {X:Cx} {pins:List (Addr×Obj)} {σ:L2.St} {H:Hp} {s:Shared} {h':Heap}
theorem keptL{t':Nat}{m:Str→Option Value}(I:Inv X pins σ H s)(hm:s.heap.Ns X.env.locals m)(hm':h'.Ns X.env.locals m)(k:∀ b u,b≠X.env.locals→s.heap.get? b=some u→h'.get? b=some u):Inv X pins σ H { s with heap:=h',toks:=t' }:=by
 have nL:∀ b u,H b=some u→b≠X.env.locals:=fun b u e z=>by rw[z,I.free] at e; cases e
 have ths:∀ b ob,s.heap.get? b=some ob→∃ o',h'.get? b=some o':=fun b ob e=>by
  by_cases hb:b=X.env.locals
  ·obtain⟨ob',_,_,ho,_⟩:=hm';exact⟨ob',by rw[hb]; exact ho⟩
  ·exact⟨ob,k b ob hb e⟩
 refine I.step (g':=s.gens) (d':=s.drawn) (ch:=[]) (fun _ z=>nomatch z) (fun b ob hL _ _ e _=>k b ob hL e) (fun b ob hL _ _ e _=>⟨ob.slots,k b ob hL e⟩) (fun b ob _ e n=>n)
  (fun b ob _ e=>ths b ob e) (fun b xs e=>e) (fun b ob xs e=>e) (fun b ps e=>⟨#[],by rw[e]; simp⟩) (fun m2 h2=>?_) (fun b u e=>?_) I.bare
 ·rw[ns_one h2 hm];exact hm'
 ·refine (I.hok b u e).stay (fun c v hc q=>k c v ?_ q) (fun _ q=>q) fun _ _ q=>q
  rcases hc with rfl | hc
  ·exact nL _ _ e
  ·exact nL _ _ hc
end
def rMinK(K:PySem.W.Frag)(Pt:Addr)(qual attr:Str)(pos:Pos):List V→Hp→VK→Prop:=fun vs H Q=>∃ (la:Addr) (xs:List V) (ns:List Int) (ps:Array Value),vs=[.ref la]∧H la=some (.lst xs)∧xs≠[] ∧
 Paired (fun (x:V) (n:Int)=>∃ a C dx fs,x=.ref a∧H a=some (.ins C dx fs)∧Cls K C∧NoAttr K C attr∧fs.lookup attr=some (.int n)) xs ns∧H Pt=some (.tbl ps)∧TabOk qual pos Pt H ps ∧
 ∀ (i:Nat) (x:V) (H':Hp) (ps':Array Value),xs[i]?=some x→(∀ j,j<ns.length→ns.getD i 0≤ns.getD j 0∧(j<i→ns.getD i 0<ns.getD j 0))→(∀ b o,b≠Pt→H b=some o→H' b=some o)→H' Pt=some (.tbl ps')→TabOk qual pos Pt H' ps'→Q x H'
section
variable {X:Cx} {ta:TA} {x:Str} {fp p pos lpos kp p1 p2:Pos} {params:Arguments} {scope:Scope} {y attr:Str} {c Pt:Addr}
theorem pe_minKey(hg:Gl X "min")(hm:X.mg "min"=none)(hr:X.A.in1.depth<recursionLimit)(hh:X.A.handled=none)(hcode:X.env.code=.ref c)(C:PySem.W.CodeHd X.base c Pt)(B:X.base.BuiltinsAt X.mg Pt)(hgP:mainGlobals≠Pt)(ha:PA X [.Name x fp] ta)
  (hgl:X.env.globals=mainGlobals) (hcl:closureFor scope X.env=pure []) (hdef:defaultsOf params X.env=([],[]))
  (hb:∀ (pm cdv ct u:Value),bindArgs (PySem.W.kla_fn "<lambda>" (X.env.qual++"<lambda>") params (.Attribute (.Name y p1) attr p2) scope [] pm cdv ct) ⟨[u],[]⟩=pure [(y,u)]) (hy:scope.names.lookup y=some .local) (hcell:∀ z∈scope.names,z.2≠.cell)
  (hk:scope.kind=.function) (hco:scope.isCoroutine=false) (hgen:scope.isGenerator=false) (hd:(y == ("__debug__":Str))=false)
  (hbase:∀ env:Env,attributeBase (.Name y p1) attr env (eval (.Name y p1) env)=eval (.Name y p1) env) :
  PE X (.Call (.Name "min" p) [.Name x fp] [⟨some "key",.Lambda params (.Attribute (.Name y p1) attr p2) scope lpos,kp⟩] pos) (tCB (rMinK X.K Pt (X.env.qual++"<lambda>") attr lpos) ta):=by
 intro pins s σ H Q I h;refine wpAny_Call_Name_kw (ld_blt I hg hm bt_min ?_ (by decide) (by decide));refine callWith_kw (thn (ha pos pins s σ H _ I h) fun us s1 hZr=>?_);obtain⟨vs,H1,I1,r1,la,xs,ns,ps,ev,hla,hne,hp,hP,ht,q⟩:=hZr;subst ev;obtain⟨u,rfl,rx⟩:=vals1 r1;obtain rfl:u=Value.ref la:=rx;refine kws_cons (PySem.W.kla_eval hdef (lam_made I1 hcl hgl hcode C B hP ht hgP fun f c' ctv H2 ps2 s2 I2 kp2 hP2 ht2 hf hrec ⟨oc2,hc2⟩ hfz=>kws_nil ?_));have hlaPt:∀ b o,H1 b=some o→(∀ qs,o≠.tbl qs)→H2 b=some o:=fun b o e hne=>kp2 b o (fun z=>by rw[z,hP] at e; cases e; exact hne _ rfl) e;have hla2:=hlaPt _ _ hla (fun _ z=>nomatch z);obtain⟨m,F⟩:=I2.fr;have N:News X.base X.env.locals s2.heap (allNews X.base s2.heap X.env.locals):=news_all;obtain⟨hz,its,n,rv,eo⟩:=(show ObjOk X.prog X.w H2 s2.heap la (.lst xs) from I2.hok la _ hla2);have hl:=rv.length;have hpl:=Paired.length hp
 have bnone:∀ b o,H2 b=some o→X.base.get? b=none:=fun b o e=>by
  cases z:X.base.get? b with
  | none=>rfl
  | some ob=>rw[(I2.bs b ob z).2] at e; cases e
 have nL:∀ b o,H2 b=some o→b≠X.env.locals:=fun b o e z=>by rw[z,I2.free] at e; cases e
 have inN:∀ b o ob,H2 b=some o→s2.heap.get? b=some ob→(b,ob)∈allNews X.base s2.heap X.env.locals:=fun b o ob e g=>mem_allNews (nL b o e) (bnone b o e) g
 have hxl:0<its.length:=by
  rw[← hl];exact List.length_pos_iff.mpr hne
 have bk1:∀ b o,X.base.get? b=some o→s1.heap.get? b=some o:=fun b o e=>(I1.bs b o e).1;have fL:f≠X.env.locals:=Lj7 (Lb7 I1.lt hfz)
 have fB:X.base.get? f=none:=by
  cases z:X.base.get? f with
  | none=>rfl
  | some ob=>exact absurd (Lb7 (Heap.lt_size (bk1 _ _ z)) hfz) (Le6 _)
 have fN:=mem_allNews (g:=X.base) fL fB hf;refine PyProof.Rows.kmk_min (fun i=>ns.getD i 0) hh F N (fun h Fh Nh=>⟨_,(Nh _ (inN _ _ _ hla2 eo)).1,rfl,n,rfl⟩) hxl (fun i v hv h tk own Fh Nh=>?_) fun i v h' tk' hv hmin F' N'=>?_
 ·have hix:i<its.length:=(La5.mp hv).1;have e1:xs[i]?=some xs[i]:=La0 (by omega);have e2:ns[i]?=some (ns.getD i 0):=by rw[La3,La0 (by omega)]; rfl
  obtain⟨a,Cc,dx,fs,ea,ha1,hc1,hn1,hlk⟩:=paired_get hp e1 e2;obtain⟨u,eu,ru⟩:=rv.get e1;rw[hv] at eu;cases eu;rw[ea] at ru;obtain rfl:v=Value.ref a:=ru;have ha2:=hlaPt _ _ ha1 (fun _ z=>nomatch z);obtain⟨mA,O,r,_,_,hown⟩:=ins_get I2.hok ha2;obtain⟨w',hw,rw'⟩:=RelO.some_of (v:=V.int (ns.getD i 0)) (o:=mA attr) (by rw[← hlk]; exact r attr);obtain⟨t',rfl⟩:=(show ∃ t,w'=Value.int (ns.getD i 0) t from rw');have kk:∀ b o ob,H2 b=some o→s2.heap.get? b=some ob→h.get? b=some ob:=fun b o ob e g=>(Nh _ (Le3 _ (inN b o ob e g))).1
  have O':ObjM h a dx Cc mA:=by
   obtain⟨o,es,ep,ho,rr⟩:=O.ns;exact⟨kk _ _ _ ha2 O.obj,⟨o,es,ep,kk _ _ _ hown ho,rr⟩,O.ne⟩
  have hrec':h.CodeRec (.ref c') (X.env.qual++"<lambda>"):=codeRec_keep hrec fun o g=>kk _ _ _ hc2 g;refine lam_call (K:=X.K) (s:={ s2 with heap:=h,toks:=tk }) (I1.ok.mod.kin.keeps Fh.keep) (I1.ok.mod.nolimit.keeps Fh.keep) hr (Nh _ (Le3 _ fN)).1 hrec' (hb _ _ _) hy hcell hk hco hgen hd hbase O' (hc1.get attr) hc1.hd hn1 hw rfl fun h2 tk2 k2 _=>?_
  exact⟨h2,tk2,t',rfl,rfl,Fh.kept k2,fun p hp=>⟨k2 _ _ (Nh p hp).1,(Nh p hp).2⟩⟩
 ·have hix:i<its.length:=(La5.mp hv).1;have e1:xs[i]?=some xs[i]:=La0 (by omega);obtain⟨u,eu,ru⟩:=rv.get e1;rw[hv] at eu;cases eu
  have keep:∀ b u,b≠X.env.locals→s2.heap.get? b=some u→h'.get? b=some u:=fun b u hb e=>by
   cases e2:X.base.get? b with
   | some ob =>
    have:=I2.bk b ob e2;rw[e] at this;cases this
    exact F'.keep b _ e2
   | none=>exact (N' (b,u) (mem_allNews hb e2 e)).1
  exact⟨xs[i],H2,keptL (t':=tk') I2 F.ns F'.ns keep,ru,q i _ H2 ps2 e1 (fun j hj=>hmin j (by omega)) kp2 hP2 ht2⟩
end
end TT
namespace K8
open PySem L2 TT
theorem chs_known{ms ms':List Str}{es es':List Nat}{i e k f j l:Nat}{F Gt:List Tr}{b r a c ch:Ch}(fa:At ms es i e F)(ga:At ms' es' k f Gt)
  (h3:i<e→k<f→es[i]?=some j∧es'[k]?=some l∧Known ms ms' es es' (i+1,j) (k+1,l) b∧Known ms ms' es es' (j,e) (l,f) r) (h1:i<e→Known ms ms' es es' (i+1,e) (k,f) a) (h2:k<f→Known ms ms' es es' (i,e) (k+1,f) c)
  (hm:ch∈chs ms ms' i e k f b r a c) (hmin:∀ ch'∈chs ms ms' i e k f b r a c,ch.n≤ch'.n):Known ms ms' es es' (i,e) (k,f) ch:=by
 have ie:=fa.size;have kf:=ga.size;have e2:sumN [b,r]=b.n+r.n:=by simp[sumN]
 have m3:i<e→k<f→Ch.mk ((if ms[i]?=ms'[k]? then 0 else 1)+sumN [b,r]) [(i,k)] [b,r]∈chs ms ms' i e k f b r a c:=fun x y=>by
  unfold chs;rw[if_pos ⟨x,y⟩];simp
 have m1:i<e→Ch.mk (1+sumN [a]) [] [a]∈chs ms ms' i e k f b r a c:=fun x=>by
  unfold chs;rw[if_pos x];simp
 have m2:k<f→Ch.mk (1+sumN [c]) [] [c]∈chs ms ms' i e k f b r a c:=fun x=>by
  unfold chs;rw[if_pos x];simp
 have ea:sumN [a]=a.n:=by simp[sumN]
 have ec:sumN [c]=c.n:=by simp[sumN]
 have n1:i<e→ch.n≤1+a.n:=fun x=>by have:=hmin _ (m1 x); rw[ea] at this; exact this
 have n2:k<f→ch.n≤1+c.n:=fun x=>by have:=hmin _ (m2 x); rw[ec] at this; exact this
 have n3:i<e→k<f→ch.n≤(if ms[i]?=ms'[k]? then 0 else 1)+(b.n+r.n):=fun x y=>by have:=hmin _ (m3 x y); rw[e2] at this; exact this
 have fin:Plan ms ms' es es' (i,e) (k,f) ch→((ch.n=0∧¬ i<e∧¬ k<f)∨(∃ a,i<e∧Known ms ms' es es' (i+1,e) (k,f) a∧ch.n=1+a.n)∨(∃ b,k<f∧Known ms ms' es es' (i,e) (k+1,f) b∧ch.n=1+b.n) ∨
   ∃ j l x y,i<e∧k<f∧es[i]?=some j∧es'[k]?=some l∧Known ms ms' es es' (i+1,j) (k+1,l) x∧Known ms ms' es es' (j,e) (l,f) y∧ch.n=(if ms[i]?=ms'[k]? then 0 else 1)+(x.n+y.n))→Known ms ms' es es' (i,e) (k,f) ch:=fun hp hc =>
  known_min (s:=(i,e)) (o:=(k,f)) fa ga hp (fun x=>⟨a,h1 x,n1 x⟩) (fun x=>⟨c,h2 x,n2 x⟩) (fun x y=>by
   refine fold_goal fun Z' Y'=>?_;obtain⟨q1,q2,q3,q4⟩:=h3 x y;refine Y' ?_;clear Y' Z'
   exact⟨j,l,b,r,q1,q2,q3,q4,n3 x y⟩) hc
 unfold chs at hm;rw[Lb9,Lb9,Lb9] at hm
 rcases hm with ((hm | hm) | hm) | hm
 ·split at hm
  ·next w =>
   rw[Lc8] at hm;subst hm;refine fold_goal fun Z' Y'=>?_;obtain⟨q1,q2,q3,q4⟩:=h3 w.1 w.2;refine Y' ?_;clear Y' Z';rw[e2] at fin ⊢;exact fin (.stay w.1 w.2 q1 q2 rfl q3.1 q4.1) (.inr (.inr (.inr ⟨j,l,b,r,w.1,w.2,q1,q2,q3,q4,rfl⟩)))
  ·exact nomatch hm
 ·split at hm
  ·next w =>
   rw[Lc8] at hm;subst hm;rw[ea] at fin ⊢;exact fin (.cut w (h1 w).1) (.inr (.inl ⟨a,w,h1 w,rfl⟩))
  ·exact nomatch hm
 ·split at hm
  ·next w =>
   rw[Lc8] at hm;subst hm;rw[ec] at fin ⊢;exact fin (.put w (h2 w).1) (.inr (.inr (.inl ⟨c,w,h2 w,rfl⟩)))
  ·exact nomatch hm
 ·split at hm
  ·exact nomatch hm
  ·next w =>
   rw[Lc8] at hm;subst hm;have z1:e=i:=by omega
   have z2:f=k:=by omega
   subst z1 z2;exact fin .none (.inl ⟨rfl,by omega,by omega⟩)
end K8
namespace TT
open PySem L2
structure ExtP(Pt:Addr)(G H G' H':Hp):Prop where
 g:Same G G'
 gh:Same G' H'
 h:∀ b o,b≠Pt→H b=some o→H' b=some o
 new:∀ b o,b≠Pt→H b=some o→G' b=G b
section
variable {Pt:Addr} {G H G1 H1 G2 H2:Hp} {a:Addr} {o:HO}
theorem ExtP.of(x:Ext G H G1 H1):ExtP Pt G H G1 H1:=⟨x.g,x.gh,fun b o _ e=>x.h b o e,fun b o _ e=>x.new b o e⟩
theorem ExtP.trans(x:ExtP Pt G H G1 H1)(y:ExtP Pt G1 H1 G2 H2):ExtP Pt G H G2 H2:=⟨x.g.trans y.g,y.gh,fun b o n e=>y.h b o n (x.h b o n e),fun b o n e=>(y.new b o n (x.h b o n e)).trans (x.new b o n e)⟩
theorem ExtP.mut(x:ExtP Pt G H G2 H2)(n:G2 a=none)(nh:H a=none):ExtP Pt G H G2 (upd H2 a o):=⟨x.g,same_mut x.gh n,fun b u nb e=>by rw[upd_ne (ne_of_none e nh)]; exact x.h b u nb e,x.new⟩
theorem ExtP.tab(x:ExtP Pt G H G1 H1)(n:G1 Pt=none)(k:∀ b o,b≠Pt→H1 b=some o→H2 b=some o):ExtP Pt G H G1 H2 :=
 ⟨x.g,fun b o e=>k b o (fun z=>by rw[z,n] at e; cases e) (x.gh b o e),fun b o nb e=>k b o nb (x.h b o nb e),x.new⟩
theorem ExtP.keep(x:ExtP Pt G H G1 H1){b:Addr}{u:HO}(nb:b≠Pt)(h:H b=some u)(n:G b=none):G1 b=none:=(x.new b u nb h).trans n
end
theorem TabOk.mono{qual:Str}{pos:Pos}{Pt:Addr}{H H':Hp}{ps:Array Value}(t:TabOk qual pos Pt H ps)(k:∀ b o,b≠Pt→H b=some o→H' b=some o):TabOk qual pos Pt H' ps:=by
 rcases t with t | ⟨c',oc,vs,t,e,hne,h,r⟩
 ·exact .inl t
 ·exact .inr ⟨c',oc,vs,t,e,hne,k _ _ hne h,r⟩
theorem TabOk.put{qual:Str}{pos:Pos}{Pt pb:Addr}{H:Hp}{ps:Array Value}{φ:Heap→Prop}{o:HO}(t:TabOk qual pos Pt H ps)(h:H pb=some (.ext φ)):TabOk qual pos Pt (upd H pb o) ps:=by
 rcases t with t | ⟨c',oc,vs,t,e,hne,h1,r⟩
 ·exact .inl t
 ·exact .inr ⟨c',oc,vs,t,e,hne,by rw[upd_ne (fun z=>by rw[z,h] at h1; cases h1)]; exact h1,r⟩
theorem keyD_inj{s o s' o':Nat×Nat}(h:keyD s o=keyD s' o'):s=s'∧o=o':=by
 unfold keyD at h;injection h with h
 injection h with h1 h2
 injection h2 with h2 _
 exact⟨pairD_inj h1,pairD_inj h2⟩
def TabK(CC:Addr)(G:Hp)(tab:NTab)(ms ms':List Str)(es es':List Nat)(s o:Nat×Nat):Prop:=∃ v c,look tab (keyD s o)=some v∧RepC CC G v c∧Known ms ms' es es' s o c
theorem TabK.mono{CC:Addr}{G G':Hp}{tab:NTab}{ms ms':List Str}{es es':List Nat}{s o:Nat×Nat}(h:TabK CC G tab ms ms' es es' s o)(e:Same G G'):TabK CC G' tab ms ms' es es' s o :=
 let ⟨v,c,h1,h2,h3⟩:=h; ⟨v,c,h1,h2.mono e,h3⟩
theorem TabK.put{CC:Addr}{G:Hp}{tab:NTab}{ms ms':List Str}{es es':List Nat}{s o s' o':Nat×Nat}{b:Addr}{v:V}{c:Ch}(h:TabK CC G tab ms ms' es es' s o∨(s=s'∧o=o'))(r:RepC CC G v c)(k:Known ms ms' es es' s' o' c) :
  TabK CC G (putN tab (keyD s' o') b v) ms ms' es es' s o:=by
 by_cases z:keyD s o=keyD s' o'
 ·obtain⟨rfl,rfl⟩:=keyD_inj z;exact⟨v,c,by rw[look_put,if_pos rfl],r,k⟩
 ·rcases h with ⟨w,d,h1,h2,h3⟩ | ⟨rfl,rfl⟩
  ·exact⟨w,d,by rw[look_put,if_neg z]; exact h1,h2,h3⟩
  ·exact absurd rfl z
end TT
namespace K8
open PySem L2 TT
theorem _root_.L2.Fun.okC{P:Program}{w:World}{K:PySem.W.Frag}{mg:Str→Option Value}{base:Heap}{x qual:Str}{st:Stmt}{f:Addr}{fd:FuncData}{N ps:List Str}{k:Nat}{sp:Sp}(F:Fun K x qual st f fd)(S:FnScope N ps (defScope st))(len:∀ vs H Q E,sp vs H Q E→vs.length=ps.length)
  (hbody:∀ (A:Around) (outer:List Env) (s:Shared) (H:Hp) (vs:List V) (Q:VK) (E:XK),Room k (A.deeper (PyProof.Rows.envOfC qual (defScope st) s.heap.objs.size f fd.code))→sp vs H Q E →
   ∃ t,PSs (cxOf CX0 P w K mg base N qual (defScope st) f fd.code A outer s H E).nox (defBody st) t∧t { nx:=fun _ H'=>Q .non H',rt:=Q } (start N vs) H):FnOk P w K mg base CX0 (k+1) f fd ps sp:=by
 obtain⟨oc,od,kV,doc,pm,an,cdv,ct,osl,rfl,lk,hcd⟩:=F.ex;refine fn_of lk hcd S len fun A outer s H vs Q E hr hsp=>?_;obtain⟨t,h,q⟩:=hbody A outer s H vs Q E hr hsp;exact⟨t,h.nox,q⟩
def lamQ:Str:="best_choice"++".<locals>."++"<lambda>"
def lamP:Pos:=⟨68,53,68,80⟩
section
variable {P:Program} {w:World} {K:PySem.W.Frag} {mg:Str→Option Value} {base:Heap}
inductive PspBest(CO CC Pt:Addr)(vs:List V)(H:Hp)(Q:VK):Prop
 | mk (G:Hp) (v u:V) (ts us:List Tr) (ps:Array Value):vs=[v,u]→Same G H→Rep G v (rowD ts)→Rep G u (rowD us)→knotsOf ts≤9→knotsOf us≤9→G Pt=none→H Pt=some (.tbl ps)→TabOk lamQ lamP Pt H ps→(∀ (G' H':Hp) (r:V) (c:Ch) (ps':Array Value),ExtP Pt G H G' H'→G' Pt=none→H' Pt=some (.tbl ps')→TabOk lamQ lamP Pt H' ps'→RepC CC G' r c→Known (marksL ts) (marksL us) (endsL ts) (endsL us) (0,knotsOf ts) (0,knotsOf us) c→Q r H')→PspBest CO CC Pt vs H Q
def spBest(CO CC Pt:Addr):Sp:=fun vs H Q _=>PspBest CO CC Pt vs H Q
theorem out_then{C:Addr}{vs:List V}{H:Hp}{Q Q':VK}{E:XK}(h:spOut C vs H Q E)(k:∀ v H',Q v H'→Q' v H'):spOut C vs H Q' E:=by
 obtain⟨G,x,dx,v,ts,e,h1,h2,h3,h4,h5,h6⟩:=h;exact⟨G,x,dx,v,ts,e,h1,h2,h3,h4,h5,fun G' H' m e a b c d f g i=>k _ _ (h6 G' H' m e a b c d f g i)⟩
theorem steps_of{CO CC:Addr}(X:ClsTxt K mg CO CC){G H:Hp}(sm:Same G H):∀ {fv:List V} {cs:List Ch},RepCs CC G fv cs→Paired (fun (x:V) (n:Int)=>∃ a C dx fs,x=.ref a∧H a=some (.ins C dx fs)∧Cls K C∧NoAttr K C ("steps":Str)∧fs.lookup ("steps":Str)=some (V.int n)) fv (cs.map fun c=>(c.n:Int))
 | _,_,.nil=>.nil
 | _,_,.cons r t=>by
  refine .cons ?_ (steps_of X sm t);obtain⟨x,dx,p,q,rfl,h⟩:=r.steps;exact⟨x,CC,dx,_,rfl,sm _ _ h,X.clC,X.nS,rfl⟩
theorem scBest:FnScope ["row","other","here","there","opposites","best","stretch","opposite","found"] ["row","other"] (defScope sBest):=scD rfl rfl rfl rfl
inductive B1Inv(P:Program)(w:World)(CC Pt:Addr)(G H G4:Hp)(v u:V)(hx tx l2 pb:Addr)(qs qo:List (Nat×Nat))(ts us:List Tr)(a:Nat)(σ:L2.St)(H':Hp):Prop
 | mk (G9:Hp) (tab:NTab) (qq:Array Value) (z6 z7 z8:Option V):σ=[some v,some u,some (.ref hx),some (.ref tx),some (.ref l2),some (.ref pb),z6,z7,z8]→ExtP Pt G H G9 H'→Same G4 G9→G9 pb=none→G9 Pt=none→H' pb=some (NO P w pb tab)→NKeys G9 tab→tab.length≤a * 55→H' Pt=some (.tbl qq)→TabOk lamQ lamP Pt H' qq→(∀ s∈qs.take a,∀ o∈qo,TabK CC G9 tab (marksL ts) (marksL us) (endsL ts) (endsL us) s o)→B1Inv P w CC Pt G H G4 v u hx tx l2 pb qs qo ts us a σ H'
inductive B2Inv(P:Program)(w:World)(CC Pt:Addr)(G H G4:Hp)(v u:V)(hx tx l2 pb:Addr)(qs qo:List (Nat×Nat))(ts us:List Tr)(y:V)(a i e:Nat)(b:Nat)(σ:L2.St)(H':Hp):Prop
 | mk (G9:Hp) (tab:NTab) (qq:Array Value) (z7 z8:Option V):σ=[some v,some u,some (.ref hx),some (.ref tx),some (.ref l2),some (.ref pb),some y,z7,z8]→ExtP Pt G H G9 H'→Same G4 G9→G9 pb=none→G9 Pt=none→H' pb=some (NO P w pb tab)→NKeys G9 tab→tab.length≤a * 55+b→H' Pt=some (.tbl qq)→TabOk lamQ lamP Pt H' qq→((∀ s∈qs.take a,∀ o∈qo,TabK CC G9 tab (marksL ts) (marksL us) (endsL ts) (endsL us) s o))→(∀ o∈qo.take b,TabK CC G9 tab (marksL ts) (marksL us) (endsL ts) (endsL us) (i,e) o)→B2Inv P w CC Pt G H G4 v u hx tx l2 pb qs qo ts us y a i e b σ H'
theorem ok_best{CO CC c Pt:Addr}{f:Addr}{fd:FuncData}(F:Fun K "best_choice" "best_choice" sBest f fd)(T:Txt mg)(X:ClsTxt K mg CO CC)(hcode:fd.code=.ref c)(C:PySem.W.CodeHd base c Pt)(B:base.BuiltinsAt mg Pt)(hgP:mainGlobals≠Pt)
  (F_out:MkR P w K mg base 11 "Outline" CO ["self","row"] (spOut CO)) (F_str:Ok1 P w K mg base 5 "stretches" ["outline"] (spStretches CO)) (F_choices:Ok1 P w K mg base 7 "choices" ["best","here","there","stretch","opposite"] (spChoices P w CO CC))
  (F_whole:Ok1 P w K mg base 3 "whole" ["outline"] (spWhole CO)):FnOk P w K mg base CX0 13 f fd ["row","other"] (spBest CO CC Pt):=by
 refine F.okC scBest (fun vs H Q E h=>?_) (fun A outer s H vs Q E hr h=>?_)
 ·obtain⟨G,v,u,ts,us,ps,rfl,_⟩:=h;rfl
 ·obtain⟨G,v,u,ts,us,ps,rfl,sm,rv,ru,k1,k2,nPt,hPt,htab,kq⟩:=h;have nd:=scBest.nd;have hu9:=hu9_of hr;have big:=line_big
  refine⟨_,(pss_cons (ps_set (i:=2) nd rfl (Or.inl rfl) (pe_mk F_out (hr.mono (by decide)) rfl (pa_cons (pc 0) pa_nil)))
   (pss_cons (ps_set (i:=3) nd rfl (Or.inl rfl) (pe_mk F_out (hr.mono (by decide)) rfl (pa_cons (pc 1) pa_nil)))
   (pss_cons (ps_set (i:=4) nd rfl (Or.inl rfl) (pe_fn F_str (hr.mono (by decide)) rfl (pa_cons (pc 3) pa_nil)))
   (pss_cons (ps_set (i:=5) nd rfl (Or.inl rfl) pe_nnew)
   (pss_cons (ps_for PassesOwn.never rfl (pi_list (pe_fn F_str (hr.mono (by decide)) rfl (pa_cons (pc 2) pa_nil))) (pg_name (i:=6) nd rfl (Or.inl rfl))
    (pss_one (ps_for PassesOwn.never rfl (pi_list (pc 4)) (pg_name (i:=7) nd rfl (Or.inl rfl))
     (pss_cons (ps_set (i:=8) nd rfl (Or.inl rfl) (pe_fn F_choices (hr.mono (by decide)) rfl (pa_cons (pc 5) (pa_cons (pc 2) (pa_cons (pc 3) (pa_cons (pc 6) (pa_cons (pc 7) pa_nil)))))))
     (pss_one (ps_nput hu9 (pc 5) (pe_tup (pa_cons (pc 6) (pa_cons (pc 7) pa_nil)))
      (pe_minKey (c:=c) (Pt:=Pt) rfl T.min (hr.in1.depth) hr.hd hcode C B hgP (pa_cons (pc 8) pa_nil) rfl rfl rfl (fun _ _ _ _=>rfl) rfl (by decide +kernel) rfl rfl rfl (by decide) (fun _=>rfl)) rfl))))))
   (pss_one (ps_ret (pe_nget hu9 (pc 5) (pe_tup (pa_cons (pe_fn F_whole (hr.mono (by decide)) rfl (pa_cons (pc 2) pa_nil)) (pa_cons (pe_fn F_whole (hr.mono (by decide)) rfl (pa_cons (pc 3) pa_nil)) pa_nil))) (fun _ _=>rfl))))))))),?_⟩
  (try dsimp only);refine seq_gen fun Ra hna hra=>?_;refine (fun hx dxx nxx ndxx nexx=>out_then (make_outline (C:=CO) (Q:=fun r H'=>∃ G',Ext G H G' H'∧OutRep CO G' r (marksL ts) (endsL ts)) sm rv (by omega) (fun G' H' r x' o=>⟨G',x',o⟩) hx dxx nxx ndxx nexx) ?_);rintro v' H1 ⟨rfl,G1,x1,o1⟩;refine⟨rfl,hna _ _ ?_⟩;clear hna hra Ra;(try dsimp only);refine seq_gen fun Rb hnb hrb=>?_;refine (fun tx dyx nyx ndyx neyx=>out_then (make_outline (C:=CO) (Q:=fun r H'=>∃ G',Ext G1 H1 G' H'∧OutRep CO G' r (marksL us) (endsL us)) x1.gh (ru.mono x1.g) (by omega) (fun G' H' r x' o=>⟨G',x',o⟩) tx dyx nyx ndyx neyx) ?_);rintro v' H2 ⟨rfl,G2,x2,o2⟩;refine⟨rfl,hnb _ _ ?_⟩;clear hnb hrb Rb;have x12:=x1.trans x2;have at1:At (marksL ts) (endsL ts) 0 (marksL ts).length ts:=by rw[marksL_length]; exact at_whole ts
  have at2:At (marksL us) (endsL us) 0 (marksL us).length us:=by rw[marksL_length]; exact at_whole us
  have L1:=marksL_length ts;have L2:=marksL_length us;(try dsimp only);refine seq_gen fun Rc hnc hrc=>?_;refine⟨G2,.ref tx,marksL us,endsL us,us,rfl,x12.gh,o2,at2,by omega,fun G3 H3 l2 ov qo x3 hl2 ro do2 len2 mem2=>hnc _ _ ?_⟩;clear hnc hrc Rc;have x13:=x12.trans x3;intro pb hpb;have xb:Ext G3 H3 G3 (upd H3 pb (NO P w pb [])):=Ext.tmp x13.gh hpb;have hbb:upd H3 pb (NO P w pb []) pb=some (NO P w pb []):=upd_same;have npb:G3 pb=none:=x13.gh.none hpb;have pbH:H pb=none:=x13.h.none hpb
  have pbne:pb≠Pt:=fun z=>by
   have:=x13.h _ _ hPt;rw[← z,hpb] at this;cases this
  dsimp only[cxOf];generalize upd H3 pb (NO P w pb [])=Hb at *;refine seq_gen fun Re hne hre=>?_;refine⟨G3,.ref hx,marksL ts,endsL ts,ts,rfl,xb.gh,(o1.mono x2.g).mono x3.g,at1,by omega,fun G4 H4 l1 sv qs x4 hl1 rs ds len1 mem1=>?_⟩;have x0:=(x13.trans xb).trans x4;have hb4:=x4.h _ _ hbb;have nb4:=x4.keep hbb npb;have hP4:=x0.h _ _ hPt;have nP4:=x0.keep hPt nPt;have o14:OutRep CO G4 (.ref hx) (marksL ts) (endsL ts):=((o1.mono x2.g).mono x3.g).mono x4.g;have o24:OutRep CO G4 (.ref tx) (marksL us) (endsL us):=(o2.mono x3.g).mono x4.g;have hl24:=x4.g _ _ hl2;have ro4:=ro.mono x4.g;have tab4:TabOk lamQ lamP Pt H4 ps:=htab.mono fun b o _ e=>x0.h b o e;clear x1 x2 x12 x3 x13 xb x4 hbb npb o1 o2 nxx ndxx nexx nyx ndyx neyx hpb rv ru sm;have lv1:=rs.length;have lv2:=ro4.length;rw[La1] at lv1 lv2
  refine⟨l1,rfl,⟨_,SqL.of (x0.gh _ _ hl1)⟩,for_listG (K:=K) (a:=l1) (xs:=sv)
   (B1Inv P w CC Pt G H G4 v u hx tx l2 pb qs qo ts us)
   ⟨G4,[],ps,none,none,none,rfl,.of x0,Same.refl _,nb4,nP4,hb4,(fun _ z=>nomatch z),Lb1 _,hP4,tab4,fun s hs=>absurd hs (by rw[Lj2]; exact List.not_mem_nil)⟩
   (fun a σ H' _ hZq=>by obtain⟨_,_,_,_,_,_,_,x,s9,_⟩:=hZq; exact SqL.of (x.gh _ _ (s9 _ _ hl1))) ?_ ?_⟩
  ·intro a y σ H5 hi hZp R0 hnx0 hrx0;refine fold_goal fun Z' Y'=>?_;obtain⟨G5,tab,qq,z6,z7,z8,rfl,x5,s5,nb5,nP5,hb5,nk5,tl5,hP5,tb5,kn5⟩:=hZp;have hil:a<sv.length:=(La5.mp hi).1;have hib:a<qs.length:=by omega
   obtain⟨d,hd,rd⟩:=rs.at hi;have hqa:qs[a]?=some qs[a]:=La0 hib;rw[La6,hqa] at hd;cases hd;have htk:qs.take (a+1)=qs.take a++[qs[a]]:=Lc5 hib;have hin:=(mem1 _).mp (Ld4 hib);generalize qs[a]=st at *;obtain⟨i,e⟩:=st;refine Y' ?_;clear Y' Z'
   refine⟨l2,rfl,⟨_,SqL.of (x5.gh _ _ (s5 _ _ hl24))⟩,for_listG (K:=K) (a:=l2) (xs:=ov)
    (B2Inv P w CC Pt G H G4 v u hx tx l2 pb qs qo ts us y a i e)
    ⟨G5,tab,qq,_,_,rfl,x5,s5,nb5,nP5,hb5,nk5,tl5,hP5,tb5,kn5,fun s hs=>absurd hs (by rw[Lj2]; exact List.not_mem_nil)⟩
    (fun b σ H' _ hZq=>by obtain⟨_,_,_,_,_,_,x,s9,_⟩:=hZq; exact SqL.of (x.gh _ _ (s9 _ _ hl24))) ?_ ?_⟩
   ·intro b y2 σ H6 hi2 hZp R1 hnx1 hrx1;refine fold_goal fun Z' Y'=>?_;clear x5 s5 nb5 nP5 hb5 nk5 tl5 hP5 tb5 kn5 tab qq;obtain⟨G6,tab,qq,z7,z8,rfl,x6,s6,nb6,nP6,hb6,nk6,tl6,hP6,tb6,kn6,kb6⟩:=hZp;have hil2:b<ov.length:=(La5.mp hi2).1;have hib2:b<qo.length:=by omega
    obtain⟨d,hd,rd2⟩:=ro4.at hi2;have hqb:qo[b]?=some qo[b]:=La0 hib2;rw[La6,hqb] at hd;cases hd;have htk2:qo.take (b+1)=qo.take b++[qo[b]]:=Lc5 hib2;have hmo:qo[b]∈qo:=Ld4 hib2;have hin2:=(mem2 _).mp hmo;generalize qo[b]=ot at *;obtain⟨k,f⟩:=ot;obtain⟨Fa,fa,le1⟩:=InS.row at1 hin;obtain⟨Ga,ga,le2⟩:=InS.row at2 hin2
    replace fa:At (marksL ts) (endsL ts) i e Fa:=fa
    replace ga:At (marksL us) (endsL us) k f Ga:=ga
    replace le1:e≤(marksL ts).length:=le1
    replace le2:f≤(marksL us).length:=le2
    have W1:∃ (av:V) (ca:Ch),i<e→look tab (keyD (i+1,e) (k,f))=some av∧RepC CC G6 av ca∧Known (marksL ts) (marksL us) (endsL ts) (endsL us) (i+1,e) (k,f) ca:=by
     by_cases z:i<e
     ·obtain⟨j,ej,lj,je,i1,i2,i3⟩:=InS.parts at1 hin z;obtain⟨w',c',h1,h2,h3⟩:=kn6 _ (ds.before hqa ((mem1 _).mpr i1) (Li1 i)) _ hmo;exact⟨w',c',fun _=>⟨h1,h2,h3⟩⟩
     ·exact⟨.non,.mk 0 [] [],fun z'=>absurd z' z⟩
    have W2:∃ (cv:V) (cc:Ch),k<f→look tab (keyD (i,e) (k+1,f))=some cv∧RepC CC G6 cv cc∧Known (marksL ts) (marksL us) (endsL ts) (endsL us) (i,e) (k+1,f) cc:=by
     by_cases z:k<f
     ·obtain⟨l,el,ll,lf,i1,i2,i3⟩:=InS.parts at2 hin2 z;obtain⟨w',c',h1,h2,h3⟩:=kb6 _ (do2.before hqb ((mem2 _).mpr i1) (Li1 k));exact⟨w',c',fun _=>⟨h1,h2,h3⟩⟩
     ·exact⟨.non,.mk 0 [] [],fun z'=>absurd z' z⟩
    have W3:∃ (bv rv:V) (cb cr:Ch) (j l:Nat),i<e→k<f→(endsL ts)[i]?=some j∧(endsL us)[k]?=some l∧(∃ m,(marksL ts)[i]?=some m)∧(∃ m',(marksL us)[k]?=some m')∧look tab (keyD (i+1,j) (k+1,l))=some bv∧RepC CC G6 bv cb ∧
      look tab (keyD (j,e) (l,f))=some rv∧RepC CC G6 rv cr∧Known (marksL ts) (marksL us) (endsL ts) (endsL us) (i+1,j) (k+1,l) cb∧Known (marksL ts) (marksL us) (endsL ts) (endsL us) (j,e) (l,f) cr:=by
     by_cases z:i<e∧k<f
     ·obtain⟨j,ej,lj,je,i1,i2,i3⟩:=InS.parts at1 hin z.1;obtain⟨l,el,ll,lf,i4,i5,i6⟩:=InS.parts at2 hin2 z.2;obtain⟨w1,c1,h1,h2,h3⟩:=kn6 _ (ds.before hqa ((mem1 _).mpr i2) (Li1 i)) _ ((mem2 _).mpr i5);obtain⟨w2,c2,h4,h5,h6⟩:=kn6 _ (ds.before hqa ((mem1 _).mpr i3) (by show i<j; omega)) _ ((mem2 _).mpr i6);exact⟨w1,w2,c1,c2,j,l,fun _ _=>⟨ej,el,⟨_,La0 (by omega)⟩,⟨_,La0 (by omega)⟩,h1,h2,h4,h5,h3,h6⟩⟩
     ·exact⟨.non,.non,.mk 0 [] [],.mk 0 [] [],0,0,fun z1 z2=>absurd ⟨z1,z2⟩ z⟩
    obtain⟨av,ca,W1⟩:=W1;obtain⟨cv,cc,W2⟩:=W2;obtain⟨bv,rv,cb,cr,j,l,W3⟩:=W3;refine Y' ?_;clear Y' Z';dsimp only[gName];refine seq_gen fun R2 hn2 hr2=>?_
    refine⟨G6,pb,tab,.ref hx,.ref tx,y,y2,bv,rv,av,cv,marksL ts,marksL us,endsL ts,endsL us,i,e,k,f,j,l,cb,cr,ca,cc,rfl,x6.gh,hb6,nb6,nk6,o14.mono s6,o24.mono s6,rd.mono s6,rd2.mono s6,
     (fun z1 z2=>by obtain⟨q1,q2,q3,q4,q5,q6,q7,q8,_⟩:=W3 z1 z2; exact⟨q1,q2,q3,q4,q5,q6,q7,q8⟩),(fun z=>⟨(W1 z).1,(W1 z).2.1⟩),(fun z=>⟨(W2 z).1,(W2 z).2.1⟩),fun G7 H7 la fv x7 hla rcs=>hn2 _ _ ?_⟩
    clear hn2 hr2 R2;have nb7:=x7.keep hb6 nb6;have nP7:=x7.keep hP6 nP6;have hcl:=rcs.length
    have hchs:chs (marksL ts) (marksL us) i e k f cb cr ca cc≠[]:=by
     unfold chs
     by_cases z1:i<e
     ·rw[if_pos z1]; simp
     ·by_cases z2:k<f
      ·rw[if_pos z2]; simp
      ·rw[if_neg (show ¬ (i<e∨k<f) by omega)]; simp
    refine⟨la,fv,(chs (marksL ts) (marksL us) i e k f cb cr ca cc).map (fun c=>(c.n:Int)),qq,rfl,x7.gh _ _ hla,(fun z=>hchs (Ld5.mp (by rw[← hcl,z]; rfl))),steps_of X x7.gh rcs,x7.h _ _ hP6,tb6.mono (fun b o _ e=>x7.h b o e),
     fun idx x H8 qq' hx8 hmin hk8 hP8 ht8=>⟨(by show 2≤sizeLine; decide),fun q9 g9=>?_⟩⟩
    obtain⟨ch,hch,rch⟩:=rcs.at hx8;have xx:=(x6.trans (.of x7)).tab nP7 hk8;have y9:=Ext.add (o:=.tup [y,y2]) xx.gh g9;have x9:=xx.trans (.of y9);have hkey:Rep (upd G7 q9 (.tup [y,y2])) (.ref q9) (keyD (i,e) (k,f)):=.tup upd_same (.cons (((rd.mono s6).mono x7.g).mono y9.g) (.cons (((rd2.mono s6).mono x7.g).mono y9.g) .nil));have hb8:=hk8 _ _ pbne (x7.h _ _ hb6);have nk9:=(nk6.mono x7.g).mono y9.g;have g69:=x7.g.trans y9.g;have nb9:=y9.keep hb8 nb7
    have hcm:∀ ch'∈chs (marksL ts) (marksL us) i e k f cb cr ca cc,ch.n≤ch'.n:=fun ch' hm'=>by
     obtain⟨jj,hjj,ejj⟩:=Le0.mp hm';have h1:=(hmin jj (by rw[La1]; exact hjj)).1;rw[La3,La6,hch,La3,La6,La0 hjj,ejj] at h1;have h2:(ch.n:Int)≤(ch'.n:Int):=h1;omega
    have hKn:Known (marksL ts) (marksL us) (endsL ts) (endsL us) (i,e) (k,f) ch:=chs_known (b:=cb) (r:=cr) (a:=ca) (c:=cc) (j:=j) (l:=l) fa ga (fun z1 z2=>by obtain⟨q1,q2,_,_,_,_,_,_,q9,q10⟩:=W3 z1 z2; exact⟨q1,q2,q9,q10⟩) (fun z=>(W1 z).2.2) (fun z=>(W2 z).2.2) (Lf2 hch) hcm;refine⟨pb,q9,tab,_,keyD (i,e) (k,f),rfl,rfl,y9.h _ _ hb8,y9.gh,nk9,hkey,keyD_ok _ _,by omega,?_⟩;have lp:=length_putN tab (keyD (i,e) (k,f)) q9 x;refine hnx1 _ _ ⟨_,_,qq',_,_,rfl,x9.mut nb9 pbH,s6.trans g69,nb9,y9.keep hP8 nP7,upd_same,nk9.put hkey (keyD_ok _ _) _,by omega,?_,(ht8.mono (fun b o _ e=>y9.h b o e)).put (y9.h _ _ hb8),fun s hs o ho=>?_,fun o ho=>?_⟩
    ·rw[upd_ne (Ne.symm pbne)];exact y9.h _ _ hP8
    ·exact TabK.put (.inl ((kn6 s hs o ho).mono g69)) (rch.mono y9.g) hKn
    ·rw[htk2] at ho
     rcases Lb9.mp ho with ho | ho
     ·exact TabK.put (.inl ((kb6 o ho).mono g69)) (rch.mono y9.g) hKn
     ·rw[Lc8.mp ho];exact TabK.put (.inr ⟨rfl,rfl⟩) (rch.mono y9.g) hKn
   ·intro σ H6 hZp;obtain⟨G6,tab6,qq6,z77,z88,rfl,x6,s6,nb6,nP6,hb6,nk6,tl6,hP6,tb6,kn6,kb6⟩:=hZp;refine hnx0 _ _ ⟨G6,tab6,qq6,_,_,_,rfl,x6,s6,nb6,nP6,hb6,nk6,by omega,hP6,tb6,fun s hs o ho=>?_⟩;rw[htk] at hs
    rcases Lb9.mp hs with hs | hs
    ·exact kn6 s hs o ho
    ·rw[Lc8.mp hs];exact kb6 o (by rw[lv2,Le9]; exact ho)
  ·intro σ H5 hZp;obtain⟨G5,tab,qq,z6,z7,z8,rfl,x5,s5,nb5,nP5,hb5,nk5,tl5,hP5,tb5,kn5⟩:=hZp;refine hne _ _ ?_;rw[lv1,Le9] at kn5;obtain⟨rv,ch,hlk,rch,hK⟩:=kn5 (0,(marksL ts).length) ((mem1 _).mpr (InS.whole _ _)) (0,(marksL us).length) ((mem2 _).mpr (InS.whole _ _));refine⟨G5,.ref hx,marksL ts,endsL ts,rfl,x5.gh,o14.mono s5,fun G6 H6 r6 x6 rr6=>⟨G6,.ref tx,marksL us,endsL us,rfl,x6.gh,(o24.mono s5).mono x6.g,fun G7 H7 r7 x7 rr7=>⟨by show 2≤sizeLine; decide,fun q8 g8=>?_⟩⟩⟩;have y8:=Ext.add (o:=.tup [r6,r7]) x7.gh g8;have z8:=(x6.trans x7).trans y8;refine⟨pb,q8,tab,_,keyD (0,(marksL ts).length) (0,(marksL us).length),rv,rfl,rfl,z8.h _ _ hb5,z8.gh,nk5.mono z8.g,.tup upd_same (.cons ((rr6.mono x7.g).mono y8.g) (.cons (rr7.mono y8.g) .nil)),keyD_ok _ _,hlk,?_⟩;rw[L1,L2] at hK;exact kq _ _ rv ch qq (x5.trans (.of z8)) (z8.keep hP5 nP5) (z8.h _ _ hP5) (tb5.mono fun b o _ e=>z8.h b o e) (rch.mono z8.g) hK
inductive PspCost(Pt:Addr)(vs:List V)(H:Hp)(Q:VK):Prop
 | mk (G:Hp) (v u:V) (ts us:List Tr) (ps:Array Value):vs=[v,u]→Same G H→Rep G v (rowD ts)→Rep G u (rowD us)→knotsOf ts≤9→knotsOf us≤9→G Pt=none→H Pt=some (.tbl ps)→TabOk lamQ lamP Pt H ps→(∀ (G' H':Hp) (n:Nat) (ps':Array Value),ExtP Pt G H G' H'→G' Pt=none→H' Pt=some (.tbl ps')→TabOk lamQ lamP Pt H' ps'→Least ts us n→Q (.int (n:Int)) H')→PspCost Pt vs H Q
def spCost(Pt:Addr):Sp:=fun vs H Q _=>PspCost Pt vs H Q
theorem scCost:FnScope ["row","other"] ["row","other"] (defScope sCost):=scD rfl rfl rfl rfl
theorem ok_cost{CO CC Pt:Addr}{f:Addr}{fd:FuncData}(F:Fun K "cost" "cost" sCost f fd)(X:ClsTxt K mg CO CC)(F_best:Ok1 P w K mg base 13 "best_choice" ["row","other"] (spBest CO CC Pt)):FnOk P w K mg base CX0 15 f fd ["row","other"] (spCost Pt):=by
 refine F.ok scCost (fun vs H Q E h=>?_) (fun cdv A outer s H vs Q E hr h=>?_)
 ·obtain⟨G,v,u,ts,us,ps,rfl,_⟩:=h;rfl
 ·refine fold_goal fun Z' Y'=>?_;obtain⟨G,v,u,ts,us,ps,rfl,sm,rv,ru,k1,k2,nPt,hPt,htab,kq⟩:=h;refine Y' ?_;clear Y' Z';refine⟨_,(pss_one (ps_ret (pe_fld (pe_fn F_best (hr.mono (by decide)) rfl (pa_cons (pc 0) (pa_cons (pc 1) pa_nil))) rfl))),?_⟩;refine⟨G,v,u,ts,us,ps,rfl,sm,rv,ru,k1,k2,nPt,hPt,htab,fun G' H' r c ps' x' n' h' t' rc hK=>?_⟩;refine fold_goal fun Z' Y'=>?_;obtain⟨x,dx,p,q,rfl,hx⟩:=rc.steps;refine Y' ?_;clear Y' Z';exact⟨x,CC,dx,_,_,rfl,x'.gh _ _ hx,X.clC,X.nS,rfl,kq G' H' c.n ps' x' n' h' t' (hK.2 _ _ (at_whole ts) (at_whole us))⟩
end
end K8
namespace TT
open PySem PySem.Spec PyProof.Rows L2
theorem RepCs.snoc{C:Addr}{G:Hp}{y:V}:∀ {vs:List V} {cs:List Ch},RepCs C G (vs++[y]) cs→∃ ds d,cs=ds++[d]∧RepCs C G vs ds∧RepC C G y d
 | [],_,h=>by cases h with | cons r t=>cases t; exact⟨[],_,rfl,.nil,r⟩
 | v::vs,_,h=>by
  cases h with
  | cons r t =>
   obtain⟨ds,d,e,h1,h2⟩:=RepCs.snoc t;subst e;exact⟨_::ds,d,rfl,.cons r h1,h2⟩
theorem RepC.parts{C:Addr}{G:Hp}{v:V}{c:Ch}(r:RepC C G v c):∃ (x dx p q:Addr) (n:Nat) (ps:List (Nat×Nat)) (cs:List Ch) (pvs cvs:List V),v=.ref x∧c=.mk n ps cs∧G x=some (.ins C dx [("steps",.int (n:Int)),("pairs",.ref p),("parts",.ref q)])∧G p=some (.lst pvs)∧Reps G pvs (ps.map pairD)∧G q=some (.lst cvs)∧RepCs C G cvs cs:=by
 cases r with
 | mk hx hp hps hq hcs=>exact⟨_,_,_,_,_,_,_,_,_,rfl,rfl,hx,hp,hps,hq,hcs⟩
theorem pairs_turn{qs:List (Nat×Nat)}{cs ds:List Ch}{n:Nat}{ps:List (Nat×Nat)}{L:List (Nat×Nat)}(h:(qs++pairsOf (cs++[.mk n ps ds])).Perm L):((qs++ps)++pairsOf (cs++ds)).Perm L:=by
 refine List.Perm.trans ?_ h;rw[pairsOf_app,pairsOf_app,pairsOf,pairsOf,Lc0,Ch.pairs,La9];refine List.Perm.append_left _ ?_;rw[← La9,← La9];exact List.Perm.append_right _ Lh1
theorem TabOk.putL{qual:Str}{pos:Pos}{Pt pb:Addr}{H:Hp}{ps:Array Value}{xs:List V}{o:HO}(t:TabOk qual pos Pt H ps)(h:H pb=some (.lst xs)):TabOk qual pos Pt (upd H pb o) ps:=by
 rcases t with e | ⟨c',oc,vs,t,e,n,hc,r⟩
 ·exact .inl e
 ·refine .inr ⟨c',oc,vs,t,e,n,?_,r⟩;rw[upd_ne (fun z=>by rw[z,h] at hc; cases hc)];exact hc
end TT
namespace K8
open PySem L2 TT
section
variable {P:Program} {w:World} {K:PySem.W.Frag} {mg:Str→Option Value} {base:Heap}
inductive PspNum(CC Pt:Addr)(vs:List V)(H:Hp)(Q:VK):Prop
 | mk (G:Hp) (v u:V) (ts us:List Tr) (ps:Array Value):vs=[v,u]→Same G H→Rep G v (rowD ts)→Rep G u (rowD us)→knotsOf ts≤9→knotsOf us≤9→G Pt=none→H Pt=some (.tbl ps)→TabOk lamQ lamP Pt H ps→(∀ (G' H':Hp) (r:V) (c:Ch) (ps':Array Value),ExtP Pt G H G' H'→G' Pt=none→H' Pt=some (.tbl ps')→TabOk lamQ lamP Pt H' ps'→Rep G' r (.lst (c.pairs.map pairD))→Known (marksL ts) (marksL us) (endsL ts) (endsL us) (0,knotsOf ts) (0,knotsOf us) c→Q r H')→PspNum CC Pt vs H Q
def spNum(CC Pt:Addr):Sp:=fun vs H Q _=>PspNum CC Pt vs H Q
inductive NumInv(CC Pt:Addr)(G H G1:Hp)(v u:V)(pp pw:Addr)(c:Ch)(m:Nat)(σ:L2.St)(H2:Hp):Prop
 | mk (pv wv:List V) (qs:List (Nat×Nat)) (cs:List Ch) (z:Option V) (ps:Array Value):σ=[some v,some u,some (.ref pp),some (.ref pw),z]→ExtP Pt G H G1 H2→H2 pp=some (.lst pv)→H2 pw=some (.lst wv)→H2 Pt=some (.tbl ps)→TabOk lamQ lamP Pt H2 ps→Reps G1 pv (qs.map pairD)→RepCs CC G1 wv cs→(qs++pairsOf cs).Perm c.pairs→manyOf cs=m→m≤100→NumInv CC Pt G H G1 v u pp pw c m σ H2
theorem scNum:FnScope ["row","other","pairs","waiting","choice"] ["row","other"] (defScope sNum):=scD rfl rfl rfl rfl
theorem ok_num{CO CC Pt:Addr}{f:Addr}{fd:FuncData}(F:Fun K "numbers_matched" "numbers_matched" sNum f fd)(T:Txt mg)(X:ClsTxt K mg CO CC)(F_best:Ok1 P w K mg base 13 "best_choice" ["row","other"] (spBest CO CC Pt)):FnOk P w K mg base CX0 15 f fd ["row","other"] (spNum CC Pt):=by
 refine F.ok scNum (fun vs H Q E h=>?_) (fun cdv A outer s H vs Q E hr h=>?_)
 ·obtain⟨G,v,u,ts,us,ps,rfl,_⟩:=h;rfl
 ·refine fold_goal fun Z' Y'=>?_;obtain⟨G,v,u,ts,us,ps,rfl,sm,rv,ru,k1,k2,nPt,hPt,htab,kq⟩:=h;refine Y' ?_;clear Y' Z';have nd:=scNum.nd;have big:=line_big
  refine⟨_,(pss_cons (ps_set (i:=2) nd rfl (Or.inl rfl) (pe_lst pa_nil))
   (pss_cons (ps_set (i:=3) nd rfl (Or.inl rfl) (pe_lst (pa_cons (pe_fn F_best (hr.mono (by decide)) rfl (pa_cons (pc 0) (pa_cons (pc 1) pa_nil))) pa_nil)))
   (pss_cons (ps_while PassesOwn.never (pt_truth (pc 3) (fun _=>rfl))
    (pss_cons (ps_set (i:=4) nd rfl (Or.inl rfl) (pe_bm0 PySem.F.plainAttrs_list PySem.F.slot_list_pop PySem.F.type_list_pop mt_pop (pc 3)))
    (pss_cons (ps_expr (pe_bm PySem.F.plainAttrs_list PySem.F.slot_list_extend PySem.F.type_list_extend mt_extend (pc 2) (pa_cons (pe_fld (pc 4) rfl) pa_nil)))
    (pss_one (ps_expr (pe_bm PySem.F.plainAttrs_list PySem.F.slot_list_extend PySem.F.type_list_extend mt_extend (pc 3) (pa_cons (pe_fld (pc 4) rfl) pa_nil)))))))
   (pss_one (ps_ret (pe_callB call_sortedP rfl T.sorted bt_sorted (pa_cons (pc 2) pa_nil))))))),?_⟩
  (try dsimp only);refine seq_gen fun Ra hna hra=>?_;refine⟨Lb1 _,fun pp hpp=>hna _ _ ?_⟩;clear hna hra Ra;have x0:Ext G H G (upd H pp (.lst [])):=Ext.tmp sm hpp;have hp0:upd H pp (.lst []) pp=some (.lst []):=upd_same;have np0:=sm.none hpp;have nPp:pp≠Pt:=fun e=>by rw[e,hPt] at hpp; cases hpp
  generalize upd H pp (.lst [])=H0 at *;(try dsimp only);refine seq_gen fun Ra hna hra=>?_;refine⟨G,v,u,ts,us,ps,rfl,x0.gh,rv,ru,k1,k2,nPt,x0.h _ _ hPt,htab.mono (fun b o _ e=>x0.h b o e),fun G1 H1 r c ps1 x1 nP1 hP1 ht1 rc hK=>?_⟩;refine⟨(by show 1≤sizeLine; decide),fun pw hpw=>hna _ _ ?_⟩;clear hna hra Ra;have fit:=hK.1.fits (at_whole ts) (at_whole us);have hp1:=x1.h _ _ nPp hp0;have np1:=x1.keep nPp hp0 np0;have nw1:G1 pw=none:=x1.gh.none hpw;have nPw:pw≠Pt:=fun e=>by rw[e,hP1] at hpw; cases hpw
  have hwH:H pw=none:=by
   cases e:H pw with
   | none=>rfl
   | some o=>have:=x1.h _ _ nPw (x0.h _ _ e); rw[hpw] at this; cases this
  have npw:pp≠pw:=fun e=>by rw[← e,hp1] at hpw; cases hpw
  have x2:ExtP Pt G H G1 (upd H1 pw (.lst [r])):=((ExtP.of x0).trans x1).mut nw1 hwH;have hf1:c.many+2 * (0+0)≤2 * (knotsOf ts+knotsOf us)+1:=fit.few;have hl1:c.pairs.length+(0+0)≤knotsOf ts+knotsOf us:=fit.len;(try dsimp only);refine seq_gen fun Rw hnw hrw=>?_;refine⟨NumInv CC Pt G H G1 v u pp pw c,⟨c.many,[],[r],[],[c],none,ps1,rfl,x2,(upd_ne npw).trans hp1,upd_same,(upd_ne (Ne.symm nPw)).trans hP1,ht1.mono (fun b o _ e=>by rw[upd_ne (ne_of_none e hpw)]; exact e),.nil,.cons rc .nil,?_,?_,by omega⟩,?_⟩
  ·rw[Ld1,pairsOf,pairsOf,Lc0]
  ·rw[manyOf,manyOf,Lk6]
  clear x2 x1 hp1 hP1 ht1 hpw x0 hp0 np0;intro m σ H2 hZp;refine fold_goal fun Z' Y'=>?_;obtain⟨pv,wv,qs,cs,z,ps2,rfl,x2,hp2,hw2,hP2,ht2,rp,rw2,hperm,rfl,hm⟩:=hZp;refine Y' ?_;clear Y' Z';have hpl:=hperm.length_eq;rw[La2] at hpl;have hrl:=rp.length;rw[La1] at hrl;have hwl:=rw2.length;have hml:=length_le_many cs;refine⟨!wv.isEmpty,.inl ⟨wv,SqL.of hw2,rfl⟩,?_⟩
  cases he:wv.isEmpty with
  | true =>
   refine iteF (hnw _ _ ?_);clear hnw hrw Rw;have e1:wv=[]:=Lf0.mp he;subst e1;cases rw2;rw[pairsOf,Lc0] at hperm;(try dsimp only);refine⟨pp,pv,G1,qs,rfl,SqL.of hp2,x2.gh,rp,by omega,fun l vs' qs' hl rr pm asc=>?_⟩;have e:=asc_one _ _ (pm.trans hperm) asc (asc_lie fit.lie);subst e;have y:=Ext.add (o:=.lst vs') x2.gh hl
   exact kq _ _ _ c ps2 (x2.trans (ExtP.of y)) (y.keep hP2 nP1) (y.h _ _ hP2) (ht2.mono fun b o _ e=>y.h b o e) (.lst upd_same (rr.mono y.g)) hK
  | false =>
   refine iteT ⟨fun σ' H'=>∃ m',m'<manyOf cs∧NumInv CC Pt G H G1 v u pp pw c m' σ' H',fun _ _ z=>z,?_⟩;refine fold_goal fun Z' Y'=>?_;obtain⟨wv0,y,rfl⟩:=last_of wv he;obtain⟨cs0,c1,rfl,rc0,rc1⟩:=rw2.snoc;obtain⟨x,dx,p,q,n,ps1,cs1,pvs,cvs,rfl,rfl,hx,hp,rps,hq,rcs⟩:=rc1.parts;refine Y' ?_;clear Y' Z' hnw hrw;have hqp:=pairs_turn hperm;have hpl2:=hqp.length_eq;rw[La2,La2] at hpl2;rw[manyOf_app,manyOf,manyOf,Ch.many] at hm;have hrl2:=rps.length;rw[La1] at hrl2;have hcl2:=rcs.length;have hcl0:=rc0.length;have hml2:=length_le_many cs1;have hml0:=length_le_many cs0;(try dsimp only);refine seq_gen fun R1 hn1 hr1=>?_;refine⟨.inl ⟨rfl,_,SqL.of hw2⟩,pw,_,_,rfl,rfl,hw2,last_at wv0 _,hn1 _ _ ?_⟩;clear hn1 hr1 R1;rw[Lg2];have x3:ExtP Pt G H G1 (upd H2 pw (.lst wv0)):=x2.mut nw1 hwH;have hp3:upd H2 pw (.lst wv0) pp=some (.lst pv):=(upd_ne npw).trans hp2;have hw3:upd H2 pw (.lst wv0) pw=some (.lst wv0):=upd_same;have hP3:upd H2 pw (.lst wv0) Pt=some (.tbl ps2):=(upd_ne (Ne.symm nPw)).trans hP2;have ht3:=TT.TabOk.putL (o:=.lst wv0) ht2 hw2;generalize upd H2 pw (.lst wv0)=H3 at *;clear x2 hp2 hw2 hP2 ht2;(try dsimp only);refine seq_gen fun R1 hn1 hr1=>?_;refine⟨.inl ⟨rfl,_,SqL.of hp3⟩,x,CC,dx,_,_,rfl,x3.gh _ _ hx,X.clC,X.nP,rfl,pp,p,pv,pvs,rfl,rfl,hp3,x3.gh _ _ hp,by omega,hn1 _ _ ?_⟩;clear hn1 hr1 R1;have x4:ExtP Pt G H G1 (upd H3 pp (.lst (pv++pvs))):=x3.mut np1 hpp;have hp4:upd H3 pp (.lst (pv++pvs)) pp=some (.lst (pv++pvs)):=upd_same;have hw4:upd H3 pp (.lst (pv++pvs)) pw=some (.lst wv0):=(upd_ne (Ne.symm npw)).trans hw3;have hP4:upd H3 pp (.lst (pv++pvs)) Pt=some (.tbl ps2):=(upd_ne (Ne.symm nPp)).trans hP3;have ht4:=TT.TabOk.putL (o:=.lst (pv++pvs)) ht3 hp3;generalize upd H3 pp (.lst (pv++pvs))=H4 at *;clear x3 hp3 hw3 hP3 ht3;(try dsimp only);refine⟨.inl ⟨rfl,_,SqL.of hw4⟩,x,CC,dx,_,_,rfl,x4.gh _ _ hx,X.clC,X.nQ,rfl,pw,q,wv0,cvs,rfl,rfl,hw4,x4.gh _ _ hq,by omega,?_⟩;refine⟨manyOf (cs0++cs1),?_,pv++pvs,wv0++cvs,qs++ps1,cs0++cs1,_,ps2,rfl,x4.mut nw1 hwH,(upd_ne npw).trans hp4,upd_same,(upd_ne (Ne.symm nPw)).trans hP4,TT.TabOk.putL ht4 hw4,?_,rc0.append rcs,hqp,rfl,?_⟩
   ·rw[manyOf_app,manyOf_app,manyOf,manyOf,Ch.many]; omega
   ·rw[Lb3]; exact rp.append rps
   ·rw[manyOf_app]; omega
end
end K8
namespace TT
open PySem PySem.Spec PyProof.Rows L2
theorem capOk_two{X:Cx}{scope:Scope}{N:List Str}{n j k:Nat}(own:List Str)(x y:Str)(hN:N=own++[x,y])(hn:n=own.length)(kind:scope.kind=.function)(cell:∀ y∈scope.names,y.2≠.cell)(names:∀ y∈scope.names,y.2=.local→scope.names.lookup y.1=some .local)
  (free:∀ z∈scope.names,z.2=.free→z.1=x∨z.1=y) (hX:X.env.scope.names.lookup x=some .cell) (hj:X.N[j]?=some x) (hs:scope.names.lookup x=some .free) (hX2:X.env.scope.names.lookup y=some .cell) (hk:X.N[k]?=some y) (hs2:scope.names.lookup y=some .free):CapOk X scope N n [j,k] where
 kind:=kind
 cell:=cell
 names:=names
 len:=by rw[hN,hn,La2]; rfl
 free:=fun z hz hf=>by
  rcases free z hz hf with e | e
  ·rw[e]; exact hX
  ·rw[e]; exact hX2
 caps:=fun i l h=>by
  cases i with
  | zero =>
   cases h
   exact⟨x,by rw[hN,hn]; simp,hj,hX,hs⟩
  | succ i=>cases i with
   | zero =>
    cases h
    exact⟨y,by rw[hN,hn,Le5 (by omega)]; simp,hk,hX2,hs2⟩
   | succ i=>simp at h
theorem cap_keep2{a b x y:V}{j:Nat}{v:V}(h:([none,none,some a,some b]:L2.St)[j]?=some (some v)):([some x,some y,some a,some b]:L2.St)[j]?=some (some v):=by
 match j,h with
 | 0,h=>cases h
 | 1,h=>cases h
 | 2,h=>exact h
 | 3,h=>exact h
 | j+4,h=>simp at h
def ppD(ts us:List Tr)(p:Nat×Nat):D:=.tup [pathD ((pps 0 ts).getD p.1 []),pathD ((pps 0 us).getD p.2 [])]
end TT
namespace K8
open PySem L2 TT
section
variable {P:Program} {w:World} {K:PySem.W.Frag} {mg:Str→Option Value} {base:Heap}
inductive PspMatched(Pt:Addr)(vs:List V)(H:Hp)(Q:VK):Prop
 | mk (G:Hp) (v u:V) (ts us:List Tr) (ps:Array Value):vs=[v,u]→Same G H→Rep G v (rowD ts)→Rep G u (rowD us)→knotsOf ts≤9→knotsOf us≤9→G Pt=none→H Pt=some (.tbl ps)→TabOk lamQ lamP Pt H ps→(∀ (G' H':Hp) (r:V) (c:Ch) (ps':Array Value),ExtP Pt G H G' H'→G' Pt=none→H' Pt=some (.tbl ps')→TabOk lamQ lamP Pt H' ps'→Rep G' r (.lst (c.pairs.map (ppD ts us)))→Known (marksL ts) (marksL us) (endsL ts) (endsL us) (0,knotsOf ts) (0,knotsOf us) c→Q r H')→PspMatched Pt vs H Q
def spMatched(Pt:Addr):Sp:=fun vs H Q _=>PspMatched Pt vs H Q
theorem scMatched:FnScope ["row","other","own","others"] ["row","other"] (defScope sMatched):=scD rfl rfl rfl rfl
theorem nd_firsts:(["first","second","own","others"]:List Str).Nodup:=by decide +kernel
theorem ok_matched{CC Pt:Addr}{f:Addr}{fd:FuncData}(F:Fun K "matched" "matched" sMatched f fd)(F_paths:Ok1 P w K mg base 7 "paths" ["row"] spAll)(F_num:Ok1 P w K mg base 15 "numbers_matched" ["row","other"] (spNum CC Pt)):FnOk P w K mg base CX0 17 f fd ["row","other"] (spMatched Pt):=by
 refine F.ok scMatched (fun vs H Q E h=>?_) (fun cdv A outer s H vs Q E hr h=>?_)
 ·obtain⟨G,v,u,ts,us,ps,rfl,_⟩:=h;rfl
 ·refine fold_goal fun Z' Y'=>?_;obtain⟨G,v,u,ts,us,ps,rfl,sm,rv,ru,k1,k2,nPt,hPt,htab,kq⟩:=h;refine Y' ?_;clear Y' Z';have nd:=scMatched.nd;have big:=line_big
  refine⟨_,(pss_cons (ps_set (i:=2) nd rfl (Or.inr rfl) (pe_fn F_paths (hr.mono (by decide)) rfl (pa_cons (pc 0) pa_nil)))
   (pss_cons (ps_set (i:=3) nd rfl (Or.inr rfl) (pe_fn F_paths (hr.mono (by decide)) rfl (pa_cons (pc 1) pa_nil)))
   (pss_one (ps_ret (pe_compC (N:=["first","second","own","others"]) (n:=2) (caps:=[2,3]) (g:=cTup K 2 (cCons (gName 0) (cCons (gName 1) gNil))) (te:=tTup (tCons (tOp (cIxL K) (cVar 2) (cVar 0)) (tCons (tOp (cIxL K) (cVar 3) (cVar 1)) tNil))) rfl
     (pi_list (pe_fn F_num (hr.mono (by decide)) rfl (pa_cons (pc 0) (pa_cons (pc 1) pa_nil)))) (capOk_two ["first","second"] "own" "others" rfl rfl rfl (by decide +kernel) (by decide +kernel) (by decide +kernel) rfl rfl rfl rfl rfl rfl)
     (fun cl C s2 H2 fp=>gc_tup rfl (gcs_cons (pg_name (i:=0) nd_firsts rfl (Or.inl rfl) (.inr rfl)) (gcs_cons (pg_name (i:=1) nd_firsts rfl (Or.inl rfl) (.inr rfl)) pgs_nil)))
     (fun cl C s2 H2 fp=>pe_tup (pa_cons (pe_ix xc_list (pc 2) (pc 0) (fun _ _=>rfl)) (pa_cons (pe_ix xc_list (pc 3) (pc 1) (fun _ _=>rfl)) pa_nil)))))))),?_⟩
  (try dsimp only);refine seq_gen fun Ra hna hra=>?_;refine⟨G,v,ts,rfl,sm,rv,by omega,fun G1 H1 r1 ps1 x1 rr1 pm1 ri1=>hna _ _ ?_⟩;clear hna hra Ra;have e1:=sorted_pps pm1 ri1;subst e1;clear pm1 ri1;(try dsimp only);refine seq_gen fun Ra hna hra=>?_;refine⟨G1,u,us,rfl,x1.gh,ru.mono x1.g,by omega,fun G2 H2 r2 ps2 x2 rr2 pm2 ri2=>hna _ _ ?_⟩;clear hna hra Ra;have e2:=sorted_pps pm2 ri2;subst e2;clear pm2 ri2;have x02:=x1.trans x2;(try dsimp only);refine⟨G2,v,u,ts,us,ps,rfl,x02.gh,rv.mono x02.g,ru.mono x02.g,k1,k2,x02.keep hPt nPt,x02.h _ _ hPt,htab.mono (fun b o _ e=>x02.h b o e),fun G3 H3 r c ps3 x3 nP3 hP3 ht3 rc hK=>?_⟩;have fit:=hK.1.fits (at_whole ts) (at_whole us);have hl1:c.pairs.length+(0+0)≤knotsOf ts+knotsOf us:=fit.len;have rr1:=rr1.mono (x2.g.trans x3.g);have rr2:=rr2.mono x3.g;have x03:=(ExtP.of x02).trans x3;clear x3 x02 x1 x2;refine fold_goal fun Z' Y'=>?_
  obtain⟨ra,rvs,rfl,hra,rrs⟩:∃ ra rvs,r=.ref ra∧G3 ra=some (.lst rvs)∧Reps G3 rvs (c.pairs.map pairD):=by
   cases rc with
   | lst h t=>exact⟨_,_,rfl,h,t⟩
  obtain⟨oa,ovs,rfl,hoa,ros⟩:∃ oa ovs,r1=.ref oa∧G3 oa=some (.lst ovs)∧Reps G3 ovs ((pps 0 ts).map pathD):=by
   cases rr1 with
   | lst h t=>exact⟨_,_,rfl,h,t⟩
  obtain⟨ta,tvs,rfl,hta,rts⟩:∃ ta tvs,r2=.ref ta∧G3 ta=some (.lst tvs)∧Reps G3 tvs ((pps 0 us).map pathD):=by
   cases rr2 with
   | lst h t=>exact⟨_,_,rfl,h,t⟩
  refine Y' ?_;clear Y' Z' rc rr1 rr2;have hrl:=rrs.length;rw[La1] at hrl;refine⟨ra,rfl,⟨_,SqL.of (x03.gh _ _ hra)⟩,?_⟩
  refine comp_fill (J:=Itl K ra) c.pairs.length (fun i=>ppD ts us (c.pairs.getD i (0,0))) x03.gh (by omega)
   (fun i H4 hi s4=>⟨rvs,rvs[i]'(by omega),SqL.of (s4 _ _ (x03.gh _ _ hra)),La0 _⟩) (fun H4 s4=>⟨rvs,SqL.of (s4 _ _ (x03.gh _ _ hra)),by omega⟩) ?_ ?_
  ·rintro i y H4 H5 hi s4 ⟨rfl,hy⟩;refine⟨rfl,fun G4 xx R kR=>?_⟩;have hy:=hy rvs (SqL.of (s4 _ _ (x03.gh _ _ hra)));refine fold_goal fun Z' Y'=>?_;obtain⟨d,hd,rd⟩:=rrs.at hy;rw[La6,La0 hi] at hd;cases hd;obtain⟨pa,rfl,hpa⟩:=Rep.pair' rd;have hin:=fit.inn c.pairs[i] (Ld4 hi);have h1:c.pairs[i].1<knotsOf ts:=hin.1.2;have h2:c.pairs[i].2<knotsOf us:=hin.2.2
   obtain⟨a1,ha1,ra1⟩:=ros.get (i:=c.pairs[i].1) (d:=pathD ((pps 0 ts).getD c.pairs[i].1 [])) (by
    rw[La6,La3,La0 (by rw[pps_length]; exact h1)]; rfl)
   obtain⟨a2,ha2,ra2⟩:=rts.get (i:=c.pairs[i].2) (d:=pathD ((pps 0 us).getD c.pairs[i].2 [])) (by
    rw[La6,La3,La0 (by rw[pps_length]; exact h2)]; rfl)
   have eg:c.pairs.getD i (0,0)=c.pairs[i]:=by rw[La3,La0 hi]; rfl
   refine Y' ?_;clear Y' Z';rw[eg] at kR;refine⟨_,SqT.of (xx.gh _ _ (xx.g _ _ hpa)),rfl,rfl,fun j v' hj=>cap_keep2 hj,_,_,SqL.of (xx.gh _ _ (xx.g _ _ hoa)),atI_nat ha1,_,_,SqL.of (xx.gh _ _ (xx.g _ _ hta)),atI_nat ha2,(by show 2≤sizeLine; decide),fun q hq=>?_⟩;have y:=Ext.add (o:=.tup [a1,a2]) xx.gh hq;exact kR _ _ _ y (.tup upd_same (.cons (ra1.mono (xx.g.trans y.g)) (.cons (ra2.mono (xx.g.trans y.g)) .nil)))
  intro G4 H4 l x4 rl
  have el:(List.range c.pairs.length).map (fun i=>ppD ts us (c.pairs.getD i (0,0)))=c.pairs.map (ppD ts us):=by
   have:=congrArg (List.map (ppD ts us)) (pick_range c.pairs (0,0));rw[Ld7] at this;exact this
  rw[el] at rl;exact kq G4 H4 _ c ps3 (x03.trans (ExtP.of x4)) (x4.keep hP3 nP3) (x4.h _ _ hP3) (ht3.mono fun b o _ e=>x4.h b o e) rl hK
inductive PspLeast(vs:List V)(H:Hp)(Q:VK):Prop
 | mk (G:Hp) (v u:V) (ts us:List Tr):vs=[v,u]→Same G H→Rep G v (rowD ts)→Rep G u (rowD us)→knotsOf ts≤5→knotsOf us≤5→(∀ (n:Nat) (H':Hp),Least ts us n→Same H H'→Q (.int (n:Int)) H')→PspLeast  vs H Q
def spLeast:Sp:=fun vs H Q _=>PspLeast  vs H Q
theorem scLeast:FnScope ["_law_one","_law_other","_law_known","_law_todo","_law_pair","_law_left","_law_right","_law_tree","_law_far","_law_needs","_law_missing","_law_both"] ["_law_one","_law_other"] (defScope sLeast):=scD rfl rfl rfl rfl
theorem nd_need:(["_law_need","_law_known"]:List Str).Nodup:=by decide +kernel
inductive LsInv(P:Program)(w:World)(G H:Hp)(v u:V)(pk:Addr)(st:Pr)(m:Nat)(σ:L2.St)(H2:Hp):Prop
 | mk (G2:Hp) (pt:Addr) (tv:List V) (tab:NTab) (k:Kn) (T:List (Pr×Bool)) (z4 z5 z6 z7 z8 z9 z10 z11:Option V):σ=[some v,some u,some (.ref pk),some (.ref pt),z4,z5,z6,z7,z8,z9,z10,z11]→Ext G H G2 H2→G2 pk=none→G2 pt=none→H pt=none→H2 pk=some (NO P w pk tab)→NKeys G2 tab→H2 pt=some (.lst tv)→(Reps G2 tv (T.map fun e=>prD e.1))→((∀ p,look tab (prD p)=(k p).map fun n=>V.int (n:Int)))→Wk k T→((∀ e∈T,knotsOf e.1.1≤5∧knotsOf e.1.2≤5))→((st∈T.map (·.1)∨(k st).isSome=true))→tab.length+wT k T≤Wt 10→wT k T=m→LsInv P w G H v u pk st m σ H2
inductive LsMid(P:Program)(w:World)(G H G2:Hp)(pk pt:Addr)(st:L2.St)(tv:List V)(T:List (Pr×Bool))(k:Kn)(p:Pr)(σ':L2.St)(H':Hp):Prop
 | mk (e:σ'=st) (G3:Hp) (tab':NTab) (k':Kn) (x:Ext G H G3 H') (s:Same G2 G3) (n1:G3 pk=none) (n2:G3 pt=none) (h1:H' pk=some (NO P w pk tab')) (nk:NKeys G3 tab') (h2:H' pt=some (.lst tv)) (lk:∀ q,look tab' (prD q)=(k' q).map fun n=>V.int (n:Int))
   (W:Wk k' T) (l1:tab'.length+wT k' T≤Wt 10) (l2:wT k' T≤wT k T) (mo:∀ q,(k q).isSome=true→(k' q).isSome=true) (em:(p.1=[]∨p.2=[])→(k' p).isSome=true):LsMid P w G H G2 pk pt st tv T k p σ' H'
theorem put_size{De:Ends}{H3 G2:Hp}{pk py la ra:Addr}{lvs rvs:List V}{p:Pr}{tab:NTab}{s0 s1 s3 s7 s8 s9 s10 s11:Option V}(sm:Same G2 H3)(hk:H3 pk=some (NO P w pk tab))(nk:G2 pk=none)(nks:NKeys G2 tab)(rp:Rep G2 (.ref py) (prD p))(hla:G2 la=some (.tup lvs))(hra:G2 ra=some (.tup rvs))
  (rl:Rep G2 (.ref la) (rowT p.1)) (rr:Rep G2 (.ref ra) (rowT p.2)) (rls:Reps G2 lvs (p.1.map Tr.d)) (rrs:Reps G2 rvs (p.2.map Tr.d)) (h1:knotsOf p.1≤5) (h2:knotsOf p.2≤5) (hlt:tab.length<sizeLine)
  (k:∀ (G3 H4:Hp),Ext G2 H3 G3 H4→De.nx [s0,s1,some (.ref pk),s3,some (.ref py),some (.ref la),some (.ref ra),s7,s8,s9,s10,s11] (upd H4 pk (NO P w pk (putN tab (prD p) py (.int ((knotsOf p.1+knotsOf p.2:Nat):Int)))))) :
  sNPut P w (cVar 2) (cVar 4) (tCall spSize [] E0 (tCons (tOp (cCatT K) (cVar 5) (cVar 6)) tNil)) De [s0,s1,some (.ref pk),s3,some (.ref py),some (.ref la),some (.ref ra),s7,s8,s9,s10,s11] H3:=by
 have l1:=rls.length;have l2:=rrs.length;rw[La1] at l1 l2;have l3:=length_le_knots p.1;have l4:=length_le_knots p.2
 show cCatT K (.ref la) (.ref ra) H3 (fun x H1=>spSize ([x]++[]) H1 (fun v H2=>sNPut P w (cVar 2) (cVar 4) (tC v) De [s0,s1,some (.ref pk),s3,some (.ref py),some (.ref la),some (.ref ra),s7,s8,s9,s10,s11] H2) E0)
 refine cat_rows sm (sm _ _ hla) (sm _ _ hra) rl rr (by omega) fun G3 H4 r x3 rr3=>?_;obtain⟨ca,cvs,rfl,hca,rcs⟩:=rr3.rowT;refine⟨G3,ca,cvs,p.1++p.2,rfl,x3.gh,.inr hca,rcs,by rw[knotsOf_append]; omega,fun H5 s5=>?_⟩;refine⟨pk,py,tab,G3,prD p,rfl,rfl,s5 _ _ (x3.h _ _ hk),x3.gh.trans s5,nks.mono x3.g,rp.mono x3.g,prD_key h1 h2,hlt,?_⟩;rw[knotsOf_append];exact k G3 H5 ⟨x3.g,x3.gh.trans s5,x3.h.trans s5,x3.new⟩
theorem ok_least{f:Addr}{fd:FuncData}(F:Fun K "_law_least" "_law_least" sLeast f fd)(T:Txt mg)(F_size:Ok1 P w K mg base 5 "_law_size" ["_law_trees"] spSize):FnOk P w K mg base CX0 7 f fd ["_law_one","_law_other"] spLeast:=by
 refine F.ok scLeast (fun vs H Q E h=>?_) (fun cdv A outer s H vs Q E hr h=>?_)
 ·obtain⟨G,v,u,ts,us,rfl,_⟩:=h;rfl
 ·refine fold_goal fun Z' Y'=>?_;obtain⟨G,v,u,ts,us,rfl,sm,rv,ru,k1,k2,kq⟩:=h;refine Y' ?_;clear Y' Z';have nd:=scLeast.nd;have hu:=hr.units0;have hu9:=hu9_of hr;have big:=line_big
  refine⟨_,(pss_cons (ps_set (i:=2) nd rfl (Or.inr rfl) pe_nnew)
   (pss_cons (ps_set (i:=3) nd rfl (Or.inl rfl) (pe_lst (pa_cons (pe_tup (pa_cons (pe_callTy cc_tuple rfl T.tuple bt_tuple (pa_cons (pc 0) pa_nil)) (pa_cons (pe_callTy cc_tuple rfl T.tuple bt_tuple (pa_cons (pc 1) pa_nil)) pa_nil))) pa_nil)))
   (pss_cons (ps_while PassesOwn.never (pt_c (op_neE hu) (pc 3) (pe_lst pa_nil) (nomark _))
    (pss_cons (ps_set (i:=4) nd rfl (Or.inl rfl) (pe_ix xc_list (pc 3) (pe_un uc_neg pe_int) (fun _ _=>rfl)))
    (pss_cons (ps_asg (pc 4) (gc_tup rfl (gcs_cons (pg_name (i:=5) nd rfl (Or.inl rfl)) (gcs_cons (pg_name (i:=6) nd rfl (Or.inl rfl)) pgs_nil))))
    (pss_cons (ps_ifM (PW.pt (pw_or (pt_c (op_eqT0 hu) (pc 5) (pe_tup pa_nil) (nomark _)) (pw_or1 (pt_c (op_eqT0 hu) (pc 6) (pe_tup pa_nil) (nomark _)))))
     (pss_one (ps_nput hu9 (pc 2) (pc 4) (pe_fn F_size (hr.mono (by decide)) rfl (pa_cons (pe_op oc_catT (pc 5) (pc 6)) pa_nil)) rfl))
     pss_nil)
    (pss_one (ps_if (pt_cmp (pc_nin hu9 (pc 4) (pc 2)))
     (pss_one (ps_expr (pe_bm0 PySem.F.plainAttrs_list PySem.F.slot_list_pop PySem.F.type_list_pop mt_pop (pc 3))))
     (pss_cons (ps_set (i:=7) nd rfl (Or.inl rfl) (pe_ix xc_tup (pc 5) (pe_un uc_neg pe_int) (fun _ _=>rfl)))
     (pss_cons (ps_set (i:=8) nd rfl (Or.inl rfl) (pe_ix xc_tup (pc 6) (pe_un uc_neg pe_int) (fun _ _=>rfl)))
     (pss_cons (ps_set (i:=9) nd rfl (Or.inl rfl) (pe_lst (pa_cons (pe_tup (pa_cons (pe_op oc_catT (pe_slice sc_tup (pc 5) po_none (po_c (pe_un uc_neg pe_int))) (pe_slice sc_tup (pc 7) (po_c pe_int) po_none)) (pa_cons (pc 6) pa_nil))) (pa_cons (pe_tup (pa_cons (pc 5) (pa_cons (pe_op oc_catT (pe_slice sc_tup (pc 6) po_none (po_c (pe_un uc_neg pe_int))) (pe_slice sc_tup (pc 8) (po_c pe_int) po_none)) pa_nil))) pa_nil))))
     (pss_cons (ps_set (i:=9) nd rfl (Or.inl rfl) (pe_op oc_cat (pc 9) (pe_lst (pa_cons (pe_tup (pa_cons (pe_slice sc_tup (pc 5) po_none (po_c (pe_un uc_neg pe_int))) (pa_cons (pe_slice sc_tup (pc 6) po_none (po_c (pe_un uc_neg pe_int))) pa_nil))) (pa_cons (pe_tup (pa_cons (pe_slice sc_tup (pc 7) (po_c pe_int) po_none) (pa_cons (pe_slice sc_tup (pc 8) (po_c pe_int) po_none) pa_nil))) pa_nil)))))
     (pss_cons (ps_setCompT (k:=10) (N:=["_law_need","_law_known"]) (n:=1) (caps:=[2]) (g:=gName 0) (tc:=tB (tNNotIn P w (cVar 0) (cVar 1))) (te:=cVar 0) nd rfl (Or.inl rfl) rfl (pi_list (pc 9)) (capOk_one ["_law_need"] "_law_known" rfl rfl rfl (by decide +kernel) (by decide +kernel) (by decide +kernel) rfl rfl rfl)
      (fun cl C s2 H2 fp=>pg_name (i:=0) nd_need rfl (Or.inl rfl) (.inr rfl)) (fun cl C s2 H2 fp=>pt_cmp (pc_nnotin hu9 (pc 0) (pc 1))) (fun cl C s2 H2 fp=>pc 0))
     (pss_cons (ps_set (i:=3) nd rfl (Or.inl rfl) (pe_op oc_cat (pc 3) (pc 10)))
     (pss_one (ps_if (pt_c (op_eqE hu) (pc 10) (pe_lst pa_nil) (nomark _))
      (pss_cons (ps_set (i:=11) nd rfl (Or.inl rfl) (pe_op oc_add (pe_op oc_add (pe_nget hu9 (pc 2) (pe_ix xc_list (pc 9) pe_int (fun _ _=>rfl)) (fun _ _=>rfl)) (pe_nget hu9 (pc 2) (pe_ix xc_list (pc 9) pe_int (fun _ _=>rfl)) (fun _ _=>rfl))) (pe_callTy call_intB rfl T.int bt_int (pa_cons (pe_cmpR op_ne (pe_ix xc_tup (pc 7) pe_int (fun _ _=>rfl)) (pe_ix xc_tup (pc 8) pe_int (fun _ _=>rfl)) (nomark _)) pa_nil))))
      (pss_one (ps_nput hu9 (pc 2) (pc 4) (pe_callB (cc_min3 rfl) rfl T.min bt_min (pa_cons (pe_op oc_add (pe_nget hu9 (pc 2) (pe_ix xc_list (pc 9) pe_int (fun _ _=>rfl)) (fun _ _=>rfl)) pe_int) (pa_cons (pe_op oc_add (pe_nget hu9 (pc 2) (pe_ix xc_list (pc 9) pe_int (fun _ _=>rfl)) (fun _ _=>rfl)) pe_int) (pa_cons (pc 11) pa_nil)))) rfl)))
      pss_nil))))))))))))))
   (pss_one (ps_ret (pe_nget hu9 (pc 2) (pe_tup (pa_cons (pe_callTy cc_tuple rfl T.tuple bt_tuple (pa_cons (pc 0) pa_nil)) (pa_cons (pe_callTy cc_tuple rfl T.tuple bt_tuple (pa_cons (pc 1) pa_nil)) pa_nil))) (fun _ _=>rfl))))))),?_⟩
  refine seq_gen fun Ra hna hra=>?_;intro pk hpk;refine hna _ _ ?_;clear hna hra Ra;(try dsimp only);refine seq_gen fun Ra hna hra=>?_;refine fold_goal fun Z' Y'=>?_;obtain⟨va,vvs,rfl,hva,rvs⟩:=rv.row;obtain⟨ua,uvs,rfl,hua,rus⟩:=ru.row;refine Y' ?_;clear Y' Z';have x0:Ext G H G (upd H pk (NO P w pk [])):=Ext.tmp sm hpk;have hk0:upd H pk (NO P w pk []) pk=some (NO P w pk []):=upd_same;have nk0:G pk=none:=sm.none hpk;dsimp only[cxOf];generalize upd H pk (NO P w pk [])=H0 at *;have o1:=Ext.refl x0.gh;refine⟨vvs,.inl ⟨SqL.of (o1.gh _ _ hva),fun p1 g1=>?_⟩⟩;have o2:=o1.trans (Ext.add (o:=.tup vvs) o1.gh g1);refine⟨uvs,.inl ⟨SqL.of (o2.gh _ _ (o2.g _ _ hua)),fun p2 g2=>?_⟩⟩;have y3:=Ext.add (o:=.tup uvs) o2.gh g2;have o3:=o2.trans y3;refine⟨by show 2≤sizeLine; decide,fun p3 g3=>?_⟩;have y4:=Ext.add (o:=.tup [.ref p1,.ref p2]) o3.gh g3;have o4:=o3.trans y4;refine⟨by show 1≤sizeLine; decide,fun pt gt=>hna _ _ ?_⟩;clear hna hra Ra;have o5:=o4.trans (Ext.tmp (o:=.lst [.ref p3]) o4.gh gt)
  have rst:Rep (upd (upd (upd G p1 (.tup vvs)) p2 (.tup uvs)) p3 (.tup [.ref p1,.ref p2])) (.ref p3) (prD (ts,us)) :=
   .tup upd_same (.cons (.tup (y4.g _ _ (y3.g _ _ upd_same)) (rvs.mono o4.g)) (.cons (.tup (y4.g _ _ upd_same) (rus.mono o4.g)) .nil))
  have npt:=o4.gh.none gt;have hHt:=x0.h.none (o4.h.none gt);have nk5:=o5.keep hk0 nk0;have hk5:=o5.h _ _ hk0;have x5:=x0.trans o5;have ht5:upd (upd (upd (upd H0 p1 (.tup vvs)) p2 (.tup uvs)) p3 (.tup [.ref p1,.ref p2])) pt (.lst [.ref p3]) pt=some (.lst [.ref p3]):=upd_same;clear o1 o2 o3 o4 y3 y4;generalize upd (upd (upd (upd H0 p1 (.tup vvs)) p2 (.tup uvs)) p3 (.tup [.ref p1,.ref p2])) pt (.lst [.ref p3])=H5 at *;generalize upd (upd (upd G p1 (.tup vvs)) p2 (.tup uvs)) p3 (.tup [.ref p1,.ref p2])=G5 at *;(try dsimp only);refine seq_gen fun Rw hnw hrw=>?_;refine⟨LsInv P w G H (.ref va) (.ref ua) pk (ts,us),⟨_,G5,pt,[.ref p3],[],fun _=>none,[((ts,us),false)],none,none,none,none,none,none,none,none,rfl,x5,nk5,npt,hHt,hk5,(fun _ z=>nomatch z),ht5,.cons rst .nil,fun _=>rfl,Wk.start _,?_,.inl La7,?_,rfl⟩,?_⟩
  ·intro e he
   have:e=((ts,us),false):=by simpa using he
   subst this;exact⟨k1,k2⟩
  ·rw[wT_start,Lk1,Lh2];exact Wt_le (show knotsOf ts+knotsOf us≤10 by omega)
  clear x5 nk5 npt hHt hk5 ht5 rst o5 gt hk0 nk0 g1 g2 g3;intro m σ H2 hZp;refine fold_goal fun Z' Y'=>?_;obtain⟨G2,pt,tv,tab,k,T,z4,z5,z6,z7,z8,z9,z10,z11,rfl,x,nk,nt,hHt,hk,nks,ht,rT,hlk,W,hT5,hst,hlen,rfl⟩:=hZp;refine Y' ?_;clear Y' Z';refine⟨Lb1 _,fun pe hpe=>⟨pt,pe,tv,rfl,rfl,SqL.of (same_upd hpe _ _ ht),SqL.of upd_same,?_⟩⟩;have x1:=x.trans (Ext.tmp (o:=.lst []) x.gh hpe);have hk1:=same_upd (o:=.lst []) hpe _ _ hk;have ht1:=same_upd (o:=.lst []) hpe _ _ ht;generalize upd H2 pe (.lst [])=H3 at *;clear x hk ht hpe;dsimp only[onB]
  cases he:tv.isEmpty with
  | true =>
   have e1:tv=[]:=Lf0.mp he;subst e1
   have e2:T=[]:=by
    have:=rT.length;rw[La1] at this;exact Ld5.mp this.symm
   subst e2
   obtain⟨n,hn⟩:∃ n,k (ts,us)=some n:=by
    rcases hst with z | z
    ·cases z
    ·exact Lh8.mp z
   have hL:=W.ok _ _ hn;refine iteF (hnw _ _ ?_);clear hnw hrw Rw;(try dsimp only);have o1:=Ext.refl x1.gh;refine⟨vvs,.inl ⟨SqL.of (o1.gh _ _ (x1.g _ _ hva)),fun q1 g1=>?_⟩⟩;have o2:=o1.trans (Ext.add (o:=.tup vvs) o1.gh g1);refine⟨uvs,.inl ⟨SqL.of (o2.gh _ _ (o2.g _ _ (x1.g _ _ hua))),fun q2 g2=>?_⟩⟩;have y3:=Ext.add (o:=.tup uvs) o2.gh g2;have o3:=o2.trans y3;refine⟨by show 2≤sizeLine; decide,fun q3 g3=>?_⟩;have y4:=Ext.add (o:=.tup [.ref q1,.ref q2]) o3.gh g3;have o4:=o3.trans y4
   exact⟨pk,q3,tab,_,prD (ts,us),.int (n:Int),rfl,rfl,o4.h _ _ hk1,o4.gh,nks.mono o4.g,.tup upd_same (.cons (.tup (y4.g _ _ (y3.g _ _ upd_same)) (rvs.mono (x1.g.trans o4.g))) (.cons (.tup (y4.g _ _ upd_same) (rus.mono (x1.g.trans o4.g))) .nil)),
    prD_key k1 k2,(by rw[hlk,hn]; rfl),kq n _ hL (x1.h.trans o4.h)⟩
  | false =>
   rcases List.eq_nil_or_concat T with rfl | ⟨T0,e,rfl⟩
   ·cases rT;cases he
   rw[List.concat_eq_append] at *;obtain⟨p,b⟩:=e;rw[Lb3] at rT;refine fold_goal fun Z' Y'=>?_;obtain⟨tv0,y,rfl,r0,ry⟩:=Reps.snocD (d:=prD p) rT;obtain⟨py,lx,rx,rfl,hpy,rl,rr⟩:=ry.pr;obtain⟨la,lvs,rfl,hla,rls⟩:=rl.rowT;obtain⟨ra,rvs',rfl,hra,rrs⟩:=rr.rowT;obtain⟨hp1,hp2⟩:=hT5 (p,b) (Ld2 _ La7);refine Y' ?_;clear Y' Z'
   replace hp1:knotsOf p.1≤5:=hp1
   replace hp2:knotsOf p.2≤5:=hp2
   refine iteT ⟨fun σ' H'=>∃ m',m'<wT k (T0++[(p,b)])∧LsInv P w G H (.ref va) (.ref ua) pk (ts,us) m' σ' H',fun _ _ z=>z,?_⟩;(try dsimp only);refine seq_gen fun R1 hn1 hr1=>?_;refine⟨_,_,SqL.of ht1,atI_snoc tv0 _,hn1 _ _ ?_⟩;clear hn1 hr1 R1;(try dsimp only);refine seq_gen fun R1 hn1 hr1=>?_;refine⟨[.ref la,.ref ra],SqT.of (x1.gh _ _ hpy),rfl,rfl,hn1 _ _ ?_⟩;clear hn1 hr1 R1;(try dsimp only);refine seq_gen fun R1 hn1 hr1=>?_;have hwT:=length_le_wT k (T0++[(p,b)]);have h10:=wt10;obtain⟨NN,hNN⟩:∃ NN:L2.St→Hp→Prop,NN=LsMid P w G H G2 pk pt [some (.ref va),some (.ref ua),some (.ref pk),some (.ref pt),some (.ref py),some (.ref la),some (.ref ra),z7,z8,z9,z10,z11] (tv0++[.ref py]) (T0++[(p,b)]) k p:=⟨_,rfl⟩;refine⟨NN,?_,?_⟩
   ·have h24:=big24
    have hnew:∀ Hc:Hp,Ext G2 H3 G2 Hc→(p.1=[]∨p.2=[])→∀ De:Ends,De.nx=NN→sNPut P w (cVar 2) (cVar 4) (tCall spSize [] E0 (tCons (tOp (cCatT K) (cVar 5) (cVar 6)) tNil)) De [some (.ref va),some (.ref ua),some (.ref pk),some (.ref pt),some (.ref py),some (.ref la),some (.ref ra),z7,z8,z9,z10,z11] Hc:=by
     intro Hc xc hor De hDe;refine put_size (p:=p) xc.gh (xc.h _ _ hk1) nk nks ry hla hra rl rr rls rrs hp1 hp2 (by omega) fun G3 H4 x3=>?_;have x4:=xc.trans x3;rw[hDe,hNN];refine⟨rfl,G3,_,putK k p (knotsOf p.1+knotsOf p.2),(x1.trans x4).mut (x4.keep hk1 nk) hpk,x4.g,x4.keep hk1 nk,x4.keep ht1 nt,upd_same,(nks.mono x4.g).put (ry.mono x4.g) (prD_key hp1 hp2) _,?_,look_putK hlk,W.put (least_bare hor),put_bound hlk hlen,wT_put k p _ _,fun q z=>putK_some z,fun _=>by rw[putK_self]; rfl⟩;rw[upd_ne (fun z=>by rw[z,hk1] at ht1; cases ht1)];exact x4.h _ _ ht1
    refine⟨Lb1 _,fun q0 h0=>⟨lvs,SqT.of (same_upd h0 _ _ (x1.gh _ _ hla)),SqT.of upd_same,?_⟩⟩;have c0:Ext G2 H3 G2 (upd H3 q0 (.tup [])):=Ext.tmp x1.gh h0;have ll:=rls.length;have lr:=rrs.length;rw[La1] at ll lr;dsimp only[onB]
    cases hl:lvs.isEmpty with
    | true =>
     have e:p.1=[]:=Ld5.mp (by rw[← ll,Lf0.mp hl]; rfl)
     exact iteT (iteT (hnew _ c0 (.inl e) _ rfl))
    | false =>
     refine iteF ⟨Lb1 _,fun q1 h1=>⟨rvs',SqT.of (same_upd h1 _ _ (c0.gh _ _ hra)),SqT.of upd_same,?_⟩⟩;have c1:=c0.trans (Ext.tmp (o:=.tup []) c0.gh h1);dsimp only[onB]
     cases hr':rvs'.isEmpty with
     | true =>
      have e:p.2=[]:=Ld5.mp (by rw[← lr,Lf0.mp hr']; rfl)
      exact iteT (hnew _ c1 (.inr e) _ rfl)
     | false =>
      refine iteF ?_
      show NN _ _
      rw[hNN];refine⟨rfl,G2,tab,k,x1.trans c1,Same.refl _,nk,nt,c1.h _ _ hk1,nks,c1.h _ _ ht1,hlk,W,hlen,La4 _,fun _ z=>z,fun z=>?_⟩
      rcases z with z | z
      ·rw[z] at ll;rw[Ld5.mp ll] at hl;cases hl
      ·rw[z] at lr;rw[Ld5.mp lr] at hr';cases hr'
   intro σ' H4 hZq;refine hn1 _ _ ?_;clear hn1 hr1 R1;rw[hNN] at hZq;clear hNN NN;refine fold_goal fun Z' Y'=>?_;obtain⟨rfl,G3,tab',k',x3,s3,nk3,nt3,hk3,nks3,ht3,hlk3,W3,hlen3,hle3,hmono,hemp⟩:=hZq;refine Y' ?_;clear Y' Z' hk1 ht1 x1 nks hlk W hlen nk nt;have hst3:(ts,us)∈(T0++[(p,b)]).map (·.1)∨(k' (ts,us)).isSome=true:=hst.imp id (hmono _);clear hst hmono;(try dsimp only);have key:=prD_key hp1 hp2;refine⟨pk,py,tab',G3,prD p,rfl,rfl,hk3,x3.gh,nks3,ry.mono s3,key,_,rfl,?_⟩;rw[hlk3]
   cases hkp:k' p with
   | some n =>
    refine iteT ?_;refine⟨.inl ⟨rfl,_,SqL.of ht3⟩,pt,_,_,rfl,rfl,ht3,last_at tv0 _,?_⟩;rw[Lg2];refine⟨wT k' T0,?_,G3,pt,tv0,tab',k',T0,_,_,_,_,_,_,_,_,rfl,x3.mut nt3 hHt,nk3,nt3,hHt,?_,nks3,upd_same,r0.mono s3,hlk3,W3.pop (by rw[hkp]; rfl),fun e he=>hT5 e (Le3 _ he),?_,?_,rfl⟩
    ·have:=wT_pop (k:=k') (T:=T0) (p:=p) (b:=b);omega
    ·rw[upd_ne (fun z=>by rw[z,ht3] at hk3; cases hk3)];exact hk3
    ·rcases hst3 with z | z
     ·rw[Lb3,Lb9] at z
      rcases z with z | z
      ·exact .inl z
      ·have e:(ts,us)=p:=by simpa using z
       exact .inr (by rw[e,hkp]; rfl)
     ·exact .inr z
    ·have:=wT_pop (k:=k') (T:=T0) (p:=p) (b:=b)
     omega
   | none =>
    have hne:¬ (p.1=[]∨p.2=[]):=fun z=>by have:=hemp z; rw[hkp] at this; cases this
    obtain⟨pL,pR⟩:=p
    replace hne:¬ (pL=[]∨pR=[]):=hne
    replace hp1:knotsOf pL≤5:=hp1
    replace hp2:knotsOf pR≤5:=hp2
    replace rls:Reps G2 lvs (pL.map Tr.d):=rls
    replace rrs:Reps G2 rvs' (pR.map Tr.d):=rrs
    replace rl:Rep G2 (.ref la) (rowT pL):=rl
    replace rr:Rep G2 (.ref ra) (rowT pR):=rr
    clear hemp;refine fold_goal fun Z' Y'=>?_;obtain⟨Fr,t,rfl⟩:∃ Fr t,pL=Fr++[t]:=(row_split pL).resolve_left (fun z=>hne (.inl z));obtain⟨Gr,q,rfl⟩:∃ Gr q,pR=Gr++[q]:=(row_split pR).resolve_left (fun z=>hne (.inr z));obtain⟨fvs,tx,rfl,rfv,rtx⟩:=rls.snoc;obtain⟨gvs,qx,rfl,rgv,rqx⟩:=rrs.snoc;refine Y' ?_;clear Y' Z' hne;have e1:=knots_snoc Fr t;have e2:=knots_snoc Gr q;have e3:=knotsOf_append Fr t.kids;have e4:=knotsOf_append Gr q.kids;have e5:=length_le_knots Fr;have e6:=length_le_knots Gr;have e7:=length_le_knots t.kids;have e8:=length_le_knots q.kids;refine iteF ?_;(try dsimp only);refine seq_gen fun R1 hn1 hr1=>?_;refine⟨_,_,SqT.of (x3.gh _ _ (s3 _ _ hla)),atI_snoc fvs _,hn1 _ _ ?_⟩;clear hn1 hr1 R1;(try dsimp only);refine seq_gen fun R1 hn1 hr1=>?_;refine⟨_,_,SqT.of (x3.gh _ _ (s3 _ _ hra)),atI_snoc gvs _,hn1 _ _ ?_⟩;clear hn1 hr1 R1;(try dsimp only);refine seq_gen fun R1 hn1 hr1=>?_;have o0:=Ext.refl x3.gh;refine ev_cut (K:=K) (σ:=[some (.ref va),some (.ref ua),some (.ref pk),some (.ref pt),some (.ref py),some (.ref la),some (.ref ra),some tx,some qx,z9,z10,z11]) (i:=5) (j:=7) (F:=Fr) (t:=t) rfl rfl o0.gh (rl.mono s3) (rtx.mono s3) (by omega) fun G4 H5 r4 o4 rr4=>?_;refine⟨by show 2≤sizeLine; decide,fun a5 g5=>?_⟩;have y5:=Ext.add (o:=.tup [r4,.ref ra]) o4.gh g5;have o5:=o4.trans y5;refine ev_cut (K:=K) (σ:=[some (.ref va),some (.ref ua),some (.ref pk),some (.ref pt),some (.ref py),some (.ref la),some (.ref ra),some tx,some qx,z9,z10,z11]) (i:=6) (j:=8) (F:=Gr) (t:=q) rfl rfl o5.gh (rr.mono (s3.trans o5.g)) (rqx.mono (s3.trans o5.g)) (by omega) fun G6 H6 r6 y6 rr6=>?_;refine⟨by show 2≤sizeLine; decide,fun a6 g6=>?_⟩;have y7:=Ext.add (o:=.tup [.ref la,r6]) y6.gh g6;have o7:=o5.trans (y6.trans y7);refine⟨by show 2≤sizeLine; decide,fun pn1 gn1=>hn1 _ _ ?_⟩;clear hn1 hr1 R1;have q1:Rep (upd G6 a6 (.tup [.ref la,r6])) (.ref a5) (prD (Fr++t.kids,Gr++[q])):=.tup ((y6.trans y7).g _ _ upd_same) (.cons (rr4.mono (y5.g.trans (y6.trans y7).g)) (.cons (rr.mono (s3.trans o7.g)) .nil));have q2:Rep (upd G6 a6 (.tup [.ref la,r6])) (.ref a6) (prD (Fr++[t],Gr++q.kids)):=.tup upd_same (.cons (rl.mono (s3.trans o7.g)) (.cons (rr6.mono y7.g) .nil));have o8:=o7.trans (Ext.tmp (o:=.lst [.ref a5,.ref a6]) o7.gh gn1);have hn8:upd (upd H6 a6 (.tup [.ref la,r6])) pn1 (.lst [.ref a5,.ref a6]) pn1=some (.lst [.ref a5,.ref a6]):=upd_same;clear o0 o4 o5 y5 y6 y7 o7 rr4 rr6;generalize upd (upd H6 a6 (.tup [.ref la,r6])) pn1 (.lst [.ref a5,.ref a6])=H8 at *;generalize upd G6 a6 (.tup [.ref la,r6])=G8 at *;(try dsimp only);refine seq_gen fun R1 hn1 hr1=>?_;refine asg_in (op_var (x:=.ref pn1) rfl (lst_in (cons_in (tup_in (cons_in (ev_front (F:=Fr) (t:=t) rfl o8.gh (rl.mono (s3.trans o8.g)) fun G9 H9 a9 zs9 o9 h9 l9 r9=>?_))))));refine cons_in (ev_front (F:=Gr) (t:=q) rfl o9.gh (rr.mono (s3.trans (o8.g.trans o9.g))) fun G10 H10 a10 zs10 y10 h10 l10 r10=>?_);refine⟨by show 2≤sizeLine; decide,fun a11 g11=>?_⟩;have y11:=Ext.add (o:=.tup [.ref a9,.ref a10]) y10.gh g11;have o11:=o9.trans (y10.trans y11);refine cons_in (tup_in (cons_in (ev_kids (t:=t) rfl o11.gh (rtx.mono (s3.trans (o8.g.trans o11.g))) fun G12 H12 a12 zs12 y12 h12 l12 r12=>?_)));have o12:=o11.trans y12;refine cons_in (ev_kids (t:=q) rfl o12.gh (rqx.mono (s3.trans (o8.g.trans o12.g))) fun G13 H13 a13 zs13 y13 h13 l13 r13=>?_);refine⟨by show 2≤sizeLine; decide,fun a14 g14=>?_⟩;have y14:=Ext.add (o:=.tup [.ref a12,.ref a13]) y13.gh g14;have o14:=o12.trans (y13.trans y14);refine⟨by show 2≤sizeLine; decide,fun p15 g15=>?_⟩;have o15:=o14.trans (Ext.tmp (o:=.lst [.ref a11,.ref a14]) o14.gh g15);refine⟨_,_,o15.h _ _ hn8,upd_same,by show 4≤sizeLine; decide,fun pn gn=>hn1 _ _ ?_⟩;clear hn1 hr1 R1;have q3:Rep (upd G13 a14 (.tup [.ref a12,.ref a13])) (.ref a11) (prD (Fr,Gr)):=.tup ((y12.trans (y13.trans y14)).g _ _ upd_same) (.cons (r9.mono ((y10.trans y11).g.trans (y12.trans (y13.trans y14)).g)) (.cons (r10.mono (y11.g.trans (y12.trans (y13.trans y14)).g)) .nil));have q4:Rep (upd G13 a14 (.tup [.ref a12,.ref a13])) (.ref a14) (prD (t.kids,q.kids)):=.tup upd_same (.cons (r12.mono (y13.trans y14).g) (.cons (r13.mono y14.g) .nil));have o16:=o8.trans (o15.trans (Ext.tmp (o:=.lst ([.ref a5,.ref a6]++[.ref a11,.ref a14])) o15.gh gn));have hpn:upd (upd (upd H13 a14 (.tup [.ref a12,.ref a13])) p15 (.lst [.ref a11,.ref a14])) pn (.lst ([.ref a5,.ref a6]++[.ref a11,.ref a14])) pn=some (.lst [.ref a5,.ref a6,.ref a11,.ref a14]):=upd_same;have rN:Reps (upd G13 a14 (.tup [.ref a12,.ref a13])) [.ref a5,.ref a6,.ref a11,.ref a14] ((needsOf Fr t Gr q).map prD):=.cons (q1.mono o15.g) (.cons (q2.mono o15.g) (.cons q3 (.cons q4 .nil)));clear q1 q2 q3 q4 o8 o9 y10 y11 o11 y12 o12 y13 y14 o14 o15 r9 r10 r12 r13 h9 h10 h12 h13 hn8;generalize upd (upd (upd H13 a14 (.tup [.ref a12,.ref a13])) p15 (.lst [.ref a11,.ref a14])) pn (.lst ([.ref a5,.ref a6]++[.ref a11,.ref a14]))=H9 at *;generalize upd G13 a14 (.tup [.ref a12,.ref a13])=G9 at *;have x9:=x3.trans o16;have s9:=s3.trans o16.g;have nk9:=o16.keep hk3 nk3;have nt9:=o16.keep ht3 nt3;have hk9:=o16.h _ _ hk3;have ht9:=o16.h _ _ ht3;have nks9:=nks3.mono o16.g;clear o16 hk3 ht3 nk3 nt3 nks3 x3;(try dsimp only);refine seq_gen fun R1 hn1 hr1=>?_;have knq:=fun r=>needs_few (r:=r) hp1 hp2;refine⟨pn,rfl,⟨_,SqL.of hpn⟩,fun acc hacc=>?_⟩;refine⟨fun i mm H' ys=>mm=4 - i∧i≤4∧ys=sift k' ([.ref a5,.ref a6,.ref a11,.ref a14].take i) ((needsOf Fr t Gr q).take i)∧H'=upd H9 acc (.lst ys),⟨_,rfl,Lb1 _,rfl,rfl⟩,?_⟩;rintro i mm H' ys ⟨rfl,hi,rfl,rfl⟩ hya;have hpn':=same_upd (o:=.lst (sift k' ([.ref a5,.ref a6,.ref a11,.ref a14].take i) ((needsOf Fr t Gr q).take i))) hacc _ _ hpn;have c10:=Ext.tmp (o:=.lst (sift k' ([.ref a5,.ref a6,.ref a11,.ref a14].take i) ((needsOf Fr t Gr q).take i))) x9.gh hacc
    by_cases hlt:i<4
    ·refine .inr ⟨⟨_,[.ref a5,.ref a6,.ref a11,.ref a14][i]'hlt,SqL.of hpn',La0 hlt⟩,?_,fun x H5 y=>?_⟩
     ·have:=sift_len k' ([.ref a5,.ref a6,.ref a11,.ref a14].take i) ((needsOf Fr t Gr q).take i);rw[Lb5] at this
      have:[V.ref a5,.ref a6,.ref a11,.ref a14].length=4:=rfl;omega
     obtain⟨rfl,hy⟩:=y;have e4:=hy _ (SqL.of hpn');have hin:i<(needsOf Fr t Gr q).length:=hlt;refine fold_goal fun Z' Y'=>?_;obtain⟨d,hd,rd⟩:=rN.at e4;rw[La6,La0 hin] at hd;cases hd;obtain⟨na,_,_,rfl,_⟩:=rd.pr;refine Y' ?_;clear Y' Z';have kr:=knq _ (Ld4 hin);have es:=sift_app k' (.ref na) (needsOf Fr t Gr q)[i] ([.ref a5,.ref a6,.ref a11,.ref a14].take i) ((needsOf Fr t Gr q).take i) (by rw[Lb5,Lb5]; rfl);rw[← take_one e4,← take_one (La0 hin)] at es;refine⟨fun j v' hj=>cap_keep1 hj,pk,na,tab',G9,prD (needsOf Fr t Gr q)[i],rfl,rfl,c10.h _ _ hk9,c10.gh,nks9,rd,prD_key kr.1 kr.2,_,rfl,?_⟩;rw[hlk3]
     cases hkq:k' (needsOf Fr t Gr q)[i] with
     | none =>
      rw[hkq] at es;refine iteT ⟨hya,4 - (i+1),by omega,rfl,hlt,es.symm,?_⟩
      rw[upd_upd]
     | some n =>
      rw[hkq] at es;refine iteF ⟨hya,4 - (i+1),by omega,rfl,hlt,?_,rfl⟩;rw[es];exact (Lc0 _).symm
    refine .inl ⟨⟨_,SqL.of hpn',by show 4≤i; omega⟩,hn1 _ _ ?_⟩;clear hn1 hr1 R1;obtain rfl:i=4:=by omega
    have eS:sift k' ([.ref a5,.ref a6,.ref a11,.ref a14].take 4) ((needsOf Fr t Gr q).take 4)=sift k' [.ref a5,.ref a6,.ref a11,.ref a14] (needsOf Fr t Gr q):=rfl;rw[eS] at hpn' c10 hya ⊢;clear eS;have rM:=sift_reps (k:=k') rN;have lM:=sift_len k' [.ref a5,.ref a6,.ref a11,.ref a14] (needsOf Fr t Gr q)
    replace lM:(sift k' [.ref a5,.ref a6,.ref a11,.ref a14] (needsOf Fr t Gr q)).length≤4:=lM
    generalize sift k' [.ref a5,.ref a6,.ref a11,.ref a14] (needsOf Fr t Gr q)=ms at *;have x10:=x9.trans c10;have hk10:=c10.h _ _ hk9;have ht10:=c10.h _ _ ht9;generalize upd H9 acc (.lst ms)=H10 at *;clear c10 hk9 ht9 x9 hpn hacc hi hlt;(try dsimp only);refine seq_gen fun R1 hn1 hr1=>?_;have h25:=big25;have lt0:=r0.length;rw[La1] at lt0;have lw:=length_le_wT k' (T0++[((Fr++[t],Gr++[q]),b)]);rw[La2,Lb2] at lw;refine⟨_,_,ht10,hya,(by rw[La2,Lb2]; omega),fun pt' gt'=>hn1 _ _ ?_⟩;clear hn1 hr1 R1;have c11:=Ext.tmp (o:=.lst (tv0++[.ref py]++ms)) x10.gh gt';have x11:=x10.trans c11;have hk11:=c11.h _ _ hk10;have hpn11:=c11.h _ _ hpn';have hm11:=c11.h _ _ hya;have nt11:=x10.gh.none gt';have hHt11:=x10.h.none gt';have ht11:upd H10 pt' (.lst (tv0++[.ref py]++ms)) pt'=some (.lst (tv0++[.ref py]++ms)):=upd_same;generalize upd H10 pt' (.lst (tv0++[.ref py]++ms))=H11 at *;clear c11 hk10 hpn' hya ht10 x10 gt' nt9;(try dsimp only);refine⟨Lb1 _,fun pe hpe=>⟨acc,pe,ms,rfl,rfl,SqL.of (same_upd hpe _ _ hm11),SqL.of upd_same,?_⟩⟩;have c12:=Ext.tmp (o:=.lst []) x11.gh hpe;have x12:=x11.trans c12;have hk12:=c12.h _ _ hk11;have hpn12:=c12.h _ _ hpn11;have ht12:=c12.h _ _ ht11;generalize upd H11 pe (.lst [])=H12 at *;clear c12 hk11 hpn11 ht11 x11 hpe hm11;dsimp only[onB]
    cases hm:ms.isEmpty with
    | false =>
     have hmis:missing k' (needsOf Fr t Gr q)≠[]:=fun z=>by
      rw[z] at rM;cases rM;cases hm
     have hW:=wT_push W3 hkp hmis;refine iteF ⟨_,?_,G9,pt',tv0++[.ref py]++ms,tab',k',T0++[((Fr++[t],Gr++[q]),true)]++(missing k' (needsOf Fr t Gr q)).map fun q=>(q,false),_,_,_,_,_,_,_,_,rfl,x12,nk9,nt11,hHt11,hk12,nks9,ht12,?_,hlk3,W3.push,?_,?_,?_,rfl⟩
     ·omega
     ·rw[Lb3,Lb3,flag_map];exact ((r0.mono s9).append (.cons (ry.mono s9) .nil)).append rM
     ·intro e he;rw[Lb9] at he
      rcases he with he | he
      ·rw[Lb9] at he
       rcases he with he | he
       ·exact hT5 e (Le3 _ he)
       ·have:e=((Fr++[t],Gr++[q]),true):=by simpa using he
        subst this;exact⟨hp1,hp2⟩
      ·obtain⟨r,hr1,rfl⟩:=Lc3.mp he;exact knq r (Lh7.mp hr1).1
     ·rcases hst3 with z | z
      ·refine .inl ?_;rw[Lb3] at z ⊢;rw[Lb3];exact Le3 _ z
      ·exact .inr z
     ·omega
    | true =>
     have e0:ms=[]:=Lf0.mp hm;subst e0
     have hmis:missing k' (needsOf Fr t Gr q)=[]:=by
      have:=rM.length;rw[La1] at this;exact Ld5.mp this.symm
     refine fold_goal fun Z' Y'=>?_;obtain⟨n1,hk1⟩:=missing_nil (q:=(Fr++t.kids,Gr++[q])) hmis (by simp[needsOf]);obtain⟨n2,hk2⟩:=missing_nil (q:=(Fr++[t],Gr++q.kids)) hmis (by simp[needsOf]);obtain⟨n3,hk3⟩:=missing_nil (q:=(Fr,Gr)) hmis (by simp[needsOf]);obtain⟨n4,hk4⟩:=missing_nil (q:=(t.kids,q.kids)) hmis (by simp[needsOf]);have hL:=W3.value hk1 hk2 hk3 hk4;have f1:=knq (Fr++t.kids,Gr++[q]) (by simp[needsOf]);have f2:=knq (Fr++[t],Gr++q.kids) (by simp[needsOf]);have f3:=knq (Fr,Gr) (by simp[needsOf]);have f4:=knq (t.kids,q.kids) (by simp[needsOf]);have lk1:look tab' (prD (Fr++t.kids,Gr++[q]))=some (.int (n1:Int)):=by rw[hlk3,hk1]; rfl
     have lk2:look tab' (prD (Fr++[t],Gr++q.kids))=some (.int (n2:Int)):=by rw[hlk3,hk2]; rfl
     have lk3:look tab' (prD (Fr,Gr))=some (.int (n3:Int)):=by rw[hlk3,hk3]; rfl
     have lk4:look tab' (prD (t.kids,q.kids))=some (.int (n4:Int)):=by rw[hlk3,hk4]; rfl
     obtain⟨txa,tkv,rfl,htx,_⟩:=rtx.tree;obtain⟨qxa,qkv,rfl,hqx,_⟩:=rqx.tree
     have hN:∃ (r1:Rep G9 (.ref a5) (prD (Fr++t.kids,Gr++[q]))) (r2:Rep G9 (.ref a6) (prD (Fr++[t],Gr++q.kids))) (r3:Rep G9 (.ref a11) (prD (Fr,Gr))),Rep G9 (.ref a14) (prD (t.kids,q.kids)):=by
      cases rN with
      | cons r1 rN=>cases rN with
       | cons r2 rN=>cases rN with
        | cons r3 rN=>cases rN with
         | cons r4 rN=>exact⟨r1,r2,r3,r4⟩
     obtain⟨r1,r2,r3,r4⟩:=hN;refine Y' ?_;clear Y' Z' rN rM hmis hk1 hk2 hk3 hk4 knq;have htx9:=x12.gh _ _ (s9 _ _ htx);have hqx9:=x12.gh _ _ (s9 _ _ hqx);refine iteT ?_;(try dsimp only);refine seq_gen fun R1 hn1 hr1=>?_;refine⟨_,_,SqL.of hpn12,rfl,pk,a11,tab',G9,prD (Fr,Gr),.int (n3:Int),rfl,rfl,hk12,x12.gh,nks9,r3,prD_key f3.1 f3.2,lk3,_,_,SqL.of hpn12,rfl,pk,a14,tab',G9,prD (t.kids,q.kids),.int (n4:Int),rfl,rfl,hk12,x12.gh,nks9,r4,prD_key f4.1 f4.2,lk4,?_⟩;refine⟨_,.str t.mark,SqT.of htx9,atI_nat (j:=0) rfl,_,.str q.mark,SqT.of hqx9,atI_nat (j:=0) rfl,rfl,_,rfl,hn1 _ _ ?_⟩;clear hn1 hr1 R1;have eb:(n3:Int)+n4+(if (!decide (V.str t.mark=V.str q.mark))=true then 1 else 0)=((n3+n4+dif t q:Nat):Int):=by rw[dif_int]; omega
     dsimp only;rw[eb];refine⟨_,_,SqL.of hpn12,rfl,pk,a5,tab',G9,prD (Fr++t.kids,Gr++[q]),.int (n1:Int),rfl,rfl,hk12,x12.gh,nks9,r1,prD_key f1.1 f1.2,lk1,_,_,SqL.of hpn12,rfl,pk,a6,tab',G9,prD (Fr++[t],Gr++q.kids),.int (n2:Int),rfl,rfl,hk12,x12.gh,nks9,r2,prD_key f2.1 f2.2,lk2,_,_,_,rfl,?_⟩;have en:min ((n1:Int)+1) (min ((n2:Int)+1) ((n3+n4+dif t q:Nat):Int))=((min (n1+1) (min (n2+1) (n3+n4+dif t q)):Nat):Int):=by omega
     rw[en];have hput:=wT_put_last (b:=b) (n:=min (n1+1) (min (n2+1) (n3+n4+dif t q))) T0 hkp;refine⟨pk,py,tab',G9,prD (Fr++[t],Gr++[q]),rfl,rfl,hk12,x12.gh,nks9,ry.mono s9,key,(by omega),_,?_,G9,pt',tv0++[.ref py]++[],_,putK k' (Fr++[t],Gr++[q]) (min (n1+1) (min (n2+1) (n3+n4+dif t q))),T0++[((Fr++[t],Gr++[q]),b)],_,_,_,_,_,_,_,_,rfl,x12.mut nk9 hpk,nk9,nt11,hHt11,upd_same,nks9.put (ry.mono s9) key _,?_,?_,look_putK hlk3,W3.put hL,hT5,?_,put_bound hlk3 hlen3,rfl⟩
     ·omega
     ·rw[upd_ne (fun z=>by rw[z,hk12] at ht12; cases ht12)];exact ht12
     ·rw[Lc0,Lb3];exact (r0.mono s9).append (.cons (ry.mono s9) .nil)
     ·exact hst3.imp id putK_some
end
end K8
namespace TT
open PySem PySem.Spec PyProof.Rows L2
def mark3(a b c:Str)(z:Int):Str:=if z % 3=0 then a else if z % 3=1 then b else c
theorem at_mark3(a b c:Str)(z:Int):atI [V.str a,.str b,.str c] (z % 3)=some (.str (mark3 a b c z)):=by
 unfold mark3;have h:z % 3=0∨z % 3=1∨z % 3=2:=by omega
 rcases h with h | h | h
 ·rw[h]; rfl
 ·rw[h]; rfl
 ·rw[h]; rfl
theorem cut_ints(ns:List Int)(lo hi:Nat):∃ cells:List Int,cutV (ns.map V.int) (some (lo:Int)) (some (hi:Int))=cells.map V.int∧cells.length≤hi - lo∧cells.length≤ns.length∧(hi≤ns.length→cells.length=hi - lo):=by
 refine⟨(ns.drop (min lo ns.length)).take (min hi ns.length - min lo ns.length),?_,?_,?_,fun h=>?_⟩
 ·unfold cutV;have e1:HT.sIx (ns.map V.int).length 0 (some (lo:Int))=min lo ns.length:=by rw[La1]; exact HT.sIx_nat _ _ lo
  have e2:HT.sIx (ns.map V.int).length (ns.map V.int).length (some (hi:Int))=min hi ns.length:=by rw[La1]; exact HT.sIx_nat _ _ hi
  rw[e1,e2,Lg4,Lh3]
 ·rw[Lb5];refine Ld6 (Nat.min_le_left _ _) ?_
  by_cases h:lo≤ns.length
  ·rw[Lf6 h];exact Nat.sub_le_sub_right (Nat.min_le_left _ _) _
  ·rw[Lg7 (Lg8 (Nat.lt_of_not_le h)),Nat.sub_eq_zero_of_le (Nat.min_le_right _ _)];exact Lb1 _
 ·rw[Lb5,Ld0];exact Ld6 (Nat.min_le_right _ _) (Nat.sub_le _ _)
 ·rw[Lb5,Ld0,Lf6 h]
  by_cases h2:lo≤ns.length
  ·rw[Lf6 h2];exact Lf6 (Nat.sub_le_sub_right h _)
  ·have h3:=Lg8 (Nat.lt_of_not_le h2);rw[Lg7 h3,Lh9,Lg7 (Lb1 _)];exact (Nat.sub_eq_zero_of_le (Ld6 h h3)).symm
end TT
namespace K8
open PySem L2 TT
section
variable {P:Program} {w:World} {K:PySem.W.Frag} {mg:Str→Option Value} {base:Heap}
inductive PspRoom(K:PySem.W.Frag)(vs:List V)(H:Hp)(Q:VK):Prop
 | mk (a:Addr) (xs:List V) (m b:Int):vs=[.ref a,.int m,.int b]→SqL K H a xs→xs.length≤63→Q (.int m) H→PspRoom K vs H Q
def spRoom(K:PySem.W.Frag):Sp:=fun vs H Q _=>PspRoom K vs H Q
theorem scRoom:FnScope ["_law_script","_law_most","_law_bound"] ["_law_script","_law_most","_law_bound"] (defScope sRoom):=scD rfl rfl rfl rfl
theorem ok_room{f:Addr}{fd:FuncData}(F:Fun K "_law_room" "_law_room" sRoom f fd)(T:Txt mg):FnOk P w K mg base CX0 3 f fd ["_law_script","_law_most","_law_bound"] (spRoom K):=by
 refine F.ok scRoom (fun vs H Q E h=>?_) (fun cdv A outer s H vs Q E hr h=>?_)
 ·obtain⟨a,xs,m,b,rfl,_⟩:=h;rfl
 ·obtain⟨a,xs,m,b,rfl,hS,hl,k⟩:=h
  refine⟨_,(pss_cons (ps_if (pt_c oc_gt (pe_callB cc_len rfl T.len bt_len (pa_cons (pc 0) pa_nil)) pe_int (nomark _))
    (pss_one (ps_ret (pc 2)))
    pss_nil)
   (pss_one (ps_ret (pc 1)))),?_⟩
  refine⟨xs,.inl hS,?_⟩;exact ite2 (fun z=>absurd (of_decide_eq_true z) (by omega)) (fun _=>k)
inductive PspTwo(K:PySem.W.Frag)(vs:List V)(H:Hp)(Q:VK):Prop
 | mk (G:Hp) (a:Addr) (ns:List Int):vs=[.ref a,.int 4,.int 4]→Same G H→SqL K H a (ns.map V.int)→ns.length≤63→(∀ (G' H':Hp) (r:V) (ts us:List Tr),Ext G H G' H'→Rep G' r (.tup [rowD ts,rowD us])→knotsOf ts≤5→knotsOf us≤5→Q r H')→PspTwo K vs H Q
def spTwo(K:PySem.W.Frag):Sp:=fun vs H Q _=>PspTwo K vs H Q
theorem scTwo:FnScope ["_law_script","_law_many","_law_more","_law_one","_law_other","_law_leaves"] ["_law_script","_law_many","_law_more"] (defScope sTwo):=scD rfl rfl rfl rfl
theorem nd_cell:(["_law_cell"]:List Str).Nodup:=by decide +kernel
theorem ok_two{f:Addr}{fd:FuncData}(F:Fun K "_law_two_rows" "_law_two_rows" sTwo f fd)(T:Txt mg)(F_drawn:Ok1 P w K mg base 5 "_law_drawn_row" ["_law_cells"] spDrawn)(F_wandered:Ok1 P w K mg base 9 "_law_wandered" ["_law_row","_law_cells"] spWandered) :
  FnOk P w K mg base CX0 11 f fd ["_law_script","_law_many","_law_more"] (spTwo K):=by
 refine F.ok scTwo (fun vs H Q E h=>?_) (fun cdv A outer s H vs Q E hr h=>?_)
 ·obtain⟨G,a,ns,rfl,_⟩:=h;rfl
 ·refine fold_goal fun Z' Y'=>?_;obtain⟨G,a,ns,rfl,sm,hS,hlen,k⟩:=h;refine Y' ?_;clear Y' Z';have nd:=scTwo.nd;have big:=line_big
  refine⟨_,(pss_cons (ps_set (i:=3) nd rfl (Or.inl rfl) (pe_fn F_drawn (hr.mono (by decide)) rfl (pa_cons (pe_slice sc_list (pc 0) (po_c pe_int) (po_c (pe_op oc_add pe_int (pc 1)))) pa_nil)))
   (pss_cons (ps_set (i:=4) nd rfl (Or.inl rfl) (pe_fn F_drawn (hr.mono (by decide)) rfl (pa_cons (pe_slice sc_list (pc 0) (po_c (pe_op oc_add pe_int (pc 1))) (po_c (pe_op oc_add (pe_op oc_add pe_int (pc 1)) (pc 2)))) pa_nil)))
   (pss_cons (ps_ifM (PW.pt (pw_and (pt_c oc_gt (pe_callB cc_len rfl T.len bt_len (pa_cons (pc 0) pa_nil)) pe_int (nomark _)) (pw_and1 (pt_c op_eq (pe_op oc_mod (pe_ix xc_list (pc 0) pe_int (fun _ _=>rfl)) pe_int) pe_int (nomark _)))))
    (pss_one (ps_set (i:=4) nd rfl (Or.inl rfl) (pe_ix xc_tup (pe_fn F_wandered (hr.mono (by decide)) rfl (pa_cons (pc 3) (pa_cons (pe_slice sc_list (pc 0) (po_c (pe_op oc_add pe_int (pc 1))) (po_c (pe_op oc_add pe_int (pc 1)))) pa_nil))) pe_int (fun _ _=>rfl))))
    pss_nil)
   (pss_cons (ps_ifM (PW.pt (pw_and (pt_c oc_gt (pe_callB cc_len rfl T.len bt_len (pa_cons (pc 0) pa_nil)) pe_int (nomark _)) (pw_and1 (pt_c op_eq (pe_op oc_mod (pe_ix xc_list (pc 0) pe_int (fun _ _=>rfl)) pe_int) pe_int (nomark _)))))
    (pss_cons (ps_setCompC (k:=5) (N:=["_law_cell"]) (n:=1) (caps:=[]) (g:=gName 0) (te:=tTup (tCons (tOp (cIxL K) (tLst (tCons (tC (.str "sab")) (tCons (tC (.str "tab")) (tCons (tC (.str "sob")) tNil)))) (tOp (cI (fun _ j=>0<j) fun i j=>.int (i % j)) (cVar 0) (tC (.int 3)))) tNil)) nd rfl (Or.inl rfl) rfl (pi_list (pe_slice sc_list (pc 0) (po_c pe_int) (po_c pe_int))) (capOk_nil rfl rfl (by decide +kernel) (by decide +kernel) (by decide +kernel))
      (fun cl C s2 H2 fp=>pg_name (i:=0) nd_cell rfl (Or.inl rfl) (.inr rfl)) (fun cl C s2 H2 fp=>pe_tup (pa_cons (pe_ix xc_list (pe_lst (pa_cons pe_str (pa_cons pe_str (pa_cons pe_str pa_nil)))) (pe_op oc_mod (pc 0) pe_int) (fun _ _=>rfl)) pa_nil)))
    (pss_cons (ps_set (i:=3) nd rfl (Or.inl rfl) (pe_lst (pa_cons (pe_tup (pa_cons pe_str (pa_cons (pe_ix xc_list (pc 5) pe_int (fun _ _=>rfl)) (pa_cons (pe_ix xc_list (pc 5) pe_int (fun _ _=>rfl)) pa_nil)))) (pa_cons (pe_ix xc_list (pc 5) pe_int (fun _ _=>rfl)) pa_nil))))
    (pss_one (ps_set (i:=4) nd rfl (Or.inl rfl) (pe_lst (pa_cons (pe_ix xc_list (pc 5) pe_int (fun _ _=>rfl)) (pa_cons (pe_tup (pa_cons (pe_ix xc_list (pe_lst (pa_cons pe_str (pa_cons pe_str (pa_cons pe_str pa_nil)))) (pe_op oc_mod (pe_op oc_fdiv (pe_ix xc_list (pc 0) pe_int (fun _ _=>rfl)) pe_int) pe_int) (fun _ _=>rfl)) (pa_cons (pe_ix xc_list (pc 5) pe_int (fun _ _=>rfl)) (pa_cons (pe_ix xc_list (pc 5) pe_int (fun _ _=>rfl)) pa_nil)))) pa_nil)))))))
    pss_nil)
   (pss_cons (ps_ifM (PW.pt (pw_and (pt_c oc_gt (pe_callB cc_len rfl T.len bt_len (pa_cons (pc 0) pa_nil)) pe_int (nomark _)) (pw_and1 (pt_c op_eq (pe_op oc_mod (pe_ix xc_list (pc 0) pe_int (fun _ _=>rfl)) pe_int) pe_int (nomark _)))))
    (pss_one (ps_set (i:=3) nd rfl (Or.inl rfl) (pe_lst pa_nil)))
    pss_nil)
   (pss_one (ps_ret (pe_tup (pa_cons (pc 3) (pa_cons (pc 4) pa_nil)))))))))),?_⟩
  (try dsimp only);refine seq_gen fun Ra hna hra=>?_;refine⟨_,hS,fun c hc=>?_⟩;have y0:=Ext.add (o:=.lst (cutV (ns.map V.int) (some 1) (some (1+4)))) sm hc;obtain⟨cells,ec,hcl,_,_⟩:=cut_ints ns 1 5;have hcG:upd G c (.lst (cutV (ns.map V.int) (some 1) (some (1+4)))) c=some (.lst (cells.map V.int)):=upd_same.trans (congrArg (fun x=>some (HO.lst x)) ec);refine⟨_,c,cells,rfl,y0.gh,hcG,by omega,fun G2 H2 r1 ts x2 rr1 hk1 _=>hna _ _ ?_⟩;clear hna hra Ra;have x02:=y0.trans x2;have hS2:=x02.h.seq hS;have kts:knotsOf ts≤5:=by omega
  clear y0 x2 hcG hk1 hc ec hcl;(try dsimp only);refine seq_gen fun Ra hna hra=>?_;refine⟨_,hS2,fun c hc=>?_⟩;have y0:=Ext.add (o:=.lst (cutV (ns.map V.int) (some (1+4)) (some (1+4+4)))) x02.gh hc;obtain⟨cells2,ec,hcl,_,_⟩:=cut_ints ns 5 9;have hcG:upd G2 c (.lst (cutV (ns.map V.int) (some (1+4)) (some (1+4+4)))) c=some (.lst (cells2.map V.int)):=upd_same.trans (congrArg (fun x=>some (HO.lst x)) ec);refine⟨_,c,cells2,rfl,y0.gh,hcG,by omega,fun G3 H3 r2 us x3 rr2 hk2 _=>hna _ _ ?_⟩;clear hna hra Ra;have y3:=y0.trans x3;have x03:=x02.trans y3;have hS3:=y3.h.seq hS2;have rr13:=rr1.mono y3.g;have kus:knotsOf us≤5:=by omega
  clear y0 x3 hcG hk2 hc ec hcl x02 rr1 hS2 y3;have h0:0<ns.length→∃ n0:Int,atI (ns.map V.int) 0=some (.int n0):=fun h=>⟨ns[0],ints_ix (ns:=ns) h⟩;(try dsimp only);refine seq_gen fun Ra hna hra=>?_;refine⟨fun σ' H'=>∃ (G4:Hp) (v4:V) (us4:List Tr),σ'=[some (.ref a),some (.int 4),some (.int 4),some r1,some v4,none]∧Ext G H G4 H'∧Rep G4 r1 (rowD ts)∧Rep G4 v4 (rowD us4)∧knotsOf us4≤5,?_,?_⟩
  ·refine⟨_,.inl hS3,?_⟩;refine ite2 (fun hgt=>?_) (fun _=>iteF ⟨G3,r2,us,rfl,x03,rr13,rr2,kus⟩);have hgt:(0:Int)<((ns.map V.int).length:Int):=of_decide_eq_true hgt;have hpos:0<ns.length:=by rw[La1] at hgt; omega
   obtain⟨n0,h0⟩:=h0 hpos;refine⟨_,_,hS3,h0,(by show (0:Int)<3; decide),rfl,?_⟩;refine ite2 (fun _=>?_) (fun _=>⟨G3,r2,us,rfl,x03,rr13,rr2,kus⟩);refine⟨_,hS3,fun c hc=>?_⟩;have y0:=Ext.add (o:=.lst (cutV (ns.map V.int) (some (1+4)) (some (4+4)))) x03.gh hc;obtain⟨cells3,ec,hcl,_,_⟩:=cut_ints ns 5 8;have hcG:upd G3 c (.lst (cutV (ns.map V.int) (some (1+4)) (some (4+4)))) c=some (.lst (cells3.map V.int)):=upd_same.trans (congrArg (fun x=>some (HO.lst x)) ec);refine⟨_,r1,c,ts,cells3,rfl,y0.gh,rr13.mono y0.g,hcG,by omega,by omega,fun G5 H5 rt cs sts x5 rrt _ _ _ _ h5=>?_⟩;have x05:=x03.trans (y0.trans x5)
   obtain⟨ta,lv,sv,rfl,hta,rl⟩:∃ ta lv sv,rt=.ref ta∧G5 ta=some (.tup [lv,sv])∧Rep G5 lv (rowD cs):=by
    cases rrt with
    | tup h t=>cases t with
     | cons r t=>cases t with
      | cons r' t=>cases t; exact⟨_,_,_,rfl,h,r⟩
   exact⟨_,_,SqT.of (x05.gh _ _ hta),rfl,G5,lv,cs,rfl,x05,rr13.mono (y0.trans x5).g,rl,h5 kts⟩
  intro σ' H4 hZp;refine fold_goal fun Z' Y'=>?_;obtain⟨G4,v4,us4,rfl,x4,rr4,ru4,ku4⟩:=hZp;refine Y' ?_;clear Y' Z';refine hna _ _ ?_;clear hna hra Ra rr13 rr2 kus x03;have hS4:=x4.h.seq hS;clear hS3;(try dsimp only);refine seq_gen fun Ra hna hra=>?_;refine⟨fun σ' H'=>∃ (G5:Hp) (v5 w5:V) (ts5 us5:List Tr) (z:Option V),σ'=[some (.ref a),some (.int 4),some (.int 4),some v5,some w5,z]∧Ext G H G5 H'∧Rep G5 v5 (rowD ts5)∧Rep G5 w5 (rowD us5)∧knotsOf ts5≤5∧knotsOf us5≤5,?_,?_⟩
  ·refine⟨_,.inl hS4,?_⟩;refine ite2 (fun hgt=>?_) (fun _=>iteF ⟨G4,r1,v4,ts,us4,none,rfl,x4,rr4,ru4,kts,ku4⟩);have hgt:(3:Int)<((ns.map V.int).length:Int):=of_decide_eq_true hgt;have hpos:3<ns.length:=by rw[La1] at hgt; omega
   obtain⟨n0,h0⟩:=h0 (by omega);refine⟨_,_,hS4,h0,(by show (0:Int)<3; decide),rfl,?_⟩;refine ite2 (fun _=>?_) (fun _=>⟨G4,r1,v4,ts,us4,none,rfl,x4,rr4,ru4,kts,ku4⟩);(try dsimp only);refine seq_gen fun Rb hnb hrb=>?_;refine⟨_,hS4,fun c hc=>?_⟩;have y0:=Ext.add (o:=.lst (cutV (ns.map V.int) (some 1) (some 4))) x4.gh hc;obtain⟨cells4,ec,_,_,hce⟩:=cut_ints ns 1 4;have hc3:cells4.length=3:=hce (by omega);have hcG:upd G4 c (.lst (cutV (ns.map V.int) (some 1) (some 4))) c=some (.lst (cells4.map V.int)):=upd_same.trans (congrArg (fun x=>some (HO.lst x)) ec);generalize upd G4 c (.lst (cutV (ns.map V.int) (some 1) (some 4)))=G5 at *;generalize upd H4 c (.lst (cutV (ns.map V.int) (some 1) (some 4)))=H5 at *;have hcH:=y0.gh _ _ hcG;have x5:=x4.trans y0;refine⟨c,rfl,⟨_,SqL.of hcH⟩,?_⟩;refine comp_fill (J:=Itl K c) 3 (fun i=>.tup [.str (mark3 "sab" "tab" "sob" (cells4.getD i 0))]) y0.gh (by omega) (fun i H2 hi s2=>⟨_,(cells4.map V.int)[i]'(by rw[La1]; omega),SqL.of (s2 _ _ hcH),La0 _⟩) (fun H2 s2=>⟨_,SqL.of (s2 _ _ hcH),by rw[La1]; omega⟩) ?_ ?_
   ·rintro i y H2 H3 hi s2 ⟨rfl,hy⟩;refine⟨rfl,fun G2 xx R kR=>?_⟩;have hy:=hy _ (SqL.of (s2 _ _ hcH));rw[La6] at hy;have hic:i<cells4.length:=by omega
    rw[La0 hic] at hy;obtain rfl:V.int cells4[i]=y:=Option.some.inj hy;have eg:cells4.getD i 0=cells4[i]:=by rw[La3,La0 hic]; rfl
    rw[eg] at kR;refine⟨fun j v' hj=>?_,(by show 3≤sizeLine; decide),fun q1 g1=>⟨(by show (0:Int)<3; decide),_,_,SqL.of upd_same,at_mark3 _ _ _ _,(by show 1≤sizeLine; decide),fun q2 g2=>?_⟩⟩
    ·cases j with
     | zero=>cases hj
     | succ j=>cases hj
    ·have z1:=Ext.tmp (o:=.lst [V.str "sab",.str "tab",.str "sob"]) xx.gh g1;have z2:=z1.trans (Ext.add (o:=.tup [V.str (mark3 "sab" "tab" "sob" cells4[i])]) z1.gh g2);exact kR _ _ _ z2 (.tup upd_same (.cons (.str _) .nil))
   intro G6 H6 l x6 rl;refine hnb _ _ ?_;clear hnb hrb Rb;refine fold_goal fun Z' Y'=>?_
   obtain⟨m0,m1,m2,l0,l1,l2,hl,q0,q1,q2⟩:∃ (m0 m1 m2:Str) (l0 l1 l2:V),G6 l=some (.lst [l0,l1,l2])∧Rep G6 l0 (Tr.node m0 []).d∧Rep G6 l1 (Tr.node m1 []).d∧Rep G6 l2 (Tr.node m2 []).d:=by
    cases rl with
    | lst h t=>cases t with
     | cons r0 t=>cases t with
      | cons r1 t=>cases t with
       | cons r2 t=>cases t; exact⟨_,_,_,_,_,_,h,r0,r1,r2⟩
   refine Y' ?_;clear Y' Z' rl;have x06:=x5.trans x6;have hlH:=x06.gh _ _ hl;have hS6:=x06.h.seq hS;clear x6 x5 y0;(try dsimp only);refine seq_gen fun Rb hnb hrb=>?_;refine⟨_,_,SqL.of hlH,rfl,_,_,SqL.of hlH,rfl,(by show 3≤sizeLine; decide),fun p1 g1=>?_⟩;have y1:=Ext.add (o:=.tup [.str "sab",l0,l1]) x06.gh g1;refine⟨_,_,SqL.of (y1.h _ _ hlH),rfl,(by show 2≤sizeLine; decide),fun p2 g2=>hnb _ _ ?_⟩;clear hnb hrb Rb;have y2:=y1.trans (Ext.add (o:=.lst [.ref p1,l2]) y1.gh g2);have z2:=Ext.add (o:=.lst [.ref p1,l2]) y1.gh g2;(try dsimp only);refine⟨_,_,SqL.of (y2.h _ _ hlH),rfl,(by show 3≤sizeLine; decide),fun p3 g3=>?_⟩;have y3:=y2.trans (Ext.tmp (o:=.lst [V.str "sab",.str "tab",.str "e"]) y2.gh g3);refine⟨_,_,y3.h.seq hS6,h0,⟨by decide,by decide⟩,(by show (0:Int)<3; decide),_,_,SqL.of upd_same,at_mark3 _ _ _ _,_,_,SqL.of (y3.h _ _ hlH),rfl,_,_,SqL.of (y3.h _ _ hlH),rfl,(by show 3≤sizeLine; decide),fun p4 g4=>?_⟩;have z4:=Ext.add (o:=.tup [.str (mark3 "sab" "tab" "e" (n0 / 3)),l1,l2]) y3.gh g4;have y4:=y3.trans z4;refine⟨(by show 2≤sizeLine; decide),fun p5 g5=>?_⟩;have z5:=Ext.add (o:=.lst [l0,.ref p4]) y4.gh g5;have y5:=y4.trans z5;have g2:Same _ _:=(z2.trans ((Ext.tmp (o:=.lst [V.str "sab",.str "tab",.str "e"]) y2.gh g3).trans (z4.trans z5))).g;refine⟨_,.ref p2,.ref p5,[.node "sab" [.node m0 [],.node m1 []],.node m2 []],[.node m0 [],.node (mark3 "sab" "tab" "e" (n0 / 3)) [.node m1 [],.node m2 []]],_,rfl,x06.trans y5,?_,?_,?_,?_⟩
   ·refine .lst (((Ext.tmp (o:=.lst [V.str "sab",.str "tab",.str "e"]) y2.gh g3).trans (z4.trans z5)).g _ _ upd_same) (.cons (.tup (g2 _ _ upd_same) (.cons (.str _) (.cons (q0.mono y5.g) (.cons (q1.mono y5.g) .nil)))) (.cons (q2.mono y5.g) .nil))
   ·refine .lst upd_same (.cons (q0.mono y5.g) (.cons (.tup (z5.g _ _ upd_same) (.cons (.str _) (.cons (q1.mono y5.g) (.cons (q2.mono y5.g) .nil)))) .nil))
   ·show knotsOf _≤5
    simp[knotsOf,Tr.knots]
   ·show knotsOf _≤5
    simp[knotsOf,Tr.knots]
  intro σ' H5 hZp;refine fold_goal fun Z' Y'=>?_;obtain⟨G5,v5,w5,ts5,us5,z5,rfl,x5,rv5,rw5,kt5,ku5⟩:=hZp;refine Y' ?_;clear Y' Z';refine hna _ _ ?_;clear hna hra Ra rr4 ru4 kts ku4 x4 hS4;have hS5:=x5.h.seq hS;(try dsimp only);refine seq_gen fun Ra hna hra=>?_;refine⟨fun σ' H'=>∃ (G6:Hp) (v6:V) (ts6:List Tr),σ'=[some (.ref a),some (.int 4),some (.int 4),some v6,some w5,z5]∧Ext G H G6 H'∧Rep G6 v6 (rowD ts6)∧Rep G6 w5 (rowD us5)∧knotsOf ts6≤5,?_,?_⟩
  ·refine⟨_,.inl hS5,?_⟩;refine ite2 (fun hgt=>?_) (fun _=>iteF ⟨G5,v5,ts5,rfl,x5,rv5,rw5,kt5⟩);have hgt:(0:Int)<((ns.map V.int).length:Int):=of_decide_eq_true hgt;have hpos:0<ns.length:=by rw[La1] at hgt; omega
   obtain⟨n0,h0⟩:=h0 hpos;refine⟨_,_,hS5,h0,(by show (0:Int)<7; decide),rfl,?_⟩;refine ite2 (fun _=>?_) (fun _=>⟨G5,v5,ts5,rfl,x5,rv5,rw5,kt5⟩);refine⟨Lb1 _,fun p hp=>?_⟩;have y:=Ext.add (o:=.lst []) x5.gh hp;exact⟨_,.ref p,[],rfl,x5.trans y,.lst upd_same .nil,rw5.mono y.g,Lb1 _⟩
  intro σ' H6 hZp;refine fold_goal fun Z' Y'=>?_;obtain⟨G6,v6,ts6,rfl,x6,rv6,rw6,kt6⟩:=hZp;refine Y' ?_;clear Y' Z';refine hna _ _ ?_;clear hna hra Ra;(try dsimp only);refine⟨by show 2≤sizeLine; decide,fun p hp=>?_⟩;have y:=Ext.add (o:=.tup [v6,w5]) x6.gh hp;exact k _ _ _ ts6 us5 (x6.trans y) (.tup upd_same (.cons (rv6.mono y.g) (.cons (rw6.mono y.g) .nil))) kt6 ku5
end
def noP(Pt:Addr)(H:Hp):Hp:=fun b=>if b=Pt then none else H b
theorem noP_same(Pt:Addr)(H:Hp):Same (noP Pt H) H:=fun b o e=>by
 unfold noP at e
 split at e
 ·cases e
 ·exact e
theorem noP_at(Pt:Addr)(H:Hp):noP Pt H Pt=none:=if_pos rfl
section
variable {P:Program} {w:World} {K:PySem.W.Frag} {mg:Str→Option Value} {base:Heap}
inductive PspWholeI(vs:List V)(H:Hp)(Q:VK):Prop
 | mk (i:Int):vs=[.int i]→Q (.bl true) H→PspWholeI  vs H Q
def spWholeI:Sp:=fun vs H Q _=>PspWholeI  vs H Q
theorem scWholeI:FnScope ["_law_found"] ["_law_found"] (defScope sWholeI):=scD rfl rfl rfl rfl
theorem ok_wholeI{f:Addr}{fd:FuncData}(F:Fun K "_law_whole" "_law_whole" sWholeI f fd)(T:Txt mg):FnOk P w K mg base CX0 3 f fd ["_law_found"] spWholeI:=by
 refine F.ok scWholeI (fun vs H Q E h=>?_) (fun cdv A outer s H vs Q E hr h=>?_)
 ·obtain⟨i,rfl,_⟩:=h;rfl
 ·refine fold_goal fun Z' Y'=>?_;obtain⟨i,rfl,k⟩:=h;refine Y' ?_;clear Y' Z';refine⟨_,(pss_one (ps_ret (pe_and (pe_callB call_isi rfl T.isinstance bt_isinstance (pa_cons (pv 0) (pa_cons (pe_ty rfl T.int bt_int) pa_nil))) (pe_one (pe_not (pe_callB call_isi rfl T.isinstance bt_isinstance (pa_cons (pv 0) (pa_cons (pe_ty rfl T.bool bt_bool) pa_nil)))))))),?_⟩;exact⟨_,rfl,_,_,_,_,rfl,.int i,kit_int_int K,_,rfl,iteT ⟨_,rfl,_,_,_,_,rfl,.int i,kit_int_bool K,_,rfl,k⟩⟩
inductive PspLeads(vs:List V)(H:Hp)(Q:VK):Prop
 | mk (G:Hp) (v u:V) (ts:List Tr) (p:List Int):vs=[v,u]→Same G H→Rep G v (rowD ts)→Rep G u (pathD p)→(∀ H':Hp,Same H H'→Q (.bl (down ts p).isSome) H')→PspLeads  vs H Q
def spLeads:Sp:=fun vs H Q _=>PspLeads  vs H Q
theorem scLeads:FnScope ["row","path","trees","place"] ["row","path"] (defScope sLeads):=scD rfl rfl rfl rfl
theorem ok_leads{f:Addr}{fd:FuncData}(F:Fun K "leads" "leads" sLeads f fd)(T:Txt mg)(F_tu:Ok1 P w K mg base 3 "trees_under" ["tree"] spTU):FnOk P w K mg base CX0 5 f fd ["row","path"] spLeads:=by
 refine F.ok scLeads (fun vs H Q E h=>?_) (fun cdv A outer s H vs Q E hr h=>?_)
 ·obtain⟨G,v,u,ts,p,rfl,_⟩:=h;rfl
 ·refine fold_goal fun Z' Y'=>?_;obtain⟨G,v,u,ts,p,rfl,sm,rv,ru,k⟩:=h;refine Y' ?_;clear Y' Z';have nd:=scLeads.nd;refine fold_goal fun Z' Y'=>?_;obtain⟨pa,rfl,hpa⟩:=ru.path;refine Y' ?_;clear Y' Z'
  refine⟨_,(pss_cons (ps_set (i:=2) nd rfl (Or.inl rfl) (pv 0))
   (pss_cons (ps_for PassesOwn.never rfl (pi_list (pv 1)) (pg_name (i:=3) nd rfl (Or.inl rfl))
    (pss_cons (ps_if (PW.pt (pw_or (pt_cmpR op_lt (pv 3) pe_int (nomark _)) (pw_or1 (pt_cmpR op_ge (pv 3) (pe_callB call_len_seq rfl T.len bt_len (pa_cons (pv 2) pa_nil)) (nomark _)))))
     (pss_one (ps_ret pe_bl))
     pss_nil)
    (pss_one (ps_set (i:=2) nd rfl (Or.inl rfl) (pe_fn F_tu (hr.mono (by decide)) rfl (pa_cons (pe_ix ix_list (pv 2) (pv 3) (fun _ _=>rfl)) pa_nil))))))
   (pss_one (ps_ret pe_bl)))),?_⟩
  refine⟨_,rfl,_,rfl,pa,rfl,⟨_,SqL.of (sm _ _ hpa)⟩,for_list (K:=K) (a:=pa) (xs:=p.map V.int)
   (fun i σ H2=>∃ (G2:Hp) (tv:V) (us:List Tr) (pl:Option V),σ=[some v,some (.ref pa),some tv,pl]∧Ext G H G2 H2∧Rep G2 tv (rowD us)∧down ts (p.take i)=some us)
   ⟨G,v,ts,none,rfl,Ext.refl sm,rv,rfl⟩ (fun i σ H2 _ hZq=>by obtain⟨G2,_,_,_,_,x,_⟩:=hZq; exact SqL.of (x.h _ _ (sm _ _ hpa))) ?_ ?_⟩
  ·intro i y σ H2 hi hZp;refine fold_goal fun Z' Y'=>?_;obtain⟨G2,tv,us,pl,rfl,x,rt,hd⟩:=hZp;refine Y' ?_;clear Y' Z'
   have hil:i<p.length:=by
    have:=(La5.mp hi).1
    rwa [La1] at this
   obtain rfl:V.int p[i]=y:=by
    rw[La6,La0 hil] at hi;exact Option.some.inj hi
   have hdrop:p.drop i=p[i]::p.drop (i+1):=Lc6 hil
   have hall:down ts p=down us (p[i]::p.drop (i+1)):=by
    have e:=down_append ts (p.take i) (p.drop i);rw[Lc9,hd,hdrop] at e;exact e
   refine fold_goal fun Z' Y'=>?_;obtain⟨ta,tvs,rfl,hta,rts⟩:=rt.row;refine Y' ?_;clear Y' Z';have hlen:=rts.length;rw[La1] at hlen;refine⟨_,rfl,_,_,rfl,rfl,_,rfl,?_⟩;refine ite2 (fun hneg=>?_) (fun hneg=>?_)
   ·refine iteT ?_
    have e:(down ts p).isSome=false:=by
     rw[hall,down,if_pos (of_decide_eq_true hneg)];rfl
    have:=k H2 x.h;rw[e] at this;exact this
   ·have h0:¬ p[i]<0:=fun z=>hneg (decide_eq_true z);refine⟨_,rfl,_,rfl,ta,tvs,rfl,.inl (SqL.of (x.gh _ _ hta)),_,_,rfl,rfl,_,rfl,?_⟩;refine ite2 (fun hge=>?_) (fun hge=>?_)
    ·have h1:(tvs.length:Int)≤p[i]:=of_decide_eq_true hge
     have e:(down ts p).isSome=false:=by
      have en:us[(p[i]).toNat]?=none:=Lh4.mpr (by omega);rw[hall,down,if_neg h0,en];rfl
     have:=k H2 x.h;rw[e] at this;exact this
    ·have h1:¬ (tvs.length:Int)≤p[i]:=fun z=>hge (decide_eq_true z);have hju:(p[i]).toNat<us.length:=by omega
     obtain⟨tr,htr,rtr⟩:=rts.get (i:=(p[i]).toNat) (d:=us[(p[i]).toNat].d) (by rw[La6,La0 hju]; rfl)
     have hix:atI tvs p[i]=some tr:=by
      have:=atI_nat htr
      rwa [Le8 (by omega)] at this
     refine⟨_,rfl,_,rfl,ta,tvs,_,tr,rfl,rfl,SqL.of (x.gh _ _ hta),hix,G2,tr,_,rfl,x.gh,rtr,fun G3 H3 r3 x3 rr=>?_⟩;refine⟨G3,r3,_,_,rfl,x.trans x3,rr,?_⟩;rw[Lc5 hil,down_append,hd]
     show down us [p[i]]=_
     rw[down,if_neg h0,La0 hju];rfl
  ·intro σ H2 hZp;refine fold_goal fun Z' Y'=>?_;obtain⟨G2,tv,us,pl,rfl,x,rt,hd⟩:=hZp;refine Y' ?_;clear Y' Z';rw[La1,Le9] at hd
   have:=k H2 x.h;rw[hd] at this;exact this
inductive PspKnot(vs:List V)(H:Hp)(Q:VK):Prop
 | mk (G:Hp) (m:Str) (v:V) (ts:List Tr):vs=[.str m,v]→Same G H→Rep G v (rowD ts)→ts.length≤100000→(∀ (G' H':Hp) (r:V),Ext G H G' H'→Rep G' r (Tr.node m ts).d→Q r H')→PspKnot  vs H Q
def spKnot:Sp:=fun vs H Q _=>PspKnot  vs H Q
theorem scKnot:FnScope ["mark","trees"] ["mark","trees"] (defScope sKnot):=scD rfl rfl rfl rfl
theorem ok_knot{f:Addr}{fd:FuncData}(F:Fun K "knot" "knot" sKnot f fd)(T:Txt mg):FnOk P w K mg base CX0 3 f fd ["mark","trees"] spKnot:=by
 refine F.ok scKnot (fun vs H Q E h=>?_) (fun cdv A outer s H vs Q E hr h=>?_)
 ·obtain⟨G,m,v,t,rfl,_⟩:=h;rfl
 ·refine fold_goal fun Z' Y'=>?_;obtain⟨G,m,v,ts,rfl,sm,r,hl,k⟩:=h;refine Y' ?_;clear Y' Z';refine fold_goal fun Z' Y'=>?_;obtain⟨a,tv,rfl,ha,rt⟩:=r.row;refine Y' ?_;clear Y' Z';have hlen:=rt.length;rw[La1] at hlen;have big:=line_big;refine⟨_,(pss_one (ps_ret (pe_callTy call_tuple_of rfl T.tuple bt_tuple (pa_cons (pe_op op_cat (pe_lst (pa_cons (pv 0) pa_nil)) (pv 1)) pa_nil)))),?_⟩;refine⟨_,rfl,(by show 1≤sizeLine; decide),fun p1 h1=>⟨_,rfl,p1,a,_,_,rfl,rfl,upd_same,same_upd h1 _ _ (sm _ _ ha),(by show 1+tv.length≤sizeLine; omega),fun p2 h2=>⟨p2,_,rfl,.inl ⟨SqL.of upd_same,fun p3 h3=>?_⟩⟩⟩⟩;have x1:Ext G H G (upd H p1 (.lst [V.str m])):=Ext.tmp sm h1;have x2:=x1.trans (Ext.tmp (o:=.lst ([V.str m]++tv)) x1.gh h2);have x3:=x2.trans (Ext.add (o:=.tup ([V.str m]++tv)) x2.gh h3);refine k _ _ _ x3 ?_;rw[tree_d];exact .tup upd_same (.cons (.str m) (rt.mono x3.g))
inductive PspWith(vs:List V)(H:Hp)(Q:VK):Prop
 | mk (G:Hp) (v u z:V) (ts xs:List Tr) (p:List Int):vs=[v,u,z]→Same G H→Rep G v (rowD ts)→Rep G u (pathD p)→Rep G z (rowD xs)→(down ts p).isSome=true→p.length≤1000→knotsOf ts≤1000→knotsOf xs≤2000→(∀ (G' H':Hp) (r:V),Ext G H G' H'→Rep G' r (rowD (setAt ts p xs))→Q r H')→PspWith  vs H Q
def spWith:Sp:=fun vs H Q _=>PspWith  vs H Q
theorem scWith:FnScope ["row","path","trees","beside","changed","depth","place","level","tree"] ["row","path","trees"] (defScope sWith):=scD rfl rfl rfl rfl
theorem ok_with{f:Addr}{fd:FuncData}(F:Fun K "with_trees_at" "with_trees_at" sWith f fd)(T:Txt mg)(F_levels:Ok1 P w K mg base 5 "levels" ["row","path"] spLevels)(F_knot:Ok1 P w K mg base 3 "knot" ["mark","trees"] spKnot)
  (F_mark:Ok1 P w K mg base 3 "mark_of" ["tree"] spMark):FnOk P w K mg base CX0 7 f fd ["row","path","trees"] spWith:=by
 refine F.ok scWith (fun vs H Q E h=>?_) (fun cdv A outer s H vs Q E hr h=>?_)
 ·obtain⟨G,v,u,z,ts,xs,p,rfl,_⟩:=h;rfl
 ·refine fold_goal fun Z' Y'=>?_;obtain⟨G,v,u,z,ts,xs,p,rfl,sm,rv,ru,rz,hd,hp,hkt,hkx,k⟩:=h;refine Y' ?_;clear Y' Z';have nd:=scWith.nd;have big:=line_big;refine fold_goal fun Z' Y'=>?_;obtain⟨pa,rfl,hpa⟩:=ru.path;refine Y' ?_;clear Y' Z'
  refine⟨_,(pss_cons (ps_set (i:=3) nd rfl (Or.inl rfl) (pe_fn F_levels (hr.mono (by decide)) rfl (pa_cons (pv 0) (pa_cons (pv 1) pa_nil))))
   (pss_cons (ps_set (i:=4) nd rfl (Or.inl rfl) (pe_callTy call_list_of rfl T.list bt_list (pa_cons (pv 2) pa_nil)))
   (pss_cons (ps_for PassesOwn.never rfl (pi_rangeD rfl T.range (pa_cons (pe_op op_sub (pe_callB call_len_seq rfl T.len bt_len (pa_cons (pv 1) pa_nil)) pe_int) (pa_cons (pe_un un_neg pe_int) (pa_cons (pe_un un_neg pe_int) pa_nil)))) (pg_name (i:=5) nd rfl (Or.inl rfl))
    (pss_cons (ps_set (i:=6) nd rfl (Or.inl rfl) (pe_ix ix_list (pv 1) (pv 5) (fun _ _=>rfl)))
    (pss_cons (ps_set (i:=7) nd rfl (Or.inl rfl) (pe_ix ix_list (pv 3) (pv 5) (fun _ _=>rfl)))
    (pss_cons (ps_set (i:=8) nd rfl (Or.inl rfl) (pe_fn F_knot (hr.mono (by decide)) rfl (pa_cons (pe_fn F_mark (hr.mono (by decide)) rfl (pa_cons (pe_ix ix_list (pv 7) (pv 6) (fun _ _=>rfl)) pa_nil)) (pa_cons (pv 4) pa_nil))))
    (pss_one (ps_set (i:=4) nd rfl (Or.inl rfl) (pe_op op_cat (pe_op op_cat (pe_slice sl_list (pv 7) po_none (po_some (pv 6))) (pe_lst (pa_cons (pv 8) pa_nil))) (pe_slice sl_list (pv 7) (po_some (pe_op op_add (pv 6) pe_int)) po_none))))))))
   (pss_one (ps_ret (pv 4)))))),?_⟩
  refine⟨_,rfl,_,rfl,G,v,_,ts,p,rfl,sm,rv,ru,hd,hp,fun G1 H1 r1 x1 rr=>?_⟩
  cases rr with
  | @lst ba lvs _ hba rl =>
  refine fold_goal fun Z' Y'=>?_;obtain⟨za,zv,rfl,hza,rzs⟩:=rz.row;refine Y' ?_;clear Y' Z';refine⟨_,rfl,za,zv,rfl,.inl (SqL.of (x1.gh _ _ (x1.g _ _ hza))),fun pc hpc=>?_⟩;have x2:=x1.trans (Ext.add (o:=.lst zv) x1.gh hpc);have s12:Same G1 (upd G1 pc (.lst zv)):=(Ext.add (o:=.lst zv) x1.gh hpc).g;obtain⟨un,hun⟩:=Lh8.mp hd;have hpl:(p.map V.int).length=p.length:=La1 ..;have hn:(((p.map V.int).length:Int) - 1 - -1).toNat=p.length:=by rw[hpl]; omega
  refine⟨_,rfl,pa,_,rfl,.inl (SqL.of (x2.h _ _ (sm _ _ hpa))),_,_,rfl,rfl,_,rfl,_,rfl,_,_,rfl,(by rw[hpl]; omega),for_down
   (fun i σ H2=>∃ (G2:Hp) (cv:V) (us:List Tr) (a5 a6 a7 a8:Option V),σ=[some v,some (.ref pa),some (.ref za),some (.ref ba),some cv,a5,a6,a7,a8]∧Ext G H G2 H2∧Same G1 G2∧down ts (p.take (p.length - i))=some us∧Rep G2 cv (rowD (setAt us (p.drop (p.length - i)) xs)))
   ⟨_,.ref pc,un,none,none,none,none,rfl,x2,s12,?_,?_⟩ ?_ ?_⟩
  ·rw[Lk5,Le9];exact hun
  ·rw[Lk5,List.drop_length,setAt];exact .lst upd_same ((rzs.mono x1.g).mono s12)
  ·intro i σ H2 hi hZp;refine fold_goal fun Z' Y'=>?_;obtain⟨G2,cv,us,a5,a6,a7,a8,rfl,x,s1,hus,rc⟩:=hZp;refine Y' ?_;clear Y' Z';rw[hn] at hi;have hdl:p.length - 1 - i<p.length:=by omega
   generalize hdd:p.length - 1 - i=d at hdl;have hdi:((p.map V.int).length:Int) - 1 - (i:Int)=(d:Int):=by rw[hpl]; omega
   have hd1:p.length - i=d+1:=by omega
   have hd2:p.length - (i+1)=d:=by omega
   rw[hd1] at hus rc;rw[hdi];refine fold_goal fun Z' Y'=>?_;obtain⟨ls,t,hls,h0,ht,hk⟩:=down_at hd hdl;refine Y' ?_;clear Y' Z';obtain rfl:t.kids=us:=Option.some.inj (hk.symm.trans hus);obtain⟨lv,hlv,rlv⟩:=rl.get (i:=d) (d:=rowD ls) (by rw[La6,levelsOf_get (by omega) hls]; rfl);refine fold_goal fun Z' Y'=>?_;obtain⟨la,lvs',rfl,hla,rls⟩:=rlv.row;refine Y' ?_;clear Y' Z';obtain⟨tr,htr,rtr⟩:=rls.get (i:=(p[d]).toNat) (d:=t.d) (by rw[La6,ht]; rfl)
   have hix:atI lvs' p[d]=some tr:=by
    have:=atI_nat htr
    rwa [Le8 h0] at this
   have hll:=rls.length;rw[La1] at hll;have hkl:=down_knots _ _ _ hls;have hkk:=length_le_knots ls;obtain⟨e,he⟩:∃ e:Nat,p[d]=(e:Int):=⟨(p[d]).toNat,by omega⟩;have het:(p[d]).toNat=e:=by omega
   have hcut:=setAt_cons (xs:=xs) (p:=p.drop (d+1)) ht;rw[het] at hcut
   have hsk:knotsOf (setAt t.kids (p.drop (d+1)) xs)≤3000:=by
    have e1:=down_append ts (p.take (d+1)) (p.drop (d+1));rw[Lc9,hus,hun] at e1;have e2:=setAt_knots (p.drop (d+1)) t.kids un xs e1.symm;have e3:=down_knots _ _ _ hus;omega
   have hcl:=length_le_knots (setAt t.kids (p.drop (d+1)) xs);refine⟨_,rfl,_,rfl,pa,_,_,_,rfl,rfl,SqL.of (x.h _ _ (sm _ _ hpa)),ints_ix hdl,?_⟩;refine⟨_,rfl,_,rfl,ba,lvs,_,_,rfl,rfl,SqL.of (x.gh _ _ (s1 _ _ hba)),atI_nat hlv,?_⟩;have hla2:=s1 _ _ hla;refine⟨_,rfl,_,rfl,la,lvs',_,tr,rfl,rfl,SqL.of (x.gh _ _ hla2),hix,G2,tr,t,rfl,x.gh,rtr.mono s1,?_⟩;refine⟨_,rfl,G2,_,_,_,rfl,x.gh,rc,by omega,fun G3 H3 r3 x3 rr3=>?_⟩;have x4:=x.trans x3;have hla3:=x3.g _ _ hla2;rw[he];refine⟨_,rfl,_,rfl,_,rfl,la,lvs',rfl,SqL.of (x4.gh _ _ hla3),fun q1 h1=>?_⟩;rw[cut_to];have x5:=x4.trans (Ext.tmp (o:=.lst (lvs'.take e)) x4.gh h1);refine⟨_,rfl,(by show 1≤sizeLine; decide),fun q2 h2=>?_⟩;have x6:=x5.trans (Ext.tmp (o:=.lst [r3]) x5.gh h2);refine⟨q1,q2,_,_,rfl,rfl,same_upd h2 _ _ upd_same,upd_same,(by rw[Lb5]; show _+1≤sizeLine; omega),fun q3 h3=>?_⟩;have x7:=x6.trans (Ext.tmp (o:=.lst (lvs'.take e++[r3])) x6.gh h3);refine⟨_,rfl,_,rfl,_,_,rfl,rfl,_,rfl,la,lvs',rfl,SqL.of (x7.gh _ _ hla3),fun q4 h4=>?_⟩;have hc1:(e:Int)+1=((e+1:Nat):Int):=by omega
   rw[hc1,cut_from];have x8:=x7.trans (Ext.tmp (o:=.lst (lvs'.drop (e+1))) x7.gh h4);refine⟨q3,q4,_,_,rfl,rfl,same_upd h4 _ _ upd_same,upd_same,(by rw[La2,Lb5,Ld0]; show _+1+_≤sizeLine; omega),fun q5 h5=>?_⟩;have x9:=x8.trans (Ext.add (o:=.lst (lvs'.take e++[r3]++lvs'.drop (e+1))) x8.gh h5);have s9:Same G3 (upd G3 q5 (.lst (lvs'.take e++[r3]++lvs'.drop (e+1)))):=(Ext.add (o:=.lst (lvs'.take e++[r3]++lvs'.drop (e+1))) x8.gh h5).g;refine⟨_,.ref q5,ls,_,_,_,_,rfl,x9,(s1.trans x3.g).trans s9,by rw[hd2]; exact hls,?_⟩;rw[hd2,Lc6 hdl,hcut];refine .lst upd_same ?_;rw[Lb3,Lb3,Lg4,Lh3];have rl9:=(rls.mono (s1.trans x3.g)).mono s9;exact ((rl9.take e).append (.cons (rr3.mono s9) .nil)).append (rl9.drop (e+1))
  ·intro σ H2 hZp;refine fold_goal fun Z' Y'=>?_;obtain⟨G2,cv,us,a5,a6,a7,a8,rfl,x,s1,hus,rc⟩:=hZp;refine Y' ?_;clear Y' Z';rw[hn,Lh9,Lj2] at hus;obtain rfl:ts=us:=Option.some.inj hus;rw[hn,Lh9,List.drop_zero] at rc;exact⟨_,rfl,k _ _ _ x rc⟩
inductive PspMany(vs:List V)(H:Hp)(Q:VK):Prop
 | mk (G:Hp) (u:V) (st:Stp):vs=[u]→Same G H→Rep G u st.d→Q (.int st.many) H→PspMany  vs H Q
def spMany:Sp:=fun vs H Q _=>PspMany  vs H Q
theorem scMany:FnScope ["step"] ["step"] (defScope sMany):=scD rfl rfl rfl rfl
theorem ok_many{f:Addr}{fd:FuncData}(F:Fun K "how_many" "how_many" sMany f fd):FnOk P w K mg base CX0 3 f fd ["step"] spMany:=by
 refine F.ok scMany (fun vs H Q E h=>?_) (fun cdv A outer s H vs Q E hr h=>?_)
 ·obtain⟨G,u,st,rfl,_⟩:=h;rfl
 ·refine fold_goal fun Z' Y'=>?_;obtain⟨G,u,st,rfl,sm,r,k⟩:=h;refine Y' ?_;clear Y' Z'
  refine⟨_,(pss_cons (ps_if (pt_cmpR op_eq (pe_ix ix_tup (pv 0) pe_int (fun _ _=>rfl)) pe_str (nomark _))
    (pss_one (ps_ret (pe_ix ix_tup (pv 0) pe_int (fun _ _=>rfl))))
    pss_nil)
   (pss_one (ps_ret pe_int))),?_⟩
  refine fold_goal fun Z' Y'=>?_;obtain⟨a,xs,pa,rfl,ha,h0,h1,hp,hl⟩:=r.step;refine Y' ?_;clear Y' Z';refine⟨_,rfl,a,xs,_,_,rfl,rfl,SqT.of (sm _ _ ha),atI_nat (j:=0) h0,rfl,_,rfl,?_⟩
  cases st with
  | mark p m=>exact iteF k
  | cut p=>exact iteF k
  | put p n m =>
   refine iteT ?_;refine fold_goal fun Z' Y'=>?_;obtain⟨a',pa',e,ha'⟩:=put_of r;refine Y' ?_;clear Y' Z';cases e;rw[ha] at ha';cases ha';exact⟨_,rfl,a,_,_,_,rfl,rfl,SqT.of (sm _ _ ha),atI_nat (j:=2) rfl,k⟩
inductive PspInstead(vs:List V)(H:Hp)(Q:VK):Prop
 | mk (G:Hp) (u z:V) (st:Stp) (xs:List Tr):vs=[u,z]→Same G H→Rep G u st.d→Rep G z (rowD xs)→xs.length=st.many.toNat→knotsOf xs≤1000→(∀ (G' H':Hp) (r:V),Ext G H G' H'→Rep G' r (rowD (st.instead xs))→Q r H')→PspInstead  vs H Q
def spInstead:Sp:=fun vs H Q _=>PspInstead  vs H Q
theorem scInstead:FnScope ["step","taken"] ["step","taken"] (defScope sInstead):=scD rfl rfl rfl rfl
theorem ok_instead{f:Addr}{fd:FuncData}(F:Fun K "trees_instead" "trees_instead" sInstead f fd)(F_knot:Ok1 P w K mg base 3 "knot" ["mark","trees"] spKnot)(F_tu:Ok1 P w K mg base 3 "trees_under" ["tree"] spTU) :
  FnOk P w K mg base CX0 5 f fd ["step","taken"] spInstead:=by
 refine F.ok scInstead (fun vs H Q E h=>?_) (fun cdv A outer s H vs Q E hr h=>?_)
 ·obtain⟨G,u,z,st,xs,rfl,_⟩:=h;rfl
 ·refine fold_goal fun Z' Y'=>?_;obtain⟨G,u,z,st,xs,rfl,sm,r,rz,hl,hb,k⟩:=h;refine Y' ?_;clear Y' Z'
  refine⟨_,(pss_cons (ps_if (pt_cmpR op_eq (pe_ix ix_tup (pv 0) pe_int (fun _ _=>rfl)) pe_str (nomark _))
    (pss_one (ps_ret (pe_lst (pa_cons (pe_fn F_knot (hr.mono (by decide)) rfl (pa_cons (pe_ix ix_tup (pv 0) pe_int (fun _ _=>rfl)) (pa_cons (pv 1) pa_nil))) pa_nil))))
    pss_nil)
   (pss_cons (ps_if (pt_cmpR op_eq (pe_ix ix_tup (pv 0) pe_int (fun _ _=>rfl)) pe_str (nomark _))
    (pss_one (ps_ret (pe_fn F_tu (hr.mono (by decide)) rfl (pa_cons (pe_ix ix_list (pv 1) pe_int (fun _ _=>rfl)) pa_nil))))
    pss_nil)
   (pss_one (ps_ret (pe_lst (pa_cons (pe_fn F_knot (hr.mono (by decide)) rfl (pa_cons (pe_ix ix_tup (pv 0) pe_int (fun _ _=>rfl)) (pa_cons (pe_fn F_tu (hr.mono (by decide)) rfl (pa_cons (pe_ix ix_list (pv 1) pe_int (fun _ _=>rfl)) pa_nil)) pa_nil))) pa_nil)))))),?_⟩
  refine fold_goal fun Z' Y'=>?_;obtain⟨a,sx,pa,rfl,ha,h0,h1,hp,_⟩:=r.step;refine Y' ?_;clear Y' Z';refine fold_goal fun Z' Y'=>?_;obtain⟨za,zv,rfl,hza,rzs⟩:=rz.row;refine Y' ?_;clear Y' Z'
  have one:∀ (t:Tr) (rest:List Tr),xs=t::rest→∃ tv,atI zv 0=some tv∧Rep G tv t.d:=fun t rest e=>by
   subst e;refine fold_goal fun Z' Y'=>?_;obtain⟨tv,htv,rtv⟩:=rzs.get (i:=0) (d:=t.d) rfl;refine Y' ?_;clear Y' Z';exact⟨tv,atI_nat (j:=0) htv,rtv⟩
  refine⟨_,rfl,a,sx,_,_,rfl,rfl,SqT.of (sm _ _ ha),atI_nat (j:=0) h0,rfl,_,rfl,?_⟩
  cases st with
  | put p n m =>
   refine iteT ?_;refine fold_goal fun Z' Y'=>?_;obtain⟨a',pa',e,ha'⟩:=put_of r;refine Y' ?_;clear Y' Z';cases e;rw[ha] at ha';cases ha';refine⟨_,rfl,a,_,_,_,rfl,rfl,SqT.of (sm _ _ ha),atI_nat (j:=3) rfl,_,rfl,G,m,_,xs,rfl,sm,rz,(by have:=length_le_knots xs; omega),fun G1 H1 r1 x1 rr=>?_⟩;refine⟨by show 1≤sizeLine; decide,fun q1 h1=>?_⟩;have x2:=x1.trans (Ext.add (o:=.lst [r1]) x1.gh h1)
   exact k _ _ _ x2 (.lst upd_same (.cons (rr.mono (Ext.add (o:=.lst [r1]) x1.gh h1).g) .nil))
  | cut p =>
   refine iteF ⟨_,rfl,a,sx,_,_,rfl,rfl,SqT.of (sm _ _ ha),atI_nat (j:=0) h0,rfl,_,rfl,iteT ?_⟩
   match xs,hl,one,k with
   | t::rest,hl,one,k =>
    refine fold_goal fun Z' Y'=>?_;obtain⟨tv,htv,rtv⟩:=one t rest rfl;refine Y' ?_;clear Y' Z'
    exact⟨_,rfl,za,zv,_,tv,rfl,rfl,SqL.of (sm _ _ hza),htv,G,tv,t,rfl,sm,rtv,fun G1 H1 r1 x1 rr=>k _ _ _ x1 rr⟩
   | [],hl,_,_=>exact absurd (show (0:Nat)=1 from hl) (by decide)
  | mark p m =>
   refine iteF ⟨_,rfl,a,sx,_,_,rfl,rfl,SqT.of (sm _ _ ha),atI_nat (j:=0) h0,rfl,_,rfl,iteF ?_⟩;refine fold_goal fun Z' Y'=>?_;obtain⟨a',pa',e,ha'⟩:=mark_of_step r;refine Y' ?_;clear Y' Z';cases e;rw[ha] at ha';cases ha'
   match xs,hl,one,k,hb with
   | t::rest,hl,one,k,hb =>
    refine fold_goal fun Z' Y'=>?_;obtain⟨tv,htv,rtv⟩:=one t rest rfl;refine Y' ?_;clear Y' Z';refine⟨_,rfl,a,_,_,_,rfl,rfl,SqT.of (sm _ _ ha),atI_nat (j:=2) rfl,_,rfl,za,zv,_,tv,rfl,rfl,SqL.of (sm _ _ hza),htv,G,tv,t,rfl,sm,rtv,fun G1 H1 r1 x1 rr=>?_⟩
    have hk:t.kids.length≤100000:=by
     have h1:=length_le_knots t.kids;rw[knotsOf,knots_eq] at hb;omega
    refine⟨G1,m,r1,t.kids,rfl,x1.gh,rr,hk,fun G2 H2 r2 x2 rr2=>?_⟩;refine⟨by show 1≤sizeLine; decide,fun q1 h1=>?_⟩;have x3:=(x1.trans x2).trans (Ext.add (o:=.lst [r2]) x2.gh h1)
    exact k _ _ _ x3 (.lst upd_same (.cons (rr2.mono (Ext.add (o:=.lst [r2]) x2.gh h1).g) .nil))
   | [],hl,_,_,_=>exact absurd (show (0:Nat)=1 from hl) (by decide)
end
end K8
namespace TT
open PySem PySem.Spec PyProof.Rows L2
theorem Reps.rev{G:Hp}:∀ {vs:List V} {ds:List D},Reps G vs ds→Reps G vs.reverse ds.reverse
 | _,_,.nil=>.nil
 | _,_,.cons r t=>by
  rw[Lg6,Lg6];exact (Reps.rev t).append (.cons r .nil)
end TT
namespace K8
open PySem L2 TT
section
variable {P:Program} {w:World} {K:PySem.W.Frag} {mg:Str→Option Value} {base:Heap}
inductive PspTaken(vs:List V)(H:Hp)(Q:VK):Prop
 | mk (G:Hp) (v u:V) (ts bs:List Tr) (st:Stp):vs=[v,u]→Same G H→Rep G v (rowD ts)→Rep G u st.d→st.path.length≤1000→st.beside ts=some bs→(∀ (G' H':Hp) (r:V),Ext G H G' H'→Rep G' r (rowD (Stp.taken st bs))→Q r H')→PspTaken  vs H Q
def spTaken:Sp:=fun vs H Q _=>PspTaken  vs H Q
theorem scTaken:FnScope ["row","step","path","place","many","beside"] ["row","step"] (defScope sTaken):=scD rfl rfl rfl rfl
theorem ok_taken{f:Addr}{fd:FuncData}(F:Fun K "trees_taken" "trees_taken" sTaken f fd)(T:Txt mg)(F_leads:Ok1 P w K mg base 5 "leads" ["row","path"] spLeads)
  (F_many:Ok1 P w K mg base 3 "how_many" ["step"] spMany) (F_at:Ok1 P w K mg base 7 "trees_at" ["row","path"] spAt):FnOk P w K mg base CX0 9 f fd ["row","step"] spTaken:=by
 refine F.ok scTaken (fun vs H Q E h=>?_) (fun cdv A outer s H vs Q E hr h=>?_)
 ·obtain⟨G,v,u,ts,bs,st,rfl,_⟩:=h;rfl
 ·refine fold_goal fun Z' Y'=>?_;obtain⟨G,v,u,ts,bs,st,rfl,sm,rv,ru,hpl,hb,kq⟩:=h;obtain⟨hpe,hd,hi0,hn0,hle⟩:=beside_some hb;obtain⟨a,sx,pa,rfl,ha,h0,h1,hp,_⟩:=ru.step;obtain⟨i,hi⟩:∃ i:Nat,st.path.getLastD 0=(i:Int):=⟨(st.path.getLastD 0).toNat,by omega⟩;obtain⟨n,hn⟩:∃ n:Nat,st.many=(n:Int):=⟨st.many.toNat,by omega⟩;refine Y' ?_;clear Y' Z';have nd:=scTaken.nd
  refine⟨_,(pss_cons (ps_set (i:=2) nd rfl (Or.inl rfl) (pe_ix xc_tup (pc 1) pe_int (fun _ _=>rfl)))
   (pss_cons (ps_if (pt_not (pt_truth (pc 2) (fun _=>rfl))) (pss_one ps_never) pss_nil)
   (pss_cons (ps_if (pt_not (pt_valc (pe_fn F_leads (hr.mono (by decide)) rfl (pa_cons (pc 0) (pa_cons (pe_slice sc_list (pc 2) po_none (po_c (pe_un uc_neg pe_int))) pa_nil))))) (pss_one ps_never) pss_nil)
   (pss_cons (ps_set (i:=3) nd rfl (Or.inl rfl) (pe_ix xc_list (pc 2) (pe_un uc_neg pe_int) (fun _ _=>rfl)))
   (pss_cons (ps_set (i:=4) nd rfl (Or.inl rfl) (pe_fn F_many (hr.mono (by decide)) rfl (pa_cons (pc 1) pa_nil)))
   (pss_cons (ps_set (i:=5) nd rfl (Or.inl rfl) (pe_fn F_at (hr.mono (by decide)) rfl (pa_cons (pc 0) (pa_cons (pe_slice sc_list (pc 2) po_none (po_c (pe_un uc_neg pe_int))) pa_nil))))
   (pss_cons (ps_if (PW.pt (pw_or (pt_c oc_lt (pc 3) pe_int (nomark _)) (pw_or (pt_c oc_lt (pc 4) pe_int (nomark _)) (pw_or1 (pt_c oc_gt (pe_op oc_add (pc 3) (pc 4)) (pe_callB cc_len rfl T.len bt_len (pa_cons (pc 5) pa_nil)) (nomark _)))))) (pss_one ps_never) pss_nil)
   (pss_one (ps_ret (pe_slice sc_list (pc 5) (po_c (pc 3)) (po_c (pe_op oc_add (pc 3) (pc 4))))))))))))),?_⟩
  have hpH:=sm _ _ hp;(try dsimp only);refine seq_gen fun Ra hna hra=>?_;refine⟨sx,_,SqT.of (sm _ _ ha),atI_nat (j:=1) h1,hna _ _ ?_⟩;clear hna hra Ra;(try dsimp only);refine seq_gen fun Ra hna hra=>?_
  have hq:(st.path.map V.int).isEmpty=false:=by
   cases e:st.path with
   | nil=>exact absurd e hpe
   | cons _ _=>rfl
  refine⟨_,.inl ⟨_,SqL.of hpH,rfl⟩,?_⟩;rw[hq];refine iteF (hna _ _ ?_);clear hna hra Ra;(try dsimp only);refine seq_gen fun Ra hna hra=>?_;refine⟨_,SqL.of hpH,fun q1 g1=>?_⟩;rw[front_ints];have x1:=Ext.add (o:=.lst (st.path.dropLast.map V.int)) sm g1;refine⟨_,v,_,ts,st.path.dropLast,rfl,x1.gh,rv.mono x1.g,.lst upd_same (ints_reps _),fun H2 s2=>?_⟩;have x2:Ext G H (upd G q1 (.lst (st.path.dropLast.map V.int))) H2:=⟨x1.g,x1.gh.trans s2,x1.h.trans s2,x1.new⟩;have hp2:=x2.gh _ _ (x2.g _ _ hp);rw[hd];refine iteFB (hna _ _ ?_);clear hna hra Ra;(try dsimp only);refine seq_gen fun Ra hna hra=>?_;refine⟨_,_,SqL.of hp2,last_int hpe,hna _ _ ?_⟩;clear hna hra Ra;(try dsimp only);refine seq_gen fun Ra hna hra=>?_;refine⟨_,_,st,rfl,x2.gh,ru.mono x2.g,hna _ _ ?_⟩;clear hna hra Ra;(try dsimp only);refine seq_gen fun Ra hna hra=>?_;refine⟨_,SqL.of hp2,fun q2 g2=>?_⟩;rw[front_ints];have x3:=x2.trans (Ext.add (o:=.lst (st.path.dropLast.map V.int)) x2.gh g2);refine⟨_,v,_,ts,bs,st.path.dropLast,rfl,x3.gh,rv.mono x3.g,.lst upd_same (ints_reps _),hd,(by rw[Lh6]; omega),fun G4 H4 r x4 rb=>hna _ _ ?_⟩;clear hna hra Ra;have x5:=x3.trans x4;refine fold_goal fun Z' Y'=>?_;obtain⟨ba,bvs,rfl,hba,rbs⟩:=rb.row;refine Y' ?_;clear Y' Z';have hbl:=rbs.length;rw[La1] at hbl;(try dsimp only);refine seq_gen fun Ra hna hra=>?_;refine ite2 (fun z=>?_) (fun _=>?_)
  ·have:=of_decide_eq_true z;omega
  refine ite2 (fun z=>?_) (fun _=>⟨bvs,.inl (SqL.of (x5.gh _ _ hba)),?_⟩)
  ·have:=of_decide_eq_true z;omega
  refine ite2 (fun z=>?_) (fun _=>hna _ _ ?_)
  ·have:=of_decide_eq_true z;omega
  clear hna hra Ra;refine⟨bvs,SqL.of (x5.gh _ _ hba),fun q3 g3=>?_⟩;have hin:(i:Int)+(n:Int)=((i+n:Nat):Int):=by omega
  rw[hi,hn,hin,cut_mid bvs i n (by omega)];have y6:=Ext.add (o:=.lst ((bvs.drop i).take n)) x5.gh g3;refine kq _ _ _ (x5.trans y6) (.lst upd_same ?_);unfold Stp.taken;rw[hi,hn,Ld3,Ld3,Lg4,Lh3];exact ((rbs.drop i).take n).mono y6.g
inductive PspDone(vs:List V)(H:Hp)(Q:VK):Prop
 | mk (G:Hp) (v u:V) (ts bs:List Tr) (st:Stp):vs=[v,u]→Same G H→Rep G v (rowD ts)→Rep G u st.d→st.path.length≤1000→knotsOf ts≤900→st.beside ts=some bs→(∀ (G' H':Hp) (r:V),Ext G H G' H'→Rep G' r (rowD (st.row ts bs))→Q r H')→PspDone  vs H Q
def spDone:Sp:=fun vs H Q _=>PspDone  vs H Q
theorem scDone:FnScope ["row","step","taken","path","place","beside","changed"] ["row","step"] (defScope sDone):=scD rfl rfl rfl rfl
theorem ok_done{f:Addr}{fd:FuncData}(F:Fun K "done" "done" sDone f fd)(T:Txt mg)(F_taken:Ok1 P w K mg base 9 "trees_taken" ["row","step"] spTaken)(F_at:Ok1 P w K mg base 7 "trees_at" ["row","path"] spAt)
  (F_instead:Ok1 P w K mg base 5 "trees_instead" ["step","taken"] spInstead) (F_with:Ok1 P w K mg base 7 "with_trees_at" ["row","path","trees"] spWith):FnOk P w K mg base CX0 11 f fd ["row","step"] spDone:=by
 refine F.ok scDone (fun vs H Q E h=>?_) (fun cdv A outer s H vs Q E hr h=>?_)
 ·obtain⟨G,v,u,ts,bs,st,rfl,_⟩:=h;rfl
 ·refine fold_goal fun Z' Y'=>?_;obtain⟨G,v,u,ts,bs,st,rfl,sm,rv,ru,hpl,hkt,hb,kq⟩:=h;obtain⟨hpe,hd,hi0,hn0,hle⟩:=beside_some hb;obtain⟨a,sx,pa,rfl,ha,h0,h1,hp,_⟩:=ru.step;obtain⟨i,hi⟩:∃ i:Nat,st.path.getLastD 0=(i:Int):=⟨(st.path.getLastD 0).toNat,by omega⟩;obtain⟨n,hn⟩:∃ n:Nat,st.many=(n:Int):=⟨st.many.toNat,by omega⟩;refine Y' ?_;clear Y' Z';have nd:=scDone.nd;have big:=line_big
  refine⟨_,(pss_cons (ps_set (i:=2) nd rfl (Or.inl rfl) (pe_fn F_taken (hr.mono (by decide)) rfl (pa_cons (pc 0) (pa_cons (pc 1) pa_nil))))
   (pss_cons (ps_set (i:=3) nd rfl (Or.inl rfl) (pe_ix xc_tup (pc 1) pe_int (fun _ _=>rfl)))
   (pss_cons (ps_set (i:=4) nd rfl (Or.inl rfl) (pe_ix xc_list (pc 3) (pe_un uc_neg pe_int) (fun _ _=>rfl)))
   (pss_cons (ps_set (i:=5) nd rfl (Or.inl rfl) (pe_fn F_at (hr.mono (by decide)) rfl (pa_cons (pc 0) (pa_cons (pe_slice sc_list (pc 3) po_none (po_c (pe_un uc_neg pe_int))) pa_nil))))
   (pss_cons (ps_set (i:=6) nd rfl (Or.inl rfl) (pe_op oc_cat (pe_op oc_cat (pe_slice sc_list (pc 5) po_none (po_c (pc 4))) (pe_fn F_instead (hr.mono (by decide)) rfl (pa_cons (pc 1) (pa_cons (pc 2) pa_nil)))) (pe_slice sc_list (pc 5) (po_c (pe_op oc_add (pc 4) (pe_callB cc_len rfl T.len bt_len (pa_cons (pc 2) pa_nil)))) po_none)))
   (pss_one (ps_ret (pe_fn F_with (hr.mono (by decide)) rfl (pa_cons (pc 0) (pa_cons (pe_slice sc_list (pc 3) po_none (po_c (pe_un uc_neg pe_int))) (pa_cons (pc 6) pa_nil))))))))))),?_⟩
  have htk:Stp.taken st bs=(bs.drop i).take n:=by unfold Stp.taken; rw[hi,hn]; rfl
  have htl:(Stp.taken st bs).length=n:=by rw[htk,Lb5,Ld0]; omega
  have hkb:=down_knots _ _ _ hd;have hmid:=mid_knots bs i n;rw[← htk] at hmid;have hins:=instead_knots st (Stp.taken st bs);have hkbl:=length_le_knots bs;have hkil:=length_le_knots (st.instead (Stp.taken st bs));(try dsimp only);refine seq_gen fun Ra hna hra=>?_;refine⟨G,v,_,ts,bs,st,rfl,sm,rv,ru,hpl,hb,fun G1 H1 r1 x1 rt=>hna _ _ ?_⟩;clear hna hra Ra;refine fold_goal fun Z' Y'=>?_;obtain⟨ta,tvs,rfl,hta,rts⟩:=rt.row;refine Y' ?_;clear Y' Z';have htvl:=rts.length;rw[La1,htl] at htvl;have hp1:=x1.gh _ _ (x1.g _ _ hp);(try dsimp only);refine⟨sx,_,SqT.of (x1.gh _ _ (x1.g _ _ ha)),atI_nat (j:=1) h1,?_⟩;refine⟨_,_,SqL.of hp1,last_int hpe,?_⟩;(try dsimp only);refine seq_gen fun Ra hna hra=>?_;refine⟨_,SqL.of hp1,fun q2 g2=>?_⟩;rw[front_ints];have x3:=x1.trans (Ext.add (o:=.lst (st.path.dropLast.map V.int)) x1.gh g2);have hdl:st.path.dropLast.length≤1000:=by rw[Lh6]; omega
  refine⟨_,v,_,ts,bs,st.path.dropLast,rfl,x3.gh,rv.mono x3.g,.lst upd_same (ints_reps _),hd,hdl,fun G4 H4 r x4 rb=>hna _ _ ?_⟩;clear hna hra Ra;have x5:=x3.trans x4;have s35:Same G1 G4:=(Ext.add (o:=.lst (st.path.dropLast.map V.int)) x1.gh g2).g.trans x4.g;refine fold_goal fun Z' Y'=>?_;obtain⟨ba,bvs,rfl,hba,rbs⟩:=rb.row;refine Y' ?_;clear Y' Z';have hbl:=rbs.length;rw[La1] at hbl;(try dsimp only);refine seq_gen fun Ra hna hra=>?_;rw[hi];refine⟨bvs,SqL.of (x5.gh _ _ hba),fun q3 g3=>?_⟩;rw[cut_to];have x6:=x5.trans (Ext.tmp (o:=.lst (bvs.take i)) x5.gh g3);refine⟨G4,_,_,st,Stp.taken st bs,rfl,x6.gh,ru.mono x5.g,rt.mono s35,(by rw[htl,hn]; rfl),(by omega),fun G7 H7 r7 x7 rr7=>?_⟩;have x8:=x6.trans x7;refine fold_goal fun Z' Y'=>?_;obtain⟨ia,ivs,rfl,hia,ris⟩:=rr7.row;refine Y' ?_;clear Y' Z';have hil:=ris.length;rw[La1] at hil;refine⟨_,_,x7.h _ _ upd_same,x8.gh _ _ hia,(by rw[Lb5]; omega),fun q8 g8=>?_⟩;have x9:=x8.trans (Ext.tmp (o:=.lst (bvs.take i++ivs)) x8.gh g8);refine⟨tvs,.inl (SqL.of (x9.gh _ _ (x7.g _ _ (s35 _ _ hta)))),bvs,SqL.of (x9.gh _ _ (x7.g _ _ hba)),fun q9 g9=>?_⟩;have hin:(i:Int)+(tvs.length:Int)=((i+n:Nat):Int):=by omega
  rw[hin,cut_from];have x10:=x9.trans (Ext.tmp (o:=.lst (bvs.drop (i+n))) x9.gh g9);refine⟨_,_,same_upd g9 _ _ upd_same,upd_same,(by rw[La2,Lb5,Ld0]; omega),fun q10 g10=>hna _ _ ?_⟩;clear hna hra Ra;have y11:=Ext.add (o:=.lst (bvs.take i++ivs++bvs.drop (i+n))) x10.gh g10;have x11:=x10.trans y11;have rbs7:=rbs.mono (x7.g.trans y11.g)
  have RC:Rep (upd G7 q10 (.lst (bvs.take i++ivs++bvs.drop (i+n)))) (.ref q10) (rowD (bs.take i++st.instead (Stp.taken st bs)++bs.drop (i+n))):=by
   refine .lst upd_same ?_;rw[Lb3,Lb3,Lg4,Lh3];exact ((rbs7.take i).append (ris.mono y11.g)).append (rbs7.drop (i+n))
  (try dsimp only);refine⟨_,SqL.of (x11.gh _ _ (x11.g _ _ hp)),fun q11 g11=>?_⟩;rw[front_ints];have y12:=Ext.add (o:=.lst (st.path.dropLast.map V.int)) x11.gh g11;have x12:=x11.trans y12;refine⟨_,v,_,_,ts,bs.take i++st.instead (Stp.taken st bs)++bs.drop (i+n),st.path.dropLast,rfl,x12.gh,rv.mono x12.g,.lst upd_same (ints_reps _),RC.mono y12.g,(by rw[hd]; rfl),hdl,(by omega),(by rw[knotsOf_append,knotsOf_append]; omega),fun G13 H13 r13 x13 rr13=>?_⟩;refine kq _ _ _ (x12.trans x13) ?_;unfold Stp.row;rw[hi,hn];unfold Stp.taken at rr13;rw[hi,hn] at rr13;exact rr13
inductive PspLed(vs:List V)(H:Hp)(Q:VK):Prop
 | mk (G:Hp) (v u:V) (ts bs:List Tr) (st:Stp):vs=[v,u]→Same G H→Rep G v (rowD ts)→Rep G u st.d→st.path.length≤1000→st.beside ts=some bs→(∀ (G' H':Hp) (r:V),Ext G H G' H'→Rep G' r (st.back (Stp.taken st bs)).d→Q r H')→PspLed  vs H Q
def spLed:Sp:=fun vs H Q _=>PspLed  vs H Q
theorem scLed:FnScope ["row","step","taken","path","tree"] ["row","step"] (defScope sLed):=scD rfl rfl rfl rfl
theorem ok_led{f:Addr}{fd:FuncData}(F:Fun K "led_back" "led_back" sLed f fd)(T:Txt mg)(F_taken:Ok1 P w K mg base 9 "trees_taken" ["row","step"] spTaken)(F_tu:Ok1 P w K mg base 3 "trees_under" ["tree"] spTU)
  (F_mark:Ok1 P w K mg base 3 "mark_of" ["tree"] spMark):FnOk P w K mg base CX0 11 f fd ["row","step"] spLed:=by
 refine F.ok scLed (fun vs H Q E h=>?_) (fun cdv A outer s H vs Q E hr h=>?_)
 ·obtain⟨G,v,u,ts,bs,st,rfl,_⟩:=h;rfl
 ·refine fold_goal fun Z' Y'=>?_;obtain⟨G,v,u,ts,bs,st,rfl,sm,rv,ru,hpl,hb,kq⟩:=h;obtain⟨hpe,hd,hi0,hn0,hle⟩:=beside_some hb;obtain⟨a,sx,pa,rfl,ha,h0,h1,hp,_⟩:=ru.step;refine Y' ?_;clear Y' Z';have nd:=scLed.nd
  refine⟨_,(pss_cons (ps_set (i:=2) nd rfl (Or.inl rfl) (pe_fn F_taken (hr.mono (by decide)) rfl (pa_cons (pc 0) (pa_cons (pc 1) pa_nil))))
   (pss_cons (ps_set (i:=3) nd rfl (Or.inl rfl) (pe_callTy cc_list rfl T.list bt_list (pa_cons (pe_ix xc_tup (pc 1) pe_int (fun _ _=>rfl)) pa_nil)))
   (pss_cons (ps_if (pt_c op_eq (pe_ix xc_tup (pc 1) pe_int (fun _ _=>rfl)) pe_str (nomark _))
    (pss_one (ps_ret (pe_tup (pa_cons pe_str (pa_cons (pc 3) pa_nil)))))
    pss_nil)
   (pss_cons (ps_set (i:=4) nd rfl (Or.inl rfl) (pe_ix xc_list (pc 2) pe_int (fun _ _=>rfl)))
   (pss_cons (ps_if (pt_c op_eq (pe_ix xc_tup (pc 1) pe_int (fun _ _=>rfl)) pe_str (nomark _))
    (pss_one (ps_ret (pe_tup (pa_cons pe_str (pa_cons (pc 3) (pa_cons (pe_callB cc_len rfl T.len bt_len (pa_cons (pe_fn F_tu (hr.mono (by decide)) rfl (pa_cons (pc 4) pa_nil)) pa_nil)) (pa_cons (pe_fn F_mark (hr.mono (by decide)) rfl (pa_cons (pc 4) pa_nil)) pa_nil)))))))
    pss_nil)
   (pss_one (ps_ret (pe_tup (pa_cons pe_str (pa_cons (pc 3) (pa_cons (pe_fn F_mark (hr.mono (by decide)) rfl (pa_cons (pc 4) pa_nil)) pa_nil))))))))))),?_⟩
  (try dsimp only);refine⟨G,v,_,ts,bs,st,rfl,sm,rv,ru,hpl,hb,fun G1 H1 r1 x1 rt=>?_⟩;have htl:(Stp.taken st bs).length=st.many.toNat:=by unfold Stp.taken; rw[Lb5,Ld0]; omega
  have ha1:=x1.gh _ _ (x1.g _ _ ha);refine fold_goal fun Z' Y'=>?_;obtain⟨ta,tvs,rfl,hta,rts⟩:=rt.row;refine Y' ?_;clear Y' Z';refine⟨sx,_,SqT.of ha1,atI_nat (j:=1) h1,_,.inl (SqL.of (x1.gh _ _ (x1.g _ _ hp))),fun q1 g1=>?_⟩;have y2:=Ext.add (o:=.lst (st.path.map V.int)) x1.gh g1;have x2:=x1.trans y2;have ha2:=same_upd (o:=.lst (st.path.map V.int)) g1 _ _ ha1;have hta2:=x2.gh _ _ (y2.g _ _ hta);have rp:Rep (upd G1 q1 (.lst (st.path.map V.int))) (.ref q1) (pathD st.path):=.lst upd_same (ints_reps _)
  have one:∀ t rest,Stp.taken st bs=t::rest→∃ tv,atI tvs 0=some tv∧Rep (upd G1 q1 (.lst (st.path.map V.int))) tv t.d:=fun t rest e=>by
   rw[e] at rts;obtain⟨tv,htv,rtv⟩:=rts.get (i:=0) (d:=t.d) rfl;exact⟨tv,atI_nat (j:=0) htv,rtv.mono y2.g⟩
  generalize Stp.taken st bs=xs at *;refine⟨sx,_,SqT.of ha2,atI_nat (j:=0) h0,rfl,?_⟩
  cases st with
  | put p n m =>
   refine iteTB ⟨(by show 2≤sizeLine; decide),fun q2 g2=>?_⟩;have y3:=Ext.add (o:=.tup [V.str (Str.ofString "cut"),V.ref q1]) x2.gh g2;refine kq _ _ _ (x2.trans y3) ?_
   have:(Stp.put p n m).back xs=.cut p:=by cases xs <;> rfl
   rw[this]
   exact .tup upd_same (.cons (.str _) (.cons (rp.mono y3.g) .nil))
  | cut p =>
   match xs,htl,one,kq with
   | [],htl,_,_=>exact absurd (show (0:Nat)=1 from htl) (by decide)
   | t::rest,_,one,kq =>
    obtain⟨tv,htv,rtv⟩:=one t rest rfl;refine iteFB ⟨tvs,tv,SqL.of hta2,htv,?_⟩;refine⟨sx,_,SqT.of ha2,atI_nat (j:=0) h0,rfl,iteTB ?_⟩;refine⟨_,tv,t,rfl,x2.gh,rtv,fun G3 H3 r3 x3 rr3=>?_⟩;obtain⟨ka,kvs,rfl,hka,rks⟩:=rr3.row;have hkl:=rks.length;rw[La1] at hkl;refine⟨kvs,.inl (SqL.of (x3.gh _ _ hka)),G3,tv,t,rfl,x3.gh,rtv.mono x3.g,(by show 4≤sizeLine; decide),fun q2 g2=>?_⟩;have x4:=x2.trans x3;have y5:=Ext.add (o:=.tup [V.str (Str.ofString "put"),V.ref q1,V.int (kvs.length:Int),V.str t.mark]) x4.gh g2;refine kq _ _ _ (x4.trans y5) ?_
    show Rep _ _ (Stp.put p (t.kids.length:Int) t.mark).d
    rw[← hkl]
    exact .tup upd_same (.cons (.str _) (.cons (rp.mono (x3.g.trans y5.g)) (.cons (.int _) (.cons (.str _) .nil))))
  | mark p m =>
   match xs,htl,one,kq with
   | [],htl,_,_=>exact absurd (show (0:Nat)=1 from htl) (by decide)
   | t::rest,_,one,kq =>
    obtain⟨tv,htv,rtv⟩:=one t rest rfl;refine iteFB ⟨tvs,tv,SqL.of hta2,htv,?_⟩;refine⟨sx,_,SqT.of ha2,atI_nat (j:=0) h0,rfl,iteFB ?_⟩;refine⟨_,tv,t,rfl,x2.gh,rtv,(by show 3≤sizeLine; decide),fun q2 g2=>?_⟩;have y5:=Ext.add (o:=.tup [V.str (Str.ofString "mark"),V.ref q1,V.str t.mark]) x2.gh g2;refine kq _ _ _ (x2.trans y5) ?_
    show Rep _ _ (Stp.mark p t.mark).d
    exact .tup upd_same (.cons (.str _) (.cons (rp.mono y5.g) (.cons (.str _) .nil)))
inductive PspTurned(vs:List V)(H:Hp)(Q:VK):Prop
 | mk (G:Hp) (v u:V) (ts cs:List Tr) (sts:List Stp):vs=[v,u]→Same G H→Rep G v (rowD ts)→Rep G u (.lst (sts.map Stp.d))→((∀ st∈sts,st.Fit))→knotsOf ts+sts.length≤800→runS sts ts=some cs→(∀ (G' H':Hp) (r:V),Ext G H G' H'→Rep G' r (.lst ((backsS sts ts).reverse.map Stp.d))→Q r H')→PspTurned  vs H Q
def spTurned:Sp:=fun vs H Q _=>PspTurned  vs H Q
theorem scTurned:FnScope ["row","steps","current","back","step"] ["row","steps"] (defScope sTurned):=scD rfl rfl rfl rfl
inductive TurnInv(G H:Hp)(v:V)(ua pb:Addr)(ts:List Tr)(sts:List Stp)(i:Nat)(σ:L2.St)(H2:Hp):Prop
 | mk (G2:Hp) (cv:V) (cs:List Tr) (bv:List V) (z:Option V):σ=[some v,some (.ref ua),some cv,some (.ref pb),z]→Ext G H G2 H2→Rep G2 cv (rowD cs)→runS (sts.take i) ts=some cs→knotsOf cs≤knotsOf ts+i→G2 pb=none→H2 pb=some (.lst bv)→Reps G2 bv ((backsS (sts.take i) ts).map Stp.d)→bv.length=i→TurnInv G H v ua pb ts sts i σ H2
theorem ok_turned{f:Addr}{fd:FuncData}(F:Fun K "turned" "turned" sTurned f fd)(F_done:Ok1 P w K mg base 11 "done" ["row","step"] spDone)(F_led:Ok1 P w K mg base 11 "led_back" ["row","step"] spLed):FnOk P w K mg base CX0 13 f fd ["row","steps"] spTurned:=by
 refine F.ok scTurned (fun vs H Q E h=>?_) (fun cdv A outer s H vs Q E hr h=>?_)
 ·obtain⟨G,v,u,ts,cs,sts,rfl,_⟩:=h;rfl
 ·refine fold_goal fun Z' Y'=>?_;obtain⟨G,v,u,ts,cs,sts,rfl,sm,rv,ru,hfit,hkt,hrun,kq⟩:=h
  obtain⟨ua,us,rfl,hua,rus⟩:∃ ua us,u=.ref ua∧G ua=some (.lst us)∧Reps G us (sts.map Stp.d):=by
   cases ru with
   | lst h t=>exact⟨_,_,rfl,h,t⟩
  refine Y' ?_;clear Y' Z';have nd:=scTurned.nd;have big:=line_big
  refine⟨_,(pss_cons (ps_set (i:=2) nd rfl (Or.inl rfl) (pc 0))
   (pss_cons (ps_set (i:=3) nd rfl (Or.inl rfl) (pe_lst pa_nil))
   (pss_cons (ps_for PassesOwn.never rfl (pi_list (pc 1)) (pg_name (i:=4) nd rfl (Or.inl rfl))
    (pss_cons (ps_expr (pe_bm PySem.F.plainAttrs_list PySem.F.slot_list_append PySem.F.type_list_append mc_append (pc 3) (pa_cons (pe_fn F_led (hr.mono (by decide)) rfl (pa_cons (pc 2) (pa_cons (pc 4) pa_nil))) pa_nil)))
    (pss_one (ps_set (i:=2) nd rfl (Or.inl rfl) (pe_fn F_done (hr.mono (by decide)) rfl (pa_cons (pc 2) (pa_cons (pc 4) pa_nil)))))))
   (pss_cons (ps_expr (pe_bm0 PySem.F.plainAttrs_list PySem.F.slot_list_reverse PySem.F.type_list_reverse mt_reverse (pc 3)))
   (pss_one (ps_ret (pc 3))))))),?_⟩
  have hul:=rus.length;rw[La1] at hul;(try dsimp only);refine⟨Lb1 _,fun pb hpb=>?_⟩;have x1:Ext G H G (upd H pb (.lst [])):=Ext.tmp sm hpb;(try dsimp only);refine seq_gen fun Ra hna hra=>?_;refine⟨ua,rfl,⟨_,SqL.of (x1.h _ _ (sm _ _ hua))⟩,for_listG (K:=K) (a:=ua) (xs:=us) (TurnInv G H v ua pb ts sts) ⟨_,v,ts,[],none,rfl,x1,rv,rfl,La4 _,sm.none hpb,upd_same,.nil,rfl⟩ ?_ ?_ ?_⟩
  ·intro i σ H2 _ hZq;obtain⟨G2,_,_,_,_,_,x,_⟩:=hZq;exact SqL.of (x.h _ _ (sm _ _ hua))
  ·intro i y σ H2 hi hZp R hR hRr;refine fold_goal fun Z' Y'=>?_;obtain⟨G2,cv,ds,bv,z,rfl,x,rc,hru,hkc,nb,hb2,rb,hbl⟩:=hZp;have hil:i<us.length:=(La5.mp hi).1;have his:i<sts.length:=by omega
   obtain⟨d,hd,rd⟩:=rus.at hi;rw[La6,La0 his] at hd;cases hd;have hst:sts[i]∈sts:=Ld4 his;have htk:sts.take (i+1)=sts.take i++[sts[i]]:=Lc5 his
   obtain⟨bs,hb⟩:∃ bs,(sts[i]).beside ds=some bs:=by
    have e:=runS_app (sts.take i) (sts.drop i) ts;rw[Lc9,hru,hrun,Ld9,Lc6 his,runS] at e
    cases q:(sts[i]).beside ds with
    | none=>rw[q] at e; cases e
    | some bs=>exact⟨bs,rfl⟩
   refine Y' ?_;clear Y' Z';(try dsimp only[gName]);refine⟨.inl ⟨rfl,_,SqL.of hb2⟩,G2,cv,y,ds,bs,sts[i],rfl,x.gh,rc,rd.mono x.g,(hfit _ hst).1,hb,fun G3 H3 r3 x3 rr3=>?_⟩;have hb3:=x3.h _ _ hb2;have nb3:=x3.keep hb2 nb;refine⟨bv,hb3,by omega,?_⟩;have x4:=(x.trans x3).mut (o:=.lst (bv++[r3])) nb3 hpb;refine⟨G3,cv,y,ds,bs,sts[i],rfl,x4.gh,rc.mono x3.g,(rd.mono x.g).mono x3.g,(hfit _ hst).1,by omega,hb,fun G5 H5 r5 x5 rr5=>?_⟩;have h5:=x5.h _ _ (upd_same (H:=H3) (a:=pb) (o:=.lst (bv++[r3])));refine hR _ _ ⟨G5,r5,_,_,_,rfl,x4.trans x5,rr5,?_,?_,x5.keep upd_same nb3,h5,?_,?_⟩
   ·rw[htk,runS_app,hru,Ld9,runS,hb];rfl
   ·have:=row_knots hb;omega
   ·rw[htk,backsS_snoc _ _ ts ds bs hru hb,Lb3];exact ((rb.mono x3.g).mono x5.g).append (.cons (rr3.mono x5.g) .nil)
   ·rw[La2,Lb2,hbl]
  intro σ H2 hZp;refine fold_goal fun Z' Y'=>?_;obtain⟨G2,cv,ds,bv,z,rfl,x,rc,hru,hkc,nb,hb2,rb,hbl⟩:=hZp;refine Y' ?_;clear Y' Z';rw[hul,Le9] at rb;refine hna _ _ ?_;clear hna hra Ra;(try dsimp only);refine⟨.inl ⟨rfl,_,SqL.of hb2⟩,pb,bv,rfl,rfl,hb2,?_⟩;have x3:=x.mut (o:=.lst bv.reverse) nb hpb;refine kq _ _ _ (x3.freeze nb hpb upd_same) (.lst upd_same ?_);rw[List.map_reverse];exact rb.rev.mono (same_upd nb)
inductive PspWalked(vs:List V)(H:Hp)(Q:VK):Prop
 | mk (G:Hp) (v u:V) (ts:List Tr) (sts:List Stp):vs=[v,u]→Same G H→Rep G v (rowD ts)→Rep G u (.lst (sts.map Stp.d))→((∀ st∈sts,st.Fit))→knotsOf ts+sts.length≤800→(runS sts ts).isSome=true→(∀ cs,runS sts ts=some cs→∀ (G' H':Hp) (r:V),Ext G H G' H'→Rep G' r (rowD cs)→Q r H')→PspWalked  vs H Q
def spWalked:Sp:=fun vs H Q _=>PspWalked  vs H Q
theorem scWalked:FnScope ["_law_row","_law_steps","_law_step"] ["_law_row","_law_steps"] (defScope sWalked):=scD rfl rfl rfl rfl
theorem ok_walked{f:Addr}{fd:FuncData}(F:Fun K "_law_walked" "_law_walked" sWalked f fd)(F_stepped:Ok1 P w K mg base 5 "_law_stepped" ["_law_row","_law_step"] spStepped):FnOk P w K mg base CX0 7 f fd ["_law_row","_law_steps"] spWalked:=by
 refine F.ok scWalked (fun vs H Q E h=>?_) (fun cdv A outer s H vs Q E hr h=>?_)
 ·obtain⟨G,v,u,ts,sts,rfl,_⟩:=h;rfl
 ·refine fold_goal fun Z' Y'=>?_;obtain⟨G,v,u,ts,sts,rfl,sm,rv,ru,hfit,hkt,hsome,kq⟩:=h;refine Y' ?_;clear Y' Z';have nd:=scWalked.nd
  refine⟨_,(pss_cons (ps_for PassesOwn.never rfl (pi_list (pv 1)) (pg_name (i:=2) nd rfl (Or.inl rfl))
    (pss_one (ps_if (pt_cmp (pc_notN (pv 0)))
     (pss_one (ps_set (i:=0) nd rfl (Or.inl rfl) (pe_fn F_stepped (hr.mono (by decide)) rfl (pa_cons (pv 0) (pa_cons (pv 2) pa_nil)))))
     pss_nil)))
   (pss_one (ps_ret (pv 0)))),?_⟩
  cases ru with
  | @lst ua us _ hua rus =>
  have hul:=rus.length;rw[La1] at hul
  refine⟨_,rfl,ua,rfl,⟨_,SqL.of (sm _ _ hua)⟩,for_list (K:=K) (a:=ua) (xs:=us)
   (fun i σ H2=>∃ (G2:Hp) (cv:V) (z:Option V),σ=[some cv,some (.ref ua),z]∧Ext G H G2 H2∧((runS (sts.take i) ts=none∧cv=.non)∨∃ cs,runS (sts.take i) ts=some cs∧Rep G2 cv (rowD cs)∧knotsOf cs≤knotsOf ts+i))
   ⟨G,v,none,rfl,Ext.refl sm,.inr ⟨ts,rfl,rv,La4 _⟩⟩ (fun i σ H2 _ hZq=>by obtain⟨G2,_,_,_,x,_⟩:=hZq; exact SqL.of (x.h _ _ (sm _ _ hua))) ?_ ?_⟩
  ·intro i y σ H2 hi hZp;refine fold_goal fun Z' Y'=>?_;obtain⟨G2,cv,z,rfl,x,hc⟩:=hZp;refine Y' ?_;clear Y' Z';have hil:i<us.length:=(La5.mp hi).1;have his:i<sts.length:=by omega
   refine fold_goal fun Z' Y'=>?_;obtain⟨d,hd,rd⟩:=rus.at hi;refine Y' ?_;clear Y' Z';rw[La6,La0 his] at hd;cases hd;have hst:sts[i]∈sts:=Ld4 his;have htk:sts.take (i+1)=sts.take i++[sts[i]]:=Lc5 his
   rcases hc with ⟨hn,rfl⟩ | ⟨cs,hrun,rc,hkc⟩
   ·refine⟨_,rfl,_,rfl,iteF ⟨G2,.non,_,rfl,x,.inl ⟨?_,rfl⟩⟩⟩;rw[htk,runS_app,hn];rfl
   ·refine fold_goal fun Z' Y'=>?_;obtain⟨ca,cvs,rfl,hca,rcs⟩:=rc.row;refine Y' ?_;clear Y' Z';refine⟨_,rfl,_,rfl,iteT ?_⟩;refine⟨_,rfl,_,rfl,G2,_,y,cs,sts[i],rfl,x.gh,rc,rd.mono x.g,hfit _ hst,by omega,fun bs hb G3 H3 r3 x3 rr3=>?_,fun hb H' s'=>?_⟩
    ·refine⟨G3,r3,_,rfl,x.trans x3,.inr ⟨_,?_,rr3,?_⟩⟩
     ·rw[htk,runS_app,hrun,Ld9,runS,hb];rfl
     ·have:=row_knots hb;omega
    ·refine⟨G2,.non,_,rfl,⟨x.g,x.gh.trans s',x.h.trans s',x.new⟩,.inl ⟨?_,rfl⟩⟩;rw[htk,runS_app,hrun,Ld9,runS,hb]
  ·intro σ H2 hZp;refine fold_goal fun Z' Y'=>?_;obtain⟨G2,cv,z,rfl,x,hc⟩:=hZp;refine Y' ?_;clear Y' Z';rw[hul,Le9] at hc
   rcases hc with ⟨hn,rfl⟩ | ⟨cs,hrun,rc,hkc⟩
   ·rw[hn] at hsome;cases hsome
   ·exact⟨_,rfl,kq cs hrun _ _ _ x rc⟩
inductive PspIsPath(vs:List V)(H:Hp)(Q:VK):Prop
 | mk (G:Hp) (v:V) (p:List Int):vs=[v]→Same G H→Rep G v (pathD p)→Q (.bl true) H→PspIsPath  vs H Q
def spIsPath:Sp:=fun vs H Q _=>PspIsPath  vs H Q
theorem scIsPath:FnScope ["_law_found","_law_k"] ["_law_found"] (defScope sIsPath):=scD rfl rfl rfl rfl
theorem ok_ispath{f:Addr}{fd:FuncData}(F:Fun K "_law_is_path" "_law_is_path" sIsPath f fd)(T:Txt mg):FnOk P w K mg base CX0 3 f fd ["_law_found"] spIsPath:=by
 refine F.ok scIsPath (fun vs H Q E h=>?_) (fun cdv A outer s H vs Q E hr h=>?_)
 ·obtain⟨G,v,p,rfl,_⟩:=h;rfl
 ·refine fold_goal fun Z' Y'=>?_;obtain⟨G,v,p,rfl,sm,rv,k⟩:=h;refine Y' ?_;clear Y' Z';have nd:=scIsPath.nd
  refine⟨_,(pss_cons (ps_if (pt_not (pt_val (pe_callB call_isi rfl T.isinstance bt_isinstance (pa_cons (pv 0) (pa_cons (pe_ty rfl T.list bt_list) pa_nil)))))
    (pss_one (ps_ret pe_bl))
    pss_nil)
   (pss_cons (ps_for PassesOwn.never rfl (pi_list (pv 0)) (pg_name (i:=1) nd rfl (Or.inl rfl))
    (pss_one (ps_if (PW.pt (pw_or (pt_not (pt_val (pe_callB call_isi rfl T.isinstance bt_isinstance (pa_cons (pv 1) (pa_cons (pe_ty rfl T.int bt_int) pa_nil))))) (pw_or1 (pt_val (pe_callB call_isi rfl T.isinstance bt_isinstance (pa_cons (pv 1) (pa_cons (pe_ty rfl T.bool bt_bool) pa_nil)))))))
     (pss_one (ps_ret pe_bl))
     pss_nil)))
   (pss_one (ps_ret pe_bl)))),?_⟩
  refine fold_goal fun Z' Y'=>?_;obtain⟨pa,rfl,hpa⟩:=rv.path;refine Y' ?_;clear Y' Z';refine⟨_,rfl,_,_,_,_,rfl,.lst (sm _ _ hpa),kit_list_list K,_,rfl,iteF ?_⟩;refine⟨_,rfl,pa,rfl,⟨_,SqL.of (sm _ _ hpa)⟩,for_list (K:=K) (a:=pa) (xs:=p.map V.int) (fun i σ H2=>∃ z:Option V,σ=[some (.ref pa),z]∧H2=H) ⟨none,rfl,rfl⟩ (fun i σ H2 _ ⟨_,_,e⟩=>by rw[e]; exact SqL.of (sm _ _ hpa)) ?_ ?_⟩
  ·intro i y σ H2 hi hZp;refine fold_goal fun Z' Y'=>?_;obtain⟨z,rfl,rfl⟩:=hZp;refine Y' ?_;clear Y' Z'
   have hil:i<p.length:=by
    have:=(La5.mp hi).1
    rwa [La1] at this
   obtain rfl:V.int p[i]=y:=by
    rw[La6,La0 hil] at hi;exact Option.some.inj hi
   refine⟨_,rfl,_,_,_,_,rfl,.int _,kit_int_int K,_,rfl,iteF ?_⟩;exact⟨_,rfl,_,_,_,_,rfl,.int _,kit_int_bool K,_,rfl,iteF ⟨_,rfl,rfl⟩⟩
  ·intro σ H2 hZp;refine fold_goal fun Z' Y'=>?_;obtain⟨z,rfl,rfl⟩:=hZp;refine Y' ?_;clear Y' Z';exact k
end
def Stp.len:Stp→Int
 | .mark _ _=>3
 | .cut _=>2
 | .put _ _ _=>4
def stepTab:List (Key×V):=mergeK [] [(Sum.inr (Str.ofString "mark"),V.int 3),(Sum.inr (Str.ofString "cut"),V.int 2),(Sum.inr (Str.ofString "put"),V.int 4)]
theorem tab_kind(st:Stp):valV stepTab (Sum.inr st.kind)=some (V.int (Stp.len st)):=by
 cases st <;> rfl
theorem rest_len{st:Stp}{ds:List D}(h:st.d=.tup (.str st.kind::pathD st.path::ds)):Stp.len st=((ds.length+2:Nat):Int):=by
 cases st with
 | mark p m=>cases h; rfl
 | cut p=>cases h; rfl
 | put p n m=>cases h; rfl
section
variable {P:Program} {w:World} {K:PySem.W.Frag} {mg:Str→Option Value} {base:Heap}
inductive PspAre(vs:List V)(H:Hp)(Q:VK):Prop
 | mk (G:Hp) (v:V) (sts:List Stp):vs=[v]→Same G H→Rep G v (.lst (sts.map Stp.d))→(∀ H':Hp,Same H H'→Q (.bl true) H')→PspAre  vs H Q
def spAre:Sp:=fun vs H Q _=>PspAre  vs H Q
theorem scAre:FnScope ["_law_found","_law_step","_law_sizes"] ["_law_found"] (defScope sAre):=scD rfl rfl rfl rfl
theorem ok_are{f:Addr}{fd:FuncData}(F:Fun K "_law_are_steps" "_law_are_steps" sAre f fd)(T:Txt mg)(F_path:Ok1 P w K mg base 3 "_law_is_path" ["_law_found"] spIsPath):FnOk P w K mg base CX0 5 f fd ["_law_found"] spAre:=by
 refine F.ok scAre (fun vs H Q E h=>?_) (fun cdv A outer s H vs Q E hr h=>?_)
 ·obtain⟨G,v,sts,rfl,_⟩:=h;rfl
 ·refine fold_goal fun Z' Y'=>?_;obtain⟨G,v,sts,rfl,sm,rv,k⟩:=h;refine Y' ?_;clear Y' Z';have nd:=scAre.nd;have hu:=hu_of hr;have big:=line_big
  refine⟨_,(pss_cons (ps_if (pt_not (pt_val (pe_callB call_isi rfl T.isinstance bt_isinstance (pa_cons (pv 0) (pa_cons (pe_ty rfl T.list bt_list) pa_nil)))))
    (pss_one (ps_ret pe_bl))
    pss_nil)
   (pss_cons (ps_for PassesOwn.never rfl (pi_list (pv 0)) (pg_name (i:=1) nd rfl (Or.inl rfl))
    (pss_cons (ps_if (PW.pt (pw_or (pt_not (pt_val (pe_callB call_isi rfl T.isinstance bt_isinstance (pa_cons (pv 1) (pa_cons (pe_ty rfl T.tuple bt_tuple) pa_nil))))) (pw_or (pt_cmpR op_lt (pe_callB call_len_seq rfl T.len bt_len (pa_cons (pv 1) pa_nil)) pe_int (nomark _)) (pw_or1 (pt_not (pt_val (pe_callB call_isi rfl T.isinstance bt_isinstance (pa_cons (pe_ix ix_tup (pv 1) pe_int (fun _ _=>rfl)) (pa_cons (pe_ty rfl T.str bt_str) pa_nil)))))))))
     (pss_one (ps_ret pe_bl))
     pss_nil)
    (pss_cons (ps_set (i:=2) nd rfl (Or.inl rfl) (pe_disp (pps_cons pe_str pe_int (pps_cons pe_str pe_int (pps_cons pe_str pe_int pps_nil))) rfl rfl (by simp) (by decide)))
    (pss_cons (ps_if (PW.pt (pw_or (pt_cmpR op_ne (pe_dget2 hu (pv 2) (pe_ix ix_tup (pv 1) pe_int (fun _ _=>rfl)) pe_int ⟨rfl,rfl,rfl,rfl⟩) (pe_callB call_len_seq rfl T.len bt_len (pa_cons (pv 1) pa_nil)) (nomark _)) (pw_or1 (pt_not (pt_val (pe_fn F_path (hr.mono (by decide)) rfl (pa_cons (pe_ix ix_tup (pv 1) pe_int (fun _ _=>rfl)) pa_nil)))))))
     (pss_one (ps_ret pe_bl))
     pss_nil)
    (pss_cons (ps_if (PW.pt (pw_and (pt_cmpR op_ne (pe_ix ix_tup (pv 1) pe_int (fun _ _=>rfl)) pe_str (nomark _)) (pw_and1 (pt_not (pt_val (pe_callB call_isi rfl T.isinstance bt_isinstance (pa_cons (pe_ix ix_tup (pv 1) (pe_un un_neg pe_int) (fun _ _=>rfl)) (pa_cons (pe_ty rfl T.str bt_str) pa_nil))))))))
     (pss_one (ps_ret pe_bl))
     pss_nil)
    (pss_one (ps_if (PW.pt (pw_and (pt_cmpR op_eq (pe_ix ix_tup (pv 1) pe_int (fun _ _=>rfl)) pe_str (nomark _)) (pw_and1 (pt_not (pt_val (pe_fn F_path (hr.mono (by decide)) rfl (pa_cons (pe_lst (pa_cons (pe_ix ix_tup (pv 1) pe_int (fun _ _=>rfl)) pa_nil)) pa_nil)))))))
     (pss_one (ps_ret pe_bl))
     pss_nil)))))))
   (pss_one (ps_ret pe_bl)))),?_⟩
  cases rv with
  | @lst ua us _ hua rus =>
  have hul:=rus.length;rw[La1] at hul;refine⟨_,rfl,_,_,_,_,rfl,.lst (sm _ _ hua),kit_list_list K,_,rfl,iteF ?_⟩;refine⟨_,rfl,ua,rfl,⟨_,SqL.of (sm _ _ hua)⟩,for_listG (K:=K) (a:=ua) (xs:=us) (fun i σ H2=>∃ z1 z2:Option V,σ=[some (.ref ua),z1,z2]∧Same H H2) ⟨none,none,rfl,Same.refl _⟩ (fun i σ H2 _ hZq=>by obtain⟨_,_,_,e⟩:=hZq; exact SqL.of (e _ _ (sm _ _ hua))) ?_ ?_⟩
  ·intro i y σ H2 hi hZp R0 hnx0 hrx0;refine fold_goal fun Z' Y'=>?_;obtain⟨z1,z2,rfl,s2⟩:=hZp;refine Y' ?_;clear Y' Z';have hil:i<us.length:=(La5.mp hi).1;have his:i<sts.length:=by omega
   refine fold_goal fun Z' Y'=>?_;obtain⟨d,hd,rd⟩:=rus.at hi;refine Y' ?_;clear Y' Z';rw[La6,La0 his] at hd;cases hd;generalize sts[i]=st at *;have g2:Same G H2:=sm.trans s2;refine fold_goal fun Z' Y'=>?_;obtain⟨sa,pq,rest,ds,rfl,hsa,hpq,hds,rrest,hrl⟩:=step_parts rd;refine Y' ?_;clear Y' Z';have hlen:=rest_len hds;have hrd:=rrest.length;have hsa2:=g2 _ _ hsa;refine⟨_,rfl,_,_,_,_,rfl,.tup hsa2,kit_tuple_tuple K,_,rfl,iteF ?_⟩;refine⟨_,rfl,sa,_,rfl,.inr (SqT.of hsa2),_,_,rfl,rfl,_,rfl,?_⟩;refine ite2 (fun h=>?_) (fun _=>?_)
   ·exfalso
    have:=of_decide_eq_true h;simp only[List.length_cons] at this;omega
   refine⟨_,rfl,sa,_,_,_,rfl,rfl,SqT.of hsa2,atI_nat (j:=0) rfl,_,_,_,_,rfl,.str _,kit_str_str K,_,rfl,iteF ?_⟩;refine fun dp hdp=>⟨upd_same,[(Sum.inr (Str.ofString "mark"),V.int 3),(Sum.inr (Str.ofString "cut"),V.int 2),(Sum.inr (Str.ofString "put"),V.int 4)],rfl,by decide,?_⟩
   have s3:Same H2 (upd (upd H2 dp (.dK [])) dp (.dK stepTab)):=fun b u e=>by
    rw[upd_ne (ne_of_none e hdp),upd_ne (ne_of_none e hdp)];exact e
   have hdp3:upd (upd H2 dp (.dK [])) dp (.dK stepTab) dp=some (.dK stepTab):=upd_same;unfold stepTab at s3 hdp3;generalize upd (upd H2 dp (.dK [])) dp (.dK (mergeK [] [(Sum.inr (Str.ofString "mark"),V.int 3),(Sum.inr (Str.ofString "cut"),V.int 2),(Sum.inr (Str.ofString "put"),V.int 4)]))=H3 at *;have hsa3:=s3 _ _ hsa2;have hpq3:=s3 _ _ (g2 _ _ hpq);have g3:=g2.trans s3;have htab:=tab_kind st;unfold stepTab at htab;refine⟨_,rfl,dp,rfl,.inl ⟨_,.inl hdp3⟩,_,rfl,sa,_,_,_,rfl,rfl,SqT.of hsa3,atI_nat (j:=0) rfl,_,DGet.k (k:=Sum.inr st.kind) hdp3,?_⟩;rw[htab];refine⟨_,rfl,sa,_,rfl,.inr (SqT.of hsa3),rfl,_,rfl,iteNS ?_ ?_⟩
   ·show V.int (Stp.len st)=V.int _
    rw[hlen];simp only[List.length_cons];rw[hrd]
   refine⟨_,rfl,sa,_,_,_,rfl,rfl,SqT.of hsa3,atI_nat (j:=1) rfl,H3,_,st.path,rfl,Same.refl _,.lst hpq3 (ints_reps _),_,rfl,iteF ?_⟩;refine⟨_,rfl,sa,_,_,_,rfl,rfl,SqT.of hsa3,atI_nat (j:=0) rfl,rfl,_,rfl,?_⟩
   cases st with
   | mark p m =>
    cases hds
    cases rrest with
    | cons r1 t1 =>
    cases r1;cases t1;refine iteT ⟨_,rfl,_,rfl,sa,_,_,_,rfl,rfl,SqT.of hsa3,rfl,_,_,_,_,rfl,.str _,kit_str_str K,_,rfl,iteF ?_⟩
    exact⟨_,rfl,sa,_,_,_,rfl,rfl,SqT.of hsa3,atI_nat (j:=0) rfl,rfl,_,rfl,iteF (iteF (hnx0 _ _ ⟨_,_,rfl,s2.trans s3⟩))⟩
   | cut p =>
    refine iteF (iteF ?_)
    exact⟨_,rfl,sa,_,_,_,rfl,rfl,SqT.of hsa3,atI_nat (j:=0) rfl,rfl,_,rfl,iteF (iteF (hnx0 _ _ ⟨_,_,rfl,s2.trans s3⟩))⟩
   | put p n m =>
    cases hds
    cases rrest with
    | cons r1 t1 =>
    cases r1
    cases t1 with
    | cons r2 t2 =>
    cases r2;cases t2;refine iteT ⟨_,rfl,_,rfl,sa,_,_,_,rfl,rfl,SqT.of hsa3,rfl,_,_,_,_,rfl,.str _,kit_str_str K,_,rfl,iteF ?_⟩;refine⟨_,rfl,sa,_,_,_,rfl,rfl,SqT.of hsa3,atI_nat (j:=0) rfl,rfl,_,rfl,iteT ?_⟩;refine⟨_,rfl,sa,_,_,_,rfl,rfl,SqT.of hsa3,atI_nat (j:=2) rfl,(by show 1≤sizeLine; decide),fun q1 g1=>?_⟩;exact⟨_,_,[n],rfl,Same.refl _,.lst upd_same (ints_reps [n]),_,rfl,iteF (hnx0 _ _ ⟨_,_,rfl,(s2.trans s3).trans (same_upd g1)⟩)⟩
  ·intro σ H2 hZp;refine fold_goal fun Z' Y'=>?_;obtain⟨z1,z2,rfl,s2⟩:=hZp;refine Y' ?_;clear Y' Z';exact k _ s2
theorem back_fit{st:Stp}{ts bs:List Tr}(hf:st.Fit)(hb:st.beside ts=some bs)(hk:knotsOf ts≤900):(st.back ((bs.drop (st.path.getLastD 0).toNat).take st.many.toNat)).Fit:=by
 refine fold_goal fun Z' Y'=>?_;obtain⟨hpe,hd,hi0,hn0,hle⟩:=beside_some hb;refine Y' ?_;clear Y' Z';have hl:((bs.drop (st.path.getLastD 0).toNat).take st.many.toNat).length=st.many.toNat:=by rw[Lb5,Ld0]; omega
 have h1:=mid_knots bs (st.path.getLastD 0).toNat st.many.toNat;have h2:=instead_knots st ((bs.drop (st.path.getLastD 0).toNat).take st.many.toNat);have h3:=down_knots _ _ _ hd;have h4:=length_le_knots (st.instead ((bs.drop (st.path.getLastD 0).toNat).take st.many.toNat));refine⟨by rw[back_path]; exact hf.1,by rw[back_path]; exact hf.2.1,?_⟩;rw[back_many hl];exact small_le (by omega)
theorem backs_fit:∀ (sts:List Stp) (ts cs:List Tr),runS sts ts=some cs→(∀ st∈sts,st.Fit)→knotsOf ts+sts.length≤900→∀ st∈backsS sts ts,st.Fit
 | [],ts,cs,_,_,_,st,h=>nomatch h
 | s::r,ts,cs,h,hf,hk,st,hm=>by
  rw[runS] at h;rw[backsS] at hm
  cases e:s.beside ts with
  | none=>rw[e] at h; cases h
  | some bs =>
   rw[e] at h hm;rw[Lb4] at hk
   rcases Lb6.mp hm with q | q
   ·subst q;exact back_fit (hf s (La7 ..)) e (by omega)
   ·have h2:=row_knots e;exact backs_fit r _ cs h (fun x hx=>hf x (Lb0 _ hx)) (by omega) st q
end
end K8
namespace TT
open PySem PySem.Spec PyProof.Rows L2
theorem path_mem{ts:List Tr}{i:Nat}(h:i<knotsOf ts):(pps 0 ts).getD i []∈pps 0 ts:=by
 have h':i<(pps 0 ts).length:=by rw[pps_length]; exact h
 rw[La3,La0 h'];exact Ld4 _
theorem knot_at{T:List Tr}{i:Nat}(h:i<knotsOf T):∃ bs t,(pps 0 T).getD i []≠[]∧down T ((pps 0 T).getD i []).dropLast=some bs∧0≤((pps 0 T).getD i []).getLastD 0∧bs[(((pps 0 T).getD i []).getLastD 0).toNat]?=some t∧((pps 0 T).getD i []).length≤knotsOf T∧t.mark=(marksL T).getD i Str.empty∧(marksL T)[i]?=some t.mark∧∀ a∈(pps 0 T).getD i [],a.natAbs<knotsOf T+1:=by
 have h':i<(pps 0 T).length:=by rw[pps_length]; exact h
 have hm:=path_mem h;obtain⟨bs,t,h1,h2,h3,h4⟩:=pps_knot hm;obtain⟨u,hu⟩:=down_pps _ T (La4 _) [] _ hm;rw[show ([]:List Tr)++T=T from rfl] at hu;have hs:(down T ((pps 0 T).getD i [])).isSome=true:=by rw[hu]; rfl
 have e1:(marksL T)[i]?=some t.mark:=by
  unfold marksL;rw[La6,La0 h'];rw[La3,La0 h'] at h2 h4;refine congrArg some ?_
  show markF T _=_
  unfold markF;rw[show down T ((pps 0 T)[i]).dropLast=some bs from h2]
  show (match bs[(((pps 0 T)[i]).getLastD 0).toNat]? with | none=>Str.empty | some t=>t.mark)=_
  rw[show bs[(((pps 0 T)[i]).getLastD 0).toNat]?=some t from h4]
 exact⟨bs,t,h1,h2,h3,h4,path_len _ _ hs,by rw[La3,e1]; rfl,e1,path_in hs⟩
theorem ops_fit{T:List Tr}(hT:knotsOf T≤100){l:List (Nat×Option Str)}(hl:∀ q∈l,q.1<knotsOf T):∀ st∈opsN T l,st.Fit:=fun st hst=>by
 obtain⟨q,hq,rfl⟩:=Lc3.mp hst;obtain⟨_,_,_,_,_,_,h1,_,_,h2⟩:=knot_at (hl q hq);refine⟨by rw[stpO_path]; omega,fun a ha=>?_,by rw[stpO_many]; show (1:Nat)<_; decide⟩;rw[stpO_path] at ha;exact Lb7 (h2 a ha) (Ld6 (show knotsOf T+1≤101 by omega) (by decide))
theorem opsN_app(T:List Tr)(a b:List (Nat×Option Str)):opsN T (a++b)=opsN T a++opsN T b:=Lb3
theorem markO_app(ms ms':List Str):∀ a b:List (Nat×Nat),markO ms ms' (a++b)=markO ms ms' a++markO ms ms' b
 | [],b=>rfl
 | p::a,b=>by rw[Lc7,markO,markO,markO_app ms ms' a b,La9]
theorem marks_fit{T U:List Tr}{c:Ch}(f:Fits (marksL T) (marksL U) (endsL T) (endsL U) (0,knotsOf T) (0,knotsOf U) c)(hT:knotsOf T≤100):∀ st∈marksN T U c,st.Fit:=ops_fit hT fun q hq=>by
 obtain⟨p,h1,h2,_⟩:=markO_mem hq;rw[h2];exact (f.inn p h1).1.2
theorem cuts_fit{T:List Tr}(S:List Nat)(hT:knotsOf T≤100):∀ st∈cutsN T S,st.Fit:=ops_fit hT fun q hq=>by
 obtain⟨x,hx,rfl⟩:=Lc3.mp hq;exact (gone_mem.mp hx).1
end TT
namespace K8
open PySem L2 TT
section
variable {P:Program} {w:World} {K:PySem.W.Frag} {mg:Str→Option Value} {base:Heap}
inductive PspMarks(vs:List V)(H:Hp)(Q:VK):Prop
 | mk (G:Hp) (v u z:V) (ts us:List Tr) (c:Ch):vs=[v,u,z]→Same G H→Rep G v (rowD ts)→Rep G u (rowD us)→Rep G z (.lst (c.pairs.map (ppD ts us)))→knotsOf ts≤9→knotsOf us≤9→Fits (marksL ts) (marksL us) (endsL ts) (endsL us) (0,knotsOf ts) (0,knotsOf us) c→(∀ (G' H':Hp) (r:V),Ext G H G' H'→Rep G' r (.lst ((marksN ts us c).map Stp.d))→Q r H')→PspMarks  vs H Q
def spMarks:Sp:=fun vs H Q _=>PspMarks  vs H Q
theorem scMarks:FnScope ["row","other","pairs","steps","path","opposite","mark"] ["row","other","pairs"] (defScope sMarks):=scD rfl rfl rfl rfl
inductive MarkInv(G H:Hp)(v u z:V)(pb:Addr)(ts us:List Tr)(ps:List (Nat×Nat))(i:Nat)(σ:L2.St)(H2:Hp):Prop
 | mk (G2:Hp) (bv:List V) (z4 z5 z6:Option V):σ=[some v,some u,some z,some (.ref pb),z4,z5,z6]→Ext G H G2 H2→G2 pb=none→H2 pb=some (.lst bv)→Reps G2 bv ((opsN ts (markO (marksL ts) (marksL us) (ps.take i))).map Stp.d)→bv.length≤i→MarkInv G H v u z pb ts us ps i σ H2
theorem ok_marks{f:Addr}{fd:FuncData}(F:Fun K "marks_changed" "marks_changed" sMarks f fd)(F_markat:Ok1 P w K mg base 9 "mark_at" ["row","path"] spMarkAt):FnOk P w K mg base CX0 11 f fd ["row","other","pairs"] spMarks:=by
 refine F.ok scMarks (fun vs H Q E h=>?_) (fun cdv A outer s H vs Q E hr h=>?_)
 ·obtain⟨G,v,u,z,ts,us,c,rfl,_⟩:=h;rfl
 ·refine fold_goal fun Z' Y'=>?_;obtain⟨G,v,u,z,ts,us,c,rfl,sm,rv,ru,rz,k1,k2,fit,kq⟩:=h
  obtain⟨za,zs,rfl,hza,rzs⟩:∃ za zs,z=.ref za∧G za=some (.lst zs)∧Reps G zs (c.pairs.map (ppD ts us)):=by
   cases rz with
   | lst h t=>exact⟨_,_,rfl,h,t⟩
  have hlc:c.pairs.length+(0+0)≤knotsOf ts+knotsOf us:=fit.len;have hzl:=rzs.length;rw[La1] at hzl;refine Y' ?_;clear Y' Z';have nd:=scMarks.nd;have big:=line_big
  refine⟨_,(pss_cons (ps_set (i:=3) nd rfl (Or.inl rfl) (pe_lst pa_nil))
   (pss_cons (ps_for PassesOwn.never rfl (pi_list (pc 2)) (gc_tup rfl (gcs_cons (pg_name (i:=4) nd rfl (Or.inl rfl)) (gcs_cons (pg_name (i:=5) nd rfl (Or.inl rfl)) pgs_nil)))
    (pss_cons (ps_set (i:=6) nd rfl (Or.inl rfl) (pe_fn F_markat (hr.mono (by decide)) rfl (pa_cons (pc 1) (pa_cons (pc 5) pa_nil))))
    (pss_one (ps_if (pt_c op_ne (pc 6) (pe_fn F_markat (hr.mono (by decide)) rfl (pa_cons (pc 0) (pa_cons (pc 4) pa_nil))) (nomark _))
     (pss_one (ps_expr (pe_bm PySem.F.plainAttrs_list PySem.F.slot_list_append PySem.F.type_list_append mc_append (pc 3) (pa_cons (pe_tup (pa_cons pe_str (pa_cons (pc 4) (pa_cons (pc 6) pa_nil)))) pa_nil))))
     pss_nil))))
   (pss_one (ps_ret (pc 3))))),?_⟩
  (try dsimp only);refine⟨Lb1 _,fun pb hpb=>?_⟩;have x1:Ext G H G (upd H pb (.lst [])):=Ext.tmp sm hpb;(try dsimp only);refine seq_gen fun Ra hna hra=>?_;refine⟨za,rfl,⟨_,SqL.of (x1.h _ _ (sm _ _ hza))⟩,for_listG (K:=K) (a:=za) (xs:=zs) (MarkInv G H v u (.ref za) pb ts us c.pairs) ⟨_,[],none,none,none,rfl,x1,sm.none hpb,upd_same,.nil,La4 _⟩ ?_ ?_ ?_⟩
  ·intro i σ H2 _ hZq;obtain⟨G2,_,_,_,_,_,x,_⟩:=hZq;exact SqL.of (x.h _ _ (sm _ _ hza))
  ·intro i y σ H2 hi hZp R hR hRr;refine fold_goal fun Z' Y'=>?_;obtain⟨G2,bv,z4,z5,z6,rfl,x,nb,hb2,rb,hbl⟩:=hZp
   have his:i<c.pairs.length:=by
    have:=(La5.mp hi).1;omega
   obtain⟨d,hd,rd⟩:=rzs.at hi;rw[La6,La0 his] at hd;cases hd
   obtain⟨pa,w1,w2,rfl,hpa,rw1,rw2⟩:∃ pa w1 w2,y=.ref pa∧G pa=some (.tup [w1,w2])∧Rep G w1 (pathD ((pps 0 ts).getD (c.pairs[i]).1 []))∧Rep G w2 (pathD ((pps 0 us).getD (c.pairs[i]).2 [])):=by
    cases rd with
    | tup h t=>cases t with
     | cons r1 t=>cases t with
      | cons r2 t=>cases t; exact⟨_,_,_,rfl,h,r1,r2⟩
   have hin:=fit.inn c.pairs[i] (Ld4 his);obtain⟨b1,t1,n1,d1,l1,g1,p1,m1,q1,_⟩:=knot_at (T:=ts) hin.1.2;obtain⟨b2,t2,n2,d2,l2,g2,p2,m2,q2,_⟩:=knot_at (T:=us) hin.2.2;have htk:c.pairs.take (i+1)=c.pairs.take i++[c.pairs[i]]:=Lc5 his
   have em:markO (marksL ts) (marksL us) (c.pairs.take (i+1))=markO (marksL ts) (marksL us) (c.pairs.take i)++(if t1.mark=t2.mark then [] else [((c.pairs[i]).1,some t2.mark)]):=by
    rw[htk,markO_app,markO,markO,Lc0,q1,q2,← m2];congr 1
    by_cases e:t1.mark=t2.mark
    ·rw[if_pos e,if_pos (congrArg some e)]
    ·rw[if_neg e,if_neg fun z=>e (Option.some.inj z)]
   refine Y' ?_;clear Y' Z';refine⟨_,SqT.of (x.gh _ _ (x.g _ _ hpa)),rfl,rfl,?_⟩;(try dsimp only[gName]);refine seq_gen fun Rb hnb hrb=>?_;refine⟨G2,u,w2,us,b2,_,t2,rfl,x.gh,ru.mono x.g,rw2.mono x.g,n2,d2,l2,g2,by omega,fun G3 H3 x3=>hnb _ _ ?_⟩;clear hnb hrb Rb;(try dsimp only);refine⟨G3,v,w1,ts,b1,_,t1,rfl,x3.gh,rv.mono (x.g.trans x3.g),rw1.mono (x.g.trans x3.g),n1,d1,l1,g1,by omega,fun G4 H4 x4=>⟨rfl,?_⟩⟩;have x04:=x.trans (x3.trans x4);have hb4:=(x3.trans x4).h _ _ hb2;have nb4:=(x3.trans x4).keep hb2 nb;have rb4:=rb.mono (x3.g.trans x4.g)
   by_cases e:t1.mark=t2.mark
   ·rw[decide_eq_true (congrArg V.str e.symm)];refine iteFB (hR _ _ ⟨G4,bv,_,_,_,rfl,x04,nb4,hb4,?_,by omega⟩);rw[em,if_pos e,Lc0];exact rb4
   ·rw[decide_eq_false fun z=>e (V.str.inj z).symm];refine iteTB ⟨.inl ⟨rfl,_,SqL.of hb4⟩,(by show 3≤sizeLine; decide),fun q5 g5=>?_⟩;have y5:=Ext.add (o:=.tup [V.str (Str.ofString "mark"),w1,V.str t2.mark]) x04.gh g5;have x05:=x04.trans y5;refine⟨bv,y5.h _ _ hb4,by omega,?_⟩;have nb5:=y5.keep hb4 nb4;refine hR _ _ ⟨_,_,_,_,_,rfl,x05.mut nb5 hpb,nb5,upd_same,?_,by rw[La2,Lb2]; omega⟩;rw[em,if_neg e,opsN_app,Lb3];exact (rb4.mono y5.g).append (.cons (.tup upd_same (.cons (.str _) (.cons (rw1.mono (x04.g.trans y5.g)) (.cons (.str _) .nil)))) .nil)
  intro σ H2 hZp;refine fold_goal fun Z' Y'=>?_;obtain⟨G2,bv,z4,z5,z6,rfl,x,nb,hb2,rb,hbl⟩:=hZp;refine Y' ?_;clear Y' Z';rw[hzl,Le9] at rb;refine hna _ _ ?_;clear hna hra Ra;(try dsimp only);exact kq _ _ _ (x.freeze nb hpb hb2) (.lst upd_same (rb.mono (same_upd nb)))
inductive PspCuts(vs:List V)(H:Hp)(Q:VK):Prop
 | mk (G:Hp) (v u:V) (ts:List Tr) (S:List Nat):vs=[v,u]→Same G H→Rep G v (rowD ts)→(Rep G u (.lst ((S.map fun x=>(pps 0 ts).getD x []).map pathD)))→knotsOf ts≤9→((∀ x∈S,x<knotsOf ts))→(∀ (G' H':Hp) (r:V),Ext G H G' H'→Rep G' r (.lst ((cutsN ts S).map Stp.d))→Q r H')→PspCuts  vs H Q
def spCuts:Sp:=fun vs H Q _=>PspCuts  vs H Q
theorem scCuts:FnScope ["row","staying"] ["row","staying"] (defScope sCuts):=scD rfl rfl rfl rfl
theorem nd_cut:(["path","staying"]:List Str).Nodup:=by decide +kernel
theorem ok_cuts{f:Addr}{fd:FuncData}(F:Fun K "cuts_of_others" "cuts_of_others" sCuts f fd)(T:Txt mg)(F_paths:Ok1 P w K mg base 7 "paths" ["row"] spAll):FnOk P w K mg base CX0 9 f fd ["row","staying"] spCuts:=by
 refine F.ok scCuts (fun vs H Q E h=>?_) (fun cdv A outer s H vs Q E hr h=>?_)
 ·obtain⟨G,v,u,ts,S,rfl,_⟩:=h;rfl
 ·refine fold_goal fun Z' Y'=>?_;obtain⟨G,v,u,ts,S,rfl,sm,rv,ru,k1,hS,kq⟩:=h;refine Y' ?_;clear Y' Z'
  refine⟨_,(pss_one (ps_ret (pe_compT (N:=["path","staying"]) (n:=1) (caps:=[1]) (g:=gName 0) (tc:=cTest (tOp cNotInP (cVar 0) (cVar 1))) (te:=tTup (tCons (tC (.str "cut")) (tCons (cVar 0) tNil))) rfl
     (pi_rev rfl T.reversed (pa_cons (pe_fn F_paths (hr.mono (by decide)) rfl (pa_cons (pc 0) pa_nil)) pa_nil)) (capOk_one ["path"] "staying" rfl rfl rfl (by decide +kernel) (by decide +kernel) (by decide +kernel) rfl rfl rfl)
     (fun cl C s2 H2 fp=>pg_name (i:=0) nd_cut rfl (Or.inl rfl) (.inr rfl)) (fun cl C s2 H2 fp=>pt_c (op_notinP hr) (pc 0) (pc 1) rfl) (fun cl C s2 H2 fp=>pe_tup (pa_cons pe_str (pa_cons (pc 0) pa_nil)))))),?_⟩
  (try dsimp only);refine⟨G,v,ts,rfl,sm,rv,by omega,fun G1 H1 r1 ps1 x1 rr1 pm1 ri1=>?_⟩;have e1:=sorted_pps pm1 ri1;subst e1;clear pm1 ri1;refine fold_goal fun Z' Y'=>?_
  obtain⟨oa,ovs,rfl,hoa,ros⟩:∃ oa ovs,r1=.ref oa∧G1 oa=some (.lst ovs)∧Reps G1 ovs ((pps 0 ts).map pathD):=by
   cases rr1 with
   | lst h t=>exact⟨_,_,rfl,h,t⟩
  refine Y' ?_;clear Y' Z' rr1;have hol:=ros.length;rw[La1,pps_length] at hol;have hpl:(pps 0 ts).length=knotsOf ts:=pps_length 0 ts;have ru1:=ru.mono x1.g;refine⟨oa,ovs,rfl,SqL.of (x1.gh _ _ hoa),?_⟩
  refine comp_fillT (J:=Itv K oa ovs.length) ovs.length (fun i=>!decide ((pps 0 ts).reverse.getD i []∈S.map fun x=>(pps 0 ts).getD x [])) (fun i=>(Stp.cut ((pps 0 ts).reverse.getD i [])).d) x1.gh (by omega)
   (fun i H4 hi s4=>⟨hi,ovs,ovs[ovs.length - 1 - i]'(by omega),SqL.of (s4 _ _ (x1.gh _ _ hoa)),rfl,La0 _⟩) (fun H4 s4=>rfl) ?_ ?_
  ·rintro i y H4 H5 hi s4 ⟨rfl,hy⟩;refine⟨rfl,fun G4 xx R R0 kR kN=>?_⟩;have hy:=hy ovs (SqL.of (s4 _ _ (x1.gh _ _ hoa))) rfl;have hlt:knotsOf ts - 1 - i<(pps 0 ts).length:=by omega
   have eg:(pps 0 ts).reverse.getD i []=(pps 0 ts)[knotsOf ts - 1 - i]:=by
    rw[La3,List.getElem?_reverse (by omega),hpl,La0 hlt];rfl
   refine fold_goal fun Z' Y'=>?_;obtain⟨d,hd,rd⟩:=ros.at hy;rw[hol,La6,La0 hlt] at hd;cases hd;refine Y' ?_;clear Y' Z';rw[← eg] at rd;(try dsimp only at kR kN);refine⟨fun j v' hj=>cap_keep1 hj,?_⟩;refine⟨G4,_,S.map fun x=>(pps 0 ts).getD x [],xx.gh,rd.mono xx.g,ru1.mono xx.g,?_⟩
   by_cases hb:(!decide ((pps 0 ts).reverse.getD i []∈S.map fun x=>(pps 0 ts).getD x []))=true
   ·rw[hb];refine iteTB ⟨(by show 2≤sizeLine; decide),fun q g=>?_⟩;have y6:=Ext.add (o:=.tup [V.str (Str.ofString "cut"),y]) xx.gh g;exact kR _ _ _ y6 (.tup upd_same (.cons (.str _) (.cons (rd.mono (xx.g.trans y6.g)) .nil))) hb
   ·have hb:=Bool.eq_false_iff.mpr hb;rw[hb];exact iteFB (kN hb)
  intro G4 H4 l x4 rl
  have el:((List.range ovs.length).filter fun i=>!decide ((pps 0 ts).reverse.getD i []∈S.map fun x=>(pps 0 ts).getD x [])).map (fun i=>(Stp.cut ((pps 0 ts).reverse.getD i [])).d)=(cutsN ts S).map Stp.d:=by
   rw[← cuts_paths ts S hS,Ld7];have e0:=pick_range (pps 0 ts).reverse [];rw[Le7,hpl,← hol] at e0
   conv=>rhs; rw[← e0]
   rw[List.filter_map,Ld7];rfl
  rw[el] at rl;exact kq _ _ _ (x1.trans x4) rl
inductive PspChanges(Pt:Addr)(vs:List V)(H:Hp)(Q:VK):Prop
 | mk (G:Hp) (v u:V) (ts us:List Tr) (ps:Array Value):vs=[v,u]→Same G H→Rep G v (rowD ts)→Rep G u (rowD us)→knotsOf ts≤9→knotsOf us≤9→G Pt=none→H Pt=some (.tbl ps)→TabOk lamQ lamP Pt H ps→(∀ (G' H':Hp) (r:V) (c:Ch) (ps':Array Value),ExtP Pt G H G' H'→G' Pt=none→H' Pt=some (.tbl ps')→TabOk lamQ lamP Pt H' ps'→Rep G' r (.lst ((changesN ts us c).map Stp.d))→Known (marksL ts) (marksL us) (endsL ts) (endsL us) (0,knotsOf ts) (0,knotsOf us) c→Q r H')→PspChanges Pt vs H Q
def spChanges(Pt:Addr):Sp:=fun vs H Q _=>PspChanges Pt vs H Q
theorem scChanges:FnScope ["row","other","pairs","cuts","other_cuts"] ["row","other"] (defScope sChanges):=scD rfl rfl rfl rfl
theorem nd_po:(["path","opposite"]:List Str).Nodup:=by decide +kernel
theorem fill_side{ra:Addr}{rvs:List V}{σ:L2.St}{G H:Hp}{Q:VK}{ts us:List Tr}{ps:List (Nat×Nat)}(j:Nat)(f:Nat×Nat→List Int)(sm:Same G H)(h:G ra=some (.lst rvs))(rr:Reps G rvs (ps.map (ppD ts us)))(hl:ps.length≤1000)
  (hf:∀ p∈ps,∀ (w1 w2:V) (G2:Hp),Rep G2 w1 (pathD ((pps 0 ts).getD p.1 []))→Rep G2 w2 (pathD ((pps 0 us).getD p.2 []))→∃ y,([some w1,some w2]:L2.St)[j]?=some (some y)∧Rep G2 y (pathD (f p)))
  (k:∀ (G' H':Hp) (l:Addr),Ext G H G' H'→Rep G' (.ref l) (.lst ((ps.map f).map pathD))→Q (.ref l) H'):tFillC (cTup K 2 (cCons (gName 0) (cCons (gName 1) gNil))) (cVar j) 2 [] (Itl K ra) σ H Q:=by
 have hrl:=rr.length;rw[La1] at hrl
 refine comp_fill (J:=Itl K ra) ps.length (fun i=>pathD (f (ps.getD i (0,0)))) sm hl
  (fun i H4 hi s4=>⟨rvs,rvs[i]'(by omega),SqL.of (s4 _ _ (sm _ _ h)),La0 _⟩) (fun H4 s4=>⟨rvs,SqL.of (s4 _ _ (sm _ _ h)),by omega⟩) ?_ ?_
 ·rintro i y H4 H5 hi s4 ⟨rfl,hy⟩;refine⟨rfl,fun G4 xx R kR=>?_⟩;have hy:=hy rvs (SqL.of (s4 _ _ (sm _ _ h)));obtain⟨d,hd,rd⟩:=rr.at hy;rw[La6,La0 hi] at hd;cases hd;have eg:ps.getD i (0,0)=ps[i]:=by rw[La3,La0 hi]; rfl
  rw[eg] at kR
  cases rd with
  | @tup pa _ _ hp t=>cases t with
   | @cons w1 _ _ _ r1 t=>cases t with
    | @cons w2 _ _ _ r2 t =>
     cases t;obtain⟨y,e,ry⟩:=hf ps[i] (Ld4 hi) w1 w2 G4 (r1.mono xx.g) (r2.mono xx.g);refine⟨_,SqT.of (xx.gh _ _ (xx.g _ _ hp)),rfl,rfl,fun j v' hj=>cap_none2 hj,?_⟩;exact var_in e (kR _ _ _ (Ext.refl xx.gh) ry)
 ·intro G4 H4 l x4 rl
  have el:(List.range ps.length).map (fun i=>pathD (f (ps.getD i (0,0))))=(ps.map f).map pathD:=by
   have:=congrArg (List.map (fun p=>pathD (f p))) (pick_range ps (0,0));rw[Ld7] at this;rw[Ld7];exact this
  rw[el] at rl;exact k _ _ _ x4 rl
theorem ok_changes{Pt:Addr}{f:Addr}{fd:FuncData}(F:Fun K "changes" "changes" sChanges f fd)(F_matched:Ok1 P w K mg base 17 "matched" ["row","other"] (spMatched Pt))(F_cuts:Ok1 P w K mg base 9 "cuts_of_others" ["row","staying"] spCuts)
  (F_marks:Ok1 P w K mg base 11 "marks_changed" ["row","other","pairs"] spMarks) (F_turned:Ok1 P w K mg base 13 "turned" ["row","steps"] spTurned):FnOk P w K mg base CX0 19 f fd ["row","other"] (spChanges Pt):=by
 refine F.ok scChanges (fun vs H Q E h=>?_) (fun cdv A outer s H vs Q E hr h=>?_)
 ·obtain⟨G,v,u,ts,us,ps,rfl,_⟩:=h;rfl
 ·refine fold_goal fun Z' Y'=>?_;obtain⟨G,v,u,ts,us,ps,rfl,sm,rv,ru,k1,k2,nPt,hPt,htab,kq⟩:=h;refine Y' ?_;clear Y' Z';have nd:=scChanges.nd;have big:=line_big
  refine⟨_,(pss_cons (ps_set (i:=2) nd rfl (Or.inl rfl) (pe_fn F_matched (hr.mono (by decide)) rfl (pa_cons (pc 0) (pa_cons (pc 1) pa_nil))))
   (pss_cons (ps_set (i:=3) nd rfl (Or.inl rfl) (pe_fn F_cuts (hr.mono (by decide)) rfl (pa_cons (pc 0) (pa_cons (pe_compC (N:=["path","opposite"]) (n:=2) (caps:=[]) (g:=cTup K 2 (cCons (gName 0) (cCons (gName 1) gNil))) (te:=cVar 0) rfl (pi_list (pc 2)) (capOk_nil rfl rfl (by decide +kernel) (by decide +kernel) (by decide +kernel))
     (fun cl C s2 H2 fp=>gc_tup rfl (gcs_cons (pg_name (i:=0) nd_po rfl (Or.inl rfl) (.inr rfl)) (gcs_cons (pg_name (i:=1) nd_po rfl (Or.inl rfl) (.inr rfl)) pgs_nil))) (fun cl C s2 H2 fp=>pc 0)) pa_nil))))
   (pss_cons (ps_set (i:=4) nd rfl (Or.inl rfl) (pe_fn F_cuts (hr.mono (by decide)) rfl (pa_cons (pc 1) (pa_cons (pe_compC (N:=["path","opposite"]) (n:=2) (caps:=[]) (g:=cTup K 2 (cCons (gName 0) (cCons (gName 1) gNil))) (te:=cVar 1) rfl (pi_list (pc 2)) (capOk_nil rfl rfl (by decide +kernel) (by decide +kernel) (by decide +kernel))
     (fun cl C s2 H2 fp=>gc_tup rfl (gcs_cons (pg_name (i:=0) nd_po rfl (Or.inl rfl) (.inr rfl)) (gcs_cons (pg_name (i:=1) nd_po rfl (Or.inl rfl) (.inr rfl)) pgs_nil))) (fun cl C s2 H2 fp=>pc 1)) pa_nil))))
   (pss_one (ps_ret (pe_op oc_cat (pe_op oc_cat (pe_fn F_marks (hr.mono (by decide)) rfl (pa_cons (pc 0) (pa_cons (pc 1) (pa_cons (pc 2) pa_nil)))) (pc 3)) (pe_fn F_turned (hr.mono (by decide)) rfl (pa_cons (pc 1) (pa_cons (pc 4) pa_nil))))))))),?_⟩
  (try dsimp only);refine seq_gen fun Ra hna hra=>?_;refine⟨G,v,u,ts,us,ps,rfl,sm,rv,ru,k1,k2,nPt,hPt,htab,fun G1 H1 r1 c ps1 x1 nP1 hP1 ht1 rc hK=>hna _ _ ?_⟩;clear hna hra Ra;have fit:=hK.1.fits (at_whole ts) (at_whole us);have hl1:c.pairs.length+(0+0)≤knotsOf ts+knotsOf us:=fit.len;have cl1:=cuts_length1 fit;have cl2:=cuts_length2 fit;have cl3:=marks_length (T:=ts) (U:=us) (c:=c);have cl4:=difs_le (marksL ts) (marksL us) c.pairs;have rv:=rv.mono x1.g;have ru:=ru.mono x1.g;refine fold_goal fun Z' Y'=>?_
  obtain⟨ra,rvs,rfl,hra,rrs⟩:∃ ra rvs,r1=.ref ra∧G1 ra=some (.lst rvs)∧Reps G1 rvs (c.pairs.map (ppD ts us)):=by
   cases rc with
   | lst h t=>exact⟨_,_,rfl,h,t⟩
  obtain⟨M,_,hM⟩:=lead_mid hK.1;have hbk:=backs_length _ _ _ hM;refine Y' ?_;clear Y' Z';(try dsimp only);refine seq_gen fun Ra hna hra'=>?_;refine⟨ra,rfl,⟨_,SqL.of (x1.gh _ _ hra)⟩,?_⟩;refine fill_side 0 (fun p=>(pps 0 ts).getD p.1 []) x1.gh hra rrs (by omega) (fun p _ w1 w2 G2 r1 _=>⟨w1,rfl,r1⟩) fun G2 H2 l2 x2 rl2=>?_;refine⟨G2,v,_,ts,firsts c,rfl,x2.gh,rv.mono x2.g,by have e:(firsts c).map (fun x=>(pps 0 ts).getD x [])=c.pairs.map (fun p=>(pps 0 ts).getD p.1 []):=Ld7; rw[e]; exact rl2,k1,fun x hx=>?_,fun G3 H3 r3 x3 rr3=>hna _ _ ?_⟩
  ·obtain⟨p,hp,rfl⟩:=Lc3.mp hx;exact (fit.inn p hp).1.2
  clear hna hra' Ra;have y3:=x2.trans x3;(try dsimp only);refine seq_gen fun Ra hna hra'=>?_;refine⟨ra,rfl,⟨_,SqL.of (y3.gh _ _ (y3.g _ _ hra))⟩,?_⟩;refine fill_side 1 (fun p=>(pps 0 us).getD p.2 []) y3.gh (y3.g _ _ hra) (rrs.mono y3.g) (by omega) (fun p _ w1 w2 G2 _ r2=>⟨w2,rfl,r2⟩) fun G4 H4 l4 x4 rl4=>?_;refine⟨G4,u,_,us,seconds c,rfl,x4.gh,ru.mono (y3.g.trans x4.g),by have e:(seconds c).map (fun x=>(pps 0 us).getD x [])=c.pairs.map (fun p=>(pps 0 us).getD p.2 []):=Ld7; rw[e]; exact rl4,k2,fun x hx=>?_,fun G5 H5 r5 x5 rr5=>hna _ _ ?_⟩
  ·obtain⟨p,hp,rfl⟩:=Lc3.mp hx;exact (fit.inn p hp).2.2
  clear hna hra' Ra;have y5:=x4.trans x5;have y15:=y3.trans y5;have rr3:=rr3.mono y5.g;clear x2 x3 x4 x5 rl2 rl4 y3;(try dsimp only);refine⟨G5,v,u,_,ts,us,c,rfl,y15.gh,rv.mono y15.g,ru.mono y15.g,.lst (y15.g _ _ hra) (rrs.mono y15.g),k1,k2,fit,fun G6 H6 r6 x6 rr6=>?_⟩;have x16:=y15.trans x6;have rr3:=rr3.mono x6.g;have rr5:=rr5.mono x6.g;refine fold_goal fun Z' Y'=>?_
  obtain⟨ma,mvs,rfl,hma,rms⟩:∃ ma mvs,r6=.ref ma∧G6 ma=some (.lst mvs)∧Reps G6 mvs ((marksN ts us c).map Stp.d):=by
   cases rr6 with
   | lst h t=>exact⟨_,_,rfl,h,t⟩
  obtain⟨ca,cvs,rfl,hca,rcs⟩:∃ ca cvs,r3=.ref ca∧G6 ca=some (.lst cvs)∧Reps G6 cvs ((cutsN ts (firsts c)).map Stp.d):=by
   cases rr3 with
   | lst h t=>exact⟨_,_,rfl,h,t⟩
  refine Y' ?_;clear Y' Z' rr6 rr3;have hml:=rms.length;have hcl:=rcs.length;rw[La1] at hml hcl;refine⟨mvs,cvs,x6.gh _ _ hma,x6.gh _ _ hca,by omega,fun q7 g7=>?_⟩;have y7:=Ext.add (o:=.lst (mvs++cvs)) x6.gh g7;have x17:=x16.trans y7;refine⟨_,u,_,us,M,cutsN us (seconds c),rfl,y7.gh,ru.mono x17.g,rr5.mono y7.g,cuts_fit _ (by omega),by omega,hM,fun G8 H8 r8 x8 rr8=>?_⟩;refine fold_goal fun Z' Y'=>?_
  obtain⟨ba,bvs,rfl,hba,rbs⟩:∃ ba bvs,r8=.ref ba∧G8 ba=some (.lst bvs)∧Reps G8 bvs ((backsS (cutsN us (seconds c)) us).reverse.map Stp.d):=by
   cases rr8 with
   | lst h t=>exact⟨_,_,rfl,h,t⟩
  refine Y' ?_;clear Y' Z' rr8;have hbl:=rbs.length;rw[La1,Le7,hbk] at hbl;refine⟨mvs++cvs,bvs,x8.h _ _ upd_same,x8.gh _ _ hba,by rw[La2]; omega,fun q9 g9=>?_⟩;have y9:=Ext.add (o:=.lst (mvs++cvs++bvs)) x8.gh g9;have x19:=x17.trans (x8.trans y9);refine kq _ _ _ c ps1 (x1.trans (ExtP.of x19)) (x19.keep hP1 nP1) (x19.h _ _ hP1) (ht1.mono fun b o _ e=>x19.h b o e) (.lst upd_same ?_) hK;unfold changesN;rw[Lb3,Lb3];exact (((rms.append rcs).mono (y7.g.trans (x8.g.trans y9.g))).append (rbs.mono y9.g))
theorem changes_fit{T U:List Tr}{c:Ch}(hp:Plan (marksL T) (marksL U) (endsL T) (endsL U) (0,knotsOf T) (0,knotsOf U) c)(hT:knotsOf T≤9)(hU:knotsOf U≤9):∀ st∈changesN T U c,st.Fit:=fun st hst=>by
 have f:=hp.fits (at_whole T) (at_whole U);have cl:=cuts_length2 f;obtain⟨M,_,hM⟩:=lead_mid hp
 rcases Lb9.mp hst with h | h
 ·rcases Lb9.mp h with h | h
  ·exact marks_fit f (by omega) st h
  ·exact cuts_fit _ (by omega) st h
 ·exact backs_fit _ _ _ hM (cuts_fit _ (by omega)) (by omega) st (Li3.mp h)
inductive PspLaw(K:PySem.W.Frag)(Pt:Addr)(vs:List V)(H:Hp)(Q:VK):Prop
 | mk (a:Addr) (ns:List Int):vs=[.ref a]→SqL K H a (ns.map V.int)→ns.length≤63→H Pt=some (.tbl #[])→(∀ H',Q (.bl true) H')→PspLaw K Pt vs H Q
def spLaw(K:PySem.W.Frag)(Pt:Addr):Sp:=fun vs H Q _=>PspLaw K Pt vs H Q
theorem scLaw:FnScope ["_law_script","_law_one","_law_other","_law_due","_law_pair","_law_found","_law_steps","_law_more","_law_again","_law_row"] ["_law_script"] (defScope sLaw):=scD rfl rfl rfl rfl
inductive PairInv(Pt:Addr)(G H:Hp)(pre:L2.St)(σ:L2.St)(H2:Hp):Prop
 | mk (G2:Hp) (ps:Array Value) (z4 z5:Option V):σ=pre++[z4,z5,none,none,none,none]→ExtP Pt G H G2 H2→G2 Pt=none→H2 Pt=some (.tbl ps)→TabOk lamQ lamP Pt H2 ps→PairInv Pt G H pre σ H2
inductive RowInv(H:Hp)(pre:L2.St)(σ:L2.St)(H2:Hp):Prop
 | mk (z9:Option V):σ=pre++[z9]→Same H H2→RowInv H pre σ H2
theorem two_at{x y z:V}{i:Nat}(h:([x,y]:List V)[i]?=some z):z=x∨z=y:=by
 match i,h with
 | 0,h=>exact .inl (Option.some.inj h).symm
 | 1,h=>exact .inr (Option.some.inj h).symm
 | i+2,h=>simp at h
theorem ok_law{Pt:Addr}{f:Addr}{fd:FuncData}(F:Fun K "law" "law" sLaw f fd)(T:Txt mg)(F_two:Ok1 P w K mg base 11 "_law_two_rows" ["_law_script","_law_many","_law_more"] (spTwo K))(F_room:Ok1 P w K mg base 3 "_law_room" ["_law_script","_law_most","_law_bound"] (spRoom K))
  (F_cost:Ok1 P w K mg base 15 "cost" ["row","other"] (spCost Pt)) (F_whole:Ok1 P w K mg base 3 "_law_whole" ["_law_found"] spWholeI) (F_changes:Ok1 P w K mg base 19 "changes" ["row","other"] (spChanges Pt)) (F_turned:Ok1 P w K mg base 13 "turned" ["row","steps"] spTurned) (F_are:Ok1 P w K mg base 5 "_law_are_steps" ["_law_found"] spAre)
  (F_walked:Ok1 P w K mg base 7 "_law_walked" ["_law_row","_law_steps"] spWalked) (F_least:Ok1 P w K mg base 7 "_law_least" ["_law_one","_law_other"] spLeast):FnOk P w K mg base CX0 21 f fd ["_law_script"] (spLaw K Pt):=by
 refine F.ok scLaw (fun vs H Q E h=>?_) (fun cdv A outer s H vs Q E hr h=>?_)
 ·obtain⟨a,ns,rfl,_⟩:=h;rfl
 ·refine fold_goal fun Z' Y'=>?_;obtain⟨a,ns,rfl,hS,hlen,hPt,k⟩:=h;refine Y' ?_;clear Y' Z';have nd:=scLaw.nd;have big:=line_big
  refine⟨_,(pss_cons (ps_asg (pe_fn F_two (hr.mono (by decide)) rfl (pa_cons (pc 0) (pa_cons (pe_fn F_room (hr.mono (by decide)) rfl (pa_cons (pc 0) (pa_cons pe_int (pa_cons pe_int pa_nil)))) (pa_cons (pe_fn F_room (hr.mono (by decide)) rfl (pa_cons (pc 0) (pa_cons pe_int (pa_cons pe_int pa_nil)))) pa_nil)))) (gc_tup rfl (gcs_cons (pg_name (i:=1) nd rfl (Or.inl rfl)) (gcs_cons (pg_name (i:=2) nd rfl (Or.inl rfl)) pgs_nil))))
   (pss_cons (ps_set (i:=3) nd rfl (Or.inl rfl) (pe_fn F_least (hr.mono (by decide)) rfl (pa_cons (pc 1) (pa_cons (pc 2) pa_nil))))
   (pss_cons (ps_for PassesOwn.never rfl (pi_list (pe_lst (pa_cons (pe_tup (pa_cons (pc 1) (pa_cons (pc 2) pa_nil))) (pa_cons (pe_tup (pa_cons (pc 2) (pa_cons (pc 1) pa_nil))) pa_nil)))) (pg_name (i:=4) nd rfl (Or.inl rfl))
    (pss_cons (ps_set (i:=5) nd rfl (Or.inl rfl) (pe_fn F_cost (hr.mono (by decide)) rfl (pa_cons (pe_callTy cc_list rfl T.list bt_list (pa_cons (pe_ix xc_tup (pc 4) pe_int (fun _ _=>rfl)) pa_nil)) (pa_cons (pe_callTy cc_list rfl T.list bt_list (pa_cons (pe_ix xc_tup (pc 4) pe_int (fun _ _=>rfl)) pa_nil)) pa_nil))))
    (pss_one (ps_if (PW.pt (pw_or (pt_not (pt_val (pe_fn F_whole (hr.mono (by decide)) rfl (pa_cons (pc 5) pa_nil)))) (pw_or1 (pt_c op_ne (pc 5) (pc 3) (nomark _)))))
     (pss_one (ps_ret pe_bl))
     pss_nil))))
   (pss_cons (ps_set (i:=6) nd rfl (Or.inl rfl) (pe_fn F_changes (hr.mono (by decide)) rfl (pa_cons (pe_callTy cc_list rfl T.list bt_list (pa_cons (pc 1) pa_nil)) (pa_cons (pe_callTy cc_list rfl T.list bt_list (pa_cons (pc 2) pa_nil)) pa_nil))))
   (pss_cons (ps_if (PW.pt (pw_or (pt_not (pt_val (pe_fn F_are (hr.mono (by decide)) rfl (pa_cons (pc 6) pa_nil)))) (pw_or1 (pt_c (op_neRow hr) (pe_fn F_walked (hr.mono (by decide)) rfl (pa_cons (pc 1) (pa_cons (pc 6) pa_nil))) (pc 2) (nomark _)))))
    (pss_one (ps_ret pe_bl))
    pss_nil)
   (pss_cons (ps_set (i:=7) nd rfl (Or.inl rfl) (pe_fn F_turned (hr.mono (by decide)) rfl (pa_cons (pe_callTy cc_list rfl T.list bt_list (pa_cons (pc 1) pa_nil)) (pa_cons (pe_callTy cc_list rfl T.list bt_list (pa_cons (pc 6) pa_nil)) pa_nil))))
   (pss_cons (ps_set (i:=8) nd rfl (Or.inl rfl) (pe_fn F_changes (hr.mono (by decide)) rfl (pa_cons (pe_callTy cc_list rfl T.list bt_list (pa_cons (pc 2) pa_nil)) (pa_cons (pe_callTy cc_list rfl T.list bt_list (pa_cons (pc 1) pa_nil)) pa_nil))))
   (pss_cons (ps_for PassesOwn.never rfl (pi_list (pe_lst (pa_cons (pc 7) (pa_cons (pc 8) pa_nil)))) (pg_name (i:=9) nd rfl (Or.inl rfl))
    (pss_cons (ps_if (PW.pt (pw_or (pt_not (pt_val (pe_fn F_are (hr.mono (by decide)) rfl (pa_cons (pc 9) pa_nil)))) (pw_or1 (pt_c op_ne (pe_callB cc_len rfl T.len bt_len (pa_cons (pc 9) pa_nil)) (pc 3) (nomark _)))))
     (pss_one (ps_ret pe_bl))
     pss_nil)
    (pss_one (ps_if (pt_c (op_neRow hr) (pe_fn F_walked (hr.mono (by decide)) rfl (pa_cons (pc 2) (pa_cons (pc 9) pa_nil))) (pc 1) (nomark _))
     (pss_one (ps_ret pe_bl))
     pss_nil))))
   (pss_one (ps_ret pe_bl)))))))))),?_⟩
  have n0:=noP_same Pt H;have nP0:=noP_at Pt H;have hl63:(ns.map V.int).length≤63:=by rw[La1]; exact hlen
  (try dsimp only);refine seq_gen fun Ra hna hra=>?_;refine⟨a,_,4,9,rfl,hS,hl63,a,_,4,9,rfl,hS,hl63,noP Pt H,a,ns,rfl,n0,hS,hlen,fun G2 H2 rt ts us x2 rrt kts kus=>?_⟩;refine fold_goal fun Z' Y'=>?_
  obtain⟨ta,r1,r2,rfl,hta,rr1,rr2⟩:∃ ta r1 r2,rt=.ref ta∧G2 ta=some (.tup [r1,r2])∧Rep G2 r1 (rowD ts)∧Rep G2 r2 (rowD us):=by
   cases rrt with
   | tup h t=>cases t with
    | cons r t=>cases t with
     | cons r' t=>cases t; exact⟨_,_,_,rfl,h,r,r'⟩
  obtain⟨ra,rvs,rfl,hra1,rts⟩:=rr1.row;obtain⟨la,lvs,rfl,hla1,rls⟩:=rr2.row;refine Y' ?_;clear Y' Z' rrt;refine⟨[.ref ra,.ref la],SqT.of (x2.gh _ _ hta),rfl,rfl,hna _ _ ?_⟩;clear hna hra Ra hta;(try dsimp only);refine seq_gen fun Ra hna hra=>?_;refine⟨G2,.ref ra,.ref la,ts,us,rfl,x2.gh,rr1,rr2,kts,kus,fun n H3 hL s3=>hna _ _ ?_⟩;clear hna hra Ra;have x3:Ext (noP Pt H) H G2 H3:=⟨x2.g,x2.gh.trans s3,x2.h.trans s3,x2.new⟩;clear x2 s3;(try dsimp only);refine seq_gen fun Ra hna hra=>?_;refine⟨(by show 2≤sizeLine; decide),fun p1 g1=>⟨(by show 2≤sizeLine; decide),fun p2 g2=>⟨(by show 2≤sizeLine; decide),fun p3 g3=>?_⟩⟩⟩;have y1:=Ext.add (o:=.tup [.ref ra,.ref la]) x3.gh g1;have y2:=Ext.add (o:=.tup [.ref la,.ref ra]) y1.gh g2;have y3:=Ext.add (o:=.lst [.ref p1,.ref p2]) y2.gh g3;have y13:=y1.trans (y2.trans y3);have x6:=x3.trans y13;have h1:upd (upd (upd G2 p1 (.tup [.ref ra,.ref la])) p2 (.tup [.ref la,.ref ra])) p3 (.lst [.ref p1,.ref p2]) p1=some (.tup [.ref ra,.ref la]):=y3.g _ _ (y2.g _ _ upd_same);have h2:upd (upd (upd G2 p1 (.tup [.ref ra,.ref la])) p2 (.tup [.ref la,.ref ra])) p3 (.lst [.ref p1,.ref p2]) p2=some (.tup [.ref la,.ref ra]):=y3.g _ _ upd_same;have h3:upd (upd (upd G2 p1 (.tup [.ref ra,.ref la])) p2 (.tup [.ref la,.ref ra])) p3 (.lst [.ref p1,.ref p2]) p3=some (.lst [.ref p1,.ref p2]):=upd_same;have hra1:=y13.g _ _ hra1;have hla1:=y13.g _ _ hla1;have rts:=rts.mono y13.g;have rls:=rls.mono y13.g;clear y1 y2 y3 y13 x3 rr1 rr2;generalize upd (upd (upd G2 p1 (.tup [.ref ra,.ref la])) p2 (.tup [.ref la,.ref ra])) p3 (.lst [.ref p1,.ref p2])=G6 at *;generalize upd (upd (upd H3 p1 (.tup [.ref ra,.ref la])) p2 (.tup [.ref la,.ref ra])) p3 (.lst [.ref p1,.ref p2])=H6 at *;have s6:=x6.gh;have hP6:=x6.h _ _ hPt;have nP6:=x6.keep hPt nP0;clear x6 hS hPt n0 nP0;have rr1:Rep G6 (.ref ra) (rowD ts):=.lst hra1 rts;have rr2:Rep G6 (.ref la) (rowD us):=.lst hla1 rls;refine⟨p3,rfl,⟨_,SqL.of (s6 _ _ h3)⟩,for_listG (K:=K) (a:=p3) (xs:=[.ref p1,.ref p2]) (fun _=>PairInv Pt G6 H6 [some (.ref a),some (.ref ra),some (.ref la),some (.int (n:Nat))]) ⟨G6,#[],none,none,rfl,⟨Same.refl _,s6,fun _ _ _ e=>e,fun _ _ _ _=>rfl⟩,nP6,hP6,.inl rfl⟩ ?_ ?_ ?_⟩
  ·intro i σ H7 _ hZq;obtain⟨G7,ps,z4,z5,rfl,x,_⟩:=hZq;exact SqL.of (x.gh _ _ (x.g _ _ h3))
  ·intro i y σ H7 hy hZp R hR hRr;refine fold_goal fun Z' Y'=>?_;obtain⟨G7,ps,z4,z5,rfl,x7,nP7,hP7,ht7⟩:=hZp
   obtain⟨pa,va,ua,xa,xb,As,Bs,rfl,hpa,hva,hua,rA,rB,kA,kB,hLe⟩:∃ (pa va ua:Addr) (xa xb:List V) (As Bs:List Tr),y=.ref pa∧G7 pa=some (.tup [.ref va,.ref ua])∧G7 va=some (.lst xa)∧G7 ua=some (.lst xb)∧Reps G7 xa (As.map Tr.d)∧Reps G7 xb (Bs.map Tr.d)∧knotsOf As≤5∧knotsOf Bs≤5∧Least As Bs n:=by
    rcases two_at hy with rfl | rfl
    ·exact⟨p1,ra,la,rvs,lvs,ts,us,rfl,x7.g _ _ h1,x7.g _ _ hra1,x7.g _ _ hla1,rts.mono x7.g,rls.mono x7.g,kts,kus,hL⟩
    ·exact⟨p2,la,ra,lvs,rvs,us,ts,rfl,x7.g _ _ h2,x7.g _ _ hla1,x7.g _ _ hra1,rls.mono x7.g,rts.mono x7.g,kus,kts,hL.sym⟩
   refine Y' ?_;clear Y' Z';(try dsimp only[gName]);refine seq_gen fun Rb hnb hrb=>?_;refine⟨_,_,SqT.of (x7.gh _ _ hpa),rfl,xa,.inl (SqL.of (x7.gh _ _ hva)),fun q1 e1=>?_⟩;have y1:=Ext.add (o:=.lst xa) x7.gh e1;refine⟨_,_,SqT.of (y1.gh _ _ (y1.g _ _ hpa)),rfl,xb,.inl (SqL.of (y1.gh _ _ (y1.g _ _ hua))),fun q2 e2=>?_⟩;have y2:=Ext.add (o:=.lst xb) y1.gh e2;have y12:=y1.trans y2;refine⟨_,.ref q1,.ref q2,As,Bs,ps,rfl,y2.gh,.lst (y2.g _ _ upd_same) (rA.mono y12.g),.lst upd_same (rB.mono y12.g),by omega,by omega,y12.keep hP7 nP7,y12.h _ _ hP7,ht7.mono (fun b o _ e=>y12.h b o e),fun G8 H8 m ps8 x8 nP8 hP8 ht8 hLm=>hnb _ _ ?_⟩;clear hnb hrb Rb;have e:=hLm.one hLe;subst e;(try dsimp only);refine⟨(m:Int),rfl,_,rfl,iteF ⟨rfl,?_⟩⟩;rw[decide_eq_true rfl];exact iteFB (hR _ _ ⟨G8,ps8,_,_,rfl,x7.trans ((ExtP.of y12).trans x8),nP8,hP8,ht8⟩)
  intro σ H7 hZp;refine fold_goal fun Z' Y'=>?_;obtain⟨G7,ps,z4,z5,rfl,x7,nP7,hP7,ht7⟩:=hZp;refine Y' ?_;clear Y' Z';have rr1:=rr1.mono x7.g;have rr2:=rr2.mono x7.g;have hra1:=x7.g _ _ hra1;have hla1:=x7.g _ _ hla1;have rts:=rts.mono x7.g;have rls:=rls.mono x7.g;have s7:=x7.gh;clear x7 s6 nP6 hP6 h1 h2 h3;refine hna _ _ ?_;clear hna hra Ra;(try dsimp only);refine seq_gen fun Ra hna hra=>?_;refine⟨rvs,.inl (SqL.of (s7 _ _ hra1)),fun q1 e1=>?_⟩;have y1:=Ext.add (o:=.lst rvs) s7 e1;refine⟨lvs,.inl (SqL.of (y1.gh _ _ (y1.g _ _ hla1))),fun q2 e2=>?_⟩;have y2:=Ext.add (o:=.lst lvs) y1.gh e2;have y12:=y1.trans y2;refine⟨_,.ref q1,.ref q2,ts,us,ps,rfl,y2.gh,.lst (y2.g _ _ upd_same) (rts.mono y12.g),.lst upd_same (rls.mono y12.g),by omega,by omega,y12.keep hP7 nP7,y12.h _ _ hP7,ht7.mono (fun b o _ e=>y12.h b o e),fun G8 H8 rs c ps8 x8 nP8 hP8 ht8 rrs hK=>hna _ _ ?_⟩;clear hna hra Ra;have g8:=y12.g.trans x8.g;have rr1:=rr1.mono g8;have rr2:=rr2.mono g8;have hra1:=g8 _ _ hra1;have hla1:=g8 _ _ hla1;have rts:=rts.mono g8;have rls:=rls.mono g8;have s8:=x8.gh;clear x8 y1 y2 y12 g8 s7 nP7 hP7 ht7;have hrun:=changes_lead hK.1;have hmany:=changes_many hK.1;have hfit:=changes_fit hK.1 (by omega) (by omega);have hcn:c.n=n:=(hK.2 ts us (at_whole ts) (at_whole us)).one hL
  have hn10:n≤10:=by
   have h1:Ed ts us (knotsOf ts+knotsOf us):=((Ed.ofNil _ ts (La4 _)).sym).app (Ed.ofNil _ us (La4 _)) |> fun z=>by simpa using z
   have:=hL.2 _ h1;omega
  have hback:=runS_back _ _ _ hrun;have hbl:=backs_length _ _ _ hrun;have hbfit:=backs_fit _ _ _ hrun hfit (by omega);refine fold_goal fun Z' Y'=>?_
  obtain⟨sa,svs,rfl,hsa,rss⟩:∃ sa svs,rs=.ref sa∧G8 sa=some (.lst svs)∧Reps G8 svs ((changesN ts us c).map Stp.d):=by
   cases rrs with
   | lst h t=>exact⟨_,_,rfl,h,t⟩
  refine Y' ?_;clear Y' Z';(try dsimp only);refine seq_gen fun Ra hna hra=>?_;refine⟨G8,_,_,rfl,s8,rrs,fun H9 s9=>⟨_,rfl,iteF ?_⟩⟩;have x9:Ext G8 H8 G8 H9:=⟨Same.refl _,s8.trans s9,s9,fun _ _ _=>rfl⟩;refine⟨G8,_,_,ts,changesN ts us c,rfl,x9.gh,rr1,rrs,hfit,by omega,by rw[hrun]; rfl,fun cs hcs G10 H10 r10 x10 rr10=>?_⟩;rw[hrun] at hcs;cases hcs;refine⟨G10,us,us,x10.gh,rr10,rr2.mono x10.g,by omega,fun _=>iteFB (hna _ _ ?_),fun z=>absurd rfl z⟩;clear hna hra Ra;have x10:=x9.trans x10;clear x9 s9 rr10;(try dsimp only);refine seq_gen fun Ra hna hra=>?_;refine⟨rvs,.inl (SqL.of (x10.gh _ _ (x10.g _ _ hra1))),fun q1 e1=>?_⟩;have y1:=Ext.add (o:=.lst rvs) x10.gh e1;refine⟨svs,.inl (SqL.of (y1.gh _ _ (y1.g _ _ (x10.g _ _ hsa)))),fun q2 e2=>?_⟩;have y2:=Ext.add (o:=.lst svs) y1.gh e2;have y12:=x10.trans (y1.trans y2);refine⟨_,.ref q1,.ref q2,ts,us,changesN ts us c,rfl,y2.gh,.lst (y2.g _ _ upd_same) (rts.mono y12.g),.lst upd_same (rss.mono y12.g),hfit,by omega,hrun,fun G11 H11 rm x11 rrm=>hna _ _ ?_⟩;clear hna hra Ra;have x11:=y12.trans x11;clear y1 y2 y12 x10;have nP11:=x11.keep hP8 nP8;have hP11:=x11.h _ _ hP8;have ht11:=ht8.mono (fun b o _ e=>x11.h b o e);have rr1:=rr1.mono x11.g;have rr2:=rr2.mono x11.g;have hra1:=x11.g _ _ hra1;have hla1:=x11.g _ _ hla1;have rts:=rts.mono x11.g;have rls:=rls.mono x11.g;have s11:=x11.gh;clear x11 nP8 hP8 ht8 s8 hsa rss rrs;(try dsimp only);refine seq_gen fun Ra hna hra=>?_;refine⟨lvs,.inl (SqL.of (s11 _ _ hla1)),fun q1 e1=>?_⟩;have y1:=Ext.add (o:=.lst lvs) s11 e1;refine⟨rvs,.inl (SqL.of (y1.gh _ _ (y1.g _ _ hra1))),fun q2 e2=>?_⟩;have y2:=Ext.add (o:=.lst rvs) y1.gh e2;have y12:=y1.trans y2;refine⟨_,.ref q1,.ref q2,us,ts,ps8,rfl,y2.gh,.lst (y2.g _ _ upd_same) (rls.mono y12.g),.lst upd_same (rts.mono y12.g),by omega,by omega,y12.keep hP11 nP11,y12.h _ _ hP11,ht11.mono (fun b o _ e=>y12.h b o e),fun G12 H12 rg d ps12 x12 _ _ _ rrg hK2=>hna _ _ ?_⟩;clear hna hra Ra;have g12:=y12.g.trans x12.g;have rr1:=rr1.mono g12;have rr2:=rr2.mono g12;have rrm:=rrm.mono g12;have s12:=x12.gh;clear x12 y1 y2 y12 g12 s11 nP11 hP11 ht11 rts rls hra1 hla1;have hdn:d.n=n:=(hK2.2 us ts (at_whole us) (at_whole ts)).one hL.sym;(try dsimp only);refine seq_gen fun Ra hna hra=>?_;refine⟨(by show 2≤sizeLine; decide),fun p4 g4=>?_⟩;have y4:=Ext.add (o:=.lst [rm,rg]) s12 g4;refine⟨p4,rfl,⟨_,SqL.of (y4.gh _ _ upd_same)⟩,for_listG (K:=K) (a:=p4) (xs:=[rm,rg]) (fun _=>RowInv (upd H12 p4 (.lst [rm,rg])) [some (.ref a),some (.ref ra),some (.ref la),some (.int (n:Nat)),z4,z5,some (.ref sa),some rm,some rg]) ⟨none,rfl,Same.refl _⟩ ?_ ?_ ?_⟩
  ·intro i σ H13 _ hZq;obtain⟨z9,rfl,s13⟩:=hZq;exact SqL.of (s13 _ _ upd_same)
  ·intro i y σ H13 hy hZp R hR hRr;refine fold_goal fun Z' Y'=>?_;obtain⟨z9,rfl,s13⟩:=hZp
   obtain⟨sts,rst,hst,hsl,hsf⟩:∃ sts:List Stp,Rep G12 y (.lst (sts.map Stp.d))∧runS sts us=some ts∧sts.length=n∧∀ st∈sts,st.Fit:=by
    rcases two_at hy with rfl | rfl
    ·exact⟨_,rrm,hback,by rw[Le7,hbl,hmany,hcn],fun st hs=>hbfit st (Li3.mp hs)⟩
    ·exact⟨_,rrg,changes_lead hK2.1,by rw[changes_many hK2.1,hdn],changes_fit hK2.1 (by omega) (by omega)⟩
   obtain⟨ya,yvs,rfl,hya,rys⟩:∃ ya yvs,y=.ref ya∧G12 ya=some (.lst yvs)∧Reps G12 yvs (sts.map Stp.d):=by
    cases rst with
    | lst h t=>exact⟨_,_,rfl,h,t⟩
   have hyl:=rys.length;rw[La1,hsl] at hyl;refine Y' ?_;clear Y' Z';have s14:Same G12 H13:=(s12.trans (same_upd g4)).trans s13;(try dsimp only[gName]);refine seq_gen fun Rb hnb hrb=>?_;refine⟨G12,_,_,rfl,s14,rst,fun H15 s15=>⟨_,rfl,iteF ⟨yvs,.inl (SqL.of (s15 _ _ (s14 _ _ hya))),rfl,?_⟩⟩⟩;rw[hyl,decide_eq_true rfl];refine iteFB (hnb _ _ ?_);clear hnb hrb Rb;(try dsimp only);refine⟨G12,_,_,us,sts,rfl,s14.trans s15,rr2,rst,hsf,by omega,by rw[hst]; rfl,fun cs hcs G16 H16 r16 x16 rr16=>?_⟩;rw[hst] at hcs;cases hcs;exact⟨G16,ts,ts,x16.gh,rr16,rr1.mono x16.g,by omega,fun _=>iteFB (hR _ _ ⟨_,rfl,s13.trans (s15.trans x16.h)⟩),fun z=>absurd rfl z⟩
  intro σ H13 hZp;obtain⟨z9,rfl,s13⟩:=hZp;refine hna _ _ ?_;exact k H13
end
end K8
namespace TT
open PySem PySem.Spec PyProof.Rows L2
def OnlyT(Pt:Addr)(H:Hp):Prop:=∀ b,H b=none∨(∃ o xs,H b=some (.frz o (.lst xs)))∨(b=Pt∧H b=some (.tbl #[]))
theorem law_callT{P:Program}{w:World}{K:PySem.W.Frag}{mg mb:Str→Option Value}{CX:CXT}{k:Nat}{fa a c Pt:Addr}{fd:FuncData}{x:Str}{sp:Sp}{s₁:Shared}{vs:List Value}{ns:List Int}
  (KX:K.In s₁.heap) (hns:s₁.heap.Ns mainGlobals mg) (hb:s₁.heap.Ns builtinsNs mb) (hbb:∀ x:Str,x≠"__name__"→mb x=bootBuiltins x) (hlim:s₁.heap.NoLimit) (hg:s₁.gens=#[])
  (hT:s₁.heap.get? Pt=some (PySem.W.tabObj #[])) (hC:PySem.W.CodeHd s₁.heap c Pt) (hKP:K.lookup Pt=none)
  (hB:∃ bm ob,mg "__builtins__"=some (.ref bm)∧bm≠builtinsNs∧s₁.heap.get? bm=some ob∧ob.cls=.type "module"∧ob.dict=some builtinsNs∧ob.data=.plain)
  (ha:s₁.heap.get? a=some { cls:=.type "list",data:=.seq vs.toArray }) (hi:IntsAre vs ns) (hl:ns.length≤sizeLine) (hr:Room k callerA)
  (F:∀ base:Heap,K.In base→base.Ns mainGlobals mg→base.BuiltinsAt mg Pt→FnOk P w K mg base CX k fa fd [x] sp) (hbind:∀ (s:Shared) (u:Value),BindsTo s fd ⟨[u],[]⟩ [(x,u)])
  (hsp:∀ H:Hp,H Pt=some (.tbl #[])→SqL K H a (ns.map V.int)→sp [.ref a] H (fun v _=>v=.bl true) fun _ _ _=>False)
  (hCX:∀ H e s',CX [] H s₁ (fun _ _ _=>False) e s'→False) :
  codeAny (model P w) callerA (.call (.ref fa) ⟨[.ref a],[]⟩) (fun r s'=>r=.ok (.ret (.bool true))∧OldK s₁.heap s'.heap∧s'.os=s₁.os∧AllBare s'.gens) s₁:=by
 have rv:=vals_ints hi;have lenV:=hi.length;have aP:a≠Pt:=fun z=>by rw[z,hT] at ha; cases ha
 have core:∀ H:Hp,OnlyT Pt H→H Pt=some (.tbl #[])→SqL K H a (ns.map V.int)→HOk P w H s₁.heap→(∀ b,H b≠none→b=a∨b=Pt)→(H a≠none→K.lookup a=none) →
   codeAny (model P w) callerA (.call (.ref fa) ⟨[.ref a],[]⟩) (fun r s'=>r=.ok (.ret (.bool true))∧OldK s₁.heap s'.heap∧s'.os=s₁.os∧AllBare s'.gens) s₁:=by
  intro H hO hPt hS hok hA hK;have base_of:∀ {b:Addr} {o:Obj},s₁.heap.get? b=some o→H b=none→(hidT s₁.heap H).get? b=some o:=fun e n=>hidT_get e n
  have noA:∀ {b:Addr} {o:Obj} {es:Array DictEntry} {ep:Nat},s₁.heap.get? b=some o→o.data=.dict es ep→H b=none:=fun {b o es ep} e d=>by
   cases q:H b with
   | none=>rfl
   | some u =>
    rcases hA b (by rw[q]; simp) with e' | e'
    ·subst e';rw[ha] at e; cases e;have d':Data.seq vs.toArray _=Data.dict es ep:=d;cases d'
    ·subst e';rw[hT] at e; cases e;cases d
  have nsK:∀ {b:Addr} {m:Str→Option Value},s₁.heap.Ns b m→(hidT s₁.heap H).Ns b m:=fun {b m} ⟨o,es,ep,e,d,r⟩=>⟨o,es,ep,base_of e (noA e d),d,r⟩
  have hKb:K.In (hidT s₁.heap H):=fun b o e=>base_of (KX b o e) (by
   cases q:H b with
   | none=>rfl
   | some u =>
    rcases hA b (by rw[q]; simp) with e' | e'
    ·subst e';rw[hK (by rw[q]; simp)] at e; cases e
    ·subst e'
     rw[hKP] at e; cases e)
  have hM:Mod K mg (hidT s₁.heap H):=⟨hKb,nsK hns,⟨mb,nsK hb,hbb⟩,let ⟨mc,h1,h2⟩:=hlim; ⟨mc,nsK h1,h2⟩⟩
  have e0:Env0 P w K mg (hidT s₁.heap H) callerA [] s₁ H:=⟨rfl,hM,fun b o e=>of_hidT e,Nat.le_of_eq (hidT_size _ _),trivial,fun b hb=>absurd (show b∈([]:List Addr) from hb) (by simp),hok,.of_eq hg⟩
  have hBA:(hidT s₁.heap H).BuiltinsAt mg Pt:=by
   obtain⟨bm,ob,b1,b2,b3,b4,b5,b6⟩:=hB;refine⟨bm,ob,b1,b2,fun z=>?_,fun z=>?_,base_of b3 ?_,b4,b5,b6⟩
   ·obtain⟨o,es,ep,e,hd,_⟩:=hns;rw[z,e] at b3;cases b3;rw[hd] at b6;cases b6
   ·rw[z,hT] at b3;cases b3;cases b4
   ·cases q:H bm with
    | none=>rfl
    | some u =>
     rcases hA bm (by rw[q]; simp) with e' | e'
     ·rw[e',ha] at b3;cases b3;cases b6
     ·rw[e',hT] at b3;cases b3;cases b4
  refine codeAny_mono ((F _ hKb (nsK hns) hBA).run callerA [] s₁ H ⟨[.ref a],[]⟩ [.ref a] [.ref a] _ _ hr e0 (hbind s₁ (.ref a)) (.cons rfl .nil) (hsp H hPt hS)) fun r s' h=>?_
  cases r with
  | error e=>exact (hCX H e s' h).elim
  | ok fl =>
   cases fl with
   | next=>exact False.elim h
   | brk=>exact False.elim h
   | cont=>exact False.elim h
   | ret u =>
    obtain⟨v,H',os,bare,un,hok',r',q⟩:=h;have q':v=.bl true:=q;subst q';obtain rfl:u=Value.bool true:=r';obtain⟨more,hmore⟩:=un.tbls Pt #[] hPt;have ht':s'.heap.get? Pt=some (PySem.W.tabObj (#[]++more)):=(show ObjOk P w H' s'.heap Pt (.tbl (#[]++more)) from hok' Pt _ hmore)
    have keep:∀ b o,b≠Pt→s₁.heap.get? b=some o→s'.heap.get? b=some o:=fun b o hb e=>by
     cases q:H b with
     | none=>exact un.keep b o e q (by intro z; exact absurd (show b∈([]:List Addr) from z) (by simp)) (by simp)
     | some u =>
      rcases hO b with z | ⟨ob,xs,z⟩ | ⟨z,_⟩
      ·rw[q] at z; cases z
      ·have z2:=un.frzs b ob _ z;obtain⟨e1,_⟩:=hok b _ z;obtain⟨e2,_⟩:=hok' b _ z2;rw[e] at e1; cases e1;exact e2
      ·exact absurd z hb
    refine⟨rfl,⟨fun b o e=>?_,fun b o e=>?_⟩,os,bare⟩
    ·by_cases hb:b=Pt
     ·subst hb;rw[hT] at e;cases e;exact .inr (.inl ⟨(hC.tab hT).isCodeTable,rfl,#[],more,rfl,ht'⟩)
     ·exact .inl (keep b o hb e)
    ·by_cases hb:b=Pt
     ·exact⟨_,hb ▸ ht'⟩
     ·exact⟨o,keep b o hb e⟩
 cases hk:K.lookup a with
 | some o =>
  have e:=KX a o hk;rw[ha] at e;cases e;refine core (fun b=>if b=Pt then some (.tbl #[]) else none) (fun b=>?_) (if_pos rfl) (.inr ⟨_,vs.toArray,_,hk,rfl,rfl,rfl,by rw[La8,lenV]; exact hl,by simpa using rv⟩) (fun b u z=>?_) (fun b z=>?_) fun z=>absurd (if_neg aP) z
  ·by_cases hb:b=Pt
   ·exact .inr (.inr ⟨hb,if_pos hb⟩)
   ·exact .inl (if_neg hb)
  ·by_cases hb:b=Pt
   ·have z':=(if_pos hb).symm.trans z;cases z';subst hb;exact hT
   ·have z':=(if_neg hb).symm.trans z;cases z'
  ·by_cases hb:b=Pt
   ·exact .inr hb
   ·exact absurd (if_neg hb) z
 | none =>
  refine core (fun b=>if b=Pt then some (.tbl #[]) else if b=a then some (.frz { cls:=.type "list",data:=.seq vs.toArray } (.lst (ns.map V.int))) else none) (fun b=>?_) (if_pos rfl) (.inl (.inr ⟨{ cls:=.type "list",data:=.seq vs.toArray },?_⟩)) (fun b u z=>?_) (fun b z=>?_) fun _=>hk
  ·by_cases hb:b=Pt
   ·exact .inr (.inr ⟨hb,if_pos hb⟩)
   ·by_cases hb2:b=a
    ·exact .inr (.inl ⟨_,_,(if_neg hb).trans (if_pos hb2)⟩)
    ·exact .inl ((if_neg hb).trans (if_neg hb2))
  ·exact (if_neg aP).trans (if_pos rfl)
  ·by_cases hb:b=Pt
   ·have z':=(if_pos hb).symm.trans z;cases z';subst hb;exact hT
   ·have z:=(if_neg hb).symm.trans z
    by_cases hb2:b=a
    ·have z':=(if_pos hb2).symm.trans z;cases z';subst hb2;exact⟨ha,by rw[La1]; exact hl,vs,_,rv,ha⟩
    ·have z':=(if_neg hb2).symm.trans z;cases z'
  ·by_cases hb:b=Pt
   ·exact .inr hb
   ·by_cases hb2:b=a
    ·exact .inl hb2
    ·exact absurd ((if_neg hb).trans (if_neg hb2)) z
theorem walk_ofT{l:PySem.W.OpenLaw}{n k:Nat}{q:Program}{loose:List Str}{XP:(Str→Option Value)→Heap→Prop}{YP:World→Heap→Prop}{d:DefRec}{K:Params→PySem.W.Frag}{Pt:Addr}{CX:World→CXT}{sp:World→Sp}{x:Str}
  (hn:l.most=some n) (hn2:n≤sizeLine) (hdf:d.params.defaults=[]) (hr:Room k callerA)
  (hY:∀ (w:World) (h:Heap),YP w h→(K w.params).In h) (hYT:∀ (w:World) (h:Heap),YP w h→h.get? Pt=some (PySem.W.tabObj #[]))
  (hKP:∀ w:World,(K w.params).lookup Pt=none) (hKC:∀ w:World,∃ c,PySem.W.codeHdIn (K w.params) c Pt=true)
  (F:∀ (w:World) (mg:Str→Option Value) (fa:Addr) (h:Heap),(K w.params).In h→h.Ns mainGlobals mg→mg d.name=some (.ref fa) →
   ∃ fd:FuncData,(∀ (s:Shared) (u:Value),BindsTo s fd ⟨[u],[]⟩ [(x,u)]) ∧
    ∀ base:Heap,(K w.params).In base→base.Ns mainGlobals mg→base.BuiltinsAt mg Pt→FnOk l.prog w (K w.params) mg base (CX w) k fa fd [x] (sp w))
  (hsp:∀ (w:World) (H:Hp) (a:Addr) (ns:List Int),ns.length≤n→H Pt=some (.tbl #[])→SqL (K w.params) H a (ns.map V.int)→sp w [.ref a] H (fun v _=>v=.bl true) fun _ _ _=>False)
  (hCX:∀ (w:World) (H:Hp) (s:Shared) (e:Value) (s':Shared),CX w [] H s (fun _ _ _=>False) e s'→False) :
  PySem.W.WalkO q loose XP YP l.row.toRowW d [] (fun f vs=>PySem.call f vs):=by
 refine Att.attach_call hn hdf fun w s₀ s₁ mg mb fa o pm cd doc a vs ns G Y ho hd hcd hmg hobj hints hlen hg=>?_;have KX:=hY w _ Y;obtain⟨c,hc⟩:=hKC w;obtain⟨fd,hb,hF⟩:=F w mg fa _ KX G.T.g hmg;exact law_callT KX G.T.g G.T.b G.T.builtins G.T.nolimit hg (hYT w _ Y) (PySem.W.codeHd_of_K KX hc) (hKP w) (by obtain⟨bm,ob,b1,b2,b3,b4,b5,b6⟩:=G.T.bmain; exact⟨bm,ob,b1,b2,b3,b4,b5,b6⟩) hobj hints (Ld6 hlen hn2) hr hF hb (fun H hO hS=>hsp w H a ns hlen hO hS) fun H e s'=>hCX w H s₁ e s'
inductive DefIn(K:PySem.W.Frag)(n:Str)(st:Stmt):Prop
 | mk {f:Addr} {oc kV dc pm cd ct:Value} {od an:Option Addr} {sl:Array (Option Value)} (a:PySem.W.nsIn K mainGlobals n=some (some (.ref f))) (l:K.lookup f=some ⟨oc,od,.func (PySem.W.fnOf n n (defArgs st) (defBody st) (defScope st) .none kV dc pm an cd ct),sl⟩)
  (c:PySem.W.codeIn K cd n=true) (k:PySem.W.keepIn K (.ref f)=true):DefIn K n st
structure Hd(P:Program)(w:World)(K:PySem.W.Frag)(mg:Str→Option Value)(base h:Heap):Prop where
 X:K.In h
 G:h.Ns mainGlobals mg
theorem Hd.ok{P:Program}{w:World}{K:PySem.W.Frag}{mg:Str→Option Value}{base h:Heap}{n:Str}{st:Stmt}{ps:List Str}{k:Nat}{sp:Sp}(D:Hd P w K mg base h)(d:DefIn K n st)(ok:∀ {f:Addr} {fd:FuncData},Fun K n n st f fd→FnOk P w K mg base CX0 k f fd ps sp)
  (b:∀ (kV doc pm:Value) (an:Option Addr) (cdv ct:Value) (us:List Value),us.length=ps.length→bindArgs (PySem.W.fnOf n n (defArgs st) (defBody st) (defScope st) .none kV doc pm an cdv ct) ⟨us,[]⟩=pure (ps.zip us):=by
   intro _ _ _ _ _ _ us hl
   first
   | (obtain⟨_,rfl⟩:=len1 hl; rfl)
   | (obtain⟨_,_,rfl⟩:=len2 hl; rfl)
   | (obtain⟨_,_,_,rfl⟩:=len3 hl; rfl)
   | (obtain⟨_,_,_,_,_,rfl⟩:=len5 hl; rfl)):Ok1 P w K mg base k n ps sp:=by
 cases d with
 | mk a l c k' =>
  have F:=fun_mk (st:=st) l c k';exact⟨_,_,ok F,PySem.W.mg_of D.X D.G a,k',F.binds b⟩
end TT
namespace K8
open PySem L2 TT
theorem all_mk{l:PySem.W.OpenLaw}{w:World}{K:PySem.W.Frag}{h:Heap}{mg:Str→Option Value}{fa cB CO CC Pt f18 f44 fI1 fI2:Addr}(X:K.In h)(G:h.Ns mainGlobals mg)(hfa:mg "law"=some (.ref fa))
  {od18 an18 od44 an44 odI1 anI1 odI2 anI2:Option Addr} {sl18 sl44 slI1 slI2:Array (Option Value)} {oc18 kV18 dc18 pm18 ct18 oc44 kV44 dc44 pm44 cd44 ct44 ocI1 kVI1 dcI1 pmI1 cdI1 ctI1 ocI2 kVI2 dcI2 pmI2 cdI2 ctI2:Value}
  (d1:DefIn K "mark_of" sMark)
  (d2:DefIn K "trees_under" sTU)
  (d3:DefIn K "knot" sKnot)
  (d4:DefIn K "levels" sLevels)
  (d5:DefIn K "trees_at" sAt)
  (d6:DefIn K "mark_at" sMarkAt)
  (d7:DefIn K "with_trees_at" sWith)
  (d8:DefIn K "paths" sPaths)
  (d9:DefIn K "leads" sLeads)
  (d10:DefIn K "end_under" sEnd)
  (d11:DefIn K "whole" sWhole)
  (d12:DefIn K "under" sUnder)
  (d13:DefIn K "right_of" sRight)
  (d14:DefIn K "without_first" sWithout)
  (d15:DefIn K "stretches" sStr)
  (d16:DefIn K "staying" sStaying)
  (d17:DefIn K "choices" sChoices)
  (a18:PySem.W.nsIn K mainGlobals "best_choice"=some (some (.ref f18)))
  (l18:K.lookup f18=some ⟨oc18,od18,.func (PySem.W.fnOf "best_choice" "best_choice" (defArgs sBest) (defBody sBest) (defScope sBest) .none kV18 dc18 pm18 an18 (.ref cB) ct18),sl18⟩)
  (c18:PySem.W.codeIn K (.ref cB) "best_choice"=true)
  (k18:PySem.W.keepIn K (.ref f18)=true)
  (d19:DefIn K "cost" sCost)
  (d20:DefIn K "numbers_matched" sNum)
  (d21:DefIn K "matched" sMatched)
  (d22:DefIn K "how_many" sMany)
  (d23:DefIn K "trees_instead" sInstead)
  (d24:DefIn K "trees_taken" sTaken)
  (d25:DefIn K "done" sDone)
  (d26:DefIn K "led_back" sLed)
  (d27:DefIn K "turned" sTurned)
  (d28:DefIn K "marks_changed" sMarks)
  (d29:DefIn K "cuts_of_others" sCuts)
  (d30:DefIn K "changes" sChanges)
  (d31:DefIn K "_law_whole" sWholeI)
  (d32:DefIn K "_law_any_word" sWord)
  (d33:DefIn K "_law_drawn_row" sDrawn)
  (d34:DefIn K "_law_all_paths" sAll)
  (d35:DefIn K "_law_stepped" sStepped)
  (d36:DefIn K "_law_size" sSize)
  (d37:DefIn K "_law_wandered" sWandered)
  (d38:DefIn K "_law_two_rows" sTwo)
  (d39:DefIn K "_law_least" sLeast)
  (d40:DefIn K "_law_room" sRoom)
  (d41:DefIn K "_law_is_path" sIsPath)
  (d42:DefIn K "_law_are_steps" sAre)
  (d43:DefIn K "_law_walked" sWalked)
  (a44:PySem.W.nsIn K mainGlobals "law"=some (some (.ref f44)))
  (l44:K.lookup f44=some ⟨oc44,od44,.func (PySem.W.fnOf "law" "law" (defArgs sLaw) (defBody sLaw) (defScope sLaw) .none kV44 dc44 pm44 an44 cd44 ct44),sl44⟩)
  (c44:PySem.W.codeIn K cd44 "law"=true)
  (k44:PySem.W.keepIn K (.ref f44)=true)
  (xI1:PySem.W.nsIn K mainGlobals "Outline"=some (some (.ref CO)))
  (iI1:PySem.W.findIn K (.ref CO) "__init__"=some (some (.ref fI1)))
  (lI1:K.lookup fI1=some ⟨ocI1,odI1,.func (PySem.W.fnOf "__init__" "Outline.__init__" (defArgs sOutlineI) (defBody sOutlineI) (defScope sOutlineI) .none kVI1 dcI1 pmI1 anI1 cdI1 ctI1),slI1⟩)
  (cI1:PySem.W.codeIn K cdI1 "Outline.__init__"=true)
  (kI1:PySem.W.keepIn K (.ref fI1)=true)
  (pgI1:PySem.W.plainGet K CO Str.empty=true)
  (hdI1:PySem.W.hasDictIn K CO=true)
  (poI1:PySem.W.plainOver K CO=true)
  (saI1:PySem.W.findIn K (.ref CO) "__setattr__"=some (some (.builtin "object.__setattr__")))
  (mkI1:PySem.W.makesIn K CO=true)
  (fnI1:PySem.W.isFn K (.ref fI1)=true)
  (kcI1:PySem.W.keepIn K (.ref CO)=true)
  (n_marks:PySem.W.findIn K (.ref CO) "marks"=some none)
  (n_ends:PySem.W.findIn K (.ref CO) "ends"=some none)
  (xI2:PySem.W.nsIn K mainGlobals "Choice"=some (some (.ref CC)))
  (iI2:PySem.W.findIn K (.ref CC) "__init__"=some (some (.ref fI2)))
  (lI2:K.lookup fI2=some ⟨ocI2,odI2,.func (PySem.W.fnOf "__init__" "Choice.__init__" (defArgs sChoiceI) (defBody sChoiceI) (defScope sChoiceI) .none kVI2 dcI2 pmI2 anI2 cdI2 ctI2),slI2⟩)
  (cI2:PySem.W.codeIn K cdI2 "Choice.__init__"=true)
  (kI2:PySem.W.keepIn K (.ref fI2)=true)
  (pgI2:PySem.W.plainGet K CC Str.empty=true)
  (hdI2:PySem.W.hasDictIn K CC=true)
  (poI2:PySem.W.plainOver K CC=true)
  (saI2:PySem.W.findIn K (.ref CC) "__setattr__"=some (some (.builtin "object.__setattr__")))
  (mkI2:PySem.W.makesIn K CC=true)
  (fnI2:PySem.W.isFn K (.ref fI2)=true)
  (kcI2:PySem.W.keepIn K (.ref CC)=true)
  (n_steps:PySem.W.findIn K (.ref CC) "steps"=some none)
  (n_pairs:PySem.W.findIn K (.ref CC) "pairs"=some none)
  (n_parts:PySem.W.findIn K (.ref CC) "parts"=some none)
  (hC:PySem.W.codeHdIn K cB Pt=true)
  (nP:mainGlobals≠Pt)
  (z_list:PySem.W.nsIn K mainGlobals "list"=some none)
  (z_tuple:PySem.W.nsIn K mainGlobals "tuple"=some none)
  (z_len:PySem.W.nsIn K mainGlobals "len"=some none)
  (z_range:PySem.W.nsIn K mainGlobals "range"=some none)
  (z_min:PySem.W.nsIn K mainGlobals "min"=some none)
  (z_abs:PySem.W.nsIn K mainGlobals "abs"=some none)
  (z_sum:PySem.W.nsIn K mainGlobals "sum"=some none)
  (z_sorted:PySem.W.nsIn K mainGlobals "sorted"=some none)
  (z_isinstance:PySem.W.nsIn K mainGlobals "isinstance"=some none)
  (z_enumerate:PySem.W.nsIn K mainGlobals "enumerate"=some none)
  (z_str:PySem.W.nsIn K mainGlobals "str"=some none)
  (z_int:PySem.W.nsIn K mainGlobals "int"=some none)
  (z_bool:PySem.W.nsIn K mainGlobals "bool"=some none)
  (z_reversed:PySem.W.nsIn K mainGlobals "reversed"=some none)
  :
  ∃ fd:FuncData,(∀ (s:Shared) (v:Value),BindsTo s fd ⟨[v],[]⟩ [("_law_script",v)])∧∀ base:Heap,K.In base→base.Ns mainGlobals mg→base.BuiltinsAt mg Pt→FnOk l.prog w K mg base CX0 21 fa fd ["_law_script"] (spLaw K Pt):=by
 have e:=hfa.symm.trans (PySem.W.mg_of X G a44);cases e;have T:Txt mg:=⟨PySem.W.mg_none_of X G z_list,PySem.W.mg_none_of X G z_tuple,PySem.W.mg_none_of X G z_len,PySem.W.mg_none_of X G z_range,PySem.W.mg_none_of X G z_min,PySem.W.mg_none_of X G z_abs,PySem.W.mg_none_of X G z_sum,PySem.W.mg_none_of X G z_sorted,PySem.W.mg_none_of X G z_isinstance,PySem.W.mg_none_of X G z_enumerate,PySem.W.mg_none_of X G z_str,PySem.W.mg_none_of X G z_int,PySem.W.mg_none_of X G z_bool,PySem.W.mg_none_of X G z_reversed⟩;have CX:ClsTxt K mg CO CC:=⟨⟨pgI1,hdI1,poI1,saI1⟩,n_marks,n_ends,PySem.W.mg_of X G xI1,⟨pgI2,hdI2,poI2,saI2⟩,n_steps,n_pairs,n_parts,PySem.W.mg_of X G xI2⟩;have F18:=fun_mk (st:=sBest) l18 c18 k18;have b18:=F18.binds (ps:=["row","other"]) fun _ _ _ _ _ _ us hl=>by obtain⟨_,_,rfl⟩:=len2 hl; rfl
 have F44:=fun_mk (st:=sLaw) l44 c44 k44;have FI1:=fun_mk (st:=sOutlineI) lI1 cI1 kI1;have bI1:=FI1.binds (ps:=["self","row"]) fun _ _ _ _ _ _ us hl=>by obtain⟨_,_,rfl⟩:=len2 hl; rfl
 have FI2:=fun_mk (st:=sChoiceI) lI2 cI2 kI2;have bI2:=FI2.binds (ps:=["self","steps","pairs","parts"]) fun _ _ _ _ _ _ us hl=>by obtain⟨_,_,_,_,rfl⟩:=len4 hl; rfl
 refine⟨PySem.W.fnOf "law" "law" (defArgs sLaw) (defBody sLaw) (defScope sLaw) .none kV44 dc44 pm44 an44 cd44 ct44,fun s v=>.of_eq rfl,fun base KB GB BA=>?_⟩;have CH:PySem.W.CodeHd base cB Pt:=PySem.W.codeHd_of_K KB hC;have D:Hd l.prog w K mg base h:=⟨X,G⟩;have O1:=D.ok d1 fun F=>ok_mark F;have O2:=D.ok d2 fun F=>ok_tu F T;have O3:=D.ok d3 fun F=>ok_knot F T;have O4:=D.ok d4 fun F=>ok_levels F T O2;have O5:=D.ok d5 fun F=>ok_at F O4;have O6:=D.ok d6 fun F=>ok_markat F O1 O5;have O7:=D.ok d7 fun F=>ok_with F T O4 O3 O1;have O8:=D.ok d8 fun F=>ok_paths F T O2;have O9:=D.ok d9 fun F=>ok_leads F T O2;have O10:=D.ok d10 fun F=>ok_end F T;have M_out:MkR l.prog w K mg base 11 "Outline" CO ["self","row"] (spOut CO):=⟨_,_,⟨mkI1,iI1,fnI1,kcI1⟩,ok_outline FI1 T CX O8 O6 O10,CX.mO,bI1⟩;have M_ch:MkR l.prog w K mg base 3 "Choice" CC ["self","steps","pairs","parts"] (spChoice CC):=⟨_,_,⟨mkI2,iI2,fnI2,kcI2⟩,ok_choice FI2 T CX,CX.mC,bI2⟩;have O11:=D.ok d11 fun F=>ok_whole F T CX;have O12:=D.ok d12 fun F=>ok_under F CX;have O13:=D.ok d13 fun F=>ok_right F CX;have O14:=D.ok d14 fun F=>ok_without F;have O15:=D.ok d15 fun F=>ok_stretches F T CX O12 O11;have O16:=D.ok d16 fun F=>ok_stay F CX O12 O13 M_ch;have O17:=D.ok d17 fun F=>ok_choices F O16 O14 M_ch;have O18:Ok1 l.prog w K mg base 13 "best_choice" ["row","other"] (spBest CO CC Pt):=⟨_,_,ok_best F18 T CX rfl CH BA nP M_out O15 O17 O11,PySem.W.mg_of X G a18,k18,b18⟩;have O19:=D.ok d19 fun F=>ok_cost F CX O18;have O20:=D.ok d20 fun F=>ok_num F T CX O18;have O21:=D.ok d21 fun F=>ok_matched F O8 O20;have O22:=D.ok d22 fun F=>ok_many F;have O23:=D.ok d23 fun F=>ok_instead F O3 O2;have O24:=D.ok d24 fun F=>ok_taken F T O9 O22 O5;have O25:=D.ok d25 fun F=>ok_done F T O24 O5 O23 O7;have O26:=D.ok d26 fun F=>ok_led F T O24 O2 O1;have O27:=D.ok d27 fun F=>ok_turned F O25 O26;have O28:=D.ok d28 fun F=>ok_marks F O6;have O29:=D.ok d29 fun F=>ok_cuts F T O8;have O30:=D.ok d30 fun F=>ok_changes F O21 O29 O28 O27;have O31:=D.ok d31 fun F=>ok_wholeI F T;have O32:=D.ok d32 fun F=>ok_word F T;have O33:=D.ok d33 fun F=>ok_drawn F T O32;have O34:=D.ok d34 fun F=>ok_all F T;have O35:=D.ok d35 fun F=>ok_stepped F T;have O36:=D.ok d36 fun F=>ok_size F T;have O37:=D.ok d37 fun F=>ok_wandered F T O34 O32 O35 O36;have O38:=D.ok d38 fun F=>ok_two F T O33 O37;have O39:=D.ok d39 fun F=>ok_least F T O36;have O40:=D.ok d40 fun F=>ok_room F T;have O41:=D.ok d41 fun F=>ok_ispath F T;have O42:=D.ok d42 fun F=>ok_are F T O41;have O43:=D.ok d43 fun F=>ok_walked F O35;exact ok_law F44 T O38 O40 O19 O31 O30 O27 O42 O43 O39
theorem walk{l:PySem.W.OpenLaw}{q:Program}{loose:List Str}{XP:(Str→Option Value)→Heap→Prop}{YP:World→Heap→Prop}{d:DefRec}{K:Params→PySem.W.Frag}{Pt:Addr}(hn:l.most=some 63)(hdf:d.params.defaults=[])
  (hY:∀ (w:World) (h:Heap),YP w h→(K w.params).In h) (hYT:∀ (w:World) (h:Heap),YP w h→h.get? Pt=some (PySem.W.tabObj #[])) (hKP:∀ w:World,(K w.params).lookup Pt=none) (hKC:∀ w:World,∃ c,PySem.W.codeHdIn (K w.params) c Pt=true)
  (F:∀ (w:World) (mg:Str→Option Value) (fa:Addr) (h:Heap),(K w.params).In h→h.Ns mainGlobals mg→mg d.name=some (.ref fa) →
   ∃ fd:FuncData,(∀ (s:Shared) (u:Value),BindsTo s fd ⟨[u],[]⟩ [("_law_script",u)])∧∀ base:Heap,(K w.params).In base→base.Ns mainGlobals mg→base.BuiltinsAt mg Pt→FnOk l.prog w (K w.params) mg base CX0 21 fa fd ["_law_script"] (spLaw (K w.params) Pt)) :
  PySem.W.WalkO q loose XP YP l.row.toRowW d [] (fun f vs=>PySem.call f vs) :=
 TT.walk_ofT (n:=63) (k:=21) (Pt:=Pt) (x:="_law_script") (CX:=fun _=>CX0) (sp:=fun w=>spLaw (K w.params) Pt) hn (by decide) hdf ⟨rfl,by decide,by decide,rfl⟩ hY hYT hKP hKC F (fun _ _ a ns hl hP hS=>⟨a,ns,rfl,hS,hl,hP,fun _=>rfl⟩) fun _ _ _ _ _ z=>z
theorem kc_of{K:PySem.W.Frag}{f cB Pt:Addr}{oc kV dc pm ct:Value}{od an:Option Addr}{sl:Array (Option Value)}(_:PySem.W.nsIn K mainGlobals "best_choice"=some (some (.ref f)))
  (_:K.lookup f=some ⟨oc,od,.func (PySem.W.fnOf "best_choice" "best_choice" (defArgs sBest) (defBody sBest) (defScope sBest) .none kV dc pm an (.ref cB) ct),sl⟩) (h:PySem.W.codeHdIn K cB Pt=true):∃ c,PySem.W.codeHdIn K c Pt=true:=⟨cB,h⟩
end K8
theorem PySem.W.Fast.tw7466493494354992973:True:=True.intro
theorem PySem.W.Fast.tw14776898100706657385:True:=True.intro
theorem PySem.W.Fast.tw12645815886082311620:True:=True.intro
theorem PySem.W.Fast.tw6755420513534390990:True:=True.intro
theorem PySem.W.Fast.tw3290931836942930012:True:=True.intro
theorem PySem.W.Fast.tw15127395662416641883:True:=True.intro
theorem PySem.W.Fast.tw9189520639562116182:True:=True.intro
theorem PySem.W.Fast.tw15598380831866752048:True:=True.intro
theorem PySem.W.Fast.tw14481694459243547862:True:=True.intro
theorem PySem.W.Fast.tw10605674513945386817:True:=True.intro
theorem PySem.W.Fast.tw16785832592463018007:True:=True.intro
open PySem PySem.W PyProof.Rows
set_option maxRecDepth 100000 in
set_option maxHeartbeats 0 in
theorem PySem.Challenge.cw_treetrim_k08_whole_either_way_holds : PySem.Challenge.rw_treetrim_k08_whole_either_way.Holds := by
 w_on; o_law; k_head; (case hw=>w_witness2)
 k_fill
 refine' K8.walk (l:=PySem.Challenge.rw_treetrim_k08_whole_either_way) (Pt:=122) rfl rfl (fun w h Y=>PySem.W.km_in_of Y) (fun w h Y=>PySem.W.km_tabs_of Y 122 (Lc8.mpr rfl)) ?gKP ?gKC ?gF
 (case gKP=>intro w; kernel_rfl)
 (case gKC=>intro w; refine' K8.kc_of ?gA ?gL ?gH; (case gA=>k_is); (case gL=>k_is); (case gH=>kernel_rfl))
 case gF =>
  intro w mg fa h KX G hmg
  refine' K8.all_mk (Pt:=122) KX G hmg ?_ ?_ ?_ ?_ ?_ ?_ ?_ ?_ ?_ ?_ ?_ ?_ ?_ ?_ ?_ ?_ ?_ ?_ ?_ ?_ ?_ ?_ ?_ ?_ ?_ ?_ ?_ ?_ ?_ ?_ ?_ ?_ ?_ ?_ ?_ ?_ ?_ ?_ ?_ ?_ ?_ ?_ ?_ ?_ ?_ ?_ ?_ ?_ ?_ ?_ ?_ ?_ ?_ ?_ ?_ ?_ ?_ ?_ ?_ ?_ ?_ ?_ ?_ ?_ ?_ ?_ ?_ ?_ ?_ ?_ ?_ ?_ ?_ ?_ ?_ ?_ ?_ ?_ ?_ ?_ ?_ ?_ ?_ ?_ ?_ ?_ ?_ ?_ ?_ ?_ ?_ ?_ ?_ ?_ ?_
  all_goals first | (refine' TT.DefIn.mk ?gA ?gL ?gC ?gK; (case gA=>k_is); (case gL=>k_is); (case gC=>k_is); (case gK=>k_is)) | k_is | kernel_rfl | decide | skip
#print axioms PySem.Challenge.cw_treetrim_k08_whole_either_way_holds
