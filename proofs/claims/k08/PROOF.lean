import PyProof.Rows.All
import Wide.All
import OpenK.AllK
import Wide.FinOn
import Lean
import PyProof.EqAt
import PyProof.EqKinds
import PyProof.TupleCall
import PyProof.P3In
import PyProof.NeData
import PyProof.ZipIter
import PyProof.ReprRoads
import PyProof.FitsInt
import PyProof.FString4
import PyProof.ExcAttrAll.ValueError
import PySem.Challenge.RW_rowguard_k08_no_kind
noncomputable section
set_option Elab.async false
set_option linter.all false
set_option maxRecDepth 100000
open List (mem_singleton length_map map_cons length_cons mem_cons_self size_toArray mem_cons getElem?_map mem_cons_of_mem mem_append append_nil getElem?_set_ne mem_append_right length_set getElem?_eq_getElem length_append mem_append_left mem_map getElem?_set_self getElem?_append_right length_singleton getElem?_append_left reverse_cons append_assoc not_mem_nil)
open PySem.W (Frag mg_of mg_none_of nsIn fnOf keepIn)
open PyProof.Rows (boot_tuple boot_list boot_isinstance boot_any boot_max boot_int boot_min boot_bool boot_str)
open PySem.Heap (lt_size get?_push_of_some)
set_option bootstrap.genMatcherCode false
local macro_rules | `(tactic|trivial)=>`(tactic|first | exact .inl rfl | exact .inr rfl | assumption | exact Or.inr (Or.inl rfl) | exact Or.inr (Or.inr rfl))
set_option maxHeartbeats 0 in
theorem wS:PySem.Challenge.rw_rowguard_k08_no_kind.wellSaid=true:=by kernel_rfl
section
namespace L2
open PySem PySem.Spec PyProof.Rows
noncomputable abbrev Key:=Sum Int Str
noncomputable def keyIs:Key→Value→Bool
 | .inl k,v=>Value.isInt k v
 | .inr x,v=>Value.isStrOf x v
noncomputable def keyH (w:World):Key→Int
 | .inl k=>hashInt k
 | .inr x=>hashStr w x
theorem d4: ∀ {k:Key} {v:Value},keyIs k v=true→(∃i t,k=Sum.inl i∧v=Value.int i t)∨(∃x t,k=Sum.inr x∧v=Value.str x t)
 | .inl i,v,h=>by
  obtain ⟨t,e⟩:=Value.isInt_shape (k:=i) (v:=v) h;exact .inl ⟨i,t,rfl,e⟩
 | .inr x,v,h=>by
  obtain ⟨t,e⟩:=Value.isStrOf_shape (x:=x) (v:=v) h;exact .inr ⟨x,t,rfl,e⟩
theorem Hc (i:Int) (t:Tok):keyIs (.inl i) (.int i t)=true:=by simp [keyIs,Value.isInt]
theorem Hd (x:Str) (t:Tok):keyIs (.inr x) (.str x t)=true:=by simp [keyIs,Value.isStrOf]
theorem Qn (a b:Int):decide ((Sum.inl a:Key)=Sum.inl b)=(a==b):=by
 by_cases e:a=b
 ·subst e;simp
 ·have h:¬ (Sum.inl a:Key)=Sum.inl b:=fun q=>e (Sum.inl.inj q)
  rw [decide_eq_false h];exact (beq_eq_false_iff_ne.mpr e).symm
theorem Qo (a b:Str):decide ((Sum.inr a:Key)=Sum.inr b)=decide (a=b):=by
 by_cases e:a=b
 ·subst e;simp
 ·have h:¬ (Sum.inr a:Key)=Sum.inr b:=fun q=>e (Sum.inr.inj q)
  rw [decide_eq_false h,decide_eq_false e]
theorem Qp (a:Int) (b:Str):decide ((Sum.inl a:Key)=Sum.inr b)=false:=decide_eq_false (fun q=>nomatch q)
theorem Qq (a:Str) (b:Int):decide ((Sum.inr a:Key)=Sum.inl b)=false:=decide_eq_false (fun q=>nomatch q)
noncomputable def mixKind (prog:Program) (w:World):PySem.KeyKind prog w Key where
 is:=keyIs
 hash:=keyH w
 inj:=fun v a b ha hb=>by
  rcases d4 ha with ⟨i,t,rfl,rfl⟩ | ⟨x,t,rfl,rfl⟩
  ·rcases d4 hb with ⟨j,u,rfl,e⟩ | ⟨y,u,rfl,e⟩
   ·injection e with e1 _;rw [e1]
   ·exact nomatch e
  ·rcases d4 hb with ⟨j,u,rfl,e⟩ | ⟨y,u,rfl,e⟩
   ·exact nomatch e
   ·injection e with e1 _;rw [e1]
 byValue:=fun k v h=>by
  rcases d4 h with ⟨i,t,rfl,rfl⟩ | ⟨x,t,rfl,rfl⟩ <;> rfl
 pyHash:=fun hv h=>by
  rcases d4 hv with ⟨i,t,rfl,rfl⟩ | ⟨x,t,rfl,rfl⟩
  ·exact wpAny_pyHash_int h
  ·exact wpAny_pyHash_str h
 eqBool:=fun hu hv h=>by
  rcases d4 hu with ⟨i,t,rfl,rfl⟩ | ⟨x,t,rfl,rfl⟩
  ·rcases d4 hv with ⟨j,u,rfl,rfl⟩ | ⟨y,u,rfl,rfl⟩
   ·rw [Qn] at h;exact wpAny_eqBool_int h
   ·rw [Qp] at h;exact SeqAt.EqAt.int_str i t y u _ _ _ _ h
  ·rcases d4 hv with ⟨j,u,rfl,rfl⟩ | ⟨y,u,rfl,rfl⟩
   ·rw [Qq] at h;exact SeqAt.EqAt.str_int x t j u _ _ _ _ h
   ·rw [Qo] at h;exact wpAny_eqBool_str h
 «strs» :=fun k x t v h=>by
  rcases d4 h with ⟨i,u,rfl,e⟩ | ⟨y,u,rfl,e⟩
  ·exact nomatch e
  ·injection e with e1 _
   subst e1;cases v <;> rfl
theorem Dn (prog:Program) (w:World) (i:Int) (t:Tok):(mixKind prog w).is (.inl i) (.int i t)=true:=Hc i t
theorem sk (prog:Program) (w:World) (x:Str) (t:Tok):(mixKind prog w).is (.inr x) (.str x t)=true:=Hd x t
end L2
namespace L2
open PySem PySem.Spec PyProof.Rows
inductive V where
 | non | bl (b:Bool) | int (i:Int) | str (x:Str) | byt (b:Array UInt8) | flt (b:UInt64) | ref (a:Addr) | ty (n:String)
 deriving DecidableEq
def RelV:V→Value→Prop
 | .non,u=>u=Value.none
 | .bl b,u=>u=Value.bool b
 | .int i,u=>∃t,u=Value.int i t
 | .str x,u=>∃t,u=Value.str x t
 | .byt b,u=>∃t,u=Value.bytes b t
 | .flt b,u=>∃t,u=Value.float b t
 | .ref a,u=>u=Value.ref a
 | .ty n,u=>u=Value.type n
abbrev Vals:List V→List Value→Prop:=Paired RelV
theorem Vals.length {xs:List V} {us:List Value} (r:Vals xs us):xs.length=us.length:=Paired.length r
theorem Vals.get: ∀ {xs:List V} {us:List Value} {i:Nat} {x:V},Vals xs us→xs[i]?=some x→ ∃u,us[i]?=some u∧RelV x u
 | _,_,_,_,.nil,e=>by simp at e
 | _,_,0,_,.cons r _,e=>by simp at e;subst e;exact ⟨_,rfl,r⟩
 | _,_,i+1,x,.cons _ t,e=>by
  obtain ⟨u,h1,h2⟩:=Vals.get (i:=i) (x:=x) t (by simpa using e);exact ⟨u,by simpa using h1,h2⟩
theorem Vals.set {x:V} {u:Value} (r:RelV x u): ∀ {xs:List V} {us:List Value} (i:Nat),Vals xs us→Vals (xs.set i x) (us.set i u)
 | _,_,_,.nil=> .nil
 | _,_,0,.cons _ t=> .cons r t
 | _,_,i+1,.cons q t=> .cons q (Vals.set r i t)
theorem Vals.append: ∀ {xs ys:List V} {us ws:List Value},Vals xs us→Vals ys ws→Vals (xs++ys) (us++ws)
 | _,_,_,_,.nil,s=>s
 | _,_,_,_,.cons r t,s=> .cons r (Vals.append t s)
theorem Vals.take: ∀ {xs:List V} {us:List Value} (n:Nat),Vals xs us→Vals (xs.take n) (us.take n)
 | _,_,0,_=> .nil
 | _,_,_+1,.nil=> .nil
 | _,_,n+1,.cons r t=> .cons r (Vals.take n t)
theorem Vals.drop: ∀ {xs:List V} {us:List Value} (n:Nat),Vals xs us→Vals (xs.drop n) (us.drop n)
 | _,_,0,r=>r
 | _,_,_+1,.nil=> .nil
 | _,_,n+1,.cons _ t=>Vals.drop n t
theorem Vals.none_of: ∀ {xs:List V} {us:List Value} {i:Nat},Vals xs us→xs[i]?=none→us[i]?=none:=fun {xs us i} r e=>by
 have h1:=r.length;have h2:xs.length≤i:=List.getElem?_eq_none_iff.mp e;exact List.getElem?_eq_none_iff.mpr (by omega)
def RelO:Option V→Option Value→Prop
 | some v,some u=>RelV v u
 | none,none=>True
 | _,_=>False
def KV {κ:Type}:List (κ×V)→List (κ×Value)→Prop:=Paired fun (p:κ×V) (q:κ×Value)=>p.1=q.1∧RelV p.2 q.2
noncomputable def kV:Key→V
 | .inl i=> .int i
 | .inr x=> .str x
inductive HO where
  | lst (xs:List V)
  | tup (xs:List V)
  | dK (kvs:List (Key×V)) | dT (kvs:List (List Key×V))
  | set (S:Int→Bool) (n:Nat)
  | ins (C dx:Addr) (fs:List (Str×V))
  | own (x:Addr)
  | xd (fs:List (Str×V))
  | met (f x:Addr)
  | rng (lo hi:Int)
  | frz (o:Obj) (u:HO)
  | tbl (ps:Array Value)
  | ext (φ:Heap→Prop)
noncomputable abbrev Hp:=Addr→Option HO
noncomputable def upd (H:Hp) (a:Addr) (o:HO):Hp:=fun b=>if b=a then some o else H b
theorem bd {H:Hp} {a:Addr} {o:HO}:upd H a o a=some o:=by unfold upd;rw [if_pos rfl]
theorem a9 {H:Hp} {a b:Addr} {o:HO} (h:b≠a):upd H a o b=H b:=by unfold upd;rw [if_neg h]
theorem Tt {H:Hp} {a b:Addr} {o u:HO} (h:H a=some o) (h':H b=some u) (d:o≠u):a≠b:=by
 intro e;subst e;rw [h] at h';exact d (Option.some.inj h')
theorem bf {H:Hp} {a b:Addr} {o:HO} (h:H a=some o) (h':H b=none):a≠b:=by
 intro e;subst e;rw [h] at h';cases h'
section
variable (P:Program) (w:World)
def ObjOk (H:Hp) (h:Heap) (a:Addr):HO→Prop
 | .lst xs=>xs.length≤sizeLine∧ ∃ (its:List Value) (n:Nat),Vals xs its∧h.get? a=some { cls:= .type "list",data:= .seq its.toArray n }
 | .tup xs=>xs.length≤sizeLine∧ ∃its:List Value,Vals xs its∧IsTup h a its.toArray
 | .dK kvs=>kvs.length≤sizeLine∧(a==sysModules)=false∧ ∃vs,KV kvs vs∧h.DictOf (mixKind P w) a vs
 | .dT kvs=>kvs.length≤sizeLine∧(a==sysModules)=false∧ ∃xs:List (List Key×Addr×Value),
   Paired (fun (p:List Key×V) (q:List Key×Addr×Value)=>p.1=q.1∧H q.2.1=some (.tup (p.1.map kV))∧RelV p.2 q.2.2) kvs xs∧
   ∃o es ep,h.get? a=some o∧o.ExactDict∧o.data= .dict es ep∧es.toList=xs.map (entryOfKey (tupleKind (mixKind P w)))∧(xs.map (·.1)).Nodup
 | .set S n=>h.SetOf (intKind P w) a S n
 | .ins C dx fs=>H dx=some (.own a)∧fs.length≤1000∧dx≠a∧h.get? a=some (PySem.W.instObj C dx)∧
   ∃mA,h.Ns1 dx mA∧(∀f,RelO (fs.lookup f) (mA f))∧PySem.Within mA (fs.map (·.1))
 | .own _=>∃o,h.get? a=some o
 | .xd fs=>∃mA,h.Ns1 a mA∧ ∀f,RelO (fs.lookup f) (mA f)
 | .rng lo hi=>∃t u v,h.get? a=some { cls:= .type "range",data:= .fields #[.int lo t,.int hi u,.int 1 v] }
 | .frz o u=>h.get? a=some o∧ObjOk H h a u
 | .tbl ps=>h.get? a=some { cls:= .none,data:= .fields ps }
 | .met f x=>h.get? a=some (PySem.W.methodObj (.ref f) (.ref x))
 | .ext φ=>φ h∧(∃o,h.get? a=some o)∧ ∀h1 h2:Heap,φ h1→(∀o,h1.get? a=some o→h2.get? a=some o)→φ h2
def HOk (H:Hp) (h:Heap):Prop:= ∀a o,H a=some o→ObjOk P w H h a o
end
section
variable {P:Program} {w:World} {H H':Hp} {h h':Heap} {a:Addr} {o:HO}
theorem ObjOk.lt (x:ObjOk P w H h a o):a < h.objs.size:=by
 cases o with
 | lst xs=>obtain ⟨_,_,_,_,e⟩:=x;exact lt_size e
 | tup xs=>obtain ⟨_,_,_,p⟩:=x;exact p.lt
 | dK kvs=>obtain ⟨_,_,_,_,o,_,_,e,_⟩:=x;exact lt_size e
 | dT kvs=>obtain ⟨_,_,_,_,o,_,_,e,_⟩:=x;exact lt_size e
 | set S n=>obtain ⟨o,_,_,_,e,_⟩:=x;exact lt_size e
 | ins C dx fs=>obtain ⟨_,_,_,e,_⟩:=x;exact lt_size e
 | own y=>obtain ⟨_,e⟩:=x;exact lt_size e
 | xd fs=>obtain ⟨_,⟨_,_,_,e,_⟩,_⟩:=x;exact lt_size e
 | rng lo hi=>obtain ⟨_,_,_,e⟩:=x;exact lt_size e
 | frz ob u=>obtain ⟨e,_⟩:=x;exact lt_size e
 | tbl ps=>exact lt_size (show h.get? a=some _ from x)
 | met f y=>exact lt_size (show h.get? a=some _ from x)
 | ext φ=>obtain ⟨_,⟨_,e⟩,_⟩:=x;exact lt_size e
theorem Paired.mapP {α β:Type} {F G:α→β→Prop}: ∀ {l₁:List α} {l₂:List β},Paired F l₁ l₂→(∀a b,F a b→G a b)→Paired G l₁ l₂
 | _,_,.nil,_=> .nil
 | _,_,.cons r t,f=> .cons (f _ _ r) (Paired.mapP t f)
theorem ObjOk.stay (x:ObjOk P w H h a o) (k: ∀b u,(b=a∨H b=some (.own a))→h.get? b=some u→h'.get? b=some u)
  (ho: ∀b,H b=some (.own a)→H' b=some (.own a)) (ht: ∀b xs,H b=some (.tup xs)→H' b=some (.tup xs)):ObjOk P w H' h' a o:=by
 induction o with
 | lst xs=>obtain ⟨z,its,n,r,e⟩:=x;exact ⟨z,its,n,r,k _ _ (.inl rfl) e⟩
 | tup xs=>obtain ⟨z,its,r,ob,e,c⟩:=x;exact ⟨z,its,r,ob,k _ _ (.inl rfl) e,c⟩
 | dK kvs=>obtain ⟨z,y,vs,r,ob,es,ep,e,c⟩:=x;exact ⟨z,y,vs,r,ob,es,ep,k _ _ (.inl rfl) e,c⟩
 | dT kvs=>
  obtain ⟨z,y,xs,r,ob,es,ep,e,c⟩:=x;exact ⟨z,y,xs,Paired.mapP r fun p q z=>⟨z.1,ht _ _ z.2.1,z.2.2⟩,ob,es,ep,k _ _ (.inl rfl) e,c⟩
 | set S n=>obtain ⟨ob,es,ep,t,e,c⟩:=x;exact ⟨ob,es,ep,t,k _ _ (.inl rfl) e,c⟩
 | ins C dx fs=>
  obtain ⟨d,z,ne,e,mA,⟨od,es,ep,e2,c⟩,r⟩:=x;exact ⟨ho _ d,z,ne,k _ _ (.inl rfl) e,mA,⟨od,es,ep,k _ _ (.inr d) e2,c⟩,r⟩
 | own y=>obtain ⟨ob,e⟩:=x;exact ⟨ob,k _ _ (.inl rfl) e⟩
 | xd fs=>obtain ⟨mA,⟨od,es,ep,e,c⟩,r⟩:=x;exact ⟨mA,⟨od,es,ep,k _ _ (.inl rfl) e,c⟩,r⟩
 | rng lo hi=>obtain ⟨t,u,v,e⟩:=x;exact ⟨t,u,v,k _ _ (.inl rfl) e⟩
 | frz ob u ih=>obtain ⟨e,q⟩:=x;exact ⟨k _ _ (.inl rfl) e,ih q⟩
 | tbl ps=>
  have e:h.get? a=some { cls:= .none,data:= .fields ps }:=x
  show h'.get? a=some { cls:= .none,data:= .fields ps }
  exact k a _ (.inl rfl) e
 | met f y=>
  have e:h.get? a=some (PySem.W.methodObj (.ref f) (.ref y)):=x
  show h'.get? a=some (PySem.W.methodObj (.ref f) (.ref y))
  exact k a _ (.inl rfl) e
 | ext φ=>obtain ⟨p,⟨o,e⟩,st⟩:=x;exact ⟨st _ _ p fun o q=>k _ _ (.inl rfl) q,⟨o,k _ _ (.inl rfl) e⟩,st⟩
theorem HOk.lt (x:HOk P w H h) (e:H a=some o):a < h.objs.size:=(x a o e).lt
theorem HOk.fresh (x:HOk P w H h) (e:h.objs.size≤a):H a=none:=by
 cases q:H a with
 | none=>rfl
 | some u=>exact absurd (Nat.lt_of_lt_of_le (x.lt q) e) (Nat.lt_irrefl _)
theorem HOk.kept (x:HOk P w H h) (k: ∀b u,h.get? b=some u→h'.get? b=some u):HOk P w H h':=fun a o e=>
 (x a o e).stay (fun b u _ q=>k b u q) (fun _ q=>q) fun _ _ q=>q
theorem HOk.laid (x:HOk P w H h) (k: ∀b u,h.get? b=some u→h'.get? b=some u) (hp:h.objs.size≤a) (new:ObjOk P w (upd H a o) h' a o):HOk P w (upd H a o) h':=fun b u e=>by
 have hn:=x.fresh hp
 by_cases hb:b=a
 ·subst hb;rw [bd] at e;cases e;exact new
 ·rw [a9 hb] at e
  exact (x b u e).stay (fun c v _ q=>k c v q) (fun c q=>by rw [a9 (bf q hn)];exact q) fun c xs q=>by rw [a9 (bf q hn)];exact q
end
def Rd (H:Hp) (a:Addr) (u:HO):Prop:=H a=some u∨ ∃o,H a=some (.frz o u)
theorem Rd.ok {P:Program} {w:World} {H:Hp} {h:Heap} {a:Addr} {u:HO} (r:Rd H a u) (x:HOk P w H h):ObjOk P w H h a u:=by
 rcases r with r | ⟨o,r⟩
 ·exact x a u r
 ·obtain ⟨_,q⟩:=x a _ r
  exact q
def Mut:Option HO→Prop
 | some (.lst _)=>True
 | some (.dK _)=>True
 | some (.dT _)=>True
 | some (.set _ _)=>True
 | some (.ins _ _ _)=>True
 | some (.ext _)=>True
 | _=>False
section
variable {P:Program} {w:World} {H:Hp} {h h':Heap} {x e:Addr} {o':HO}
theorem HOk.write (ok:HOk P w H h) (mu:Mut (H x)) (he:e=x∨H e=some (.own x)) (k: ∀b u,b≠e→h.get? b=some u→h'.get? b=some u) (heo: ∃u,h'.get? e=some u)
  (new:ObjOk P w (upd H x o') h' x o'):HOk P w (upd H x o') h':=fun b u q=>by
 have nown: ∀c y,H c=some (.own y)→c≠x:=fun c y r z=>by subst z;rw [r] at mu;exact mu
 have ntup: ∀c xs,H c=some (.tup xs)→c≠x:=fun c xs r z=>by subst z;rw [r] at mu;exact mu
 by_cases hb:b=x
 ·subst hb;rw [bd] at q;cases q;exact new
 ·rw [a9 hb] at q
  by_cases hbe:b=e
  ·have q':H b=some (.own x):=by
    rcases he with z | z
    ·exact absurd (hbe.trans z) hb
    ·rw [hbe];exact z
   rw [q] at q';cases q';obtain ⟨v,hv⟩:=heo;exact ⟨v,by rw [hbe];exact hv⟩
  ·refine (ok b u q).stay (fun c v hc r=>k c v ?_ r) (fun c r=>by rw [a9 (nown c b r)];exact r) fun c xs r=>by rw [a9 (ntup c xs r)];exact r
   rcases hc with rfl | hc
   ·exact hbe
   ·rintro rfl
    rcases he with z | z
    ·exact nown c b hc z
    ·rw [hc] at z;cases z;exact hb rfl
end
structure Un (fs ex:List Addr) (H H':Hp) (h h':Heap):Prop where
 keep: ∀b o,h.get? b=some o→H b=none→b ∉ fs→b ∉ ex→h'.get? b=some o
 slot: ∀b o,h.get? b=some o→H b=none→b∈fs→b ∉ ex→ ∃sl,h'.get? b=some { o with slots:=sl }
 free: ∀b o,h.get? b=some o→H b=none→b ∉ ex→H' b=none
 there: ∀b o,h.get? b=some o→b ∉ ex→ ∃o',h'.get? b=some o'
 tups: ∀b xs,H b=some (.tup xs)→H' b=some (.tup xs)
 frzs: ∀b o u,H b=some (.frz o u)→H' b=some (.frz o u)
 tbls: ∀b ps,H b=some (.tbl ps)→ ∃more,H' b=some (.tbl (ps++more))
section
variable {fs fs' ex ex':List Addr} {H H1 H2:Hp} {h h1 h2 h':Heap} {a x e:Addr} {o:HO}
theorem Un.any (u:Un fs ex H H1 h h1) {b:Addr} {ob:Obj} (q:h.get? b=some ob) (n:H b=none) (hx:b ∉ ex): ∃sl,h1.get? b=some { ob with slots:=sl }:=by
 by_cases hb:b∈fs
 ·exact u.slot b ob q n hb hx
 ·exact ⟨ob.slots,u.keep b ob q n hb hx⟩
theorem Un.kept (k: ∀b u,h.get? b=some u→h'.get? b=some u):Un fs ex H H h h':=
 ⟨fun b ob q _ _ _=>k b ob q,fun b ob q _ _ _=>⟨ob.slots,k b ob q⟩,fun _ _ _ n _=>n,fun b ob q _=>⟨ob,k b ob q⟩,fun _ _ q=>q,fun _ _ _ q=>q,fun _ ps q=>⟨#[],by rw [q];simp⟩⟩
theorem Un.refl:Un fs ex H H h h:=Un.kept fun _ _ q=>q
theorem Un.laid (k: ∀b u,h.get? b=some u→h'.get? b=some u) (hp:h.objs.size≤a) (hn:H a=none):Un fs ex H (upd H a o) h h' where
 keep:=fun b u q _ _ _=>k b u q
 slot:=fun b u q _ _ _=>⟨u.slots,k b u q⟩
 free:=fun b u q n _=>by rw [a9 (Nat.ne_of_lt (Nat.lt_of_lt_of_le (lt_size q) hp))];exact n
 there:=fun b u q _=>⟨u,k b u q⟩
 tups:=fun b xs q=>by rw [a9 (bf q hn)];exact q
 frzs:=fun b u xs q=>by rw [a9 (bf q hn)];exact q
 tbls:=fun b ps q=>⟨#[],by rw [a9 (bf q hn),q];simp⟩
theorem Un.write (mu:Mut (H x)) (he:e=x∨H e=some (.own x)) (k: ∀b u,b≠e→h.get? b=some u→h'.get? b=some u) (heo: ∃u,h'.get? e=some u):Un fs ex H (upd H x o) h h':=by
 have hx: ∀b,H b=none→b≠x:=fun b n z=>by subst z;rw [n] at mu;exact mu
 have hb: ∀b,H b=none→b≠e:=fun b n z=>by
  subst z;rcases he with r | r
  ·exact hx b n r
  ·rw [n] at r;cases r
 have hm: ∀b u,H b=some u→¬Mut (some u)→b≠x:=fun b u q nm z=>by subst z;rw [q] at mu;exact nm mu
 refine ⟨fun b u q n _ _=>k b u (hb b n) q,fun b u q n _ _=>⟨u.slots,k b u (hb b n) q⟩,fun b u q n _=>by rw [a9 (hx b n)];exact n,fun b u q _=>?_,
  fun b xs q=>by rw [a9 (hm b _ q fun z=>z)];exact q,fun b u xs q=>by rw [a9 (hm b _ q fun z=>z)];exact q,fun b ps q=>⟨#[],by rw [a9 (hm b _ q fun z=>z),q];simp⟩⟩
 by_cases hbe:b=e
 ·subst hbe;exact heo
 ·exact ⟨u,k b u hbe q⟩
end
noncomputable def trk (h:Heap) (H:Hp):List Addr:=(List.range h.objs.size).filter fun a=>(H a).isSome
noncomputable def hidT (h:Heap) (H:Hp):Heap:=PySem.W.hideAll h (trk h H)
theorem He (h:Heap) (H:Hp):(hidT h H).objs.size=h.objs.size:=PySem.W.hideAll_size _ _
theorem Kz {h:Heap} {H:Hp} {b:Addr} {o:Obj} (e:h.get? b=some o) (n:H b=none):(hidT h H).get? b=some o:=
 PySem.W.hideAll_get _ e fun hm=>by
  have q:(H b).isSome=true:=(List.mem_filter.mp hm).2;rw [n] at q;simp at q
theorem Np {h:Heap} {H:Hp} {b:Addr} {o:Obj} (e:(hidT h H).get? b=some o):h.get? b=some o∧H b=none:=by
 have e':h.get? b=some o:=PySem.W.of_hideAll (trk h H) e;refine ⟨e',?_⟩;cases q:H b with
 | none=>rfl
 | some x=>
  have hm:b∈trk h H:=List.mem_filter.mpr ⟨List.mem_range.mpr (lt_size e'),by simp [q]⟩;have z:(hidT h H).get? b=none:=PySem.W.hideAll_none (trk h H) hm;rw [z] at e;cases e
end L2
namespace L2
open PySem PySem.Spec PyProof.Rows
structure Mod (K:Frag) (mg:Str→Option Value) (base:Heap):Prop where
 kin:K.In base
 glob:base.Ns mainGlobals mg
 blt: ∃mb,base.Ns builtinsNs mb∧ ∀x:Str,x≠"__name__"→mb x=bootBuiltins x
 nolimit:base.NoLimit
structure Cx where
 prog:Program
 w:World
 K:Frag
 mg:Str→Option Value
 base:Heap
 A:Around
 N:List Str
 s₀:Shared
 H₀:Hp
 env:Env
 outer:List Env
 stack:List Env
 ex:List Addr
 fn:Str→Bool
 calm:Bool
 pn:List (Addr×Obj)
 xe:Value→Shared→Prop
noncomputable def frs (l:List Env):List Addr:=l.filterMap (·.frame)
noncomputable abbrev Cx.fs (X:Cx):List Addr:=frs X.outer
def Vis (sc:Scope) (x:Str):Prop:=sc.names.lookup x=some .local∨sc.names.lookup x=some .cell∨sc.names.lookup x=some .free
def Loc (sc:Scope) (x:Str):Prop:=sc.names.lookup x=some .local∨sc.names.lookup x=some .cell
def Look (env:Env) (h:Heap) (m:Str→Option Value) (x:Str) (u:Value):Prop:=
 (env.kindOf x=some .local∧m x=some u)∨((env.kindOf x=some .cell∨env.kindOf x=some .free)∧ ∃c,env.cells.lookup x=some c∧h.IsCell c (some u))
structure Cx.Ok (X:Cx):Prop where
 mod:Mod X.K X.mg X.base
 kind:X.env.scope.kind= .function
 glob:X.env.globals=mainGlobals
 blt:X.env.builtins=builtinsNs
 above:X.s₀.heap.objs.size≤X.env.locals
 inj: ∀x y c,X.env.cells.lookup x=some c→X.env.cells.lookup y=some c→x=y
 has: ∀x,(X.env.kindOf x=some .cell∨X.env.kindOf x=some .free)→ ∃c,X.env.cells.lookup x=some c
 cab: ∀x c,X.fn x=true→X.env.cells.lookup x=some c→X.s₀.heap.objs.size≤c
 hd:X.calm=true→X.A.handled=none
 frames:X.A.frames=some X.stack
 stk:X.stack=X.outer∨(X.stack=X.env::X.outer∧X.env.frame=some X.env.locals)
 exf: ∀b∈X.ex,b≠X.env.locals∧ ∀x c,X.env.cells.lookup x=some c→c≠b
 bs: ∀b o,X.base.get? b=some o→X.s₀.heap.get? b=some o∧X.H₀ b=none
 bsz:X.base.objs.size≤X.s₀.heap.objs.size
 noex: ∀b o,X.base.get? b=some o→b ∉ X.ex
 exfs: ∀b∈X.ex,b ∉ X.fs
 funs:X.s₀.heap.FunFrames X.base X.outer
 frf: ∀b∈X.fs,X.H₀ b=none
structure Inv (X:Cx) (pins:List (Addr×Obj)) (σ:List (Option V)) (H:Hp) (s:Shared):Prop where
 ok:X.Ok
 os:s.os=X.s₀.os
 bare:AllBare s.gens
 base:Un X.fs X.ex X.H₀ H X.s₀.heap s.heap
 loc: ∃m,s.heap.Ns X.env.locals m∧ ∀ (i:Nat) (x:Str) (v:V),X.N[i]?=some x→σ[i]?=some (some v)→Vis X.env.scope x→ ∃u,RelV v u∧Look X.env s.heap m x u
 cell: ∀x c,X.env.cells.lookup x=some c→ ∃v,s.heap.IsCell c v
 free:H X.env.locals=none
 freeC: ∀x c,X.env.cells.lookup x=some c→H c=none
 pin: ∀p∈X.pn++pins,s.heap.get? p.1=some p.2∧H p.1=none∧p.1≠X.env.locals∧p.1 ∉ X.fs∧ ∀v,p.2.data≠ .cell v
 hok:HOk X.prog X.w H s.heap
 len:σ.length=X.N.length
section
variable {X:Cx} {pins:List (Addr×Obj)} {σ:List (Option V)} {H H':Hp} {s:Shared} {h':Heap}
theorem Cx.Ok.nofr (ok:X.Ok) {b:Addr} {o:Obj} (e:X.base.get? b=some o):b ∉ X.fs:=fun hb=>by
 have:=(ok.funs.mem hb).1
 rw [e] at this;cases this
theorem Inv.bs (I:Inv X pins σ H s): ∀b o,X.base.get? b=some o→s.heap.get? b=some o∧H b=none:=fun b o e=>
 ⟨I.base.keep b o (I.ok.bs b o e).1 (I.ok.bs b o e).2 (I.ok.nofr e) (I.ok.noex b o e),I.base.free b o (I.ok.bs b o e).1 (I.ok.bs b o e).2 (I.ok.noex b o e)⟩
theorem Inv.bk (I:Inv X pins σ H s): ∀b o,X.base.get? b=some o→s.heap.get? b=some o:=fun b o e=>(I.bs b o e).1
theorem Inv.mod (I:Inv X pins σ H s):Mod X.K X.mg X.base:=I.ok.mod
theorem Inv.kIn (I:Inv X pins σ H s):X.K.In s.heap:=I.ok.mod.kin.keeps I.bk
theorem Inv.lt (I:Inv X pins σ H s):X.env.locals < s.heap.objs.size:=let ⟨_,hn,_⟩:=I.loc;hn.lt
theorem Inv.sz (I:Inv X pins σ H s):X.s₀.heap.objs.size≤s.heap.objs.size:=Nat.le_trans I.ok.above (Nat.le_of_lt I.lt)
theorem Inv.nofs (I:Inv X pins σ H s) {a:Addr} (h:s.heap.objs.size≤a):a ∉ X.fs:=fun hb=>by
 obtain ⟨_,o,ho,_⟩:=I.ok.funs.mem hb;exact absurd (Nat.lt_of_lt_of_le (lt_size ho) (Nat.le_trans I.sz h)) (Nat.lt_irrefl _)
theorem Inv.cne (I:Inv X pins σ H s): ∀x c,X.env.cells.lookup x=some c→c≠X.env.locals:=fun x c e z=>by
 obtain ⟨v,o,ho,hd⟩:=I.cell x c e;obtain ⟨m,⟨o',es,ep,ho',hd',_⟩,_⟩:=I.loc;rw [z,ho'] at ho;cases ho;rw [hd'] at hd;cases hd
theorem Inv.funs (I:Inv X pins σ H s):s.heap.FunFrames X.base X.outer:=by
 have all: ∀ (l:List Env),(∀b∈frs l,b∈X.fs)→X.s₀.heap.FunFrames X.base l→s.heap.FunFrames X.base l:=by
  intro l
  induction l with
  | nil=>intro _ _;trivial
  | cons env r ih=>
   intro hs hl;obtain ⟨hk,⟨L,o,hf,hn,ho,hd⟩,hr⟩:=hl;have hL:L∈X.fs:=hs L (by unfold frs;rw [List.filterMap_cons,hf];exact mem_cons_self);obtain ⟨sl,e⟩:=I.base.slot L o ho (I.ok.frf L hL) hL fun z=>I.ok.exfs L z hL
   exact ⟨hk,⟨L,_,hf,hn,e,hd⟩,ih (fun b hb=>hs b (by unfold frs;rw [List.filterMap_cons,hf];exact mem_cons_of_mem _ hb)) hr⟩
 exact all X.outer (fun _ hb=>hb) I.ok.funs
theorem Inv.stack (I:Inv X pins σ H s):s.heap.FunFrames X.base X.stack:=by
 rcases I.ok.stk with e | ⟨e,hf⟩
 ·rw [e];exact I.funs
 ·rw [e]
  obtain ⟨m,hn,_⟩:=I.loc;refine .cons (by rw [I.ok.kind];decide) hf hn ?_ I.funs;exact Heap.get?_none_of_le (Nat.le_trans I.ok.bsz I.ok.above)
theorem Inv.stkSub (I:Inv X pins σ H s): ∀b∈frs X.stack,b∈X.env.locals::X.fs:=fun b hb=>by
 rcases I.ok.stk with e | ⟨e,hf⟩
 ·rw [e] at hb;exact mem_cons_of_mem _ hb
 ·rw [e] at hb
  unfold frs at hb;rw [List.filterMap_cons,hf] at hb;exact hb
theorem Inv.stkFree (I:Inv X pins σ H s): ∀b∈frs X.stack,H b=none:=fun b hb=>by
 rcases List.mem_cons.mp (I.stkSub b hb) with e | hb
 ·rw [e];exact I.free
 ·obtain ⟨_,o,ho,_⟩:=I.ok.funs.mem hb
  exact I.base.free b o ho (I.ok.frf b hb) fun z=>I.ok.exfs b z hb
theorem Inv.step {g':Array GenState} {t':Nat} {d':Drawn} {ch:List Addr} (I:Inv X pins σ H s)
  (hch: ∀b∈ch,(b∈X.ex∨X.s₀.heap.objs.size≤b)∧b≠X.env.locals∧(∀x c,X.env.cells.lookup x=some c→c≠b)∧ ∀p∈X.pn++pins,p.1≠b)
  (keep: ∀b o,b≠X.env.locals→b ∉ X.fs→b ∉ ch→s.heap.get? b=some o→H b=none→h'.get? b=some o)
  (slot: ∀b o,b≠X.env.locals→b∈X.fs→b ∉ ch→s.heap.get? b=some o→H b=none→ ∃sl,h'.get? b=some { o with slots:=sl }) (free: ∀b o,b ∉ ch→s.heap.get? b=some o→H b=none→H' b=none)
  (there: ∀b o,b ∉ ch→s.heap.get? b=some o→ ∃o',h'.get? b=some o')
  (tups: ∀b xs,H b=some (.tup xs)→H' b=some (.tup xs)) (frzs: ∀b o u,H b=some (.frz o u)→H' b=some (.frz o u)) (tbls: ∀b ps,H b=some (.tbl ps)→ ∃more,H' b=some (.tbl (ps++more)))
  (ns: ∀m,s.heap.Ns X.env.locals m→h'.Ns X.env.locals m) (hok:HOk X.prog X.w H' h') (hg:AllBare g'):
  Inv X pins σ H' { s with heap:=h',gens:=g',drawn:=d',toks:=t' }:=by
 have neL: ∀b o,X.s₀.heap.get? b=some o→b≠X.env.locals:=fun b o e=>Nat.ne_of_lt (Nat.lt_of_lt_of_le (lt_size e) I.ok.above);have neC: ∀b o,X.s₀.heap.get? b=some o→b ∉ X.ex→b ∉ ch:=fun b o e hx hb=>by
  rcases (hch b hb).1 with z | z
  ·exact hx z
  ·exact absurd (Nat.lt_of_lt_of_le (lt_size e) z) (Nat.lt_irrefl _)
 have cellK: ∀x c,X.env.cells.lookup x=some c→ ∀v,s.heap.IsCell c v→h'.IsCell c v:=fun x c e v h0=>by
  obtain ⟨o,ho,hd⟩:=h0;have nch:c ∉ ch:=fun z=>(hch c z).2.2.1 x c e rfl
  by_cases hc:c∈X.fs
  ·obtain ⟨sl,q⟩:=slot c o (I.cne x c e) hc nch ho (I.freeC x c e)
   exact ⟨_,q,hd⟩
  ·exact ⟨o,keep c o (I.cne x c e) hc nch ho (I.freeC x c e),hd⟩
 refine ⟨I.ok,I.os,hg,⟨fun b o e n hb hx=>?_,fun b o e n hb hx=>?_,fun b o e n hx=>?_,fun b o e hx=>?_,fun b xs e=>tups b xs (I.base.tups b xs e),fun b o xs e=>frzs b o xs (I.base.frzs b o xs e),fun b ps e=>?_⟩,?_,fun x c e=>?_,?_,fun x c e=>?_,fun p hp=>?_,hok,I.len⟩
 ·exact keep b o (neL b o e) hb (neC b o e hx) (I.base.keep b o e n hb hx) (I.base.free b o e n hx)
 ·obtain ⟨sl,e1⟩:=I.base.slot b o e n hb hx
  obtain ⟨sl',e2⟩:=slot b _ (neL b o e) hb (neC b o e hx) e1 (I.base.free b o e n hx);exact ⟨sl',e2⟩
 ·obtain ⟨o',e1⟩:=I.base.there b o e hx
  exact free b o' (neC b o e hx) e1 (I.base.free b o e n hx)
 ·obtain ⟨o',e1⟩:=I.base.there b o e hx
  exact there b o' (neC b o e hx) e1
 ·obtain ⟨m1,e1⟩:=I.base.tbls b ps e
  obtain ⟨m2,e2⟩:=tbls b _ e1;exact ⟨m1++m2,by rw [e2,Array.append_assoc]⟩
 ·obtain ⟨m,hn,hl⟩:=I.loc
  refine ⟨m,ns m hn,fun i x v e1 e2 e3=>?_⟩;obtain ⟨u,r,l⟩:=hl i x v e1 e2 e3;refine ⟨u,r,?_⟩;rcases l with l | ⟨k,c,e,z⟩
  ·exact .inl l
  ·exact .inr ⟨k,c,e,cellK x c e _ z⟩
 ·obtain ⟨v,z⟩:=I.cell x c e
  exact ⟨v,cellK x c e v z⟩
 ·obtain ⟨m,⟨o,_,_,ho,_⟩,_⟩:=I.loc
  exact free _ o (fun z=>(hch _ z).2.1 rfl) ho I.free
 ·obtain ⟨v,o,ho,hd⟩:=I.cell x c e
  exact free c o (fun z=>(hch c z).2.2.1 x c e rfl) ho (I.freeC x c e)
 ·obtain ⟨e,n,ne,nf,d⟩:=I.pin p hp
  have nch:p.1 ∉ ch:=fun z=>(hch p.1 z).2.2.2 p hp rfl;exact ⟨keep p.1 p.2 ne nf nch e n,free p.1 p.2 nch e n,ne,nf,d⟩
theorem Inv.un {t':Nat} (I:Inv X pins σ H s) (u:Un X.fs [] H H' s.heap h') (hok:HOk X.prog X.w H' h'):Inv X pins σ H' { s with heap:=h',toks:=t' }:=by
 obtain ⟨m,⟨o,es,ep,ho,r⟩,_⟩:=id I.loc;obtain ⟨sl,hL⟩:=u.any ho I.free (by simp);exact I.step (g':=s.gens) (d':=s.drawn) (ch:=[]) (fun _ z=>nomatch z) (fun b o _ hb _ e n=>u.keep b o e n hb (by simp)) (fun b o _ hb _ e n=>u.slot b o e n hb (by simp)) (fun b o _ e n=>u.free b o e n (by simp)) (fun b o _ e=>u.there b o e (by simp)) u.tups u.frzs u.tbls (fun m' hm=>by
  obtain ⟨o',es',ep',ho',r'⟩:=hm;rw [ho] at ho';cases ho';exact ⟨_,es',ep',hL,r'⟩) hok I.bare
theorem Inv.call {g':Array GenState} {t':Nat} {d':Drawn} {ch:List Addr} (I:Inv X pins σ H s) (u:Un (frs X.stack) ch H H' s.heap h') (hok:HOk X.prog X.w H' h') (hg:AllBare g')
  (hch: ∀b∈ch,(b∈X.ex∨X.s₀.heap.objs.size≤b)∧b≠X.env.locals∧(∀x c,X.env.cells.lookup x=some c→c≠b)∧ ∀p∈X.pn++pins,p.1≠b):
  Inv X pins σ H' { s with heap:=h',gens:=g',drawn:=d',toks:=t' }:=by
 obtain ⟨m,⟨o,es,ep,ho,r⟩,_⟩:=id I.loc;obtain ⟨sl,hL⟩:=u.any ho I.free fun z=>(hch _ z).2.1 rfl
 exact I.step (ch:=ch) hch (fun b o hL hb hc e n=>u.keep b o e n (fun z=>(List.mem_cons.mp (I.stkSub b z)).elim hL hb) hc) (fun b o _ _ hc e n=>u.any e n hc) (fun b o hc e n=>u.free b o e n hc) (fun b o hc e=>u.there b o e hc) u.tups u.frzs u.tbls (fun m' hm=>by
  obtain ⟨o',es',ep',ho',r'⟩:=hm;rw [ho] at ho';cases ho';exact ⟨_,es',ep',hL,r'⟩) hok hg
theorem Inv.turned {t':Nat} {it:Addr} (I:Inv X pins σ H s) (k: ∀b o,b≠it→s.heap.get? b=some o→h'.get? b=some o) (hn:H it=none) (hL:it≠X.env.locals)
  (h1:it∈X.ex∨X.s₀.heap.objs.size≤it) (h2: ∀x c,X.env.cells.lookup x=some c→c≠it) (h3: ∀p∈X.pn++pins,p.1≠it):Inv X pins σ H { s with heap:=h',toks:=t' }:=by
 have nit: ∀b u,H b=some u→b≠it:=fun b u e z=>by rw [z,hn] at e;cases e
 refine I.step (g':=s.gens) (d':=s.drawn) (ch:=[it]) (fun b hb=>?_) (fun b o _ _ hc e _=>k b o (fun z=>hc (by simp [z])) e) (fun b o _ _ hc e _=>⟨o.slots,k b o (fun z=>hc (by simp [z])) e⟩) (fun _ _ _ _ n=>n)
  (fun b o hc e=>⟨o,k b o (fun z=>hc (by simp [z])) e⟩) (fun _ _ e=>e) (fun _ _ _ e=>e) (fun b ps e=>⟨#[],by rw [e];simp⟩) (fun m hm=>?_) (fun b u e=>?_) I.bare
 ·have e:b=it:=by simpa using hb
  subst e;exact ⟨h1,hL,h2,h3⟩
 ·obtain ⟨o,es,ep,ho,r⟩:=hm
  exact ⟨o,es,ep,k _ o (Ne.symm hL) ho,r⟩
 ·refine (I.hok b u e).stay (fun c v hc q=>k c v ?_ q) (fun _ q=>q) fun _ _ q=>q
  rcases hc with z | z
  ·rw [z];exact nit b u e
  ·exact nit c _ z
theorem Inv.tok (I:Inv X pins σ H s) (t:Nat):Inv X pins σ H { s with toks:=t }:=I.un (h':=s.heap) (t':=t) Un.refl I.hok
theorem Inv.kept {t':Nat} (I:Inv X pins σ H s) (k: ∀b u,s.heap.get? b=some u→h'.get? b=some u):Inv X pins σ H { s with heap:=h',toks:=t' }:=I.un (Un.kept k) (I.hok.kept k)
theorem Inv.laid {a:Addr} {o:HO} {t':Nat} (I:Inv X pins σ H s) (k: ∀b u,s.heap.get? b=some u→h'.get? b=some u) (hp:s.heap.objs.size≤a) (new:ObjOk X.prog X.w (upd H a o) h' a o):
  Inv X pins σ (upd H a o) { s with heap:=h',toks:=t' }:=I.un (Un.laid k hp (I.hok.fresh hp)) (I.hok.laid k hp new)
theorem Inv.write {x e:Addr} {o:HO} {t':Nat} (I:Inv X pins σ H s) (mu:Mut (H x)) (he:e=x∨H e=some (.own x)) (k: ∀b u,b≠e→s.heap.get? b=some u→h'.get? b=some u) (heo: ∃u,h'.get? e=some u)
  (new:ObjOk X.prog X.w (upd H x o) h' x o):Inv X pins σ (upd H x o) { s with heap:=h',toks:=t' }:=I.un (Un.write mu he k heo) (I.hok.write mu he k heo new)
theorem Inv.pins_of {pins':List (Addr×Obj)} (I:Inv X pins σ H s) (h: ∀p∈pins',s.heap.get? p.1=some p.2∧H p.1=none∧p.1≠X.env.locals∧p.1 ∉ X.fs∧ ∀v,p.2.data≠ .cell v):Inv X pins' σ H s:=
 ⟨I.ok,I.os,I.bare,I.base,I.loc,I.cell,I.free,I.freeC,fun p hp=>(List.mem_append.mp hp).elim (fun z=>I.pin p (mem_append_left _ z)) (h p),I.hok,I.len⟩
theorem E3 {N:List Str} (hN:N.Nodup) {i j:Nat} {x:Str} (a:N[i]?=some x) (b:N[j]?=some x):i=j:=by
 obtain ⟨h1,e1⟩:=List.getElem?_eq_some_iff.mp a;obtain ⟨h2,e2⟩:=List.getElem?_eq_some_iff.mp b;exact (List.getElem_inj hN).mp (e1.trans e2.symm)
theorem Hf {M:Model} {A:Around} {E:Value→Shared→Prop} {i:Nat} {x:Str} {v:V} {u:Value} {Q:Unit→Shared→Prop} (I:Inv X pins σ H s) (hN:X.N.Nodup) (hi:X.N[i]?=some x) (hx:Loc X.env.scope x) (r:RelV v u)
  (h: ∀s',Inv X pins (σ.set i (some v)) H s'→(∃a,Heap.SameBut a s.heap s'.heap∧(a=X.env.locals∨X.env.cells.lookup x=some a))→Q () s') (hf:X.fn x=true∨X.env.scope.names.lookup x=some .local:=by trivial):wpAny M A (storeName X.env x u) Q E s:=by
 obtain ⟨m,hn,hl⟩:=id I.loc;have hcls:(X.env.scope.kind== .class || (X.env.scope.kind== .module && X.env.locals !=X.env.globals))=false:=by rw [I.ok.kind];rfl
 have hiσ:i < σ.length:=by rw [I.len];exact (List.getElem?_eq_some_iff.mp hi).1
 have cne:=I.cne;have tracked: ∀ {a:Addr} {h':Heap},(∃o,s.heap.get? a=some o∧H a=none)→Heap.SameBut a s.heap h'→HOk X.prog X.w H h':=fun {a h'} ha hs b ob e=>by
  obtain ⟨_,_,hfree⟩:=ha;refine (I.hok b ob e).stay (fun c w' hc q=>(hs.2 c ?_).trans q) (fun _ q=>q) fun _ _ q=>q
  rintro rfl
  rcases hc with rfl | hc
  ·rw [hfree] at e;cases e
  ·rw [hfree] at hc;cases hc
 rcases hx with hk | hk
 ·refine wpAny_storeName_local hk hn (fun h' hn' hs=>?_) hcls
  obtain ⟨oL,_,_,hoL,_⟩:=id hn;refine h _ ⟨I.ok,I.os,I.bare,⟨fun b o e n hb hx=>?_,fun b o e n hb hx=>?_,I.base.free,fun b o e hx=>?_,I.base.tups,I.base.frzs,I.base.tbls⟩,⟨_,hn',fun j y v' e1 e2 e3=>?_⟩,fun y c e=>?_,I.free,I.freeC,fun p hp=>?_,tracked ⟨oL,hoL,I.free⟩ hs,by simpa using I.len⟩ ⟨_,hs,.inl rfl⟩
  ·exact (hs.2 b (Nat.ne_of_lt (Nat.lt_of_lt_of_le (lt_size e) I.ok.above))).trans (I.base.keep b o e n hb hx)
  ·obtain ⟨sl,e1⟩:=I.base.slot b o e n hb hx
   exact ⟨sl,(hs.2 b (Nat.ne_of_lt (Nat.lt_of_lt_of_le (lt_size e) I.ok.above))).trans e1⟩
  ·obtain ⟨o',e1⟩:=I.base.there b o e hx
   exact ⟨o',(hs.2 b (Nat.ne_of_lt (Nat.lt_of_lt_of_le (lt_size e) I.ok.above))).trans e1⟩
  ·by_cases hj:j=i
   ·subst hj
    rw [hi] at e1;cases e1;rw [getElem?_set_self hiσ] at e2;cases e2;exact ⟨u,r,.inl ⟨hk,by simp⟩⟩
   ·rw [getElem?_set_ne (Ne.symm hj)] at e2
    obtain ⟨u',r',q⟩:=hl j y v' e1 e2 e3;refine ⟨u',r',?_⟩;rcases q with ⟨k,e⟩ | ⟨k,c,e,z⟩
    ·refine .inl ⟨k,?_⟩
     have:y≠x:=fun e=>hj (E3 hN e1 (e▸hi))
     simp [this,e]
    ·exact .inr ⟨k,c,e,z.sameBut hs (cne y c e)⟩
  ·obtain ⟨w',z⟩:=I.cell y c e
   exact ⟨w',z.sameBut hs (cne y c e)⟩
  ·obtain ⟨e,n,ne,nf,d⟩:=I.pin p hp
   exact ⟨(hs.2 p.1 ne).trans e,n,ne,nf,d⟩
 ·have hfn:X.fn x=true:=by
   rcases hf with z | z
   ·exact z
   ·rw [z] at hk;cases hk
  obtain ⟨c,hc⟩:=I.ok.has x (.inl hk);obtain ⟨w',z⟩:=I.cell x c hc;refine wpAny_storeName_cell I.ok.kind hk hc z (fun h' hc' hs=>?_);obtain ⟨oc,hoc,hocd⟩:=id z;refine h { s with heap:=h' } ⟨I.ok,I.os,I.bare,⟨fun b o e n hb hx=>?_,fun b o e n hb hx=>?_,I.base.free,fun b o e hx=>?_,I.base.tups,I.base.frzs,I.base.tbls⟩,⟨m,hn.sameBut hs (Ne.symm (cne x c hc)),fun j y v' e1 e2 e3=>?_⟩,fun y c' e=>?_,I.free,I.freeC,fun p hp=>?_,tracked ⟨oc,hoc,I.freeC x c hc⟩ hs,by simpa using I.len⟩ ⟨c,hs,.inr hc⟩
  ·exact (hs.2 b (Nat.ne_of_lt (Nat.lt_of_lt_of_le (lt_size e) (I.ok.cab x c hfn hc)))).trans (I.base.keep b o e n hb hx)
  ·obtain ⟨sl,e1⟩:=I.base.slot b o e n hb hx
   exact ⟨sl,(hs.2 b (Nat.ne_of_lt (Nat.lt_of_lt_of_le (lt_size e) (I.ok.cab x c hfn hc)))).trans e1⟩
  ·obtain ⟨o',e1⟩:=I.base.there b o e hx
   exact ⟨o',(hs.2 b (Nat.ne_of_lt (Nat.lt_of_lt_of_le (lt_size e) (I.ok.cab x c hfn hc)))).trans e1⟩
  ·by_cases hj:j=i
   ·subst hj
    rw [hi] at e1;cases e1;rw [getElem?_set_self hiσ] at e2;cases e2;exact ⟨u,r,.inr ⟨.inl hk,c,hc,hc'⟩⟩
   ·rw [getElem?_set_ne (Ne.symm hj)] at e2
    obtain ⟨u',r',q⟩:=hl j y v' e1 e2 e3;refine ⟨u',r',?_⟩;rcases q with q | ⟨k,c',e,z'⟩
    ·exact .inl q
    ·refine .inr ⟨k,c',e,z'.sameBut hs ?_⟩
     rintro rfl
     exact hj (E3 hN e1 (I.ok.inj _ _ _ e hc▸hi))
  ·by_cases hcc:c'=c
   ·subst hcc;exact ⟨_,hc'⟩
   ·obtain ⟨w2,z2⟩:=I.cell y c' e
    exact ⟨w2,z2.sameBut hs hcc⟩
  ·obtain ⟨e,n,ne,nf,d⟩:=I.pin p hp
   refine ⟨(hs.2 p.1 ?_).trans e,n,ne,nf,d⟩;intro q;rw [q,hoc] at e;have q':oc=p.2:=Option.some.inj e;exact d w' (by rw [←q'];exact hocd)
theorem wq {M:Model} {A:Around} {E:Value→Shared→Prop} {i:Nat} {x:Str} {v:V} {u:Value} {Q:Unit→Shared→Prop} (I:Inv X pins σ H s) (hN:X.N.Nodup) (hi:X.N[i]?=some x) (hx:Loc X.env.scope x) (r:RelV v u)
  (h: ∀s',Inv X pins (σ.set i (some v)) H s'→Q () s') (hf:X.fn x=true∨X.env.scope.names.lookup x=some .local:=by trivial):wpAny M A (storeName X.env x u) Q E s:=
 Hf I hN hi hx r (fun s' I' _=>h s' I') hf
theorem Inv.call' {s':Shared} {ch:List Addr} (I:Inv X pins σ H s) (ho:s'.os=s.os) (u:Un (frs X.stack) ch H H' s.heap s'.heap) (hok:HOk X.prog X.w H' s'.heap) (hg:AllBare s'.gens)
  (hch: ∀b∈ch,(b∈X.ex∨X.s₀.heap.objs.size≤b)∧b≠X.env.locals∧(∀x c,X.env.cells.lookup x=some c→c≠b)∧ ∀p∈X.pn++pins,p.1≠b):Inv X pins σ H' s':=by
 obtain ⟨h',g',d',t',o'⟩:=s';have e:o'=s.os:=ho;subst e;exact I.call (g':=g') (t':=t') (d':=d') u hok hg hch
end
abbrev XK:=Value→Option Addr→Hp→Prop
noncomputable abbrev St:=List (Option V)
abbrev VK:=V→Hp→Prop
abbrev TE:=St→Hp→VK→Prop
abbrev TT:=St→Hp→(Bool→Hp→Prop)→Prop
abbrev TA:=St→Hp→(List V→Hp→Prop)→Prop
structure Ends where
 nx:St→Hp→Prop
 rt:VK
 bk:St→Hp→Prop:=fun _ _=>False
 ct:St→Hp→Prop:=fun _ _=>False
abbrev TS:=Ends→St→Hp→Prop
def EP (X:Cx) (pins:List (Addr×Obj)) (σ:St) (Q:VK) (u:Value) (s':Shared):Prop:= ∃v H',Inv X pins σ H' s'∧RelV v u∧Q v H'
def TP (X:Cx) (pins:List (Addr×Obj)) (σ:St) (Q:Bool→Hp→Prop) (b:Bool) (s':Shared):Prop:= ∃H',Inv X pins σ H' s'∧Q b H'
def AP (X:Cx) (pins:List (Addr×Obj)) (σ:St) (Q:List V→Hp→Prop) (us:List Value) (s':Shared):Prop:= ∃vs H',Inv X pins σ H' s'∧Vals vs us∧Q vs H'
def SP (X:Cx) (pins:List (Addr×Obj)) (D:Ends) (f:Flow) (s':Shared):Prop:=
 match f with
 | .next=>∃σ' H',Inv X pins σ' H' s'∧D.nx σ' H'
 | .brk=>∃σ' H',Inv X pins σ' H' s'∧D.bk σ' H'
 | .cont=>∃σ' H',Inv X pins σ' H' s'∧D.ct σ' H'
 | .ret u=>∃v σ' H',Inv X pins σ' H' s'∧RelV v u∧D.rt v H'
def PE (X:Cx) (e:Expr) (t:TE):Prop:=
 ∀ (pins:List (Addr×Obj)) (s:Shared) (σ:St) (H:Hp) (Q:VK),Inv X pins σ H s→t σ H Q→wpAny (model X.prog X.w) X.A (eval e X.env) (EP X pins σ Q) X.xe s
def PT (X:Cx) (e:Expr) (t:TT):Prop:=
 ∀ (pins:List (Addr×Obj)) (s:Shared) (σ:St) (H:Hp) (Q:Bool→Hp→Prop),Inv X pins σ H s→t σ H Q→wpAny (model X.prog X.w) X.A (isTrue e X.env (eval e X.env)) (TP X pins σ Q) X.xe s
def PW (X:Cx) (e:Expr) (t:TT):Prop:=
 ∀ (whole:Sem Value) (pins:List (Addr×Obj)) (s:Shared) (σ:St) (H:Hp) (Q:Bool→Hp→Prop),Inv X pins σ H s→t σ H Q→wpAny (model X.prog X.w) X.A (isTrue e X.env whole) (TP X pins σ Q) X.xe s
theorem PW.pt {X:Cx} {e:Expr} {t:TT} (h:PW X e t):PT X e t:=h _
def PA (X:Cx) (es:List Expr) (t:TA):Prop:=
 ∀ (pos:Pos) (pins:List (Addr×Obj)) (s:Shared) (σ:St) (H:Hp) (Q:List V→Hp→Prop),Inv X pins σ H s→t σ H Q→wpAny (model X.prog X.w) X.A (spliced (backTo pos (starEach es X.env))) (AP X pins σ Q) X.xe s
def PS (X:Cx) (st:Stmt) (t:TS):Prop:=
 ∀ (pins:List (Addr×Obj)) (s:Shared) (σ:St) (H:Hp) (D:Ends),Inv X pins σ H s→t D σ H→wpAny (model X.prog X.w) X.A (exec st X.env) (SP X pins D) X.xe s
def PSs (X:Cx) (st:List Stmt) (t:TS):Prop:=
 ∀ (pins:List (Addr×Obj)) (s:Shared) (σ:St) (H:Hp) (D:Ends),Inv X pins σ H s→t D σ H→wpAny (model X.prog X.w) X.A (execs st X.env) (SP X pins D) X.xe s
theorem thn {α:Type} {t:Sem α} {Q Q':α→Shared→Prop} {M:Model} {A:Around} {E:Value→Shared→Prop} {s:Shared} (h:wpAny M A t Q E s) (hQ: ∀a s,Q a s→Q' a s):wpAny M A t Q' E s:=wpAny_mono h hQ fun _ _ x=>x
end L2
namespace L2
open PySem PySem.Spec PyProof.Rows
section
variable {X:Cx}
def tVar (i:Nat):TE:=fun σ H Q=>∃v,σ[i]?=some (some v)∧Q v H
def tC (v:V):TE:=fun _ H Q=>Q v H
theorem Qr {i:Nat} {x:Str} {pos:Pos} (hN:X.N[i]?=some x) (hv:Vis X.env.scope x) (hd:(x==("__debug__":Str))=false:=by decide) (hcd:(x==("__classdict__":Str))=false:=by decide):PE X (.Name x pos) (tVar i):=by
 intro pins s σ H Q I h;obtain ⟨v,e,h⟩:=h;obtain ⟨m,hn,hl⟩:=I.loc;obtain ⟨u,r,l⟩:=hl i x v hN e hv;have fin:EP X pins σ Q u s:=⟨v,H,I,r,h⟩
 rcases l with ⟨hk,hm⟩ | ⟨hk,c,hc,hcell⟩
 ·exact wpAny_Name (wpAny_loadName_local I.ok.kind hk hn hm fin) hd
 ·rcases hk with hk | hk
  ·exact wpAny_Name (wpAny_loadName_cell I.ok.kind hk hc hcell fin) hd
  ·exact wpAny_Name (wpAny_loadName_free I.ok.kind hk hc hcell fin hcd) hd
theorem Mq {i j pos}:PE X (.Constant (.int i) j pos) (tC (.int i)):=fun _ _ _ H _ I h=>wpAny_Constant_int ⟨.int i,H,I.tok _,⟨_,rfl⟩,h⟩
theorem Gf {b j pos}:PE X (.Constant (.bool b) j pos) (tC (.bl b)):=fun _ _ _ H _ I h=>Constant_bool ⟨.bl b,H,I,rfl,h⟩
theorem Qs {j pos}:PE X (.Constant .none j pos) (tC .non):=fun _ _ _ H _ I h=>Constant_none ⟨.non,H,I,rfl,h⟩
theorem Hg {x j pos}:PE X (.Constant (.str x) j pos) (tC (.str x)):=fun _ _ _ H _ I h=>Calls.Constant_str ⟨.str x,H,I.tok _,⟨_,rfl⟩,h⟩
def Gl (X:Cx) (x:Str):Prop:=X.env.kindOf x=some .globalImplicit
theorem u6 {E:Value→Shared→Prop} {pins:List (Addr×Obj)} {s:Shared} {σ:St} {H:Hp} {x:Str} {u:Value} {pos:Pos} {Q:Value→Shared→Prop} (I:Inv X pins σ H s) (hg:Gl X x) (hm:X.mg x=some u) (h:Q u s)
  (hd:(x==("__debug__":Str))=false:=by decide):wpAny (model X.prog X.w) X.A (eval (.Name x pos) X.env) Q E s:=
 Calls.Name_function_global I.ok.kind hg (Calls.loadGlobal_global (by rw [I.ok.glob];exact I.mod.glob.keeps I.bk) hm h) hd
theorem zw {E:Value→Shared→Prop} {pins:List (Addr×Obj)} {s:Shared} {σ:St} {H:Hp} {x:Str} {u:Value} {pos:Pos} {Q:Value→Shared→Prop} (I:Inv X pins σ H s) (hg:Gl X x) (hm:X.mg x=none) (hv:bootBuiltins x=some u) (h:Q u s)
  (hn:x≠"__name__":=by decide) (hd:(x==("__debug__":Str))=false:=by decide):wpAny (model X.prog X.w) X.A (eval (.Name x pos) X.env) Q E s:=by
 obtain ⟨mb,h1,h2⟩:=I.mod.blt;exact Calls.Name_function_global I.ok.kind hg (Calls.loadGlobal_builtin (by rw [I.ok.glob];exact I.mod.glob.keeps I.bk) hm (by rw [I.ok.blt];exact h1.keeps I.bk) ((h2 x hn).trans hv) h) hd
theorem so {x:Str} {v:V} {u:Value} {pos:Pos} (hg:Gl X x) (hm:X.mg x=some u) (r:RelV v u) (hd:(x==("__debug__":Str))=false:=by decide):PE X (.Name x pos) (tC v):=
 fun _ _ _ H _ I h=>u6 I hg hm ⟨v,H,I,r,h⟩ hd
theorem Ax {x:Str} {v:V} {u:Value} {pos:Pos} (hg:Gl X x) (hm:X.mg x=none) (hv:bootBuiltins x=some u) (r:RelV v u) (hn:x≠"__name__":=by decide) (hd:(x==("__debug__":Str))=false:=by decide):PE X (.Name x pos) (tC v):=
 fun _ _ _ H _ I h=>zw I hg hm hv ⟨v,H,I,r,h⟩ hn hd
variable {a b:Expr} {ta tb:TE} {pos:Pos}
def PC (X:Cx) (op:CmpOp) (a b:Expr) (t:TE):Prop:=
 ∀ (pins:List (Addr×Obj)) (s:Shared) (σ:St) (H:Hp) (Q:VK),Inv X pins σ H s→t σ H Q→
  wpAny (model X.prog X.w) X.A (eval a X.env) (fun v s₁=>wpAny (model X.prog X.w) X.A (eval b X.env) (fun u s₂=>wpAny (model X.prog X.w) X.A (compareOp op v u) (EP X pins σ Q) X.xe s₂) X.xe s₁) X.xe s
def tB (t:TE):TT:=fun σ H Q=>t σ H fun x H1=>∃c,x= .bl c∧Q c H1
theorem Hh {op:CmpOp} {t:TE} (h:PC X op a b t) (h1:behindInMarks op b=false:=by first | exact nobehind _ (by decide) (by decide) | rfl):PT X (.Compare a [op] [b] pos) (tB t):=by
 intro pins s σ H Q I hw;refine wpAny_isTrue_Compare1 (thn (h pins s σ H _ I hw) fun v s1 h1=>thn h1 fun u s2 h2=>thn h2 fun c s3 h0z=>?_) h1;obtain ⟨x,H1,I1,r1,q1⟩:=h0z;obtain ⟨d,rfl,q⟩:=q1;cases r1;exact wpAny_truthy_bool ⟨H1,I1,q⟩
variable {tA tB':TT} {rest:List Expr}
def tAnd (t u:TT):TT:=fun σ H Q=>t σ H fun c H1=>if c=true then u σ H1 Q else Q false H1
def tOr (t u:TT):TT:=fun σ H Q=>t σ H fun c H1=>if c=true then Q true H1 else u σ H1 Q
def tNot (t:TT):TT:=fun σ H Q=>t σ H fun c H1=>Q (!c) H1
theorem Nq (ha:PT X a tA):PW X (.BoolOp .And [a] pos) tA:=by
 intro wh pins s σ H Q I h;refine isTrue_and (thn (ha pins s σ H Q I h) fun c s1 e=>?_);cases c with
 | true=>exact isTrue_and_nil e
 | false=>exact e
theorem Qt (ha:PT X a tA):PW X (.BoolOp .Or [a] pos) tA:=by
 intro wh pins s σ H Q I h;refine isTrue_or (thn (ha pins s σ H Q I h) fun c s1 e=>?_);cases c with
 | false=>exact isTrue_or_nil e
 | true=>exact e
theorem Qu (ha:PT X a tA) (hb:PW X (.BoolOp .And (b::rest) pos) tB'):PW X (.BoolOp .And (a::b::rest) pos) (tAnd tA tB'):=by
 intro wh pins s σ H Q I h;refine isTrue_and (thn (ha pins s σ H _ I h) fun c s1 h0z=>?_);obtain ⟨H1,I1,q1⟩:=h0z;cases c with
 | true=>exact hb wh pins s1 σ H1 Q I1 q1
 | false=>exact ⟨H1,I1,q1⟩
theorem Tu (ha:PT X a tA) (hb:PW X (.BoolOp .Or (b::rest) pos) tB'):PW X (.BoolOp .Or (a::b::rest) pos) (tOr tA tB'):=by
 intro wh pins s σ H Q I h;refine isTrue_or (thn (ha pins s σ H _ I h) fun c s1 h0z=>?_);obtain ⟨H1,I1,q1⟩:=h0z;cases c with
 | true=>exact ⟨H1,I1,q1⟩
 | false=>exact hb wh pins s1 σ H1 Q I1 q1
theorem Qv (ha:PT X a tA):PT X (.UnaryOp .Not a pos) (tNot tA):=by
 intro pins s σ H Q I h;exact isTrue_not (ha pins s σ H (fun c H1=>Q (!c) H1) I h)
def tAndV (ta tb:TE):TE:=fun σ H Q=>ta σ H fun x H1=>∃c,x= .bl c∧if c=true then tb σ H1 Q else Q (.bl false) H1
def tOrV (ta tb:TE):TE:=fun σ H Q=>ta σ H fun x H1=>∃c,x= .bl c∧if c=true then Q (.bl true) H1 else tb σ H1 Q
def tNotV (ta:TE):TE:=fun σ H Q=>ta σ H fun x H1=>∃c,x= .bl c∧Q (.bl (!c)) H1
theorem Mr {op} {t:TE} (h:PE X a t):PE X (.BoolOp op [a] pos) t:=fun pins s σ H Q I hw=>BoolOp_one (h pins s σ H Q I hw)
theorem Ms (ha:PE X a ta) (hb:PE X (.BoolOp .And (b::rest) pos) tb):PE X (.BoolOp .And (a::b::rest) pos) (tAndV ta tb):=by
 intro pins s σ H Q I h;refine BoolOp_and (thn (ha pins s σ H _ I h) fun v s1 h0z=>?_);obtain ⟨x,H1,I1,r1,q1⟩:=h0z;obtain ⟨c,rfl,q1⟩:=q1;cases r1;refine wpAny_truthy_bool ?_;cases c with
 | true=>exact hb pins s1 σ H1 Q I1 q1
 | false=>exact ⟨.bl false,H1,I1,rfl,q1⟩
theorem Tv (ha:PE X a ta) (hb:PE X (.BoolOp .Or (b::rest) pos) tb):PE X (.BoolOp .Or (a::b::rest) pos) (tOrV ta tb):=by
 intro pins s σ H Q I h;refine BoolOp_or (thn (ha pins s σ H _ I h) fun v s1 h0z=>?_);obtain ⟨x,H1,I1,r1,q1⟩:=h0z;obtain ⟨c,rfl,q1⟩:=q1;cases r1;refine wpAny_truthy_bool ?_;cases c with
 | false=>exact hb pins s1 σ H1 Q I1 q1
 | true=>exact ⟨.bl true,H1,I1,rfl,q1⟩
theorem Qw (ha:PE X a ta):PE X (.UnaryOp .Not a pos) (tNotV ta):=by
 intro pins s σ H Q I h;refine UnaryOp_ (thn (ha pins s σ H _ I h) fun v s1 h0z=>?_);obtain ⟨x,H1,I1,r1,q1⟩:=h0z;obtain ⟨c,rfl,q1⟩:=q1;cases r1;exact not_of (wpAny_truthy_bool ⟨.bl (!c),H1,I1,rfl,q1⟩)
def tIf (t:TT) (ta tb:TE):TE:=fun σ H Q=>t σ H fun c H1=>if c=true then ta σ H1 Q else tb σ H1 Q
theorem E4 {c:Expr} (hc:PT X c tA) (ha:PE X a ta) (hb:PE X b tb):PE X (.IfExp c a b pos) (tIf tA ta tb):=by
 intro pins s σ H Q I h;refine wpAny_IfExp (thn (hc pins s σ H _ I h) fun d s1 h0z=>?_);obtain ⟨H1,I1,q1⟩:=h0z;cases d with
 | true=>exact ha pins s1 σ H1 Q I1 q1
 | false=>exact hb pins s1 σ H1 Q I1 q1
end
end L2
namespace L2
open PySem PySem.Spec PyProof.Rows
def SqL (K:Frag) (H:Hp) (a:Addr) (xs:List V):Prop:=
 Rd H a (.lst xs)∨
  ∃ (o:Obj) (its:Array Value) (n:Nat),K.lookup a=some o∧o.cls= .type "list"∧o.dict=none∧o.data= .seq its n∧its.size≤sizeLine∧Vals xs its.toList
def SqT (K:Frag) (H:Hp) (a:Addr) (xs:List V):Prop:=
 Rd H a (.tup xs)∨
  ∃ (o:Obj) (its:Array Value) (n:Nat),K.lookup a=some o∧o.cls= .type "tuple"∧o.data= .seq its n∧its.size≤sizeLine∧Vals xs its.toList
noncomputable def absV:Value→Option V
 | .none=>some .non
 | .bool b=>some (.bl b)
 | .int i _=>some (.int i)
 | .str x _=>some (.str x)
 | .bytes b _=>some (.byt b)
 | .float b _=>some (.flt b)
 | .ref a=>some (.ref a)
 | .type n=>some (.ty n)
 | _=>none
theorem RelV.abs {x:V} {u:Value} (r:RelV x u):absV u=some x:=by
 cases x with
 | non=>cases r;rfl
 | bl _=>cases r;rfl
 | int _=>obtain ⟨t,rfl⟩:=r;rfl
 | str _=>obtain ⟨t,rfl⟩:=r;rfl
 | byt _=>obtain ⟨t,rfl⟩:=r;rfl
 | flt _=>obtain ⟨t,rfl⟩:=r;rfl
 | ref _=>cases r;rfl
 | ty _=>cases r;rfl
theorem RelV.inj {x y:V} {u:Value} (r:RelV x u) (q:RelV y u):x=y:=Option.some.inj (r.abs.symm.trans q.abs)
theorem Vals.inj: ∀ {xs ys:List V} {us:List Value},Vals xs us→Vals ys us→xs=ys:=by
 intro xs ys us h g
 induction h generalizing ys with
 | nil=>cases g;rfl
 | cons r t ih=>
  cases g with
  | cons r' t'=>rw [r.inj r',ih t']
section
variable {X:Cx} {pins:List (Addr×Obj)} {σ:St} {H:Hp} {s:Shared} {a:Addr} {xs ys:List V}
theorem Inv.list (I:Inv X pins σ H s) (h:SqL X.K H a xs): ∃its:List Value,Vals xs its∧PlainL s.heap a its.toArray∧xs.length≤sizeLine:=by
 rcases h with h | ⟨o,its,n,hk,hc,hd,hs,hz,r⟩
 ·obtain ⟨z,its,n,r,e⟩:=h.ok I.hok
  exact ⟨its,r,⟨_,n,e,rfl,rfl,rfl⟩,z⟩
 ·refine ⟨its.toList,r,⟨o,n,I.kIn a o hk,hc,hd,by simpa using hs⟩,?_⟩
  have e:=r.length;simp only [Array.length_toList] at e;omega
theorem Inv.tuple (I:Inv X pins σ H s) (h:SqT X.K H a xs): ∃its:List Value,Vals xs its∧IsTup s.heap a its.toArray∧xs.length≤sizeLine:=by
 rcases h with h | ⟨o,its,n,hk,hc,hs,hz,r⟩
 ·obtain ⟨z,its,r,p⟩:=h.ok I.hok
  exact ⟨its,r,p,z⟩
 ·refine ⟨its.toList,r,⟨o,I.kIn a o hk,hc,n,by simpa using hs⟩,?_⟩
  have e:=r.length;simp only [Array.length_toList] at e;omega
theorem Inv.list_inj (I:Inv X pins σ H s) (h:SqL X.K H a xs) (h':SqL X.K H a ys):xs=ys:=by
 obtain ⟨its,r,⟨o,n,e,_,_,d⟩,_⟩:=I.list h;obtain ⟨its',r',⟨o',n',e',_,_,d'⟩,_⟩:=I.list h';rw [e] at e';cases e';rw [d] at d';injection d' with d1 _
 have:its=its':=by simpa using congrArg Array.toList d1
 subst this;exact r.inj r'
theorem Inv.tuple_inj (I:Inv X pins σ H s) (h:SqT X.K H a xs) (h':SqT X.K H a ys):xs=ys:=by
 obtain ⟨its,r,⟨o,e,_,n,d⟩,_⟩:=I.tuple h;obtain ⟨its',r',⟨o',e',_,n',d'⟩,_⟩:=I.tuple h';rw [e] at e';cases e';rw [d] at d';injection d' with d1 _
 have:its=its':=by simpa using congrArg Array.toList d1
 subst this;exact r.inj r'
end
noncomputable abbrev Cx.wish (X:Cx) (E:Value→Shared→Prop):Cx:={ X with xe:=E }
noncomputable abbrev Cx.nox (X:Cx):Cx:=X.wish fun _ _=>False
theorem Cx.Ok.wish {X:Cx} (ok:X.Ok) (E:Value→Shared→Prop):(X.wish E).Ok:=
 ⟨ok.mod,ok.kind,ok.glob,ok.blt,ok.above,ok.inj,ok.has,ok.cab,ok.hd,ok.frames,ok.stk,ok.exf,ok.bs,ok.bsz,ok.noex,ok.exfs,ok.funs,ok.frf⟩
theorem Cx.Ok.unwish {X:Cx} {E:Value→Shared→Prop} (ok:(X.wish E).Ok):X.Ok:=
 ⟨ok.mod,ok.kind,ok.glob,ok.blt,ok.above,ok.inj,ok.has,ok.cab,ok.hd,ok.frames,ok.stk,ok.exf,ok.bs,ok.bsz,ok.noex,ok.exfs,ok.funs,ok.frf⟩
section
variable {X:Cx} {pins:List (Addr×Obj)} {σ:St} {H:Hp} {s:Shared} {E:Value→Shared→Prop}
theorem Inv.wish (I:Inv X pins σ H s) (E:Value→Shared→Prop):Inv (X.wish E) pins σ H s:=⟨I.ok.wish E,I.os,I.bare,I.base,I.loc,I.cell,I.free,I.freeC,I.pin,I.hok,I.len⟩
theorem Inv.unwish (I:Inv (X.wish E) pins σ H s):Inv X pins σ H s:=⟨I.ok.unwish,I.os,I.bare,I.base,I.loc,I.cell,I.free,I.freeC,I.pin,I.hok,I.len⟩
theorem SP.unwish {D:Ends} {f:Flow} {s':Shared} (h:SP (X.wish E) pins D f s'):SP X pins D f s':=by
 cases f with
 | next=>obtain ⟨σ',H',I,q⟩:=h;exact ⟨σ',H',I.unwish,q⟩
 | brk=>obtain ⟨σ',H',I,q⟩:=h;exact ⟨σ',H',I.unwish,q⟩
 | cont=>obtain ⟨σ',H',I,q⟩:=h;exact ⟨σ',H',I.unwish,q⟩
 | ret u=>obtain ⟨v,σ',H',I,r,q⟩:=h;exact ⟨v,σ',H',I.unwish,r,q⟩
theorem PSs.nox {st:List Stmt} {t:TS} (h:PSs X.nox st t):PSs X st t:=fun pins s σ H D I hw=>
 wpAny_mono (h pins s σ H D (I.wish _) hw) (fun _ _ q=>q.unwish) fun _ _ z=>False.elim z
end
section
variable {X:Cx} {st:Stmt} {rest:List Stmt} {t u:TS} {e:Expr} {te:TE} {pos:Pos}
def tNext:TS:=fun D σ H=>D.nx σ H
def tSeq (t u:TS):TS:=fun D σ H=>t { D with nx:=u D } σ H
theorem Do:PSs X [] tNext:=fun _ _ σ H _ I h=>wpAny_execs_nil ⟨σ,H,I,h⟩
theorem js (h1:PS X st t) (h2:PSs X rest u):PSs X (st::rest) (tSeq t u):=by
 intro pins s σ H D I h;refine wpAny_execs_cons (thn (h1 pins s σ H { D with nx:=u D } I h) fun f s1 q=>?_);cases f with
 | next=>
  obtain ⟨σ',H',I',q⟩:=q;exact h2 pins s1 σ' H' D I' q
 | ret v=>exact q
 | brk=>exact q
 | cont=>exact q
theorem jj (h1:PS X st t):PSs X [st] t:=by
 intro pins s σ H D I h;refine wpAny_execs_cons (thn (h1 pins s σ H D I h) fun f s1 q=>?_);cases f with
 | next=>exact wpAny_execs_nil q
 | ret v=>exact q
 | brk=>exact q
 | cont=>exact q
theorem Inv.quiet {pins:List (Addr×Obj)} {σ:St} {H:Hp} {s:Shared} (I:Inv X pins σ H s):interactive X.env=false:=by simp [interactive,I.ok.kind]
def tDrop (te:TE):TS:=fun D σ H=>te σ H fun _ H1=>D.nx σ H1
theorem kq (he:PE X e te) (hs:swapsWith e none pos.line X.env=pure false:=by rfl):PS X (.Expr e pos) (tDrop te):=by
 intro pins s σ H D I h;exact wpAny_Expr_any (thn (he pins s σ H _ I h) fun v s1 ⟨x,H1,I1,r1,q1⟩=>⟨σ,H1,I1,q1⟩) I.quiet hs
def tRet (te:TE):TS:=fun D σ H=>te σ H D.rt
theorem pq (he:PE X e te):PS X (.Return (some e) pos) (tRet te):=by
 intro pins s σ H D I h;exact wpAny_Return_some (thn (he pins s σ H _ I h) fun v s1 ⟨x,H1,I1,r1,q1⟩=>⟨x,σ,H1,I1,r1,q1⟩)
def tIfS (c:TT) (t u:TS):TS:=fun D σ H=>c σ H fun b H1=>if b=true then t D σ H1 else u D σ H1
theorem Nr {c:Expr} {a b:List Stmt} {tc:TT} (hc:PT X c tc) (ha:PSs X a t) (hb:PSs X b u):PS X (.If c a b pos) (tIfS tc t u):=by
 intro pins s σ H D I h;refine wpAny_If (thn (hc pins s σ H _ I h) fun d s1 h0z=>?_);obtain ⟨H1,I1,q1⟩:=h0z;cases d with
 | true=>exact ha pins s1 σ H1 D I1 q1
 | false=>exact hb pins s1 σ H1 D I1 q1
end
abbrev TG:=V→St→Hp→(St→Hp→Prop)→Prop
abbrev TGs:=List V→St→Hp→(St→Hp→Prop)→Prop
def PG (X:Cx) (target:Expr) (t:TG):Prop:=
 ∀ (pins:List (Addr×Obj)) (s:Shared) (σ:St) (H:Hp) (v:V) (u:Value) (Q:St→Hp→Prop),Inv X pins σ H s→RelV v u→t v σ H Q→
  wpAny (model X.prog X.w) X.A (assign target X.env u) (fun _ s'=>∃σ' H',Inv X pins σ' H' s'∧Q σ' H') X.xe s
def PGs (X:Cx) (ts:List Expr) (t:TGs):Prop:=
 ∀ (pins:List (Addr×Obj)) (s:Shared) (σ:St) (H:Hp) (vs:List V) (us:List Value) (Q:St→Hp→Prop),Inv X pins σ H s→Vals vs us→t vs σ H Q→
  wpAny (model X.prog X.w) X.A (assignInOrder ((assignEach ts X.env).map (·.2)) us) (fun _ s'=>∃σ' H',Inv X pins σ' H' s'∧Q σ' H') X.xe s
abbrev TSet:=V→V→V→Hp→(Hp→Prop)→Prop
def PSet (X:Cx) (t:TSet):Prop:=
 ∀ (pins:List (Addr×Obj)) (s:Shared) (σ:St) (H:Hp) (o i v:V) (ov iv u:Value) (Q:Hp→Prop),Inv X pins σ H s→RelV o ov→RelV i iv→RelV v u→t o i v H Q→
  wpAny (model X.prog X.w) X.A (setItem ov iv u) (fun _ s'=>∃H',Inv X pins σ H' s'∧Q H') X.xe s
section
variable {X:Cx} {pos:Pos}
def gName (i:Nat):TG:=fun v σ H Q=>Q (σ.set i (some v)) H
theorem jk {i:Nat} {x:Str} (hN:X.N.Nodup) (hi:X.N[i]?=some x) (hx:Loc X.env.scope x) (hf:X.fn x=true∨X.env.scope.names.lookup x=some .local:=by trivial):PG X (.Name x pos) (gName i):=by
 intro pins s σ H v u Q I r h;exact wpAny_assign_Name (wq I hN hi hx r (fun s' I'=>⟨_,H,I',h⟩) hf)
noncomputable def gNil:TGs:=fun vs σ H Q=>vs=[]∧Q σ H
noncomputable def gCons (t:TG) (u:TGs):TGs:=fun vs σ H Q=>∃v r,vs=v::r∧t v σ H fun σ' H'=>u r σ' H' Q
theorem Hi:PGs X [] gNil:=by
 intro pins s σ H vs us Q I r h;obtain ⟨e,h⟩:=h;subst e;cases r;exact assignInOrder_nil ⟨σ,H,I,h⟩
theorem wr {e:Expr} {es:List Expr} {t:TG} {u:TGs} (h1:PG X e t) (h2:PGs X es u)
  (hs:(assignEach (e::es) X.env).map (·.2)=assign e X.env::(assignEach es X.env).map (·.2):=by rfl):PGs X (e::es) (gCons t u):=by
 intro pins s σ H vs us Q I r h;obtain ⟨v,vr,e1,h⟩:=h;subst e1;cases r with
 | cons r rr=>
  rw [hs];refine assignInOrder_cons (thn (h1 pins s σ H _ _ _ I r h) fun _ s1 h0z=>?_);obtain ⟨σ1,H1,I1,q1⟩:=h0z;exact h2 pins s1 σ1 H1 _ _ Q I1 rr q1
def gTup (K:Frag) (n:Nat) (t:TGs):TG:=fun v σ H Q=>∃a xs,v= .ref a∧SqT K H a xs∧xs.length=n∧t xs σ H Q
theorem Mt {es:List Expr} {k:Nat} {t:TGs} {n:Nat} (hc:X.calm=true) (h:PGs X es t)
  (hn:(assignEach es X.env).length=n:=by rfl) (hst:(assignEach es X.env).findIdx? (·.1)=none:=by rfl):PG X (.Tuple es k pos) (gTup X.K n t):=by
 intro pins s σ H v u Q I r hw;obtain ⟨a,xs,e1,hq,hl,hw⟩:=hw;subst e1;cases r;obtain ⟨its,rv,ht,hz⟩:=I.tuple hq;refine assign_Tuple_tuple (I.ok.hd hc) ht (by simp [hn,←hl,rv.length]) hst fun h' hx=>?_
 have I1:Inv X pins σ H { s with heap:=h' }:=I.kept (t':=s.toks) fun b o e=>hx b o (Nat.ne_of_lt (lt_size e)) e
 exact h pins _ σ H xs _ Q I1 (by simpa using rv) hw
def gSub (to ti:TE) (t:TSet):TG:=fun v σ H Q=>to σ H fun o H1=>ti σ H1 fun i H2=>t o i v H2 fun H3=>Q σ H3
theorem Qx {o i:Expr} {to ti:TE} {t:TSet} (ho:PE X o to) (hi:PE X i ti) (hs:PSet X t)
  (ha: ∀v,assign (.Subscript o i pos) X.env v=(do
   let ov ←holding [v] (eval o X.env)
   let iv ←holding [v,ov] (eval i X.env)
   standAt pos
   holding [v,ov,iv] (setItem ov iv v)
   release [v,ov,iv] []):=by intro _;rfl):PG X (.Subscript o i pos) (gSub to ti t):=by
 intro pins s σ H v u Q I r h;rw [ha];refine wpAny_bind (wpAny_holding (thn (ho pins s σ H _ I h) fun ov s1 h0z=>?_));obtain ⟨x,H1,I1,r1,q1⟩:=h0z;refine wpAny_bind (wpAny_holding (thn (hi pins s1 σ H1 _ I1 q1) fun iv s2 h0z=>?_));obtain ⟨y,H2,I2,r2,q2⟩:=h0z;refine wpAny_bind (wpAny_standAt (wpAny_bind (wpAny_holding (thn (hs pins s2 σ H2 x y v ov iv u _ I2 r1 r2 r q2) fun _ s3 h0z=>?_))));obtain ⟨H3,I3,q3⟩:=h0z;exact wpAny_release ⟨σ,H3,I3,q3⟩
def tAsg (te:TE) (g:TG):TS:=fun D σ H=>te σ H fun x H1=>g x σ H1 D.nx
theorem Mu {tg e:Expr} {te:TE} {g:TG} (he:PE X e te) (hg:PG X tg g) (hs:swapsWithSole [tg] e pos.line X.env=pure false:=by rfl) (hw:swappedStores [tg] e X.env=pure none:=by rfl)
  (h1:(assignEach [tg] X.env).map (·.2)=[assign tg X.env]:=by rfl):PS X (.Assign [tg] e pos) (tAsg te g):=by
 intro pins s σ H D I h;refine wpAny_Assign_stores (thn (he pins s σ H _ I h) fun v s1 h0z=>?_) hs hw;obtain ⟨x,H1,I1,r1,q1⟩:=h0z;rw [h1];exact thn (hg pins s1 σ H1 x v _ I1 r1 q1) fun _ s2 q=>q
theorem je {i:Nat} {x:Str} {e:Expr} {te:TE} {pos':Pos} (hN:X.N.Nodup) (hi:X.N[i]?=some x) (hx:Loc X.env.scope x) (he:PE X e te) (hs:swapsWith e (some (.Name x pos')) pos.line X.env=pure false:=by rfl) (hf:X.fn x=true∨X.env.scope.names.lookup x=some .local:=by trivial):
  PS X (.Assign [.Name x pos'] e pos) (tAsg te (gName i)):=by
 intro pins s σ H D I h;refine wpAny_Assign_Name (thn (he pins s σ H _ I h) fun v s1 h0z=>?_) hs;obtain ⟨y,H1,I1,r1,q1⟩:=h0z;exact wq I1 hN hi hx r1 (fun s2 I2=>⟨_,H1,I2,q1⟩) hf
end
section
variable {X:Cx} {pos:Pos}
def tWhile (c:TT) (tb:TS):TS:=fun D σ H=>∃W:Nat→St→Hp→Prop,(∃m,W m σ H)∧ ∀m σ H,W m σ H→
 c σ H fun b H1=>if b=true then ∃N:St→Hp→Prop,(∀σ' H',N σ' H'→ ∃m',m' < m∧W m' σ' H')∧tb { D with nx:=N,ct:=N,bk:=D.nx } σ H1 else D.nx σ H1
theorem K0 {c:Expr} {body:List Stmt} {tc:TT} {tb:TS} (hp:PassesOwn (model X.prog X.w) X.A X.env X.xe) (hc:PT X c tc) (hb:PSs X body tb):PS X (.While c body [] pos) (tWhile tc tb):=by
 intro pins s σ H D I h;obtain ⟨W,⟨m0,w0⟩,turn⟩:=h;refine wpAny_While (codeAny_whileLoop (fun n s'=>∃σ' H',Inv X pins σ' H' s'∧W n σ' H') ?_ m0 ⟨σ,H,I,w0⟩)
 rintro n s1 ⟨σ1,H1,I1,w1⟩
 refine wpAny_passesOwn hp (thn (hc pins s1 σ1 H1 _ I1 (turn n σ1 H1 w1)) fun b s2 h0z=>?_);obtain ⟨H2,I2,q2⟩:=h0z;cases b with
 | true=>
  obtain ⟨N,hN,q2⟩:=q2;rw [if_pos rfl];refine wpAny_passesOwn hp (thn (hb pins s2 σ1 H2 _ I2 q2) fun f s3 q3=>?_);cases f with
  | next=>
   obtain ⟨σ3,H3,I3,n3⟩:=q3;obtain ⟨m',hm,w3⟩:=hN σ3 H3 n3;exact ⟨m',hm,σ3,H3,I3,w3⟩
  | cont=>
   obtain ⟨σ3,H3,I3,n3⟩:=q3;obtain ⟨m',hm,w3⟩:=hN σ3 H3 n3;exact ⟨m',hm,σ3,H3,I3,w3⟩
  | brk=>exact q3
  | ret v=>exact q3
 | false=>
  rw [if_neg Bool.false_ne_true];exact wpAny_execs_nil ⟨σ1,H2,I2,q2⟩
end
structure It where
 go:Nat→Hp→Prop
 yld:Nat→Hp→V→Hp→Prop
 stop:Nat→Hp→Prop
def FpOk (X:Cx) (pins:List (Addr×Obj)) (H:Hp) (b:Addr):Prop:=
 H b=none∧b≠X.env.locals∧b ∉ X.fs∧(b∈X.ex∨X.s₀.heap.objs.size≤b)∧(∀x c,X.env.cells.lookup x=some c→c≠b)∧ ∀p∈X.pn++pins,p.1≠b
theorem Inv.fpOk {X:Cx} {pins:List (Addr×Obj)} {σ:St} {H H':Hp} {s:Shared} {b:Addr} (I:Inv X pins σ H s) (hb:s.heap.objs.size≤b) (hn:H' b=none):FpOk X pins H' b:=by
 refine ⟨hn,Nat.ne_of_gt (Nat.lt_of_lt_of_le I.lt hb),I.nofs hb,.inr (Nat.le_trans I.sz hb),fun x c e z=>?_,fun p hp z=>?_⟩
 ·obtain ⟨v,q⟩:=I.cell x c e
  exact absurd (Nat.lt_of_lt_of_le q.lt (by rw [z];exact hb)) (Nat.lt_irrefl _)
 ·exact absurd (Nat.lt_of_lt_of_le (lt_size (I.pin p hp).1) (by rw [z];exact hb)) (Nat.lt_irrefl _)
structure Turn (P:Program) (w:World) (K:Frag) (tg:Expr) (J:It) (fp:List Addr) (it:Addr) (tn:Nat→Heap→Prop):Prop where
 mem:it∈fp
 obj: ∀i h,tn i h→ ∀b∈fp,∃o,h.get? b=some o∧ ∀v,o.data≠ .cell v
 keep: ∀i h h',tn i h→(∀b∈fp,∀o,h.get? b=some o→h'.get? b=some o)→tn i h'
 item: ∀ (X:Cx),X.prog=P→X.w=w→X.K=K→X.calm=true→ ∀ (i:Nat) (pins:List (Addr×Obj)) (s:Shared) (σ:St) (H:Hp) (E:Value→Shared→Prop),Inv X pins σ H s→(∀b∈fp,FpOk X pins H b)→tn i s.heap→J.go i H→
  wpAny (model P w) X.A (pyNext (.ref it)) (fun r s1=>∃u,r=some u∧
   wpAny (model P w) X.A (letOwnedTupleGo tg (.ref it) u) (fun _ s2=>∃x H',Inv X pins σ H' s2∧RelV x u∧J.yld i H x H'∧tn (i+1) s2.heap∧ ∀b∈fp,H' b=none) E s1) E s
 done: ∀ (X:Cx),X.prog=P→X.w=w→X.K=K→X.calm=true→ ∀ (i:Nat) (pins:List (Addr×Obj)) (s:Shared) (σ:St) (H:Hp) (E:Value→Shared→Prop),Inv X pins σ H s→(∀b∈fp,FpOk X pins H b)→tn i s.heap→J.stop i H→
  wpAny (model P w) X.A (pyNext (.ref it)) (fun r s1=>r=none∧Inv X pins σ H s1) E s
 self: ∀ (A:Around) (i:Nat) (s:Shared) (Q:Value→Shared→Prop) (E:Value→Shared→Prop),tn i s.heap→Q (.ref it) s→wpAny (model P w) A (pyIter (.ref it)) Q E s
abbrev TI:=St→Hp→(It→Hp→Prop)→Prop
def PIE (X:Cx) (pins:List (Addr×Obj)) (σ:St) (tg:Expr) (R:It→Hp→Prop) (itv:Value) (s2:Shared):Prop:=
 ∃ (it:Addr) (fp:List Addr) (tn:Nat→Heap→Prop) (J:It) (H':Hp),itv= .ref it∧Inv X pins σ H' s2∧Turn X.prog X.w X.K tg J fp it tn∧tn 0 s2.heap∧(∀b∈fp,FpOk X pins H' b)∧R J H'
def PI (X:Cx) (tg iter:Expr) (wi:TI):Prop:=
 ∀ (pins:List (Addr×Obj)) (s:Shared) (σ:St) (H:Hp) (R:It→Hp→Prop),Inv X pins σ H s→wi σ H R→
  wpAny (model X.prog X.w) X.A (eval iter X.env) (fun v s1=>wpAny (model X.prog X.w) X.A (pyIter v) (PIE X pins σ tg R) X.xe s1) X.xe s
theorem Nt {M:Model} {A:Around} {E:Value→Shared→Prop} {s:Shared} {tg:Expr} {it:Addr} {u:Value} {o:Obj} {n:String} {vs:Array Value} {Q:Unit→Shared→Prop} (ho:s.heap.get? it=some o) (hc:o.cls= .type n) (hd:o.data= .fields vs)
  (hn:["enumerate","zip","dict_itemiterator","dict_reverseitemiterator","odict_iterator","itertools.zip_longest","itertools.pairwise"].contains n=false) (hQ:Q () s):wpAny M A (letOwnedTupleGo tg (.ref it) u) Q E s:=by
 unfold letOwnedTupleGo;cases tg <;> first
  | exact wpAny_pure hQ
  | (cases u <;> first
    | exact wpAny_pure hQ
    | (refine wpAny_bind (wpAny_load ho ?_);rw [hc,hd];show wpAny M A (if (["enumerate","zip","dict_itemiterator","dict_reverseitemiterator","odict_iterator","itertools.zip_longest","itertools.pairwise"].contains n && vs[0]?==some (rawInt _))=true then _ else _) Q E s;rw [if_neg (by intro h;rw [hn,Bool.false_and] at h;cases h)];exact wpAny_pure hQ))
noncomputable def Itl (K:Frag) (a:Addr):It:=
 ⟨fun i H=>∃xs x,SqL K H a xs∧xs[i]?=some x,fun i H x H'=>H'=H∧ ∀xs,SqL K H a xs→xs[i]?=some x,fun i H=>∃xs,SqL K H a xs∧xs.length≤i⟩
noncomputable def Itt (K:Frag) (a:Addr):It:=
 ⟨fun i H=>∃xs x,SqT K H a xs∧xs[i]?=some x,fun i H x H'=>H'=H∧ ∀xs,SqT K H a xs→xs[i]?=some x,fun i H=>∃xs,SqT K H a xs∧xs.length≤i⟩
noncomputable def Itr (lo:Int) (n:Nat):It:=⟨fun i _=>i < n,fun i H x H'=>H'=H∧x= .int (lo+i),fun i _=>n≤i⟩
theorem Hj {P:Program} {w:World} {K:Frag} {tg:Expr} (a it:Addr):Turn P w K tg (Itl K a) [it] it (fun i h=>h.IsListIter it a i) where
 mem:=by simp
 obj:=fun i h st b hb=>by
  have e:b=it:=by simpa using hb
  subst e;obtain ⟨o,e,c,d⟩:=st;exact ⟨o,e,fun v z=>by rw [d] at z;cases z⟩
 keep:=fun i h h' st k=>st.at fun o e=>k it (by simp) o e
 item:=by
  intro X hP hw hK hc i pins s σ H E I hf st hg;subst hP hw hK;obtain ⟨xs,x,hq,hx⟩:=hg;obtain ⟨its,rv,p,hz⟩:=I.list hq;obtain ⟨u,hu,ru⟩:=rv.get hx;obtain ⟨f0,f1,f2,f3,f4,f5⟩:=hf it (by simp);refine wpAny_pyNext_list_item st p.isList (x:=u) (by simpa using hu) fun h' st' sb=>?_
  have I1:Inv X pins σ H { s with heap:=h' }:=I.turned (t':=s.toks) (fun b o hb e=>(sb.2 b hb).trans e) f0 f1 f3 f4 f5;obtain ⟨o,e,c,d⟩:=id st';exact ⟨u,rfl,Nt (s:={ s with heap:=h' }) e c d (by decide) ⟨x,H,I1,ru,⟨rfl,fun ys hy=>by rw [I.list_inj hy hq];exact hx⟩,st',fun b hb=>(hf b hb).1⟩⟩
 done:=by
  intro X hP hw hK hc i pins s σ H E I hf st hg;subst hP hw hK;obtain ⟨xs,hq,hx⟩:=hg;obtain ⟨its,rv,p,hz⟩:=I.list hq;obtain ⟨f0,f1,f2,f3,f4,f5⟩:=hf it (by simp);have hl:=rv.length;exact wpAny_pyNext_list_end (I.ok.hd hc) st p.isList (by simp;omega) fun h' eb=>⟨rfl,I.turned (t':=s.toks) (fun b o hb e=>eb b o hb e) f0 f1 f3 f4 f5⟩
 self:=fun _ _ _ _ _ st h=>wpAny_pyIter_listiter st h
theorem Gg {P:Program} {w:World} {K:Frag} {tg:Expr} (a it:Addr):Turn P w K tg (Itt K a) [it] it (fun i h=>h.IsTupleIter it a i) where
 mem:=by simp
 obj:=fun i h st b hb=>by
  have e:b=it:=by simpa using hb
  subst e;obtain ⟨o,e,c,d⟩:=st;exact ⟨o,e,fun v z=>by rw [d] at z;cases z⟩
 keep:=fun i h h' st k=>st.at fun o e=>k it (by simp) o e
 item:=by
  intro X hP hw hK hc i pins s σ H E I hf st hg;subst hP hw hK;obtain ⟨xs,x,hq,hx⟩:=hg;obtain ⟨its,rv,p,hz⟩:=I.tuple hq;obtain ⟨u,hu,ru⟩:=rv.get hx;obtain ⟨f0,f1,f2,f3,f4,f5⟩:=hf it (by simp);refine wpAny_pyNext_tuple_item st (show s.heap.IsTuple a its.toArray from p) (x:=u) (by simpa using hu) fun h' st' sb=>?_
  have I1:Inv X pins σ H { s with heap:=h' }:=I.turned (t':=s.toks) (fun b o hb e=>(sb.2 b hb).trans e) f0 f1 f3 f4 f5;obtain ⟨o,e,c,d⟩:=id st';exact ⟨u,rfl,Nt (s:={ s with heap:=h' }) e c d (by decide) ⟨x,H,I1,ru,⟨rfl,fun ys hy=>by rw [I.tuple_inj hy hq];exact hx⟩,st',fun b hb=>(hf b hb).1⟩⟩
 done:=by
  intro X hP hw hK hc i pins s σ H E I hf st hg;subst hP hw hK;obtain ⟨xs,hq,hx⟩:=hg;obtain ⟨its,rv,p,hz⟩:=I.tuple hq;obtain ⟨f0,f1,f2,f3,f4,f5⟩:=hf it (by simp);have hl:=rv.length;exact wpAny_pyNext_tuple_end (I.ok.hd hc) st (show s.heap.IsTuple a its.toArray from p) (by simp;omega) fun h' eb=>⟨rfl,I.turned (t':=s.toks) (fun b o hb e=>eb b o hb e) f0 f1 f3 f4 f5⟩
 self:=fun _ _ _ _ _ st h=>wpAny_pyIter_tupleiter st h
theorem Gh {P:Program} {w:World} {K:Frag} {tg:Expr} (it:Addr) (lo:Int) (n:Nat):Turn P w K tg (Itr lo n) [it] it (fun i h=>IsRangeIter h it (lo+(i:Nat)*1) ((n:Int) - (i:Nat)) 1) where
 mem:=by simp
 obj:=fun i h st b hb=>by
  have e:b=it:=by simpa using hb
  subst e;exact ⟨_,st,fun v z=>by
   have z':Data.fields _=Data.cell v:=z;cases z'⟩
 keep:=fun i h h' st k=>k it (by simp) _ st
 item:=by
  intro X hP hw hK hc i pins s σ H E I hf st hg;subst hP hw hK;obtain ⟨f0,f1,f2,f3,f4,f5⟩:=hf it (by simp);have W:=Walks.range (prog:=X.prog) (w:=X.w) (I.ok.hd hc) it lo 1 n;refine W.item i s _ _ hg st fun v h' tk hv st' kk=>?_
  obtain ⟨t,rfl⟩:=hv;have I1:Inv X pins σ H { s with heap:=h',toks:=tk }:=I.turned (fun b o hb e=>kk b o (by simpa using hb) e) f0 f1 f3 f4 f5;refine ⟨_,rfl,Nt (s:={ s with heap:=h',toks:=tk }) (n:="range_iterator") st' rfl rfl (by decide) ⟨.int (lo+i),H,I1,⟨t,?_⟩,⟨rfl,rfl⟩,st',fun b hb=>(hf b hb).1⟩⟩;rw [Int.mul_one]
 done:=by
  intro X hP hw hK hc i pins s σ H E I hf st hg;subst hP hw hK;obtain ⟨f0,f1,f2,f3,f4,f5⟩:=hf it (by simp);exact wpAny_pyNext_range_end (I.ok.hd hc) st (by have:n≤i:=hg;omega) fun h' eb=>⟨rfl,I.turned (t':=s.toks) (fun b o hb e=>eb b o hb e) f0 f1 f3 f4 f5⟩
 self:=fun _ _ _ _ _ st h=>wpAny_pyIter_rangeiter st h
end L2
namespace L2
open PySem PySem.Spec PyProof.Rows
section
variable {X:Cx} {tg:Expr}
def iList (K:Frag) (tl:TE):TI:=fun σ H R=>tl σ H fun x H1=>∃a,x= .ref a∧(∃xs,SqL K H1 a xs)∧R (Itl K a) H1
def iTup (K:Frag) (tl:TE):TI:=fun σ H R=>tl σ H fun x H1=>∃a,x= .ref a∧(∃xs,SqT K H1 a xs)∧R (Itt K a) H1
theorem Nu {l:Expr} {tl:TE} (hl:PE X l tl):PI X tg l (iList X.K tl):=by
 intro pins s σ H R I h;refine thn (hl pins s σ H _ I h) fun v s1 h0z=>?_
 obtain ⟨x,H1,I1,r1,q1⟩:=h0z;obtain ⟨a,e,⟨xs,hq⟩,q⟩:=q1;subst e;cases r1;obtain ⟨its,rv,p,hz⟩:=I1.list hq;refine wpAny_pyIter_list p.isList ?_;refine ⟨s1.heap.objs.size,[s1.heap.objs.size],_,_,H1,rfl,I1.kept (t':=s1.toks) fun b o e=>get?_push_of_some _ e,Hj a _,⟨_,Heap.get?_push_size _ rfl,rfl,rfl⟩,fun b hb=>?_,q⟩;have e:b=s1.heap.objs.size:=by simpa using hb
 subst e;exact I1.fpOk (Nat.le_refl _) (I1.hok.fresh (Nat.le_refl _))
theorem Qy {l:Expr} {tl:TE} (hl:PE X l tl):PI X tg l (iTup X.K tl):=by
 intro pins s σ H R I h;refine thn (hl pins s σ H _ I h) fun v s1 h0z=>?_
 obtain ⟨x,H1,I1,r1,q1⟩:=h0z;obtain ⟨a,e,⟨xs,hq⟩,q⟩:=q1;subst e;cases r1;obtain ⟨its,rv,p,hz⟩:=I1.tuple hq;refine wpAny_pyIter_tuple (show s1.heap.IsTuple a its.toArray from p) ?_;refine ⟨s1.heap.objs.size,[s1.heap.objs.size],_,_,H1,rfl,I1.kept (t':=s1.toks) fun b o e=>get?_push_of_some _ e,Gg a _,⟨_,Heap.get?_push_size _ rfl,rfl,rfl⟩,fun b hb=>?_,q⟩;have e:b=s1.heap.objs.size:=by simpa using hb
 subst e;exact I1.fpOk (Nat.le_refl _) (I1.hok.fresh (Nat.le_refl _))
theorem K1 {pins:List (Addr×Obj)} {σ:St} {H:Hp} {s:Shared} {R:It→Hp→Prop} {E:Value→Shared→Prop} {lo hi:Int} {t u v:Tok} {tk:Nat} (I:Inv X pins σ H s) (h1: -(2 ^ 62)≤lo) (h2:lo < 2 ^ 62) (h3: -(2 ^ 62)≤hi) (h4:hi < 2 ^ 62)
  (q:R (Itr lo (hi - lo).toNat) H):wpAny (model X.prog X.w) X.A (pyIter (.ref s.heap.objs.size)) (PIE X pins σ tg R) E { s with heap:=s.heap.push { cls:= .type "range",data:= .fields #[.int lo t,.int hi u,.int 1 v] },toks:=tk }:=by
 refine wpAny_pyIter_range (IsRange.new ..) (small_one h1 h2 h3 h4) ?_;have I1:Inv X pins σ H { s with heap:=s.heap.push { cls:= .type "range",data:= .fields #[.int lo t,.int hi u,.int 1 v] },toks:=tk }:=I.kept fun b o e=>get?_push_of_some _ e
 refine ⟨(s.heap.push { cls:= .type "range",data:= .fields #[.int lo t,.int hi u,.int 1 v] }).objs.size,[(s.heap.push { cls:= .type "range",data:= .fields #[.int lo t,.int hi u,.int 1 v] }).objs.size],_,_,H,rfl,
  I1.kept (t':=tk) fun b o e=>get?_push_of_some _ e,Gh _ lo (hi - lo).toNat,?_,fun b hb=>?_,q⟩
 ·have e1:lo+((0:Nat):Int)*1=lo:=by simp
  have e2:(((hi - lo).toNat:Nat):Int) - ((0:Nat):Int)=Builtin.Range.rangeSize lo hi 1:=by rw [rangeSize_one];split <;> omega
  show IsRangeIter _ _ (lo+((0:Nat):Int)*1) ((((hi - lo).toNat:Nat):Int) - ((0:Nat):Int)) 1
  rw [e1,e2];exact Heap.get?_push_size _ rfl
 ·have e:b=(s.heap.push { cls:= .type "range",data:= .fields #[.int lo t,.int hi u,.int 1 v] }).objs.size:=by simpa using hb
  subst e;exact I1.fpOk (Nat.le_refl _) (I1.hok.fresh (Nat.le_refl _))
def iRng1 (ta:TA):TI:=fun σ H R=>ta σ H fun vs H1=>∃j:Int,vs=[.int j]∧ -(2 ^ 62)≤j∧j < 2 ^ 62∧R (Itr 0 j.toNat) H1
theorem Hk {a:Expr} {ta:TA} {p pos:Pos} (hg:Gl X "range") (hm:X.mg "range"=none) (ha:PA X [a] ta) (hs:starEach [a] X.env=[(false,eval a X.env)]:=by rfl):PI X tg (.Call (.Name "range" p) [a] [] pos) (iRng1 ta):=by
 intro pins s σ H R I h;refine Call_ (zw I hg hm boot_range (PyProof.Rows.callWith_type1 (thn (ha pos pins s σ H _ I h) fun us s1 h0z=>?_) hs rfl));obtain ⟨vs,H1,I1,r1,q1⟩:=h0z;obtain ⟨j,e,q1,q2,q⟩:=q1;subst e;cases r1 with
 | cons r rr=>
  cases rr;obtain ⟨t,rfl⟩:=r;exact call_range_1 (K1 I1 (by omega) (by omega) q1 q2 (by simpa using q))
def tFor (wi:TI) (g:TG) (tb:TS):TS:=fun D σ H=>wi σ H fun J H1=>∃W:Nat→Nat→St→Hp→Prop,(∃m,W 0 m σ H1)∧ ∀i m σ H,W i m σ H→
 (J.stop i H∧D.nx σ H)∨(J.go i H∧ ∃N:St→Hp→Prop,(∀σ' H',N σ' H'→ ∃m',m' < m∧W (i+1) m' σ' H')∧ ∀x H',J.yld i H x H'→g x σ H' fun σ2 H2=>tb { D with nx:=N,ct:=N,bk:=D.nx } σ2 H2)
noncomputable def pinsAt (fp:List Addr) (h:Heap):List (Addr×Obj):=fp.filterMap fun b=>(h.get? b).map fun o=>(b,o)
theorem gp {fp:List Addr} {h:Heap} {b:Addr} {o:Obj} (hb:b∈fp) (e:h.get? b=some o):(b,o)∈pinsAt fp h:=List.mem_filterMap.mpr ⟨b,hb,by rw [e];rfl⟩
theorem wy {fp:List Addr} {h:Heap} {p:Addr×Obj} (hp:p∈pinsAt fp h):p.1∈fp∧h.get? p.1=some p.2:=by
 obtain ⟨b,hb,e⟩:=List.mem_filterMap.mp hp;cases q:h.get? b with
 | none=>rw [q] at e;cases e
 | some o=>
  rw [q] at e;have e':(b,o)=p:=Option.some.inj e;subst e';exact ⟨hb,q⟩
theorem Inv.pinned {pins:List (Addr×Obj)} {σ:St} {H:Hp} {s:Shared} {fp:List Addr} (I:Inv X pins σ H s) (hf: ∀b∈fp,FpOk X pins H b) (ho: ∀b∈fp,∃o,s.heap.get? b=some o∧ ∀v,o.data≠ .cell v):Inv X (pins++pinsAt fp s.heap) σ H s:=
 I.pins_of fun p hp=>(List.mem_append.mp hp).elim (fun z=>I.pin p (mem_append_right _ z)) fun z=>by
  obtain ⟨hb,e⟩:=wy z;obtain ⟨f0,f1,f2,_⟩:=hf p.1 hb;obtain ⟨o,e',d⟩:=ho p.1 hb;rw [e] at e';cases e';exact ⟨e,f0,f1,f2,d⟩
theorem Inv.unpinned {pins pl:List (Addr×Obj)} {σ:St} {H:Hp} {s:Shared} (I:Inv X (pins++pl) σ H s):Inv X pins σ H s:=I.pins_of fun p hp=>I.pin p (mem_append_right _ (mem_append_left _ hp))
theorem E5 {iter:Expr} {body:List Stmt} {wi:TI} {g:TG} {tb:TS} {pos:Pos} (hp:PassesOwn (model X.prog X.w) X.A X.env X.xe) (hc:X.calm=true) (hi:PI X tg iter wi) (hg:PG X tg g) (hb:PSs X body tb)
  (hs: ∀x,foldedSetIterable iter X.env x=pure x:=by intro _;rfl):PS X (.For tg iter body [] pos) (tFor wi g tb):=by
 intro pins s σ H D I h;refine wpAny_For (thn (hi pins s σ H _ I h) fun v s1 h1=>thn h1 fun itv s2 h2=>?_) hs;obtain ⟨it,fp,tn,J,H2,e,I2,T,st2,f2,W,⟨m0,w0⟩,turn⟩:=h2;subst e;have stat: ∀ {H':Hp},(∀b∈fp,H' b=none)→ ∀b∈fp,FpOk X pins H' b:=fun hn b hb=>⟨hn b hb,(f2 b hb).2⟩
 refine codeAny_forLoop_any (fun n s'=>∃i σ' H',Inv X pins σ' H' s'∧tn i s'.heap∧(∀b∈fp,H' b=none)∧W i n σ' H') ?_ m0 ⟨0,σ,H2,I2,st2,fun b hb=>(f2 b hb).1,w0⟩
 rintro n s3 ⟨i,σ3,H3,I3,st3,fr3,w3⟩
 rcases turn i n σ3 H3 w3 with ⟨stop,qn⟩ | ⟨go,N,hN,step⟩
 ·refine wpAny_passesOwn hp (thn (T.done X rfl rfl rfl hc i pins s3 σ3 H3 X.xe I3 (stat fr3) st3 stop) fun r s4 h0z=>?_)
  obtain ⟨hr,I4⟩:=h0z;subst hr;exact wpAny_execs_nil ⟨σ3,H3,I4,qn⟩
 ·refine wpAny_passesOwn hp (thn (T.item X rfl rfl rfl hc i pins s3 σ3 H3 X.xe I3 (stat fr3) st3 go) fun r s4 h0z=>?_)
  obtain ⟨u,hr,h4⟩:=h0z;subst hr;refine wpAny_passesOwn hp (thn h4 fun _ s5 h0z=>?_);obtain ⟨x,H5,I5,r5,y5,st5,fr5⟩:=h0z;have I5':=I5.pinned (stat fr5) (T.obj _ _ st5);refine wpAny_passesOwn hp (thn (hg _ s5 σ3 H5 x u _ I5' r5 (step x H5 y5)) fun _ s6 h0z=>?_);obtain ⟨σ6,H6,I6,q6⟩:=h0z;refine wpAny_passesOwn hp (thn (hb _ s6 σ6 H6 _ I6 q6) fun f s7 q7=>?_);have again: ∀ {σ7:St} {H7:Hp},Inv X (pins++pinsAt fp s5.heap) σ7 H7 s7→N σ7 H7→ ∃m,m < n∧ ∃i σ' H',Inv X pins σ' H' s7∧tn i s7.heap∧(∀b∈fp,H' b=none)∧W i m σ' H':=fun {σ7 H7} I7 n7=>by
   obtain ⟨m',hm,w7⟩:=hN σ7 H7 n7;refine ⟨m',hm,i+1,σ7,H7,I7.unpinned,T.keep _ _ _ st5 fun b hb o e=>(I7.pin (b,o) (mem_append_right _ (mem_append_right _ (gp hb e)))).1,fun b hb=>?_,w7⟩;obtain ⟨o,e,d⟩:=T.obj _ _ st5 b hb;exact (I7.pin (b,o) (mem_append_right _ (mem_append_right _ (gp hb e)))).2.1
  cases f with
  | next=>obtain ⟨σ7,H7,I7,n7⟩:=q7;exact again I7 n7
  | cont=>obtain ⟨σ7,H7,I7,n7⟩:=q7;exact again I7 n7
  | brk=>obtain ⟨σ7,H7,I7,q7⟩:=q7;exact ⟨σ7,H7,I7.unpinned,q7⟩
  | ret v=>obtain ⟨x7,σ7,H7,I7,r7,q7⟩:=q7;exact ⟨x7,σ7,H7,I7.unpinned,r7,q7⟩
end
end L2
namespace L2
open PySem PySem.Spec PyProof.Rows
abbrev R2:=V→V→Hp→VK→Prop
def OpR (X:Cx) (f:Value→Value→Sem Value) (r:R2):Prop:=
 ∀ (pins:List (Addr×Obj)) (s:Shared) (σ:St) (H:Hp) (x y:V) (v u:Value) (Q:VK),Inv X pins σ H s→RelV x v→RelV y u→r x y H Q→
  wpAny (model X.prog X.w) X.A (f v u) (EP X pins σ Q) X.xe s
def UnR (X:Cx) (f:Value→Sem Value) (r:V→Hp→VK→Prop):Prop:=
 ∀ (pins:List (Addr×Obj)) (s:Shared) (σ:St) (H:Hp) (x:V) (v:Value) (Q:VK),Inv X pins σ H s→RelV x v→r x H Q→
  wpAny (model X.prog X.w) X.A (f v) (EP X pins σ Q) X.xe s
def CallR (X:Cx) (f:Value) (r:List V→Hp→VK→Prop):Prop:=
 ∀ (pins:List (Addr×Obj)) (s:Shared) (σ:St) (H:Hp) (xs:List V) (us:List Value) (Q:VK),Inv X pins σ H s→Vals xs us→r xs H Q→
  wpAny (model X.prog X.w) X.A (call f us) (EP X pins σ Q) X.xe s
def TruR (X:Cx) (r:V→Hp→(Bool→Hp→Prop)→Prop):Prop:=
 ∀ (pins:List (Addr×Obj)) (s:Shared) (σ:St) (H:Hp) (x:V) (v:Value) (Q:Bool→Hp→Prop),Inv X pins σ H s→RelV x v→r x H Q→
  wpAny (model X.prog X.w) X.A (truthy v) (TP X pins σ Q) X.xe s
def tOp (r:R2) (ta tb:TE):TE:=fun σ H Q=>ta σ H fun x H1=>tb σ H1 fun y H2=>r x y H2 Q
def tUn (r:V→Hp→VK→Prop) (ta:TE):TE:=fun σ H Q=>ta σ H fun x H1=>r x H1 Q
def rI (C:Int→Int→Prop) (g:Int→Int→V):R2:=fun x y H Q=>∃i j,x= .int i∧y= .int j∧C i j∧Q (g i j) H
def rI0 (g:Int→Int→V):R2:=fun x y H Q=>∃i j,x= .int i∧y= .int j∧Q (g i j) H
def rU (g:Int→V):V→Hp→VK→Prop:=fun x H Q=>∃i,x= .int i∧Q (g i) H
section
variable {X:Cx} {a b c:Expr} {ta tb tc:TE} {pos:Pos}
theorem binT (ha:PE X a ta) (hb:PE X b tb) {pins:List (Addr×Obj)} {s:Shared} {σ:St} {H:Hp} {R:V→V→Hp→Prop} (I:Inv X pins σ H s)
  (h:ta σ H fun x H1=>tb σ H1 fun y H2=>R x y H2) {Q:Value→Shared→Prop} {f:Value→Value→Sem Value}
  (hf: ∀v u s2 x y H2,Inv X pins σ H2 s2→RelV x v→RelV y u→R x y H2→wpAny (model X.prog X.w) X.A (f v u) Q X.xe s2):
  wpAny (model X.prog X.w) X.A (eval a X.env) (fun v s₁=>wpAny (model X.prog X.w) X.A (eval b X.env) (fun u s₂=>wpAny (model X.prog X.w) X.A (f v u) Q X.xe s₂) X.xe s₁) X.xe s:=by
 refine thn (ha pins s σ H _ I h) fun v s1 h0z=>?_
 obtain ⟨x,H1,I1,r1,q1⟩:=h0z;refine thn (hb pins s1 σ H1 _ I1 q1) fun u s2 h0z=>?_
 obtain ⟨y,H2,I2,r2,q2⟩:=h0z;exact hf v u s2 x y H2 I2 r1 r2 q2
theorem K2 {op:Operator} {r:R2} (ho:OpR X (binaryOp op) r) (ha:PE X a ta) (hb:PE X b tb):PE X (.BinOp a op b pos) (tOp r ta tb):=by
 intro pins s σ H Q I h;exact wpAny_BinOp (binT ha hb I h fun v u s2 x y H2 I2 rx ry q=>ho pins s2 σ H2 x y v u Q I2 rx ry q)
theorem Tw {op:UnaryOp} {r:V→Hp→VK→Prop} (ho:UnR X (unaryOp op) r) (ha:PE X a ta):PE X (.UnaryOp op a pos) (tUn r ta):=by
 intro pins s σ H Q I h;exact UnaryOp_ (thn (ha pins s σ H _ I h) fun v s1 ⟨x,H1,I1,r1,q1⟩=>ho pins s1 σ H1 x v Q I1 r1 q1)
theorem opI {f:Value→Value→Sem Value} {C:Int→Int→Prop} {g:Int→Int→Int}
  (rule: ∀ (i j:Int) (t u:Tok) (s:Shared) (Q:Value→Shared→Prop) (E:Value→Shared→Prop),C i j→Q (.int (g i j) s.toks) { s with toks:=s.toks+1 }→wpAny (model X.prog X.w) X.A (f (.int i t) (.int j u)) Q E s):
  OpR X f (rI C fun i j=> .int (g i j)):=by
 intro pins s σ H x y v u Q I rx ry h;obtain ⟨i,j,rfl,rfl,hc,q⟩:=h;obtain ⟨t,rfl⟩:=rx;obtain ⟨t',rfl⟩:=ry;exact rule i j t t' s _ _ hc ⟨.int (g i j),H,I.tok _,⟨_,rfl⟩,q⟩
theorem opI0 {f:Value→Value→Sem Value} {g:Int→Int→Int}
  (rule: ∀ (i j:Int) (t u:Tok) (s:Shared) (Q:Value→Shared→Prop) (E:Value→Shared→Prop),Q (.int (g i j) s.toks) { s with toks:=s.toks+1 }→wpAny (model X.prog X.w) X.A (f (.int i t) (.int j u)) Q E s):
  OpR X f (rI0 fun i j=> .int (g i j)):=by
 intro pins s σ H x y v u Q I rx ry h;obtain ⟨i,j,rfl,rfl,q⟩:=h;obtain ⟨t,rfl⟩:=rx;obtain ⟨t',rfl⟩:=ry;exact rule i j t t' s _ _ ⟨.int (g i j),H,I.tok _,⟨_,rfl⟩,q⟩
theorem opB0 {f:Value→Value→Sem Value} {g:Int→Int→Bool}
  (rule: ∀ (i j:Int) (t u:Tok) (s:Shared) (Q:Value→Shared→Prop) (E:Value→Shared→Prop),Q (.bool (g i j)) s→wpAny (model X.prog X.w) X.A (f (.int i t) (.int j u)) Q E s):
  OpR X f (rI0 fun i j=> .bl (g i j)):=by
 intro pins s σ H x y v u Q I rx ry h;obtain ⟨i,j,rfl,rfl,q⟩:=h;obtain ⟨t,rfl⟩:=rx;obtain ⟨t',rfl⟩:=ry;exact rule i j t t' s _ _ ⟨.bl (g i j),H,I,rfl,q⟩
def CDiv (i j:Int):Prop:=0 < j∧j < 1073741824
def CPow (i j:Int):Prop:=0≤j∧j≤1000000∧i.natAbs < 2 ^ 64
def CMul (i j:Int):Prop:=(-(2 ^ 64) < i∧i < 2 ^ 64)∨(-(2 ^ 64) < j∧j < 2 ^ 64)
theorem CMul.ok {i j:Int} (h:CMul i j):IntMulOk i j:=by
 rcases h with ⟨h1,h2⟩ | ⟨h1,h2⟩
 ·exact .of_left (intBits_le_64 h1 h2)
 ·exact .of_right (intBits_le_64 h1 h2)
theorem Hl:OpR X (binaryOp .Add) (rI0 fun i j=> .int (i+j)):=opI0 fun _ _ _ _ _ _ _ q=>add_int q
theorem ii:OpR X (binaryOp .Sub) (rI0 fun i j=> .int (i - j)):=opI0 fun _ _ _ _ _ _ _ q=>sub_int q
theorem vo:OpR X (binaryOp .Mult) (rI CMul fun i j=> .int (i*j)):=opI fun _ _ _ _ _ _ _ hc q=>mul_int q hc.ok
theorem jl:OpR X (binaryOp .FloorDiv) (rI CDiv fun i j=> .int (i / j)):=opI fun i j _ _ _ _ _ hc q=>by
 have h1:(0:Int) < j:=hc.1;have h2:j < 1073741824:=hc.2;exact floordiv_int (by omega) (by rw [Int.fdiv_eq_ediv_of_nonneg i (by omega)];exact q) (.inl (PyProof.noPylong_small (by omega)))
theorem cj:OpR X (binaryOp .Mod) (rI (fun _ j=>0 < j) fun i j=> .int (i % j)):=opI fun i j _ _ _ _ _ hc q=>by
 have h1:(0:Int) < j:=hc;exact mod_int' (by omega) (by rw [Int.fmod_eq_emod_of_nonneg i (by omega)];exact q)
theorem E6:OpR X (binaryOp .Pow) (rI CPow fun i j=> .int (i ^ j.toNat)):=opI fun _ _ _ _ _ _ _ hc q=>pow_int_small hc.1 hc.2.1 hc.2.2 q
theorem unI {f:Value→Sem Value} {g:Int→Int}
  (rule: ∀ (i:Int) (t:Tok) (s:Shared) (Q:Value→Shared→Prop) (E:Value→Shared→Prop),Q (.int (g i) s.toks) { s with toks:=s.toks+1 }→wpAny (model X.prog X.w) X.A (f (.int i t)) Q E s):
  UnR X f (rU fun i=> .int (g i)):=by
 intro pins s σ H x v Q I rx h;obtain ⟨i,rfl,q⟩:=h;obtain ⟨t,rfl⟩:=rx;exact rule i t s _ _ ⟨.int (g i),H,I.tok _,⟨_,rfl⟩,q⟩
theorem Qz:UnR X (unaryOp .USub) (rU fun i=> .int (-i)):=unI fun _ _ _ _ _ q=>neg_int q
end
noncomputable def scal:V→V→Bool
 | .non,.non=>true | .non,.int _=>true | .int _,.non=>true | .non,.bl _=>true | .bl _,.non=>true | .non,.str _=>true | .str _,.non=>true
 | .int _,.int _=>true | .bl _,.bl _=>true | .str _,.str _=>true | .byt _,.byt _=>true
 | .int _,.str _=>true | .str _,.int _=>true | .bl _,.str _=>true | .str _,.bl _=>true
 | _,_=>false
def rEq:R2:=fun x y H Q=>scal x y=true∧Q (.bl (decide (x=y))) H
def rNe:R2:=fun x y H Q=>scal x y=true∧Q (.bl (!decide (x=y))) H
theorem Dp {i j:Int}:decide (V.int i=V.int j)=(i==j):=by
 rw [Bool.eq_iff_iff];simp
theorem Hm {i j:Bool}:decide (V.bl i=V.bl j)=(i==j):=by
 rw [Bool.eq_iff_iff];simp
theorem Dq {i j:Str}:decide (V.str i=V.str j)=(i==j):=by
 rw [Bool.eq_iff_iff];simp
theorem Hn {i j:Array UInt8}:decide (V.byt i=V.byt j)=(i.toList==j.toList):=by
 rw [Bool.eq_iff_iff];cases i;cases j;simp
section
variable {X:Cx} {a b c:Expr} {ta tb tc:TE} {pos:Pos}
theorem c7 {pins:List (Addr×Obj)} {σ:St} {H:Hp} {s:Shared} {Q:VK} {k k':Bool} (I:Inv X pins σ H s) (q:Q (.bl k) H) (e:k=k'):EP X pins σ Q (.bool k') s:=by
 subst e;exact ⟨.bl k,H,I,rfl,q⟩
theorem Tx:OpR X (compareOp .Eq) rEq:=by
 intro pins s σ H x y v u Q I rx ry h;obtain ⟨hs,q⟩:=h;cases x with
 | non=>
  cases rx;cases y with
  | non=>cases ry;exact PySem.EqNone.eq_none_none (c7 I q (by simp))
  | bl j=>cases ry;exact PySem.EqNone.eq_none_bool (c7 I q (by simp))
  | int j=>obtain ⟨t',rfl⟩:=ry;exact PySem.EqNone.eq_none_int (c7 I q (by simp))
  | str j=>obtain ⟨t',rfl⟩:=ry;exact PySem.EqNone.eq_none_str (c7 I q (by simp))
  | _=>exact absurd (show false=true from hs) Bool.false_ne_true
 | bl i=>
  cases rx;cases y with
  | non=>cases ry;exact PySem.EqNone.eq_bool_none (c7 I q (by simp))
  | bl j=>cases ry;exact eq_bool (c7 I q Hm)
  | str j=>obtain ⟨t',rfl⟩:=ry;exact PySem.EqMixed.eq_bool_str (c7 I q (by simp))
  | _=>exact absurd (show false=true from hs) Bool.false_ne_true
 | int i=>
  obtain ⟨t,rfl⟩:=rx;cases y with
  | non=>cases ry;exact PySem.EqNone.eq_int_none (c7 I q (by simp))
  | int j=>obtain ⟨t',rfl⟩:=ry;exact eq_int (c7 I q Dp)
  | str j=>obtain ⟨t',rfl⟩:=ry;exact PySem.EqMixed.eq_int_str (c7 I q (by simp))
  | _=>exact absurd (show false=true from hs) Bool.false_ne_true
 | str i=>
  obtain ⟨t,rfl⟩:=rx;cases y with
  | non=>cases ry;exact PySem.EqNone.eq_str_none (c7 I q (by simp))
  | bl j=>cases ry;exact PySem.EqMixed.eq_str_bool (c7 I q (by simp))
  | int j=>obtain ⟨t',rfl⟩:=ry;exact PySem.EqMixed.eq_str_int (c7 I q (by simp))
  | str j=>obtain ⟨t',rfl⟩:=ry;exact eq_str (c7 I q Dq)
  | _=>exact absurd (show false=true from hs) Bool.false_ne_true
 | byt i=>
  obtain ⟨t,rfl⟩:=rx;cases y with
  | byt j=>obtain ⟨t',rfl⟩:=ry;exact PySem.W.eq_bytes (c7 I q Hn)
  | _=>exact absurd (show false=true from hs) Bool.false_ne_true
 | _=>cases y <;> exact absurd (show false=true from hs) Bool.false_ne_true
theorem Ty:OpR X (compareOp .NotEq) rNe:=by
 intro pins s σ H x y v u Q I rx ry h;obtain ⟨hs,q⟩:=h;cases x with
 | non=>
  cases rx;cases y with
  | non=>cases ry;exact PySem.EqNone.ne_none_none (c7 I q (by simp))
  | bl j=>cases ry;exact PySem.EqNone.ne_none_bool (c7 I q (by simp))
  | int j=>obtain ⟨t',rfl⟩:=ry;exact PySem.EqNone.ne_none_int (c7 I q (by simp))
  | str j=>obtain ⟨t',rfl⟩:=ry;exact PySem.EqNone.ne_none_str (c7 I q (by simp))
  | _=>exact absurd (show false=true from hs) Bool.false_ne_true
 | bl i=>
  cases rx;cases y with
  | non=>cases ry;exact PySem.EqNone.ne_bool_none (c7 I q (by simp))
  | bl j=>cases ry;exact ne_bool (c7 I q (congrArg not Hm))
  | str j=>obtain ⟨t',rfl⟩:=ry;exact PySem.EqMixed.ne_bool_str (c7 I q (by simp))
  | _=>exact absurd (show false=true from hs) Bool.false_ne_true
 | int i=>
  obtain ⟨t,rfl⟩:=rx;cases y with
  | non=>cases ry;exact PySem.EqNone.ne_int_none (c7 I q (by simp))
  | int j=>obtain ⟨t',rfl⟩:=ry;exact ne_int (c7 I q (congrArg not Dp))
  | str j=>obtain ⟨t',rfl⟩:=ry;exact PySem.EqMixed.ne_int_str (c7 I q (by simp))
  | _=>exact absurd (show false=true from hs) Bool.false_ne_true
 | str i=>
  obtain ⟨t,rfl⟩:=rx;cases y with
  | non=>cases ry;exact PySem.EqNone.ne_str_none (c7 I q (by simp))
  | bl j=>cases ry;exact PySem.EqMixed.ne_str_bool (c7 I q (by simp))
  | int j=>obtain ⟨t',rfl⟩:=ry;exact PySem.EqMixed.ne_str_int (c7 I q (by simp))
  | str j=>obtain ⟨t',rfl⟩:=ry;exact ne_str (c7 I q (congrArg not Dq))
  | _=>exact absurd (show false=true from hs) Bool.false_ne_true
 | byt i=>
  obtain ⟨t,rfl⟩:=rx;cases y with
  | byt j=>obtain ⟨t',rfl⟩:=ry;exact PySem.W.ne_bytes (c7 I q (congrArg not Hn))
  | _=>exact absurd (show false=true from hs) Bool.false_ne_true
 | _=>cases y <;> exact absurd (show false=true from hs) Bool.false_ne_true
theorem Ay:OpR X (compareOp .Lt) (rI0 fun i j=> .bl (decide (i < j))):=opB0 fun _ _ _ _ _ _ _ q=>lt_int q
theorem Tz:OpR X (compareOp .LtE) (rI0 fun i j=> .bl (decide (i≤j))):=opB0 fun _ _ _ _ _ _ _ q=>le_int q
theorem K3:OpR X (compareOp .Gt) (rI0 fun i j=> .bl (decide (j < i))):=opB0 fun _ _ _ _ _ _ _ q=>gt_int q
theorem T0:OpR X (compareOp .GtE) (rI0 fun i j=> .bl (decide (j≤i))):=opB0 fun _ _ _ _ _ _ _ q=>ge_int q
theorem E7:OpR X (compareOp .Is) (fun x y H Q=>y= .non∧Q (.bl (decide (x= .non))) H):=by
 intro pins s σ H x y v u Q I rx ry h;obtain ⟨rfl,q⟩:=h;cases ry;refine is_none_gen (c7 I q ?_);cases x <;> first
  | (cases rx;rfl)
  | (obtain ⟨t,rfl⟩:=rx;rfl)
theorem wz:OpR X (compareOp .IsNot) (fun x y H Q=>y= .non∧Q (.bl (!decide (x= .non))) H):=by
 intro pins s σ H x y v u Q I rx ry h;obtain ⟨rfl,q⟩:=h;cases ry;refine isnot_none_gen (c7 I q ?_);cases x <;> first
  | (cases rx;rfl)
  | (obtain ⟨t,rfl⟩:=rx;rfl)
theorem OpR.or {f:Value→Value→Sem Value} {r r':R2} (h:OpR X f r) (h':OpR X f r'):OpR X f (fun x y H Q=>r x y H Q∨r' x y H Q):=by
 intro pins s σ H x y v u Q I rx ry q;rcases q with q | q
 ·exact h pins s σ H x y v u Q I rx ry q
 ·exact h' pins s σ H x y v u Q I rx ry q
theorem nomark (b:Expr) {op:CmpOp} (h:op≠ .In:=by decide) (h2:op≠ .NotIn:=by decide):behindInMarks op b=false:=by
 have e1:(op==CmpOp.In)=false:=by cases op <;> first | rfl | exact absurd rfl h
 have e2:(op==CmpOp.NotIn)=false:=by cases op <;> first | rfl | exact absurd rfl h2
 cases b <;> simp [behindInMarks,e1,e2]
theorem Nv {op:CmpOp} {r:R2} (ho:OpR X (compareOp op) r) (ha:PE X a ta) (hb:PE X b tb) (hm:behindInMarks op b=false):PE X (.Compare a [op] [b] pos) (tOp r ta tb):=by
 intro pins s σ H Q I h;exact wpAny_Compare1 (binT ha hb I h fun v u s2 x y H2 I2 rx ry q=>ho pins s2 σ H2 x y v u Q I2 rx ry q) hm
def tTest (t:TE):TT:=fun σ H Q=>t σ H fun x H'=>∃k,x= .bl k∧Q k H'
theorem Nw {op:CmpOp} {r:R2} (ho:OpR X (compareOp op) r) (ha:PE X a ta) (hb:PE X b tb) (hm:behindInMarks op b=false):PT X (.Compare a [op] [b] pos) (tTest (tOp r ta tb)):=by
 intro pins s σ H Q I h;refine wpAny_isTrue_Compare1 (thn (ha pins s σ H _ I h) fun v s1 ⟨x,H1,I1,r1,q1⟩=>thn (hb pins s1 σ H1 _ I1 q1) fun u s2 ⟨y,H2,I2,r2,q2⟩=>
  thn (ho pins s2 σ H2 x y v u _ I2 r1 r2 q2) fun c s3 ⟨z,H3,I3,r3,k,e,q3⟩=>?_) hm
 subst e;cases r3;exact wpAny_truthy_bool ⟨H3,I3,q3⟩
def TruV (K:Frag) (x:V) (H:Hp) (k:Bool):Prop:=
 match x with
 | .non=>k=false
 | .bl b=>k=b
 | .int i=>k=(i !=0)
 | .str y=>y.length≤sizeLine∧k=((y.length:Int) !=0)
 | .byt y=>y.size≤sizeLine∧k=((y.size:Int) !=0)
 | .ref p=>(∃xs,SqL K H p xs∧k=!xs.isEmpty)∨(∃xs,SqT K H p xs∧k=!xs.isEmpty)∨ ∃kvs,H p=some (.dK kvs)∧k=!kvs.isEmpty
 | _=>False
theorem Gi {κ:Type} {kvs:List (κ×V)} {vs:List (κ×Value)} (r:KV kvs vs):(!vs.isEmpty)=!kvs.isEmpty:=by
 cases r <;> rfl
theorem zx {xs:List V} {its:List Value} (r:Vals xs its):(!its.toArray.isEmpty)=!xs.isEmpty:=by
 cases r <;> simp
theorem line63:(sizeLine:Nat) < 2 ^ 63:=by rw [sizeLine_eq];decide
theorem Q0:TruR X (fun x H Q=>∃k,TruV X.K x H k∧Q k H):=by
 intro pins s σ H x v Q I rx h;obtain ⟨k,e,q⟩:=h;have hl:=line63;have hs:sizeLine=16777216:=sizeLine_eq;cases x with
 | non=>
  cases rx;have e':k=false:=e;subst e';exact truthy_none ⟨H,I,q⟩
 | bl b=>
  cases rx;have e':k=b:=e;subst e';exact wpAny_truthy_bool ⟨H,I,q⟩
 | int i=>
  obtain ⟨t,rfl⟩:=rx;have e':k=(i !=0):=e;subst e';exact PySem.P.truthy_int ⟨H,I,q⟩
 | str y=>
  obtain ⟨t,rfl⟩:=rx;obtain ⟨hy,e'⟩:y.length≤sizeLine∧k=((y.length:Int) !=0):=e;subst e';exact PySem.P.truthy_str (by omega) ⟨H,I.tok _,q⟩
 | byt y=>
  obtain ⟨t,rfl⟩:=rx;obtain ⟨hy,e'⟩:y.size≤sizeLine∧k=((y.size:Int) !=0):=e;subst e';exact PySem.W.truthy_bytes (by omega) ⟨H,I.tok _,q⟩
 | ref p=>
  cases rx;have e':(∃xs,SqL X.K H p xs∧k=!xs.isEmpty)∨(∃xs,SqT X.K H p xs∧k=!xs.isEmpty)∨ ∃kvs,H p=some (.dK kvs)∧k=!kvs.isEmpty:=e;rcases e' with ⟨xs,hx,e'⟩ | ⟨xs,hx,e'⟩ | ⟨kvs,hx,e'⟩
  ·subst e'
   obtain ⟨its,r,pl,hz⟩:=I.list hx;have hlen:=r.length;exact wpAny_truthy_list pl.isList (by simp only [size_toArray];omega) ⟨H,I.tok _,by rw [zx r];exact q⟩
  ·subst e'
   obtain ⟨its,r,pl,hz⟩:=I.tuple hx;have hlen:=r.length;exact truthy_tuple pl (by simp only [size_toArray];omega) ⟨H,I.tok _,by rw [zx r];exact q⟩
  ·subst e'
   obtain ⟨hz,hS,vs,r,m⟩:kvs.length≤sizeLine∧(p==sysModules)=false∧ ∃vs,KV kvs vs∧s.heap.DictOf (mixKind X.prog X.w) p vs:=I.hok p _ hx;have hlen:kvs.length=vs.length:=Paired.length r;exact wpAny_truthy_dict hS m (by omega) ⟨H,I.tok _,by rw [Gi r];exact q⟩
 | _=>exact (show False from e).elim
theorem K4 (ha:PE X a ta) (he: ∀whole,isTrue a X.env whole=(do let v ←whole;standAt a.pos;holding [v] (truthy v))):
  PT X a (fun σ H Q=>ta σ H fun x H'=>∃k,TruV X.K x H' k∧Q k H'):=by
 intro pins s σ H Q I h;exact isTrue_plain (thn (ha pins s σ H _ I h) fun v s1 ⟨x,H1,I1,r1,q1⟩=>Q0 pins s1 σ H1 x v Q I1 r1 q1) (he _)
theorem Gj:OpR X (binaryOp .Add) (fun x y H Q=>∃i j,x= .str i∧y= .str j∧i.length+j.length≤sizeLine∧Q (.str (i++j)) H):=by
 intro pins s σ H x y v u Q I rx ry h;obtain ⟨i,j,rfl,rfl,hz,q⟩:=h;obtain ⟨t,rfl⟩:=rx;obtain ⟨t',rfl⟩:=ry;exact add_str (fun t' tk=>⟨.str (i++j),H,I.tok _,⟨_,rfl⟩,q⟩) hz
theorem vals1 {x:V} {us:List Value} (r:Vals [x] us): ∃u,us=[u]∧RelV x u:=by
 cases r with
 | cons r1 r2=>cases r2;exact ⟨_,rfl,r1⟩
theorem vals2 {x y:V} {us:List Value} (r:Vals [x,y] us): ∃u w',us=[u,w']∧RelV x u∧RelV y w':=by
 cases r with
 | cons r1 r2=>
  cases r2 with
  | cons r3 r4=>cases r4;exact ⟨_,_,rfl,r1,r3⟩
theorem Ho (hc:X.calm=true):CallR X (.builtin "max") (fun xs H Q=>∃i j,xs=[.int i,.int j]∧Q (.int (if j > i then j else i)) H):=by
 intro pins s σ H xs us Q I r h;obtain ⟨i,j,rfl,q⟩:=h;obtain ⟨u,w',rfl,⟨t,rfl⟩,⟨t',rfl⟩⟩:=vals2 r;refine max_two_ints (I.ok.hd hc) fun h' tk k=>⟨_,H,I.kept k,?_,q⟩
 by_cases hj:j > i
 ·rw [if_pos hj,if_pos hj];exact ⟨_,rfl⟩
 ·rw [if_neg hj,if_neg hj];exact ⟨_,rfl⟩
theorem Hq (hc:X.calm=true):CallR X (.builtin "min") (fun xs H Q=>∃i j,xs=[.int i,.int j]∧Q (.int (if j < i then j else i)) H):=by
 intro pins s σ H xs us Q I r h;obtain ⟨i,j,rfl,q⟩:=h;obtain ⟨u,w',rfl,⟨t,rfl⟩,⟨t',rfl⟩⟩:=vals2 r;refine min_two_ints (I.ok.hd hc) fun h' tk k=>⟨_,H,I.kept k,?_,q⟩
 by_cases hj:j < i
 ·rw [if_pos hj,if_pos hj];exact ⟨_,rfl⟩
 ·rw [if_neg hj,if_neg hj];exact ⟨_,rfl⟩
theorem tm:CallR X (.type "int") (fun xs H Q=>(∃i,xs=[.int i]∧Q (.int i) H)∨ ∃k,xs=[.bl k]∧Q (.int (if k then 1 else 0)) H):=by
 intro pins s σ H xs us Q I r h;rcases h with ⟨i,rfl,q⟩ | ⟨k,rfl,q⟩
 ·obtain ⟨u,rfl,t,rfl⟩:=vals1 r
  exact call_int_int ⟨.int i,H,I,⟨_,rfl⟩,q⟩
 ·obtain ⟨u,rfl,r1⟩:=vals1 r
  cases r1;exact call_int_bool ⟨.int (if k then 1 else 0),H,I.tok _,⟨_,rfl⟩,q⟩
end
end L2
namespace L2
open PySem PySem.Spec PyProof.Rows
theorem RelO.some_of {v:V} {o:Option Value} (r:RelO (some v) o): ∃u,o=some u∧RelV v u:=by
 cases o with
 | none=>exact (show False from r).elim
 | some u=>exact ⟨u,rfl,r⟩
end L2
namespace L2
open PySem PySem.Spec PyProof.Rows
structure Room (k:Nat) (A:Around):Prop where
 hd:A.handled=none
 dp:A.depth+3*k+5 < recursionLimit
 un:A.units+16*k+200 < cLine
 gd:A.guards=some []
theorem Room.mono {j k:Nat} {A:Around} (r:Room k A) (h:j≤k):Room j A:=⟨r.hd,by have:=r.dp;omega,by have:=r.un;omega,r.gd⟩
theorem Room.deeper {k:Nat} {A:Around} (r:Room (k+1) A) (env:Env):Room k (A.deeper env):=
 ⟨r.hd,by have:=r.dp;show A.depth+1+3*k+5 < _;omega,by have:=r.un;show A.units+3+16*k+200 < _;omega,r.gd⟩
theorem Room.depth {k:Nat} {A:Around} (r:Room k A):A.depth < recursionLimit:=by have:=r.dp;omega
theorem Room.units {k:Nat} {A:Around} (r:Room k A):A.units+64 < cLine:=by have:=r.un;omega
def tNil:TA:=fun _ H Q=>Q [] H
def tCons (ta:TE) (tr:TA):TA:=fun σ H Q=>ta σ H fun x H1=>tr σ H1 fun xs H2=>Q (x::xs) H2
section
variable {X:Cx} {e:Expr} {es:List Expr} {te:TE} {t:TA} {pos:Pos}
theorem fh:PA X [] tNil:=fun _ _ _ _ H Q I h=>Calls.spliced_nil ⟨[],H,I,.nil,h⟩
theorem cw (ha:PE X e te) (hr:PA X es t) (hs:starEach (e::es) X.env=(false,eval e X.env)::starEach es X.env:=by rfl):PA X (e::es) (tCons te t):=by
 intro pos pins s σ H Q I h;rw [hs]
 show wpAny _ _ (spliced ((false,eval e X.env)::backTo pos (starEach es X.env))) _ _ s
 refine Calls.spliced_cons (thn (ha pins s σ H _ I h) fun u s1 h0z=>?_);obtain ⟨x,H1,I1,r1,q1⟩:=h0z;exact thn (hr pos pins s1 σ H1 _ I1 q1) fun us s2 ⟨xs,H2,I2,r2,q2⟩=>⟨x::xs,H2,I2,.cons r1 r2,q2⟩
def tTup (t:TA):TE:=fun σ H Q=>t σ H fun xs H1=>xs.length≤sizeLine∧ ∀p,H1 p=none→Q (.ref p) (upd H1 p (.tup xs))
def tLst (t:TA):TE:=fun σ H Q=>t σ H fun xs H1=>xs.length≤sizeLine∧ ∀p,H1 p=none→Q (.ref p) (upd H1 p (.lst xs))
theorem Hr {x1} (h:PA X es t):PE X (.Tuple es x1 pos) (tTup t):=by
 intro pins s σ H Q I hq;refine wpAny_Tuple_spliced (thn (h pos pins s σ H _ I hq) fun us s1 ⟨xs,H1,I1,r,z,q⟩=>⟨by rw [←r.length];exact z,?_⟩);have hf:H1 s1.heap.objs.size=none:=I1.hok.fresh (Nat.le_refl _);refine ⟨.ref s1.heap.objs.size,upd H1 s1.heap.objs.size (.tup xs),I1.laid (t':=s1.toks) (fun b u e=>get?_push_of_some _ e) (Nat.le_refl _) ?_,rfl,q _ hf⟩;exact ⟨z,us,r,⟨_,Heap.get?_push_size _ rfl,rfl,_,rfl⟩⟩
theorem Hs (h:PA X es t):PE X (.List es pos) (tLst t):=by
 intro pins s σ H Q I hq;refine wpAny_List_spliced (thn (h pos pins s σ H _ I hq) fun us s1 ⟨xs,H1,I1,r,z,q⟩=>⟨by rw [←r.length];exact z,?_⟩);have hf:H1 s1.heap.objs.size=none:=I1.hok.fresh (Nat.le_refl _);refine ⟨.ref s1.heap.objs.size,upd H1 s1.heap.objs.size (.lst xs),I1.laid (t':=s1.toks) (fun b u e=>get?_push_of_some _ e) (Nat.le_refl _) ?_,rfl,q _ hf⟩;exact ⟨z,us,0,r,Heap.get?_push_size _ rfl⟩
end
abbrev Sp:=List V→Hp→VK→XK→Prop
abbrev CXT:=List Env→Hp→Shared→XK→Value→Shared→Prop
structure Env0 (P:Program) (w:World) (K:Frag) (mg:Str→Option Value) (base:Heap) (A:Around) (outer:List Env) (s:Shared) (H:Hp):Prop where
 frames:A.frames=some outer
 mod:Mod K mg base
 bs: ∀b o,base.get? b=some o→s.heap.get? b=some o∧H b=none
 bsz:base.objs.size≤s.heap.objs.size
 funs:s.heap.FunFrames base outer
 frf: ∀b∈frs outer,H b=none
 hok:HOk P w H s.heap
 bare:AllBare s.gens
def CE (outer:List Env) (P:Program) (w:World) (H:Hp) (s:Shared) (Q:VK) (u:Value) (s':Shared):Prop:=
 ∃v H',s'.os=s.os∧AllBare s'.gens∧Un (frs outer) [] H H' s.heap s'.heap∧HOk P w H' s'.heap∧RelV v u∧Q v H'
def CR (CX:CXT) (outer:List Env) (P:Program) (w:World) (H:Hp) (s:Shared) (Q:VK) (E:XK) (r:Result) (s':Shared):Prop:=
 match r with
 | .ok (.ret u)=>CE outer P w H s Q u s'
 | .ok _=>False
 | .error e=>CX outer H s E e s'
structure FnOk (P:Program) (w:World) (K:Frag) (mg:Str→Option Value) (base:Heap) (CX:CXT) (k:Nat) (f:Addr) (fd:FuncData) (ps:List Str) (sp:Sp):Prop where
 len: ∀vs H Q E,sp vs H Q E→vs.length=ps.length
 run: ∀ (A:Around) (outer:List Env) (s:Shared) (H:Hp) (args:Args) (us:List Value) (vs:List V) (Q:VK) (E:XK),Room k A→Env0 P w K mg base A outer s H→BindsTo s fd args (ps.zip us)→Vals vs us→sp vs H Q E→
  codeAny (model P w) A (.call (.ref f) args) (CR CX outer P w H s Q E) s
theorem FnOk.imp {P:Program} {w:World} {K:Frag} {mg:Str→Option Value} {base:Heap} {CX:CXT} {k:Nat} {f:Addr} {fd:FuncData} {ps:List Str} {sp sp':Sp} (F:FnOk P w K mg base CX k f fd ps sp)
  (h: ∀vs H Q E,sp' vs H Q E→sp vs H Q E):FnOk P w K mg base CX k f fd ps sp':=
 ⟨fun vs H Q E q=>F.len vs H Q E (h _ _ _ _ q),fun A outer s H args us vs Q E hr he hb hv hs=>F.run A outer s H args us vs Q E hr he hb hv (h _ _ _ _ hs)⟩
section
variable {X:Cx} {pins:List (Addr×Obj)} {σ:St} {H:Hp} {s s':Shared}
theorem Inv.env0 (I:Inv X pins σ H s):Env0 X.prog X.w X.K X.mg X.base X.A X.stack s H:=
 ⟨I.ok.frames,I.ok.mod,I.bs,Nat.le_trans I.ok.bsz I.sz,I.stack,I.stkFree,I.hok,I.bare⟩
theorem Inv.after {Q:VK} {u:Value} (I:Inv X pins σ H s) (h:CE X.stack X.prog X.w H s Q u s'):EP X pins σ Q u s':=by
 obtain ⟨v,H',os,bare,un,hok,r,q⟩:=h;obtain ⟨hh,g,d,t,os'⟩:=s';obtain rfl:os'=s.os:=os;exact ⟨v,H',I.call (h':=hh) (g':=g) (d':=d) (t':=t) (ch:=[]) un hok bare (fun b z=>absurd z (by simp)),r,q⟩
end
def tCall (sp:Sp) (dvs:List V) (E:XK) (t:TA):TE:=fun σ H Q=>t σ H fun vs H1=>sp (vs++dvs) H1 Q E
def Binds (K:Frag) (fd:FuncData) (ps:List Str) (ds:List Value):Prop:=
 ∀ (s:Shared) (us:List Value),K.In s.heap→(us++ds).length=ps.length→BindsTo s fd ⟨us,[]⟩ (ps.zip (us++ds))
theorem Binds.all {K:Frag} {fd:FuncData} {ps:List Str} (h: ∀us:List Value,us.length=ps.length→bindArgs fd ⟨us,[]⟩=pure (ps.zip us)):Binds K fd ps []:=fun s us _ hl=>by
 rw [append_nil] at hl ⊢;exact .of_eq (h us hl)
def Passes (CX:CXT) (X:Cx) (E:XK):Prop:= ∀ (pins:List (Addr×Obj)) (σ:St) (H:Hp) (s:Shared) (e:Value) (s':Shared),Inv X pins σ H s→CX X.stack H s E e s'→X.xe e s'
section
variable {X:Cx} {CX:CXT} {k:Nat} {f C:Addr} {fd:FuncData} {ps:List Str} {sp:Sp} {dvs:List V} {ds:List Value} {E:XK} {x m:Str} {p pos apos:Pos} {e o:Expr} {es:List Expr} {ta:TE} {t:TA}
theorem Q1 {pins:List (Addr×Obj)} {σ:St} {H:Hp} {s:Shared} {Q:VK} {us:List Value} {vs:List V} (F:FnOk X.prog X.w X.K X.mg X.base CX k f fd ps sp) (hr:Room k X.A) (hb:Binds X.K fd ps ds) (hd:Vals dvs ds) (hx:Passes CX X E)
  (I:Inv X pins σ H s) (r:Vals vs us) (h:sp (vs++dvs) H Q E):wpAny (model X.prog X.w) X.A (call (.ref f) us) (EP X pins σ Q) X.xe s:=by
 have r2:Vals (vs++dvs) (us++ds):=r.append hd;have hl:(us++ds).length=ps.length:=by rw [←r2.length];exact F.len _ _ _ _ h
 refine wpAny_call (codeAny_mono (F.run X.A X.stack s H ⟨us,[]⟩ (us++ds) (vs++dvs) Q E hr I.env0 (hb s us I.kIn hl) r2 h) fun r s' hq=>?_);cases r with
 | error e=>exact hx pins σ H s e s' I hq
 | ok fl=>
  cases fl with
  | ret u=>exact I.after hq
  | next=>exact False.elim hq
  | brk=>exact False.elim hq
  | cont=>exact False.elim hq
theorem u7 (F:FnOk X.prog X.w X.K X.mg X.base CX k f fd ps sp) (hr:Room k X.A) (hg:Gl X x) (hm:X.mg x=some (.ref f)) (hk:keepIn X.K (.ref f)=true) (hb:Binds X.K fd ps ds) (hd:Vals dvs ds) (hx:Passes CX X E)
  (ha:PA X (e::es) t) (hdb:(x==("__debug__":Str))=false:=by decide) (he:starEach (e::es) X.env=(false,eval e X.env)::starEach es X.env:=by rfl) (hpl:(backTo pos (starEach es X.env)).any (·.1)=false:=by rfl):
  PE X (.Call (.Name x p) (e::es) [] pos) (tCall sp dvs E t):=by
 intro pins s σ H Q I h;refine wpAny_Call_Name_kw (u6 I hg hm ?_ hdb);refine PySem.W.callWith_K (h₀:=X.base) I.ok.mod.kin hk (thn (ha pos pins s σ H _ I h) fun us s1 ⟨vs,H1,I1,r,q⟩=>⟨I1.kIn,?_⟩) he hpl;exact Q1 F hr hb hd hx I1 r q
end
structure FnScope (N P:List Str) (sc:Scope):Prop where
 kind:sc.kind= .function
 co:sc.isCoroutine=false
 gen:sc.isGenerator=false
 nd:N.Nodup
 pre:N.take P.length=P
 par: ∀x∈P,sc.names.lookup x=some .local∨sc.names.lookup x=some .cell
 nofree: ∀y∈sc.names,y.2≠ .free
theorem FS{N P:List Str} {sc:Scope} (a:sc.kind= .function:=by rfl) (b:sc.isCoroutine=false:=by rfl) (c:sc.isGenerator=false:=by rfl) (d:N.Nodup:=by decide+kernel) (e:N.take P.length=P:=by rfl) (f: ∀x∈P,sc.names.lookup x=some .local∨sc.names.lookup x=some .cell:=by decide+kernel) (g: ∀y∈sc.names,y.2≠ .free:=by decide+kernel):FnScope N P sc:=⟨a,b,c,d,e,f,g⟩
theorem B0 {kindOf:Str→Option NameKind} {x:Str}: ∀ {binds:List (Str×Value)} {m:Str→Option Value},(∀v,(x,v) ∉ binds)→bindL kindOf binds m x=m x
 | [],_,_=>rfl
 | (n,v)::r,m,h=>by
  unfold bindL;rw [B0 fun w hw=>h w (mem_cons_of_mem _ hw)];split
  ·have:x≠n:=by rintro rfl;exact h v mem_cons_self
   simp [this]
  ·rfl
theorem B5 {kindOf:Str→Option NameKind} {x:Str}: ∀ {binds:List (Str×Value)} {m:Str→Option Value},(∀v,(x,v) ∉ binds)→bindC kindOf binds m x=m x
 | [],_,_=>rfl
 | (n,v)::r,m,h=>by
  unfold bindC;rw [B5 fun w hw=>h w (mem_cons_of_mem _ hw)];split
  ·rfl
  ·have:x≠n:=by rintro rfl;exact h v mem_cons_self
   simp [this]
theorem B6 {kindOf:Str→Option NameKind} {x:Str} {v:Value}: ∀ {P:List Str} {vs:List Value} {i:Nat} {m:Str→Option Value},P.Nodup→P[i]?=some x→vs[i]?=some v→kindOf x=some .local→
  bindL kindOf (P.zip vs) m x=some v
 | [],_,_,_,_,h,_,_=>by simp at h
 | _::_,[],_,_,_,_,h,_=>by simp at h
 | p::P,w::vs,0,m,nd,h1,h2,hk=>by
  simp at h1 h2;subst h1;subst h2
  show bindL kindOf ((p,w)::P.zip vs) m p=_
  unfold bindL;rw [B0 fun v hv=>(List.nodup_cons.mp nd).1 (List.of_mem_zip hv).1,if_pos hk];simp
 | p::P,w::vs,i+1,m,nd,h1,h2,hk=>by
  show bindL kindOf ((p,w)::P.zip vs) m x=_
  unfold bindL;exact B6 (i:=i) (List.nodup_cons.mp nd).2 (by simpa using h1) (by simpa using h2) hk
theorem B7 {kindOf:Str→Option NameKind} {x:Str} {v:Value}: ∀ {P:List Str} {vs:List Value} {i:Nat} {m:Str→Option Value},P.Nodup→P[i]?=some x→vs[i]?=some v→kindOf x≠some .local→
  bindC kindOf (P.zip vs) m x=some v
 | [],_,_,_,_,h,_,_=>by simp at h
 | _::_,[],_,_,_,_,h,_=>by simp at h
 | p::P,w::vs,0,m,nd,h1,h2,hk=>by
  simp at h1 h2;subst h1;subst h2
  show bindC kindOf ((p,w)::P.zip vs) m p=_
  unfold bindC;rw [B5 fun v hv=>(List.nodup_cons.mp nd).1 (List.of_mem_zip hv).1,if_neg hk];simp
 | p::P,w::vs,i+1,m,nd,h1,h2,hk=>by
  show bindC kindOf ((p,w)::P.zip vs) m x=_
  unfold bindC;exact B7 (i:=i) (List.nodup_cons.mp nd).2 (by simpa using h1) (by simpa using h2) hk
noncomputable def start (N:List Str) (vs:List V):St:=vs.map some++List.replicate (N.length - vs.length) none
noncomputable def cxOf (CX:CXT) (P:Program) (w:World) (K:Frag) (mg:Str→Option Value) (base:Heap) (N:List Str) (qual:Str) (scope:Scope) (f:Addr) (cd:Value) (A:Around) (outer:List Env) (s:Shared) (H:Hp) (E:XK):Cx where
 prog:=P
 w:=w
 K:=K
 mg:=mg
 base:=base
 A:=A.deeper (envOfC qual scope s.heap.objs.size f cd)
 N:=N
 s₀:=s
 H₀:=H
 env:=envOfC qual scope s.heap.objs.size f cd
 outer:=outer
 stack:=envOfC qual scope s.heap.objs.size f cd::outer
 ex:=[]
 calm:=true
 fn:=fun _=>true
 pn:=[]
 xe:=fun e s'=>wpAny (model P w) (A.deeper (envOfC qual scope s.heap.objs.size f cd)) (leaving (envOfC qual scope s.heap.objs.size f cd) e) (fun _ s''=>CX outer H s E e s'') (fun e' s''=>CX outer H s E e' s'') s'
theorem E8 {sc:Scope} {n:Nat} {x:Str} (h:sc.names.lookup x=some .cell): ∃c,(cellsFrom n sc.names []).lookup x=some c:=by
 have q:=PySem.W.cellsFrom_some sc.names n [] (.inl h);exact Option.isSome_iff_exists.mp q
theorem Ht {CX:CXT} {P:Program} {w:World} {K:Frag} {mg:Str→Option Value} {base:Heap} {N ps:List Str} {qual:Str} {scope:Scope} {f:Addr} {cd:Value} {A:Around} {outer:List Env} {s s1:Shared} {H:Hp} {E:XK} {us:List Value} {vs:List V}
  (S:FnScope N ps scope) (hd:A.handled=none) (e0:Env0 P w K mg base A outer s H) (hl:vs.length=ps.length) (r:Vals vs us)
  (x:InCallC s s.heap.objs.size (bindL (envOfC qual scope s.heap.objs.size f cd).kindOf (ps.zip us) fun _=>none) (cellsFrom (s.heap.objs.size+1) scope.names []) (bindC (envOfC qual scope s.heap.objs.size f cd).kindOf (ps.zip us) fun _=>none) s1):
  Inv (cxOf CX P w K mg base N qual scope f cd A outer s H E) [] (start N vs) H s1:=by
 have hpl:ps.length≤N.length:=by have:=congrArg List.length S.pre;rw [List.length_take] at this;omega
 obtain ⟨h1,tk,rfl,hk⟩:=x.done;have noA: ∀b:Addr,b ∉ (cxOf CX P w K mg base N qual scope f cd A outer s H E).ex:=fun b z=>absurd (show b∈([]:List Addr) from z) (by simp);refine ⟨⟨e0.mod,S.kind,rfl,rfl,Nat.le_refl _,fun y z c h1 h2=>?_,fun y hy=>?_,fun y c _ h=>?_,fun _=>hd,Around.frames_deeper e0.frames,.inr ⟨rfl,rfl⟩,fun b z=>absurd z (noA b),e0.bs,e0.bsz,fun b _ _=>noA b,fun b z=>absurd z (noA b),e0.funs,e0.frf⟩,
  rfl,e0.bare,Un.kept hk,⟨_,x.toInCall.ns,fun i y v h1 h2 h3=>?_⟩,fun y c h=>⟨_,x.cell y c h⟩,e0.hok.fresh (Nat.le_refl _),fun y c h=>?_,fun p hp=>absurd (show p∈([]:List (Addr×Obj)) from hp) (by simp),e0.hok.kept hk,?_⟩
 ·exact name_of_addr x.apart (PySem.mem_of_lookup h1) (PySem.mem_of_lookup h2)
 ·have hy:scope.names.lookup y=some .cell∨scope.names.lookup y=some .free:=hy
  rcases hy with hy | hy
  ·exact E8 hy
  ·exact absurd rfl (S.nofree _ (PySem.mem_of_lookup hy))
 ·exact Nat.le_of_lt (x.above y c (PySem.mem_of_lookup h))
 ·have hi:i < vs.length:=by
   unfold start at h2
   by_cases hi:i < vs.length
   ·exact hi
   ·rw [getElem?_append_right (by simpa using hi)] at h2
    rw [List.getElem?_replicate] at h2;split at h2 <;> cases h2
  have ha:vs[i]?=some v:=by
   unfold start at h2;rw [getElem?_append_left (by simpa using hi),getElem?_map] at h2;cases e:vs[i]? with
   | none=>rw [e] at h2;cases h2
   | some a=>rw [e] at h2;cases h2;rfl
  obtain ⟨u,hu,rv⟩:=r.get ha;have hp:ps[i]?=some y:=by
   rw [←S.pre,List.getElem?_take_of_lt (by omega)];exact h1
  have ndP:ps.Nodup:=by rw [←S.pre];exact S.nd.sublist (List.take_sublist _ _)
  refine ⟨u,rv,?_⟩;rcases S.par y (List.mem_of_getElem? hp) with k | k
  ·exact .inl ⟨k,B6 ndP hp hu k⟩
  ·obtain ⟨c,e⟩:=E8 (n:=s.heap.objs.size+1) k
   refine .inr ⟨.inl k,c,e,?_⟩;have q:=x.cell y c e;rw [B7 ndP hp hu (by show scope.names.lookup y≠_;rw [k];decide)] at q;exact q
 ·exact e0.hok.fresh (Nat.le_of_lt (x.above y c (PySem.mem_of_lookup h)))
 ·unfold start
  show _=N.length
  rw [length_append,length_map,List.length_replicate];omega
theorem Nx {CX:CXT} {P:Program} {w:World} {K:Frag} {mg:Str→Option Value} {base:Heap} {k:Nat} {f:Addr} {name qual:Str} {params:Arguments} {body:List Stmt} {scope:Scope} {dV kV doc pm cdv ct oc:Value} {an od:Option Addr}
  {osl:Array (Option Value)} {N ps:List Str} {sp:Sp} (lk:K.lookup f=some ⟨oc,od,.func (fnOf name qual params body scope dV kV doc pm an cdv ct),osl⟩) (hcd:PySem.W.codeIn K cdv qual=true) (S:FnScope N ps scope)
  (len: ∀vs H Q E,sp vs H Q E→vs.length=ps.length)
  (hbody: ∀ (A:Around) (outer:List Env) (s:Shared) (H:Hp) (vs:List V) (Q:VK) (E:XK),Room k (A.deeper (envOfC qual scope s.heap.objs.size f cdv))→sp vs H Q E→
   ∃t,PSs (cxOf CX P w K mg base N qual scope f cdv A outer s H E) body t∧t { nx:=fun _ H'=>Q .non H',rt:=Q } (start N vs) H):
  FnOk P w K mg base CX (k+1) f (fnOf name qual params body scope dV kV doc pm an cdv ct) ps sp:=by
 refine ⟨len,fun A outer s H args us vs Q E hr e0 hb r hsp=>?_⟩;have hl:=len _ _ _ _ hsp;have KX:K.In s.heap:=e0.mod.kin.keeps fun b o e=>(e0.bs b o e).1
 have lim:s.heap.NoLimit:=e0.mod.nolimit.keeps fun b o e=>(e0.bs b o e).1
 have hkind: ∀y∈ps.zip us,scope.names.lookup y.1=some .local∨(scope.names.lookup y.1=some .cell∧((cellsFrom (s.heap.objs.size+1) scope.names []).lookup y.1).isSome=true):=fun ⟨n,v⟩ hy=>by
  rcases S.par n (List.of_mem_zip hy).1 with q | q
  ·exact .inl q
  ·exact .inr ⟨q,PySem.W.cellsFrom_some _ _ _ (.inl q)⟩
 refine codeAny_call_function hr.depth (KX _ _ lk) rfl S.co S.gen rfl (PySem.W.codeRec_of KX hcd) (hb _ _ _ _ ?_);refine wpAny_newFunctionEnv_cells S.kind hkind fun env he s1 x=>?_
 subst he;refine ⟨lim.keeps x.toInCall.keep,codeAny_func ?_⟩;obtain ⟨t,ht,hq⟩:=hbody A outer s H vs Q E (hr.deeper _) hsp;have I:Inv (cxOf CX P w K mg base N qual scope f cdv A outer s H E) [] (start N vs) H s1:=Ht S hr.hd e0 hl r x;refine wpAny_mono (ht [] s1 (start N vs) H _ I hq) (fun fl s' hs=>?_) fun e s' hs=>hs
 have fin: ∀ {σ':St} {H':Hp} {v:V} {u:Value},Inv (cxOf CX P w K mg base N qual scope f cdv A outer s H E) [] σ' H' s'→RelV v u→Q v H'→CE outer P w H s Q u s':=
  fun {σ' H' v u} J rv q=>⟨v,H',J.os,J.bare,J.base,J.hok,rv,q⟩
 cases fl with
 | ret u=>
  obtain ⟨v,σ',H',J,rv,q⟩:=hs;exact fin J rv q
 | next=>
  obtain ⟨σ',H',J,q⟩:=hs;exact fin (v:=V.non) (u:=Value.none) J rfl q
 | brk=>
  obtain ⟨_,_,_,q⟩:=hs;exact False.elim q
 | cont=>
  obtain ⟨_,_,_,q⟩:=hs;exact False.elim q
end L2
namespace L2
open PySem PySem.Spec PyProof.Rows
section
variable {X:Cx} {x:Str} {p pos:Pos} {e:Expr} {es:List Expr} {t:TA} {id T:String} {r:List V→Hp→VK→Prop}
def tCB (r:List V→Hp→VK→Prop) (t:TA):TE:=fun σ H Q=>t σ H fun vs H1=>r vs H1 Q
theorem ni (hc:CallR X (.builtin id) r) (hg:Gl X x) (hm:X.mg x=none) (hv:bootBuiltins x=some (.builtin id)) (ha:PA X (e::es) t) (hn:x≠"__name__":=by decide) (hdb:(x==("__debug__":Str))=false:=by decide)
  (he:starEach (e::es) X.env=(false,eval e X.env)::starEach es X.env:=by rfl) (hpl:(backTo pos (starEach es X.env)).any (·.1)=false:=by rfl):PE X (.Call (.Name x p) (e::es) [] pos) (tCB r t):=by
 intro pins s σ H Q I h;refine wpAny_Call_Name_kw (zw I hg hm hv ?_ hn hdb);exact PyProof.Rows.callWith_builtin1 (thn (ha pos pins s σ H _ I h) fun us s1 ⟨vs,H1,I1,r1,q1⟩=>hc pins s1 σ H1 vs us Q I1 r1 q1) he hpl
theorem pw (hc:CallR X (.type T) r) (hg:Gl X x) (hm:X.mg x=none) (hv:bootBuiltins x=some (.type T)) (ha:PA X (e::es) t) (hn:x≠"__name__":=by decide) (hdb:(x==("__debug__":Str))=false:=by decide)
  (he:starEach (e::es) X.env=(false,eval e X.env)::starEach es X.env:=by rfl) (hpl:(backTo pos (starEach es X.env)).any (·.1)=false:=by rfl):PE X (.Call (.Name x p) (e::es) [] pos) (tCB r t):=by
 intro pins s σ H Q I h;refine wpAny_Call_Name_kw (zw I hg hm hv ?_ hn hdb);exact PyProof.Rows.callWith_type1 (thn (ha pos pins s σ H _ I h) fun us s1 ⟨vs,H1,I1,r1,q1⟩=>hc pins s1 σ H1 vs us Q I1 r1 q1) he hpl
end
end L2
namespace HT
open PySem PyProof.Rows
section
variable {prog:Program} {w:World} {A:Around} {E:Value→Shared→Prop} {s:Shared}
noncomputable def sIx (n d:Nat):Option Int→Nat
 | none=>d
 | some v=>if v < 0 then (v+(n:Int)).toNat else min v.toNat n
theorem Q2 (n d:Nat) (hd:d≤n) (o:Option Int):sIx n d o≤n:=by
 cases o with
 | none=>exact hd
 | some v=>
  show (if v < 0 then (v+(n:Int)).toNat else min v.toNat n)≤n
  by_cases hv:v < 0
  ·rw [if_pos hv];omega
  ·rw [if_neg hv];exact Nat.min_le_right _ _
theorem Hu (v:Int) (n d:Nat):(if v < 0 then max (v+(n:Int)) 0 else min v (n:Int))=((sIx n d (some v):Nat):Int):=by
 show (if v < 0 then max (v+(n:Int)) 0 else min v (n:Int))=(((if v < 0 then (v+(n:Int)).toNat else min v.toNat n):Nat):Int)
 by_cases hv:v < 0
 ·simp only [if_pos hv];omega
 ·simp only [if_neg hv];omega
theorem Gk (lo hi:Option Int) (n:Nat):Builtin.Slice.sliceAdjust lo hi 1 (n:Int)=(((sIx n 0 lo:Nat):Int),((sIx n n hi:Nat):Int)):=by
 have h1:¬ ((1:Int) < 0):=by omega
 unfold Builtin.Slice.sliceAdjust;simp only [h1,if_false];refine Prod.ext ?_ ?_
 ·cases lo with
  | none=>rfl
  | some v=>exact Hu v n 0
 ·cases hi with
  | none=>rfl
  | some v=>exact Hu v n n
theorem Gm (i j:Nat):Builtin.Slice.slicePlaces (i:Int) (j:Int) 1=j - i:=by
 unfold Builtin.Slice.slicePlaces;have h1:(1:Int) > 0:=by omega
 simp only [h1,if_true,Int.ediv_one];split <;> omega
theorem zy {v:Value} {o:Option Int} {Q:Option Int→Shared→Prop} (p:IsPart v o) (h:Q o s):wpAny (model prog w) A (Builtin.Slice.slicePartIndex v) Q E s:=by
 cases p with
 | none=>exact slicePart_none h
 | int i t=>exact slicePart_int h
theorem wc {sl:Addr} {vl vu:Value} {lo hi:Option Int} {n:Nat} {Q:Int×Int×Nat→Shared→Prop} (hs:s.heap.IsSliceOf sl vl vu .none) (pl:IsPart vl lo) (pu:IsPart vu hi)
  (h:Q (((sIx n 0 lo:Nat):Int),1,sIx n n hi - sIx n 0 lo) s):wpAny (model prog w) A (Builtin.Slice.sliceApplied (.ref sl) (pure (n:Int))) Q E s:=by
 obtain ⟨os,hos,hcs,hds⟩:=id hs;unfold Builtin.Slice.sliceApplied Builtin.Slice.sliceFields;refine wpAny_bind (wpAny_bind (wpAny_field hos hds (x:=vl) rfl (wpAny_bind (wpAny_field hos hds (x:=vu) rfl (wpAny_bind (wpAny_field hos hds (x:= .none) rfl (wpAny_pure ?_)))))));refine wpAny_bind (slicePart_none ?_)
 show wpAny _ _ (if ((1:Int)==0)=true then _ else _) _ _ s
 rw [if_neg (by decide)];refine wpAny_bind (zy pl (wpAny_bind (zy pu (wpAny_bind (wpAny_pure ?_)))))
 show wpAny _ _ (match Builtin.Slice.sliceAdjust lo hi 1 (n:Int) with | (lo,hi)=>pure (lo,(1:Int),Builtin.Slice.slicePlaces lo hi 1)) _ _ s
 rw [Gk lo hi n]
 show wpAny _ _ (pure (((sIx n 0 lo:Nat):Int),(1:Int),Builtin.Slice.slicePlaces ((sIx n 0 lo:Nat):Int) ((sIx n n hi:Nat):Int) 1)) _ _ s
 rw [Gm];exact wpAny_pure h
theorem K5 (xs:Array Value) (i k:Nat):((List.range k).filterMap fun (m:Nat)=>xs[((i:Int)+(m:Int)*1).toNat]?).toArray=((xs.toList.drop i).take k).toArray:=by
 have e:(fun (m:Nat)=>xs[((i:Int)+(m:Int)*1).toNat]?)=fun m=>xs[i+m]?:=by
  funext m
  have:((i:Int)+(m:Int)*1).toNat=i+m:=by omega
  rw [this]
 rw [e]
 have:=pick_run xs i k
 rw [List.filterMap_map] at this;have e2:((fun x=>xs[x]?)∘fun x=>i+x)=fun m=>xs[i+m]?:=rfl;rw [e2] at this;rw [this]
theorem getItem_tuple_cut {t sl:Addr} {items:Array Value} {vl vu:Value} {lo hi:Option Int} {Q:Value→Shared→Prop} (ht:IsTup s.heap t items) (hs:s.heap.IsSliceOf sl vl vu .none) (pl:IsPart vl lo) (pu:IsPart vu hi)
  (hw:¬ (sIx items.size 0 lo=0∧sIx items.size items.size hi=items.size))
  (h:Q (.ref s.heap.objs.size) { s with heap:=s.heap.push { cls:= .type "tuple",data:= .seq ((items.toList.drop (sIx items.size 0 lo)).take (sIx items.size items.size hi - sIx items.size 0 lo)).toArray } })
  (hsz:items.size≤sizeLine):wpAny (model prog w) A (getItem (.ref t) (.ref sl)) Q E s:=by
 have htake:sizeOk (.seq ((items.toList.drop (sIx items.size 0 lo)).take (sIx items.size items.size hi - sIx items.size 0 lo)).toArray):=by
  show ((items.toList.drop (sIx items.size 0 lo)).take (sIx items.size items.size hi - sIx items.size 0 lo)).toArray.size≤sizeLine
  rw [size_toArray,List.length_take,List.length_drop,Array.length_toList];omega
 have hj:sIx items.size items.size hi≤items.size:=Q2 _ _ (Nat.le_refl _) hi;obtain ⟨os,hos,hcs,hds⟩:=id hs;have hTs:s.TypeIs (.ref sl) "slice":=⟨os,hos,hcs⟩
 unfold getItem
 try with_reducible refine wpAny_holding ?_
 first | refine wpAny_bind (wpAny_pure ?_) | skip
 refine wpAny_bind (wpAny_sequenceKey ht.typeIs (by decide) ?_);refine wpAny_bind (wpAny_callSpecial?_slot (name:=Str.ofString "__getitem__") ht.typeIs PyProof.Rows.slot_tuple_getitem
  (wpAny_call_entry PyProof.Rows.slot_tuple_getitem ht.typeIs entry_tuple_getitem ?_ (args_tuple_getitem _ _)))
 show wpAny _ _ (Builtin.Tuple.tupleItemsOf (.ref t) >>=_) _ _ s
 refine wpAny_bind (tupleItemsOf_ ht ?_);refine wpAny_bind (wpAny_typeOf hTs ?_);rw [if_pos (by decide)];refine wpAny_bind (wc hs pl pu ?_);have hno:¬ ((((sIx items.size 0 lo:Nat):Int)==0 && (1:Int)==1 && (sIx items.size items.size hi - sIx items.size 0 lo)==items.size)=true):=by
  intro q;rw [Bool.and_eq_true,Bool.and_eq_true] at q;have q1:((sIx items.size 0 lo:Nat):Int)=0:=eq_of_beq q.1.1;have q2:sIx items.size items.size hi - sIx items.size 0 lo=items.size:=eq_of_beq q.2;exact hw ⟨by omega,by omega⟩
 show wpAny _ _ (if (((sIx items.size 0 lo:Nat):Int)==0 && (1:Int)==1 && (sIx items.size items.size hi - sIx items.size 0 lo)==items.size)=true then _ else _) _ _ s
 rw [if_neg hno,K5]
 first
  | exact wpAny_bind (m:=Builtin.Tuple.tupleExact _) (wpAny_newObj_type (wpAny_pure ⟨_,rfl,wpAny_pure h⟩) htake)
  | exact wpAny_bind (m:=Builtin.Tuple.tupleExact _) (wpAny_newObj_type (wpAny_bind (wpAny_pure (wpAny_pure ⟨_,rfl,wpAny_pure h⟩))) htake)
  | exact wpAny_bind (wpAny_bind (m:=Builtin.Tuple.tupleExact _) (wpAny_newObj_type (wpAny_pure (wpAny_pure ⟨_,rfl,wpAny_pure h⟩)) htake))
  | exact wpAny_bind (wpAny_bind (m:=Builtin.Tuple.tupleExact _) (wpAny_newObj_type (wpAny_pure ⟨_,rfl,wpAny_pure h⟩) htake))
end
end HT
namespace L2
open PySem PySem.Spec PyProof.Rows
abbrev TO:=St→Hp→(Option Int→Hp→Prop)→Prop
def PO (X:Cx) (e:Option Expr) (t:TO):Prop:=
 ∀ (pins:List (Addr×Obj)) (s:Shared) (σ:St) (H:Hp) (Q:Option Int→Hp→Prop),Inv X pins σ H s→t σ H Q→
  wpAny (model X.prog X.w) X.A (evalPart e X.env) (fun u s'=>∃o H',Inv X pins σ H' s'∧IsPart u o∧Q o H') X.xe s
def tNoPart:TO:=fun _ H Q=>Q none H
def tPart (t:TE):TO:=fun σ H Q=>t σ H fun x H1=>∃i,x= .int i∧Q (some i) H1
section
variable {X:Cx} {e:Expr} {te:TE} {lo hi:Option Expr} {tl th:TO} {pos p2:Pos}
theorem Ny:PO X none tNoPart:=by
 intro pins s σ H Q I h;rw [evalPart_none];exact wpAny_pure ⟨none,H,I,.none,h⟩
theorem Nz (h:PE X e te):PO X (some e) (tPart te):=by
 intro pins s σ H Q I hw;rw [evalPart_some];refine thn (h pins s σ H _ I hw) fun u s1 h0z=>?_
 obtain ⟨x,H1,I1,r1,q1⟩:=h0z;obtain ⟨i,rfl,q⟩:=q1;obtain ⟨t,rfl⟩:=r1;exact ⟨some i,H1,I1,.int i t,q⟩
def SlR (X:Cx) (r:V→Option Int→Option Int→Hp→VK→Prop):Prop:=
 ∀ (pins:List (Addr×Obj)) (s:Shared) (σ:St) (H:Hp) (x:V) (v vl vu:Value) (lo hi:Option Int) (sl:Addr) (Q:VK),Inv X pins σ H s→RelV x v→s.heap.IsSliceOf sl vl vu .none→IsPart vl lo→IsPart vu hi→r x lo hi H Q→
  ∃T id,typeLookup (.type T) "__getitem__"=pure (some (.builtin id))∧s.TypeIs v T∧wpAny (model X.prog X.w) X.A (getItem v (.ref sl)) (EP X pins σ Q) X.xe s
def tSl (r:V→Option Int→Option Int→Hp→VK→Prop) (te:TE) (tl th:TO):TE:=fun σ H Q=>te σ H fun x H1=>tl σ H1 fun l H2=>th σ H2 fun u H3=>r x l u H3 Q
theorem E9 {r:V→Option Int→Option Int→Hp→VK→Prop} (hr:SlR X r) (he:PE X e te) (hl:PO X lo tl) (hu:PO X hi th):PE X (.Subscript e (.Slice lo hi none p2) pos) (tSl r te tl th):=by
 intro pins s σ H Q I h;refine Subscript_ (thn (he pins s σ H _ I h) fun v s1 h0z=>?_);obtain ⟨x,H1,I1,r1,q1⟩:=h0z;refine wpAny_Slice (thn (hl pins s1 σ H1 _ I1 q1) fun vl s2 ⟨l,H2,I2,pl,q2⟩=>thn (hu pins s2 σ H2 _ I2 q2) fun vu s3 h0z=>?_);obtain ⟨u,H3,I3,pu,q3⟩:=h0z;rw [evalPart_none];refine wpAny_pure ?_;have I4:Inv X pins σ H3 { s3 with heap:=s3.heap.push { cls:= .type "slice",data:= .fields #[vl,vu,.none] } }:=I3.kept (t':=s3.toks) fun b ob q=>get?_push_of_some _ q
 obtain ⟨T,id,hT,ht,hg⟩:=hr pins { s3 with heap:=s3.heap.push { cls:= .type "slice",data:= .fields #[vl,vu,.none] } } σ H3 x v vl vu l u s3.heap.objs.size Q I4 r1 (Heap.IsSliceOf.new ..) pl pu q3
 show wpAny (model X.prog X.w) X.A (subscriptTail e (.Slice lo hi none p2) v (.ref s3.heap.objs.size)) (EP X pins σ Q) X.xe { s3 with heap:=s3.heap.push { cls:= .type "slice",data:= .fields #[vl,vu,.none] } }
 exact tail_any (ops:=[.ref s3.heap.objs.size,v]) ht hT hg (by with_unfolding_all rfl)
noncomputable def cutV (xs:List V) (lo hi:Option Int):List V:=(xs.drop (HT.sIx xs.length 0 lo)).take (HT.sIx xs.length xs.length hi - HT.sIx xs.length 0 lo)
theorem w6 (xs:List V) (lo hi:Option Int):(cutV xs lo hi).length≤xs.length:=by
 unfold cutV;rw [List.length_take,List.length_drop];omega
def rSlT (K:Frag):V→Option Int→Option Int→Hp→VK→Prop:=fun x lo hi H Q=>∃a xs,x= .ref a∧SqT K H a xs∧
 ¬ (HT.sIx xs.length 0 lo=0∧HT.sIx xs.length xs.length hi=xs.length)∧ ∀p,H p=none→Q (.ref p) (upd H p (.tup (cutV xs lo hi)))
theorem Q3:SlR X (rSlT X.K):=by
 intro pins s σ H x v vl vu lo hi sl Q I rx hs pl pu h;obtain ⟨a,xs,rfl,hx,hw,q⟩:=h;cases rx;obtain ⟨its,r,ht,hz⟩:=I.tuple hx;have hlen:its.toArray.size=xs.length:=by rw [size_toArray];exact r.length.symm
 refine ⟨"tuple",_,PyProof.Rows.slot_tuple_getitem.lookup,ht.typeIs,?_⟩;refine HT.getItem_tuple_cut ht hs pl pu (by rw [hlen];exact hw) ?_ (by rw [hlen];exact hz);rw [hlen];refine ⟨.ref s.heap.objs.size,_,I.laid (t':=s.toks) (o:= .tup (cutV xs lo hi)) (fun b ob q=>get?_push_of_some _ q) (Nat.le_refl _) ?_,rfl,q _ (I.hok.fresh (Nat.le_refl _))⟩;exact ⟨Nat.le_trans (w6 xs lo hi) hz,_,(r.drop (HT.sIx xs.length 0 lo)).take (HT.sIx xs.length xs.length hi - HT.sIx xs.length 0 lo),IsTup.new _ _⟩
end
end L2
namespace L2
open PySem PySem.Spec PyProof.Rows
noncomputable def ixN (n:Nat) (i:Int):Option Nat:=if 0≤i then (if i < n then some i.toNat else none) else if -(n:Int)≤i then some (i+n).toNat else none
noncomputable def atI {α:Type} (xs:List α) (i:Int):Option α:=(ixN xs.length i).bind fun j=>xs[j]?
theorem Hv {n:Nat} {i:Int} {j:Nat} (h:ixN n i=some j):seqIndex? i n=some j∧j < n∧ -(n:Int)≤i∧i < n:=by
 unfold ixN at h
 by_cases h0:0≤i
 ·rw [if_pos h0] at h
  by_cases h1:i < n
  ·rw [if_pos h1] at h
   have e:i.toNat=j:=Option.some.inj h;exact ⟨by rw [seqIndex_of h0 h1,e],by omega,by omega,h1⟩
  ·rw [if_neg h1] at h;cases h
 ·rw [if_neg h0] at h
  by_cases h1: -(n:Int)≤i
  ·rw [if_pos h1] at h
   have e:(i+n).toNat=j:=Option.some.inj h;exact ⟨by rw [seqIndex_neg (by omega) h1,e],by omega,h1,by omega⟩
  ·rw [if_neg h1] at h;cases h
theorem Dr {α:Type} {xs:List α} {i:Int} {v:α} (h:atI xs i=some v): ∃j,seqIndex? i xs.length=some j∧xs[j]?=some v∧j < xs.length∧ -(xs.length:Int)≤i∧i < xs.length:=by
 unfold atI at h;cases e:ixN xs.length i with
 | none=>rw [e] at h;cases h
 | some j=>
  rw [e] at h;obtain ⟨h1,h2,h3,h4⟩:=Hv e;exact ⟨j,h1,h,h2,h3,h4⟩
def PlainIx (b:Expr):Prop:= ∀o i,subscripted b false o i=operate [o,i] (getItem o i)
def IxR (X:Cx) (r:R2):Prop:=
 ∀ (value slice:Expr) (pins:List (Addr×Obj)) (s:Shared) (σ:St) (H:Hp) (x y:V) (v u:Value) (Q:VK),Inv X pins σ H s→RelV x v→RelV y u→r x y H Q→
  subscripted slice false v u=operate [v,u] (getItem v u)→wpAny (model X.prog X.w) X.A (subscriptTail value slice v u) (EP X pins σ Q) X.xe s
def MtR (X:Cx) (id:String) (r:V→List V→Hp→VK→Prop):Prop:=
 ∀ (pins:List (Addr×Obj)) (s:Shared) (σ:St) (H:Hp) (x:V) (xs:List V) (v:Value) (us:List Value) (Q:VK),Inv X pins σ H s→RelV x v→Vals xs us→r x xs H Q→
  wpAny (model X.prog X.w) X.A (call (.builtin id) (v::us)) (EP X pins σ Q) X.xe s
section
variable {X:Cx} {a b:Expr} {ta tb:TE} {pos:Pos}
theorem IxR.or {r r':R2} (h:IxR X r) (h':IxR X r'):IxR X (fun x y H Q=>r x y H Q∨r' x y H Q):=by
 intro value slice pins s σ H x y v u Q I rx ry q hs;rcases q with q | q
 ·exact h value slice pins s σ H x y v u Q I rx ry q hs
 ·exact h' value slice pins s σ H x y v u Q I rx ry q hs
theorem Q4 {r:R2} (hr:IxR X r) (ha:PE X a ta) (hb:PE X b tb) (hs:PlainIx b):PE X (.Subscript a b pos) (tOp r ta tb):=by
 intro pins s σ H Q I h;exact Subscript_ (binT ha hb I h fun v u s2 x y H2 I2 rx ry q=>hr a b pins s2 σ H2 x y v u Q I2 rx ry q (hs _ _))
def rIxL (K:Frag):R2:=fun x y H Q=>∃p xs i v,x= .ref p∧y= .int i∧SqL K H p xs∧atI xs i=some v∧Q v H
def rIxT (K:Frag):R2:=fun x y H Q=>∃p xs i v,x= .ref p∧y= .int i∧SqT K H p xs∧atI xs i=some v∧Q v H
def rIxS:R2:=fun x y H Q=>∃z i c,x= .str z∧y= .int i∧z.length≤sizeLine∧atI z.cps.toList i=some c∧Q (.str ⟨#[c]⟩) H
theorem ix_list:IxR X (rIxL X.K):=by
 intro value slice pins s σ H x y v u Q I rx ry h hs;obtain ⟨p,xs,i,z,rfl,rfl,hq,he,q⟩:=h;cases rx;obtain ⟨t,rfl⟩:=ry;obtain ⟨its,r,pl,hz⟩:=I.list hq;obtain ⟨j,h1,h2,h3,h4,h5⟩:=Dr he;obtain ⟨w,ew,rw'⟩:=r.get h2;have hl:=r.length;have hn:=line63;have fin:EP X pins σ Q w s:=⟨z,H,I,rw',q⟩
 by_cases h0:0≤i
 ·have hj:i.toNat=j:=by
   rw [seqIndex_of h0 h5] at h1;exact Option.some.inj h1
  exact item_listR pl.isList h0 (by omega) (by rw [hj];simpa using ew) fin hs
 ·have hj:(i+(its.toArray.size:Int)).toNat=j:=by
   rw [seqIndex_neg (by omega) h4] at h1;rw [size_toArray,←hl];exact Option.some.inj h1
  exact subscriptTail_builtinR (x:=w) pl.isList.typeIs slot_list_getitem.lookup
   (wpAny_getItem_list_neg (Q:=fun r s'=>r=w∧EP X pins σ Q r s') pl.isList (by omega) (by rw [size_toArray] <;> omega) (by omega) (by rw [hj];simpa using ew) ⟨rfl,fin⟩) hs
theorem ix_tup:IxR X (rIxT X.K):=by
 intro value slice pins s σ H x y v u Q I rx ry h hs;obtain ⟨p,xs,i,z,rfl,rfl,hq,he,q⟩:=h;cases rx;obtain ⟨t,rfl⟩:=ry;obtain ⟨its,r,pl,hz⟩:=I.tuple hq;obtain ⟨j,h1,h2,h3,h4,h5⟩:=Dr he;obtain ⟨w,ew,rw'⟩:=r.get h2;have hl:=r.length;have hn:=line63;have fin:EP X pins σ Q w s:=⟨z,H,I,rw',q⟩
 exact subscriptTail_builtinR (x:=w) pl.typeIs slot_tuple_getitem.lookup
  (getItem_tuple (j:=j) (Q:=fun r s'=>r=w∧EP X pins σ Q r s') pl (by omega) (by omega) (by rw [size_toArray,←hl];exact h1) (by simpa using ew) ⟨rfl,fin⟩) hs
theorem Q5:IxR X rIxS:=by
 intro value slice pins s σ H x y v u Q I rx ry h hs;obtain ⟨z,i,c,rfl,rfl,hz,he,q⟩:=h;obtain ⟨t,rfl⟩:=rx;obtain ⟨t',rfl⟩:=ry;obtain ⟨j,h1,h2,h3,h4,h5⟩:=Dr he;have hl:z.cps.toList.length=z.length:=by simp [Str.length]
 rw [hl] at h1 h4 h5;have hn:=line63;exact tail_any (typeIs_str s z t) slot_str_getitem.lookup (getItem_str (c:=c) (by
  have e1:decide (i < -(2 ^ 63:Int))=false:=decide_eq_false (by omega);have e2:decide (i ≥ 2 ^ 63)=false:=decide_eq_false (by omega);rw [e1,e2,Bool.or_false]) (by rw [h1];simpa using h2) ⟨.str ⟨#[c]⟩,H,I.tok _,⟨_,rfl⟩,q⟩) hs
def rIx (K:Frag):R2:=fun x y H Q=>rIxL K x y H Q∨rIxT K x y H Q∨rIxS x y H Q
theorem Q6:IxR X (rIx X.K):=ix_list.or (ix_tup.or Q5)
theorem Gn (its:List Value) (n j:Nat) (u:Value):Obj.mapSeq (·.setIfInBounds j u) { cls:= .type "list",data:= .seq its.toArray n }={ cls:= .type "list",data:= .seq (its.set j u).toArray n }:=by
 simp [Obj.mapSeq]
theorem Inv.lst {pins:List (Addr×Obj)} {σ:St} {H:Hp} {s:Shared} {p:Addr} {xs:List V} (I:Inv X pins σ H s) (h:H p=some (.lst xs)):
  ∃ (its:List Value) (n:Nat),Vals xs its∧s.heap.get? p=some { cls:= .type "list",data:= .seq its.toArray n }∧xs.length≤sizeLine:=by
 obtain ⟨z,its,n,r,e⟩:=I.hok p _ h;exact ⟨its,n,r,e,z⟩
theorem Inv.lstUpd {pins:List (Addr×Obj)} {σ:St} {H:Hp} {s:Shared} {p:Addr} {xs ys:List V} {its its':List Value} {n n':Nat} {f:Obj→Obj} (I:Inv X pins σ H s) (h:H p=some (.lst xs))
  (ho:s.heap.get? p=some { cls:= .type "list",data:= .seq its.toArray n }) (hf:f { cls:= .type "list",data:= .seq its.toArray n }={ cls:= .type "list",data:= .seq its'.toArray n' }) (r:Vals ys its') (hz:ys.length≤sizeLine) (t:Nat):
  Inv X pins σ (upd H p (.lst ys)) { s with heap:=s.heap.update p f,toks:=t }:=by
 have e:(s.heap.update p f).get? p=some { cls:= .type "list",data:= .seq its'.toArray n' }:=by
  rw [Heap.get?_update_self f ho (by rw [hf] <;> rfl),hf]
 refine I.write (x:=p) (e:=p) (by rw [h];trivial) (.inl rfl) (fun b u hb q=>(Heap.get?_update_other _ _ (Ne.symm hb)).trans q) ⟨_,e⟩ ?_;exact ⟨hz,its',n',r,e⟩
def rSetL:V→V→V→Hp→(Hp→Prop)→Prop:=fun o i v H Q=>∃p xs k j,o= .ref p∧i= .int k∧H p=some (.lst xs)∧ixN xs.length k=some j∧Q (upd H p (.lst (xs.set j v)))
theorem K6:PSet X rSetL:=by
 intro pins s σ H o i v ov iv u Q I ro ri rv h;obtain ⟨p,xs,k,j,rfl,rfl,hp,hj,q⟩:=h;cases ro;obtain ⟨t,rfl⟩:=ri;obtain ⟨its,n,r,ho,hz⟩:=I.lst hp;obtain ⟨h1,h2,h3,h4⟩:=Hv hj;have hl:=r.length;have hn:=line63;have I':Inv X pins σ (upd H p (.lst (xs.set j v))) { s with heap:=s.heap.update p (Obj.mapSeq (·.setIfInBounds j u)) }:=
  I.lstUpd hp ho (Gn its n j u) (r.set rv j) (by rw [length_set];exact hz) s.toks
 by_cases h0:0≤k
 ·have hk:k.toNat=j:=by
   rw [seqIndex_of h0 h4] at h1;exact Option.some.inj h1
  exact PySem.W.ki_setAt ho h0 (by omega) (by rw [size_toArray,←hl];exact h4) (by rw [hk];exact ⟨_,I',q⟩)
 ·have hk:(k+(its.toArray.size:Int)).toNat=j:=by
   rw [seqIndex_neg (by omega) h3] at h1;rw [size_toArray,←hl];exact Option.some.inj h1
  exact PySem.W.ki_setBack ho (by omega) (by rw [size_toArray,←hl];exact h3) (by omega) (by rw [hk];exact ⟨_,I',q⟩)
theorem B8 (lo hi:Option Int) (n:Nat):(sliceBounds lo hi none n).1=((HT.sIx n 0 lo:Nat):Int)∧(sliceBounds lo hi none n).2.1=((HT.sIx n n hi:Nat):Int)∧(sliceBounds lo hi none n).2.2=1:=by
 refine ⟨?_,?_,rfl⟩
 ·cases lo with
  | none=>simp [sliceBounds,HT.sIx]
  | some i=>
   simp only [sliceBounds,HT.sIx,Option.getD_none,show (1:Int) > 0 by decide,if_true]
   by_cases h:i < 0
   ·simp only [h,if_true] <;> omega
   ·simp only [h,if_false] <;> omega
 ·cases hi with
  | none=>simp [sliceBounds,HT.sIx]
  | some i=>
   simp only [sliceBounds,HT.sIx,Option.getD_none,show (1:Int) > 0 by decide,if_true]
   by_cases h:i < 0
   ·simp only [h,if_true] <;> omega
   ·simp only [h,if_false] <;> omega
theorem Az (its:List Value) (lo hi:Option Int):slicePick its.toArray lo hi none=((its.drop (HT.sIx its.length 0 lo)).take (HT.sIx its.length its.length hi - HT.sIx its.length 0 lo)).toArray:=by
 obtain ⟨h1,h2,h3⟩:=B8 lo hi its.toArray.size;unfold slicePick;rw [h1,h2,h3];simp only [sliceRange_one,pick_run,size_toArray] <;> rfl
def rSlL (K:Frag):V→Option Int→Option Int→Hp→VK→Prop:=fun x lo hi H Q=>∃a xs,x= .ref a∧SqL K H a xs∧ ∀p,H p=none→Q (.ref p) (upd H p (.lst (cutV xs lo hi)))
theorem N0:SlR X (rSlL X.K):=by
 intro pins s σ H x v vl vu lo hi sl Q I rx hs pl pu h;obtain ⟨a,xs,rfl,hx,q⟩:=h;cases rx;obtain ⟨its,r,ht,hz⟩:=I.list hx;have hlen:=r.length;refine ⟨"list",_,slot_list_getitem.lookup,ht.isList.typeIs,?_⟩;refine wpAny_getItem_list_slice ht.isList hs pl pu .none (by simp) ?_ (by rw [size_toArray] <;> omega);rw [Az,←hlen];refine ⟨.ref s.heap.objs.size,_,I.laid (t':=s.toks) (o:= .lst (cutV xs lo hi)) (fun b ob q=>get?_push_of_some _ q) (Nat.le_refl _) ?_,rfl,q _ (I.hok.fresh (Nat.le_refl _))⟩;exact ⟨Nat.le_trans (w6 xs lo hi) hz,_,0,(r.drop (HT.sIx xs.length 0 lo)).take (HT.sIx xs.length xs.length hi - HT.sIx xs.length 0 lo),Heap.get?_push_size _ rfl⟩
theorem B9:CallR X (.builtin "len") (fun xs H Q=>∃p ys,xs=[.ref p]∧(SqL X.K H p ys∨SqT X.K H p ys)∧Q (.int ys.length) H):=by
 intro pins s σ H xs us Q I r h;obtain ⟨p,ys,rfl,hq,q⟩:=h;obtain ⟨u,rfl,rx⟩:=vals1 r;cases rx;have hn:=line63;rcases hq with hq | hq
 ·obtain ⟨its,r',pl,hz⟩:=I.list hq
  have hlen:=r'.length;exact Calls.call_len_list pl.isList (by simp only [size_toArray] <;> omega) ⟨.int ys.length,H,I.tok _,⟨s.toks+1,by rw [size_toArray,hlen]⟩,q⟩
 ·obtain ⟨its,r',pl,hz⟩:=I.tuple hq
  have hlen:=r'.length;exact len_tuple pl (by simp only [size_toArray] <;> omega) ⟨.int ys.length,H,I.tok _,⟨s.toks+1,by rw [size_toArray,hlen]⟩,q⟩
theorem Ca:CallR X (.builtin "len") (fun xs H Q=>∃z,xs=[.str z]∧z.length≤sizeLine∧Q (.int z.length) H):=by
 intro pins s σ H xs us Q I r h;obtain ⟨z,rfl,hz,q⟩:=h;obtain ⟨u,rfl,t,rfl⟩:=vals1 r;have hn:=line63;exact len_str (by omega) ⟨.int z.length,H,I.tok _,⟨_,rfl⟩,q⟩
theorem CallR.or {f:Value} {r r':List V→Hp→VK→Prop} (h:CallR X f r) (h':CallR X f r'):CallR X f (fun xs H Q=>r xs H Q∨r' xs H Q):=by
 intro pins s σ H xs us Q I rs q;rcases q with q | q
 ·exact h pins s σ H xs us Q I rs q
 ·exact h' pins s σ H xs us Q I rs q
theorem b9:CallR X (.type "list") (fun xs H Q=>∃p ys,xs=[.ref p]∧(SqL X.K H p ys∨SqT X.K H p ys)∧ ∀l,H l=none→Q (.ref l) (upd H l (.lst ys))):=by
 intro pins s σ H xs us Q I r h;obtain ⟨p,ys,rfl,hq,q⟩:=h;obtain ⟨u,rfl,rx⟩:=vals1 r;cases rx;have fin: ∀ (its:List Value),Vals ys its→ys.length≤sizeLine→ ∀ (h':Heap) (c':Nat),(∀b o',s.heap.get? b=some o'→h'.get? b=some o')→
   h'.get? s.heap.objs.size=some { cls:= .type "list",dict:=none,data:= .seq its.toArray c',slots:= #[] }→EP X pins σ Q (.ref s.heap.objs.size) { s with heap:=h' }:=fun its r' hz h' c' kp e=>
  ⟨.ref s.heap.objs.size,_,I.laid (t':=s.toks) kp (Nat.le_refl _) (show ObjOk X.prog X.w _ h' _ (.lst ys) from ⟨hz,its,c',r',e⟩),rfl,q _ (I.hok.fresh (Nat.le_refl _))⟩
 rcases hq with hq | hq
 ·obtain ⟨its,r',pl,hz⟩:=I.list hq
  have hlen:=r'.length;obtain ⟨o,ho,hc,n,hd⟩:=pl.isList;exact call_list_seq p (.inl rfl) ho hc hd (fun h' c' kp e=>fin its r' hz h' c' kp e) (by simp only [size_toArray] <;> omega)
 ·obtain ⟨its,r',pl,hz⟩:=I.tuple hq
  have hlen:=r'.length;obtain ⟨o,ho,hc,n,hd⟩:=pl;exact call_list_seq p (.inr rfl) ho hc hd (fun h' c' kp e=>fin its r' hz h' c' kp e) (by simp only [size_toArray] <;> omega)
def tyV (K:Frag) (T:String) (x:V) (H:Hp):Prop:=match x with
 | .str _=>T="str"
 | .int _=>T="int"
 | .ref p=>(T="list"∧ ∃xs,SqL K H p xs)∨(T="tuple"∧ ∃o,K.lookup p=some o∧o.cls= .type "tuple"∧o.dict=none)∨
   (T="dict"∧((∃kvs,H p=some (.dK kvs))∨ ∃kvs,H p=some (.dT kvs)))∨(T="set"∧ ∃S n,H p=some (.set S n))
 | _=>False
theorem Mw {pins:List (Addr×Obj)} {σ:St} {H:Hp} {s:Shared} {T:String} {x:V} {v:Value} (I:Inv X pins σ H s) (r:RelV x v) (ty:tyV X.K T x H):
  s.TypeIs v T∧ ∀a,v= .ref a→ ∃ob,s.heap.get? a=some ob∧ob.dict=none:=by
 cases x with
 | str z=>
  obtain ⟨t,rfl⟩:=r;cases (show T="str" from ty);exact ⟨typeIs_str s z t,fun _ e=>nomatch e⟩
 | int i=>
  obtain ⟨t,rfl⟩:=r;cases (show T="int" from ty);exact ⟨typeIs_int s i t,fun _ e=>nomatch e⟩
 | ref p=>
  cases r;rcases ty with ⟨rfl,xs,hq⟩ | ⟨rfl,o,hk,hc,hd⟩ | ⟨rfl,hk⟩ | ⟨rfl,S,n,hk⟩
  ·obtain ⟨its,_,pl,_⟩:=I.list hq
   refine ⟨pl.isList.typeIs,fun a e=>?_⟩;cases e;obtain ⟨o,n,e,c,hd,_⟩:=pl;exact ⟨o,e,hd⟩
  ·refine ⟨⟨o,I.kIn p o hk,hc⟩,fun a e=>?_⟩
   cases e;exact ⟨o,I.kIn _ o hk,hd⟩
  ·have z: ∃o,s.heap.get? p=some o∧o.ExactDict:=by
    rcases hk with ⟨kvs,hk⟩ | ⟨kvs,hk⟩
    ·obtain ⟨_,_,_,_,o,_,_,e,ex,_⟩:=I.hok p _ hk
     exact ⟨o,e,ex⟩
    ·obtain ⟨_,_,_,_,o,_,_,e,ex,_⟩:=I.hok p _ hk
     exact ⟨o,e,ex⟩
   obtain ⟨o,e,ex⟩:=z;refine ⟨⟨o,e,ex.1⟩,fun a e2=>?_⟩;cases e2;exact ⟨o,e,ex.2.1⟩
  ·obtain ⟨o,_,_,_,e,ex,_⟩:=I.hok p _ hk
   refine ⟨⟨o,e,ex.1⟩,fun a e2=>?_⟩;cases e2;exact ⟨o,e,ex.2.1⟩
 | _=>exact False.elim ty
def tBM0 (K:Frag) (T:String) (r:V→List V→Hp→VK→Prop) (to:TE):TE:=fun σ H Q=>to σ H fun x H1=>tyV K T x H1∧r x [] H1 Q
def tBM (K:Frag) (T:String) (r:V→List V→Hp→VK→Prop) (to:TE) (t:TA):TE:=fun σ H Q=>to σ H fun x H1=>tyV K T x H1∧t σ H1 fun xs H2=>r x xs H2 Q
variable {o e:Expr} {es:List Expr} {to:TE} {t:TA} {name:Str} {apos cpos:Pos} {T id:String} {r:V→List V→Hp→VK→Prop}
theorem Mx (pa:PlainAttrs T) (slot:Slot T name id) (hty:typeOf (.builtin id)=pure (.type "method_descriptor")) (hm:MtR X id r) (ho:PE X o to)
  (hbase:attributeBase o name X.env (eval o X.env)=eval o X.env:=by rfl) (hline:(apos.endLine==cpos.line)=true:=by rfl):PE X (.Call (.Attribute o name apos) [] [] cpos) (tBM0 X.K T r to):=by
 intro pins s σ H Q I h;refine wpAny_Call_method0_late hbase hline (thn (ho pins s σ H _ I h) fun v s1 h0z=>?_);obtain ⟨x,H1,I1,r1,ty,q1⟩:=h0z;obtain ⟨h1,h2⟩:=Mw I1 r1 ty;exact ⟨T,id,pa,slot,hty,h1,h2,Calls.callWith_builtin rfl (PySem.evalArgs_none (hm pins s1 σ H1 x [] v [] Q I1 r1 .nil q1))⟩
theorem Ds (pa:PlainAttrs T) (slot:Slot T name id) (hty:typeOf (.builtin id)=pure (.type "method_descriptor")) (hm:MtR X id r) (ho:PE X o to) (ha:PA X (e::es) t)
  (hbase:attributeBase o name X.env (eval o X.env)=eval o X.env:=by rfl)
  (hfew:((backTo cpos (starEach (e::es) X.env)).all (fun x=>!x.1) && (backToKw cpos (keywordEach [] X.env)).all (fun x=>x.1.isSome)
   && decide ((e::es).length+([]:List Keyword).length+(if ([]:List Keyword).isEmpty then 0 else 1) < 30))=true:=by rfl)
  (hline:(apos.endLine==cpos.line)=true:=by rfl) (hs:starEach (e::es) X.env=(false,eval e X.env)::starEach es X.env:=by rfl) (hplain:(backTo cpos (starEach es X.env)).any (·.1)=false:=by rfl):
  PE X (.Call (.Attribute o name apos) (e::es) [] cpos) (tBM X.K T r to t):=by
 intro pins s σ H Q I h;refine wpAny_Call_method_late hbase hfew hline rfl (thn (ho pins s σ H _ I h) fun v s1 h0z=>?_);obtain ⟨x,H1,I1,r1,ty,q1⟩:=h0z;obtain ⟨h1,h2⟩:=Mw I1 r1 ty;refine ⟨T,id,pa,slot,hty,h1,h2,?_⟩;have hA:=ha cpos pins s1 σ H1 _ I1 q1;rw [hs] at hA ⊢;refine Calls.callWith_builtin (by show (false || (backTo cpos (starEach es X.env)).any (·.1))=false;rw [hplain] <;> rfl) (Calls.evalArgs_plain ?_);exact thn hA fun us s2 ⟨vs,H2,I2,r2,q2⟩=>hm pins s2 σ H2 x vs v us Q I2 r1 r2 q2
end
end L2
namespace L2
open PySem PySem.Spec PyProof.Rows
def MtM (X:Cx) (id:String) (r:V→List V→Hp→VK→Prop):Prop:=
 ∀ (pins:List (Addr×Obj)) (s:Shared) (σ:St) (H:Hp) (x:V) (xs:List V) (v:Value) (us:List Value) (Q:VK),Inv X pins σ H s→RelV x v→Vals xs us→r x xs H Q→
  wpAny (model X.prog X.w) X.A (call (.builtin id) (v::us)) (EP X pins σ Q) X.xe s
theorem Vals.one: ∀ {x:V} {us:List Value},Vals [x] us→ ∃u,us=[u]∧RelV x u:=by
 intro x us h;cases h with
 | cons r t=>cases t;exact ⟨_,rfl,r⟩
theorem Vals.two: ∀ {x y:V} {us:List Value},Vals [x,y] us→ ∃u v,us=[u,v]∧RelV x u∧RelV y v:=by
 intro x y us h;cases h with
 | cons r t=>
  cases t with
  | cons q t=>cases t;exact ⟨_,_,rfl,r,q⟩
theorem Vals.zero: ∀ {us:List Value},Vals [] us→us=[]
 | _,.nil=>rfl
theorem Vals.dropLast {xs:List V} {us:List Value} (h:Vals xs us):Vals xs.dropLast us.dropLast:=by
 induction h with
 | nil=>exact .nil
 | cons r t ih=>
  cases t with
  | nil=>exact .nil
  | cons q t'=>exact .cons r ih
theorem Vals.eraseIdx: ∀ {xs:List V} {us:List Value} (i:Nat),Vals xs us→Vals (xs.eraseIdx i) (us.eraseIdx i)
 | _,_,_,.nil=> .nil
 | _,_,0,.cons _ t=>t
 | _,_,i+1,.cons r t=> .cons r (Vals.eraseIdx i t)
theorem Vals.rep {xs:List V} {us:List Value} (h:Vals xs us): ∀k:Nat,Vals (List.replicate k xs).flatten (List.replicate k us).flatten
 | 0=> .nil
 | k+1=>by
  rw [List.replicate_succ,List.replicate_succ,List.flatten_cons,List.flatten_cons];exact Vals.append h (Vals.rep h k)
theorem Go {α:Type} (l:List α):l.eraseIdx (l.length - 1)=l.dropLast:=by
 induction l with
 | nil=>rfl
 | cons a r ih=>
  cases r with
  | nil=>rfl
  | cons b r=>
   have e:(a::b::r).length - 1=((b::r).length - 1)+1:=by
    have h1:(a::b::r).length=r.length+2:=rfl;have h2:(b::r).length=r.length+1:=rfl;omega
   rw [e,List.eraseIdx_cons_succ,ih]
   all_goals rfl
theorem Cb {α:Type}: ∀ (l:List α) (i:Nat),(l.eraseIdx i).length≤l.length
 | [],_=>Nat.le_refl _
 | _::_,0=>Nat.le_succ _
 | _::r,i+1=>Nat.succ_le_succ (Cb r i)
theorem Cc (its:List Value): ∀ (k:Nat) (acc:List Value),
  List.foldl (fun x1 x2=>x1++x2) acc.toArray (List.replicate k its.toArray)=(acc++(List.replicate k its).flatten).toArray
 | 0,acc=>by simp
 | k+1,acc=>by
  have e:acc.toArray++its.toArray=(acc++its).toArray:=by simp
  have e2:(acc++its)++(List.replicate k its).flatten=acc++(List.replicate (k+1) its).flatten:=by
   rw [List.replicate_succ,List.flatten_cons,append_assoc]
  rw [←e2,←Cc its k (acc++its),←e,List.replicate_succ,List.foldl_cons]
section
variable {X:Cx} {pins:List (Addr×Obj)} {σ:St} {H:Hp} {s:Shared} {l b:Addr} {xs ys zs:List V}
theorem Inv.lset {its its':List Value} {n:Nat} {f:Array Value→Array Value} {t':Nat} (I:Inv X pins σ H s) (hH:H l=some (.lst xs))
  (e:s.heap.get? l=some { cls:= .type "list",data:= .seq its.toArray n }) (hf:f its.toArray=its'.toArray) (hv:Vals ys its') (hz:ys.length≤sizeLine):
  Inv X pins σ (upd H l (.lst ys)) { s with heap:=s.heap.update l (Obj.mapSeq f),toks:=t' }:=by
 have q:=PySem.IsL.update e f;rw [hf] at q;refine I.write (x:=l) (e:=l) (by rw [hH];exact trivial) (.inl rfl) (fun b' u hb hu=>(Heap.get?_update_other s.heap (Obj.mapSeq f) (Ne.symm hb)).trans hu) ⟨_,q⟩ ?_;exact ⟨hz,its',_,hv,q⟩
theorem Inv.lnew {its:List Value} {t':Nat} (I:Inv X pins σ H s) (hv:Vals ys its) (hz:ys.length≤sizeLine):
  Inv X pins σ (upd H s.heap.objs.size (.lst ys)) { s with heap:=s.heap.push { cls:= .type "list",data:= .seq its.toArray },toks:=t' }:=
 I.laid (fun _ _ q=>get?_push_of_some _ q) (Nat.le_refl _) ⟨hz,its,0,hv,Heap.get?_push_size _ rfl⟩
theorem Inv.fresh (I:Inv X pins σ H s):H s.heap.objs.size=none:=I.hok.fresh (Nat.le_refl _)
theorem Inv.lstM (I:Inv X pins σ H s) (hH:H l=some (.lst xs)):xs.length≤sizeLine∧ ∃ (its:List Value) (n:Nat),Vals xs its∧xs.length=its.length∧s.heap.get? l=some { cls:= .type "list",data:= .seq its.toArray n }:=by
 obtain ⟨z,its,n,r,e⟩:=I.hok l _ hH;exact ⟨z,its,n,r,r.length,e⟩
theorem notLongL {n:Nat} (h:n≤sizeLine):Builtin.List.listTooLong n=false:=by
 unfold Builtin.List.listTooLong;exact decide_eq_false (by omega)
end
section
variable {X:Cx}
def rAppend:V→List V→Hp→VK→Prop:=fun x vs H Q=>∃l xs y,x= .ref l∧vs=[y]∧H l=some (.lst xs)∧xs.length < sizeLine∧Q .non (upd H l (.lst (xs++[y])))
theorem w8:MtM X "list.append" rAppend:=by
 intro pins s σ H x vs v us Q I rx rv h;obtain ⟨l,xs,y,rfl,rfl,hH,hz,q⟩:=h;cases rx;obtain ⟨u,rfl,ru⟩:=rv.one;obtain ⟨z,its,n,r,hl,e⟩:=I.lstM hH;refine call_meets F.slot_list_append ⟨_,e,rfl⟩ F.entry_list_append (F.args_list_append_2 _ _) (PySem.list_append l its.toArray n u (by rw [size_toArray];omega)) ⟨e,?_⟩;refine ⟨.non,_,I.lset (its':=its++[u]) hH e (by simp) (r.append (.cons ru .nil)) ?_,rfl,q⟩;rw [length_append,length_singleton];omega
def rPop:V→List V→Hp→VK→Prop:=fun x vs H Q=>∃l xs y,x= .ref l∧vs=[]∧H l=some (.lst xs)∧xs[xs.length - 1]?=some y∧Q y (upd H l (.lst xs.dropLast))
theorem My:MtM X "list.pop" rPop:=by
 intro pins s σ H x vs v us Q I rx rv h;obtain ⟨l,xs,y,rfl,rfl,hH,hy,q⟩:=h;cases rx;have hus:=rv.zero;subst hus;obtain ⟨z,its,n,r,hl,e⟩:=I.lstM hH;obtain ⟨u,hu,ru⟩:=r.get hy;have hy':its.toArray[its.toArray.size - 1]?=some u:=by
  show its.toArray[its.length - 1]?=some u
  rw [←Array.getElem?_toList,←hl];exact hu
 refine call_meets F.slot_list_pop ⟨_,e,rfl⟩ F.entry_list_pop (F.args_list_pop_1 _) (MeetsSeq.list_pop_last l its.toArray n u hy' (by rw [size_toArray];omega)) ⟨e,?_⟩;refine ⟨y,_,I.lset (its':=its.dropLast) hH e ?_ r.dropLast ?_,ru,q⟩
 ·show its.toArray.eraseIdxIfInBounds (its.toArray.size - 1)=its.dropLast.toArray
  rw [size_toArray,List.eraseIdxIfInBounds_toArray,Go]
 ·rw [List.length_dropLast]
  omega
def rPopAt:V→List V→Hp→VK→Prop:=fun x vs H Q=>∃l xs i k y,x= .ref l∧vs=[.int i]∧H l=some (.lst xs)∧ -(2 ^ 63)≤i∧i < 2 ^ 63∧seqIndex? i xs.length=some k∧xs[k]?=some y∧Q y (upd H l (.lst (xs.eraseIdx k)))
theorem K7:MtM X "list.pop" rPopAt:=by
 intro pins s σ H x vs v us Q I rx rv h;obtain ⟨l,xs,i,k,y,rfl,rfl,hH,h1,h2,hk,hy,q⟩:=h;cases rx;obtain ⟨u,rfl,ru⟩:=rv.one;obtain ⟨t,rfl⟩:=ru;obtain ⟨z,its,n,r,hl,e⟩:=I.lstM hH;obtain ⟨w,hw,rw'⟩:=r.get hy;refine call_meets F.slot_list_pop ⟨_,e,rfl⟩ F.entry_list_pop (F.args_list_pop_2 _ _)
  (MeetsSeq.list_pop_at l its.toArray n i t k w (fitsIndex_both h1 h2) (by rw [size_toArray,←hl];exact hk) (by rw [←Array.getElem?_toList];exact hw) (by rw [size_toArray];omega)) ⟨e,?_⟩
 refine ⟨y,_,I.lset (its':=its.eraseIdx k) hH e ?_ (r.eraseIdx k) ?_,rw',q⟩
 ·show its.toArray.eraseIdxIfInBounds k=(its.eraseIdx k).toArray
  rw [List.eraseIdxIfInBounds_toArray]
 ·have:=Cb xs k
  omega
theorem N1 {α:Type} (xs:List α) (k:Nat):(List.replicate k xs).flatten.length=k*xs.length:=by
 induction k with
 | zero=>simp
 | succ k ih=>rw [List.replicate_succ,List.flatten_cons,length_append,ih,Nat.succ_mul,Nat.add_comm]
end
end L2
namespace Att
open PySem PySem.W PySem.Calls PyProof.Rows
theorem w9 {P:Params} {h:Heap}: ∀ (ns:List Int) (vs:List Value),WellAll P h vs (ns.map WData.int)→IntsAre vs ns:=by
 intro ns
 induction ns with
 | nil=>
  intro vs w;rw [List.map_nil] at w;cases w;exact .nil
 | cons n ns ih=>
  intro vs w;rw [map_cons] at w;cases w with
  | cons a b=>
   cases a;exact .cons _ _ (ih _ b)
theorem Hw {l:OpenLaw} {n:Nat} (hn:l.most=some n) {P:Params} {h:Heap} {args:List WData} {vals:List Value}
  (hpre:l.row.toRowW.claim.pre args=true) (hwl:WellAll P h vals args):
  ∃a vs ns,vals=[Value.ref a]∧args=[WData.list (ns.map WData.int)]∧h.get? a=some { cls:= .type "list",data:= .seq vs.toArray }∧IntsAre vs ns∧ns.length≤n:=by
 have hsh:WShape.hasAll [] args [.list .int]=true:=(pre_splitW hpre).1;have hc:l.pre.holds [] { args:=args }=true:=(pre_splitW hpre).2;obtain ⟨d,r,rfl,h1,h2⟩:=hasAllW_cons hsh;obtain rfl:=hasAllW_nil h2;obtain ⟨xs,rfl,h3⟩:=hasW_list h1;obtain ⟨ns,rfl⟩:=items_int h3;have hlen:ns.length≤n:=by
  unfold OpenLaw.pre at hc;have h4:(WTm.not (.lt (.lit (.int (n:Int))) (.len (.arg 0)))).holds [] { args:=[.list (ns.map .int)] }=true:=by
   have h4:=(holds_andW hc).1;rw [hn] at h4;exact h4
  have h5:=condW_of h4 (w_not (w_lt w_lit (w_len_list (w_arg rfl))));rw [length_map] at h5;refine Nat.le_of_not_lt fun q=>?_
  have q':(n:Int) < ((ns.length:Nat):Int):=by omega
  first
   | (rw [decide_eq_true q'] at h5;exact absurd h5 (by decide))
   | (simp at h5;omega)
 cases hwl with
 | cons w1 w2=>
  cases w2;cases w1 with
  | list ho hall=>exact ⟨_,_,ns,rfl,rfl,ho,w9 ns _ hall,hlen⟩
theorem Hx (l:OpenLaw) (args:List WData):l.row.toRowW.claim.post args (.bool true) args=true:=
 postW_of (r:=l.row.toRowW) (X:=(true==true))
  (show WShape.has [] (.bool true) .bool=true by first | rfl | decide | simp [WShape.has,WShape.arms,WShape.armsAll])
  (show (WTm.eq .res (.lit (.bool true))).value [] { args:=args,res:=some (.bool true),after:=args }=some (.bool (true==true)) from w_eq_bool (w_res rfl) w_lit) rfl
theorem attach_call {l:OpenLaw} {n:Nat} {q:Program} {loose:List Str} {XP:(Str→Option Value)→Heap→Prop} {YP:World→Heap→Prop} {d:DefRec}
  (hn:l.most=some n) (hdf:d.params.defaults=[])
  (call: ∀ (w:World) (s₀ s₁:Shared) (mg mb:Str→Option Value) (fa:Addr) (o:Obj) (pm cd doc:Value) (a:Addr) (vs:List Value) (ns:List Int),
   Ground q loose [] XP w s₀ mg mb s₁.heap→YP w s₁.heap→
   s₁.heap.get? fa=some o→o.data= .func (docDef d.name d.params d.body d.scope pm cd doc)→s₁.heap.CodeRec cd d.name→mg d.name=some (.ref fa)→
   s₁.heap.get? a=some { cls:= .type "list",data:= .seq vs.toArray }→IntsAre vs ns→ns.length≤n→s₁.gens= #[]→
   codeAny (model l.prog w) callerA (.call (.ref fa) ⟨[.ref a],[]⟩) (fun r s'=>r= .ok (.ret (.bool true))∧OldK s₁.heap s'.heap∧s'.os=s₁.os∧AllBare s'.gens) s₁):
  WalkO q loose XP YP l.row.toRowW d [] (fun f vs=>PySem.call f vs):=by
 intro w s₀ s₁ mg mb G Y fa o pm cd doc dV kV ho hd hcd hD hmg hg args vals as hpre hlay hrd hwl hlo;obtain rfl:dV= .none:=Dflts.none hD hdf;obtain rfl:kV= .none:=Dflts.noKw hD;obtain ⟨a,vs,ns,rfl,rfl,hobj,hints,hlen⟩:=Hw hn hpre hwl;refine enter_call (codeAny_mono (call w s₀ s₁ mg mb fa o pm cd doc a vs ns G Y ho (fd_plain hd) hcd hmg hobj hints hlen hg) fun r s' hq=>?_);obtain ⟨rfl,h2,h3,h4⟩:=hq;exact ⟨.inl ⟨.bool true,.bool true,[],rfl,fun _=>rfl,.bool true,Hx l _,fun _=>⟨List.Pairwise.nil,fun _ hm=>(nomatch hm)⟩⟩,h2,h3,h4⟩
end Att
namespace L2
open PySem PySem.Spec PyProof.Rows
theorem Cd: ∀ {vs:List Value} {ns:List Int},IntsAre vs ns→Vals (ns.map V.int) vs
 | _,_,.nil=> .nil
 | _,_,.cons n t h=> .cons ⟨t,rfl⟩ (Cd h)
def Only (H:Hp):Prop:= ∀b,H b=none∨ ∃o xs,H b=some (.frz o (.lst xs))
theorem K8 {P:Program} {w:World} {K:Frag} {mg mb:Str→Option Value} {CX:CXT} {k:Nat} {fa a:Addr} {fd:FuncData} {x:Str} {sp:Sp} {s₁:Shared} {vs:List Value} {ns:List Int}
  (KX:K.In s₁.heap) (hns:s₁.heap.Ns mainGlobals mg) (hb:s₁.heap.Ns builtinsNs mb) (hbb: ∀x:Str,x≠"__name__"→mb x=bootBuiltins x) (hlim:s₁.heap.NoLimit) (hg:s₁.gens= #[])
  (ha:s₁.heap.get? a=some { cls:= .type "list",data:= .seq vs.toArray }) (hi:IntsAre vs ns) (hl:ns.length≤sizeLine) (hr:Room k callerA)
  (F: ∀base:Heap,K.In base→base.Ns mainGlobals mg→FnOk P w K mg base CX k fa fd [x] sp) (hbind: ∀ (s:Shared) (u:Value),BindsTo s fd ⟨[u],[]⟩ [(x,u)])
  (hsp: ∀H:Hp,Only H→SqL K H a (ns.map V.int)→sp [.ref a] H (fun v _=>v= .bl true) fun _ _ _=>False)
  (hCX: ∀H e s',CX [] H s₁ (fun _ _ _=>False) e s'→False):
  codeAny (model P w) callerA (.call (.ref fa) ⟨[.ref a],[]⟩) (fun r s'=>r= .ok (.ret (.bool true))∧OldK s₁.heap s'.heap∧s'.os=s₁.os∧AllBare s'.gens) s₁:=by
 have rv:=Cd hi;have lenV:=hi.length;have core: ∀H:Hp,Only H→SqL K H a (ns.map V.int)→HOk P w H s₁.heap→(∀b,H b≠none→b=a)→(H a≠none→K.lookup a=none)→
   codeAny (model P w) callerA (.call (.ref fa) ⟨[.ref a],[]⟩) (fun r s'=>r= .ok (.ret (.bool true))∧OldK s₁.heap s'.heap∧s'.os=s₁.os∧AllBare s'.gens) s₁:=by
  intro H hO hS hok hA hK;have base_of: ∀ {b:Addr} {o:Obj},s₁.heap.get? b=some o→H b=none→(hidT s₁.heap H).get? b=some o:=fun e n=>Kz e n;have noA: ∀ {b:Addr} {o:Obj} {es:Array DictEntry} {ep:Nat},s₁.heap.get? b=some o→o.data= .dict es ep→H b=none:=fun {b o es ep} e d=>by
   cases q:H b with
   | none=>rfl
   | some u=>
    have e':b=a:=hA b (by rw [q];simp);subst e';rw [ha] at e;cases e;have d':Data.seq vs.toArray _=Data.dict es ep:=d;cases d'
  have nsK: ∀ {b:Addr} {m:Str→Option Value},s₁.heap.Ns b m→(hidT s₁.heap H).Ns b m:=fun {b m} ⟨o,es,ep,e,d,r⟩=>⟨o,es,ep,base_of e (noA e d),d,r⟩
  have hKb:K.In (hidT s₁.heap H):=fun b o e=>base_of (KX b o e) (by
   cases q:H b with
   | none=>rfl
   | some u=>
    have e':b=a:=hA b (by rw [q];simp);subst e';rw [hK (by rw [q];simp)] at e;cases e)
  have hM:Mod K mg (hidT s₁.heap H):=⟨hKb,nsK hns,⟨mb,nsK hb,hbb⟩,let ⟨mc,h1,h2⟩:=hlim;⟨mc,nsK h1,h2⟩⟩
  have e0:Env0 P w K mg (hidT s₁.heap H) callerA [] s₁ H:=⟨rfl,hM,fun b o e=>Np e,Nat.le_of_eq (He _ _),trivial,fun b hb=>absurd (show b∈([]:List Addr) from hb) (by simp),hok,.of_eq hg⟩
  refine codeAny_mono ((F _ hKb (nsK hns)).run callerA [] s₁ H ⟨[.ref a],[]⟩ [.ref a] [.ref a] _ _ hr e0 (hbind s₁ (.ref a)) (.cons rfl .nil) (hsp H hO hS)) fun r s' h=>?_
  cases r with
  | error e=>exact (hCX H e s' h).elim
  | ok fl=>
   cases fl with
   | next=>exact False.elim h
   | brk=>exact False.elim h
   | cont=>exact False.elim h
   | ret u=>
    obtain ⟨v,H',os,bare,un,hok',r',q⟩:=h;have q':v= .bl true:=q;subst q';obtain rfl:u=Value.bool true:=r';refine ⟨rfl,OldK.of_keep fun b o e=>?_,os,bare⟩;cases q:H b with
    | none=>exact un.keep b o e q (by intro z;exact absurd (show b∈([]:List Addr) from z) (by simp)) (by simp)
    | some u=>
     rcases hO b with z | ⟨ob,xs,z⟩
     ·rw [q] at z;cases z
     ·have z2:=un.frzs b ob _ z
      obtain ⟨e1,_⟩:=hok b _ z;obtain ⟨e2,_⟩:=hok' b _ z2;rw [e] at e1;cases e1;exact e2
 cases hk:K.lookup a with
 | some o=>
  have e:=KX a o hk;rw [ha] at e;cases e;refine core (fun _=>none) (fun _=> .inl rfl) (.inr ⟨_,vs.toArray,_,hk,rfl,rfl,rfl,by rw [size_toArray,lenV];exact hl,by simpa using rv⟩) (fun b u z=>by have z':(none:Option HO)=some u:=z;cases z') (fun b z=>absurd rfl z) fun z=>absurd rfl z
 | none=>
  refine core (fun b=>if b=a then some (.frz { cls:= .type "list",data:= .seq vs.toArray } (.lst (ns.map V.int))) else none) (fun b=>?_) (.inl (.inr ⟨{ cls:= .type "list",data:= .seq vs.toArray },if_pos rfl⟩)) (fun b u z=>?_) (fun b z=>?_) fun _=>hk
  ·by_cases hb:b=a
   ·exact .inr ⟨_,_,if_pos hb⟩
   ·exact .inl (if_neg hb)
  ·by_cases hb:b=a
   ·have z':=(if_pos hb).symm.trans z
    cases z';subst hb;exact ⟨ha,by rw [length_map];exact hl,vs,_,rv,ha⟩
   ·have z':=(if_neg hb).symm.trans z
    cases z'
  ·by_cases hb:b=a
   ·exact hb
   ·exact absurd (if_neg hb) z
end L2
namespace L2
open PySem PySem.Spec PyProof.Rows
theorem N2 {l:PySem.W.OpenLaw} {n k:Nat} {q:Program} {loose:List Str} {XP:(Str→Option Value)→Heap→Prop} {YP:World→Heap→Prop} {d:DefRec} {K:Params→Frag} {CX:World→CXT} {sp:World→Sp} {x:Str}
  (hn:l.most=some n) (hn2:n≤sizeLine) (hdf:d.params.defaults=[]) (hr:Room k callerA)
  (hY: ∀ (w:World) (h:Heap),YP w h→(K w.params).In h)
  (F: ∀ (w:World) (mg:Str→Option Value) (fa:Addr) (h:Heap),(K w.params).In h→h.Ns mainGlobals mg→mg d.name=some (.ref fa)→
   ∃fd:FuncData,(∀ (s:Shared) (u:Value),BindsTo s fd ⟨[u],[]⟩ [(x,u)])∧
    ∀base:Heap,(K w.params).In base→base.Ns mainGlobals mg→FnOk l.prog w (K w.params) mg base (CX w) k fa fd [x] (sp w))
  (hsp: ∀ (w:World) (H:Hp) (a:Addr) (ns:List Int),ns.length≤n→Only H→SqL (K w.params) H a (ns.map V.int)→sp w [.ref a] H (fun v _=>v= .bl true) fun _ _ _=>False)
  (hCX: ∀ (w:World) (H:Hp) (s:Shared) (e:Value) (s':Shared),CX w [] H s (fun _ _ _=>False) e s'→False):
  PySem.W.WalkO q loose XP YP l.row.toRowW d [] (fun f vs=>PySem.call f vs):=by
 refine Att.attach_call hn hdf fun w s₀ s₁ mg mb fa o pm cd doc a vs ns G Y ho hd hcd hmg hobj hints hlen hg=>?_
 have KX:=hY w _ Y;obtain ⟨fd,hb,hF⟩:=F w mg fa _ KX G.T.g hmg;exact K8 KX G.T.g G.T.b G.T.builtins G.T.nolimit hg hobj hints (Nat.le_trans hlen hn2) hr hF hb (fun H hO hS=>hsp w H a ns hlen hO hS) fun H e s'=>hCX w H s₁ e s'
end L2
namespace L2
open PySem PySem.Spec PyProof.Rows
noncomputable def defArgs (s:Stmt):Arguments:=match s with
 | .FunctionDef _ a _ _ _ _ _ _ _ _=>a
 | _=> { posonlyargs:=[],args:=[],vararg:=none,kwonlyargs:=[],kw_defaults:=[],kwarg:=none,defaults:=[] }
noncomputable def defBody (s:Stmt):List Stmt:=match s with
 | .FunctionDef _ _ b _ _ _ _ _ _ _=>b
 | _=> []
noncomputable def defScope (s:Stmt):Scope:=match s with
 | .FunctionDef _ _ _ _ _ _ sc _ _ _=>sc
 | _=> { kind:= .function,names:=[],isGenerator:=false,isCoroutine:=false }
abbrev CX0:CXT:=fun _ _ _ _ _ _=>False
abbrev E0:XK:=fun _ _ _=>False
theorem pass0 {X:Cx}:Passes CX0 X E0:=fun _ _ _ _ _ _ _ h=>h.elim
structure Fun (K:Frag) (x qual:Str) (st:Stmt) (f:Addr) (fd:FuncData):Prop where
 ex: ∃ (oc:Value) (od:Option Addr) (kV doc pm:Value) (an:Option Addr) (cdv ct:Value) (osl:Array (Option Value)),
  fd=fnOf x qual (defArgs st) (defBody st) (defScope st) .none kV doc pm an cdv ct∧K.lookup f=some ⟨oc,od,.func fd,osl⟩∧PySem.W.codeIn K cdv qual=true
 kp:keepIn K (.ref f)=true
section
variable {P:Program} {w:World} {K:Frag} {mg:Str→Option Value} {base:Heap}
theorem Fun.ok {x qual:Str} {st:Stmt} {f:Addr} {fd:FuncData} {N ps:List Str} {k:Nat} {sp:Sp} (F:Fun K x qual st f fd) (S:FnScope N ps (defScope st)) (len: ∀vs H Q E,sp vs H Q E→vs.length=ps.length)
  (hbody: ∀ (cdv:Value) (A:Around) (outer:List Env) (s:Shared) (H:Hp) (vs:List V) (Q:VK) (E:XK),Room k (A.deeper (envOfC qual (defScope st) s.heap.objs.size f cdv))→sp vs H Q E→
   ∃t,PSs (cxOf CX0 P w K mg base N qual (defScope st) f cdv A outer s H E).nox (defBody st) t∧t { nx:=fun _ H'=>Q .non H',rt:=Q } (start N vs) H):FnOk P w K mg base CX0 (k+1) f fd ps sp:=by
 obtain ⟨oc,od,kV,doc,pm,an,cdv,ct,osl,rfl,lk,hcd⟩:=F.ex;refine Nx lk hcd S len fun A outer s H vs Q E hr hsp=>?_
 obtain ⟨t,h,q⟩:=hbody cdv A outer s H vs Q E hr hsp;exact ⟨t,h.nox,q⟩
theorem Fun.binds {x qual:Str} {st:Stmt} {f:Addr} {fd:FuncData} {ps:List Str} (F:Fun K x qual st f fd)
  (h: ∀ (kV doc pm:Value) (an:Option Addr) (cdv ct:Value) (us:List Value),us.length=ps.length→bindArgs (fnOf x qual (defArgs st) (defBody st) (defScope st) .none kV doc pm an cdv ct) ⟨us,[]⟩=pure (ps.zip us)):Binds K fd ps []:=by
 obtain ⟨oc,od,kV,doc,pm,an,cdv,ct,osl,rfl,lk,hcd⟩:=F.ex;exact .all (h kV doc pm an cdv ct)
theorem Q7 {x qual:Str} {st:Stmt} {f:Addr} {oc:Value} {od an:Option Addr} {osl:Array (Option Value)} {kV doc pm cdv ct:Value} (l:K.lookup f=some ⟨oc,od,.func (fnOf x qual (defArgs st) (defBody st) (defScope st) .none kV doc pm an cdv ct),osl⟩)
  (c:PySem.W.codeIn K cdv qual=true) (k:keepIn K (.ref f)=true):Fun K x qual st f (fnOf x qual (defArgs st) (defBody st) (defScope st) .none kV doc pm an cdv ct):=⟨⟨oc,od,kV,doc,pm,an,cdv,ct,osl,rfl,l,c⟩,k⟩
end
theorem Ce {A:Around} {k:Nat} (hr:Room k A):A.units+1 < cLine:=Nat.lt_of_le_of_lt (Nat.add_le_add_left (by decide:1≤64) _) hr.units
section
variable {X:Cx}
theorem pv (i:Nat) {x:Str} {pos:Pos} (hN:X.N[i]?=some x:=by rfl) (hv:Vis X.env.scope x:=by trivial) (hd:(x==("__debug__":Str))=false:=by decide)
  (hcd:(x==("__classdict__":Str))=false:=by decide):PE X (.Name x pos) (tVar i):=Qr hN hv hd hcd
end
theorem iteT {A B:Prop} (h:A):if true=true then A else B:=by
 rw [if_pos rfl];exact h
def Same (H H':Hp):Prop:= ∀b o,H b=some o→H' b=some o
theorem Same.refl (H:Hp):Same H H:=fun _ _ h=>h
theorem Same.trans {H H1 H2:Hp} (a:Same H H1) (b:Same H1 H2):Same H H2:=fun c o h=>b c o (a c o h)
theorem Same.free {H H':Hp} (e:Same H H') {l:Addr} (h:H' l=Option.none):H l=Option.none:=by
 cases q:H l with
 | none=>rfl
 | some o=>
  rw [e l o q] at h;cases h
theorem Same.seq {K:Frag} {H H':Hp} {a:Addr} {xs:List V} (e:Same H H') (h:SqL K H a xs):SqL K H' a xs:=by
 rcases h with (h | ⟨o,h⟩) | h
 ·exact .inl (.inl (e _ _ h))
 ·exact .inl (.inr ⟨o,e _ _ h⟩)
 ·exact .inr h
end L2
end
section
namespace L2
open PySem PySem.Spec PyProof.Rows
section
variable {κ:Type} [DecidableEq κ]
noncomputable def valV (kvs:List (κ×V)) (k:κ):Option V:=(kvs.find? fun kv=>decide (kv.1=k)).map (·.2)
noncomputable def putK (kvs:List (κ×V)) (k:κ) (v:V):List (κ×V):=
 if (kvs.any fun kv=>decide (kv.1=k))=true then kvs.map (fun kv=>if kv.1=k then (kv.1,v) else kv) else kvs++[(k,v)]
theorem A0 {p:κ×V} {r:List (κ×V)} {k:κ} (e:p.1=k):valV (p::r) k=some p.2:=by simp [valV,List.find?_cons,e]
theorem A1 {p:κ×V} {r:List (κ×V)} {k:κ} (e:¬p.1=k):valV (p::r) k=valV r k:=by simp [valV,List.find?_cons,e]
theorem tq (k:κ): ∀kvs:List (κ×V),(kvs.any fun kv=>decide (kv.1=k))=(valV kvs k).isSome
 | []=>rfl
 | p::r=>by
  rw [List.any_cons]
  by_cases e:p.1=k
  ·simp only [A0 e,decide_eq_true e,Bool.true_or,Option.isSome_some]
  ·rw [A1 e,decide_eq_false e,Bool.false_or];exact tq k r
theorem ss (kvs:List (κ×V)) (k:κ) (v:V):(putK kvs k v).length≤kvs.length+1:=by
 unfold putK;split
 ·rw [length_map];omega
 ·rw [length_append,length_cons,List.length_nil];omega
theorem RelO.isSome_eq {o:Option V} {u:Option Value} (r:RelO o u):o.isSome=u.isSome:=by
 cases o with
 | none=>cases u with
  | none=>rfl
  | some _=>exact (show False from r).elim
 | some _=>cases u with
  | none=>exact (show False from r).elim
  | some _=>rfl
theorem RelO.getD {o:Option V} {u:Option Value} {d:V} {d':Value} (r:RelO o u) (rd:RelV d d'):RelV (o.getD d) (u.getD d'):=by
 cases o with
 | none=>cases u with
  | none=>exact rd
  | some _=>exact (show False from r).elim
 | some _=>cases u with
  | none=>exact (show False from r).elim
  | some _=>exact r
theorem KV.val {kvs:List (κ×V)} {vs:List (κ×Value)} (r:KV kvs vs) (k:κ):RelO (valV kvs k) (valueAt vs k):=by
 unfold KV at r
 induction r with
 | nil=>exact True.intro
 | @cons p q ps qs h t ih=>
  obtain ⟨h1,h2⟩:=h
  by_cases e:p.1=k
  ·have e':q.1=k:=h1.symm.trans e
   have b:valueAt (q::qs) k=some q.2:=by simp [valueAt,List.find?_cons,e']
   rw [A0 e,b];exact h2
  ·have e':¬q.1=k:=fun z=>e (h1.trans z)
   have b:valueAt (q::qs) k=valueAt qs k:=by simp [valueAt,List.find?_cons,e']
   rw [A1 e,b];exact ih
theorem KV.any {kvs:List (κ×V)} {vs:List (κ×Value)} (r:KV kvs vs) (k:κ):(kvs.any fun kv=>decide (kv.1=k))=vs.any fun kv=>decide (kv.1=k):=by
 unfold KV at r
 induction r with
 | nil=>rfl
 | cons h t ih=>rw [List.any_cons,List.any_cons,ih,h.1]
theorem KV.repl {kvs:List (κ×V)} {vs:List (κ×Value)} (r:KV kvs vs) (k:κ) {y:V} {u:Value} (ry:RelV y u):
  KV (kvs.map fun kv=>if kv.1=k then (kv.1,y) else kv) (vs.map fun kv=>if kv.1=k then (kv.1,u) else kv):=by
 unfold KV at r ⊢
 induction r with
 | nil=>exact .nil
 | @cons p q ps qs h t ih=>
  rw [map_cons,map_cons];refine .cons ?_ ih;obtain ⟨h1,h2⟩:=h
  by_cases e:p.1=k
  ·rw [if_pos e,if_pos (h1.symm.trans e)];exact ⟨h1,ry⟩
  ·rw [if_neg e,if_neg (fun z=>e (h1.trans z))];exact ⟨h1,h2⟩
theorem KV.put {kvs:List (κ×V)} {vs:List (κ×Value)} (r:KV kvs vs) (k:κ) {y:V} {u:Value} (ry:RelV y u):KV (putK kvs k y) (stored vs k u):=by
 unfold putK stored;rw [r.any k]
 by_cases e:(vs.any fun kv=>decide (kv.1=k))=true
 ·rw [if_pos e,if_pos e];exact r.repl k ry
 ·rw [if_neg e,if_neg e];exact Paired.snoc r ⟨rfl,ry⟩
theorem KV.length {kvs:List (κ×V)} {vs:List (κ×Value)} (r:KV kvs vs):kvs.length=vs.length:=Paired.length r
end
theorem A2 {P:Program} {w:World} {k:Key} {u:Value} (r:RelV (kV k) u):(mixKind P w).is k u=true:=by
 cases k with
 | inl i=>obtain ⟨t,e⟩:=(show ∃t,u=Value.int i t from r);subst e;exact Dn P w i t
 | inr x=>obtain ⟨t,e⟩:=(show ∃t,u=Value.str x t from r);subst e;exact sk P w x t
theorem Cf {P:Program} {w:World}: ∀ {ks:List Key} {us:List Value},Vals (ks.map kV) us→ItemsAre (mixKind P w) ks us
 | [],_,r=>by rw [List.map_nil] at r;cases r;exact .nil
 | k::ks,_,r=>by
  rw [map_cons] at r;cases r with
  | cons h t=>exact .cons (A2 h) (Cf t)
abbrev KT (H:Hp):List (List Key×V)→List (List Key×Addr×Value)→Prop:=Paired fun p q=>p.1=q.1∧H q.2.1=some (.tup (p.1.map kV))∧RelV p.2 q.2.2
theorem KT.val {H:Hp} {kvs:List (List Key×V)} {xs:List (List Key×Addr×Value)} (r:KT H kvs xs) (k:List Key):RelO (valV kvs k) ((atKey xs k).map (·.2)):=by
 induction r with
 | nil=>exact True.intro
 | @cons p q ps qs h t ih=>
  obtain ⟨h1,_,h2⟩:=h
  by_cases e:p.1=k
  ·have e':q.1=k:=h1.symm.trans e
   have b:atKey (q::qs) k=some q.2:=by simp [atKey,List.find?_cons,e']
   rw [A0 e,b];exact h2
  ·have e':¬q.1=k:=fun z=>e (h1.trans z)
   have b:atKey (q::qs) k=atKey qs k:=by simp [atKey,List.find?_cons,e']
   rw [A1 e,b];exact ih
theorem KT.repl {H:Hp} {kvs:List (List Key×V)} {xs:List (List Key×Addr×Value)} (r:KT H kvs xs) (k:List Key) {y:V} {u:Value} (ry:RelV y u):
  KT H (kvs.map fun kv=>if kv.1=k then (kv.1,y) else kv) (xs.map (putAt k u)):=by
 induction r with
 | nil=>exact .nil
 | @cons p q ps qs h t ih=>
  rw [map_cons,map_cons];refine .cons ?_ ih;obtain ⟨h1,h2,h3⟩:=h;unfold putAt
  by_cases e:p.1=k
  ·rw [if_pos e,if_pos (h1.symm.trans e)];exact ⟨h1,h2,ry⟩
  ·rw [if_neg e,if_neg (fun z=>e (h1.trans z))];exact ⟨h1,h2,h3⟩
theorem KT.put {H:Hp} {kvs:List (List Key×V)} {xs:List (List Key×Addr×Value)} (r:KT H kvs xs) (k:List Key) {b:Addr} {y:V} {u:Value} (hb:H b=some (.tup (k.map kV))) (ry:RelV y u):
  KT H (putK kvs k y) (storedH xs k b u):=by
 have e:(kvs.any fun kv=>decide (kv.1=k))=(atKey xs k).isSome:=by
  rw [tq,(r.val k).isSome_eq,Option.isSome_map]
 unfold putK storedH;rw [e]
 by_cases q:(atKey xs k).isSome=true
 ·rw [if_pos q,if_pos q];exact r.repl k ry
 ·rw [if_neg q,if_neg q];exact Paired.snoc r ⟨rfl,hb,ry⟩
theorem KT.keeps {H H':Hp} {kvs:List (List Key×V)} {xs:List (List Key×Addr×Value)} (r:KT H kvs xs) (ht: ∀b ys,H b=some (.tup ys)→H' b=some (.tup ys)):KT H' kvs xs:=
 Paired.mapP r fun _ _ z=>⟨z.1,ht _ _ z.2.1,z.2.2⟩
section
variable {P:Program} {w:World} {H:Hp} {h:Heap} {a:Addr}
theorem Q8 {u:HO} (ok:HOk P w H h) (e:Rd H a u):ObjOk P w H h a u:=e.ok ok
theorem A3 {kvs:List (Key×V)} (ok:HOk P w H h) (e:Rd H a (.dK kvs)):kvs.length≤sizeLine∧(a==sysModules)=false∧ ∃vs,KV kvs vs∧h.DictOf (mixKind P w) a vs:=
 show ObjOk P w H h a (.dK kvs) from Q8 ok e
theorem Q9 {kvs:List (Key×V)} (ok:HOk P w H h) (e:H a=some (.dK kvs)):kvs.length≤sizeLine∧(a==sysModules)=false∧ ∃vs,KV kvs vs∧h.DictOf (mixKind P w) a vs:=A3 ok (.inl e)
theorem z9 {ks:List Key} (ok:HOk P w H h) (e:H a=some (.tup (ks.map kV))):(tupleKind (mixKind P w)).is h ks a:=by
 obtain ⟨_,its,r,o,h1,h2,n,h3⟩:=(show ObjOk P w H h a (.tup (ks.map kV)) from ok a _ e)
 exact ⟨o,its.toArray,n,h1,h2,h3,by simpa using Cf r⟩
theorem Dt {kvs:List (List Key×V)} (ok:HOk P w H h) (e:Rd H a (.dT kvs)):kvs.length≤sizeLine∧(a==sysModules)=false∧
  ∃xs,KT H kvs xs∧h.DictOfH (tupleKind (mixKind P w)) a xs:=by
 obtain ⟨z,y,xs,r,o,es,ep,h1,h2,h3,h4,h5⟩:=(show ObjOk P w H h a (.dT kvs) from Q8 ok e)
 refine ⟨z,y,xs,r,o,es,ep,h1,h2,h3,h4,fun x hx=>?_,h5⟩;have all: ∀ {l:List (List Key×V)} {m:List (List Key×Addr×Value)},KT H l m→ ∀x∈m,(tupleKind (mixKind P w)).is h x.1 x.2.1:=by
  intro l m q
  induction q with
  | nil=>intro x hx;exact nomatch hx
  | @cons p q ps qs hq t ih=>
   intro x hx;rcases List.mem_cons.mp hx with e | hx
   ·subst e
    exact z9 ok (by rw [←hq.1];exact hq.2.1)
   ·exact ih x hx
 exact all r x hx
theorem T1 {kvs:List (List Key×V)} (ok:HOk P w H h) (e:H a=some (.dT kvs)):kvs.length≤sizeLine∧(a==sysModules)=false∧
  ∃xs,KT H kvs xs∧h.DictOfH (tupleKind (mixKind P w)) a xs:=Dt ok (.inl e)
end
def DGet (H:Hp) (a:Addr) (y:V) (r:Option V):Prop:=
 (∃kvs k,Rd H a (.dK kvs)∧y=kV k∧r=valV kvs k)∨ ∃kvs k b,Rd H a (.dT kvs)∧y= .ref b∧H b=some (.tup (k.map kV))∧r=valV kvs k
def DPut (H:Hp) (a:Addr) (y v:V) (H':Hp):Prop:=
 (∃kvs k,H a=some (.dK kvs)∧y=kV k∧kvs.length < sizeLine∧H'=upd H a (.dK (putK kvs k v)))∨
 ∃kvs k b,H a=some (.dT kvs)∧y= .ref b∧H b=some (.tup (k.map kV))∧kvs.length < sizeLine∧H'=upd H a (.dT (putK kvs k v))
theorem DPut.k {H:Hp} {a:Addr} {kvs:List (Key×V)} {k:Key} {v:V} (e:H a=some (.dK kvs)) (hl:kvs.length < sizeLine):DPut H a (kV k) v (upd H a (.dK (putK kvs k v))):= .inl ⟨kvs,k,e,rfl,hl,rfl⟩
section
variable {X:Cx} {pins:List (Addr×Obj)} {σ:St} {H:Hp} {s:Shared} {a:Addr} {y v:V} {u r:Value} {o:Option V} {A:Around} {E:Value→Shared→Prop}
theorem Inv.big (I:Inv X pins σ H s):sysModules < s.heap.objs.size:=by
 have h:mainGlobals < s.heap.objs.size:=(I.mod.glob.keeps I.bk).lt;exact Nat.lt_trans (by decide) h
theorem Hy {Q:Value→Shared→Prop} (hu:A.units+1 < cLine) (I:Inv X pins σ H s) (g:DGet H a y (some v)) (ry:RelV y u) (h: ∀w' s',Inv X pins σ H s'→RelV v w'→Q w' s'):
  wpAny (model X.prog X.w) A (getItem (.ref a) u) Q E s:=by
 rcases g with ⟨kvs,k,e,ey,l⟩ | ⟨kvs,k,b,e,ey,eb,l⟩
 ·subst ey
  obtain ⟨z,hd,vs,rel,dd⟩:=A3 I.hok e;obtain ⟨w',hw,rw'⟩:=RelO.some_of (v:=v) (o:=valueAt vs k) (by rw [l];exact rel.val k);exact wpAny_getItem_of (A2 ry) dd.mapOf hw (h w' _ (I.tok _) rw')
 ·subst ey
  cases (show u=Value.ref b from ry);obtain ⟨z,hd,xs,rel,dd⟩:=Dt I.hok e;obtain ⟨w',hw,rw'⟩:=RelO.some_of (v:=v) (o:=(atKey xs k).map (·.2)) (by rw [l];exact rel.val k);obtain ⟨p,hp,hp2⟩:=Option.map_eq_some_iff.mp hw;refine wpAny_getItem_heap (tupleKind_room_in1 hu) (z9 I.hok eb) dd hp ?_;rw [hp2];exact h w' _ (I.tok _) rw'
theorem Hz {Q:Value→Shared→Prop} (hu:A.units+1 < cLine) (I:Inv X pins σ H s) (g:DGet H a y o) (ry:RelV y u) (h: ∀s',Inv X pins σ H s'→Q (.bool o.isSome) s'):
  wpAny (model X.prog X.w) A (compareOp .In u (.ref a)) Q E s:=by
 rcases g with ⟨kvs,k,e,ey,l⟩ | ⟨kvs,k,b,e,ey,eb,l⟩
 ·subst ey
  obtain ⟨z,hd,vs,rel,dd⟩:=A3 I.hok e;refine wpAny_in_of (A2 ry) hd dd.mapOf ?_;rw [← (rel.val k).isSome_eq,←l];exact h _ (I.tok _)
 ·subst ey
  cases (show u=Value.ref b from ry);obtain ⟨z,hd,xs,rel,dd⟩:=Dt I.hok e;refine wpAny_in_heap (tupleKind_room_in1 hu) (z9 I.hok eb) hd dd ?_;have q:=(rel.val k).isSome_eq;rw [Option.isSome_map] at q;rw [←q,←l];exact h _ (I.tok _)
theorem xb {Q:Value→Shared→Prop} (hu:A.units+1 < cLine) (I:Inv X pins σ H s) (g:DGet H a y o) (ry:RelV y u) (h: ∀s',Inv X pins σ H s'→Q (.bool (!o.isSome)) s'):
  wpAny (model X.prog X.w) A (compareOp .NotIn u (.ref a)) Q E s:=by
 rcases g with ⟨kvs,k,e,ey,l⟩ | ⟨kvs,k,b,e,ey,eb,l⟩
 ·subst ey
  obtain ⟨z,hd,vs,rel,dd⟩:=A3 I.hok e;refine wpAny_notIn_of (A2 ry) hd dd.mapOf ?_;rw [← (rel.val k).isSome_eq,←l];exact h _ (I.tok _)
 ·subst ey
  cases (show u=Value.ref b from ry);obtain ⟨z,hd,xs,rel,dd⟩:=Dt I.hok e;refine wpAny_notIn_heap (tupleKind_room_in1 hu) (z9 I.hok eb) hd dd ?_;have q:=(rel.val k).isSome_eq;rw [Option.isSome_map] at q;rw [←q,←l];exact h _ (I.tok _)
theorem Du {h':Heap} {t':Nat} {ob:HO} (I:Inv X pins σ H s) (mu:Mut (H a)) (hs:Heap.SameBut a s.heap h') (he: ∃q,h'.get? a=some q) (new:ObjOk X.prog X.w (upd H a ob) h' a ob):
  Inv X pins σ (upd H a ob) { s with heap:=h',toks:=t' }:=
 I.write (x:=a) (e:=a) mu (.inl rfl) (fun b q hb z=>(hs.2 b hb).trans z) he new
theorem Mz {P:Program} {w:World} {H':Hp} {h':Heap} {kvs:List (Key×V)} {vs:List (Key×Value)} (z:kvs.length≤sizeLine) (hd:(a==sysModules)=false) (rel:KV kvs vs) (dd:h'.DictOf (mixKind P w) a vs):
  ObjOk P w H' h' a (.dK kvs):=⟨z,hd,vs,rel,dd⟩
theorem H9 {H':Hp} {Q:Unit→Shared→Prop} (hu:A.units+1 < cLine) (I:Inv X pins σ H s) (g:DPut H a y v H') (ry:RelV y u) (rv:RelV v r) (h: ∀s',Inv X pins σ H' s'→Q () s'):
  wpAny (model X.prog X.w) A (setItem (.ref a) u r) Q E s:=by
 rcases g with ⟨kvs,k,e,ey,l,eH⟩ | ⟨kvs,k,b,e,ey,eb,l,eH⟩
 ·subst ey eH
  obtain ⟨z,hd,vs,rel,dd⟩:=Q9 I.hok e;have hz:vs.length≤sizeLine:=by rw [←rel.length];exact z
  have hl:(putK kvs k v).length≤sizeLine:=by have:=ss kvs k v;omega
  refine wpAny_setItem_pairs (hsz:=hz) (A2 ry) dd fun h' dd' hs=>h _ ?_
  have he: ∃q,h'.get? a=some q:=let ⟨q,_,_,hq,_⟩:=dd';⟨q,hq⟩;exact Du I (by rw [e];exact True.intro) hs he (Mz hl hd (rel.put k rv) dd')
 ·subst ey eH
  cases (show u=Value.ref b from ry);obtain ⟨z,hd,xs,rel,dd⟩:=T1 I.hok e;have hz:xs.length≤sizeLine:=by rw [←Paired.length rel];exact z
  have hl:(putK kvs k v).length≤sizeLine:=by have:=ss kvs k v;omega
  refine wpAny_setItem_heap (hsz:=hz) (tupleKind_room_in1 hu) (z9 I.hok eb) dd fun h' dd' hs=>h _ ?_
  obtain ⟨q,es,ep,hq,h2,h3,h4,_,h5⟩:=dd';refine Du I (by rw [e];exact True.intro) hs ⟨q,hq⟩ ⟨hl,hd,_,(rel.put k eb rv).keeps fun c ys ec=>?_,q,es,ep,hq,h2,h3,h4,h5⟩;rw [a9 (Tt ec e (fun z=>nomatch z))];exact ec
end
def NoSl (i:Expr):Prop:= ∀ov iv,subscripted i false ov iv=operate [ov,iv] (getItem ov iv)
theorem Ia {prog:Program} {w:World} {A:Around} {E:Value→Shared→Prop} {s:Shared} {env:Env} {value slice:Expr} {pos:Pos} {T id:String} {Q:Value→Shared→Prop}
  (hl:typeLookup (.type T) "__getitem__"=pure (some (.builtin id))) (hs:NoSl slice)
  (h:wpAny (model prog w) A (eval value env) (fun o s₁=>wpAny (model prog w) A (eval slice env) (fun i s₂=>s₂.TypeIs o T∧wpAny (model prog w) A (getItem o i) Q E s₂) E s₁) E s):
  wpAny (model prog w) A (eval (.Subscript value slice pos) env) Q E s:=by
 refine Subscript_ (wpAny_mono h (fun o s₁ h₁=>wpAny_mono h₁ (fun i s₂ h₂=>?_) fun _ _ x=>x) fun _ _ x=>x);obtain ⟨hT,h₂⟩:=h₂;unfold subscriptTail;refine wpAny_bind ?_;rw [getitemInPython_of_ne hT.not_modules];refine wpAny_bind (wpAny_specialOf hT hl ?_);have fin:wpAny (model prog w) A (subscripted slice false o i) (fun r s₃=>wpAny (model prog w) A (letTemporaryGo value o r >>=fun _=>pure r) Q E s₃) E s₂:=by
  rw [hs o i];exact wpAny_operating (wpAny_mono h₂ (fun r s₃ h₃=>wpAny_bind (wpAny_letTemporaryGo (wpAny_pure h₃))) fun _ _ x=>x)
 first
  | exact wpAny_pure (wpAny_bind fin)
  | exact wpAny_bind (wpAny_pure (wpAny_bind fin))
  | exact wpAny_bind fin
theorem Dv {X:Cx} {pins:List (Addr×Obj)} {σ:St} {H:Hp} {s:Shared} {a:Addr} {y:V} {o:Option V} (I:Inv X pins σ H s) (g:DGet H a y o):s.TypeIs (.ref a) "dict":=by
 rcases g with ⟨kvs,k,e,_,_⟩ | ⟨kvs,k,b,e,_,_,_⟩
 ·obtain ⟨_,_,vs,_,dd⟩:=A3 I.hok e
  exact dd.typeIs
 ·obtain ⟨_,_,xs,_,dd⟩:=Dt I.hok e
  exact dd.typeIs
def tDGet (td ty:TE):TE:=fun σ H Q=>td σ H fun x H1=>ty σ H1 fun y H2=>∃a v,x= .ref a∧DGet H2 a y (some v)∧Q v H2
def tDIn (ty td:TE):TE:=fun σ H Q=>ty σ H fun y H1=>td σ H1 fun x H2=>∃a o,x= .ref a∧DGet H2 a y o∧Q (.bl o.isSome) H2
def tDNotIn (ty td:TE):TE:=fun σ H Q=>ty σ H fun y H1=>td σ H1 fun x H2=>∃a o,x= .ref a∧DGet H2 a y o∧Q (.bl (!o.isSome)) H2
def sDPut (td ty tv:TE):TS:=fun D σ H=>tv σ H fun v H1=>td σ H1 fun x H2=>ty σ H2 fun y H3=>∃a H4,x= .ref a∧DPut H3 a y v H4∧D.nx σ H4
section
variable {X:Cx} {o i e value:Expr} {pos pos' tpos:Pos} {td ty tv:TE}
theorem Ib (hu:X.A.units+1 < cLine) (ho:PE X o td) (hi:PE X i ty) (hs:NoSl i):PE X (.Subscript o i pos) (tDGet td ty):=by
 intro pins s σ H Q I h;refine Ia PySem.F.slot_dict_getitem.lookup hs (thn (ho pins s σ H _ I h) fun u s1 ⟨x,H1,I1,rx,q1⟩=>thn (hi pins s1 σ H1 _ I1 q1) fun iv s2 h0z=>?_);obtain ⟨y,H2,I2,ry,a,v,ex,g,q2⟩:=h0z;subst ex;obtain rfl:u=Value.ref a:=rx;exact ⟨Dv I2 g,Hy hu I2 g ry fun w' s3 I3 rw'=>⟨v,H2,I3,rw',q2⟩⟩
theorem Ra (hu:X.A.units+1 < cLine) (hi:PE X i ty) (ho:PE X o td):PC X .In i o (tDIn ty td):=by
 intro pins s σ H Q I h;refine thn (hi pins s σ H _ I h) fun iv s1 ⟨y,H1,I1,ry,q1⟩=>thn (ho pins s1 σ H1 _ I1 q1) fun u s2 h0z=>?_
 obtain ⟨x,H2,I2,rx,a,ov,ex,g,q2⟩:=h0z;subst ex;obtain rfl:u=Value.ref a:=rx;exact Hz hu I2 g ry fun s3 I3=>⟨.bl ov.isSome,H2,I3,rfl,q2⟩
theorem Ic (hu:X.A.units+1 < cLine) (hi:PE X i ty) (ho:PE X o td):PC X .NotIn i o (tDNotIn ty td):=by
 intro pins s σ H Q I h;refine thn (hi pins s σ H _ I h) fun iv s1 ⟨y,H1,I1,ry,q1⟩=>thn (ho pins s1 σ H1 _ I1 q1) fun u s2 h0z=>?_
 obtain ⟨x,H2,I2,rx,a,ov,ex,g,q2⟩:=h0z;subst ex;obtain rfl:u=Value.ref a:=rx;exact xb hu I2 g ry fun s3 I3=>⟨.bl (!ov.isSome),H2,I3,rfl,q2⟩
theorem Id (hu:X.A.units+1 < cLine) (ho:PE X o td) (hi:PE X i ty) (hv:PE X value tv) (hs:swapsWith value (some (.Subscript o i pos')) pos.line X.env=pure false):
  PS X (.Assign [.Subscript o i pos'] value pos) (sDPut td ty tv):=by
 intro pins s σ H D I h;refine wpAny_Assign_Subscript (thn (hv pins s σ H _ I h) fun r s1 ⟨v,H1,I1,rv,q1⟩=>thn (ho pins s1 σ H1 _ I1 q1) fun u s2 ⟨x,H2,I2,rx,q2⟩=>thn (hi pins s2 σ H2 _ I2 q2) fun iv s3 h0z=>?_) hs;obtain ⟨y,H3,I3,ry,a,H4,ex,g,q3⟩:=h0z;subst ex;obtain rfl:u=Value.ref a:=rx;exact H9 hu I3 g ry rv fun s4 I4=>⟨σ,H4,I4,q3⟩
end
theorem Fa {P:Program} {w:World} {H:Hp} (h:Heap) (hb:sysModules < h.objs.size):ObjOk P w H (h.push { cls:= .type "dict",data:= .dict #[] }) h.objs.size (.dK []):=
 ⟨Nat.zero_le _,beq_eq_false_iff_ne.mpr (Ne.symm (Nat.ne_of_lt hb)),[],.nil,Heap.DictOf.new h⟩
def tDNewK:TE:=fun _ H Q=>∀p,H p=none→Q (.ref p) (upd H p (.dK []))
section
variable {X:Cx} {pos:Pos}
theorem K9:PE X (.Dict [] [] pos) tDNewK:=fun pins s σ H Q I h=>
 wpAny_Dict_empty ⟨.ref s.heap.objs.size,_,I.laid (a:=s.heap.objs.size) (o:= .dK []) (t':=s.toks) (fun _ _ q=>get?_push_of_some _ q) (Nat.le_refl _) (Fa s.heap I.big),rfl,h _ (I.hok.fresh (Nat.le_refl _))⟩
end
def tPairs:List (TE×TE)→St→Hp→(List (V×V)→Hp→Prop)→Prop
 | [],_,H,Q=>Q [] H
 | (tk,tv)::r,σ,H,Q=>tk σ H fun x H1=>tv σ H1 fun y H2=>tPairs r σ H2 fun ps H3=>Q ((x,y)::ps) H3
abbrev VV:List (V×V)→List (Value×Value)→Prop:=Paired fun p q=>RelV p.1 q.1∧RelV p.2 q.2
def PPs (X:Cx) (pos:Pos) (keys:List (Option Expr)) (values:List Expr) (trs:List (TE×TE)):Prop:=
 ∀ (pins:List (Addr×Obj)) (s:Shared) (σ:St) (H:Hp) (Q:List (V×V)→Hp→Prop),Inv X pins σ H s→tPairs trs σ H Q→
  wpAny (model X.prog X.w) X.A (evalPairs (pairTrees keys values X.env pos)) (fun vs s'=>∃ps H',Inv X pins σ H' s'∧VV ps vs∧Q ps H') X.xe s
theorem N3 {X:Cx} {pos:Pos}:PPs X pos [] [] []:=fun pins s σ H Q I h=>pairTrees_nil_walk ⟨[],H,I,.nil,h⟩
theorem La {X:Cx} {pos:Pos} {k v:Expr} {ks:List (Option Expr)} {vs:List Expr} {tk tv:TE} {trs:List (TE×TE)} (hk:PE X k tk) (hv:PE X v tv) (hr:PPs X pos ks vs trs):
  PPs X pos (some k::ks) (v::vs) ((tk,tv)::trs):=fun pins s σ H Q I h=>
 pairTrees_cons_walk (thn (hk pins s σ H _ I h) fun u s1 ⟨x,H1,I1,rx,q1⟩=>thn (hv pins s1 σ H1 _ I1 q1) fun w2 s2 ⟨y,H2,I2,ry,q2⟩=>
  thn (hr pins s2 σ H2 _ I2 q2) fun ws s3 ⟨ps,H3,I3,rel,q3⟩=>⟨(x,y)::ps,H3,I3,.cons ⟨rx,ry⟩ rel,q3⟩)
noncomputable def mergeK (kvs more:List (Key×V)):List (Key×V):=more.foldl (fun acc kv=>putK acc kv.1 kv.2) kvs
theorem KV.merge: ∀ {more:List (Key×V)} {rs:List (Key×Value)} {kvs:List (Key×V)} {vs:List (Key×Value)},KV more rs→KV kvs vs→KV (mergeK kvs more) (merged vs rs):=by
 intro more rs kvs vs r;unfold KV at r
 induction r generalizing kvs vs with
 | nil=>intro q;exact q
 | @cons p q ps qs h t ih=>
  intro r0;have e:KV (putK kvs p.1 p.2) (stored vs q.1 q.2):=by
   have:=r0.put p.1 h.2
   rw [←h.1];exact this
  exact ih e
theorem tt: ∀ (more kvs:List (Key×V)),(mergeK kvs more).length≤kvs.length+more.length
 | [],kvs=>by show kvs.length≤kvs.length+0;omega
 | p::r,kvs=>by
  have h1:=tt r (putK kvs p.1 p.2);have h2:=ss kvs p.1 p.2
  show (mergeK (putK kvs p.1 p.2) r).length≤_
  rw [length_cons];omega
theorem Aa {P:Program} {w:World}: ∀ {kvs:List (Key×V)} {ws:List (Value×Value)},VV (kvs.map fun kv=>(kV kv.1,kv.2)) ws→ ∃rs,Carries (mixKind P w) ws rs∧KV kvs rs
 | [],_,r=>by rw [List.map_nil] at r;cases r;exact ⟨[],True.intro,.nil⟩
 | p::kvs,_,r=>by
  rw [map_cons] at r;cases r with
  | @cons a b as bs h t=>
   obtain ⟨rs,c,q⟩:=Aa (P:=P) (w:=w) t;obtain ⟨b1,b2⟩:=b;exact ⟨(p.1,b2)::rs,⟨A2 h.1,rfl,c⟩,.cons ⟨rfl,h.2⟩ q⟩
def tDisp (trs:List (TE×TE)):TE:=fun σ H Q=>∀p,H p=none→tPairs trs σ (upd H p (.dK [])) fun ps H2=>H2 p=some (.dK [])∧ ∃kvs:List (Key×V),ps=kvs.map (fun kv=>(kV kv.1,kv.2))∧kvs.length≤15∧Q (.ref p) (upd H2 p (.dK (mergeK [] kvs)))
theorem N4 {X:Cx} {pos:Pos} {keys:List (Option Expr)} {values:List Expr} {trs:List (TE×TE)} (h:PPs X pos keys values trs) (hall:keys.all (·.isSome)=true) (hl:keys.length=values.length) (h0:keys≠[])
  (h15:keys.length≤15):PE X (.Dict keys values pos) (tDisp trs):=by
 intro pins s σ H Q I q;have hn:=I.hok.fresh (Nat.le_refl s.heap.objs.size);have I1:=I.laid (a:=s.heap.objs.size) (o:= .dK []) (h':=s.heap.push { cls:= .type "dict",data:= .dict #[] }) (t':=s.toks) (fun _ _ q=>get?_push_of_some _ q) (Nat.le_refl _) (Fa s.heap I.big);refine wpAny_Dict_walk (knd:=mixKind X.prog X.w) hall hl h0 h15 (thn (h pins _ σ _ _ I1 (q _ hn)) fun ws s2 h0z=>?_);obtain ⟨ps,H2,I2,rel,e,kvs,ep,lk,q2⟩:=h0z;subst ep;obtain ⟨rs,c,rk⟩:=Aa (P:=X.prog) (w:=X.w) rel;obtain ⟨z,hd,vs0,r0,dd⟩:=Q9 I2.hok e;cases r0;refine ⟨rs,c,dd,fun h' dd' hs=>⟨.ref s.heap.objs.size,_,?_,rfl,q2⟩⟩;have hz:(mergeK [] kvs).length≤sizeLine:=by
  have h1:=tt kvs [];rw [List.length_nil] at h1;rw [sizeLine_eq];omega
 have he: ∃q,h'.get? s.heap.objs.size=some q:=let ⟨q,_,_,hq,_⟩:=dd';⟨q,hq⟩;exact Du I2 (by rw [e];exact True.intro) hs he (Mz hz hd (rk.merge .nil) dd')
structure M1 (X:Cx) (o:Expr) (m:Str) (apos:Pos) (e:Expr) (cpos:Pos):Prop where
 base:attributeBase o m X.env (eval o X.env)=eval o X.env
 few:((backTo cpos (starEach [e] X.env)).all (fun x=>!x.1) && (backToKw cpos (keywordEach [] X.env)).all (fun x=>x.1.isSome)
  && decide (([e]:List Expr).length+([]:List Keyword).length+(if ([]:List Keyword).isEmpty then 0 else 1) < 30))=true
 line:(apos.endLine==cpos.line)=true
 trees:backTo cpos (starEach [e] X.env)=[(false,eval e X.env)]
def IsD (H:Hp) (a:Addr):Prop:=(∃kvs,Rd H a (.dK kvs))∨ ∃kvs,Rd H a (.dT kvs)
theorem Rb {X:Cx} {pins:List (Addr×Obj)} {σ:St} {H:Hp} {s:Shared} {a:Addr} (I:Inv X pins σ H s) (d:IsD H a):
  s.TypeIs (.ref a) "dict"∧(∀b,Value.ref a= .ref b→ ∃ob,s.heap.get? b=some ob∧ob.dict=none)∧(a==sysModules)=false:=by
 rcases d with ⟨kvs,e⟩ | ⟨kvs,e⟩
 ·obtain ⟨_,hd,vs,_,dd⟩:=A3 I.hok e
  refine ⟨dd.typeIs,fun b q=>?_,hd⟩;cases q;obtain ⟨ob,_,_,h1,h2,_⟩:=dd;exact ⟨ob,h1,h2.2.1⟩
 ·obtain ⟨_,hd,xs,_,dd⟩:=Dt I.hok e
  refine ⟨dd.typeIs,fun b q=>?_,hd⟩;cases q;obtain ⟨ob,_,_,h1,h2,_⟩:=dd;exact ⟨ob,h1,h2.2.1⟩
section
variable {X:Cx} {pins:List (Addr×Obj)} {σ:St} {H:Hp} {s:Shared} {a:Addr} {y d:V} {u r:Value} {o:Option V} {A:Around} {E:Value→Shared→Prop}
theorem Rc {Q:Value→Shared→Prop} (hu:A.units+1 < cLine) (I:Inv X pins σ H s) (g:DGet H a y o) (ry:RelV y u) (h: ∀w' s',Inv X pins σ H s'→RelV (o.getD .non) w'→Q w' s'):
  wpAny (model X.prog X.w) A (call (.builtin "dict.get") [.ref a,u]) Q E s:=by
 rcases g with ⟨kvs,k,e,ey,l⟩ | ⟨kvs,k,b,e,ey,eb,l⟩
 ·subst ey
  obtain ⟨z,hd,vs,rel,dd⟩:=A3 I.hok e;refine call_meetsIn PySem.F.slot_dict_get dd.typeIs PySem.F.entry_dict_get (PySem.F.args_dict_get_2 _ _) (meets_dict_get (mixKind X.prog X.w) a (A2 ry) hd) ⟨_,dd.mapOf,h _ _ (I.tok _) ?_⟩;rw [l];exact (rel.val k).getD rfl
 ·subst ey
  cases (show u=Value.ref b from ry);obtain ⟨z,hd,xs,rel,dd⟩:=Dt I.hok e;refine call_meetsIn PySem.F.slot_dict_get dd.typeIs PySem.F.entry_dict_get (PySem.F.args_dict_get_2 _ _) (meetsH_dict_get (tupleKind (mixKind X.prog X.w)) a b hd) ⟨tupleKind_room_in1 hu,k,xs,z9 I.hok eb,dd,h _ _ (I.tok _) ?_⟩;rw [l];exact (rel.val k).getD rfl
end
def tDGet1 (td ty:TE):TE:=fun σ H Q=>td σ H fun x H1=>∃a,x= .ref a∧IsD H1 a∧ty σ H1 fun y H2=>∃o,DGet H2 a y o∧Q (o.getD .non) H2
section
variable {X:Cx} {o e f:Expr} {apos cpos:Pos} {td ty tx:TE}
theorem Lb (hu:X.A.units+1 < cLine) (ho:PE X o td) (he:PE X e ty) (m:M1 X o "get" apos e cpos):PE X (.Call (.Attribute o "get" apos) [e] [] cpos) (tDGet1 td ty):=by
 intro pins s σ H Q I h;refine wpAny_Call_method m.base m.few m.line PySem.F.plainAttrs_dict PySem.F.slot_dict_get PySem.F.type_dict_get (thn (ho pins s σ H _ I h) fun u s1 h0z=>?_);obtain ⟨x,H1,I1,rx,a,ex,d,q1⟩:=h0z;subst ex;obtain rfl:u=Value.ref a:=rx;obtain ⟨t1,t2,_⟩:=Rb I1 d;refine ⟨t1,t2,?_⟩;rw [m.trees];refine Calls.callWith_builtin rfl (Calls.evalArgs_plain (Calls.spliced_cons (thn (he pins s1 σ H1 _ I1 q1) fun iv s2 ⟨y,H2,I2,ry,ov,g,q2⟩=>Calls.spliced_nil ?_)));exact Rc hu I2 g ry fun w' s3 I3 rw'=>⟨_,H2,I3,rw',q2⟩
end
end L2
namespace L2
open PySem PySem.Spec PyProof.Rows
end L2
end
section
namespace RG
open PySem
noncomputable abbrev D:=PyData
noncomputable abbrev Ren:=List (Option D)
noncomputable def lim:Nat:=100000
noncomputable def atD {α:Type} (xs:List α) (i:Int):Option α:=
 if 0≤i then (if i < xs.length then xs[i.toNat]? else none) else if -(xs.length:Int)≤i then xs[(i+xs.length).toNat]? else none
noncomputable def cIx (n d:Nat):Option Int→Nat
 | none=>d
 | some v=>if v < 0 then (v+(n:Int)).toNat else min v.toNat n
noncomputable def cutD {α:Type} (xs:List α) (lo hi:Option Int):List α:=(xs.drop (cIx xs.length 0 lo)).take (cIx xs.length xs.length hi - cIx xs.length 0 lo)
@[simp] noncomputable def flatD:D→Bool
 | .none=>true | .bool _=>true | .int _=>true | .str _=>true | _=>false
@[simp] noncomputable def sS:D→Bool
 | .none=>true | .bool _=>true | .int _=>true | .str _=>true | .list _=>false | .tuple _=>false | .dict _=>false
@[simp] noncomputable def sI:D→Bool
 | .none=>true | .bool _=>false | .int _=>true | .str _=>true | .list _=>false | .tuple _=>false | .dict _=>false
@[simp] noncomputable def sB:D→Bool
 | .none=>true | .bool _=>true | .int _=>false | .str _=>true | .list _=>false | .tuple _=>false | .dict _=>false
@[simp] noncomputable def scalD:D→D→Bool
 | .none,b=>sS b | .int _,b=>sI b | .bool _,b=>sB b | .str _,b=>sS b | .list _,_=>false | .tuple _,_=>false | .dict _,_=>false
noncomputable def deepOk (a b:D):Bool:=a.canLay0 && b.canLay0 && decide (min a.depth b.depth≤64)
@[simp] noncomputable def eqD (a b:D):Option Bool:=if scalD a b=true∨deepOk a b=true then some (PyData.eqv a b) else none
@[simp] noncomputable def ixD:D→D→Option D
 | .list xs,.int i=>atD xs i
 | .tuple xs,.int i=>atD xs i
 | .dict [(.none,.list xs)],.int i=>atD xs i
 | .str z,.int i=>if z.length≤lim then (atD z.cps.toList i).map fun c=> .str ⟨#[c]⟩ else none
 | _,_=>none
@[simp] noncomputable def slD:D→Option Int→Option Int→Option D
 | .list xs,lo,hi=>some (.list (cutD xs lo hi))
 | .dict [(.none,.list xs)],lo,hi=>some (.list (cutD xs lo hi))
 | _,_,_=>none
@[simp] noncomputable def addD:D→D→Option D
 | .int a,.int b=>some (.int (a+b))
 | .list xs,.list ys=>if xs.length+ys.length≤lim then some (.list (xs++ys)) else none
 | _,_=>none
@[simp] noncomputable def subD:D→D→Option D
 | .int a,.int b=>some (.int (a - b))
 | _,_=>none
noncomputable def small (i:Int):Bool:= @decide (-(2 ^ 64) < i∧i < 2 ^ 64) (Classical.propDecidable _)
theorem small_iff {i:Int}:small i=true↔(-(2 ^ 64) < i∧i < 2 ^ 64):=by unfold small;exact @decide_eq_true_iff _ (Classical.propDecidable _)
@[simp] noncomputable def divD:D→D→Option D
 | .int a,.int b=>if 0 < b∧b < 1073741824 then some (.int (a / b)) else none
 | _,_=>none
@[simp] noncomputable def modD:D→D→Option D
 | .int a,.int b=>if 0 < b then some (.int (a % b)) else none
 | _,_=>none
@[simp] noncomputable def powD:D→D→Option D
 | .int a,.int b=>if 0≤b∧b≤1000000∧a.natAbs < 2 ^ 64 then some (.int (a ^ b.toNat)) else none
 | _,_=>none
@[simp] noncomputable def cmpI (p:Int→Int→Bool):D→D→Option D
 | .int a,.int b=>some (.bool (p a b))
 | _,_=>none
@[simp] noncomputable def inD (x:D) (c:D):Option Bool:=
 match c with
 | .list xs=>if x.canLay0=true∧PyData.canLayAll0 xs=true∧flatD x=true then some (xs.any fun y=>PyData.eqv y x) else none
 | .tuple xs=>if x.canLay0=true∧PyData.canLayAll0 xs=true∧flatD x=true then some (xs.any fun y=>PyData.eqv y x) else none
 | _=>none
@[simp] noncomputable def lenD:D→Option D
 | .list xs=>some (.int xs.length)
 | .tuple xs=>some (.int xs.length)
 | .dict [(.none,.list xs)]=>some (.int xs.length)
 | .str z=>if z.length≤lim then some (.int z.length) else none
 | _=>none
@[simp] noncomputable def itemsD:D→Option (List D)
 | .list xs=>some xs
 | .tuple xs=>some xs
 | _=>none
@[simp] noncomputable def listD (d:D):Option D:=(itemsD d).map .list
@[simp] noncomputable def asBl:D→Option Bool
 | .bool b=>some b
 | _=>none
@[simp] noncomputable def asInt:D→Option Int
 | .int i=>some i
 | _=>none
@[simp] noncomputable def truD:D→Option Bool
 | .none=>some false
 | .bool b=>some b
 | .int i=>some (i !=0)
 | .list xs=>some (!xs.isEmpty)
 | .tuple xs=>some (!xs.isEmpty)
 | _=>none
inductive Fl where
 | nx (ρ:Ren) | rt (d:D)
end RG
end
section
namespace RG
open PySem PySem.Spec PyProof.Rows L2
noncomputable abbrev dctD (kvs:List (Int×D)):D:= .dict ((.int 0,.none)::kvs.map fun p=>(.int p.1,p.2))
mutual
inductive Is (K:Frag) (H:Hp):V→D→Prop where
 | non:Is K H .non .none
 | bl (b:Bool):Is K H (.bl b) (.bool b)
 | int (i:Int):Is K H (.int i) (.int i)
 | str (x:Str):Is K H (.str x) (.str x)
 | lst {p:Addr} {xs:List V} {ds:List D}:Rd H p (.lst xs)→Are K H xs ds→Is K H (.ref p) (.list ds)
 | tup {p:Addr} {xs:List V} {ds:List D}:SqT K H p xs→Are K H xs ds→Is K H (.ref p) (.tuple ds)
 | scr {p:Addr} {xs:List V} {ds:List D}:SqL K H p xs→Are K H xs ds→Is K H (.ref p) (.dict [(.none,.list ds)])
 | dct {p:Addr} {vs:List (Key×V)} {kvs:List (Int×D)}:Rd H p (.dK vs)→Dct K H vs kvs→Is K H (.ref p) (dctD kvs)
inductive Are (K:Frag) (H:Hp):List V→List D→Prop where
 | nil:Are K H [] []
 | cons {x:V} {d:D} {xs:List V} {ds:List D}:Is K H x d→Are K H xs ds→Are K H (x::xs) (d::ds)
inductive Dct (K:Frag) (H:Hp):List (Key×V)→List (Int×D)→Prop where
 | nil:Dct K H [] []
 | cons {k:Int} {v:V} {d:D} {r:List (Key×V)} {r':List (Int×D)}:Is K H v d→Dct K H r r'→Dct K H ((.inl k,v)::r) ((k,d)::r')
end
section
variable {K:Frag} {H H':Hp}
theorem u8 {a:Addr} {u:HO} (e:Same H H') (h:Rd H a u):Rd H' a u:=by
 rcases h with h | ⟨o,h⟩
 ·exact .inl (e _ _ h)
 ·exact .inr ⟨o,e _ _ h⟩
theorem vp {a:Addr} {xs:List V} (e:Same H H') (h:SqT K H a xs):SqT K H' a xs:=by
 rcases h with h | h
 ·exact .inl (u8 e h)
 ·exact .inr h
mutual
theorem Is.up (e:Same H H'): ∀ {v:V} {d:D},Is K H v d→Is K H' v d
 | _,_,.non=> .non
 | _,_,.bl b=> .bl b
 | _,_,.int i=> .int i
 | _,_,.str x=> .str x
 | _,_,.lst h a=> .lst (u8 e h) (Are.up e a)
 | _,_,.tup h a=> .tup (vp e h) (Are.up e a)
 | _,_,.scr h a=> .scr (e.seq h) (Are.up e a)
 | _,_,.dct h a=> .dct (u8 e h) (Dct.up e a)
theorem Are.up (e:Same H H'): ∀ {xs:List V} {ds:List D},Are K H xs ds→Are K H' xs ds
 | _,_,.nil=> .nil
 | _,_,.cons h t=> .cons (Is.up e h) (Are.up e t)
theorem Dct.up (e:Same H H'): ∀ {xs:List (Key×V)} {ds:List (Int×D)},Dct K H xs ds→Dct K H' xs ds
 | _,_,.nil=> .nil
 | _,_,.cons h t=> .cons (Is.up e h) (Dct.up e t)
end
theorem Are.length: ∀ {xs:List V} {ds:List D},Are K H xs ds→xs.length=ds.length
 | _,_,.nil=>rfl
 | _,_,.cons _ t=>by rw [length_cons,length_cons,Are.length t]
theorem Are.get: ∀ {xs:List V} {ds:List D} {i:Nat} {d:D},Are K H xs ds→ds[i]?=some d→ ∃x,xs[i]?=some x∧Is K H x d
 | _,_,_,_,.nil,e=>by simp at e
 | _,_,0,_,.cons h _,e=>by simp at e;subst e;exact ⟨_,rfl,h⟩
 | _,_,i+1,_,.cons _ t,e=>by
  obtain ⟨x,h1,h2⟩:=Are.get t (by simpa using e);exact ⟨x,by simpa using h1,h2⟩
theorem Are.append: ∀ {xs ys:List V} {ds es:List D},Are K H xs ds→Are K H ys es→Are K H (xs++ys) (ds++es)
 | _,_,_,_,.nil,s=>s
 | _,_,_,_,.cons h t,s=> .cons h (Are.append t s)
theorem Are.take: ∀ {xs:List V} {ds:List D} (n:Nat),Are K H xs ds→Are K H (xs.take n) (ds.take n)
 | _,_,0,_=> .nil
 | _,_,_+1,.nil=> .nil
 | _,_,n+1,.cons h t=> .cons h (Are.take n t)
theorem Are.drop: ∀ {xs:List V} {ds:List D} (n:Nat),Are K H xs ds→Are K H (xs.drop n) (ds.drop n)
 | _,_,0,h=>h
 | _,_,_+1,.nil=> .nil
 | _,_,n+1,.cons _ t=>Are.drop n t
theorem Are.rep {xs:List V} {ds:List D} (h:Are K H xs ds): ∀k:Nat,Are K H (List.replicate k xs).flatten (List.replicate k ds).flatten
 | 0=> .nil
 | k+1=>by
  rw [List.replicate_succ,List.replicate_succ,List.flatten_cons,List.flatten_cons];exact Are.append h (Are.rep h k)
theorem Are.at {xs:List V} {ds:List D} {i:Int} {d:D} (h:Are K H xs ds) (e:atD ds i=some d): ∃x,atI xs i=some x∧Is K H x d:=by
 unfold atD at e;unfold atI ixN;rw [h.length];split at e
 ·rename_i h0
  rw [if_pos h0];split at e
  ·rename_i h1
   rw [if_pos h1];exact h.get e
  ·cases e
 ·rename_i h0
  rw [if_neg h0];split at e
  ·rename_i h1
   rw [if_pos h1];exact h.get e
  ·cases e
theorem A4 (n d:Nat) (o:Option Int):cIx n d o=HT.sIx n d o:=by
 cases o <;> rfl
theorem Are.cut {xs:List V} {ds:List D} (h:Are K H xs ds) (lo hi:Option Int):Are K H (cutV xs lo hi) (cutD ds lo hi):=by
 unfold cutV cutD;rw [A4,A4,h.length];exact (h.drop _).take _
theorem fb {p:Addr} {o:HO} (h:H p=none):Same H (upd H p o):=fun b u e=>by rw [a9 (bf e h)];exact e
theorem Is.newL {p:Addr} {xs:List V} {ds:List D} (hp:H p=none) (h:Are K H xs ds):Is K (upd H p (.lst xs)) (.ref p) (.list ds):= .lst (.inl bd) (h.up (fb hp))
theorem Is.newT {p:Addr} {xs:List V} {ds:List D} (hp:H p=none) (h:Are K H xs ds):Is K (upd H p (.tup xs)) (.ref p) (.tuple ds):= .tup (.inl (.inl bd)) (h.up (fb hp))
end
structure Ro (K:Frag) (H:Hp) (σ:L2.St) (ρ:Ren):Prop where
 len:σ.length=ρ.length
 at_: ∀ (i:Nat) (d:D),ρ[i]?=some (some d)→ ∃v,σ[i]?=some (some v)∧Is K H v d
section
variable {K:Frag} {H H':Hp} {σ:L2.St} {ρ:Ren}
theorem Ro.up (e:Same H H') (h:Ro K H σ ρ):Ro K H' σ ρ:=⟨h.len,fun i d q=>let ⟨v,a,b⟩:=h.at_ i d q;⟨v,a,b.up e⟩⟩
theorem Ro.set (h:Ro K H σ ρ) (i:Nat) {v:V} {d:D} (q:Is K H v d):Ro K H (σ.set i (some v)) (ρ.set i (some d)) where
 len:=by rw [length_set,length_set,h.len]
 at_:=fun j c e=>by
  by_cases hij:i=j
  ·subst hij
   by_cases hl:i < ρ.length
   ·rw [getElem?_set_self hl] at e
    cases e;exact ⟨v,by rw [getElem?_set_self (by rw [h.len];exact hl)],q⟩
   ·rw [List.getElem?_eq_none (by rw [length_set];omega)] at e
    cases e
  ·rw [getElem?_set_ne hij] at e
   obtain ⟨u,h1,h2⟩:=h.at_ j c e;exact ⟨u,by rw [getElem?_set_ne hij];exact h1,h2⟩
end
def tX (K:Frag) (m:Ren→Option D):TE:=fun σ H Q=>∃ρ d,Ro K H σ ρ∧m ρ=some d∧ ∀v H',Same H H'→Is K H' v d→Q v H'
def tXA (K:Frag) (m:Ren→Option (List D)):TA:=fun σ H Q=>∃ρ ds,Ro K H σ ρ∧m ρ=some ds∧ ∀vs H',Same H H'→Are K H' vs ds→Q vs H'
def tXT (K:Frag) (m:Ren→Option Bool):TT:=fun σ H Q=>∃ρ b,Ro K H σ ρ∧m ρ=some b∧ ∀H',Same H H'→Q b H'
def tXO (K:Frag) (m:Ren→Option (Option Int)):TO:=fun σ H Q=>∃ρ o,Ro K H σ ρ∧m ρ=some o∧ ∀H',Same H H'→Q o H'
def ends (K:Frag) (H:Hp) (E:Ends):Fl→Prop
 | .nx ρ=>∀σ' H',Same H H'→Ro K H' σ' ρ→E.nx σ' H'
 | .rt d=>∀v H',Same H H'→Is K H' v d→E.rt v H'
def tXS (K:Frag) (m:Ren→Option Fl):TS:=fun E σ H=>∃ρ fl,Ro K H σ ρ∧m ρ=some fl∧ends K H E fl
abbrev XE' (X:Cx) (e:Expr) (m:Ren→Option D):Prop:=PE X e (tX X.K m)
structure XE (X:Cx) (e:Expr) (m:Ren→Option D):Prop where
 ok:XE' X e m
abbrev XA' (X:Cx) (es:List Expr) (m:Ren→Option (List D)):Prop:=PA X es (tXA X.K m)
structure XA (X:Cx) (es:List Expr) (m:Ren→Option (List D)):Prop where
 ok:XA' X es m
abbrev XT' (X:Cx) (e:Expr) (m:Ren→Option Bool):Prop:=PT X e (tXT X.K m)
structure XT (X:Cx) (e:Expr) (m:Ren→Option Bool):Prop where
 ok:XT' X e m
abbrev XW' (X:Cx) (e:Expr) (m:Ren→Option Bool):Prop:=PW X e (tXT X.K m)
structure XW (X:Cx) (e:Expr) (m:Ren→Option Bool):Prop where
 ok:XW' X e m
abbrev XO' (X:Cx) (e:Option Expr) (m:Ren→Option (Option Int)):Prop:=PO X e (tXO X.K m)
structure XO (X:Cx) (e:Option Expr) (m:Ren→Option (Option Int)):Prop where
 ok:XO' X e m
abbrev XS' (X:Cx) (st:Stmt) (m:Ren→Option Fl):Prop:=PS X st (tXS X.K m)
structure XS (X:Cx) (st:Stmt) (m:Ren→Option Fl):Prop where
 ok:XS' X st m
abbrev XSs' (X:Cx) (st:List Stmt) (m:Ren→Option Fl):Prop:=PSs X st (tXS X.K m)
structure XSs (X:Cx) (st:List Stmt) (m:Ren→Option Fl):Prop where
 ok:XSs' X st m
theorem ff {X:Cx} {e:Expr} {t t':TE} (h:PE X e t) (i: ∀σ H Q,t' σ H Q→t σ H Q):PE X e t':=fun pins s σ H Q I q=>h pins s σ H Q I (i σ H Q q)
theorem N5 {X:Cx} {e:List Expr} {t t':TA} (h:PA X e t) (i: ∀σ H Q,t' σ H Q→t σ H Q):PA X e t':=fun pos pins s σ H Q I q=>h pos pins s σ H Q I (i σ H Q q)
theorem Gp {X:Cx} {e:Expr} {t t':TT} (h:PT X e t) (i: ∀σ H Q,t' σ H Q→t σ H Q):PT X e t':=fun pins s σ H Q I q=>h pins s σ H Q I (i σ H Q q)
theorem Re {X:Cx} {e:Expr} {t t':TT} (h:PW X e t) (i: ∀σ H Q,t' σ H Q→t σ H Q):PW X e t':=fun wh pins s σ H Q I q=>h wh pins s σ H Q I (i σ H Q q)
theorem Rf {X:Cx} {e:Option Expr} {t t':TO} (h:PO X e t) (i: ∀σ H Q,t' σ H Q→t σ H Q):PO X e t':=fun pins s σ H Q I q=>h pins s σ H Q I (i σ H Q q)
theorem df {X:Cx} {e:Stmt} {t t':TS} (h:PS X e t) (i: ∀E σ H,t' E σ H→t E σ H):PS X e t':=fun pins s σ H E I q=>h pins s σ H E I (i E σ H q)
theorem rf {X:Cx} {e:List Stmt} {t t':TS} (h:PSs X e t) (i: ∀E σ H,t' E σ H→t E σ H):PSs X e t':=fun pins s σ H E I q=>h pins s σ H E I (i E σ H q)
theorem bind_some {α β:Type} {o:Option α} {f:α→Option β} {b:β} (h:o.bind f=some b): ∃a,o=some a∧f a=some b:=Option.bind_eq_some_iff.mp h
theorem map_some {α β:Type} {o:Option α} {f:α→β} {b:β} (h:o.map f=some b): ∃a,o=some a∧f a=b:=Option.map_eq_some_iff.mp h
section
variable {X:Cx} {a b c e:Expr} {es:List Expr} {pos:Pos} {ma mb mc:Ren→Option D} {ms:Ren→Option (List D)} {mt mu:Ren→Option Bool}
theorem T2 (i:Nat) (h:PE X e (tVar i)):XE X e (fun ρ=>(ρ[i]?).join):=⟨ff h fun σ H Q h0=>by
 obtain ⟨ρ,d,ro,q,k⟩:=h0;have q:(ρ[i]?).join=some d:=q;have q':ρ[i]?=some (some d):=by
  cases z:ρ[i]? with
  | none=>rw [z] at q;cases q
  | some o=>rw [z] at q;exact congrArg some q
 obtain ⟨v,hv,iv⟩:=ro.at_ i d q';exact ⟨v,hv,k v H (Same.refl H) iv⟩⟩
theorem Rg {v:V} {d:D} (h:PE X e (tC v)) (hv: ∀H,Is X.K H v d):XE X e (fun _=>some d):=⟨ff h fun σ H Q h0=>by
 obtain ⟨ρ,d',ro,q,k⟩:=h0;cases q;exact k v H (Same.refl H) (hv H)⟩
theorem ad {i:Int} {j}:XE X (.Constant (.int i) j pos) (fun _=>some (.int i)):=Rg Mq fun _=> .int i
theorem po {i:Bool} {j}:XE X (.Constant (.bool i) j pos) (fun _=>some (.bool i)):=Rg Gf fun _=> .bl i
theorem jq {j}:XE X (.Constant .none j pos) (fun _=>some .none):=Rg Qs fun _=> .non
theorem af {x:Str} {j}:XE X (.Constant (.str x) j pos) (fun _=>some (.str x)):=Rg Hg fun _=> .str x
def R2D (K:Frag) (r:R2) (f:D→D→Option D):Prop:=
 ∀ (H:Hp) (x y:V) (a b d:D) (Q:VK),Is K H x a→Is K H y b→f a b=some d→(∀v H',Same H H'→Is K H' v d→Q v H')→r x y H Q
noncomputable def two (f:D→D→Option D) (ma mb:Ren→Option D):Ren→Option D:=fun ρ=>(ma ρ).bind fun a=>(mb ρ).bind fun b=>f a b
theorem Fb {K:Frag} {r:R2} {f:D→D→Option D} (hr:R2D K r f): ∀σ H Q,tX K (two f ma mb) σ H Q→tOp r (tX K ma) (tX K mb) σ H Q:=fun σ H Q h0=>by
 obtain ⟨ρ,d,ro,q,k⟩:=h0;obtain ⟨a,ha,q⟩:=bind_some q;obtain ⟨b,hb,q⟩:=bind_some q;exact ⟨ρ,a,ro,ha,fun v H1 s1 i1=>⟨ρ,b,ro.up s1,hb,fun u H2 s2 i2=>hr H2 v u a b d Q (i1.up s2) i2 q fun w H3 s3 i3=>k w H3 (s1.trans (s2.trans s3)) i3⟩⟩
theorem ah {op:Operator} {r:R2} {f:D→D→Option D} (ho:OpR X (binaryOp op) r) (hr:R2D X.K r f) (ha:XE X a ma) (hb:XE X b mb):XE X (.BinOp a op b pos) (two f ma mb):=by obtain ⟨ha⟩:=ha;obtain ⟨hb⟩:=hb;exact ⟨ff (K2 ho ha hb) (Fb hr)⟩
theorem ek {op:CmpOp} {r:R2} {f:D→D→Option D} (ho:OpR X (compareOp op) r) (hr:R2D X.K r f) (ha:XE X a ma) (hb:XE X b mb) (hm:behindInMarks op b=false):XE X (.Compare a [op] [b] pos) (two f ma mb):=by obtain ⟨ha⟩:=ha;obtain ⟨hb⟩:=hb;exact ⟨ff (Nv ho ha hb hm) (Fb hr)⟩
theorem Rh {r:R2} {f:D→D→Option D} (ho:IxR X r) (hr:R2D X.K r f) (ha:XE X a ma) (hb:XE X b mb) (hs:PlainIx b):XE X (.Subscript a b pos) (two f ma mb):=by obtain ⟨ha⟩:=ha;obtain ⟨hb⟩:=hb;exact ⟨ff (Q4 ho ha hb hs) (Fb hr)⟩
noncomputable def oneMore (me:Ren→Option D) (ms:Ren→Option (List D)):Ren→Option (List D):=fun ρ=>(me ρ).bind fun d=>(ms ρ).map fun ds=>d::ds
theorem ac:XA X [] (fun _=>some []):=⟨N5 fh fun σ H Q h0z=>by obtain ⟨ρ,ds,ro,q,k⟩:=h0z;cases q;exact k [] H (Same.refl H) .nil⟩
theorem aa (ha:XE X e ma) (hr:XA X es ms) (hs:starEach (e::es) X.env=(false,eval e X.env)::starEach es X.env:=by rfl):XA X (e::es) (oneMore ma ms):=by obtain ⟨ha⟩:=ha;obtain ⟨hr⟩:=hr;exact ⟨N5 (cw ha hr hs) fun σ H Q h0=>by
 obtain ⟨ρ,ds,ro,q,k⟩:=h0;obtain ⟨a,ha,q⟩:=bind_some q;obtain ⟨r,hr,q⟩:=map_some q;subst q;exact ⟨ρ,a,ro,ha,fun v H1 s1 i1=>⟨ρ,r,ro.up s1,hr,fun vs H2 s2 i2=>k _ H2 (s1.trans s2) (.cons (i1.up s2) i2)⟩⟩⟩
theorem gw {n:Nat} (h:n≤lim):n≤sizeLine:=Nat.le_trans h (by decide)
noncomputable def tupOf (ms:Ren→Option (List D)):Ren→Option D:=fun ρ=>(ms ρ).bind fun ds=>if ds.length≤lim then some (.tuple ds) else none
noncomputable def lstOf (ms:Ren→Option (List D)):Ren→Option D:=fun ρ=>(ms ρ).bind fun ds=>if ds.length≤lim then some (.list ds) else none
theorem b5 {x1} (h:XA X es ms):XE X (.Tuple es x1 pos) (tupOf ms):=by obtain ⟨h⟩:=h;exact ⟨ff (Hr h) fun σ H Q h0=>by
 obtain ⟨ρ,d,ro,q,k⟩:=h0;obtain ⟨ds,hd,q⟩:=bind_some q;split at q
 ·rename_i hl
  cases q;exact ⟨ρ,ds,ro,hd,fun vs H1 s1 i1=>⟨by rw [i1.length];exact gw hl,fun p hp=>k _ _ (s1.trans (fb hp)) (Is.newT hp i1)⟩⟩
 ·cases q⟩
theorem az (h:XA X es ms):XE X (.List es pos) (lstOf ms):=by obtain ⟨h⟩:=h;exact ⟨ff (Hs h) fun σ H Q h0=>by
 obtain ⟨ρ,d,ro,q,k⟩:=h0;obtain ⟨ds,hd,q⟩:=bind_some q;split at q
 ·rename_i hl
  cases q;exact ⟨ρ,ds,ro,hd,fun vs H1 s1 i1=>⟨by rw [i1.length];exact gw hl,fun p hp=>k _ _ (s1.trans (fb hp)) (Is.newL hp i1)⟩⟩
 ·cases q⟩
noncomputable def bindB (m:Ren→Option D):Ren→Option Bool:=fun ρ=>(m ρ).bind asBl
noncomputable def bindT (m:Ren→Option D):Ren→Option Bool:=fun ρ=>(m ρ).bind truD
theorem px {d:D} {b:Bool} (h:asBl d=some b):d= .bool b:=by
 cases d <;> simp [asBl] at h;exact congrArg _ h
theorem ai {op:CmpOp} {r:R2} {f:D→D→Option D} (ho:OpR X (compareOp op) r) (hr:R2D X.K r f) (ha:XE X a ma) (hb:XE X b mb) (hm:behindInMarks op b=false):XT X (.Compare a [op] [b] pos) (bindB (two f ma mb)):=by obtain ⟨ha⟩:=ha;obtain ⟨hb⟩:=hb;exact ⟨Gp (Nw ho ha hb hm) fun σ H Q h0=>by
  obtain ⟨ρ,c,ro,q,k⟩:=h0;obtain ⟨d,hd,q⟩:=bind_some q;have e:=px q;subst e;exact Fb hr σ H _ ⟨ρ,_,ro,hd,fun v H1 s1 i1=>by cases i1;exact ⟨c,rfl,k H1 s1⟩⟩⟩
theorem N6 {K:Frag} {H:Hp} {v:V} {d:D} {b:Bool} (i:Is K H v d) (h:truD d=some b):TruV K v H b:=by
 cases i with
 | non=>cases h;rfl
 | bl c=>cases h;rfl
 | int j=>cases h;rfl
 | str x=>cases h
 | scr h1 h2=>cases h
 | dct h1 h2=>cases h
 | @lst p xs ds h1 h2=>
  cases h;refine .inl ⟨xs,.inl h1,?_⟩
  have:=h2.length
  cases xs <;> cases ds <;> simp at this ⊢
 | @tup p xs ds h1 h2=>
  cases h;refine .inr (.inl ⟨xs,h1,?_⟩)
  have:=h2.length
  cases xs <;> cases ds <;> simp at this ⊢
theorem fc (ha:XE X a ma) (he: ∀whole,isTrue a X.env whole=(do let v ←whole;standAt a.pos;holding [v] (truthy v))):XT X a (bindT ma):=by obtain ⟨ha⟩:=ha;exact ⟨Gp (K4 ha he) fun σ H Q h0=>by
 obtain ⟨ρ,c,ro,q,k⟩:=h0;obtain ⟨d,hd,q⟩:=bind_some q;exact ⟨ρ,d,ro,hd,fun v H1 s1 i1=>⟨c,N6 i1 q,k H1 s1⟩⟩⟩
noncomputable def andB (mt mu:Ren→Option Bool):Ren→Option Bool:=fun ρ=>(mt ρ).bind fun c=>if c=true then mu ρ else some false
noncomputable def orB (mt mu:Ren→Option Bool):Ren→Option Bool:=fun ρ=>(mt ρ).bind fun c=>if c=true then some true else mu ρ
noncomputable def notB (mt:Ren→Option Bool):Ren→Option Bool:=fun ρ=>(mt ρ).map fun c=>!c
theorem ik (ha:XT X a mt):XW X (.BoolOp .And [a] pos) mt:=by obtain ⟨ha⟩:=ha;exact ⟨Nq ha⟩
theorem xc (ha:XT X a mt):XW X (.BoolOp .Or [a] pos) mt:=by obtain ⟨ha⟩:=ha;exact ⟨Qt ha⟩
theorem lb {rest:List Expr} (ha:XT X a mt) (hb:XW X (.BoolOp .And (b::rest) pos) mu):XW X (.BoolOp .And (a::b::rest) pos) (andB mt mu):=by obtain ⟨ha⟩:=ha;obtain ⟨hb⟩:=hb;exact ⟨Re (Qu ha hb) fun σ H Q h0=>by
 obtain ⟨ρ,c,ro,q,k⟩:=h0;obtain ⟨d,hd,q⟩:=bind_some q;refine ⟨ρ,d,ro,hd,fun H1 s1=>?_⟩;cases d with
 | true=>exact ⟨ρ,c,ro.up s1,q,fun H2 s2=>k H2 (s1.trans s2)⟩
 | false=>cases q;exact k H1 s1⟩
theorem Dw {rest:List Expr} (ha:XT X a mt) (hb:XW X (.BoolOp .Or (b::rest) pos) mu):XW X (.BoolOp .Or (a::b::rest) pos) (orB mt mu):=by obtain ⟨ha⟩:=ha;obtain ⟨hb⟩:=hb;exact ⟨Re (Tu ha hb) fun σ H Q h0=>by
 obtain ⟨ρ,c,ro,q,k⟩:=h0;obtain ⟨d,hd,q⟩:=bind_some q;refine ⟨ρ,d,ro,hd,fun H1 s1=>?_⟩;cases d with
 | false=>exact ⟨ρ,c,ro.up s1,q,fun H2 s2=>k H2 (s1.trans s2)⟩
 | true=>cases q;exact k H1 s1⟩
theorem Ab (h:XW X a mt):XT X a mt:=by obtain ⟨h⟩:=h;exact ⟨h.pt⟩
theorem Ac (ha:XT X a mt):XT X (.UnaryOp .Not a pos) (notB mt):=by obtain ⟨ha⟩:=ha;exact ⟨Gp (Qv ha) fun σ H Q h0=>by
 obtain ⟨ρ,c,ro,q,k⟩:=h0;obtain ⟨d,hd,q⟩:=map_some q;subst q;exact ⟨ρ,d,ro,hd,fun H1 s1=>k H1 s1⟩⟩
noncomputable def andV (ma mb:Ren→Option D):Ren→Option D:=fun ρ=>(ma ρ).bind fun d=>(asBl d).bind fun c=>if c=true then mb ρ else some (.bool false)
noncomputable def orV (ma mb:Ren→Option D):Ren→Option D:=fun ρ=>(ma ρ).bind fun d=>(asBl d).bind fun c=>if c=true then some (.bool true) else mb ρ
noncomputable def notV (ma:Ren→Option D):Ren→Option D:=fun ρ=>(ma ρ).bind fun d=>(asBl d).map fun c=> .bool (!c)
theorem vq {op} (h:XE X a ma):XE X (.BoolOp op [a] pos) ma:=by obtain ⟨h⟩:=h;exact ⟨Mr h⟩
theorem Cg {rest:List Expr} (ha:XE X a ma) (hb:XE X (.BoolOp .And (b::rest) pos) mb):XE X (.BoolOp .And (a::b::rest) pos) (andV ma mb):=by obtain ⟨ha⟩:=ha;obtain ⟨hb⟩:=hb;exact ⟨ff (Ms ha hb) fun σ H Q h0=>by
 obtain ⟨ρ,c,ro,q,k⟩:=h0;obtain ⟨d,hd,q⟩:=bind_some q;obtain ⟨z,hz,q⟩:=bind_some q;have e:=px hz;subst e;refine ⟨ρ,_,ro,hd,fun v H1 s1 i1=>?_⟩;cases i1;refine ⟨z,rfl,?_⟩;cases z with
 | true=>exact ⟨ρ,c,ro.up s1,q,fun v H2 s2 i2=>k v H2 (s1.trans s2) i2⟩
 | false=>cases q;exact k _ H1 s1 (.bl false)⟩
theorem N7 {rest:List Expr} (ha:XE X a ma) (hb:XE X (.BoolOp .Or (b::rest) pos) mb):XE X (.BoolOp .Or (a::b::rest) pos) (orV ma mb):=by obtain ⟨ha⟩:=ha;obtain ⟨hb⟩:=hb;exact ⟨ff (Tv ha hb) fun σ H Q h0=>by
 obtain ⟨ρ,c,ro,q,k⟩:=h0;obtain ⟨d,hd,q⟩:=bind_some q;obtain ⟨z,hz,q⟩:=bind_some q;have e:=px hz;subst e;refine ⟨ρ,_,ro,hd,fun v H1 s1 i1=>?_⟩;cases i1;refine ⟨z,rfl,?_⟩;cases z with
 | false=>exact ⟨ρ,c,ro.up s1,q,fun v H2 s2 i2=>k v H2 (s1.trans s2) i2⟩
 | true=>cases q;exact k _ H1 s1 (.bl true)⟩
theorem M0 (ha:XE X a ma):XE X (.UnaryOp .Not a pos) (notV ma):=by obtain ⟨ha⟩:=ha;exact ⟨ff (Qw ha) fun σ H Q h0=>by
 obtain ⟨ρ,c,ro,q,k⟩:=h0;obtain ⟨d,hd,q1⟩:=bind_some q;obtain ⟨z,hz,q2⟩:=map_some q1;have e:=px hz;subst e;subst q2;refine ⟨ρ,_,ro,hd,fun v H1 s1 i1=>?_⟩;cases i1;exact ⟨z,rfl,k _ H1 s1 (.bl _)⟩⟩
noncomputable def ifE {α:Type} (mt:Ren→Option Bool) (ma mb:Ren→Option α):Ren→Option α:=fun ρ=>(mt ρ).bind fun c=>if c=true then ma ρ else mb ρ
theorem N8 (hc:XT X c mt) (ha:XE X a ma) (hb:XE X b mb):XE X (.IfExp c a b pos) (ifE mt ma mb):=by obtain ⟨hc⟩:=hc;obtain ⟨ha⟩:=ha;obtain ⟨hb⟩:=hb;exact ⟨ff (E4 hc ha hb) fun σ H Q h0=>by
 obtain ⟨ρ,d,ro,q,k⟩:=h0;obtain ⟨z,hz,q⟩:=bind_some q;refine ⟨ρ,z,ro,hz,fun H1 s1=>?_⟩;cases z with
 | true=>exact ⟨ρ,d,ro.up s1,q,fun v H2 s2 i2=>k v H2 (s1.trans s2) i2⟩
 | false=>exact ⟨ρ,d,ro.up s1,q,fun v H2 s2 i2=>k v H2 (s1.trans s2) i2⟩⟩
theorem eh:XO X none (fun _=>some none):=⟨Rf Ny fun σ H Q h0z=>by obtain ⟨ρ,o,ro,q,k⟩:=h0z;cases q;exact k H (Same.refl H)⟩
noncomputable def partOf (m:Ren→Option D):Ren→Option (Option Int):=fun ρ=>(m ρ).bind fun d=>(asInt d).map some
theorem Ad {d:D} {b:Int} (h:asInt d=some b):d= .int b:=by
 cases d <;> simp [asInt] at h;exact congrArg _ h
theorem dv (h:XE X e ma):XO X (some e) (partOf ma):=by obtain ⟨h⟩:=h;exact ⟨Rf (Nz h) fun σ H Q h0=>by
 obtain ⟨ρ,o,ro,q,k⟩:=h0;obtain ⟨d,hd,q1⟩:=bind_some q;obtain ⟨z,hz,q2⟩:=map_some q1;have e:=Ad hz;subst e;subst q2;refine ⟨ρ,_,ro,hd,fun v H1 s1 i1=>?_⟩;cases i1;exact ⟨z,rfl,k H1 s1⟩⟩
noncomputable def sliceOf (ma:Ren→Option D) (ml mh:Ren→Option (Option Int)):Ren→Option D:=fun ρ=>(ma ρ).bind fun d=>(ml ρ).bind fun l=>(mh ρ).bind fun h=>slD d l h
theorem Lc {d r:D} {l h:Option Int} (e:slD d l h=some r): ∃xs,(d= .list xs∨d= .dict [(.none,.list xs)])∧r= .list (cutD xs l h):=by
 unfold slD at e;split at e
 ·cases e;exact ⟨_,.inl rfl,rfl⟩
 ·cases e;exact ⟨_,.inr rfl,rfl⟩
 ·cases e
theorem db {lo hi:Option Expr} {p2:Pos} {ml mh:Ren→Option (Option Int)} (he:XE X e ma) (hl:XO X lo ml) (hh:XO X hi mh):XE X (.Subscript e (.Slice lo hi none p2) pos) (sliceOf ma ml mh):=by obtain ⟨he⟩:=he;obtain ⟨hl⟩:=hl;obtain ⟨hh⟩:=hh;exact ⟨ff (E9 N0 he hl hh) fun σ H Q h0=>by
  obtain ⟨ρ,d,ro,q,k⟩:=h0;obtain ⟨a,ha,q⟩:=bind_some q;obtain ⟨l,hl,q⟩:=bind_some q;obtain ⟨h,hh,q⟩:=bind_some q;obtain ⟨xs,ea,rfl⟩:=Lc q;refine ⟨ρ,a,ro,ha,fun v H1 s1 i1=>⟨ρ,l,ro.up s1,hl,fun H2 s2=>⟨ρ,h,(ro.up s1).up s2,hh,fun H3 s3=>?_⟩⟩⟩;have i3:=i1.up (s2.trans s3);rcases ea with rfl | rfl
  ·cases i3 with
   | lst h1 h2=>exact ⟨_,_,rfl,.inl h1,fun p hp=>k _ _ (s1.trans (s2.trans (s3.trans (fb hp)))) (Is.newL hp (h2.cut l h))⟩
  ·cases i3 with
   | scr h1 h2=>exact ⟨_,_,rfl,h1,fun p hp=>k _ _ (s1.trans (s2.trans (s3.trans (fb hp)))) (Is.newL hp (h2.cut l h))⟩⟩
def CD (K:Frag) (r:List V→Hp→VK→Prop) (f:List D→Option D):Prop:=
 ∀ (H:Hp) (xs:List V) (ds:List D) (d:D) (Q:VK),Are K H xs ds→f ds=some d→(∀v H',Same H H'→Is K H' v d→Q v H')→r xs H Q
noncomputable def callOf (f:List D→Option D) (ms:Ren→Option (List D)):Ren→Option D:=fun ρ=>(ms ρ).bind f
theorem M2 {K:Frag} {r:List V→Hp→VK→Prop} {f:List D→Option D} (hr:CD K r f): ∀σ H Q,tX K (callOf f ms) σ H Q→tCB r (tXA K ms) σ H Q:=fun σ H Q h0=>by
 obtain ⟨ρ,d,ro,q,k⟩:=h0;obtain ⟨ds,hd,q⟩:=bind_some q;exact ⟨ρ,ds,ro,hd,fun vs H1 s1 i1=>hr H1 vs ds d Q i1 q fun v H2 s2 i2=>k v H2 (s1.trans s2) i2⟩
theorem ax {x:Str} {p:Pos} {id:String} {r:List V→Hp→VK→Prop} {f:List D→Option D} (hc:CallR X (.builtin id) r) (hr:CD X.K r f) (hg:Gl X x) (hm:X.mg x=none) (hv:bootBuiltins x=some (.builtin id)) (ha:XA X (e::es) ms) (hn:x≠"__name__":=by decide)
  (hdb:(x==("__debug__":Str))=false:=by decide) (he:starEach (e::es) X.env=(false,eval e X.env)::starEach es X.env:=by rfl) (hpl:(backTo pos (starEach es X.env)).any (·.1)=false:=by rfl):XE X (.Call (.Name x p) (e::es) [] pos) (callOf f ms):=by obtain ⟨ha⟩:=ha;exact ⟨ff (ni hc hg hm hv ha hn hdb he hpl) (M2 hr)⟩
theorem dh {x:Str} {p:Pos} {T:String} {r:List V→Hp→VK→Prop} {f:List D→Option D} (hc:CallR X (.type T) r) (hr:CD X.K r f) (hg:Gl X x) (hm:X.mg x=none) (hv:bootBuiltins x=some (.type T)) (ha:XA X (e::es) ms) (hn:x≠"__name__":=by decide)
  (hdb:(x==("__debug__":Str))=false:=by decide) (he:starEach (e::es) X.env=(false,eval e X.env)::starEach es X.env:=by rfl) (hpl:(backTo pos (starEach es X.env)).any (·.1)=false:=by rfl):XE X (.Call (.Name x p) (e::es) [] pos) (callOf f ms):=by obtain ⟨ha⟩:=ha;exact ⟨ff (pw hc hg hm hv ha hn hdb he hpl) (M2 hr)⟩
def spX (K:Frag) (f:List D→Option D):Sp:=fun vs H Q _=>∃ds d,Are K H vs ds∧f ds=some d∧ ∀v H',Same H H'→Is K H' v d→Q v H'
theorem Ld {K:Frag} {f:List D→Option D} {E:XK}: ∀σ H Q,tX K (callOf f ms) σ H Q→tCall (spX K f) [] E (tXA K ms) σ H Q:=fun σ H Q h0=>by
 obtain ⟨ρ,d,ro,q,k⟩:=h0;obtain ⟨ds,hd,q⟩:=bind_some q;exact ⟨ρ,ds,ro,hd,fun vs H1 s1 i1=>⟨ds,d,by rw [append_nil];exact i1,q,fun v H2 s2 i2=>k v H2 (s1.trans s2) i2⟩⟩
structure Own (P:Program) (w:World) (K:Frag) (mg:Str→Option Value) (base:Heap) (k:Nat) (x:Str) (ps:List Str) (sp:Sp):Prop where
 ex: ∃ (f:Addr) (fd:FuncData),FnOk P w K mg base CX0 k f fd ps sp∧mg x=some (.ref f)∧keepIn K (.ref f)=true∧Binds K fd ps []
theorem am {x:Str} {p:Pos} {k:Nat} {ps:List Str} {f:List D→Option D} (F:Own X.prog X.w X.K X.mg X.base k x ps (spX X.K f)) (hr:Room k X.A) (hg:Gl X x) (ha:XA X (e::es) ms)
  (hdb:(x==("__debug__":Str))=false:=by decide) (he:starEach (e::es) X.env=(false,eval e X.env)::starEach es X.env:=by rfl) (hpl:(backTo pos (starEach es X.env)).any (·.1)=false:=by rfl):XE X (.Call (.Name x p) (e::es) [] pos) (callOf f ms):=by
 obtain ⟨ha⟩:=ha;refine ⟨?_⟩;obtain ⟨g,fd,F,hm,hk,hb⟩:=F.ex;exact ff (u7 F hr hg hm hk hb .nil pass0 ha hdb he hpl) Ld
theorem au:XSs X [] (fun ρ=>some (.nx ρ)):=⟨rf Do fun E σ H h0z=>by obtain ⟨ρ,fl,ro,q,k⟩:=h0z;cases q;exact k σ H (Same.refl H) ro⟩
noncomputable def seqF (m n:Ren→Option Fl):Ren→Option Fl:=fun ρ=>(m ρ).bind fun fl=>match fl with | .nx ρ'=>n ρ' | .rt d=>some (.rt d)
variable {st:Stmt} {rest:List Stmt} {m n:Ren→Option Fl}
theorem ae (h1:XS X st m) (h2:XSs X rest n):XSs X (st::rest) (seqF m n):=by obtain ⟨h1⟩:=h1;obtain ⟨h2⟩:=h2;exact ⟨rf (js h1 h2) fun E σ H h0=>by
 obtain ⟨ρ,fl,ro,q,k⟩:=h0;obtain ⟨f1,h1,q⟩:=bind_some q;refine ⟨ρ,f1,ro,h1,?_⟩;cases f1 with
 | nx ρ'=>exact fun σ' H' s' ro'=>⟨ρ',fl,ro',q,by
   cases fl with
   | nx ρ2=>exact fun σ2 H2 s2 ro2=>k σ2 H2 (s'.trans s2) ro2
   | rt d=>exact fun v H2 s2 i2=>k v H2 (s'.trans s2) i2⟩
 | rt d=>cases q;exact k⟩
theorem ag (h1:XS X st m):XSs X [st] m:=by obtain ⟨h1⟩:=h1;exact ⟨jj h1⟩
theorem ak (he:XE X e ma):XS X (.Return (some e) pos) (fun ρ=>(ma ρ).map .rt):=by obtain ⟨he⟩:=he;exact ⟨df (pq he) fun E σ H h0=>by
 obtain ⟨ρ,fl,ro,q,k⟩:=h0;obtain ⟨d,hd,q⟩:=map_some q;subst q;exact ⟨ρ,d,ro,hd,k⟩⟩
theorem cg {c:Expr} {a b:List Stmt} (hc:XT X c mt) (ha:XSs X a m) (hb:XSs X b n):XS X (.If c a b pos) (ifE mt m n):=by obtain ⟨hc⟩:=hc;obtain ⟨ha⟩:=ha;obtain ⟨hb⟩:=hb;exact ⟨df (Nr hc ha hb) fun E σ H h0=>by
 obtain ⟨ρ,fl,ro,q,k⟩:=h0;obtain ⟨z,hz,q⟩:=bind_some q;have up: ∀H1,Same H H1→ends X.K H1 E fl:=fun H1 s1=>by
  cases fl with
  | nx ρ2=>exact fun σ2 H2 s2 ro2=>k σ2 H2 (s1.trans s2) ro2
  | rt d=>exact fun v H2 s2 i2=>k v H2 (s1.trans s2) i2
 refine ⟨ρ,z,ro,hz,fun H1 s1=>?_⟩;cases z with
 | true=>exact ⟨ρ,fl,ro.up s1,q,up H1 s1⟩
 | false=>exact ⟨ρ,fl,ro.up s1,q,up H1 s1⟩⟩
noncomputable def setF (i:Nat) (ma:Ren→Option D):Ren→Option Fl:=fun ρ=>(ma ρ).map fun d=> .nx (ρ.set i (some d))
theorem Ri {x:Expr} {i:Nat} (h:PS X st (tAsg (tX X.K ma) (gName i))):XS X st (setF i ma):=⟨df h fun E σ H h0=>by
 obtain ⟨ρ,fl,ro,q,k⟩:=h0;obtain ⟨d,hd,q⟩:=map_some q;subst q;exact ⟨ρ,d,ro,hd,fun v H1 s1 i1=>k _ H1 s1 ((ro.up s1).set i i1)⟩⟩
theorem ck {i:Nat} {x:Str} {pos':Pos} (hN:X.N.Nodup) (hi:X.N[i]?=some x) (hx:Loc X.env.scope x) (he:XE X e ma) (hs:swapsWith e (some (.Name x pos')) pos.line X.env=pure false:=by rfl)
  (hf:X.fn x=true∨X.env.scope.names.lookup x=some .local:=by trivial):XS X (.Assign [.Name x pos'] e pos) (setF i ma):=by obtain ⟨he⟩:=he;exact Ri (x:=e) (je hN hi hx he hs hf)
end
theorem Are.start {K:Frag} {H:Hp} {vs:List V} {ds:List D} (N:List Str) (h:Are K H vs ds):Ro K H (start N vs) (ds.map some++List.replicate (N.length - ds.length) none) where
 len:=by
  unfold L2.start;rw [length_append,length_append,length_map,length_map,List.length_replicate,List.length_replicate,h.length]
 at_:=fun i d e=>by
  by_cases hl:i < ds.length
  ·rw [getElem?_append_left (by rw [length_map];exact hl),getElem?_map] at e
   obtain ⟨d',hd,e⟩:=map_some e;cases e;obtain ⟨x,h1,h2⟩:=h.get hd;refine ⟨x,?_,h2⟩;unfold L2.start;rw [getElem?_append_left (by rw [length_map,h.length];exact hl),getElem?_map,h1];rfl
  ·rw [getElem?_append_right (by rw [length_map];omega),List.getElem?_replicate] at e
   split at e <;> cases e
section
variable {P:Program} {w:World} {K:Frag} {mg:Str→Option Value} {base:Heap}
noncomputable abbrev bodyCx (P:Program) (w:World) (K:Frag) (mg:Str→Option Value) (base:Heap) (N:List Str) (qual:Str) (st:Stmt) (f:Addr) (cdv:Value) (A:Around) (outer:List Env) (s:Shared) (H:Hp) (E:XK):Cx:=
 (cxOf CX0 P w K mg base N qual (defScope st) f cdv A outer s H E).nox
theorem yw {x qual:Str} {st:Stmt} {fa:Addr} {fd:FuncData} {N ps:List Str} {k:Nat} {f:List D→Option D} {m:Ren→Option Fl} (F:Fun K x qual st fa fd) (S:FnScope N ps (defScope st)) (hl: ∀ds d,f ds=some d→ds.length=ps.length)
  (hb: ∀ (cdv:Value) (A:Around) (outer:List Env) (s:Shared) (H:Hp) (E:XK),Room k (A.deeper (envOfC qual (defScope st) s.heap.objs.size fa cdv))→XSs (bodyCx P w K mg base N qual st fa cdv A outer s H E) (defBody st) m)
  (hm: ∀ds d,f ds=some d→m (ds.map some++List.replicate (N.length - ps.length) none)=some (.rt d)∨(d= .none∧ ∃ρ,m (ds.map some++List.replicate (N.length - ps.length) none)=some (.nx ρ))):
  FnOk P w K mg base CX0 (k+1) fa fd ps (spX K f):=by
 have hb:=fun z0 z1 z2 z3 z4 z5 z6=>(hb z0 z1 z2 z3 z4 z5 z6).ok;refine F.ok S (fun vs H Q E h=>?_) (fun cdv A outer s H vs Q E hr h=>?_)
 ·obtain ⟨ds,d,i,e,_⟩:=h
  rw [i.length];exact hl ds d e
 ·obtain ⟨ds,d,i,e,q⟩:=h
  refine ⟨_,hb cdv A outer s H E hr,?_⟩;have ro:=i.start N;rw [hl ds d e] at ro;rcases hm ds d e with h | ⟨rfl,ρ,h⟩
  ·exact ⟨_,_,ro,h,fun v H' s' i'=>q v H' s' i'⟩
  ·exact ⟨_,_,ro,h,fun σ' H' s' _=>q _ H' s' .non⟩
end
end RG
end
section
namespace RG
open PySem PySem.Spec PyProof.Rows L2
noncomputable def blk (X:Cx) (NB:List Str) (scope:Scope) (cl:List (Str×Addr)) (s₀:Shared) (H₀:Hp) (C:Addr) (fp:List Addr) (pn:List (Addr×Obj)):Cx:=
 { X with N:=NB,s₀:=s₀,H₀:=H₀,env:=compEnvC scope cl C X.env,outer:=X.stack,stack:=X.stack,ex:=fp,fn:=fun _=>false,pn:=pn,xe:=fun _ _=>False }
structure Clo (X:Cx) (scope:Scope) (cl:List (Str×Addr)) (NB:List Str) (fr:List (Option Nat)):Prop where
 clos:closureFor scope X.env=pure cl
 cell: ∀y∈scope.names,y.2≠ .cell
 kind:scope.kind= .function
 names: ∀y∈scope.names,y.2= .local→scope.names.lookup y.1=some .local
 sub: ∀p∈cl,X.env.cells.lookup p.1=some p.2
 has:(relabel scope X.env).names.all (fun p=>(p.2 != .cell && p.2 != .free) || (cl.lookup p.1).isSome)=true
 len:fr.length=NB.length
 cap: ∀ (i j:Nat) (x:Str),fr[i]?=some (some j)→NB[i]?=some x→X.N[j]?=some x∧(X.env.kindOf x=some .cell∨X.env.kindOf x=some .free)∧Vis X.env.scope x∧(cl.lookup x).isSome=true∧
  ((relabel scope X.env).names.lookup x=some .cell∨(relabel scope X.env).names.lookup x=some .free)
theorem u9 {β:Type}: ∀ {l:List (Str×β)} {x:Str} {c:β},l.lookup x=some c→(x,c)∈l
 | [],_,_,h=>by simp at h
 | (y,b)::r,x,c,h=>by
  rw [List.lookup_cons] at h;cases e:x==y with
  | true=>
   rw [e] at h;cases h;rw [eq_of_beq e];exact mem_cons_self
  | false=>
   rw [e] at h;exact mem_cons_of_mem _ (u9 h)
@[simp] noncomputable def capS {α:Type} (fr:List (Option Nat)) (σ:List (Option α)):List (Option α):=fr.map fun o=>o.bind fun j=>(σ[j]?).join
theorem xf {α:Type} {fr:List (Option Nat)} {σ:List (Option α)} {i:Nat} {v:α} (h:(capS fr σ)[i]?=some (some v)): ∃j,fr[i]?=some (some j)∧σ[j]?=some (some v):=by
 unfold capS at h;rw [getElem?_map] at h;obtain ⟨o,h1,h2⟩:=map_some h;cases o with
 | none=>cases h2
 | some j=>
  refine ⟨j,h1,?_⟩;have h2:(σ[j]?).join=some v:=h2;cases e:σ[j]? with
  | none=>rw [e] at h2;cases h2
  | some u=>rw [e] at h2;exact congrArg some h2
theorem Ro.cap {K:Frag} {H:Hp} {σ:L2.St} {ρ:Ren} (ro:Ro K H σ ρ) (fr:List (Option Nat)):Ro K H (capS fr σ) (capS fr ρ) where
 len:=by unfold capS;rw [length_map,length_map]
 at_:=fun i d h=>by
  obtain ⟨j,h1,h2⟩:=xf h;obtain ⟨v,h3,h4⟩:=ro.at_ j d h2;refine ⟨v,?_,h4⟩;unfold capS;rw [getElem?_map,h1]
  show some ((σ[j]?).join)=some (some v)
  rw [h3];rfl
section
variable {X:Cx} {pins:List (Addr×Obj)} {σ:L2.St} {H:Hp} {s:Shared} {scope:Scope} {cl:List (Str×Addr)} {NB:List Str} {fr:List (Option Nat)}
theorem Clo.cells (c:Clo X scope cl NB fr) {x:Str} {a:Addr} (h:cl.lookup x=some a):X.env.cells.lookup x=some a:=c.sub _ (u9 h)
theorem Ie (I:Inv X pins σ H s) (c:Clo X scope cl NB fr) {fp:List Addr} (hf: ∀b∈fp,FpOk X pins H b∧b < s.heap.objs.size) {C:Addr} {h₁:Heap} {t':Nat} (hC:s.heap.objs.size≤C)
  (hn:h₁.Ns C (fun _=>none)) (kp: ∀b o,s.heap.get? b=some o→h₁.get? b=some o):Inv (blk X NB scope cl s H C fp (X.pn++pins)) [] (capS fr σ) H { s with heap:=h₁,toks:=t' }:=by
 have lt: ∀ {b:Addr} {o:Obj},s.heap.get? b=some o→b≠C:=fun e z=>by
  have:=lt_size e
  rw [z] at this;exact absurd (Nat.lt_of_lt_of_le this hC) (Nat.lt_irrefl _)
 have celc: ∀ {x:Str} {a:Addr},cl.lookup x=some a→ ∃v,s.heap.IsCell a v:=fun h=>I.cell _ _ (c.cells h);refine ⟨⟨I.ok.mod,c.kind,I.ok.glob,I.ok.blt,hC,fun x y a h1 h2=>I.ok.inj x y a (c.cells h1) (c.cells h2),fun x h=>?_,fun x a h=>absurd h Bool.false_ne_true,I.ok.hd,I.ok.frames,.inl rfl,fun b hb=>?_,I.bs,
  Nat.le_trans I.ok.bsz I.sz,fun b o e hb=>?_,fun b hb z=>?_,I.stack,I.stkFree⟩,rfl,I.bare,Un.kept kp,?_,fun x a h=>?_,?_,fun x a h=>I.freeC x a (c.cells h),fun p hp=>?_,I.hok.kept kp,?_⟩
 ·-- has
  have q: ∃k,(relabel scope X.env).names.lookup x=some k∧(k= .cell∨k= .free):=by
   rcases h with h | h
   ·exact ⟨_,h,.inl rfl⟩
   ·exact ⟨_,h,.inr rfl⟩
  obtain ⟨k,h1,h2⟩:=q
  have:=List.all_eq_true.mp c.has _ (u9 h1)
  show ∃a,cl.lookup x=some a
  cases hh:cl.lookup x with
  | some a=>exact ⟨a,rfl⟩
  | none=>rcases h2 with rfl | rfl <;> simp [hh] at this
 ·-- exf
  obtain ⟨⟨f0,f1,f2,f3,f4,f5⟩,f6⟩:=hf b hb;refine ⟨fun z=>?_,fun x a h=>f4 x a (c.cells h)⟩;rw [show b=C from z] at f6;exact absurd (Nat.lt_of_lt_of_le f6 hC) (Nat.lt_irrefl _)
 ·-- noex
  obtain ⟨⟨f0,f1,f2,f3,f4,f5⟩,f6⟩:=hf b hb;rcases f3 with f3 | f3
  ·exact I.ok.noex b o e f3
  ·exact absurd (Nat.lt_of_lt_of_le (lt_size e) (Nat.le_trans I.ok.bsz f3)) (Nat.lt_irrefl _)
 ·-- exfs
  obtain ⟨⟨f0,f1,f2,f3,f4,f5⟩,f6⟩:=hf b hb;rcases List.mem_cons.mp (I.stkSub b z) with h | h
  ·exact f1 h
  ·exact f2 h
 ·-- loc
  refine ⟨_,hn,fun i x v h1 h2 h3=>?_⟩;obtain ⟨j,h4,h5⟩:=xf h2;obtain ⟨c1,c2,c3,c4,c5⟩:=c.cap i j x h4 h1;obtain ⟨m,hm,hl⟩:=I.loc;obtain ⟨u,r,lk⟩:=hl j x v c1 h5 c3;refine ⟨u,r,.inr ⟨c5,?_⟩⟩;rcases lk with ⟨l1,l2⟩ | ⟨l1,a,l2,l3⟩
  ·rcases c2 with c2 | c2 <;> (rw [l1] at c2;cases c2)
  ·obtain ⟨a',ha'⟩:=Option.isSome_iff_exists.mp c4
   have e:=c.cells ha';rw [l2] at e;cases e;exact ⟨a,ha',l3.keeps kp⟩
 ·-- cell
  obtain ⟨v,hv⟩:=celc h;exact ⟨v,hv.keeps kp⟩
 ·-- free
  exact I.hok.fresh hC
 ·-- pins
  have hp':p∈X.pn++pins:=by
   rcases List.mem_append.mp hp with h | h
   ·exact h
   ·cases h
  obtain ⟨p1,p2,p3,p4,p5⟩:=I.pin p hp';refine ⟨kp _ _ p1,p2,lt p1,fun z=>?_,p5⟩;rcases List.mem_cons.mp (I.stkSub _ z) with h | h
  ·exact p3 h
  ·exact p4 h
 ·unfold capS
  rw [length_map];exact c.len
theorem N9 (I:Inv X pins σ H s) {C p:Addr} {fp:List Addr} (hf: ∀b∈fp,FpOk X pins H b) {pins':List (Addr×Obj)} {σ':L2.St} {H':Hp} {s':Shared} (I':Inv (blk X NB scope cl s H C fp (X.pn++pins)) pins' σ' H' s')
  (hp:s.heap.objs.size≤p) (np:H' p=none) {xs:List V} {its:List Value} {n:Nat} (r:Vals xs its) (hz:xs.length≤sizeLine) (e:s'.heap.get? p=some { cls:= .type "list",data:= .seq its.toArray n }):
  Inv X pins σ (upd H' p (.lst xs)) s':=by
 have np0:H p=none:=I.hok.fresh hp;have u:=I'.base;have ne: ∀b o,s.heap.get? b=some o→b≠p:=fun b o q z=>by
  have:=lt_size q
  rw [z] at this;exact absurd (Nat.lt_of_lt_of_le this hp) (Nat.lt_irrefl _)
 refine I.call' (ch:=fp) I'.os ⟨u.keep,u.slot,fun b o q h1 h2=>?_,u.there,fun b ys q=>?_,fun b o w' q=>?_,fun b ps q=>?_⟩ (fun a o q=>?_) I'.bare fun b hb=>?_
 ·rw [a9 (ne b o q)]
  exact u.free b o q h1 h2
 ·rw [a9 (bf q np0)]
  exact u.tups b ys q
 ·rw [a9 (bf q np0)]
  exact u.frzs b o w' q
 ·rw [a9 (bf q np0)]
  exact u.tbls b ps q
 ·by_cases ha:a=p
  ·subst ha
   rw [bd] at q;cases q;exact ⟨hz,its,n,r,e⟩
  ·rw [a9 ha] at q
   refine (I'.hok a o q).stay (fun b w' _ h=>h) (fun b h=>?_) fun b ys h=>?_
   ·rw [a9 (bf h np)]
    exact h
   ·rw [a9 (bf h np)]
    exact h
 ·obtain ⟨f0,f1,f2,f3,f4,f5⟩:=hf b hb
  exact ⟨f3,f1,f4,f5⟩
end
def tXG (K:Frag) (g:D→Ren→Option Ren):TG:=fun v σ H Q=>∃ρ d ρ',Ro K H σ ρ∧Is K H v d∧g d ρ=some ρ'∧ ∀σ' H',Same H H'→Ro K H' σ' ρ'→Q σ' H'
abbrev XG' (X:Cx) (tg:Expr) (g:D→Ren→Option Ren):Prop:=PG X tg (tXG X.K g)
structure XG (X:Cx) (tg:Expr) (g:D→Ren→Option Ren):Prop where
 ok:XG' X tg g
theorem Rj {X:Cx} {e:Expr} {t t':TG} (h:PG X e t) (i: ∀v σ H Q,t' v σ H Q→t v σ H Q):PG X e t':=fun pins s σ H v u Q I r q=>h pins s σ H v u Q I r (i v σ H Q q)
@[simp] noncomputable def gSet (i:Nat):D→Ren→Option Ren:=fun d ρ=>some (ρ.set i (some d))
@[simp] noncomputable def gSet2 (i j:Nat):D→Ren→Option Ren:=fun d ρ=>match d with
 | .tuple [a,b]=>some ((ρ.set i (some a)).set j (some b))
 | _=>none
theorem gh {X:Cx} {i:Nat} {x:Str} {pos:Pos} (hN:X.N.Nodup) (hi:X.N[i]?=some x) (hx:Loc X.env.scope x) (hf:X.fn x=true∨X.env.scope.names.lookup x=some .local:=by trivial):XG X (.Name x pos) (gSet i):=⟨Rj (jk hN hi hx hf) fun v σ H Q h0=>by
  obtain ⟨ρ,d,ρ',ro,is,e,q⟩:=h0;cases e;exact q _ H (Same.refl H) (ro.set i is)⟩
theorem Dx {X:Cx} {a b:Expr} {i j k:Nat} {pos:Pos} (hc:X.calm=true) (ha:PG X a (gName i)) (hb:PG X b (gName j)) (hn:(assignEach [a,b] X.env).length=2:=by rfl) (hst:(assignEach [a,b] X.env).findIdx? (·.1)=none:=by rfl)
  (h1:(assignEach [a,b] X.env).map (·.2)=assign a X.env::(assignEach [b] X.env).map (·.2):=by rfl) (h2:(assignEach [b] X.env).map (·.2)=assign b X.env::(assignEach [] X.env).map (·.2):=by rfl):XG X (.Tuple [a,b] k pos) (gSet2 i j):=⟨Rj (Mt hc (wr ha (wr hb Hi h2) h1) hn hst) fun v σ H Q h0=>by
  obtain ⟨ρ,d,ρ',ro,is,e,q⟩:=h0;unfold gSet2 at e;split at e
  ·cases e
   cases is with
   | tup h1 h2=>
    cases h2 with
    | cons i1 h2=>
     cases h2 with
     | cons i2 h2=>
      cases h2;exact ⟨_,_,rfl,h1,rfl,_,_,rfl,_,_,rfl,rfl,q _ H (Same.refl H) ((ro.set i i1).set j i2)⟩
  ·cases e⟩
def Tst' (X:Cx) (ifs:List Expr) (ts:Ren→Option Bool):Prop:=
 ∀ (pins:List (Addr×Obj)) (s:Shared) (σ:L2.St) (H:Hp) (Q:Bool→Hp→Prop),Inv X pins σ H s→tXT X.K ts σ H Q→
  wpAny (model X.prog X.w) X.A (forIn ifs true fun c r=>if r=true then do let ok ←isTrue c X.env (eval c X.env);pure (ForInStep.yield ok) else pure (ForInStep.yield r)) (TP X pins σ Q) X.xe s
structure Tst (X:Cx) (ifs:List Expr) (ts:Ren→Option Bool):Prop where
 ok:Tst' X ifs ts
theorem nj {X:Cx}:Tst X [] (fun _=>some true):=⟨fun pins s σ H Q I h0=>by
 obtain ⟨ρ,b,ro,e,q⟩:=h0;cases e;exact wpAny_tests_nil ⟨H,I,q H (Same.refl H)⟩⟩
theorem xg {X:Cx} {c:Expr} {ts:Ren→Option Bool} (h:XT X c ts):Tst X [c] ts:=by obtain ⟨h⟩:=h;exact ⟨fun pins s σ H Q I q=>wpAny_tests_one (h pins s σ H Q I q)⟩
def Yields (K:Frag) (J:It) (H:Hp) (ds:List D):Prop:=
 ∀ (i:Nat) (H1:Hp),Same H H1→(∀d,ds[i]?=some d→J.go i H1∧ ∀x H2,J.yld i H1 x H2→Same H1 H2∧Is K H2 x d)∧(ds.length≤i→J.stop i H1)
def tXI (K:Frag) (mi:Ren→Option (List D)):TI:=fun σ H R=>∃ρ ds,Ro K H σ ρ∧mi ρ=some ds∧ ∀J H',Same H H'→Yields K J H' ds→R J H'
abbrev XI' (X:Cx) (tg iter:Expr) (mi:Ren→Option (List D)):Prop:=PI X tg iter (tXI X.K mi)
structure XI (X:Cx) (tg iter:Expr) (mi:Ren→Option (List D)):Prop where
 ok:XI' X tg iter mi
theorem Oa {X:Cx} {tg e:Expr} {t t':TI} (h:PI X tg e t) (i: ∀σ H R,t' σ H R→t σ H R):PI X tg e t':=fun pins s σ H R I q=>h pins s σ H R I (i σ H R q)
@[simp] noncomputable def listItems:D→Option (List D)
 | .list xs=>some xs
 | .dict [(.none,.list xs)]=>some xs
 | _=>none
noncomputable def itemsOf (f:D→Option (List D)) (m:Ren→Option D):Ren→Option (List D):=fun ρ=>(m ρ).bind f
theorem yx {d:D} {xs:List D} (e:listItems d=some xs):d= .list xs∨d= .dict [(.none,.list xs)]:=by
 unfold listItems at e;split at e
 ·cases e;exact .inl rfl
 ·cases e;exact .inr rfl
 ·cases e
theorem lq {X:Cx} {tg l:Expr} {m:Ren→Option D} (h:XE X l m):XI X tg l (itemsOf listItems m):=by obtain ⟨h⟩:=h;exact ⟨Oa (Nu h) fun σ H R h0=>by
 obtain ⟨ρ,ds,ro,e,q⟩:=h0;obtain ⟨d,hd,e⟩:=bind_some e;refine ⟨ρ,d,ro,hd,fun v H1 s1 i1=>?_⟩;have z: ∃a xs,v= .ref a∧SqL X.K H1 a xs∧Are X.K H1 xs ds:=by
  rcases yx e with rfl | rfl
  ·cases i1 with
   | lst h1 h2=>exact ⟨_,_,rfl,.inl h1,h2⟩
  ·cases i1 with
   | scr h1 h2=>exact ⟨_,_,rfl,h1,h2⟩
 obtain ⟨a,xs,rfl,h1,h2⟩:=z;refine ⟨a,rfl,⟨xs,h1⟩,q _ H1 s1 fun i H2 s2=>⟨fun d hd=>?_,fun hl=>⟨xs,s2.seq h1,by rw [h2.length];exact hl⟩⟩⟩;obtain ⟨x,hx,ix⟩:=h2.get hd;refine ⟨⟨xs,x,s2.seq h1,hx⟩,fun y H3 hy=>?_⟩;obtain ⟨rfl,hy⟩:=hy
 have:=hy xs (s2.seq h1)
 rw [hx] at this;cases this;exact ⟨Same.refl _,ix.up s2⟩⟩
@[simp] noncomputable def tupItems:D→Option (List D)
 | .tuple xs=>some xs
 | _=>none
theorem Rk {X:Cx} {tg l:Expr} {m:Ren→Option D} (h:XE X l m):XI X tg l (itemsOf tupItems m):=by obtain ⟨h⟩:=h;exact ⟨Oa (Qy h) fun σ H R h0=>by
 obtain ⟨ρ,ds,ro,e,q⟩:=h0;obtain ⟨d,hd,e⟩:=bind_some e;refine ⟨ρ,d,ro,hd,fun v H1 s1 i1=>?_⟩;have z:d= .tuple ds:=by
  unfold tupItems at e;split at e
  ·cases e;rfl
  ·cases e
 subst z;cases i1 with
 | @tup a xs _ h1 h2=>
  refine ⟨a,rfl,⟨xs,h1⟩,q _ H1 s1 fun i H2 s2=>⟨fun d hd=>?_,fun hl=>⟨xs,vp s2 h1,by rw [h2.length];exact hl⟩⟩⟩;obtain ⟨x,hx,ix⟩:=h2.get hd;refine ⟨⟨xs,x,vp s2 h1,hx⟩,fun y H3 hy=>?_⟩;obtain ⟨rfl,hy⟩:=hy
  have:=hy xs (vp s2 h1)
  rw [hx] at this;cases this;exact ⟨Same.refl _,ix.up s2⟩⟩
@[simp] noncomputable def rngItems1:List D→Option (List D)
 | [.int j]=>if -1000000≤j∧j≤1000000 then some ((List.range j.toNat).map fun (i:Nat)=> .int (0+(i:Int))) else none
 | _=>none
noncomputable def rngOf (f:List D→Option (List D)) (m:Ren→Option (List D)):Ren→Option (List D):=fun ρ=>(m ρ).bind f
theorem Gq (K:Frag) (H:Hp) (lo:Int) (n:Nat):Yields K (Itr lo n) H ((List.range n).map fun (i:Nat)=> .int (lo+(i:Int))):=fun i H1 s1=>by
 refine ⟨fun d hd=>?_,fun hl=>?_⟩
 ·rw [getElem?_map] at hd
  obtain ⟨j,hj,rfl⟩:=map_some hd;obtain ⟨hl,he⟩:=List.getElem?_eq_some_iff.mp hj;rw [List.length_range] at hl;rw [List.getElem_range] at he;subst he;exact ⟨hl,fun x H2 hx=>by obtain ⟨rfl,rfl⟩:=hx;exact ⟨Same.refl _,.int _⟩⟩
 ·rw [length_map,List.length_range] at hl
  exact hl
theorem kr {X:Cx} {tg a:Expr} {p pos:Pos} {m:Ren→Option (List D)} (hg:Gl X "range") (hm:X.mg "range"=none) (ha:XA X [a] m) (hs:starEach [a] X.env=[(false,eval a X.env)]:=by rfl):XI X tg (.Call (.Name "range" p) [a] [] pos) (rngOf rngItems1 m):=by obtain ⟨ha⟩:=ha;exact ⟨Oa (Hk hg hm ha hs) fun σ H R h0=>by
  obtain ⟨ρ,ds,ro,e,q⟩:=h0;obtain ⟨as,has,e⟩:=bind_some e;refine ⟨ρ,as,ro,has,fun vs H1 s1 i1=>?_⟩;unfold rngItems1 at e;split at e
  ·split at e
   ·rename_i j hj
    cases e;cases i1 with
    | cons x t=>
     cases t;cases x;exact ⟨j,rfl,by omega,by omega,q _ H1 s1 (Gq _ _ _ _)⟩
   ·cases e
  ·cases e⟩
noncomputable def turnOf (g:D→Ren→Option Ren) (ts:Ren→Option Bool) (me:Ren→Option D) (ρ:Ren) (x:D):Option (Option D):=(g x ρ).bind fun ρ1=>(ts ρ1).bind fun b=>if b=true then (me ρ1).map some else some none
noncomputable def compL (f:D→Option (Option D)):List D→Option (List D)
 | []=>some []
 | x::xs=>(f x).bind fun o=>(compL f xs).map fun r=>match o with
  | none=>r
  | some d=>d::r
noncomputable def compOf (fr:List (Option Nat)) (mi:Ren→Option (List D)) (g:D→Ren→Option Ren) (ts:Ren→Option Bool) (me:Ren→Option D):Ren→Option (List D):=fun ρ=>
 (mi ρ).bind fun items=>if items.length≤lim then compL (turnOf g ts me (capS fr ρ)) items else none
theorem Ig {prog:Program} {w:World} {A:Around} {R:Result→Shared→Prop} {s:Shared} {elt target iter:Expr} {ifs:List Expr} {scope:Scope} {pos:Pos} {it acc:Value} {env:Env} (J:Nat→Shared→Prop)
  (turn: ∀n s,J n s→wpAny (model prog w) A (pyNext it) (fun r s₁=>match r with
   | none=>R (.ok .next) s₁
   | some v=>wpAny (model prog w) A (letOwnedTupleGo target it v) (fun _ s₂=>wpAny (model prog w) A (assign target env v) (fun _ s₃=>
     wpAny (model prog w) A (forIn ifs true fun c r=>if r=true then do let ok ←isTrue c env (eval c env);pure (ForInStep.yield ok) else pure (ForInStep.yield r)) (fun ok s₄=>
      if ok=true then wpAny (model prog w) A (eval elt env) (fun x s₅=>wpAny (model prog w) A (call (.builtin "list.append") [acc,x]) (fun _ s₆=>∃m,m < n∧J m s₆) (fun _ _=>False) s₅) (fun _ _=>False) s₄
      else ∃m,m < n∧J m s₄) (fun _ _=>False) s₃) (fun _ _=>False) s₂) (fun _ _=>False) s₁) (fun _ _=>False) s)
  (n:Nat) (h:J n s):codeAny (model prog w) A (.compLoop (.ListComp elt [⟨target,iter,ifs,0⟩] scope pos) 0 it acc env) R s:=by
 refine codeAny_loop rfl J (fun n s hJ=>?_) n h
 show wpAny _ A ((compTurn (.ListComp elt [⟨target,iter,ifs,0⟩] scope pos) 0 it acc env).onRaise (fun x=>do noteFrame x env;theTreesLotGoes x)) _ _ s
 refine wpAny_noted ?_;rw [compTurn_list];refine wpAny_bind (wpAny_standAt (wpAny_bind (wpAny_mono (turn n s hJ) (fun r s₁ h₁=>?_) fun _ _ f=>f.elim)));cases r with
 | none=>exact wpAny_pure h₁
 | some v=>
  refine wpAny_bind (wpAny_mono h₁ (fun _ s₂ h₂=>?_) fun _ _ f=>f.elim);refine wpAny_bind (wpAny_mono h₂ (fun _ s₃ h₃=>wpAny_bind (wpAny_mono h₃ (fun ok s₄ h₄=>?_) fun _ _ f=>f.elim)) fun _ _ f=>f.elim);cases ok with
  | false=>exact wpAny_pure ⟨rfl,h₄⟩
  | true=>exact wpAny_bind (wpAny_bind (wpAny_mono h₄ (fun x s₅ h₅=>wpAny_bind (wpAny_mono h₅ (fun _ s₆ h₆=>wpAny_pure (wpAny_pure ⟨rfl,h₆⟩)) fun _ _ f=>f.elim)) fun _ _ f=>f.elim))
theorem Dy {f:D→Option (Option D)} {items:List D} {i:Nat} {d:D} {r:List D} (hd:items[i]?=some d) (h:compL f (items.drop i)=some r):
  ∃o r',f d=some o∧compL f (items.drop (i+1))=some r'∧r=(match o with | none=>r' | some c=>c::r'):=by
 have e:items.drop i=d::items.drop (i+1):=by
  obtain ⟨hl,he⟩:=List.getElem?_eq_some_iff.mp hd;rw [List.drop_eq_getElem_cons hl,he]
 rw [e] at h;obtain ⟨o,h1,h2⟩:=bind_some h;obtain ⟨r',h3,h4⟩:=map_some h2;exact ⟨o,r',h1,h3,by rw [←h4];cases o <;> rfl⟩
def Keeps (g:D→Ren→Option Ren) (fr:List (Option Nat)):Prop:= ∀ (ρ:Ren) (d:D) (ρ1:Ren),g d (capS fr ρ)=some ρ1→ρ1.length=(capS fr ρ).length∧ ∀ (i:Nat) (c:D),(capS fr ρ)[i]?=some (some c)→ρ1[i]?=some (some c)
theorem Ro.fewer {K:Frag} {H:Hp} {σ:L2.St} {ρ ρ1:Ren} (ro:Ro K H σ ρ1) (hl:ρ1.length=ρ.length) (h: ∀ (i:Nat) (c:D),ρ[i]?=some (some c)→ρ1[i]?=some (some c)):Ro K H σ ρ:=⟨ro.len.trans hl,fun i d e=>ro.at_ i d (h i d e)⟩
section
variable {X:Cx} {scope:Scope} {cl:List (Str×Addr)} {NB:List Str} {fr:List (Option Nat)} {tg iter elt:Expr} {ifs:List Expr} {pos p1:Pos} {mi:Ren→Option (List D)} {g:D→Ren→Option Ren} {ts:Ren→Option Bool} {me:Ren→Option D}
def tXR (K:Frag) (AR:Hp→List V→List D→Prop) (me:Ren→Option D):TE:=fun σ H Q=>∃ρ d xs ds,Ro K H σ ρ∧me ρ=some d∧AR H xs ds∧ ∀v H',Same H H'→AR H' (xs++[v]) (ds++[d])→Q v H'
theorem Rl {X:Cx} {e:Expr} {me:Ren→Option D} (h:XE' X e me):PE X e (tXR X.K (Are X.K) me):=ff h fun σ H Q ⟨ρ,d,xs,ds,ro,q,a,k⟩=>⟨ρ,d,ro,q,fun v H' s i=>k v H' s ((a.up s).append (.cons i .nil))⟩
theorem Ch (hc:X.calm=true) (c:Clo X scope cl NB fr) (hi:XI' X tg iter mi) (kg:Keeps g fr)
  (hg: ∀s₀ H₀ C fp pn,XG' (blk X NB scope cl s₀ H₀ C fp pn) tg g) (ht: ∀s₀ H₀ C fp pn,Tst' (blk X NB scope cl s₀ H₀ C fp pn) ifs ts) {AR:Hp→List V→List D→Prop} (he: ∀s₀ H₀ C fp pn,PE (blk X NB scope cl s₀ H₀ C fp pn) elt (tXR X.K AR me))
  {pins:List (Addr×Obj)} {s:Shared} {σ:L2.St} {H:Hp} {ρ:Ren} {ds:List D} (I:Inv X pins σ H s) (ro:Ro X.K H σ ρ) (ar0: ∀H',Same H H'→AR H' [] []) (arU: ∀H1 H2 xs ds,Same H1 H2→AR H1 xs ds→AR H2 xs ds) (hm:compOf fr mi g ts me ρ=some ds) {use:Option (Value→Sem Unit)} {Q:Value→Shared→Prop}
  (fin: ∀ (p C:Addr) (xs:List V) (H':Hp) (s':Shared),Same H H'→H p=none→H' p=none→AR H' xs ds→Inv X pins σ (upd H' p (.lst xs)) s'→FpOk X pins (upd H' p (.lst xs)) C→(∃m,s'.heap.Ns C m)→
   compPost (model X.prog X.w) X.A X.xe use Q (.ref p) C (.ok .next) s') (hs: ∀x,foldedSetIterable iter X.env x=pure x):
  wpAny (model X.prog X.w) X.A (comprehension (.ListComp elt [⟨tg,iter,ifs,0⟩] scope pos) scope X.env p1 (newList []) false (eval iter X.env) use) Q X.xe s:=by
 obtain ⟨items,hi1,hm⟩:=bind_some hm;split at hm
 case isFalse=>cases hm
 rename_i hlim;refine wpAny_comprehension_free (use:=use) rfl hs c.clos c.kind c.names ?_;refine thn (hi pins s σ H (fun J H'=>Same H H'∧Yields X.K J H' items) I ⟨ρ,items,ro,hi1,fun J H' a b=>⟨a,b⟩⟩) fun v s1 h1=>thn h1 fun itv s2 h2=>?_
 obtain ⟨it,fp,tn,J,H2,rfl,I2,T,st2,f2,sm2,y2⟩:=h2;refine wpAny_newObj_type (wpAny_newFunctionEnv c.cell (by intro y hy;simp at hy) (fun h₁ hns₁ hsb₁=>?_) c.kind);dsimp only at hns₁ hsb₁ ⊢;generalize hH2:s2.heap.push { cls:= .type "list",dict:=none,data:= .seq ([]:List Value).toArray }=HH at hns₁ hsb₁ ⊢;have hC:HH.objs.size=s2.heap.objs.size+1:=by rw [←hH2,Heap.size_push]
 have kp: ∀b o,s2.heap.get? b=some o→h₁.get? b=some o:=fun b o e=>by
  exact hsb₁.extBut b o (Nat.ne_of_lt (by rw [hC];exact Nat.lt_succ_of_lt (lt_size e))) (get?_push_of_some _ (hH2▸get?_push_of_some _ e))
 have hacc:h₁.get? s2.heap.objs.size=some { cls:= .type "list",data:= .seq ([]:List Value).toArray }:=hsb₁.extBut _ _ (Nat.ne_of_lt (by rw [hC];exact Nat.lt_succ_self _)) (get?_push_of_some _ (hH2▸Heap.get?_push_size _ rfl));have hlt: ∀b∈fp,b < s2.heap.objs.size:=fun b hb=>by
  obtain ⟨o,e,_⟩:=T.obj 0 _ st2 b hb;exact lt_size e
 have hCle:s2.heap.objs.size≤HH.objs.size:=by rw [hC];exact Nat.le_succ _
 have hp0:H2 s2.heap.objs.size=none:=I2.hok.fresh (Nat.le_refl _);have IB:=Ie (t':=s2.toks+([]:List (Str×Value)).length) I2 c (fun b hb=>⟨f2 b hb,hlt b hb⟩) hCle hns₁ kp;have notStack: ∀ {b:Addr},b≠X.env.locals→b ∉ X.fs→b ∉ frs X.stack:=fun h1 h2 z=>by
  rcases List.mem_cons.mp (I2.stkSub _ z) with h | h
  ·exact h1 h
  ·exact h2 h
 have fp0:=I2.fpOk (H':=H2) (Nat.le_refl _) hp0;have IB':=IB.pins_of (pins':=[(s2.heap.objs.size,({ cls:= .type "list",data:= .seq ([]:List Value).toArray }:Obj))]) fun q hq=>by
  have e:q=_:=List.mem_singleton.mp hq;subst e;exact ⟨hacc,hp0,Nat.ne_of_lt (show s2.heap.objs.size < HH.objs.size by rw [hC];exact Nat.lt_succ_self _),notStack fp0.2.1 fp0.2.2.1,fun v z=>nomatch z⟩
 have fk: ∀ {H':Hp} {o:Obj},(∀b∈fp,H' b=none)→ ∀b∈fp,FpOk (blk X NB scope cl s2 H2 HH.objs.size fp (X.pn++pins)) [(s2.heap.objs.size,o)] H' b:=fun {H' o} hn b hb=>by
  obtain ⟨g0,g1,g2,g3,g4,g5⟩:=f2 b hb;refine ⟨hn b hb,Nat.ne_of_lt (Nat.lt_of_lt_of_le (hlt b hb) hCle),notStack g1 g2,.inl hb,fun x a h=>g4 x a (c.cells h),fun q hq=>?_⟩;rcases List.mem_append.mp hq with hq | hq
  ·exact g5 q hq
  ·have e:q=_:=List.mem_singleton.mp hq
   subst e;exact Nat.ne_of_gt (hlt b hb)
 have lp: ∀s3:Shared,s3={ s2 with heap:=h₁,toks:=s2.toks+([]:List (Str×Value)).length }→codeAny (model X.prog X.w) X.A (.compLoop (.ListComp elt [⟨tg,iter,ifs,0⟩] scope pos) 0 (.ref it) (.ref s2.heap.objs.size) (compEnvC scope cl HH.objs.size X.env))
   (compPost (model X.prog X.w) X.A X.xe use Q (.ref s2.heap.objs.size) HH.objs.size) s3:=by
  rintro s3 rfl
  refine Ig (fun n s'=>∃ (i:Nat) (σ':L2.St) (xs:List V) (its:List Value) (k:Nat) (d1 d2:List D) (H':Hp),n=items.length - i∧
   Inv (blk X NB scope cl s2 H2 HH.objs.size fp (X.pn++pins)) [(s2.heap.objs.size,{ cls:= .type "list",data:= .seq its.toArray k })] σ' H' s'∧tn i s'.heap∧(∀b∈fp,H' b=none)∧Same H2 H'∧Ro X.K H' σ' (capS fr ρ)∧
   Vals xs its∧AR H' xs d1∧compL (turnOf g ts me (capS fr ρ)) (items.drop i)=some d2∧ds=d1++d2∧xs.length≤i∧i≤items.length) ?_ items.length
   ⟨0,_,[],[],0,[],ds,H2,rfl,IB',T.keep _ _ _ st2 (fun b _ o e=>kp b o e),fun b hb=>(f2 b hb).1,Same.refl _,(ro.up sm2).cap fr,.nil,ar0 H2 sm2,hm,rfl,Nat.le_refl _,Nat.zero_le _⟩
  rintro n s3 ⟨i,σ3,xs,its,k,d1,d2,H3,rfl,I3,st3,fr3,sm3,ro3,vs3,ar3,eq3,hds,hl3,hi3⟩
  have hxs:xs.length≤sizeLine:=gw (Nat.le_trans hl3 (Nat.le_trans hi3 hlim));cases hd:items[i]? with
  | none=>
   have hle:items.length≤i:=List.getElem?_eq_none_iff.mp hd;refine thn (T.done (blk X NB scope cl s2 H2 HH.objs.size fp (X.pn++pins)) rfl rfl rfl hc i _ s3 σ3 H3 (fun _ _=>False) I3 (fk fr3) st3 ((y2 i H3 sm3).2 hle)) fun r s4 h0z=>?_
   obtain ⟨hr,I4⟩:=h0z;subst hr;have e2:d2=[]:=by
    rw [List.drop_of_length_le hle] at eq3;cases eq3;rfl
   subst e2;rw [append_nil] at hds;subst hds;obtain ⟨e4,n4,_⟩:=I4.pin _ (mem_append_right _ (List.mem_singleton.mpr rfl));refine fin _ HH.objs.size xs H3 s4 (sm2.trans sm3) (sm2.free hp0) n4 ar3 (N9 I2 f2 I4 (Nat.le_refl _) n4 vs3 hxs e4) (I2.fpOk hCle ?_) ?_
   ·rw [a9 (Nat.ne_of_gt (show s2.heap.objs.size < HH.objs.size by rw [hC];exact Nat.lt_succ_self _))]
    exact I4.free
   ·obtain ⟨m,hm4,_⟩:=I4.loc
    exact ⟨m,hm4⟩
  | some d=>
   have hil:i < items.length:=(List.getElem?_eq_some_iff.mp hd).1;obtain ⟨go,yl⟩:=(y2 i H3 sm3).1 d hd;obtain ⟨o,d2',hf,hr2,hd2⟩:=Dy hd eq3;obtain ⟨ρ1,hg1,hf⟩:=bind_some hf;obtain ⟨b,hb1,hf⟩:=bind_some hf;refine thn (T.item (blk X NB scope cl s2 H2 HH.objs.size fp (X.pn++pins)) rfl rfl rfl hc i _ s3 σ3 H3 (fun _ _=>False) I3 (fk fr3) st3 go) fun r s4 h0z=>?_
   obtain ⟨u,hr,h4⟩:=h0z;subst hr;refine thn h4 fun _ s5 h0z=>?_
   obtain ⟨x,H5,I5,r5,y5,st5,fr5⟩:=h0z;obtain ⟨sm5,is5⟩:=yl x H5 y5;have I5':=I5.pinned (fk fr5) (T.obj _ _ st5);refine thn (hg _ _ _ _ _ _ s5 σ3 H5 x u (fun σ' H'=>Same H5 H'∧Ro X.K H' σ' ρ1) I5' r5 ⟨capS fr ρ,d,ρ1,ro3.up sm5,is5,hg1,fun σ' H' a b=>⟨a,b⟩⟩) fun _ s6 h0z=>?_
   obtain ⟨σ6,H6,I6,sm6,ro6⟩:=h0z;refine thn (ht _ _ _ _ _ _ s6 σ6 H6 (fun b' H'=>b'=b∧Same H6 H') I6 ⟨ρ1,b,ro6,hb1,fun H' a=>⟨rfl,a⟩⟩) fun ok s7 h0z=>?_
   obtain ⟨H7,I7,hok,sm7⟩:=h0z;subst hok;have kk:=kg ρ d ρ1 hg1;have nextTn: ∀ {H':Hp} {s':Shared} {σ':L2.St} {pl:List (Addr×Obj)},Inv (blk X NB scope cl s2 H2 HH.objs.size fp (X.pn++pins)) (pl++pinsAt fp s5.heap) σ' H' s'→tn (i+1) s'.heap∧ ∀b∈fp,H' b=none:=fun {H' s' σ' pl} I'=>
    ⟨T.keep _ _ _ st5 fun b hb o e=>(I'.pin (b,o) (mem_append_right _ (mem_append_right _ (gp hb e)))).1,fun b hb=>by
     obtain ⟨o,e,_⟩:=T.obj _ _ st5 b hb;exact (I'.pin (b,o) (mem_append_right _ (mem_append_right _ (gp hb e)))).2.1⟩
   cases ok with
   | false=>
    have e2:o=none:=by
     rw [if_neg Bool.false_ne_true] at hf;cases hf;rfl
    subst e2;have e2:d2=d2':=hd2;subst e2;obtain ⟨t7,f7⟩:=nextTn I7;rw [if_neg Bool.false_ne_true];exact ⟨items.length - (i+1),by omega,i+1,σ6,xs,its,k,d1,d2,H7,rfl,I7.unpinned,t7,f7,sm3.trans (sm5.trans (sm6.trans sm7)),(ro6.up sm7).fewer kk.1 kk.2,vs3,arU _ _ _ _ (sm5.trans (sm6.trans sm7)) ar3,hr2,hds,by omega,by omega⟩
   | true=>
    rw [if_pos rfl] at hf ⊢;obtain ⟨y,hy,e2⟩:=map_some hf;subst e2;have e2:d2=y::d2':=hd2;subst e2;refine thn (he _ _ _ _ _ _ s7 σ6 H7 (fun v H'=>Same H7 H'∧AR H' (xs++[v]) (d1++[y])) I7 ⟨ρ1,y,xs,d1,ro6.up sm7,hy,arU _ _ _ _ (sm5.trans (sm6.trans sm7)) ar3,fun v H' a b=>⟨a,b⟩⟩) fun x8 s8 h0z=>?_
    obtain ⟨v8,H8,I8,r8,sm8,is8⟩:=h0z;obtain ⟨e8,n8,l8,fs8,_⟩:=I8.pin _ (mem_append_right _ (mem_append_left _ (List.mem_singleton.mpr rfl)));obtain ⟨t8,f8⟩:=nextTn I8;have hits:its.length≤sizeLine:=by rw [←vs3.length];exact hxs
    refine call_meets F.slot_list_append ⟨_,e8,rfl⟩ F.entry_list_append (F.args_list_append_2 _ _) (PySem.list_append _ its.toArray k x8 (by rw [size_toArray];exact hits)) ⟨e8,?_⟩;have q9:=PySem.IsL.update e8 (fun z=>z.push x8);rw [show its.toArray.push x8=(its++[x8]).toArray by simp] at q9;have I8':=I8.pins_of (pins':=pinsAt fp s5.heap) fun q hq=>I8.pin q (mem_append_right _ (mem_append_right _ hq))
    have I9:=I8'.turned (t':=s8.toks) (h':=s8.heap.update s2.heap.objs.size (Obj.mapSeq fun z=>z.push x8)) (it:=s2.heap.objs.size) (fun b o hb e=>(Heap.get?_update_other _ _ (Ne.symm hb)).trans e) n8 l8 (.inr (Nat.le_refl _))
     (fun x a h=>fp0.2.2.2.2.1 x a (c.cells h)) fun q hq=>by
      rcases List.mem_append.mp hq with hq | hq
      ·exact fp0.2.2.2.2.2 q hq
      ·exact Nat.ne_of_lt (hlt _ (wy hq).1)
    obtain ⟨t9,f9⟩:=nextTn (pl:=[]) I9;have I10:=I9.pins_of (pins':=[(s2.heap.objs.size,({ cls:= .type "list",data:= .seq (its++[x8]).toArray (if ((its++[x8]).toArray.size==its.toArray.size)=true then k else k+1) }:Obj))]) fun q hq=>by
     have e:q=_:=List.mem_singleton.mp hq;subst e;exact ⟨q9,n8,l8,fs8,fun v z=>nomatch z⟩
    have smA:=sm5.trans (sm6.trans (sm7.trans sm8));exact ⟨items.length - (i+1),by omega,i+1,σ6,xs++[v8],its++[x8],_,d1++[y],d2',H8,rfl,I10,t9,f9,sm3.trans smA,(ro6.up (sm7.trans sm8)).fewer kk.1 kk.2,vs3.append (.cons r8 .nil),is8,hr2,
     by rw [hds,append_assoc];rfl,by rw [length_append,length_singleton];omega,by omega⟩
 exact codeAny_compStart_list (lp _ rfl) (T.self X.A 0 _ _ _ (T.keep _ _ _ st2 fun b _ o e=>kp b o e) (lp _ rfl))
def tComp (K:Frag) (m:Ren→Option (List D)):TE:=fun σ H Q=>∃ρ ds,Ro K H σ ρ∧m ρ=some ds∧ ∀p xs H',Same H H'→H p=none→H' p=none→Are K H' xs ds→Q (.ref p) (upd H' p (.lst xs))
theorem Ob (hc:X.calm=true) (c:Clo X scope cl NB fr) (hi:XI' X tg iter mi) (kg:Keeps g fr)
  (hg: ∀s₀ H₀ C fp pn,XG' (blk X NB scope cl s₀ H₀ C fp pn) tg g) (ht: ∀s₀ H₀ C fp pn,Tst' (blk X NB scope cl s₀ H₀ C fp pn) ifs ts) (he: ∀s₀ H₀ C fp pn,XE' (blk X NB scope cl s₀ H₀ C fp pn) elt me)
  (hs: ∀x,foldedSetIterable iter X.env x=pure x:=by intro _;rfl):PE X (.ListComp elt [⟨tg,iter,ifs,0⟩] scope pos) (tComp X.K (compOf fr mi g ts me)):=fun pins s σ H Q I h0=>by
 obtain ⟨ρ,ds,ro,hm,q⟩:=h0;rw [eval_ListComp];refine Ch (AR:=Are X.K) (use:=none) hc c hi kg hg ht (fun s₀ H₀ C fp pn=>Rl (he s₀ H₀ C fp pn)) I ro (fun _ _=> .nil) (fun _ _ _ _ s a=>a.up s) hm (fun p C xs H' s' s1 n1 n2 a I' f m=>?_) hs;obtain ⟨m,hm'⟩:=m;refine ⟨m,hm',fun h' sb=>⟨.ref p,upd H' p (.lst xs),?_,rfl,q p xs H' s1 n1 n2 a⟩⟩;obtain ⟨f0,f1,f2,f3,f4,f5⟩:=f;exact I'.turned (t':=s'.toks) (fun b o hb e=>(sb.2 b hb).trans e) f0 f1 f3 f4 f5
theorem lr (hc:X.calm=true) (c:Clo X scope cl NB fr) (hi:XI X tg iter mi) (kg:Keeps g fr)
  (hg: ∀s₀ H₀ C fp pn,XG (blk X NB scope cl s₀ H₀ C fp pn) tg g) (ht: ∀s₀ H₀ C fp pn,Tst (blk X NB scope cl s₀ H₀ C fp pn) ifs ts) (he: ∀s₀ H₀ C fp pn,XE (blk X NB scope cl s₀ H₀ C fp pn) elt me)
  (hs: ∀x,foldedSetIterable iter X.env x=pure x:=by intro _;rfl):XE X (.ListComp elt [⟨tg,iter,ifs,0⟩] scope pos) (fun ρ=>(compOf fr mi g ts me ρ).map .list):=by obtain ⟨hi⟩:=hi;have hg:=fun z0 z1 z2 z3 z4=>(hg z0 z1 z2 z3 z4).ok;have ht:=fun z0 z1 z2 z3 z4=>(ht z0 z1 z2 z3 z4).ok;have he:=fun z0 z1 z2 z3 z4=>(he z0 z1 z2 z3 z4).ok;exact ⟨ff (Ob hc c hi kg hg ht he hs) fun σ H Q h0=>by
  obtain ⟨ρ,d,ro,e,k⟩:=h0;obtain ⟨ds,hd,e⟩:=map_some e;subst e;exact ⟨ρ,ds,ro,hd,fun p xs H' s1 n1 n2 a=>k _ _ (s1.trans (fb n2)) (Is.newL n2 a)⟩⟩
def tCompR (i:Nat) (K:Frag) (m:Ren→Option (List D)) (ok:(Hp→List V→List D→Prop)→Prop):TS:=fun E σ H=>∃ρ ds AR,Ro K H σ ρ∧m ρ=some ds∧(∀H',Same H H'→AR H' [] [])∧(∀H1 H2 xs ds,Same H1 H2→AR H1 xs ds→AR H2 xs ds)∧ok AR∧
 ∀p xs H',Same H H'→H p=none→H' p=none→AR H' xs ds→E.nx (σ.set i (some (.ref p))) (upd H' p (.lst xs))
theorem Le {i:Nat} {x:Str} {pos' spos:Pos} (hN:X.N.Nodup) (hx:X.N[i]?=some x) (hl:Loc X.env.scope x) (hc:X.calm=true) (c:Clo X scope cl NB fr) (hi:XI' X tg iter mi) (kg:Keeps g fr)
  (hg: ∀s₀ H₀ C fp pn,XG' (blk X NB scope cl s₀ H₀ C fp pn) tg g) (ht: ∀s₀ H₀ C fp pn,Tst' (blk X NB scope cl s₀ H₀ C fp pn) ifs ts)
  (hsw:swapsWith (.ListComp elt [⟨tg,iter,ifs,0⟩] scope pos) (some (.Name x pos')) spos.line X.env=pure true:=by rfl) (hs: ∀x,foldedSetIterable iter X.env x=pure x:=by intro _;rfl)
  (hf:X.fn x=true∨X.env.scope.names.lookup x=some .local:=by trivial):
  PS X (.Assign [.Name x pos'] (.ListComp elt [⟨tg,iter,ifs,0⟩] scope pos) spos) (tCompR i X.K (compOf fr mi g ts me) fun AR=>∀s₀ H₀ C fp pn,PE (blk X NB scope cl s₀ H₀ C fp pn) elt (tXR X.K AR me)):=fun pins s σ H E I h0=>by
 obtain ⟨ρ,ds,AR,ro,hm,ar0,arU,he,q⟩:=h0;rw [exec_Assign_Name_used _ _ _ _ hsw];refine wpAny_bind (wpAny_standAt (wpAny_bind ?_))
 show wpAny _ _ (do let _ ←comprehension (.ListComp elt [⟨tg,iter,ifs,0⟩] scope pos) scope X.env _ (newList []) false (eval iter X.env) (some (assign (.Name x pos') X.env))) _ _ s
 refine wpAny_bind (wpAny_mono (Ch (use:=some (assign (.Name x pos') X.env)) (Q:=fun _ s'=>SP X pins E .next s') hc c hi kg hg ht he I ro ar0 arU hm (fun p C xs H' s' s1 n1 n2 a I' f m=>?_) hs) (fun _ s' hq=>wpAny_pure (wpAny_pure hq)) fun _ _ e=>e);obtain ⟨m,hm'⟩:=m;have hoC: ∃o,s'.heap.get? C=some o∧ ∀v,o.data≠ .cell v:=by
  obtain ⟨o,es,ep,ho,hd,_⟩:=hm';exact ⟨o,ho,fun v z=>by rw [hd] at z;cases z⟩
 have I2:=I'.pinned (fp:=[C]) (fun b hb=>by rw [List.mem_singleton.mp hb];exact f) (fun b hb=>by rw [List.mem_singleton.mp hb];exact hoC)
 show wpAny _ _ (assign (.Name x pos') X.env (.ref p)) _ _ _
 refine wpAny_assign_Name (wq (v:= .ref p) I2 hN hx hl rfl (fun s2 I3=>?_) hf);obtain ⟨f0,f1,f2,f3,f4,f5⟩:=f;refine ⟨m,?_,fun h' sb=>?_⟩
 ·obtain ⟨o,es,ep,ho,r⟩:=hm'
  exact ⟨o,es,ep,(I3.pin (C,o) (mem_append_right _ (mem_append_right _ (gp (List.mem_singleton.mpr rfl) ho)))).1,r⟩
 ·exact ⟨_,_,I3.unpinned.turned (t':=s2.toks) (fun b o hb e=>(sb.2 b hb).trans e) f0 f1 f3 f4 f5,q p xs H' s1 n1 n2 a⟩
theorem Oc {i:Nat} {x:Str} {pos' spos:Pos} (hN:X.N.Nodup) (hx:X.N[i]?=some x) (hl:Loc X.env.scope x) (hc:X.calm=true) (c:Clo X scope cl NB fr) (hi:XI' X tg iter mi) (kg:Keeps g fr)
  (hg: ∀s₀ H₀ C fp pn,XG' (blk X NB scope cl s₀ H₀ C fp pn) tg g) (ht: ∀s₀ H₀ C fp pn,Tst' (blk X NB scope cl s₀ H₀ C fp pn) ifs ts) (he: ∀s₀ H₀ C fp pn,XE' (blk X NB scope cl s₀ H₀ C fp pn) elt me)
  (hsw:swapsWith (.ListComp elt [⟨tg,iter,ifs,0⟩] scope pos) (some (.Name x pos')) spos.line X.env=pure true:=by rfl) (hs: ∀x,foldedSetIterable iter X.env x=pure x:=by intro _;rfl)
  (hf:X.fn x=true∨X.env.scope.names.lookup x=some .local:=by trivial):
  PS X (.Assign [.Name x pos'] (.ListComp elt [⟨tg,iter,ifs,0⟩] scope pos) spos) (tAsg (tComp X.K (compOf fr mi g ts me)) (gName i)):=df (Le hN hx hl hc c hi kg hg ht hsw hs hf) fun E σ H ⟨ρ,ds,ro,hm,q⟩=>
 ⟨ρ,ds,Are X.K,ro,hm,fun _ _=> .nil,fun _ _ _ _ s a=>a.up s,fun s₀ H₀ C fp pn=>Rl (he s₀ H₀ C fp pn),q⟩
theorem A5 {i:Nat} {x:Str} {pos' spos:Pos} (hN:X.N.Nodup) (hx:X.N[i]?=some x) (hl:Loc X.env.scope x) (hc:X.calm=true) (c:Clo X scope cl NB fr) (hi:XI X tg iter mi) (kg:Keeps g fr)
  (hg: ∀s₀ H₀ C fp pn,XG (blk X NB scope cl s₀ H₀ C fp pn) tg g) (ht: ∀s₀ H₀ C fp pn,Tst (blk X NB scope cl s₀ H₀ C fp pn) ifs ts) (he: ∀s₀ H₀ C fp pn,XE (blk X NB scope cl s₀ H₀ C fp pn) elt me)
  (hsw:swapsWith (.ListComp elt [⟨tg,iter,ifs,0⟩] scope pos) (some (.Name x pos')) spos.line X.env=pure true:=by rfl) (hs: ∀x,foldedSetIterable iter X.env x=pure x:=by intro _;rfl)
  (hf:X.fn x=true∨X.env.scope.names.lookup x=some .local:=by trivial):
  XS X (.Assign [.Name x pos'] (.ListComp elt [⟨tg,iter,ifs,0⟩] scope pos) spos) (setF i fun ρ=>(compOf fr mi g ts me ρ).map .list):=by obtain ⟨hi⟩:=hi;have hg:=fun z0 z1 z2 z3 z4=>(hg z0 z1 z2 z3 z4).ok;have ht:=fun z0 z1 z2 z3 z4=>(ht z0 z1 z2 z3 z4).ok;have he:=fun z0 z1 z2 z3 z4=>(he z0 z1 z2 z3 z4).ok;exact ⟨df (Oc hN hx hl hc c hi kg hg ht he hsw hs hf) fun E σ H h0=>by
 obtain ⟨ρ,fl,ro,e,k⟩:=h0;obtain ⟨d,hd,e⟩:=map_some e;subst e;obtain ⟨ds,hd2,e2⟩:=map_some hd;subst e2;exact ⟨ρ,ds,ro,hd2,fun p xs H' s1 n1 n2 a=>k _ _ (s1.trans (fb n2)) ((ro.up (s1.trans (fb n2))).set i (Is.newL n2 a))⟩⟩
theorem ee {i:Nat} (h:fr[i]?=some none):Keeps (gSet i) fr:=fun ρ d ρ1 e=>by
 cases e;refine ⟨length_set ..,fun j c q=>?_⟩
 have:i≠j:=fun z=>by
  subst z;obtain ⟨k,h1,_⟩:=xf q;rw [h] at h1;cases h1
 rw [getElem?_set_ne this];exact q
theorem Ae {i j:Nat} (h:fr[i]?=some none) (h':fr[j]?=some none):Keeps (gSet2 i j) fr:=fun ρ d ρ1 e=>by
 unfold gSet2 at e;split at e
 ·cases e
  refine ⟨by rw [length_set,length_set],fun l c q=>?_⟩;have n1:i≠l:=fun z=>by
   subst z;obtain ⟨k,h1,_⟩:=xf q;rw [h] at h1;cases h1
  have n2:j≠l:=fun z=>by
   subst z;obtain ⟨k,h1,_⟩:=xf q;rw [h'] at h1;cases h1
  rw [getElem?_set_ne n2,getElem?_set_ne n1];exact q
 ·cases e
end
noncomputable def capOk (X:Cx) (scope:Scope) (cl:List (Str×Addr)):Option Nat×Str→Bool
 | (none,_)=>true
 | (some j,x)=>X.N[j]?==some x && (X.env.kindOf x==some .cell || X.env.kindOf x==some .free) && (cl.lookup x).isSome && ((relabel scope X.env).names.lookup x==some .cell || (relabel scope X.env).names.lookup x==some .free)
theorem lc {X:Cx} {scope:Scope} {cl:List (Str×Addr)} {NB:List Str} {fr:List (Option Nat)} (h1:closureFor scope X.env=pure cl) (h2:scope.names.all (fun y=>y.2 != .cell)=true) (h3:scope.kind= .function)
  (h4:scope.names.all (fun y=>y.2 != .local || scope.names.lookup y.1==some .local)=true) (h5:cl.map (fun p=>X.env.cells.lookup p.1)=cl.map fun p=>some p.2)
  (h6:(relabel scope X.env).names.all (fun p=>(p.2 != .cell && p.2 != .free) || (cl.lookup p.1).isSome)=true) (h7:fr.length=NB.length) (h8:(fr.zip NB).all (capOk X scope cl)=true):Clo X scope cl NB fr where
 clos:=h1
 cell:=fun y hy=>by simpa using List.all_eq_true.mp h2 y hy
 kind:=h3
 names:=fun y hy e=>by
  have:=List.all_eq_true.mp h4 y hy
  rw [e] at this;simpa using this
 sub:=fun p hp=>by
  obtain ⟨i,hi,rfl⟩:=List.getElem_of_mem hp
  have:=congrArg (fun l=>l[i]?) h5
  simp only [getElem?_map,getElem?_eq_getElem hi,Option.map_some,Option.some.injEq] at this;exact this
 has:=h6
 len:=h7
 cap:=fun i j x e1 e2=>by
  have hm:(some j,x)∈fr.zip NB:=List.mem_of_getElem? (i:=i) (by rw [List.getElem?_zip_eq_some];exact ⟨e1,e2⟩)
  have:=List.all_eq_true.mp h8 _ hm
  simp only [capOk,Bool.and_eq_true,Bool.or_eq_true,beq_iff_eq] at this;obtain ⟨⟨⟨a,b⟩,c⟩,d⟩:=this;refine ⟨a,b,?_,c,d⟩;rcases b with b | b
  ·exact .inr (.inl b)
  ·exact .inr (.inr b)
noncomputable def forL (g:D→Ren→Option Ren) (m:Ren→Option Fl):List D→Ren→Option Fl
 | [],ρ=>some (.nx ρ)
 | x::xs,ρ=>(g x ρ).bind fun ρ1=>(m ρ1).bind fun fl=>match fl with
  | .nx ρ2=>forL g m xs ρ2
  | .rt d=>some (.rt d)
noncomputable def forF (mi:Ren→Option (List D)) (g:D→Ren→Option Ren) (m:Ren→Option Fl):Ren→Option Fl:=fun ρ=>(mi ρ).bind fun items=>forL g m items ρ
theorem Od {K:Frag} {H H1:Hp} {E:Ends} {fl:Fl} (s1:Same H H1) (k:ends K H E fl):ends K H1 E fl:=by
 cases fl with
 | nx ρ2=>exact fun σ2 H2 s2 ro2=>k σ2 H2 (s1.trans s2) ro2
 | rt d=>exact fun v H2 s2 i2=>k v H2 (s1.trans s2) i2
theorem Ih {X:Cx} {tg iter:Expr} {body:List Stmt} {pos:Pos} {mi:Ren→Option (List D)} {g:D→Ren→Option Ren} {m:Ren→Option Fl} (hp:PassesOwn (model X.prog X.w) X.A X.env X.xe) (hc:X.calm=true) (hi:XI X tg iter mi) (hg:XG X tg g) (hb:XSs X body m)
  (hs: ∀x,foldedSetIterable iter X.env x=pure x:=by intro _;rfl):XS X (.For tg iter body [] pos) (forF mi g m):=by obtain ⟨hi⟩:=hi;obtain ⟨hg⟩:=hg;obtain ⟨hb⟩:=hb;exact ⟨df (E5 hp hc hi hg hb hs) fun E σ H h0=>by
 obtain ⟨ρ,fl,ro,q,k⟩:=h0;obtain ⟨items,hm,q1⟩:=bind_some q;refine ⟨ρ,items,ro,hm,fun J H1 s1 y=>⟨fun i n σ' H'=>∃ρ',n=items.length - i∧Same H1 H'∧Ro X.K H' σ' ρ'∧forL g m (items.drop i) ρ'=some fl,⟨_,ρ,rfl,Same.refl _,ro.up s1,q1⟩,?_⟩⟩
 rintro i n σ' H' ⟨ρ',rfl,s2,ro2,e2⟩
 cases hd:items[i]? with
 | none=>
  have hle:items.length≤i:=List.getElem?_eq_none_iff.mp hd;rw [List.drop_of_length_le hle] at e2;cases e2;exact .inl ⟨(y i H' s2).2 hle,k σ' H' (s1.trans s2) ro2⟩
 | some d=>
  have hil:i < items.length:=(List.getElem?_eq_some_iff.mp hd).1;obtain ⟨go,yl⟩:=(y i H' s2).1 d hd;have e:items.drop i=d::items.drop (i+1):=by
   obtain ⟨hl,he⟩:=List.getElem?_eq_some_iff.mp hd;rw [List.drop_eq_getElem_cons hl,he]
  rw [e] at e2;obtain ⟨ρ1,h1,e3⟩:=bind_some e2;obtain ⟨f1,h2,e4⟩:=bind_some e3;refine .inr ⟨go,fun σ2 H2=>∃ρ2,f1= .nx ρ2∧Same H1 H2∧Ro X.K H2 σ2 ρ2,fun σ2 H2 ⟨ρ2,hf,s3,ro3⟩=>?_,fun x H2 hx=>?_⟩
  ·subst hf
   exact ⟨items.length - (i+1),by omega,ρ2,rfl,s3,ro3,e4⟩
  ·obtain ⟨s3,i3⟩:=yl x H2 hx
   refine ⟨ρ',d,ρ1,ro2.up s3,i3,h1,fun σ3 H3 s4 ro4=>⟨ρ1,f1,ro4,h2,?_⟩⟩;cases f1 with
   | nx ρ2=>exact fun σ4 H4 s5 ro5=>⟨ρ2,rfl,s2.trans (s3.trans (s4.trans s5)),ro5⟩
   | rt d2=>
    cases e4;exact fun v H4 s5 i5=>k v H4 (s1.trans (s2.trans (s3.trans (s4.trans s5)))) i5⟩
end RG
end
section
namespace RG
open PySem PySem.Spec PyProof.Rows L2
section
variable {X:Cx} {pins:List (Addr×Obj)} {σ:L2.St} {H:Hp} {s:Shared}
mutual
theorem Is.reads (I:Inv X pins σ H s): ∀ {v:V} {d:D} {u:Value},Is X.K H v d→d.canLay0=true→RelV v u→ ∃as,Reads s.heap u d as
 | _,_,_,.non,_,r=>by cases r;exact ⟨_,.none⟩
 | _,_,_,.bl b,_,r=>by cases r;exact ⟨_,.bool b⟩
 | _,_,_,.int i,_,r=>by obtain ⟨t,rfl⟩:=r;exact ⟨_,.int i t⟩
 | _,_,_,.str x,_,r=>by obtain ⟨t,rfl⟩:=r;exact ⟨_,.str x t⟩
 | _,.list ds,_,.lst h a,hc,r=>by
  cases r;obtain ⟨its,vs,⟨o,n,e,c,_,dd⟩,_⟩:=I.list (.inl h);obtain ⟨as,ra⟩:=Are.reads I a (by unfold PyData.canLay0 at hc;exact hc) vs;exact ⟨_,.list e c dd (by simpa using ra)⟩
 | _,.tuple ds,_,.tup h a,hc,r=>by
  cases r;obtain ⟨its,vs,⟨o,e,c,n,dd⟩,_⟩:=I.tuple h;obtain ⟨as,ra⟩:=Are.reads I a (by unfold PyData.canLay0 at hc;exact hc) vs;exact ⟨_,.tuple e c dd (by simpa using ra)⟩
 | _,_,_,.scr h a,hc,r=>by unfold PyData.canLay0 at hc;cases hc
 | _,_,_,.dct h a,hc,r=>by unfold PyData.canLay0 at hc;cases hc
theorem Are.reads (I:Inv X pins σ H s): ∀ {xs:List V} {ds:List D} {us:List Value},Are X.K H xs ds→PyData.canLayAll0 ds=true→Vals xs us→ ∃as,ReadsAll s.heap us ds as
 | _,_,_,.nil,_,r=>by cases r;exact ⟨_,.nil⟩
 | _,d::ds,_,.cons h t,hc,r=>by
  cases r with
  | cons r1 r2=>
   unfold PyData.canLayAll0 at hc;rw [Bool.and_eq_true] at hc;obtain ⟨as,ra⟩:=Is.reads I h hc.1 r1;obtain ⟨bs,rb⟩:=Are.reads I t hc.2 r2;exact ⟨_,.cons ra rb⟩
end
end
section
variable {X:Cx} {K:Frag}
def rCatS (K:Frag):R2:=fun x y H Q=>∃l b xs zs,x= .ref l∧y= .ref b∧Rd H l (.lst xs)∧Rd H b (.lst zs)∧xs.length+zs.length≤sizeLine∧ ∀p,H p=none→Q (.ref p) (upd H p (.lst (xs++zs)))
theorem tu {pins:List (Addr×Obj)} {σ:L2.St} {H:Hp} {s:Shared} {l:Addr} {xs:List V} (I:Inv X pins σ H s) (h:Rd H l (.lst xs)):
  xs.length≤sizeLine∧ ∃ (its:List Value) (n:Nat),Vals xs its∧xs.length=its.length∧s.heap.get? l=some { cls:= .type "list",data:= .seq its.toArray n }:=by
 obtain ⟨z,its,n,r,e⟩:=h.ok I.hok;exact ⟨z,its,n,r,r.length,e⟩
theorem Ii:OpR X (binaryOp .Add) (rCatS X.K):=by
 intro pins s σ H x y v u Q I rx ry h;obtain ⟨l,b,xs,zs,rfl,rfl,hH,hB,hz,q⟩:=h;cases rx;cases ry;obtain ⟨z,its,n,r,hl,e⟩:=tu I hH;obtain ⟨z2,its2,n2,r2,hl2,e2⟩:=tu I hB;refine PySem.P.add_list e e2 ?_ (by rw [size_toArray,size_toArray];omega);rw [show its.toArray++its2.toArray=(its++its2).toArray by simp];exact ⟨.ref _,_,I.lnew (t':=s.toks) (r.append r2) (by rw [length_append];omega),rfl,q _ I.fresh⟩
theorem cm:OpR X (binaryOp .Add) (fun x y H Q=>rI0 (fun i j=> .int (i+j)) x y H Q∨rCatS X.K x y H Q):=OpR.or Hl Ii
theorem gy:R2D K (fun x y H Q=>rI0 (fun i j=> .int (i+j)) x y H Q∨rCatS K x y H Q) addD:=by
 intro H x y a b d Q ia ib e q;unfold addD at e;split at e
 ·cases e
  cases ia;cases ib;exact .inl ⟨_,_,rfl,rfl,q _ H (Same.refl H) (.int _)⟩
 ·split at e
  ·rename_i hl
   cases e;cases ia with
   | lst h1 h2=>
    cases ib with
    | lst h3 h4=>exact .inr ⟨_,_,_,_,rfl,rfl,h1,h3,by rw [h2.length,h4.length];exact gw hl,fun p hp=>q _ _ (fb hp) (Is.newL hp (h2.append h4))⟩
  ·cases e
 ·cases e
theorem pp:R2D K (rI0 fun i j=> .int (i - j)) subD:=by
 intro H x y a b d Q ia ib e q;unfold subD at e;split at e
 ·cases e;cases ia;cases ib
  exact ⟨_,_,rfl,rfl,q _ H (Same.refl H) (.int _)⟩
 ·cases e
theorem wd:R2D K (rI CDiv fun i j=> .int (i / j)) divD:=by
 intro H x y a b d Q ia ib e q;unfold divD at e;split at e
 ·split at e
  ·rename_i h;cases e;cases ia;cases ib
   exact ⟨_,_,rfl,rfl,h,q _ H (Same.refl H) (.int _)⟩
  ·cases e
 ·cases e
theorem d8:R2D K (rI (fun _ j=>0 < j) fun i j=> .int (i % j)) modD:=by
 intro H x y a b d Q ia ib e q;unfold modD at e;split at e
 ·split at e
  ·rename_i h;cases e;cases ia;cases ib
   exact ⟨_,_,rfl,rfl,h,q _ H (Same.refl H) (.int _)⟩
  ·cases e
 ·cases e
theorem Lf:R2D K (rI CPow fun i j=> .int (i ^ j.toNat)) powD:=by
 intro H x y a b d Q ia ib e q;unfold powD at e;split at e
 ·split at e
  ·rename_i h;cases e;cases ia;cases ib
   exact ⟨_,_,rfl,rfl,h,q _ H (Same.refl H) (.int _)⟩
  ·cases e
 ·cases e
@[simp] noncomputable def mulI:D→D→Option D
 | .int a,.int b=>if small a=true∨small b=true then some (.int (a*b)) else none
 | _,_=>none
theorem Ci:R2D K (rI CMul fun i j=> .int (i*j)) mulI:=by
 intro H x y a b d Q ia ib e q;unfold mulI at e;split at e
 ·split at e
  ·rename_i h;cases e;cases ia;cases ib
   refine ⟨_,_,rfl,rfl,?_,q _ H (Same.refl H) (.int _)⟩;rcases h with h | h
   ·exact .inl (small_iff.mp h)
   ·exact .inr (small_iff.mp h)
  ·cases e
 ·cases e
theorem su {p:Int→Int→Bool}:R2D K (rI0 fun i j=> .bl (p i j)) (cmpI p):=by
 intro H x y a b d Q ia ib e q;unfold cmpI at e;split at e
 ·cases e;cases ia;cases ib
  exact ⟨_,_,rfl,rfl,q _ H (Same.refl H) (.bl _)⟩
 ·cases e
def rEqD (K:Frag):R2:=fun x y H Q=>∃a b,Is K H x a∧Is K H y b∧deepOk a b=true∧Q (.bl (PyData.eqv a b)) H
def rNeD (K:Frag):R2:=fun x y H Q=>∃a b,Is K H x a∧Is K H y b∧deepOk a b=true∧Q (.bl (!PyData.eqv a b)) H
theorem Af {a b:D} (h:deepOk a b=true):a.canLay0=true∧b.canLay0=true∧min a.depth b.depth≤64:=by
 unfold deepOk at h;rw [Bool.and_eq_true,Bool.and_eq_true] at h;exact ⟨h.1.1,h.1.2,of_decide_eq_true h.2⟩
theorem Rm (hu:X.A.units+64 < cLine):OpR X (compareOp .Eq) (rEqD X.K):=by
 intro pins s σ H x y v u Q I rx ry h;obtain ⟨a,b,ia,ib,hd,q⟩:=h;obtain ⟨h1,h2,h3⟩:=Af hd;obtain ⟨as,ra⟩:=ia.reads I h1 rx;obtain ⟨bs,rb⟩:=ib.reads I h2 ry;exact SeqAt.compareEq_reads ra rb h1 h2 (by omega) ⟨.bl _,H,I,rfl,q⟩
theorem Rp (hu:X.A.units+64 < cLine):OpR X (compareOp .NotEq) (rNeD X.K):=by
 intro pins s σ H x y v u Q I rx ry h;obtain ⟨a,b,ia,ib,hd,q⟩:=h;obtain ⟨h1,h2,h3⟩:=Af hd;obtain ⟨as,ra⟩:=ia.reads I h1 rx;obtain ⟨bs,rb⟩:=ib.reads I h2 ry;exact SeqAt.rcNeAt_reads ra rb h1 h2 (by omega) X.prog X.w X.xe _ ⟨.bl _,H,I,rfl,q⟩
@[simp] noncomputable def eqB (a b:D):Option D:=(eqD a b).map .bool
@[simp] noncomputable def neB (a b:D):Option D:=(eqD a b).map fun c=> .bool (!c)
theorem Ij {H:Hp} {x y:V} {a b:D} (ia:Is K H x a) (ib:Is K H y b) (h:scalD a b=true):scal x y=true∧decide (x=y)=PyData.eqv a b:=by
 cases ia <;> cases ib <;> first | (cases h;done) | skip
 all_goals refine ⟨rfl,?_⟩
 all_goals first | exact Hm | exact Dp | exact Dq | simp [PyData.eqv]
theorem Fc {a b:D} {c:Bool} (h:eqD a b=some c):(scalD a b=true∨deepOk a b=true)∧c=PyData.eqv a b:=by
 unfold eqD at h;split at h
 ·rename_i z;cases h;exact ⟨z,rfl⟩
 ·cases h
theorem ba (hu:X.A.units+64 < cLine):OpR X (compareOp .Eq) (fun x y H Q=>rEq x y H Q∨rEqD X.K x y H Q):=OpR.or Tx (Rm hu)
theorem em (hu:X.A.units+64 < cLine):OpR X (compareOp .NotEq) (fun x y H Q=>rNe x y H Q∨rNeD X.K x y H Q):=OpR.or Ty (Rp hu)
theorem fx:R2D K (fun x y H Q=>rEq x y H Q∨rEqD K x y H Q) eqB:=by
 intro H x y a b d Q ia ib e q;obtain ⟨c,e1,e2⟩:=map_some e;obtain ⟨h,rfl⟩:=Fc e1;subst e2;rcases h with h | h
 ·obtain ⟨h1,h2⟩:=Ij ia ib h
  exact .inl ⟨h1,by rw [h2];exact q _ H (Same.refl H) (.bl _)⟩
 ·exact .inr ⟨a,b,ia,ib,h,q _ H (Same.refl H) (.bl _)⟩
theorem xh:R2D K (fun x y H Q=>rNe x y H Q∨rNeD K x y H Q) neB:=by
 intro H x y a b d Q ia ib e q;obtain ⟨c,e1,e2⟩:=map_some e;obtain ⟨h,rfl⟩:=Fc e1;subst e2;rcases h with h | h
 ·obtain ⟨h1,h2⟩:=Ij ia ib h
  exact .inl ⟨h1,by rw [h2];exact q _ H (Same.refl H) (.bl _)⟩
 ·exact .inr ⟨a,b,ia,ib,h,q _ H (Same.refl H) (.bl _)⟩
def rInD (K:Frag) (neg:Bool):R2:=fun x y H Q=>∃a b c,Is K H x a∧Is K H y b∧inD a b=some c∧Q (.bl (if neg then !c else c)) H
theorem qo {d:D} (h:flatD d=true):d.depth=0:=by
 cases d <;> first | (cases h;done) | simp [PyData.depth]
theorem tw (hu:X.A.units+64 < cLine):OpR X (compareOp .In) (rInD X.K false):=by
 intro pins s σ H x y v u Q I rx ry h;obtain ⟨a,b,c,ia,ib,hc,q⟩:=h;unfold inD at hc;split at hc
 ·split at hc
  ·rename_i h
   obtain ⟨h1,h2,h3⟩:=h;cases hc;obtain ⟨as,ra⟩:=ia.reads I h1 rx;obtain ⟨bs,rb⟩:=ib.reads I (by unfold PyData.canLay0;exact h2) ry;exact SeqAt.in_list_reads rb ra h2 h1 (by rw [qo h3];omega) ⟨.bl _,H,I,rfl,q⟩
  ·cases hc
 ·split at hc
  ·rename_i h
   obtain ⟨h1,h2,h3⟩:=h;cases hc;obtain ⟨as,ra⟩:=ia.reads I h1 rx;obtain ⟨bs,rb⟩:=ib.reads I (by unfold PyData.canLay0;exact h2) ry;exact SeqAt.in_tuple_reads rb ra h2 h1 (by rw [qo h3];omega) ⟨.bl _,H,I,rfl,q⟩
  ·cases hc
 ·cases hc
theorem xi (hu:X.A.units+64 < cLine):OpR X (compareOp .NotIn) (rInD X.K true):=by
 intro pins s σ H x y v u Q I rx ry h;obtain ⟨a,b,c,ia,ib,hc,q⟩:=h;unfold inD at hc;split at hc
 ·split at hc
  ·rename_i h
   obtain ⟨h1,h2,h3⟩:=h;cases hc;obtain ⟨as,ra⟩:=ia.reads I h1 rx;obtain ⟨bs,rb⟩:=ib.reads I (by unfold PyData.canLay0;exact h2) ry;exact SeqAt.notIn_list_reads rb ra h2 h1 (by rw [qo h3];omega) ⟨.bl _,H,I,rfl,q⟩
  ·cases hc
 ·split at hc
  ·rename_i h
   obtain ⟨h1,h2,h3⟩:=h;cases hc;obtain ⟨as,ra⟩:=ia.reads I h1 rx;obtain ⟨bs,rb⟩:=ib.reads I (by unfold PyData.canLay0;exact h2) ry;exact SeqAt.notIn_tuple_reads rb ra h2 h1 (by rw [qo h3];omega) ⟨.bl _,H,I,rfl,q⟩
  ·cases hc
 ·cases hc
@[simp] noncomputable def inB (a b:D):Option D:=(inD a b).map .bool
@[simp] noncomputable def notInB (a b:D):Option D:=(inD a b).map fun c=> .bool (!c)
theorem Hz:R2D K (rInD K false) inB:=by
 intro H x y a b d Q ia ib e q;obtain ⟨c,e1,e2⟩:=map_some e;subst e2;exact ⟨a,b,c,ia,ib,e1,q _ H (Same.refl H) (.bl _)⟩
theorem xb:R2D K (rInD K true) notInB:=by
 intro H x y a b d Q ia ib e q;obtain ⟨c,e1,e2⟩:=map_some e;subst e2;exact ⟨a,b,c,ia,ib,e1,q _ H (Same.refl H) (.bl _)⟩
@[simp] noncomputable def isN (a b:D):Option D:=match b with | .none=>some (.bool (match a with | .none=>true | _=>false)) | _=>none
@[simp] noncomputable def notN (a b:D):Option D:=match b with | .none=>some (.bool (match a with | .none=>false | _=>true)) | _=>none
theorem Lg:R2D K (fun x y H Q=>y= .non∧Q (.bl (decide (x= .non))) H) isN:=by
 intro H x y a b d Q ia ib e q;unfold isN at e;split at e
 ·cases e
  cases ib;refine ⟨rfl,?_⟩;cases ia <;> exact q _ H (Same.refl H) (.bl _)
 ·cases e
theorem Cj:R2D K (fun x y H Q=>y= .non∧Q (.bl (!decide (x= .non))) H) notN:=by
 intro H x y a b d Q ia ib e q;unfold notN at e;split at e
 ·cases e
  cases ib;refine ⟨rfl,?_⟩;cases ia <;> exact q _ H (Same.refl H) (.bl _)
 ·cases e
theorem Ik {z:Str} (h:z.length≤lim):z.length≤sizeLine:=gw h
theorem Oe {α:Type} (xs:List α) (i:Int):atD xs i=atI xs i:=by
 unfold atD atI ixN;split
 ·split <;> rfl
 ·split <;> rfl
theorem Vn:R2D K (rIx K) ixD:=by
 intro H x y a b d Q ia ib e q;unfold ixD at e;split at e
 ·cases ia with
  | lst h1 h2=>
   cases ib;obtain ⟨v,h3,h4⟩:=h2.at e;exact .inl ⟨_,_,_,_,rfl,rfl,.inl h1,h3,q _ H (Same.refl H) h4⟩
 ·cases ia with
  | tup h1 h2=>
   cases ib;obtain ⟨v,h3,h4⟩:=h2.at e;exact .inr (.inl ⟨_,_,_,_,rfl,rfl,h1,h3,q _ H (Same.refl H) h4⟩)
 ·cases ia with
  | scr h1 h2=>
   cases ib;obtain ⟨v,h3,h4⟩:=h2.at e;exact .inl ⟨_,_,_,_,rfl,rfl,h1,h3,q _ H (Same.refl H) h4⟩
 ·split at e
  ·rename_i hz
   obtain ⟨c,h1,h2⟩:=map_some e;subst h2;cases ia;cases ib;exact .inr (.inr ⟨_,_,c,rfl,rfl,Ik hz,by rw [←Oe];exact h1,q _ H (Same.refl H) (.str _)⟩)
  ·cases e
 ·cases e
theorem aj {a b:Expr} {ma mb:Ren→Option D} {pos:Pos} (ha:XE X a ma) (hb:XE X b mb) (hs:PlainIx b:=by intro _ _;rfl):XE X (.Subscript a b pos) (two ixD ma mb):=Rh Q6 Vn ha hb hs
@[simp] noncomputable def one (f:D→Option D):List D→Option D
 | [d]=>f d
 | _=>none
@[simp] noncomputable def both (f:D→D→Option D):List D→Option D
 | [a,b]=>f a b
 | _=>none
theorem t0 {f:D→Option D} {ds:List D} {d:D} (h:one f ds=some d): ∃a,ds=[a]∧f a=some d:=by
 unfold one at h;split at h
 ·exact ⟨_,rfl,h⟩
 ·cases h
theorem Ck {f:D→D→Option D} {ds:List D} {d:D} (h:both f ds=some d): ∃a b,ds=[a,b]∧f a b=some d:=by
 unfold both at h;split at h
 ·exact ⟨_,_,rfl,h⟩
 ·cases h
theorem Are.one {H:Hp} {vs:List V} {d:D} (h:Are K H vs [d]): ∃v,vs=[v]∧Is K H v d:=by
 cases h with
 | cons i t=>cases t;exact ⟨_,rfl,i⟩
theorem Are.two {H:Hp} {vs:List V} {d c:D} (h:Are K H vs [d,c]): ∃v u,vs=[v,u]∧Is K H v d∧Is K H u c:=by
 cases h with
 | cons i t=>
  obtain ⟨u,rfl,j⟩:=t.one;exact ⟨_,_,rfl,i,j⟩
theorem dw:CD K (fun xs H Q=>(∃p ys,xs=[.ref p]∧(SqL K H p ys∨SqT K H p ys)∧Q (.int ys.length) H)∨(∃z,xs=[.str z]∧z.length≤sizeLine∧Q (.int z.length) H)) (one lenD):=by
 intro H xs ds d Q is e q;obtain ⟨a,ha,e0⟩:=t0 e;clear e;subst ha;have e:=e0;obtain ⟨v,rfl,i⟩:=is.one;unfold lenD at e;split at e
 ·cases e
  cases i with
  | lst h1 h2=>exact .inl ⟨_,_,rfl,.inl (.inl h1),by rw [h2.length];exact q _ H (Same.refl H) (.int _)⟩
 ·cases e
  cases i with
  | tup h1 h2=>exact .inl ⟨_,_,rfl,.inr h1,by rw [h2.length];exact q _ H (Same.refl H) (.int _)⟩
 ·cases e
  cases i with
  | scr h1 h2=>exact .inl ⟨_,_,rfl,.inl h1,by rw [h2.length];exact q _ H (Same.refl H) (.int _)⟩
 ·split at e
  ·rename_i hz
   cases e;cases i;exact .inr ⟨_,rfl,Ik hz,q _ H (Same.refl H) (.int _)⟩
  ·cases e
 ·cases e
theorem ce:CallR X (.builtin "len") (fun xs H Q=>(∃p ys,xs=[.ref p]∧(SqL X.K H p ys∨SqT X.K H p ys)∧Q (.int ys.length) H)∨(∃z,xs=[.str z]∧z.length≤sizeLine∧Q (.int z.length) H)):=CallR.or B9 Ca
theorem mv:CD K (fun xs H Q=>∃p ys,xs=[.ref p]∧(SqL K H p ys∨SqT K H p ys)∧ ∀l,H l=none→Q (.ref l) (upd H l (.lst ys))) (one listD):=by
 intro H xs ds d Q is e q;obtain ⟨a,ha,e0⟩:=t0 e;clear e;subst ha;have e:=e0;obtain ⟨v,rfl,i⟩:=is.one;obtain ⟨es,e1,e2⟩:=map_some e;subst e2;unfold itemsD at e1;split at e1
 ·cases e1
  cases i with
  | lst h1 h2=>exact ⟨_,_,rfl,.inl (.inl h1),fun l hl=>q _ _ (fb hl) (Is.newL hl h2)⟩
 ·cases e1
  cases i with
  | tup h1 h2=>exact ⟨_,_,rfl,.inr h1,fun l hl=>q _ _ (fb hl) (Is.newL hl h2)⟩
 ·cases e1
@[simp] noncomputable def maxD:D→D→Option D
 | .int i,.int j=>some (.int (if j > i then j else i))
 | _,_=>none
@[simp] noncomputable def minD:D→D→Option D
 | .int i,.int j=>some (.int (if j < i then j else i))
 | _,_=>none
theorem T3:CD K (fun xs H Q=>∃i j,xs=[.int i,.int j]∧Q (.int (if j > i then j else i)) H) (both maxD):=by
 intro H xs ds d Q is e q;obtain ⟨a,b,ha,e0⟩:=Ck e;clear e;subst ha;have e:=e0;obtain ⟨v,u,rfl,i,j⟩:=is.two;unfold maxD at e;split at e
 ·cases e;cases i;cases j
  exact ⟨_,_,rfl,q _ H (Same.refl H) (.int _)⟩
 ·cases e
theorem T4:CD K (fun xs H Q=>∃i j,xs=[.int i,.int j]∧Q (.int (if j < i then j else i)) H) (both minD):=by
 intro H xs ds d Q is e q;obtain ⟨a,b,ha,e0⟩:=Ck e;clear e;subst ha;have e:=e0;obtain ⟨v,u,rfl,i,j⟩:=is.two;unfold minD at e;split at e
 ·cases e;cases i;cases j
  exact ⟨_,_,rfl,q _ H (Same.refl H) (.int _)⟩
 ·cases e
@[simp] noncomputable def intD:D→Option D
 | .int i=>some (.int i)
 | .bool k=>some (.int (if k then 1 else 0))
 | _=>none
theorem T5:CD K (fun xs H Q=>(∃i,xs=[.int i]∧Q (.int i) H)∨ ∃k,xs=[.bl k]∧Q (.int (if k then 1 else 0)) H) (one intD):=by
 intro H xs ds d Q is e q;obtain ⟨a,ha,e0⟩:=t0 e;clear e;subst ha;have e:=e0;obtain ⟨v,rfl,i⟩:=is.one;unfold intD at e;split at e
 ·cases e;cases i
  exact .inl ⟨_,rfl,q _ H (Same.refl H) (.int _)⟩
 ·cases e;cases i
  exact .inr ⟨_,rfl,q _ H (Same.refl H) (.int _)⟩
 ·cases e
end
end RG
end
section
namespace RG
open PySem PySem.Spec PyProof.Rows L2
section
variable {prog:Program} {w:World} {A:Around} {E:Value→Shared→Prop} {s:Shared}
theorem Ag {it t:Addr} {i:Nat} {items:Array Value} {x:Value} {Q:Value→Shared→Prop} (hit:s.heap.IsTupleIter it t i) (ht:s.heap.IsTuple t items) (hx:items[i]?=some x)
  (hQ: ∀h',h'.IsTupleIter it t (i+1)→Heap.SameBut it s.heap h'→Q x { s with heap:=h' }):wpAny (model prog w) A (Builtin.SmallTypes.nextOf (.ref it)) Q E s:=by
 obtain ⟨oi,hoi,hci,hdi⟩:=id hit;obtain ⟨ot,hot,_,nt,hdt⟩:=ht;unfold Builtin.SmallTypes.nextOf;refine wpAny_bind (wpAny_callSpecial?_slot (name:=Str.ofString "__next__") hit.typeIs F.slot_tuple_iterator_next (wpAny_call_entry F.slot_tuple_iterator_next hit.typeIs F.entry_tuple_iterator_next ?_ (F.args_tuple_iterator_next_1 _)))
 show wpAny _ _ (field (.ref it) 0 >>=_) _ _ s
 refine wpAny_bind (wpAny_field hoi hdi (x:= .ref t) rfl ?_)
 show wpAny _ _ (if (Value.ref t==Value.none)=true then _ else _) _ _ s
 rw [if_neg (show ¬ ((Value.ref t==Value.none)=true) from Bool.false_ne_true)]
 show wpAny _ _ (field (.ref it) 1 >>=_) _ _ s
 refine wpAny_bind (wpAny_field hoi hdi (x:= .int i 0) rfl ?_)
 show wpAny _ _ (seqItems? (.ref t) >>=_) _ _ s
 refine wpAny_bind (wpAny_seqItems hot hdt ?_);simp only [Int.toNat_natCast,hx];refine wpAny_bind (wpAny_setField hoi hdi (by simp) (wpAny_pure ⟨x,rfl,wpAny_pure (hQ _ ?_ (Heap.SameBut.update ..))⟩));exact ⟨_,Heap.get?_update_self _ hoi (Obj.isFreed_of_fields (Obj.data_mapFields hdi _)),(Obj.cls_mapFields ..).trans hci,by rw [Obj.data_mapFields hdi];simp [rawInt]⟩
theorem Il {it t:Addr} {i:Nat} {items:Array Value} {Q:Value→Shared→Prop} (hh:A.handled=none) (hit:s.heap.IsTupleIter it t i) (ht:s.heap.IsTuple t items) (hx:items[i]?=none)
  (hE: ∀h' e,Heap.ExtBut it s.heap h'→(∃o,h'.get? e=some o∧o.cls= .type "StopIteration")→E (.ref e) { s with heap:=h' }):wpAny (model prog w) A (Builtin.SmallTypes.nextOf (.ref it)) Q E s:=by
 obtain ⟨oi,hoi,hci,hdi⟩:=id hit;obtain ⟨ot,hot,_,nt,hdt⟩:=ht;unfold Builtin.SmallTypes.nextOf;refine wpAny_bind (wpAny_callSpecial?_slot (name:=Str.ofString "__next__") hit.typeIs F.slot_tuple_iterator_next (wpAny_call_entry F.slot_tuple_iterator_next hit.typeIs F.entry_tuple_iterator_next ?_ (F.args_tuple_iterator_next_1 _)))
 show wpAny _ _ (field (.ref it) 0 >>=_) _ _ s
 refine wpAny_bind (wpAny_field hoi hdi (x:= .ref t) rfl ?_)
 show wpAny _ _ (if (Value.ref t==Value.none)=true then _ else _) _ _ s
 rw [if_neg (show ¬ ((Value.ref t==Value.none)=true) from Bool.false_ne_true)]
 show wpAny _ _ (field (.ref it) 1 >>=_) _ _ s
 refine wpAny_bind (wpAny_field hoi hdi (x:= .int i 0) rfl ?_)
 show wpAny _ _ (seqItems? (.ref t) >>=_) _ _ s
 refine wpAny_bind (wpAny_seqItems hot hdt ?_);simp only [Int.toNat_natCast,hx];refine wpAny_bind (wpAny_rule (wpAny_bind (wpAny_setField hoi hdi (by simp) ?_)))
 show wpAny _ _ (newExc (.type "StopIteration") [] >>=_) _ _ _
 refine wpAny_bind ?_;simp only [newExc,newTuple];refine wpAny_bind (wpAny_newObj_type ?_ (by size_fits));refine wpAny_bind (m:=firstArgMember _ _) (wpAny_of_eq (a:=Value.none) (by first | rfl | (simp only [firstArgMember];rfl)) ?_);refine wpAny_newObj_type ?_ (by size_fits);simp only [raiseNew];refine wpAny_bind (wpAny_handled ?_)
 first | rw [show A.in1.handled=none from hh] | rw [hh]
 refine wpAny_bind (wpAny_pure (wpAny_throw ?_));exact hE _ _ (((Heap.SameBut.update ..).extBut.push _).push _) ⟨_,Heap.get?_push_size _ rfl,rfl⟩
structure Zs (h:Heap) (z ti tk i1 i2 t l:Addr) (k:Nat) (out:Value):Prop where
 zip:IsZip h z ti tk out
 its:IsPair h ti (.ref i1) (.ref i2)
 own: ∃a b,IsPair h tk a b
 fst:h.IsTupleIter i1 t k
 snd:h.IsListIter i2 l k
structure Zd (z ti tk i1 i2:Addr):Prop where
 a:ti≠z
 b:tk≠z
 c:i1≠z
 d:i2≠z
 e:ti≠tk
 f:ti≠i1
 g:ti≠i2
 h:tk≠i1
 i:tk≠i2
 j:i1≠i2
theorem Lh {z ti tk i1 i2 t l:Addr} {k:Nat} {xs ys:Array Value} {x y:Value} {Q:Value→Shared→Prop} (N:Zd z ti tk i1 i2) (Z:Zs s.heap z ti tk i1 i2 t l k .none)
  (ht:s.heap.IsTuple t xs) (hl:s.heap.IsList l ys) (nt:t≠z∧t≠tk∧t≠i1∧t≠i2) (nl:l≠z∧l≠tk∧l≠i1∧l≠i2) (hx:xs[k]?=some x) (hy:ys[k]?=some y)
  (hQ: ∀h',Zs h' z ti tk i1 i2 t l (k+1) (rawInt s.heap.objs.size)→IsPair h' s.heap.objs.size x y→(∀c o,c≠z→c≠tk→c≠i1→c≠i2→s.heap.get? c=some o→h'.get? c=some o)→Q (.ref s.heap.objs.size) { s with heap:=h' }):
  wpAny (model prog w) A (Builtin.«zip.__next__» ⟨[.ref z],[]⟩) (fun fin s'=>∃v,fin= .done (.ret v)∧Q v s') E s:=by
 obtain ⟨gz,gi,⟨a,b,gk⟩,g1,g2⟩:=Z
 show wpAny _ _ (field (.ref z) 2 >>=_) _ _ _
 refine wpAny_bind (wpAny_field gz rfl (x:= .bool false) rfl ?_)
 show wpAny _ _ (field (.ref z) 3 >>=_) _ _ _
 refine wpAny_bind (wpAny_field gz rfl (x:= .ref ti) rfl ?_);refine wpAny_bind (wpAny_seqItems gi rfl ?_)
 show wpAny _ _ (Builtin.SmallTypes.ownedTupleIsFree (.ref z) >>=_) _ _ _
 refine wpAny_bind ?_;unfold Builtin.SmallTypes.ownedTupleIsFree;refine wpAny_bind (wpAny_field gz rfl (x:= .none) rfl (wpAny_pure ?_));simp only [if_true];refine wpAny_bind (wpAny_rule ?_);refine wpAny_bind (wpAny_field gz rfl (x:= .ref tk) rfl ?_);refine wpAny_bind (wpAny_setField_rec gz (by simp) fun j1 z1 m1=>?_)
 replace z1:IsZip j1 z ti tk .ellipsis:=z1
 refine wpAny_bind ?_;simp only [List.zipIdx_cons,List.zipIdx_nil,List.forIn_cons,List.forIn_nil];refine wpAny_bind (wpAny_bind (wpAny_onRaise ?_))
 show wpAny _ _ (Builtin.SmallTypes.nextOf (.ref i1) >>=_) _ _ _
 refine wpAny_bind (Ag (g1.at fun o q=>m1.extBut _ o N.c q) (ht.extBut m1.extBut nt.1) hx fun j2 f2 m2=>wpAny_pure ?_);have k2:IsPair j2 tk a b:=m2.extBut _ _ N.h (m1.extBut _ _ N.b gk);refine wpAny_bind (wpAny_seqItems k2 rfl ?_);refine wpAny_bind (wpAny_updateSeq_pair k2 fun j3 k3 m3=>?_)
 replace k3:IsPair j3 tk x b:=k3
 refine wpAny_bind (wpAny_letGo (wpAny_pure ?_));refine wpAny_bind (wpAny_bind (wpAny_onRaise ?_))
 show wpAny _ _ (Builtin.SmallTypes.nextOf (.ref i2) >>=_) _ _ _
 refine wpAny_bind (wpAny_nextOf_list_item (((g2.extBut m1.extBut N.d).extBut m2.extBut N.j.symm).extBut m3.extBut N.i.symm) (((hl.extBut m1.extBut nl.1).extBut m2.extBut nl.2.2.1).extBut m3.extBut nl.2.1) hy fun j4 f4 m4=>wpAny_pure ?_);have k4:IsPair j4 tk x b:=m4.extBut _ _ N.i k3;refine wpAny_bind (wpAny_seqItems k4 rfl ?_);refine wpAny_bind (wpAny_updateSeq_pair k4 fun j5 k5 m5=>?_)
 replace k5:IsPair j5 tk x y:=k5
 refine wpAny_bind (wpAny_letGo (wpAny_pure (wpAny_pure ?_)));refine wpAny_bind (wpAny_seqItems k5 rfl ?_);refine wpAny_bind (wpAny_newTuple ?_);have hsz:j5.objs.size=s.heap.objs.size:=by rw [m5.1,m4.1,m3.1,m2.1,m1.1]
 have z5:IsZip j5 z ti tk .ellipsis:=m5.extBut _ _ N.b.symm (m4.extBut _ _ N.d.symm (m3.extBut _ _ N.b.symm (m2.extBut _ _ N.c.symm z1)));have keep5: ∀c o,c≠z→c≠tk→c≠i1→c≠i2→s.heap.get? c=some o→j5.get? c=some o:=fun c o c1 c2 c3 c4 q=>
  m5.extBut _ _ c2 (m4.extBut _ _ c4 (m3.extBut _ _ c2 (m2.extBut _ _ c3 (m1.extBut _ _ c1 q))))
 have f5:j5.IsTupleIter i1 t (k+1):=f2.at fun o q=>m5.extBut _ o N.h.symm (m4.extBut _ o N.j (m3.extBut _ o N.h.symm q))
 have h5:j5.IsListIter i2 l (k+1):=f4.extBut m5.extBut N.i.symm;have zlt:z < j5.objs.size:=lt_size z5
 show wpAny _ _ (Builtin.SmallTypes.ownedTupleHandOut (.ref z) (.ref j5.objs.size) >>=_) _ _ _
 refine wpAny_bind ?_;unfold Builtin.SmallTypes.ownedTupleHandOut;have z6:IsZip (j5.push { cls:= .type "tuple",data:= .seq #[x,y] }) z ti tk .ellipsis:=get?_push_of_some _ z5;refine wpAny_bind (wpAny_setField_rec z6 (by simp) fun j7 z7 m7=>?_)
 replace z7:IsZip j7 z ti tk (rawInt j5.objs.size):=z7
 refine wpAny_setField_rec z7 (by simp) fun j8 z8 m8=>?_
 replace z8:IsZip j8 z ti tk (rawInt j5.objs.size):=z8
 have up: ∀c o,c≠z→j5.get? c=some o→j8.get? c=some o:=fun c o c1 q=>m8.extBut _ _ c1 (m7.extBut _ _ c1 (get?_push_of_some _ q));have t8:IsPair j8 j5.objs.size x y:=m8.extBut _ _ (Nat.ne_of_gt zlt) (m7.extBut _ _ (Nat.ne_of_gt zlt) (Heap.get?_push_size _ rfl));rw [hsz] at z8 t8;refine wpAny_pure ⟨_,rfl,?_⟩
 show Q (.ref j5.objs.size) _
 rw [hsz];exact hQ j8 ⟨z8,up _ _ N.a (keep5 _ _ N.a N.e N.f N.g gi),⟨_,_,up _ _ N.b k5⟩,f5.at fun o q=>up _ o N.c q,h5.at fun o q=>up _ o N.d q⟩ t8 fun c o c1 c2 c3 c4 q=>up c o c1 (keep5 c o c1 c2 c3 c4 q)
theorem Li {z ti tk i1 i2 t l:Addr} {k:Nat} {xs ys:Array Value} {Q:Fin→Shared→Prop} (hh:A.handled=none) (N:Zd z ti tk i1 i2) (Z:Zs s.heap z ti tk i1 i2 t l k .none)
  (ht:s.heap.IsTuple t xs) (hl:s.heap.IsList l ys) (nt:t≠z∧t≠tk∧t≠i1∧t≠i2) (nl:l≠z∧l≠tk∧l≠i1∧l≠i2) (hend:xs[k]?=none∨ys[k]?=none)
  (hE: ∀h' e,(∀c o,c≠z→c≠tk→c≠i1→c≠i2→s.heap.get? c=some o→h'.get? c=some o)→(∃o,h'.get? e=some o∧o.cls= .type "StopIteration")→E (.ref e) { s with heap:=h' }):
  wpAny (model prog w) A (Builtin.«zip.__next__» ⟨[.ref z],[]⟩) Q E s:=by
 obtain ⟨gz,gi,⟨a,b,gk⟩,g1,g2⟩:=Z
 show wpAny _ _ (field (.ref z) 2 >>=_) _ _ _
 refine wpAny_bind (wpAny_field gz rfl (x:= .bool false) rfl ?_)
 show wpAny _ _ (field (.ref z) 3 >>=_) _ _ _
 refine wpAny_bind (wpAny_field gz rfl (x:= .ref ti) rfl ?_);refine wpAny_bind (wpAny_seqItems gi rfl ?_)
 show wpAny _ _ (Builtin.SmallTypes.ownedTupleIsFree (.ref z) >>=_) _ _ _
 refine wpAny_bind ?_;unfold Builtin.SmallTypes.ownedTupleIsFree;refine wpAny_bind (wpAny_field gz rfl (x:= .none) rfl (wpAny_pure ?_));simp only [if_true];refine wpAny_bind (wpAny_rule ?_);refine wpAny_bind (wpAny_field gz rfl (x:= .ref tk) rfl ?_);refine wpAny_bind (wpAny_setField_rec gz (by simp) fun j1 z1 m1=>?_)
 replace z1:IsZip j1 z ti tk .ellipsis:=z1
 refine wpAny_bind ?_;simp only [List.zipIdx_cons,List.zipIdx_nil,List.forIn_cons,List.forIn_nil];refine wpAny_bind (wpAny_bind (wpAny_onRaise ?_))
 show wpAny _ _ (Builtin.SmallTypes.nextOf (.ref i1) >>=_) _ _ _
 cases hx:xs[k]? with
 | none=>
  refine wpAny_bind (Il hh (g1.at fun o q=>m1.extBut _ o N.c q) (ht.extBut m1.extBut nt.1) hx fun j2 e m2 he=>?_);obtain ⟨oe,q1,q2⟩:=he;have z2:IsZip j2 z ti tk .ellipsis:=m2 _ _ N.c.symm z1;have hez:e≠z:=fun x=>by subst x;rw [z2] at q1;cases q1;simp at q2
  refine wpAny_setField_rec z2 (by simp) fun j3 _ m3=>hE j3 e (fun c o c1 _ c3 _ x=>m3.extBut _ _ c1 (m2 _ _ c3 (m1.extBut _ _ c1 x))) ⟨oe,m3.extBut _ _ hez q1,q2⟩
 | some x=>
  have hy:ys[k]?=none:=by
   rcases hend with h | h
   ·rw [hx] at h;cases h
   ·exact h
  refine wpAny_bind (Ag (g1.at fun o q=>m1.extBut _ o N.c q) (ht.extBut m1.extBut nt.1) hx fun j2 f2 m2=>wpAny_pure ?_);have k2:IsPair j2 tk a b:=m2.extBut _ _ N.h (m1.extBut _ _ N.b gk);refine wpAny_bind (wpAny_seqItems k2 rfl ?_);refine wpAny_bind (wpAny_updateSeq_pair k2 fun j3 k3 m3=>?_);refine wpAny_bind (wpAny_letGo (wpAny_pure ?_));refine wpAny_bind (wpAny_bind (wpAny_onRaise ?_))
  show wpAny _ _ (Builtin.SmallTypes.nextOf (.ref i2) >>=_) _ _ _
  refine wpAny_bind (wpAny_nextOf_list_end hh (((g2.extBut m1.extBut N.d).extBut m2.extBut N.j.symm).extBut m3.extBut N.i.symm) (((hl.extBut m1.extBut nl.1).extBut m2.extBut nl.2.2.1).extBut m3.extBut nl.2.1) hy fun j4 e m4 he=>?_);obtain ⟨oe,q1,q2⟩:=he;have z4:IsZip j4 z ti tk .ellipsis:=m4 _ _ N.d.symm (m3.extBut _ _ N.b.symm (m2.extBut _ _ N.c.symm z1));have hez:e≠z:=fun x=>by subst x;rw [z4] at q1;cases q1;simp at q2
  refine wpAny_setField_rec z4 (by simp) fun j5 _ m5=>hE j5 e (fun c o c1 c2 c3 c4 x=>m5.extBut _ _ c1 (m4 _ _ c4 (m3.extBut _ _ c2 (m2.extBut _ _ c3 (m1.extBut _ _ c1 x))))) ⟨oe,m5.extBut _ _ hez q1,q2⟩
noncomputable abbrev zh1 (h:Heap) (t:Addr):Heap:=h.push { cls:= .type "tuple_iterator",data:= .fields #[.ref t,.int 0 0] }
noncomputable abbrev zh2 (h:Heap) (t l:Addr):Heap:=(zh1 h t).push { cls:= .type "list_iterator",data:= .fields #[.ref l,.int 0 0] }
noncomputable abbrev zh3 (h:Heap) (t l:Addr):Heap:=(zh2 h t l).push { cls:= .type "tuple",data:= .seq #[.ref h.objs.size,.ref (zh1 h t).objs.size] }
noncomputable abbrev zh4 (h:Heap) (t l:Addr):Heap:=(zh3 h t l).push { cls:= .type "tuple",data:= .seq #[.none,.none] }
noncomputable abbrev zh5 (h:Heap) (t l:Addr):Heap:=(zh4 h t l).push { cls:= .type "zip",data:= .fields #[.none,.bool false,.bool false,.ref (zh2 h t l).objs.size,.ref (zh3 h t l).objs.size] }
theorem Of (t l:Addr) (xs ys:Array Value):Meets (Builtin.«zip.__new__» ⟨[.type "zip",.ref t,.ref l],[]⟩) (fun _ R s=>s.heap.IsTuple t xs∧s.heap.IsList l ys∧R (.ok (.ret (.ref (zh4 s.heap t l).objs.size))) { s with heap:=zh5 s.heap t l }):=
 .of_wp fun prog w A R s h=>by
  obtain ⟨hp,g,d,tk,os⟩:=s;obtain ⟨ht,hl,h⟩:=h;have hsub:=sub_zip;have hT:Heap.IsTuple (Shared.heap ⟨hp,g,d,tk,os⟩) t xs:=ht;have hL:Heap.IsList (Shared.heap ⟨hp.push { cls:= .type "tuple_iterator",data:= .fields #[.ref t,.int 0 0] },g,d,tk,os⟩) l ys:=Heap.IsList.push hl _
  wp_walk using wpAny_pyIter_tuple hT,wpAny_pyIter_list hL
  exact ⟨_,rfl,h⟩
theorem Lj {t l:Addr} {xs ys:Array Value} {Q:Value→Shared→Prop} (ht:s.heap.IsTuple t xs) (hl:s.heap.IsList l ys)
  (h: ∀h',Zs h' (s.heap.objs.size+4) (s.heap.objs.size+2) (s.heap.objs.size+3) s.heap.objs.size (s.heap.objs.size+1) t l 0 .none→(∀c o,s.heap.get? c=some o→h'.get? c=some o)→Q (.ref (s.heap.objs.size+4)) { s with heap:=h' }):
  wpAny (model prog w) A (call (.type "zip") [.ref t,.ref l]) Q E s:=by
 refine callType_new F.called_zip (by decide) (F.typeCall_zip_2 _ _) (F.newCall_zip_2 _ _) (fun obj=>F.args_object_init_3 obj _ _) F.entry_zip_new (Of t l xs ys) ⟨ht,hl,?_⟩;have z1:(zh1 s.heap t).objs.size=s.heap.objs.size+1:=Heap.size_push ..;have z2:(zh2 s.heap t l).objs.size=s.heap.objs.size+2:=by rw [Heap.size_push,z1]
 have z3:(zh3 s.heap t l).objs.size=s.heap.objs.size+3:=by rw [Heap.size_push,z2]
 have z4:(zh4 s.heap t l).objs.size=s.heap.objs.size+4:=by rw [Heap.size_push,z3]
 have g5:(zh5 s.heap t l).get? (zh4 s.heap t l).objs.size=some _:=Heap.get?_push_size _ rfl;have g4:(zh5 s.heap t l).get? (zh3 s.heap t l).objs.size=some _:=get?_push_of_some _ (Heap.get?_push_size _ rfl);have g3:(zh5 s.heap t l).get? (zh2 s.heap t l).objs.size=some _:=get?_push_of_some _ (get?_push_of_some _ (Heap.get?_push_size _ rfl));have g2:(zh5 s.heap t l).get? (zh1 s.heap t).objs.size=some _:=get?_push_of_some _ (get?_push_of_some _ (get?_push_of_some _ (Heap.get?_push_size _ rfl)));have g1:(zh5 s.heap t l).get? s.heap.objs.size=some _:=get?_push_of_some _ (get?_push_of_some _ (get?_push_of_some _ (get?_push_of_some _ (Heap.get?_push_size _ rfl))))
 show _∧_
 rw [z2,z3,z4] at g5;rw [z1,z2] at g3;rw [z3] at g4;rw [z1] at g2;rw [z4];exact ⟨⟨_,g5,rfl⟩,h _ ⟨g5,g3,⟨_,_,g4⟩,⟨_,g1,rfl,rfl⟩,⟨_,g2,rfl,rfl⟩⟩ fun c o x=>
  get?_push_of_some _ (get?_push_of_some _ (get?_push_of_some _ (get?_push_of_some _ (get?_push_of_some _ x))))⟩
end
end RG
end
section
namespace RG
open PySem PySem.Spec PyProof.Rows L2
section
variable {X:Cx} {pins:List (Addr×Obj)} {σ:L2.St} {H:Hp} {s:Shared} {h':Heap}
theorem Cl {ch:List Addr} {t':Nat} {T:Addr} {o:HO} (I:Inv X pins σ H s) (hf: ∀b∈ch,FpOk X pins H b) (k: ∀b u,b ∉ ch→s.heap.get? b=some u→h'.get? b=some u) (hT:s.heap.objs.size≤T)
  (new:ObjOk X.prog X.w (upd H T o) h' T o):Inv X pins σ (upd H T o) { s with heap:=h',toks:=t' }:=by
 have nT:H T=none:=I.hok.fresh hT;have nch: ∀b u,H b=some u→b ∉ ch:=fun b u e hb=>by rw [(hf b hb).1] at e;cases e
 have neT: ∀b u,s.heap.get? b=some u→b≠T:=fun b u e z=>by
  have:=lt_size e
  rw [z] at this;exact absurd (Nat.lt_of_lt_of_le this hT) (Nat.lt_irrefl _)
 refine I.step (g':=s.gens) (d':=s.drawn) (ch:=ch) (fun b hb=>?_) (fun b u _ _ hc e _=>k b u hc e) (fun b u _ _ hc e _=>⟨u.slots,k b u hc e⟩) (fun b u hc e hn=>?_) (fun b u hc e=>⟨u,k b u hc e⟩)
  (fun b ys e=>?_) (fun b u w' e=>?_) (fun b ps e=>?_) (fun m hm=>?_) (fun b u e=>?_) I.bare
 ·obtain ⟨f0,f1,f2,f3,f4,f5⟩:=hf b hb
  exact ⟨f3,f1,f4,f5⟩
 ·rw [a9 (neT b u e)]
  exact hn
 ·rw [a9 (bf e nT)]
  exact e
 ·rw [a9 (bf e nT)]
  exact e
 ·rw [a9 (bf e nT)]
  exact ⟨#[],by rw [e];simp⟩
 ·obtain ⟨u,es,ep,ho,r⟩:=hm
  exact ⟨u,es,ep,k _ u (fun z=>(hf _ z).2.1 rfl) ho,r⟩
 ·by_cases hb:b=T
  ·subst hb
   rw [bd] at e;cases e;exact new
  ·rw [a9 hb] at e
   refine (I.hok b u e).stay (fun c v hc q=>k c v ?_ q) (fun c q=>?_) fun c ys q=>?_
   ·rcases hc with z | z
    ·rw [z];exact nch b u e
    ·exact nch c _ z
   ·rw [a9 (bf q nT)]
    exact q
   ·rw [a9 (bf q nT)]
    exact q
theorem nk {ch:List Addr} {t':Nat} (I:Inv X pins σ H s) (hf: ∀b∈ch,FpOk X pins H b) (k: ∀b u,b ∉ ch→s.heap.get? b=some u→h'.get? b=some u):Inv X pins σ H { s with heap:=h',toks:=t' }:=by
 have nch: ∀b u,H b=some u→b ∉ ch:=fun b u e hb=>by rw [(hf b hb).1] at e;cases e
 refine I.step (g':=s.gens) (d':=s.drawn) (ch:=ch) (fun b hb=>?_) (fun b u _ _ hc e _=>k b u hc e) (fun b u _ _ hc e _=>⟨u.slots,k b u hc e⟩) (fun b u hc e hn=>hn) (fun b u hc e=>⟨u,k b u hc e⟩)
  (fun b ys e=>e) (fun b u w' e=>e) (fun b ps e=>⟨#[],by rw [e];simp⟩) (fun m hm=>?_) (fun b u e=>?_) I.bare
 ·obtain ⟨f0,f1,f2,f3,f4,f5⟩:=hf b hb
  exact ⟨f3,f1,f4,f5⟩
 ·obtain ⟨u,es,ep,ho,r⟩:=hm
  exact ⟨u,es,ep,k _ u (fun z=>(hf _ z).2.1 rfl) ho,r⟩
 ·refine (I.hok b u e).stay (fun c v hc q=>k c v ?_ q) (fun c q=>q) fun c ys q=>q
  rcases hc with z | z
  ·rw [z];exact nch b u e
  ·exact nch c _ z
theorem Im {a b:Addr} {o:Obj} (I:Inv X pins σ H s) (hk:X.K.lookup a=some o) (f:FpOk X pins H b):a≠b:=fun z=>by
 subst z;obtain ⟨f0,f1,f2,f3,f4,f5⟩:=f;have e:=I.ok.mod.kin a o hk;rcases f3 with f3 | f3
 ·exact I.ok.noex a o e f3
 ·exact absurd (Nat.lt_of_lt_of_le (lt_size e) (Nat.le_trans I.ok.bsz f3)) (Nat.lt_irrefl _)
theorem Rq {a b:Addr} {u:HO} (h:Rd H a u) (f:FpOk X pins H b):a≠b:=fun z=>by
 subst z;rcases h with h | ⟨o,h⟩ <;> (rw [f.1] at h;cases h)
theorem vw {a b:Addr} {xs:List V} (I:Inv X pins σ H s) (h:SqT X.K H a xs) (f:FpOk X pins H b):a≠b:=by
 rcases h with h | ⟨o,its,n,hk,_⟩
 ·exact Rq h f
 ·exact Im I hk f
theorem ei {a b:Addr} {xs:List V} (I:Inv X pins σ H s) (h:SqL X.K H a xs) (f:FpOk X pins H b):a≠b:=by
 rcases h with h | ⟨o,its,n,hk,_⟩
 ·exact Rq h f
 ·exact Im I hk f
end
noncomputable def Itz (K:Frag) (t l:Addr):It:=
 ⟨fun i H=>∃xs ys x y,SqT K H t xs∧SqL K H l ys∧xs[i]?=some x∧ys[i]?=some y,fun i H v H'=>∃p x y,v= .ref p∧H p=none∧H'=upd H p (.tup [x,y])∧(∀xs,SqT K H t xs→xs[i]?=some x)∧ ∀ys,SqL K H l ys→ys[i]?=some y,fun i H=>∃xs ys,SqT K H t xs∧SqL K H l ys∧(xs.length≤i∨ys.length≤i)⟩
theorem Lk {P:Program} {w:World} {K:Frag} {es:List Expr} {x1} {pos:Pos} {z ti tk i1 i2 t l:Addr} (N:Zd z ti tk i1 i2):
  Turn P w K (.Tuple es x1 pos) (Itz K t l) [z,ti,tk,i1,i2] z (fun i h=>Zs h z ti tk i1 i2 t l i .none) where
 mem:=by simp
 obj:=fun i h st b hb=>by
  obtain ⟨gz,gi,⟨a,c,gk⟩,⟨o1,e1,_,d1⟩,⟨o2,e2,_,d2⟩⟩:=st;simp only [mem_cons,not_mem_nil,or_false] at hb;rcases hb with rfl | rfl | rfl | rfl | rfl
  ·exact ⟨_,gz,fun v q=>nomatch q⟩
  ·exact ⟨_,gi,fun v q=>nomatch q⟩
  ·exact ⟨_,gk,fun v q=>nomatch q⟩
  ·exact ⟨_,e1,fun v q=>by rw [d1] at q;cases q⟩
  ·exact ⟨_,e2,fun v q=>by rw [d2] at q;cases q⟩
 keep:=fun i h h' st k=>by
  obtain ⟨gz,gi,⟨a,c,gk⟩,g1,g2⟩:=st;exact ⟨k z (by simp) _ gz,k ti (by simp) _ gi,⟨a,c,k tk (by simp) _ gk⟩,g1.at fun o e=>k i1 (by simp) o e,g2.at fun o e=>k i2 (by simp) o e⟩
 item:=by
  intro X hP hw hK hc i pins s σ H E I hf st hg;subst hP hw hK;obtain ⟨xs,ys,x,y,ht,hl,hx,hy⟩:=hg;obtain ⟨tv,rt,pt,_⟩:=I.tuple ht;obtain ⟨lv,rl,pl,_⟩:=I.list hl;obtain ⟨ux,hux,rux⟩:=rt.get hx;obtain ⟨uy,huy,ruy⟩:=rl.get hy;have fz:=hf z (by simp);have fk:=hf tk (by simp);have f1:=hf i1 (by simp);have f2:=hf i2 (by simp);have hT:s.TypeIs (.ref z) "zip":=⟨_,st.zip,rfl⟩
  unfold pyNext;refine wpAny_bind (wpAny_attempt (wpAny_callSpecial?_slot (name:=Str.ofString "__next__") hT F.slot_zip_next (wpAny_call_entry F.slot_zip_next hT F.entry_zip_next
   (Lh (Q:=fun v s'=>wpAny (model X.prog X.w) X.A (pure (some v):Sem (Option Value)) _ E s') N st pt pl.isList ⟨vw I ht fz,vw I ht fk,vw I ht f1,vw I ht f2⟩ ⟨ei I hl fz,ei I hl fk,ei I hl f1,ei I hl f2⟩
    (by simpa using hux) (by simpa using huy) fun h' Z' pr kp=>wpAny_pure ?_) (F.args_zip_next_1 _))))
  refine ⟨_,rfl,wpAny_letOwnedTupleGo_zip Z'.zip fun h2 gz sb=>?_⟩;have nT:H s.heap.objs.size=none:=I.hok.fresh (Nat.le_refl _);have I1:Inv X pins σ (upd H s.heap.objs.size (.tup [x,y])) { s with heap:=h',toks:=s.toks }:=Cl I (ch:=[z,tk,i1,i2]) (fun b hb=>hf b (by
   simp only [mem_cons,not_mem_nil,or_false] at hb ⊢;rcases hb with rfl | rfl | rfl | rfl <;> simp)) (fun b u hb e=>kp b u (fun q=>hb (by simp [q])) (fun q=>hb (by simp [q])) (fun q=>hb (by simp [q])) (fun q=>hb (by simp [q])) e) (Nat.le_refl _)
   ⟨by show 2≤sizeLine;decide,[ux,uy],.cons rux (.cons ruy .nil),⟨_,pr,rfl,_,rfl⟩⟩
  have ltn: ∀b∈[z,ti,tk,i1,i2],b≠s.heap.objs.size:=fun b hb q=>by
   have st':=st;obtain ⟨gz,gi,⟨a,c,gk⟩,⟨o1,e1,_,d1⟩,⟨o2,e2,_,d2⟩⟩:=st';simp only [mem_cons,not_mem_nil,or_false] at hb;rcases hb with rfl | rfl | rfl | rfl | rfl
   ·exact absurd (lt_size gz) (by rw [←q];exact Nat.lt_irrefl _)
   ·exact absurd (lt_size gi) (by rw [←q];exact Nat.lt_irrefl _)
   ·exact absurd (lt_size gk) (by rw [←q];exact Nat.lt_irrefl _)
   ·exact absurd (lt_size e1) (by rw [←q];exact Nat.lt_irrefl _)
   ·exact absurd (lt_size e2) (by rw [←q];exact Nat.lt_irrefl _)
  have free: ∀b∈[z,ti,tk,i1,i2],(upd H s.heap.objs.size (.tup [x,y])) b=none:=fun b hb=>by rw [a9 (ltn b hb)];exact (hf b hb).1
  have I2:=I1.turned (t':=s.toks) (h':=h2) (it:=z) (fun b u hb e=>sb.extBut b u hb e) (free z (by simp)) fz.2.1 fz.2.2.2.1 fz.2.2.2.2.1 fz.2.2.2.2.2;obtain ⟨_,gi,⟨a,c,gk⟩,g1,g2⟩:=Z';exact ⟨.ref s.heap.objs.size,_,I2,rfl,⟨_,x,y,rfl,nT,rfl,fun xs' h=>by rw [I.tuple_inj h ht];exact hx,fun ys' h=>by rw [I.list_inj h hl];exact hy⟩,
   ⟨gz,sb.extBut _ _ N.a gi,⟨a,c,sb.extBut _ _ N.b gk⟩,g1.at fun o e=>sb.extBut _ o N.c e,g2.extBut sb.extBut N.d⟩,free⟩
 done:=by
  intro X hP hw hK hc i pins s σ H E I hf st hg;subst hP hw hK;obtain ⟨xs,ys,ht,hl,he⟩:=hg;obtain ⟨tv,rt,pt,_⟩:=I.tuple ht;obtain ⟨lv,rl,pl,_⟩:=I.list hl;have fz:=hf z (by simp);have fk:=hf tk (by simp);have f1:=hf i1 (by simp);have f2:=hf i2 (by simp);have hT:s.TypeIs (.ref z) "zip":=⟨_,st.zip,rfl⟩
  have hend:tv.toArray[i]?=none∨lv.toArray[i]?=none:=by
   rcases he with he | he
   ·exact .inl (by rw [rt.length] at he;simp;exact he)
   ·exact .inr (by rw [rl.length] at he;simp;exact he)
  unfold pyNext;refine wpAny_bind (wpAny_attempt (wpAny_callSpecial?_slot (name:=Str.ofString "__next__") hT F.slot_zip_next (wpAny_call_entry F.slot_zip_next hT F.entry_zip_next
   (Li (I.ok.hd hc) N st pt pl.isList ⟨vw I ht fz,vw I ht fk,vw I ht f1,vw I ht f2⟩ ⟨ei I hl fz,ei I hl fk,ei I hl f1,ei I hl f2⟩ hend fun h' e kp he=>?_) (F.args_zip_next_1 _))))
  obtain ⟨o,ho,hc⟩:=he;refine wpAny_bind (wpAny_isInstance (T:="StopIteration") (b:=true) ⟨o,ho,hc⟩ isSubtype_stop ?_);exact wpAny_pure ⟨rfl,nk (t':=s.toks) I (ch:=[z,tk,i1,i2]) (fun b hb=>hf b (by
   simp only [mem_cons,not_mem_nil,or_false] at hb ⊢;rcases hb with rfl | rfl | rfl | rfl <;> simp)) fun b u hb e=>kp b u (fun q=>hb (by simp [q])) (fun q=>hb (by simp [q])) (fun q=>hb (by simp [q])) (fun q=>hb (by simp [q])) e⟩
 self:=fun _ _ _ _ _ st h=>wpAny_pyIter_zip st.zip h
theorem Rr (n:Nat):Zd (n+4) (n+2) (n+3) n (n+1):=
 ⟨(by omega:(n+2:Nat)≠n+4),(by omega:(n+3:Nat)≠n+4),(by omega:(n:Nat)≠n+4),(by omega:(n+1:Nat)≠n+4),(by omega:(n+2:Nat)≠n+3),(by omega:(n+2:Nat)≠n),(by omega:(n+2:Nat)≠n+1),
  (by omega:(n+3:Nat)≠n),(by omega:(n+3:Nat)≠n+1),(by omega:(n:Nat)≠n+1)⟩
@[simp] noncomputable def zipItems:List D→Option (List D)
 | [.tuple xs,.list ys]=>some (List.zipWith (fun a b=>PyData.tuple [a,b]) xs ys)
 | _=>none
theorem A6 {as ds:List D} (e:zipItems as=some ds): ∃xs ys,as=[.tuple xs,.list ys]∧ds=List.zipWith (fun a b=>PyData.tuple [a,b]) xs ys:=by
 unfold zipItems at e;split at e
 ·cases e;exact ⟨_,_,rfl,rfl⟩
 ·cases e
noncomputable def zipOf (m:Ren→Option (List D)):Ren→Option (List D):=fun ρ=>(m ρ).bind zipItems
theorem M3 {X:Cx} {es:List Expr} {x1} {tp a b p pos} {m:Ren→Option (List D)} (hg:Gl X "zip") (hm:X.mg "zip"=none) (ha:XA X [a,b] m) (hs:starEach [a,b] X.env=[(false,eval a X.env),(false,eval b X.env)]:=by rfl) (hs2:starEach [b] X.env=[(false,eval b X.env)]:=by rfl):
  XI X (.Tuple es x1 tp) (.Call (.Name "zip" p) [a,b] [] pos) (zipOf m):=by
 obtain ⟨ha⟩:=ha;refine ⟨?_⟩;intro pins s σ H R I h;obtain ⟨ρ,ds,ro,e,q⟩:=h;obtain ⟨as,has,e⟩:=bind_some e;refine Call_ (zw I hg hm boot_zip (PyProof.Rows.callWith_type1 (thn (ha pos pins s σ H (fun vs H'=>Same H H'∧Are X.K H' vs as) I ⟨ρ,as,ro,has,fun vs H' a b=>⟨a,b⟩⟩) fun us s1 h0z=>?_) (by rw [hs,hs2]) (by rw [hs2];rfl)));obtain ⟨vs,H1,I1,r1,sm1,ar1⟩:=h0z;obtain ⟨xs,ys,ha2,hd2⟩:=A6 e;subst ha2;subst hd2;obtain ⟨v1,v2,rfl,j1,j2⟩:=ar1.two;cases j1 with
 | @tup t vt _ h1 h2=>
  cases j2 with
  | @lst l vl _ h3 h4=>
   cases r1 with
   | cons r rr=>
    cases rr with
    | cons r' rr=>
     cases rr;cases r;cases r';obtain ⟨tv,rt,pt,_⟩:=I1.tuple h1;obtain ⟨lv,rl,pl,_⟩:=I1.list (.inl h3);refine Lj (show s1.heap.IsTuple t tv.toArray from pt) pl.isList fun h' Z kp=>?_
     refine wpAny_pyIter_zip Z.zip ?_;have sz: ∀c:Nat,c < 5→s1.heap.objs.size≤s1.heap.objs.size+c:=fun c _=>Nat.le_add_right _ _;refine ⟨_,[s1.heap.objs.size+4,s1.heap.objs.size+2,s1.heap.objs.size+3,s1.heap.objs.size,s1.heap.objs.size+1],_,Itz X.K t l,H1,rfl,I1.kept (t':=s1.toks) kp,
      Lk (Rr _),Z,fun b hb=>?_,q _ H1 sm1 fun i H2 s2=>?_⟩
     ·have hb':s1.heap.objs.size≤b:=by
       simp only [mem_cons,not_mem_nil,or_false] at hb;rcases hb with rfl | rfl | rfl | rfl | rfl
       ·exact Nat.le_add_right _ _
       ·exact Nat.le_add_right _ _
       ·exact Nat.le_add_right _ _
       ·exact Nat.le_refl _
       ·exact Nat.le_add_right _ _
      exact I1.fpOk hb' (I1.hok.fresh hb')
     ·refine ⟨fun d hd=>?_,fun hl=>?_⟩
      ·rw [List.getElem?_zipWith] at hd
       cases hx:xs[i]? with
       | none=>rw [hx] at hd;cases hd
       | some x=>
        cases hy:ys[i]? with
        | none=>rw [hx,hy] at hd;cases hd
        | some y=>
         rw [hx,hy] at hd;cases hd;obtain ⟨vx,hvx,ix⟩:=h2.get hx;obtain ⟨vy,hvy,iy⟩:=h4.get hy;refine ⟨⟨vt,vl,vx,vy,vp s2 h1,.inl (u8 s2 h3),hvx,hvy⟩,fun v H3 hv=>?_⟩;obtain ⟨p,x',y',rfl,np,rfl,e1,e2⟩:=hv;have e1:=e1 vt (vp s2 h1);have e2:=e2 vl (.inl (u8 s2 h3));rw [hvx] at e1;rw [hvy] at e2;cases e1;cases e2;exact ⟨fb np,Is.newT np (.cons (ix.up s2) (.cons (iy.up s2) .nil))⟩
      ·rw [List.length_zipWith] at hl
       refine ⟨vt,vl,vp s2 h1,.inl (u8 s2 h3),?_⟩;rw [h2.length,h4.length];omega
end RG
end
section
namespace RG
open PySem PySem.Spec PyProof.Rows L2
section
variable {prog:Program} {w:World} {A:Around} {E:Value→Shared→Prop} {s:Shared}
structure ZsL (h:Heap) (z ti tk i1 i2 t l:Addr) (k:Nat) (out:Value):Prop where
 zip:IsZip h z ti tk out
 its:IsPair h ti (.ref i1) (.ref i2)
 own: ∃a b,IsPair h tk a b
 fst:h.IsListIter i1 t k
 snd:h.IsListIter i2 l k
theorem Io {z ti tk i1 i2 t l:Addr} {k:Nat} {xs ys:Array Value} {x y:Value} {Q:Value→Shared→Prop} (N:Zd z ti tk i1 i2) (Z:ZsL s.heap z ti tk i1 i2 t l k .none)
  (ht:s.heap.IsList t xs) (hl:s.heap.IsList l ys) (nt:t≠z∧t≠tk∧t≠i1∧t≠i2) (nl:l≠z∧l≠tk∧l≠i1∧l≠i2) (hx:xs[k]?=some x) (hy:ys[k]?=some y)
  (hQ: ∀h',ZsL h' z ti tk i1 i2 t l (k+1) (rawInt s.heap.objs.size)→IsPair h' s.heap.objs.size x y→(∀c o,c≠z→c≠tk→c≠i1→c≠i2→s.heap.get? c=some o→h'.get? c=some o)→Q (.ref s.heap.objs.size) { s with heap:=h' }):
  wpAny (model prog w) A (Builtin.«zip.__next__» ⟨[.ref z],[]⟩) (fun fin s'=>∃v,fin= .done (.ret v)∧Q v s') E s:=by
 obtain ⟨gz,gi,⟨a,b,gk⟩,g1,g2⟩:=Z
 show wpAny _ _ (field (.ref z) 2 >>=_) _ _ _
 refine wpAny_bind (wpAny_field gz rfl (x:= .bool false) rfl ?_)
 show wpAny _ _ (field (.ref z) 3 >>=_) _ _ _
 refine wpAny_bind (wpAny_field gz rfl (x:= .ref ti) rfl ?_);refine wpAny_bind (wpAny_seqItems gi rfl ?_)
 show wpAny _ _ (Builtin.SmallTypes.ownedTupleIsFree (.ref z) >>=_) _ _ _
 refine wpAny_bind ?_;unfold Builtin.SmallTypes.ownedTupleIsFree;refine wpAny_bind (wpAny_field gz rfl (x:= .none) rfl (wpAny_pure ?_));simp only [if_true];refine wpAny_bind (wpAny_rule ?_);refine wpAny_bind (wpAny_field gz rfl (x:= .ref tk) rfl ?_);refine wpAny_bind (wpAny_setField_rec gz (by simp) fun j1 z1 m1=>?_)
 replace z1:IsZip j1 z ti tk .ellipsis:=z1
 refine wpAny_bind ?_;simp only [List.zipIdx_cons,List.zipIdx_nil,List.forIn_cons,List.forIn_nil];refine wpAny_bind (wpAny_bind (wpAny_onRaise ?_))
 show wpAny _ _ (Builtin.SmallTypes.nextOf (.ref i1) >>=_) _ _ _
 refine wpAny_bind (wpAny_nextOf_list_item (g1.extBut m1.extBut N.c) (ht.extBut m1.extBut nt.1) hx fun j2 f2 m2=>wpAny_pure ?_);have k2:IsPair j2 tk a b:=m2.extBut _ _ N.h (m1.extBut _ _ N.b gk);refine wpAny_bind (wpAny_seqItems k2 rfl ?_);refine wpAny_bind (wpAny_updateSeq_pair k2 fun j3 k3 m3=>?_)
 replace k3:IsPair j3 tk x b:=k3
 refine wpAny_bind (wpAny_letGo (wpAny_pure ?_));refine wpAny_bind (wpAny_bind (wpAny_onRaise ?_))
 show wpAny _ _ (Builtin.SmallTypes.nextOf (.ref i2) >>=_) _ _ _
 refine wpAny_bind (wpAny_nextOf_list_item (((g2.extBut m1.extBut N.d).extBut m2.extBut N.j.symm).extBut m3.extBut N.i.symm) (((hl.extBut m1.extBut nl.1).extBut m2.extBut nl.2.2.1).extBut m3.extBut nl.2.1) hy fun j4 f4 m4=>wpAny_pure ?_);have k4:IsPair j4 tk x b:=m4.extBut _ _ N.i k3;refine wpAny_bind (wpAny_seqItems k4 rfl ?_);refine wpAny_bind (wpAny_updateSeq_pair k4 fun j5 k5 m5=>?_)
 replace k5:IsPair j5 tk x y:=k5
 refine wpAny_bind (wpAny_letGo (wpAny_pure (wpAny_pure ?_)));refine wpAny_bind (wpAny_seqItems k5 rfl ?_);refine wpAny_bind (wpAny_newTuple ?_);have hsz:j5.objs.size=s.heap.objs.size:=by rw [m5.1,m4.1,m3.1,m2.1,m1.1]
 have z5:IsZip j5 z ti tk .ellipsis:=m5.extBut _ _ N.b.symm (m4.extBut _ _ N.d.symm (m3.extBut _ _ N.b.symm (m2.extBut _ _ N.c.symm z1)));have keep5: ∀c o,c≠z→c≠tk→c≠i1→c≠i2→s.heap.get? c=some o→j5.get? c=some o:=fun c o c1 c2 c3 c4 q=>
  m5.extBut _ _ c2 (m4.extBut _ _ c4 (m3.extBut _ _ c2 (m2.extBut _ _ c3 (m1.extBut _ _ c1 q))))
 have f5:j5.IsListIter i1 t (k+1):=f2.at fun o q=>m5.extBut _ o N.h.symm (m4.extBut _ o N.j (m3.extBut _ o N.h.symm q))
 have h5:j5.IsListIter i2 l (k+1):=f4.extBut m5.extBut N.i.symm;have zlt:z < j5.objs.size:=lt_size z5
 show wpAny _ _ (Builtin.SmallTypes.ownedTupleHandOut (.ref z) (.ref j5.objs.size) >>=_) _ _ _
 refine wpAny_bind ?_;unfold Builtin.SmallTypes.ownedTupleHandOut;have z6:IsZip (j5.push { cls:= .type "tuple",data:= .seq #[x,y] }) z ti tk .ellipsis:=get?_push_of_some _ z5;refine wpAny_bind (wpAny_setField_rec z6 (by simp) fun j7 z7 m7=>?_)
 replace z7:IsZip j7 z ti tk (rawInt j5.objs.size):=z7
 refine wpAny_setField_rec z7 (by simp) fun j8 z8 m8=>?_
 replace z8:IsZip j8 z ti tk (rawInt j5.objs.size):=z8
 have up: ∀c o,c≠z→j5.get? c=some o→j8.get? c=some o:=fun c o c1 q=>m8.extBut _ _ c1 (m7.extBut _ _ c1 (get?_push_of_some _ q));have t8:IsPair j8 j5.objs.size x y:=m8.extBut _ _ (Nat.ne_of_gt zlt) (m7.extBut _ _ (Nat.ne_of_gt zlt) (Heap.get?_push_size _ rfl));rw [hsz] at z8 t8;refine wpAny_pure ⟨_,rfl,?_⟩
 show Q (.ref j5.objs.size) _
 rw [hsz];exact hQ j8 ⟨z8,up _ _ N.a (keep5 _ _ N.a N.e N.f N.g gi),⟨_,_,up _ _ N.b k5⟩,f5.at fun o q=>up _ o N.c q,h5.at fun o q=>up _ o N.d q⟩ t8 fun c o c1 c2 c3 c4 q=>up c o c1 (keep5 c o c1 c2 c3 c4 q)
theorem Ip {z ti tk i1 i2 t l:Addr} {k:Nat} {xs ys:Array Value} {Q:Fin→Shared→Prop} (hh:A.handled=none) (N:Zd z ti tk i1 i2) (Z:ZsL s.heap z ti tk i1 i2 t l k .none)
  (ht:s.heap.IsList t xs) (hl:s.heap.IsList l ys) (nt:t≠z∧t≠tk∧t≠i1∧t≠i2) (nl:l≠z∧l≠tk∧l≠i1∧l≠i2) (hend:xs[k]?=none∨ys[k]?=none)
  (hE: ∀h' e,(∀c o,c≠z→c≠tk→c≠i1→c≠i2→s.heap.get? c=some o→h'.get? c=some o)→(∃o,h'.get? e=some o∧o.cls= .type "StopIteration")→E (.ref e) { s with heap:=h' }):
  wpAny (model prog w) A (Builtin.«zip.__next__» ⟨[.ref z],[]⟩) Q E s:=by
 obtain ⟨gz,gi,⟨a,b,gk⟩,g1,g2⟩:=Z
 show wpAny _ _ (field (.ref z) 2 >>=_) _ _ _
 refine wpAny_bind (wpAny_field gz rfl (x:= .bool false) rfl ?_)
 show wpAny _ _ (field (.ref z) 3 >>=_) _ _ _
 refine wpAny_bind (wpAny_field gz rfl (x:= .ref ti) rfl ?_);refine wpAny_bind (wpAny_seqItems gi rfl ?_)
 show wpAny _ _ (Builtin.SmallTypes.ownedTupleIsFree (.ref z) >>=_) _ _ _
 refine wpAny_bind ?_;unfold Builtin.SmallTypes.ownedTupleIsFree;refine wpAny_bind (wpAny_field gz rfl (x:= .none) rfl (wpAny_pure ?_));simp only [if_true];refine wpAny_bind (wpAny_rule ?_);refine wpAny_bind (wpAny_field gz rfl (x:= .ref tk) rfl ?_);refine wpAny_bind (wpAny_setField_rec gz (by simp) fun j1 z1 m1=>?_)
 replace z1:IsZip j1 z ti tk .ellipsis:=z1
 refine wpAny_bind ?_;simp only [List.zipIdx_cons,List.zipIdx_nil,List.forIn_cons,List.forIn_nil];refine wpAny_bind (wpAny_bind (wpAny_onRaise ?_))
 show wpAny _ _ (Builtin.SmallTypes.nextOf (.ref i1) >>=_) _ _ _
 cases hx:xs[k]? with
 | none=>
  refine wpAny_bind (wpAny_nextOf_list_end hh (g1.extBut m1.extBut N.c) (ht.extBut m1.extBut nt.1) hx fun j2 e m2 he=>?_);obtain ⟨oe,q1,q2⟩:=he;have z2:IsZip j2 z ti tk .ellipsis:=m2 _ _ N.c.symm z1;have hez:e≠z:=fun x=>by subst x;rw [z2] at q1;cases q1;simp at q2
  refine wpAny_setField_rec z2 (by simp) fun j3 _ m3=>hE j3 e (fun c o c1 _ c3 _ x=>m3.extBut _ _ c1 (m2 _ _ c3 (m1.extBut _ _ c1 x))) ⟨oe,m3.extBut _ _ hez q1,q2⟩
 | some x=>
  have hy:ys[k]?=none:=by
   rcases hend with h | h
   ·rw [hx] at h;cases h
   ·exact h
  refine wpAny_bind (wpAny_nextOf_list_item (g1.extBut m1.extBut N.c) (ht.extBut m1.extBut nt.1) hx fun j2 f2 m2=>wpAny_pure ?_);have k2:IsPair j2 tk a b:=m2.extBut _ _ N.h (m1.extBut _ _ N.b gk);refine wpAny_bind (wpAny_seqItems k2 rfl ?_);refine wpAny_bind (wpAny_updateSeq_pair k2 fun j3 k3 m3=>?_);refine wpAny_bind (wpAny_letGo (wpAny_pure ?_));refine wpAny_bind (wpAny_bind (wpAny_onRaise ?_))
  show wpAny _ _ (Builtin.SmallTypes.nextOf (.ref i2) >>=_) _ _ _
  refine wpAny_bind (wpAny_nextOf_list_end hh (((g2.extBut m1.extBut N.d).extBut m2.extBut N.j.symm).extBut m3.extBut N.i.symm) (((hl.extBut m1.extBut nl.1).extBut m2.extBut nl.2.2.1).extBut m3.extBut nl.2.1) hy fun j4 e m4 he=>?_);obtain ⟨oe,q1,q2⟩:=he;have z4:IsZip j4 z ti tk .ellipsis:=m4 _ _ N.d.symm (m3.extBut _ _ N.b.symm (m2.extBut _ _ N.c.symm z1));have hez:e≠z:=fun x=>by subst x;rw [z4] at q1;cases q1;simp at q2
  refine wpAny_setField_rec z4 (by simp) fun j5 _ m5=>hE j5 e (fun c o c1 c2 c3 c4 x=>m5.extBut _ _ c1 (m4 _ _ c4 (m3.extBut _ _ c2 (m2.extBut _ _ c3 (m1.extBut _ _ c1 x))))) ⟨oe,m5.extBut _ _ hez q1,q2⟩
noncomputable abbrev zh1L (h:Heap) (t:Addr):Heap:=h.push { cls:= .type "list_iterator",data:= .fields #[.ref t,.int 0 0] }
noncomputable abbrev zh2L (h:Heap) (t l:Addr):Heap:=(zh1L h t).push { cls:= .type "list_iterator",data:= .fields #[.ref l,.int 0 0] }
noncomputable abbrev zh3L (h:Heap) (t l:Addr):Heap:=(zh2L h t l).push { cls:= .type "tuple",data:= .seq #[.ref h.objs.size,.ref (zh1L h t).objs.size] }
noncomputable abbrev zh4L (h:Heap) (t l:Addr):Heap:=(zh3L h t l).push { cls:= .type "tuple",data:= .seq #[.none,.none] }
noncomputable abbrev zh5L (h:Heap) (t l:Addr):Heap:=(zh4L h t l).push { cls:= .type "zip",data:= .fields #[.none,.bool false,.bool false,.ref (zh2L h t l).objs.size,.ref (zh3L h t l).objs.size] }
theorem Ll (t l:Addr) (xs ys:Array Value):Meets (Builtin.«zip.__new__» ⟨[.type "zip",.ref t,.ref l],[]⟩) (fun _ R s=>s.heap.IsList t xs∧s.heap.IsList l ys∧R (.ok (.ret (.ref (zh4L s.heap t l).objs.size))) { s with heap:=zh5L s.heap t l }):=
 .of_wp fun prog w A R s h=>by
  obtain ⟨hp,g,d,tk,os⟩:=s;obtain ⟨ht,hl,h⟩:=h;have hsub:=sub_zip;have hT:Heap.IsList (Shared.heap ⟨hp,g,d,tk,os⟩) t xs:=ht;have hL:Heap.IsList (Shared.heap ⟨hp.push { cls:= .type "list_iterator",data:= .fields #[.ref t,.int 0 0] },g,d,tk,os⟩) l ys:=Heap.IsList.push hl _
  wp_walk using wpAny_pyIter_list hT,wpAny_pyIter_list hL
  exact ⟨_,rfl,h⟩
theorem Iq {t l:Addr} {xs ys:Array Value} {Q:Value→Shared→Prop} (ht:s.heap.IsList t xs) (hl:s.heap.IsList l ys)
  (h: ∀h',ZsL h' (s.heap.objs.size+4) (s.heap.objs.size+2) (s.heap.objs.size+3) s.heap.objs.size (s.heap.objs.size+1) t l 0 .none→(∀c o,s.heap.get? c=some o→h'.get? c=some o)→Q (.ref (s.heap.objs.size+4)) { s with heap:=h' }):
  wpAny (model prog w) A (call (.type "zip") [.ref t,.ref l]) Q E s:=by
 refine callType_new F.called_zip (by decide) (F.typeCall_zip_2 _ _) (F.newCall_zip_2 _ _) (fun obj=>F.args_object_init_3 obj _ _) F.entry_zip_new (Ll t l xs ys) ⟨ht,hl,?_⟩;have z1:(zh1L s.heap t).objs.size=s.heap.objs.size+1:=Heap.size_push ..;have z2:(zh2L s.heap t l).objs.size=s.heap.objs.size+2:=by rw [Heap.size_push,z1]
 have z3:(zh3L s.heap t l).objs.size=s.heap.objs.size+3:=by rw [Heap.size_push,z2]
 have z4:(zh4L s.heap t l).objs.size=s.heap.objs.size+4:=by rw [Heap.size_push,z3]
 have g5:(zh5L s.heap t l).get? (zh4L s.heap t l).objs.size=some _:=Heap.get?_push_size _ rfl;have g4:(zh5L s.heap t l).get? (zh3L s.heap t l).objs.size=some _:=get?_push_of_some _ (Heap.get?_push_size _ rfl);have g3:(zh5L s.heap t l).get? (zh2L s.heap t l).objs.size=some _:=get?_push_of_some _ (get?_push_of_some _ (Heap.get?_push_size _ rfl));have g2:(zh5L s.heap t l).get? (zh1L s.heap t).objs.size=some _:=get?_push_of_some _ (get?_push_of_some _ (get?_push_of_some _ (Heap.get?_push_size _ rfl)));have g1:(zh5L s.heap t l).get? s.heap.objs.size=some _:=get?_push_of_some _ (get?_push_of_some _ (get?_push_of_some _ (get?_push_of_some _ (Heap.get?_push_size _ rfl))))
 show _∧_
 rw [z2,z3,z4] at g5;rw [z1,z2] at g3;rw [z3] at g4;rw [z1] at g2;rw [z4];exact ⟨⟨_,g5,rfl⟩,h _ ⟨g5,g3,⟨_,_,g4⟩,⟨_,g1,rfl,rfl⟩,⟨_,g2,rfl,rfl⟩⟩ fun c o x=>
  get?_push_of_some _ (get?_push_of_some _ (get?_push_of_some _ (get?_push_of_some _ (get?_push_of_some _ x))))⟩
end
noncomputable def ItzL (K:Frag) (t l:Addr):It:=
 ⟨fun i H=>∃xs ys x y,SqL K H t xs∧SqL K H l ys∧xs[i]?=some x∧ys[i]?=some y,fun i H v H'=>∃p x y,v= .ref p∧H p=none∧H'=upd H p (.tup [x,y])∧(∀xs,SqL K H t xs→xs[i]?=some x)∧ ∀ys,SqL K H l ys→ys[i]?=some y,fun i H=>∃xs ys,SqL K H t xs∧SqL K H l ys∧(xs.length≤i∨ys.length≤i)⟩
theorem Ir {P:Program} {w:World} {K:Frag} {es:List Expr} {x1} {pos:Pos} {z ti tk i1 i2 t l:Addr} (N:Zd z ti tk i1 i2):
  Turn P w K (.Tuple es x1 pos) (ItzL K t l) [z,ti,tk,i1,i2] z (fun i h=>ZsL h z ti tk i1 i2 t l i .none) where
 mem:=by simp
 obj:=fun i h st b hb=>by
  obtain ⟨gz,gi,⟨a,c,gk⟩,⟨o1,e1,_,d1⟩,⟨o2,e2,_,d2⟩⟩:=st;simp only [mem_cons,not_mem_nil,or_false] at hb;rcases hb with rfl | rfl | rfl | rfl | rfl
  ·exact ⟨_,gz,fun v q=>nomatch q⟩
  ·exact ⟨_,gi,fun v q=>nomatch q⟩
  ·exact ⟨_,gk,fun v q=>nomatch q⟩
  ·exact ⟨_,e1,fun v q=>by rw [d1] at q;cases q⟩
  ·exact ⟨_,e2,fun v q=>by rw [d2] at q;cases q⟩
 keep:=fun i h h' st k=>by
  obtain ⟨gz,gi,⟨a,c,gk⟩,g1,g2⟩:=st;exact ⟨k z (by simp) _ gz,k ti (by simp) _ gi,⟨a,c,k tk (by simp) _ gk⟩,g1.at fun o e=>k i1 (by simp) o e,g2.at fun o e=>k i2 (by simp) o e⟩
 item:=by
  intro X hP hw hK hc i pins s σ H E I hf st hg;subst hP hw hK;obtain ⟨xs,ys,x,y,ht,hl,hx,hy⟩:=hg;obtain ⟨tv,rt,pt,_⟩:=I.list ht;obtain ⟨lv,rl,pl,_⟩:=I.list hl;obtain ⟨ux,hux,rux⟩:=rt.get hx;obtain ⟨uy,huy,ruy⟩:=rl.get hy;have fz:=hf z (by simp);have fk:=hf tk (by simp);have f1:=hf i1 (by simp);have f2:=hf i2 (by simp);have hT:s.TypeIs (.ref z) "zip":=⟨_,st.zip,rfl⟩
  unfold pyNext;refine wpAny_bind (wpAny_attempt (wpAny_callSpecial?_slot (name:=Str.ofString "__next__") hT F.slot_zip_next (wpAny_call_entry F.slot_zip_next hT F.entry_zip_next
   (Io (Q:=fun v s'=>wpAny (model X.prog X.w) X.A (pure (some v):Sem (Option Value)) _ E s') N st pt.isList pl.isList ⟨ei I ht fz,ei I ht fk,ei I ht f1,ei I ht f2⟩ ⟨ei I hl fz,ei I hl fk,ei I hl f1,ei I hl f2⟩
    (by simpa using hux) (by simpa using huy) fun h' Z' pr kp=>wpAny_pure ?_) (F.args_zip_next_1 _))))
  refine ⟨_,rfl,wpAny_letOwnedTupleGo_zip Z'.zip fun h2 gz sb=>?_⟩;have nT:H s.heap.objs.size=none:=I.hok.fresh (Nat.le_refl _);have I1:Inv X pins σ (upd H s.heap.objs.size (.tup [x,y])) { s with heap:=h',toks:=s.toks }:=Cl I (ch:=[z,tk,i1,i2]) (fun b hb=>hf b (by
   simp only [mem_cons,not_mem_nil,or_false] at hb ⊢;rcases hb with rfl | rfl | rfl | rfl <;> simp)) (fun b u hb e=>kp b u (fun q=>hb (by simp [q])) (fun q=>hb (by simp [q])) (fun q=>hb (by simp [q])) (fun q=>hb (by simp [q])) e) (Nat.le_refl _)
   ⟨by show 2≤sizeLine;decide,[ux,uy],.cons rux (.cons ruy .nil),⟨_,pr,rfl,_,rfl⟩⟩
  have ltn: ∀b∈[z,ti,tk,i1,i2],b≠s.heap.objs.size:=fun b hb q=>by
   have st':=st;obtain ⟨gz,gi,⟨a,c,gk⟩,⟨o1,e1,_,d1⟩,⟨o2,e2,_,d2⟩⟩:=st';simp only [mem_cons,not_mem_nil,or_false] at hb;rcases hb with rfl | rfl | rfl | rfl | rfl
   ·exact absurd (lt_size gz) (by rw [←q];exact Nat.lt_irrefl _)
   ·exact absurd (lt_size gi) (by rw [←q];exact Nat.lt_irrefl _)
   ·exact absurd (lt_size gk) (by rw [←q];exact Nat.lt_irrefl _)
   ·exact absurd (lt_size e1) (by rw [←q];exact Nat.lt_irrefl _)
   ·exact absurd (lt_size e2) (by rw [←q];exact Nat.lt_irrefl _)
  have free: ∀b∈[z,ti,tk,i1,i2],(upd H s.heap.objs.size (.tup [x,y])) b=none:=fun b hb=>by rw [a9 (ltn b hb)];exact (hf b hb).1
  have I2:=I1.turned (t':=s.toks) (h':=h2) (it:=z) (fun b u hb e=>sb.extBut b u hb e) (free z (by simp)) fz.2.1 fz.2.2.2.1 fz.2.2.2.2.1 fz.2.2.2.2.2;obtain ⟨_,gi,⟨a,c,gk⟩,g1,g2⟩:=Z';exact ⟨.ref s.heap.objs.size,_,I2,rfl,⟨_,x,y,rfl,nT,rfl,fun xs' h=>by rw [I.list_inj h ht];exact hx,fun ys' h=>by rw [I.list_inj h hl];exact hy⟩,
   ⟨gz,sb.extBut _ _ N.a gi,⟨a,c,sb.extBut _ _ N.b gk⟩,g1.at fun o e=>sb.extBut _ o N.c e,g2.extBut sb.extBut N.d⟩,free⟩
 done:=by
  intro X hP hw hK hc i pins s σ H E I hf st hg;subst hP hw hK;obtain ⟨xs,ys,ht,hl,he⟩:=hg;obtain ⟨tv,rt,pt,_⟩:=I.list ht;obtain ⟨lv,rl,pl,_⟩:=I.list hl;have fz:=hf z (by simp);have fk:=hf tk (by simp);have f1:=hf i1 (by simp);have f2:=hf i2 (by simp);have hT:s.TypeIs (.ref z) "zip":=⟨_,st.zip,rfl⟩
  have hend:tv.toArray[i]?=none∨lv.toArray[i]?=none:=by
   rcases he with he | he
   ·exact .inl (by rw [rt.length] at he;simp;exact he)
   ·exact .inr (by rw [rl.length] at he;simp;exact he)
  unfold pyNext;refine wpAny_bind (wpAny_attempt (wpAny_callSpecial?_slot (name:=Str.ofString "__next__") hT F.slot_zip_next (wpAny_call_entry F.slot_zip_next hT F.entry_zip_next
   (Ip (I.ok.hd hc) N st pt.isList pl.isList ⟨ei I ht fz,ei I ht fk,ei I ht f1,ei I ht f2⟩ ⟨ei I hl fz,ei I hl fk,ei I hl f1,ei I hl f2⟩ hend fun h' e kp he=>?_) (F.args_zip_next_1 _))))
  obtain ⟨o,ho,hc⟩:=he;refine wpAny_bind (wpAny_isInstance (T:="StopIteration") (b:=true) ⟨o,ho,hc⟩ isSubtype_stop ?_);exact wpAny_pure ⟨rfl,nk (t':=s.toks) I (ch:=[z,tk,i1,i2]) (fun b hb=>hf b (by
   simp only [mem_cons,not_mem_nil,or_false] at hb ⊢;rcases hb with rfl | rfl | rfl | rfl <;> simp)) fun b u hb e=>kp b u (fun q=>hb (by simp [q])) (fun q=>hb (by simp [q])) (fun q=>hb (by simp [q])) (fun q=>hb (by simp [q])) e⟩
 self:=fun _ _ _ _ _ st h=>wpAny_pyIter_zip st.zip h
@[simp] noncomputable def zipItemsL:List D→Option (List D)
 | [.list xs,.list ys]=>some (List.zipWith (fun a b=>PyData.tuple [a,b]) xs ys)
 | _=>none
theorem yy {as ds:List D} (e:zipItemsL as=some ds): ∃xs ys,as=[.list xs,.list ys]∧ds=List.zipWith (fun a b=>PyData.tuple [a,b]) xs ys:=by
 unfold zipItemsL at e;split at e
 ·cases e;exact ⟨_,_,rfl,rfl⟩
 ·cases e
noncomputable def zipOfL (m:Ren→Option (List D)):Ren→Option (List D):=fun ρ=>(m ρ).bind zipItemsL
theorem Og {X:Cx} {es:List Expr} {x1} {tp a b p pos} {m:Ren→Option (List D)} (hg:Gl X "zip") (hm:X.mg "zip"=none) (ha:XA X [a,b] m) (hs:starEach [a,b] X.env=[(false,eval a X.env),(false,eval b X.env)]:=by rfl) (hs2:starEach [b] X.env=[(false,eval b X.env)]:=by rfl):
  XI X (.Tuple es x1 tp) (.Call (.Name "zip" p) [a,b] [] pos) (zipOfL m):=by
 obtain ⟨ha⟩:=ha;refine ⟨?_⟩;intro pins s σ H R I h;obtain ⟨ρ,ds,ro,e,q⟩:=h;obtain ⟨as,has,e⟩:=bind_some e;refine Call_ (zw I hg hm boot_zip (PyProof.Rows.callWith_type1 (thn (ha pos pins s σ H (fun vs H'=>Same H H'∧Are X.K H' vs as) I ⟨ρ,as,ro,has,fun vs H' a b=>⟨a,b⟩⟩) fun us s1 h0z=>?_) (by rw [hs,hs2]) (by rw [hs2];rfl)));obtain ⟨vs,H1,I1,r1,sm1,ar1⟩:=h0z;obtain ⟨xs,ys,ha2,hd2⟩:=yy e;subst ha2;subst hd2;obtain ⟨v1,v2,rfl,j1,j2⟩:=ar1.two;cases j1 with
 | @lst t vt _ h1 h2=>
  cases j2 with
  | @lst l vl _ h3 h4=>
   cases r1 with
   | cons r rr=>
    cases rr with
    | cons r' rr=>
     cases rr;cases r;cases r';obtain ⟨tv,rt,pt,_⟩:=I1.list (.inl h1);obtain ⟨lv,rl,pl,_⟩:=I1.list (.inl h3);refine Iq pt.isList pl.isList fun h' Z kp=>?_
     refine wpAny_pyIter_zip Z.zip ?_;have sz: ∀c:Nat,c < 5→s1.heap.objs.size≤s1.heap.objs.size+c:=fun c _=>Nat.le_add_right _ _;refine ⟨_,[s1.heap.objs.size+4,s1.heap.objs.size+2,s1.heap.objs.size+3,s1.heap.objs.size,s1.heap.objs.size+1],_,ItzL X.K t l,H1,rfl,I1.kept (t':=s1.toks) kp,
      Ir (Rr _),Z,fun b hb=>?_,q _ H1 sm1 fun i H2 s2=>?_⟩
     ·have hb':s1.heap.objs.size≤b:=by
       simp only [mem_cons,not_mem_nil,or_false] at hb;rcases hb with rfl | rfl | rfl | rfl | rfl
       ·exact Nat.le_add_right _ _
       ·exact Nat.le_add_right _ _
       ·exact Nat.le_add_right _ _
       ·exact Nat.le_refl _
       ·exact Nat.le_add_right _ _
      exact I1.fpOk hb' (I1.hok.fresh hb')
     ·refine ⟨fun d hd=>?_,fun hl=>?_⟩
      ·rw [List.getElem?_zipWith] at hd
       cases hx:xs[i]? with
       | none=>rw [hx] at hd;cases hd
       | some x=>
        cases hy:ys[i]? with
        | none=>rw [hx,hy] at hd;cases hd
        | some y=>
         rw [hx,hy] at hd;cases hd;obtain ⟨vx,hvx,ix⟩:=h2.get hx;obtain ⟨vy,hvy,iy⟩:=h4.get hy;refine ⟨⟨vt,vl,vx,vy,.inl (u8 s2 h1),.inl (u8 s2 h3),hvx,hvy⟩,fun v H3 hv=>?_⟩;obtain ⟨p,x',y',rfl,np,rfl,e1,e2⟩:=hv;have e1:=e1 vt (.inl (u8 s2 h1));have e2:=e2 vl (.inl (u8 s2 h3));rw [hvx] at e1;rw [hvy] at e2;cases e1;cases e2;exact ⟨fb np,Is.newT np (.cons (ix.up s2) (.cons (iy.up s2) .nil))⟩
      ·rw [List.length_zipWith] at hl
       refine ⟨vt,vl,.inl (u8 s2 h1),.inl (u8 s2 h3),?_⟩;rw [h2.length,h4.length];omega
end RG
end
section
namespace RG
open PySem PySem.Spec PyProof.Rows L2
noncomputable def tyN:D→String
 | .none=>"NoneType" | .bool _=>"bool" | .int _=>"int" | .str _=>"str" | .list _=>"list" | .tuple _=>"tuple" | .dict ((.int _,_)::_)=>"dict" | .dict _=>"list"
noncomputable def isTy (c:String) (d:D):Bool:=tyN d==c || (tyN d=="bool" && c=="int")
noncomputable def tyCs:List String:=["bool","int","str","list","tuple"]
theorem Dz (K:Frag) (d:D): ∀c∈tyCs,PySem.W.kitOne K (.type (tyN d)) (.type c)=some (isTy c d):=by
 intro c hc;simp only [tyCs,mem_cons,not_mem_nil,or_false] at hc;have ht:tyN d="NoneType"∨tyN d="bool"∨tyN d="int"∨tyN d="str"∨tyN d="list"∨tyN d="tuple"∨tyN d="dict":=by unfold tyN;split <;> simp
 unfold isTy;rcases ht with h | h | h | h | h | h | h <;> rw [h] <;> rcases hc with rfl | rfl | rfl | rfl | rfl <;> kernel_rfl
section
variable {X:Cx} {K:Frag}
theorem Oh {pins:List (Addr×Obj)} {σ:L2.St} {H:Hp} {s:Shared} {x:V} {u c:Value} {d:D} {b:Bool} {Q:Value→Shared→Prop} (I:Inv X pins σ H s) (rx:RelV x u) (i:Is X.K H x d)
  (e:PySem.W.kitOne X.K (.type (tyN d)) c=some b) (h: ∀tk,Q (.bool b) { s with toks:=tk }):wpAny (model X.prog X.w) X.A (call (.builtin "isinstance") [u,c]) Q X.xe s:=by
 cases i with
 | non=>cases rx;exact PySem.W.kia_one PySem.W.kitx_none I.kIn True.intro e (fun z=>nomatch z) h
 | bl y=>cases rx;exact PySem.W.kia_one PySem.W.kitx_bool I.kIn True.intro e (fun z=>nomatch z) h
 | int y=>obtain ⟨t,rfl⟩:=rx;exact PySem.W.kia_one PySem.W.kitx_int I.kIn True.intro e (fun z=>nomatch z) h
 | str y=>obtain ⟨t,rfl⟩:=rx;exact PySem.W.kia_one PySem.W.kitx_str I.kIn True.intro e (fun z=>nomatch z) h
 | lst h1 _=>
  cases rx;obtain ⟨_,its,n,_,_,h2⟩:=tu I h1;exact PySem.W.kia_one PySem.W.kitx_list I.kIn ⟨_,h2,rfl⟩ e (fun z=>nomatch z) h
 | tup h1 _=>
  cases rx;obtain ⟨its,_,⟨o,h2,h3,_⟩,_⟩:=I.tuple h1;exact PySem.W.kia_one PySem.W.kitx_tuple I.kIn ⟨o,h2,h3⟩ e (fun z=>nomatch z) h
 | scr h1 _=>
  cases rx;obtain ⟨its,_,⟨o,n,h2,h3,_⟩,_⟩:=I.list h1;exact PySem.W.kia_one PySem.W.kitx_list I.kIn ⟨o,h2,h3⟩ e (fun z=>nomatch z) h
 | dct h1 _=>
  cases rx;obtain ⟨_,_,vs,_,o,es,ep,h2,h3,_⟩:=A3 I.hok h1;exact PySem.W.kia_one PySem.W.kitx_dict I.kIn ⟨o,h2,h3.1⟩ e (fun z=>nomatch z) h
theorem Oi {pins:List (Addr×Obj)} {σ:L2.St} {H:Hp} {s:Shared} {x:V} {u:Value} {d:D} {b:Bool} {tp:Addr} {dd:Option Addr} {its:List Value} {n:Nat} {sl:Array (Option Value)} {Q:Value→Shared→Prop} (I:Inv X pins σ H s) (rx:RelV x u) (i:Is X.K H x d)
  (htp:s.heap.get? tp=some ⟨.type "tuple",dd,.seq its.toArray n,sl⟩) (e:PySem.W.kitAny X.K (.type (tyN d)) its=some b) (h: ∀tk,Q (.bool b) { s with toks:=tk }):wpAny (model X.prog X.w) X.A (call (.builtin "isinstance") [u,.ref tp]) Q X.xe s:=by
 cases i with
 | non=>cases rx;exact PySem.W.kia_tup PySem.W.kitx_none I.kIn True.intro htp e (fun z=>nomatch z) h
 | bl y=>cases rx;exact PySem.W.kia_tup PySem.W.kitx_bool I.kIn True.intro htp e (fun z=>nomatch z) h
 | int y=>obtain ⟨t,rfl⟩:=rx;exact PySem.W.kia_tup PySem.W.kitx_int I.kIn True.intro htp e (fun z=>nomatch z) h
 | str y=>obtain ⟨t,rfl⟩:=rx;exact PySem.W.kia_tup PySem.W.kitx_str I.kIn True.intro htp e (fun z=>nomatch z) h
 | lst h1 _=>
  cases rx;obtain ⟨_,its,n,_,_,h2⟩:=tu I h1;exact PySem.W.kia_tup PySem.W.kitx_list I.kIn ⟨_,h2,rfl⟩ htp e (fun z=>nomatch z) h
 | tup h1 _=>
  cases rx;obtain ⟨its,_,⟨o,h2,h3,_⟩,_⟩:=I.tuple h1;exact PySem.W.kia_tup PySem.W.kitx_tuple I.kIn ⟨o,h2,h3⟩ htp e (fun z=>nomatch z) h
 | scr h1 _=>
  cases rx;obtain ⟨its,_,⟨o,n,h2,h3,_⟩,_⟩:=I.list h1;exact PySem.W.kia_tup PySem.W.kitx_list I.kIn ⟨o,h2,h3⟩ htp e (fun z=>nomatch z) h
 | dct h1 _=>
  cases rx;obtain ⟨_,_,vs,_,o,es,ep,h2,h3,_⟩:=A3 I.hok h1;exact PySem.W.kia_tup PySem.W.kitx_dict I.kIn ⟨o,h2,h3.1⟩ htp e (fun z=>nomatch z) h
theorem Lm {c:String} (hc:c∈tyCs):CallR X (.builtin "isinstance") (fun xs H Q=>∃x d,xs=[x,.ty c]∧Is X.K H x d∧Q (.bl (isTy c d)) H):=by
 intro pins s σ H xs us Q I r h;obtain ⟨x,d,rfl,i,q⟩:=h;obtain ⟨u,w',rfl,r1,r2⟩:=vals2 r;cases r2;exact Oh I r1 i (Dz X.K d c hc) fun tk=>⟨.bl _,H,I.tok _,rfl,q⟩
theorem Iu {c1 c2:String} (hc:c1∈tyCs) (hc':c2∈tyCs):CallR X (.builtin "isinstance") (fun xs H Q=>∃x d p,xs=[x,.ref p]∧H p=some (.tup [.ty c1,.ty c2])∧Is X.K H x d∧Q (.bl (isTy c1 d || isTy c2 d)) H):=by
 intro pins s σ H xs us Q I r h;obtain ⟨x,d,p,rfl,hp,i,q⟩:=h;obtain ⟨u,w',rfl,r1,r2⟩:=vals2 r;cases r2;obtain ⟨its,rv,⟨⟨oc,od,da,sl⟩,h1,h2,n,h3⟩,_⟩:=I.tuple (.inl (.inl hp));obtain ⟨y1,y2,rfl,q1,q2⟩:=rv.two;cases q1;cases q2;simp only at h2 h3;subst h2 h3;refine Oi I r1 i h1 (b:=isTy c1 d || isTy c2 d) ?_ fun tk=>⟨.bl _,H,I.tok _,rfl,q⟩
 unfold PySem.W.kitAny;rw [Dz X.K d c1 hc];cases isTy c1 d with
 | true=>rfl
 | false=>
  show PySem.W.kitAny X.K (.type (tyN d)) [.type c2]=_
  unfold PySem.W.kitAny;rw [Dz X.K d c2 hc'];cases isTy c2 d <;> rfl
noncomputable def isiOf (c:String) (m:Ren→Option D):Ren→Option D:=fun ρ=>(m ρ).map fun d=> .bool (isTy c d)
noncomputable def isiOf2 (c1 c2:String) (m:Ren→Option D):Ren→Option D:=fun ρ=>(m ρ).map fun d=> .bool (isTy c1 d || isTy c2 d)
variable {e:Expr} {m:Ren→Option D} {p pc pos:Pos}
theorem lf {cn:Str} {c:String} (hg:Gl X "isinstance") (hm:X.mg "isinstance"=none) (he:XE X e m) (hgc:Gl X cn) (hmc:X.mg cn=none) (hv:bootBuiltins cn=some (.type c)) (hc:c∈tyCs:=by decide) (hn:cn≠"__name__":=by decide) (hdb:(cn==("__debug__":Str))=false:=by decide)
  (h1:starEach [e,.Name cn pc] X.env=(false,eval e X.env)::starEach [.Name cn pc] X.env:=by rfl) (h2:(backTo pos (starEach [.Name cn pc] X.env)).any (·.1)=false:=by rfl):XE X (.Call (.Name "isinstance" p) [e,.Name cn pc] [] pos) (isiOf c m):=by obtain ⟨he⟩:=he;exact ⟨ff (ni (Lm hc) hg hm boot_isinstance (cw he (cw (Ax hgc hmc hv (show RelV (.ty c) _ from rfl) hn hdb) fh) h1) (by decide) (by decide) h1 h2) fun σ H Q h0=>by
  obtain ⟨ρ,d,ro,q,k⟩:=h0;obtain ⟨a,ha,q⟩:=map_some q;subst q;exact ⟨ρ,a,ro,ha,fun v H1 s1 i1=>⟨v,a,rfl,i1,k _ H1 s1 (.bl _)⟩⟩⟩
theorem Oj {cn cn':Str} {c c':String} {x1} {pt pc':Pos} (hg:Gl X "isinstance") (hm:X.mg "isinstance"=none) (he:XE X e m) (hgc:Gl X cn) (hmc:X.mg cn=none) (hv:bootBuiltins cn=some (.type c)) (hgc':Gl X cn') (hmc':X.mg cn'=none) (hv':bootBuiltins cn'=some (.type c'))
  (hc:c∈tyCs:=by decide) (hc':c'∈tyCs:=by decide) (hn:cn≠"__name__":=by decide) (hdb:(cn==("__debug__":Str))=false:=by decide) (hn':cn'≠"__name__":=by decide) (hdb':(cn'==("__debug__":Str))=false:=by decide)
  (h1:starEach [e,.Tuple [.Name cn pc,.Name cn' pc'] x1 pt] X.env=(false,eval e X.env)::starEach [.Tuple [.Name cn pc,.Name cn' pc'] x1 pt] X.env:=by rfl) (h2:(backTo pos (starEach [.Tuple [.Name cn pc,.Name cn' pc'] x1 pt] X.env)).any (·.1)=false:=by rfl):
  XE X (.Call (.Name "isinstance" p) [e,.Tuple [.Name cn pc,.Name cn' pc'] x1 pt] [] pos) (isiOf2 c c' m):=by obtain ⟨he⟩:=he;exact ⟨ff (ni (Iu hc hc') hg hm boot_isinstance (cw he (cw (Hr (cw (Ax hgc hmc hv (show RelV (.ty c) _ from rfl) hn hdb) (cw (Ax hgc' hmc' hv' (show RelV (.ty c') _ from rfl) hn' hdb') fh))) fh) h1) (by decide) (by decide) h1 h2) fun σ H Q h0=>by
  obtain ⟨ρ,d,ro,q,k⟩:=h0;obtain ⟨a,ha,q⟩:=map_some q;subst q;exact ⟨ρ,a,ro,ha,fun v H1 s1 i1=>⟨by show 2≤sizeLine;decide,fun p hp=>⟨v,a,p,rfl,bd,i1.up (fb hp),k _ _ (s1.trans (fb hp)) (.bl _)⟩⟩⟩⟩
@[simp] noncomputable def bools:List D→Option (List Bool)
 | []=>some []
 | .bool b::r=>(bools r).map fun l=>b::l
 | _=>none
@[simp] noncomputable def anyL:D→Option D
 | .list xs=>(bools xs).map fun l=> .bool (l.any id)
 | _=>none
theorem A7 {H:Hp}: ∀ {vs:List V} {ds:List D} {l:List Bool},Are K H vs ds→bools ds=some l→vs=l.map V.bl
 | _,_,_,.nil,e=>by cases e;rfl
 | _,_,_,.cons i t,e=>by
  cases i with
  | bl b=>
   obtain ⟨l',h1,h2⟩:=map_some (show (bools _).map _=_ from e);subst h2;rw [A7 t h1];rfl
  | _=>cases e
theorem Iv:CallR X (.builtin "any") (fun xs H Q=>∃ (p:Addr) (l:List Bool),xs=[.ref p]∧Rd H p (.lst (l.map V.bl))∧X.calm=true∧Q (.bl (l.any id)) H):=by
 intro pins s σ H xs us Q I r h;obtain ⟨p,l,rfl,hp,hc,q⟩:=h;obtain ⟨u,rfl,ru⟩:=vals1 r;cases ru;obtain ⟨hz,its,n,rv,hl,e⟩:=tu I hp;have hL:s.heap.IsList p its.toArray:=⟨_,e,rfl,_,rfl⟩
 have hlt:p < s.heap.objs.size:=lt_size e;refine call_any_walk (wpAny_pyIter_list hL ?_);refine ⟨s.heap.objs.size,_,_,_,_,_,fun i=>(l[i]?).getD false,rfl,Walks.list (show X.A.in1.handled=none from I.ok.hd hc) _ p (Nat.ne_of_lt hlt) its.toArray,?_,?_,?_⟩
 ·exact ⟨⟨_,Heap.get?_push_size _ rfl,rfl,rfl⟩,hL.push _⟩
 ·intro i v s' Q' E' hv hq
  have hv':its[i]?=some v:=by simpa using hv
  obtain ⟨x,hx,rx⟩: ∃x,(l.map V.bl)[i]?=some x∧RelV x v:=by
   cases hx:(l.map V.bl)[i]? with
   | none=>rw [rv.none_of hx] at hv';cases hv'
   | some x=>
    obtain ⟨u,h1,h2⟩:=rv.get hx;rw [hv'] at h1;cases h1;exact ⟨x,rfl,h2⟩
  rw [getElem?_map] at hx;obtain ⟨b,hb,rfl⟩:=map_some hx;cases rx;have hq:Q' ((l[i]?).getD false) s':=hq;rw [hb] at hq;exact wpAny_truthy_bool hq
 ·intro h' tk kp
  have e1:(List.range its.toArray.size).any (fun i=>(l[i]?).getD false)=l.any id:=by
   have hlen:its.toArray.size=l.length:=by rw [size_toArray,←hl,length_map]
   rw [hlen];apply Bool.eq_iff_iff.mpr;rw [List.any_eq_true,List.any_eq_true];constructor
   ·rintro ⟨i,hi,hb⟩
    have hi':=List.mem_range.mp hi;rw [getElem?_eq_getElem hi'] at hb;exact ⟨_,List.getElem_mem hi',hb⟩
   ·rintro ⟨b,hb,hb'⟩
    obtain ⟨i,hi,rfl⟩:=List.getElem_of_mem hb;exact ⟨i,List.mem_range.mpr hi,by rw [getElem?_eq_getElem hi];exact hb'⟩
  rw [e1];have fp:=I.fpOk (b:=s.heap.objs.size) (H':=H) (Nat.le_refl _) (I.hok.fresh (Nat.le_refl _));have I1:=I.kept (t':=s.toks) (h':=s.heap.push { cls:= .type "list_iterator",data:= .fields #[.ref p,.int 0 0] }) fun b o q=>get?_push_of_some _ q
  exact ⟨.bl _,H,nk (t':=tk) (ch:=[s.heap.objs.size]) I1 (fun b hb=>by rw [List.mem_singleton.mp hb];exact fp) fun b o hb q=>kp b o (by simpa using hb) q,rfl,q⟩
theorem T6 (hc:X.calm=true):CD X.K (fun xs H Q=>∃ (p:Addr) (l:List Bool),xs=[.ref p]∧Rd H p (.lst (l.map V.bl))∧X.calm=true∧Q (.bl (l.any id)) H) (one anyL):=by
 intro H xs ds d Q is e q;obtain ⟨a,ha,e0⟩:=t0 e;clear e;subst ha;obtain ⟨v,rfl,i⟩:=is.one;unfold anyL at e0;split at e0
 ·obtain ⟨l,h1,h2⟩:=map_some e0
  subst h2;cases i with
  | lst h3 h4=>exact ⟨_,l,rfl,by rw [←A7 h4 h1];exact h3,hc,q _ H (Same.refl H) (.bl _)⟩
 ·cases e0
@[simp] noncomputable def repS:D→D→Option D
 | .list xs,.int k=>if -10000≤k∧k≤10000∧xs.length*k.toNat≤lim then some (.list (List.replicate k.toNat xs).flatten) else none
 | _,_=>none
def rRepS:R2:=fun x y H Q=>∃l k xs,x= .ref l∧y= .int k∧Rd H l (.lst xs)∧ -(2 ^ 63)≤k∧k < 2 ^ 63∧xs.length*k.toNat≤sizeLine∧ ∀p,H p=none→Q (.ref p) (upd H p (.lst (List.replicate k.toNat xs).flatten))
theorem Iw:OpR X (binaryOp .Mult) rRepS:=by
 intro pins s σ H x y v u Q I rx ry h;obtain ⟨l,k,xs,rfl,rfl,hH,h1,h2,hz,q⟩:=h;cases rx;obtain ⟨t,rfl⟩:=ry;obtain ⟨z,its,n,r,hl,e⟩:=tu I hH;have g1:its.toArray.size*k.toNat≤sizeLine:=by rw [size_toArray,←hl];exact hz
 have g2:¬its.toArray.size*k.toNat > (2 ^ 63 - 1) / 8:=by
  have:(sizeLine:Nat)≤(2 ^ 63 - 1) / 8:=by decide
  omega
 have g3:¬ (!Builtin.List.listFitsIndex k)=true:=by rw [fitsIndex_both h1 h2];exact Bool.false_ne_true
 have g4:¬Builtin.List.listTooLong (its.toArray.size*k.toNat)=true:=by rw [notLongL g1];exact Bool.false_ne_true
 have g5:List.foldl (fun x1 x2=>x1++x2) #[] (List.replicate (if its.toArray.isEmpty=true then 0 else k.toNat) its.toArray)=(List.replicate k.toNat its).flatten.toArray:=by
  have f0: ∀m:Nat,List.foldl (fun x1 x2=>x1++x2) #[] (List.replicate m its.toArray)=(List.replicate m its).flatten.toArray:=fun m=>by
   have:=Cc its m []
   rwa [List.nil_append] at this
  rw [f0];cases its with
  | nil=>simp
  | cons a r'=>rw [if_neg (by simp)]
 refine wpAny_binaryOp_repeat_ref (T:="list") (U:="int") (by decide) ⟨_,e,rfl⟩ (fun s'=>typeIs_int s' k t) noFill_list_mul F.fills_int_mul F.slot_int_rmul repeat_list F.slot_int_index.lookup
  (call_meets F.slot_int_rmul (typeIs_int s k t) F.entry_int_rmul (F.args_int_rmul_2 _ _) (int___rmul___int_list k t l its.toArray n)
   ⟨e,rfl,⟨_,e,rfl⟩,call_meets F.slot_list_mul ⟨_,e,rfl⟩ F.entry_list_mul (F.args_list_mul_2 _ _) (AutoListH.list___mul___list_int_3 l its.toArray n k t g3 g2 g4) ⟨e,?_⟩⟩)
 rw [g5];exact ⟨.ref _,_,I.lnew (t':=s.toks) (r.rep k.toNat) (by rw [N1,Nat.mul_comm];exact hz),rfl,q _ I.fresh⟩
theorem M4:R2D K rRepS repS:=by
 intro H x y a b d Q ia ib e q;unfold repS at e;split at e
 ·split at e
  ·rename_i h
   obtain ⟨h1,h2,h3⟩:=h;cases e;cases ib;cases ia with
   | lst g1 g2=>exact ⟨_,_,_,rfl,rfl,g1,by omega,by omega,by rw [g2.length];exact gw h3,fun p hp=>q _ _ (fb hp) (Is.newL hp (g2.rep _))⟩
  ·cases e
 ·cases e
end
end RG
end
section
namespace RG
open PySem PySem.Spec PyProof.Rows L2
def TabOk (P:Program) (w:World) (K:Frag) (a:Addr) (f:Str→Option D):Prop:=
 (a==sysModules)=false∧ ∃g:Key→Option Value,(∀h:Heap,K.In h→h.MapOf (mixKind P w) a g)∧ ∀k:Str,(f k=none∧g (.inr k)=none)∨ ∃d u v,f k=some d∧g (.inr k)=some u∧RelV v u∧ ∀H,Is K H v d
structure TabAt (P:Program) (w:World) (K:Frag) (mg:Str→Option Value) (x:Str) (f:Str→Option D):Prop where
 ex: ∃a,mg x=some (.ref a)∧TabOk P w K a f
@[simp] noncomputable def strKey (f:Str→Option D):D→Option D
 | .str k=>f k
 | _=>none
@[simp] noncomputable def strIn (f:Str→Option D):D→Option D
 | .str k=>some (.bool (f k).isSome)
 | _=>none
theorem D0 {f:Str→Option D} {a d:D} (h:strKey f a=some d): ∃k,a= .str k∧f k=some d:=by
 unfold strKey at h;split at h
 ·exact ⟨_,rfl,h⟩
 ·cases h
theorem Gr {f:Str→Option D} {a d:D} (h:strIn f a=some d): ∃k,a= .str k∧d= .bool (f k).isSome:=by
 unfold strIn at h;split at h
 ·cases h;exact ⟨_,rfl,rfl⟩
 ·cases h
section
variable {X:Cx} {x:Str} {f:Str→Option D} {e:Expr} {m:Ren→Option D} {p pos:Pos}
theorem xj (T:TabAt X.prog X.w X.K X.mg x f) (hg:Gl X x) (he:XE X e m) (hs:NoSl e:=by intro _ _;rfl) (hdb:(x==("__debug__":Str))=false:=by decide):XE X (.Subscript (.Name x p) e pos) (fun ρ=>(m ρ).bind (strKey f)):=by
 obtain ⟨he⟩:=he;refine ⟨?_⟩;obtain ⟨a,hm,na,g,hM,tab⟩:=T.ex;intro pins s σ H Q I ⟨ρ,d,ro,q,k⟩;obtain ⟨b,hb,q1⟩:=bind_some q;obtain ⟨y,eb,q2⟩:=D0 q1;clear q q1;subst eb;have ho:PE X (.Name x p) (tC (.ref a)):=so hg hm rfl hdb;refine Ia PySem.F.slot_dict_getitem.lookup hs (thn (ho pins s σ H (fun v H'=>v= .ref a∧H'=H) I ⟨rfl,rfl⟩) fun u s1 h0z=>?_);obtain ⟨v1,H1,I1,r1,e1,e2⟩:=h0z;subst e1;subst e2;cases r1;refine thn (he pins s1 σ H1 (fun v H'=>Same H1 H'∧Is X.K H' v (.str y)) I1 ⟨ρ,_,ro,hb,fun v H' a b=>⟨a,b⟩⟩) fun iv s2 h0z=>?_
 obtain ⟨v2,H2,I2,r2,sm2,is2⟩:=h0z;cases is2;have hM2:=hM s2.heap I2.kIn;rcases tab y with ⟨t1,_⟩ | ⟨d',u,v,t1,t2,t3,t4⟩
 ·rw [t1] at q2;cases q2
 ·rw [t1] at q2
  cases q2;refine ⟨?_,wpAny_getItem_of (knd:=mixKind X.prog X.w) (k:= .inr y) (A2 (k:= .inr y) r2) hM2 t2 ⟨v,H2,I2.tok _,t3,k v H2 sm2 (t4 H2)⟩⟩;obtain ⟨o,es,ep,h1,h2,_⟩:=hM2;exact ⟨o,h1,h2.1⟩
theorem Ln (T:TabAt X.prog X.w X.K X.mg x f) (hg:Gl X x) (he:XE X e m) (hm':behindInMarks .In (.Name x p)=false:=by with_unfolding_all rfl) (hdb:(x==("__debug__":Str))=false:=by decide):XT X (.Compare e [.In] [.Name x p] pos) (bindB fun ρ=>(m ρ).bind (strIn f)):=by
 obtain ⟨he⟩:=he;refine ⟨?_⟩;obtain ⟨a,hm,na,g,hM,tab⟩:=T.ex;have ho:PE X (.Name x p) (tC (.ref a)):=so hg hm rfl hdb;refine Gp (Hh (t:=tX X.K fun ρ=>(m ρ).bind (strIn f)) ?_ hm') fun σ H Q ⟨ρ,c,ro,q,k⟩=>?_
 ·intro pins s σ H Q I ⟨ρ,d,ro,q,k⟩
  obtain ⟨b,hb,q⟩:=bind_some q;obtain ⟨y,rfl,rfl⟩:=Gr q;refine thn (he pins s σ H (fun v H'=>Same H H'∧Is X.K H' v (.str y)) I ⟨ρ,_,ro,hb,fun v H' a b=>⟨a,b⟩⟩) fun iv s1 h0z=>?_
  obtain ⟨v1,H1,I1,r1,sm1,is1⟩:=h0z;cases is1;refine thn (ho pins s1 σ H1 (fun v H'=>v= .ref a∧H'=H1) I1 ⟨rfl,rfl⟩) fun u s2 h0z=>?_
  obtain ⟨v2,H2,I2,r2,e1,e2⟩:=h0z;subst e1;subst e2;cases r2;have e3:(g (.inr y)).isSome=(f y).isSome:=by
   rcases tab y with ⟨t1,t2⟩ | ⟨d',u,v,t1,t2,_⟩
   ·rw [t1,t2];rfl
   ·rw [t1,t2];rfl
  refine wpAny_in_of (knd:=mixKind X.prog X.w) (k:= .inr y) (A2 (k:= .inr y) r1) na (hM s2.heap I2.kIn) ?_;rw [e3];exact ⟨.bl _,H2,I2.tok _,rfl,k _ H2 sm1 (.bl _)⟩
 ·obtain ⟨d,hd,q⟩:=bind_some q
  have e:=px q;subst e;exact ⟨ρ,_,ro,hd,fun v H1 s1 i1=>by cases i1;exact ⟨c,rfl,k H1 s1⟩⟩
structure GlAt (K:Frag) (mg:Str→Option Value) (x:Str) (d:D):Prop where
 ex: ∃a,mg x=some (.ref a)∧ ∀H,Is K H (.ref a) d
theorem Lo {d:D} (G:GlAt X.K X.mg x d) (hg:Gl X x) (hdb:(x==("__debug__":Str))=false:=by decide):XE X (.Name x p) (fun _=>some d):=by
 refine ⟨?_⟩;obtain ⟨a,hm,h⟩:=G.ex;exact (Rg (v:= .ref a) (so hg hm (show RelV (.ref a) _ from rfl) hdb) h).ok
@[simp] noncomputable def negD:D→Option D
 | .int i=>some (.int (-i))
 | _=>none
theorem de (he:XE X e m):XE X (.UnaryOp .USub e pos) (fun ρ=>(m ρ).bind negD):=by obtain ⟨he⟩:=he;exact ⟨ff (Tw Qz he) fun σ H Q h0=>by
 obtain ⟨ρ,d,ro,q,k⟩:=h0;obtain ⟨b,hb,q⟩:=bind_some q;have z: ∃i,b= .int i∧d= .int (-i):=by
  unfold negD at q;split at q
  ·cases q;exact ⟨_,rfl,rfl⟩
  ·cases q
 obtain ⟨i,rfl,rfl⟩:=z;exact ⟨ρ,_,ro,hb,fun v H1 s1 i1=>by cases i1;exact ⟨i,rfl,k _ H1 s1 (.int _)⟩⟩⟩
theorem xk:OpR X (binaryOp .Mult) (fun x y H Q=>∃z n,x= .str z∧y= .int n∧z.length≤16∧0≤n∧n≤1048576∧Q (.str (Txt.mul z n)) H):=by
 intro pins s σ H x y v u Q I rx ry h;obtain ⟨z,n,rfl,rfl,h1,h2,h3,q⟩:=h;obtain ⟨t,rfl⟩:=rx;obtain ⟨t',rfl⟩:=ry;exact SB.mul (mulOk_of 16 1048576 h1 (by omega) (by omega) (by decide) (by decide)) fun t' k=>⟨.str _,H,I.tok _,⟨_,rfl⟩,q⟩
@[simp] noncomputable def mulStr:D→D→Option D
 | .str z,.int n=>if z.length≤16∧0≤n∧n≤1048576 then some (.str (Txt.mul z n)) else none
 | _,_=>none
theorem A8 {K:Frag}:R2D K (fun x y H Q=>∃z n,x= .str z∧y= .int n∧z.length≤16∧0≤n∧n≤1048576∧Q (.str (Txt.mul z n)) H) mulStr:=by
 intro H x y a b d Q ia ib e q;unfold mulStr at e;split at e
 ·split at e
  ·rename_i h
   cases e;cases ia;cases ib;exact ⟨_,_,rfl,rfl,h.1,h.2.1,h.2.2,q _ H (Same.refl H) (.str _)⟩
  ·cases e
 ·cases e
end
end RG
end
section
namespace RG
open PySem L2
section
variable {f:D→D→Option D} {ma mb:Ren→Option D} {ms:Ren→Option (List D)} {mt mu:Ren→Option Bool} {ρ:Ren} {m n:Ren→Option Fl}
@[simp] theorem U8:two f ma mb ρ=(match ma ρ with | none=>none | some a=>match mb ρ with | none=>none | some b=>f a b):=by
 unfold two;cases ma ρ <;> simp <;> cases mb ρ <;> simp
@[simp] theorem Qj:oneMore ma ms ρ=(match ma ρ with | none=>none | some d=>match ms ρ with | none=>none | some ds=>some (d::ds)):=by
 unfold oneMore;cases ma ρ <;> simp <;> cases ms ρ <;> simp
@[simp] theorem Tg:tupOf ms ρ=(match ms ρ with | none=>none | some ds=>if ds.length≤lim then some (.tuple ds) else none):=by
 unfold tupOf;cases ms ρ <;> simp
@[simp] theorem Th:lstOf ms ρ=(match ms ρ with | none=>none | some ds=>if ds.length≤lim then some (.list ds) else none):=by
 unfold lstOf;cases ms ρ <;> simp
@[simp] theorem Ti:bindB ma ρ=(match ma ρ with | none=>none | some d=>asBl d):=by
 unfold bindB;cases ma ρ <;> simp
@[simp] theorem Tj:bindT ma ρ=(match ma ρ with | none=>none | some d=>truD d):=by
 unfold bindT;cases ma ρ <;> simp
@[simp] theorem T7:andB mt mu ρ=(match mt ρ with | none=>none | some true=>mu ρ | some false=>some false):=by
 unfold andB;cases mt ρ with
 | none=>simp
 | some b=>cases b <;> simp
@[simp] theorem U9:orB mt mu ρ=(match mt ρ with | none=>none | some true=>some true | some false=>mu ρ):=by
 unfold orB;cases mt ρ with
 | none=>simp
 | some b=>cases b <;> simp
@[simp] theorem T8:notB mt ρ=(match mt ρ with | none=>none | some b=>some (!b)):=by
 unfold notB;cases mt ρ <;> simp
@[simp] theorem T9:andV ma mb ρ=(match ma ρ with | some (.bool true)=>mb ρ | some (.bool false)=>some (.bool false) | _=>none):=by
 unfold andV;cases ma ρ with
 | none=>simp
 | some d=>cases d <;> simp [asBl];rename_i b;cases b <;> simp
@[simp] theorem Va:orV ma mb ρ=(match ma ρ with | some (.bool true)=>some (.bool true) | some (.bool false)=>mb ρ | _=>none):=by
 unfold orV;cases ma ρ with
 | none=>simp
 | some d=>cases d <;> simp [asBl];rename_i b;cases b <;> simp
@[simp] theorem Ua:notV ma ρ=(match ma ρ with | some (.bool b)=>some (.bool (!b)) | _=>none):=by
 unfold notV;cases ma ρ with
 | none=>simp
 | some d=>cases d <;> simp [asBl]
@[simp] theorem Vb {α:Type} {ka kb:Ren→Option α}:ifE mt ka kb ρ=(match mt ρ with | none=>none | some true=>ka ρ | some false=>kb ρ):=by
 unfold ifE;cases mt ρ with
 | none=>simp
 | some b=>cases b <;> simp
@[simp] theorem Rs:partOf ma ρ=(match ma ρ with | some (.int i)=>some (some i) | _=>none):=by
 unfold partOf;cases ma ρ with
 | none=>simp
 | some d=>cases d <;> simp [asInt]
@[simp] theorem Qk {ml mh:Ren→Option (Option Int)}:sliceOf ma ml mh ρ=(match ma ρ with | none=>none | some d=>match ml ρ with | none=>none | some l=>match mh ρ with | none=>none | some h=>slD d l h):=by
 unfold sliceOf;cases ma ρ <;> simp <;> cases ml ρ <;> simp <;> cases mh ρ <;> simp
@[simp] theorem Rt {g:List D→Option D}:callOf g ms ρ=(match ms ρ with | none=>none | some ds=>g ds):=by
 unfold callOf;cases ms ρ <;> simp
@[simp] theorem Ub:seqF m n ρ=(match m ρ with | none=>none | some (.nx ρ')=>n ρ' | some (.rt d)=>some (.rt d)):=by
 unfold seqF;cases m ρ with
 | none=>simp
 | some fl=>cases fl <;> simp
@[simp] theorem Uc {i:Nat}:setF i ma ρ=(match ma ρ with | none=>none | some d=>some (.nx (ρ.set i (some d)))):=by
 unfold setF;cases ma ρ <;> simp
@[simp] theorem Ql {g:D→Option (List D)}:itemsOf g ma ρ=(match ma ρ with | none=>none | some d=>g d):=by
 unfold itemsOf;cases ma ρ <;> simp
@[simp] theorem Tk {g:List D→Option (List D)}:rngOf g ms ρ=(match ms ρ with | none=>none | some d=>g d):=by
 unfold rngOf;cases ms ρ <;> simp
@[simp] theorem Tl:zipOf ms ρ=(match ms ρ with | none=>none | some d=>zipItems d):=by
 unfold zipOf;cases ms ρ <;> simp
@[simp] theorem Ru {g:D→Ren→Option Ren} {x:D}:turnOf g mt ma ρ x=(match g x ρ with | none=>none | some ρ1=>match mt ρ1 with | none=>none | some true=>(ma ρ1).map some | some false=>some none):=by
 unfold turnOf;cases g x ρ with
 | none=>simp
 | some ρ1=>
  simp;cases mt ρ1 with
  | none=>simp
  | some b=>cases b <;> simp
@[simp] theorem Rv {fr:List (Option Nat)} {g:D→Ren→Option Ren}:compOf fr ms g mt ma ρ=(match ms ρ with | none=>none | some items=>if items.length≤lim then compL (turnOf g mt ma (capS fr ρ)) items else none):=by
 unfold compOf;cases ms ρ <;> simp
@[simp] theorem Rw {g:D→Option (Option D)}:compL g []=some []:=rfl
@[simp] theorem il {g:D→Option (Option D)} {x:D} {xs:List D}:compL g (x::xs)=(match g x with | none=>none | some o=>match compL g xs with | none=>none | some r=>match o with | none=>some r | some d=>some (d::r)):=by
 show (g x).bind _=_
 cases g x with
 | none=>simp
 | some o=>simp;cases compL g xs <;> simp <;> cases o <;> simp
@[simp] theorem Tm {c:String}:isiOf c ma ρ=(match ma ρ with | none=>none | some d=>some (.bool (isTy c d))):=by
 unfold isiOf;cases ma ρ <;> simp
@[simp] theorem Ry {c c':String}:isiOf2 c c' ma ρ=(match ma ρ with | none=>none | some d=>some (.bool (isTy c d || isTy c' d))):=by
 unfold isiOf2;cases ma ρ <;> simp
@[simp] theorem Ud {g:D→Ren→Option Ren}:forF ms g m ρ=(match ms ρ with | none=>none | some items=>forL g m items ρ):=by
 unfold forF;cases ms ρ <;> simp
end
theorem bi {α:Type} {pre top:List α} {n:Int} (h:n=pre.length):cutD (pre++top) (some n) none=top:=by
 subst h;unfold cutD cIx;simp;rw [if_neg (by omega)];simp
theorem bn {α:Type} {pre top:List α} {n:Int} (h:n=pre.length):cutD (pre++top) none (some n)=pre:=by
 subst h;unfold cutD cIx;simp;rw [if_neg (by omega)];simp
theorem bz {α:Type} {l:List α} {n:Int} (h:n=l.length):cutD l (some n) none=[]:=by
 have:=bi (pre:=l) (top:=[]) h
 rwa [append_nil] at this
theorem b4 {α:Type} {l:List α} {n:Int} (h:n=l.length):cutD l none (some n)=l:=by
 have:=bn (pre:=l) (top:=[]) h
 rwa [append_nil] at this
section
variable {α:Type} {x y z:α} {xs pre:List α}
theorem eo {i:Nat} (h:i < xs.length):atD xs (i:Int)=xs[i]?:=by
 unfold atD;rw [if_pos (by omega),if_pos (by omega),Int.toNat_natCast]
@[simp] theorem Vo:atD (x::xs) 0=some x:=eo (i:=0) (by rw [length_cons];omega)
@[simp] theorem Vp:atD (x::y::xs) 1=some y:=eo (i:=1) (by rw [length_cons,length_cons];omega)
@[simp] theorem Vq:atD (x::y::z::xs) 2=some z:=eo (i:=2) (by rw [length_cons,length_cons,length_cons];omega)
theorem Fd {i:Nat} (h:i < xs.length):atD xs (-((i:Int)+1))=xs[xs.length - 1 - i]?:=by
 unfold atD;rw [if_neg (by omega),if_pos (by omega)]
 congr 1
 omega
theorem aw:atD (pre++[x]) (-1)=some x:=by
 have h:=Fd (xs:=pre++[x]) (i:=0) (by simp);simpa using h
theorem a0:atD (pre++[x,y]) (-1)=some y:=by
 have:=aw (pre:=pre++[x]) (x:=y)
 simpa using this
theorem a7:atD (pre++[x,y]) (-2)=some x:=by
 have h:=Fd (xs:=pre++[x,y]) (i:=1) (by simp);simpa using h
theorem Fe {xs:List α} {n:Int} (h0:0≤n) (h1:n < xs.length):atD xs.reverse ((xs.length:Int) - 1 - n)=xs[n.toNat]?:=by
 rw [show (xs.length:Int) - 1 - n=((xs.length - 1 - n.toNat:Nat):Int) by omega,eo (by rw [List.length_reverse];omega),List.getElem?_reverse (by omega)]
 congr 1
 omega
end
@[simp] theorem Vc {a b:Str}:PyData.eqv (.str a) (.str b)=(a==b):=by rw [PyData.eqv]
@[simp] theorem Vd {a b:Int}:PyData.eqv (.int a) (.int b)=(a==b):=by rw [PyData.eqv]
@[simp] theorem Ve {a b:Bool}:PyData.eqv (.bool a) (.bool b)=(a==b):=by rw [PyData.eqv]
@[simp] theorem Vf:PyData.eqv .none .none=true:=by rw [PyData.eqv]
@[simp] theorem Vg {a:Str}:PyData.eqv .none (.str a)=false:=by rw [PyData.eqv]
@[simp] theorem Vh {a:Str}:PyData.eqv (.str a) .none=false:=by rw [PyData.eqv]
@[simp] theorem Vi {a:List D}:PyData.eqv .none (.list a)=false:=by rw [PyData.eqv]
@[simp] theorem Vj {a:List D}:PyData.eqv (.list a) .none=false:=by rw [PyData.eqv]
@[simp] theorem Vk {a b:List D}:PyData.eqv (.list a) (.list b)=PyData.eqvAll a b:=by rw [PyData.eqv]
@[simp] theorem Ue:PyData.eqvAll [] []=true:=by rw [PyData.eqvAll]
@[simp] theorem Ol {x y:D} {a b:List D}:PyData.eqvAll (x::a) (y::b)=(PyData.eqv x y && PyData.eqvAll a b):=by rw [PyData.eqvAll]
@[simp] theorem Uf {y:D} {b:List D}:PyData.eqvAll [] (y::b)=false:=by rw [PyData.eqvAll]
@[simp] theorem Ug {y:D} {b:List D}:PyData.eqvAll (y::b) []=false:=by rw [PyData.eqvAll]
@[simp] theorem V1 {a:Str}:PyData.canLay0 (.str a)=PyData.strOk a:=by rw [PyData.canLay0]
@[simp] theorem V2 {a:Int}:PyData.canLay0 (.int a)=true:=by rw [PyData.canLay0]
@[simp] theorem V3 {a:Bool}:PyData.canLay0 (.bool a)=true:=by rw [PyData.canLay0]
@[simp] theorem V4:PyData.canLay0 .none=true:=by rw [PyData.canLay0]
@[simp] theorem Uh {a:List D}:PyData.canLay0 (.list a)=PyData.canLayAll0 a:=by rw [PyData.canLay0]
@[simp] theorem V5 {a:List D}:PyData.canLay0 (.tuple a)=PyData.canLayAll0 a:=by rw [PyData.canLay0]
@[simp] theorem Vr:PyData.canLayAll0 []=true:=by rw [PyData.canLayAll0]
@[simp] theorem Cn {x:D} {a:List D}:PyData.canLayAll0 (x::a)=(PyData.canLay0 x && PyData.canLayAll0 a):=by rw [PyData.canLayAll0]
@[simp] theorem V6 {a:Str}:PyData.depth (.str a)=0:=by rw [PyData.depth]
@[simp] theorem V7 {a:List D}:PyData.depth (.list a)=PyData.depthAll a+1:=by rw [PyData.depth]
@[simp] theorem Vs:PyData.depthAll []=0:=by rw [PyData.depthAll]
@[simp] theorem Ui {x:D} {a:List D}:PyData.depthAll (x::a)=max x.depth (PyData.depthAll a):=by rw [PyData.depthAll]
end RG
end
section
namespace RG
open PySem
theorem aq {a b:String}:Str.ofString a=Str.ofString b↔a=b:=by
 constructor
 ·intro h
  rw [Str.ofString_eq_toList,Str.ofString_eq_toList] at h;injection h with h;have h:a.toList.map Char.toNat=b.toList.map Char.toNat:=by simpa using h
  have h2:=(List.map_inj_right (f:=Char.toNat) (fun x y e=>Char.ext (UInt32.toNat_inj.mp e))).mp h;exact String.toList_inj.mp h2
 ·rintro rfl;rfl
theorem ar (a b:String):(Str.ofString a==Str.ofString b)=(a==b):=by
 rw [Bool.eq_iff_iff,beq_iff_eq,beq_iff_eq];exact aq
@[simp] theorem Rz (s:String):PyData.strOk (Str.ofString s)=true:=by
 rw [Str.ofString_eq_toList];unfold PyData.strOk;simp only [List.all_toArray,List.all_map,List.all_eq_true];intro c _
 have:=c.valid
 simp only [Function.comp,decide_eq_true_eq]
 show c.val.toNat < 1114112
 rcases this with h | h
 ·exact Nat.lt_trans h (by decide)
 ·exact h.2
inductive Kd where
 | number | truth | text
 deriving DecidableEq
noncomputable def Kd.s:Kd→String
 | .number=>"number" | .truth=>"truth" | .text=>"text"
noncomputable def Kd.d (k:Kd):D:= .str (Str.ofString k.s)
inductive Row where
 | push (t:D) | take (k:Kd) | add | less | join | not | same | copy (n:Int) | drop | swap | tell | go (n:Int) | iff (n:Int) | fin
noncomputable def eRow:Row→D
 | .push t=> .tuple [.str "push",t]
 | .take k=> .tuple [.str "take",k.d]
 | .add=> .tuple [.str "add"]
 | .less=> .tuple [.str "less"]
 | .join=> .tuple [.str "join"]
 | .not=> .tuple [.str "not"]
 | .same=> .tuple [.str "same"]
 | .copy n=> .tuple [.str "copy",.int n]
 | .drop=> .tuple [.str "drop"]
 | .swap=> .tuple [.str "swap"]
 | .tell=> .tuple [.str "tell"]
 | .go n=> .tuple [.str "go",.int n]
 | .iff n=> .tuple [.str "if",.int n]
 | .fin=> .tuple [.str "end"]
noncomputable def thing:D→Bool
 | .int _=>true | .bool _=>true | .str x=>PyData.strOk x | _=>false
noncomputable def sLen:D→Nat
 | .str z=>z.length
 | _=>0
noncomputable def Row.ok:Row→Bool
 | .push t=>thing t && decide (sLen t≤40)
 | _=>true
theorem va {t:D} (h:(Row.push t).ok=true):thing t=true∧sLen t≤40:=by simpa [Row.ok] using h
noncomputable def kindT:D→Kd
 | .bool _=> .truth
 | .int _=> .number
 | _=> .text
noncomputable def eKs (ks:List Kd):D:= .list (ks.map Kd.d)
inductive Why where
 | few | kind
 deriving DecidableEq
noncomputable def Why.d:Why→D
 | .few=> .str "few" | .kind=> .str "kind"
noncomputable def eWhy:Option Why→D
 | none=> .none
 | some w=>w.d
noncomputable def lackR:Row→List Kd→Option Why
 | .add,b::a::_=>if a= .number∧b= .number then none else some .kind
 | .less,b::a::_=>if a= .number∧b= .number then none else some .kind
 | .join,b::a::_=>if a= .text∧b= .text then none else some .kind
 | .same,b::a::_=>if a=b then none else some .kind
 | .not,a::_=>if a= .truth then none else some .kind
 | .iff _,a::_=>if a= .truth then none else some .kind
 | .drop,_::_=>none
 | .tell,_::_=>none
 | .swap,_::_::_=>none
 | .copy n,rs=>if n < 0∨n ≥ (rs.length:Int) then some .few else none
 | .push _,_=>none
 | .take _,_=>none
 | .go _,_=>none
 | .fin,_=>none
 | .add,[]=>some .few
 | .less,[]=>some .few
 | .join,[]=>some .few
 | .same,[]=>some .few
 | .swap,[]=>some .few
 | .not,[]=>some .few
 | .iff _,[]=>some .few
 | .drop,[]=>some .few
 | .tell,[]=>some .few
 | .add,[_]=>some .few
 | .less,[_]=>some .few
 | .join,[_]=>some .few
 | .same,[_]=>some .few
 | .swap,[_]=>some .few
noncomputable def afterR:Row→List Kd→List Kd
 | .add,_::_::r=> .number::r
 | .less,_::_::r=> .truth::r
 | .join,_::_::r=> .text::r
 | .same,_::_::r=> .truth::r
 | .not,_::r=> .truth::r
 | .iff _,_::r=>r
 | .drop,_::r=>r
 | .tell,_::r=>r
 | .swap,b::a::r=>a::b::r
 | .copy n,rs=>(rs[n.toNat]?.getD .number)::rs
 | .push t,rs=>kindT t::rs
 | .take k,rs=>k::rs
 | .go _,rs=>rs
 | .fin,rs=>rs
 | .add,[]=> []
 | .less,[]=> []
 | .join,[]=> []
 | .same,[]=> []
 | .swap,[]=> []
 | .not,[]=> []
 | .iff _,[]=> []
 | .drop,[]=> []
 | .tell,[]=> []
 | .add,[a]=> [a]
 | .less,[a]=> [a]
 | .join,[a]=> [a]
 | .same,[a]=> [a]
 | .swap,[a]=> [a]
noncomputable def lackT (r:Row) (ks:List Kd):Option Why:=lackR r ks.reverse
noncomputable def afterT (r:Row) (ks:List Kd):List Kd:=(afterR r ks.reverse).reverse
noncomputable def asKd:D→Option Kd
 | .str x=>if x="number" then some .number else if x="truth" then some .truth else if x="text" then some .text else none
 | _=>none
noncomputable def asKdL:List D→Option (List Kd)
 | []=>some []
 | d::r=>(asKd d).bind fun k=>(asKdL r).map fun l=>k::l
noncomputable def asKs:D→Option (List Kd)
 | .list xs=>if xs.length≤2000 then asKdL xs else none
 | _=>none
noncomputable def asInt':D→Option Int
 | .int i=>some i
 | _=>none
noncomputable def asRow:D→Option Row
 | .tuple [.str w]=>if w="add" then some .add else if w="less" then some .less else if w="join" then some .join else if w="not" then some .not
   else if w="same" then some .same else if w="drop" then some .drop else if w="swap" then some .swap else if w="tell" then some .tell else if w="end" then some .fin else none
 | .tuple [.str w,t]=>if w="push" then (if (Row.push t).ok=true then some (.push t) else none) else if w="take" then (asKd t).map .take
   else if w="copy" then (asInt' t).map .copy else if w="go" then (asInt' t).map .go else if w="if" then (asInt' t).map .iff else none
 | _=>none
theorem M5 (k:Kd):asKd k.d=some k:=by cases k <;> simp [asKd,Kd.d,Kd.s,aq]
theorem Ix: ∀ks:List Kd,asKdL (ks.map Kd.d)=some ks
 | []=>rfl
 | k::r=>by simp [asKdL,M5,Ix r]
theorem vz {ks:List Kd} (h:ks.length≤2000):asKs (eKs ks)=some ks:=by simp [asKs,eKs,h,Ix]
theorem A9 {r:Row} (h:r.ok=true):asRow (eRow r)=some r:=by
 cases r <;> simp_all [asRow,eRow,aq,M5,asInt',Row.ok]
theorem Co {d:D} {k:Kd} (h:asKd d=some k):d=k.d:=by
 unfold asKd at h;split at h
 ·split at h
  ·rename_i e;cases h;rw [e];rfl
  ·split at h
   ·rename_i e;cases h;rw [e];rfl
   ·split at h
    ·rename_i e;cases h;rw [e];rfl
    ·cases h
 ·cases h
theorem Ah: ∀ {ds:List D} {ks:List Kd},asKdL ds=some ks→ds=ks.map Kd.d
 | [],_,h=>by cases h;rfl
 | d::r,_,h=>by
  obtain ⟨k,h1,h2⟩:=bind_some h;obtain ⟨l,h3,h4⟩:=map_some h2;subst h4;rw [map_cons,←Co h1,←Ah h3]
theorem py {d:D} {ks:List Kd} (h:asKs d=some ks):d=eKs ks∧ks.length≤2000:=by
 unfold asKs at h;split at h
 ·split at h
  ·rename_i hl
   have e:=Ah h;subst e;exact ⟨rfl,by simpa using hl⟩
  ·cases h
 ·cases h
theorem nq {d:D} {i:Int} (h:asInt' d=some i):d= .int i:=by
 unfold asInt' at h;split at h
 ·cases h;rfl
 ·cases h
theorem qp {d:D} {r:Row} (h:asRow d=some r):d=eRow r∧r.ok=true:=by
 unfold asRow at h;split at h
 ·repeat' (split at h)
  all_goals first
   | (rename_i e;cases h;rw [e];exact ⟨rfl,rfl⟩)
   | cases h
 ·split at h
  ·rename_i e
   split at h
   ·rename_i ht;cases h;rw [e];exact ⟨rfl,ht⟩
   ·cases h
  ·split at h
   ·rename_i e
    obtain ⟨k,h1,h2⟩:=map_some h;subst h2;rw [e,Co h1];exact ⟨rfl,rfl⟩
   ·split at h
    ·rename_i e
     obtain ⟨k,h1,h2⟩:=map_some h;subst h2;rw [e,nq h1];exact ⟨rfl,rfl⟩
    ·split at h
     ·rename_i e
      obtain ⟨k,h1,h2⟩:=map_some h;subst h2;rw [e,nq h1];exact ⟨rfl,rfl⟩
     ·split at h
      ·rename_i e
       obtain ⟨k,h1,h2⟩:=map_some h;subst h2;rw [e,nq h1];exact ⟨rfl,rfl⟩
      ·cases h
 ·cases h
end RG
end
section
namespace RG
open PySem L2
structure Gb (mg:Str→Option Value):Prop where
 len:mg "len"=none
 list:mg "list"=none
 max:mg "max"=none
 min:mg "min"=none
 int:mg "int"=none
 any:mg "any"=none
 isi:mg "isinstance"=none
 bool:mg "bool"=none
 str:mg "str"=none
 tuple:mg "tuple"=none
 range:mg "range"=none
 zip:mg "zip"=none
noncomputable def tup2 (a b:D):D:= .tuple [a,b]
@[simp] noncomputable def takenF (x:Str):Option D:=
 if x="push" then some (.tuple []) else if x="take" then some (.tuple []) else if x="add" then some (tup2 Kd.number.d Kd.number.d)
 else if x="less" then some (tup2 Kd.number.d Kd.number.d) else if x="join" then some (tup2 Kd.text.d Kd.text.d) else if x="not" then some (.tuple [Kd.truth.d])
 else if x="same" then some (tup2 .none .none) else if x="copy" then some (.tuple []) else if x="drop" then some (.tuple [.none]) else if x="swap" then some (tup2 .none .none)
 else if x="tell" then some (.tuple [.none]) else if x="go" then some (.tuple []) else if x="if" then some (.tuple [Kd.truth.d]) else if x="end" then some (.tuple []) else none
@[simp] noncomputable def putsF (x:Str):Option D:=
 if x="add" then some Kd.number.d else if x="less" then some Kd.truth.d else if x="join" then some Kd.text.d else if x="not" then some Kd.truth.d else if x="same" then some Kd.truth.d else none
noncomputable def rowKs (f:Row→List Kd→Option D):List D→Option D
 | [r,k]=>(asRow r).bind fun r=>(asKs k).bind fun ks=>f r ks
 | _=>none
theorem gq {f:Row→List Kd→Option D} {ds:List D} {d:D} (h:rowKs f ds=some d): ∃r ks,ds=[eRow r,eKs ks]∧r.ok=true∧ks.length≤2000∧f r ks=some d:=by
 unfold rowKs at h;split at h
 ·obtain ⟨r,h1,h⟩:=bind_some h
  obtain ⟨ks,h2,h⟩:=bind_some h;obtain ⟨e1,o1⟩:=qp h1;obtain ⟨e2,o2⟩:=py h2;exact ⟨r,ks,by rw [e1,e2],o1,o2,h⟩
 ·cases h
theorem dy {f:Row→List Kd→Option D} {r:Row} {ks:List Kd} (h1:r.ok=true) (h2:ks.length≤2000):rowKs f [eRow r,eKs ks]=f r ks:=by
 simp [rowKs,A9 h1,vz h2]
theorem kt {f:Row→List Kd→Option D} {ds:List D} {d:D} (h:rowKs f ds=some d):ds.length=2:=by
 obtain ⟨r,ks,rfl,_⟩:=gq h;rfl
noncomputable def isFew:Option Why→Bool
 | some .few=>true
 | _=>false
noncomputable def fj:List D→Option D
 | [t]=>if thing t=true then some (kindT t).d else none
 | _=>none
noncomputable def takeN:Row→Nat
 | .add=>2 | .less=>2 | .join=>2 | .same=>2 | .swap=>2 | .not=>1 | .iff _=>1 | .drop=>1 | .tell=>1 | _=>0
noncomputable def ap:List D→Option D
 | [d]=>(asRow d).map fun r=> .int (takeN r)
 | _=>none
theorem dg {r:Row} (h:r.ok=true):ap [eRow r]=some (.int (takeN r)):=by
 show (asRow (eRow r)).map _=_
 rw [A9 h];rfl
theorem Ai {ds:List D} {d:D} (h:ap ds=some d): ∃r,ds=[eRow r]∧r.ok=true∧d= .int (takeN r):=by
 unfold ap at h;split at h
 ·obtain ⟨r,h1,h2⟩:=map_some h
  obtain ⟨e1,o1⟩:=qp h1;exact ⟨r,by rw [e1],o1,h2.symm⟩
 ·cases h
theorem Ba {t:D} (h:(Row.push t).ok=true):ap [.tuple [.str "push",t]]=some (.int 0):=dg (r:= .push t) h
theorem bo (k:Kd):ap [.tuple [.str "take",k.d]]=some (.int 0):=dg (r:= .take k) rfl
theorem bp (n:Int):ap [.tuple [.str "copy",.int n]]=some (.int 0):=dg (r:= .copy n) rfl
theorem di (n:Int):ap [.tuple [.str "go",.int n]]=some (.int 0):=dg (r:= .go n) rfl
theorem cp (n:Int):ap [.tuple [.str "if",.int n]]=some (.int 1):=dg (r:= .iff n) rfl
theorem cq:ap [.tuple [.str "add"]]=some (.int 2):=dg (r:= .add) rfl
theorem bq:ap [.tuple [.str "less"]]=some (.int 2):=dg (r:= .less) rfl
theorem br:ap [.tuple [.str "join"]]=some (.int 2):=dg (r:= .join) rfl
theorem bt:ap [.tuple [.str "same"]]=some (.int 2):=dg (r:= .same) rfl
theorem bu:ap [.tuple [.str "swap"]]=some (.int 2):=dg (r:= .swap) rfl
theorem cr:ap [.tuple [.str "not"]]=some (.int 1):=dg (r:= .not) rfl
theorem bv:ap [.tuple [.str "drop"]]=some (.int 1):=dg (r:= .drop) rfl
theorem bw:ap [.tuple [.str "tell"]]=some (.int 1):=dg (r:= .tell) rfl
theorem cu:ap [.tuple [.str "end"]]=some (.int 0):=dg (r:= .fin) rfl
noncomputable def xl:List D→Option D:=rowKs fun r ks=>some (.bool (isFew (lackT r ks)))
noncomputable def jm:List D→Option D:=rowKs fun r ks=>match lackT r ks with
 | none=>some (.bool false)
 | some .kind=>some (.bool true)
 | some .few=>none
noncomputable def nu:List D→Option D:=rowKs fun r ks=>some (eWhy (lackT r ks))
noncomputable def iw:List D→Option D:=rowKs fun r ks=>match lackT r ks with
 | none=>some (eKs (afterT r ks))
 | some _=>none
noncomputable def putR:Row→List Kd→List Kd
 | .push t,_=> [kindT t]
 | .take k,_=> [k]
 | .copy n,rs=> [rs[n.toNat]?.getD .number]
 | .swap,b::a::_=> [b,a]
 | .add,_=> [.number]
 | .less,_=> [.truth]
 | .join,_=> [.text]
 | .not,_=> [.truth]
 | .same,_=> [.truth]
 | _,_=> []
noncomputable def b8:List D→Option D:=rowKs fun r ks=>match lackT r ks with
 | none=>some (eKs (putR r ks.reverse))
 | some _=>none
section
variable {es l:List Expr} {env:Env} {pos:Pos} {k:Nat} {a b:Expr} {op:Operator} {kw:List Keyword} {u:UnaryOp}
theorem dj:starEach (.Tuple l k pos::es) env=(false,eval (.Tuple l k pos) env)::starEach es env:=rfl
theorem v0:starEach (.List l pos::es) env=(false,eval (.List l pos) env)::starEach es env:=rfl
theorem cy:starEach (.Call a l kw pos::es) env=(false,eval (.Call a l kw pos) env)::starEach es env:=rfl
theorem dn:starEach (.BinOp a op b pos::es) env=(false,eval (.BinOp a op b pos) env)::starEach es env:=rfl
theorem cb:starEach (.Subscript a b pos::es) env=(false,eval (.Subscript a b pos) env)::starEach es env:=rfl
theorem Iy:starEach (.UnaryOp u a pos::es) env=(false,eval (.UnaryOp u a pos) env)::starEach es env:=rfl
end
end RG
end
section
namespace RG
open PySem L2
section
variable {rs:List Kd} {n:Int}
theorem Cp {r:Row} (h0:lackR r []=some .few) (h1: ∀b,lackR r [b]=some .few) (h:lackR r rs=none): ∃b a l,rs=b::a::l:=by
 rcases rs with _ | ⟨b,_ | ⟨a,l⟩⟩
 ·rw [h0] at h;cases h
 ·rw [h1] at h;cases h
 ·exact ⟨b,a,l,rfl⟩
theorem Ff {r:Row} (h0:lackR r []=some .few) (h:lackR r rs=none): ∃b l,rs=b::l:=by
 rcases rs with _ | ⟨b,l⟩
 ·rw [h0] at h;cases h
 ·exact ⟨b,l,rfl⟩
theorem qq {p:Prop} [Decidable p] (h:(if p then none else some Why.kind)=none):p:=by
 by_cases q:p
 ·exact q
 ·rw [if_neg q] at h;cases h
theorem Iz (h:lackR .add rs=none): ∃l,rs= .number:: .number::l:=by
 obtain ⟨b,a,l,rfl⟩:=Cp rfl (fun _=>rfl) h;obtain ⟨rfl,rfl⟩:=qq h;exact ⟨l,rfl⟩
theorem D1 (h:lackR .less rs=none): ∃l,rs= .number:: .number::l:=by
 obtain ⟨b,a,l,rfl⟩:=Cp rfl (fun _=>rfl) h;obtain ⟨rfl,rfl⟩:=qq h;exact ⟨l,rfl⟩
theorem D2 (h:lackR .join rs=none): ∃l,rs= .text:: .text::l:=by
 obtain ⟨b,a,l,rfl⟩:=Cp rfl (fun _=>rfl) h;obtain ⟨rfl,rfl⟩:=qq h;exact ⟨l,rfl⟩
theorem D3 (h:lackR .same rs=none): ∃b l,rs=b::b::l:=by
 obtain ⟨b,a,l,rfl⟩:=Cp rfl (fun _=>rfl) h;obtain rfl:=qq h;exact ⟨a,l,rfl⟩
theorem Bb (h:lackR .swap rs=none): ∃b a l,rs=b::a::l:=Cp rfl (fun _=>rfl) h
theorem Ja (h:lackR .not rs=none): ∃l,rs= .truth::l:=by
 obtain ⟨b,l,rfl⟩:=Ff rfl h;obtain rfl:=qq h;exact ⟨l,rfl⟩
theorem Fg (h:lackR (.iff n) rs=none): ∃l,rs= .truth::l:=by
 obtain ⟨b,l,rfl⟩:=Ff rfl h;obtain rfl:=qq h;exact ⟨l,rfl⟩
theorem D4 (h:lackR .drop rs=none): ∃b l,rs=b::l:=Ff rfl h
theorem D5 (h:lackR .tell rs=none): ∃b l,rs=b::l:=Ff rfl h
theorem Bc (h:lackR (.copy n) rs=none):0≤n∧n < (rs.length:Int):=by
 have h:(if n < 0∨n ≥ (rs.length:Int) then some Why.few else none)=none:=h
 by_cases q:n < 0∨n ≥ (rs.length:Int)
 ·rw [if_pos q] at h;cases h
 ·omega
end
theorem Om {w:Int} (h0:0≤w) (h1:w < 8): ∃ (r:Row) (x:D),r.ok=true∧eRow r= .tuple [x]∧atD [PyData.str "add",.str "less",.str "join",.str "not",.str "same",.str "drop",.str "swap",.str "tell"] w=some x:=by
 obtain ⟨n,rfl⟩: ∃n:Nat,w=(n:Int):=⟨w.toNat,by omega⟩
 have h2:n < 8:=by omega
 clear h0 h1;rcases n with _ | _ | _ | _ | _ | _ | _ | _ | n
 ·exact ⟨.add,_,rfl,rfl,rfl⟩
 ·exact ⟨.less,_,rfl,rfl,rfl⟩
 ·exact ⟨.join,_,rfl,rfl,rfl⟩
 ·exact ⟨.not,_,rfl,rfl,rfl⟩
 ·exact ⟨.same,_,rfl,rfl,rfl⟩
 ·exact ⟨.drop,_,rfl,rfl,rfl⟩
 ·exact ⟨.swap,_,rfl,rfl,rfl⟩
 ·exact ⟨.tell,_,rfl,rfl,rfl⟩
 ·exact absurd h2 (by omega)
theorem bh {r:Row} {rs:List Kd}:lackT r rs.reverse=lackR r rs:=by unfold lackT;rw [List.reverse_reverse]
theorem Cq {α:Type} {o:Option Why} {x:α} {d:α} (e:(match o with | none=>some x | some _=>none)=some d):o=none∧x=d:=by
 cases o with
 | none=>exact ⟨rfl,Option.some.inj e⟩
 | some y=>cases e
end RG
end
section
namespace RG
open PySem PySem.Spec PyProof.Rows L2
noncomputable def isOwn:HO→Bool
 | .lst _=>true
 | .dK _=>true
 | _=>false
noncomputable def hide (O:List Addr) (H:Hp):Hp:=fun a=>if a∈O then none else H a
noncomputable def unhide (O:List Addr) (H H':Hp):Hp:=fun a=>if a∈O then H a else H' a
theorem c9 {O:List Addr} {H:Hp} {a:Addr} (h:a∈O):hide O H a=none:=by unfold hide;rw [if_pos h]
theorem a8 {O:List Addr} {H:Hp} {a:Addr} (h:a ∉ O):hide O H a=H a:=by unfold hide;rw [if_neg h]
theorem jf {O:List Addr} {H H':Hp} {a:Addr} (h:a∈O):unhide O H H' a=H a:=by unfold unhide;rw [if_pos h]
theorem cf {O:List Addr} {H H':Hp} {a:Addr} (h:a ∉ O):unhide O H H' a=H' a:=by unfold unhide;rw [if_neg h]
theorem jg {O:List Addr} {H:Hp} {a:Addr} {o:HO} (h:hide O H a=some o):a ∉ O∧H a=some o:=by
 unfold hide at h;split at h
 ·cases h
 ·rename_i z;exact ⟨z,h⟩
theorem fo {O:List Addr} {H:Hp}:Same (hide O H) H:=fun b o e=>(jg e).2
def Owned (O:List Addr) (H:Hp):Prop:= ∀l∈O,∃o,H l=some o∧isOwn o=true
section
variable {X:Cx} {pins:List (Addr×Obj)} {σ:L2.St} {H H':Hp} {s s':Shared} {O:List Addr}
theorem ku (ho:Owned O H) {b:Addr} {o:HO} (h:H b=some o) (n:isOwn o=false):b ∉ O:=fun z=>by
 obtain ⟨o',h1,h2⟩:=ho b z;rw [h] at h1;cases h1;rw [n] at h2;cases h2
theorem Be (I:Inv X pins σ H s) (ho:Owned O H) {l:Addr} (hl:l∈O): ∃ob,s.heap.get? l=some ob∧ ∀v,ob.data≠ .cell v:=by
 obtain ⟨o,h1,h2⟩:=ho l hl;cases o with
 | lst xs=>
  obtain ⟨_,its,n,_,e⟩:=I.hok l _ h1;exact ⟨_,e,fun v z=>nomatch z⟩
 | dK kvs=>
  obtain ⟨_,_,vs,_,o,es,ep,e,_,d,_⟩:=I.hok l _ h1;exact ⟨_,e,fun v z=>by rw [d] at z;cases z⟩
 | _=>cases h2
theorem Fh (I:Inv X pins σ H s) (ho:Owned O H):Inv X (pins++pinsAt O s.heap) σ (hide O H) s:=by
 have nn: ∀ {b:Addr},H b=none→hide O H b=none:=fun {b} h=>by
  unfold hide;split
  ·rfl
  ·exact h
 have u:=I.base;refine ⟨I.ok,I.os,I.bare,⟨u.keep,u.slot,fun b o e h1 h2=>nn (u.free b o e h1 h2),u.there,fun b xs e=>?_,fun b o w' e=>?_,fun b ps e=>?_⟩,I.loc,I.cell,nn I.free,fun x c e=>nn (I.freeC x c e),fun p hp=>?_,fun a o e=>?_,I.len⟩
 ·have h:=u.tups b xs e
  rw [a8 (ku ho h rfl)];exact h
 ·have h:=u.frzs b o w' e
  rw [a8 (ku ho h rfl)];exact h
 ·obtain ⟨more,h⟩:=u.tbls b ps e
  exact ⟨more,by rw [a8 (ku ho h rfl)];exact h⟩
 ·rcases List.mem_append.mp hp with hp | hp
  ·obtain ⟨p1,p2,p3⟩:=I.pin p (mem_append_left _ hp)
   exact ⟨p1,nn p2,p3⟩
  ·rcases List.mem_append.mp hp with hp | hp
   ·obtain ⟨p1,p2,p3⟩:=I.pin p (mem_append_right _ hp)
    exact ⟨p1,nn p2,p3⟩
   ·obtain ⟨hl,e⟩:=wy hp
    obtain ⟨o,h1,h2⟩:=ho _ hl;obtain ⟨ob,h3,h4⟩:=Be I ho hl;rw [e] at h3;cases h3;refine ⟨e,c9 hl,fun z=>?_,fun z=>?_,h4⟩
    ·rw [z,I.free] at h1
     cases h1
    ·have hf:p.1∈frs X.stack:=by
      rcases I.ok.stk with q | ⟨q,_⟩
      ·rw [q];exact z
      ·rw [q]
       unfold frs;rw [List.filterMap_cons];split
       ·exact z
       ·exact mem_cons_of_mem _ z
     rw [I.stkFree _ hf] at h1;cases h1
 ·obtain ⟨na,e⟩:=jg e
  refine (I.hok a o e).stay (fun b w' _ h=>h) (fun b h=>?_) fun b ys h=>?_
  ·rw [a8 (ku ho h rfl)]
   exact h
  ·rw [a8 (ku ho h rfl)]
   exact h
theorem Aj (I:Inv X pins σ H s) (ho:Owned O H) (I':Inv X (pins++pinsAt O s.heap) σ H' s'):Inv X pins σ (unhide O H H') s':=by
 have u:=I'.base;have nO: ∀l∈O,H' l=none∧ ∀ob,s.heap.get? l=some ob→s'.heap.get? l=some ob:=fun l hl=>by
  obtain ⟨ob,h3,_⟩:=Be I ho hl;obtain ⟨p1,p2,_⟩:=I'.pin (l,ob) (mem_append_right _ (mem_append_right _ (gp hl h3)));exact ⟨p2,fun ob' h=>by rw [h3] at h;cases h;exact p1⟩
 have nn: ∀ {b:Addr},H b=none→H' b=none→unhide O H H' b=none:=fun {b} h h'=>by
  unfold unhide;split
  ·exact h
  ·exact h'
 have out: ∀ {b:Addr} {o:HO},H' b=some o→b ∉ O:=fun {b o} h z=>by rw [(nO b z).1] at h;cases h
 refine ⟨I'.ok,I'.os,I'.bare,⟨u.keep,u.slot,fun b o e h1 h2=>nn (I.base.free b o e h1 h2) (u.free b o e h1 h2),u.there,fun b xs e=>?_,fun b o w' e=>?_,fun b ps e=>?_⟩,I'.loc,I'.cell,nn I.free I'.free,
  fun x c e=>nn (I.freeC x c e) (I'.freeC x c e),fun p hp=>?_,fun a o e=>?_,I'.len⟩
 ·have h:=u.tups b xs e
  rw [cf (out h)];exact h
 ·have h:=u.frzs b o w' e
  rw [cf (out h)];exact h
 ·obtain ⟨more,h⟩:=u.tbls b ps e
  exact ⟨more,by rw [cf (out h)];exact h⟩
 ·have hp':p∈X.pn++(pins++pinsAt O s.heap):=by
   rcases List.mem_append.mp hp with h | h
   ·exact mem_append_left _ h
   ·exact mem_append_right _ (mem_append_left _ h)
  obtain ⟨p1,p2,p3⟩:=I'.pin p hp';exact ⟨p1,nn (I.pin p hp).2.1 p2,p3⟩
 ·by_cases ha:a∈O
  ·rw [jf ha] at e
   obtain ⟨o',h1,h2⟩:=ho a ha;rw [e] at h1;cases h1;have hk:=(nO a ha).2;have hok:=I.hok a o e;cases o with
   | lst xs=>
    obtain ⟨z,its,n,r,q⟩:=hok;exact ⟨z,its,n,r,hk _ q⟩
   | dK kvs=>
    obtain ⟨z,na,vs,r,o,es,ep,q,rest⟩:=hok;exact ⟨z,na,vs,r,o,es,ep,hk _ q,rest⟩
   | _=>cases h2
  ·rw [cf ha] at e
   refine (I'.hok a o e).stay (fun b w' _ h=>h) (fun b h=>?_) fun b ys h=>?_
   ·rw [cf (out h)]
    exact h
   ·rw [cf (out h)]
    exact h
end
theorem xm {X:Cx} {pins:List (Addr×Obj)} {σ:L2.St} {H H':Hp} {s s':Shared} {O:List Addr} (I:Inv X pins σ H s) (ho:Owned O H) (I':Inv X (pins++pinsAt O s.heap) σ H' s'): ∀l∈O,H' l=none:=fun l hl=>by
 obtain ⟨ob,h3,_⟩:=Be I ho hl;exact (I'.pin (l,ob) (mem_append_right _ (mem_append_right _ (gp hl h3)))).2.1
def tHide (t:TE):TE:=fun σ H Q=>∃O,Owned O H∧t σ (hide O H) fun v H'=>(∀l∈O,H' l=none)→Q v (unhide O H H')
theorem ky {X:Cx} {e:Expr} {t:TE} (h:PE X e t):PE X e (tHide t):=fun pins s σ H Q I h0=>by
 obtain ⟨O,ho,q⟩:=h0;refine thn (h _ s σ (hide O H) _ (Fh I ho) q) fun u s' h0z=>?_
 obtain ⟨v,H',I',r,q'⟩:=h0z;exact ⟨v,_,Aj I ho I',r,q' (xm I ho I')⟩
def tHideI (t:TI):TI:=fun σ H R=>∃O,Owned O H∧t σ (hide O H) fun J H'=>(∀l∈O,H' l=none)→R J (unhide O H H')
theorem Jb {X:Cx} {tg e:Expr} {t:TI} (h:PI X tg e t):PI X tg e (tHideI t):=fun pins s σ H R I h0=>by
 obtain ⟨O,ho,q⟩:=h0;refine thn (h _ s σ (hide O H) _ (Fh I ho) q) fun v s1 h1=>thn h1 fun itv s2 h0z=>?_
 obtain ⟨it,fp,tn,J,H',e,I',T,st,f,r⟩:=h0z;have nO:=xm I ho I';refine ⟨it,fp,tn,J,_,e,Aj I ho I',T,st,fun b hb=>?_,r nO⟩;obtain ⟨f0,f1,f2,f3,f4,f5⟩:=f b hb;have nb:b ∉ O:=fun z=>by
  obtain ⟨ob,h3,_⟩:=Be I ho z;exact f5 (b,ob) (mem_append_right _ (mem_append_right _ (gp z h3))) rfl
 refine ⟨by rw [cf nb];exact f0,f1,f2,f3,f4,fun p hp=>f5 p ?_⟩;rcases List.mem_append.mp hp with h | h
 ·exact mem_append_left _ h
 ·exact mem_append_right _ (mem_append_left _ h)
theorem xn {O:List Addr} {H H':Hp} (h: ∀l∈O,H' l=none):hide O (unhide O H H')=H':=by
 funext a
 by_cases ha:a∈O
 ·rw [c9 ha,h a ha]
 ·rw [a8 ha,cf ha]
inductive Sl where
 | sh (d:D) | ow (ds:List D) | od (kvs:List (Int×D))
noncomputable abbrev RenO:=List (Option Sl)
noncomputable def Sl.isOw:Sl→Bool
 | .sh _=>false
 | _=>true
structure Own2 (K:Frag) (H:Hp) (σ:L2.St) (ρ:RenO) (O:List Addr):Prop where
 own:Owned O H
 len:σ.length=ρ.length
 sh: ∀ (i:Nat) (d:D),ρ[i]?=some (some (.sh d))→ ∃v,σ[i]?=some (some v)∧Is K (hide O H) v d
 ow: ∀ (i:Nat) (ds:List D),ρ[i]?=some (some (.ow ds))→ ∃l xs,σ[i]?=some (some (.ref l))∧l∈O∧H l=some (.lst xs)∧Are K (hide O H) xs ds
 od: ∀ (i:Nat) (kvs:List (Int×D)),ρ[i]?=some (some (.od kvs))→ ∃l vs,σ[i]?=some (some (.ref l))∧l∈O∧H l=some (.dK vs)∧Dct K (hide O H) vs kvs
 sep: ∀ (i j:Nat) (a b:Sl) (l:Addr),i≠j→ρ[i]?=some (some a)→ρ[j]?=some (some b)→a.isOw=true→b.isOw=true→σ[i]?=some (some (.ref l))→σ[j]?=some (some (.ref l))→False
@[simp] noncomputable def Sl.shD:Sl→Option D
 | .sh d=>some d
 | _=>none
@[simp] noncomputable def Sl.allD:Sl→Option D
 | .sh d=>some d
 | .ow ds=>some (.list ds)
 | .od kvs=>some (dctD kvs)
@[simp] noncomputable def shOf (ρ:RenO):Ren:=ρ.map fun o=>o.bind Sl.shD
@[simp] noncomputable def allOf (ρ:RenO):Ren:=ρ.map fun o=>o.bind Sl.allD
section
variable {K:Frag} {H H':Hp} {σ:L2.St} {ρ:RenO} {O:List Addr}
theorem Own2.ro_sh (h:Own2 K H σ ρ O):Ro K (hide O H) σ (shOf ρ) where
 len:=by unfold shOf;rw [length_map];exact h.len
 at_:=fun i d e=>by
  unfold shOf at e;rw [getElem?_map] at e;obtain ⟨o,h1,h2⟩:=map_some e;cases o with
  | none=>cases h2
  | some sl=>
   cases sl with
   | sh d'=>cases h2;exact h.sh i d h1
   | _=>cases h2
theorem Own2.ro_all (h:Own2 K H σ ρ O):Ro K H σ (allOf ρ) where
 len:=by unfold allOf;rw [length_map];exact h.len
 at_:=fun i d e=>by
  unfold allOf at e;rw [getElem?_map] at e;obtain ⟨o,h1,h2⟩:=map_some e;cases o with
  | none=>cases h2
  | some sl=>
   cases sl with
   | sh d'=>
    cases h2;obtain ⟨v,q1,q2⟩:=h.sh i d h1;exact ⟨v,q1,q2.up fo⟩
   | ow ds=>
    cases h2;obtain ⟨l,xs,q1,q2,q3,q4⟩:=h.ow i ds h1;exact ⟨_,q1,.lst (.inl q3) (q4.up fo)⟩
   | od kvs=>
    cases h2;obtain ⟨l,xs,q1,q2,q3,q4⟩:=h.od i kvs h1;exact ⟨_,q1,.dct (.inl q3) (q4.up fo)⟩
theorem Own2.grown (h:Own2 K H σ ρ O) (e:Same H H'):Own2 K H' σ ρ O∧Same (hide O H) (hide O H'):=by
 have sm:Same (hide O H) (hide O H'):=fun b o q=>by
  obtain ⟨q1,q2⟩:=jg q;rw [a8 q1];exact e b o q2
 refine ⟨⟨fun l hl=>?_,h.len,fun i d q=>?_,fun i ds q=>?_,fun i kvs q=>?_,h.sep⟩,sm⟩
 ·obtain ⟨o,q1,q2⟩:=h.own l hl
  exact ⟨o,e l o q1,q2⟩
 ·obtain ⟨v,q1,q2⟩:=h.sh i d q
  exact ⟨v,q1,q2.up sm⟩
 ·obtain ⟨l,xs,q1,q2,q3,q4⟩:=h.ow i ds q
  exact ⟨l,xs,q1,q2,e _ _ q3,q4.up sm⟩
 ·obtain ⟨l,xs,q1,q2,q3,q4⟩:=h.od i kvs q
  exact ⟨l,xs,q1,q2,e _ _ q3,q4.up sm⟩
theorem Own2.clean (h:Own2 K H σ ρ O) (e:Same (hide O H) H') (n: ∀l∈O,H' l=none):Own2 K (unhide O H H') σ ρ O∧hide O (unhide O H H')=H':=by
 have hu:=xn (H:=H) n;refine ⟨⟨fun l hl=>?_,h.len,fun i d q=>?_,fun i ds q=>?_,fun i kvs q=>?_,h.sep⟩,hu⟩
 ·obtain ⟨o,q1,q2⟩:=h.own l hl
  exact ⟨o,by rw [jf hl];exact q1,q2⟩
 ·obtain ⟨v,q1,q2⟩:=h.sh i d q
  exact ⟨v,q1,by rw [hu];exact q2.up e⟩
 ·obtain ⟨l,xs,q1,q2,q3,q4⟩:=h.ow i ds q
  exact ⟨l,xs,q1,q2,by rw [jf q2];exact q3,by rw [hu];exact q4.up e⟩
 ·obtain ⟨l,xs,q1,q2,q3,q4⟩:=h.od i kvs q
  exact ⟨l,xs,q1,q2,by rw [jf q2];exact q3,by rw [hu];exact q4.up e⟩
theorem bg {α:Type} {l:List α} {i j:Nat} {x y:α} (h:(l.set i x)[j]?=some y):(i=j∧i < l.length∧y=x)∨(i≠j∧l[j]?=some y):=by
 by_cases hij:i=j
 ·subst hij
  by_cases hl:i < l.length
  ·rw [getElem?_set_self hl] at h
   cases h;exact .inl ⟨rfl,hl,rfl⟩
  ·rw [List.getElem?_eq_none (by rw [length_set];omega)] at h
   cases h
 ·rw [getElem?_set_ne hij] at h
  exact .inr ⟨hij,h⟩
theorem v4 {α:Type} {l:List α} {i:Nat} {x:α} (h:i < l.length):(l.set i x)[i]?=some x:=getElem?_set_self h
theorem Own2.setSh (h:Own2 K H σ ρ O) (i:Nat) {v:V} {d:D} (q:Is K (hide O H) v d):Own2 K H (σ.set i (some v)) (ρ.set i (some (.sh d))) O where
 own:=h.own
 len:=by rw [length_set,length_set,h.len]
 sh:=fun j c e=>by
  rcases bg e with ⟨rfl,hl,e⟩ | ⟨hij,e⟩
  ·cases e
   exact ⟨v,v4 (by rw [h.len];exact hl),q⟩
  ·obtain ⟨u,h1,h2⟩:=h.sh j c e
   exact ⟨u,by rw [getElem?_set_ne hij];exact h1,h2⟩
 ow:=fun j ds e=>by
  rcases bg e with ⟨rfl,hl,e⟩ | ⟨hij,e⟩
  ·cases e
  ·obtain ⟨l,xs,h1,h2⟩:=h.ow j ds e
   exact ⟨l,xs,by rw [getElem?_set_ne hij];exact h1,h2⟩
 od:=fun j ds e=>by
  rcases bg e with ⟨rfl,hl,e⟩ | ⟨hij,e⟩
  ·cases e
  ·obtain ⟨l,xs,h1,h2⟩:=h.od j ds e
   exact ⟨l,xs,by rw [getElem?_set_ne hij];exact h1,h2⟩
 sep:=fun a b x y l hab ea eb oa ob sa sb=>by
  rcases bg ea with ⟨rfl,hl,e⟩ | ⟨h1,e1⟩
  ·cases e;cases oa
  ·rcases bg eb with ⟨rfl,hl,e⟩ | ⟨h2,e2⟩
   ·cases e;cases ob
   ·rw [getElem?_set_ne h1] at sa
    rw [getElem?_set_ne h2] at sb;exact h.sep a b x y l hab e1 e2 oa ob sa sb
theorem Own2.setOw (h:Own2 K H σ ρ O) (i:Nat) {p:Addr} {xs:List V} {ds:List D} (hp:H p=none) (q:Are K (hide O H) xs ds):
  Own2 K (upd H p (.lst xs)) (σ.set i (some (.ref p))) (ρ.set i (some (.ow ds))) (p::O)∧hide (p::O) (upd H p (.lst xs))=hide O H:=by
 have np:p ∉ O:=fun z=>by
  obtain ⟨o,h1,_⟩:=h.own p z;rw [hp] at h1;cases h1
 have hu:hide (p::O) (upd H p (.lst xs))=hide O H:=by
  funext a
  by_cases ha:a=p
  ·subst ha
   rw [c9 mem_cons_self,a8 np,hp]
  ·by_cases hb:a∈O
   ·rw [c9 (mem_cons_of_mem _ hb),c9 hb]
   ·rw [a8 (fun z=>(List.mem_cons.mp z).elim ha hb),a8 hb,a9 ha]
 have nep: ∀ {j:Nat} {l:Addr} {sl:Sl},ρ[j]?=some (some sl)→sl.isOw=true→σ[j]?=some (some (.ref l))→l≠p:=fun {j l sl} e o e2 z=>by
  subst z;cases sl with
  | sh d=>cases o
  | ow ds=>
   obtain ⟨l',xs',h1,h2,_⟩:=h.ow j ds e;rw [e2] at h1;cases h1;exact np h2
  | od ds=>
   obtain ⟨l',xs',h1,h2,_⟩:=h.od j ds e;rw [e2] at h1;cases h1;exact np h2
 refine ⟨⟨fun l hl=>?_,by rw [length_set,length_set,h.len],fun j c e=>?_,fun j cs e=>?_,fun j cs e=>?_,fun a b x y l hab ea eb oa ob sa sb=>?_⟩,hu⟩
 ·rcases List.mem_cons.mp hl with rfl | hl
  ·exact ⟨_,bd,rfl⟩
  ·obtain ⟨o,h1,h2⟩:=h.own l hl
   exact ⟨o,by rw [a9 (bf h1 hp)];exact h1,h2⟩
 ·rcases bg e with ⟨rfl,hl,e⟩ | ⟨hij,e⟩
  ·cases e
  ·obtain ⟨u,h1,h2⟩:=h.sh j c e
   exact ⟨u,by rw [getElem?_set_ne hij];exact h1,by rw [hu];exact h2⟩
 ·rcases bg e with ⟨rfl,hl,e⟩ | ⟨hij,e⟩
  ·cases e
   exact ⟨p,xs,v4 (by rw [h.len];exact hl),mem_cons_self,bd,by rw [hu];exact q⟩
  ·obtain ⟨l,xs',h1,h2,h3,h4⟩:=h.ow j cs e
   exact ⟨l,xs',by rw [getElem?_set_ne hij];exact h1,mem_cons_of_mem _ h2,by rw [a9 (bf h3 hp)];exact h3,by rw [hu];exact h4⟩
 ·rcases bg e with ⟨rfl,hl,e⟩ | ⟨hij,e⟩
  ·cases e
  ·obtain ⟨l,xs',h1,h2,h3,h4⟩:=h.od j cs e
   exact ⟨l,xs',by rw [getElem?_set_ne hij];exact h1,mem_cons_of_mem _ h2,by rw [a9 (bf h3 hp)];exact h3,by rw [hu];exact h4⟩
 ·rcases bg ea with ⟨rfl,hl,e⟩ | ⟨h1,e1⟩
  ·rcases bg eb with ⟨h2,_,_⟩ | ⟨h2,e2⟩
   ·exact hab h2
   ·rw [v4 (by rw [h.len];exact hl)] at sa
    cases sa;rw [getElem?_set_ne h2] at sb;exact nep e2 ob sb rfl
  ·rw [getElem?_set_ne h1] at sa
   rcases bg eb with ⟨rfl,hl,e⟩ | ⟨h2,e2⟩
   ·rw [v4 (by rw [h.len];exact hl)] at sb
    cases sb;exact nep e1 oa sa rfl
   ·rw [getElem?_set_ne h2] at sb
    exact h.sep a b x y l hab e1 e2 oa ob sa sb
theorem Own2.write (h:Own2 K H σ ρ O) {i:Nat} {ds es:List D} {l:Addr} {ys:List V} (e:ρ[i]?=some (some (.ow ds))) (es':σ[i]?=some (some (.ref l))) (q:Are K (hide O H) ys es):
  Own2 K (upd H l (.lst ys)) σ (ρ.set i (some (.ow es))) O∧hide O (upd H l (.lst ys))=hide O H:=by
 obtain ⟨l',xs,h1,h2,h3,h4⟩:=h.ow i ds e;rw [es'] at h1;cases h1;have hu:hide O (upd H l (.lst ys))=hide O H:=by
  funext a
  by_cases hb:a∈O
  ·rw [c9 hb,c9 hb]
  ·rw [a8 hb,a8 hb,a9 (fun z=>hb (by rw [z];exact h2))]
 have hil:i < ρ.length:=(List.getElem?_eq_some_iff.mp e).1;have apart: ∀ {j:Nat} {l2:Addr} {sl:Sl},i≠j→ρ[j]?=some (some sl)→sl.isOw=true→σ[j]?=some (some (.ref l2))→l2≠l:=fun {j l2 sl} hij ej o ej2 z=>by
  subst z;exact h.sep i j _ _ _ hij e ej rfl o es' ej2
 refine ⟨⟨fun a ha=>?_,by rw [length_set];exact h.len,fun j c ej=>?_,fun j cs ej=>?_,fun j cs ej=>?_,fun a b x y l2 hab ea eb oa ob sa sb=>?_⟩,hu⟩
 ·by_cases z:a=l
  ·subst z
   exact ⟨_,bd,rfl⟩
  ·obtain ⟨o,q1,q2⟩:=h.own a ha
   exact ⟨o,by rw [a9 z];exact q1,q2⟩
 ·rcases bg ej with ⟨rfl,hl,z⟩ | ⟨hij,ej⟩
  ·cases z
  ·obtain ⟨u,q1,q2⟩:=h.sh j c ej
   exact ⟨u,q1,by rw [hu];exact q2⟩
 ·rcases bg ej with ⟨rfl,hl,z⟩ | ⟨hij,ej⟩
  ·cases z
   exact ⟨l,ys,es',h2,bd,by rw [hu];exact q⟩
  ·obtain ⟨l2,xs2,q1,q2,q3,q4⟩:=h.ow j cs ej
   exact ⟨l2,xs2,q1,q2,by rw [a9 (apart hij ej rfl q1)];exact q3,by rw [hu];exact q4⟩
 ·rcases bg ej with ⟨rfl,hl,z⟩ | ⟨hij,ej⟩
  ·cases z
  ·obtain ⟨l2,xs2,q1,q2,q3,q4⟩:=h.od j cs ej
   exact ⟨l2,xs2,q1,q2,by rw [a9 (apart hij ej rfl q1)];exact q3,by rw [hu];exact q4⟩
 ·have tr: ∀ {c:Nat} {x:Sl},(ρ.set i (some (.ow es)))[c]?=some (some x)→x.isOw=true→ ∃x',ρ[c]?=some (some x')∧x'.isOw=true:=fun {c x} ec oc=>by
   rcases bg ec with ⟨rfl,hl,z⟩ | ⟨_,ec⟩
   ·exact ⟨_,e,rfl⟩
   ·exact ⟨x,ec,oc⟩
  obtain ⟨x',q1,q2⟩:=tr ea oa;obtain ⟨y',q3,q4⟩:=tr eb ob;exact h.sep a b x' y' l2 hab q1 q3 q2 q4 sa sb
end
end RG
end
section
namespace RG
open PySem PySem.Spec PyProof.Rows L2
mutual
noncomputable def noL:D→Bool
 | .none=>true | .bool _=>true | .int _=>true | .str _=>true
 | .tuple xs=>noLs xs
 | .list _=>false
 | .dict _=>false
noncomputable def noLs:List D→Bool
 | []=>true
 | x::xs=>noL x && noLs xs
end
section
variable {K:Frag} {H:Hp} {O:List Addr}
mutual
theorem Is.out (ho:Owned O H): ∀ {v:V} {d:D},Is K H v d→noL d=true→Is K (hide O H) v d
 | _,_,.non,_=> .non
 | _,_,.bl b,_=> .bl b
 | _,_,.int i,_=> .int i
 | _,_,.str x,_=> .str x
 | _,.list ds,.lst h a,n=>by unfold noL at n;cases n
 | _,.tuple ds,.tup h a,n=>by
  have n:noLs ds=true:=by unfold noL at n;exact n
  refine .tup ?_ (Are.out ho a n);rcases h with h | h
  ·left
   rcases h with h | ⟨o,h⟩
   ·exact .inl (by rw [a8 (ku ho h rfl)];exact h)
   ·exact .inr ⟨o,by rw [a8 (ku ho h rfl)];exact h⟩
  ·exact .inr h
 | _,_,.scr h a,n=>by unfold noL at n;cases n
 | _,_,.dct h a,n=>by unfold noL at n;cases n
theorem Are.out (ho:Owned O H): ∀ {xs:List V} {ds:List D},Are K H xs ds→noLs ds=true→Are K (hide O H) xs ds
 | _,_,.nil,_=> .nil
 | _,d::ds,.cons h t,n=>by
  unfold noLs at n;rw [Bool.and_eq_true] at n;exact .cons (Is.out ho h n.1) (Are.out ho t n.2)
end
end
inductive FlO where
 | nx (ρ:RenO) | rt (d:D) | rn (ds:List D)
def endsO (K:Frag) (H₀:Hp) (E:Ends):FlO→Prop
 | .rn ds=>∀p xs H',Same H₀ H'→H₀ p=none→H' p=none→Are K H' xs ds→E.rt (.ref p) (upd H' p (.lst xs))
 | .nx ρ=>∀O σ' H',Same H₀ (hide O H')→Own2 K H' σ' ρ O→E.nx σ' H'
 | .rt d=>∀v H',Same H₀ H'→Is K H' v d→E.rt v H'
def tO (K:Frag) (m:RenO→Option FlO):TS:=fun E σ H=>∃H₀ O ρ fl,Same H₀ (hide O H)∧Own2 K H σ ρ O∧m ρ=some fl∧endsO K H₀ E fl
abbrev OS' (X:Cx) (st:Stmt) (m:RenO→Option FlO):Prop:=PS X st (tO X.K m)
structure OS (X:Cx) (st:Stmt) (m:RenO→Option FlO):Prop where
 ok:OS' X st m
abbrev OSs' (X:Cx) (st:List Stmt) (m:RenO→Option FlO):Prop:=PSs X st (tO X.K m)
structure OSs (X:Cx) (st:List Stmt) (m:RenO→Option FlO):Prop where
 ok:OSs' X st m
section
variable {X:Cx} {a b c e:Expr} {es:List Expr} {pos:Pos} {ma mb mc:Ren→Option D} {ms:Ren→Option (List D)} {mt:Ren→Option Bool} {st:Stmt} {rest:List Stmt} {m n:RenO→Option FlO}
theorem gj:OSs X [] (fun ρ=>some (.nx ρ)):=⟨rf Do fun E σ H h0z=>by obtain ⟨H₀,O,ρ,fl,s0,w,q,k⟩:=h0z;cases q;exact k O σ H s0 w⟩
@[simp] noncomputable def seqO (m n:RenO→Option FlO):RenO→Option FlO:=fun ρ=>match m ρ with
 | none=>none
 | some (.nx ρ')=>n ρ'
 | some (.rt d)=>some (.rt d)
 | some (.rn d)=>some (.rn d)
theorem ao (h1:OS X st m) (h2:OSs X rest n):OSs X (st::rest) (seqO m n):=by obtain ⟨h1⟩:=h1;obtain ⟨h2⟩:=h2;exact ⟨rf (js h1 h2) fun E σ H h0=>by
 obtain ⟨H₀,O,ρ,fl,s0,w,q,k⟩:=h0;unfold seqO at q;split at q
 ·cases q
 ·rename_i ρ' e1
  exact ⟨H₀,O,ρ,_,s0,w,e1,fun O' σ' H' s' w'=>⟨H₀,O',ρ',fl,s',w',q,k⟩⟩
 ·rename_i d e1
  cases q;exact ⟨H₀,O,ρ,_,s0,w,e1,k⟩
 ·rename_i d e1
  cases q;exact ⟨H₀,O,ρ,_,s0,w,e1,k⟩⟩
theorem bb (h1:OS X st m):OSs X [st] m:=by obtain ⟨h1⟩:=h1;exact ⟨jj h1⟩
@[simp] noncomputable def retO (ma:Ren→Option D):RenO→Option FlO:=fun ρ=>match ma (allOf ρ) with
 | none=>none
 | some d=>some (.rt d)
theorem rg (he:XE X e ma):OS X (.Return (some e) pos) (retO ma):=by obtain ⟨he⟩:=he;exact ⟨df (pq he) fun E σ H h0=>by
 obtain ⟨H₀,O,ρ,fl,s0,w,q,k⟩:=h0;unfold retO at q;split at q
 ·cases q
 ·rename_i d e1
  cases q;exact ⟨_,d,w.ro_all,e1,fun v H' s' i'=>k v H' ((s0.trans fo).trans s') i'⟩⟩
@[simp] noncomputable def ifO (mt:Ren→Option Bool) (m n:RenO→Option FlO):RenO→Option FlO:=fun ρ=>match mt (allOf ρ) with
 | none=>none
 | some true=>m ρ
 | some false=>n ρ
theorem jn {c:Expr} {a b:List Stmt} (hc:XT X c mt) (ha:OSs X a m) (hb:OSs X b n):OS X (.If c a b pos) (ifO mt m n):=by obtain ⟨hc⟩:=hc;obtain ⟨ha⟩:=ha;obtain ⟨hb⟩:=hb;exact ⟨df (Nr hc ha hb) fun E σ H h0=>by
 obtain ⟨H₀,O,ρ,fl,s0,w,q,k⟩:=h0;unfold ifO at q;split at q
 ·cases q
 ·rename_i e1
  refine ⟨_,true,w.ro_all,e1,fun H1 s1=>?_⟩;obtain ⟨w1,s2⟩:=w.grown s1;exact ⟨H₀,O,ρ,fl,s0.trans s2,w1,q,k⟩
 ·rename_i e1
  refine ⟨_,false,w.ro_all,e1,fun H1 s1=>?_⟩;obtain ⟨w1,s2⟩:=w.grown s1;exact ⟨H₀,O,ρ,fl,s0.trans s2,w1,q,k⟩⟩
@[simp] noncomputable def setC (i:Nat) (ma:Ren→Option D):RenO→Option FlO:=fun ρ=>match ma (shOf ρ) with
 | none=>none
 | some d=>some (.nx (ρ.set i (some (.sh d))))
@[simp] noncomputable def setD (i:Nat) (ma:Ren→Option D):RenO→Option FlO:=fun ρ=>match ma (allOf ρ) with
 | none=>none
 | some d=>if noL d=true then some (.nx (ρ.set i (some (.sh d)))) else none
theorem Oo {i:Nat} (h:PS X st (tAsg (tHide (tX X.K ma)) (gName i))):OS X st (setC i ma):=⟨df h fun E σ H h0=>by
 obtain ⟨H₀,O,ρ,fl,s0,w,q,k⟩:=h0;unfold setC at q;split at q
 ·cases q
 ·rename_i d e1
  cases q;refine ⟨O,w.own,_,d,w.ro_sh,e1,fun v H1 s1 i1 n1=>?_⟩;obtain ⟨w1,hu⟩:=w.clean s1 n1;exact k O _ _ (by rw [hu];exact s0.trans s1) (w1.setSh i (by rw [hu];exact i1))⟩
theorem Op {i:Nat} (h:PS X st (tAsg (tX X.K ma) (gName i))):OS X st (setD i ma):=⟨df h fun E σ H h0=>by
 obtain ⟨H₀,O,ρ,fl,s0,w,q,k⟩:=h0;unfold setD at q;split at q
 ·cases q
 ·rename_i d e1
  split at q
  ·rename_i hn
   cases q;refine ⟨_,d,w.ro_all,e1,fun v H1 s1 i1=>?_⟩;obtain ⟨w1,s2⟩:=w.grown s1;exact k O _ _ (s0.trans s2) (w1.setSh i (i1.out w1.own hn))
  ·cases q⟩
variable {i:Nat} {x:Str} {pos':Pos}
theorem fg (hN:X.N.Nodup) (hi:X.N[i]?=some x) (hx:Loc X.env.scope x) (he:XE X e ma) (hs:swapsWith e (some (.Name x pos')) pos.line X.env=pure false:=by rfl)
  (hf:X.fn x=true∨X.env.scope.names.lookup x=some .local:=by trivial):OS X (.Assign [.Name x pos'] e pos) (setC i ma):=by obtain ⟨he⟩:=he;exact Oo (je hN hi hx (ky he) hs hf)
theorem Oq (hN:X.N.Nodup) (hi:X.N[i]?=some x) (hx:Loc X.env.scope x) (he:XE X e ma) (hs:swapsWith e (some (.Name x pos')) pos.line X.env=pure false:=by rfl)
  (hf:X.fn x=true∨X.env.scope.names.lookup x=some .local:=by trivial):OS X (.Assign [.Name x pos'] e pos) (setD i ma):=by obtain ⟨he⟩:=he;exact Op (je hN hi hx he hs hf)
abbrev XN' (X:Cx) (e:Expr) (m:Ren→Option (List D)):Prop:=PE X e (tComp X.K m)
structure XN (X:Cx) (e:Expr) (m:Ren→Option (List D)):Prop where
 ok:XN' X e m
theorem pz (h:XA X es ms):XN X (.List es pos) (fun ρ=>match ms ρ with | none=>none | some ds=>if ds.length≤lim then some ds else none):=by obtain ⟨h⟩:=h;exact ⟨ff (Hs h) fun σ H Q h0=>by
 obtain ⟨ρ,ds,ro,q,k⟩:=h0;dsimp only at q;split at q
 ·cases q
 ·rename_i es e1
  split at q
  ·rename_i hl
   cases q;exact ⟨ρ,ds,ro,e1,fun vs H1 s1 i1=>⟨by rw [i1.length];exact gw hl,fun p hp=>k p vs H1 s1 (s1.free hp) hp i1⟩⟩
  ·cases q⟩
theorem Os {p:Pos} (hg:Gl X "list") (hm:X.mg "list"=none) (ha:XE X e ma) (h1:starEach [e] X.env=(false,eval e X.env)::starEach [] X.env:=by rfl) (h2:(backTo pos (starEach [] X.env)).any (·.1)=false:=by rfl):
  XN X (.Call (.Name "list" p) [e] [] pos) (fun ρ=>match ma ρ with | none=>none | some d=>itemsD d):=by obtain ⟨ha⟩:=ha;exact ⟨ff (pw b9 hg hm boot_list (cw ha fh h1) (by decide) (by decide) h1 h2) fun σ H Q h0=>by
 obtain ⟨ρ,ds,ro,q,k⟩:=h0;dsimp only at q;split at q
 ·cases q
 ·rename_i d e1
  refine ⟨ρ,d,ro,e1,fun v H1 s1 i1=>?_⟩;unfold itemsD at q;split at q
  ·cases q
   cases i1 with
   | lst g1 g2=>exact ⟨_,_,rfl,.inl (.inl g1),fun l hl=>k l _ H1 s1 (s1.free hl) hl g2⟩
  ·cases q
   cases i1 with
   | tup g1 g2=>exact ⟨_,_,rfl,.inr g1,fun l hl=>k l _ H1 s1 (s1.free hl) hl g2⟩
  ·cases q⟩
theorem Fj (ha:XE X a ma) (hb:XE X b mb):XN X (.BinOp a .Add b pos) (fun ρ=>match ma ρ,mb ρ with | some (.list xs),some (.list ys)=>if xs.length+ys.length≤lim then some (xs++ys) else none | _,_=>none):=by obtain ⟨ha⟩:=ha;obtain ⟨hb⟩:=hb;exact ⟨ff (K2 Ii ha hb) fun σ H Q h0=>by
 obtain ⟨ρ,ds,ro,q,k⟩:=h0;dsimp only at q;split at q
 ·rename_i xs ys e1 e2
  split at q
  ·rename_i hl
   cases q;refine ⟨ρ,_,ro,e1,fun v H1 s1 i1=>⟨ρ,_,ro.up s1,e2,fun u H2 s2 i2=>?_⟩⟩;cases i1.up s2 with
   | lst g1 g2=>
    cases i2 with
    | lst g3 g4=>exact ⟨_,_,_,_,rfl,rfl,g1,g3,by rw [g2.length,g4.length];exact gw hl,fun p hp=>k p _ H2 (s1.trans s2) ((s1.trans s2).free hp) hp (g2.append g4)⟩
  ·cases q
 ·cases q⟩
@[simp] noncomputable def newC (i:Nat) (ms:Ren→Option (List D)):RenO→Option FlO:=fun ρ=>match ms (shOf ρ) with
 | none=>none
 | some ds=>some (.nx (ρ.set i (some (.ow ds))))
@[simp] noncomputable def newD (i:Nat) (ms:Ren→Option (List D)):RenO→Option FlO:=fun ρ=>match ms (allOf ρ) with
 | none=>none
 | some ds=>if noLs ds=true then some (.nx (ρ.set i (some (.ow ds)))) else none
theorem Lp (h:PS X st (tAsg (tHide (tComp X.K ms)) (gName i))):OS X st (newC i ms):=⟨df h fun E σ H h0=>by
 obtain ⟨H₀,O,ρ,fl,s0,w,q,k⟩:=h0;unfold newC at q;split at q
 ·cases q
 ·rename_i ds e1
  cases q;refine ⟨O,w.own,_,ds,w.ro_sh,e1,fun p xs H1 s1 n0 n1 a1 n2=>?_⟩;have np:p ∉ O:=fun z=>by have:=n2 p z;rw [bd] at this;cases this
  have n3: ∀l∈O,H1 l=none:=fun l hl=>by have:=n2 l hl;rwa [a9 (fun z=>np (by rw [←z];exact hl))] at this
  obtain ⟨w1,hu⟩:=w.clean s1 n3;have hp':unhide O H H1 p=none:=by rw [cf np];exact n1
  obtain ⟨w2,hu2⟩:=w1.setOw i hp' (by rw [hu];exact a1);have eq:unhide O H (upd H1 p (.lst xs))=upd (unhide O H H1) p (.lst xs):=by
   funext z
   by_cases hz:z=p
   ·subst hz;rw [cf np,bd,bd]
   ·rw [a9 hz]
    unfold unhide;rw [a9 hz]
  rw [eq];exact k (p::O) _ _ (by rw [hu2,hu];exact s0.trans s1) w2⟩
theorem Lq (h:PS X st (tAsg (tComp X.K ms) (gName i))):OS X st (newD i ms):=⟨df h fun E σ H h0=>by
 obtain ⟨H₀,O,ρ,fl,s0,w,q,k⟩:=h0;unfold newD at q;split at q
 ·cases q
 ·rename_i ds e1
  split at q
  ·rename_i hn
   cases q;refine ⟨_,ds,w.ro_all,e1,fun p xs H1 s1 n0 n1 a1=>?_⟩;obtain ⟨w1,s2⟩:=w.grown s1;obtain ⟨w2,hu2⟩:=w1.setOw i n1 (a1.out w1.own hn);exact k (p::O) _ _ (by rw [hu2];exact s0.trans s2) w2
  ·cases q⟩
theorem nv (hN:X.N.Nodup) (hi:X.N[i]?=some x) (hx:Loc X.env.scope x) (he:XN X e ms) (hs:swapsWith e (some (.Name x pos')) pos.line X.env=pure false:=by rfl)
  (hf:X.fn x=true∨X.env.scope.names.lookup x=some .local:=by trivial):OS X (.Assign [.Name x pos'] e pos) (newC i ms):=by obtain ⟨he⟩:=he;exact Lp (je hN hi hx (ky he) hs hf)
theorem Bf (hN:X.N.Nodup) (hi:X.N[i]?=some x) (hx:Loc X.env.scope x) (he:XN X e ms) (hs:swapsWith e (some (.Name x pos')) pos.line X.env=pure false:=by rfl)
  (hf:X.fn x=true∨X.env.scope.names.lookup x=some .local:=by trivial):OS X (.Assign [.Name x pos'] e pos) (newD i ms):=by obtain ⟨he⟩:=he;exact Lq (je hN hi hx he hs hf)
@[simp] noncomputable def owAt (ρ:RenO) (i:Nat):Option (List D):=match ρ[i]? with
 | some (some (.ow ds))=>some ds
 | _=>none
theorem cz {ρ:RenO} {i:Nat} {ds:List D} (h:owAt ρ i=some ds):ρ[i]?=some (some (.ow ds)):=by
 unfold owAt at h;split at h
 ·rename_i e;cases h;exact e
 ·cases h
variable {o:Expr} {apos cpos:Pos}
@[simp] noncomputable def appC (i:Nat) (ma:Ren→Option D):RenO→Option FlO:=fun ρ=>match owAt ρ i with
 | none=>none
 | some ds=>match ma (shOf ρ) with
  | none=>none
  | some d=>if ds.length+1≤lim then some (.nx (ρ.set i (some (.ow (ds++[d]))))) else none
@[simp] noncomputable def appD (i:Nat) (ma:Ren→Option D):RenO→Option FlO:=fun ρ=>match owAt ρ i with
 | none=>none
 | some ds=>match ma (allOf ρ) with
  | none=>none
  | some d=>if ds.length+1≤lim∧noL d=true then some (.nx (ρ.set i (some (.ow (ds++[d]))))) else none
theorem Cr {n:Nat} (h:n+1≤lim):n < sizeLine:=Nat.lt_of_lt_of_le (Nat.lt_of_succ_le h) (by decide)
theorem sv (ho:PE X o (tVar i)) (he:XE X e ma) (hbase:attributeBase o "append" X.env (eval o X.env)=eval o X.env:=by rfl)
  (hfew:((backTo cpos (starEach [e] X.env)).all (fun x=>!x.1) && (backToKw cpos (keywordEach [] X.env)).all (fun x=>x.1.isSome) && decide ([e].length+([]:List Keyword).length+(if ([]:List Keyword).isEmpty then 0 else 1) < 30))=true:=by rfl)
  (hline:(apos.endLine==cpos.line)=true:=by rfl) (hs:starEach [e] X.env=(false,eval e X.env)::starEach [] X.env:=by rfl) (hplain:(backTo cpos (starEach [] X.env)).any (·.1)=false:=by rfl)
  (hsw:swapsWith (.Call (.Attribute o "append" apos) [e] [] cpos) none pos.line X.env=pure false:=by rfl):OS X (.Expr (.Call (.Attribute o "append" apos) [e] [] cpos) pos) (appC i ma):=by obtain ⟨he⟩:=he;exact ⟨df (kq (Ds PySem.F.plainAttrs_list PySem.F.slot_list_append PySem.F.type_list_append w8 ho (cw (ky he) fh hs) hbase hfew hline hs hplain) hsw) fun E σ H h0=>by
  obtain ⟨H₀,O,ρ,fl,s0,w,q,k⟩:=h0;unfold appC at q;split at q
  ·cases q
  ·rename_i ds e1
   split at q
   ·cases q
   ·rename_i d e2
    split at q
    ·rename_i hl
     cases q;obtain ⟨l,xs,h1,h2,h3,h4⟩:=w.ow i ds (cz e1);refine ⟨_,h1,.inl ⟨rfl,_,.inl (.inl h3)⟩,O,w.own,_,d,w.ro_sh,e2,fun v H1 s1 i1 n1=>?_⟩;obtain ⟨w1,hu⟩:=w.clean s1 n1;refine ⟨l,xs,v,rfl,rfl,by rw [jf h2];exact h3,by rw [h4.length];exact Cr hl,?_⟩;obtain ⟨w2,hu2⟩:=w1.write (i:=i) (ys:=xs++[v]) (es:=ds++[d]) (cz e1) h1 (by rw [hu];exact (h4.up s1).append (.cons i1 .nil));exact k O _ _ (by rw [hu2,hu];exact s0.trans s1) w2
    ·cases q⟩
theorem Ot (ho:PE X o (tVar i)) (he:XE X e ma) (hbase:attributeBase o "append" X.env (eval o X.env)=eval o X.env:=by rfl)
  (hfew:((backTo cpos (starEach [e] X.env)).all (fun x=>!x.1) && (backToKw cpos (keywordEach [] X.env)).all (fun x=>x.1.isSome) && decide ([e].length+([]:List Keyword).length+(if ([]:List Keyword).isEmpty then 0 else 1) < 30))=true:=by rfl)
  (hline:(apos.endLine==cpos.line)=true:=by rfl) (hs:starEach [e] X.env=(false,eval e X.env)::starEach [] X.env:=by rfl) (hplain:(backTo cpos (starEach [] X.env)).any (·.1)=false:=by rfl)
  (hsw:swapsWith (.Call (.Attribute o "append" apos) [e] [] cpos) none pos.line X.env=pure false:=by rfl):OS X (.Expr (.Call (.Attribute o "append" apos) [e] [] cpos) pos) (appD i ma):=by obtain ⟨he⟩:=he;exact ⟨df (kq (Ds PySem.F.plainAttrs_list PySem.F.slot_list_append PySem.F.type_list_append w8 ho (cw he fh hs) hbase hfew hline hs hplain) hsw) fun E σ H h0=>by
  obtain ⟨H₀,O,ρ,fl,s0,w,q,k⟩:=h0;unfold appD at q;split at q
  ·cases q
  ·rename_i ds e1
   split at q
   ·cases q
   ·rename_i d e2
    split at q
    ·rename_i hl
     cases q;obtain ⟨l,xs,h1,h2,h3,h4⟩:=w.ow i ds (cz e1);refine ⟨_,h1,.inl ⟨rfl,_,.inl (.inl h3)⟩,_,d,w.ro_all,e2,fun v H1 s1 i1=>?_⟩;obtain ⟨w1,s2⟩:=w.grown s1;refine ⟨l,xs,v,rfl,rfl,s1 _ _ h3,by rw [h4.length];exact Cr hl.1,?_⟩;obtain ⟨w2,hu2⟩:=w1.write (i:=i) (ys:=xs++[v]) (es:=ds++[d]) (cz e1) h1 ((h4.up s2).append (.cons (i1.out w1.own hl.2) .nil));exact k O _ _ (by rw [hu2];exact s0.trans s2) w2
    ·cases q⟩
theorem Are.dropLast {K:Frag} {H:Hp} {xs:List V} {ds:List D} (h:Are K H xs ds):Are K H xs.dropLast ds.dropLast:=by
 rw [List.dropLast_eq_take,List.dropLast_eq_take,h.length];exact h.take _
@[simp] noncomputable def popO (i:Nat):RenO→Option FlO:=fun ρ=>match owAt ρ i with
 | none=>none
 | some ds=>match ds.getLast? with
  | none=>none
  | some _=>some (.nx (ρ.set i (some (.ow ds.dropLast))))
theorem Jc {α:Type} {ds:List α} {d:α} (h:ds.getLast?=some d):ds[ds.length - 1]?=some d:=by rw [←List.getLast?_eq_getElem?];exact h
theorem Jd (ho:PE X o (tVar i)) (hbase:attributeBase o "pop" X.env (eval o X.env)=eval o X.env:=by rfl) (hline:(apos.endLine==cpos.line)=true:=by rfl)
  (hsw:swapsWith (.Call (.Attribute o "pop" apos) [] [] cpos) none pos.line X.env=pure false:=by rfl):OS X (.Expr (.Call (.Attribute o "pop" apos) [] [] cpos) pos) (popO i):=⟨df (kq (Mx PySem.F.plainAttrs_list PySem.F.slot_list_pop PySem.F.type_list_pop My ho hbase hline) hsw) fun E σ H h0=>by
  obtain ⟨H₀,O,ρ,fl,s0,w,q,k⟩:=h0;unfold popO at q;split at q
  ·cases q
  ·rename_i ds e1
   split at q
   ·cases q
   ·rename_i d e2
    cases q;obtain ⟨l,xs,h1,h2,h3,h4⟩:=w.ow i ds (cz e1);obtain ⟨v,hv,_⟩:=h4.get (Jc e2);rw [←h4.length] at hv;refine ⟨_,h1,.inl ⟨rfl,_,.inl (.inl h3)⟩,l,xs,v,rfl,rfl,h3,hv,?_⟩;obtain ⟨w2,hu2⟩:=w.write (i:=i) (cz e1) h1 h4.dropLast;exact k O _ _ (by rw [hu2];exact s0) w2⟩
@[simp] noncomputable def popS (j i:Nat):RenO→Option FlO:=fun ρ=>match owAt ρ i with
 | none=>none
 | some ds=>match ds.getLast? with
  | none=>none
  | some d=>some (.nx ((ρ.set i (some (.ow ds.dropLast))).set j (some (.sh d))))
theorem D6 {j:Nat} (hN:X.N.Nodup) (hi:X.N[j]?=some x) (hx:Loc X.env.scope x) (ho:PE X o (tVar i)) (hbase:attributeBase o "pop" X.env (eval o X.env)=eval o X.env:=by rfl) (hline:(apos.endLine==cpos.line)=true:=by rfl)
  (hs:swapsWith (.Call (.Attribute o "pop" apos) [] [] cpos) (some (.Name x pos')) pos.line X.env=pure false:=by rfl) (hf:X.fn x=true∨X.env.scope.names.lookup x=some .local:=by trivial):
  OS X (.Assign [.Name x pos'] (.Call (.Attribute o "pop" apos) [] [] cpos) pos) (popS j i):=⟨df (je hN hi hx (Mx PySem.F.plainAttrs_list PySem.F.slot_list_pop PySem.F.type_list_pop My ho hbase hline) hs hf) fun E σ H h0=>by
  obtain ⟨H₀,O,ρ,fl,s0,w,q,k⟩:=h0;unfold popS at q;split at q
  ·cases q
  ·rename_i ds e1
   split at q
   ·cases q
   ·rename_i d e2
    cases q;obtain ⟨l,xs,h1,h2,h3,h4⟩:=w.ow i ds (cz e1);obtain ⟨v,hv,iv⟩:=h4.get (Jc e2);rw [←h4.length] at hv;refine ⟨_,h1,.inl ⟨rfl,_,.inl (.inl h3)⟩,l,xs,v,rfl,rfl,h3,hv,?_⟩;obtain ⟨w2,hu2⟩:=w.write (i:=i) (cz e1) h1 h4.dropLast;exact k O _ _ (by rw [hu2];exact s0) (w2.setSh j (by rw [hu2];exact iv))⟩
@[simp] noncomputable def pop0S (j i:Nat):RenO→Option FlO:=fun ρ=>match owAt ρ i with
 | some (d::ds)=>some (.nx ((ρ.set i (some (.ow ds))).set j (some (.sh d))))
 | _=>none
theorem Lr {j:Nat} {k1:Nat} {p1:Pos} (hN:X.N.Nodup) (hi:X.N[j]?=some x) (hx:Loc X.env.scope x) (ho:PE X o (tVar i)) (hbase:attributeBase o "pop" X.env (eval o X.env)=eval o X.env:=by rfl)
  (hfew:((backTo cpos (starEach [.Constant (.int 0) k1 p1] X.env)).all (fun x=>!x.1) && (backToKw cpos (keywordEach [] X.env)).all (fun x=>x.1.isSome) && decide ([Expr.Constant (.int 0) k1 p1].length+([]:List Keyword).length+(if ([]:List Keyword).isEmpty then 0 else 1) < 30))=true:=by rfl)
  (hline:(apos.endLine==cpos.line)=true:=by rfl) (hst:starEach [.Constant (.int 0) k1 p1] X.env=(false,eval (.Constant (.int 0) k1 p1) X.env)::starEach [] X.env:=by rfl) (hplain:(backTo cpos (starEach [] X.env)).any (·.1)=false:=by rfl)
  (hs:swapsWith (.Call (.Attribute o "pop" apos) [.Constant (.int 0) k1 p1] [] cpos) (some (.Name x pos')) pos.line X.env=pure false:=by rfl) (hf:X.fn x=true∨X.env.scope.names.lookup x=some .local:=by trivial):
  OS X (.Assign [.Name x pos'] (.Call (.Attribute o "pop" apos) [.Constant (.int 0) k1 p1] [] cpos) pos) (pop0S j i):=⟨df (je hN hi hx (Ds PySem.F.plainAttrs_list PySem.F.slot_list_pop PySem.F.type_list_pop K7 ho (cw Mq fh hst) hbase hfew hline hst hplain) hs hf) fun E σ H h0=>by
  obtain ⟨H₀,O,ρ,fl,s0,w,q,k⟩:=h0;unfold pop0S at q;split at q
  ·rename_i d ds e1
   cases q;obtain ⟨l,xs,h1,h2,h3,h4⟩:=w.ow i _ (cz e1);cases h4 with
   | @cons v _ vs _ iv av=>
    refine ⟨_,h1,.inl ⟨rfl,_,.inl (.inl h3)⟩,l,_,0,0,v,rfl,rfl,h3,by decide,by decide,by unfold seqIndex?;simp,rfl,?_⟩;obtain ⟨w2,hu2⟩:=w.write (i:=i) (cz e1) h1 av;exact k O _ _ (show Same H₀ (hide O (upd H l (.lst vs))) by rw [hu2];exact s0) (w2.setSh j (by rw [hu2];exact iv))
  ·cases q⟩
theorem Ou (l:Addr) (xs:Array Value) (n:Nat) (b:Addr) (ys:Array Value) (n2:Nat) (dd:Option Addr) (sl:Array (Option Value)) (g0:¬(!xs.isEmpty && Builtin.List.listTooLong (xs.size+ys.size))=true) (g1:xs.size≤sizeLine) (g2:xs.size+ys.size≤sizeLine+1):
  Meets (Builtin.«list.extend» ⟨[.ref l,.ref b],[]⟩) (fun _ R s=>s.heap.get? l=some { cls:= .type "list",data:= .seq xs n }∧s.heap.get? b=some { cls:= .type "tuple",dict:=dd,data:= .seq ys n2,slots:=sl }∧R (.ok (.ret Value.none)) { s with heap:=s.heap.update l (Obj.mapSeq fun x=>x++ys),toks:=s.toks }):=
 .of_wp fun prog w A R s h=>by
  obtain ⟨hp,g,d,tk,os⟩:=s;obtain ⟨hl,hb,h⟩:=h;have f1:=AutoSeq1.idx_int;have f2:=AutoSeq1.sub_tuple_tuple;have f3:=AutoSeq1.sub_list_list;have f4:=AutoSeq1.sub_tuple_list;have f5:=AutoSeq1.sub_list_tuple;have g3:(xs++ys).size≤sizeLine+1:=by rw [Array.size_append];exact g2
  wp_walk using (wpAny_updateSeq hl rfl (hz:=g1) (_hz':=g3)),AutoSeq1.wpAny_loadPart' hl,AutoSeq1.wpAny_loadPart' hb
  exact ⟨_,rfl,h⟩
def rExtS (K:Frag):V→List V→Hp→VK→Prop:=fun x vs H Q=>∃l b xs zs,x= .ref l∧vs=[.ref b]∧H l=some (.lst xs)∧(Rd H b (.lst zs)∨SqT K H b zs)∧xs.length+zs.length≤sizeLine∧Q .non (upd H l (.lst (xs++zs)))
theorem Ov:MtR X "list.extend" (rExtS X.K):=by
 intro pins s σ H x vs v us Q I rx rv h;obtain ⟨l,b,xs,zs,rfl,rfl,hH,hB,hz,q⟩:=h;cases rx;obtain ⟨u,rfl,ru⟩:=rv.one;cases ru;obtain ⟨z,its,n,r,hl,e⟩:=I.lstM hH;have fin: ∀its2:List Value,Vals zs its2→EP X pins σ Q .none { s with heap:=s.heap.update l (Obj.mapSeq fun z=>z++its2.toArray),toks:=s.toks }:=fun its2 r2=>
  ⟨.non,_,I.lset (its':=its++its2) hH e (by simp) (r.append r2) (by rw [length_append];exact hz),rfl,q⟩
 have long: ∀m:Nat,its.length+m≤sizeLine→¬ (!its.toArray.isEmpty && Builtin.List.listTooLong (its.toArray.size+m))=true:=fun m hm=>by
  rw [notLongL (by rw [size_toArray];exact hm),Bool.and_false];exact Bool.false_ne_true
 rcases hB with hB | hB
 ·obtain ⟨z2,its2,n2,r2,hl2,e2⟩:=tu I hB
  refine call_meets F.slot_list_extend ⟨_,e,rfl⟩ F.entry_list_extend (F.args_list_extend_2 _ _) (AutoSeq1.list_extend_list_list_0 l its.toArray n b its2.toArray n2 (long _ (by rw [size_toArray];omega)) (by rw [size_toArray];omega) (by rw [size_toArray,size_toArray];omega)) ⟨e,e2,fin its2 r2⟩
 ·obtain ⟨its2,r2,⟨⟨oc,od,da,sl⟩,e2,hc,n2,hd⟩,z2⟩:=I.tuple hB
  simp only at hc hd;subst hc hd;have hl2:=r2.length;exact call_meets F.slot_list_extend ⟨_,e,rfl⟩ F.entry_list_extend (F.args_list_extend_2 _ _) (Ou l its.toArray n b its2.toArray n2 od sl (long _ (by rw [size_toArray];omega)) (by rw [size_toArray];omega) (by rw [size_toArray,size_toArray];omega)) ⟨e,e2,fin its2 r2⟩
@[simp] noncomputable def seqD:D→Option (List D)
 | .list xs=>some xs
 | .tuple xs=>some xs
 | _=>none
@[simp] noncomputable def extC (i:Nat) (ma:Ren→Option D):RenO→Option FlO:=fun ρ=>match owAt ρ i with
 | none=>none
 | some ds=>match ma (shOf ρ) with
  | none=>none
  | some d=>match seqD d with
   | none=>none
   | some es=>if ds.length+es.length≤lim then some (.nx (ρ.set i (some (.ow (ds++es))))) else none
theorem D7 (ho:PE X o (tVar i)) (he:XE X e ma) (hbase:attributeBase o "extend" X.env (eval o X.env)=eval o X.env:=by rfl)
  (hfew:((backTo cpos (starEach [e] X.env)).all (fun x=>!x.1) && (backToKw cpos (keywordEach [] X.env)).all (fun x=>x.1.isSome) && decide ([e].length+([]:List Keyword).length+(if ([]:List Keyword).isEmpty then 0 else 1) < 30))=true:=by rfl)
  (hline:(apos.endLine==cpos.line)=true:=by rfl) (hs:starEach [e] X.env=(false,eval e X.env)::starEach [] X.env:=by rfl) (hplain:(backTo cpos (starEach [] X.env)).any (·.1)=false:=by rfl)
  (hsw:swapsWith (.Call (.Attribute o "extend" apos) [e] [] cpos) none pos.line X.env=pure false:=by rfl):OS X (.Expr (.Call (.Attribute o "extend" apos) [e] [] cpos) pos) (extC i ma):=by obtain ⟨he⟩:=he;exact ⟨df (kq (Ds PySem.F.plainAttrs_list PySem.F.slot_list_extend PySem.F.type_list_extend Ov ho (cw (ky he) fh hs) hbase hfew hline hs hplain) hsw) fun E σ H h0=>by
  obtain ⟨H₀,O,ρ,fl,s0,w,q,k⟩:=h0;unfold extC at q;split at q
  ·cases q
  ·rename_i ds e1
   split at q
   ·cases q
   ·rename_i d e2
    split at q
    ·cases q
    ·rename_i es e3
     split at q
     ·rename_i hl
      cases q;obtain ⟨l,xs,h1,h2,h3,h4⟩:=w.ow i ds (cz e1);refine ⟨_,h1,.inl ⟨rfl,_,.inl (.inl h3)⟩,O,w.own,_,d,w.ro_sh,e2,fun v H1 s1 i1 n1=>?_⟩;obtain ⟨w1,hu⟩:=w.clean s1 n1;have up:Same H1 (unhide O H H1):=fun a u z=>by
       have na:a ∉ O:=fun hz=>by rw [n1 a hz] at z;cases z
       rw [cf na];exact z
      have zz: ∃b zs,v= .ref b∧(Rd (unhide O H H1) b (.lst zs)∨SqT X.K (unhide O H H1) b zs)∧Are X.K H1 zs es:=by
       unfold seqD at e3;split at e3
       ·cases e3
        cases i1 with
        | lst g1 g2=>exact ⟨_,_,rfl,.inl (u8 up g1),g2⟩
       ·cases e3
        cases i1 with
        | tup g1 g2=>exact ⟨_,_,rfl,.inr (vp up g1),g2⟩
       ·cases e3
      obtain ⟨b,zs,rfl,hb,ab⟩:=zz;refine ⟨l,b,xs,zs,rfl,rfl,by rw [jf h2];exact h3,hb,by rw [h4.length,ab.length];exact gw hl,?_⟩;obtain ⟨w2,hu2⟩:=w1.write (i:=i) (ys:=xs++zs) (es:=ds++es) (cz e1) h1 (by rw [hu];exact (h4.up s1).append ab);exact k O _ _ (by rw [hu2,hu];exact s0.trans s1) w2
     ·cases q⟩
theorem R1:MtR X "list.insert" (fun x vs H Q=>∃l xs k y,x= .ref l∧vs=[.int k,y]∧H l=some (.lst xs)∧0≤k∧k.toNat≤xs.length∧xs.length+1≤sizeLine∧Q .non (upd H l (.lst (xs.take k.toNat++y::xs.drop k.toNat)))):=by
 intro pins s σ H x vs v us Q I rx rv h;obtain ⟨l,xs,k,y,rfl,rfl,hH,h0,hk,hz,q⟩:=h;cases rx;obtain ⟨u1,u2,rfl,r1,r2⟩:=rv.two;obtain ⟨t,rfl⟩:=r1;obtain ⟨z,its,n,r,hl,e⟩:=I.lstM hH;have h63:=line63;have fits:Builtin.List.listFitsIndex k=true:=fitsIndex_both (by omega) (by omega);have hh:its.toArray.size≤sizeLine:=by rw [size_toArray,←hl];exact z
 refine call_meets PySem.F.slot_list_insert ⟨_,e,rfl⟩ PySem.F.entry_list_insert (PySem.F.args_list_insert_3 _ _ _) (PySem.AutoSeq1.list_insert_list_int_val_1 l _ n k t u2 (by simp [fits]) hh) ⟨e,?_⟩;refine ⟨.non,_,I.lset (its':=its.take k.toNat++u2::its.drop k.toNat) hH e ?_ ((r.take k.toNat).append (.cons r2 (r.drop k.toNat))) ?_,rfl,q⟩
 ·have hk2:k.toNat≤its.length:=by rw [←hl];exact hk
  simp only [size_toArray];rw [if_neg (by omega),Nat.min_eq_left hk2];simp;exact List.take_of_length_le (by rw [List.length_drop];exact Nat.le_refl _)
 ·simp
  omega
@[simp] noncomputable def insD (i:Nat) (ms:Ren→Option (List D)):RenO→Option FlO:=fun ρ=>match owAt ρ i with
 | none=>none
 | some ds=>match ms (allOf ρ) with
  | some [.int k,d]=>if 0≤k∧k.toNat≤ds.length∧ds.length+1≤lim∧noL d=true then some (.nx (ρ.set i (some (.ow (ds.take k.toNat++d::ds.drop k.toNat))))) else none
  | _=>none
theorem Je {e2:Expr} (ho:PE X o (tVar i)) (he:XA X [e,e2] ms) (hbase:attributeBase o "insert" X.env (eval o X.env)=eval o X.env:=by rfl)
  (hfew:((backTo cpos (starEach [e,e2] X.env)).all (fun x=>!x.1) && (backToKw cpos (keywordEach [] X.env)).all (fun x=>x.1.isSome) && decide ([e,e2].length+([]:List Keyword).length+(if ([]:List Keyword).isEmpty then 0 else 1) < 30))=true:=by rfl)
  (hline:(apos.endLine==cpos.line)=true:=by rfl) (hs:starEach [e,e2] X.env=(false,eval e X.env)::starEach [e2] X.env:=by rfl) (hplain:(backTo cpos (starEach [e2] X.env)).any (·.1)=false:=by rfl)
  (hsw:swapsWith (.Call (.Attribute o "insert" apos) [e,e2] [] cpos) none pos.line X.env=pure false:=by rfl):OS X (.Expr (.Call (.Attribute o "insert" apos) [e,e2] [] cpos) pos) (insD i ms):=by obtain ⟨he⟩:=he;exact ⟨df (kq (Ds PySem.F.plainAttrs_list PySem.F.slot_list_insert PySem.F.type_list_insert R1 ho he hbase hfew hline hs hplain) hsw) fun E σ H h0=>by
  obtain ⟨H₀,O,ρ,fl,s0,w,q,k⟩:=h0;unfold insD at q;split at q
  ·cases q
  ·rename_i ds e1
   split at q
   ·rename_i kk d e3
    split at q
    ·rename_i hl
     obtain ⟨g0,g1,g2,g3⟩:=hl;cases q;obtain ⟨l,xs,h1,h2,h3,h4⟩:=w.ow i ds (cz e1);refine ⟨_,h1,.inl ⟨rfl,_,.inl (.inl h3)⟩,_,_,w.ro_all,e3,fun vs H1 s1 a1=>?_⟩;obtain ⟨w1,s2⟩:=w.grown s1;obtain ⟨v1,v2,rfl,j1,j2⟩:=a1.two;cases j1;refine ⟨l,xs,kk,v2,rfl,rfl,s1 _ _ h3,g0,by rw [h4.length];exact g1,by rw [h4.length];exact gw g2,?_⟩;obtain ⟨w2,hu2⟩:=w1.write (i:=i) (cz e1) h1 (((h4.up s2).take kk.toNat).append (.cons (j2.out w1.own g3) ((h4.up s2).drop kk.toNat)));exact k O _ _ (by rw [hu2];exact s0.trans s2) w2
    ·cases q
   ·cases q⟩
noncomputable def whileO (mt:Ren→Option Bool) (mb:RenO→Option FlO):Nat→RenO→Option FlO
 | 0,_=>none
 | n+1,ρ=>match mt (allOf ρ) with
  | none=>none
  | some false=>some (.nx ρ)
  | some true=>match mb ρ with
   | none=>none
   | some (.rt d)=>some (.rt d)
   | some (.rn d)=>some (.rn d)
   | some (.nx ρ')=>whileO mt mb n ρ'
theorem Bg {c:Expr} {body:List Stmt} (N:RenO→Nat) (hp:PassesOwn (model X.prog X.w) X.A X.env X.xe) (hc:XT X c mt) (hb:OSs X body m):OS X (.While c body [] pos) (fun ρ=>whileO mt m (N ρ) ρ):=by obtain ⟨hc⟩:=hc;obtain ⟨hb⟩:=hb;exact ⟨df (K0 hp hc hb) fun E σ H h0=>by
 obtain ⟨H₀,O,ρ,fl,s0,w,q,k⟩:=h0;refine ⟨fun n σ' H'=>∃O' ρ',Same H₀ (hide O' H')∧Own2 X.K H' σ' ρ' O'∧whileO mt m n ρ'=some fl,⟨N ρ,O,ρ,s0,w,q⟩,?_⟩
 rintro n σ' H' ⟨O',ρ',s1,w1,q1⟩
 cases n with
 | zero=>cases q1
 | succ n=>
  unfold whileO at q1;split at q1
  ·cases q1
  ·rename_i e1
   cases q1;refine ⟨_,false,w1.ro_all,e1,fun H2 s2=>?_⟩;obtain ⟨w2,s3⟩:=w1.grown s2;exact k O' σ' H2 (s1.trans s3) w2
  ·rename_i e1
   refine ⟨_,true,w1.ro_all,e1,fun H2 s2=>?_⟩;obtain ⟨w2,s3⟩:=w1.grown s2;split at q1
   ·cases q1
   ·rename_i d e2
    cases q1;exact ⟨fun _ _=>False,fun _ _ z=>z.elim,H₀,O',ρ',_,s1.trans s3,w2,e2,k⟩
   ·rename_i d e2
    cases q1;exact ⟨fun _ _=>False,fun _ _ z=>z.elim,H₀,O',ρ',_,s1.trans s3,w2,e2,k⟩
   ·rename_i ρ2 e2
    exact ⟨fun σ3 H3=>∃O3,Same H₀ (hide O3 H3)∧Own2 X.K H3 σ3 ρ2 O3,fun σ3 H3 ⟨O3,s4,w4⟩=>⟨n,Nat.lt_succ_self n,O3,ρ2,s4,w4,q1⟩,H₀,O',ρ',_,s1.trans s3,w2,e2,fun O3 σ3 H3 s4 w4=>⟨O3,s4,w4⟩⟩⟩
noncomputable def forO (i:Nat) (m:RenO→Option FlO):List D→RenO→Option FlO
 | [],ρ=>some (.nx ρ)
 | x::xs,ρ=>if noL x=true then (match m (ρ.set i (some (.sh x))) with
  | none=>none
  | some (.rt d)=>some (.rt d)
  | some (.rn d)=>some (.rn d)
  | some (.nx ρ')=>forO i m xs ρ') else none
@[simp] noncomputable def forOF (i:Nat) (mi:Ren→Option (List D)) (m:RenO→Option FlO):RenO→Option FlO:=fun ρ=>match mi (shOf ρ) with
 | none=>none
 | some items=>forO i m items ρ
theorem M6 {tg iter:Expr} {body:List Stmt} {mi:Ren→Option (List D)} (hp:PassesOwn (model X.prog X.w) X.A X.env X.xe) (hc:X.calm=true) (hi:XI X tg iter mi) (hg:PG X tg (gName i)) (hb:OSs X body m)
  (hs: ∀x,foldedSetIterable iter X.env x=pure x:=by intro _;rfl):OS X (.For tg iter body [] pos) (forOF i mi m):=by obtain ⟨hi⟩:=hi;obtain ⟨hb⟩:=hb;exact ⟨df (E5 hp hc (Jb hi) hg hb hs) fun E σ H h0=>by
 obtain ⟨H₀,O,ρ,fl,s0,w,q,k⟩:=h0;unfold forOF at q;split at q
 ·cases q
 ·rename_i items e1
  refine ⟨O,w.own,_,items,w.ro_sh,e1,fun J H1 s1 y n1=>?_⟩;obtain ⟨w1,hu⟩:=w.clean s1 n1;refine ⟨fun j n σ' H'=>∃O' ρ',n=items.length - j∧Same H1 (hide O' H')∧Own2 X.K H' σ' ρ' O'∧forO i m (items.drop j) ρ'=some fl,⟨_,O,ρ,rfl,by rw [hu];exact Same.refl _,w1,q⟩,?_⟩
  rintro j n σ' H' ⟨O',ρ',rfl,s2,w2,q2⟩
  have s2':Same H1 H':=s2.trans fo;cases hd:items[j]? with
  | none=>
   have hle:items.length≤j:=List.getElem?_eq_none_iff.mp hd;rw [List.drop_of_length_le hle] at q2;cases q2;exact .inl ⟨(y j H' s2').2 hle,k O' σ' H' (s0.trans (s1.trans s2)) w2⟩
  | some d=>
   have hil:j < items.length:=(List.getElem?_eq_some_iff.mp hd).1;obtain ⟨go,yl⟩:=(y j H' s2').1 d hd;have e:items.drop j=d::items.drop (j+1):=by
    obtain ⟨hl,he⟩:=List.getElem?_eq_some_iff.mp hd;rw [List.drop_eq_getElem_cons hl,he]
   rw [e] at q2;unfold forO at q2;split at q2
   case isFalse=>cases q2
   rename_i hn;refine .inr ⟨go,fun σ3 H3=>∃ρ3 O3,m (ρ'.set i (some (.sh d)))=some (.nx ρ3)∧Same H1 (hide O3 H3)∧Own2 X.K H3 σ3 ρ3 O3,fun σ3 H3 ⟨ρ3,O3,e3,s3,w3⟩=>?_,fun x H2 hx=>?_⟩
   ·rw [e3] at q2
    exact ⟨items.length - (j+1),by omega,O3,ρ3,rfl,s3,w3,q2⟩
   ·obtain ⟨s3,i3⟩:=yl x H2 hx
    obtain ⟨w3,s4⟩:=w2.grown s3;have w4:=w3.setSh i (i3.out w3.own hn);cases e5:m (ρ'.set i (some (.sh d))) with
    | none=>rw [e5] at q2;cases q2
    | some f5=>
     rw [e5] at q2;cases f5 with
     | nx ρ3=>exact ⟨H1,O',_,_,s2.trans s4,w4,e5,fun O3 σ3 H3 s5 w5=>⟨ρ3,O3,rfl,s5,w5⟩⟩
     | rt d5=>
      cases q2;exact ⟨H1,O',_,_,s2.trans s4,w4,e5,fun v H3 s5 i5=>k v H3 ((s0.trans s1).trans s5) i5⟩
     | rn d5=>
      cases q2;exact ⟨H1,O',_,_,s2.trans s4,w4,e5,fun p xs H3 s5 n5 n6 i5=>k p xs H3 ((s0.trans s1).trans s5) ((s0.trans s1).free n5) n6 i5⟩⟩
@[simp] noncomputable def retOw (i:Nat):RenO→Option FlO:=fun ρ=>match owAt ρ i with
 | none=>none
 | some ds=>some (.rn ds)
theorem Bh (he:PE X e (tVar i)):OS X (.Return (some e) pos) (retOw i):=⟨df (pq he) fun E σ H h0=>by
 obtain ⟨H₀,O,ρ,fl,s0,w,q,k⟩:=h0;unfold retOw at q;split at q
 ·cases q
 ·rename_i ds e1
  cases q;obtain ⟨l,xs,h1,h2,h3,h4⟩:=w.ow i ds (cz e1);refine ⟨_,h1,?_⟩;have hl:H₀ l=none:=by
   cases z:H₀ l with
   | none=>rfl
   | some o=>
    have:=s0 l o z
    rw [c9 h2] at this;cases this
  have sub:Same (hide O H) (hide [l] H):=fun a o z=>by
   obtain ⟨z1,z2⟩:=jg z;rw [a8 (fun y=>z1 (by rw [List.mem_singleton.mp y];exact h2))];exact z2
  have:=k l xs (hide [l] H) (s0.trans sub) hl (c9 (List.mem_singleton.mpr rfl)) (h4.up sub)
  have eq:upd (hide [l] H) l (.lst xs)=H:=by
   funext a
   by_cases ha:a=l
   ·subst ha;rw [bd,h3]
   ·rw [a9 ha,a8 (fun y=>ha (List.mem_singleton.mp y))]
  rw [eq] at this;exact this⟩
@[simp] noncomputable def putD (i:Nat) (mk ma:Ren→Option D):RenO→Option FlO:=fun ρ=>match owAt ρ i with
 | none=>none
 | some ds=>match ma (allOf ρ),mk (allOf ρ) with
  | some d,some (.int k)=>if noL d=true∧0≤k∧k.toNat < ds.length then some (.nx (ρ.set i (some (.ow (ds.set k.toNat d))))) else none
  | _,_=>none
theorem Are.set {K:Frag} {H:Hp} {v:V} {d:D} (q:Is K H v d): ∀ {xs:List V} {ds:List D} (n:Nat),Are K H xs ds→Are K H (xs.set n v) (ds.set n d)
 | _,_,_,.nil=> .nil
 | _,_,0,.cons _ t=> .cons q t
 | _,_,n+1,.cons h t=> .cons h (Are.set q n t)
theorem Ow {kx:Expr} {mk:Ren→Option D} {spos:Pos} (ho:PE X o (tVar i)) (hk:XE X kx mk) (he:XE X e ma) (hs:swapsWithSole [.Subscript o kx spos] e pos.line X.env=pure false:=by rfl) (hw:swappedStores [.Subscript o kx spos] e X.env=pure none:=by rfl)
  (h1:(assignEach [.Subscript o kx spos] X.env).map (·.2)=[assign (.Subscript o kx spos) X.env]:=by rfl)
  (ha: ∀v,assign (.Subscript o kx spos) X.env v=(do
   let ov ←holding [v] (eval o X.env)
   let iv ←holding [v,ov] (eval kx X.env)
   standAt spos
   holding [v,ov,iv] (setItem ov iv v)
   release [v,ov,iv] []):=by intro _;rfl):OS X (.Assign [.Subscript o kx spos] e pos) (putD i mk ma):=by obtain ⟨hk⟩:=hk;obtain ⟨he⟩:=he;exact ⟨df (Mu he (Qx ho hk K6 ha) hs hw h1) fun E σ H h0=>by
  obtain ⟨H₀,O,ρ,fl,s0,w,q,k⟩:=h0;unfold putD at q;split at q
  ·cases q
  ·rename_i ds e1
   split at q
   ·rename_i d kk e2 e3
    split at q
    ·rename_i hl
     obtain ⟨g1,g2,g3⟩:=hl;cases q;refine ⟨_,d,w.ro_all,e2,fun v H1 s1 i1=>?_⟩;obtain ⟨w1,s2⟩:=w.grown s1;obtain ⟨l,xs,h1,h2,h3,h4⟩:=w1.ow i ds (cz e1);refine ⟨_,h1,_,_,w1.ro_all,e3,fun u H2 s3 i3=>?_⟩;obtain ⟨w2,s4⟩:=w1.grown s3;cases i3;have hlen:=h4.length;refine ⟨l,xs,kk,kk.toNat,rfl,rfl,s3 _ _ h3,by unfold ixN;rw [if_pos g2,if_pos (by omega)],?_⟩;obtain ⟨w3,hu3⟩:=w2.write (i:=i) (cz e1) h1 (Are.set ((i1.out w1.own g1).up s4) kk.toNat (h4.up s4));exact k O _ _ (by rw [hu3];exact s0.trans (s2.trans s4)) w3
    ·cases q
   ·cases q⟩
def spN (K:Frag) (f:List D→Option (List D)):Sp:=fun vs H Q _=>∃ds rs,Are K H vs ds∧f ds=some rs∧ ∀p xs H',Same H H'→H p=none→H' p=none→Are K H' xs rs→Q (.ref p) (upd H' p (.lst xs))
end
@[simp] noncomputable def start2 (ds:List D) (n:Nat):RenO:=ds.map (fun d=>some (.sh d))++List.replicate n none
theorem Own2.start {K:Frag} {H:Hp} {vs:List V} {ds:List D} (N:List Str) (h:Are K H vs ds):Own2 K H (start N vs) (start2 ds (N.length - ds.length)) []:=by
 have ro:=h.start N;have hh:hide [] H=H:=by funext a;unfold hide;rw [if_neg (by simp)]
 have tr: ∀ {i:Nat} {s:Sl},(start2 ds (N.length - ds.length))[i]?=some (some s)→ ∃d,s= .sh d∧(ds.map some++List.replicate (N.length - ds.length) none)[i]?=some (some d):=fun {i s} e=>by
  unfold start2 at e
  by_cases hl:i < ds.length
  ·rw [getElem?_append_left (by rw [length_map];exact hl),getElem?_map] at e
   obtain ⟨d,hd,e⟩:=map_some e;cases e;exact ⟨d,rfl,by rw [getElem?_append_left (by rw [length_map];exact hl),getElem?_map,hd];rfl⟩
  ·rw [getElem?_append_right (by rw [length_map];omega),List.getElem?_replicate] at e
   split at e <;> cases e
 refine ⟨fun l hl=>(by cases hl),?_,fun i d e=>?_,fun i d e=>?_,fun i d e=>?_,fun i j a b l _ ea _ oa _ _ _=>?_⟩
 ·have:=ro.len
  unfold start2;simpa using this
 ·obtain ⟨d',e1,e2⟩:=tr e
  cases e1;rw [hh];exact ro.at_ i d e2
 ·obtain ⟨d',e1,_⟩:=tr e
  cases e1
 ·obtain ⟨d',e1,_⟩:=tr e
  cases e1
 ·obtain ⟨d',e1,_⟩:=tr ea
  subst e1;cases oa
theorem t6 {H:Hp}:hide [] H=H:=by funext a;unfold hide;rw [if_neg (by simp)]
section
variable {P:Program} {w:World} {K:Frag} {mg:Str→Option Value} {base:Heap}
theorem Tn {x qual:Str} {st:Stmt} {fa:Addr} {fd:FuncData} {N ps:List Str} {k:Nat} {f:List D→Option D} {m:RenO→Option FlO} (F:Fun K x qual st fa fd) (S:FnScope N ps (defScope st)) (hl: ∀ds d,f ds=some d→ds.length=ps.length)
  (hb: ∀ (cdv:Value) (A:Around) (outer:List Env) (s:Shared) (H:Hp) (E:XK),Room k (A.deeper (envOfC qual (defScope st) s.heap.objs.size fa cdv))→OSs (bodyCx P w K mg base N qual st fa cdv A outer s H E) (defBody st) m)
  (hm: ∀ds d,f ds=some d→m (start2 ds (N.length - ps.length))=some (.rt d)):FnOk P w K mg base CX0 (k+1) fa fd ps (spX K f):=by
 have hb:=fun z0 z1 z2 z3 z4 z5 z6=>(hb z0 z1 z2 z3 z4 z5 z6).ok;refine F.ok S (fun vs H Q E h=>?_) (fun cdv A outer s H vs Q E hr h=>?_)
 ·obtain ⟨ds,d,i,e,_⟩:=h
  rw [i.length];exact hl ds d e
 ·obtain ⟨ds,d,i,e,q⟩:=h
  refine ⟨_,hb cdv A outer s H E hr,?_⟩;have w2:=Own2.start N i;rw [hl ds d e] at w2;exact ⟨H,[],_,_,by rw [t6];exact Same.refl _,w2,hm ds d e,fun v H' s' i'=>q v H' s' i'⟩
theorem Vl {x qual:Str} {st:Stmt} {fa:Addr} {fd:FuncData} {N ps:List Str} {k:Nat} {f:List D→Option (List D)} {m:RenO→Option FlO} (F:Fun K x qual st fa fd) (S:FnScope N ps (defScope st)) (hl: ∀ds d,f ds=some d→ds.length=ps.length)
  (hb: ∀ (cdv:Value) (A:Around) (outer:List Env) (s:Shared) (H:Hp) (E:XK),Room k (A.deeper (envOfC qual (defScope st) s.heap.objs.size fa cdv))→OSs (bodyCx P w K mg base N qual st fa cdv A outer s H E) (defBody st) m)
  (hm: ∀ds d,f ds=some d→m (start2 ds (N.length - ps.length))=some (.rn d)):FnOk P w K mg base CX0 (k+1) fa fd ps (spN K f):=by
 have hb:=fun z0 z1 z2 z3 z4 z5 z6=>(hb z0 z1 z2 z3 z4 z5 z6).ok;refine F.ok S (fun vs H Q E h=>?_) (fun cdv A outer s H vs Q E hr h=>?_)
 ·obtain ⟨ds,d,i,e,_⟩:=h
  rw [i.length];exact hl ds d e
 ·obtain ⟨ds,d,i,e,q⟩:=h
  refine ⟨_,hb cdv A outer s H E hr,?_⟩;have w2:=Own2.start N i;rw [hl ds d e] at w2;exact ⟨H,[],_,_,by rw [t6];exact Same.refl _,w2,hm ds d e,fun p xs H' s' n1 n2 i'=>q p xs H' s' n1 n2 i'⟩
theorem Oy {fa:Addr} {fd:FuncData} {ps:List Str} {k:Nat} {f:List D→Option (List D)} (F:FnOk P w K mg base CX0 k fa fd ps (spN K f)):FnOk P w K mg base CX0 k fa fd ps (spX K fun ds=>(f ds).map .list):=
 F.imp fun vs H Q E h0=>by
  obtain ⟨ds,d,i,e,q⟩:=h0;obtain ⟨rs,e1,e2⟩:=map_some e;subst e2;exact ⟨ds,rs,i,e1,fun p xs H' s1 n1 n2 a=>q _ _ (s1.trans (fb n2)) (Is.newL n2 a)⟩
end
theorem O0 {X:Cx} {e:Expr} {es:List Expr} {pos:Pos} {x:Str} {p:Pos} {k:Nat} {ps:List Str} {f:List D→Option (List D)} {ms:Ren→Option (List D)} (F:Own X.prog X.w X.K X.mg X.base k x ps (spN X.K f)) (hr:Room k X.A) (hg:Gl X x) (ha:XA X (e::es) ms)
  (hdb:(x==("__debug__":Str))=false:=by decide) (he:starEach (e::es) X.env=(false,eval e X.env)::starEach es X.env:=by rfl) (hpl:(backTo pos (starEach es X.env)).any (·.1)=false:=by rfl):XN X (.Call (.Name x p) (e::es) [] pos) (fun ρ=>(ms ρ).bind f):=by
 obtain ⟨ha⟩:=ha;refine ⟨?_⟩;obtain ⟨g,fd,F,hm,hk,hb⟩:=F.ex;refine ff (u7 F hr hg hm hk hb .nil pass0 ha hdb he hpl) fun σ H Q h0z=>?_
 obtain ⟨ρ,d,ro,q,k⟩:=h0z;obtain ⟨ds,hd,q⟩:=bind_some q;exact ⟨ρ,ds,ro,hd,fun vs H1 s1 i1=>⟨ds,d,by rw [append_nil];exact i1,q,fun p xs H2 s2 n1 n2 a2=>k p xs H2 (s1.trans s2) (s1.free n1) n2 a2⟩⟩
@[simp] theorem To:noL .none=true:=by unfold noL;rfl
@[simp] theorem Tp {b:Bool}:noL (.bool b)=true:=by unfold noL;rfl
@[simp] theorem O1 {b:Int}:noL (.int b)=true:=by unfold noL;rfl
@[simp] theorem Uj {b:Str}:noL (.str b)=true:=by unfold noL;rfl
@[simp] theorem Uk {b:List D}:noL (.tuple b)=noLs b:=by rw [noL]
@[simp] theorem Tq:noLs []=true:=by unfold noLs;rfl
@[simp] theorem R3 {x:D} {b:List D}:noLs (x::b)=(noL x && noLs b):=by rw [noLs]
theorem Ls {X:Cx} (hu:X.A.units+64 < cLine):OpR X (compareOp .Eq) (fun x y H Q=>∃p xs b,x= .ref p∧y= .ref b∧SqL X.K H p xs∧Rd H b (.lst [])∧Q (.bl xs.isEmpty) H):=by
 intro pins s σ H x y v u Q I rx ry h;obtain ⟨p,xs,b,rfl,rfl,h1,h2,q⟩:=h;cases rx;cases ry;obtain ⟨its,r,pl,_⟩:=I.list h1;obtain ⟨_,its2,n,r2,_,e2⟩:=tu I h2;have z:=r2.zero;subst z;have hb:s.heap.IsList b ([]:List Value).toArray:=⟨_,e2,rfl,_,rfl⟩
 cases xs with
 | nil=>
  have z:=r.zero;subst z;exact SeqAt.eq_listAt (e:=fun _=>true) pl.isList hb rfl (by omega) (fun j h=>by simp at h) ⟨.bl _,H,I,rfl,q⟩
 | cons a xs=>
  have hl:=r.length;exact SeqAt.eq_list_lengthsAt pl.isList hb (by simp;intro z;rw [z] at hl;simp at hl) (by omega) ⟨.bl _,H,I,rfl,q⟩
@[simp] noncomputable def eqScr:D→D→Option D
 | .dict [(.none,.list xs)],.list []=>some (.bool xs.isEmpty)
 | _,_=>none
theorem O4 {K:Frag}:R2D K (fun x y H Q=>∃p xs b,x= .ref p∧y= .ref b∧SqL K H p xs∧Rd H b (.lst [])∧Q (.bl xs.isEmpty) H) eqScr:=by
 intro H x y a b d Q ia ib e q;unfold eqScr at e;split at e
 ·cases e
  cases ia with
  | scr g1 g2=>
   cases ib with
   | lst g3 g4=>
    cases g4;have hl:=g2.length;refine ⟨_,_,_,rfl,rfl,g1,g3,?_⟩;have e2: ∀ (l:List V) (l2:List D),l.length=l2.length→l.isEmpty=l2.isEmpty:=fun l l2 hh=>by cases l <;> cases l2 <;> simp at hh ⊢
    rw [e2 _ _ hl];exact q _ H (Same.refl H) (.bl _)
 ·cases e
end RG
end
section
namespace RG
open PySem PySem.Spec PyProof.Rows L2
section
variable {X:Cx} {K:Frag}
@[simp] noncomputable def allL:D→Option D
 | .list xs=>(bools xs).map fun l=> .bool (l.all id)
 | _=>none
theorem Jf:CallR X (.builtin "all") (fun xs H Q=>∃ (p:Addr) (l:List Bool),xs=[.ref p]∧Rd H p (.lst (l.map V.bl))∧X.calm=true∧Q (.bl (l.all id)) H):=by
 intro pins s σ H xs us Q I r h;obtain ⟨p,l,rfl,hp,hc,q⟩:=h;obtain ⟨u,rfl,ru⟩:=vals1 r;cases ru;obtain ⟨hz,its,n,rv,hl,e⟩:=tu I hp;have hL:s.heap.IsList p its.toArray:=⟨_,e,rfl,_,rfl⟩
 have hlt:p < s.heap.objs.size:=lt_size e;refine call_all_walk (wpAny_pyIter_list hL ?_);refine ⟨s.heap.objs.size,_,_,_,_,_,fun i=>(l[i]?).getD false,rfl,Walks.list (show X.A.in1.handled=none from I.ok.hd hc) _ p (Nat.ne_of_lt hlt) its.toArray,?_,?_,?_⟩
 ·exact ⟨⟨_,Heap.get?_push_size _ rfl,rfl,rfl⟩,hL.push _⟩
 ·intro i v s' Q' E' hv hq
  have hv':its[i]?=some v:=by simpa using hv
  obtain ⟨x,hx,rx⟩: ∃x,(l.map V.bl)[i]?=some x∧RelV x v:=by
   cases hx:(l.map V.bl)[i]? with
   | none=>rw [rv.none_of hx] at hv';cases hv'
   | some x=>
    obtain ⟨u,h1,h2⟩:=rv.get hx;rw [hv'] at h1;cases h1;exact ⟨x,rfl,h2⟩
  rw [getElem?_map] at hx;obtain ⟨b,hb,rfl⟩:=map_some hx;cases rx;have hq:Q' ((l[i]?).getD false) s':=hq;rw [hb] at hq;exact wpAny_truthy_bool hq
 ·intro h' tk kp
  have e1:(List.range its.toArray.size).all (fun i=>(l[i]?).getD false)=l.all id:=by
   have hlen:its.toArray.size=l.length:=by rw [size_toArray,←hl,length_map]
   rw [hlen];apply Bool.eq_iff_iff.mpr;rw [List.all_eq_true,List.all_eq_true];constructor
   ·intro h b hb
    obtain ⟨i,hi,rfl⟩:=List.getElem_of_mem hb
    have:=h i (List.mem_range.mpr hi)
    rw [getElem?_eq_getElem hi] at this;exact this
   ·intro h i hi
    have hi':=List.mem_range.mp hi;rw [getElem?_eq_getElem hi'];exact h _ (List.getElem_mem hi')
  rw [e1];have fp:=I.fpOk (b:=s.heap.objs.size) (H':=H) (Nat.le_refl _) (I.hok.fresh (Nat.le_refl _));have I1:=I.kept (t':=s.toks) (h':=s.heap.push { cls:= .type "list_iterator",data:= .fields #[.ref p,.int 0 0] }) fun b o q=>get?_push_of_some _ q
  exact ⟨.bl _,H,nk (t':=tk) (ch:=[s.heap.objs.size]) I1 (fun b hb=>by rw [List.mem_singleton.mp hb];exact fp) fun b o hb q=>kp b o (by simpa using hb) q,rfl,q⟩
theorem Ul (hc:X.calm=true):CD X.K (fun xs H Q=>∃ (p:Addr) (l:List Bool),xs=[.ref p]∧Rd H p (.lst (l.map V.bl))∧X.calm=true∧Q (.bl (l.all id)) H) (one allL):=by
 intro H xs ds d Q is e q;obtain ⟨a,ha,e0⟩:=t0 e;clear e;subst ha;obtain ⟨v,rfl,i⟩:=is.one;unfold allL at e0;split at e0
 ·obtain ⟨l,h1,h2⟩:=map_some e0
  subst h2;cases i with
  | lst h3 h4=>exact ⟨_,l,rfl,by rw [←A7 h4 h1];exact h3,hc,q _ H (Same.refl H) (.bl _)⟩
 ·cases e0
variable {e o kx:Expr} {mk ma:Ren→Option D} {pos pos' spos:Pos} {i:Nat} {x:Str}
@[simp] noncomputable def setIx (j i:Nat) (mk:Ren→Option D):RenO→Option FlO:=fun ρ=>(owAt ρ i).bind fun ds=>(mk (allOf ρ)).bind fun kd=>(asInt kd).bind fun k=>(atD ds k).map fun d=> .nx (ρ.set j (some (.sh d)))
theorem Lu {j:Nat} (hN:X.N.Nodup) (hi:X.N[j]?=some x) (hx:Loc X.env.scope x) (ho:PE X o (tVar i)) (hk:XE X kx mk) (hp:PlainIx kx:=by intro _ _;rfl) (hs:swapsWith (.Subscript o kx spos) (some (.Name x pos')) pos.line X.env=pure false:=by rfl)
  (hf:X.fn x=true∨X.env.scope.names.lookup x=some .local:=by trivial):OS X (.Assign [.Name x pos'] (.Subscript o kx spos) pos) (setIx j i mk):=by obtain ⟨hk⟩:=hk;exact ⟨df (je hN hi hx (Q4 ix_list ho hk hp) hs hf) fun E σ H h=>by
  obtain ⟨H₀,O,ρ,fl,s0,w,q,k⟩:=h;obtain ⟨ds,e1,q⟩:=bind_some q;obtain ⟨kd,e2,q⟩:=bind_some q;obtain ⟨kk,e3,q⟩:=bind_some q;obtain ⟨d,e4,q⟩:=map_some q;subst q;have e5:=Ad e3;subst e5;obtain ⟨l,xs,h1,h2,h3,h4⟩:=w.ow i ds (cz e1);refine ⟨_,h1,_,_,w.ro_all,e2,fun u H1 s1 i1=>?_⟩;obtain ⟨w1,s2⟩:=w.grown s1;cases i1;obtain ⟨v,hv,iv⟩:=h4.at e4;exact ⟨l,xs,kk,v,rfl,rfl,.inl (.inl (s1 _ _ h3)),hv,k O _ _ (s0.trans s2) (w1.setSh j (iv.up s2))⟩⟩
end
end RG
end
section
namespace RG
open PySem PySem.Spec PyProof.Rows L2
section
variable {X:Cx} {K:Frag} {a b e o kx:Expr} {es:List Expr} {mk ma mb:Ren→Option D} {pos pos' spos apos cpos:Pos} {i:Nat} {x:Str}
end
end RG
end
section
namespace RG
open PySem PySem.Spec PyProof.Rows L2
noncomputable def asPairs:List (D×D)→Option (List (Int×D))
 | []=>some []
 | (.int k,d)::l=>(asPairs l).map fun r=>(k,d)::r
 | _=>none
noncomputable def asDct:D→Option (List (Int×D))
 | .dict ((.int 0,.none)::l)=>asPairs l
 | _=>none
theorem Cs: ∀kvs:List (Int×D),asPairs (kvs.map fun p=>(PyData.int p.1,p.2))=some kvs
 | []=>rfl
 | (k,d)::l=>by rw [map_cons,asPairs,Cs l];rfl
@[simp] theorem Jg (kvs:List (Int×D)):asDct (dctD kvs)=some kvs:=Cs kvs
theorem v5: ∀ {l:List (D×D)} {kvs:List (Int×D)},asPairs l=some kvs→l=kvs.map fun p=>(PyData.int p.1,p.2)
 | [],kvs,h=>by cases h;rfl
 | (k,d)::l,kvs,h=>by
  unfold asPairs at h;split at h
  ·rename_i e;cases e
  ·rename_i e
   cases e;obtain ⟨r,h1,h2⟩:=map_some h;subst h2;rw [map_cons,←v5 h1]
  ·cases h
theorem Gs {d:D} {kvs:List (Int×D)} (h:asDct d=some kvs):d=dctD kvs:=by
 unfold asDct at h;split at h
 ·rw [v5 h]
 ·cases h
noncomputable def valD:List (Int×D)→Int→Option D
 | [],_=>none
 | (k,d)::l,i=>if k=i then some d else valD l i
section
variable {K:Frag} {H H':Hp}
theorem M7 {v:V} {d:D} {kvs:List (Int×D)} (i:Is K H v d) (h:asDct d=some kvs): ∃p vs,v= .ref p∧Rd H p (.dK vs)∧Dct K H vs kvs:=by
 cases i with
 | dct h1 h2=>
  rw [Jg] at h;cases h;exact ⟨_,_,rfl,h1,h2⟩
 | _=>cases h
theorem Dct.val {vs:List (Key×V)} {kvs:List (Int×D)} (k:Int) (h:Dct K H vs kvs):(valD kvs k=none∧valV vs (Sum.inl k:Key)=none)∨ ∃d v,valD kvs k=some d∧valV vs (Sum.inl k:Key)=some v∧Is K H v d:=by
 match h with
 | .nil=>exact .inl ⟨rfl,rfl⟩
 | @Dct.cons _ _ k' v d r r' i t=>
  unfold valD valV
  by_cases e:k'=k
  ·rw [if_pos e]
   refine .inr ⟨d,v,rfl,?_,i⟩;rw [List.find?_cons_of_pos (p:=fun (kv:Key×V)=>decide (kv.1=Sum.inl k)) (by simp [e])];rfl
  ·rw [if_neg e]
   rw [List.find?_cons_of_neg (p:=fun (kv:Key×V)=>decide (kv.1=Sum.inl k)) (by simp [e])];exact Dct.val k t
theorem Dct.length {vs:List (Key×V)} {kvs:List (Int×D)} (h:Dct K H vs kvs):vs.length=kvs.length:=by
 match h with
 | .nil=>rfl
 | .cons i t=>rw [length_cons,length_cons,Dct.length t]
theorem Dct.snoc {vs:List (Key×V)} {kvs:List (Int×D)} {k:Int} {v:V} {d:D} (h:Dct K H vs kvs) (i:Is K H v d):Dct K H (vs++[(.inl k,v)]) (kvs++[(k,d)]):=by
 match h with
 | .nil=>exact .cons i .nil
 | .cons j t=>exact .cons j (Dct.snoc t i)
theorem tq {vs:List (Key×V)} {k:Key} (h:valV vs k=none):(vs.any fun kv=>decide (kv.1=k))=false:=by
 unfold valV at h;rw [Option.map_eq_none_iff,List.find?_eq_none] at h;rw [List.any_eq_false];exact h
end
section
variable {X:Cx} {a b c e o i:Expr} {es:List Expr} {pos pos' apos cpos:Pos} {ma mb mc:Ren→Option D} {ms ms':Ren→Option (List D)} {mt:Ren→Option Bool}
@[simp] noncomputable def dgetD (d k:D):Option D:=match asDct d,k with
 | some kvs,.int k=>valD kvs k
 | _,_=>none
@[simp] noncomputable def dget1D (d k:D):Option D:=match asDct d,k with
 | some kvs,.int k=>some ((valD kvs k).getD .none)
 | _,_=>none
@[simp] noncomputable def dinD (k d:D):Option D:=match asDct d,k with
 | some kvs,.int k=>some (.bool (valD kvs k).isSome)
 | _,_=>none
@[simp] noncomputable def dninD (k d:D):Option D:=match asDct d,k with
 | some kvs,.int k=>some (.bool (!(valD kvs k).isSome))
 | _,_=>none
theorem Bi {K:Frag} {H:Hp} {x y:V} {d k:D} {kvs:List (Int×D)} {n:Int} (ix:Is K H x d) (iy:Is K H y k) (h:asDct d=some kvs) (hk:k= .int n): ∃p o,x= .ref p∧DGet H p y o∧IsD H p∧((valD kvs n=none∧o=none)∨ ∃dd v,valD kvs n=some dd∧o=some v∧Is K H v dd):=by
 subst hk;obtain ⟨p,vs,rfl,h1,h2⟩:=M7 ix h;cases iy;refine ⟨p,_,rfl,.inl ⟨vs,.inl n,h1,rfl,rfl⟩,.inl ⟨vs,h1⟩,?_⟩;rcases h2.val n with ⟨g1,g2⟩ | ⟨dd,v,g1,g2,g3⟩
 ·exact .inl ⟨g1,g2⟩
 ·exact .inr ⟨dd,v,g1,g2,g3⟩
theorem wt {f:D→D→Option D} {ma mb:Ren→Option D} {ρ:Ren} {d:D} (h:two f ma mb ρ=some d): ∃a b,ma ρ=some a∧mb ρ=some b∧f a b=some d:=by
 obtain ⟨a,h1,h⟩:=bind_some h;obtain ⟨b,h2,h⟩:=bind_some h;exact ⟨a,b,h1,h2,h⟩
theorem O5 (hu:X.A.units+1 < cLine) (ho:XE X o ma) (hi:XE X i mb) (hs:NoSl i:=by intro _ _;rfl):XE X (.Subscript o i pos) (two dgetD ma mb):=by obtain ⟨ho⟩:=ho;obtain ⟨hi⟩:=hi;exact ⟨ff (Ib hu ho hi hs) fun σ H Q h0=>by
 obtain ⟨ρ,d,ro,q,k⟩:=h0;obtain ⟨x,y,h1,h2,h3⟩:=wt q;refine ⟨ρ,x,ro,h1,fun v H1 s1 i1=>⟨ρ,y,ro.up s1,h2,fun u H2 s2 i2=>?_⟩⟩;unfold dgetD at h3;split at h3
 ·rename_i kvs n e
  obtain ⟨p,oo,rfl,g1,_,g2 | ⟨dd,w,g2,rfl,g3⟩⟩:=Bi (i1.up s2) i2 e rfl
  ·rw [g2.1] at h3;cases h3
  ·rw [g2] at h3;cases h3
   exact ⟨p,w,rfl,g1,k w H2 (s1.trans s2) g3⟩
 ·cases h3⟩
theorem Lv (hu:X.A.units+1 < cLine) (ho:XE X o ma) (hi:XE X e mb) (m:M1 X o "get" apos e cpos):XE X (.Call (.Attribute o "get" apos) [e] [] cpos) (two dget1D ma mb):=by obtain ⟨ho⟩:=ho;obtain ⟨hi⟩:=hi;exact ⟨ff (Lb hu ho hi m) fun σ H Q h0=>by
 obtain ⟨ρ,d,ro,q,k⟩:=h0;obtain ⟨x,y,h1,h2,h3⟩:=wt q;refine ⟨ρ,x,ro,h1,fun v H1 s1 i1=>?_⟩;unfold dget1D at h3;split at h3
 ·rename_i kvs n e
  obtain ⟨p,vs,rfl,j1,j2⟩:=M7 i1 e;refine ⟨p,rfl,.inl ⟨vs,j1⟩,ρ,_,ro.up s1,h2,fun u H2 s2 i2=>?_⟩;cases h3;obtain ⟨p',oo,e',g1,_,g2 | ⟨dd,w,g2,rfl,g3⟩⟩:=Bi (i1.up s2) i2 e rfl
  ·cases e'
   refine ⟨oo,g1,?_⟩;rw [g2.2];refine k _ H2 (s1.trans s2) ?_;rw [g2.1];exact .non
  ·cases e'
   refine ⟨_,g1,?_⟩;refine k _ H2 (s1.trans s2) ?_;rw [g2];exact g3
 ·cases h3⟩
theorem R4 (hu:X.A.units+1 < cLine) (hi:XE X i ma) (ho:XE X o mb) (hm:behindInMarks .In o=false:=by with_unfolding_all rfl):XT X (.Compare i [.In] [o] pos) (bindB (two dinD ma mb)):=by obtain ⟨hi⟩:=hi;obtain ⟨ho⟩:=ho;exact ⟨Gp (Hh (Ra hu hi ho) hm) fun σ H Q h0=>by
 obtain ⟨ρ,cc,ro,q,k⟩:=h0;obtain ⟨d,q,q2⟩:=bind_some q;obtain ⟨x,y,h1,h2,h3⟩:=wt q;refine ⟨ρ,x,ro,h1,fun v H1 s1 i1=>⟨ρ,y,ro.up s1,h2,fun u H2 s2 i2=>?_⟩⟩;unfold dinD at h3;split at h3
 ·rename_i kvs n e
  cases h3;cases q2;obtain ⟨p,oo,rfl,g1,_,g2 | ⟨dd,w,g2,rfl,g3⟩⟩:=Bi i2 (i1.up s2) e rfl
  ·refine ⟨p,oo,rfl,g1,_,rfl,?_⟩
   rw [g2.2];rw [g2.1] at k;exact k H2 (s1.trans s2)
  ·refine ⟨p,_,rfl,g1,_,rfl,?_⟩
   rw [g2] at k;exact k H2 (s1.trans s2)
 ·cases h3⟩
theorem Jh (hu:X.A.units+1 < cLine) (hi:XE X i ma) (ho:XE X o mb) (hm:behindInMarks .NotIn o=false:=by with_unfolding_all rfl):XT X (.Compare i [.NotIn] [o] pos) (bindB (two dninD ma mb)):=by obtain ⟨hi⟩:=hi;obtain ⟨ho⟩:=ho;exact ⟨Gp (Hh (Ic hu hi ho) hm) fun σ H Q h0=>by
 obtain ⟨ρ,cc,ro,q,k⟩:=h0;obtain ⟨d,q,q2⟩:=bind_some q;obtain ⟨x,y,h1,h2,h3⟩:=wt q;refine ⟨ρ,x,ro,h1,fun v H1 s1 i1=>⟨ρ,y,ro.up s1,h2,fun u H2 s2 i2=>?_⟩⟩;unfold dninD at h3;split at h3
 ·rename_i kvs n e
  cases h3;cases q2;obtain ⟨p,oo,rfl,g1,_,g2 | ⟨dd,w,g2,rfl,g3⟩⟩:=Bi i2 (i1.up s2) e rfl
  ·refine ⟨p,oo,rfl,g1,_,rfl,?_⟩
   rw [g2.2];rw [g2.1] at k;exact k H2 (s1.trans s2)
  ·refine ⟨p,_,rfl,g1,_,rfl,?_⟩
   rw [g2] at k;exact k H2 (s1.trans s2)
 ·cases h3⟩
variable {st:Stmt} {tg:Expr}
theorem R5:XS X st (fun _=>none):=⟨fun pins s σ H E I h0z=>by obtain ⟨ρ,fl,ro,q,k⟩:=h0z;cases q⟩
@[simp] noncomputable def exprF (ma:Ren→Option D):Ren→Option Fl:=fun ρ=>match ma ρ with
 | none=>none
 | some _=>some (.nx ρ)
theorem Ji (he:XE X e ma) (hs:swapsWith e none pos.line X.env=pure false:=by rfl):XS X (.Expr e pos) (exprF ma):=by obtain ⟨he⟩:=he;exact ⟨df (kq he hs) fun E σ H h0=>by
 obtain ⟨ρ,fl,ro,q,k⟩:=h0;unfold exprF at q;split at q
 ·cases q
 ·rename_i d e1
  cases q;exact ⟨ρ,d,ro,e1,fun v H1 s1 _=>k σ H1 s1 (ro.up s1)⟩⟩
@[simp] noncomputable def exprO (ma:Ren→Option D):RenO→Option FlO:=fun ρ=>match ma (allOf ρ) with
 | none=>none
 | some _=>some (.nx ρ)
theorem Jj (he:XE X e ma) (hs:swapsWith e none pos.line X.env=pure false:=by rfl):OS X (.Expr e pos) (exprO ma):=by obtain ⟨he⟩:=he;exact ⟨df (kq he hs) fun E σ H h0=>by
 obtain ⟨H₀,O,ρ,fl,s0,w,q,k⟩:=h0;unfold exprO at q;split at q
 ·cases q
 ·rename_i d e1
  cases q;refine ⟨_,d,w.ro_all,e1,fun v H1 s1 _=>?_⟩;obtain ⟨w1,s2⟩:=w.grown s1;exact k O σ H1 (s0.trans s2) w1⟩
theorem Um (hc:XT X c mt) (ha:XN X a ms) (hb:XN X b ms'):XN X (.IfExp c a b pos) (ifE mt ms ms'):=by obtain ⟨hc⟩:=hc;obtain ⟨ha⟩:=ha;obtain ⟨hb⟩:=hb;exact ⟨ff (E4 hc ha hb) fun σ H Q h0=>by
 obtain ⟨ρ,ds,ro,q,k⟩:=h0;obtain ⟨z,hz,q⟩:=bind_some q;refine ⟨ρ,z,ro,hz,fun H1 s1=>?_⟩;have fr: ∀ {p:Addr},H1 p=none→H p=none:=fun {p} n=>by
  cases hp:H p with
  | none=>rfl
  | some u=>rw [s1 p u hp] at n;cases n
 cases z with
 | true=>exact ⟨ρ,ds,ro.up s1,q,fun p xs H2 s2 n1 n2 a=>k p xs H2 (s1.trans s2) (fr n1) n2 a⟩
 | false=>exact ⟨ρ,ds,ro.up s1,q,fun p xs H2 s2 n1 n2 a=>k p xs H2 (s1.trans s2) (fr n1) n2 a⟩⟩
@[simp] noncomputable def slT:D→Option Int→Option Int→Option D
 | .tuple xs,lo,hi=>if cIx xs.length 0 lo=0∧cIx xs.length xs.length hi=xs.length then none else some (.tuple (cutD xs lo hi))
 | _,_,_=>none
@[simp] noncomputable def sliceT (ma:Ren→Option D) (ml mh:Ren→Option (Option Int)):Ren→Option D:=fun ρ=>match ma ρ with
 | none=>none
 | some d=>match ml ρ with
  | none=>none
  | some l=>match mh ρ with
   | none=>none
   | some h=>slT d l h
theorem Jk {lo hi:Option Expr} {p2:Pos} {ml mh:Ren→Option (Option Int)} (he:XE X e ma) (hl:XO X lo ml) (hh:XO X hi mh):XE X (.Subscript e (.Slice lo hi none p2) pos) (sliceT ma ml mh):=by obtain ⟨he⟩:=he;obtain ⟨hl⟩:=hl;obtain ⟨hh⟩:=hh;exact ⟨ff (E9 Q3 he hl hh) fun σ H Q h0=>by
  obtain ⟨ρ,d,ro,q,k⟩:=h0;unfold sliceT at q;split at q
  ·cases q
  ·rename_i a e1
   split at q
   ·cases q
   ·rename_i l e2
    split at q
    ·cases q
    ·rename_i h e3
     refine ⟨ρ,a,ro,e1,fun v H1 s1 i1=>⟨ρ,l,ro.up s1,e2,fun H2 s2=>⟨ρ,h,(ro.up s1).up s2,e3,fun H3 s3=>?_⟩⟩⟩;have i3:=i1.up (s2.trans s3);unfold slT at q;split at q
     ·split at q
      ·cases q
      ·rename_i hn
       cases q;cases i3 with
       | tup h1 h2=>exact ⟨_,_,rfl,h1,by rw [←A4,←A4,h2.length];exact hn,fun p hp=>k _ _ (s1.trans (s2.trans (s3.trans (fb hp)))) (Is.newT hp (h2.cut l h))⟩
     ·cases q⟩
end
end RG
end
section
namespace RG
open PySem PySem.Spec PyProof.Rows L2
section
variable {K:Frag} {H H':Hp} {σ:L2.St} {ρ:RenO} {O:List Addr}
theorem Own2.at_ow (h:Own2 K H σ ρ O) {j:Nat} {sl:Sl} {l:Addr} (e:ρ[j]?=some (some sl)) (o:sl.isOw=true) (e2:σ[j]?=some (some (.ref l))):l∈O:=by
 cases sl with
 | sh d=>cases o
 | ow ds=>
  obtain ⟨l',xs',h1,h2,_⟩:=h.ow j ds e;rw [e2] at h1;cases h1;exact h2
 | od ds=>
  obtain ⟨l',xs',h1,h2,_⟩:=h.od j ds e;rw [e2] at h1;cases h1;exact h2
theorem Own2.setOd (h:Own2 K H σ ρ O) (i:Nat) {p:Addr} (hp:H p=none):
  Own2 K (upd H p (.dK [])) (σ.set i (some (.ref p))) (ρ.set i (some (.od []))) (p::O)∧hide (p::O) (upd H p (.dK []))=hide O H:=by
 have np:p ∉ O:=fun z=>by
  obtain ⟨o,h1,_⟩:=h.own p z;rw [hp] at h1;cases h1
 have hu:hide (p::O) (upd H p (.dK []))=hide O H:=by
  funext a
  by_cases ha:a=p
  ·subst ha
   rw [c9 mem_cons_self,a8 np,hp]
  ·by_cases hb:a∈O
   ·rw [c9 (mem_cons_of_mem _ hb),c9 hb]
   ·rw [a8 (fun z=>(List.mem_cons.mp z).elim ha hb),a8 hb,a9 ha]
 have nep: ∀ {j:Nat} {l:Addr} {sl:Sl},ρ[j]?=some (some sl)→sl.isOw=true→σ[j]?=some (some (.ref l))→l≠p:=fun {j l sl} e o e2 z=>by
  subst z;exact np (h.at_ow e o e2)
 refine ⟨⟨fun l hl=>?_,by rw [length_set,length_set,h.len],fun j c e=>?_,fun j cs e=>?_,fun j cs e=>?_,fun a b x y l hab ea eb oa ob sa sb=>?_⟩,hu⟩
 ·rcases List.mem_cons.mp hl with rfl | hl
  ·exact ⟨_,bd,rfl⟩
  ·obtain ⟨o,h1,h2⟩:=h.own l hl
   exact ⟨o,by rw [a9 (bf h1 hp)];exact h1,h2⟩
 ·rcases bg e with ⟨rfl,hl,e⟩ | ⟨hij,e⟩
  ·cases e
  ·obtain ⟨u,h1,h2⟩:=h.sh j c e
   exact ⟨u,by rw [getElem?_set_ne hij];exact h1,by rw [hu];exact h2⟩
 ·rcases bg e with ⟨rfl,hl,e⟩ | ⟨hij,e⟩
  ·cases e
  ·obtain ⟨l,xs',h1,h2,h3,h4⟩:=h.ow j cs e
   exact ⟨l,xs',by rw [getElem?_set_ne hij];exact h1,mem_cons_of_mem _ h2,by rw [a9 (bf h3 hp)];exact h3,by rw [hu];exact h4⟩
 ·rcases bg e with ⟨rfl,hl,e⟩ | ⟨hij,e⟩
  ·cases e
   exact ⟨p,[],v4 (by rw [h.len];exact hl),mem_cons_self,bd,.nil⟩
  ·obtain ⟨l,xs',h1,h2,h3,h4⟩:=h.od j cs e
   exact ⟨l,xs',by rw [getElem?_set_ne hij];exact h1,mem_cons_of_mem _ h2,by rw [a9 (bf h3 hp)];exact h3,by rw [hu];exact h4⟩
 ·rcases bg ea with ⟨rfl,hl,e⟩ | ⟨h1,e1⟩
  ·rcases bg eb with ⟨h2,_,_⟩ | ⟨h2,e2⟩
   ·exact hab h2
   ·rw [v4 (by rw [h.len];exact hl)] at sa
    cases sa;rw [getElem?_set_ne h2] at sb;exact nep e2 ob sb rfl
  ·rw [getElem?_set_ne h1] at sa
   rcases bg eb with ⟨rfl,hl,e⟩ | ⟨h2,e2⟩
   ·rw [v4 (by rw [h.len];exact hl)] at sb
    cases sb;exact nep e1 oa sa rfl
   ·rw [getElem?_set_ne h2] at sb
    exact h.sep a b x y l hab e1 e2 oa ob sa sb
theorem Own2.writeD (h:Own2 K H σ ρ O) {i:Nat} {ds es:List (Int×D)} {l:Addr} {ys:List (Key×V)} (e:ρ[i]?=some (some (.od ds))) (es':σ[i]?=some (some (.ref l))) (q:Dct K (hide O H) ys es):
  Own2 K (upd H l (.dK ys)) σ (ρ.set i (some (.od es))) O∧hide O (upd H l (.dK ys))=hide O H:=by
 obtain ⟨l',xs,h1,h2,h3,h4⟩:=h.od i ds e;rw [es'] at h1;cases h1;have hu:hide O (upd H l (.dK ys))=hide O H:=by
  funext a
  by_cases hb:a∈O
  ·rw [c9 hb,c9 hb]
  ·rw [a8 hb,a8 hb,a9 (fun z=>hb (by rw [z];exact h2))]
 have apart: ∀ {j:Nat} {l2:Addr} {sl:Sl},i≠j→ρ[j]?=some (some sl)→sl.isOw=true→σ[j]?=some (some (.ref l2))→l2≠l:=fun {j l2 sl} hij ej o ej2 z=>by
  subst z;exact h.sep i j _ _ _ hij e ej rfl o es' ej2
 refine ⟨⟨fun a ha=>?_,by rw [length_set];exact h.len,fun j c ej=>?_,fun j cs ej=>?_,fun j cs ej=>?_,fun a b x y l2 hab ea eb oa ob sa sb=>?_⟩,hu⟩
 ·by_cases z:a=l
  ·subst z
   exact ⟨_,bd,rfl⟩
  ·obtain ⟨o,q1,q2⟩:=h.own a ha
   exact ⟨o,by rw [a9 z];exact q1,q2⟩
 ·rcases bg ej with ⟨rfl,hl,z⟩ | ⟨hij,ej⟩
  ·cases z
  ·obtain ⟨u,q1,q2⟩:=h.sh j c ej
   exact ⟨u,q1,by rw [hu];exact q2⟩
 ·rcases bg ej with ⟨rfl,hl,z⟩ | ⟨hij,ej⟩
  ·cases z
  ·obtain ⟨l2,xs2,q1,q2,q3,q4⟩:=h.ow j cs ej
   exact ⟨l2,xs2,q1,q2,by rw [a9 (apart hij ej rfl q1)];exact q3,by rw [hu];exact q4⟩
 ·rcases bg ej with ⟨rfl,hl,z⟩ | ⟨hij,ej⟩
  ·cases z
   exact ⟨l,ys,es',h2,bd,by rw [hu];exact q⟩
  ·obtain ⟨l2,xs2,q1,q2,q3,q4⟩:=h.od j cs ej
   exact ⟨l2,xs2,q1,q2,by rw [a9 (apart hij ej rfl q1)];exact q3,by rw [hu];exact q4⟩
 ·have tr: ∀ {c:Nat} {x:Sl},(ρ.set i (some (.od es)))[c]?=some (some x)→x.isOw=true→ ∃x',ρ[c]?=some (some x')∧x'.isOw=true:=fun {c x} ec oc=>by
   rcases bg ec with ⟨rfl,hl,z⟩ | ⟨_,ec⟩
   ·exact ⟨_,e,rfl⟩
   ·exact ⟨x,ec,oc⟩
  obtain ⟨x',q1,q2⟩:=tr ea oa;obtain ⟨y',q3,q4⟩:=tr eb ob;exact h.sep a b x' y' l2 hab q1 q3 q2 q4 sa sb
end
mutual
noncomputable def noC:D→Bool
 | .none=>true | .bool _=>true | .int _=>true | .str _=>true
 | .tuple xs=>noCs xs
 | .list xs=>noCs xs
 | .dict _=>false
noncomputable def noCs:List D→Bool
 | []=>true
 | x::xs=>noC x && noCs xs
end
section
variable {K:Frag} {H:Hp} {O:List Addr}
def OwnedC (O:List Addr) (H:Hp):Prop:= ∀l∈O,∃vs,H l=some (.dK vs)
theorem Ak (ho:OwnedC O H) {b:Addr} {o:HO} (h:H b=some o) (n: ∀vs,o≠ .dK vs):b ∉ O:=fun z=>by
 obtain ⟨vs,h1⟩:=ho b z;rw [h] at h1;cases h1;exact n vs rfl
theorem Jl (ho:OwnedC O H) {b:Addr} {u:HO} (h:Rd H b u) (n: ∀vs,u≠ .dK vs):Rd (hide O H) b u:=by
 rcases h with h | ⟨o,h⟩
 ·exact .inl (by rw [a8 (Ak ho h n)];exact h)
 ·exact .inr ⟨o,by rw [a8 (Ak ho h (fun vs z=>by cases z))];exact h⟩
mutual
theorem Is.outC (ho:OwnedC O H): ∀ {v:V} {d:D},Is K H v d→noC d=true→Is K (hide O H) v d
 | _,_,.non,_=> .non
 | _,_,.bl b,_=> .bl b
 | _,_,.int i,_=> .int i
 | _,_,.str x,_=> .str x
 | _,.list ds,.lst h a,n=>by
  have n:noCs ds=true:=by unfold noC at n;exact n
  exact .lst (Jl ho h (fun vs z=>by cases z)) (Are.outC ho a n)
 | _,.tuple ds,.tup h a,n=>by
  have n:noCs ds=true:=by unfold noC at n;exact n
  refine .tup ?_ (Are.outC ho a n);rcases h with h | h
  ·exact .inl (Jl ho h (fun vs z=>by cases z))
  ·exact .inr h
 | _,_,.scr h a,n=>by unfold noC at n;cases n
 | _,_,.dct h a,n=>by unfold noC at n;cases n
theorem Are.outC (ho:OwnedC O H): ∀ {xs:List V} {ds:List D},Are K H xs ds→noCs ds=true→Are K (hide O H) xs ds
 | _,_,.nil,_=> .nil
 | _,d::ds,.cons h t,n=>by
  unfold noCs at n;rw [Bool.and_eq_true] at n;exact .cons (Is.outC ho h n.1) (Are.outC ho t n.2)
end
end
@[simp] noncomputable def Sl.dcD:Sl→Option D
 | .sh d=>some d
 | .ow _=>none
 | .od kvs=>some (dctD kvs)
@[simp] noncomputable def dcOf (ρ:RenO):Ren:=ρ.map fun o=>o.bind Sl.dcD
section
variable {K:Frag} {H H':Hp} {σ:L2.St} {ρ:RenO} {O:List Addr}
noncomputable def isL:Option HO→Bool
 | some (.lst _)=>true
 | _=>false
noncomputable def isC:Option HO→Bool
 | some (.dK _)=>true
 | _=>false
theorem O6 {o:Option HO}:isL o=true↔ ∃xs,o=some (.lst xs):=by
 constructor
 ·intro h
  unfold isL at h;split at h
  ·exact ⟨_,rfl⟩
  ·cases h
 ·rintro ⟨xs,rfl⟩;rfl
theorem O7 {o:Option HO}:isC o=true↔ ∃xs,o=some (.dK xs):=by
 constructor
 ·intro h
  unfold isC at h;split at h
  ·exact ⟨_,rfl⟩
  ·cases h
 ·rintro ⟨xs,rfl⟩;rfl
noncomputable def lstsOf (O:List Addr) (H:Hp):List Addr:=O.filter fun a=>isL (H a)
noncomputable def dctsOf (O:List Addr) (H:Hp):List Addr:=O.filter fun a=>isC (H a)
theorem mem_lsts {a:Addr}:a∈lstsOf O H↔a∈O∧ ∃xs,H a=some (.lst xs):=by
 unfold lstsOf;rw [List.mem_filter,O6]
theorem mem_dcts {a:Addr}:a∈dctsOf O H↔a∈O∧ ∃vs,H a=some (.dK vs):=by
 unfold dctsOf;rw [List.mem_filter,O7]
theorem D8 (ho:Owned O H) {a:Addr} (h:a∈O):a∈lstsOf O H∨a∈dctsOf O H:=by
 obtain ⟨o,h1,h2⟩:=ho a h;cases o with
 | lst xs=>exact .inl (mem_lsts.mpr ⟨h,xs,h1⟩)
 | dK vs=>exact .inr (mem_dcts.mpr ⟨h,vs,h1⟩)
 | _=>cases h2
theorem Own2.ro_dc (h:Own2 K H σ ρ O):Ro K (hide (lstsOf O H) H) σ (dcOf ρ):=by
 have up:Same (hide O H) (hide (lstsOf O H) H):=fun b o e=>by
  obtain ⟨e1,e2⟩:=jg e;rw [a8 (fun z=>e1 (mem_lsts.mp z).1)];exact e2
 refine ⟨by unfold dcOf;rw [length_map];exact h.len,fun i d e=>?_⟩;unfold dcOf at e;rw [getElem?_map] at e;obtain ⟨o,h1,h2⟩:=map_some e;cases o with
 | none=>cases h2
 | some sl=>
  cases sl with
  | sh d'=>
   cases h2;obtain ⟨v,q1,q2⟩:=h.sh i d h1;exact ⟨v,q1,q2.up up⟩
  | ow ds=>cases h2
  | od kvs=>
   cases h2;obtain ⟨l,vs,q1,q2,q3,q4⟩:=h.od i kvs h1;refine ⟨_,q1,.dct (.inl ?_) (q4.up up)⟩;rw [a8 (fun z=>?_)]
   ·exact q3
   ·obtain ⟨_,xs,z⟩:=mem_lsts.mp z
    rw [q3] at z;cases z
end
section
variable {X:Cx} {a b c e:Expr} {es:List Expr} {pos pos':Pos} {ma mb mc:Ren→Option D} {ms:Ren→Option (List D)} {st:Stmt} {i:Nat} {x:Str}
@[simp] noncomputable def setE (i:Nat) (ma:Ren→Option D):RenO→Option FlO:=fun ρ=>match ma (dcOf ρ) with
 | none=>none
 | some d=>if noC d=true then some (.nx (ρ.set i (some (.sh d)))) else none
theorem O8 (hN:X.N.Nodup) (hi:X.N[i]?=some x) (hx:Loc X.env.scope x) (he:XE X e ma) (hs:swapsWith e (some (.Name x pos')) pos.line X.env=pure false:=by rfl)
  (hf:X.fn x=true∨X.env.scope.names.lookup x=some .local:=by trivial):OS X (.Assign [.Name x pos'] e pos) (setE i ma):=by obtain ⟨he⟩:=he;exact ⟨df (je hN hi hx (ky he) hs hf) fun E σ H h0=>by
 obtain ⟨H₀,O,ρ,fl,s0,w,q,k⟩:=h0;unfold setE at q;split at q
 ·cases q
 ·rename_i d e1
  split at q
  ·rename_i hn
   cases q;refine ⟨lstsOf O H,fun l hl=>w.own l (mem_lsts.mp hl).1,_,d,w.ro_dc,e1,fun v H1 s1 i1 n1=>?_⟩;have same:Same H (unhide (lstsOf O H) H H1):=fun b o eb=>by
    by_cases hb:b∈lstsOf O H
    ·rw [jf hb];exact eb
    ·rw [cf hb]
     exact s1 b o (by rw [a8 hb];exact eb)
   obtain ⟨w1,s2⟩:=w.grown same;have eq:hide O (unhide (lstsOf O H) H H1)=hide (dctsOf O H) H1:=by
    funext b
    by_cases hb:b∈O
    ·rw [c9 hb]
     rcases D8 w.own hb with z | z
     ·have nd:b ∉ dctsOf O H:=fun y=>by
       obtain ⟨_,xs,z⟩:=mem_lsts.mp z;obtain ⟨_,vs,y⟩:=mem_dcts.mp y;rw [z] at y;cases y
      rw [a8 nd,n1 b z]
     ·rw [c9 z]
    ·rw [a8 hb,a8 (fun z=>hb (mem_dcts.mp z).1),cf (fun z=>hb (mem_lsts.mp z).1)]
   refine k O _ _ (s0.trans s2) (w1.setSh i ?_);rw [eq];refine i1.outC (fun l hl=>?_) hn;obtain ⟨hl1,vs,hl2⟩:=mem_dcts.mp hl;have nl:l ∉ lstsOf O H:=fun z=>by
    obtain ⟨_,xs,z⟩:=mem_lsts.mp z;rw [hl2] at z;cases z
   exact ⟨vs,s1 l _ (by rw [a8 nl];exact hl2)⟩
  ·cases q⟩
@[simp] noncomputable def newS (i:Nat) (ms:Ren→Option (List D)):RenO→Option FlO:=fun ρ=>match ms (allOf ρ) with
 | none=>none
 | some ds=>if noLs ds=true then some (.nx (ρ.set i (some (.sh (.list ds))))) else none
theorem D9 (hN:X.N.Nodup) (hi:X.N[i]?=some x) (hx:Loc X.env.scope x) (he:XN X e ms) (hs:swapsWith e (some (.Name x pos')) pos.line X.env=pure false:=by rfl)
  (hf:X.fn x=true∨X.env.scope.names.lookup x=some .local:=by trivial):OS X (.Assign [.Name x pos'] e pos) (newS i ms):=by obtain ⟨he⟩:=he;exact ⟨df (je hN hi hx he hs hf) fun E σ H h0=>by
 obtain ⟨H₀,O,ρ,fl,s0,w,q,k⟩:=h0;unfold newS at q;split at q
 ·cases q
 ·rename_i ds e1
  split at q
  ·rename_i hn
   cases q;refine ⟨_,ds,w.ro_all,e1,fun p xs H1 s1 n0 n1 a1=>?_⟩;obtain ⟨w1,s2⟩:=w.grown s1;obtain ⟨w2,s3⟩:=w1.grown (fb (o:= .lst xs) n1);have np:p ∉ O:=fun z=>by
    obtain ⟨o,h1,_⟩:=w1.own p z;rw [n1] at h1;cases h1
   exact k O _ _ (s0.trans (s2.trans s3)) (w2.setSh i (.lst (.inl (by rw [a8 np,bd])) ((a1.out w1.own hn).up s3)))
  ·cases q⟩
@[simp] noncomputable def dnew (i:Nat):RenO→Option FlO:=fun ρ=>some (.nx (ρ.set i (some (.od []))))
theorem O9 {p:Pos} (hN:X.N.Nodup) (hi:X.N[i]?=some x) (hx:Loc X.env.scope x) (hs:swapsWith (.Dict [] [] p) (some (.Name x pos')) pos.line X.env=pure false:=by rfl)
  (hf:X.fn x=true∨X.env.scope.names.lookup x=some .local:=by trivial):OS X (.Assign [.Name x pos'] (.Dict [] [] p) pos) (dnew i):=⟨df (je hN hi hx K9 hs hf) fun E σ H h0=>by
 obtain ⟨H₀,O,ρ,fl,s0,w,q,k⟩:=h0;cases q;intro p hp;obtain ⟨w2,hu⟩:=w.setOd i hp;exact k (p::O) _ _ (by rw [hu];exact s0) w2⟩
@[simp] noncomputable def odAt (ρ:RenO) (i:Nat):Option (List (Int×D)):=match ρ[i]? with
 | some (some (.od kvs))=>some kvs
 | _=>none
theorem xo {ρ:RenO} {i:Nat} {ds:List (Int×D)} (h:odAt ρ i=some ds):ρ[i]?=some (some (.od ds)):=by
 unfold odAt at h;split at h
 ·rename_i e;cases h;exact e
 ·cases h
@[simp] noncomputable def dputO (i:Nat) (mk ma:Ren→Option D):RenO→Option FlO:=fun ρ=>match ma (shOf ρ) with
 | none=>none
 | some d=>match odAt ρ i with
  | none=>none
  | some kvs=>match mk (shOf ρ) with
   | some (.int n)=>if (valD kvs n).isNone=true∧kvs.length+1≤lim then some (.nx (ρ.set i (some (.od (kvs++[(n,d)]))))) else none
   | _=>none
theorem Pa {o kx:Expr} {mk:Ren→Option D} (hu:X.A.units+1 < cLine) (ho:PE X o (tVar i)) (hk:XE X kx mk) (hv:XE X e ma) (hs:swapsWith e (some (.Subscript o kx pos')) pos.line X.env=pure false:=by rfl):
  OS X (.Assign [.Subscript o kx pos'] e pos) (dputO i mk ma):=by obtain ⟨hk⟩:=hk;obtain ⟨hv⟩:=hv;exact ⟨df (Id hu ho (ky hk) (ky hv) hs) fun E σ H h0=>by
 obtain ⟨H₀,O,ρ,fl,s0,w,q,k⟩:=h0;unfold dputO at q;split at q
 ·cases q
 ·rename_i d e1
  split at q
  ·cases q
  ·rename_i kvs e2
   split at q
   ·rename_i n e3
    split at q
    ·rename_i hz
     cases q;refine ⟨O,w.own,_,d,w.ro_sh,e1,fun v H1 s1 i1 n1=>?_⟩;obtain ⟨w1,hu1⟩:=w.clean s1 n1;obtain ⟨l,vs,h1,h2,h3,h4⟩:=w1.od i kvs (xo e2);refine ⟨_,h1,O,w1.own,_,_,w1.ro_sh,e3,fun y H2 s2 i2 n2=>?_⟩;obtain ⟨w2,hu2⟩:=w1.clean s2 n2;obtain ⟨l',vs',g1,g2,g3,g4⟩:=w2.od i kvs (xo e2);rw [h1] at g1;cases g1;cases i2;refine ⟨l,_,rfl,DPut.k (k:=Sum.inl n) g3 (by rw [g4.length];exact Cr hz.2),?_⟩;have hn:valV vs' (Sum.inl n:Key)=none:=by
      rcases g4.val n with ⟨_,z⟩ | ⟨dd,vv,z,_⟩
      ·exact z
      ·rw [z] at hz;cases hz.1
     have hp:putK vs' (Sum.inl n:Key) v=vs'++[(Sum.inl n,v)]:=by
      unfold putK;rw [tq hn];rfl
     rw [hp];have iv:Is X.K (hide O (unhide O (unhide O H H1) H2)) v d:=by
      rw [hu2];rw [hu1] at s2;exact i1.up s2
     obtain ⟨w3,hu3⟩:=w2.writeD (i:=i) (xo e2) h1 (g4.snoc (k:=n) iv);refine k O _ _ ?_ w3;rw [hu3,hu2];rw [hu1] at s2;exact s0.trans (s1.trans s2)
    ·cases q
   ·cases q⟩
end
section
variable {P:Program} {w:World} {K:Frag} {mg:Str→Option Value} {base:Heap}
noncomputable def pick (o:Option Fl):Option D:=match o with
 | some (.rt d)=>some d
 | _=>none
noncomputable def pickO (o:Option FlO):Option D:=match o with
 | some (.rt d)=>some d
 | _=>none
noncomputable def pickN (o:Option FlO):Option (List D):=match o with
 | some (.rn d)=>some d
 | _=>none
open Classical in
noncomputable def fOf {α β:Type} (Pre:α→Prop) (enc:α→List D) (r:List D→Option β):List D→Option β:=fun ds=>if ∃p,Pre p∧enc p=ds then r ds else none
theorem Bj {α β:Type} {Pre:α→Prop} {enc:α→List D} {r:List D→Option β} {p:α} (h:Pre p):fOf Pre enc r (enc p)=r (enc p):=if_pos ⟨p,h,rfl⟩
theorem dc {α β:Type} {Pre:α→Prop} {enc:α→List D} {r:List D→Option β} {ds:List D} {d:β} (h:fOf Pre enc r ds=some d): ∃p,Pre p∧enc p=ds∧r ds=some d:=by
 unfold fOf at h;split at h
 ·rename_i z
  obtain ⟨p,h1,h2⟩:=z;exact ⟨p,h1,h2,h⟩
 ·cases h
theorem re {x qual:Str} {st:Stmt} {fa:Addr} {fd:FuncData} {N ps:List Str} {k:Nat} {m:Ren→Option Fl} {α:Type} {Pre:α→Prop} {enc:α→List D} {Post:α→D→Prop} (F:Fun K x qual st fa fd) (S:FnScope N ps (defScope st)) (hl: ∀p,Pre p→(enc p).length=ps.length)
  (hb: ∀ (cdv:Value) (A:Around) (outer:List Env) (s:Shared) (H:Hp) (E:XK),Room k (A.deeper (envOfC qual (defScope st) s.heap.objs.size fa cdv))→XSs (bodyCx P w K mg base N qual st fa cdv A outer s H E) (defBody st) m)
  (hm: ∀p,Pre p→ ∃d,m ((enc p).map some++List.replicate (N.length - ps.length) none)=some (.rt d)∧Post p d): ∃f,(∀p,Pre p→ ∃d,f (enc p)=some d∧Post p d)∧FnOk P w K mg base CX0 (k+1) fa fd ps (spX K f):=by
 refine ⟨fOf Pre enc fun ds=>pick (m (ds.map some++List.replicate (N.length - ps.length) none)),fun p hp=>?_,yw F S (fun ds d h=>?_) hb fun ds d h=>?_⟩
 ·obtain ⟨d,h1,h2⟩:=hm p hp
  exact ⟨d,by rw [Bj hp,h1];rfl,h2⟩
 ·obtain ⟨p,h1,rfl,_⟩:=dc h
  exact hl p h1
 ·obtain ⟨p,h1,rfl,h2⟩:=dc h
  obtain ⟨d',h3,_⟩:=hm p h1;rw [h3] at h2 ⊢;cases h2;exact .inl rfl
theorem Uo {x qual:Str} {st:Stmt} {fa:Addr} {fd:FuncData} {N ps:List Str} {k:Nat} {m:RenO→Option FlO} {α:Type} {Pre:α→Prop} {enc:α→List D} {Post:α→D→Prop} (F:Fun K x qual st fa fd) (S:FnScope N ps (defScope st)) (hl: ∀p,Pre p→(enc p).length=ps.length)
  (hb: ∀ (cdv:Value) (A:Around) (outer:List Env) (s:Shared) (H:Hp) (E:XK),Room k (A.deeper (envOfC qual (defScope st) s.heap.objs.size fa cdv))→OSs (bodyCx P w K mg base N qual st fa cdv A outer s H E) (defBody st) m)
  (hm: ∀p,Pre p→ ∃d,m (start2 (enc p) (N.length - ps.length))=some (.rt d)∧Post p d): ∃f,(∀p,Pre p→ ∃d,f (enc p)=some d∧Post p d)∧FnOk P w K mg base CX0 (k+1) fa fd ps (spX K f):=by
 refine ⟨fOf Pre enc fun ds=>pickO (m (start2 ds (N.length - ps.length))),fun p hp=>?_,Tn F S (fun ds d h=>?_) hb fun ds d h=>?_⟩
 ·obtain ⟨d,h1,h2⟩:=hm p hp
  exact ⟨d,by rw [Bj hp,h1];rfl,h2⟩
 ·obtain ⟨p,h1,rfl,_⟩:=dc h
  exact hl p h1
 ·obtain ⟨p,h1,rfl,h2⟩:=dc h
  obtain ⟨d',h3,_⟩:=hm p h1;rw [h3] at h2 ⊢;cases h2;rfl
theorem R6 {x qual:Str} {st:Stmt} {fa:Addr} {fd:FuncData} {N ps:List Str} {k:Nat} {m:RenO→Option FlO} {α:Type} {Pre:α→Prop} {enc:α→List D} {Post:α→List D→Prop} (F:Fun K x qual st fa fd) (S:FnScope N ps (defScope st)) (hl: ∀p,Pre p→(enc p).length=ps.length)
  (hb: ∀ (cdv:Value) (A:Around) (outer:List Env) (s:Shared) (H:Hp) (E:XK),Room k (A.deeper (envOfC qual (defScope st) s.heap.objs.size fa cdv))→OSs (bodyCx P w K mg base N qual st fa cdv A outer s H E) (defBody st) m)
  (hm: ∀p,Pre p→ ∃d,m (start2 (enc p) (N.length - ps.length))=some (.rn d)∧Post p d): ∃f,(∀p,Pre p→ ∃d,f (enc p)=some d∧Post p d)∧FnOk P w K mg base CX0 (k+1) fa fd ps (spN K f):=by
 refine ⟨fOf Pre enc fun ds=>pickN (m (start2 ds (N.length - ps.length))),fun p hp=>?_,Vl F S (fun ds d h=>?_) hb fun ds d h=>?_⟩
 ·obtain ⟨d,h1,h2⟩:=hm p hp
  exact ⟨d,by rw [Bj hp,h1];rfl,h2⟩
 ·obtain ⟨p,h1,rfl,_⟩:=dc h
  exact hl p h1
 ·obtain ⟨p,h1,rfl,h2⟩:=dc h
  obtain ⟨d',h3,_⟩:=hm p h1;rw [h3] at h2 ⊢;cases h2;rfl
end
end RG
end
section
namespace RG
open PySem PySem.Spec PyProof.Rows L2
section
variable {X:Cx} {a b e o:Expr} {ma mb:Ren→Option D} {pos pos' apos cpos:Pos} {i:Nat}
end
end RG
end
section
namespace RG
open PySem L2
noncomputable def gl:List D→Option D
 | [.int _]=>some (.bool true)
 | [.none]=>some (.bool false)
 | [.bool _]=>some (.bool false)
 | [.str _]=>some (.bool false)
 | [.list _]=>some (.bool false)
 | [.tuple _]=>some (.bool false)
 | _=>none
noncomputable def asInts:List D→Option (List Int)
 | []=>some []
 | d::r=>(asInt' d).bind fun i=>(asInts r).map fun l=>i::l
noncomputable def asScr:D→Option (List Int)
 | .dict [(.none,.list xs)]=>if xs.length≤63 then asInts xs else none
 | _=>none
noncomputable def eScr (ns:List Int):D:= .dict [(.none,.list (ns.map PyData.int))]
theorem xp: ∀ {xs:List D} {ns:List Int},asInts xs=some ns→xs=ns.map PyData.int
 | [],ns,h=>by cases h;rfl
 | d::xs,ns,h=>by
  obtain ⟨i,h1,h2⟩:=bind_some h;obtain ⟨l,h3,h4⟩:=map_some h2;subst h4;rw [map_cons,←xp h3,nq h1]
theorem sw: ∀ns:List Int,asInts (ns.map PyData.int)=some ns
 | []=>rfl
 | n::ns=>by simp [asInts,asInt',sw ns]
theorem Al {d:D} {ns:List Int} (h:asScr d=some ns):d=eScr ns∧ns.length≤63:=by
 unfold asScr at h;split at h
 ·split at h
  ·rename_i hl
   have e:=xp h;subst e;exact ⟨rfl,by simpa using hl⟩
  ·cases h
 ·cases h
theorem Jm {ns:List Int} (h:ns.length≤63):asScr (eScr ns)=some ns:=by simp [asScr,eScr,h,sw]
noncomputable def cellT (ns:List Int) (k:Int):Int:=if ns=[] then 0 else (ns[(k % ns.length).toNat]?.getD 0)+3*(k / ns.length)
noncomputable def d9:List D→Option D
 | [s,.int k]=>match asScr s with
  | some ns=>if 0≤k∧k≤1000 then some (.int (cellT ns k)) else none
  | none=>none
 | _=>none
noncomputable def g7:List D→Option D
 | [t]=>if thing t=true then some (kindT t).d else none
 | _=>none
noncomputable def asksT (r:Row) (ks:List Kd):List Kd:=match r with
 | .add=> [.number,.number]
 | .less=> [.number,.number]
 | .join=> [.text,.text]
 | .not=> [.truth]
 | .iff _=> [.truth]
 | .same=>List.replicate 2 ((ks++[Kd.number]).head?.getD Kd.number)
 | .swap=>List.replicate 2 ((ks++[Kd.number]).head?.getD Kd.number)
 | .drop=> [.number]
 | .tell=> [.number]
 | .copy n=>List.replicate (max 0 (min n 1000+1)).toNat .number
 | _=> []
noncomputable def lu:List D→Option D:=rowKs fun r ks=>some (eKs (asksT r ks))
noncomputable def kz:List D→Option D:=rowKs fun r ks=>if ks.length≤1000 then some (eWhy (lackT r ks)) else none
noncomputable def io:List D→Option (List D)
 | [r,k]=>(asRow r).bind fun r=>(asKs k).bind fun ks=>match lackT r ks with
  | none=>some ((afterT r ks).map Kd.d)
  | some _=>none
 | _=>none
theorem pe {ds d:List D} (h:io ds=some d): ∃r ks,ds=[eRow r,eKs ks]∧r.ok=true∧ks.length≤2000∧lackT r ks=none∧d=(afterT r ks).map Kd.d:=by
 unfold io at h;split at h
 ·obtain ⟨r,h1,h⟩:=bind_some h
  obtain ⟨ks,h2,h⟩:=bind_some h;obtain ⟨e1,o1⟩:=qp h1;obtain ⟨e2,o2⟩:=py h2;split at h
  ·rename_i hL
   cases h;exact ⟨r,ks,by rw [e1,e2],o1,o2,hL,rfl⟩
  ·cases h
 ·cases h
theorem nw {r:Row} {ks:List Kd} (h1:r.ok=true) (h2:ks.length≤2000) (h3:lackT r ks=none):io [eRow r,eKs ks]=some ((afterT r ks).map Kd.d):=by
 simp [io,A9 h1,vz h2,h3]
noncomputable def dk (ds:List D):Option D:=(io ds).map .list
section
variable {α:Type} {x y:α} {pre:List α}
@[simp] theorem Tr:(pre++[x,y]).getLast?=some y:=by
 rw [show pre++[x,y]=(pre++[x])++[y] by simp,List.getLast?_concat]
@[simp] theorem Ts:(pre++[x,y]).dropLast=pre++[x]:=by
 rw [show pre++[x,y]=(pre++[x])++[y] by simp,List.dropLast_concat]
end
noncomputable def signsT:String:="defghijklmnopqrstuvwxyzABCXYZ0189 .-_"
noncomputable def farT (c:Int):Int:=c*48271 % 10 ^ 30
noncomputable def drawnT (c:Int):D:=
 if c % 3=0 then (match (c / 3 % 6).toNat with
  | 0=> .int (c / 3 % 9 - 4) | 1=> .int 0 | 2=> .int (-1) | 3=> .int 1000000000000 | 4=> .int (farT c) | _=> .int (0 - farT c))
 else if c % 3=1 then .bool (decide (c / 3 % 2=0))
 else (match (c / 3 % 5).toNat with
  | 0=> .str "" | 1=> .str "a" | 2=> .str "bc"
  | 3=> .str ⟨#[((Str.ofString signsT).cps.toList[(c / 15 % 37).toNat]?).getD 0]⟩
  | _=> .str (Txt.mul (Str.ofString "a") 40))
noncomputable def dz:List D→Option D
 | [.int c]=>some (drawnT c)
 | _=>none
noncomputable def kd3 (i:Int):Kd:=match (i % 3).toNat with | 0=> .number | 1=> .truth | _=> .text
section
variable {α:Type} {a b c d e f:α} {xs:List α}
@[simp] theorem Vt:atD (a::b::c::d::xs) 3=some d:=eo (i:=3) (by simp only [length_cons];omega)
@[simp] theorem Vu:atD (a::b::c::d::e::xs) 4=some e:=eo (i:=4) (by simp only [length_cons];omega)
@[simp] theorem Vw:atD (a::b::c::d::e::f::xs) 5=some f:=eo (i:=5) (by simp only [length_cons];omega)
end
theorem Ct:(Str.ofString "defghijklmnopqrstuvwxyzABCXYZ0189 .-_").length=37:=by decide+kernel
theorem Lw (i:Int) (h0:0≤i) (h1:i < 37):atD (Str.ofString "defghijklmnopqrstuvwxyzABCXYZ0189 .-_").cps.toList i=some ((Str.ofString "defghijklmnopqrstuvwxyzABCXYZ0189 .-_").cps.toList[i.toNat]?.getD 0):=by
 have hl:(Str.ofString "defghijklmnopqrstuvwxyzABCXYZ0189 .-_").cps.toList.length=37:=by
  have:=Ct
  unfold Str.length at this;simpa using this
 have h2:=eo (xs:=(Str.ofString "defghijklmnopqrstuvwxyzABCXYZ0189 .-_").cps.toList) (i:=i.toNat) (by rw [hl];omega);rw [Int.toNat_of_nonneg h0] at h2;rw [h2,getElem?_eq_getElem (by rw [hl];omega)];rfl
theorem M8 (m:Int):atD [PyData.str "number",.str "truth",.str "text"] (m % 3)=some (kd3 m).d:=by
 have h:m % 3=0∨m % 3=1∨m % 3=2:=by omega
 rcases h with h | h | h <;> simp [h,kd3,Kd.d,Kd.s]
mutual
noncomputable def sz:D→Nat
 | .list xs=>szs xs+1
 | .tuple xs=>szs xs+1
 | _=>1
noncomputable def szs:List D→Nat
 | []=>0
 | x::xs=>sz x+szs xs
end
theorem Bk: ∀ (a b:List D),szs (a++b)=szs a+szs b
 | [],b=>by simp [szs]
 | x::a,b=>by rw [List.cons_append,szs,szs,Bk a b];omega
theorem Cu (d:D):1≤sz d:=by cases d <;> simp [sz]
theorem xq: ∀l:List D,l.length≤szs l
 | []=>by simp
 | x::l=>by have:=xq l;have:=Cu x;rw [szs,length_cons];omega
theorem qr: ∀ (a b:List D),PyData.canLayAll0 (a++b)=(PyData.canLayAll0 a && PyData.canLayAll0 b)
 | [],b=>by simp
 | x::a,b=>by rw [List.cons_append,Cn,Cn,qr a b,Bool.and_assoc]
open Classical in
noncomputable def gr (ds:List D):Option D:=if ∃d,ds=[d,d]∧d.canLay0=true∧sz d≤90000 then some (.bool true) else none
theorem v6 {d:D} (h:d.canLay0=true) (h2:sz d≤90000):gr [d,d]=some (.bool true):=by
 unfold gr;rw [if_pos ⟨d,rfl,h,h2⟩]
theorem p6 {ds:List D} {r:D} (h:gr ds=some r):r= .bool true∧ ∃d,ds=[d,d]∧d.canLay0=true∧sz d≤90000:=by
 unfold gr at h;split at h
 ·rename_i z;cases h;exact ⟨rfl,z⟩
 ·cases h
noncomputable def rho (a b:D) (L:List D) (o t:Option Sl):RenO:=[some (.sh a),some (.sh b),some (.ow L),some (.ow L),o,t]
noncomputable def measS (ρ:RenO):Nat:=match owAt ρ 3 with
 | some L=>szs L+1
 | none=>0
theorem Jn {a b:D} {mt:Ren→Option Bool} {mb:RenO→Option FlO}
  (ht: ∀L o t,PyData.canLayAll0 L=true→mt (allOf (rho a b L o t))=some (!L.isEmpty))
  (hf: ∀L d o t,flatD d=true→PyData.canLayAll0 (L++[d])=true→mb (rho a b (L++[d]) o t)=some (.nx (rho a b L (some (.sh d)) (some (.sh d)))))
  (hl: ∀L xs o t,PyData.canLayAll0 (L++[.list xs])=true→L.length+xs.length≤lim→mb (rho a b (L++[.list xs]) o t)=some (.nx (rho a b (L++xs) (some (.sh (.list xs))) (some (.sh (.list xs))))))
  (hu: ∀L xs o t,PyData.canLayAll0 (L++[.tuple xs])=true→L.length+xs.length≤lim→mb (rho a b (L++[.tuple xs]) o t)=some (.nx (rho a b (L++xs) (some (.sh (.tuple xs))) (some (.sh (.tuple xs)))))):
  ∀ (n:Nat) (L:List D) (o t:Option Sl),szs L < n→szs L≤lim→PyData.canLayAll0 L=true→ ∃o' t',whileO mt mb n (rho a b L o t)=some (.nx (rho a b [] o' t')):=by
 intro n
 induction n with
 | zero=>intro L o t h;omega
 | succ n ih=>
  intro L o t h hlim hc;unfold whileO;rw [ht L o t hc];cases hL:L.reverse with
  | nil=>
   have:L=[]:=by simpa using hL
   subst this;exact ⟨o,t,rfl⟩
  | cons d r=>
   have e:L=r.reverse++[d]:=by
    have:=congrArg List.reverse hL
    simpa using this
   subst e;have hne:(!(r.reverse++[d]).isEmpty)=true:=by simp
   rw [hne];have hs:szs (r.reverse++[d])=szs r.reverse+sz d:=by rw [Bk];simp [szs]
   rw [hs] at h hlim;have hc':=hc;rw [qr,Bool.and_eq_true] at hc';have hcd:d.canLay0=true:=by simpa using hc'.2
   cases d with
   | list xs=>
    have h1:sz (.list xs)=szs xs+1:=by rw [sz]
    have h2:szs (r.reverse++xs)=szs r.reverse+szs xs:=Bk _ _;have l1:=xq r.reverse;have l2:=xq xs;simp only [hl r.reverse xs o t hc (by omega)];exact ih _ _ _ (by omega) (by omega) (by rw [qr,hc'.1];simpa using hcd)
   | tuple xs=>
    have h1:sz (.tuple xs)=szs xs+1:=by rw [sz]
    have h2:szs (r.reverse++xs)=szs r.reverse+szs xs:=Bk _ _;have l1:=xq r.reverse;have l2:=xq xs;simp only [hu r.reverse xs o t hc (by omega)];exact ih _ _ _ (by omega) (by omega) (by rw [qr,hc'.1];simpa using hcd)
   | dict kvs=>rw [PyData.canLay0] at hcd;cases hcd
   | none=>have:=Cu .none;simp only [hf r.reverse _ o t rfl hc];exact ih _ _ _ (by omega) (by omega) hc'.1
   | bool x=>have:=Cu (.bool x);simp only [hf r.reverse _ o t rfl hc];exact ih _ _ _ (by omega) (by omega) hc'.1
   | int x=>have:=Cu (.int x);simp only [hf r.reverse _ o t rfl hc];exact ih _ _ _ (by omega) (by omega) hc'.1
   | str x=>have:=Cu (.str x);simp only [hf r.reverse _ o t rfl hc];exact ih _ _ _ (by omega) (by omega) hc'.1
theorem Lx {a b:D} {mt:Ren→Option Bool} {mb:RenO→Option FlO} {ma:Ren→Option D} {L:List D} {o t:Option Sl} (w: ∀ (n:Nat) (L:List D) (o t:Option Sl),szs L < n→szs L≤lim→PyData.canLayAll0 L=true→ ∃o' t',whileO mt mb n (rho a b L o t)=some (.nx (rho a b [] o' t')))
  (hma: ∀ρ,ma ρ=some (.bool true)) (h1:szs L≤lim) (h2:PyData.canLayAll0 L=true):seqO (fun ρ=>whileO mt mb (measS ρ) ρ) (retO ma) (rho a b L o t)=some (.rt (.bool true)):=by
 obtain ⟨o',t',e⟩:=w (szs L+1) L o t (by omega) h1 h2;have hm:measS (rho a b L o t)=szs L+1:=rfl;simp only [seqO,hm,e,retO,hma]
end RG
namespace RG
open PySem
@[simp] theorem Up {L:List D}:PyData.eqvAll L []=L.isEmpty:=by cases L <;> simp
@[simp] theorem V8 {a:Int}:PyData.depth (.int a)=0:=by rw [PyData.depth]
@[simp] theorem V9 {a:Bool}:PyData.depth (.bool a)=0:=by rw [PyData.depth]
@[simp] theorem Wa:PyData.depth .none=0:=by rw [PyData.depth]
@[simp] theorem Wb {a:List D}:PyData.depth (.tuple a)=PyData.depthAll a+1:=by rw [PyData.depth]
theorem Ly {m1 m2 m3:RenO→Option FlO} {ρ0 ρ1 ρ2:RenO} {r:Option FlO} (h1:m1 ρ0=some (.nx ρ1)) (h2:m2 ρ1=some (.nx ρ2)) (h3:m3 ρ2=r):seqO m1 (seqO m2 m3) ρ0=r:=by
 simp only [seqO,h1,h2,h3]
noncomputable def Ea:List D→Option D
 | [s]=>match asScr s with
  | some _=>some (.bool true)
  | none=>none
 | _=>none
theorem Am {ds:List D} {d:D} (h:Ea ds=some d): ∃ns,ds=[eScr ns]∧ns.length≤63∧d= .bool true:=by
 unfold Ea at h;split at h
 ·split at h
  ·rename_i ns hs
   cases h;obtain ⟨rfl,hl⟩:=Al hs;exact ⟨ns,rfl,hl,rfl⟩
  ·cases h
 ·cases h
theorem gt {ns:List Int} {k:Int} (hl:ns.length≤63) (h0:0≤k) (h1:k≤1000):d9 [eScr ns,.int k]=some (.int (cellT ns k)):=by
 unfold d9;simp only [Jm hl,h0,h1,and_self,if_true]
theorem Eb (c:Int):(Row.push (drawnT c)).ok=true:=by
 unfold drawnT
 (repeat' split) <;> first | rfl | skip
 ·decide+kernel
 ·decide+kernel
 ·decide+kernel
 ·show (PyData.strOk _ && decide _)=true
  rw [Bool.and_eq_true];refine ⟨?_,by simp [sLen,Str.length]⟩;unfold PyData.strOk;have key: ∀x∈(Str.ofString signsT).cps.toList,x < 1114112:=by decide+kernel
  have k2:((Str.ofString signsT).cps.toList[(c / 15 % 37).toNat]?.getD 0) < 1114112:=by
   cases h:(Str.ofString signsT).cps.toList[(c / 15 % 37).toNat]? with
   | none=>decide
   | some x=>exact key x (List.mem_of_getElem? h)
  simpa using k2
 ·decide+kernel
theorem ua: ∀ks:List Kd,PyData.canLayAll0 (ks.map Kd.d)=true
 | []=>by simp
 | k::ks=>by rw [map_cons,Cn,ua ks];simp [Kd.d]
theorem Pb: ∀ks:List Kd,szs (ks.map Kd.d)=ks.length
 | []=>rfl
 | k::ks=>by rw [map_cons,szs,Pb ks,length_cons];show 1+_=_;omega
theorem Gu (r:Row) (rs:List Kd):(afterR r rs).length≤rs.length+1:=by
 cases r <;> rcases rs with _ | ⟨b,_ | ⟨a,rs⟩⟩ <;> simp [afterR] <;> omega
theorem Cv (r:Row) (ks:List Kd):(afterT r ks).length≤ks.length+1:=by
 unfold afterT;rw [List.length_reverse]
 have:=Gu r ks.reverse
 rwa [List.length_reverse] at this
end RG
end
section
namespace RG
open PySem L2
noncomputable def litV:Value→Option (V×D)
 | .none=>some (.non,.none)
 | .bool b=>some (.bl b,.bool b)
 | .int i _=>some (.int i,.int i)
 | .str x _=>some (.str x,.str x)
 | _=>none
noncomputable def lits:List Value→Option (List D)
 | []=>some []
 | u::us=>match litV u with
  | none=>none
  | some p=>match lits us with
   | none=>none
   | some ds=>some (p.2::ds)
theorem Jo {K:Frag} {u:Value} {v:V} {d:D} (h:litV u=some (v,d)):RelV v u∧ ∀H,Is K H v d:=by
 unfold litV at h;split at h
 ·cases h;exact ⟨rfl,fun _=> .non⟩
 ·cases h;exact ⟨rfl,fun _=> .bl _⟩
 ·cases h;exact ⟨⟨_,rfl⟩,fun _=> .int _⟩
 ·cases h;exact ⟨⟨_,rfl⟩,fun _=> .str _⟩
 ·cases h
theorem Cw {K:Frag}: ∀ {us:List Value} {ds:List D},lits us=some ds→ ∃vs,Vals vs us∧ ∀H,Are K H vs ds
 | [],ds,h=>by cases h;exact ⟨[],.nil,fun _=> .nil⟩
 | u::us,ds,h=>by
  unfold lits at h;split at h
  ·cases h
  ·rename_i p hp
   split at h
   ·cases h
   ·rename_i l hl
    cases h;obtain ⟨vs,h1,h2⟩:=Cw (K:=K) hl;obtain ⟨h3,h4⟩:=Jo (K:=K) (v:=p.1) (d:=p.2) hp;exact ⟨p.1::vs,.cons h3 h1,fun H=> .cons (h4 H) (h2 H)⟩
theorem Bl {K:Frag} {b:Addr} {od:Option Addr} {its:List Value} {n:Nat} {sl:Array (Option Value)} {ds:List D} (hk:K.lookup b=some ⟨.type "tuple",od,.seq its.toArray n,sl⟩) (hd:lits its=some ds) (hn:its.length≤sizeLine): ∀H,Is K H (.ref b) (.tuple ds):=fun H=>by
 obtain ⟨vs,h1,h2⟩:=Cw (K:=K) hd;exact .tup (.inr ⟨_,_,_,hk,rfl,rfl,by simpa using hn,by simpa using h1⟩) (h2 H)
inductive TabEs (w:World) (K:Frag):List DictEntry→List (Str×D)→Prop where
 | nil:TabEs w K [] []
 | cons {x:Str} {tok:Tok} {u:Value} {v:V} {d:D} {es:List DictEntry} {l:List (Str×D)}:RelV v u→(∀H,Is K H v d)→TabEs w K es l→TabEs w K (⟨PyData.keyHash w.params x,.str x tok,u⟩::es) ((x,d)::l)
section
variable {w:World} {K:Frag} {x:Str} {tok:Tok} {es:List DictEntry} {l:List (Str×D)}
theorem TabEs.consT {b:Addr} {od:Option Addr} {its:List Value} {n:Nat} {sl:Array (Option Value)} {ds:List D} (hk:K.lookup b=some ⟨.type "tuple",od,.seq its.toArray n,sl⟩) (hd:lits its=some ds) (hn:its.length≤sizeLine) (t:TabEs w K es l):TabEs w K (⟨PyData.keyHash w.params x,.str x tok,.ref b⟩::es) ((x,.tuple ds)::l):=
 .cons (v:= .ref b) rfl (Bl hk hd hn) t
theorem TabEs.consS {y:Str} {tk:Tok} (t:TabEs w K es l):TabEs w K (⟨PyData.keyHash w.params x,.str x tok,.str y tk⟩::es) ((x,.str y)::l):= .cons (v:= .str y) ⟨_,rfl⟩ (fun _=> .str y) t
noncomputable def lookT:List (Str×D)→Str→Option D
 | [],_=>none
 | (x,d)::l,k=>if k=x then some d else lookT l k
theorem TabEs.keys {P:Program} (t:TabEs w K es l): ∀e∈es,∃k,(mixKind P w).is k e.key=true∧e.hash=(mixKind P w).hash k:=by
 induction t with
 | nil=>intro e he;cases he
 | @cons x tok u v d es l h1 h2 t ih=>
  intro e he;rcases List.mem_cons.mp he with rfl | he
  ·exact ⟨.inr x,sk P w x tok,rfl⟩
  ·exact ih e he
theorem TabEs.find {P:Program} (t:TabEs w K es l) (k:Str):(lookT l k=none∧(es.find? fun e=>(mixKind P w).is (.inr k) e.key).map (·.val)=none)∨ ∃d u v,lookT l k=some d∧(es.find? fun e=>(mixKind P w).is (.inr k) e.key).map (·.val)=some u∧RelV v u∧ ∀H,Is K H v d:=by
 induction t with
 | nil=>exact .inl ⟨rfl,rfl⟩
 | @cons x tok u v d es l h1 h2 t ih=>
  unfold lookT
  by_cases hk:k=x
  ·rw [if_pos hk]
   refine .inr ⟨d,u,v,rfl,?_,h1,h2⟩;subst hk;rw [List.find?_cons_of_pos (p:=fun (e:DictEntry)=>(mixKind P w).is (.inr k) e.key) (by exact sk P w k tok)];rfl
  ·rw [if_neg hk]
   have:¬ (mixKind P w).is (.inr k) (Value.str x tok)=true:=fun z=>by
    have z2:(x==k)=true:=z;exact hk (beq_iff_eq.mp z2).symm
   rw [List.find?_cons_of_neg (p:=fun (e:DictEntry)=>(mixKind P w).is (.inr k) e.key) (by exact this)];exact ih
theorem M9 {P:Program} {mg:Str→Option Value} {name:Str} {a:Addr} {n:Nat} {f:Str→Option D} (hm:mg name=some (.ref a)) (hk:K.lookup a=some ⟨.type "dict",none,.dict es.toArray n,#[]⟩) (t:TabEs w K es l) (hs:(a==sysModules)=false) (hf: ∀k,f k=lookT l k):TabAt P w K mg name f:=by
 refine ⟨a,hm,hs,findBy (mixKind P w).is es.toArray,fun h hh=>⟨_,_,_,hh a _ hk,⟨rfl,rfl,rfl⟩,rfl,?_,fun _=>rfl⟩,fun k=>?_⟩
 ·intro e he
  exact t.keys e (by simpa using he)
 ·rw [hf k]
  have:=t.find (P:=P) k
  unfold findBy;rw [List.find?_toArray];exact this
end
end RG
end
section
namespace RG
open PySem L2
noncomputable def eRows (rs:List Row):D:= .list (rs.map eRow)
noncomputable def asRowL:List D→Option (List Row)
 | []=>some []
 | d::r=>(asRow d).bind fun k=>(asRowL r).map fun l=>k::l
noncomputable def asRows:D→Option (List Row)
 | .list xs=>if xs.length≤300 then asRowL xs else none
 | _=>none
theorem Fk: ∀ {rs:List Row},(∀r∈rs,r.ok=true)→asRowL (rs.map eRow)=some rs
 | [],_=>rfl
 | r::rs,h=>by simp [asRowL,A9 (h r mem_cons_self),Fk fun x hx=>h x (mem_cons_of_mem _ hx)]
theorem Lz {rs:List Row} (h: ∀r∈rs,r.ok=true) (hl:rs.length≤300):asRows (eRows rs)=some rs:=by simp [asRows,eRows,hl,Fk h]
theorem xr: ∀ {ds:List D} {rs:List Row},asRowL ds=some rs→ds=rs.map eRow∧ ∀r∈rs,r.ok=true
 | [],_,h=>by cases h;exact ⟨rfl,fun r hr=>by cases hr⟩
 | d::r,_,h=>by
  obtain ⟨k,h1,h2⟩:=bind_some h;obtain ⟨l,h3,h4⟩:=map_some h2;subst h4;obtain ⟨e1,o1⟩:=qp h1;obtain ⟨e2,o2⟩:=xr h3;exact ⟨by rw [map_cons,e1,e2],fun x hx=>(List.mem_cons.mp hx).elim (fun e=>by rw [e];exact o1) (o2 x)⟩
structure Rows (rs:List Row):Prop where
 ok: ∀r∈rs,r.ok=true
 len:rs.length≤300
theorem ny {d:D} {rs:List Row} (h:asRows d=some rs):d=eRows rs∧Rows rs:=by
 unfold asRows at h;split at h
 ·split at h
  ·rename_i hl
   obtain ⟨e,o⟩:=xr h;subst e;exact ⟨rfl,o,by simpa using hl⟩
  ·cases h
 ·cases h
theorem Rows.e {rs:List Row} (h:Rows rs):asRows (eRows rs)=some rs:=Lz h.ok h.len
theorem Rows.at {rs:List Row} (h:Rows rs) {s:Nat} {r:Row} (e:rs[s]?=some r):r.ok=true∧s < rs.length∧atD (rs.map eRow) (s:Int)=some (eRow r):=by
 have hl:s < rs.length:=(List.getElem?_eq_some_iff.mp e).1;refine ⟨h.ok r (List.mem_of_getElem? e),hl,?_⟩;rw [eo (by rw [length_map];exact hl),getElem?_map,e];rfl
noncomputable def astray (n:Nat):Row→Bool
 | .go t=>decide (t < 0) || decide (t > (n:Int))
 | .iff t=>decide (t < 0) || decide (t > (n:Int))
 | _=>false
noncomputable def behindT (n s:Nat):Row→List Int
 | .fin=> [(n:Int)]
 | .go t=> [t]
 | .iff t=> [(s:Int)+1,t]
 | _=> [(s:Int)+1]
noncomputable def goesT (s:Nat):Row→List Int
 | .fin=> []
 | .go t=> [t]
 | .iff t=> [(s:Int)+1,t]
 | _=> [(s:Int)+1]
inductive W3 where
 | few | kind | jump
 deriving DecidableEq
noncomputable def W3.s:W3→String
 | .few=>"few" | .kind=>"kind" | .jump=>"jump"
noncomputable def W3.d (x:W3):D:= .str (Str.ofString x.s)
noncomputable def eW3:Option W3→D
 | none=> .none
 | some x=>x.d
noncomputable def why3 (n:Nat) (r:Row) (ks:List Kd):Option W3:=match lackT r ks with
 | some .few=>some .few
 | some .kind=>some .kind
 | none=>if astray n r=true then some .jump else none
noncomputable def rowsSpot (f:List Row→Nat→Row→Option D):List D→Option D
 | [r,.int s]=>(asRows r).bind fun rs=>if 0≤s then (match rs[s.toNat]? with | some row=>f rs s.toNat row | none=>none) else none
 | _=>none
theorem g8 {f:List Row→Nat→Row→Option D} {ds:List D} {d:D} (h:rowsSpot f ds=some d): ∃rs s row,ds=[eRows rs,.int ((s:Nat):Int)]∧Rows rs∧rs[s]?=some row∧f rs s row=some d:=by
 unfold rowsSpot at h;split at h
 ·rename_i r s
  obtain ⟨rs,h1,h⟩:=bind_some h;obtain ⟨e1,o1⟩:=ny h1;split at h
  ·rename_i h0
   split at h
   ·rename_i row hr
    exact ⟨rs,s.toNat,row,by rw [e1,Int.toNat_of_nonneg h0],o1,hr,h⟩
   ·cases h
  ·cases h
 ·cases h
theorem my {f:List Row→Nat→Row→Option D} {rs:List Row} {s:Nat} {row:Row} (h:Rows rs) (e:rs[s]?=some row):rowsSpot f [eRows rs,.int (s:Int)]=f rs s row:=by
 simp [rowsSpot,h.e,e]
theorem p7 {f:List Row→Nat→Row→Option D} {ds:List D} {d:D} (h:rowsSpot f ds=some d):ds.length=2:=by
 obtain ⟨rs,s,row,rfl,_⟩:=g8 h;rfl
noncomputable def eInts (l:List Int):D:= .list (l.map PyData.int)
noncomputable def lw:List D→Option D:=rowsSpot fun rs _ row=>some (.bool (astray rs.length row))
noncomputable def fq:List D→Option D:=rowsSpot fun rs s row=>some (eInts (behindT rs.length s row))
noncomputable def nz:List D→Option D:=rowsSpot fun rs s row=>some (eInts ((behindT rs.length s row).filter fun t=>decide (t < (rs.length:Int))))
noncomputable def ci:List D→Option D
 | [r,s,k]=>(asKs k).bind fun ks=>rowsSpot (fun rs _ row=>some (eW3 (why3 rs.length row ks))) [r,s]
 | _=>none
theorem An {ds:List D} {d:D} (h:ci ds=some d): ∃rs s row ks,ds=[eRows rs,.int ((s:Nat):Int),eKs ks]∧Rows rs∧rs[s]?=some row∧ks.length≤2000∧d=eW3 (why3 rs.length row ks):=by
 unfold ci at h;split at h
 ·obtain ⟨ks,h1,h⟩:=bind_some h
  obtain ⟨e1,o1⟩:=py h1;obtain ⟨rs,s,row,e,hr,h2,h3⟩:=g8 h;cases e;cases h3;exact ⟨rs,s,row,ks,by rw [e1],hr,h2,o1,rfl⟩
 ·cases h
theorem Bm {rs:List Row} {s:Nat} {row:Row} {ks:List Kd} (h:Rows rs) (e:rs[s]?=some row) (hl:ks.length≤2000):ci [eRows rs,.int (s:Int),eKs ks]=some (eW3 (why3 rs.length row ks)):=by
 unfold ci;simp only [vz hl,Option.bind_some,my h e]
noncomputable def eArr (a:List Int×List Kd):D:= .tuple [eInts a.1,eKs a.2]
noncomputable def asArr:D→Option (List Int×List Kd)
 | .tuple [.list xs,k]=>(asInts xs).bind fun r=>(asKs k).map fun ks=>(r,ks)
 | _=>none
theorem Ec {a:List Int×List Kd} (h:a.2.length≤2000):asArr (eArr a)=some a:=by
 simp [asArr,eArr,eInts,sw,vz h]
theorem vb {d:D} {a:List Int×List Kd} (h:asArr d=some a):d=eArr a∧a.2.length≤2000:=by
 unfold asArr at h;split at h
 ·obtain ⟨r,h1,h⟩:=bind_some h
  obtain ⟨ks,h2,h⟩:=map_some h;obtain ⟨e2,o2⟩:=py h2;subst h;exact ⟨by unfold eArr eInts;rw [xp h1,e2],o2⟩
 ·cases h
theorem eqvKs: ∀a b:List Kd,PyData.eqvAll (a.map Kd.d) (b.map Kd.d)=decide (a=b)
 | [],[]=>by simp
 | [],_::_=>by simp
 | _::_,[]=>by simp
 | x::a,y::b=>by
  rw [map_cons,map_cons,Ol,eqvKs a b];cases x <;> cases y <;> simp [Kd.d,Kd.s,ar]
theorem ub: ∀a:List Kd,PyData.depthAll (a.map Kd.d)=0
 | []=>by simp
 | k::a=>by rw [map_cons,Ui,ub a];simp [Kd.d]
theorem vc (a b:List Kd):deepOk (.list (a.map Kd.d)) (.list (b.map Kd.d))=true:=by
 simp [deepOk,ua,ub]
inductive Flt where
 | differ (a b:List Int) | at_ (x:W3) (a:List Int)
noncomputable def eFlt:Flt→D
 | .differ a b=> .tuple [.str "differ",eInts a,eInts b]
 | .at_ x a=> .tuple [x.d,eInts a]
noncomputable def eOF:Option Flt→D
 | none=> .none
 | some f=>eFlt f
noncomputable def eOA:Option (List Int×List Kd)→D
 | none=> .none
 | some a=>eArr a
noncomputable def faultT (n:Nat) (row:Row) (e:Option (List Int×List Kd)) (a:List Int×List Kd):Option Flt:=
 match e with
 | some (r,ks)=>if ks=a.2 then (why3 n row a.2).map (Flt.at_ · a.1) else some (.differ r a.1)
 | none=>(why3 n row a.2).map (Flt.at_ · a.1)
noncomputable def asOA:D→Option (Option (List Int×List Kd))
 | .none=>some none
 | d=>(asArr d).map some
theorem Jp {d:D} {a:Option (List Int×List Kd)} (h:asOA d=some a):d=eOA a∧ ∀x,a=some x→x.2.length≤2000:=by
 unfold asOA at h;split at h
 ·cases h;exact ⟨rfl,fun x e=>by cases e⟩
 ·obtain ⟨b,h1,h2⟩:=map_some h
  subst h2;obtain ⟨e,o⟩:=vb h1;exact ⟨e,fun x ex=>by cases ex;exact o⟩
theorem R7 {a:Option (List Int×List Kd)} (h: ∀x,a=some x→x.2.length≤2000):asOA (eOA a)=some a:=by
 cases a with
 | none=>rfl
 | some x=>show (asArr (eArr x)).map some=_;rw [Ec (h x rfl)];rfl
noncomputable def rowsArr (f:List Row→Nat→Row→List Int→List Kd→Option D):D→D→Option D:=fun r a=>(asRows r).bind fun rs=>(asArr a).bind fun p=>match p.1.getLast? with
 | some s=>if 0≤s then (match rs[s.toNat]? with | some row=>f rs s.toNat row p.1.dropLast p.2 | none=>none) else none
 | none=>none
theorem v7 {f:List Row→Nat→Row→List Int→List Kd→Option D} {r a d:D} (h:rowsArr f r a=some d): ∃rs s row road ks,r=eRows rs∧a=eArr (road++[((s:Nat):Int)],ks)∧Rows rs∧rs[s]?=some row∧ks.length≤2000∧f rs s row road ks=some d:=by
 unfold rowsArr at h;obtain ⟨rs,h1,h⟩:=bind_some h;obtain ⟨⟨road,ks⟩,h2,h⟩:=bind_some h;obtain ⟨e1,o1⟩:=ny h1;obtain ⟨e2,o2⟩:=vb h2;split at h
 ·rename_i s hs
  split at h
  ·rename_i h0
   split at h
   ·rename_i row hr
    have hs:road.getLast?=some s:=hs;have er:road=road.dropLast++[s]:=by
     obtain ⟨hne,e⟩:=List.getLast?_eq_some_iff.mp hs;rw [e,List.dropLast_concat]
    refine ⟨rs,s.toNat,row,road.dropLast,ks,e1,?_,o1,hr,o2,h⟩;rw [e2,Int.toNat_of_nonneg h0,←er]
   ·cases h
  ·cases h
 ·cases h
theorem Cy {f:List Row→Nat→Row→List Int→List Kd→Option D} {rs:List Row} {s:Nat} {row:Row} {road:List Int} {ks:List Kd} (h:Rows rs) (e:rs[s]?=some row) (hl:ks.length≤2000):rowsArr f (eRows rs) (eArr (road++[(s:Int)],ks))=f rs s row road ks:=by
 unfold rowsArr;simp [h.e,Ec (a:=(road++[(s:Int)],ks)) hl,e]
noncomputable def kj:List D→Option D
 | [r,e,a]=>(asOA e).bind fun o=>rowsArr (fun rs s row road ks=>some (eOF (faultT rs.length row o (road++[(s:Int)],ks)))) r a
 | _=>none
noncomputable def c8:List D→Option D
 | [r,a]=>rowsArr (fun rs s row road ks=>if lackT row ks=none∧road.length+2≤1000 then some (.list (((behindT rs.length s row).filter fun t=>decide (t < (rs.length:Int))).map fun t=>eArr (road++[(s:Int)]++[t],afterT row ks))) else none) r a
 | _=>none
theorem Jq {g:D→Option (Option D)} {p:Int→Bool} (h: ∀t,g (.int t)=some (if p t=true then some (.int t) else none)) {l:List Int}:compL g (l.map PyData.int)=some ((l.filter p).map PyData.int):=by
 induction l with
 | nil=>rfl
 | cons t l ih=>
  rw [map_cons,il,h,ih]
  by_cases ht:p t=true <;> simp [ht]
theorem Jr {g:D→Option (Option D)} {q:Int→D} (h: ∀t,g (.int t)=some (some (q t))) {l:List Int}:compL g (l.map PyData.int)=some (l.map q):=by
 induction l with
 | nil=>rfl
 | cons t l ih=>rw [map_cons,il,h,ih];rfl
noncomputable abbrev Arr:=List Int×List Kd
noncomputable def eF (F:List (Int×Arr)):D:=dctD (F.map fun p=>(p.1,eArr p.2))
noncomputable def asArrs:List (Int×D)→Option (List (Int×Arr))
 | []=>some []
 | (k,d)::l=>(asArr d).bind fun a=>(asArrs l).map fun r=>(k,a)::r
noncomputable def asF (d:D):Option (List (Int×Arr)):=(asDct d).bind asArrs
theorem xt: ∀ {l:List (Int×D)} {F:List (Int×Arr)},asArrs l=some F→l=(F.map fun p=>(p.1,eArr p.2))∧ ∀p∈F,p.2.2.length≤2000
 | [],_,h=>by cases h;exact ⟨rfl,fun p hp=>by cases hp⟩
 | (k,d)::l,_,h=>by
  obtain ⟨a,h1,h2⟩:=bind_some h;obtain ⟨r,h3,h4⟩:=map_some h2;subst h4;obtain ⟨e1,o1⟩:=vb h1;obtain ⟨e2,o2⟩:=xt h3;exact ⟨by rw [map_cons,e1,e2],fun x hx=>(List.mem_cons.mp hx).elim (fun e=>by rw [e];exact o1) (o2 x)⟩
theorem L0 {d:D} {F:List (Int×Arr)} (h:asF d=some F):d=eF F∧ ∀p∈F,p.2.2.length≤2000:=by
 obtain ⟨kvs,h1,h2⟩:=bind_some h;obtain ⟨e,o⟩:=xt h2;exact ⟨by rw [Gs h1,e];rfl,o⟩
theorem Fm: ∀ {F:List (Int×Arr)},(∀p∈F,p.2.2.length≤2000)→asArrs (F.map fun p=>(p.1,eArr p.2))=some F
 | [],_=>rfl
 | (k,a)::F,h=>by simp [asArrs,Ec (h _ mem_cons_self),Fm fun x hx=>h x (mem_cons_of_mem _ hx)]
theorem Uq {F:List (Int×Arr)} (h: ∀p∈F,p.2.2.length≤2000):asF (eF F)=some F:=by
 unfold asF eF;rw [Jg];exact Fm h
noncomputable def lookF:List (Int×Arr)→Int→Option Arr
 | [],_=>none
 | (k,a)::l,i=>if k=i then some a else lookF l i
theorem Js: ∀ (F:List (Int×Arr)) (k:Int),valD (F.map fun p=>(p.1,eArr p.2)) k=(lookF F k).map eArr
 | [],_=>rfl
 | (x,a)::F,k=>by
  rw [map_cons,valD,lookF,Js F k]
  by_cases h:x=k <;> simp [h]
noncomputable def tabT (n:Nat) (F:List (Int×Arr)):List (Option (List Kd)):=(List.range n).map fun (s:Nat)=>(lookF F (s:Int)).map (·.2)
noncomputable def eOK:Option (List Kd)→D
 | none=> .none
 | some ks=>eKs ks
noncomputable def eTab (t:List (Option (List Kd))):D:= .list (t.map eOK)
noncomputable def km:List D→Option D
 | [r,f]=>(asRows r).bind fun rs=>(asF f).bind fun F=>some (eTab (tabT rs.length F))
 | _=>none
noncomputable def ay:List D→Option D
 | [r,k]=>(asRows r).bind fun _=>(asKs k).map fun _=> .none
 | _=>none
noncomputable def kindsD:D:= .tuple [.str "number",.str "truth",.str "text"]
noncomputable def takesOf:List Row→List Kd
 | []=> []
 | .take k::r=>k::takesOf r
 | _::r=>takesOf r
theorem p8 {α:Type} {g:D→Option (Option D)} {c q:α→D}: ∀ {l:List α},(∀x∈l,g (c x)=some (some (q x)))→compL g (l.map c)=some (l.map q)
 | [],_=>rfl
 | x::l,h=>by rw [map_cons,il,h x mem_cons_self,p8 fun y hy=>h y (mem_cons_of_mem _ hy)];rfl
theorem vd {g:D→Option (Option D)} (h: ∀r,g (eRow r)=some (match r with | .take k=>some k.d | _=>none)) {rs:List Row}:compL g (rs.map eRow)=some ((takesOf rs).map Kd.d):=by
 induction rs with
 | nil=>rfl
 | cons r rs ih=>
  rw [map_cons,il,h,ih];cases r <;> rfl
theorem uc: ∀rs:List Row,(takesOf rs).length≤rs.length
 | []=>by simp [takesOf]
 | r::rs=>by
  have:=uc rs
  cases r <;> simp [takesOf] <;> omega
theorem Bn {g:D→Ren→Option Ren} {m:Ren→Option Fl} (P:Ren→Prop): ∀ {items:List D} {ρ:Ren},(∀x∈items,∀ρ,P ρ→ ∃ρ1 ρ2,g x ρ=some ρ1∧m ρ1=some (.nx ρ2)∧P ρ2)→P ρ→ ∃ρ',forL g m items ρ=some (.nx ρ')∧P ρ'
 | [],ρ,_,h0=>⟨ρ,rfl,h0⟩
 | x::l,ρ,h,h0=>by
  obtain ⟨ρ1,ρ2,e1,e2,h2⟩:=h x mem_cons_self ρ h0;obtain ⟨ρ',e3,h3⟩:=Bn P (fun y hy=>h y (mem_cons_of_mem _ hy)) h2;exact ⟨ρ',by simp only [forL,e1,e2,Option.bind_some];exact e3,h3⟩
end RG
end
section
namespace RG
open PySem L2
inductive RoadTo (rs:List Row) (given:List Kd):List Int→Nat→List Kd→Prop where
 | start:0 < rs.length→RoadTo rs given [0] 0 given
 | step {road:List Int} {s t:Nat} {ks:List Kd} {row:Row}:RoadTo rs given road s ks→rs[s]?=some row→lackT row ks=none→astray rs.length row=false→(t:Int)∈goesT s row→t < rs.length→RoadTo rs given (road++[(t:Int)]) t (afterT row ks)
section
variable {rs:List Row} {given:List Kd}
theorem RoadTo.last {road:List Int} {s:Nat} {ks:List Kd} (h:RoadTo rs given road s ks): ∃r,road=r++[(s:Int)]:=by
 cases h with
 | start h=>exact ⟨[],rfl⟩
 | step=>exact ⟨_,rfl⟩
theorem RoadTo.lt {road:List Int} {s:Nat} {ks:List Kd} (h:RoadTo rs given road s ks):s < rs.length:=by
 cases h with
 | start h=>exact h
 | step _ _ _ _ _ h=>exact h
theorem RoadTo.kl {road:List Int} {s:Nat} {ks:List Kd} (h:RoadTo rs given road s ks):ks.length+1≤given.length+road.length:=by
 induction h with
 | start h=>simp
 | @step road s t ks row _ _ _ _ _ _ ih=>
  have:=Cv row ks
  rw [length_append,length_singleton];omega
def FaultOk (rs:List Row) (given:List Kd):Flt→Prop
 | .differ a b=>∃s ka kb,RoadTo rs given a s ka∧RoadTo rs given b s kb∧ka≠kb∧a.length≤rs.length+1∧b.length≤rs.length+1
 | .at_ x a=>∃s ks row,RoadTo rs given a s ks∧rs[s]?=some row∧why3 rs.length row ks=some x∧a.length≤rs.length+1
structure FineOk (rs:List Row) (given:List Kd) (F:List (Int×Arr)):Prop where
 at_: ∀s a,lookF F s=some a→ ∃ (n:Nat) (row:Row),s=n∧RoadTo rs given a.1 n a.2∧a.1.length≤rs.length+1∧rs[n]?=some row∧why3 rs.length row a.2=none∧ ∀t∈goesT n row,t < (rs.length:Int)→ ∃b,lookF F t=some b∧b.2=afterT row a.2
 zero:0 < rs.length→ ∃b,lookF F 0=some b∧b.2=given
theorem jh {n:Nat} {row:Row} {ks:List Kd} (h:why3 n row ks=none):lackT row ks=none∧astray n row=false:=by
 unfold why3 at h;split at h
 ·cases h
 ·cases h
 ·rename_i hL
  split at h
  ·cases h
  ·rename_i ha
   exact ⟨hL,by simpa using ha⟩
noncomputable def left (n:Nat) (F:List (Int×Arr)):Nat:=((List.range n).filter fun s=>(lookF F ((s:Nat):Int)).isNone).length
theorem Jt {α:Type} {p q:α→Bool}: ∀ {l:List α} {x:α},(∀y,q y=true→p y=true)→x∈l→p x=true→q x=false→(l.filter q).length < (l.filter p).length
 | [],x,_,h,_,_=>by cases h
 | y::l,x,hpq,h,hp,hq=>by
  have le: ∀l:List α,(l.filter q).length≤(l.filter p).length:=fun l=>by
   induction l with
   | nil=>simp
   | cons z l ih=>
    by_cases hz:q z=true
    ·rw [List.filter_cons_of_pos hz,List.filter_cons_of_pos (hpq z hz)];simp;exact ih
    ·rw [List.filter_cons_of_neg hz]
     by_cases hz2:p z=true
     ·rw [List.filter_cons_of_pos hz2];simp;omega
     ·rw [List.filter_cons_of_neg hz2];exact ih
  rcases List.mem_cons.mp h with rfl | h
  ·rw [List.filter_cons_of_pos hp,List.filter_cons_of_neg (by simp [hq])]
   have:=le l
   simp;omega
  ·have ih:=Jt hpq h hp hq
   by_cases hz:q y=true
   ·rw [List.filter_cons_of_pos hz,List.filter_cons_of_pos (hpq y hz)];simp;exact ih
   ·rw [List.filter_cons_of_neg hz]
    by_cases hz2:p y=true
    ·rw [List.filter_cons_of_pos hz2];simp;omega
    ·rw [List.filter_cons_of_neg hz2];exact ih
theorem ip {F:List (Int×Arr)} {k i:Int} {a:Arr}:lookF (F++[(k,a)]) i=match lookF F i with | some b=>some b | none=>if k=i then some a else none:=by
 induction F with
 | nil=>simp [lookF]
 | cons p F ih=>
  obtain ⟨x,b⟩:=p;rw [List.cons_append,lookF,lookF,ih]
  by_cases h:x=i <;> simp [h]
theorem Cz {n s:Nat} {F:List (Int×Arr)} {a:Arr} (h:lookF F (s:Int)=none) (hs:s < n):left n (F++[((s:Int),a)]) < left n F:=by
 unfold left;refine Jt (x:=s) (fun y hy=>?_) (List.mem_range.mpr hs) (by simp [h]) ?_
 ·rw [ip] at hy
  cases hz:lookF F (y:Int) with
  | none=>rfl
  | some b=>rw [hz] at hy;cases hy
 ·rw [ip,h]
  simp
structure LInv (rs:List Row) (given:List Kd) (F:List (Int×Arr)) (W:List Arr):Prop where
 at_: ∀s a,lookF F s=some a→ ∃ (n:Nat) (row:Row),s=n∧RoadTo rs given a.1 n a.2∧a.1.length≤F.length+1∧rs[n]?=some row∧why3 rs.length row a.2=none∧ ∀t∈goesT n row,t < (rs.length:Int)→(∃b,lookF F t=some b∧b.2=afterT row a.2)∨ ∃r,(r++[t],afterT row a.2)∈W
 wait: ∀x∈W,∃n,RoadTo rs given x.1 n x.2∧x.1.length≤F.length+1
 zero:0 < rs.length→(∃b,lookF F 0=some b∧b.2=given)∨([0],given)∈W
 few:F.length+left rs.length F≤rs.length
 wl:W.length≤3*F.length+1
noncomputable def behindA (n:Nat) (row:Row) (s:Nat) (road:List Int) (ks:List Kd):List Arr:=((behindT n s row).filter fun t=>decide (t < (n:Int))).map fun t=>(road++[(s:Int)]++[t],afterT row ks)
theorem xu {n s:Nat} {row:Row} {t:Int} (h:t < (n:Int)):t∈behindT n s row↔t∈goesT s row:=by
 cases row <;> simp [behindT,goesT] <;> omega
theorem LInv.known (I:LInv rs given F (x::W)) (hf:lookF F (s:Int)=some b) (hx:x.1=road++[(s:Int)]) (hb:b.2=x.2):LInv rs given F W:=by
 refine ⟨fun s' a ha=>?_,fun y hy=>I.wait y (mem_cons_of_mem _ hy),fun h0=>?_,I.few,by have:=I.wl;simp at this;omega⟩
 ·obtain ⟨n,row,e,h1,h2,h3,h4,h5⟩:=I.at_ s' a ha
  refine ⟨n,row,e,h1,h2,h3,h4,fun t ht hl=>?_⟩;rcases h5 t ht hl with h | ⟨r,h⟩
  ·exact .inl h
  ·rcases List.mem_cons.mp h with e2 | h
   ·left
    have e3:r++[t]=road++[(s:Int)]:=by rw [←hx,←e2]
    have e4:t=(s:Int):=by
     have:=congrArg List.getLast? e3
     simpa using this
    exact ⟨b,by rw [e4];exact hf,by rw [hb,←e2]⟩
   ·exact .inr ⟨r,h⟩
 ·rcases I.zero h0 with h | h
  ·exact .inl h
  ·rcases List.mem_cons.mp h with e2 | h
   ·left
    have e3:([0]:List Int)=road++[(s:Int)]:=by rw [←hx,←e2]
    have e4:(0:Int)=(s:Int):=by
     have:=congrArg List.getLast? e3
     simpa using this
    exact ⟨b,by rw [e4];exact hf,by rw [hb,←e2]⟩
   ·exact .inr h
theorem LInv.new {s:Nat} {row:Row} {road:List Int} {ks:List Kd} (I:LInv rs given F ((road++[(s:Int)],ks)::W)) (hf:lookF F (s:Int)=none) (hr:rs[s]?=some row) (hw:why3 rs.length row ks=none):
  LInv rs given (F++[((s:Int),(road++[(s:Int)],ks))]) (W++behindA rs.length row s road ks):=by
 obtain ⟨n,hR,hl⟩:=I.wait _ mem_cons_self;have hn:n=s:=by
  obtain ⟨r,e⟩:=hR.last
  have:=congrArg List.getLast? e
  simp at this;omega
 subst hn;have hsl:=hR.lt;obtain ⟨hL,hA⟩:=jh hw;have nn: ∀t∈goesT n row,t < (rs.length:Int)→0≤t:=fun t ht hl=>by
  cases row <;> simp [goesT] at ht <;> simp [astray] at hA <;> omega
 have bl:(behindA rs.length row n road ks).length≤2:=by
  unfold behindA;rw [length_map];refine Nat.le_trans (List.length_filter_le _ _) ?_;cases row <;> simp [behindT]
 refine ⟨fun s' a ha=>?_,fun y hy=>?_,fun h0=>?_,?_,?_⟩
 ·rw [ip] at ha
  cases hz:lookF F s' with
  | some b=>
   rw [hz] at ha;cases ha;obtain ⟨m,row',e,h1,h2,h3,h4,h5⟩:=I.at_ s' a hz;refine ⟨m,row',e,h1,by rw [length_append,length_singleton];omega,h3,h4,fun t ht hl=>?_⟩;rcases h5 t ht hl with ⟨b,g1,g2⟩ | ⟨r,h⟩
   ·exact .inl ⟨b,by rw [ip,g1],g2⟩
   ·rcases List.mem_cons.mp h with e2 | h
    ·left
     have e3:=congrArg Prod.fst e2;have e3:r++[t]=road++[(n:Int)]:=e3;have e5:afterT row' a.2=ks:=congrArg Prod.snd e2;have e4:t=(n:Int):=by
      have:=congrArg List.getLast? e3
      simpa using this
     refine ⟨(road++[(n:Int)],ks),?_,e5.symm⟩;rw [ip,e4,hf];simp
    ·exact .inr ⟨r,mem_append_left _ h⟩
  | none=>
   rw [hz] at ha;simp at ha;obtain ⟨e1,e2⟩:=ha;subst e1;subst e2;refine ⟨n,row,rfl,hR,by rw [length_append,length_singleton] at hl ⊢;rw [length_append,length_singleton];omega,hr,hw,fun t ht hl=> .inr ⟨road++[(n:Int)],mem_append_right _ ?_⟩⟩;unfold behindA;rw [mem_map];exact ⟨t,List.mem_filter.mpr ⟨(xu hl).mpr ht,by simpa using hl⟩,rfl⟩
 ·rcases List.mem_append.mp hy with hy | hy
  ·obtain ⟨m,h1,h2⟩:=I.wait y (mem_cons_of_mem _ hy)
   exact ⟨m,h1,by rw [length_append,length_singleton];omega⟩
  ·unfold behindA at hy
   obtain ⟨t,ht,rfl⟩:=List.mem_map.mp hy;obtain ⟨ht1,ht2⟩:=List.mem_filter.mp ht;have ht2:t < (rs.length:Int):=by simpa using ht2
   have ht3:=(xu ht2).mp ht1;have h0:=nn t ht3 ht2;refine ⟨t.toNat,?_,?_⟩
   ·have:=RoadTo.step (t:=t.toNat) hR hr hL hA (by rw [Int.toNat_of_nonneg h0];exact ht3) (by omega)
    rw [Int.toNat_of_nonneg h0] at this;exact this
   ·simp at hl ⊢
    omega
 ·rcases I.zero h0 with ⟨b,g1,g2⟩ | h
  ·exact .inl ⟨b,by rw [ip,g1],g2⟩
  ·rcases List.mem_cons.mp h with e2 | h
   ·left
    have e3:([0]:List Int)=road++[(n:Int)]:=congrArg Prod.fst e2;have e5:given=ks:=congrArg Prod.snd e2;have e4:(0:Int)=(n:Int):=by
     have:=congrArg List.getLast? e3
     simpa using this
    refine ⟨(road++[(n:Int)],ks),?_,e5.symm⟩;rw [ip,e4,hf];simp
   ·exact .inr (mem_append_left _ h)
 ·have:=Cz (a:=(road++[(n:Int)],ks)) hf hsl
  have:=I.few
  rw [length_append,length_singleton];omega
 ·have:=I.wl
  simp at this ⊢;omega
theorem LInv.end (I:LInv rs given F []):FineOk rs given F:=by
 refine ⟨fun s a ha=>?_,fun h0=>?_⟩
 ·obtain ⟨n,row,e,h1,h2,h3,h4,h5⟩:=I.at_ s a ha
  refine ⟨n,row,e,h1,by have:=I.few;omega,h3,h4,fun t ht hl=>?_⟩;rcases h5 t ht hl with h | ⟨r,h⟩
  ·exact h
  ·cases h
 ·rcases I.zero h0 with h | h
  ·exact h
  ·cases h
theorem LInv.begin:LInv rs given [] (if rs.isEmpty then [] else [([0],given)]):=by
 have hl:left rs.length []≤rs.length:=by
  unfold left;exact Nat.le_trans (List.length_filter_le _ _) (by simp)
 refine ⟨fun s a ha=>(by cases ha),fun x hx=>?_,fun h0=>?_,(by simpa using hl),(by split <;> simp)⟩
 ·cases rs with
  | nil=>cases hx
  | cons r rs=>
   have:x=([0],given):=by simpa using hx
   subst this;exact ⟨0,.start (by simp),by simp⟩
 ·cases rs with
  | nil=>cases h0
  | cons r rs=>exact .inr (by simp)
end
noncomputable def rhoK (rs:List Row) (given:List Kd) (F:List (Int×Arr)) (W:List Arr) (a s f:Option Sl):RenO:=[some (.sh (eRows rs)),some (.sh (eKs given)),some (.od (F.map fun p=>(p.1,eArr p.2))),some (.ow (W.map eArr)),a,s,f]
noncomputable def eFault (f:Flt):D:= .tuple [.str "fault",eFlt f]
noncomputable def turnK (rs:List Row) (given:List Kd) (F:List (Int×Arr)) (s:Nat) (row:Row) (road:List Int) (ks:List Kd) (W:List Arr):FlO:=
 match faultT rs.length row (lookF F (s:Int)) (road++[(s:Int)],ks) with
 | some f=> .rt (eFault f)
 | none=>match lookF F (s:Int) with
  | some _=> .nx (rhoK rs given F W (some (.sh (eArr (road++[(s:Int)],ks)))) (some (.sh (.int s))) (some (.sh .none)))
  | none=> .nx (rhoK rs given (F++[((s:Int),(road++[(s:Int)],ks))]) (W++behindA rs.length row s road ks) (some (.sh (eArr (road++[(s:Int)],ks)))) (some (.sh (.int s))) (some (.sh .none)))
inductive Ended (rs:List Row) (given:List Kd):FlO→Prop where
 | fault {f:Flt}:FaultOk rs given f→Ended rs given (.rt (eFault f))
 | fine {F:List (Int×Arr)} {a s f:Option Sl}:FineOk rs given F→(∀p∈F,p.2.2.length≤2000)→Ended rs given (.nx (rhoK rs given F [] a s f))
theorem C0: ∀ {F:List (Int×Arr)} {k:Int} {a:Arr},lookF F k=some a→(k,a)∈F
 | [],_,_,h=>by cases h
 | (x,b)::F,k,a,h=>by
  unfold lookF at h;split at h
  ·rename_i e;cases h;rw [e];exact mem_cons_self
  ·exact mem_cons_of_mem _ (C0 h)
theorem Ju {rs:List Row} {given:List Kd} (R:Rows rs) (hg:given.length≤500) {mt:Ren→Option Bool} {mb:RenO→Option FlO}
  (ht: ∀F W a s f,mt (allOf (rhoK rs given F W a s f))=some (!W.isEmpty))
  (hb: ∀ (F:List (Int×Arr)) (s:Nat) (row:Row) (road:List Int) (ks:List Kd) (W:List Arr) (a o f:Option Sl),rs[s]?=some row→ks.length≤2000→(∀p∈F,p.2.2.length≤2000)→road.length+2≤1000→F.length+1≤lim→W.length+3≤lim→
   mb (rhoK rs given F ((road++[(s:Int)],ks)::W) a o f)=some (turnK rs given F s row road ks W)):
  ∀ (n:Nat) (F:List (Int×Arr)) (W:List Arr) (a s f:Option Sl),LInv rs given F W→(∀p∈F,p.2.2.length≤2000)→W.length+3*left rs.length F < n→ ∃fl,whileO mt mb n (rhoK rs given F W a s f)=some fl∧Ended rs given fl:=by
 intro n
 induction n with
 | zero=>intro F W a s f _ _ h;omega
 | succ n ih=>
  intro F W a s f I hF hn;unfold whileO;rw [ht];cases W with
  | nil=>exact ⟨_,rfl,.fine I.end hF⟩
  | cons x W=>
   obtain ⟨x1,ks⟩:=x;obtain ⟨m,hR,hl⟩:=I.wait _ mem_cons_self;obtain ⟨road,e⟩:=hR.last;have e:x1=road++[(m:Int)]:=e;subst e;have hlt:=hR.lt;have hr:rs[m]?=some rs[m]:=getElem?_eq_getElem hlt;have hkl:=hR.kl;have hfew:=I.few;have hwl:=I.wl;have hlen:=R.len;simp only [length_append,length_singleton] at hl hkl;have hks:ks.length≤2000:=by have:ks.length+1≤given.length+(road.length+1):=hkl;omega
   simp only [length_cons] at hwl hn;have hW:W.length+3≤lim:=by unfold lim;omega
   have hFl:F.length+1≤lim:=by unfold lim;omega
   have:=hb F m rs[m] road ks W a s f hr hks hF (by omega) hFl hW
   simp only [List.isEmpty_cons,Bool.not_false,this];unfold turnK;cases hft:faultT rs.length rs[m] (lookF F (m:Int)) (road++[(m:Int)],ks) with
   | some flt=>
    refine ⟨_,rfl,.fault ?_⟩;unfold faultT at hft;split at hft
    ·rename_i r qs hq
     split at hft
     ·obtain ⟨y,g1,g2⟩:=map_some hft
      subst g2;exact ⟨m,ks,rs[m],hR,hr,g1,by simp;omega⟩
     ·rename_i hne
      cases hft;obtain ⟨n',row,e,h1,h2,_⟩:=I.at_ _ _ hq;have h2:r.length≤F.length+1:=h2
      have:n'=m:=by omega
      subst this;exact ⟨n',qs,ks,h1,hR,hne,by omega,by simp;omega⟩
    ·obtain ⟨y,g1,g2⟩:=map_some hft
     subst g2;exact ⟨m,ks,rs[m],hR,hr,g1,by simp;omega⟩
   | none=>
    cases hq:lookF F (m:Int) with
    | some b=>
     rw [hq] at hft;have hbk:b.2=ks:=by
      unfold faultT at hft;simp only at hft;split at hft
      ·assumption
      ·cases hft
     exact ih F W _ _ _ (I.known (road:=road) hq rfl hbk) hF (by omega)
    | none=>
     rw [hq] at hft;have hw:why3 rs.length rs[m] ks=none:=by
      unfold faultT at hft;simpa using hft
     have hlf:=Cz (a:=(road++[(m:Int)],ks)) hq hlt;have bl:(behindA rs.length rs[m] m road ks).length≤2:=by
      unfold behindA;rw [length_map];refine Nat.le_trans (List.length_filter_le _ _) ?_;cases rs[m] <;> simp [behindT]
     refine ih _ _ _ _ _ (I.new hq hr hw) (fun p hp=>?_) (by rw [length_append];omega);rcases List.mem_append.mp hp with hp | hp
     ·exact hF p hp
     ·have:p=((m:Int),(road++[(m:Int)],ks)):=by simpa using hp
      rw [this];exact hks
noncomputable def eFine (n:Nat) (F:List (Int×Arr)):D:= .tuple [.str "fine",eTab (tabT n F)]
def Prelooked (p:List Row×List Kd):Prop:=Rows p.1∧p.2.length≤500
noncomputable def enclooked (p:List Row×List Kd):List D:=[eRows p.1,eKs p.2]
def Postlooked (p:List Row×List Kd) (d:D):Prop:=(∃f,d=eFault f∧FaultOk p.1 p.2 f)∨ ∃F,d=eFine p.1.length F∧FineOk p.1 p.2 F
theorem L1 {rs:List Row} {given:List Kd} {m1 m2 m3 mw mr:RenO→Option FlO} {ρ0 ρ1 ρ2 ρ3:RenO} (h1:m1 ρ0=some (.nx ρ1)) (h2:m2 ρ1=some (.nx ρ2)) (h3:m3 ρ2=some (.nx ρ3)) (hw: ∃fl,mw ρ3=some fl∧Ended rs given fl)
  (hr: ∀ (F:List (Int×Arr)) (a s f:Option Sl),(∀p∈F,p.2.2.length≤2000)→mr (rhoK rs given F [] a s f)=some (.rt (eFine rs.length F))): ∃d,seqO m1 (seqO m2 (seqO m3 (seqO mw mr))) ρ0=some (.rt d)∧Postlooked (rs,given) d:=by
 obtain ⟨fl,e,hE⟩:=hw;cases hE with
 | fault hf=>exact ⟨_,by simp only [seqO,h1,h2,h3,e],.inl ⟨_,rfl,hf⟩⟩
 | fine hf hl=>exact ⟨_,by simp only [seqO,h1,h2,h3,e,hr _ _ _ _ hl],.inr ⟨_,rfl,hf⟩⟩
theorem C1: ∀l:List Int,noCs (l.map PyData.int)=true
 | []=>rfl
 | n::l=>by rw [map_cons,noCs,C1 l];rfl
theorem R8 (o:Option Flt):noC (eOF o)=true:=by
 cases o with
 | none=>rfl
 | some f=>cases f <;> simp [eOF,eFlt,noC,noCs,eInts,C1,W3.d]
theorem Jv {rs:List Row} {s:Nat} {row:Row} {road:List Int} {ks:List Kd} {o:Option Arr} (h:Rows rs) (e:rs[s]?=some row) (hl:ks.length≤2000) (ho: ∀x,o=some x→x.2.length≤2000):kj [eRows rs,eOA o,eArr (road++[(s:Int)],ks)]=some (eOF (faultT rs.length row o (road++[(s:Int)],ks))):=by
 unfold kj;simp only [R7 ho,Option.bind_some];exact Cy h e hl
theorem Pc {rs:List Row} {s:Nat} {row:Row} {road:List Int} {ks:List Kd} (h:Rows rs) (e:rs[s]?=some row) (hl:ks.length≤2000) (hL:lackT row ks=none) (hr:road.length+2≤1000):c8 [eRows rs,eArr (road++[(s:Int)],ks)]=some (.list ((behindA rs.length row s road ks).map eArr)):=by
 unfold c8;simp only [];rw [Cy h e hl,if_pos ⟨hL,hr⟩];unfold behindA;rw [List.map_map];rfl
theorem Jw {rs:List Row} {F:List (Int×Arr)} (h:Rows rs) (hF: ∀p∈F,p.2.2.length≤2000):km [eRows rs,eF F]=some (eTab (tabT rs.length F)):=by
 unfold km;simp only [h.e,Uq hF,Option.bind_some]
end RG
end
section
namespace RG
open PySem L2
end RG
end
section
namespace RG
open PySem L2
theorem L3 {r:Row} (h:r.ok=true):PyData.canLay0 (eRow r)=true:=by
 cases r <;> simp [eRow,Kd.d];rename_i t;have h:=(va h).1;cases t <;> simp_all [thing]
theorem wu: ∀ {rs:List Row},(∀r∈rs,r.ok=true)→PyData.canLayAll0 (rs.map eRow)=true
 | [],_=>by simp
 | r::rs,h=>by rw [map_cons,Cn,L3 (h r mem_cons_self),wu fun x hx=>h x (mem_cons_of_mem _ hx)];rfl
end RG
end
section
namespace RG
open PySem L2
def p9 (_:Int):Prop:=True
noncomputable def g9 (c:Int):List D:=[.int c]
def pg (_:Int) (d:D):Prop:= ∃ks:List Kd,d=eKs ks∧ks.length≤40
theorem Ao {g:D→Option (Option D)} {p:Nat→Bool}: ∀ {l:List Nat},(∀t∈l,g (.int (t:Int))=some (if p t=true then some (.int (t:Int)) else none))→compL g (l.map fun (i:Nat)=>PyData.int (i:Int))=some ((l.filter p).map fun (i:Nat)=>PyData.int (i:Int))
 | [],_=>rfl
 | t::l,h=>by
  rw [map_cons,il,h t mem_cons_self,Ao fun z hz=>h z (mem_cons_of_mem _ hz)]
  by_cases ht:p t=true <;> simp [ht]
theorem R9 {α β:Type} {l:List α} {f:α→β} (m:Int) (h:l≠[]): ∃z∈l,atD (l.map f) (m % (l.length:Int))=some (f z):=by
 have h0:0 < l.length:=List.length_pos_iff.mpr h;have a:=Int.emod_nonneg m (show (l.length:Int)≠0 by omega);have b:=Int.emod_lt_of_pos m (show (0:Int) < (l.length:Int) by omega);have hb:(m % (l.length:Int)).toNat < l.length:=by omega
 refine ⟨l[(m % (l.length:Int)).toNat],List.getElem_mem _,?_⟩;have e:=eo (xs:=l.map f) (i:=(m % (l.length:Int)).toNat) (by rw [length_map];exact hb);rw [Int.toNat_of_nonneg a] at e;rw [e,getElem?_map,getElem?_eq_getElem hb];rfl
theorem xw {t:D} {ks:List Kd}:lackT (.push t) ks=none:=by unfold lackT;rfl
theorem Jx {k:Kd} {ks:List Kd}:lackT (.take k) ks=none:=by unfold lackT;rfl
theorem Pd {k:Int} {ks:List Kd}:lackT (.go k) ks=none:=by unfold lackT;rfl
theorem Jy {n:Int} {ks:List Kd} (h0:0≤n) (h1:n < (ks.length:Int)):lackT (.copy n) ks=none:=by
 show (if n < 0∨n ≥ (ks.reverse.length:Int) then some Why.few else none)=none
 rw [List.length_reverse,if_neg (by omega)]
theorem Ed {n:Int} {ks:List Kd}:lackT (.iff n) (ks++[.truth])=none:=by simp [lackT,lackR]
theorem C2 {k:Kd} {ks:List Kd}:lackT .drop (ks++[k])=none:=by simp [lackT,lackR]
theorem Gv {ks:List Kd} (h:ks≠[]):lackT .drop ks=none:=by
 rw [←List.dropLast_concat_getLast h];exact C2
theorem Fn {n:Int} {ks:List Kd}:afterT (.iff n) (ks++[.truth])=ks:=by simp [afterT,afterR]
theorem Gw {t:D} {ks:List Kd}:afterT (.push t) ks=ks++[kindT t]:=by simp [afterT,afterR]
def ph (p:Int×Int×List Kd×List (List Kd)):Prop:=0≤p.1∧p.1≤13∧p.2.2.1.length≤500∧p.2.2.2.length≤500
noncomputable def b6 (p:Int×Int×List Kd×List (List Kd)):List D:=[.int p.1,.int p.2.1,eKs p.2.2.1,.list (p.2.2.2.map eKs)]
def iq (p:Int×Int×List Kd×List (List Kd)) (d:D):Prop:= ∃r:Row,d=eRow r∧r.ok=true∧lackT r p.2.2.1=none∧(12≤p.1→ ∃t,r= .push t)
section
variable {α:Type} {a b c d e f g h x:α} {xs pre:List α}
@[simp] theorem Vx:atD (a::b::c::d::e::f::g::xs) 6=some g:=eo (i:=6) (by simp only [length_cons];omega)
@[simp] theorem Vy:atD (a::b::c::d::e::f::g::h::xs) 7=some h:=eo (i:=7) (by simp only [length_cons];omega)
theorem sx:cutD (pre++[x]) (some (-1)) none=[x]:=by
 simp only [cutD,cIx,length_append,length_singleton];rw [if_pos (by omega),show ((-1:Int)+((pre.length+1:Nat):Int)).toNat=pre.length by omega,List.drop_left];simp
theorem Ee:cutD (pre++[x]) none (some (-1))=pre:=by
 simp only [cutD,cIx,length_append,length_singleton];rw [if_pos (by omega),show ((-1:Int)+((pre.length+1:Nat):Int)).toNat=pre.length by omega];simp
end
theorem Jz (ks:List Kd): ∃B:Bool,PyData.eqvAll (cutD (ks.map Kd.d) (some (-1)) none) [.str "truth"]=B∧PyData.canLayAll0 (cutD (ks.map Kd.d) (some (-1)) none)=true∧PyData.depthAll (cutD (ks.map Kd.d) (some (-1)) none)=0∧(B=true→ ∃q,ks=q++[.truth]):=by
 rcases List.eq_nil_or_concat ks with rfl | ⟨q,b,rfl⟩
 ·exact ⟨false,by simp [cutD,cIx],by simp [cutD,cIx],by simp [cutD,cIx],fun h=>by cases h⟩
 ·rw [List.concat_eq_append]
  simp only [List.map_append,map_cons,List.map_nil,sx];cases b with
  | truth=>exact ⟨true,by simp [Kd.d,Kd.s],by simp [Kd.d],by simp [Kd.d],fun _=>⟨q,rfl⟩⟩
  | number=>exact ⟨false,by simp [Kd.d,Kd.s,ar],by simp [Kd.d],by simp [Kd.d],fun h=>by cases h⟩
  | text=>exact ⟨false,by simp [Kd.d,Kd.s,ar],by simp [Kd.d],by simp [Kd.d],fun h=>by cases h⟩
noncomputable def oddRowT (c n:Int):Row:=match (c % 21).toNat with
 | 0=> .add | 1=> .less | 2=> .join | 3=> .not | 4=> .same | 5=> .drop | 6=> .swap | 7=> .tell
 | 8=> .copy 2 | 9=> .copy (-1) | 10=> .copy 1000000000000 | 11=> .fin
 | 12=> .iff (c / 18 % n) | 13=> .go (c / 18 % n)
 | 14=> .go (n+1) | 15=> .iff (-1) | 16=> .go 1000000000000 | 17=> .push (.str "a")
 | 18=> .copy (farT c) | 19=> .go (n+1+farT c) | _=> .iff (-2 - farT c)
theorem C3 (c n:Int):(oddRowT c n).ok=true:=by
 unfold oddRowT;split <;> first | rfl | decide+kernel
noncomputable def h9:List D→Option D
 | [.int c,.int n]=>if 0 < n then some (eRow (oddRowT c n)) else none
 | _=>none
def Doable:List Row→List Kd→Prop
 | [],_=>True
 | r::l,ks=>r.ok=true∧lackT r ks=none∧Doable l (afterT r ks)
noncomputable def rhoD (cells:List Int) (given:List Kd) (rs:List Row) (ts:List (List Kd)) (ks:List Kd) (k c m r:Option Sl):RenO:=[some (.sh (eInts cells)),some (.sh (eKs given)),some (.ow (rs.map eRow)),some (.ow (ts.map eKs)),some (.sh (eKs ks)),k,c,m,r]
theorem Ef {r:Row} (h:r.ok=true):noL (eRow r)=true:=by
 cases r <;> simp [eRow,Kd.d];rename_i t;have h:=(va h).1;cases t <;> simp_all [thing]
theorem C4 {i:Nat} {m:RenO→Option FlO} (P:Nat→RenO→Prop): ∀ {items:List D} {j:Nat} {ρ:RenO},(∀ (n:Nat) (x:D),items[n]?=some x→noL x=true∧ ∀ρ,P (j+n) ρ→ ∃ρ2,m (ρ.set i (some (.sh x)))=some (.nx ρ2)∧P (j+n+1) ρ2)→P j ρ→ ∃ρ',forO i m items ρ=some (.nx ρ')∧P (j+items.length) ρ'
 | [],j,ρ,_,h0=>⟨ρ,rfl,h0⟩
 | x::l,j,ρ,h,h0=>by
  obtain ⟨hx,hs⟩:=h 0 x rfl;obtain ⟨ρ2,e2,h2⟩:=hs ρ h0;obtain ⟨ρ',e3,h3⟩:=C4 (items:=l) (j:=j+1) P (fun n y hy=>by
   obtain ⟨a,b⟩:=h (n+1) y hy;exact ⟨a,fun ρ hρ=>by
    rw [show j+(n+1)+1=j+1+n+1 by omega,show j+(n+1)=j+1+n by omega] at b;exact b ρ hρ⟩) h2
  refine ⟨ρ',?_,by rw [length_cons,show j+(l.length+1)=j+1+l.length by omega];exact h3⟩;unfold forO;rw [if_pos hx];simp only [e2];exact e3
theorem Gx {cells:List Int} {given:List Kd} {m:RenO→Option FlO} {k c md:Option Sl}
  (hm: ∀ (rs:List Row) (ts:List (List Kd)) (ks:List Kd) (row:Row),row.ok=true→lackT row ks=none→ks.length≤1500→rs.length+1≤lim→ts.length+1≤lim→
   m (rhoD cells given rs ts ks k c md (some (.sh (eRow row))))=some (.nx (rhoD cells given (rs++[row]) (ts++[ks]) (afterT row ks) k c md (some (.sh (eRow row)))))):
  ∀ (S:List Row) (rs:List Row) (ts:List (List Kd)) (ks:List Kd) (o:Option Sl),Doable S ks→(∀r∈rs,r.ok=true)→ts.length=rs.length→ks.length+S.length≤1500→rs.length+S.length≤1500→
   ∃rs' ts' ks' o',forO 8 m (S.map eRow) (rhoD cells given rs ts ks k c md o)=some (.nx (rhoD cells given rs' ts' ks' k c md o'))∧(∀r∈rs',r.ok=true)∧ts'.length=rs'.length∧rs'.length=rs.length+S.length∧ks'.length≤ks.length+S.length:=by
 intro S
 induction S with
 | nil=>intro rs ts ks o _ h1 h2 _ _;exact ⟨rs,ts,ks,o,rfl,h1,h2,rfl,Nat.le_refl _⟩
 | cons row S ih=>
  intro rs ts ks o ⟨d1,d2,d3⟩ h1 h2 h3 h4;rw [length_cons] at h3 h4;have hl:=Cv row ks;obtain ⟨rs',ts',ks',o',e,g1,g2,g3,g4⟩:=ih (rs++[row]) (ts++[ks]) (afterT row ks) (some (.sh (eRow row))) d3 (fun r hr=>by
   rcases List.mem_append.mp hr with z | z
   ·exact h1 r z
   ·rw [List.mem_singleton.mp z];exact d1) (by simp [h2]) (by omega) (by simp;omega)
  refine ⟨rs',ts',ks',o',?_,g1,g2,by rw [g3];simp;omega,by rw [length_cons];omega⟩;rw [map_cons];unfold forO;rw [if_pos (Ef d1)];have hs:(rhoD cells given rs ts ks k c md o).set 8 (some (.sh (eRow row)))=rhoD cells given rs ts ks k c md (some (.sh (eRow row))):=rfl;rw [hs];simp only [hm rs ts ks row d1 d2 (by omega) (by unfold lim;omega) (by unfold lim;omega)];exact e
def rh (p:List Int×List Kd):Prop:=p.1.length≤66∧p.2.length≤40
noncomputable def iz (p:List Int×List Kd):List D:=[eInts p.1,eKs p.2]
def k6 (_:List Int×List Kd) (ds:List D):Prop:= ∃rs:List Row,ds=rs.map eRow∧(∀r∈rs,r.ok=true)∧rs.length≤99
theorem J0 {m1 m2 m3 m4 m5:RenO→Option FlO} {ρ0 ρ1 ρ2 ρ3 ρ4:RenO} {o:Option FlO} (h1:m1 ρ0=some (.nx ρ1)) (h2:m2 ρ1=some (.nx ρ2)) (h3:m3 ρ2=some (.nx ρ3)) (h4:m4 ρ3=some (.nx ρ4)) (h5:m5 ρ4=o):seqO m1 (seqO m2 (seqO m3 (seqO m4 m5))) ρ0=o:=by
 simp only [seqO,h1,h2,h3,h4,h5]
def RInv (cells:List Int) (given:List Kd) (j:Nat) (ρ:RenO):Prop:= ∃rs ts ks k c m r,ρ=rhoD cells given rs ts ks k c m r∧(∀r∈rs,r.ok=true)∧ts.length=rs.length∧rs.length≤3*j∧ks.length≤40+3*j
theorem L4 {cells:List Int} {given:List Kd} (hc:cells.length≤66) (hg:given.length≤40) {m1 m2 m3 mr:RenO→Option FlO} {mi:Ren→Option (List D)} {m:RenO→Option FlO} {ρ0 ρ1 ρ2:RenO} (h1:m1 ρ0=some (.nx ρ1)) (h2:m2 ρ1=some (.nx ρ2)) (h3:m3 ρ2=some (.nx (rhoD cells given [] [] given none none none none)))
  (hf:mi (shOf (rhoD cells given [] [] given none none none none))=some ((List.range (cells.length / 2)).map fun (i:Nat)=>PyData.int (i:Int)))
  (hm: ∀ (j:Nat) (rs:List Row) (ts:List (List Kd)) (ks:List Kd) (c md r:Option Sl),2*j+1 < cells.length→(∀r∈rs,r.ok=true)→ts.length=rs.length→rs.length≤99→ks.length≤139→
   ∃rs' ts' ks' k' c' m' r',m (rhoD cells given rs ts ks (some (.sh (.int (j:Int)))) c md r)=some (.nx (rhoD cells given rs' ts' ks' k' c' m' r'))∧(∀r∈rs',r.ok=true)∧ts'.length=rs'.length∧rs'.length≤rs.length+3∧ks'.length≤ks.length+3)
  (hr: ∀ (rs:List Row) (ts:List (List Kd)) (ks:List Kd) (k c md r:Option Sl),mr (rhoD cells given rs ts ks k c md r)=some (.rn (rs.map eRow))): ∃d,seqO m1 (seqO m2 (seqO m3 (seqO (forOF 5 mi m) mr))) ρ0=some (.rn d)∧k6 (cells,given) d:=by
 obtain ⟨ρ',e,rs,ts,ks,k,c,md,r,rfl,g1,g2,g3,g4⟩:=C4 (i:=5) (m:=m) (RInv cells given) (items:=(List.range (cells.length / 2)).map fun (i:Nat)=>PyData.int (i:Int)) (j:=0) (ρ:=rhoD cells given [] [] given none none none none) (fun n x hx=>by
  rw [getElem?_map] at hx;obtain ⟨y,hy,e⟩:=map_some hx;obtain ⟨hn,e2⟩:=List.getElem?_eq_some_iff.mp hy;rw [List.length_range] at hn;rw [List.getElem_range] at e2;subst e2;subst e;refine ⟨by simp,fun ρ h0z=>?_⟩;obtain ⟨rs,ts,ks,k,c,md,r,eρ,g1,g2,g3,g4⟩:=h0z;subst eρ;obtain ⟨rs',ts',ks',k',c',m',r',e3,a1,a2,a3,a4⟩:=hm n rs ts ks c md r (by omega) g1 g2 (by omega) (by omega);exact ⟨_,e3,rs',ts',ks',k',c',m',r',rfl,a1,a2,by omega,by omega⟩) ⟨[],[],given,none,none,none,none,rfl,(fun r hr=>by cases hr),rfl,by simp,by omega⟩
 refine ⟨rs.map eRow,by simp only [seqO,h1,h2,h3,forOF,hf,e,hr],rs,rfl,g1,?_⟩;rw [length_map,List.length_range] at g3;omega
theorem xx {cells:List Int} {given:List Kd} {m1 m2 m3 m4:RenO→Option FlO} {mi:Ren→Option (List D)} {m:RenO→Option FlO} {rs:List Row} {ts:List (List Kd)} {ks:List Kd} {k c md r k' c':Option Sl} {ρ1 ρ2 ρ3:RenO} {S:List Row}
  (h1:m1 (rhoD cells given rs ts ks k c md r)=some (.nx ρ1)) (h2:m2 ρ1=some (.nx ρ2)) (h3:m3 ρ2=some (.nx ρ3)) (h4:m4 ρ3=some (.nx (rhoD cells given rs ts ks k' c' (some (.sh (.list (S.map eRow)))) r)))
  (hi:mi (shOf (rhoD cells given rs ts ks k' c' (some (.sh (.list (S.map eRow)))) r))=some (S.map eRow))
  (hm: ∀ (md:Option Sl) (rs:List Row) (ts:List (List Kd)) (ks:List Kd) (row:Row),row.ok=true→lackT row ks=none→ks.length≤1500→rs.length+1≤lim→ts.length+1≤lim→
   m (rhoD cells given rs ts ks k' c' md (some (.sh (eRow row))))=some (.nx (rhoD cells given (rs++[row]) (ts++[ks]) (afterT row ks) k' c' md (some (.sh (eRow row))))))
  (hS:Doable S ks) (hSl:S.length≤3) (hrs: ∀r∈rs,r.ok=true) (hts:ts.length=rs.length) (hrl:rs.length≤99) (hkl:ks.length≤139):
  ∃rs' ts' ks' k' c' m' r',seqO m1 (seqO m2 (seqO m3 (seqO m4 (forOF 8 mi m)))) (rhoD cells given rs ts ks k c md r)=some (.nx (rhoD cells given rs' ts' ks' k' c' m' r'))∧(∀r∈rs',r.ok=true)∧ts'.length=rs'.length∧rs'.length≤rs.length+3∧ks'.length≤ks.length+3:=by
 obtain ⟨rs',ts',ks',o',e,g1,g2,g3,g4⟩:=Gx (hm (some (.sh (.list (S.map eRow))))) S rs ts ks r hS hrs hts (by omega) (by omega);refine ⟨rs',ts',ks',k',c',some (.sh (.list (S.map eRow))),o',?_,g1,g2,by omega,by omega⟩;refine J0 h1 h2 h3 h4 ?_;simp only [forOF,hi];exact e
theorem Fo: ∀l:List Nat,PyData.canLayAll0 (l.map fun (i:Nat)=>PyData.int (i:Int))=true
 | []=>by simp
 | n::l=>by rw [map_cons,Cn,Fo l];simp
theorem J1 {cells:List Int} {n:Nat} (h:n < cells.length) {i:Int} (e:i=(n:Int)):atD (cells.map PyData.int) i=some (.int cells[n]):=by
 subst e;rw [eo (by rw [length_map];exact h),getElem?_map,getElem?_eq_getElem h];rfl
def lx (ns:List Int):Prop:=ns.length≤63
noncomputable def dl (ns:List Int):List D:=[eScr ns]
def k7 (_:List Int) (d:D):Prop:= ∃ (rs:List Row) (ks:List Kd),d= .tuple [eRows rs,eKs ks]∧(∀r∈rs,r.ok=true)∧rs.length≤99∧ks.length≤40
theorem Eg {ns:List Int} (hl:ns.length≤63):cutD (ns.map PyData.int) (some 5) (some 71)=(ns.drop 5).map PyData.int:=by
 unfold cutD cIx;simp only [length_map];rw [if_neg (by omega),if_neg (by omega),←List.map_drop,←List.map_take]
 congr 1
 by_cases h:5≤ns.length
 ·rw [show min (5:Int).toNat ns.length=5 by omega]
  exact List.take_of_length_le (by rw [List.length_drop];omega)
 ·rw [show min (5:Int).toNat ns.length=ns.length by omega,List.drop_length,List.drop_of_length_le (by omega)]
  simp
theorem L5 {rs:List Row} {n:Nat} {r:Row} (h: ∀r∈rs,r.ok=true) (hr:r.ok=true): ∀x∈rs.set n r,x.ok=true:=fun x hx=>by
 rcases List.mem_or_eq_of_mem_set hx with z | z
 ·exact h x z
 ·rw [z];exact hr
theorem Sa {r:Row} (h:r.ok=true):sz (eRow r)≤3:=by
 cases r <;> simp [eRow,Kd.d,sz,szs];rename_i t;have h:=(va h).1;cases t <;> simp_all [thing,sz]
theorem Eh: ∀ {rs:List Row},(∀r∈rs,r.ok=true)→szs (rs.map eRow)≤3*rs.length
 | [],_=>by simp [szs]
 | r::rs,h=>by
  have a:=Sa (h r mem_cons_self);have b:=Eh fun x hx=>h x (mem_cons_of_mem _ hx)
  rw [map_cons,szs,length_cons];omega
end RG
end
section
namespace RG
open PySem L2
structure Gb2 (mg:Str→Option Value) extends Gb mg where
 all:mg "all"=none
noncomputable def rowOf (rs:List Row) (s:Nat):Row:=rs[s]?.getD .add
theorem Ei {rs:List Row} {s:Nat} {row:Row} (h:rs[s]?=some row):rowOf rs s=row:=by unfold rowOf;rw [h];rfl
end RG
namespace RG
open PySem L2
end RG
namespace RG
open PySem L2
theorem L6 {α:Type} (xs:List α):cutD xs none (some (-1))=xs.dropLast:=by
 unfold cutD cIx;rw [List.dropLast_eq_take];simp;omega
end RG
namespace RG
open PySem L2
theorem sq {m n:Ren→Option Fl} {ρ ρ':Ren} {o:Option Fl} (h:m ρ=some (.nx ρ')) (k:n ρ'=o):seqF m n ρ=o:=by
 unfold seqF;rw [h];exact k
end RG
end
section
namespace RG
open PySem L2
theorem L7 {α:Type} (x:α) (xs:List α):cutD (x::xs) (some 1) none=xs:=by
 unfold cutD cIx;simp
theorem sqO {m n:RenO→Option FlO} {ρ ρ':RenO} {o:Option FlO} (h:m ρ=some (.nx ρ')) (k:n ρ'=o):seqO m n ρ=o:=by
 unfold seqO;rw [h];exact k
end RG
end
section
namespace RG
open PySem PySem.Spec PyProof.Rows L2
theorem J2 (p:Addr) (a b c z:Str) (ta tb tc tz:Tok):Meets (Builtin.«tuple.index» ⟨[.ref p,.str z tz],[]⟩) (fun _ R s=>IsTup s.heap p #[.str a ta,.str b tb,.str c tc]∧(z=a∨z=b∨z=c)∧ ∀ (n:Nat) (tk:Nat),(z=a→n=0)→(z≠a→z=b→n=1)→(z≠a→z≠b→n=2)→R (.ok (.ret (.int n tk))) { s with toks:=s.toks+1 }):=
 .of_wp fun prog w A R s h=>by
  obtain ⟨ht,hz,h⟩:=h;unfold Builtin.«tuple.index»;refine wpAny_bind (m:=selfAndSome _ _ _ _ _) (wpAny_of_eq (a:=(Value.ref p,[Value.str z tz])) (by rfl) ?_);refine wpAny_bind (tupleItemsOf_ ht ?_);dsimp only;refine wpAny_bind (wpAny_pure ?_);refine wpAny_bind (wpAny_pure ?_);simp only [Std.Legacy.Range.forIn_eq_forIn_range',Std.Legacy.Range.size];have e3:List.range' 0 ((min #[Value.str a ta,Value.str b tb,Value.str c tc].size #[Value.str a ta,Value.str b tb,Value.str c tc].size - 0+1 - 1) / 1) 1=[0,1,2]:=by
   rw [show #[Value.str a ta,Value.str b tb,Value.str c tc].size=3 from rfl];decide
  rw [e3];refine wpAny_bind ?_;simp only [List.forIn_cons,List.forIn_nil];have fin: ∀n:Nat,(z=a→n=0)→(z≠a→z=b→n=1)→(z≠a→z≠b→n=2)→wpAny (model prog w) A.in1 (retInt (n:Int)) (fun fin s'=>∃v,fin=PySem.Fin.done (Flow.ret v)∧R (.ok (.ret v)) s') (fun e s'=>R (.error e) s') s:=fun n h1 h2 h3=>by
   unfold retInt;exact wpAny_bind (wpAny_mkInt (wpAny_pure ⟨_,rfl,h n _ h1 h2 h3⟩))
  refine wpAny_bind ?_
  show wpAny _ _ (eqBool (.str a ta) (.str z tz) >>=_) _ _ s
  refine wpAny_bind (eqBool_str ?_)
  by_cases ha:a=z
  ·rw [if_pos (by simpa using ha)]
   refine wpAny_bind (wpAny_mono (fin 0 (fun _=>rfl) (fun q=>absurd ha.symm q) fun q=>absurd ha.symm q) (fun v s' q=>wpAny_pure (wpAny_pure (wpAny_pure q))) fun e s' q=>q)
  ·rw [if_neg (by simpa using ha)]
   refine wpAny_pure ?_;refine wpAny_bind ?_
   show wpAny _ _ (eqBool (.str b tb) (.str z tz) >>=_) _ _ s
   refine wpAny_bind (eqBool_str ?_)
   by_cases hb:b=z
   ·rw [if_pos (by simpa using hb)]
    refine wpAny_bind (wpAny_mono (fin 1 (fun q=>absurd q.symm ha) (fun _ _=>rfl) fun _ q=>absurd hb.symm q) (fun v s' q=>wpAny_pure (wpAny_pure (wpAny_pure q))) fun e s' q=>q)
   ·rw [if_neg (by simpa using hb)]
    refine wpAny_pure ?_;refine wpAny_bind ?_
    show wpAny _ _ (eqBool (.str c tc) (.str z tz) >>=_) _ _ s
    refine wpAny_bind (eqBool_str ?_);have hc:c=z:=by
     rcases hz with q | q | q
     ·exact absurd q.symm ha
     ·exact absurd q.symm hb
     ·exact q.symm
    rw [if_pos (by simpa using hc)];refine wpAny_bind (wpAny_mono (fin 2 (fun q=>absurd q.symm ha) (fun _ q=>absurd q.symm hb) fun _ _=>rfl) (fun v s' q=>wpAny_pure (wpAny_pure (wpAny_pure q))) fun e s' q=>q)
section
variable {X:Cx} {K:Frag} {e o:Expr} {ma mo:Ren→Option D} {pos apos cpos:Pos}
noncomputable def ix3 (z a b c:Str):Option Nat:=if z=a then some 0 else if z=b then some 1 else if z=c then some 2 else none
theorem Sb:MtR X "tuple.index" (fun x vs H Q=>∃p a b c z n,x= .ref p∧vs=[.str z]∧SqT X.K H p [.str a,.str b,.str c]∧ix3 z a b c=some n∧Q (.int (n:Int)) H):=by
 intro pins s σ H x xs v us Q I rx rs h;obtain ⟨p,a,b,c,z,n,rfl,rfl,ht,hn,q⟩:=h;cases rx;obtain ⟨u,rfl,ru⟩:=vals1 rs;obtain ⟨tz,rfl⟩:=ru;obtain ⟨its,r,pt,_⟩:=I.tuple ht;obtain ⟨u1,u2,u3,e1,ra,rb,rc⟩: ∃u1 u2 u3,its=[u1,u2,u3]∧RelV (.str a) u1∧RelV (.str b) u2∧RelV (.str c) u3:=by
  cases r with | cons h1 t1=>cases t1 with | cons h2 t2=>cases t2 with | cons h3 t3=>cases t3;exact ⟨_,_,_,rfl,h1,h2,h3⟩
 subst e1;obtain ⟨ta,rfl⟩:=ra;obtain ⟨tb,rfl⟩:=rb;obtain ⟨tc,rfl⟩:=rc;have hT:s.TypeIs (.ref p) "tuple":=by obtain ⟨o,ho,hc,_⟩:=pt;exact ⟨o,ho,hc⟩
 have hz:z=a∨z=b∨z=c:=by
  unfold ix3 at hn
  by_cases h1:z=a
  ·exact .inl h1
  ·by_cases h2:z=b
   ·exact .inr (.inl h2)
   ·by_cases h3:z=c
    ·exact .inr (.inr h3)
    ·rw [if_neg h1,if_neg h2,if_neg h3] at hn;cases hn
 refine call_meets F.slot_tuple_index hT F.entry_tuple_index (F.args_tuple_index_2 _ _) (J2 p a b c z ta tb tc tz) ⟨pt,hz,fun m tk h1 h2 h3=>?_⟩;have e:m=n:=by
  unfold ix3 at hn
  by_cases g1:z=a
  ·rw [if_pos g1] at hn;cases hn;exact h1 g1
  ·rw [if_neg g1] at hn
   by_cases g2:z=b
   ·rw [if_pos g2] at hn;cases hn;exact h2 g1 g2
   ·rw [if_neg g2] at hn
    split at hn
    ·cases hn;exact h3 g1 g2
    ·cases hn
 subst e;exact ⟨.int (m:Int),H,I.tok _,⟨_,rfl⟩,q⟩
structure Tup3 (K:Frag) (mg:Str→Option Value) (x:Str) (a b c:Str):Prop where
 ex: ∃ (p:Addr) (o:Obj),mg x=some (.ref p)∧K.lookup p=some o∧o.cls= .type "tuple"∧o.dict=none∧ ∀H,SqT K H p [.str a,.str b,.str c]
theorem Tup3.of {mg:Str→Option Value} {x:Str} {p:Addr} {a b c:Str} {ta tb tc:Tok} {n:Nat} (hm:mg x=some (.ref p)) (hk:K.lookup p=some ⟨.type "tuple",none,.seq [Value.str a ta,.str b tb,.str c tc].toArray n,#[]⟩):Tup3 K mg x a b c:=⟨⟨p,_,hm,hk,rfl,rfl,fun H=>by
 have hi:Is K H (.ref p) (.tuple [.str a,.str b,.str c]):=Bl hk (show lits _=some [.str a,.str b,.str c] from rfl) (by show 3≤sizeLine;decide) H;cases hi with
 | tup h1 h2=>
  cases h2 with
  | cons i1 h2=>cases h2 with
   | cons i2 h2=>cases h2 with
    | cons i3 h2=>cases h2;cases i1;cases i2;cases i3;exact h1⟩⟩
noncomputable def tixF (a b c:Str) (m:Ren→Option D):Ren→Option D:=fun ρ=>(m ρ).bind fun d=>match d with
 | .str z=>(ix3 z a b c).map fun (n:Nat)=>PyData.int (n:Int)
 | _=>none
theorem Sc {x:Str} {p:Pos} {a b c:Str} (G:Tup3 X.K X.mg x a b c) (hg:Gl X x) (he:XE X e ma) (hdb:(x==("__debug__":Str))=false:=by decide) (hbase:attributeBase (.Name x p) "index" X.env (eval (.Name x p) X.env)=eval (.Name x p) X.env:=by rfl)
  (hfew:((backTo cpos (starEach [e] X.env)).all (fun x=>!x.1) && (backToKw cpos (keywordEach [] X.env)).all (fun x=>x.1.isSome) && decide ([e].length+([]:List Keyword).length+(if ([]:List Keyword).isEmpty then 0 else 1) < 30))=true:=by rfl)
  (hline:(apos.endLine==cpos.line)=true:=by rfl) (hs:starEach [e] X.env=(false,eval e X.env)::starEach [] X.env:=by rfl) (hplain:(backTo cpos (starEach [] X.env)).any (·.1)=false:=by rfl):XE X (.Call (.Attribute (.Name x p) "index" apos) [e] [] cpos) (tixF a b c ma):=by
 obtain ⟨he⟩:=he;refine ⟨?_⟩;obtain ⟨q,ob,hm,hk,hc,hd,hT⟩:=G.ex;refine ff (Ds PySem.F.plainAttrs_tuple PySem.F.slot_tuple_index PySem.F.type_tuple_index Sb (so hg hm (show RelV (.ref q) _ from rfl) hdb) (cw he fh hs) hbase hfew hline hs hplain) fun σ H Q h=>?_
 obtain ⟨ρ,d,ro,e1,k⟩:=h;obtain ⟨d1,h1,e1⟩:=bind_some e1;refine ⟨.inr (.inl ⟨rfl,ob,hk,hc,hd⟩),ρ,d1,ro,h1,fun v H1 s1 i1=>?_⟩;split at e1
 ·rename_i z
  obtain ⟨n,hn,e2⟩:=map_some e1;subst e2;cases i1;exact ⟨q,a,b,c,z,n,rfl,rfl,hT H1,hn,k _ H1 s1 (.int _)⟩
 ·cases e1
@[simp] noncomputable def addX:D→D→Option D
 | .str a,.str b=>if a.length+b.length≤sizeLine then some (.str (a++b)) else none
 | a,b=>addD a b
theorem Pe:OpR X (binaryOp .Add) (fun x y H Q=>(∃i j,x= .str i∧y= .str j∧i.length+j.length≤sizeLine∧Q (.str (i++j)) H)∨(rI0 (fun i j=> .int (i+j)) x y H Q∨rCatS X.K x y H Q)):=OpR.or Gj cm
theorem Sd:R2D K (fun x y H Q=>(∃i j,x= .str i∧y= .str j∧i.length+j.length≤sizeLine∧Q (.str (i++j)) H)∨(rI0 (fun i j=> .int (i+j)) x y H Q∨rCatS K x y H Q)) addX:=by
 intro H x y a b d Q ia ib e q;unfold addX at e;split at e
 ·split at e
  ·rename_i hl
   cases e;cases ia;cases ib;exact .inl ⟨_,_,rfl,rfl,hl,q _ H (Same.refl H) (.str _)⟩
  ·cases e
 ·exact .inr (gy H x y a b d Q ia ib e q)
end
end RG
end
section
namespace RG
open PySem L2
def Things (ps:List D):Prop:= ∀t∈ps,thing t=true
noncomputable abbrev kindsP (ps:List D):List Kd:=ps.map kindT
theorem Se {t:D} (h:thing t=true):fj [t]=some (kindT t).d:=if_pos h
noncomputable def nextS (n s:Nat) (row:Row) (ps:List D):Int:=match row with
 | .fin=>(n:Int)
 | .go t=>t
 | .iff t=>(match ps.getLast? with | some (.bool true)=>t | _=>(s:Int)+1)
 | _=>(s:Int)+1
def og (ps:List D):Prop:=Things ps∧ps.length≤1000
noncomputable def et (ps:List D):List D:=[.list ps]
def lg (ps:List D) (d:D):Prop:=d=eKs (kindsP ps)
def v9 (p:List Row×Nat×List D):Prop:=Rows p.1∧p.2.1≤p.1.length∧Things p.2.2∧p.2.2.length≤1000
noncomputable def gu (p:List Row×Nat×List D):List D:=[eRows p.1,.tuple [.int (p.2.1:Int),.list p.2.2]]
def ud (p:List Row×Nat×List D) (d:D):Prop:=d= .bool (decide (p.2.1 < p.1.length) && (why3 p.1.length (rowOf p.1 p.2.1) (kindsP p.2.2)).isNone)
def rj (p:List Row×Nat×List D):Prop:=Rows p.1∧p.2.1 < p.1.length∧Things p.2.2∧p.2.2.length≤1000∧why3 p.1.length (rowOf p.1 p.2.1) (kindsP p.2.2)=none
noncomputable def fu (p:List Row×Nat×List D):List D:=[eRows p.1,.tuple [.int (p.2.1:Int),.list p.2.2]]
def qa (p:List Row×Nat×List D) (d:D):Prop:=d= .int (nextS p.1.length p.2.1 (rowOf p.1 p.2.1) p.2.2)
theorem Sf {n:Nat} {t:Int} {ps:List D} (h:why3 n (.iff t) (kindsP ps)=none) (hp:Things ps): ∃q b,ps=q++[PyData.bool b]:=by
 have hL:=(jh h).1;unfold lackT at hL;rw [←List.map_reverse] at hL;obtain ⟨l,e⟩:=Fg hL;obtain ⟨x,r,e1,e2,e3⟩: ∃x r,ps.reverse=x::r∧kindT x= .truth∧True:=by
  cases hr:ps.reverse with
  | nil=>rw [hr] at e;cases e
  | cons x r=>rw [hr] at e;exact ⟨x,r,rfl,(List.cons.inj e).1,trivial⟩
 have ht:thing x=true:=hp x (by rw [←List.mem_reverse,e1];exact mem_cons_self);obtain ⟨b,rfl⟩: ∃b,x=PyData.bool b:=by
  cases x <;> simp [kindT,thing] at e2 ht;exact ⟨_,rfl⟩
 exact ⟨r.reverse,b,by rw [←List.reverse_reverse ps,e1,reverse_cons]⟩
structure Cm where
 n:List D
 t:List D
 x:List D
noncomputable def Cm.l (c:Cm):List D:=[.list c.n,.list c.t,.list c.x]
noncomputable def Cm.at_ (c:Cm):Kd→List D
 | .number=>c.n | .truth=>c.t | .text=>c.x
noncomputable def blank:Kd→D
 | .number=> .int 0 | .truth=> .bool false | .text=> .str ""
noncomputable def Cm.hd (c:Cm) (k:Kd):D:=(c.at_ k).head?.getD (blank k)
noncomputable def Cm.tl (c:Cm):Kd→Cm
 | .number=>⟨c.n.tail,c.t,c.x⟩ | .truth=>⟨c.n,c.t.tail,c.x⟩ | .text=>⟨c.n,c.t,c.x.tail⟩
noncomputable def Cm.past (c:Cm):Row→Cm
 | .take k=>c.tl k
 | _=>c
noncomputable def blanksD:D:= .tuple [.int 0,.bool false,.str ""]
def rm (_:Kd×Cm):Prop:=True
noncomputable def ly (p:Kd×Cm):List D:=[p.1.d,.list p.2.l]
def qb (p:Kd×Cm) (d:D):Prop:=d=p.2.hd p.1
def mz (p:Row×Cm):Prop:=p.1.ok=true
noncomputable def ev (p:Row×Cm):List D:=[eRow p.1,.list p.2.l]
def lh (p:Row×Cm) (d:D):Prop:=d= .list (p.2.past p.1).l
theorem Sg {α:Type} (xs:List α):cutD xs (some 1) none=xs.tail:=by
 cases xs with
 | nil=>rfl
 | cons a l=>exact L7 a l
theorem Ur (k:Kd): ∃n:Nat,ix3 (Str.ofString k.s) (Str.ofString "number") (Str.ofString "truth") (Str.ofString "text")=some n∧ ∀c:Cm,atD c.l (n:Int)=some (.list (c.at_ k))∧atD [PyData.int 0,.bool false,.str ""] (n:Int)=some (blank k):=by
 cases k
 ·exact ⟨0,by simp [ix3,Kd.s],fun c=>⟨rfl,rfl⟩⟩
 ·exact ⟨1,by simp [ix3,Kd.s,aq],fun c=>⟨rfl,rfl⟩⟩
 ·exact ⟨2,by simp [ix3,Kd.s,aq],fun c=>⟨rfl,rfl⟩⟩
theorem Na {a b:List D}:PyData.eqv (.tuple a) (.tuple b)=PyData.eqvAll a b:=by rw [PyData.eqv]
noncomputable def isTake:Row→Kd→Bool
 | .take k,j=>decide (k=j)
 | _,_=>false
theorem L8 (r:Row) (k:Kd):PyData.eqv (eRow r) (.tuple [.str "take",k.d])=isTake r k:=by
 cases r with
 | take j=>cases j <;> cases k <;> simp [eRow,Na,isTake,Kd.d,Kd.s,ar,aq]
 | _=>simp [eRow,Na,isTake,ar,aq]
theorem J3 {r:Row} (h:r.ok=true) (k:Kd):deepOk (eRow r) (.tuple [.str "take",k.d])=true:=by
 cases r with
 | push t=>
  have h:=(va h).1;cases t <;> first | (cases h;done) | (cases k <;> simp_all [eRow,deepOk,Kd.d,Kd.s,thing])
 | take j=>cases j <;> cases k <;> simp [eRow,deepOk,Kd.d,Kd.s]
 | _=>cases k <;> simp [eRow,deepOk,Kd.d,Kd.s]
noncomputable def Cm.pick (c:Cm) (r:Row):List D:=[.list (if isTake r .number=true then c.n.tail else c.n),.list (if isTake r .truth=true then c.t.tail else c.t),.list (if isTake r .text=true then c.x.tail else c.x)]
theorem J4 (c:Cm) (r:Row):(c.past r).l=c.pick r:=by
 cases r with
 | take k=>cases k <;> rfl
 | _=>rfl
end RG
end
section
namespace RG
open PySem PySem.Spec PyProof.Rows L2
inductive Mv where
 | sh (d:D) | ow (k:Nat)
inductive Mo where
 | l (ds:List D) | r (ks:List Nat) | k (kvs:List (Str×D))
noncomputable abbrev MR:=List (Option Mv)
noncomputable abbrev MT:=List Mo
def IsM (K:Frag) (H:Hp) (O:List Addr) (u:V):Mv→Prop
 | .sh d=>Is K H u d
 | .ow k=>∃l,O[k]?=some l∧u= .ref l
inductive DcS (K:Frag) (H:Hp):List (Key×V)→List (Str×D)→Prop where
 | nil:DcS K H [] []
 | cons {k:Str} {v:V} {d:D} {r:List (Key×V)} {r':List (Str×D)}:Is K H v d→DcS K H r r'→DcS K H ((.inr k,v)::r) ((k,d)::r')
def Refs (O:List Addr) (xs:List V) (ks:List Nat):Prop:=xs.length=ks.length∧ ∀ (i k:Nat),ks[i]?=some k→ ∃l,O[k]?=some l∧xs[i]?=some (V.ref l)
def MoOk (K:Frag) (H:Hp) (O:List Addr) (u:HO):Mo→Prop
 | .l ds=>∃xs,u= .lst xs∧Are K H xs ds
 | .r ks=>∃xs,u= .lst xs∧Refs O xs ks
 | .k kvs=>∃vs,u= .dK vs∧DcS K H vs kvs
structure Sto (K:Frag) (H:Hp) (τ:MT) (O:List Addr):Prop where
 nd:O.Nodup
 ln:O.length=τ.length
 ob: ∀ (k:Nat) (o:Mo),τ[k]?=some o→ ∃l u,O[k]?=some l∧H l=some u∧MoOk K (hide O H) O u o
structure Nms (K:Frag) (H:Hp) (σ:L2.St) (ρ:MR) (O:List Addr):Prop where
 len:σ.length=ρ.length
 nm: ∀ (i:Nat) (v:Mv),ρ[i]?=some (some v)→ ∃u,σ[i]?=some (some u)∧IsM K (hide O H) O u v
section
variable {K:Frag} {H H' H2:Hp} {σ:L2.St} {ρ:MR} {τ:MT} {O:List Addr}
theorem DcS.up (e:Same H H'): ∀ {vs:List (Key×V)} {kvs:List (Str×D)},DcS K H vs kvs→DcS K H' vs kvs
 | _,_,.nil=> .nil
 | _,_,.cons i t=> .cons (i.up e) (t.up e)
theorem MoOk.isOwn {u:HO} {o:Mo} (h:MoOk K H O u o):isOwn u=true:=by
 cases o with
 | l ds=>obtain ⟨_,rfl,_⟩:=h;rfl
 | r ds=>obtain ⟨_,rfl,_⟩:=h;rfl
 | k ds=>obtain ⟨_,rfl,_⟩:=h;rfl
theorem Ej {O z:List Addr} {k:Nat} {l:Addr} (h:O[k]?=some l):(O++z)[k]?=some l:=by rw [getElem?_append_left (List.getElem?_eq_some_iff.mp h).1];exact h
theorem MoOk.up (e:Same H H') (z:List Addr) {u:HO} {o:Mo} (h:MoOk K H O u o):MoOk K H' (O++z) u o:=by
 cases o with
 | l ds=>obtain ⟨xs,e1,e2⟩:=h;exact ⟨xs,e1,e2.up e⟩
 | r ds=>
  obtain ⟨xs,e1,e2,e3⟩:=h;refine ⟨xs,e1,e2,fun i k hk=>?_⟩;obtain ⟨l,h1,h2⟩:=e3 i k hk;exact ⟨l,Ej h1,h2⟩
 | k ds=>obtain ⟨xs,e1,e2⟩:=h;exact ⟨xs,e1,e2.up e⟩
theorem IsM.up (e:Same H H') (z:List Addr) {u:V} {v:Mv} (h:IsM K H O u v):IsM K H' (O++z) u v:=by
 cases v with
 | sh d=>exact Is.up e h
 | ow k=>obtain ⟨l,h1,h2⟩:=h;exact ⟨l,Ej h1,h2⟩
theorem Sto.own (h:Sto K H τ O):Owned O H:=fun l hl=>by
 obtain ⟨k,hk,e⟩:=List.getElem_of_mem hl;have hk2:k < τ.length:=by rw [←h.ln];exact hk
 obtain ⟨l',u,h1,h2,h3⟩:=h.ob k τ[k] (getElem?_eq_getElem hk2);rw [getElem?_eq_getElem hk,e] at h1;cases h1;exact ⟨u,h2,h3.isOwn⟩
theorem Sto.ext (h:Sto K H τ O) (new:List Addr) (τn:MT) (nd:(O++new).Nodup) (keep: ∀l∈O,H2 l=H l) (sm:Same (hide O H) (hide (O++new) H2)) (ln:new.length=τn.length)
  (ob: ∀ (j:Nat) (o:Mo),τn[j]?=some o→ ∃l u,new[j]?=some l∧H2 l=some u∧MoOk K (hide (O++new) H2) (O++new) u o):Sto K H2 (τ++τn) (O++new) where
 nd:=nd
 ln:=by rw [length_append,length_append,h.ln,ln]
 ob:=fun k o e=>by
  by_cases hk:k < τ.length
  ·rw [getElem?_append_left hk] at e
   obtain ⟨l,u,h1,h2,h3⟩:=h.ob k o e;exact ⟨l,u,Ej h1,by rw [keep l (List.mem_of_getElem? h1)];exact h2,h3.up sm new⟩
  ·rw [getElem?_append_right (by omega)] at e
   obtain ⟨l,u,h1,h2⟩:=ob _ o e;exact ⟨l,u,by rw [getElem?_append_right (by rw [h.ln];omega),h.ln];exact h1,h2⟩
theorem Nms.ext (h:Nms K H σ ρ O) (new:List Addr) (sm:Same (hide O H) (hide (O++new) H2)):Nms K H2 σ ρ (O++new):=
 ⟨h.len,fun i v e=>let ⟨u,h1,h2⟩:=h.nm i v e;⟨u,h1,h2.up sm new⟩⟩
theorem Nms.up (h:Nms K H σ ρ O) (sm:Same (hide O H) (hide O H2)):Nms K H2 σ ρ O:=by
 have:=h.ext (H2:=H2) [] (by rw [append_nil];exact sm)
 rwa [append_nil] at this
theorem Sto.stay (h:Sto K H τ O) (keep: ∀l∈O,H2 l=H l) (sm:Same (hide O H) (hide O H2)):Sto K H2 τ O:=by
 have:=h.ext (H2:=H2) [] [] (by rw [append_nil];exact h.nd) keep (by rw [append_nil];exact sm) rfl (fun j o e=>by simp at e)
 rwa [append_nil,append_nil] at this
theorem Sto.grown (h:Sto K H τ O) (e:Same H H'):Sto K H' τ O∧Same (hide O H) (hide O H'):=by
 have sm:Same (hide O H) (hide O H'):=fun b o q=>by
  obtain ⟨q1,q2⟩:=jg q;rw [a8 q1];exact e b o q2
 refine ⟨h.stay (fun l hl=>?_) sm,sm⟩;obtain ⟨u,h1,_⟩:=h.own l hl;rw [h1];exact e l u h1
theorem Sto.clean (h:Sto K H τ O) (e:Same (hide O H) H') (n: ∀l∈O,H' l=none):Sto K (unhide O H H') τ O∧hide O (unhide O H H')=H':=by
 have hu:=xn (H:=H) n;exact ⟨h.stay (fun l hl=>jf hl) (by rw [hu];exact e),hu⟩
theorem Fp {l:Addr} {u:HO} (hl:l∈O):hide O (upd H l u)=hide O H:=by
 funext a
 by_cases hb:a∈O
 ·rw [c9 hb,c9 hb]
 ·rw [a8 hb,a8 hb,a9 (fun z=>hb (by rw [z];exact hl))]
theorem Sto.write (h:Sto K H τ O) {k:Nat} {l:Addr} {o:Mo} {u:HO} (el:O[k]?=some l) (q:MoOk K (hide O H) O u o):Sto K (upd H l u) (τ.set k o) O∧hide O (upd H l u)=hide O H:=by
 have hl:=List.mem_of_getElem? el;have hu:hide O (upd H l u)=hide O H:=Fp hl;refine ⟨⟨h.nd,by rw [length_set];exact h.ln,fun j o' e=>?_⟩,hu⟩;rw [hu];rcases bg e with ⟨rfl,_,rfl⟩ | ⟨hij,e⟩
 ·exact ⟨l,u,el,bd,q⟩
 ·obtain ⟨l',u',h1,h2,h3⟩:=h.ob j o' e
  refine ⟨l',u',h1,?_,h3⟩;rw [a9 (fun z=>?_)]
  ·exact h2
  ·subst z
   obtain ⟨g1,g2⟩:=List.getElem?_eq_some_iff.mp el;obtain ⟨g3,g4⟩:=List.getElem?_eq_some_iff.mp h1;exact hij ((List.getElem_inj h.nd).mp (g2.trans g4.symm))
theorem Sto.out (h:Sto K H τ O) {p:Addr} (hp:H p=none):p ∉ O:=fun z=>by
 obtain ⟨u,h1,_⟩:=h.own p z;rw [hp] at h1;cases h1
theorem Sto.new (h:Sto K H τ O) {p:Addr} {u:HO} {o:Mo} (hp:H p=none) (q:MoOk K (hide O H) O u o):Sto K (upd H p u) (τ++[o]) (O++[p])∧hide (O++[p]) (upd H p u)=hide O H:=by
 have np:=h.out hp;have hu:hide (O++[p]) (upd H p u)=hide O H:=by
  funext a
  by_cases ha:a=p
  ·subst ha
   rw [c9 (mem_append_right _ (List.mem_singleton.mpr rfl)),a8 np,hp]
  ·by_cases hb:a∈O
   ·rw [c9 (mem_append_left _ hb),c9 hb]
   ·rw [a8 (fun z=>(List.mem_append.mp z).elim hb fun y=>ha (List.mem_singleton.mp y)),a8 hb,a9 ha]
 refine ⟨h.ext [p] [o] ?_ (fun l hl=>a9 (fun z=>np (by rw [←z];exact hl))) (by rw [hu];exact Same.refl _) rfl (fun j o' e=>?_),hu⟩
 ·rw [List.nodup_append]
  exact ⟨h.nd,by simp,fun a ha b hb z=>np (by rw [←List.mem_singleton.mp hb,←z];exact ha)⟩
 ·cases j with
  | zero=>
   cases e;refine ⟨p,u,rfl,bd,?_⟩;rw [hu];exact q.up (Same.refl _) [p]
  | succ j=>simp at e
theorem Nms.set (h:Nms K H σ ρ O) (i:Nat) {u:V} {v:Mv} (q:IsM K (hide O H) O u v):Nms K H (σ.set i (some u)) (ρ.set i (some v)) O where
 len:=by rw [length_set,length_set,h.len]
 nm:=fun j c e=>by
  rcases bg e with ⟨rfl,hl,e⟩ | ⟨hij,e⟩
  ·cases e
   exact ⟨u,v4 (by rw [h.len];exact hl),q⟩
  ·obtain ⟨u',h1,h2⟩:=h.nm j c e
   exact ⟨u',by rw [getElem?_set_ne hij];exact h1,h2⟩
@[simp] noncomputable def Mv.shD:Mv→Option D
 | .sh d=>some d
 | _=>none
@[simp] noncomputable def Mv.allD (τ:MT):Mv→Option D
 | .sh d=>some d
 | .ow k=>match τ[k]? with
  | some (.l ds)=>some (.list ds)
  | _=>none
@[simp] noncomputable def shM (ρ:MR):Ren:=ρ.map fun o=>o.bind Mv.shD
@[simp] noncomputable def allM (ρ:MR) (τ:MT):Ren:=ρ.map fun o=>o.bind (Mv.allD τ)
theorem Nms.ro_sh (n:Nms K H σ ρ O):Ro K (hide O H) σ (shM ρ) where
 len:=by unfold shM;rw [length_map];exact n.len
 at_:=fun i d e=>by
  unfold shM at e;rw [getElem?_map] at e;obtain ⟨o,h1,h2⟩:=map_some e;cases o with
  | none=>cases h2
  | some v=>
   cases v with
   | sh d'=>cases h2;exact n.nm i _ h1
   | ow k=>cases h2
theorem Sto.ro_all (h:Sto K H τ O) (n:Nms K H σ ρ O):Ro K H σ (allM ρ τ) where
 len:=by unfold allM;rw [length_map];exact n.len
 at_:=fun i d e=>by
  unfold allM at e;rw [getElem?_map] at e;obtain ⟨o,h1,h2⟩:=map_some e;cases o with
  | none=>cases h2
  | some v=>
   obtain ⟨u,h3,h4⟩:=n.nm i _ h1;cases v with
   | sh d'=>cases h2;exact ⟨u,h3,Is.up fo h4⟩
   | ow k=>
    have h2:(match τ[k]? with | some (.l ds)=>some (PyData.list ds) | _=>none)=some d:=h2
    split at h2
    ·rename_i ds e2
     cases h2;obtain ⟨l,q1,rfl⟩:=h4;obtain ⟨l',u',q2,q3,xs,rfl,q4⟩:=h.ob k _ e2;rw [q1] at q2;cases q2;exact ⟨_,h3,.lst (.inl q3) (q4.up fo)⟩
    ·cases h2
@[simp] noncomputable def lsAt (ρ:MR) (τ:MT) (i:Nat):Option (Nat×List D):=match ρ[i]? with
 | some (some (.ow k))=>(match τ[k]? with
  | some (.l ds)=>some (k,ds)
  | _=>none)
 | _=>none
theorem Sto.ls (h:Sto K H τ O) (n:Nms K H σ ρ O) {i k:Nat} {ds:List D} (e:lsAt ρ τ i=some (k,ds)): ∃l xs,σ[i]?=some (some (.ref l))∧O[k]?=some l∧l∈O∧H l=some (.lst xs)∧Are K (hide O H) xs ds:=by
 unfold lsAt at e;split at e
 ·rename_i k' e1
  split at e
  ·rename_i ds' e2
   cases e;obtain ⟨u,h1,l,h2,rfl⟩:=n.nm i _ e1;obtain ⟨l',u',q2,q3,xs,rfl,q4⟩:=h.ob k _ e2;rw [h2] at q2;cases q2;exact ⟨l,xs,h1,h2,List.mem_of_getElem? h2,q3,q4⟩
  ·cases e
 ·cases e
end
def tME (K:Frag) (m:MR→MT→Option (D×MT)):TE:=fun σ H Q=>∃O ρ τ d τ',Sto K H τ O∧Nms K H σ ρ O∧m ρ τ=some (d,τ')∧ ∀v H',Same (hide O H) (hide O H')→Sto K H' τ' O→Is K (hide O H') v d→Q v H'
def tMA (K:Frag) (m:MR→MT→Option (List D×MT)):TA:=fun σ H Q=>∃O ρ τ d τ',Sto K H τ O∧Nms K H σ ρ O∧m ρ τ=some (d,τ')∧ ∀v H',Same (hide O H) (hide O H')→Sto K H' τ' O→Are K (hide O H') v d→Q v H'
abbrev EM' (X:Cx) (e:Expr) (m:MR→MT→Option (D×MT)):Prop:=PE X e (tME X.K m)
structure EM (X:Cx) (e:Expr) (m:MR→MT→Option (D×MT)):Prop where
 ok:EM' X e m
abbrev AM' (X:Cx) (es:List Expr) (m:MR→MT→Option (List D×MT)):Prop:=PA X es (tMA X.K m)
structure AM (X:Cx) (es:List Expr) (m:MR→MT→Option (List D×MT)):Prop where
 ok:AM' X es m
section
variable {X:Cx} {a b c e o:Expr} {es:List Expr} {pos pos' apos cpos:Pos} {ma mb mc:Ren→Option D} {ms:Ren→Option (List D)} {mt:Ren→Option Bool} {st:Stmt} {rest:List Stmt} {i:Nat} {x:Str} {m:MR→MT→Option (D×MT)} {mm:MR→MT→Option (List D×MT)}
@[simp] noncomputable def shE (ma:Ren→Option D):MR→MT→Option (D×MT):=fun ρ τ=>match ma (shM ρ) with
 | some d=>some (d,τ)
 | none=>none
theorem Us (he:XE X e ma):EM X e (shE ma):=by obtain ⟨he⟩:=he;exact ⟨ff (ky he) fun σ H Q h0=>by
 obtain ⟨O,ρ,τ,d,τ',w,n,q,k⟩:=h0;unfold shE at q;split at q
 ·rename_i d' e1
  cases q;refine ⟨O,w.own,_,d,n.ro_sh,e1,fun v H1 s1 i1 n1=>?_⟩;obtain ⟨w1,hu⟩:=w.clean s1 n1;exact k v _ (by rw [hu];exact s1) w1 (by rw [hu];exact i1)
 ·cases q⟩
theorem Sh:AM X [] (fun _ τ=>some ([],τ)):=⟨N5 fh fun σ H Q h0=>by
 obtain ⟨O,ρ,τ,d,τ',w,n,q,k⟩:=h0;cases q;exact k [] H (Same.refl _) w .nil⟩
@[simp] noncomputable def valS:List (Str×D)→Str→Option D
 | [],_=>none
 | (k,d)::l,z=>if k=z then some d else valS l z
theorem DcS.val {K:Frag} {H:Hp} {vs:List (Key×V)} {kvs:List (Str×D)} (z:Str) (h:DcS K H vs kvs):(valS kvs z=none∧valV vs (Sum.inr z:Key)=none)∨ ∃d v,valS kvs z=some d∧valV vs (Sum.inr z:Key)=some v∧Is K H v d:=by
 induction h with
 | nil=>exact .inl ⟨rfl,rfl⟩
 | @cons k' v d r r' i t ih=>
  unfold valS valV
  by_cases e:k'=z
  ·rw [if_pos e]
   refine .inr ⟨d,v,rfl,?_,i⟩;rw [List.find?_cons_of_pos (p:=fun (kv:Key×V)=>decide (kv.1=Sum.inr z)) (by simp [e])];rfl
  ·rw [if_neg e]
   rw [List.find?_cons_of_neg (p:=fun (kv:Key×V)=>decide (kv.1=Sum.inr z)) (by simp [e])];exact ih
theorem DcS.length {K:Frag} {H:Hp} {vs:List (Key×V)} {kvs:List (Str×D)} (h:DcS K H vs kvs):vs.length=kvs.length:=by
 induction h with
 | nil=>rfl
 | cons i t ih=>rw [length_cons,length_cons,ih]
theorem DcS.snoc {K:Frag} {H:Hp} {vs:List (Key×V)} {kvs:List (Str×D)} {k:Str} {v:V} {d:D} (h:DcS K H vs kvs) (i:Is K H v d):DcS K H (vs++[(.inr k,v)]) (kvs++[(k,d)]):=by
 induction h with
 | nil=>exact .cons i .nil
 | cons j t ih=>exact .cons j ih
@[simp] noncomputable def dsAt (ρ:MR) (τ:MT) (i:Nat):Option (Nat×List (Str×D)):=match ρ[i]? with
 | some (some (.ow k))=>(match τ[k]? with
  | some (.k ds)=>some (k,ds)
  | _=>none)
 | _=>none
theorem Sto.ds {K:Frag} {H:Hp} {σ:L2.St} {ρ:MR} {τ:MT} {O:List Addr} (h:Sto K H τ O) (n:Nms K H σ ρ O) {i k:Nat} {ds:List (Str×D)} (e:dsAt ρ τ i=some (k,ds)): ∃l xs,σ[i]?=some (some (.ref l))∧O[k]?=some l∧l∈O∧H l=some (.dK xs)∧DcS K (hide O H) xs ds:=by
 unfold dsAt at e;split at e
 ·rename_i k' e1
  split at e
  ·rename_i ds' e2
   cases e;obtain ⟨u,h1,l,h2,rfl⟩:=n.nm i _ e1;obtain ⟨l',u',q2,q3,xs,rfl,q4⟩:=h.ob k _ e2;rw [h2] at q2;cases q2;exact ⟨l,xs,h1,h2,List.mem_of_getElem? h2,q3,q4⟩
  ·cases e
 ·cases e
@[simp] noncomputable def dgetE (i:Nat) (ma:Ren→Option D):MR→MT→Option (D×MT):=fun ρ τ=>match dsAt ρ τ i with
 | some (_,kvs)=>(match ma (shM ρ) with
  | some (.str z)=>(match valS kvs z with
   | some d=>some (d,τ)
   | none=>none)
  | _=>none)
 | none=>none
theorem Pf (hu:X.A.units+1 < cLine) (ho:PE X o (tVar i)) (he:XE X e ma) (hs:NoSl e:=by intro _ _;rfl):EM X (.Subscript o e pos) (dgetE i ma):=by obtain ⟨he⟩:=he;exact ⟨ff (Ib hu ho (ky he) hs) fun σ H Q h0=>by
 obtain ⟨O,ρ,τ,d,τ',w,n,q,k⟩:=h0;unfold dgetE at q;split at q
 ·rename_i kk kvs e1
  split at q
  ·rename_i z e2
   split at q
   ·rename_i d' e3
    cases q;obtain ⟨l,xs,h1,h0,h2,h3,h4⟩:=w.ds n e1;refine ⟨_,h1,O,w.own,_,_,n.ro_sh,e2,fun v H1 s1 i1 n1=>?_⟩;obtain ⟨w1,hu⟩:=w.clean s1 n1;obtain ⟨l',xs',g1,g0,g2,g3,g4⟩:=w1.ds (n.up (by rw [hu];exact s1)) e1;rw [h1] at g1;cases g1;cases i1;rcases g4.val z with ⟨y,_⟩ | ⟨dd,vv,y1,y2,y3⟩
    ·rw [y] at e3;cases e3
    ·rw [y1] at e3
     cases e3;exact ⟨l,vv,rfl,.inl ⟨xs',.inr z,.inl g3,rfl,y2.symm⟩,k vv _ (by rw [hu];exact s1) w1 y3⟩
   ·cases q
  ·cases q
 ·cases q⟩
end
end RG
end
section
namespace RG
open PySem PySem.Spec PyProof.Rows L2
inductive FlM where
 | nx (ρ:MR) (τ:MT) | rt (d:D)
def Pfx (O₀ O:List Addr):Prop:= ∃z,O=O₀++z
theorem Pfx.refl (O:List Addr):Pfx O O:=⟨[],by rw [append_nil]⟩
theorem Pfx.more {O₀ O:List Addr} (h:Pfx O₀ O) (z:List Addr):Pfx O₀ (O++z):=by
 obtain ⟨y,rfl⟩:=h;exact ⟨y++z,by rw [append_assoc]⟩
theorem Pfx.trans {O₀ O O2:List Addr} (h:Pfx O₀ O) (h2:Pfx O O2):Pfx O₀ O2:=by
 obtain ⟨y,rfl⟩:=h2;exact h.more y
def endsM (K:Frag) (H₀:Hp) (O₀:List Addr) (E:Ends):FlM→Prop
 | .nx ρ τ=>∀O σ' H',Pfx O₀ O→Same H₀ (hide O H')→Sto K H' τ O→Nms K H' σ' ρ O→E.nx σ' H'
 | .rt d=>∀v H',Same H₀ H'→Is K H' v d→E.rt v H'
def tM (K:Frag) (m:MR→MT→Option FlM):TS:=fun E σ H=>∃H₀ O₀ O ρ τ fl,Pfx O₀ O∧Same H₀ (hide O H)∧Sto K H τ O∧Nms K H σ ρ O∧m ρ τ=some fl∧endsM K H₀ O₀ E fl
abbrev MS' (X:Cx) (st:Stmt) (m:MR→MT→Option FlM):Prop:=PS X st (tM X.K m)
structure MS (X:Cx) (st:Stmt) (m:MR→MT→Option FlM):Prop where
 ok:MS' X st m
abbrev MSs' (X:Cx) (st:List Stmt) (m:MR→MT→Option FlM):Prop:=PSs X st (tM X.K m)
structure MSs (X:Cx) (st:List Stmt) (m:MR→MT→Option FlM):Prop where
 ok:MSs' X st m
section
variable {X:Cx} {a b c e o:Expr} {es:List Expr} {pos pos' apos cpos:Pos} {ma mb mc:Ren→Option D} {ms:Ren→Option (List D)} {mt:Ren→Option Bool} {st:Stmt} {rest:List Stmt} {i:Nat} {x:Str} {me:MR→MT→Option (D×MT)} {mm:MR→MT→Option (List D×MT)} {m n:MR→MT→Option FlM}
@[simp] noncomputable def seqM (m n:MR→MT→Option FlM):MR→MT→Option FlM:=fun ρ τ=>match m ρ τ with
 | none=>none
 | some (.nx ρ' τ')=>n ρ' τ'
 | some (.rt d)=>some (.rt d)
theorem qt (h1:MS X st m) (h2:MSs X rest n):MSs X (st::rest) (seqM m n):=by obtain ⟨h1⟩:=h1;obtain ⟨h2⟩:=h2;exact ⟨rf (js h1 h2) fun E σ H h0=>by
 obtain ⟨H₀,O₀,O,ρ,τ,fl,pf,s0,w,nn,q,k⟩:=h0;unfold seqM at q;split at q
 ·cases q
 ·rename_i ρ' τ' e1
  exact ⟨H₀,O₀,O,ρ,τ,_,pf,s0,w,nn,e1,fun O' σ' H' p' s' w' n'=>⟨H₀,O₀,O',ρ',τ',fl,p',s',w',n',q,k⟩⟩
 ·rename_i d e1
  cases q;exact ⟨H₀,O₀,O,ρ,τ,_,pf,s0,w,nn,e1,k⟩⟩
theorem J5 (h1:MS X st m):MSs X [st] m:=by obtain ⟨h1⟩:=h1;exact ⟨jj h1⟩
@[simp] noncomputable def retM (ma:Ren→Option D):MR→MT→Option FlM:=fun ρ τ=>match ma (allM ρ τ) with
 | none=>none
 | some d=>some (.rt d)
theorem Si (he:XE X e ma):MS X (.Return (some e) pos) (retM ma):=by obtain ⟨he⟩:=he;exact ⟨df (pq he) fun E σ H h0=>by
 obtain ⟨H₀,O₀,O,ρ,τ,fl,pf,s0,w,nn,q,k⟩:=h0;unfold retM at q;split at q
 ·cases q
 ·rename_i d e1
  cases q;exact ⟨_,d,w.ro_all nn,e1,fun v H' s' i'=>k v H' ((s0.trans fo).trans s') i'⟩⟩
@[simp] noncomputable def setM (i:Nat) (me:MR→MT→Option (D×MT)):MR→MT→Option FlM:=fun ρ τ=>match me ρ τ with
 | none=>none
 | some (d,τ')=>some (.nx (ρ.set i (some (.sh d))) τ')
theorem Sj (hN:X.N.Nodup) (hi:X.N[i]?=some x) (hx:Loc X.env.scope x) (he:EM X e me) (hs:swapsWith e (some (.Name x pos')) pos.line X.env=pure false:=by rfl)
  (hf:X.fn x=true∨X.env.scope.names.lookup x=some .local:=by trivial):MS X (.Assign [.Name x pos'] e pos) (setM i me):=by obtain ⟨he⟩:=he;exact ⟨df (je hN hi hx he hs hf) fun E σ H h0=>by
 obtain ⟨H₀,O₀,O,ρ,τ,fl,pf,s0,w,nn,q,k⟩:=h0;unfold setM at q;split at q
 ·cases q
 ·rename_i d τ' e1
  cases q;exact ⟨O,ρ,τ,d,τ',w,nn,e1,fun v H1 s1 w1 i1=>k O _ H1 pf (s0.trans s1) w1 ((nn.up s1).set i i1)⟩⟩
@[simp] noncomputable def appM (i:Nat) (me:MR→MT→Option (D×MT)):MR→MT→Option FlM:=fun ρ τ=>match lsAt ρ τ i with
 | none=>none
 | some _=>(match me ρ τ with
  | none=>none
  | some (d,τ')=>(match lsAt ρ τ' i with
   | some (k,ds)=>if ds.length+1≤lim then some (.nx ρ (τ'.set k (.l (ds++[d])))) else none
   | none=>none))
theorem Sk (ho:PE X o (tVar i)) (he:EM X e me) (hbase:attributeBase o "append" X.env (eval o X.env)=eval o X.env:=by rfl)
  (hfew:((backTo cpos (starEach [e] X.env)).all (fun x=>!x.1) && (backToKw cpos (keywordEach [] X.env)).all (fun x=>x.1.isSome) && decide ([e].length+([]:List Keyword).length+(if ([]:List Keyword).isEmpty then 0 else 1) < 30))=true:=by rfl)
  (hline:(apos.endLine==cpos.line)=true:=by rfl) (hs:starEach [e] X.env=(false,eval e X.env)::starEach [] X.env:=by rfl) (hplain:(backTo cpos (starEach [] X.env)).any (·.1)=false:=by rfl)
  (hsw:swapsWith (.Call (.Attribute o "append" apos) [e] [] cpos) none pos.line X.env=pure false:=by rfl):MS X (.Expr (.Call (.Attribute o "append" apos) [e] [] cpos) pos) (appM i me):=by obtain ⟨he⟩:=he;exact ⟨df (kq (Ds PySem.F.plainAttrs_list PySem.F.slot_list_append PySem.F.type_list_append w8 ho (cw he fh hs) hbase hfew hline hs hplain) hsw) fun E σ H h0=>by
  obtain ⟨H₀,O₀,O,ρ,τ,fl,pf,s0,w,nn,q,k⟩:=h0;unfold appM at q;split at q
  ·cases q
  ·rename_i p0 e0
   obtain ⟨k0,ds0⟩:=p0;split at q
   ·cases q
   ·rename_i d τ' e1
    split at q
    ·rename_i kk ds e2
     split at q
     ·rename_i hl
      cases q;obtain ⟨l,xs,h1,h0,h2,h3,h4⟩:=w.ls nn e0;refine ⟨_,h1,.inl ⟨rfl,_,.inl (.inl h3)⟩,O,ρ,τ,d,τ',w,nn,e1,fun v H1 s1 w1 i1=>?_⟩;obtain ⟨l',xs,g1,g0,g2,g3,g4⟩:=w1.ls (nn.up s1) e2;rw [h1] at g1;cases g1;refine ⟨l,xs,v,rfl,rfl,g3,by rw [g4.length];exact Cr hl,?_⟩;obtain ⟨w2,hu2⟩:=w1.write (o:= .l (ds++[d])) g0 ⟨_,rfl,g4.append (.cons i1 .nil)⟩;exact k O σ _ pf (by rw [hu2];exact s0.trans s1) w2 (nn.up (by rw [hu2];exact s1))
     ·cases q
    ·cases q⟩
theorem Nb {O:List Addr} {τ:MT} {p:Addr} {K:Frag} {H:Hp} (h:Sto K H τ O): ∃l,(O++[p])[τ.length]?=some l∧V.ref p= .ref l:=⟨p,by rw [←h.ln,getElem?_append_right (Nat.le_refl _),Nat.sub_self];rfl,rfl⟩
@[simp] noncomputable def newAM (i:Nat) (mm:MR→MT→Option (List D×MT)):MR→MT→Option FlM:=fun ρ τ=>match mm ρ τ with
 | none=>none
 | some (ds,τ')=>if ds.length≤lim then some (.nx (ρ.set i (some (.ow τ'.length))) (τ'++[.l ds])) else none
theorem Pg {p:Pos} (hN:X.N.Nodup) (hi:X.N[i]?=some x) (hx:Loc X.env.scope x) (he:AM X es mm) (hs:swapsWith (.List es p) (some (.Name x pos')) pos.line X.env=pure false:=by rfl)
  (hf:X.fn x=true∨X.env.scope.names.lookup x=some .local:=by trivial):MS X (.Assign [.Name x pos'] (.List es p) pos) (newAM i mm):=by obtain ⟨he⟩:=he;exact ⟨df (je hN hi hx (Hs he) hs hf) fun E σ H h0=>by
 obtain ⟨H₀,O₀,O,ρ,τ,fl,pf,s0,w,nn,q,k⟩:=h0;unfold newAM at q;split at q
 ·cases q
 ·rename_i ds τ' e1
  split at q
  ·rename_i hl
   cases q;refine ⟨O,ρ,τ,ds,τ',w,nn,e1,fun vs H1 s1 w1 a1=>⟨by rw [a1.length];exact gw hl,fun p hp=>?_⟩⟩;obtain ⟨w2,hu2⟩:=w1.new (o:= .l ds) (u:= .lst vs) hp ⟨vs,rfl,a1⟩;exact k _ _ _ (pf.more [p]) (by rw [hu2];exact s0.trans s1) w2 ((nn.ext [p] (by rw [hu2];exact s1)).set i (Nb w1))
  ·cases q⟩
@[simp] noncomputable def dnewM (i:Nat) (z:Str) (ma:Ren→Option D):MR→MT→Option FlM:=fun ρ τ=>match ma (allM ρ τ) with
 | none=>none
 | some d=>if noL d=true then some (.nx (ρ.set i (some (.ow τ.length))) (τ++[.k [(z,d)]])) else none
theorem Ph {z:Str} {j} {p1 p2:Pos} (hN:X.N.Nodup) (hi:X.N[i]?=some x) (hx:Loc X.env.scope x) (he:XE X e ma) (hs:swapsWith (.Dict [some (.Constant (.str z) j p1)] [e] p2) (some (.Name x pos')) pos.line X.env=pure false:=by rfl)
  (hf:X.fn x=true∨X.env.scope.names.lookup x=some .local:=by trivial):MS X (.Assign [.Name x pos'] (.Dict [some (.Constant (.str z) j p1)] [e] p2) pos) (dnewM i z ma):=by obtain ⟨he⟩:=he;exact ⟨df (je hN hi hx (N4 (La Hg he N3) rfl rfl (by simp) (by simp)) hs hf) fun E σ H h0=>by
 obtain ⟨H₀,O₀,O,ρ,τ,fl,pf,s0,w,nn,q,k⟩:=h0;unfold dnewM at q;split at q
 ·cases q
 ·rename_i d e1
  split at q
  ·rename_i hn
   cases q;intro p hp;have s1:Same H (upd H p (.dK [])):=fb hp;refine ⟨_,d,(w.ro_all nn).up s1,e1,fun v H1 s2 i1=>⟨s2 _ _ bd,[(.inr z,v)],rfl,by simp,?_⟩⟩;have s3:Same H (upd H1 p (.dK [(.inr z,v)])):=fun b o hb=>by
    rw [a9 (bf hb hp)];exact s2 _ _ (s1 _ _ hb)
   have np:=w.out hp;have sm:Same (hide O H) (hide (O++[p]) (upd H1 p (.dK [(.inr z,v)]))):=fun b o hb=>by
    obtain ⟨b1,b2⟩:=jg hb;rw [a8 (fun y=>(List.mem_append.mp y).elim b1 fun y=>by rw [List.mem_singleton.mp y,hp] at b2;cases b2)];exact s3 _ _ b2
   have ow:Owned (O++[p]) H1:=fun l hl=>by
    rcases List.mem_append.mp hl with y | y
    ·obtain ⟨o,h1,h2⟩:=w.own l y
     exact ⟨o,s2 _ _ (s1 _ _ h1),h2⟩
    ·rw [List.mem_singleton.mp y]
     exact ⟨_,s2 _ _ bd,rfl⟩
   have hu:hide (O++[p]) (upd H1 p (.dK [(.inr z,v)]))=hide (O++[p]) H1:=Fp (mem_append_right _ (List.mem_singleton.mpr rfl));have w2:=w.ext (H2:=upd H1 p (.dK [(.inr z,v)])) [p] [.k [(z,d)]] (by
     rw [List.nodup_append];exact ⟨w.nd,by simp,fun a ha b hb y=>np (by rw [←List.mem_singleton.mp hb,←y];exact ha)⟩) (fun l hl=>by
     obtain ⟨o,h1,h2⟩:=w.own l hl;rw [h1];exact s3 _ _ h1) sm rfl (fun j o ej=>by
     cases j with
     | zero=>
      cases ej;exact ⟨p,_,rfl,bd,_,rfl,.cons (by rw [hu];exact i1.out ow hn) .nil⟩
     | succ j=>simp at ej)
   exact k _ _ _ (pf.more [p]) (s0.trans sm) w2 ((nn.ext [p] sm).set i (Nb w))
  ·cases q⟩
@[simp] noncomputable def dputM (i:Nat) (z:Str) (ma:Ren→Option D):MR→MT→Option FlM:=fun ρ τ=>match ma (shM ρ) with
 | none=>none
 | some d=>(match dsAt ρ τ i with
  | none=>none
  | some (k,kvs)=>if (valS kvs z).isNone=true∧kvs.length+1≤lim then some (.nx ρ (τ.set k (.k (kvs++[(z,d)])))) else none)
theorem J6 {z:Str} {j} {p1:Pos} (hu:X.A.units+1 < cLine) (ho:PE X o (tVar i)) (hv:XE X e ma) (hs:swapsWith e (some (.Subscript o (.Constant (.str z) j p1) pos')) pos.line X.env=pure false:=by rfl):
  MS X (.Assign [.Subscript o (.Constant (.str z) j p1) pos'] e pos) (dputM i z ma):=by obtain ⟨hv⟩:=hv;exact ⟨df (Id hu ho Hg (ky hv) hs) fun E σ H h0=>by
 obtain ⟨H₀,O₀,O,ρ,τ,fl,pf,s0,w,nn,q,k⟩:=h0;unfold dputM at q;split at q
 ·cases q
 ·rename_i d e1
  split at q
  ·cases q
  ·rename_i kk kvs e2
   split at q
   ·rename_i hz
    cases q;refine ⟨O,w.own,_,d,nn.ro_sh,e1,fun v H1 s1 i1 n1=>?_⟩;obtain ⟨w1,hu1⟩:=w.clean s1 n1;have n1':=nn.up (show Same (hide O H) (hide O (unhide O H H1)) by rw [hu1];exact s1);obtain ⟨l,xs,g1,g0,g2,g3,g4⟩:=w1.ds n1' e2;refine ⟨_,g1,l,_,rfl,DPut.k (k:=Sum.inr z) g3 (by rw [g4.length];exact Cr hz.2),?_⟩;have hn:valV xs (Sum.inr z:Key)=none:=by
     rcases g4.val z with ⟨_,y⟩ | ⟨dd,vv,y,_⟩
     ·exact y
     ·rw [y] at hz;cases hz.1
    have hp:putK xs (Sum.inr z:Key) v=xs++[(Sum.inr z,v)]:=by
     unfold putK;rw [tq hn];rfl
    rw [hp];obtain ⟨w2,hu2⟩:=w1.write (o:= .k (kvs++[(z,d)])) g0 ⟨_,rfl,g4.snoc (by rw [hu1];exact i1)⟩;exact k O σ _ pf (by rw [hu2,hu1];exact s0.trans s1) w2 (n1'.up (by rw [hu2];exact Same.refl _))
   ·cases q⟩
noncomputable def forM' (i:Nat) (m:MR→MT→Option FlM):List D→MR→MT→Option FlM
 | [],ρ,τ=>some (.nx ρ τ)
 | x::xs,ρ,τ=>if noL x=true then (match m (ρ.set i (some (.sh x))) τ with
  | none=>none
  | some (.rt d)=>some (.rt d)
  | some (.nx ρ' τ')=>forM' i m xs ρ' τ') else none
@[simp] noncomputable def forMF (i:Nat) (mi:Ren→Option (List D)) (m:MR→MT→Option FlM):MR→MT→Option FlM:=fun ρ τ=>match mi (shM ρ) with
 | none=>none
 | some items=>forM' i m items ρ τ
theorem Sm {tg iter:Expr} {body:List Stmt} {mi:Ren→Option (List D)} (hp:PassesOwn (model X.prog X.w) X.A X.env X.xe) (hc:X.calm=true) (hi:XI X tg iter mi) (hg:PG X tg (gName i)) (hb:MSs X body m)
  (hs: ∀x,foldedSetIterable iter X.env x=pure x:=by intro _;rfl):MS X (.For tg iter body [] pos) (forMF i mi m):=by obtain ⟨hi⟩:=hi;obtain ⟨hb⟩:=hb;exact ⟨df (E5 hp hc (Jb hi) hg hb hs) fun E σ H h0=>by
 obtain ⟨H₀,O₀,O,ρ,τ,fl,pf,s0,w,nn,q,k⟩:=h0;unfold forMF at q;split at q
 ·cases q
 ·rename_i items e1
  refine ⟨O,w.own,_,items,nn.ro_sh,e1,fun J H1 s1 y n1=>?_⟩;obtain ⟨w1,hu⟩:=w.clean s1 n1;refine ⟨fun j n σ' H'=>∃O' ρ' τ',n=items.length - j∧Pfx O O'∧Same H1 (hide O' H')∧Sto X.K H' τ' O'∧Nms X.K H' σ' ρ' O'∧forM' i m (items.drop j) ρ' τ'=some fl,⟨_,O,ρ,τ,rfl,.refl O,by rw [hu];exact Same.refl _,w1,nn.up (by rw [hu];exact s1),q⟩,?_⟩
  rintro j n σ' H' ⟨O',ρ',τ',rfl,pf2,s2,w2,nn2,q2⟩
  have s2':Same H1 H':=s2.trans fo;cases hd:items[j]? with
  | none=>
   have hle:items.length≤j:=List.getElem?_eq_none_iff.mp hd;rw [List.drop_of_length_le hle] at q2;cases q2;exact .inl ⟨(y j H' s2').2 hle,k O' σ' H' (pf.trans pf2) (s0.trans (s1.trans s2)) w2 nn2⟩
  | some d=>
   have hil:j < items.length:=(List.getElem?_eq_some_iff.mp hd).1;obtain ⟨go,yl⟩:=(y j H' s2').1 d hd;have e:items.drop j=d::items.drop (j+1):=by
    obtain ⟨hl,he⟩:=List.getElem?_eq_some_iff.mp hd;rw [List.drop_eq_getElem_cons hl,he]
   rw [e] at q2;unfold forM' at q2;split at q2
   case isFalse=>cases q2
   rename_i hn;refine .inr ⟨go,fun σ3 H3=>∃ρ3 τ3 O3,m (ρ'.set i (some (.sh d))) τ'=some (.nx ρ3 τ3)∧Pfx O O3∧Same H1 (hide O3 H3)∧Sto X.K H3 τ3 O3∧Nms X.K H3 σ3 ρ3 O3,fun σ3 H3 ⟨ρ3,τ3,O3,e3,p3,s3,w3,n3⟩=>?_,fun x H2 hx=>?_⟩
   ·rw [e3] at q2
    exact ⟨items.length - (j+1),by omega,O3,ρ3,τ3,rfl,p3,s3,w3,n3,q2⟩
   ·obtain ⟨s3,i3⟩:=yl x H2 hx
    obtain ⟨w3,s4⟩:=w2.grown s3;have n4:=(nn2.up s4).set i (show IsM X.K (hide O' H2) O' x (.sh d) from i3.out w3.own hn);cases e5:m (ρ'.set i (some (.sh d))) τ' with
    | none=>rw [e5] at q2;cases q2
    | some f5=>
     rw [e5] at q2;cases f5 with
     | nx ρ3 τ3=>exact ⟨H1,O,O',_,_,_,pf2,s2.trans s4,w3,n4,e5,fun O3 σ3 H3 p5 s5 w5 n5=>⟨ρ3,τ3,O3,rfl,p5,s5,w5,n5⟩⟩
     | rt d5=>
      cases q2;exact ⟨H1,O,O',_,_,_,pf2,s2.trans s4,w3,n4,e5,fun v H3 s5 i5=>k v H3 ((s0.trans s1).trans s5) i5⟩⟩
def Ares (K:Frag) (H:Hp) (O:List Addr):List V→List Mv→Prop
 | [],[]=>True
 | u::us,v::vs=>IsM K (hide O H) O u v∧Ares K H O us vs
 | _,_=>False
@[simp] noncomputable def nmsAt (ρ:MR):List Nat→Option (List Mv)
 | []=>some []
 | i::is=>match ρ[i]? with
  | some (some v)=>(nmsAt ρ is).map fun r=>v::r
  | _=>none
end
@[simp] noncomputable def start3 (as:List Mv) (n:Nat):MR:=as.map some++List.replicate n none
theorem Ares.length {K:Frag} {H:Hp} {O:List Addr}: ∀ {vs:List V} {as:List Mv},Ares K H O vs as→vs.length=as.length
 | [],[],_=>rfl
 | _::_,_::_,h=>by rw [length_cons,length_cons,Ares.length h.2]
theorem Ares.get {K:Frag} {H:Hp} {O:List Addr}: ∀ {vs:List V} {as:List Mv} {i:Nat} {a:Mv},Ares K H O vs as→as[i]?=some a→ ∃u,vs[i]?=some u∧IsM K (hide O H) O u a
 | [],[],_,_,_,e=>by simp at e
 | _::_,_::_,0,_,h,e=>by cases e;exact ⟨_,rfl,h.1⟩
 | _::_,_::_,i+1,_,h,e=>by simpa using Ares.get h.2 (by simpa using e)
theorem Nms.start {K:Frag} {H:Hp} {O:List Addr} {vs:List V} {as:List Mv} (N:List Str) (h:Ares K H O vs as):Nms K H (start N vs) (start3 as (N.length - as.length)) O where
 len:=by
  unfold L2.start start3;simp [h.length]
 nm:=fun i v e=>by
  unfold start3 at e
  by_cases hl:i < as.length
  ·rw [getElem?_append_left (by rw [length_map];exact hl),getElem?_map] at e
   obtain ⟨d',hd,e⟩:=map_some e;cases e;obtain ⟨x,h1,h2⟩:=h.get hd;refine ⟨x,?_,h2⟩;unfold L2.start;rw [getElem?_append_left (by rw [length_map,h.length];exact hl),getElem?_map,h1];rfl
  ·rw [getElem?_append_right (by rw [length_map];omega),List.getElem?_replicate] at e
   split at e <;> cases e
theorem Are.ares {K:Frag} {H:Hp}: ∀ {vs:List V} {ds:List D},Are K H vs ds→Ares K H [] vs (ds.map .sh)
 | _,_,.nil=>trivial
 | _,_,.cons i t=>⟨by rw [t6];exact i,t.ares⟩
theorem Pi {K:Frag} {H:Hp}:Sto K H [] []:=⟨List.nodup_nil,rfl,fun k o e=>by simp at e⟩
section
variable {P:Program} {w:World} {K:Frag} {mg:Str→Option Value} {base:Heap}
noncomputable def pickM (o:Option FlM):Option D:=match o with
 | some (.rt d)=>some d
 | _=>none
theorem Ut {x qual:Str} {st:Stmt} {fa:Addr} {fd:FuncData} {N ps:List Str} {k:Nat} {m:MR→MT→Option FlM} {α:Type} {Pre:α→Prop} {enc:α→List D} {Post:α→D→Prop} (F:Fun K x qual st fa fd) (S:FnScope N ps (defScope st)) (hl: ∀p,Pre p→(enc p).length=ps.length)
  (hb: ∀ (cdv:Value) (A:Around) (outer:List Env) (s:Shared) (H:Hp) (E:XK),Room k (A.deeper (envOfC qual (defScope st) s.heap.objs.size fa cdv))→MSs (bodyCx P w K mg base N qual st fa cdv A outer s H E) (defBody st) m)
  (hm: ∀p,Pre p→ ∃d,m (start3 ((enc p).map .sh) (N.length - ps.length)) []=some (.rt d)∧Post p d): ∃f,(∀p,Pre p→ ∃d,f (enc p)=some d∧Post p d)∧FnOk P w K mg base CX0 (k+1) fa fd ps (spX K f):=by
 have hb:=fun z0 z1 z2 z3 z4 z5 z6=>(hb z0 z1 z2 z3 z4 z5 z6).ok;refine ⟨fOf Pre enc fun ds=>pickM (m (start3 (ds.map .sh) (N.length - ps.length)) []),fun p hp=>?_,F.ok S (fun vs H Q E h=>?_) (fun cdv A outer s H vs Q E hr h=>?_)⟩
 ·obtain ⟨d,h1,h2⟩:=hm p hp
  exact ⟨d,by rw [Bj hp,h1];rfl,h2⟩
 ·obtain ⟨ds,d,i,e,_⟩:=h
  obtain ⟨p,h1,rfl,_⟩:=dc e;rw [i.length];exact hl p h1
 ·obtain ⟨ds,d,i,e,q⟩:=h
  obtain ⟨p,h1,rfl,h2⟩:=dc e;obtain ⟨d',h3,_⟩:=hm p h1;refine ⟨_,hb cdv A outer s H E hr,?_⟩;have n:=Nms.start N i.ares;rw [length_map,hl p h1] at n;rw [h3] at h2;cases h2;exact ⟨H,[],[],_,_,_,.refl _,by rw [t6];exact Same.refl _,Pi,n,h3,fun v H' s' i'=>q v H' s' i'⟩
end
section
variable {X:Cx} {e v1 v2 v3:Expr} {ma:Ren→Option D} {pos:Pos}
end
end RG
end
section
namespace RG
open PySem L2
inductive Can:Row→List D→Prop where
 | push (t:D) (ps:List D):Can (.push t) ps
 | take (k:Kd) (ps:List D):Can (.take k) ps
 | add (q:List D) (i j:Int):Can .add (q++[.int i,.int j])
 | less (q:List D) (i j:Int):Can .less (q++[.int i,.int j])
 | join (q:List D) (a b:Str):Can .join (q++[.str a,.str b])
 | not (q:List D) (b:Bool):Can .not (q++[.bool b])
 | same (q:List D) (x y:D) (h:kindT x=kindT y):Can .same (q++[x,y])
 | copy (q r:List D) (x:D):Can (.copy (r.length:Int)) (q++x::r)
 | drop (q:List D) (x:D):Can .drop (q++[x])
 | swap (q:List D) (x y:D):Can .swap (q++[x,y])
 | tell (q:List D) (x:D):Can .tell (q++[x])
 | go (t:Int) (ps:List D):Can (.go t) ps
 | iff (t:Int) (q:List D) (b:Bool):Can (.iff t) (q++[.bool b])
 | fin (ps:List D):Can .fin ps
theorem Ap {x:D} (ht:thing x=true) (h:kindT x= .number): ∃i,x= .int i:=by
 cases x <;> simp [thing,kindT] at ht h;exact ⟨_,rfl⟩
theorem Bo {x:D} (ht:thing x=true) (h:kindT x= .truth): ∃i,x= .bool i:=by
 cases x <;> simp [thing,kindT] at ht h;exact ⟨_,rfl⟩
theorem Fq {x:D} (ht:thing x=true) (h:kindT x= .text): ∃i,x= .str i:=by
 cases x <;> simp [thing,kindT] at ht h;exact ⟨_,rfl⟩
theorem map2 {S:List D} {a b:Kd} {l:List Kd} (h:S.map kindT=b::a::l): ∃y x r,S=y::x::r∧kindT y=b∧kindT x=a:=by
 rcases S with _ | ⟨y,_ | ⟨x,r⟩⟩ <;> simp at h;exact ⟨y,x,r,rfl,h.1,h.2.1⟩
theorem map1 {S:List D} {b:Kd} {l:List Kd} (h:S.map kindT=b::l): ∃y r,S=y::r∧kindT y=b:=by
 rcases S with _ | ⟨y,r⟩ <;> simp at h;exact ⟨y,r,rfl,h.1⟩
theorem J7 {row:Row} {ps:List D} (hp:Things ps) (h:lackT row (kindsP ps)=none):Can row ps:=by
 obtain ⟨S,rfl⟩: ∃S:List D,ps=S.reverse:=⟨ps.reverse,by simp⟩
 have h:lackR row (S.map kindT)=none:=by unfold lackT at h;rwa [←List.map_reverse,List.reverse_reverse] at h
 have ht: ∀x∈S,thing x=true:=fun x hx=>hp x (List.mem_reverse.mpr hx);cases row with
 | push t=>exact .push t _
 | take k=>exact .take k _
 | go t=>exact .go t _
 | fin=>exact .fin _
 | add=>
  obtain ⟨l,e⟩:=Iz h;obtain ⟨y,x,r,rfl,e1,e2⟩:=map2 e;obtain ⟨j,rfl⟩:=Ap (ht y (by simp)) e1;obtain ⟨i,rfl⟩:=Ap (ht x (by simp)) e2;simp only [reverse_cons,append_assoc,List.singleton_append];exact .add _ i j
 | less=>
  obtain ⟨l,e⟩:=D1 h;obtain ⟨y,x,r,rfl,e1,e2⟩:=map2 e;obtain ⟨j,rfl⟩:=Ap (ht y (by simp)) e1;obtain ⟨i,rfl⟩:=Ap (ht x (by simp)) e2;simp only [reverse_cons,append_assoc,List.singleton_append];exact .less _ i j
 | join=>
  obtain ⟨l,e⟩:=D2 h;obtain ⟨y,x,r,rfl,e1,e2⟩:=map2 e;obtain ⟨j,rfl⟩:=Fq (ht y (by simp)) e1;obtain ⟨i,rfl⟩:=Fq (ht x (by simp)) e2;simp only [reverse_cons,append_assoc,List.singleton_append];exact .join _ i j
 | same=>
  obtain ⟨b,l,e⟩:=D3 h;obtain ⟨y,x,r,rfl,e1,e2⟩:=map2 e;simp only [reverse_cons,append_assoc,List.singleton_append];exact .same _ x y (by rw [e1,e2])
 | swap=>
  obtain ⟨b,a,l,e⟩:=Bb h;obtain ⟨y,x,r,rfl,e1,e2⟩:=map2 e;simp only [reverse_cons,append_assoc,List.singleton_append];exact .swap _ x y
 | not=>
  obtain ⟨l,e⟩:=Ja h;obtain ⟨y,r,rfl,e1⟩:=map1 e;obtain ⟨j,rfl⟩:=Bo (ht y (by simp)) e1;rw [reverse_cons];exact .not _ j
 | iff t=>
  obtain ⟨l,e⟩:=Fg h;obtain ⟨y,r,rfl,e1⟩:=map1 e;obtain ⟨j,rfl⟩:=Bo (ht y (by simp)) e1;rw [reverse_cons];exact .iff t _ j
 | drop=>
  obtain ⟨b,l,e⟩:=D4 h;obtain ⟨y,r,rfl,e1⟩:=map1 e;rw [reverse_cons];exact .drop _ y
 | tell=>
  obtain ⟨b,l,e⟩:=D5 h;obtain ⟨y,r,rfl,e1⟩:=map1 e;rw [reverse_cons];exact .tell _ y
 | copy n=>
  obtain ⟨h0,h1⟩:=Bc h;rw [length_map] at h1;have hn:n.toNat < S.length:=by omega
  have e:S=S.take n.toNat++S[n.toNat]::S.drop (n.toNat+1):=by rw [←List.drop_eq_getElem_cons hn,List.take_append_drop]
  have e2:n=(((S.take n.toNat).reverse.length:Nat):Int):=by simp;omega
  rw [e,List.reverse_append,reverse_cons,append_assoc,List.singleton_append]
  conv=>arg 1;rw [e2]
  exact .copy _ _ _
noncomputable def sumT:D→D→D
 | .int a,.int b=> .int (a+b)
 | .str a,.str b=> .str (a++b)
 | a,_=>a
noncomputable def lessT:D→D→Bool
 | .int a,.int b=>decide (a < b)
 | _,_=>false
noncomputable def twoT (row:Row) (a b:D):List D:=match row with
 | .swap=> [b,a]
 | .less=> [.bool (lessT a b)]
 | .same=> [.bool (PyData.eqv a b)]
 | .add=> [sumT a b]
 | .join=> [sumT a b]
 | _=> []
noncomputable def putsT (row:Row) (ps:List D) (c:Cm):List D:=match row with
 | .push t=> [t]
 | .take k=> [c.hd k]
 | .not=>(match ps.reverse with | .bool b::_=> [.bool (!b)] | _=> [])
 | .copy n=> [ps.reverse[n.toNat]?.getD .none]
 | r=>(match ps.reverse with | b::a::_=>twoT r a b | _=> [])
noncomputable def doT (row:Row) (ps:List D) (c:Cm):List D:=ps.take (ps.length - takeN row)++putsT row ps c
section
variable {q r:List D} {x y t:D} {i j:Int} {a b:Str} {z:Bool} {c:Cm} {k:Kd}
@[simp] theorem Pj:doT (.push t) q c=q++[t]:=by simp [doT,takeN,putsT]
@[simp] theorem Pk:doT (.take k) q c=q++[c.hd k]:=by simp [doT,takeN,putsT]
@[simp] theorem Sn:doT .add (q++[.int i,.int j]) c=q++[.int (i+j)]:=by simp [doT,takeN,putsT,twoT,sumT]
@[simp] theorem Pl:doT .less (q++[.int i,.int j]) c=q++[.bool (decide (i < j))]:=by simp [doT,takeN,putsT,twoT,lessT]
@[simp] theorem Pm:doT .join (q++[.str a,.str b]) c=q++[.str (a++b)]:=by simp [doT,takeN,putsT,twoT,sumT]
@[simp] theorem So:doT .not (q++[.bool z]) c=q++[.bool (!z)]:=by simp [doT,takeN,putsT]
@[simp] theorem Pn:doT .same (q++[x,y]) c=q++[.bool (PyData.eqv x y)]:=by simp [doT,takeN,putsT,twoT]
@[simp] theorem Po:doT (.copy (r.length:Int)) (q++x::r) c=q++x::r++[x]:=by
 unfold doT;rw [show takeN (.copy (r.length:Int))=0 from rfl,Nat.sub_zero,List.take_length];simp [putsT]
@[simp] theorem Pp:doT .drop (q++[x]) c=q:=by cases h:q.reverse <;> simp [doT,takeN,putsT,twoT,h]
@[simp] theorem Pq:doT .swap (q++[x,y]) c=q++[y,x]:=by simp [doT,takeN,putsT,twoT]
@[simp] theorem Pr:doT .tell (q++[x]) c=q:=by cases h:q.reverse <;> simp [doT,takeN,putsT,twoT,h]
@[simp] theorem Uu:doT (.go i) q c=q:=by rcases h:q.reverse with _ | ⟨_,_ | ⟨_,_⟩⟩ <;> simp [doT,takeN,putsT,twoT,h]
@[simp] theorem Sq:doT (.iff i) (q++[x]) c=q:=by cases h:q.reverse <;> simp [doT,takeN,putsT,twoT,h]
@[simp] theorem Sr:doT .fin q c=q:=by rcases h:q.reverse with _ | ⟨_,_ | ⟨_,_⟩⟩ <;> simp [doT,takeN,putsT,twoT,h]
end
section
variable {q r:List D} {x y t:D} {i j:Int} {a b:Str} {z:Bool} {c:Cm} {k:Kd}
@[simp] theorem Ss:putsT .add (q++[x,y]) c=[sumT x y]:=by simp [putsT,twoT]
@[simp] theorem Ps:putsT .join (q++[x,y]) c=[sumT x y]:=by simp [putsT,twoT]
@[simp] theorem Pt:putsT .less (q++[x,y]) c=[.bool (lessT x y)]:=by simp [putsT,twoT]
@[simp] theorem Pu:putsT .same (q++[x,y]) c=[.bool (PyData.eqv x y)]:=by simp [putsT,twoT]
@[simp] theorem Pv:putsT .swap (q++[x,y]) c=[y,x]:=by simp [putsT,twoT]
@[simp] theorem Su:putsT .not (q++[.bool z]) c=[.bool (!z)]:=by simp [putsT]
@[simp] theorem Pw:putsT (.copy (r.length:Int)) (q++x::r) c=[x]:=by simp [putsT]
@[simp] theorem Uv:putsT (.push t) q c=[t]:=rfl
@[simp] theorem Uw:putsT (.take k) q c=[c.hd k]:=rfl
@[simp] theorem Px:putsT .drop q c=[]:=by rcases h:q.reverse with _ | ⟨_,_ | ⟨_,_⟩⟩ <;> simp [putsT,twoT,h]
@[simp] theorem Py:putsT .tell q c=[]:=by rcases h:q.reverse with _ | ⟨_,_ | ⟨_,_⟩⟩ <;> simp [putsT,twoT,h]
@[simp] theorem Sv:putsT (.iff i) q c=[]:=by rcases h:q.reverse with _ | ⟨_,_ | ⟨_,_⟩⟩ <;> simp [putsT,twoT,h]
@[simp] theorem Ux:putsT (.go i) q c=[]:=by rcases h:q.reverse with _ | ⟨_,_ | ⟨_,_⟩⟩ <;> simp [putsT,twoT,h]
@[simp] theorem Sw:putsT .fin q c=[]:=by rcases h:q.reverse with _ | ⟨_,_ | ⟨_,_⟩⟩ <;> simp [putsT,twoT,h]
end
theorem L9 {row:Row} {ps:List D} (h:Can row ps) (c:Cm):(putsT row ps c).length≤2:=by
 cases h <;> simp
theorem J8 {row:Row} {ps:List D} (h:Can row ps):takeN row≤ps.length:=by
 cases h <;> simp [takeN]
theorem Gy {a b:D} (ha:thing a=true) (hb:thing b=true) (h:kindT a=kindT b):(∃i j,a= .int i∧b= .int j)∨(∃i j,a= .bool i∧b= .bool j)∨(∃i j,a= .str i∧b= .str j):=by
 cases hk:kindT a with
 | number=>
  obtain ⟨i,rfl⟩:=Ap ha hk;obtain ⟨j,rfl⟩:=Ap hb (h▸hk);exact .inl ⟨i,j,rfl,rfl⟩
 | truth=>
  obtain ⟨i,rfl⟩:=Bo ha hk;obtain ⟨j,rfl⟩:=Bo hb (h▸hk);exact .inr (.inl ⟨i,j,rfl,rfl⟩)
 | text=>
  obtain ⟨i,rfl⟩:=Fq ha hk;obtain ⟨j,rfl⟩:=Fq hb (h▸hk);exact .inr (.inr ⟨i,j,rfl,rfl⟩)
theorem P0 {α:Type} {q r:List α} {x:α} {z:Int} (h:z=(q.length:Int)):atD (q++x::r) z=some x:=by
 subst h;rw [eo (by simp),getElem?_append_right (Nat.le_refl _),Nat.sub_self];rfl
theorem Ma {α:Type} {xs:List α} {k:Nat} (h:k≤xs.length):cutD xs none (some ((xs.length:Int) - (k:Int)))=xs.take (xs.length - k):=by
 unfold cutD cIx;dsimp only;rw [if_neg (by omega),show min ((xs.length:Int) - (k:Int)).toNat xs.length=xs.length - k by omega];simp
structure CmOk (c:Cm):Prop where
 n: ∀x∈c.n,∃i,x= .int i
 t: ∀x∈c.t,∃i,x= .bool i
 x: ∀x∈c.x,∃z,x= .str z∧PyData.strOk z=true∧z.length≤40
 l:c.n.length≤100∧c.t.length≤100∧c.x.length≤100
theorem CmOk.tl {c:Cm} (h:CmOk c) (k:Kd):CmOk (c.tl k):=by
 obtain ⟨l1,l2,l3⟩:=h.l;cases k
 ·exact ⟨fun x hx=>h.n x (List.mem_of_mem_tail hx),h.t,h.x,by simp [Cm.tl];omega⟩
 ·exact ⟨h.n,fun x hx=>h.t x (List.mem_of_mem_tail hx),h.x,by simp [Cm.tl];omega⟩
 ·exact ⟨h.n,h.t,fun x hx=>h.x x (List.mem_of_mem_tail hx),by simp [Cm.tl];omega⟩
theorem CmOk.past {c:Cm} (h:CmOk c) (r:Row):CmOk (c.past r):=by
 cases r with
 | take k=>exact h.tl k
 | _=>exact h
theorem CmOk.hd {c:Cm} (h:CmOk c) (k:Kd):thing (c.hd k)=true∧kindT (c.hd k)=k∧sLen (c.hd k)≤40:=by
 unfold Cm.hd;cases k
 ·cases e:c.n with
  | nil=>simp [Cm.at_,e,blank,thing,kindT,sLen]
  | cons a l=>
   obtain ⟨i,rfl⟩:=h.n a (by rw [e];exact mem_cons_self);simp [Cm.at_,e,thing,kindT,sLen]
 ·cases e:c.t with
  | nil=>simp [Cm.at_,e,blank,thing,kindT,sLen]
  | cons a l=>
   obtain ⟨i,rfl⟩:=h.t a (by rw [e];exact mem_cons_self);simp [Cm.at_,e,thing,kindT,sLen]
 ·cases e:c.x with
  | nil=>simp [Cm.at_,e,blank,thing,kindT,sLen];decide
  | cons a l=>
   obtain ⟨i,rfl,h1,h2⟩:=h.x a (by rw [e];exact mem_cons_self);simp [Cm.at_,e,thing,kindT,sLen,h1,h2]
structure Mac where
 s:Nat
 p:List D
 c:Cm
noncomputable def Mac.row (rs:List Row) (m:Mac):Row:=rowOf rs m.s
noncomputable def Mac.go (rs:List Row) (m:Mac):Bool:=decide (m.s < rs.length) && (why3 rs.length (m.row rs) (kindsP m.p)).isNone
noncomputable def Mac.nx (rs:List Row) (m:Mac):Mac:=⟨(nextS rs.length m.s (m.row rs) m.p).toNat,doT (m.row rs) m.p m.c,m.c.past (m.row rs)⟩
noncomputable def runM (rs:List Row):Nat→Mac→List Mac
 | 0,m=> [m]
 | n+1,m=>if m.go rs=true then m::runM rs n (m.nx rs) else [m]
noncomputable def ePr (m:Mac):D:= .tuple [.int (m.s:Int),.list m.p]
def noJoin (rs:List Row):Prop:= ∀s,rowOf rs s≠ .join
noncomputable def sSum:List D→Nat
 | []=>0
 | x::l=>sLen x+sSum l
theorem dr: ∀a b:List D,sSum (a++b)=sSum a+sSum b
 | [],b=>by simp [sSum]
 | x::a,b=>by rw [List.cons_append,sSum,sSum,dr a b];omega
theorem Bp: ∀ {l:List D} {x:D},x∈l→sLen x≤sSum l
 | _::l,x,h=>by
  rcases List.mem_cons.mp h with rfl | h
  ·rw [sSum];omega
  ·have:=Bp h;rw [sSum];omega
def Fit (rs:List Row) (n:Nat) (ps:List D):Prop:=(noJoin rs∧ ∀x∈ps,sLen x≤40)∨ ∃M S,40≤M∧40≤S∧(∀x∈ps,sLen x≤M)∧sSum ps+40≤S∧M*S*2 ^ n≤2 ^ 40
structure MOk (rs:List Row) (n:Nat) (m:Mac):Prop where
 R:Rows rs
 s:m.s≤rs.length
 t:Things m.p
 c:CmOk m.c
 l:m.p.length+n≤300
 f:Fit rs n m.p
theorem Fit.room {rs:List Row} {n:Nat} {ps:List D} (h:Fit rs n ps) {x:D} (hx:x∈ps):sLen x≤2 ^ 20:=by
 rcases h with ⟨_,h⟩ | ⟨M,S,h1,h2,h3,h4,h5⟩
 ·have:=h x hx;omega
 ·have a:=h3 x hx
  have b:=Bp hx;have c:M*S≤2 ^ 40:=Nat.le_trans (Nat.le_mul_of_pos_right _ (Nat.two_pow_pos n)) h5;have d:sLen x*sLen x≤2 ^ 40:=Nat.le_trans (Nat.mul_le_mul a (by omega)) c;refine Nat.le_of_not_lt fun z=>?_
  have:2 ^ 20*2 ^ 20 < sLen x*sLen x:=Nat.mul_lt_mul_of_lt_of_le z (Nat.le_of_lt z) (by omega)
  rw [show (2:Nat) ^ 20*2 ^ 20=2 ^ 40 by decide] at this;omega
theorem Fr {rs:List Row} {m:Mac} (h:m.go rs=true):m.s < rs.length∧why3 rs.length (m.row rs) (kindsP m.p)=none:=by
 unfold Mac.go at h;rw [Bool.and_eq_true] at h;exact ⟨of_decide_eq_true h.1,by simpa using h.2⟩
theorem xy {rs:List Row} {s:Nat} (h:s < rs.length):rowOf rs s∈rs∧rs[s]?=some (rowOf rs s):=by
 have e:rs[s]?=some rs[s]:=getElem?_eq_getElem h;rw [Ei e];exact ⟨List.getElem_mem h,e⟩
theorem J9 {rs:List Row} {s:Nat} {ps:List D} (hs:s < rs.length) {row:Row} (h:astray rs.length row=false):0≤nextS rs.length s row ps∧nextS rs.length s row ps≤(rs.length:Int):=by
 cases row with
 | go t=>simp [astray] at h;simp [nextS];omega
 | iff t=>
  simp [astray] at h;unfold nextS;dsimp only;split <;> omega
 | _=>simp [nextS] <;> omega
theorem MOk.nx {rs:List Row} {n:Nat} {m:Mac} (h:MOk rs (n+1) m) (hg:m.go rs=true):MOk rs n (m.nx rs):=by
 obtain ⟨hs,hw⟩:=Fr hg;obtain ⟨h1,h2⟩:=xy hs;have hok:=h.R.ok _ h1;have cn:=J7 h.t (jh hw).1;obtain ⟨a1,a2⟩:=J9 (ps:=m.p) hs (jh hw).2;obtain ⟨k1,k2,k3⟩:(∀k,thing (m.c.hd k)=true)∧(∀k,kindT (m.c.hd k)=k)∧(∀k,sLen (m.c.hd k)≤40):=⟨fun k=>(h.c.hd k).1,fun k=>(h.c.hd k).2.1,fun k=>(h.c.hd k).2.2⟩
 have hl:=h.l;have ht:=h.t;have hf:=h.f;have hpu: ∀t,m.row rs= .push t→thing t=true∧sLen t≤40:=fun t e=>by
  have e:rowOf rs m.s= .push t:=e;rw [e] at hok h1;exact va hok
 have key:Things (doT (m.row rs) m.p m.c)∧(doT (m.row rs) m.p m.c).length≤m.p.length+1∧Fit rs n (doT (m.row rs) m.p m.c):=by
  have hj:m.row rs= .join→¬noJoin rs:=fun e z=>z m.s e;generalize m.row rs=row at cn hpu hj ⊢;generalize m.p=ps at*;have sub: ∀ {qs:List D},(∀x∈qs,x∈ps∨sLen x=0)→sSum qs≤sSum ps→Fit rs n qs:=fun {qs} g1 g2=>by
   rcases hf with ⟨f1,f2⟩ | ⟨M,S,f1,f2,f3,f4,f5⟩
   ·exact .inl ⟨f1,fun x hx=>(g1 x hx).elim (f2 x) fun z=>by omega⟩
   ·refine .inr ⟨M,S,f1,f2,fun x hx=>(g1 x hx).elim (f3 x) fun z=>by omega,by omega,Nat.le_trans (Nat.mul_le_mul_left _ (Nat.pow_le_pow_right (by decide) (Nat.le_succ n))) f5⟩
  have plus: ∀ {x:D},(sLen x≤40∨x∈ps)→Fit rs n (ps++[x]):=fun {x} g=>by
   rcases hf with ⟨f1,f2⟩ | ⟨M,S,f1,f2,f3,f4,f5⟩
   ·refine .inl ⟨f1,fun y hy=>?_⟩
    rcases List.mem_append.mp hy with hy | hy
    ·exact f2 y hy
    ·rw [List.mem_singleton.mp hy]
     exact g.elim id (f2 x)
   ·refine .inr ⟨M,2*S,f1,by omega,fun y hy=>?_,?_,?_⟩
    ·rcases List.mem_append.mp hy with hy | hy
     ·exact f3 y hy
     ·rw [List.mem_singleton.mp hy]
      exact g.elim (fun z=>by omega) (f3 x)
    ·rw [dr]
     simp only [sSum];rcases g with g | g
     ·omega
     ·have:=Bp g;omega
    ·rw [show M*(2*S)*2 ^ n=M*S*2 ^ (n+1) by rw [Nat.pow_succ];ac_rfl]
     exact f5
  have tapp: ∀ {a b:List D},Things a→Things b→Things (a++b):=fun {a b} u v x hx=>(List.mem_append.mp hx).elim (u x) (v x);have tone: ∀ {x:D},thing x=true→Things [x]:=fun {x} u y hy=>by rw [List.mem_singleton.mp hy];exact u
  cases cn with
  | push t _=>rw [Pj];exact ⟨tapp ht (tone (hpu t rfl).1),by simp,plus (.inl (hpu t rfl).2)⟩
  | take k _=>rw [Pk];exact ⟨tapp ht (tone (k1 k)),by simp,plus (.inl (k3 k))⟩
  | go t _=>rw [Uu];exact ⟨ht,by omega,sub (fun x hx=> .inl hx) (Nat.le_refl _)⟩
  | fin _=>rw [Sr];exact ⟨ht,by omega,sub (fun x hx=> .inl hx) (Nat.le_refl _)⟩
  | copy q r x=>
   rw [Po];have hx:x∈q++x::r:=by simp
   exact ⟨tapp ht (tone (ht x hx)),by simp;omega,plus (.inr hx)⟩
  | drop q x=>rw [Pp];exact ⟨fun y hy=>ht y (by simp [hy]),by simp;omega,sub (fun y hy=> .inl (by simp [hy])) (by rw [dr];omega)⟩
  | tell q x=>rw [Pr];exact ⟨fun y hy=>ht y (by simp [hy]),by simp;omega,sub (fun y hy=> .inl (by simp [hy])) (by rw [dr];omega)⟩
  | iff t q b=>rw [Sq];exact ⟨fun y hy=>ht y (by simp [hy]),by simp;omega,sub (fun y hy=> .inl (by simp [hy])) (by rw [dr];omega)⟩
  | swap q x y=>rw [Pq];exact ⟨fun z hz=>ht z (by simp at hz ⊢;rcases hz with hz | rfl | rfl <;> simp [*]),by simp,sub (fun z hz=> .inl (by simp at hz ⊢;rcases hz with hz | rfl | rfl <;> simp [*])) (by rw [dr,dr];simp [sSum];omega)⟩
  | not q b=>
   rw [So];exact ⟨tapp (fun y hy=>ht y (by simp [hy])) (tone rfl),by simp,sub (fun y hy=>by simp at hy;rcases hy with hy | rfl <;> simp [sLen, *]) (by rw [dr,dr];simp [sSum,sLen])⟩
  | add q i j=>
   rw [Sn];exact ⟨tapp (fun y hy=>ht y (by simp [hy])) (tone rfl),by simp,sub (fun y hy=>by simp at hy;rcases hy with hy | rfl <;> simp [sLen, *]) (by rw [dr,dr];simp [sSum,sLen])⟩
  | less q i j=>
   rw [Pl];exact ⟨tapp (fun y hy=>ht y (by simp [hy])) (tone rfl),by simp,sub (fun y hy=>by simp at hy;rcases hy with hy | rfl <;> simp [sLen, *]) (by rw [dr,dr];simp [sSum,sLen])⟩
  | same q x y hk=>
   rw [Pn];exact ⟨tapp (fun y hy=>ht y (by simp [hy])) (tone rfl),by simp,sub (fun y hy=>by simp at hy;rcases hy with hy | rfl <;> simp [sLen, *]) (by rw [dr,dr];simp [sSum,sLen])⟩
  | join q a b=>
   rw [Pm];have hab:(a++b).length=a.length+b.length:=by show (a.cps++b.cps).size=_;simp [Str.length]
   have ta:PyData.strOk a=true:=ht (.str a) (by simp);have tb:PyData.strOk b=true:=ht (.str b) (by simp);refine ⟨tapp (fun y hy=>ht y (by simp [hy])) (tone ?_),by simp,?_⟩
   ·show PyData.strOk (a++b)=true
    unfold PyData.strOk at ta tb ⊢
    show (a.cps++b.cps).all _=true
    rw [Array.all_append,ta,tb];rfl
   ·rcases hf with ⟨f1,f2⟩ | ⟨M,S,f1,f2,f3,f4,f5⟩
    ·exact absurd f1 (hj rfl)
    ·have ha:=f3 (.str a) (by simp)
     have hb:=f3 (.str b) (by simp);simp only [sLen] at ha hb;refine .inr ⟨2*M,S,by omega,f2,fun y hy=>?_,?_,?_⟩
     ·rcases List.mem_append.mp hy with hy | hy
      ·have:=f3 y (by simp [hy]);omega
      ·rw [List.mem_singleton.mp hy]
       simp only [sLen,hab];omega
     ·rw [dr] at f4 ⊢
      simp only [sSum,sLen,hab] at f4 ⊢;omega
     ·rw [show 2*M*S*2 ^ n=M*S*2 ^ (n+1) by rw [Nat.pow_succ];ac_rfl]
      exact f5
 exact ⟨h.R,by show (nextS rs.length m.s (m.row rs) m.p).toNat≤_;omega,key.1,h.c.past _,by have:=key.2.1;show (doT _ _ _).length+n≤300;omega,key.2.2⟩
theorem MOk.less {rs:List Row} {n:Nat} {m:Mac} (h:MOk rs (n+1) m):MOk rs n m:=by
 refine ⟨h.R,h.s,h.t,h.c,by have:=h.l;omega,?_⟩;rcases h.f with ⟨f1,f2⟩ | ⟨M,S,f1,f2,f3,f4,f5⟩
 ·exact .inl ⟨f1,f2⟩
 ·exact .inr ⟨M,S,f1,f2,f3,f4,Nat.le_trans (Nat.mul_le_mul_left _ (Nat.pow_le_pow_right (by decide) (Nat.le_succ n))) f5⟩
theorem Aq {rs:List Row}: ∀ {n:Nat} {m:Mac},MOk rs n m→ ∃L l k,runM rs n m=L++[l]∧(∀x∈L,x.go rs=true∧MOk rs 1 x)∧MOk rs k l∧L.length+k=n∧(k=0∨l.go rs=false)
 | 0,m,h=>⟨[],m,0,rfl,fun x hx=>(by cases hx),h,rfl,.inl rfl⟩
 | n+1,m,h=>by
  unfold runM
  by_cases hg:m.go rs=true
  ·rw [if_pos hg]
   obtain ⟨L,l,k,e,h1,h2,h3,h4⟩:=Aq (h.nx hg);refine ⟨m::L,l,k,by rw [e];rfl,fun x hx=>?_,h2,by rw [length_cons];omega,h4⟩;rcases List.mem_cons.mp hx with rfl | hx
   ·refine ⟨hg,?_⟩
    clear h1 h2 h3 h4 e
    induction n with
    | zero=>exact h
    | succ n ih=>exact ih h.less
   ·exact h1 x hx
  ·rw [if_neg hg]
   exact ⟨[],m,n+1,rfl,fun x hx=>(by cases hx),h,by simp,.inr (by simpa using hg)⟩
end RG
end
section
namespace RG
open PySem L2
noncomputable def wordS:Row→String
 | .swap=>"swap" | .less=>"less" | .same=>"same" | .add=>"add" | .join=>"join" | _=>""
inductive Two:Row→D→D→Prop where
 | swap (a b:D):Two .swap a b
 | less (i j:Int):Two .less (.int i) (.int j)
 | add (i j:Int):Two .add (.int i) (.int j)
 | join (x y:Str) (h:x.length+y.length≤sizeLine):Two .join (.str x) (.str y)
 | same (a b:D) (ha:thing a=true) (hb:thing b=true) (h:kindT a=kindT b):Two .same a b
def rp (p:Row×D×D):Prop:=Two p.1 p.2.1 p.2.2
noncomputable def dm (p:Row×D×D):List D:=[.str (Str.ofString (wordS p.1)),p.2.1,p.2.2]
def qc (p:Row×D×D) (d:D):Prop:=d= .list (twoT p.1 p.2.1 p.2.2)
def ue (p:Row×List D×Cm):Prop:=p.1.ok=true∧Can p.1 p.2.1∧Things p.2.1∧p.2.1.length≤1000∧ ∀x∈p.2.1,sLen x≤2 ^ 20
noncomputable def oh (p:Row×List D×Cm):List D:=[eRow p.1,.list p.2.1,.list p.2.2.l]
def rq (p:Row×List D×Cm) (d:D):Prop:=d= .list (putsT p.1 p.2.1 p.2.2)
def rz (p:List Row×Mac):Prop:=MOk p.1 1 p.2∧p.2.go p.1=true
noncomputable def i0 (p:List Row×Mac):List D:=[eRows p.1,ePr p.2,.list p.2.c.l]
def qd (p:List Row×Mac) (d:D):Prop:=d=ePr (p.2.nx p.1)
def Prestates (p:List Row×Mac×Nat):Prop:=MOk p.1 p.2.2 p.2.1∧p.2.1.s=0∧p.2.2≤200
noncomputable def encstates (p:List Row×Mac×Nat):List D:=[eRows p.1,.list p.2.1.p,.tuple p.2.1.c.l,.int (p.2.2:Int)]
def Poststates (p:List Row×Mac×Nat) (d:List D):Prop:=d=(runM p.1 p.2.2 p.2.1).map ePr
noncomputable def toldT (rs:List Row) (L:List Mac):List D:=L.filterMap fun m=>match m.row rs with | .tell=>some (m.p.getLast?.getD .none) | _=>none
def Ar (p:List Row×List Mac):Prop:=Rows p.1∧p.2.length≤300∧ ∀m∈p.2.dropLast,m.s < p.1.length∧(m.row p.1= .tell→m.p≠[])
noncomputable def qu (p:List Row×List Mac):List D:=[eRows p.1,.list (p.2.map ePr)]
def xz (p:List Row×List Mac) (d:D):Prop:=d= .list (toldT p.1 p.2.dropLast)
noncomputable def endM (rs:List Row) (n:Nat) (m:Mac):D:=match (runM rs n m).getLast? with
 | none=> .none
 | some l=>if l.s=rs.length then .tuple [.str "ended",.list (toldT rs (runM rs n m).dropLast),.list l.p]
  else if (runM rs n m).length > n then .tuple [.str "stopped",.list (toldT rs (runM rs n m).dropLast),.list l.p]
  else .tuple [.str "fell",.int (l.s:Int),eW3 (why3 rs.length (l.row rs) (kindsP l.p))]
def Prerun (p:List Row×Mac×Nat):Prop:=MOk p.1 p.2.2 p.2.1∧p.2.1.s=0∧p.2.2≤200
noncomputable def encrun (p:List Row×Mac×Nat):List D:=[eRows p.1,.list p.2.1.p,.tuple p.2.1.c.l,.int (p.2.2:Int)]
def Postrun (p:List Row×Mac×Nat) (d:D):Prop:=d=endM p.1 p.2.2 p.2.1
def r9 (p:List Kd×Int):Prop:=p.1.length≤100
noncomputable def i4 (p:List Kd×Int):List D:=[eKs p.1,.int p.2]
def k8 (p:List Kd×Int) (d:D):Prop:= ∃ps,d= .list ps∧Things ps∧kindsP ps=p.1∧ ∀x∈ps,sLen x≤40
def pi (_:Int):Prop:=True
noncomputable def fy (p:Int):List D:=[.int p]
def m6 (_:Int) (d:D):Prop:= ∃c,d= .tuple c.l∧CmOk c
theorem m9: ∀ {l:List D},Things l→PyData.canLayAll0 l=true
 | [],_=>by simp
 | x::l,h=>by
  rw [Cn,m9 fun y hy=>h y (mem_cons_of_mem _ hy)]
  have:=h x mem_cons_self
  cases x <;> simp_all [thing]
theorem Fs {α:Type} {g:D→Option (Option D)} {c:α→D} {q:α→Option D}: ∀ {l:List α},(∀x∈l,g (c x)=some (q x))→compL g (l.map c)=some (l.filterMap q)
 | [],_=>rfl
 | x::l,h=>by
  rw [map_cons,il,h x mem_cons_self,Fs fun y hy=>h y (mem_cons_of_mem _ hy)];cases hq:q x <;> simp [hq]
noncomputable def rhoS (rs:List Row) (p c:D) (n:Nat) (L:List Mac) (w:D) (o:Option Sl):RenO:=[some (.sh (eRows rs)),some (.sh p),some (.sh c),some (.sh (.int (n:Int))),some (.ow (L.map ePr)),some (.sh w),o]
theorem Ka {mt:Ren→Option Bool} {mb:RenO→Option FlO} {rs:List Row} {p c:D} {n:Nat}
  (ht: ∀L m o k,MOk rs k m→mt (allOf (rhoS rs p c n (L++[m]) (.list m.c.l) o))=some (decide (L.length+1≤n) && m.go rs))
  (hb: ∀L m o,L.length+1≤n→m.go rs=true→MOk rs 1 m→mb (rhoS rs p c n (L++[m]) (.list m.c.l) o)=some (.nx (rhoS rs p c n (L++[m]++[m.nx rs]) (.list (m.nx rs).c.l) (some (.sh (ePr m)))))):
  ∀ (k fuel:Nat) (L:List Mac) (m:Mac) (o:Option Sl),L.length+k=n→k < fuel→MOk rs k m→ ∃m' L' o',L'++[m']=L++runM rs k m∧whileO mt mb fuel (rhoS rs p c n (L++[m]) (.list m.c.l) o)=some (.nx (rhoS rs p c n (L'++[m']) (.list m'.c.l) o'))
 | 0,fuel+1,L,m,o,hn,hf,hm=>by
  unfold whileO;rw [ht L m o 0 hm,show decide (L.length+1≤n)=false by simp;omega];exact ⟨m,L,o,rfl,rfl⟩
 | k+1,fuel+1,L,m,o,hn,hf,hm=>by
  unfold whileO;rw [ht L m o _ hm,show decide (L.length+1≤n)=true by simp;omega,Bool.true_and];unfold runM;cases hg:m.go rs with
  | false=>exact ⟨m,L,o,rfl,rfl⟩
  | true=>
   rw [if_pos rfl];have h1:MOk rs 1 m:=by
    clear hn hf
    induction k with
    | zero=>exact hm
    | succ k ih=>exact ih hm.less
   simp only [hb L m o (by omega) hg h1];obtain ⟨m',L',o',e,h⟩:=Ka ht hb k fuel (L++[m]) (m.nx rs) (some (.sh (ePr m))) (by rw [length_append,length_singleton];omega) (by omega) (hm.nx hg);exact ⟨m',L',o',by rw [e,append_assoc];rfl,h⟩
theorem Sx {m1 m2 m3:RenO→Option FlO} {mt:Ren→Option Bool} {mb:RenO→Option FlO} {rs:List Row} {p c:D} {n fuel:Nat} {m:Mac} {ρ0 ρ1 ρ2:RenO} (h1:m1 ρ0=some (.nx ρ1)) (h2:m2 ρ1=some (.nx ρ2)) (h3:m3 ρ2=some (.nx (rhoS rs p c n [m] (.list m.c.l) none)))
  (w: ∃m' L' o',L'++[m']=[]++runM rs n m∧whileO mt mb fuel (rhoS rs p c n ([]++[m]) (.list m.c.l) none)=some (.nx (rhoS rs p c n (L'++[m']) (.list m'.c.l) o'))):
  ∃d,seqO m1 (seqO m2 (seqO m3 (seqO (fun ρ=>whileO mt mb fuel ρ) (retOw 4)))) ρ0=some (.rn d)∧d=(runM rs n m).map ePr:=by
 obtain ⟨m',L',o',e,h⟩:=w;refine ⟨(runM rs n m).map ePr,?_,rfl⟩;rw [List.nil_append] at e h;rw [e] at h;simp only [seqO,h1,h2,h3,h];rfl
end RG
end
section
namespace RG
open PySem L2
theorem Ek {α:Type} {xs:List α} {lo hi:Option Int} {x:α} (h:x∈cutD xs lo hi):x∈xs:=List.mem_of_mem_drop (List.mem_of_mem_take h)
theorem El {α:Type} {xs:List α} {lo hi:Option Int}:(cutD xs lo hi).length≤xs.length:=by
 unfold cutD;rw [List.length_take,List.length_drop];omega
noncomputable def rhoP (given:List Kd) (cell:Int) (x y z:Option Mv):MR:=[some (.sh (eKs given)),some (.sh (.int cell)),some (.ow 0),x,y,z]
def PileOk (ps:List D) (ks:List Kd):Prop:=Things ps∧kindsP ps=ks∧ ∀x∈ps,sLen x≤40
@[simp] theorem Qm {α:Type} {l:List α} {a b:α}:(l++[a]).set l.length b=l++[b]:=by
 rw [List.set_append_right _ _ (Nat.le_refl _),Nat.sub_self];rfl
theorem C5 {mb:MR→MT→Option FlM} {given:List Kd} {cell:Int}
  (hb: ∀ (k:Nat) (g:Kd) (ps:List D) (junk:MT) (x y z),given[k]?=some g→ps.length≤200→ ∃y' z' d o,mb ((rhoP given cell x y z).set 3 (some (.sh (.int (k:Int))))) (.l ps::junk)=some (.nx (rhoP given cell (some (.sh (.int (k:Int)))) y' z') (.l (ps++[d])::(junk++[o])))∧thing d=true∧kindT d=g∧sLen d≤40):
  ∀ (n k:Nat) (ps:List D) (junk:MT) (x y z),k+n=given.length→given.length≤100→PileOk ps (given.take k)→ ∃x' y' z' ps' junk',forM' 3 mb ((List.range' k n).map fun (i:Nat)=>PyData.int (i:Int)) (rhoP given cell x y z) (.l ps::junk)=some (.nx (rhoP given cell x' y' z') (.l ps'::junk'))∧PileOk ps' given
 | 0,k,ps,junk,x,y,z,hk,hl,hp=>⟨x,y,z,ps,junk,rfl,by rwa [List.take_of_length_le (by omega)] at hp⟩
 | n+1,k,ps,junk,x,y,z,hk,hl,hp=>by
  have hk2:k < given.length:=by omega
  obtain ⟨p1,p2,p3⟩:=hp;have hpl:ps.length≤200:=by
   have:=congrArg List.length p2
   simp at this;omega
  obtain ⟨y',z',d,o,e,d1,d2,d3⟩:=hb k given[k] ps junk x y z (getElem?_eq_getElem hk2) hpl;rw [List.range'_succ,map_cons];unfold forM';rw [if_pos O1,e];dsimp only;refine C5 hb n (k+1) (ps++[d]) (junk++[o]) _ y' z' (by omega) hl ⟨fun x hx=>?_,?_,fun x hx=>?_⟩
  ·rcases List.mem_append.mp hx with hx | hx
   ·exact p1 x hx
   ·rw [List.mem_singleton.mp hx];exact d1
  ·rw [List.take_succ,getElem?_eq_getElem hk2]
   simp only [kindsP,List.map_append,map_cons,List.map_nil,Option.toList_some] at p2 ⊢;rw [p2,d2]
  ·rcases List.mem_append.mp hx with hx | hx
   ·exact p3 x hx
   ·rw [List.mem_singleton.mp hx];exact d3
theorem Mb {m1:MR→MT→Option FlM} {mi:Ren→Option (List D)} {mb:MR→MT→Option FlM} {ma:Ren→Option D} {given:List Kd} {cell:Int} {ρ0:MR} (h1:m1 ρ0 []=some (.nx (rhoP given cell none none none) [.l []]))
  (hi:mi (shM (rhoP given cell none none none))=some ((List.range given.length).map fun (i:Nat)=>PyData.int (i:Int)))
  (hr: ∀x y z ps junk,ma (allM (rhoP given cell x y z) (.l ps::junk))=some (.list ps))
  (w: ∃x' y' z' ps' junk',forM' 3 mb ((List.range' 0 given.length).map fun (i:Nat)=>PyData.int (i:Int)) (rhoP given cell none none none) [.l []]=some (.nx (rhoP given cell x' y' z') (.l ps'::junk'))∧PileOk ps' given):
  ∃d,seqM m1 (seqM (forMF 3 mi mb) (retM ma)) ρ0 []=some (.rt d)∧k8 (given,cell) d:=by
 obtain ⟨x',y',z',ps',junk',h,p1,p2,p3⟩:=w;rw [←List.range_eq_range'] at h;simp only [seqM,h1,forMF,hi,h,retM,hr];exact ⟨_,rfl,ps',rfl,p1,p2,p3⟩
end RG
end
section
namespace RG
open PySem L2
theorem Mc {x:D} (h:thing x=true):sz x=1:=by
 cases x <;> simp_all [thing,sz]
theorem qe: ∀ {l:List D},Things l→szs l=l.length
 | [],_=>by simp [szs]
 | x::l,h=>by rw [szs,Mc (h x mem_cons_self),qe fun y hy=>h y (mem_cons_of_mem _ hy),length_cons];omega
theorem CmOk.things {c:Cm} (h:CmOk c):Things c.n∧Things c.t∧Things c.x:=
 ⟨fun y hy=>by obtain ⟨i,rfl⟩:=h.n y hy;rfl,fun y hy=>by obtain ⟨i,rfl⟩:=h.t y hy;rfl,fun y hy=>by obtain ⟨i,rfl,h,_⟩:=h.x y hy;exact h⟩
theorem Sy {c:Cm} (h:CmOk c):PyData.canLayAll0 c.l=true∧szs c.l≤303:=by
 obtain ⟨h1,h2,h3⟩:=h.things;obtain ⟨l1,l2,l3⟩:=h.l;refine ⟨by simp [Cm.l,m9 h1,m9 h2,m9 h3],?_⟩;simp only [Cm.l,szs,sz,qe h1,qe h2,qe h3];omega
noncomputable def isJ:Row→Bool
 | .join=>true
 | _=>false
theorem Md {rs:List Row} {ps:List D} {c:Cm} {n:Nat} (h: ∀r∈rs,r.ok=true) (h1:rs.length≤300) (h2:Things ps) (h3:ps.length≤41) (h4: ∀x∈ps,sLen x≤40) (hc:CmOk c) (hn:n≤200) (hj:rs.any isJ=true→n≤20):MOk rs n ⟨0,ps,c⟩:=by
 refine ⟨⟨h,h1⟩,Nat.zero_le _,h2,hc,by show ps.length+n≤300;omega,?_⟩;cases hq:rs.any isJ with
 | false=>
  refine .inl ⟨fun s z=>?_,h4⟩;unfold rowOf at z;cases hs:rs[s]? with
  | none=>rw [hs] at z;cases z
  | some r=>
   rw [hs] at z;have z:r= .join:=z;subst z
   have:=List.any_eq_false.mp hq .join (List.mem_of_getElem? hs)
   exact this rfl
 | true=>
  have hn:=hj hq;have sum: ∀ {l:List D},(∀x∈l,sLen x≤40)→sSum l≤40*l.length:=fun {l}=>by
   induction l with
   | nil=>intro _;simp [sSum]
   | cons x l ih=>
    intro h
    have:=ih fun y hy=>h y (mem_cons_of_mem _ hy)
    have:=h x mem_cons_self
    rw [sSum,length_cons];omega
  have:=sum h4
  refine .inr ⟨40,1680,by omega,by omega,h4,by show sSum ps+40≤1680;omega,?_⟩;have h5:2 ^ n≤2 ^ 20:=Nat.pow_le_pow_right (by decide) hn;have h6:40*1680*2 ^ n≤40*1680*2 ^ 20:=Nat.mul_le_mul_left _ h5;omega
theorem Sz {α:Type} {xs:List α} {n:Int} (h:0≤n):cutD xs none (some n)=xs.take n.toNat:=by
 unfold cutD cIx;dsimp only;rw [if_neg (by omega)];simp only [List.drop_zero,Nat.sub_zero]
 by_cases hl:n.toNat≤xs.length
 ·rw [Nat.min_eq_left hl]
 ·rw [Nat.min_eq_right (by omega),List.take_of_length_le (Nat.le_refl _),List.take_of_length_le (by omega)]
theorem Me {α:Type} {xs:List α} {n:Int} (h:0≤n):cutD xs (some n) none=xs.drop n.toNat:=by
 unfold cutD cIx;dsimp only;rw [if_neg (by omega)]
 by_cases hl:n.toNat≤xs.length
 ·rw [Nat.min_eq_left hl,List.take_of_length_le (by rw [List.length_drop];omega)]
 ·rw [Nat.min_eq_right (by omega),List.drop_of_length_le (Nat.le_refl _),List.drop_of_length_le (by omega)]
  simp
end RG
end
section
namespace RG
open PySem L2
theorem P1 {mi:Ren→Option (List D)} {g:D→Ren→Option Ren} {m n:Ren→Option Fl} {items:List D} {ρ:Ren} {d:D} (hi:mi ρ=some items) (P:Ren→Prop) (h0:P ρ) (h: ∀x∈items,∀ρ,P ρ→ ∃ρ1 ρ2,g x ρ=some ρ1∧m ρ1=some (.nx ρ2)∧P ρ2) (hn: ∀ρ,P ρ→n ρ=some (.rt d)):seqF (forF mi g m) n ρ=some (.rt d):=by
 obtain ⟨ρ',e,h'⟩:=Bn P h h0;unfold seqF forF;rw [hi]
 show (forL g m items ρ).bind _=_
 rw [e];exact hn ρ' h'
end RG
end
section
namespace RG
open PySem L2
section
variable {i j:Nat} {ma mb:Ren→Option D} {ms:Ren→Option (List D)} {mt:Ren→Option Bool} {m n:Ren→Option Fl} {ρ ρ':Ren} {d a b:D} {ds:List D} {f:List D→Option D} {t:Bool} {o:Option Fl}
theorem dq (h:ma ρ=some d):setF i ma ρ=some (.nx (ρ.set i (some d))):=by
 unfold setF;rw [h];rfl
theorem Em {α:Type} {m n:Ren→Option α} {o:Option α} (h:mt ρ=some true) (k:m ρ=o):ifE mt m n ρ=o:=by
 unfold ifE;rw [h];exact k
theorem Kb {α:Type} {m n:Ren→Option α} {o:Option α} (h:mt ρ=some false) (k:n ρ=o):ifE mt m n ρ=o:=by
 unfold ifE;rw [h];exact k
theorem C6 (h:ma ρ=some d):(fun ρ=>(ma ρ).map Fl.rt) ρ=some (.rt d):=by
 show (ma ρ).map Fl.rt=_
 rw [h];rfl
theorem Uy (h:m ρ=some (.rt d)):seqF m n ρ=some (.rt d):=by
 unfold seqF;rw [h];rfl
theorem sf (k:n ρ=o) (h:mt ρ=some false:=by kernel_rfl):seqF (ifE mt m fun ρ=>some (.nx ρ)) n ρ=o:=sq (Kb h rfl) k
theorem sr {m':Ren→Option Fl} (k:m ρ=some (.rt d)) (h:mt ρ=some true:=by kernel_rfl):seqF (ifE mt m m') n ρ=some (.rt d):=Uy (Em h k)
theorem c6 (h:ms ρ=some ds) (k:f ds=some d):callOf f ms ρ=some d:=by
 unfold callOf;rw [h];exact k
theorem bx (h:ma ρ=some d) (k:ms ρ=some ds):oneMore ma ms ρ=some (d::ds):=by
 unfold oneMore;rw [h,k];rfl
theorem P2 (h:ma ρ=some d) (k:truD d=some t):bindT ma ρ=some t:=by
 unfold bindT;rw [h];exact k
theorem P3 {fr:List (Option Nat)} {mi:Ren→Option (List D)} {g:D→Ren→Option Ren} {ts:Ren→Option Bool} {me:Ren→Option D} {items ds:List D} (k:compL (turnOf g ts me (capS fr ρ)) items=some ds) (hl:items.length≤lim) (h:mi ρ=some items:=by rfl):(fun ρ=>(compOf fr mi g ts me ρ).map PyData.list) ρ=some (.list ds):=by
 show (compOf fr mi g ts me ρ).map PyData.list=_
 unfold compOf;rw [h]
 show (if items.length≤lim then compL (turnOf g ts me (capS fr ρ)) items else none).map PyData.list=_
 rw [if_pos hl,k];rfl
theorem P4 (h:ms ρ=some ds) (hl:ds.length≤lim):lstOf ms ρ=some (.list ds):=by
 unfold lstOf;rw [h];exact if_pos hl
theorem S0 (h:ma ρ=some (.bool t)):notV ma ρ=some (.bool (!t)):=by
 unfold notV;rw [h];rfl
theorem Nc (h:ma ρ=some (.bool true)):notB (bindT ma) ρ=some false:=by
 unfold notB;rw [P2 h rfl];rfl
theorem we {mu:Ren→Option Bool} {o:Option Bool} (h:mt ρ=some false) (k:mu ρ=o):orB mt mu ρ=o:=by
 unfold orB;rw [h];exact k
theorem k9 (h:ma ρ=some (.bool t)):bindB ma ρ=some t:=by
 unfold bindB;rw [h];rfl
theorem jo {g:D→D→Option D} (h:ma ρ=some a) (k:mb ρ=some b):two g ma mb ρ=g a b:=by
 unfold two;rw [h,k];rfl
end
theorem C7 {mt mu:Ren→Option Bool} {ρ:Ren} (h:mt ρ=some true):orB mt mu ρ=some true:=by
 unfold orB;rw [h];rfl
theorem Nd {mt mu:Ren→Option Bool} {ρ:Ren} (h:mt ρ=some true):andB mt mu ρ=mu ρ:=by
 unfold andB;rw [h];rfl
theorem lenlt {ρ:Ren} {i j:Nat} {xs ys:List D} {b:Bool} (h1:ρ[i]?.join=some (.list xs)) (h2:ρ[j]?.join=some (.list ys)) (h:decide ((xs.length:Int) < (ys.length:Int))=b):
  bindB (two (cmpI fun i j=>decide (i < j)) (callOf (one lenD) (oneMore (fun ρ=>ρ[i]?.join) fun _=>some [])) (callOf (one lenD) (oneMore (fun ρ=>ρ[j]?.join) fun _=>some []))) ρ=some b:=
 k9 ((jo (c6 (bx h1 rfl) rfl) (c6 (bx h2 rfl) rfl)).trans (by rw [←h];rfl))
theorem slcT {ρ:Ren} {xs pre top ws:List D} (hx:xs=pre++top) (h1:ρ[1]?.join=some (.list xs)) (h2:ρ[2]?.join=some (.list ws)) (hl:ws.length=top.length):
  sliceOf (fun ρ=>ρ[1]?.join) (partOf (two subD (callOf (one lenD) (oneMore (fun ρ=>ρ[1]?.join) fun _=>some [])) (callOf (one lenD) (oneMore (fun ρ=>ρ[2]?.join) fun _=>some [])))) (fun _=>some none) ρ=some (.list top):=by
 subst hx;have e:two subD (callOf (one lenD) (oneMore (fun ρ=>ρ[1]?.join) fun _=>some [])) (callOf (one lenD) (oneMore (fun ρ=>ρ[2]?.join) fun _=>some [])) ρ=some (.int (pre.length:Int)):=
  (jo (a:= .int ((pre++top).length:Nat)) (b:= .int (ws.length:Nat)) (c6 (bx h1 rfl) rfl) (c6 (bx h2 rfl) rfl)).trans (by show some (PyData.int (((pre++top).length:Nat) - (ws.length:Nat):Int))=_;rw [length_append,hl];congr 2;omega)
 unfold sliceOf partOf;rw [e];dsimp only;rw [h1]
 show some (PyData.list (cutD (pre++top) (some _) none))=_
 rw [bi rfl]
section
variable {m n:RenO→Option FlO} {ρ ρ':RenO} {o:Option FlO} {mt:Ren→Option Bool} {i:Nat}
theorem ioT (k:m ρ=o) (h:mt (allOf ρ)=some true:=by kernel_rfl):ifO mt m n ρ=o:=by
 unfold ifO;rw [h];exact k
theorem ioF (k:n ρ=o) (h:mt (allOf ρ)=some false:=by kernel_rfl):ifO mt m n ρ=o:=by
 unfold ifO;rw [h];exact k
theorem Ft {ms:Ren→Option (List D)} {ds:List D} (h:ms (shOf ρ)=some ds):newC i ms ρ=some (.nx (ρ.set i (some (.ow ds)))):=by
 unfold newC;rw [h]
theorem As {q:List D} {x:D} (h:owAt ρ i=some (q++[x])):popO i ρ=some (.nx (ρ.set i (some (.ow q)))):=by
 unfold popO;rw [h];dsimp only;rw [List.getLast?_concat,List.dropLast_concat]
theorem C8 {ma:Ren→Option D} {ds:List D} {d:D} (h:owAt ρ i=some ds) (h1:ma (shOf ρ)=some d) (hl:ds.length+1≤lim):appC i ma ρ=some (.nx (ρ.set i (some (.ow (ds++[d]))))):=by
 unfold appC;rw [h];dsimp only;rw [h1];exact if_pos hl
end
theorem slcL {ρ:Ren} {xs pre top:List D} {ml:Ren→Option D} (hx:xs=pre++top) (h1:ρ[1]?.join=some (.list xs)) (h:ml ρ=some (.int (pre.length:Int))):
  sliceOf (fun ρ=>ρ[1]?.join) (partOf ml) (fun _=>some none) ρ=some (.list top):=by
 subst hx;unfold sliceOf partOf;rw [h];dsimp only;rw [h1]
 show some (PyData.list (cutD (pre++top) (some _) none))=_
 rw [bi rfl]
end RG
end
section
namespace RG
open PySem L2
structure Vv where
 P:Program
 w:World
 K:Frag
 mg:Str→Option Value
 base:Heap
structure Inf where
 k:Nat
 x:Str
 ps:List Str
abbrev Oz (V:Vv) (i:Inf) (sp:Sp):Prop:=Own V.P V.w V.K V.mg V.base i.k i.x i.ps sp
abbrev Ox (V:Vv) (i:Inf) (f:List D→Option D):Prop:=Oz V i (spX V.K f)
abbrev On (V:Vv) (i:Inf) (f:List D→Option (List D)):Prop:=Oz V i (spN V.K f)
abbrev Fz (V:Vv) (i:Inf) (fa:Addr) (fd:FuncData) (sp:Sp):Prop:=FnOk V.P V.w V.K V.mg V.base CX0 i.k fa fd i.ps sp
abbrev Fu (V:Vv) (i:Inf) (st:Stmt) (fa:Addr) (fd:FuncData):Prop:=Fun V.K i.x i.x st fa fd
structure Kn (V:Vv) (i:Inf) {α:Type} (Pre:α→Prop) (enc:α→List D) (Post:α→D→Prop) (f:List D→Option D):Prop where
 h: ∀p,Pre p→ ∃d,f (enc p)=some d∧Post p d
 o:Ox V i f
structure KnN (V:Vv) (i:Inf) {α:Type} (Pre:α→Prop) (enc:α→List D) (Post:α→List D→Prop) (f:List D→Option (List D)):Prop where
 h: ∀p,Pre p→ ∃d,f (enc p)=some d∧Post p d
 o:On V i f
 x:Ox V i fun ds=>(f ds).map PyData.list
abbrev Rx (V:Vv) (i:Inf) (fa:Addr) (fd:FuncData) {α:Type} (Pre:α→Prop) (enc:α→List D) (Post:α→D→Prop):Prop:= ∃f,(∀p,Pre p→ ∃d,f (enc p)=some d∧Post p d)∧Fz V i fa fd (spX V.K f)
abbrev Rn (V:Vv) (i:Inf) (fa:Addr) (fd:FuncData) {α:Type} (Pre:α→Prop) (enc:α→List D) (Post:α→List D→Prop):Prop:= ∃f,(∀p,Pre p→ ∃d,f (enc p)=some d∧Post p d)∧Fz V i fa fd (spN V.K f)
section
variable {V:Vv} {i:Inf} {fa:Addr} {fd:FuncData} {st:Stmt}
structure At (V:Vv) (i:Inf) (st:Stmt) (fa:Addr) (fd:FuncData):Prop where
 F:Fu V i st fa fd
 a:V.mg i.x=some (.ref fa)
 b:Binds V.K fd i.ps []
theorem At.own {sp:Sp} (t:At V i st fa fd) (h:Fz V i fa fd sp):Oz V i sp:=⟨⟨fa,fd,h,t.a,t.F.kp,t.b⟩⟩
theorem At.kn {α:Type} {Pre:α→Prop} {enc:α→List D} {Post:α→D→Prop} (t:At V i st fa fd) (h:Rx V i fa fd Pre enc Post): ∃f,Kn V i Pre enc Post f:=h.imp fun _ h=>⟨h.1,t.own h.2⟩
theorem At.knN {α:Type} {Pre:α→Prop} {enc:α→List D} {Post:α→List D→Prop} (t:At V i st fa fd) (h:Rn V i fa fd Pre enc Post): ∃f,KnN V i Pre enc Post f:=h.imp fun _ h=>⟨h.1,t.own h.2,t.own (Oy h.2)⟩
end
end RG
end
section
namespace RG
open PySem PySem.Spec PyProof.Rows L2
structure Stp (fs ch:List Addr) (h h':Heap):Prop where
 keep: ∀b o,b ∉ fs→b ∉ ch→h.get? b=some o→h'.get? b=some o
 slot: ∀b o,b∈fs→b ∉ ch→h.get? b=some o→ ∃sl,h'.get? b=some { o with slots:=sl }
section
variable {fs ch ch':List Addr} {h h1 h2:Heap}
theorem Stp.any (x:Stp fs ch h h1) {b:Addr} {o:Obj} (c:b ∉ ch) (e:h.get? b=some o): ∃sl,h1.get? b=some { o with slots:=sl }:=by
 by_cases z:b∈fs
 ·exact x.slot b o z c e
 ·exact ⟨o.slots,x.keep b o z c e⟩
theorem Stp.trans (x:Stp fs ch h h1) (y:Stp fs ch h1 h2):Stp fs ch h h2 where
 keep:=fun b o f c e=>y.keep b o f c (x.keep b o f c e)
 slot:=fun b o f c e=>by
  obtain ⟨_,e1⟩:=x.slot b o f c e;obtain ⟨sl,e2⟩:=y.slot b _ f c e1;exact ⟨sl,e2⟩
theorem Stp.more (x:Stp fs ch h h1) (k: ∀b∈ch,b∈ch'):Stp fs ch' h h1:=⟨fun b o f c e=>x.keep b o f (fun z=>c (k b z)) e,fun b o f c e=>x.slot b o f (fun z=>c (k b z)) e⟩
theorem Stp.one {t:Addr} {f:Obj→Obj}:Stp fs [t] h (h.update t f) where
 keep:=fun b o _ c e=>(Heap.get?_update_other _ _ fun z=>c (by rw [z];exact List.mem_singleton.mpr rfl)).trans e
 slot:=fun b o _ c e=>⟨o.slots,(Heap.get?_update_other _ _ fun z=>c (by rw [z];exact List.mem_singleton.mpr rfl)).trans e⟩
end
structure Fly (h0:Heap) (H:Hp) (h:Heap) (e:Addr) (c:Value) (T:Option Addr) (fl:Value):Prop where
 ne:h0.get? e=none
 he:H e=none
 ob: ∃oe vs,h.get? e=some oe∧oe.cls=c∧oe.data= .fields vs∧vs[1]?=some (T.elim .none .ref)∧oe.dict=none
 tb: ∀t,T=some t→h0.get? t=none∧H t=none∧t≠e∧ ∃oT ts,h.get? t=some oT∧oT.data= .fields ts∧ts[3]?=some fl
theorem Kc (f:Array Value→Array Value) (o:Obj):(o.mapFields f).dict=o.dict:=by
 obtain ⟨c,d,dt,sl⟩:=o;cases dt <;> rfl
section
variable {M:Model} {A:Around} {E:Value→Shared→Prop} {s:Shared} {h0 base:Heap} {H:Hp} {e L:Addr} {c:Value} {env:Env} {outer:List Env} {Q:Unit→Shared→Prop}
theorem Fv {oe:Obj} {vs:Array Value} {head:Value} {nx:Bool} (hfr:A.frames=some (env::outer)) (hl:s.heap.FunFrames base (env::outer)) (hf:env.frame=some L) (he:s.heap.get? e=some oe) (hd:oe.data= .fields vs) (hz:1 < vs.size)
  (k: ∀h' t,s.heap.objs.size≤t→(∃oe' vs',h'.get? e=some oe'∧oe'.cls=oe.cls∧oe'.data= .fields vs'∧vs'[1]?=some (.ref t)∧oe'.dict=oe.dict)→(∃oT ts,h'.get? t=some oT∧oT.data= .fields ts∧ts[3]?=some (rawInt L))→
   Stp (frs (env::outer)) [e] s.heap h'→Q () { s with heap:=h' }):
  wpAny M A (frameOf env >>=fun a=>entryPlaceOf L nx >>=fun pl=>EntryCells.newEntry head a .none (rawInt L) .none pl >>=fun b=>setField (.ref e) 1 b) Q E s:=by
 have nf:e ∉ frs (env::outer):=fun m=>by
  obtain ⟨_,o,q,d⟩:=hl.mem m;rw [he] at q;cases q;exact d vs hd
 refine wpAny_bind (wpAny_frameOf_fun hfr hl hf fun h1 hs=>wpAny_bind (wpAny_entryPlaceOf fun pl hpl=>?_));obtain ⟨z,k1,k2⟩:=hs;have e1:h1.get? e=some oe:=(k1 e nf).trans he;unfold EntryCells.newEntry newFields;refine wpAny_bind (wpAny_newObj_type ?_ (hpl.sizeOk5 _ _ _ _ _));have e2:=get?_push_of_some (h:=h1) { cls:= .type "traceback",dict:=none,data:= .fields ([head,.ref L,.none,rawInt L,.none]++(if pl.isEmpty then List.replicate 6 Value.none else pl)).toArray } e1;have nT:h1.objs.size≠e:=Nat.ne_of_gt (lt_size e1);have d3:=Obj.data_mapFields hd (·.setIfInBounds 1 (Value.ref h1.objs.size));refine wpAny_setField e2 hd hz (k _ h1.objs.size (Nat.le_of_eq z.symm) ⟨_,_,Heap.get?_update_self _ e2 (Obj.isFreed_of_fields d3),Obj.cls_mapFields _ _,d3,by simp [hz],Kc _ _⟩ ⟨_,_,(Heap.get?_update_other _ _ (Ne.symm nT)).trans (Heap.get?_push_size h1 rfl),rfl,?_⟩ ⟨fun b o f cc q=>?_,fun b o f cc q=>?_⟩)
 ·first | (simp;done) | (rcases hpl with rfl | ⟨_,_,_,_,_,_,_,rfl⟩ <;> simp)
 ·rw [Heap.get?_update_other _ _ fun y=>cc (by rw [y];exact List.mem_singleton.mpr rfl)]
  exact get?_push_of_some _ ((k1 b f).trans q)
 ·obtain ⟨sl,q2⟩:=k2 b o q
  refine ⟨sl,?_⟩;rw [Heap.get?_update_other _ _ fun y=>cc (by rw [y];exact List.mem_singleton.mpr rfl)];exact get?_push_of_some _ q2
theorem Bq {T:Option Addr} (hfr:A.frames=some (env::outer)) (hl:s.heap.FunFrames base (env::outer)) (hf:env.frame=some L) (F:Fly h0 H s.heap e c T .none) (hz: ∀b,s.heap.get? b=none→h0.get? b=none) (hH: ∀b,s.heap.objs.size≤b→H b=none)
  (k: ∀h' t ch,Fly h0 H h' e c (some t) (rawInt L)→Stp (frs (env::outer)) ch s.heap h'→(∀b∈ch,h0.get? b=none∧H b=none)→Q () { s with heap:=h' }):wpAny M A (noteFrame (.ref e) env) Q E s:=by
 obtain ⟨ne,he,⟨oe,vs,ho,hc,hd,h1,hdi⟩,tb⟩:=F;have sz:1 < vs.size:=(Array.getElem?_eq_some_iff.mp h1).1;unfold noteFrame;simp only [hf];cases T with
 | none=>
  have h1:vs[1]?=some .none:=h1;refine wpAny_bind (wpAny_field ho hd h1 ?_);rw [if_neg (by decide)];refine Fv hfr hl hf ho hd sz fun h' t le ⟨oe',vs',a1,a2,a3,a4,a5⟩ a6 st=>k h' t [e] ⟨ne,he,⟨oe',vs',a1,a2.trans hc,a3,a4,a5.trans hdi⟩,fun u q=>?_⟩ st fun b m=>?_
  ·cases q
   exact ⟨hz _ (Heap.get?_none_of_le le),hH _ le,Nat.ne_of_gt (Nat.lt_of_lt_of_le (lt_size ho) le),a6⟩
  ·rw [List.mem_singleton.mp m]
   exact ⟨ne,he⟩
 | some t=>
  have h1:vs[1]?=some (.ref t):=h1;obtain ⟨g1,g2,g3,oT,ts,g4,g5,g6⟩:=tb t rfl;have sz3:3 < ts.size:=(Array.getElem?_eq_some_iff.mp g6).1;refine wpAny_bind (wpAny_field ho hd h1 ?_);rw [if_pos (show (Value.ref t !=Value.none)=true from by simp)];refine wpAny_bind (wpAny_field g4 g5 g6 ?_);rw [if_neg (show ¬ ((Value.none==rawInt L)=true) from by simp [rawInt])];refine wpAny_bind (wpAny_setField g4 g5 sz3 ?_);have st0:Stp (frs (env::outer)) [t] s.heap (s.heap.update t (Obj.mapFields (·.setIfInBounds 3 Value.none))):=Stp.one;have nr: ∀b o,s.heap.get? b=some o→(∀vs,o.data≠ .fields vs)→b ∉ [t]:=fun b o q n m=>by
   rw [List.mem_singleton.mp m,g4] at q;cases q;exact n ts g5
  have sz':(s.heap.update t (Obj.mapFields (·.setIfInBounds 3 Value.none))).objs.size=s.heap.objs.size:=by first | exact Heap.size_update _ _ _ | simp
  refine Fv (base:=base) hfr (hl.of_keeps fun b o q n=>?_) hf (st0.keep e oe (fun m=>?_) (fun m=>g3 (List.mem_singleton.mp m).symm) ho) hd sz fun h' t' le ⟨oe',vs',a1,a2,a3,a4,a5⟩ a6 st=>k h' t' [e,t] ⟨ne,he,⟨oe',vs',a1,a2.trans hc,a3,a4,a5.trans hdi⟩,fun u q=>?_⟩ ?_ fun b m=>?_
  ·obtain ⟨sl,q2⟩:=st0.any (nr b o q n) q
   exact ⟨_,q2,rfl⟩
  ·obtain ⟨_,o,q,d⟩:=hl.mem m
   rw [ho] at q;cases q;exact d vs hd
  ·cases q
   have le:s.heap.objs.size≤t':=by rw [←sz'];exact le
   exact ⟨hz _ (Heap.get?_none_of_le le),hH _ le,Nat.ne_of_gt (Nat.lt_of_lt_of_le (lt_size ho) le),a6⟩
  ·exact (st0.more fun b m=>mem_cons_of_mem _ m).trans (st.more fun b m=>by rw [List.mem_singleton.mp m];exact mem_cons_self)
  ·rcases List.mem_cons.mp m with z | z
   ·rw [z];exact ⟨ne,he⟩
   ·rw [List.mem_singleton.mp z];exact ⟨g1,g2⟩
theorem land {fs:List Addr} {t:Addr} {fl:Value} (F:Fly h0 H s.heap e c (some t) fl) (k: ∀h',Fly h0 H h' e c (some t) .none→Stp fs [t] s.heap h'→Q () { s with heap:=h' }):wpAny M A (setFlight (.ref e) none) Q E s:=by
 obtain ⟨ne,he,⟨oe,vs,ho,hc,hd,h1,hdi⟩,tb⟩:=F;obtain ⟨g1,g2,g3,oT,ts,g4,g5,g6⟩:=tb t rfl;have sz3:3 < ts.size:=(Array.getElem?_eq_some_iff.mp g6).1;have d3:=Obj.data_mapFields g5 (·.setIfInBounds 3 ((none:Option Addr).elim Value.none fun f=>rawInt f));have h1:vs[1]?=some (.ref t):=h1;unfold setFlight;refine wpAny_bind (wpAny_field ho hd h1 ?_);rw [if_pos (show (Value.ref t !=Value.none)=true from by simp)];refine wpAny_setField g4 g5 sz3 (k _ ⟨ne,he,⟨oe,vs,(Heap.get?_update_other _ _ g3).trans ho,hc,hd,h1,hdi⟩,fun u q=>?_⟩ Stp.one);cases q;exact ⟨g1,g2,g3,_,_,Heap.get?_update_self _ g4 (Obj.isFreed_of_fields d3),d3,by simp [sz3]⟩
theorem leave {T:Option Addr} (hfr:A.frames=some (env::outer)) (hl:s.heap.FunFrames base (env::outer)) (hf:env.frame=some L) (F:Fly h0 H s.heap e c T .none) (hz: ∀b,s.heap.get? b=none→h0.get? b=none) (hH: ∀b,s.heap.objs.size≤b→H b=none)
  (k: ∀h' t ch,Fly h0 H h' e c (some t) .none→Stp (frs (env::outer)) ch s.heap h'→(∀b∈ch,h0.get? b=none∧H b=none)→Q () { s with heap:=h' }):wpAny M A (leaving env (.ref e)) Q E s:=by
 unfold leaving;refine wpAny_bind (Bq hfr hl hf F hz hH fun h1 t ch F1 st hc=>land F1 fun h2 F2 st2=>k h2 t (t::ch) F2 ((st.more fun b m=>mem_cons_of_mem _ m).trans (st2.more fun b m=>by rw [List.mem_singleton.mp m];exact mem_cons_self)) fun b m=>?_);rcases List.mem_cons.mp m with z | z
 ·rw [z]
  exact ⟨(F2.tb t rfl).1,(F2.tb t rfl).2.1⟩
 ·exact hc b z
end
theorem Fly.old {h0 h1 h:Heap} {H:Hp} {e:Addr} {c fl:Value} {T:Option Addr} (F:Fly h1 H h e c T fl) (k: ∀b,h1.get? b=none→h0.get? b=none):Fly h0 H h e c T fl:=
 ⟨k _ F.ne,F.he,F.ob,fun t q=>let ⟨a,r⟩:=F.tb t q;⟨k _ a,r⟩⟩
section
variable {X:Cx} {pins:List (Addr×Obj)} {σ:L2.St} {H:Hp} {s:Shared}
theorem Inv.fsFree (I:Inv X pins σ H s): ∀b∈X.fs,H b=none:=fun b hb=>by
 obtain ⟨_,o,ho,_⟩:=I.ok.funs.mem hb;exact I.base.free b o ho (I.ok.frf b hb) fun z=>I.ok.exfs b z hb
theorem Inv.far (I:Inv X pins σ H s) (hx:X.ex=[]) {b:Addr} (n:s.heap.get? b=none):
  X.s₀.heap.get? b=none∧b≠X.env.locals∧(∀x c,X.env.cells.lookup x=some c→c≠b)∧ ∀p∈X.pn++pins,p.1≠b:=by
 refine ⟨?_,fun z=>?_,fun x c e z=>?_,fun p hp z=>?_⟩
 ·cases q:X.s₀.heap.get? b with
  | none=>rfl
  | some o=>
   obtain ⟨o',e⟩:=I.base.there b o q (by rw [hx];exact not_mem_nil);rw [n] at e;cases e
 ·obtain ⟨m,⟨o,es,ep,ho,_⟩,_⟩:=I.loc
  rw [z,ho] at n;cases n
 ·obtain ⟨v,o,ho,_⟩:=I.cell x c e
  rw [z,n] at ho;cases ho
 ·have e:=(I.pin p hp).1
  rw [z,n] at e;cases e
theorem Inv.stp {ch:List Addr} {h':Heap} (I:Inv X pins σ H s) (st:Stp (X.env.locals::X.fs) ch s.heap h')
  (hch: ∀b∈ch,(X.s₀.heap.get? b=none∧b≠X.env.locals∧(∀x c,X.env.cells.lookup x=some c→c≠b)∧ ∀p∈X.pn++pins,p.1≠b)∧H b=none):Inv X pins σ H { s with heap:=h' }:=by
 have nt: ∀b o,X.s₀.heap.get? b=some o→b ∉ ch:=fun b o e m=>by
  rw [(hch b m).1.1] at e;cases e
 have nL: ∀b o,X.s₀.heap.get? b=some o→b≠X.env.locals:=fun b o e=>Nat.ne_of_lt (Nat.lt_of_lt_of_le (lt_size e) I.ok.above);have cK: ∀x c,X.env.cells.lookup x=some c→ ∀v,s.heap.IsCell c v→h'.IsCell c v:=fun x c e v h0=>by
  obtain ⟨o,ho,hd⟩:=h0;obtain ⟨sl,q⟩:=st.any (fun z=>(hch c z).1.2.2.1 x c e rfl) ho;exact ⟨_,q,hd⟩
 refine ⟨I.ok,I.os,I.bare,⟨fun b o e n hb hx=>?_,fun b o e n hb hx=>?_,I.base.free,fun b o e hx=>?_,I.base.tups,I.base.frzs,I.base.tbls⟩,?_,fun x c e=>?_,I.free,I.freeC,fun p hp=>?_,fun b u eb=>?_,I.len⟩
 ·exact st.keep b o (fun z=>(List.mem_cons.mp z).elim (nL b o e) hb) (nt b o e) (I.base.keep b o e n hb hx)
 ·obtain ⟨_,e1⟩:=I.base.slot b o e n hb hx
  obtain ⟨sl,e2⟩:=st.any (nt b o e) e1;exact ⟨sl,e2⟩
 ·obtain ⟨o',e1⟩:=I.base.there b o e hx
  obtain ⟨sl,e2⟩:=st.any (nt b o e) e1;exact ⟨_,e2⟩
 ·obtain ⟨m,⟨o,es,ep,ho,r⟩,hl⟩:=I.loc
  obtain ⟨sl,e2⟩:=st.any (fun z=>(hch _ z).1.2.1 rfl) ho;refine ⟨m,⟨_,es,ep,e2,r⟩,fun i x v e1 e2 e3=>?_⟩;obtain ⟨u,r,l⟩:=hl i x v e1 e2 e3;refine ⟨u,r,?_⟩;rcases l with l | ⟨k,c,e,z⟩
  ·exact .inl l
  ·exact .inr ⟨k,c,e,cK x c e _ z⟩
 ·obtain ⟨v,z⟩:=I.cell x c e
  exact ⟨v,cK x c e v z⟩
 ·obtain ⟨e,n,ne,nf,d⟩:=I.pin p hp
  exact ⟨st.keep p.1 p.2 (fun z=>(List.mem_cons.mp z).elim ne nf) (fun z=>(hch p.1 z).1.2.2.2 p hp rfl) e,n,ne,nf,d⟩
 ·have no: ∀c v,H c=some v→c ∉ X.env.locals::X.fs∧c ∉ ch:=fun c v q=>by
   refine ⟨fun z=>?_,fun z=>?_⟩
   ·rcases List.mem_cons.mp z with z | z
    ·rw [z,I.free] at q
     cases q
    ·rw [Inv.fsFree I c z] at q
     cases q
   ·rw [(hch c z).2] at q
    cases q
  refine (I.hok b u eb).stay (fun c v hc q=>?_) (fun _ q=>q) fun _ _ q=>q
  have nc:c ∉ X.env.locals::X.fs∧c ∉ ch:=by
   rcases hc with z | z
   ·rw [z];exact no b u eb
   ·exact no c _ z
  exact st.keep c v nc.1 nc.2 q
end
def CX1 (P:Program) (w:World):CXT:=fun outer H s E e s'=>∃a C T H',e= .ref a∧s'.os=s.os∧AllBare s'.gens∧Un (frs outer) [] H H' s.heap s'.heap∧HOk P w H' s'.heap∧Fly s.heap H' s'.heap a (.ref C) T .none∧E e (some C) H'
theorem here {P:Program} {w:World} {H:Hp} {h:Heap} {a:Addr} {o:HO} (x:ObjOk P w H h a o): ∃ob,h.get? a=some ob:=by
 cases o with
 | lst xs=>obtain ⟨_,_,_,_,e⟩:=x;exact ⟨_,e⟩
 | tup xs=>obtain ⟨_,_,_,_,e,_⟩:=x;exact ⟨_,e⟩
 | dK kvs=>obtain ⟨_,_,_,_,o,_,_,e,_⟩:=x;exact ⟨_,e⟩
 | dT kvs=>obtain ⟨_,_,_,_,o,_,_,e,_⟩:=x;exact ⟨_,e⟩
 | set S n=>obtain ⟨o,_,_,_,e,_⟩:=x;exact ⟨_,e⟩
 | ins C dx fs=>obtain ⟨_,_,_,e,_⟩:=x;exact ⟨_,e⟩
 | own y=>obtain ⟨_,e⟩:=x;exact ⟨_,e⟩
 | xd fs=>obtain ⟨_,⟨_,_,_,e,_⟩,_⟩:=x;exact ⟨_,e⟩
 | rng lo hi=>obtain ⟨_,_,_,e⟩:=x;exact ⟨_,e⟩
 | frz ob u=>obtain ⟨e,_⟩:=x;exact ⟨_,e⟩
 | tbl ps=>exact ⟨_,show h.get? a=some _ from x⟩
 | met f y=>exact ⟨_,show h.get? a=some _ from x⟩
 | ext φ=>obtain ⟨_,⟨_,e⟩,_⟩:=x;exact ⟨_,e⟩
section
variable {P:Program} {w:World} {K:Frag} {mg:Str→Option Value} {base:Heap} {N:List Str} {qual:Str} {scope:Scope} {f:Addr} {cd:Value} {A:Around} {outer:List Env} {s:Shared} {H:Hp} {E:XK}
theorem passes1:Passes (CX1 P w) (cxOf (CX1 P w) P w K mg base N qual scope f cd A outer s H E) E:=by
 intro pins σ H1 s1 e s' I hq;obtain ⟨a,C,T,H',rfl,os,bare,un,hok,F,q⟩:=hq;have I':=I.call' os un hok bare (fun b z=>absurd z (by simp));refine leave (base:=base) (h0:=s1.heap) I.ok.frames I'.stack rfl F (fun b n=>?_) (fun b z=>I'.hok.fresh z) fun h' t ch F' st hc=>?_
 ·cases z:s1.heap.get? b with
  | none=>rfl
  | some o=>
   obtain ⟨o',e⟩:=un.there b o z (by simp);rw [n] at e;cases e
 ·have I2:=Inv.stp I' st fun b m=>⟨Inv.far I rfl (hc b m).1,(hc b m).2⟩
  exact ⟨a,C,some t,H',rfl,I2.os,I2.bare,I2.base,I2.hok,F'.old fun b n=>(Inv.far I rfl n).1,q⟩
theorem thrown {pins:List (Addr×Obj)} {σ:L2.St} {H1:Hp} {s1:Shared} {h':Heap} {e C:Addr} {args:List Value} (I:Inv (cxOf (CX1 P w) P w K mg base N qual scope f cd A outer s H E) pins σ H1 s1) (m:Heap.MadeExcOf s1.heap h' e (.ref C) args) (q:E (.ref e) (some C) H1):
  (cxOf (CX1 P w) P w K mg base N qual scope f cd A outer s H E).xe (.ref e) { s1 with heap:=h' }:=by
 obtain ⟨t,h1,h2,h3⟩:=m.there;refine passes1 pins σ H1 s1 _ _ I ⟨e,C,none,H1,rfl,rfl,I.bare,Un.kept m.keeps,I.hok.kept m.keeps,⟨m.new,?_,⟨_,_,h1,rfl,rfl,rfl,rfl⟩,fun t z=>nomatch z⟩,q⟩;cases z:H1 e with
 | none=>rfl
 | some o=>
  obtain ⟨ob,y⟩:=here (I.hok e o z);rw [m.new] at y;cases y
end
end RG
end
section
namespace RG
open PySem PySem.Spec PyProof.Rows L2
abbrev Far (X:Cx) (pins:List (Addr×Obj)) (b:Addr):Prop:=X.s₀.heap.get? b=none∧b≠X.env.locals∧(∀x c,X.env.cells.lookup x=some c→c≠b)∧ ∀p∈X.pn++pins,p.1≠b
def Caught (X:Cx) (Good:Addr→Hp→Prop):Value→Shared→Prop:=fun e s=>∃a C T pins σ H h0,e= .ref a∧Inv X pins σ H s∧Fly h0 H s.heap a (.ref C) T .none∧(∀b,s.heap.get? b=none→h0.get? b=none)∧(∀b,h0.get? b=none→Far X pins b)∧Good C H
section
variable {X:Cx} {Good:Addr→Hp→Prop} {E:XK}
theorem passesC (hx:X.ex=[]) (hg: ∀e C H,E e (some C) H→Good C H):Passes (CX1 X.prog X.w) (X.wish (Caught X Good)) E:=by
 intro pins σ H1 s1 e s' I hq;obtain ⟨a,C,T,H',rfl,os,bare,un,hok,F,q⟩:=hq;have I0:=I.unwish;refine ⟨a,C,T,pins,σ,H',s1.heap,rfl,I0.call' os un hok bare (fun b z=>absurd z (by simp)),F,fun b n=>?_,fun b n=>Inv.far I0 hx n,hg _ _ _ q⟩;cases z:s1.heap.get? b with
 | none=>rfl
 | some o=>
  obtain ⟨o',e⟩:=un.there b o z (by simp);rw [n] at e;cases e
theorem Inv.drop {pins:List (Addr×Obj)} {σ:L2.St} {H:Hp} {s:Shared} {h':Heap} {m:Str→Option Value} {t:Nat} (I:Inv X pins σ H s) (hn:h'.Ns X.env.locals m) (hs:Heap.SameBut X.env.locals s.heap h'):
  Inv X pins (List.replicate X.N.length none) H { s with heap:=h',toks:=t }:=by
 have nL: ∀b o,X.s₀.heap.get? b=some o→b≠X.env.locals:=fun b o e=>Nat.ne_of_lt (Nat.lt_of_lt_of_le (lt_size e) I.ok.above);refine ⟨I.ok,I.os,I.bare,⟨fun b o e n hb hx=>?_,fun b o e n hb hx=>?_,I.base.free,fun b o e hx=>?_,I.base.tups,I.base.frzs,I.base.tbls⟩,⟨m,hn,fun i x v e1 e2 e3=>?_⟩,fun x c e=>?_,I.free,I.freeC,fun p hp=>?_,fun b u eb=>?_,List.length_replicate⟩
 ·exact (hs.2 b (nL b o e)).trans (I.base.keep b o e n hb hx)
 ·obtain ⟨sl,e1⟩:=I.base.slot b o e n hb hx
  exact ⟨sl,(hs.2 b (nL b o e)).trans e1⟩
 ·obtain ⟨o',e1⟩:=I.base.there b o e hx
  exact ⟨o',(hs.2 b (nL b o e)).trans e1⟩
 ·rw [List.getElem?_replicate] at e2
  split at e2 <;> cases e2
 ·obtain ⟨v,z⟩:=I.cell x c e
  exact ⟨v,z.sameBut hs (I.cne x c e)⟩
 ·obtain ⟨e,n,ne,nf,d⟩:=I.pin p hp
  exact ⟨(hs.2 p.1 ne).trans e,n,ne,nf,d⟩
 ·refine (I.hok b u eb).stay (fun c v hc q=>(hs.2 c fun z=>?_).trans q) (fun _ q=>q) fun _ _ q=>q
  have fr:=I.free;rcases hc with y | y
  ·rw [←z,y,eb] at fr
   cases fr
  ·rw [←z,y] at fr
   cases fr
noncomputable abbrev suiteCx (X:Cx) (a:Addr) (oe:Obj):Cx:={ X with A:=X.A.mark (some (.ref a)),calm:=false,pn:=(a,oe)::X.pn,xe:=fun _ _=>False }
theorem uf {pins:List (Addr×Obj)} {σ:L2.St} {H:Hp} {s:Shared} {a:Addr} {oe:Obj} (I:Inv X pins σ H s) (h1:s.heap.get? a=some oe) (h2:H a=none) (h3:a≠X.env.locals) (h4:a ∉ X.fs) (h5: ∀v,oe.data≠ .cell v):Inv (suiteCx X a oe) pins σ H s:=by
 have ok:=I.ok;refine ⟨⟨ok.mod,ok.kind,ok.glob,ok.blt,ok.above,ok.inj,ok.has,ok.cab,(fun z=>nomatch z),ok.frames,ok.stk,ok.exf,ok.bs,ok.bsz,ok.noex,ok.exfs,ok.funs,ok.frf⟩,I.os,I.bare,I.base,I.loc,I.cell,I.free,I.freeC,fun p hp=>?_,I.hok,I.len⟩;rcases List.mem_cons.mp (show p∈(a,oe)::(X.pn++pins) from hp) with z | z
 ·rw [z]
  exact ⟨h1,h2,h3,h4,h5⟩
 ·exact I.pin p z
theorem Au {pins:List (Addr×Obj)} {σ:L2.St} {H:Hp} {s:Shared} {a:Addr} {oe:Obj} (ok:X.Ok) (I:Inv (suiteCx X a oe) pins σ H s):Inv X pins σ H s:=
 ⟨ok,I.os,I.bare,I.base,I.loc,I.cell,I.free,I.freeC,fun p hp=>I.pin p (mem_cons_of_mem _ hp),I.hok,I.len⟩
end
section
open PySem.W
variable {K:Frag} {D:Addr}
structure ExC (K:Frag) (D:Addr):Prop where
 cl:(clsIn K D).isSome=true
 ga:findIn K (.ref D) "__getattribute__"=some (some (.builtin "BaseException.__getattribute__"))
 gn:findIn K (.ref D) "__getattr__"=some none
 fi:findIn K (.ref D) "__class__"=some (some (.builtin "object.__class__"))
 ob:mroIn K D (.type "object")=some true
 ty:typeIn K (.ref D)=some (.type "type")
 be:subIn K (.ref D) (.type "BaseException")=some true
theorem Ke (h:(clsIn K D).isSome=true): ∃c d cd sl,K.lookup D=some ⟨c,d,.cls cd,sl⟩:=by
 unfold clsIn at h;split at h
 ·rename_i c d cd sl z
  exact ⟨c,d,cd,sl,z⟩
 ·cases h
theorem Nf {M:Model} {h:Heap} (X:K.In h) (k:(clsIn K D).isSome=true):Looks M h (isType (.ref D)) true:=by
 obtain ⟨c,d,cd,sl,z⟩:=Ke k;intro A Q E s g q;unfold isType loadHead;exact wpAny_bind (wpAny_loadPart (g _ _ (X _ _ z)) (wpAny_pure q))
theorem S1 {x:Addr} {ox:Obj} (ga:findIn K (.ref D) "__getattribute__"=some (some (.builtin "BaseException.__getattribute__"))) (gn:findIn K (.ref D) "__getattr__"=some none) (cl:(clsIn K D).isSome=true) (fi:findIn K (.ref D) "__class__"=some (some (.builtin "object.__class__"))) (ob:mroIn K D (.type "object")=some true) (be:subIn K (.ref D) (.type "BaseException")=some true)
  (hn:specialIn K (.builtin "object.__class__") "__get__"=some (some (.builtin "getset_descriptor.__get__"))) (ht:takesIn K (.builtin "object.__class__")=some true)
  {prog:Program} {w:World} {A:Around} {E:Value→Shared→Prop} {Q:Option Value→Shared→Prop} {s:Shared} (X:K.In s.heap) (I:PySem.W.InstAt s.heap x ox D none) (k:Q (some (.ref D)) { s with toks:=s.toks+1 }):wpAny (model prog w) A (getAttr? (.ref x) "__class__") Q E s:=by
 have hf:findObj K D none "__class__"=some (.bind (.builtin "getset_descriptor.__get__") (.builtin "object.__class__")):=by
  obtain ⟨cd,hc⟩:=Option.isSome_iff_exists.mp cl;unfold findObj;rw [hc,Option.bind_some,fi,Option.bind_some];simp [hn,ht]
 obtain ⟨hh,g,d,t,os⟩:=s;have l0:=I.type (M:=model prog w);have l1:=looks_findIn (M:=model prog w) X ga;have l2:=looks_findIn (M:=model prog w) X gn;have l3:=looks_find (M:=model prog w) X I hf;have l4:Looks (model prog w) hh (isSubtype (.ref D) (.type "BaseException")) true:=looks_subIn X be;unfold getAttr? getAttrBy? getAttrBy;refine wpAny_bind (wpAny_mkText (wpAny_bind (wpAny_attempt (wpAny_holding (wpAny_bind (l0.at (wpAny_bind (l1.at ?_))))))));have e0:¬ ((onTheHeap (Value.ref D) && Value.builtin "BaseException.__getattribute__"==Value.builtin "object.__getattribute__")=true):=by
  rw [show (Value.builtin "BaseException.__getattribute__"==Value.builtin "object.__getattribute__")=false from by decide+kernel,Bool.and_false];exact Bool.false_ne_true
 show wpAny _ _ (if (onTheHeap (Value.ref D) && Value.builtin "BaseException.__getattribute__"==Value.builtin "object.__getattribute__")=true then _ else _) _ _ _
 rw [if_neg e0];unfold getAttrByItsOwn hookBefore;rw [if_pos (show onTheHeap (Value.ref D)=true from rfl)];refine wpAny_bind (l2.at ?_);refine wpAny_bind (wpAny_attempt (wpAny_holding ?_));unfold callGetattribute;rw [if_neg (by decide)];unfold boundAndCalled;rw [F.attr_ValueError.ga.bind];refine wpAny_bind (wpAny_pure ?_);refine wpAny_call (codeAny_call_builtin F.attr_ValueError.ga.plain F.entry_bexc_ga ?_);have li:Looks (model prog w) hh (isInstance (.ref x) (.type "BaseException")) true:=l0.andThen l4;have hk:builtinKind "BaseException.__getattribute__"=some .slot:=by decide+kernel
 have hsp:splitId "BaseException.__getattribute__"=some ("BaseException","__getattribute__"):=by decide+kernel
 have ha:=F.args_bexc_ga (.ref x) (.str "__class__" t);simp only [checkBuiltinCall,hk,hsp,List.cons_append,List.nil_append];refine wpAny_bind (li.at ?_);simp only [Bool.not_true,Bool.false_eq_true,if_false];refine wpAny_of_eq ha ?_;unfold Builtin.«object.__getattribute__»;refine wpAny_bind (wpAny_of_eq (a:=(Value.ref x,[Value.str "__class__" t])) rfl ?_);refine wpAny_bind (wpAny_of_eq (a:=("__class__":Str)) rfl ?_);refine wpAny_bind (l0.at (wpAny_bind (l3.at ?_)))
 show wpAny _ _ (holding [Value.builtin "object.__class__"] (call (.builtin "getset_descriptor.__get__") [.builtin "object.__class__",.ref x,.ref D]) >>=ret) _ _ _
 refine wpAny_bind (wpAny_holding (wpAny_call (class_get (ox:=ox) (od:=none) X I ob (wpAny_pure ?_))));exact handed_on rfl (wpAny_pure k)
theorem Mf {x:Addr} {ox:Obj} (c:ExC K D) (hn:specialIn K (.builtin "object.__class__") "__get__"=some (some (.builtin "getset_descriptor.__get__"))) (ht:takesIn K (.builtin "object.__class__")=some true):
  KitX K (.ref x) (.ref D) (fun h=>PySem.W.InstAt h x ox D none) where
 ty:=fun _ _ _ I=>I.type
 it:=fun _ _ X _=>Nf X c.cl
 ne:=fun h tp dd its n sl X htp=>by
  obtain ⟨c',d',cd',sl',z⟩:=Ke c.cl;refine Bool.eq_false_iff.mpr fun q=>?_
  have e:D=tp:=Value.ref.inj (beq_iff_eq.mp q);subst e;cases (X _ _ z).symm.trans htp
 ca:=fun X I k=>S1 c.ga c.gn c.cl c.fi c.ob c.be hn ht X I k
theorem x6 {M:Model} {A:Around} {E:Value→Shared→Prop} {s:Shared} {Q:Bool→Shared→Prop} {e C G:Addr} {oe:Obj} {b:Bool} (X:K.In s.heap) (he:s.heap.get? e=some oe) (hc:oe.cls= .ref C) (g:ExC K G) (hs:subIn K (.ref C) (.ref G)=some b) (h:Q b s):
  wpAny M A (excMatches (.ref e) (.ref G)) Q E s:=by
 have l1:Looks M s.heap (typeOf (.ref G)) (.type "type"):=looks_typeIn X g.ty;have l2:Looks M s.heap (isSubtype (.ref G) (.type "BaseException")) true:=looks_subIn X g.be;have l3:Looks M s.heap (isSubtype (.ref C) (.ref G)) b:=looks_subIn X hs;have l4:Looks M s.heap (isType (.ref G)) true:=Nf X g.cl;have l5:Looks M s.heap (typeOf (.ref e)) (.ref C):=hc▸(Looks.ld he).andThen .now;have l6:Looks M s.heap (isSubtype (.type "type") (.type "tuple")) false:=Looks.of_pure tc_notTuple;unfold excMatches isInstance;refine wpAny_bind (wpAny_bind (l1.at (l6.at ?_)));have l7:Looks M s.heap (isExcClass (.ref G)) true:=by
  unfold isExcClass;exact l4.andThen (by rw [if_pos rfl];exact l2)
 rw [if_neg Bool.false_ne_true];refine wpAny_bind (wpAny_pure ?_);simp only [List.forIn_cons,List.forIn_nil];refine wpAny_bind (wpAny_bind (wpAny_bind (l7.at ?_)));simp only [Bool.not_true,Bool.false_eq_true,if_false];refine wpAny_pure (wpAny_pure (wpAny_bind (l5.at ?_)));refine wpAny_bind (wpAny_bind (wpAny_bind (l3.at ?_)));cases b with
 | true=>
  rw [if_pos rfl];exact wpAny_pure (wpAny_pure (wpAny_pure h))
 | false=>
  rw [if_neg Bool.false_ne_true];exact wpAny_pure (wpAny_pure (wpAny_pure h))
end
noncomputable abbrev pnd (X:Cx) (pins:List (Addr×Obj)):Cx:={ X with pn:=X.pn++pins }
theorem Ng {X:Cx} {pins:List (Addr×Obj)} {σ:L2.St} {H:Hp} {s:Shared} (I:Inv X pins σ H s):Inv (pnd X pins) [] σ H s:=by
 have ok:=I.ok;exact ⟨⟨ok.mod,ok.kind,ok.glob,ok.blt,ok.above,ok.inj,ok.has,ok.cab,ok.hd,ok.frames,ok.stk,ok.exf,ok.bs,ok.bsz,ok.noex,ok.exfs,ok.funs,ok.frf⟩,I.os,I.bare,I.base,I.loc,I.cell,I.free,I.freeC,fun p hp=>I.pin p (by rwa [append_nil] at hp),I.hok,I.len⟩
theorem ve {X:Cx} {pins ps:List (Addr×Obj)} {σ:L2.St} {H:Hp} {s:Shared} (ok:X.Ok) (I:Inv (pnd X pins) ps σ H s):Inv X pins σ H s:=
 ⟨ok,I.os,I.bare,I.base,I.loc,I.cell,I.free,I.freeC,fun p hp=>I.pin p (mem_append_left _ hp),I.hok,I.len⟩
theorem Nh {X:Cx} {pins ps:List (Addr×Obj)} {D:Ends} {f:Flow} {s:Shared} (ok:X.Ok) (h:SP (pnd X pins) ps D f s):SP X pins D f s:=by
 cases f with
 | next=>obtain ⟨σ,H,I,q⟩:=h;exact ⟨σ,H,ve ok I,q⟩
 | brk=>obtain ⟨σ,H,I,q⟩:=h;exact ⟨σ,H,ve ok I,q⟩
 | cont=>obtain ⟨σ,H,I,q⟩:=h;exact ⟨σ,H,ve ok I,q⟩
 | ret u=>obtain ⟨v,σ,H,I,r,q⟩:=h;exact ⟨v,σ,H,ve ok I,r,q⟩
def RecOf (oe:Obj) (C:Addr):Prop:=oe.cls= .ref C∧oe.dict=none∧ ∃vs,oe.data= .fields vs
theorem Mg {X:Cx} {tb:TS} {Good:Addr→Hp→Prop} {Ret:Addr→VK→Hp→Prop} {body:List Stmt} {x n:Str} {i:Nat} {np hpos pos:Pos} {b0:Stmt} {suite:List Stmt} {G:Addr}
  (hex:X.ex=[]) (hst:X.stack=X.env::X.outer) (hf:X.env.frame=some X.env.locals) (hN:X.N.Nodup) (hi:X.N[i]?=some n) (hl:X.env.kindOf n=some .local) (gx:Gl X x) (mx:X.mg x=some (.ref G)) (g:ExC X.K G)
  (hb: ∀pins,PSs ((pnd X pins).wish (Caught (pnd X pins) Good)) body tb) (hsub: ∀C H,Good C H→PySem.W.subIn X.K (.ref C) (.ref G)=some true)
  (hsu: ∀pins a oe C H0,Good C H0→RecOf oe C→ ∃ts,PSs (suiteCx (pnd X pins) a oe) (b0::suite) ts∧ ∀ (R:VK) σ H,Ret C R H→σ.length=X.N.length→σ[i]?=some (some (.ref a))→ts { nx:=fun _ _=>False,rt:=R } σ H) (hdb:(x==("__debug__":Str))=false:=by decide):
  PS X (.Try body [.ExceptHandler (some (.Name x np)) (some n) (b0::suite) hpos] [] [] pos) (fun D σ H=>tb D σ H∧ ∀C H',Good C H'→Ret C D.rt H'):=by
 intro pins s σ H D I hh;obtain ⟨h1,h2⟩:=hh;have ok:=I.ok;have IY:=Ng I;refine wpAny_Try_except (wpAny_mono (hb pins [] s σ H D (IY.wish _) h1) (fun f s1 q=>?_) fun e s1 q=>?_)
 ·have q2:=Nh ok (SP.unwish q)
  cases f with
  | next=>exact wpAny_execs_nil q2
  | brk=>exact q2
  | cont=>exact q2
  | ret u=>exact q2
 obtain ⟨a,C,T,ps,σ1,H1,h0,rfl,I1,F,hz,far,hg⟩:=q;have fe:frs (X.env::X.outer)=X.env.locals::X.fs:=by
  unfold Cx.fs frs;rw [List.filterMap_cons,hf]
 have st1:=I1.stack;rw [show (pnd X pins).stack=X.env::X.outer from hst] at st1;refine Bq (base:=X.base) (h0:=h0) (H:=H1) (by rw [ok.frames,hst]) st1 hf F hz (fun b z=>I1.hok.fresh z) fun h2' t ch F2 st hc=>?_
 rw [fe] at st;have I2:=Inv.stp I1 st fun b m=>⟨far b (hc b m).1,(hc b m).2⟩
 have ft: ∀ {h:Heap} {fl:Value},Fly h0 H1 h a (.ref C) (some t) fl→ ∀b∈[t],Far (pnd X pins) ps b∧H1 b=none:=fun F b m=>by
  rw [List.mem_singleton.mp m];exact ⟨far t (F.tb t rfl).1,(F.tb t rfl).2.1⟩
 refine land (fs:=X.env.locals::X.fs) F2 fun h3 F3 st3=>?_
 have I3:=Inv.stp I2 st3 (ft F2);have fa:=far a F.ne;have rcd: ∀ {h:Heap} {fl:Value},Fly h0 H1 h a (.ref C) (some t) fl→ ∃oe,h.get? a=some oe∧RecOf oe C:=fun F=>by
  obtain ⟨oe,vs,g1,g2,g3,_,g5⟩:=F.ob;exact ⟨oe,g1,g2,g5,vs,g3⟩
 have nf: ∀ {h:Heap} {oe:Obj} {sg:L2.St} {s:Shared} {ps},Inv (pnd X pins) ps sg H1 s→s.heap.get? a=some oe→RecOf oe C→a ∉ X.fs:=fun J e r m=>by
  obtain ⟨_,o,q,d⟩:=J.funs.mem m;rw [e] at q;cases q;obtain ⟨_,_,vs,z⟩:=r;exact d vs z
 obtain ⟨oe,hoe,hrec⟩:=rcd F3;have nc: ∀ {oe:Obj},RecOf oe C→ ∀v,oe.data≠ .cell v:=fun r v z=>by
  obtain ⟨_,_,vs,y⟩:=r;rw [y] at z;cases z
 refine wpAny_handleBy_cons (codeAny_handlers_test ?_) (by intro q;cases q);refine u6 (X:=suiteCx (pnd X pins) a oe) (uf I3 hoe F3.he fa.2.1 (nf (h:=h3) I3 hoe hrec) (nc hrec)) gx mx ?_ hdb;refine x6 I3.kIn hoe hrec.1 g (hsub C H1 hg) (codeAny_handlers_suite_as ?_);refine land (fs:=X.env.locals::X.fs) F3 fun h4 F4 st4=>?_
 have I4:=Inv.stp I3 st4 (ft F3);obtain ⟨oe4,hoe4,hrec4⟩:=rcd F4;have I4p:=I4.pins_of (pins':=[(a,oe4)]) fun p hp=>by
  rw [List.mem_singleton.mp hp];exact ⟨hoe4,F4.he,fa.2.1,nf (h:=h4) I4 hoe4 hrec4,nc hrec4⟩
 refine wq (X:=pnd X pins) I4p hN hi (.inl hl) (show RelV (.ref a) (.ref a) from rfl) (fun s5 I5=>?_) (.inr hl);obtain ⟨p1,p2,p3,p4,p5⟩:=I5.pin (a,oe4) (mem_append_right _ (List.mem_singleton.mpr rfl));obtain ⟨ts,ht,hts⟩:=hsu pins a oe4 C H1 hg hrec4;have li:i < σ1.length:=by rw [I1.len];exact (List.getElem?_eq_some_iff.mp hi).1
 refine wpAny_mono (ht [(a,oe4)] s5 _ H1 _ (uf I5 p1 p2 p3 p4 p5) (hts D.rt _ H1 (h2 C H1 hg) (by rw [length_set];exact I1.len) (by rw [getElem?_set_self li]))) (fun f s6 q=>?_) fun e s6 q=>False.elim q
 cases f with
 | ret u=>
  obtain ⟨v,σ6,H6,I6,r6,q6⟩:=q;have I6:=ve ok (Au I1.ok I6);obtain ⟨m,hn,_⟩:=I6.loc;exact wpAny_nameGoes hl hn (by rw [ok.kind];rfl) fun h' m' hn' hs'=>⟨v,_,H6,Inv.drop I6 hn' hs',r6,q6⟩
 | next=>
  obtain ⟨_,_,_,z⟩:=q;exact False.elim z
 | brk=>
  obtain ⟨_,_,_,z⟩:=q;exact False.elim z
 | cont=>
  obtain ⟨_,_,_,z⟩:=q;exact False.elim z
section
open PySem.W
theorem wv {X:Cx} {a C:Addr} {oe:Obj} {cV:V} {c:Value} {b:Bool} (hp:(a,oe)∈X.pn) (r:RecOf oe C) (x:ExC X.K C) (hn:specialIn X.K (.builtin "object.__class__") "__get__"=some (some (.builtin "getset_descriptor.__get__"))) (ht:takesIn X.K (.builtin "object.__class__")=some true)
  (hc: ∀u,RelV cV u→u=c) (e:kitOne X.K (.ref C) c=some b):CallR X (.builtin "isinstance") (fun xs H Q=>xs=[.ref a,cV]∧Q (.bl b) H):=by
 intro pins s σ H xs us Q I rv h;obtain ⟨rfl,q⟩:=h;obtain ⟨u1,u2,rfl,r1,r2⟩:=rv.two;cases (show u1=Value.ref a from r1);cases hc _ r2;obtain ⟨g1,g2,vs,g3⟩:=r;refine kia_one (Mf (x:=a) (ox:=oe) x hn ht) I.kIn ⟨(I.pin (a,oe) (mem_append_left _ hp)).1,g1,?_,?_⟩ e (fun z=>nomatch z) fun tk=>⟨.bl b,H,I.tok tk,rfl,q⟩
 ·unfold notCls
  rw [g3]
 ·rw [g2]
  trivial
end
end RG
end
section
namespace RG
open PySem PySem.Spec PyProof.Rows L2
theorem Kf {n:Nat}: ∀ (ts:List Str) (k:Nat) (acc:Str),(∀t∈ts,t.length≤n)→(textFrom k acc ts).length≤acc.length+ts.length*(n+2)
 | [],k,acc,_=>by show acc.length≤_;omega
 | t::r,k,acc,h=>by
  have ih:=Kf r (k+1) (acc++(if k > 0 then ", " else "":String)++t) fun u hu=>h u (mem_cons_of_mem _ hu)
  have ht:=h t mem_cons_self;have e:(Str.ofString (if k > 0 then ", " else "":String)).length≤2:=by split <;> decide
  rw [strLen_append,strLen_append] at ih
  show (textFrom (k+1) _ r).length≤_
  rw [length_cons,Nat.succ_mul];omega
theorem Fw {n:Nat} {sep:Str} (hs:sep.length=2): ∀ts:List Str,(∀t∈ts,t.length≤n)→(Str.join sep ts).length≤ts.length*(n+2)
 | [],_=>by show Str.empty.length≤_;exact Nat.zero_le _
 | [t],h=>by
  show t.length≤_
  have:=h t mem_cons_self
  simp;omega
 | t::u::r,h=>by
  have ih:=Fw hs (u::r) fun v hv=>h v (mem_cons_of_mem _ hv)
  have ht:=h t mem_cons_self
  show (t++sep++Str.join sep (u::r)).length≤_
  rw [strLen_append,strLen_append,length_cons,Nat.succ_mul];omega
theorem vf: ∀ds:List PyData,PyData.shownAll ds=ds.map PyData.shown
 | []=>rfl
 | d::r=>by rw [PyData.shownAll,vf r];rfl
theorem P5 {n:Nat} {ds:List PyData} (h: ∀d∈ds,d.shown.length≤n):(PyData.list ds).shown.length≤2+ds.length*(n+2):=by
 have:=Kf (n:=n) (ds.map PyData.shown) 0 "[" fun t ht=>by obtain ⟨d,h1,rfl⟩:=List.mem_map.mp ht;exact h d h1
 rw [PyData.shown,vf];unfold listText;rw [strLen_append];rw [length_map] at this;have e1:(Str.ofString "[").length=1:=by decide
 have e2:(Str.ofString "]").length=1:=by decide
 omega
theorem P6 {n:Nat} {ds:List PyData} (h: ∀d∈ds,d.shown.length≤n):(PyData.tuple ds).shown.length≤3+ds.length*(n+2):=by
 have:=Fw (n:=n) (sep:=Str.ofString ", ") (by decide) (ds.map PyData.shown) fun t ht=>by obtain ⟨d,h1,rfl⟩:=List.mem_map.mp ht;exact h d h1
 rw [PyData.shown,vf];unfold tupleText;rw [strLen_append,strLen_append];rw [length_map] at this;have e1:(Str.ofString "(").length=1:=by decide
 have e2:(Str.ofString (if (List.map PyData.shown ds).length==1 then ",)" else ")":String)).length≤2:=by split <;> decide
 omega
theorem P7 {i:Int} (h0:0≤i) (h:i < 1000):(PyData.int i).shown.length≤10:=by
 have e:=int_text_length_le10 (a:=i) (k:=3) (by decide) (by omega);rw [PyData.shown,PySem.ofString_length];omega
noncomputable def shpD:D→Bool
 | .list _=>true
 | .tuple _=>true
 | .str _=>true
 | _=>false
noncomputable def showOk (d:D):Bool:=d.canLay0 && d.showable && decide (d.depth≤8) && decide (d.shown.length≤1000000)
section
variable {X:Cx} {pins:List (Addr×Obj)} {σ:L2.St} {H:Hp} {s:Shared} {k:Nat}
theorem P8 {E:Value→Shared→Prop} {Q:Value→Shared→Prop} {v:V} {u:Value} {d:D} (I:Inv X pins σ H s) (hr:Room k X.A) (i:Is X.K H v d) (r:RelV v u) (hs:showOk d=true) (hd:(∃ds,d= .list ds)∨(∃ds,d= .tuple ds)∨ ∃x,d= .str x)
  (q: ∀h' t tk,(∀b o,s.heap.get? b=some o→h'.get? b=some o)→Q (.str d.shown t) { s with heap:=h',toks:=tk }):wpAny (model X.prog X.w) X.A (pyReprObj u) Q E s:=by
 unfold showOk at hs;simp only [Bool.and_eq_true,decide_eq_true_eq] at hs;obtain ⟨⟨⟨h1,h2⟩,h3⟩,h4⟩:=hs;have hsz:d.shown.length≤sizeLine:=Nat.le_trans h4 (by decide);have hu:=hr.un;obtain ⟨as,ra⟩:=Is.reads I i h1 r;have nd:=PyData.noDict_hsm (as:=as) (PyData.hasDict_of_canLay d h1);have ref: ∀a,u= .ref a→wpAny (model X.prog X.w) X.A (pyReprObj u) Q E s:=fun a e=>by
  subst e;exact pyReprObj_of_reads ra h2 nd hr.gd (by omega) (fun _ _ z=>z) (fun h' t tk z=>q h' t tk z) hsz
 rcases hd with ⟨ds,rfl⟩ | ⟨ds,rfl⟩ | ⟨x,rfl⟩
 ·cases ra
  exact ref _ rfl
 ·cases ra
  exact ref _ rfl
 ·cases i
  obtain ⟨t,rfl⟩:=(show ∃t,u=Value.str x t from r)
  exact pyReprObj_str (by have:=q s.heap s.toks (s.toks+1) fun _ _ z=>z;simpa [PyData.shown] using this) (by simpa [PyData.shown] using hsz)
end
def Shw (K:Frag) (H:Hp) (σ:L2.St) (m:Ren→Option D):Prop:= ∃ρ d,Ro K H σ ρ∧m ρ=some d∧showOk d=true∧((∃ds,d= .list ds)∨(∃ds,d= .tuple ds)∨ ∃x,d= .str x)
theorem Shw.up {K:Frag} {H H1:Hp} {σ:L2.St} {m:Ren→Option D} (h:Shw K H σ m) (s:Same H H1):Shw K H1 σ m:=
 let ⟨ρ,d,ro,r⟩:=h;⟨ρ,d,ro.up s,r⟩
section
variable {X:Cx} {pins:List (Addr×Obj)} {σ:L2.St} {k:Nat} {e e':Expr} {m m':Ren→Option D} {tx tx':Str} {tk tk':Nat} {p1 p2 p3 p4 pos:Pos}
theorem Br {H:Hp} {s:Shared} {acc:Str} {rest:List Expr} {Q:Str→Shared→Prop} (hr:Room k X.A) (he:XE X e m) (I:Inv X pins σ H s) (h:Shw X.K H σ m) (hz:acc.length+tx.length+1000000≤sizeLine)
  (q: ∀acc' s' H',Inv X pins σ H' s'→Same H H'→acc'.length≤acc.length+tx.length+1000000→Joins (model X.prog X.w) X.A X.xe (evalEach rest X.env) acc' Q s'):
  Joins (model X.prog X.w) X.A X.xe (evalEach (.Constant (.str tx) tk p1:: .FormattedValue e 114 none p2::rest) X.env) acc Q s:=by
 obtain ⟨ρ,d,ro,e1,h1,h2⟩:=h;have h4:d.shown.length≤1000000:=by
  unfold showOk at h1;simp only [Bool.and_eq_true,decide_eq_true_eq] at h1;exact h1.2
 refine Calls.Constant_str ⟨_,_,rfl,by rw [strLen_append];omega,?_⟩;refine wpAny_FormattedValue_repr (thn (he.ok pins _ σ H (fun v H1=>Same H H1∧Is X.K H1 v d) (I.tok _) ⟨ρ,d,ro,e1,fun v H1 s1 i1=>⟨s1,i1⟩⟩) fun u s1 h0z=>?_);obtain ⟨v,H1,I1,r1,s2,i1⟩:=h0z;refine P8 I1 hr i1 r1 h1 h2 fun h' t n kp=>?_
 have go: ∀s',Inv X pins σ H1 s'→Joins (model X.prog X.w) X.A X.xe (evalEach rest X.env) (acc++tx++d.shown) Q s':=fun s' I'=>q _ s' H1 I' s2 (by rw [strLen_append,strLen_append];omega);have z:(acc++tx++d.shown).length≤sizeLine:=by rw [strLen_append,strLen_append];omega
 have I2:Inv X pins σ H1 { s1 with heap:=h',toks:=n }:=I1.kept kp;exact wpAny_formatField_str ⟨_,_,rfl,z,go _ I2⟩ ⟨_,_,rfl,z,go _ (I2.tok _)⟩ (Nat.le_trans h4 (by decide))
theorem Uz (hr:Room k X.A) (he:XE X e m) (hx:tx.length≤1000:=by decide):
  PE X (.JoinedStr [.Constant (.str tx) tk p1,.FormattedValue e 114 none p2] pos) (fun σ H Q=>Shw X.K H σ m∧ ∀x H',Same H H'→Q (.str x) H'):=by
 intro pins s σ H Q I h;refine wpAny_JoinedStr (Br (m:=m) hr he I h.1 (by have:Str.empty.length=0:=rfl;rw [this,sizeLine_eq];omega) fun acc s1 H1 I1 s2 z=>⟨?_,.str acc,H1,I1.tok _,⟨_,rfl⟩,h.2 acc H1 s2⟩)
 have:Str.empty.length=0:=rfl
 rw [sizeLine_eq];omega
theorem U0 (hr:Room k X.A) (he:XE X e m) (he':XE X e' m') (hx:tx.length≤1000:=by decide) (hx':tx'.length≤1000:=by decide):
  PE X (.JoinedStr [.Constant (.str tx) tk p1,.FormattedValue e 114 none p2,.Constant (.str tx') tk' p3,.FormattedValue e' 114 none p4] pos) (fun σ H Q=>Shw X.K H σ m∧Shw X.K H σ m'∧ ∀x H',Same H H'→Q (.str x) H'):=by
 intro pins s σ H Q I h;have z0:Str.empty.length=0:=rfl;refine wpAny_JoinedStr (Br (m:=m) hr he I h.1 (by rw [z0,sizeLine_eq];omega) fun acc s1 H1 I1 s2 z=>Br (m:=m') hr he' I1 (h.2.1.up s2) (by rw [sizeLine_eq];omega) fun acc2 s3 H3 I3 s4 z2=>⟨?_,.str acc2,H3,I3.tok _,⟨_,rfl⟩,h.2.2 acc2 H3 (s2.trans s4)⟩);rw [sizeLine_eq];omega
end
inductive FlR where
 | fl (f:Fl) | ex (C:Addr)
def endsR (K:Frag) (H:Hp) (D:Ends) (E:XK):FlR→Prop
 | .fl f=>ends K H D f
 | .ex C=>∀e H',Same H H'→E (.ref e) (some C) H'
theorem ww {K:Frag} {H H1:Hp} {D:Ends} {E:XK} {o:FlR} (s1:Same H H1) (k:endsR K H D E o):endsR K H1 D E o:=by
 cases o with
 | fl f=>exact Od s1 k
 | ex C=>exact fun e H' s'=>k e H' (s1.trans s')
def tR (K:Frag) (E:XK) (m:Ren→Option FlR):TS:=fun D σ H=>∃ρ o,Ro K H σ ρ∧m ρ=some o∧endsR K H D E o
noncomputable def liftR (m:Ren→Option Fl):Ren→Option FlR:=fun ρ=>(m ρ).map .fl
noncomputable def seqR (m n:Ren→Option FlR):Ren→Option FlR:=fun ρ=>(m ρ).bind fun o=>match o with
 | .fl (.nx ρ')=>n ρ'
 | o=>some o
noncomputable def ifR (mt:Ren→Option Bool) (m n:Ren→Option FlR):Ren→Option FlR:=fun ρ=>(mt ρ).bind fun b=>if b=true then m ρ else n ρ
section
variable {X:Cx} {E:XK} {st:Stmt} {rest a b:List Stmt} {c:Expr} {pos:Pos} {mf:Ren→Option Fl} {mt:Ren→Option Bool} {m n:Ren→Option FlR}
theorem Kg (h:XS X st mf):PS X st (tR X.K E (liftR mf)):=df h.ok fun D σ H h0=>by
 obtain ⟨ρ,o,ro,q,k⟩:=h0;obtain ⟨f,h1,q⟩:=map_some q;subst q;exact ⟨ρ,f,ro,h1,k⟩
theorem gv:PSs X [] (tR X.K E (fun ρ=>some (.fl (.nx ρ)))):=rf Do fun D σ H h0z=>by obtain ⟨ρ,o,ro,q,k⟩:=h0z;cases q;exact k σ H (Same.refl H) ro
theorem cv (h1:PS X st (tR X.K E m)) (h2:PSs X rest (tR X.K E n)):PSs X (st::rest) (tR X.K E (seqR m n)):=rf (js h1 h2) fun D σ H h0=>by
 obtain ⟨ρ,o,ro,q,k⟩:=h0;obtain ⟨o1,e1,q⟩:=bind_some q;refine ⟨ρ,o1,ro,e1,?_⟩;cases o1 with
 | ex C=>cases q;exact k
 | fl f=>
  cases f with
  | nx ρ'=>exact fun σ' H' s' ro'=>⟨ρ',o,ro',q,ww s' k⟩
  | rt d=>cases q;exact k
theorem C9 (hc:XT X c mt) (ha:PSs X a (tR X.K E m)) (hb:PSs X b (tR X.K E n)):PS X (.If c a b pos) (tR X.K E (ifR mt m n)):=df (Nr hc.ok ha hb) fun D σ H h0=>by
 obtain ⟨ρ,o,ro,q,k⟩:=h0;obtain ⟨z,hz,q⟩:=bind_some q;refine ⟨ρ,z,ro,hz,fun H1 s1=>?_⟩;cases z with
 | true=>exact ⟨ρ,o,ro.up s1,q,ww s1 k⟩
 | false=>exact ⟨ρ,o,ro.up s1,q,ww s1 k⟩
end
noncomputable abbrev bmV:List Value:=[.type "ValueError",.type "Exception",.type "BaseException",.type "object"]
def RaiseC (K:Frag) (C:Addr):Prop:= ∃ (bm:List Value) (N:Addr) (nm q:Str) (bs:List Value) (hd:Bool) (sn:List Str) (sub:List Value) (ab:Bool) (col:Option Bool) (dd:Option Addr) (k0 k1 k2 k3 k5:Option Value),
 K.lookup C=some (excClassObj nm q C N bs bm hd sn sub ab col dd k0 k1 k2 k3 k5 "ValueError.__new__")∧PySem.W.tailIn K bmV bm=true∧PySem.W.nsOkIn K N=true∧nsIn K N "__init__"=some none
theorem Mh {K:Frag} {C:Addr} {h:Heap} (X:K.In h) (c:RaiseC K C): ∃bm N nm q bs hd sn sub ab col dd k0 k1 k2 k3 k5 mN,h.get? C=some (excClassObj nm q C N bs bm hd sn sub ab col dd k0 k1 k2 k3 k5 "ValueError.__new__")∧h.Ns N mN∧mN "__init__"=none∧OwnTail h bmV bm:=by
 obtain ⟨bm,N,nm,q,bs,hd,sn,sub,ab,col,dd,k0,k1,k2,k3,k5,c1,c2,c3,c4⟩:=c;exact ⟨bm,N,nm,q,bs,hd,sn,sub,ab,col,dd,k0,k1,k2,k3,k5,h.nsMap N,X _ _ c1,Heap.Ns.of_isNs (PySem.W.isNs_of_in X c3),PySem.W.nsMap_none_of_in X c3 c4,PySem.W.tail_of_in X c2⟩
section
variable {P:Program} {w:World} {K:Frag} {mg:Str→Option Value} {base:Heap} {N:List Str} {qual:Str} {scope:Scope} {f:Addr} {cd:Value} {A:Around} {outer:List Env} {s:Shared} {H:Hp} {E:XK}
theorem Fx {x:Str} {C:Addr} {np cpos pos:Pos} {arg:Expr} {te:TE} (hh:A.handled=none) (gx:Gl (cxOf (CX1 P w) P w K mg base N qual scope f cd A outer s H E) x) (mx:mg x=some (.ref C)) (c:RaiseC K C) (ha:PE (cxOf (CX1 P w) P w K mg base N qual scope f cd A outer s H E) arg te)
  (h1:starEach [arg] (envOfC qual scope s.heap.objs.size f cd)=(false,eval arg (envOfC qual scope s.heap.objs.size f cd))::starEach [] (envOfC qual scope s.heap.objs.size f cd):=by rfl) (h2:(backTo cpos (starEach [arg] (envOfC qual scope s.heap.objs.size f cd))).any (·.1)=false:=by rfl) (hdb:(x==("__debug__":Str))=false:=by decide):
  PS (cxOf (CX1 P w) P w K mg base N qual scope f cd A outer s H E) (.Raise (some (.Call (.Name x np) [arg] [] cpos)) none pos) (fun _ σ H1=>te σ H1 fun v H2=> [v].length≤sizeLine∧ ∀e,E (.ref e) (some C) H2):=by
 intro pins s1 σ H1 D I h;obtain ⟨bm,N',nm,q,bs,hd,sn,sub,ab,col,dd,k0,k1,k2,k3,k5,mN,g1,g2,g3,g4⟩:=Mh I.ok.mod.kin c;refine wpAny_Raise_call_subU (bm:=bm) (C:=C) (N:=N') (nm:=nm) (q:=q) (bs:=bs) (hdct:=hd) (sn:=sn) (sub:=sub) (ab:=ab) (col:=col) (dd:=dd) (k0:=k0) (k1:=k1) (k2:=k2) (k3:=k3) (k5:=k5) (mN:=mN) F.excBase_ValueError (by decide) F.excBase_ValueError (g4.hasType (by decide)) hh h2 g3 (u6 I gx mx ⟨rfl,?_⟩ hdb);have p:=cw ha fh h1 cpos pins s1 σ H1 (fun vs H2=>vs.length≤sizeLine∧ ∀e,E (.ref e) (some C) H2) I h;have h1':starEach [arg] (cxOf (CX1 P w) P w K mg base N qual scope f cd A outer s H E).env=_:=h1;rw [h1'] at p;rw [h1'];refine Calls.evalArgs_plain (thn p fun us s2 h0z=>?_);obtain ⟨vs,H2,I2,r,q2⟩:=h0z;exact ⟨rfl,by rw [←r.length];exact q2.1,I2.bk _ _ g1,g2.keeps I2.bk,g4.keeps I2.bk,fun h' e m=>thrown I2 m (q2.2 e)⟩
noncomputable def raiseR (m:Ren→Option D) (C:Addr):Ren→Option FlR:=fun ρ=>(m ρ).bind fun d=>if showOk d=true∧shpD d=true then some (.ex C) else none
theorem Kh {K:Frag} {H:Hp} {σ:L2.St} {m:Ren→Option D} {ρ:Ren} {d:D} (ro:Ro K H σ ρ) (e:m ρ=some d) (h1:showOk d=true) (h2:shpD d=true):Shw K H σ m:=by
 refine ⟨ρ,d,ro,e,h1,?_⟩;cases d with
 | list ds=>exact .inl ⟨ds,rfl⟩
 | tuple ds=>exact .inr (.inl ⟨ds,rfl⟩)
 | str x=>exact .inr (.inr ⟨x,rfl⟩)
 | _=>cases h2
variable {k:Nat} {x:Str} {C:Addr} {np cpos pos p1 p2 p3 p4 p5:Pos} {e e':Expr} {m m':Ren→Option D} {tx tx':Str} {tk tk':Nat}
theorem Fy (hr:Room k (A.deeper (envOfC qual scope s.heap.objs.size f cd))) (gx:Gl (cxOf (CX1 P w) P w K mg base N qual scope f cd A outer s H E) x) (mx:mg x=some (.ref C)) (c:RaiseC K C) (he:XE (cxOf (CX1 P w) P w K mg base N qual scope f cd A outer s H E) e m) (hx:tx.length≤1000:=by decide) (hdb:(x==("__debug__":Str))=false:=by decide):
  PS (cxOf (CX1 P w) P w K mg base N qual scope f cd A outer s H E) (.Raise (some (.Call (.Name x np) [.JoinedStr [.Constant (.str tx) tk p1,.FormattedValue e 114 none p2] p3] [] cpos)) none pos) (tR K E (raiseR m C)):=
 df (Fx (show A.handled=none from hr.hd) gx mx c (Uz (k:=k) hr he hx) (hdb:=hdb)) fun D σ H1 ⟨ρ,o,ro,q,kk⟩=>by
  obtain ⟨d,e1,q⟩:=bind_some q;split at q
  ·rename_i h
   cases q;exact ⟨Kh ro e1 h.1 h.2,fun x H' s'=>⟨by show 1≤sizeLine;decide,fun a=>kk a H' s'⟩⟩
  ·cases q
noncomputable def raiseR2 (m m':Ren→Option D) (C:Addr):Ren→Option FlR:=fun ρ=>(m ρ).bind fun d=>(m' ρ).bind fun d'=>if (showOk d=true∧shpD d=true)∧showOk d'=true∧shpD d'=true then some (.ex C) else none
theorem Ki (hr:Room k (A.deeper (envOfC qual scope s.heap.objs.size f cd))) (gx:Gl (cxOf (CX1 P w) P w K mg base N qual scope f cd A outer s H E) x) (mx:mg x=some (.ref C)) (c:RaiseC K C) (he:XE (cxOf (CX1 P w) P w K mg base N qual scope f cd A outer s H E) e m) (he':XE (cxOf (CX1 P w) P w K mg base N qual scope f cd A outer s H E) e' m')
  (hx:tx.length≤1000:=by decide) (hx':tx'.length≤1000:=by decide) (hdb:(x==("__debug__":Str))=false:=by decide):
  PS (cxOf (CX1 P w) P w K mg base N qual scope f cd A outer s H E) (.Raise (some (.Call (.Name x np) [.JoinedStr [.Constant (.str tx) tk p1,.FormattedValue e 114 none p2,.Constant (.str tx') tk' p3,.FormattedValue e' 114 none p4] p5] [] cpos)) none pos) (tR K E (raiseR2 m m' C)):=
 df (Fx (show A.handled=none from hr.hd) gx mx c (U0 (k:=k) hr he he' hx hx') (hdb:=hdb)) fun D σ H1 ⟨ρ,o,ro,q,kk⟩=>by
  obtain ⟨d,e1,q⟩:=bind_some q;obtain ⟨d',e2,q⟩:=bind_some q;split at q
  ·rename_i h
   cases q;exact ⟨Kh ro e1 h.1.1 h.1.2,Kh ro e2 h.2.1 h.2.2,fun x H' s'=>⟨by show 1≤sizeLine;decide,fun a=>kk a H' s'⟩⟩
  ·cases q
end
noncomputable def retR:D ⊕ Addr→FlR
 | .inl d=> .fl (.rt d)
 | .inr C=> .ex C
def spR (K:Frag) (g:List D→Option (D ⊕ Addr)):Sp:=fun vs H Q E=>∃ds o,Are K H vs ds∧g ds=some o∧endsR K H { nx:=fun _ _=>False,rt:=Q } E (retR o)
theorem Vz {P:Program} {w:World} {K:Frag} {mg:Str→Option Value} {base:Heap} {x qual:Str} {st:Stmt} {fa:Addr} {fd:FuncData} {N ps:List Str} {k:Nat} {g:List D→Option (D ⊕ Addr)} {m:Ren→Option FlR} (F:Fun K x qual st fa fd) (S:FnScope N ps (defScope st)) (hl: ∀ds o,g ds=some o→ds.length=ps.length)
  (hb: ∀ (cdv:Value) (A:Around) (outer:List Env) (s:Shared) (H:Hp) (E:XK),Room k (A.deeper (envOfC qual (defScope st) s.heap.objs.size fa cdv))→PSs (cxOf (CX1 P w) P w K mg base N qual (defScope st) fa cdv A outer s H E) (defBody st) (tR K E m))
  (hm: ∀ds o,g ds=some o→m (ds.map some++List.replicate (N.length - ps.length) none)=some (retR o)):FnOk P w K mg base (CX1 P w) (k+1) fa fd ps (spR K g):=by
 obtain ⟨oc,od,kV,doc,pm,an,cdv,ct,osl,rfl,lk,hcd⟩:=F.ex;refine Nx lk hcd S (fun vs H Q E h=>?_) fun A outer s H vs Q E hr h=>?_
 ·obtain ⟨ds,o,i,e,_⟩:=h
  rw [i.length];exact hl ds o e
 ·obtain ⟨ds,o,i,e,q⟩:=h
  refine ⟨_,hb cdv A outer s H E hr,?_⟩;have ro:=i.start N;rw [hl ds o e] at ro;refine ⟨_,_,ro,hm ds o e,?_⟩;cases o with
  | inl d=>exact q
  | inr C=>exact q
end RG
end
section
namespace RG
open PySem PySem.Spec PyProof.Rows L2
def Preguarded (p:(List Row×List Kd)×Mac×Nat):Prop:=MOk p.1.1 p.2.2 p.2.1∧p.2.1.s=0∧p.2.2≤200∧p.1.2.length≤100
noncomputable def encguarded (p:(List Row×List Kd)×Mac×Nat):List D:=[eRows p.1.1,eKs p.1.2,.list p.2.1.p,.tuple p.2.1.c.l,.int (p.2.2:Int)]
def Gout (CF CS:Addr) (p:(List Row×List Kd)×Mac×Nat) (o:D ⊕ Addr):Prop:=
 (∃f,FaultOk p.1.1 p.1.2 f∧o= .inr CF)∨ ∃F,FineOk p.1.1 p.1.2 F∧((kindsP p.2.1.p≠p.1.2∧o= .inr CS)∨(kindsP p.2.1.p=p.1.2∧o= .inl (endM p.1.1 p.2.2 p.2.1)))
structure Cxs (V:Vv) (G N F S:Addr):Prop where
 mG:V.mg "GuardError"=some (.ref G)
 mN:V.mg "NoKind"=some (.ref N)
 mF:V.mg "NotFine"=some (.ref F)
 mS:V.mg "NotSo"=some (.ref S)
 mV:V.mg "ValueError"=none
 hn:PySem.W.specialIn V.K (.builtin "object.__class__") "__get__"=some (some (.builtin "getset_descriptor.__get__"))
 ht:PySem.W.takesIn V.K (.builtin "object.__class__")=some true
 g:ExC V.K G
 rF:RaiseC V.K F
 rS:RaiseC V.K S
noncomputable def pickR (o:Option FlR):Option (D ⊕ Addr):=match o with
 | some (.fl (.rt d))=>some (.inl d)
 | some (.ex C)=>some (.inr C)
 | _=>none
theorem Da {P:Program} {w:World} {K:Frag} {mg:Str→Option Value} {base:Heap} {x qual:Str} {st:Stmt} {fa:Addr} {fd:FuncData} {N ps:List Str} {k:Nat} {m:Ren→Option FlR} {α:Type} {Pre:α→Prop} {enc:α→List D} {Post:α→D ⊕ Addr→Prop} (F:Fun K x qual st fa fd) (S:FnScope N ps (defScope st)) (hl: ∀p,Pre p→(enc p).length=ps.length)
  (hb: ∀ (cdv:Value) (A:Around) (outer:List Env) (s:Shared) (H:Hp) (E:XK),Room k (A.deeper (envOfC qual (defScope st) s.heap.objs.size fa cdv))→PSs (cxOf (CX1 P w) P w K mg base N qual (defScope st) fa cdv A outer s H E) (defBody st) (tR K E m))
  (hm: ∀p,Pre p→ ∃o,m ((enc p).map some++List.replicate (N.length - ps.length) none)=some (retR o)∧Post p o): ∃g,(∀p,Pre p→ ∃o,g (enc p)=some o∧Post p o)∧FnOk P w K mg base (CX1 P w) (k+1) fa fd ps (spR K g):=by
 have pk: ∀o,pickR (some (retR o))=some o:=fun o=>by cases o <;> rfl
 refine ⟨fOf Pre enc fun ds=>pickR (m (ds.map some++List.replicate (N.length - ps.length) none)),fun p hp=>?_,Vz F S (fun ds d h=>?_) hb fun ds d h=>?_⟩
 ·obtain ⟨d,h1,h2⟩:=hm p hp
  exact ⟨d,by rw [Bj hp,h1];exact pk d,h2⟩
 ·obtain ⟨p,h1,rfl,_⟩:=dc h
  exact hl p h1
 ·obtain ⟨p,h1,rfl,h2⟩:=dc h
  obtain ⟨d',h3,_⟩:=hm p h1;rw [h3] at h2 ⊢;rw [pk] at h2;cases h2;rfl
theorem RoadTo.mem {rs:List Row} {given:List Kd} {road:List Int} {s:Nat} {ks:List Kd} (h:RoadTo rs given road s ks): ∀x∈road,0≤x∧x < (rs.length:Int):=by
 induction h with
 | start h=>intro x hx;rw [List.mem_singleton.mp hx];exact ⟨Int.le_refl _,by omega⟩
 | step _ _ _ _ _ h ih=>
  intro x hx;rcases List.mem_append.mp hx with hx | hx
  ·exact ih x hx
  ·rw [List.mem_singleton.mp hx]
   exact ⟨by omega,by omega⟩
theorem Kj {ds:List D} (h: ∀d∈ds,d.canLay0=true∧d.showable=true∧d.depth=0∧d.shown.length≤20):PyData.canLayAll0 ds=true∧PyData.showableAll ds=true∧PyData.depthAll ds=0:=by
 induction ds with
 | nil=>exact ⟨rfl,rfl,rfl⟩
 | cons d r ih=>
  obtain ⟨a1,a2,a3,_⟩:=h d mem_cons_self;obtain ⟨b1,b2,b3⟩:=ih fun x hx=>h x (mem_cons_of_mem _ hx)
  refine ⟨?_,?_,?_⟩
  ·rw [PyData.canLayAll0,a1,b1];rfl
  ·rw [PyData.showableAll,a2,b2];rfl
  ·rw [PyData.depthAll,a3,b3];rfl
theorem F0 {ds:List D} (h: ∀d∈ds,d.canLay0=true∧d.showable=true∧d.depth=0∧d.shown.length≤20) (hl:ds.length≤1000):
  (PyData.list ds).canLay0=true∧(PyData.list ds).showable=true∧(PyData.list ds).depth≤1∧(PyData.list ds).shown.length≤30000:=by
 obtain ⟨a,b,c⟩:=Kj h;refine ⟨by rw [PyData.canLay0];exact a,by rw [PyData.showable];exact b,by rw [PyData.depth,c];exact Nat.le_refl _,?_⟩
 have:=P5 (n:=20) (ds:=ds) fun d hd=>(h d hd).2.2.2
 omega
theorem Kk {l:List Int} (h: ∀x∈l,0≤x∧x < 1000) (hl:l.length≤1000):(eInts l).canLay0=true∧(eInts l).showable=true∧(eInts l).depth≤1∧(eInts l).shown.length≤30000:=by
 refine F0 (fun d hd=>?_) (by rw [length_map];exact hl);obtain ⟨x,hx,rfl⟩:=List.mem_map.mp hd;obtain ⟨h0,h1⟩:=h x hx;refine ⟨rfl,?_,rfl,Nat.le_trans (P7 h0 h1) (by decide)⟩;rw [PyData.showable,decide_eq_true_iff];have hb:x.natAbs < 2 ^ 1920:=Nat.lt_of_lt_of_le (show x.natAbs < 1024 by omega) (by decide)
 by_cases z:x.natAbs=0
 ·rw [z];decide
 ·exact (Nat.log2_lt z).mpr hb
theorem P9 (k:Kd):k.d.canLay0=true∧k.d.showable=true∧k.d.depth=0∧k.d.shown.length≤20:=by
 cases k <;> exact ⟨by decide+kernel,rfl,rfl,by decide+kernel⟩
theorem Kl {ks:List Kd} (h:ks.length≤1000):showOk (eKs ks)=true:=by
 obtain ⟨a,b,c,d⟩:=F0 (ds:=ks.map Kd.d) (fun d hd=>by obtain ⟨k,_,rfl⟩:=List.mem_map.mp hd;exact P9 k) (by rw [length_map];exact h);unfold showOk eKs;rw [a,b,decide_eq_true (Nat.le_trans c (by decide)),decide_eq_true (Nat.le_trans d (by decide))];rfl
theorem F5 {x:Str} {ds:List D} (hx:PyData.strOk x=true) (hs:(reprText x).length≤20) (hd: ∀d∈ds,d.canLay0=true∧d.showable=true∧d.depth≤1∧d.shown.length≤30000) (hl:ds.length≤2):showOk (.tuple (.str x::ds))=true:=by
 have al:PyData.canLayAll0 ds=true∧PyData.showableAll ds=true∧PyData.depthAll ds≤1:=by
  clear hl
  induction ds with
  | nil=>exact ⟨rfl,rfl,Nat.zero_le _⟩
  | cons d r ih=>
   obtain ⟨a1,a2,a3,_⟩:=hd d mem_cons_self;obtain ⟨b1,b2,b3⟩:=ih fun x hx=>hd x (mem_cons_of_mem _ hx)
   refine ⟨?_,?_,?_⟩
   ·rw [PyData.canLayAll0,a1,b1];rfl
   ·rw [PyData.showableAll,a2,b2];rfl
   ·rw [PyData.depthAll];exact Nat.max_le.mpr ⟨a3,b3⟩
 have sh:=P6 (n:=30000) (ds:= .str x::ds) fun d hm=>by
  rcases List.mem_cons.mp hm with z | z
  ·rw [z,PyData.shown];omega
  ·exact (hd d z).2.2.2
 rw [length_cons] at sh;unfold showOk;have c1:(PyData.tuple (.str x::ds)).canLay0=true:=by rw [PyData.canLay0,PyData.canLayAll0,PyData.canLay0,hx,al.1];rfl
 have c2:(PyData.tuple (.str x::ds)).showable=true:=by rw [PyData.showable,PyData.showableAll,PyData.showable,al.2.1];rfl
 have c3:(PyData.tuple (.str x::ds)).depth≤8:=by rw [PyData.depth,PyData.depthAll,PyData.depth];omega
 rw [c1,c2,decide_eq_true c3,decide_eq_true (Nat.le_trans sh (by omega))];rfl
theorem Mi {rs:List Row} {given:List Kd} {f:Flt} (h:FaultOk rs given f) (hl:rs.length≤900):showOk (eFlt f)=true∧shpD (eFlt f)=true:=by
 have road: ∀ {a s ks},RoadTo rs given a s ks→a.length≤rs.length+1→(eInts a).canLay0=true∧(eInts a).showable=true∧(eInts a).depth≤1∧(eInts a).shown.length≤30000:=fun r l=>Kk (fun x hx=>by have:=RoadTo.mem r x hx;omega) (by omega);cases f with
 | differ a b=>
  obtain ⟨s,ka,kb,r1,r2,_,l1,l2⟩:=h;refine ⟨F5 (by decide+kernel) (by decide+kernel) (fun d hd=>?_) (Nat.le_refl _),rfl⟩;rcases List.mem_cons.mp hd with z | z
  ·rw [z];exact road r1 l1
  ·rw [List.mem_singleton.mp z];exact road r2 l2
 | at_ x a=>
  obtain ⟨s,ks,row,r1,_,_,l1⟩:=h;refine ⟨?_,rfl⟩
  have: ∀d∈[eInts a],d.canLay0=true∧d.showable=true∧d.depth≤1∧d.shown.length≤30000:=fun d hd=>by rw [List.mem_singleton.mp hd];exact road r1 l1
  cases x <;> exact F5 (by decide+kernel) (by decide+kernel) this (show 1≤2 by decide)
theorem Vm {X:Cx} {K:Frag} {es:List Expr} {m:Ren→Option (List D)} (hK:X.K=K) (h:XA X es m):PA X es (tXA K m):=hK▸h.ok
theorem V0 {X:Cx} {e:Expr} {m:Ren→Option D} (h:XE X e m):PE X e (tX X.K m):=h.ok
theorem S2 {K:Frag} {H:Hp} {σ:L2.St} {i n:Nat} {v:V} {d:D} (hl:σ.length=n) (h:σ[i]?=some (some v)) (q:Is K H v d):Ro K H σ ((List.replicate n none).set i (some d)) where
 len:=by rw [length_set,List.length_replicate];exact hl
 at_:=fun j c e=>by
  by_cases z:i=j
  ·subst z
   have hi:i < n:=by rw [←hl];exact (List.getElem?_eq_some_iff.mp h).1
   rw [getElem?_set_self (by rw [List.length_replicate];exact hi)] at e;cases e;exact ⟨v,h,q⟩
  ·rw [getElem?_set_ne z,List.getElem?_replicate] at e
   split at e <;> cases e
end RG
end
section
namespace RG
open PySem PySem.Spec PyProof.Rows L2
noncomputable def forLR (g:D→Ren→Option Ren) (m:Ren→Option FlR):List D→Ren→Option FlR
 | [],ρ=>some (.fl (.nx ρ))
 | d::r,ρ=>(g d ρ).bind fun ρ1=>(m ρ1).bind fun o=>match o with
  | .fl (.nx ρ2)=>forLR g m r ρ2
  | o=>some o
noncomputable def forR (mi:Ren→Option (List D)) (g:D→Ren→Option Ren) (m:Ren→Option FlR):Ren→Option FlR:=fun ρ=>(mi ρ).bind fun items=>forLR g m items ρ
theorem S3 {X:Cx} {E:XK} {tg iter:Expr} {body:List Stmt} {pos:Pos} {mi:Ren→Option (List D)} {g:D→Ren→Option Ren} {m:Ren→Option FlR} (hp:PassesOwn (model X.prog X.w) X.A X.env X.xe) (hc:X.calm=true) (hi:XI X tg iter mi) (hg:XG X tg g) (hb:PSs X body (tR X.K E m))
  (hs: ∀x,foldedSetIterable iter X.env x=pure x:=by intro _;rfl):PS X (.For tg iter body [] pos) (tR X.K E (forR mi g m)):=df (E5 hp hc hi.ok hg.ok hb hs) fun D σ H h0=>by
 obtain ⟨ρ,fl,ro,q,k⟩:=h0;obtain ⟨items,hm,q1⟩:=bind_some q;refine ⟨ρ,items,ro,hm,fun J H1 s1 y=>⟨fun i n σ' H'=>∃ρ',n=items.length - i∧Same H1 H'∧Ro X.K H' σ' ρ'∧forLR g m (items.drop i) ρ'=some fl,⟨_,ρ,rfl,Same.refl _,ro.up s1,q1⟩,?_⟩⟩
 rintro i n σ' H' ⟨ρ',rfl,s2,ro2,e2⟩
 cases hd:items[i]? with
 | none=>
  have hle:items.length≤i:=List.getElem?_eq_none_iff.mp hd;rw [List.drop_of_length_le hle] at e2;cases e2;exact .inl ⟨(y i H' s2).2 hle,k σ' H' (s1.trans s2) ro2⟩
 | some d=>
  have hil:i < items.length:=(List.getElem?_eq_some_iff.mp hd).1;obtain ⟨go,yl⟩:=(y i H' s2).1 d hd;have e:items.drop i=d::items.drop (i+1):=by
   obtain ⟨hl,he⟩:=List.getElem?_eq_some_iff.mp hd;rw [List.drop_eq_getElem_cons hl,he]
  rw [e] at e2;obtain ⟨ρ1,h1,e3⟩:=bind_some e2;obtain ⟨f1,h2,e4⟩:=bind_some e3;refine .inr ⟨go,fun σ2 H2=>∃ρ2,f1= .fl (.nx ρ2)∧Same H1 H2∧Ro X.K H2 σ2 ρ2,fun σ2 H2 ⟨ρ2,hf,s3,ro3⟩=>?_,fun x H2 hx=>?_⟩
  ·subst hf
   exact ⟨items.length - (i+1),by omega,ρ2,rfl,s3,ro3,e4⟩
  ·obtain ⟨s3,i3⟩:=yl x H2 hx
   refine ⟨ρ',d,ρ1,ro2.up s3,i3,h1,fun σ3 H3 s4 ro4=>⟨ρ1,f1,ro4,h2,?_⟩⟩;cases f1 with
   | ex C=>
    cases e4;exact fun e H4 s5=>k e H4 (s1.trans (s2.trans (s3.trans (s4.trans s5))))
   | fl f=>
    cases f with
    | nx ρ2=>exact fun σ4 H4 s5 ro5=>⟨ρ2,rfl,s2.trans (s3.trans (s4.trans s5)),ro5⟩
    | rt d2=>
     cases e4;exact fun v H4 s5 i5=>k v H4 (s1.trans (s2.trans (s3.trans (s4.trans s5)))) i5
structure OwnR (P:Program) (w:World) (K:Frag) (mg:Str→Option Value) (base:Heap) (k:Nat) (x:Str) (ps:List Str) (g:List D→Option (D ⊕ Addr)):Prop where
 ex: ∃ (f:Addr) (fd:FuncData),FnOk P w K mg base (CX1 P w) k f fd ps (spR K g)∧mg x=some (.ref f)∧keepIn K (.ref f)=true∧Binds K fd ps []
noncomputable def callR (g:List D→Option (D ⊕ Addr)) (ms:Ren→Option (List D)):Ren→Option (D ⊕ Addr):=fun ρ=>(ms ρ).bind g
def tXq (K:Frag) (E:XK) (m:Ren→Option (D ⊕ Addr)):TE:=fun σ H Q=>∃ρ o,Ro K H σ ρ∧m ρ=some o∧endsR K H { nx:=fun _ _=>False,rt:=Q } E (retR o)
section
variable {P:Program} {w:World} {K:Frag} {mg:Str→Option Value} {base:Heap} {N:List Str} {qual:Str} {scope:Scope} {f:Addr} {cd:Value} {A:Around} {outer:List Env} {s:Shared} {H:Hp} {E:XK}
theorem ge {x:Str} {p pos:Pos} {k:Nat} {ps:List Str} {g:List D→Option (D ⊕ Addr)} {e:Expr} {es:List Expr} {ms:Ren→Option (List D)} (F:OwnR P w K mg base k x ps g) (hr:Room k (A.deeper (envOfC qual scope s.heap.objs.size f cd))) (hg:Gl (cxOf (CX1 P w) P w K mg base N qual scope f cd A outer s H E) x) (ha:XA (cxOf (CX1 P w) P w K mg base N qual scope f cd A outer s H E) (e::es) ms)
  (hdb:(x==("__debug__":Str))=false:=by decide) (he:starEach (e::es) (envOfC qual scope s.heap.objs.size f cd)=(false,eval e (envOfC qual scope s.heap.objs.size f cd))::starEach es (envOfC qual scope s.heap.objs.size f cd):=by rfl) (hpl:(backTo pos (starEach es (envOfC qual scope s.heap.objs.size f cd))).any (·.1)=false:=by rfl):
  PE (cxOf (CX1 P w) P w K mg base N qual scope f cd A outer s H E) (.Call (.Name x p) (e::es) [] pos) (tXq K E (callR g ms)):=by
 obtain ⟨a,fd,F,hm,hk,hb⟩:=F.ex;refine ff (u7 F hr hg hm hk hb .nil passes1 ha.ok hdb he hpl) fun σ H1 Q h0z=>?_
 obtain ⟨ρ,o,ro,q,k⟩:=h0z;obtain ⟨ds,hd,q⟩:=bind_some q;refine ⟨ρ,ds,ro,hd,fun vs H2 s2 i2=>⟨ds,o,by rw [append_nil];exact i2,q,ww s2 k⟩⟩
variable {X:Cx} {e:Expr} {pos pos':Pos} {m:Ren→Option (D ⊕ Addr)}
noncomputable def exprR (m:Ren→Option (D ⊕ Addr)):Ren→Option FlR:=fun ρ=>(m ρ).map fun o=>match o with
 | .inl _=> .fl (.nx ρ)
 | .inr C=> .ex C
theorem lz (he:PE X e (tXq X.K E m)) (hs:swapsWith e none pos.line X.env=pure false:=by rfl):PS X (.Expr e pos) (tR X.K E (exprR m)):=df (kq he hs) fun D σ H h0=>by
 obtain ⟨ρ,fl,ro,q,k⟩:=h0;obtain ⟨o,e1,q⟩:=map_some q;subst q;refine ⟨ρ,o,ro,e1,?_⟩;cases o with
 | inl d=>exact fun v H' s' i'=>k σ H' s' (ro.up s')
 | inr C=>exact k
noncomputable def setR (i:Nat) (m:Ren→Option (D ⊕ Addr)):Ren→Option FlR:=fun ρ=>(m ρ).map fun o=>match o with
 | .inl d=> .fl (.nx (ρ.set i (some d)))
 | .inr C=> .ex C
theorem Ni {i:Nat} {x:Str} (hN:X.N.Nodup) (hi:X.N[i]?=some x) (hx:Loc X.env.scope x) (he:PE X e (tXq X.K E m)) (hs:swapsWith e (some (.Name x pos')) pos.line X.env=pure false:=by rfl)
  (hf:X.fn x=true∨X.env.scope.names.lookup x=some .local:=by trivial):PS X (.Assign [.Name x pos'] e pos) (tR X.K E (setR i m)):=df (je hN hi hx he hs hf) fun D σ H h0=>by
 obtain ⟨ρ,fl,ro,q,k⟩:=h0;obtain ⟨o,e1,q⟩:=map_some q;subst q;refine ⟨ρ,o,ro,e1,?_⟩;cases o with
 | inl d=>exact fun v H' s' i'=>k _ H' s' ((ro.up s').set i i')
 | inr C=>exact k
end
end RG
end
section
namespace RG
open PySem PySem.Spec PyProof.Rows L2
def Held (X:Cx) (pins:List (Addr×Obj)) (Good:Addr→Hp→Prop) (a C:Addr) (s:Shared):Prop:= ∃t ps σ H h0,Inv (pnd X pins) ps σ H s∧Fly h0 H s.heap a (.ref C) (some t) .none∧(∀b,h0.get? b=none→Far (pnd X pins) ps b)∧Good C H
section
variable {X:Cx} {pins:List (Addr×Obj)} {Good:Addr→Hp→Prop} {a C G:Addr} {s:Shared} {D:Ends} {x:Str} {np hpos:Pos} {b0:Stmt} {suite:List Stmt} {rest:List ExceptHandler}
theorem Held.rec {h0 h:Heap} {H:Hp} {t:Addr} {fl:Value} (F:Fly h0 H h a (.ref C) (some t) fl): ∃oe,h.get? a=some oe∧RecOf oe C:=by
 obtain ⟨oe,vs,g1,g2,g3,_,g5⟩:=F.ob;exact ⟨oe,g1,g2,g5,vs,g3⟩
theorem Held.nf {oe:Obj} {σ:L2.St} {H:Hp} {ps:List (Addr×Obj)} (I:Inv (pnd X pins) ps σ H s) (e:s.heap.get? a=some oe) (r:RecOf oe C):a ∉ X.fs∧ ∀v,oe.data≠ .cell v:=by
 obtain ⟨_,_,vs,z⟩:=r;refine ⟨fun m=>?_,fun v y=>by rw [z] at y;cases y⟩;obtain ⟨_,o,q,d⟩:=I.funs.mem m;rw [e] at q;cases q;exact d vs z
theorem En (gx:Gl X x) (mx:X.mg x=some (.ref G)) (g:ExC X.K G) (hs:PySem.W.subIn X.K (.ref C) (.ref G)=some false) (h:Held X pins Good a C s) (k:wpAny (model X.prog X.w) X.A (handleBy (.ref a) X.env rest) (SP X pins D) X.xe s) (hdb:(x==("__debug__":Str))=false:=by decide):
  wpAny (model X.prog X.w) X.A (handleBy (.ref a) X.env (.ExceptHandler (some (.Name x np)) none (b0::suite) hpos::rest)) (SP X pins D) X.xe s:=by
 obtain ⟨t,ps,σ,H,h0,I,F,far,hg⟩:=h;obtain ⟨oe,ho,hr⟩:=Held.rec F;obtain ⟨n1,n2⟩:=Held.nf I ho hr;refine wpAny_handleBy_cons (codeAny_handlers_test ?_) (by intro q;cases q);exact u6 (X:=suiteCx (pnd X pins) a oe) (uf I ho F.he (far a F.ne).2.1 n1 n2) gx mx (x6 I.kIn ho hr.1 g hs k) hdb
theorem Bs {Ret:VK→Hp→Prop} (ok:X.Ok) (gx:Gl X x) (mx:X.mg x=some (.ref G)) (g:ExC X.K G) (hs:PySem.W.subIn X.K (.ref C) (.ref G)=some true) (h:Held X pins Good a C s) (hR: ∀H,Good C H→Ret D.rt H)
  (hsu: ∀oe,∃ts,PSs (suiteCx (pnd X pins) a oe) (b0::suite) ts∧ ∀ (R:VK) σ H,Ret R H→ts { nx:=fun _ _=>False,rt:=R } σ H) (hdb:(x==("__debug__":Str))=false:=by decide):
  wpAny (model X.prog X.w) X.A (handleBy (.ref a) X.env (.ExceptHandler (some (.Name x np)) none (b0::suite) hpos::rest)) (SP X pins D) X.xe s:=by
 obtain ⟨t,ps,σ,H,h0,I,F,far,hg⟩:=h;obtain ⟨oe,ho,hr⟩:=Held.rec F;obtain ⟨n1,n2⟩:=Held.nf I ho hr;refine wpAny_handleBy_cons (codeAny_handlers_test ?_) (by intro q;cases q);refine u6 (X:=suiteCx (pnd X pins) a oe) (uf I ho F.he (far a F.ne).2.1 n1 n2) gx mx (x6 I.kIn ho hr.1 g hs (codeAny_handlers_suite ?_)) hdb;refine land (fs:=X.env.locals::X.fs) F fun h4 F4 st4=>?_
 have I4:=Inv.stp I st4 fun b m=>by
  rw [List.mem_singleton.mp m];exact ⟨far t (F.tb t rfl).1,(F.tb t rfl).2.1⟩
 obtain ⟨o4,ho4,hr4⟩:=Held.rec F4;obtain ⟨m1,m2⟩:=Held.nf I4 ho4 hr4;obtain ⟨ts,ht,hts⟩:=hsu o4;refine wpAny_mono (ht ps _ σ H _ (uf I4 ho4 F4.he (far a F.ne).2.1 m1 m2) (hts D.rt σ H (hR H hg))) (fun f s6 q=>?_) fun e s6 q=>False.elim q
 cases f with
 | ret u=>
  obtain ⟨v,σ6,H6,I6,r6,q6⟩:=q;exact ⟨v,σ6,H6,ve ok (Au I.ok I6),r6,q6⟩
 | next=>
  obtain ⟨_,_,_,z⟩:=q;exact False.elim z
 | brk=>
  obtain ⟨_,_,_,z⟩:=q;exact False.elim z
 | cont=>
  obtain ⟨_,_,_,z⟩:=q;exact False.elim z
end
theorem S4 {X:Cx} {tb:TS} {Good:Addr→Hp→Prop} {Ret:Addr→VK→Hp→Prop} {body:List Stmt} {pos:Pos} {h:ExceptHandler} {hs:List ExceptHandler} (hst:X.stack=X.env::X.outer) (hf:X.env.frame=some X.env.locals)
  (hb: ∀pins,PSs ((pnd X pins).wish (Caught (pnd X pins) Good)) body tb)
  (hh: ∀pins a C s (D:Ends),X.Ok→Held X pins Good a C s→(∀H,Good C H→Ret C D.rt H)→wpAny (model X.prog X.w) X.A (handleBy (.ref a) X.env (h::hs)) (SP X pins D) X.xe s):
  PS X (.Try body (h::hs) [] [] pos) (fun D σ H=>tb D σ H∧ ∀C H',Good C H'→Ret C D.rt H'):=by
 intro pins s σ H D I hh';obtain ⟨h1,h2⟩:=hh';have ok:=I.ok;have IY:=Ng I;refine wpAny_Try_except (wpAny_mono (hb pins [] s σ H D (IY.wish _) h1) (fun f s1 q=>?_) fun e s1 q=>?_)
 ·have q2:=Nh ok (SP.unwish q)
  cases f with
  | next=>exact wpAny_execs_nil q2
  | brk=>exact q2
  | cont=>exact q2
  | ret u=>exact q2
 obtain ⟨a,C,T,ps,σ1,H1,h0,rfl,I1,F,hz,far,hg⟩:=q;have fe:frs (X.env::X.outer)=X.env.locals::X.fs:=by
  unfold Cx.fs frs;rw [List.filterMap_cons,hf]
 have st1:=I1.stack;rw [show (pnd X pins).stack=X.env::X.outer from hst] at st1;refine Bq (base:=X.base) (h0:=h0) (H:=H1) (by rw [ok.frames,hst]) st1 hf F hz (fun b z=>I1.hok.fresh z) fun h2' t ch F2 st hc=>?_
 rw [fe] at st;have I2:=Inv.stp I1 st fun b m=>⟨far b (hc b m).1,(hc b m).2⟩
 refine land (fs:=X.env.locals::X.fs) F2 fun h3 F3 st3=>?_
 have I3:=Inv.stp I2 st3 fun b m=>by
  rw [List.mem_singleton.mp m];exact ⟨far t (F2.tb t rfl).1,(F2.tb t rfl).2.1⟩
 exact hh pins a C _ D ok ⟨t,ps,σ1,H1,h0,I3,F3,far,hg⟩ fun H z=>h2 C H z
end RG
end
section
namespace RG
open PySem PySem.Spec PyProof.Rows L2
def EndT (K:Frag) (H₀:Hp) (Q:VK) (q:List D×D):Prop:= ∀p t xs v H',Same H₀ H'→H₀ p=none→H' p=none→Are K H' xs q.1→Is K H' v q.2→t≠p→H' t=none→Q (.ref t) (upd (upd H' p (.lst xs)) t (.tup [.ref p,v]))
def tOT (K:Frag) (m:RenO→Option FlO) (i j:Nat):TS:=fun D σ H=>∃H₀ O ρ ρ' ds d,Same H₀ (hide O H)∧Own2 K H σ ρ O∧m ρ=some (.nx ρ')∧ρ'[i]?=some (some (.ow ds))∧ρ'[j]?=some (some (.sh d))∧EndT K H₀ D.rt (ds,d)
section
variable {X:Cx} {st:Stmt} {rest:List Stmt} {m n:RenO→Option FlO} {i j:Nat} {a b e:Expr} {pos pos':Pos}
theorem Eo (h1:OS X st m) (h2:PSs X rest (tOT X.K n i j)):PSs X (st::rest) (tOT X.K (seqO m n) i j):=rf (js h1.ok h2) fun D σ H h0=>by
 obtain ⟨H₀,O,ρ,ρ',ds,d,s0,w,q,g1,g2,k⟩:=h0;unfold seqO at q;split at q
 ·cases q
 ·rename_i ρ1 e1
  exact ⟨H₀,O,ρ,.nx ρ1,s0,w,e1,fun O' σ' H' s' w'=>⟨H₀,O',ρ1,ρ',ds,d,s',w',q,g1,g2,k⟩⟩
 ·cases q
 ·cases q
theorem S5 {x1} (ha:PE X a (tVar i)) (hb:PE X b (tVar j)) (h1:starEach [a,b] X.env=(false,eval a X.env)::starEach [b] X.env:=by rfl) (h2:starEach [b] X.env=(false,eval b X.env)::starEach [] X.env:=by rfl):
  PSs X [.Return (some (.Tuple [a,b] x1 pos')) pos] (tOT X.K (fun ρ=>some (.nx ρ)) i j):=rf (jj (pq (Hr (cw ha (cw hb fh h2) h1)))) fun D σ H h0=>by
 obtain ⟨H₀,O,ρ,ρ',ds,d,s0,w,q,g1,g2,k⟩:=h0;cases q;obtain ⟨l,xs,e1,e2,e3,e4⟩:=w.ow i ds g1;obtain ⟨v,f1,f2⟩:=w.sh j d g2;refine ⟨_,e1,_,f1,by show 2≤sizeLine;decide,fun t ht=>?_⟩;have hl:H₀ l=none:=by
  cases z:H₀ l with
  | none=>rfl
  | some o=>
   have:=s0 l o z
   rw [c9 e2] at this;cases this
 have sub:Same (hide O H) (hide [l] H):=fun a o z=>by
  obtain ⟨z1,z2⟩:=jg z;rw [a8 (fun y=>z1 (by rw [List.mem_singleton.mp y];exact e2))];exact z2
 have ntl:t≠l:=fun z=>by rw [z,e3] at ht;cases ht
 have:=k l t xs v (hide [l] H) (s0.trans sub) hl (c9 (List.mem_singleton.mpr rfl)) (e4.up sub) (f2.up sub) ntl (by rw [a8 (fun y=>ntl (List.mem_singleton.mp y))];exact ht)
 have eq:upd (hide [l] H) l (.lst xs)=H:=by
  funext a
  by_cases ha:a=l
  ·subst ha;rw [bd,e3]
  ·rw [a9 ha,a8 (fun y=>ha (List.mem_singleton.mp y))]
 rw [eq] at this;exact this
end
def spT (K:Frag) (f:List D→Option (List D×D)):Sp:=fun vs H Q _=>∃ds q,Are K H vs ds∧f ds=some q∧EndT K H Q q
noncomputable def pickT (i j:Nat) (o:Option FlO):Option (List D×D):=match o with
 | some (.nx ρ)=>match ρ[i]?,ρ[j]? with
  | some (some (.ow ds)),some (some (.sh d))=>some (ds,d)
  | _,_=>none
 | _=>none
theorem Gz {i j:Nat} {o:Option FlO} {q:List D×D} (h:pickT i j o=some q): ∃ρ,o=some (.nx ρ)∧ρ[i]?=some (some (.ow q.1))∧ρ[j]?=some (some (.sh q.2)):=by
 unfold pickT at h;split at h
 ·split at h
  ·rename_i h1 h2
   cases h;exact ⟨_,rfl,h1,h2⟩
  ·cases h
 ·cases h
theorem U1 {P:Program} {w:World} {K:Frag} {mg:Str→Option Value} {base:Heap} {x qual:Str} {st:Stmt} {fa:Addr} {fd:FuncData} {N ps:List Str} {k i j:Nat} {m:RenO→Option FlO} {α:Type} {Pre:α→Prop} {enc:α→List D} {Post:α→D→Prop} (F:Fun K x qual st fa fd) (S:FnScope N ps (defScope st)) (hl: ∀p,Pre p→(enc p).length=ps.length)
  (hb: ∀ (cdv:Value) (A:Around) (outer:List Env) (s:Shared) (H:Hp) (E:XK),Room k (A.deeper (envOfC qual (defScope st) s.heap.objs.size fa cdv))→PSs (bodyCx P w K mg base N qual st fa cdv A outer s H E) (defBody st) (tOT K m i j))
  (hm: ∀p,Pre p→ ∃q,pickT i j (m (start2 (enc p) (N.length - ps.length)))=some q∧Post p (.tuple [.list q.1,q.2])): ∃f,(∀p,Pre p→ ∃q,f (enc p)=some q∧Post p (.tuple [.list q.1,q.2]))∧FnOk P w K mg base CX0 (k+1) fa fd ps (spT K f):=by
 refine ⟨fOf Pre enc fun ds=>pickT i j (m (start2 ds (N.length - ps.length))),fun p hp=>?_,F.ok S (fun vs H Q E h=>?_) (fun cdv A outer s H vs Q E hr h=>?_)⟩
 ·obtain ⟨q,h1,h2⟩:=hm p hp
  exact ⟨q,by rw [Bj hp];exact h1,h2⟩
 ·obtain ⟨ds,q,i,e,_⟩:=h
  obtain ⟨p,h1,rfl,_⟩:=dc e;rw [i.length];exact hl p h1
 ·obtain ⟨ds,q,i,e,k⟩:=h
  obtain ⟨p,h1,rfl,e⟩:=dc e;obtain ⟨ρ,e1,e2,e3⟩:=Gz e;refine ⟨_,hb cdv A outer s H E hr,?_⟩;have w2:=Own2.start N i;rw [hl p h1] at w2;exact ⟨H,[],_,ρ,_,_,by rw [t6];exact Same.refl _,w2,e1,e2,e3,k⟩
def tTk (K:Frag) (ms:Ren→Option (List D×D)):TE:=fun σ H Q=>∃ρ q,Ro K H σ ρ∧ms ρ=some q∧EndT K H Q q
theorem Qa {X:Cx} {e:Expr} {es:List Expr} {pos:Pos} {x:Str} {p:Pos} {k:Nat} {ps:List Str} {f:List D→Option (List D×D)} {ms:Ren→Option (List D)} (F:Own X.prog X.w X.K X.mg X.base k x ps (spT X.K f)) (hr:Room k X.A) (hg:Gl X x) (ha:XA X (e::es) ms)
  (hdb:(x==("__debug__":Str))=false:=by decide) (he:starEach (e::es) X.env=(false,eval e X.env)::starEach es X.env:=by rfl) (hpl:(backTo pos (starEach es X.env)).any (·.1)=false:=by rfl):PE X (.Call (.Name x p) (e::es) [] pos) (tTk X.K fun ρ=>(ms ρ).bind f):=by
 obtain ⟨ha⟩:=ha;obtain ⟨g,fd,F,hm,hk,hb⟩:=F.ex;refine ff (u7 F hr hg hm hk hb .nil pass0 ha hdb he hpl) fun σ H Q h0z=>?_
 obtain ⟨ρ,d,ro,q,k⟩:=h0z;obtain ⟨ds,hd,q⟩:=bind_some q;exact ⟨ρ,ds,ro,hd,fun vs H1 s1 i1=>⟨ds,d,by rw [append_nil];exact i1,q,fun p t xs v H2 s2 n1 n2 a2=>k p t xs v H2 (s1.trans s2) (s1.free n1) n2 a2⟩⟩
@[simp] noncomputable def pairO (i j:Nat) (ms:Ren→Option (List D×D)):RenO→Option FlO:=fun ρ=>match ms (shOf ρ) with
 | none=>none
 | some q=>some (.nx ((ρ.set i (some (.ow q.1))).set j (some (.sh q.2))))
theorem Qb {X:Cx} {a b e:Expr} {i j k:Nat} {pos pos':Pos} {ms:Ren→Option (List D×D)} (hc:X.calm=true) (he:PE X e (tTk X.K ms)) (ha:PG X a (gName i)) (hb:PG X b (gName j)) (hs:swapsWithSole [.Tuple [a,b] k pos'] e pos.line X.env=pure false:=by rfl) (hw:swappedStores [.Tuple [a,b] k pos'] e X.env=pure none:=by rfl)
  (h0:(assignEach [.Tuple [a,b] k pos'] X.env).map (·.2)=[assign (.Tuple [a,b] k pos') X.env]:=by rfl) (hn:(assignEach [a,b] X.env).length=2:=by rfl) (hst:(assignEach [a,b] X.env).findIdx? (·.1)=none:=by rfl)
  (h1:(assignEach [a,b] X.env).map (·.2)=assign a X.env::(assignEach [b] X.env).map (·.2):=by rfl) (h2:(assignEach [b] X.env).map (·.2)=assign b X.env::(assignEach [] X.env).map (·.2):=by rfl):
  OS X (.Assign [.Tuple [a,b] k pos'] e pos) (pairO i j ms):=⟨df (Mu (ky he) (Mt hc (wr ha (wr hb Hi h2) h1) hn hst) hs hw h0) fun E σ H h0=>by
 obtain ⟨H₀,O,ρ,fl,s0,w,q,k⟩:=h0;unfold pairO at q;split at q
 ·cases q
 ·rename_i y e1
  cases q;refine ⟨O,w.own,_,y,w.ro_sh,e1,fun p t xs v H1 s1 n0 n1 a1 i1 ntp nt n2=>?_⟩;have nO:t ∉ O:=fun z=>by have:=n2 t z;rw [bd] at this;cases this
  have n3: ∀l∈O,upd H1 p (.lst xs) l=none:=fun l hl=>by have:=n2 l hl;rwa [a9 (fun z=>nO (by rw [←z];exact hl))] at this
  have np:p ∉ O:=fun z=>by have:=n3 p z;rw [bd] at this;cases this
  have n4: ∀l∈O,H1 l=none:=fun l hl=>by have:=n3 l hl;rwa [a9 (fun z=>np (by rw [←z];exact hl))] at this
  obtain ⟨w1,hu⟩:=w.clean s1 n4;have hp':unhide O H H1 p=none:=by rw [cf np];exact n1
  obtain ⟨w2,hu2⟩:=w1.setOw i hp' (by rw [hu];exact a1);have ht':upd (unhide O H H1) p (.lst xs) t=none:=by rw [a9 ntp,cf nO];exact nt
  obtain ⟨w3,s3⟩:=w2.grown (fb (o:= .tup [.ref p,v]) ht');have w4:=w3.setSh j (v:=v) (d:=y.2) ((by rw [hu2,hu];exact i1:Is X.K (hide (p::O) (upd (unhide O H H1) p (.lst xs))) v y.2).up s3);have eq:unhide O H (upd (upd H1 p (.lst xs)) t (.tup [.ref p,v]))=upd (upd (unhide O H H1) p (.lst xs)) t (.tup [.ref p,v]):=by
   funext z
   by_cases hz:z=t
   ·subst hz;rw [cf nO,bd,bd]
   ·rw [a9 hz]
    by_cases hy:z=p
    ·subst hy;rw [cf np,a9 hz,bd,bd]
    ·rw [a9 hy]
     unfold unhide;rw [a9 hz,a9 hy]
  rw [eq];exact ⟨t,_,rfl,.inl (.inl bd),rfl,_,_,rfl,_,_,rfl,rfl,k (p::O) _ _ ((by rw [hu2,hu];exact s0.trans s1:Same H₀ (hide (p::O) (upd (unhide O H H1) p (.lst xs)))).trans s3) w4⟩⟩
@[simp] noncomputable def restO (m:Ren→Option Fl):RenO→Option FlO:=fun ρ=>match m (allOf ρ) with
 | some (.rt d)=>some (.rt d)
 | _=>none
theorem U2 {X:Cx} {sts:List Stmt} {m:Ren→Option Fl} (h:XSs X sts m):OSs X sts (restO m):=⟨rf h.ok fun E σ H h0=>by
 obtain ⟨H₀,O,ρ,fl,s0,w,q,k⟩:=h0;unfold restO at q;split at q
 ·rename_i d e1
  cases q;exact ⟨_,_,w.ro_all,e1,fun v H' s' i'=>k v H' ((s0.trans fo).trans s') i'⟩
 ·cases q⟩
theorem S6 {X:Cx} {e:Expr}:XE X e (fun _=>none):=⟨fun pins s σ H Q I h0z=>by obtain ⟨ρ,d,ro,q,k⟩:=h0z;cases q⟩
theorem Qc {X:Cx} {sts:List Stmt}:XSs X sts (fun _=>none):=⟨fun pins s σ H E I h0z=>by obtain ⟨ρ,fl,ro,q,k⟩:=h0z;cases q⟩
theorem Av {X:Cx} {E:XK} {sts:List Stmt}:PSs X sts (tR X.K E (fun _=>none)):=fun pins s σ H D I h0z=>by obtain ⟨ρ,fl,ro,q,k⟩:=h0z;cases q
section
variable {P:Program} {w:World} {K:Frag} {mg:Str→Option Value} {base:Heap} {k:Nat} {f:Addr} {fd:FuncData} {ps:List Str}
theorem FnOk.toR {g:List D→Option D} (h:FnOk P w K mg base CX0 k f fd ps (spX K g)):FnOk P w K mg base (CX1 P w) k f fd ps (spR K fun ds=>(g ds).map .inl) where
 len:=fun vs H Q E h0=>by
  obtain ⟨ds,o,i,e,q⟩:=h0;obtain ⟨d,e1,rfl⟩:=map_some e;exact h.len vs H Q E ⟨ds,d,i,e1,q⟩
 run:=fun A outer s H args us vs Q E hr he hb hv h0=>by
  obtain ⟨ds,o,i,e,q⟩:=h0;obtain ⟨d,e1,rfl⟩:=map_some e;refine codeAny_mono (h.run A outer s H args us vs Q E hr he hb hv ⟨ds,d,i,e1,q⟩) fun r s z=>?_
  cases r with
  | ok fl=>cases fl <;> exact z
  | error e=>exact False.elim z
theorem FnOk.two (b:List D→Bool) {g1 g2:List D→Option (D ⊕ Addr)} (h1:FnOk P w K mg base (CX1 P w) k f fd ps (spR K g1)) (h2:FnOk P w K mg base (CX1 P w) k f fd ps (spR K g2)):
  FnOk P w K mg base (CX1 P w) k f fd ps (spR K fun ds=>if b ds=true then g2 ds else g1 ds) where
 len:=fun vs H Q E h0=>by
  obtain ⟨ds,o,i,e,q⟩:=h0;dsimp only at e;split at e
  ·exact h2.len vs H Q E ⟨ds,o,i,e,q⟩
  ·exact h1.len vs H Q E ⟨ds,o,i,e,q⟩
 run:=fun A outer s H args us vs Q E hr he hb hv h0=>by
  obtain ⟨ds,o,i,e,q⟩:=h0;dsimp only at e;split at e
  ·exact h2.run A outer s H args us vs Q E hr he hb hv ⟨ds,o,i,e,q⟩
  ·exact h1.run A outer s H args us vs Q E hr he hb hv ⟨ds,o,i,e,q⟩
end
end RG
end
section
namespace RG
open PySem PySem.Spec PyProof.Rows L2
noncomputable def oddS (x:Str):Bool:=!(x==Str.ofString "number" || x==Str.ofString "truth" || x==Str.ofString "text") && showOk (.str x)
noncomputable def oddD:D→Bool
 | .str x=>oddS x
 | _=>false
noncomputable def tkD (x:Str):D:= .tuple [.str "take",.str x]
noncomputable def oddRow:D→Bool
 | .tuple [.str w,.str x]=>(w==Str.ofString "take") && oddS x
 | _=>false
noncomputable def badR:D→Bool
 | .list l=>l.any oddRow
 | _=>false
noncomputable def badG:D→Bool
 | .list l=>l.any oddD
 | _=>false
structure Bd where
 a:List Row
 x:Option Str
 b:List Row
 k:List Kd
 y:Option Str
 l:List Kd
noncomputable def Bd.rows (p:Bd):List D:=p.a.map eRow++(p.x.toList.map tkD++p.b.map eRow)
noncomputable def Bd.giv (p:Bd):List D:=p.k.map Kd.d++(p.y.toList.map PyData.str++p.l.map Kd.d)
structure Bd.Ok (p:Bd):Prop where
 ra: ∀r∈p.a++p.b,r.ok=true
 n:(p.a++p.b).length≤200
 kl:(p.k++p.l).length≤90
 ox: ∀x,p.x=some x→oddS x=true
 oy: ∀x,p.y=some x→oddS x=true
theorem Qd {x:Str} (h:oddS x=true):PyData.strOk x=true∧showOk (.str x)=true∧(Str.ofString "number"==x)=false∧(Str.ofString "truth"==x)=false∧(Str.ofString "text"==x)=false:=by
 unfold oddS at h;rw [Bool.and_eq_true,Bool.not_eq_true',Bool.or_eq_false_iff,Bool.or_eq_false_iff] at h;obtain ⟨⟨⟨x1,x2⟩,x3⟩,x4⟩:=h;have x5:=x4;unfold showOk at x5;simp only [Bool.and_eq_true] at x5;have n: ∀ {y:Str},(x==y)=false→(y==x)=false:=fun {y} e=>beq_eq_false_iff_ne.mpr fun z=>beq_eq_false_iff_ne.mp e z.symm
 exact ⟨by have:=x5.1.1.1;rwa [PyData.canLay0] at this,x4,n x1,n x2,n x3⟩
theorem F6 (k:Kd):oddD k.d=false:=by cases k <;> decide+kernel
theorem Km (r:Row):oddRow (eRow r)=false:=by
 cases r with
 | push t=>cases t <;> first | rfl | (unfold eRow oddRow;rw [ar];rfl)
 | take k=>cases k <;> decide+kernel
 | _=>rfl
theorem S7 (x:Str):oddRow (tkD x)=oddS x:=by
 show ((Str.ofString "take"==Str.ofString "take") && oddS x)=_
 rw [ar];rfl
theorem Db {α:Type} {c:α→D} {o:D→Bool} (h: ∀x,o (c x)=false) (l:List α):(l.map c).any o=false:=by
 rw [List.any_map,List.any_eq_false];intro x _;rw [Function.comp,h];exact Bool.false_ne_true
theorem Bd.Ok.R {p:Bd} (h:p.Ok):badR (.list p.rows)=p.x.isSome:=by
 show List.any p.rows oddRow=_
 unfold Bd.rows;rw [List.any_append,List.any_append,Db Km,Db Km,Bool.false_or,Bool.or_false];cases e:p.x with
 | none=>rfl
 | some x=>show (oddRow (tkD x) || false)=true;rw [S7,h.ox x e];rfl
theorem Bd.Ok.G {p:Bd} (h:p.Ok):badG (.list p.giv)=p.y.isSome:=by
 show List.any p.giv oddD=_
 unfold Bd.giv;rw [List.any_append,List.any_append,Db F6,Db F6,Bool.false_or,Bool.or_false];cases e:p.y with
 | none=>rfl
 | some x=>show (oddS x || false)=true;rw [h.oy x e];rfl
theorem Bd.rows_e {p:Bd} (h:p.x=none): .list p.rows=eRows (p.a++p.b):=by unfold Bd.rows eRows;rw [h,List.map_append];rfl
theorem Bd.giv_e {p:Bd} (h:p.y=none): .list p.giv=eKs (p.k++p.l):=by unfold Bd.giv eKs;rw [h,List.map_append];rfl
noncomputable def Bd.its (p:Bd):List D:=(takesOf p.a).map Kd.d++(p.x.toList.map PyData.str++(takesOf p.b).map Kd.d)
theorem x9 {g:D→Option (Option D)} {l2 r2:List D} (h2:compL g l2=some r2): ∀ {l1 r1:List D},compL g l1=some r1→compL g (l1++l2)=some (r1++r2)
 | [],r1,h=>by cases h;exact h2
 | x::l,r1,h=>by
  unfold compL at h;obtain ⟨o,e1,h⟩:=bind_some h;obtain ⟨r,e2,rfl⟩:=map_some h;rw [List.cons_append];unfold compL;rw [e1,x9 h2 e2];cases o <;> rfl
theorem Bd.takes {p:Bd} {g:D→Option (Option D)} (h: ∀r,g (eRow r)=some (match r with | .take k=>some k.d | _=>none)) (hx: ∀x,g (tkD x)=some (some (.str x))):compL g p.rows=some p.its:=by
 refine x9 (x9 (vd h) ?_) (vd h);cases p.x with
 | none=>rfl
 | some x=>show compL g [tkD x]=_;rw [il,hx];rfl
theorem Bd.its_len (p:Bd):p.its.length≤p.rows.length:=by
 have h1:=uc p.a;have h2:=uc p.b;unfold Bd.its Bd.rows;simp only [length_append,length_map];omega
theorem Bd.Ok.len {p:Bd} (h:p.Ok):p.rows.length≤201∧p.giv.length≤91:=by
 have h1:=h.n;have h2:=h.kl;have e: ∀o:Option Str,o.toList.length≤1:=fun o=>by cases o <;> simp
 have h3:=e p.x;have h4:=e p.y;unfold Bd.rows Bd.giv;simp only [length_append,length_map] at h1 h2 ⊢;omega
theorem Bd.Ok.odd {p:Bd} (h:p.Ok):(p.its++p.giv).any oddD=(p.x.isSome || p.y.isSome):=by
 have e: ∀o:Option Str,(∀x,o=some x→oddS x=true)→(o.toList.map PyData.str).any oddD=o.isSome:=fun o ho=>by
  cases o with
  | none=>rfl
  | some x=>show (oddS x || false)=true;rw [ho x rfl];rfl
 unfold Bd.its Bd.giv;simp only [List.any_append,Db F6,e _ h.ox,e _ h.oy,Bool.false_or,Bool.or_false]
theorem Bd.each (p:Bd): ∀d∈p.its++p.giv,(∃k:Kd,d=k.d)∨ ∃x,d= .str x∧(p.x=some x∨p.y=some x):=by
 intro d hd;unfold Bd.its Bd.giv at hd;simp only [mem_append,mem_map,Option.mem_toList] at hd;rcases hd with (⟨k,_,rfl⟩ | ⟨x,h,rfl⟩ | ⟨k,_,rfl⟩) | (⟨k,_,rfl⟩ | ⟨x,h,rfl⟩ | ⟨k,_,rfl⟩)
 ·exact .inl ⟨k,rfl⟩
 ·exact .inr ⟨x,rfl,.inl h⟩
 ·exact .inl ⟨k,rfl⟩
 ·exact .inl ⟨k,rfl⟩
 ·exact .inr ⟨x,rfl,.inr h⟩
 ·exact .inl ⟨k,rfl⟩
theorem F7 {g:D→Ren→Option Ren} {m:Ren→Option FlR} {C:Addr} {odd:D→Bool} (P:Ren→Prop): ∀ {items:List D} {ρ:Ren},(∀d∈items,odd d=false→ ∀ρ,P ρ→ ∃ρ1 ρ2,g d ρ=some ρ1∧m ρ1=some (.fl (.nx ρ2))∧P ρ2)→(∀d∈items,odd d=true→ ∀ρ,P ρ→ ∃ρ1,g d ρ=some ρ1∧m ρ1=some (.ex C))→items.any odd=true→P ρ→forLR g m items ρ=some (.ex C)
 | [],ρ,_,_,h,_=>by cases h
 | x::l,ρ,h1,h2,h,h0=>by
  unfold forLR;cases ho:odd x with
  | true=>
   obtain ⟨ρ1,e1,e2⟩:=h2 x mem_cons_self ho ρ h0;rw [e1,Option.bind_some,e2];rfl
  | false=>
   obtain ⟨ρ1,ρ2,e1,e2,h3⟩:=h1 x mem_cons_self ho ρ h0;rw [e1,Option.bind_some,e2];rw [List.any_cons,ho,Bool.false_or] at h;exact F7 P (fun y hy=>h1 y (mem_cons_of_mem _ hy)) (fun y hy=>h2 y (mem_cons_of_mem _ hy)) h h3
structure Pz where
 b:Bd
 p:List D
 c:Cm
structure Pz.Ok (q:Pz):Prop where
 b:q.b.Ok
 t:Things q.p
 l:q.p.length≤41
 s: ∀x∈q.p,sLen x≤40
 c:CmOk q.c
noncomputable abbrev enR (q:Pz):D:= .list q.b.rows
noncomputable abbrev enG (q:Pz):D:= .list q.b.giv
noncomputable abbrev bad1 (q:Pz):Bool:=q.b.x.isSome || q.b.y.isSome
noncomputable abbrev bad2 (q:Pz):Bool:=q.b.x.isSome
noncomputable abbrev en1 (q:Pz):List D:=[enR q,enG q]
noncomputable abbrev en2 (q:Pz):List D:=[enR q,.list q.p,.tuple q.c.l,.int 3]
noncomputable abbrev en3 (q:Pz):List D:=[enR q,enG q,.list (q.b.rows.map fun _=> .none)]
noncomputable abbrev fewD:D:= .tuple [.str "few",.list [.int 0]]
noncomputable abbrev en4 (q:Pz):List D:=[enR q,enG q,fewD]
noncomputable abbrev en5 (q:Pz):List D:=[enR q,enG q,.list q.p,.tuple q.c.l,.int 3]
noncomputable def isB1:List D→Bool
 | r::g::_=>badR r || badG g
 | _=>false
noncomputable def isB2:List D→Bool
 | r::_=>badR r
 | _=>false
def Fine (F S:Addr) (o:D ⊕ Addr):Prop:=(∃d,o= .inl d)∨o= .inr F∨o= .inr S
abbrev RetO (o:D ⊕ Addr):Prop:= ∃d,o= .inl d
def Out (N:Addr) (Fi:D ⊕ Addr→Prop) (b:Bool) (o:D ⊕ Addr):Prop:=if b=true then o= .inr N else Fi o
section
variable (V:Vv) (i:Inf) (fa:Addr) (fd:FuncData) (N:Addr) (Fi:D ⊕ Addr→Prop) (en:Pz→List D) (bad:Pz→Bool)
def BadP:Prop:= ∃g,(∀q:Pz,q.Ok∧bad q=true→ ∃o,g (en q)=some o∧o= .inr N)∧FnOk V.P V.w V.K V.mg V.base (CX1 V.P V.w) i.k fa fd i.ps (spR V.K g)
def GoodP:Prop:= ∃g,(∀q:Pz,q.Ok∧bad q=false→ ∃o,g (en q)=some o∧Fi o)∧FnOk V.P V.w V.K V.mg V.base (CX1 V.P V.w) i.k fa fd i.ps (spR V.K g)
structure KJ (g:List D→Option (D ⊕ Addr)):Prop where
 h: ∀q:Pz,q.Ok→ ∃o,g (en q)=some o∧Out N Fi (bad q) o
 o:OwnR V.P V.w V.K V.mg V.base i.k i.x i.ps g
structure KB (g:List D→Option (D ⊕ Addr)):Prop where
 h: ∀q:Pz,q.Ok∧bad q=true→ ∃o,g (en q)=some o∧o= .inr N
 o:OwnR V.P V.w V.K V.mg V.base i.k i.x i.ps g
end
section
variable {V:Vv} {i:Inf} {st:Stmt} {fa:Addr} {fd:FuncData} {N:Addr} {Fi:D ⊕ Addr→Prop} {en:Pz→List D} {bad:Pz→Bool}
theorem At.ownR {g:List D→Option (D ⊕ Addr)} (t:At V i st fa fd) (h:FnOk V.P V.w V.K V.mg V.base (CX1 V.P V.w) i.k fa fd i.ps (spR V.K g)):OwnR V.P V.w V.K V.mg V.base i.k i.x i.ps g:=⟨⟨fa,fd,h,t.a,t.F.kp,t.b⟩⟩
theorem At.kb (t:At V i st fa fd) (h:BadP V i fa fd N en bad): ∃g,KB V i N en bad g:=h.imp fun _ h=>⟨h.1,t.ownR h.2⟩
theorem At.join (t:At V i st fa fd) (b:List D→Bool) (hb: ∀q:Pz,q.Ok→b (en q)=bad q) (h1:GoodP V i fa fd Fi en bad) (h2:BadP V i fa fd N en bad): ∃g,KJ V i N Fi en bad g:=by
 obtain ⟨g1,a1,F1⟩:=h1;obtain ⟨g2,a2,F2⟩:=h2;refine ⟨_,fun q hq=>?_,t.ownR (FnOk.two b F1 F2)⟩;rw [hb q hq];cases e:bad q with
 | true=>
  obtain ⟨o,e1,e2⟩:=a2 q ⟨hq,e⟩;exact ⟨o,by rw [if_pos rfl];exact e1,by unfold Out;rw [if_pos rfl];exact e2⟩
 | false=>
  obtain ⟨o,e1,e2⟩:=a1 q ⟨hq,e⟩;exact ⟨o,by rw [if_neg Bool.false_ne_true];exact e1,by unfold Out;rw [if_neg Bool.false_ne_true];exact e2⟩
theorem ya {f:List D→Option D} (h: ∀q:Pz,q.Ok→bad q=false→ ∃d,f (en q)=some d) (hF:FnOk V.P V.w V.K V.mg V.base CX0 i.k fa fd i.ps (spX V.K f)):GoodP V i fa fd RetO en bad:=by
 refine ⟨_,fun q h0z=>?_,FnOk.toR hF⟩;obtain ⟨hq,e⟩:=h0z;obtain ⟨d,h⟩:=h q hq e;exact ⟨.inl d,by rw [h];rfl,d,rfl⟩
theorem F8 {q:Pz} {r:List D} (h:q.Ok):isB1 (enR q::enG q::r)=bad1 q:=by
 show (badR (.list q.b.rows) || badG (.list q.b.giv))=_
 rw [h.b.R,h.b.G]
theorem Nj {q:Pz} {r:List D} (h:q.Ok):isB2 (enR q::r)=bad2 q:=by
 show badR (.list q.b.rows)=_
 rw [h.b.R]
theorem Bt {q:Pz} (h:bad1 q=false):q.b.x=none∧q.b.y=none:=by
 unfold bad1 at h;rw [Bool.or_eq_false_iff] at h;exact ⟨Option.not_isSome_iff_eq_none.mp (by rw [h.1];exact Bool.false_ne_true),Option.not_isSome_iff_eq_none.mp (by rw [h.2];exact Bool.false_ne_true)⟩
theorem Ko {q:Pz} (h:bad2 q=false):q.b.x=none:=Option.not_isSome_iff_eq_none.mp (by unfold bad2 at h;rw [h];exact Bool.false_ne_true)
theorem Pz.Ok.rows {q:Pz} (h:q.Ok):Rows (q.b.a++q.b.b):=⟨h.b.ra,by have:=h.b.n;omega⟩
theorem Pz.Ok.mac {q:Pz} (h:q.Ok):MOk (q.b.a++q.b.b) 3 ⟨0,q.p,q.c⟩:=Md h.b.ra (by have:=h.b.n;omega) h.t h.l h.s h.c (by decide) fun _=>by decide
end
section
variable {m n:Ren→Option FlR} {ms:Ren→Option (List D)} {g:List D→Option (D ⊕ Addr)} {ρ:Ren} {ds:List D} {C:Addr} {i:Nat}
theorem ug (h:m ρ=some (.ex C)):seqR m n ρ=some (.ex C):=by unfold seqR;rw [h];rfl
theorem Nk {ρ':Ren} {o:FlR} (h:m ρ=some (.fl (.nx ρ'))) (h2:n ρ'=some o):seqR m n ρ=some o:=by unfold seqR;rw [h];exact h2
theorem S8 {mf:Ren→Option Fl} {f:Fl} (h:mf ρ=some f):liftR mf ρ=some (.fl f):=by unfold liftR;rw [h];rfl
theorem U3 {mt:Ren→Option Bool} {o:FlR} (h:mt ρ=some true) (h2:m ρ=some o):ifR mt m n ρ=some o:=by unfold ifR;rw [h];exact h2
theorem U4 {mt:Ren→Option Bool} {o:FlR} (h:mt ρ=some false) (h2:n ρ=some o):ifR mt m n ρ=some o:=by unfold ifR;rw [h];exact h2
theorem Kp {mt:Ren→Option Bool} (h:mt ρ=some true):ifR mt m n ρ=m ρ:=by unfold ifR;rw [h];rfl
theorem sy {mt:Ren→Option Bool} (h:mt ρ=some false):ifR mt m n ρ=n ρ:=by unfold ifR;rw [h];rfl
theorem U5 {mi:Ren→Option (List D)} {g:D→Ren→Option Ren} {items:List D} {o:FlR} (h:mi ρ=some items) (h2:forLR g m items ρ=some o):forR mi g m ρ=some o:=by unfold forR;rw [h];exact h2
theorem Qe {ma:Ren→Option D} {d:D} (h:ma ρ=some d) (h1:showOk d=true) (h2:shpD d=true):raiseR ma C ρ=some (.ex C):=by unfold raiseR;rw [h];exact if_pos ⟨h1,h2⟩
theorem Bu (h1:ms ρ=some ds) (h2: ∃o,g ds=some o∧o= .inr C):exprR (callR g ms) ρ=some (.ex C):=by
 obtain ⟨o,h2,rfl⟩:=h2;unfold exprR callR;rw [h1,Option.bind_some,h2];rfl
theorem Nl (h1:ms ρ=some ds) (h2: ∃o,g ds=some o∧o= .inr C):setR i (callR g ms) ρ=some (.ex C):=by
 obtain ⟨o,h2,rfl⟩:=h2;unfold setR callR;rw [h1,Option.bind_some,h2];rfl
end
structure Cx8 (V:Vv) (G N F S:Addr):Prop where
 c:Cxs V G N F S
 rN:RaiseC V.K N
 xN:ExC V.K N
 xF:ExC V.K F
 xS:ExC V.K S
 sNG:PySem.W.subIn V.K (.ref N) (.ref G)=some true
 sNN:PySem.W.subIn V.K (.ref N) (.ref N)=some true
 sFN:PySem.W.subIn V.K (.ref F) (.ref N)=some false
 sFF:PySem.W.subIn V.K (.ref F) (.ref F)=some true
 sSN:PySem.W.subIn V.K (.ref S) (.ref N)=some false
 sSF:PySem.W.subIn V.K (.ref S) (.ref F)=some false
 sSS:PySem.W.subIn V.K (.ref S) (.ref S)=some true
 kN:PySem.W.kitOne V.K (.ref N) (.ref N)=some true
 kF:PySem.W.kitOne V.K (.ref N) (.ref F)=some false
 kS:PySem.W.kitOne V.K (.ref N) (.ref S)=some false
 kV:PySem.W.kitOne V.K (.ref N) (.type "ValueError")=some true
abbrev PreK8 (p:List Row×List Kd):Prop:=Rows p.1∧p.2.length≤500
noncomputable def encK8 (p:List Row×List Kd):List D:=[eRows p.1,eKs p.2,.list [.int 0]]
def PostK8 (p:List Row×List Kd) (d:D):Prop:=d=if p.1.isEmpty=true then .none else eKs p.2
noncomputable abbrev PreF8:=PreK8
noncomputable def encF8 (p:List Row×List Kd):List D:=[eRows p.1,eKs p.2,fewD]
abbrev PostF8 (_:List Row×List Kd) (_:D):Prop:=True
noncomputable abbrev PreT8:=PreK8
noncomputable def encT8 (p:List Row×List Kd):List D:=[eRows p.1,eKs p.2,.list (p.1.map fun _=> .none)]
abbrev PostT8 (_:List Row×List Kd) (_:D):Prop:=True
section
variable {V:Vv} {i:Inf} {fa:Addr} {fd:FuncData} {F S:Addr}
theorem Ep (h:Rx V i fa fd Prelooked enclooked Postlooked):GoodP V i fa fd RetO en1 bad1:=by
 obtain ⟨f,h,hF⟩:=h;refine ya (fun q hq e=>?_) hF;obtain ⟨e1,e2⟩:=Bt e;obtain ⟨d,h,_⟩:=h (q.b.a++q.b.b,q.b.k++q.b.l) ⟨hq.rows,by have:=hq.b.kl;show (q.b.k++q.b.l).length≤500;omega⟩;exact ⟨d,by show f [enR q,enG q]=_;unfold enR enG;rw [Bd.rows_e e1,Bd.giv_e e2];exact h⟩
theorem Er (h:Rn V i fa fd Prestates encstates Poststates):GoodP V i fa fd RetO en2 bad2:=by
 obtain ⟨f,h,hF⟩:=h;refine ya (fun q hq e=>?_) (Oy hF);obtain ⟨d,h,_⟩:=h (q.b.a++q.b.b,⟨0,q.p,q.c⟩,3) ⟨hq.mac,rfl,show 3≤200 by decide⟩;exact ⟨.list d,by show (f [enR q,_,_,_]).map _=_;unfold enR;rw [Bd.rows_e (Ko e)];exact congrArg (Option.map PyData.list) h⟩
theorem Mj (h:Rx V i fa fd Prerun encrun Postrun):GoodP V i fa fd RetO en2 bad2:=by
 obtain ⟨f,h,hF⟩:=h;refine ya (fun q hq e=>?_) hF;obtain ⟨d,h,_⟩:=h (q.b.a++q.b.b,⟨0,q.p,q.c⟩,3) ⟨hq.mac,rfl,show 3≤200 by decide⟩;exact ⟨d,by show f [enR q,_,_,_]=_;unfold enR;rw [Bd.rows_e (Ko e)];exact h⟩
theorem G1 (h:Rx V i fa fd PreT8 encT8 PostT8):GoodP V i fa fd RetO en3 bad1:=by
 obtain ⟨f,h,hF⟩:=h;refine ya (fun q hq e=>?_) hF;obtain ⟨e1,e2⟩:=Bt e;obtain ⟨d,h,_⟩:=h (q.b.a++q.b.b,q.b.k++q.b.l) ⟨hq.rows,by have:=hq.b.kl;show (q.b.k++q.b.l).length≤500;omega⟩;have e3:q.b.rows.map (fun _=>PyData.none)=(q.b.a++q.b.b).map fun _=>PyData.none:=by
  have:q.b.rows=(q.b.a++q.b.b).map eRow:=PyData.list.inj (Bd.rows_e e1)
  rw [this,List.map_map];rfl
 exact ⟨d,by show f [enR q,enG q,_]=_;unfold enR enG;rw [e3,Bd.rows_e e1,Bd.giv_e e2];exact h⟩
theorem G2 (h:Rx V i fa fd PreF8 encF8 PostF8):GoodP V i fa fd RetO en4 bad1:=by
 obtain ⟨f,h,hF⟩:=h;refine ya (fun q hq e=>?_) hF;obtain ⟨e1,e2⟩:=Bt e;obtain ⟨d,h,_⟩:=h (q.b.a++q.b.b,q.b.k++q.b.l) ⟨hq.rows,by have:=hq.b.kl;show (q.b.k++q.b.l).length≤500;omega⟩;exact ⟨d,by show f [enR q,enG q,_]=_;unfold enR enG;rw [Bd.rows_e e1,Bd.giv_e e2];exact h⟩
theorem Dc (h: ∃g,(∀p,Preguarded p→ ∃o,g (encguarded p)=some o∧Gout F S p o)∧FnOk V.P V.w V.K V.mg V.base (CX1 V.P V.w) i.k fa fd i.ps (spR V.K g)):GoodP V i fa fd (Fine F S) en5 bad1:=by
 obtain ⟨f,h,hF⟩:=h;refine ⟨f,fun q h0z=>?_,hF⟩;obtain ⟨hq,e⟩:=h0z;obtain ⟨e1,e2⟩:=Bt e;obtain ⟨o,h,ho⟩:=h ((q.b.a++q.b.b,q.b.k++q.b.l),⟨0,q.p,q.c⟩,3) ⟨hq.mac,rfl,show 3≤200 by decide,by have:=hq.b.kl;show (q.b.k++q.b.l).length≤100;omega⟩;refine ⟨o,by show f [enR q,enG q,_,_,_]=_;unfold enR enG;rw [Bd.rows_e e1,Bd.giv_e e2];exact h,?_⟩;rcases ho with ⟨_,_,rfl⟩ | ⟨_,_,⟨_,rfl⟩ | ⟨_,rfl⟩⟩
 ·exact .inr (.inl rfl)
 ·exact .inr (.inr rfl)
 ·exact .inl ⟨_,rfl⟩
end
noncomputable def pickE (o:Option FlR):Option (D ⊕ Addr):=match o with
 | some (.fl (.rt d))=>some (.inl d)
 | some (.fl (.nx _))=>some (.inl .none)
 | some (.ex C)=>some (.inr C)
 | none=>none
theorem U6 {P:Program} {w:World} {K:Frag} {mg:Str→Option Value} {base:Heap} {x qual:Str} {st:Stmt} {fa:Addr} {fd:FuncData} {N ps:List Str} {k:Nat} {m:Ren→Option FlR} {α:Type} {Pre:α→Prop} {enc:α→List D} {Post:α→D ⊕ Addr→Prop} (F:Fun K x qual st fa fd) (S:FnScope N ps (defScope st)) (hl: ∀p,Pre p→(enc p).length=ps.length)
  (hb: ∀ (cdv:Value) (A:Around) (outer:List Env) (s:Shared) (H:Hp) (E:XK),Room k (A.deeper (envOfC qual (defScope st) s.heap.objs.size fa cdv))→PSs (cxOf (CX1 P w) P w K mg base N qual (defScope st) fa cdv A outer s H E) (defBody st) (tR K E m))
  (hm: ∀p,Pre p→ ∃o,pickE (m ((enc p).map some++List.replicate (N.length - ps.length) none))=some o∧Post p o): ∃g,(∀p,Pre p→ ∃o,g (enc p)=some o∧Post p o)∧FnOk P w K mg base (CX1 P w) (k+1) fa fd ps (spR K g):=by
 refine ⟨fOf Pre enc fun ds=>pickE (m (ds.map some++List.replicate (N.length - ps.length) none)),fun p hp=>?_,?_⟩
 ·obtain ⟨d,h1,h2⟩:=hm p hp
  exact ⟨d,by rw [Bj hp];exact h1,h2⟩
 obtain ⟨oc,od,kV,doc,pm,an,cdv,ct,osl,rfl,lk,hcd⟩:=F.ex;refine Nx lk hcd S (fun vs H Q E h=>?_) fun A outer s H vs Q E hr h=>?_
 ·obtain ⟨ds,o,i,e,_⟩:=h
  obtain ⟨p,h1,rfl,_⟩:=dc e;rw [i.length];exact hl p h1
 ·obtain ⟨ds,o,i,e,q⟩:=h
  obtain ⟨p,h1,rfl,e⟩:=dc e;refine ⟨_,hb cdv A outer s H E hr,?_⟩;have ro:=i.start N;rw [hl p h1] at ro;unfold pickE at e;split at e
  ·rename_i d e1
   cases e;exact ⟨_,_,ro,e1,q⟩
  ·rename_i ρ e1
   cases e;exact ⟨_,_,ro,e1,fun σ' H' s' _=>q .non H' s' .non⟩
  ·rename_i C e1
   cases e;exact ⟨_,_,ro,e1,q⟩
  ·cases e
noncomputable def badW (q:Int×Pz):Bool:=q.2.b.x.isSome || (q.2.b.y.isSome && !(q.1==1 || q.1==2))
def PreC (q:Int×Pz):Prop:=q.2.Ok∧0≤q.1∧q.1≤5
noncomputable def encC (q:Int×Pz):List D:=[.int q.1,enR q.2,enG q.2,.list q.2.p,.tuple q.2.c.l]
structure KC (V:Vv) (i:Inf) (N F S:Addr) (g:List D→Option (D ⊕ Addr)):Prop where
 h: ∀q,PreC q→ ∃o,g (encC q)=some o∧Out N (Fine F S) (badW q) o
 o: ∃f fd,FnOk V.P V.w V.K V.mg V.base (CX1 V.P V.w) i.k f fd i.ps (spR V.K g)∧V.mg i.x=some (.ref f)∧keepIn V.K (.ref f)=true∧Binds V.K fd i.ps []
noncomputable abbrev sd:=PreC
noncomputable abbrev se:=encC
def qf (q:Int×Pz) (d:D):Prop:=d= .bool (badW q)
def eu (q:Pz):Prop:=q.Ok
noncomputable abbrev ji:=en1
def ij (q:Pz) (d:D):Prop:=d= .bool (bad1 q)
structure KnT (V:Vv) (i:Inf) {α:Type} (Pre:α→Prop) (enc:α→List D) (Post:α→D→Prop) (f:List D→Option (List D×D)):Prop where
 h: ∀p,Pre p→ ∃q,f (enc p)=some q∧Post p (.tuple [.list q.1,q.2])
 o:Oz V i (spT V.K f)
noncomputable def exF (ρ:Ren):D ⊕ Addr→FlR
 | .inl _=> .fl (.nx ρ)
 | .inr C=> .ex C
theorem Qf {m:Ren→Option (D ⊕ Addr)} {ρ:Ren} {o:D ⊕ Addr} (h:m ρ=some o):exprR m ρ=some (exF ρ o):=by
 show Option.map _ (m ρ)=_
 rw [h];cases o <;> rfl
theorem ng {g:List D→Option (D ⊕ Addr)} {ms:Ren→Option (List D)} {ρ:Ren} {ds:List D} {N F S:Addr} {Fi:D ⊕ Addr→Prop} {b:Bool} {X:Option FlR} (hm:X=exprR (callR g ms) ρ) (h1:ms ρ=some ds) (h2: ∃o,g ds=some o∧Out N Fi b o) (hf: ∀o,Fi o→Fine F S o): ∃o,pickE X=some o∧Out N (Fine F S) b o:=by
 obtain ⟨o,e,h⟩:=h2;have e2:callR g ms ρ=some o:=by unfold callR;rw [h1];exact e
 rw [hm,Qf e2];unfold Out at h;cases o with
 | inr C=>
  refine ⟨_,rfl,?_⟩;unfold Out;split
  ·rename_i hb;rw [if_pos hb] at h;exact h
  ·rename_i hb;rw [if_neg hb] at h;exact hf _ h
 | inl d=>
  refine ⟨.inl .none,rfl,?_⟩;unfold Out;split
  ·rename_i hb;rw [if_pos hb] at h;cases h
  ·exact .inl ⟨_,rfl⟩
noncomputable def refB (N:Addr):D ⊕ Addr→D
 | .inl _=> .bool false
 | .inr C=> .bool (decide (C=N))
theorem Nm {N:Addr} {Fi:D ⊕ Addr→Prop} {b:Bool} {o:D ⊕ Addr} (h:Out N Fi b o) (hf: ∀C,Fi (.inr C)→C≠N):refB N o= .bool b:=by
 unfold Out at h;cases b with
 | true=>rw [if_pos rfl] at h;rw [h];show PyData.bool (decide (N=N))=_;rw [decide_eq_true rfl]
 | false=>
  rw [if_neg Bool.false_ne_true] at h;cases o with
  | inl d=>rfl
  | inr C=>show PyData.bool (decide (C=N))=_;rw [decide_eq_false (hf C h)]
theorem Cx8.ne {V:Vv} {G N F S:Addr} (c:Cx8 V G N F S):F≠N∧S≠N∧S≠F:=by
 refine ⟨fun e=>?_,fun e=>?_,fun e=>?_⟩
 ·have:=c.sFN;rw [e,c.sNN] at this;cases this
 ·have:=c.sSN;rw [e,c.sNN] at this;cases this
 ·have:=c.sSF;rw [e,c.sFF] at this;cases this
theorem seq_nilR {m:Ren→Option FlR} {ρ:Ren}:seqR m (fun ρ=>some (.fl (.nx ρ))) ρ=m ρ:=by
 unfold seqR;cases m ρ with
 | none=>rfl
 | some o=>
  cases o with
  | ex C=>rfl
  | fl f=>cases f <;> rfl
section
variable {m n m1 m2:RenO→Option FlO} {ρ ρ':RenO} {o:Option FlO} {i j:Nat} {d:D}
theorem oS (h:m ρ=some (.nx ρ')) (k:n ρ'=o):seqO m n ρ=o:=by unfold seqO;rw [h];exact k
theorem oC {ma:Ren→Option D} (h:ma (shOf ρ)=some d):setC i ma ρ=some (.nx (ρ.set i (some (.sh d)))):=by unfold setC;rw [h]
theorem oP {ms:Ren→Option (List D×D)} {q:List D×D} (h:ms (shOf ρ)=some q):pairO i j ms ρ=some (.nx ((ρ.set i (some (.ow q.1))).set j (some (.sh q.2)))):=by unfold pairO;rw [h]
theorem oI {ms:Ren→Option (List D)} {ds:List D} {k:Int} (h:owAt ρ i=some ds) (h1:ms (allOf ρ)=some [.int k,d]) (h0:0≤k) (hk:k.toNat≤ds.length) (hl:ds.length+1≤lim) (hn:noL d=true):insD i ms ρ=some (.nx (ρ.set i (some (.ow (ds.take k.toNat++d::ds.drop k.toNat))))):=by
 unfold insD;rw [h];dsimp only;rw [h1];exact if_pos ⟨h0,hk,hl,hn⟩
theorem oR {m:Ren→Option Fl} (h:m (allOf ρ)=some (.rt d)):restO m ρ=some (.rt d):=by unfold restO;rw [h]
theorem o2E {α:Type} {f:α→RenO} {P:α→Prop} (h: ∃a ρ1,m1 ρ=some (.nx ρ1)∧m2 ρ1=some (.nx (f a))∧P a) (k: ∀a,P a→n (f a)=o):seqO m1 (seqO m2 n) ρ=o:=by
 obtain ⟨a,ρ1,h1,h2,hp⟩:=h;exact oS h1 (oS h2 (k a hp))
end
noncomputable abbrev signs8:D:= .str "abcdefghijklmnopqrstuvwxyzABCXYZ0189 .-_"
noncomputable def oddAt (n:Nat):Bool:=match ixD signs8 (.int n) with
 | some (.str z)=>oddS z
 | _=>false
theorem Mk (i:Int): ∃z,ixD signs8 (.int (i % 40))=some (.str z)∧oddS z=true:=by
 have h:(List.range 40).all oddAt=true:=by decide+kernel
 have h0:=Int.emod_nonneg i (show (40:Int)≠0 by decide);have h1:=Int.emod_lt_of_pos i (show (0:Int) < 40 by decide);have h2:=List.all_eq_true.mp h (i % 40).toNat (List.mem_range.mpr (by omega));unfold oddAt at h2;rw [Int.toNat_of_nonneg h0] at h2;split at h2
 ·exact ⟨_,by assumption,h2⟩
 ·cases h2
theorem Ml (c:Int): ∃y z,ixD signs8 (.int (c / 4 % 40))=some (.str y)∧ixD (.list [.str "numbers",.str "",.str "Text",.str y]) (.int (c % 4))=some (.str z)∧oddS z=true:=by
 obtain ⟨y,h1,h2⟩:=Mk (c / 4);refine ⟨y,?_⟩;have h:c % 4=0∨c % 4=1∨c % 4=2∨c % 4=3:=by omega
 rcases h with h | h | h | h <;> rw [h]
 ·exact ⟨_,h1,rfl,by decide+kernel⟩
 ·exact ⟨_,h1,rfl,by decide+kernel⟩
 ·exact ⟨_,h1,rfl,by decide+kernel⟩
 ·exact ⟨_,h1,rfl,h2⟩
theorem Pz.Ok.lay {q:Pz} (h:q.Ok):(enR q).canLay0=true∧(enG q).canLay0=true∧sz (enR q)≤1000∧sz (enG q)≤1000:=by
 have a1: ∀ {l l':List D},PyData.canLayAll0 l=true→PyData.canLayAll0 l'=true→PyData.canLayAll0 (l++l')=true:=fun {l l'}=>by
  intro h1 h2
  induction l with
  | nil=>exact h2
  | cons d r ih=>
   rw [List.cons_append,Cn] at*;rw [Bool.and_eq_true] at h1;rw [h1.1,ih h1.2];rfl
 have a2: ∀ {l l':List D},szs (l++l')=szs l+szs l':=fun {l l'}=>by
  induction l with
  | nil=>simp [szs]
  | cons d r ih=>rw [List.cons_append,szs,szs,ih];omega
 have ra: ∀r∈q.b.a,r.ok=true:=fun r hr=>h.b.ra r (mem_append_left _ hr);have rb: ∀r∈q.b.b,r.ok=true:=fun r hr=>h.b.ra r (mem_append_right _ hr);have ox:PyData.canLayAll0 (q.b.x.toList.map tkD)=true∧szs (q.b.x.toList.map tkD)≤10:=by
  cases e:q.b.x with
  | none=>exact ⟨by simp,by simp [szs]⟩
  | some x=>have:=(Qd (h.b.ox x e)).1;exact ⟨by simp [tkD,this],by simp [tkD,szs,sz]⟩
 have oy:PyData.canLayAll0 (q.b.y.toList.map PyData.str)=true∧szs (q.b.y.toList.map PyData.str)≤10:=by
  cases e:q.b.y with
  | none=>exact ⟨by simp,by simp [szs]⟩
  | some x=>have:=(Qd (h.b.oy x e)).1;exact ⟨by simp [this],by simp [szs,sz]⟩
 have n:=h.b.n;have kl:=h.b.kl;rw [length_append] at n kl;have s1:=Eh ra;have s2:=Eh rb;refine ⟨?_,?_,?_,?_⟩
 ·rw [Uh];exact a1 (wu ra) (a1 ox.1 (wu rb))
 ·rw [Uh];exact a1 (ua _) (a1 oy.1 (ua _))
 ·unfold enR Bd.rows;rw [sz,a2,a2];have:=ox.2;omega
 ·unfold enG Bd.giv;rw [sz,a2,a2,Pb,Pb];have:=oy.2;omega
theorem Pz.Ok.same1 {q:Pz} (h:q.Ok):gr [.list [enR q,enG q],.list [enR q,enG q]]=some (.bool true):=by
 obtain ⟨a,b,c,d⟩:=h.lay;refine v6 ?_ ?_
 ·simp only [Uh,Cn,a,b];simp
 ·simp only [sz,szs] at c d ⊢;omega
theorem Pz.Ok.same2 {q:Pz} (h:q.Ok):gr [.list [.list q.p,.tuple q.c.l],.list [.list q.p,.tuple q.c.l]]=some (.bool true):=by
 obtain ⟨a,b⟩:=Sy h.c
 have:=h.l
 refine v6 ?_ ?_
 ·simp [m9 h.t,a]
 ·simp only [sz,szs,qe h.t];omega
end RG
end
section
namespace RH
open PySem PySem.W PyProof.Rows PySem.Calls
noncomputable def goG (ok:Nat→Option Value→Thread→Bool) (st:Program→World→SharedT→Thread→Option (SharedT×Thread)) (p:Program) (w:World) (n₀:Nat) (ann:Option Value):Nat→SharedT→Thread→Option SharedT
 | 0,_,_=>none
 | n+1,s,t=>match through t with
  | true=>some s
  | false=>match ok n₀ ann t with
   | false=>none
   | true=>match st p w s t with
    | some (s',t')=>goG ok st p w n₀ ann n s' t'
    | none=>none
theorem Nn {p:Program} {w:World} {n₀:Nat} {ann:Option Value}: ∀ {n:Nat} {s s':SharedT} {t:Thread},goG stepOk (stepT (denote treeTable)) p w n₀ ann n s t=some s'→topRun treeTable p w n₀ ann n s.abs t=some s'.abs
 | 0,_,_,_,h=>by cases h
 | n+1,s,s',t,h=>by
  unfold goG at h;unfold topRun;cases he:through t with
  | true=>rw [he] at h;cases h;rfl
  | false=>
   rw [he] at h;cases hk:stepOk n₀ ann t with
   | false=>rw [hk] at h;cases h
   | true=>
    rw [hk] at h;cases hs:stepT (denote treeTable) p w s t with
    | none=>rw [hs] at h;cases h
    | some r=>obtain ⟨s₂,t₂⟩:=r;rw [hs] at h;rw [stepT_spec hs];exact Nn h
noncomputable def growT:List Obj→Nat→BT→BT
 | [],_,t=>t
 | o::r,n,t=>growT r (n+1) (t.ins n o)
noncomputable def lookG {β α:Type} (im:List Stmt→List Str) (os:Program→List Str→List Str→(Shared→Bool)→Bool→Shared→β) (p q:Program) (loose:List Str) (Xt:Shared→Bool) (Yf:Shared→α) (h₀:Heap) (s:Shared):Bool×β×α:=
 (staticsOk (im p.main.body) h₀ s.heap && namesBound p s.heap && gensDone s && laidKept h₀ s.heap,os q loose (im p.main.body) Xt true s,Yf s)
theorem Kq {p q:Program} {loose:List Str} {Xt:Shared→Bool} {α:Type} {Yf:Shared→α} {Ya:World→α} {N m₀:Nat} {ann:Option Value} {T:Params→BT} {life:Life} (e:opening p=plainProg p.main.scope.names) (hN:Nat.ble 600 N=true) (f: ∀s,fenceModules? p s=some s)
  (hb: ∀P,boot_heap P=absHeap (T P) m₀ life) (size: ∀w:World,((boot_heap w.params).isNs mainGlobals,(boot_heap w.params).nsMap mainGlobals "__annotations__")=(true,ann))
  (h: ∀w:World,(fun os=>(goG stepOk (stepT (denote treeTable)) p w m₀ ann N ⟨T w.params,m₀,life,Array.mk [],boot_drawn,boot_toks,os⟩ (topStub p)).map fun s=>lookG importedModules openSeen p q loose Xt Yf (boot_heap w.params) s.abs)=fun _=>some (true,openGood q loose,Ya w)):LeftO p q loose Xt Yf Ya N true:=fun w=>by
 obtain ⟨⟨h0,gs,d,k,os⟩,e1,e'⟩:=Option.map_eq_some_iff.mp (boot_open e hN f w);obtain ⟨rfl,rfl,rfl,rfl⟩:h0=boot_heap w.params∧gs=Array.mk []∧d=boot_drawn∧k=boot_toks:=by simpa using e'
 obtain ⟨s,hs,hl⟩:=Option.map_eq_some_iff.mp (congrFun (h w) os);obtain ⟨l1,l2,l3⟩:_∧_∧_:=by simpa only [lookG,Prod.mk.injEq] using hl
 obtain ⟨z1,z3⟩:_∧_:=by simpa only [Prod.mk.injEq] using size w
 have r:=Nn hs;have z2:(boot_heap w.params).objs.size=m₀:=by rw [hb];exact absHeap_size _ _ _
 have ea:(SharedT.mk (T w.params) m₀ life (Array.mk []) boot_drawn boot_toks os).abs=⟨boot_heap w.params,Array.mk [],boot_drawn,boot_toks,os⟩:=by
  unfold SharedT.abs;rw [hb]
 rw [ea] at r;have t:topFrom treeTable p w N ⟨boot_heap w.params,Array.mk [],boot_drawn,boot_toks,os⟩=some s.abs:=by
  unfold topFrom;dsimp only;rw [z1,z2,z3,r]
  show (match staticsOk _ (boot_heap w.params) s.abs.heap && namesBound p s.abs.heap && gensDone s.abs && laidKept (boot_heap w.params) s.abs.heap with | true=>_ | false=>_)=_
  rw [l1]
 unfold openEnds;rw [e1]
 show (topFrom treeTable p w N _).map _=_
 rw [t];exact congrArg some (Prod.ext l2 l3)
end RH
end
section
set_option maxHeartbeats 4000000
namespace RZ
open PySem L2 RG
local macro_rules | `(tactic| trivial)=> `(tactic| first | exact Or.inl rfl | exact Or.inr rfl)
theorem xv (i:Nat) {X:Cx} {x:Str} {pos:Pos} (hN:X.N[i]?=some x:=by rfl) (hv:Vis X.env.scope x:=by trivial) (hd:(x==("__debug__":Str))=false:=by decide) (hcd:(x==("__classdict__":Str))=false:=by decide):XE X (.Name x pos) (fun ρ=>(ρ[i]?).join):=T2 i (pv i hN hv hd hcd)
noncomputable def top (i:Nat):Stmt:=PySem.Challenge.pw_rowguard_k08_no_kind.main.body.getD i (.Pass ⟨0,0,0,0⟩)
section
variable {V:Vv}
noncomputable abbrev uh:Stmt:=top 9
noncomputable abbrev I4b:Inf:=⟨1,"kind_of",["thing"]⟩
theorem G3:FnScope ["thing"] I4b.ps (defScope uh):=FS
theorem G4 {fa fd} (F:Fu V I4b uh fa fd) (gb:Gb2 V.mg):Fz V I4b fa fd (spX V.K fj):=by
 have sc:=G3;refine yw (k:=0) F sc (by
  intro ds d h;unfold fj at h;split at h
  ·rfl
  ·cases h) (fun cdv A outer s H E hr=>(ae (cg (fc (lf rfl gb.isi (xv 0) rfl gb.bool boot_bool) (fun _=>rfl)) (ag (ak af)) au)
   (ae (cg (fc (lf rfl gb.isi (xv 0) rfl gb.int boot_int) (fun _=>rfl)) (ag (ak af)) au)
   (ag (ak af))))) ?_
 intro ds d h;left;unfold fj at h;split at h
 ·rename_i t
  split at h
  ·rename_i ht
   cases h;cases t <;> first | (cases ht;done) | skip
   all_goals simp [kindT,Kd.d,Kd.s,isTy,tyN]
  ·cases h
 ·cases h
noncomputable abbrev qv:Stmt:=top 10
noncomputable abbrev I48:Inf:=⟨2,"kinds_of",["pile"]⟩
theorem Es:FnScope ["pile"] I48.ps (defScope qv):=FS
theorem Et {fa fd} (F:Fu V I48 qv fa fd) (gb:Gb2 V.mg) (nh:Ox V I4b fj):Rx V I48 fa fd og et lg:=by
 have sc:=Es;refine re (k:=1) F sc (fun p _=>rfl) (fun cdv A outer s H E hr=>(ag (ak (lr rfl (lc (NB:=["thing"]) (fr:=[none]) rfl (by decide+kernel) rfl (by decide+kernel) rfl rfl rfl rfl) (lq (xv 0)) (ee (i:=0) rfl) (fun _ _ _ _ _=>gh (i:=0) (show List.Nodup (["thing"]:List Str) by decide+kernel) rfl (Or.inl rfl)) (fun _ _ _ _ _=>nj) (fun _ _ _ _ _=>(am nh (hr.mono (by decide)) rfl (aa (xv 0) ac))))))) ?_
 rintro ps ⟨hp,hl⟩
 refine ⟨_,?_,rfl⟩
 show _=some (Fl.rt (eKs (kindsP ps)))
 have l1:ps.length≤lim:=by unfold lim;omega
 have hc: ∀ {g:D→Option (Option D)},(∀t,thing t=true→g t=some (some (kindT t).d))→compL g ps=some (ps.map fun t=>(kindT t).d):=fun {g} h=>by
  have:=p8 (c:=id) (q:=fun t=>(kindT t).d) (g:=g) (l:=ps) fun t ht=>h t (hp t ht)
  rwa [List.map_id] at this
 simp [et,l1];rw [hc fun t ht=>by simp [Se ht]];simp [eKs,kindsP,Function.comp_def]
noncomputable abbrev d0:Stmt:=top 11
noncomputable abbrev I14:Inf:=⟨1,"refuse_no_kinds",["rows","given"]⟩
theorem lj:FnScope ["rows","given","taken","kind"] I14.ps (defScope d0):=FS
theorem ui {fa fd} (F:Fu V I14 d0 fa fd) (gb:Gb2 V.mg) (oj:GlAt V.K V.mg "KINDS" kindsD):Fz V I14 fa fd (spX V.K ay):=by
 have sc:=lj;refine yw (k:=0) F sc (by intro ds d h;unfold ay at h;split at h <;> first | rfl | cases h) (fun cdv A outer s H E hr=>(ae (A5 (i:=2) sc.nd rfl (by trivial) rfl (lc (NB:=["row"]) (fr:=[none]) rfl (by decide+kernel) rfl (by decide+kernel) rfl rfl rfl rfl) (lq (xv 0)) (ee (i:=0) rfl) (fun _ _ _ _ _=>gh (i:=0) (show List.Nodup (["row"]:List Str) by decide+kernel) rfl (Or.inl rfl)) (fun _ _ _ _ _=>(xg (ai (ba hr.units) fx (aj (xv 0) ad) af (nomark _)))) (fun _ _ _ _ _=>(aj (xv 0) ad)))
   (ag (Ih PassesOwn.never rfl (lq (ah cm gy (xv 2) (xv 1))) (gh (i:=3) sc.nd rfl (by trivial)) (ag (cg (ai (xi hr.units) xb (xv 3) (Lo oj rfl) (by with_unfolding_all rfl)) (ag R5) au)))))) ?_
 intro ds d h;right;unfold ay at h;split at h
 ·rename_i r k
  obtain ⟨rs,h1,h⟩:=bind_some h;obtain ⟨ks,h2,h3⟩:=map_some h;subst h3;clear h;obtain ⟨rfl,R⟩:=ny h1;obtain ⟨rfl,hk⟩:=py h2;refine ⟨rfl,?_⟩;have hn:=R.len;have hn2:rs.length≤lim:=by unfold lim;omega
  have ht:=uc rs;have hcat:(takesOf rs).length+ks.length≤100000:=by omega
  simp [eRows,eKs,hn2];rw [vd]
  case h=>
   intro r;cases r <;> simp [eRow,ar,aq]
  simp [lim,hcat];rw [←List.map_append];refine (Bn (P:=fun ρ=>∃o,ρ=[some (PyData.list (rs.map eRow)),some (PyData.list (ks.map Kd.d)),some (PyData.list ((takesOf rs).map Kd.d)),o]) (items:=(takesOf rs++ks).map Kd.d) ?_ ⟨none,rfl⟩).imp fun ρ' h=>h.1
  rintro x hx ρ ⟨o,rfl⟩
  obtain ⟨k,_,rfl⟩:=List.mem_map.mp hx;refine ⟨_,_,rfl,?_,some k.d,rfl⟩;cases k <;> simp [kindsD,Kd.d,Kd.s,ar,aq]
 ·cases h
theorem s9 {fa fd} (F:Fu V I14 d0 fa fd) (gb:Gb2 V.mg) {CG CN CF CS:Addr} (cx:Cx8 V CG CN CF CS) (oj:GlAt V.K V.mg "KINDS" kindsD):BadP V I14 fa fd CN en1 bad1:=by
 have sc:=lj;refine Da (k:=0) (Pre:=fun q=>q.Ok∧bad1 q=true) (enc:=en1) (Post:=fun _ o=>o= .inr CN) F sc (fun p _=>rfl) (fun cdv A outer s H E hr=>cv (Kg (A5 (i:=2) sc.nd rfl (by trivial) rfl (lc (NB:=["row"]) (fr:=[none]) rfl (by decide+kernel) rfl (by decide+kernel) rfl rfl rfl rfl) (lq (xv 0)) (ee (i:=0) rfl) (fun _ _ _ _ _=>gh (i:=0) (show List.Nodup (["row"]:List Str) by decide+kernel) rfl (Or.inl rfl)) (fun _ _ _ _ _=>(xg (ai (ba hr.units) fx (aj (xv 0) ad) af (nomark _)))) (fun _ _ _ _ _=>(aj (xv 0) ad)))) (cv (S3 PassesOwn.leaving rfl (lq (ah cm gy (xv 2) (xv 1))) (gh (i:=3) sc.nd rfl (by trivial)) (cv (C9 (ai (xi hr.units) xb (xv 3) (Lo oj rfl) (by with_unfolding_all rfl)) (cv (Fy hr rfl cx.c.mN cx.rN (xv 3)) gv) gv) gv)) gv)) ?_
 rintro q ⟨hq,hb⟩
 refine ⟨.inr CN,?_,rfl⟩;obtain ⟨h1,h2⟩:=hq.b.len;have h3:=q.b.its_len;have hn2:q.b.rows.length≤lim:=by unfold lim;omega
 have hcat:q.b.its.length+q.b.giv.length≤lim:=by unfold lim;omega
 refine Nk (ρ':=[some (enR q),some (enG q),some (.list q.b.its),none]) (S8 ?_) (ug (U5 (items:=q.b.its++q.b.giv) ?_ (F7 (odd:=oddD) (C:=CN) (fun ρ=>∃o,ρ=[some (enR q),some (enG q),some (.list q.b.its),o]) ?_ ?_ (hq.b.odd.trans hb) ⟨none,rfl⟩)))
 ·simp [en1,hn2]
  rw [Bd.takes]
  ·rfl
  ·intro r
   cases r <;> simp [eRow,ar,aq]
  ·intro x
   simp [tkD]
 ·simp [hcat]
 ·rintro d hd ho ρ ⟨o,rfl⟩
  rcases q.b.each d hd with ⟨k,rfl⟩ | ⟨x,rfl,z⟩
  ·refine ⟨_,_,rfl,Nk (U4 ?_ rfl) rfl,some k.d,rfl⟩
   cases k <;> simp [kindsD,Kd.d,Kd.s,ar,aq]
  ·have:oddS x=true:=z.elim (hq.b.ox x) (hq.b.oy x)
   rw [show oddD (.str x)=oddS x from rfl,this] at ho;cases ho
 ·rintro d hd ho ρ ⟨o,rfl⟩
  rcases q.b.each d hd with ⟨k,rfl⟩ | ⟨x,rfl,z⟩
  ·rw [F6] at ho
   cases ho
  ·have hx:oddS x=true:=ho
   obtain ⟨x0,x4,x1,x2,x3⟩:=Qd hx;refine ⟨_,rfl,ug (U3 ?_ (ug (Qe rfl x4 rfl)))⟩;simp [kindsD,x0,x1,x2,x3]
noncomputable abbrev jt:Stmt:=top 13
noncomputable abbrev I2f:Inf:=⟨1,"count_taken",["row"]⟩
theorem yz:FnScope ["row"] I2f.ps (defScope jt):=FS
theorem y0 {fa fd} (F:Fu V I2f jt fa fd) (gb:Gb2 V.mg) (vg:TabAt V.P V.w V.K V.mg "TAKEN" takenF):Fz V I2f fa fd (spX V.K ap):=by
 have sc:=yz;refine yw (k:=0) F sc (fun ds d h=>by obtain ⟨r,rfl,_⟩:=Ai h;rfl) (fun cdv A outer s H E hr=>(ag (ak (ax ce dw rfl gb.len PySem.boot_len (aa (xj vg rfl (aj (xv 0) ad)) ac cb))))) ?_;intro ds d h;left;obtain ⟨r,rfl,ho,rfl⟩:=Ai h;cases r <;> simp [eRow,ar,aq,takeN,tup2]
noncomputable abbrev uj:Stmt:=top 14
noncomputable abbrev I4c:Inf:=⟨2,"has_few",["row","kinds"]⟩
theorem G5:FnScope ["row","kinds"] I4c.ps (defScope uj):=FS
theorem G6 {fa fd} (F:Fu V I4c uj fa fd) (gb:Gb2 V.mg) (bj:Ox V I2f ap):Fz V I4c fa fd (spX V.K xl):=by
 have sc:=G5;refine yw (k:=1) F sc (fun ds d h=>kt h) (fun cdv A outer s H E hr=>(ae (cg (ai (ba hr.units) fx (aj (xv 0) ad) af (nomark _)) (ag (ak (N7 (ek Ay su (aj (xv 0) ad) ad (nomark _)) (vq (ek T0 su (aj (xv 0) ad) (ax ce dw rfl gb.len PySem.boot_len (aa (xv 1) ac)) (nomark _)))))) au)
   (ag (ak (ek Ay su (ax ce dw rfl gb.len PySem.boot_len (aa (xv 1) ac)) (am bj (hr.mono (by decide)) rfl (aa (xv 0) ac)) (nomark _)))))) ?_
 intro ds d h;left;obtain ⟨r,ks,rfl,ho,hl,e⟩:=gq h;obtain ⟨rs,rfl⟩: ∃rs:List Kd,ks=rs.reverse:=⟨ks.reverse,by simp⟩
 clear h;cases e;have hcp: ∀t:D,r= .push t→ap [.tuple [.str "push",t]]=some (.int 0):=fun t e=>Ba (by subst e;exact ho);cases r <;> simp [eRow,eKs,ar,aq,lackT,tup2,bo,bp,di,cp,cq,bq,br,bt,bu,cr,bv,bw,cu] <;> (try simp [hcp _ rfl])
 case copy n=>
  simp only [lackR]
  by_cases h1:n < 0
  ·simp [h1,isFew]
  ·by_cases h2:(rs.length:Int)≤n <;> simp [h1,h2,isFew]
 all_goals (rcases rs with _ | ⟨b,_ | ⟨a,rs⟩⟩ <;> simp [lackR,isFew] <;> try omega)
 all_goals (repeat' split) <;> simp
noncomputable abbrev gf:Stmt:=top 15
noncomputable abbrev I18:Inf:=⟨2,"has_wrong_kind",["row","kinds"]⟩
theorem vh:FnScope ["row","kinds","asked","upmost"] I18.ps (defScope gf):=FS
theorem vi {fa fd} (F:Fu V I18 gf fa fd) (gb:Gb2 V.mg) (vg:TabAt V.P V.w V.K V.mg "TAKEN" takenF) (bj:Ox V I2f ap):Fz V I18 fa fd (spX V.K jm):=by
 have sc:=vh;refine yw (k:=1) F sc (fun ds d h=>kt h) (fun cdv A outer s H E hr=>(ae (ck (i:=2) sc.nd rfl (by trivial) (xj vg rfl (aj (xv 0) ad)))
   (ae (ck (i:=3) sc.nd rfl (by trivial) (db (xv 1) (dv (ah ii pp (ax ce dw rfl gb.len PySem.boot_len (aa (xv 1) ac)) (am bj (hr.mono (by decide)) rfl (aa (xv 0) ac)))) eh))
   (ae (cg (ai (ba hr.units) fx (aj (xv 0) ad) af (nomark _)) (ag (ak (ek (em hr.units) xh (aj (xv 3) ad) (aj (xv 3) ad) (nomark _)))) au)
   (ag (ak (ax Iv (T6 rfl) rfl gb.any boot_any (aa (lr rfl (lc (NB:=["wanted","kind"]) (fr:=[none,none]) rfl (by decide+kernel) rfl (by decide+kernel) rfl rfl rfl rfl) (M3 rfl gb.zip (aa (xv 2) (aa (xv 3) ac))) (Ae (i:=0) (j:=1) rfl rfl) (fun _ _ _ _ _=>Dx rfl (jk (i:=0) (show List.Nodup (["wanted","kind"]:List Str) by decide+kernel) rfl (Or.inl rfl)) (jk (i:=1) (show List.Nodup (["wanted","kind"]:List Str) by decide+kernel) rfl (Or.inl rfl))) (fun _ _ _ _ _=>nj) (fun _ _ _ _ _=>(Cg (ek wz Cj (xv 0) jq (nomark _)) (vq (ek (em hr.units) xh (xv 0) (xv 1) (nomark _)))))) ac)))))))) ?_
 intro ds d h;left;obtain ⟨r,ks,rfl,ho,hl,e⟩:=gq h;obtain ⟨rs,rfl⟩: ∃rs:List Kd,ks=rs.reverse:=⟨ks.reverse,by simp⟩
 clear h;rw [bh] at e;cases r
 case push | take | go | fin=>
  cases e;exact sq (dq (d:= .tuple []) (by kernel_rfl)) (sq (dq (slcL (append_nil _).symm rfl (Eq.trans (jo (c6 (bx rfl rfl) rfl) (c6 (bx rfl rfl) (dg ho))) (congrArg (fun z=>some (PyData.int z)) (by simp [takeN];try omega))))) (by kernel_rfl))
 case copy n=>
  by_cases h1:n < 0∨n ≥ (rs.length:Int)
  ·rw [show lackR (.copy n) rs=some .few from if_pos h1] at e
   cases e
  ·rw [show lackR (.copy n) rs=none from if_neg h1] at e
   cases e;exact sq (dq (d:= .tuple []) (by kernel_rfl)) (sq (dq (slcL (append_nil _).symm rfl (Eq.trans (jo (c6 (bx rfl rfl) rfl) (c6 (bx rfl rfl) (dg ho))) (congrArg (fun z=>some (PyData.int z)) (by simp [takeN];try omega))))) (by kernel_rfl))
 case not | iff=>
  rcases rs with _ | ⟨b,rs⟩
  ·cases e
  ·have hs:(b::rs).reverse.map Kd.d=rs.reverse.map Kd.d++[b.d]:=by simp
   refine sq (dq (d:= .tuple [Kd.truth.d]) (by kernel_rfl)) (sq (dq (slcL hs rfl (Eq.trans (jo (c6 (bx rfl rfl) rfl) (c6 (bx rfl rfl) (dg ho))) (congrArg (fun z=>some (PyData.int z)) (by simp [takeN];try omega))))) ?_);cases b <;> cases e <;> kernel_rfl
 case drop | tell=>
  rcases rs with _ | ⟨b,rs⟩
  ·cases e
  ·have hs:(b::rs).reverse.map Kd.d=rs.reverse.map Kd.d++[b.d]:=by simp
   refine sq (dq (d:= .tuple [.none]) (by kernel_rfl)) (sq (dq (slcL hs rfl (Eq.trans (jo (c6 (bx rfl rfl) rfl) (c6 (bx rfl rfl) (dg ho))) (congrArg (fun z=>some (PyData.int z)) (by simp [takeN];try omega))))) ?_);cases b <;> cases e <;> kernel_rfl
 case add | less=>
  rcases rs with _ | ⟨b,_ | ⟨a,rs⟩⟩
  ·cases e
  ·cases e
  ·have hs:(b::a::rs).reverse.map Kd.d=rs.reverse.map Kd.d++[a.d,b.d]:=by simp
   refine sq (dq (d:=tup2 Kd.number.d Kd.number.d) (by kernel_rfl)) (sq (dq (slcL hs rfl (Eq.trans (jo (c6 (bx rfl rfl) rfl) (c6 (bx rfl rfl) (dg ho))) (congrArg (fun z=>some (PyData.int z)) (by simp [takeN];try omega))))) ?_);cases a <;> cases b <;> cases e <;> kernel_rfl
 case join=>
  rcases rs with _ | ⟨b,_ | ⟨a,rs⟩⟩
  ·cases e
  ·cases e
  ·have hs:(b::a::rs).reverse.map Kd.d=rs.reverse.map Kd.d++[a.d,b.d]:=by simp
   refine sq (dq (d:=tup2 Kd.text.d Kd.text.d) (by kernel_rfl)) (sq (dq (slcL hs rfl (Eq.trans (jo (c6 (bx rfl rfl) rfl) (c6 (bx rfl rfl) (dg ho))) (congrArg (fun z=>some (PyData.int z)) (by simp [takeN];try omega))))) ?_);cases a <;> cases b <;> cases e <;> kernel_rfl
 case same | swap=>
  rcases rs with _ | ⟨b,_ | ⟨a,rs⟩⟩
  ·cases e
  ·cases e
  ·have hs:(b::a::rs).reverse.map Kd.d=rs.reverse.map Kd.d++[a.d,b.d]:=by simp
   refine sq (dq (d:=tup2 .none .none) (by kernel_rfl)) (sq (dq (slcL hs rfl (Eq.trans (jo (c6 (bx rfl rfl) rfl) (c6 (bx rfl rfl) (dg ho))) (congrArg (fun z=>some (PyData.int z)) (by simp [takeN];try omega))))) ?_);cases a <;> cases b <;> cases e <;> kernel_rfl
noncomputable abbrev ju:Stmt:=top 12
noncomputable abbrev I35:Inf:=⟨3,"lack_of_row",["row","kinds"]⟩
theorem y4:FnScope ["row","kinds"] I35.ps (defScope ju):=FS
theorem y6 {fa fd} (F:Fu V I35 ju fa fd) (gb:Gb2 V.mg) (yb:Ox V I4c xl) (jp:Ox V I18 jm):Fz V I35 fa fd (spX V.K nu):=by
 have sc:=y4;refine yw (k:=2) F sc (fun ds d h=>kt h) (fun cdv A outer s H E hr=>(ae (cg (fc (am yb (hr.mono (by decide)) rfl (aa (xv 0) (aa (xv 1) ac))) (fun _=>rfl)) (ag (ak af)) au)
   (ae (cg (fc (am jp (hr.mono (by decide)) rfl (aa (xv 0) (aa (xv 1) ac))) (fun _=>rfl)) (ag (ak af)) au)
   (ag (ak jq))))) ?_
 intro ds d h;left;obtain ⟨r,ks,rfl,ho,hl,e⟩:=gq h;clear h;cases e;have h1:xl [eRow r,eKs ks]=_:=dy ho hl;have h2:jm [eRow r,eKs ks]=_:=dy ho hl;cases hL:lackT r ks with
 | none=>
  rw [hL] at h1 h2;simp [h1,h2,isFew,eWhy]
 | some y=>
  rw [hL] at h1 h2;cases y
  ·simp [h1,isFew,eWhy,Why.d]
  ·simp [h1,h2,isFew,eWhy,Why.d]
noncomputable abbrev ol:Stmt:=top 17
noncomputable abbrev I43:Inf:=⟨2,"kinds_put",["row","kinds"]⟩
theorem Dd:FnScope ["row","kinds","word"] I43.ps (defScope ol):=FS
theorem De {fa fd} (F:Fu V I43 ol fa fd) (gb:Gb2 V.mg) (Mm:TabAt V.P V.w V.K V.mg "PUT" putsF) (nh:Ox V I4b fj):Fz V I43 fa fd (spX V.K b8):=by
 have sc:=Dd;refine yw (k:=1) F sc (fun ds d h=>kt h) (fun cdv A outer s H E hr=>(ae (ck (i:=2) sc.nd rfl (by trivial) (aj (xv 0) ad))
   (ae (cg (ai (ba hr.units) fx (xv 2) af (nomark _)) (ag (ak (az (aa (am nh (hr.mono (by decide)) rfl (aa (aj (xv 0) ad) ac cb)) ac cy)))) au)
   (ae (cg (ai (ba hr.units) fx (xv 2) af (nomark _)) (ag (ak (az (aa (aj (xv 0) ad) ac cb)))) au)
   (ae (cg (ai (ba hr.units) fx (xv 2) af (nomark _)) (ag (ak (az (aa (aj (xv 1) (ah ii pp (ah ii pp (ax ce dw rfl gb.len PySem.boot_len (aa (xv 1) ac)) ad) (aj (xv 0) ad))) ac cb)))) au)
   (ae (cg (ai (ba hr.units) fx (xv 2) af (nomark _)) (ag (ak (az (aa (aj (xv 1) (de ad)) (aa (aj (xv 1) (de ad)) ac cb) cb)))) au)
   (ae (cg (Ln Mm rfl (xv 2)) (ag (ak (az (aa (xj Mm rfl (xv 2)) ac cb)))) au)
   (ag (ak (az ac)))))))))) ?_
 intro ds d h;left;obtain ⟨r,ks,rfl,ho,hl,e⟩:=gq h;obtain ⟨rs,rfl⟩: ∃rs:List Kd,ks=rs.reverse:=⟨ks.reverse,by simp⟩
 clear h;obtain ⟨hL,rfl⟩:=Cq e;rw [bh] at hL;cases r
 case push t=>(have hcp:=Ba (t:=t) ho;(simp [Row.ok] at ho;simp [bo,bp,di,cp,cq,bq,br,bt,bu,cr,bv,bw,cu,hcp,eRow,eKs,a0,a7,aw,ar,aq,tup2,bi,bz,bn,b4,lim,fj,putR,ho]))
 case take k=>(simp [Row.ok] at ho;simp [bo,bp,di,cp,cq,bq,br,bt,bu,cr,bv,bw,cu,eRow,eKs,a0,a7,aw,ar,aq,tup2,bi,bz,bn,b4,lim,fj,putR,ho])
 case go n=>(simp [Row.ok] at ho;simp [bo,bp,di,cp,cq,bq,br,bt,bu,cr,bv,bw,cu,eRow,eKs,a0,a7,aw,ar,aq,tup2,bi,bz,bn,b4,lim,fj,putR,ho])
 case fin=>(simp [Row.ok] at ho;simp [bo,bp,di,cp,cq,bq,br,bt,bu,cr,bv,bw,cu,eRow,eKs,a0,a7,aw,ar,aq,tup2,bi,bz,bn,b4,lim,fj,putR,ho])
 case copy n=>
  obtain ⟨h1,h2⟩:=Bc hL;have h3:=Fe (xs:=rs.map Kd.d) (n:=n) h1 (by simpa using h2);have h4:n.toNat < rs.length:=by omega
  rw [length_map,getElem?_map,getElem?_eq_getElem h4] at h3;simp [bo,bp,di,cp,cq,bq,br,bt,bu,cr,bv,bw,cu,eRow,eKs,a0,a7,aw,ar,aq,tup2,bi,bz,bn,b4,lim,h3,putR,getElem?_eq_getElem h4]
 case not=>(obtain ⟨rs,rfl⟩:=Ja hL;(simp [bo,bp,di,cp,cq,bq,br,bt,bu,cr,bv,bw,cu,eRow,eKs,a0,a7,aw,ar,aq,tup2,bi,bz,bn,b4,lim,Kd.d,Kd.s,putR]))
 case iff n=>(obtain ⟨rs,rfl⟩:=Fg hL;(simp [bo,bp,di,cp,cq,bq,br,bt,bu,cr,bv,bw,cu,eRow,eKs,a0,a7,aw,ar,aq,tup2,bi,bz,bn,b4,lim,Kd.d,Kd.s,putR]))
 case drop=>(obtain ⟨b,rs,rfl⟩:=D4 hL;(simp [bo,bp,di,cp,cq,bq,br,bt,bu,cr,bv,bw,cu,eRow,eKs,a0,a7,aw,ar,aq,tup2,bi,bz,bn,b4,lim,Kd.d,Kd.s,putR]))
 case tell=>(obtain ⟨b,rs,rfl⟩:=D5 hL;(simp [bo,bp,di,cp,cq,bq,br,bt,bu,cr,bv,bw,cu,eRow,eKs,a0,a7,aw,ar,aq,tup2,bi,bz,bn,b4,lim,Kd.d,Kd.s,putR]))
 case add=>(obtain ⟨rs,rfl⟩:=Iz hL;(simp [bo,bp,di,cp,cq,bq,br,bt,bu,cr,bv,bw,cu,eRow,eKs,a0,a7,aw,ar,aq,tup2,bi,bz,bn,b4,lim,Kd.d,Kd.s,putR]))
 case less=>(obtain ⟨rs,rfl⟩:=D1 hL;(simp [bo,bp,di,cp,cq,bq,br,bt,bu,cr,bv,bw,cu,eRow,eKs,a0,a7,aw,ar,aq,tup2,bi,bz,bn,b4,lim,Kd.d,Kd.s,putR]))
 case join=>(obtain ⟨rs,rfl⟩:=D2 hL;(simp [bo,bp,di,cp,cq,bq,br,bt,bu,cr,bv,bw,cu,eRow,eKs,a0,a7,aw,ar,aq,tup2,bi,bz,bn,b4,lim,Kd.d,Kd.s,putR]))
 case same=>(obtain ⟨b,rs,rfl⟩:=D3 hL;(simp [bo,bp,di,cp,cq,bq,br,bt,bu,cr,bv,bw,cu,eRow,eKs,a0,a7,aw,ar,aq,tup2,bi,bz,bn,b4,lim,Kd.d,Kd.s,putR]))
 case swap=>(obtain ⟨b,a,rs,rfl⟩:=Bb hL;(simp [bo,bp,di,cp,cq,bq,br,bt,bu,cr,bv,bw,cu,eRow,eKs,a0,a7,aw,ar,aq,tup2,bi,bz,bn,b4,lim,Kd.d,Kd.s,putR]))
noncomputable abbrev i6:Stmt:=top 16
noncomputable abbrev I20:Inf:=⟨3,"kinds_behind",["row","kinds"]⟩
theorem yc:FnScope ["row","kinds"] I20.ps (defScope i6):=FS
theorem yd {fa fd} (F:Fu V I20 i6 fa fd) (gb:Gb2 V.mg) (bj:Ox V I2f ap) (tf:Ox V I43 b8):Fz V I20 fa fd (spX V.K iw):=by
 have sc:=yc;refine yw (k:=2) F sc (fun ds d h=>kt h) (fun cdv A outer s H E hr=>(ag (ak (ah cm gy (db (xv 1) eh (dv (ah ii pp (ax ce dw rfl gb.len PySem.boot_len (aa (xv 1) ac)) (am bj (hr.mono (by decide)) rfl (aa (xv 0) ac))))) (am tf (hr.mono (by decide)) rfl (aa (xv 0) (aa (xv 1) ac))))))) ?_;intro ds d h;left;obtain ⟨r,ks,rfl,ho,hl,e⟩:=gq h;obtain ⟨rs,rfl⟩: ∃rs:List Kd,ks=rs.reverse:=⟨ks.reverse,by simp⟩
 clear h;obtain ⟨hL,rfl⟩:=Cq e;rw [bh] at hL;cases r
 case push t=>(have hcp:=Ba (t:=t) ho;(have hp:b8 _=_:=(dy ho hl).trans (by rw [bh,hL]);have hl2:rs.length+1≤100000:=(by simp at hl;omega);have hl3:rs.length+1+1≤100000:=(by simp at hl;omega);have hl4:rs.length≤100000:=(by omega);simp [putR,eKs,eRow] at hp;simp [bo,bp,di,cp,cq,bq,br,bt,bu,cr,bv,bw,cu,hcp,eRow,eKs,a0,a7,aw,ar,aq,tup2,bi,bz,bn,b4,lim,putR,afterT,afterR,hp,hl2,hl3,hl4]))
 case take k=>(have hp:b8 _=_:=(dy ho hl).trans (by rw [bh,hL]);have hl2:rs.length+1≤100000:=(by simp at hl;omega);have hl3:rs.length+1+1≤100000:=(by simp at hl;omega);have hl4:rs.length≤100000:=(by omega);simp [putR,eKs,eRow] at hp;simp [bo,bp,di,cp,cq,bq,br,bt,bu,cr,bv,bw,cu,eRow,eKs,a0,a7,aw,ar,aq,tup2,bi,bz,bn,b4,lim,putR,afterT,afterR,hp,hl2,hl3,hl4])
 case go n=>(have hp:b8 _=_:=(dy ho hl).trans (by rw [bh,hL]);have hl2:rs.length+1≤100000:=(by simp at hl;omega);have hl3:rs.length+1+1≤100000:=(by simp at hl;omega);have hl4:rs.length≤100000:=(by omega);simp [putR,eKs,eRow] at hp;simp [bo,bp,di,cp,cq,bq,br,bt,bu,cr,bv,bw,cu,eRow,eKs,a0,a7,aw,ar,aq,tup2,bi,bz,bn,b4,lim,putR,afterT,afterR,hp,hl2,hl3,hl4])
 case fin=>(have hp:b8 _=_:=(dy ho hl).trans (by rw [bh,hL]);have hl2:rs.length+1≤100000:=(by simp at hl;omega);have hl3:rs.length+1+1≤100000:=(by simp at hl;omega);have hl4:rs.length≤100000:=(by omega);simp [putR,eKs,eRow] at hp;simp [bo,bp,di,cp,cq,bq,br,bt,bu,cr,bv,bw,cu,eRow,eKs,a0,a7,aw,ar,aq,tup2,bi,bz,bn,b4,lim,putR,afterT,afterR,hp,hl2,hl3,hl4])
 case copy n=>
  obtain ⟨h1,h2⟩:=Bc hL;have hp:b8 _=_:=(dy ho hl).trans (by rw [bh,hL]);have hl2:rs.length+1≤100000:=(by simp at hl;omega);have hl3:rs.length+1+1≤100000:=(by simp at hl;omega);have hl4:rs.length≤100000:=(by omega)
  simp [putR,eKs,eRow] at hp;simp [bo,bp,di,cp,cq,bq,br,bt,bu,cr,bv,bw,cu,eRow,eKs,a0,a7,aw,ar,aq,tup2,bi,bz,bn,b4,lim,putR,afterT,afterR,hp,hl2,hl3,hl4]
 case not=>(obtain ⟨rs,rfl⟩:=Ja hL;(have hp:b8 _=_:=(dy ho hl).trans (by rw [bh,hL]);have hl2:rs.length+1≤100000:=(by simp at hl;omega);have hl3:rs.length+1+1≤100000:=(by simp at hl;omega);have hl4:rs.length≤100000:=(by omega);simp [putR,eKs,eRow] at hp;simp [bo,bp,di,cp,cq,bq,br,bt,bu,cr,bv,bw,cu,eRow,eKs,a0,a7,aw,ar,aq,tup2,bi,bz,bn,b4,lim,putR,afterT,afterR,hp,hl2,hl3,hl4]))
 case iff n=>(obtain ⟨rs,rfl⟩:=Fg hL;(have hp:b8 _=_:=(dy ho hl).trans (by rw [bh,hL]);have hl2:rs.length+1≤100000:=(by simp at hl;omega);have hl3:rs.length+1+1≤100000:=(by simp at hl;omega);have hl4:rs.length≤100000:=(by omega);simp [putR,eKs,eRow] at hp;simp [bo,bp,di,cp,cq,bq,br,bt,bu,cr,bv,bw,cu,eRow,eKs,a0,a7,aw,ar,aq,tup2,bi,bz,bn,b4,lim,putR,afterT,afterR,hp,hl2,hl3,hl4]))
 case drop=>(obtain ⟨b,rs,rfl⟩:=D4 hL;(have hp:b8 _=_:=(dy ho hl).trans (by rw [bh,hL]);have hl2:rs.length+1≤100000:=(by simp at hl;omega);have hl3:rs.length+1+1≤100000:=(by simp at hl;omega);have hl4:rs.length≤100000:=(by omega);simp [putR,eKs,eRow] at hp;simp [bo,bp,di,cp,cq,bq,br,bt,bu,cr,bv,bw,cu,eRow,eKs,a0,a7,aw,ar,aq,tup2,bi,bz,bn,b4,lim,putR,afterT,afterR,hp,hl2,hl3,hl4]))
 case tell=>(obtain ⟨b,rs,rfl⟩:=D5 hL;(have hp:b8 _=_:=(dy ho hl).trans (by rw [bh,hL]);have hl2:rs.length+1≤100000:=(by simp at hl;omega);have hl3:rs.length+1+1≤100000:=(by simp at hl;omega);have hl4:rs.length≤100000:=(by omega);simp [putR,eKs,eRow] at hp;simp [bo,bp,di,cp,cq,bq,br,bt,bu,cr,bv,bw,cu,eRow,eKs,a0,a7,aw,ar,aq,tup2,bi,bz,bn,b4,lim,putR,afterT,afterR,hp,hl2,hl3,hl4]))
 case add=>(obtain ⟨rs,rfl⟩:=Iz hL;(have hp:b8 _=_:=(dy ho hl).trans (by rw [bh,hL]);have hl2:rs.length+1≤100000:=(by simp at hl;omega);have hl3:rs.length+1+1≤100000:=(by simp at hl;omega);have hl4:rs.length≤100000:=(by omega);simp [putR,eKs,eRow] at hp;simp [bo,bp,di,cp,cq,bq,br,bt,bu,cr,bv,bw,cu,eRow,eKs,a0,a7,aw,ar,aq,tup2,bi,bz,bn,b4,lim,putR,afterT,afterR,hp,hl2,hl3,hl4]))
 case less=>(obtain ⟨rs,rfl⟩:=D1 hL;(have hp:b8 _=_:=(dy ho hl).trans (by rw [bh,hL]);have hl2:rs.length+1≤100000:=(by simp at hl;omega);have hl3:rs.length+1+1≤100000:=(by simp at hl;omega);have hl4:rs.length≤100000:=(by omega);simp [putR,eKs,eRow] at hp;simp [bo,bp,di,cp,cq,bq,br,bt,bu,cr,bv,bw,cu,eRow,eKs,a0,a7,aw,ar,aq,tup2,bi,bz,bn,b4,lim,putR,afterT,afterR,hp,hl2,hl3,hl4]))
 case join=>(obtain ⟨rs,rfl⟩:=D2 hL;(have hp:b8 _=_:=(dy ho hl).trans (by rw [bh,hL]);have hl2:rs.length+1≤100000:=(by simp at hl;omega);have hl3:rs.length+1+1≤100000:=(by simp at hl;omega);have hl4:rs.length≤100000:=(by omega);simp [putR,eKs,eRow] at hp;simp [bo,bp,di,cp,cq,bq,br,bt,bu,cr,bv,bw,cu,eRow,eKs,a0,a7,aw,ar,aq,tup2,bi,bz,bn,b4,lim,putR,afterT,afterR,hp,hl2,hl3,hl4]))
 case same=>(obtain ⟨b,rs,rfl⟩:=D3 hL;(have hp:b8 _=_:=(dy ho hl).trans (by rw [bh,hL]);have hl2:rs.length+1≤100000:=(by simp at hl;omega);have hl3:rs.length+1+1≤100000:=(by simp at hl;omega);have hl4:rs.length≤100000:=(by omega);simp [putR,eKs,eRow] at hp;simp [bo,bp,di,cp,cq,bq,br,bt,bu,cr,bv,bw,cu,eRow,eKs,a0,a7,aw,ar,aq,tup2,bi,bz,bn,b4,lim,putR,afterT,afterR,hp,hl2,hl3,hl4]))
 case swap=>(obtain ⟨b,a,rs,rfl⟩:=Bb hL;(have hp:b8 _=_:=(dy ho hl).trans (by rw [bh,hL]);have hl2:rs.length+1≤100000:=(by simp at hl;omega);have hl3:rs.length+1+1≤100000:=(by simp at hl;omega);have hl4:rs.length≤100000:=(by omega);simp [putR,eKs,eRow] at hp;simp [bo,bp,di,cp,cq,bq,br,bt,bu,cr,bv,bw,cu,eRow,eKs,a0,a7,aw,ar,aq,tup2,bi,bz,bn,b4,lim,putR,afterT,afterR,hp,hl2,hl3,hl4]))
noncomputable abbrev i7:Stmt:=top 20
noncomputable abbrev I23:Inf:=⟨1,"jumps_astray",["rows","spot"]⟩
theorem ye:FnScope ["rows","spot","row"] I23.ps (defScope i7):=FS
theorem yf {fa fd} (F:Fu V I23 i7 fa fd) (gb:Gb2 V.mg):Fz V I23 fa fd (spX V.K lw):=by
 have sc:=ye;refine yw (k:=0) F sc (fun ds d h=>p7 h) (fun cdv A outer s H E hr=>(ae (ck (i:=2) sc.nd rfl (by trivial) (aj (xv 0) (xv 1)))
   (ae (cg (Ab (lb (ai (em hr.units) xh (aj (xv 2) ad) af (nomark _)) (ik (ai (em hr.units) xh (aj (xv 2) ad) af (nomark _))))) (ag (ak po)) au)
   (ag (ak (N7 (ek Ay su (aj (xv 2) ad) ad (nomark _)) (vq (ek K3 su (aj (xv 2) ad) (ax ce dw rfl gb.len PySem.boot_len (aa (xv 0) ac)) (nomark _))))))))) ?_
 intro ds d h;left;obtain ⟨rs,s,row,rfl,R,hs,e⟩:=g8 h;cases e;clear h;obtain ⟨ho,hsl,hx⟩:=R.at hs;cases row <;> simp only [eRow] at hx <;> simp [eRows,hx,ar,aq,astray,lim]
 all_goals
  rename_i t
  by_cases h1:t < 0 <;> simp [h1]
noncomputable abbrev i8:Stmt:=top 19
noncomputable abbrev I25:Inf:=⟨4,"why_not_done",["rows","spot","kinds"]⟩
theorem yg:FnScope ["rows","spot","kinds","why"] I25.ps (defScope i8):=FS
theorem yh {fa fd} (F:Fu V I25 i8 fa fd) (gb:Gb2 V.mg) (l9:Ox V I23 lw) (om:Ox V I35 nu):Fz V I25 fa fd (spX V.K ci):=by
 have sc:=yg;refine yw (k:=3) F sc (by intro ds d h;obtain ⟨rs,s,row,ks,rfl,_⟩:=An h;rfl) (fun cdv A outer s H E hr=>(ae (ck (i:=3) sc.nd rfl (by trivial) (am om (hr.mono (by decide)) rfl (aa (aj (xv 0) (xv 1)) (aa (xv 2) ac) cb)))
   (ae (cg (Ab (lb (ai E7 Lg (xv 3) jq (nomark _)) (ik (fc (am l9 (hr.mono (by decide)) rfl (aa (xv 0) (aa (xv 1) ac))) (fun _=>rfl))))) (ag (ak af)) au)
   (ag (ak (xv 3)))))) ?_
 intro ds d h;left;obtain ⟨rs,s,row,ks,rfl,R,hs,hl,rfl⟩:=An h;clear h;obtain ⟨ho,hsl,hx⟩:=R.at hs;have h1:nu [eRow row,eKs ks]=some (eWhy (lackT row ks)):=dy ho hl;have h2:lw [eRows rs,.int (s:Int)]=some (.bool (astray rs.length row)):=my R hs;simp only [eRows] at h2;unfold why3;cases hL:lackT row ks with
 | none=>
  rw [hL] at h1;cases hA:astray rs.length row <;> rw [hA] at h2 <;> simp [eRows,hx,h1,h2,eWhy,eW3,W3.d,W3.s]
 | some y=>
  rw [hL] at h1;cases y <;> simp [eRows,hx,h1,eWhy,Why.d,eW3,W3.d,W3.s]
noncomputable abbrev i9:Stmt:=top 21
noncomputable abbrev I27:Inf:=⟨1,"spots_behind",["rows","spot"]⟩
theorem yi:FnScope ["rows","spot","row"] I27.ps (defScope i9):=FS
theorem yj {fa fd} (F:Fu V I27 i9 fa fd) (gb:Gb2 V.mg):Fz V I27 fa fd (spX V.K fq):=by
 have sc:=yi;refine yw (k:=0) F sc (fun ds d h=>p7 h) (fun cdv A outer s H E hr=>(ae (ck (i:=2) sc.nd rfl (by trivial) (aj (xv 0) (xv 1)))
   (ae (cg (ai (ba hr.units) fx (aj (xv 2) ad) af (nomark _)) (ag (ak (az (aa (ax ce dw rfl gb.len PySem.boot_len (aa (xv 0) ac)) ac cy)))) au)
   (ae (cg (ai (ba hr.units) fx (aj (xv 2) ad) af (nomark _)) (ag (ak (az (aa (aj (xv 2) ad) ac cb)))) au)
   (ae (cg (ai (ba hr.units) fx (aj (xv 2) ad) af (nomark _)) (ag (ak (az (aa (ah cm gy (xv 1) ad) (aa (aj (xv 2) ad) ac cb) dn)))) au)
   (ag (ak (az (aa (ah cm gy (xv 1) ad) ac dn))))))))) ?_
 intro ds d h;left;obtain ⟨rs,s,row,rfl,R,hs,e⟩:=g8 h;cases e;clear h;obtain ⟨ho,hsl,hx⟩:=R.at hs;cases row <;> simp only [eRow] at hx <;> simp [eRows,hx,ar,aq,behindT,eInts,lim]
noncomputable abbrev jv:Stmt:=top 22
noncomputable abbrev I31:Inf:=⟨2,"rows_behind",["rows","spot"]⟩
theorem y7:FnScope ["rows","spot"] I31.ps (defScope jv):=FS
theorem y8 {fa fd} (F:Fu V I31 jv fa fd) (gb:Gb2 V.mg) (ef:Ox V I27 fq):Fz V I31 fa fd (spX V.K nz):=by
 have sc:=y7;refine yw (k:=1) F sc (fun ds d h=>p7 h) (fun cdv A outer s H E hr=>(ag (ak (lr rfl (lc (NB:=["other","rows"]) (fr:=[none,some 0]) rfl (by decide+kernel) rfl (by decide+kernel) rfl rfl rfl rfl) (lq (am ef (hr.mono (by decide)) rfl (aa (xv 0) (aa (xv 1) ac)))) (ee (i:=0) rfl) (fun _ _ _ _ _=>gh (i:=0) (show List.Nodup (["other","rows"]:List Str) by decide+kernel) rfl (Or.inl rfl)) (fun _ _ _ _ _=>(xg (ai Ay su (xv 0) (ax ce dw rfl gb.len PySem.boot_len (aa (xv 1) ac)) (nomark _)))) (fun _ _ _ _ _=>(xv 0)))))) ?_;intro ds d h;left;obtain ⟨rs,s,row,rfl,R,hs,e⟩:=g8 h;cases e;clear h;obtain ⟨ho,hsl,hx⟩:=R.at hs;have h4:fq [eRows rs,.int (s:Int)]=some (eInts (behindT rs.length s row)):=my R hs;have hb:(behindT rs.length s row).length≤2:=by cases row <;> simp [behindT]
 have hb3:(behindT rs.length s row).length≤100000:=by omega
 simp only [eRows,eInts] at h4;simp [eRows,eInts,h4,hb3];refine ⟨by unfold lim;omega,Jq (p:=fun t=>decide (t < (rs.length:Int))) ?_⟩;intro t
 by_cases ht:t < (rs.length:Int) <;> simp [ht]
noncomputable abbrev qw:Stmt:=top 25
noncomputable abbrev I47:Inf:=⟨5,"fault_of",["rows","earlier","arrival"]⟩
theorem Eu:FnScope ["rows","earlier","arrival","road","kinds","why"] I47.ps (defScope qw):=FS
theorem Ev {fa fd} (F:Fu V I47 qw fa fd) (gb:Gb2 V.mg) (b7:Ox V I25 ci):Fz V I47 fa fd (spX V.K kj):=by
 have sc:=Eu;refine yw (k:=4) F sc (by intro ds d h;unfold kj at h;split at h <;> first | rfl | cases h) (fun cdv A outer s H E hr=>(ae (ck (i:=3) sc.nd rfl (by trivial) (aj (xv 2) ad))
   (ae (ck (i:=4) sc.nd rfl (by trivial) (aj (xv 2) ad))
   (ae (cg (Ab (lb (ai wz Cj (xv 1) jq (nomark _)) (ik (ai (em hr.units) xh (aj (xv 1) ad) (xv 4) (nomark _))))) (ag (ak (b5 (aa af (aa (aj (xv 1) ad) (aa (xv 3) ac) cb))))) au)
   (ae (ck (i:=5) sc.nd rfl (by trivial) (am b7 (hr.mono (by decide)) rfl (aa (xv 0) (aa (aj (xv 3) (de ad)) (aa (xv 4) ac) cb))))
   (ae (cg (ai wz Cj (xv 5) jq (nomark _)) (ag (ak (b5 (aa (xv 5) (aa (xv 3) ac))))) au)
   (ag (ak jq)))))))) ?_
 intro ds d h;left;unfold kj at h;split at h
 ·rename_i r e a
  obtain ⟨o,h1,h⟩:=bind_some h;obtain ⟨rs,s,row,road,ks,rfl,rfl,R,hs,hl,h2⟩:=v7 h;cases h2;clear h;obtain ⟨rfl,hol⟩:=Jp h1;have h3:=Bm R hs hl;have ht: ∀y:Option W3,(eOF (y.map (Flt.at_ · (road++[(s:Int)])))=match y with | none=>PyData.none | some z=> .tuple [z.d,eInts (road++[(s:Int)])]):=fun y=>by cases y <;> rfl
  simp only [eRows,eKs] at h3;cases o with
  | none=>
   rw [show faultT rs.length row none (road++[(s:Int)],ks)=(why3 rs.length row ks).map (Flt.at_ · (road++[(s:Int)])) from rfl,ht];cases hw:why3 rs.length row ks with
   | none=>rw [hw] at h3;simp [eRows,eOA,eArr,eInts,eKs,aw,h3,eW3]
   | some y=>rw [hw] at h3;cases y <;> simp [eRows,eOA,eArr,eInts,eKs,aw,h3,eW3,W3.d,W3.s,lim]
  | some p=>
   obtain ⟨r,qs⟩:=p
   by_cases hq:qs=ks
   ·subst hq
    rw [show faultT rs.length row (some (r,qs)) (road++[(s:Int)],qs)=(why3 rs.length row qs).map (Flt.at_ · (road++[(s:Int)])) from if_pos rfl,ht];cases hw:why3 rs.length row qs with
    | none=>rw [hw] at h3;simp [eRows,eOA,eArr,eInts,eKs,aw,h3,eW3,vc,eqvKs]
    | some y=>rw [hw] at h3;cases y <;> simp [eRows,eOA,eArr,eInts,eKs,aw,h3,eW3,W3.d,W3.s,lim,vc,eqvKs]
   ·rw [show faultT rs.length row (some (r,qs)) (road++[(s:Int)],ks)=some (.differ r (road++[(s:Int)])) from if_neg hq]
    simp [eRows,eOA,eArr,eInts,eKs,aw,vc,eqvKs,hq,eOF,eFlt,lim]
 ·cases h
noncomputable abbrev ez:Stmt:=top 26
noncomputable abbrev I15:Inf:=⟨4,"arrivals_behind",["rows","arrival"]⟩
theorem uk:FnScope ["rows","arrival","road","kinds"] I15.ps (defScope ez):=FS
theorem ul {fa fd} (F:Fu V I15 ez fa fd) (gb:Gb2 V.mg) (mn:Ox V I20 iw) (on:Ox V I31 nz):Fz V I15 fa fd (spX V.K c8):=by
 have sc:=uk;refine yw (k:=3) F sc (by intro ds d h;unfold c8 at h;split at h <;> first | rfl | cases h) (fun cdv A outer s H E hr=>(ae (ck (i:=2) sc.nd rfl (by trivial) (aj (xv 1) ad))
   (ae (ck (i:=3) sc.nd rfl (by trivial) (am mn (hr.mono (by decide)) rfl (aa (aj (xv 0) (aj (xv 2) (de ad))) (aa (aj (xv 1) ad) ac cb) cb)))
   (ag (ak (lr rfl (lc (NB:=["spot","kinds","road"]) (fr:=[none,some 3,some 2]) rfl (by decide+kernel) rfl (by decide+kernel) rfl rfl rfl rfl) (lq (am on (hr.mono (by decide)) rfl (aa (xv 0) (aa (aj (xv 2) (de ad)) ac cb)))) (ee (i:=0) rfl) (fun _ _ _ _ _=>gh (i:=0) (show List.Nodup (["spot","kinds","road"]:List Str) by decide+kernel) rfl (Or.inl rfl)) (fun _ _ _ _ _=>nj) (fun _ _ _ _ _=>(b5 (aa (ah cm gy (xv 2) (az (aa (xv 0) ac))) (aa (xv 1) ac) dn))))))))) ?_
 intro ds d h;left;unfold c8 at h;split at h
 ·rename_i r a
  obtain ⟨rs,s,row,road,ks,rfl,rfl,R,hs,hl,h2⟩:=v7 h;split at h2
  case isFalse=>cases h2
  rename_i hc;obtain ⟨hL,hrl⟩:=hc;cases h2;clear h;obtain ⟨ho,hsl,hx⟩:=R.at hs;have h3:iw [eRow row,eKs ks]=some (eKs (afterT row ks)):=by
   have:iw [eRow row,eKs ks]=_:=dy ho hl
   rw [this,hL]
  have h4:nz [eRows rs,.int (s:Int)]=some (eInts ((behindT rs.length s row).filter fun t=>decide (t < (rs.length:Int)))):=my R hs;have hb:(behindT rs.length s row).length≤2:=by cases row <;> simp [behindT]
  have hb2:((behindT rs.length s row).filter fun t=>decide (t < (rs.length:Int))).length≤100000:=Nat.le_trans (List.length_filter_le _ _) (by omega);generalize (behindT rs.length s row).filter (fun t=>decide (t < (rs.length:Int)))=bs at h4 hb2 ⊢;simp only [eKs,eRows,eInts] at h3 h4;have hr2:road.length+1+1≤100000:=by omega
  simp [eRows,eArr,eInts,eKs,aw,hx,h3,h4,hb2,lim];exact Jr (by intro t;simp [lim,hr2])
 ·cases h
noncomputable abbrev qx:Stmt:=top 27
noncomputable abbrev I46:Inf:=⟨1,"table_of",["rows","first"]⟩
theorem Ew:FnScope ["rows","first"] I46.ps (defScope qx):=FS
theorem Ex {fa fd} (F:Fu V I46 qx fa fd) (gb:Gb2 V.mg):Fz V I46 fa fd (spX V.K km):=by
 have sc:=Ew;refine yw (k:=0) F sc (by intro ds d h;unfold km at h;split at h <;> first | rfl | cases h) (fun cdv A outer s H E hr=>(ag (ak (lr rfl (lc (NB:=["spot","first"]) (fr:=[none,some 1]) rfl (by decide+kernel) rfl (by decide+kernel) rfl rfl rfl rfl) (kr rfl gb.range (aa (ax ce dw rfl gb.len PySem.boot_len (aa (xv 0) ac)) ac cy)) (ee (i:=0) rfl) (fun _ _ _ _ _=>gh (i:=0) (show List.Nodup (["spot","first"]:List Str) by decide+kernel) rfl (Or.inl rfl)) (fun _ _ _ _ _=>nj) (fun _ _ _ _ _=>(N8 (R4 (Ce hr) (xv 0) (xv 1)) (dh b9 mv rfl gb.list boot_list (aa (aj (O5 (Ce hr) (xv 1) (xv 0)) ad) ac cb)) jq)))))) ?_;intro ds d h;left;unfold km at h;split at h
 ·rename_i r f
  obtain ⟨rs,h1,h⟩:=bind_some h;obtain ⟨F,h2,h3⟩:=bind_some h;cases h3;clear h;obtain ⟨rfl,R⟩:=ny h1;obtain ⟨rfl,hF⟩:=L0 h2;have hn:=R.len;have hl:rs.length≤lim:=by unfold lim;omega
  simp [eRows,hl];refine ⟨(tabT rs.length F).map eOK,?_,rfl⟩;rw [if_pos (by omega)];simp only [length_map,List.length_range,if_pos hl];unfold tabT;rw [List.map_map];refine p8 fun x _=>?_
  have hv:=Js F (x:Int);cases hx:lookF F (x:Int) with
  | none=>
   rw [hx] at hv;simp [eF,hv,hx,eOK]
  | some a=>
   rw [hx] at hv;simp [eF,hv];simp [hx,eOK,eArr,eKs]
 ·cases h
noncomputable abbrev um:Stmt:=top 24
noncomputable abbrev I50:Inf:=⟨6,"looked",["rows","given"]⟩
theorem Df:FnScope ["rows","given","first","waiting","arrival","spot","fault"] I50.ps (defScope um):=FS
theorem Kr {fa fd} (F:Fu V I50 um fa fd) (gb:Gb2 V.mg) (ir:Ox V I15 c8) (vj:Ox V I47 kj) (bc:Ox V I14 ay) (vk:Ox V I46 km):Rx V I50 fa fd Prelooked enclooked Postlooked:=by
 have sc:=Df;refine Uo (k:=5) F sc (fun p _=>rfl) (fun cdv A outer s H E hr=>(ao (Jj (am bc (hr.mono (by decide)) rfl (aa (xv 0) (aa (xv 1) ac))))
   (ao (O9 (i:=2) sc.nd rfl (by trivial))
   (ao (nv (i:=3) sc.nd rfl (by trivial) (Um (fc (xv 0) (fun _=>rfl)) (pz (aa (b5 (aa (az (aa ad ac)) (aa (xv 1) ac) v0)) ac dj)) (pz ac)))
   (ao (Bg (fun _=>1000) PassesOwn.never (fc (xv 3) (fun _=>rfl)) (ao (Lr (j:=4) (i:=3) sc.nd rfl (by trivial) (pv 3))
   (ao (fg (i:=5) sc.nd rfl (by trivial) (aj (aj (xv 4) ad) (de ad)))
   (ao (O8 (i:=6) sc.nd rfl (by trivial) (am vj (hr.mono (by decide)) rfl (aa (xv 0) (aa (Lv (Ce hr) (xv 2) (xv 5) ⟨rfl,rfl,rfl,rfl⟩) (aa (xv 4) ac) cy))))
   (ao (jn (ai wz Cj (xv 6) jq (nomark _)) (bb (rg (b5 (aa af (aa (xv 6) ac))))) gj)
   (bb (jn (Jh (Ce hr) (xv 5) (xv 2)) (ao (Pa (i:=2) (Ce hr) (pv 2) (xv 5) (xv 4))
   (bb (D7 (i:=3) (pv 3) (am ir (hr.mono (by decide)) rfl (aa (xv 0) (aa (xv 4) ac)))))) gj)))))))
   (bb (rg (b5 (aa af (aa (am vk (hr.mono (by decide)) rfl (aa (xv 0) (aa (xv 2) ac))) ac cy)))))))))) ?_
 rintro ⟨rs,given⟩ ⟨R,hg⟩
 have R:Rows rs:=R;have hg:given.length≤500:=hg;have hr:ay [eRows rs,eKs given]=some .none:=by unfold ay;simp [R.e,vz (show given.length≤2000 by omega)]
 simp only [eRows,eKs] at hr;refine L1 (ρ1:=start2 [eRows rs,eKs given] 5) (ρ2:=[some (.sh (eRows rs)),some (.sh (eKs given)),some (.od []),none,none,none,none]) (ρ3:=rhoK rs given [] (if rs.isEmpty then [] else [([0],given)]) none none none) (by simp [enclooked,eRows,eKs,hr]) (by simp) ?_ (Ju R hg ?_ ?_ 1000 _ _ none none none LInv.begin (fun p hp=>by cases hp) ?_) ?_
 ·cases rs <;> simp [eRows,eKs,rhoK,eArr,eInts,lim]
 ·intro F W a s f
  cases W <;> simp [rhoK]
 ·intro F s row road ks W a o f hs hl hF hrl hFl hW
  have hL: ∀x,lookF F (s:Int)=some x→x.2.length≤2000:=fun x hx=>hF _ (C0 hx);have e1:=Jv (road:=road) R hs hl hL;have hv:=Js F (s:Int);have hn:=R8 (faultT rs.length row (lookF F (s:Int)) (road++[(s:Int)],ks));unfold turnK;cases hq:lookF F (s:Int) with
  | some b=>
   rw [hq] at e1 hv hn;cases hf:faultT rs.length row (some b) (road++[(s:Int)],ks) with
   | some flt=>
    rw [hf] at e1 hn;simp [eOF,eOA,eArr,eInts,eKs,eRows] at e1 hn hv;cases flt <;> simp [eFlt,eInts,W3.d] at e1 hn <;> simp [rhoK,eArr,eInts,eKs,eRows,aw,hv,e1,hn,eFault,eFlt,W3.d,lim]
   | none=>
    rw [hf] at e1 hn;simp [eOF,eOA,eArr,eInts,eKs,eRows] at e1 hn hv;simp [rhoK,eArr,eInts,eKs,eRows,aw,hv,e1,hn]
  | none=>
   rw [hq] at e1 hv hn;cases hf:faultT rs.length row none (road++[(s:Int)],ks) with
   | some flt=>
    rw [hf] at e1 hn;simp [eOF,eOA,eArr,eInts,eKs,eRows] at e1 hn hv;cases flt <;> simp [eFlt,eInts,W3.d] at e1 hn <;> simp [rhoK,eArr,eInts,eKs,eRows,aw,hv,e1,hn,eFault,eFlt,W3.d,lim]
   | none=>
    have hw:why3 rs.length row ks=none:=by
     unfold faultT at hf;simpa using hf
    have e2:=Pc (road:=road) R hs hl (jh hw).1 hrl;have hb:(behindA rs.length row s road ks).length≤2:=by
     unfold behindA;rw [length_map];refine Nat.le_trans (List.length_filter_le _ _) ?_;cases row <;> simp [behindT]
    have hb2:W.length+(behindA rs.length row s road ks).length≤lim:=by omega
    rw [hf] at e1 hn;simp [eOF,eOA,eArr,eInts,eKs,eRows] at e1 hn hv e2;simp [rhoK,eArr,eInts,eKs,eRows,aw,hv,e1,e2,hn,hb2,hFl]
 ·have:left rs.length []≤rs.length:=by
   unfold left;exact Nat.le_trans (List.length_filter_le _ _) (by simp)
  have:=R.len
  split <;> simp <;> omega
 ·intro F a s f hF
  have e1:=Jw R hF;simp only [eRows,eF] at e1;simp [rhoK,eRows,e1,eFine,lim]
theorem G7 {fa fd} (F:Fu V I50 um fa fd) (gb:Gb2 V.mg) {CN:Addr} {g_refuse_no_kinds} (b_refuse_no_kinds:KB V I14 CN en1 bad1 g_refuse_no_kinds):BadP V I50 fa fd CN en1 bad1:=by
 have sc:=Df;refine Da (k:=5) (Pre:=fun q=>q.Ok∧bad1 q=true) (enc:=en1) (Post:=fun _ o=>o= .inr CN) F sc (fun p _=>rfl) (fun cdv A outer s H E hr=>cv (lz (ge b_refuse_no_kinds.o (hr.mono (by decide)) rfl (aa (xv 0) (aa (xv 1) ac)))) Av) ?_;exact fun q hq=>⟨_,ug (Bu rfl (b_refuse_no_kinds.h q hq)),rfl⟩
noncomputable abbrev oq:Stmt:=top 33
noncomputable abbrev I44:Inf:=⟨5,"can_go_on",["rows","pair"]⟩
theorem Dg:FnScope ["rows","pair"] I44.ps (defScope oq):=FS
theorem Dh {fa fd} (F:Fu V I44 oq fa fd) (gb:Gb2 V.mg) {ko} (J4a:Kn V I48 og et lg ko) (b7:Ox V I25 ci):Rx V I44 fa fd v9 gu ud:=by
 have sc:=Dg;refine re (k:=4) F sc (fun p _=>rfl) (fun cdv A outer s H E hr=>(ag (ak (Cg (ek Ay su (aj (xv 1) ad) (ax ce dw rfl gb.len PySem.boot_len (aa (xv 0) ac)) (nomark _)) (vq (ek E7 Lg (am b7 (hr.mono (by decide)) rfl (aa (xv 0) (aa (aj (xv 1) ad) (aa (am J4a.o (hr.mono (by decide)) rfl (aa (aj (xv 1) ad) ac cb)) ac cy) cb))) jq (nomark _))))))) ?_
 rintro ⟨rs,s,ps⟩ ⟨R,hs,hp,hl⟩
 have R:Rows rs:=R;have hs:s≤rs.length:=hs;have hp:Things ps:=hp;have hl:ps.length≤1000:=hl;refine ⟨_,?_,rfl⟩
 show _=some (Fl.rt (PyData.bool (decide (s < rs.length) && (why3 rs.length (rowOf rs s) (kindsP ps)).isNone)))
 obtain ⟨d1,e1,h1⟩:=J4a.h ps ⟨hp,hl⟩;rw [show d1=_ from h1] at e1;simp only [et] at e1
 by_cases h:s < rs.length
 ·obtain ⟨row,hr⟩: ∃row,rs[s]?=some row:=⟨rs[s],getElem?_eq_getElem h⟩
  have c1:=Bm R hr (show (kindsP ps).length≤2000 by simp;omega);rw [Ei hr];simp only [eRows] at c1;cases hw:why3 rs.length row (kindsP ps) with
  | none=>rw [hw] at c1;simp [gu,eRows,h,e1,c1,eW3]
  | some y=>rw [hw] at c1;cases y <;> simp [gu,eRows,h,e1,c1,eW3,W3.d]
 ·have:¬ ((s:Int) < (rs.length:Int)):=by omega
  simp [gu,eRows,h]
noncomputable abbrev jw:Stmt:=top 35
noncomputable abbrev I30:Inf:=⟨2,"spot_behind",["rows","pair"]⟩
theorem y9:FnScope ["rows","pair","behind"] I30.ps (defScope jw):=FS
theorem za {fa fd} (F:Fu V I30 jw fa fd) (gb:Gb2 V.mg) (ef:Ox V I27 fq):Rx V I30 fa fd rj fu qa:=by
 have sc:=y9;refine re (k:=1) F sc (fun p _=>rfl) (fun cdv A outer s H E hr=>(ae (ck (i:=2) sc.nd rfl (by trivial) (am ef (hr.mono (by decide)) rfl (aa (xv 0) (aa (aj (xv 1) ad) ac cb))))
   (ae (cg (Ab (lb (ai (ba hr.units) fx (aj (aj (xv 0) (aj (xv 1) ad)) ad) af (nomark _)) (ik (fc (aj (aj (xv 1) ad) (de ad)) (fun _=>rfl))))) (ag (ak (aj (xv 2) (de ad)))) au)
   (ag (ak (aj (xv 2) ad)))))) ?_
 rintro ⟨rs,s,ps⟩ ⟨R,hs,hp,hl,hw⟩
 have R:Rows rs:=R;have hs:s < rs.length:=hs;have hp:Things ps:=hp;have hw:why3 rs.length (rowOf rs s) (kindsP ps)=none:=hw;refine ⟨_,?_,rfl⟩
 show _=some (Fl.rt (PyData.int (nextS rs.length s (rowOf rs s) ps)))
 obtain ⟨row,hr⟩: ∃row,rs[s]?=some row:=⟨rs[s],getElem?_eq_getElem hs⟩
 obtain ⟨ho,_,hx⟩:=R.at hr;have c1:fq [eRows rs,.int (s:Int)]=some (eInts (behindT rs.length s row)):=my R hr;rw [Ei hr] at hw ⊢;simp only [eRows,eInts] at c1;cases row with
 | iff t=>
  obtain ⟨q,b,rfl⟩:=Sf hw hp;simp only [eRow] at hx;have a1:atD [PyData.int ((s:Int)+1),.int t] (-1)=some (.int t):=rfl;cases b <;> simp [fu,eRows,c1,hx,behindT,ar,aq,aw,nextS,a1]
 | _=>simp only [eRow] at hx;simp [fu,eRows,c1,hx,behindT,ar,aq,nextS]
noncomputable abbrev jx:Stmt:=top 38
noncomputable abbrev I3a:Inf:=⟨1,"thing_taken",["kind","waiting"]⟩
theorem zb:FnScope ["kind","waiting","place"] I3a.ps (defScope jx):=FS
theorem zc {fa fd} (F:Fu V I3a jx fa fd) (gb:Gb2 V.mg) (Bv:GlAt V.K V.mg "BLANKS" blanksD) (t3_KINDS:Tup3 V.K V.mg "KINDS" "number" "truth" "text"):Rx V I3a fa fd rm ly qb:=by
 have sc:=zb;refine re (k:=0) F sc (fun p _=>rfl) (fun cdv A outer s H E hr=>(ae (ck (i:=2) sc.nd rfl (by trivial) (Sc t3_KINDS rfl (xv 0)))
   (ag (ak (N8 (fc (aj (xv 1) (xv 2)) (fun _=>rfl)) (aj (aj (xv 1) (xv 2)) ad) (aj (Lo Bv rfl) (xv 2))))))) ?_
 rintro ⟨k,c⟩ _
 refine ⟨_,?_,rfl⟩
 show _=some (Fl.rt (c.hd k))
 obtain ⟨n,h1,h2⟩:=Ur k;obtain ⟨h3,h4⟩:=h2 c;refine sq (ρ':=[some k.d,some (.list c.l),some (.int (n:Int))]) (by simp [ly,tixF,Kd.d,h1]) ?_;unfold Cm.hd;cases hc:c.at_ k with
 | nil=>rw [hc] at h3;simp [h3,h4,blanksD]
 | cons a l=>rw [hc] at h3;simp [h3]
noncomputable abbrev gg:Stmt:=top 36
noncomputable abbrev I16:Inf:=⟨1,"waiting_behind",["row","waiting"]⟩
theorem vm:FnScope ["row","waiting"] I16.ps (defScope gg):=FS
theorem vn {fa fd} (F:Fu V I16 gg fa fd) (gb:Gb2 V.mg) (oj:GlAt V.K V.mg "KINDS" kindsD):Rx V I16 fa fd mz ev lh:=by
 have sc:=vm;refine re (k:=0) F sc (fun p _=>rfl) (fun cdv A outer s H E hr=>(ag (ak (lr rfl (lc (NB:=["kind","things","row"]) (fr:=[none,none,some 0]) rfl (by decide+kernel) rfl (by decide+kernel) rfl rfl rfl rfl) (M3 rfl gb.zip (aa (Lo oj rfl) (aa (xv 1) ac))) (Ae (i:=0) (j:=1) rfl rfl) (fun _ _ _ _ _=>Dx rfl (jk (i:=0) (show List.Nodup (["kind","things","row"]:List Str) by decide+kernel) rfl (Or.inl rfl)) (jk (i:=1) (show List.Nodup (["kind","things","row"]:List Str) by decide+kernel) rfl (Or.inl rfl))) (fun _ _ _ _ _=>nj) (fun _ _ _ _ _=>(N8 (ai (ba hr.units) fx (xv 2) (b5 (aa af (aa (xv 0) ac))) (nomark _)) (db (xv 1) (dv ad) eh) (xv 1))))))) ?_
 rintro ⟨r,c⟩ ho
 have ho:r.ok=true:=ho;refine ⟨_,?_,rfl⟩
 show _=some (Fl.rt (.list (c.past r).l))
 rw [J4];have q1:=L8 r;have q2:=J3 ho;simp only [Kd.d,Kd.s] at q1 q2;have q3:=q1 .number;have q4:=q1 .truth;have q5:=q1 .text;have r3:=q2 .number;have r4:=q2 .truth;have r5:=q2 .text;simp only at q3 q4 q5 r3 r4 r5;obtain ⟨n,t,x⟩:=c;cases h3:isTake r .number <;> cases h4:isTake r .truth <;> cases h5:isTake r .text <;> simp [ev,Cm.l,Cm.pick,kindsD,lim,q3,q4,q5,r3,r4,r5,h3,h4,h5,Sg]
noncomputable abbrev jy:Stmt:=top 39
noncomputable abbrev I36:Inf:=⟨1,"put_for_two",["word","lower","upmost"]⟩
theorem zd:FnScope ["word","lower","upmost"] I36.ps (defScope jy):=FS
theorem ze {fa fd} (F:Fu V I36 jy fa fd) (gb:Gb2 V.mg):Rx V I36 fa fd rp dm qc:=by
 have sc:=zd;refine re (k:=0) F sc (fun p _=>rfl) (fun cdv A outer s H E hr=>(ae (cg (ai (ba hr.units) fx (xv 0) af (nomark _)) (ag (ak (az (aa (xv 2) (aa (xv 1) ac))))) au)
   (ae (cg (ai (ba hr.units) fx (xv 0) af (nomark _)) (ag (ak (az (aa (ek Ay su (xv 1) (xv 2) (nomark _)) ac)))) au)
   (ae (cg (ai (ba hr.units) fx (xv 0) af (nomark _)) (ag (ak (az (aa (ek (ba hr.units) fx (xv 1) (xv 2) (nomark _)) ac)))) au)
   (ag (ak (az (aa (ah Pe Sd (xv 1) (xv 2)) ac dn)))))))) ?_
 rintro ⟨row,a,b⟩ h
 have h:Two row a b:=h;refine ⟨_,?_,rfl⟩
 show _=some (Fl.rt (.list (twoT row a b)))
 cases h with
 | swap a b=>simp [dm,wordS,twoT,ar,aq,lim]
 | less i j=>simp [dm,wordS,twoT,lessT,ar,aq,lim]
 | add i j=>simp [dm,wordS,twoT,sumT,ar,aq,lim]
 | join x y hz=>simp [dm,wordS,twoT,sumT,ar,aq,lim,hz]
 | same a b ha hb h=>rcases Gy ha hb h with ⟨i,j,rfl,rfl⟩ | ⟨i,j,rfl,rfl⟩ | ⟨i,j,rfl,rfl⟩ <;> simp [dm,wordS,twoT,ar,aq,lim]
noncomputable abbrev ll:Stmt:=top 37
noncomputable abbrev I3f:Inf:=⟨2,"things_put",["row","pile","waiting"]⟩
theorem Bw:FnScope ["row","pile","waiting","word"] I3f.ps (defScope ll):=FS
theorem Bx {fa fd} (F:Fu V I3f ll fa fd) (gb:Gb2 V.mg) (bj:Ox V I2f ap) {ou} (J3c:Kn V I36 rp dm qc ou) {oz} (J37:Kn V I3a rm ly qb oz):Rx V I3f fa fd ue oh rq:=by
 have sc:=Bw;refine re (k:=1) F sc (fun p _=>rfl) (fun cdv A outer s H E hr=>(ae (ck (i:=3) sc.nd rfl (by trivial) (aj (xv 0) ad))
   (ae (cg (ai (ba hr.units) fx (xv 3) af (nomark _)) (ag (ak (az (aa (aj (xv 0) ad) ac cb)))) au)
   (ae (cg (ai (ba hr.units) fx (xv 3) af (nomark _)) (ag (ak (az (aa (am J37.o (hr.mono (by decide)) rfl (aa (aj (xv 0) ad) (aa (xv 2) ac) cb)) ac cy)))) au)
   (ae (cg (ai (ba hr.units) fx (xv 3) af (nomark _)) (ag (ak (az (aa (M0 (aj (xv 1) (de ad))) ac Iy)))) au)
   (ae (cg (ai (ba hr.units) fx (xv 3) af (nomark _)) (ag (ak (az (aa (aj (xv 1) (ah ii pp (ah ii pp (ax ce dw rfl gb.len PySem.boot_len (aa (xv 1) ac)) ad) (aj (xv 0) ad))) ac cb)))) au)
   (ae (cg (ai (ba hr.units) fx (am bj (hr.mono (by decide)) rfl (aa (xv 0) ac)) ad (nomark _)) (ag (ak (am J3c.o (hr.mono (by decide)) rfl (aa (xv 3) (aa (aj (xv 1) (de ad)) (aa (aj (xv 1) (de ad)) ac cb) cb))))) au)
   (ag (ak (az ac)))))))))) ?_
 rintro ⟨row,ps,c⟩ ⟨ho,cn,ht,hl,hf⟩
 have ho:row.ok=true:=ho;have cn:Can row ps:=cn;have ht:Things ps:=ht;have hf: ∀x∈ps,sLen x≤2 ^ 20:=hf;refine ⟨_,?_,rfl⟩
 show _=some (Fl.rt (.list (putsT row ps c)))
 have h2: ∀r a b,Two r a b→ou [.str (Str.ofString (wordS r)),a,b]=some (.list (twoT r a b)):=fun r a b h=>by
  obtain ⟨d,e1,e2⟩:=J3c.h (r,a,b) h;rw [show d=_ from e2] at e1;exact e1
 have h3: ∀k,oz [k.d,.list c.l]=some (c.hd k):=fun k=>by
  obtain ⟨d,e1,e2⟩:=J37.h (k,c) trivial;rw [show d=_ from e2] at e1;exact e1
 have hlt:1≤lim:=by decide
 cases cn with
 | push t _=>kernel_rfl
 | take k _=>exact sq (dq (d:= .str "take") rfl) (sf (sr ((C6 (P4 (bx (h3 k) rfl) hlt)))))
 | go t _=>(rw [Ux];kernel_rfl)
 | fin _=>(rw [Sw];kernel_rfl)
 | drop q x=>(rw [Px];kernel_rfl)
 | tell q x=>(rw [Py];kernel_rfl)
 | iff t q b=>(rw [Sv];kernel_rfl)
 | not q b=>
  rw [Su];exact sq (dq (d:= .str "not") rfl) (sf (sf (sr ((C6 (P4 (bx (S0 (t:=b) aw) rfl) hlt))))))
 | copy q r x=>
  rw [Pw];have ha:atD (q++x::r) (((q++x::r).length:Int) - 1 - (r.length:Int))=some x:=P0 (by simp;omega);exact sq (dq (d:= .str "copy") rfl) (sf (sf (sf (sr ((C6 (P4 (bx ha rfl) hlt)))))))
 | swap q x y=>
  rw [Pv];exact sq (dq (d:= .str "swap") rfl) (sf (sf (sf (sf (sr ((C6 (c6 (bx rfl (bx a7 (bx a0 rfl))) (h2 .swap _ _ (.swap x y))))))))))
 | add q i j=>
  rw [Ss];exact sq (dq (d:= .str "add") rfl) (sf (sf (sf (sf (sr ((C6 (c6 (bx rfl (bx a7 (bx a0 rfl))) (h2 .add _ _ (.add i j))))))))))
 | less q i j=>
  rw [Pt];exact sq (dq (d:= .str "less") rfl) (sf (sf (sf (sf (sr ((C6 (c6 (bx rfl (bx a7 (bx a0 rfl))) (h2 .less _ _ (.less i j))))))))))
 | join q a b=>
  rw [Ps];have ha:=hf (.str a) (by simp);have hb:=hf (.str b) (by simp);simp only [sLen] at ha hb;exact sq (dq (d:= .str "join") rfl) (sf (sf (sf (sf (sr ((C6 (c6 (bx rfl (bx a7 (bx a0 rfl))) (h2 .join _ _ (.join a b (by rw [sizeLine_eq];omega)))))))))))
 | same q x y h=>
  rw [Pu];exact sq (dq (d:= .str "same") rfl) (sf (sf (sf (sf (sr ((C6 (c6 (bx rfl (bx a7 (bx a0 rfl))) (h2 .same _ _ (.same x y (ht x (by simp)) (ht y (by simp)) h))))))))))
noncomputable abbrev jz:Stmt:=top 34
noncomputable abbrev I38:Inf:=⟨3,"pair_behind",["rows","pair","waiting"]⟩
theorem zf:FnScope ["rows","pair","waiting","row","pile","below"] I38.ps (defScope jz):=FS
theorem zg {fa fd} (F:Fu V I38 jz fa fd) (gb:Gb2 V.mg) (bj:Ox V I2f ap) {uo} (J32:Kn V I30 rj fu qa uo) {wa} (J40:Kn V I3f ue oh rq wa):Rx V I38 fa fd rz i0 qd:=by
 have sc:=zf;refine re (k:=2) F sc (fun p _=>rfl) (fun cdv A outer s H E hr=>(ae (ck (i:=3) sc.nd rfl (by trivial) (aj (xv 0) (aj (xv 1) ad)))
   (ae (ck (i:=4) sc.nd rfl (by trivial) (aj (xv 1) ad))
   (ae (ck (i:=5) sc.nd rfl (by trivial) (db (xv 4) eh (dv (ah ii pp (ax ce dw rfl gb.len PySem.boot_len (aa (xv 4) ac)) (am bj (hr.mono (by decide)) rfl (aa (xv 3) ac))))))
   (ag (ak (b5 (aa (am J32.o (hr.mono (by decide)) rfl (aa (xv 0) (aa (xv 1) ac))) (aa (ah cm gy (xv 5) (am J40.o (hr.mono (by decide)) rfl (aa (xv 3) (aa (xv 4) (aa (xv 2) ac))))) ac dn) cy)))))))) ?_
 rintro ⟨rs,m⟩ ⟨hm,hg⟩
 have hm:MOk rs 1 m:=hm;have hg:m.go rs=true:=hg;refine ⟨_,?_,rfl⟩
 show _=some (Fl.rt (ePr (m.nx rs)))
 obtain ⟨hs,hw⟩:=Fr hg;obtain ⟨h1,h2⟩:=xy hs;obtain ⟨ho,_,hx⟩:=hm.R.at h2;have hl:=hm.l;have cn:=J7 hm.t (jh hw).1;have hk:=J8 cn;obtain ⟨d1,e1,q1⟩:=J32.h (rs,m.s,m.p) ⟨hm.R,hs,hm.t,by show m.p.length≤1000;omega,hw⟩;rw [show d1=_ from q1] at e1;obtain ⟨d2,e2,q2⟩:=J40.h (m.row rs,m.p,m.c) ⟨ho,cn,hm.t,by show m.p.length≤1000;omega,fun x hx=>hm.f.room hx⟩;rw [show d2=_ from q2] at e2;have c1:ap [eRow (m.row rs)]=_:=dg ho;have hn:=(J9 (ps:=m.p) hs (jh hw).2).1;have hp:(putsT (m.row rs) m.p m.c).length≤2:=L9 cn _;have hc:=Ma hk;have hz:m.p.length - takeN (m.row rs)+(putsT (m.row rs) m.p m.c).length≤100000:=by omega
 simp only [fu,oh,eRows] at e1 e2;have hx:atD (rs.map eRow) (m.s:Int)=some (eRow (m.row rs)):=hx;have en:ePr (m.nx rs)= .tuple [.int (nextS rs.length m.s (m.row rs) m.p),.list (m.p.take (m.p.length - takeN (m.row rs))++putsT (m.row rs) m.p m.c)]:=by
  unfold ePr Mac.nx;dsimp only;rw [Int.toNat_of_nonneg hn];rfl
 rw [en];refine sq (ρ':=[some (eRows rs),some (ePr m),some (.list m.c.l),some (eRow (m.row rs)),none,none]) (by simp [i0,ePr,eRows,hx]) ?_;refine sq (ρ':=[some (eRows rs),some (ePr m),some (.list m.c.l),some (eRow (m.row rs)),some (.list m.p),none]) (by simp [ePr]) ?_;refine sq (ρ':=[some (eRows rs),some (ePr m),some (.list m.c.l),some (eRow (m.row rs)),some (.list m.p),some (.list (m.p.take (m.p.length - takeN (m.row rs))))]) (by simp [c1,hc]) ?_;rw [show rowOf rs m.s=m.row rs from rfl] at e1;simp [ePr,eRows,e1,e2,lim,hz]
noncomputable abbrev uq:Stmt:=top 31
noncomputable abbrev I52:Inf:=⟨6,"states",["rows","pile","coming","most"]⟩
theorem Di:FnScope ["rows","pile","coming","most","pairs","waiting","pair"] I52.ps (defScope uq):=FS
theorem Ks {fa fd} (F:Fu V I52 uq fa fd) (gb:Gb2 V.mg) {yk} (J42:Kn V I44 v9 gu ud yk) {ur} (J39:Kn V I38 rz i0 qd ur) (bc:Ox V I14 ay) {pj} (J17:Kn V I16 mz ev lh pj):Rn V I52 fa fd Prestates encstates Poststates:=by
 have sc:=Di;refine R6 (k:=5) F sc (fun p _=>rfl) (fun cdv A outer s H E hr=>(ao (Jj (am bc (hr.mono (by decide)) rfl (aa (xv 0) (aa (az ac) ac v0))))
   (ao (nv (i:=4) sc.nd rfl (by trivial) (pz (aa (b5 (aa ad (aa (dh b9 mv rfl gb.list boot_list (aa (xv 1) ac)) ac cy))) ac dj)))
   (ao (fg (i:=5) sc.nd rfl (by trivial) (dh b9 mv rfl gb.list boot_list (aa (xv 2) ac)))
   (ao (Bg (fun _=>1000) PassesOwn.never (Ab (lb (ai Tz su (ax ce dw rfl gb.len PySem.boot_len (aa (xv 4) ac)) (xv 3) (nomark _)) (ik (fc (am J42.o (hr.mono (by decide)) rfl (aa (xv 0) (aa (aj (xv 4) (de ad)) ac cb))) (fun _=>rfl))))) (ao (Lu (j:=6) (i:=4) sc.nd rfl (by trivial) (pv 4) (de ad))
   (ao (sv (i:=4) (pv 4) (am J39.o (hr.mono (by decide)) rfl (aa (xv 0) (aa (xv 6) (aa (xv 5) ac)))))
   (bb (fg (i:=5) sc.nd rfl (by trivial) (am J17.o (hr.mono (by decide)) rfl (aa (aj (xv 0) (aj (xv 6) ad)) (aa (xv 5) ac) cb)))))))
   (bb (Bh (pv 4)))))))) ?_
 rintro ⟨rs,m,n⟩ ⟨hm,hs0,hn⟩
 have hm:MOk rs n m:=hm;have hs0:m.s=0:=hs0;have hn:n≤200:=hn;have hr:ay [eRows rs,.list []]=some .none:=by unfold ay;simp [hm.R.e];exact ⟨[],vz (ks:=[]) (by simp)⟩
 have hrl:=hm.R.len;simp only [eRows] at hr;refine Sx (rs:=rs) (p:= .list m.p) (c:= .tuple m.c.l) (n:=n) (m:=m) (ρ1:=start2 (encstates (rs,m,n)) 3) (ρ2:=[some (.sh (eRows rs)),some (.sh (.list m.p)),some (.sh (.tuple m.c.l)),some (.sh (.int (n:Int))),some (.ow [ePr m]),none,none]) (by simp [encstates,eRows,hr,lim]) (by simp [encstates,ePr,hs0,lim]) (by simp [rhoS,Cm.l]) (Ka ?_ ?_ n 1000 [] m none (by simp) (by omega) hm)
 ·intro L m o k hk
  have hl:=hk.l;obtain ⟨d1,e1,q1⟩:=J42.h (rs,m.s,m.p) ⟨hk.R,hk.s,hk.t,by show m.p.length≤1000;omega⟩;rw [show d1= .bool (m.go rs) from q1] at e1;simp only [gu,eRows] at e1
  by_cases h:L.length+1≤n
  ·have h2:(L.length:Int)+1≤(n:Int):=by omega
   simp [rhoS,eRows,ePr,aw,e1,h,h2]
  ·have h2:¬ ((L.length:Int)+1≤(n:Int)):=by omega
   simp [rhoS,eRows,ePr,h,h2]
 ·intro L m o hL hg hk
  obtain ⟨hs,hw⟩:=Fr hg;obtain ⟨h1,h2⟩:=xy hs;obtain ⟨ho,_,hx⟩:=hk.R.at h2;have hx:atD (rs.map eRow) (m.s:Int)=some (eRow (m.row rs)):=hx;obtain ⟨d1,e1,q1⟩:=J39.h (rs,m) ⟨hk,hg⟩;rw [show d1=_ from q1] at e1;obtain ⟨d2,e2,q2⟩:=J17.h (m.row rs,m.c) ho;rw [show d2= .list (m.nx rs).c.l from q2] at e2;simp only [i0,ev,eRows,ePr] at e1 e2;have hL2:L.length+1+1≤100000:=by omega
  simp [rhoS,eRows,ePr,aw,e1,e2,hx,hL2,lim]
theorem G8 {fa fd} (F:Fu V I52 uq fa fd) (gb:Gb2 V.mg) {CN:Addr} {g_refuse_no_kinds} (b_refuse_no_kinds:KB V I14 CN en1 bad1 g_refuse_no_kinds):BadP V I52 fa fd CN en2 bad2:=by
 have sc:=Di;refine Da (k:=5) (Pre:=fun q=>q.Ok∧bad2 q=true) (enc:=en2) (Post:=fun _ o=>o= .inr CN) F sc (fun p _=>rfl) (fun cdv A outer s H E hr=>cv (lz (ge b_refuse_no_kinds.o (hr.mono (by decide)) rfl (aa (xv 0) (aa (az ac) ac v0)))) Av) ?_;exact fun q hq=>⟨_,ug (Bu rfl (b_refuse_no_kinds.h _ (show ({ q with b:={ q.b with k:=[],y:=none,l:=[] } }:Pz).Ok∧_ from ⟨⟨⟨hq.1.b.ra,hq.1.b.n,Nat.zero_le _,hq.1.b.ox,fun x z=>nomatch z⟩,hq.1.t,hq.1.l,hq.1.s,hq.1.c⟩,(Bool.or_false _).trans hq.2⟩))),rfl⟩
noncomputable abbrev ut:Stmt:=top 32
noncomputable abbrev I4d:Inf:=⟨1,"told_on",["rows","pairs"]⟩
theorem G9:FnScope ["rows","pairs"] I4d.ps (defScope ut):=FS
theorem Ha {fa fd} (F:Fu V I4d ut fa fd) (gb:Gb2 V.mg):Rx V I4d fa fd Ar qu xz:=by
 have sc:=G9;refine re (k:=0) F sc (fun p _=>rfl) (fun cdv A outer s H E hr=>(ag (ak (lr rfl (lc (NB:=["pair","rows"]) (fr:=[none,some 0]) rfl (by decide+kernel) rfl (by decide+kernel) rfl rfl rfl rfl) (lq (db (xv 1) eh (dv (de ad)))) (ee (i:=0) rfl) (fun _ _ _ _ _=>gh (i:=0) (show List.Nodup (["pair","rows"]:List Str) by decide+kernel) rfl (Or.inl rfl)) (fun _ _ _ _ _=>(xg (ai (ba hr.units) fx (aj (aj (xv 1) (aj (xv 0) ad)) ad) af (nomark _)))) (fun _ _ _ _ _=>(aj (aj (xv 0) ad) (de ad))))))) ?_
 rintro ⟨rs,L⟩ ⟨R,hl,hL⟩
 have R:Rows rs:=R;have hl:L.length≤300:=hl;have hL: ∀m∈L.dropLast,m.s < rs.length∧(m.row rs= .tell→m.p≠[]):=hL;refine ⟨_,?_,rfl⟩
 show _=some (Fl.rt (.list (toldT rs L.dropLast)))
 have hd:(L.map ePr).dropLast=L.dropLast.map ePr:=by rw [List.map_dropLast]
 have hl2:L.length - 1≤100000:=by omega
 simp [qu,eRows,L6,lim,hl2];rw [hd];unfold toldT;refine Fs fun m hm=>?_
 obtain ⟨h1,h2⟩:=hL m hm;obtain ⟨_,h3⟩:=xy h1;obtain ⟨ho,_,hx⟩:=R.at h3;have hx:atD (rs.map eRow) (m.s:Int)=some (eRow (m.row rs)):=hx;generalize m.row rs=row at hx h2 ⊢;cases row with
 | tell=>
  obtain ⟨q,x,e⟩: ∃q x,m.p=q++[x]:=⟨m.p.dropLast,m.p.getLast (h2 rfl),by rw [List.dropLast_concat_getLast]⟩
  simp [ePr,hx,eRow,e,aw]
 | _=>simp [ePr,hx,eRow,ar,aq]
noncomputable abbrev Kt:Stmt:=top 30
noncomputable abbrev I55:Inf:=⟨7,"run",["rows","pile","coming","most"]⟩
theorem No:FnScope ["rows","pile","coming","most","pairs","spot","left"] I55.ps (defScope Kt):=FS
theorem S9 {fa fd} (F:Fu V I55 Kt fa fd) (gb:Gb2 V.mg) {ko} (J4a:Kn V I48 og et lg ko) {F9} (J53:KnN V I52 Prestates encstates Poststates F9) {Dj} (J4e:Kn V I4d Ar qu xz Dj) (b7:Ox V I25 ci):Rx V I55 fa fd Prerun encrun Postrun:=by
 have sc:=No;refine re (k:=6) F sc (fun p _=>rfl) (fun cdv A outer s H E hr=>(ae (ck (i:=4) sc.nd rfl (by trivial) (am J53.x (hr.mono (by decide)) rfl (aa (xv 0) (aa (xv 1) (aa (xv 2) (aa (xv 3) ac))))))
   (ae (ck (i:=5) sc.nd rfl (by trivial) (aj (aj (xv 4) (de ad)) ad))
   (ae (ck (i:=6) sc.nd rfl (by trivial) (aj (aj (xv 4) (de ad)) ad))
   (ae (cg (ai (ba hr.units) fx (xv 5) (ax ce dw rfl gb.len PySem.boot_len (aa (xv 0) ac)) (nomark _)) (ag (ak (b5 (aa af (aa (am J4e.o (hr.mono (by decide)) rfl (aa (xv 0) (aa (xv 4) ac))) (aa (xv 6) ac) cy))))) au)
   (ae (cg (ai K3 su (ax ce dw rfl gb.len PySem.boot_len (aa (xv 4) ac)) (xv 3) (nomark _)) (ag (ak (b5 (aa af (aa (am J4e.o (hr.mono (by decide)) rfl (aa (xv 0) (aa (xv 4) ac))) (aa (xv 6) ac) cy))))) au)
   (ag (ak (b5 (aa af (aa (xv 5) (aa (am b7 (hr.mono (by decide)) rfl (aa (xv 0) (aa (xv 5) (aa (am J4a.o (hr.mono (by decide)) rfl (aa (xv 6) ac)) ac cy)))) ac cy)))))))))))) ?_
 rintro ⟨rs,m,n⟩ ⟨hm,hs0,hn⟩
 have hm:MOk rs n m:=hm;have hn:n≤200:=hn;refine ⟨_,?_,rfl⟩
 show _=some (Fl.rt (endM rs n m))
 obtain ⟨d1,e1,q1⟩:=J53.h (rs,m,n) ⟨hm,hs0,hn⟩;obtain rfl:d1=(runM rs n m).map ePr:=q1;obtain ⟨L,l,k,e,h1,h2,h3,h4⟩:=Aq hm;have hl:=h2.l;have hsl:=h2.s;have ht: ∀x∈(L++[l]).dropLast,x.s < rs.length∧(x.row rs= .tell→x.p≠[]):=fun x hx=>by
  rw [List.dropLast_concat] at hx;obtain ⟨a,b⟩:=Fr (h1 x hx).1;refine ⟨a,fun z y=>?_⟩;have cn:=J7 (h1 x hx).2.t (jh b).1;rw [z,y] at cn
  have:=J8 cn
  simp [takeN] at this
 obtain ⟨d2,e2,q2⟩:=J4e.h (rs,L++[l]) ⟨hm.R,by simp;omega,ht⟩;rw [show d2=_ from q2] at e2;obtain ⟨d3,e3,q3⟩:=J4a.h l.p ⟨h2.t,by omega⟩;rw [show d3=_ from q3] at e3;simp only [encrun,encstates,qu,et,eRows] at e1 e2 e3;unfold endM;rw [e] at e1 ⊢;simp only [List.getLast?_concat,List.dropLast_concat] at e2 ⊢;simp only [List.map_append,map_cons,List.map_nil] at e2;have hlen:(L++[l]).length=L.length+1:=by simp
 rw [hlen];refine sq (ρ':=[some (eRows rs),some (.list m.p),some (.tuple m.c.l),some (.int (n:Int)),some (.list ((L++[l]).map ePr)),none,none]) (by simp [encrun,eRows,e1]) ?_;refine sq (ρ':=[some (eRows rs),some (.list m.p),some (.tuple m.c.l),some (.int (n:Int)),some (.list ((L++[l]).map ePr)),some (.int (l.s:Int)),none]) (by simp [ePr,aw]) ?_;refine sq (ρ':=[some (eRows rs),some (.list m.p),some (.tuple m.c.l),some (.int (n:Int)),some (.list ((L++[l]).map ePr)),some (.int (l.s:Int)),some (.list l.p)]) (by simp [ePr,aw]) ?_
 by_cases g1:l.s=rs.length
 ·rw [if_pos g1]
  simp [eRows,g1,e2,lim]
 ·have g1':((l.s:Int)==(rs.length:Int))=false:=by simp;omega
  rw [if_neg g1]
  by_cases g2:L.length+1 > n
  ·have g3:(n:Int) < (L.length:Int)+1:=by omega
   rw [if_pos g2];simp [eRows,g1',g3,e2,lim]
  ·have g3:¬ ((n:Int) < (L.length:Int)+1):=by omega
   rw [if_neg g2];obtain ⟨_,h5⟩:=xy (show l.s < rs.length by omega);have c1:=Bm hm.R h5 (show (kindsP l.p).length≤2000 by simp;omega);simp only [eRows] at c1;rw [show rowOf rs l.s=l.row rs from rfl] at c1;simp [eRows,g1',g3,e3,c1,lim]
theorem Qg {fa fd} (F:Fu V I55 Kt fa fd) (gb:Gb2 V.mg) {CN:Addr} {g_states} (b_states:KB V I52 CN en2 bad2 g_states):BadP V I55 fa fd CN en2 bad2:=by
 have sc:=No;refine Da (k:=6) (Pre:=fun q=>q.Ok∧bad2 q=true) (enc:=en2) (Post:=fun _ o=>o= .inr CN) F sc (fun p _=>rfl) (fun cdv A outer s H E hr=>cv (Ni (i:=4) sc.nd rfl (by trivial) (ge b_states.o (hr.mono (by decide)) rfl (aa (xv 0) (aa (xv 1) (aa (xv 2) (aa (xv 3) ac)))))) Av) ?_;exact fun q hq=>⟨_,ug (Nl rfl (b_states.h q hq)),rfl⟩
noncomputable abbrev fv:Stmt:=top 43
noncomputable abbrev I26:Inf:=⟨2,"table_stands",["rows","given","table"]⟩
theorem qg:FnScope ["rows","given","table"] I26.ps (defScope fv):=FS
theorem ym {fa fd} (F:Fu V I26 fv fa fd) (gb:Gb2 V.mg) (bc:Ox V I14 ay):Rx V I26 fa fd PreT8 encT8 PostT8:=by
 have sc:=qg;refine re (k:=1) F sc (fun p _=>rfl) (fun cdv A outer s H E hr=>(ae (Ji (am bc (hr.mono (by decide)) rfl (aa (xv 0) (aa (xv 1) ac))))
   (ae (cg (Ab (lb (fc (xv 0) (fun _=>rfl)) (ik (ai (em hr.units) xh (aj (xv 2) ad) (xv 1) (nomark _))))) (ag (ak po)) au)
   (ag (ak (ax Jf (Ul rfl) rfl gb.all PyProof.Rows.boot_all (aa (lr rfl (lc (NB:=["spot","rows","table"]) (fr:=[none,some 0,some 2]) rfl (by decide+kernel) rfl (by decide+kernel) rfl rfl rfl rfl) (kr rfl gb.range (aa (ax ce dw rfl gb.len PySem.boot_len (aa (xv 0) ac)) ac cy)) (ee (i:=0) rfl) (fun _ _ _ _ _=>gh (i:=0) (show List.Nodup (["spot","rows","table"]:List Str) by decide+kernel) rfl (Or.inl rfl)) (fun _ _ _ _ _=>nj) (fun _ _ _ _ _=>S6)) ac))))))) ?_
 rintro ⟨rs,given⟩ ⟨R,hg⟩
 have R:Rows rs:=R;have hg:given.length≤500:=hg;have hr:ay [eRows rs,eKs given]=some .none:=by unfold ay;simp [R.e,vz (show given.length≤2000 by omega)]
 cases rs with
 | nil=>
  refine ⟨.bool true,?_,trivial⟩;simp only [eRows,eKs,List.map_nil] at hr;simp [encT8,eRows,eKs,hr,lim,allL,bools]
 | cons r rs=>
  refine ⟨.bool false,?_,trivial⟩;simp only [eRows,eKs,map_cons] at hr;have hd:deepOk .none (.list (given.map Kd.d))=true:=by simp [deepOk,ua]
  simp [encT8,eRows,eKs,hr,hd]
theorem wf {fa fd} (F:Fu V I26 fv fa fd) (gb:Gb2 V.mg) {CN:Addr} {g_refuse_no_kinds} (b_refuse_no_kinds:KB V I14 CN en1 bad1 g_refuse_no_kinds):BadP V I26 fa fd CN en3 bad1:=by
 have sc:=qg;refine Da (k:=1) (Pre:=fun q=>q.Ok∧bad1 q=true) (enc:=en3) (Post:=fun _ o=>o= .inr CN) F sc (fun p _=>rfl) (fun cdv A outer s H E hr=>cv (lz (ge b_refuse_no_kinds.o (hr.mono (by decide)) rfl (aa (xv 0) (aa (xv 1) ac)))) Av) ?_;exact fun q hq=>⟨_,ug (Bu rfl (b_refuse_no_kinds.h q hq)),rfl⟩
noncomputable abbrev ja:Stmt:=top 46
noncomputable abbrev I22:Inf:=⟨1,"kinds_at_end",["rows","given","road"]⟩
theorem yn:FnScope ["rows","given","road","kinds","spot","other"] I22.ps (defScope ja):=FS
theorem yo {fa fd} (F:Fu V I22 ja fa fd) (gb:Gb2 V.mg):Rx V I22 fa fd PreK8 encK8 PostK8:=by
 have sc:=yn;refine re (k:=0) F sc (fun p _=>rfl) (fun cdv A outer s H E hr=>(ae (cg (Ab (Dw (Ac (fc (xv 0) (fun _=>rfl))) (xc (ai (em hr.units) xh (aj (xv 2) ad) ad (nomark _))))) (ag (ak jq)) au)
   (ae (ck (i:=3) sc.nd rfl (by trivial) (xv 1))
   (ae (Ih PassesOwn.never rfl (Og rfl gb.zip (aa (xv 2) (aa (db (xv 2) (dv ad) eh) ac cb))) (Dx rfl (jk (i:=4) sc.nd rfl (by trivial)) (jk (i:=5) sc.nd rfl (by trivial))) Qc)
   (ag (ak (xv 3))))))) ?_
 rintro ⟨rs,given⟩ ⟨R,hg⟩
 refine ⟨_,?_,rfl⟩;cases rs <;> kernel_rfl
noncomputable abbrev fw:Stmt:=top 45
noncomputable abbrev I1e:Inf:=⟨5,"fault_stands",["rows","given","fault"]⟩
theorem qh:FnScope ["rows","given","fault","ends","last"] I1e.ps (defScope fw):=FS
theorem yp {fa fd} (F:Fu V I1e fw fa fd) (gb:Gb2 V.mg) {si} (J1f:Kn V I22 PreK8 encK8 PostK8 si) (bc:Ox V I14 ay) (b7:Ox V I25 ci):Rx V I1e fa fd PreF8 encF8 PostF8:=by
 have sc:=qh;refine re (k:=4) F sc (fun p _=>rfl) (fun cdv A outer s H E hr=>(ae (Ji (am bc (hr.mono (by decide)) rfl (aa (xv 0) (aa (xv 1) ac))))
   (ae (A5 (i:=3) sc.nd rfl (by trivial) rfl (lc (NB:=["road","rows","given"]) (fr:=[none,some 0,some 1]) rfl (by decide+kernel) rfl (by decide+kernel) rfl rfl rfl rfl) (Rk (Jk (xv 2) (dv ad) eh)) (ee (i:=0) rfl) (fun _ _ _ _ _=>gh (i:=0) (show List.Nodup (["road","rows","given"]:List Str) by decide+kernel) rfl (Or.inl rfl)) (fun _ _ _ _ _=>nj) (fun _ _ _ _ _=>(am J1f.o (hr.mono (by decide)) rfl (aa (xv 1) (aa (xv 2) (aa (xv 0) ac))))))
   (ae (cg (ai (tw hr.units) Hz jq (xv 3) (by with_unfolding_all rfl)) (ag (ak po)) au)
   (ae (ck (i:=4) sc.nd rfl (by trivial) (aj (aj (xv 2) ad) (de ad)))
   (ae (cg (ai (ba hr.units) fx (aj (xv 2) ad) af (nomark _)) (ag (ak (Cg (ek (ba hr.units) fx (xv 4) (aj (aj (xv 2) ad) (de ad)) (nomark _)) (vq (ek (em hr.units) xh (aj (xv 3) ad) (aj (xv 3) ad) (nomark _)))))) au)
   (ag (ak (ek (ba hr.units) fx (am b7 (hr.mono (by decide)) rfl (aa (xv 0) (aa (xv 4) (aa (aj (xv 3) ad) ac cb)))) (aj (xv 2) ad) (nomark _)))))))))) ?_
 rintro ⟨rs,given⟩ ⟨R,hg⟩
 have R:Rows rs:=R;have hg:given.length≤500:=hg;have hr:ay [eRows rs,eKs given]=some .none:=by unfold ay;simp [R.e,vz (show given.length≤2000 by omega)]
 obtain ⟨d1,e1,q1⟩:=J1f.h (rs,given) ⟨R,hg⟩;rw [show d1=_ from q1] at e1;simp only [encK8] at e1;cases rs with
 | nil=>
  refine ⟨.bool false,sq (ρ':=[some (eRows []),some (eKs given),some fewD,none,none]) (by simp [encF8,hr]) ?_,trivial⟩;simp [cIx,cutD,e1,lim,seqF]
 | cons r rs=>
  have c1:=Bm (s:=0) R rfl (show given.length≤2000 by omega);refine ⟨.bool (decide (why3 (r::rs).length r given=some .few)),?_,trivial⟩;simp only [List.isEmpty_cons,Bool.false_eq_true,if_false] at e1;refine sq (ρ':=[some (eRows (r::rs)),some (eKs given),some fewD,none,none]) (by simp [encF8,hr]) ?_;refine sq (ρ':=[some (eRows (r::rs)),some (eKs given),some fewD,some (.list [eKs given]),none]) (by simp [cIx,cutD,e1,lim]) ?_;refine sq (ρ':=[some (eRows (r::rs)),some (eKs given),some fewD,some (.list [eKs given]),none]) (by simp [eKs,ua]) ?_;refine sq (ρ':=[some (eRows (r::rs)),some (eKs given),some fewD,some (.list [eKs given]),some (.int 0)]) (by kernel_rfl) ?_;refine sq (ρ':=[some (eRows (r::rs)),some (eKs given),some fewD,some (.list [eKs given]),some (.int 0)]) (by kernel_rfl) ?_;have c1:ci [eRows (r::rs),.int 0,eKs given]=_:=c1;cases hw:why3 (r::rs).length r given with
  | none=>rw [hw] at c1;simp [c1,eW3]
  | some y=>rw [hw] at c1;cases y <;> simp [c1,eW3,W3.d,W3.s,ar,aq]
theorem wg {fa fd} (F:Fu V I1e fw fa fd) (gb:Gb2 V.mg) {CN:Addr} {g_refuse_no_kinds} (b_refuse_no_kinds:KB V I14 CN en1 bad1 g_refuse_no_kinds):BadP V I1e fa fd CN en4 bad1:=by
 have sc:=qh;refine Da (k:=4) (Pre:=fun q=>q.Ok∧bad1 q=true) (enc:=en4) (Post:=fun _ o=>o= .inr CN) F sc (fun p _=>rfl) (fun cdv A outer s H E hr=>cv (lz (ge b_refuse_no_kinds.o (hr.mono (by decide)) rfl (aa (xv 0) (aa (xv 1) ac)))) Av) ?_;exact fun q hq=>⟨_,ug (Bu rfl (b_refuse_no_kinds.h q hq)),rfl⟩
noncomputable abbrev qi:Stmt:=top 41
noncomputable abbrev I4f:Inf:=⟨8,"guarded",["rows","given","pile","coming","most"]⟩
theorem Aw:FnScope ["rows","given","pile","coming","most","seen","fault","kinds"] I4f.ps (defScope qi):=FS
theorem Hb {fa fd} (F:Fu V I4f qi fa fd) (gb:Gb2 V.mg) {CG CN CF CS:Addr} (cx:Cxs V CG CN CF CS) {ko} (J4a:Kn V I48 og et lg ko) {Ga} (J54:Kn V I50 Prelooked enclooked Postlooked Ga) {Ta} (J57:Kn V I55 Prerun encrun Postrun Ta): ∃g,(∀p,Preguarded p→ ∃o,g (encguarded p)=some o∧Gout CF CS p o)∧FnOk V.P V.w V.K V.mg V.base (CX1 V.P V.w) I4f.k fa fd I4f.ps (spR V.K g):=by
 have sc:=Aw;refine Da (k:=7) F sc (fun p _=>rfl) (fun cdv A outer s H E hr=>cv (Kg (ck (i:=5) sc.nd rfl (by trivial) (am J54.o (hr.mono (by decide)) rfl (aa (xv 0) (aa (xv 1) ac))))) (cv (C9 (ai (ba hr.units) fx (aj (xv 5) ad) af (nomark _)) (cv (Kg (ck (i:=6) sc.nd rfl (by trivial) (aj (xv 5) ad))) (cv (Fy hr rfl cx.mF cx.rF (xv 6)) gv)) gv) (cv (Kg (ck (i:=7) sc.nd rfl (by trivial) (am J4a.o (hr.mono (by decide)) rfl (aa (xv 2) ac)))) (cv (C9 (ai (em hr.units) xh (xv 7) (xv 1) (nomark _)) (cv (Ki hr rfl cx.mS cx.rS (xv 7) (xv 1)) gv) gv) (cv (Kg (ak (am J57.o (hr.mono (by decide)) rfl (aa (xv 0) (aa (xv 2) (aa (xv 3) (aa (xv 4) ac))))))) gv))))) ?_
 rintro ⟨⟨rs,given⟩,m,n⟩ ⟨hm,hs0,hn,hg⟩
 have hm:MOk rs n m:=hm;have hg:given.length≤100:=hg;have hr:=hm.R.2;obtain ⟨d2,e2,hP⟩:=J54.h (rs,given) ⟨hm.R,by show given.length≤500;omega⟩;obtain ⟨d5,e5,q5⟩:=J4a.h m.p ⟨hm.t,by have:=hm.l;omega⟩;rw [show d5=_ from q5] at e5;obtain ⟨d7,e7,q7⟩:=J57.h (rs,m,n) ⟨hm,hs0,hn⟩;rw [show d7=_ from q7] at e7;simp only [enclooked,et,encrun,eKs] at e2 e5 e7;rcases hP with ⟨f,rfl,hF⟩ | ⟨F,rfl,hF⟩
 ·obtain ⟨s1,s2⟩:=Mi hF (show rs.length≤900 by omega)
  refine ⟨.inr CF,?_,.inl ⟨f,hF,rfl⟩⟩;simp [encguarded,eKs,seqR,liftR,ifR,raiseR,retR,setF,e2,eFault,ar,aq,s1,s2]
 ·by_cases hk:kindsP m.p=given
  ·refine ⟨.inl (endM rs n m),?_,.inr ⟨F,hF,.inr ⟨hk,rfl⟩⟩⟩
   simp [encguarded,eKs,seqR,liftR,ifR,raiseR,retR,setF,e2,eFine,ar,aq,e5,e7,hk,eqvKs,vc]
  ·refine ⟨.inr CS,?_,.inr ⟨F,hF,.inl ⟨hk,rfl⟩⟩⟩
   simp only [encguarded];have s1:=Kl (ks:=kindsP m.p) (by have:=hm.l;simp;omega);have s2:=Kl (ks:=given) (by omega);generalize kindsP m.p=kk at hk e5 s1;simp only [eKs] at s1 s2;simp [encguarded,eKs,seqR,liftR,ifR,raiseR2,shpD,retR,setF,e2,eFine,ar,aq,e5,hk,eqvKs,vc,s1,s2]
theorem Ey {fa fd} (F:Fu V I4f qi fa fd) (gb:Gb2 V.mg) {CN:Addr} {g_looked} (b_looked:KB V I50 CN en1 bad1 g_looked):BadP V I4f fa fd CN en5 bad1:=by
 have sc:=Aw;refine Da (k:=7) (Pre:=fun q=>q.Ok∧bad1 q=true) (enc:=en5) (Post:=fun _ o=>o= .inr CN) F sc (fun p _=>rfl) (fun cdv A outer s H E hr=>cv (Ni (i:=5) sc.nd rfl (by trivial) (ge b_looked.o (hr.mono (by decide)) rfl (aa (xv 0) (aa (xv 1) ac)))) Av) ?_;exact fun q hq=>⟨_,ug (Nl rfl (b_looked.h q hq)),rfl⟩
noncomputable abbrev o0:Stmt:=top 48
noncomputable abbrev I41:Inf:=⟨1,"_law_whole",["_law_found"]⟩
theorem Dk:FnScope ["_law_found"] I41.ps (defScope o0):=FS
theorem Dl {fa fd} (F:Fu V I41 o0 fa fd) (gb:Gb2 V.mg):Fz V I41 fa fd (spX V.K gl):=by
 have sc:=Dk;refine yw (k:=0) F sc (by intro ds d h;unfold gl at h;split at h <;> first | rfl | cases h) (fun cdv A outer s H E hr=>(ag (ak (Cg (lf rfl gb.isi (xv 0) rfl gb.int boot_int) (vq (M0 (lf rfl gb.isi (xv 0) rfl gb.bool boot_bool))))))) ?_;intro ds d h;left;unfold gl at h;split at h <;> first | (cases h;simp [isTy,tyN];done) | cases h
noncomputable abbrev wx:Stmt:=top 49
noncomputable abbrev I51:Inf:=⟨1,"_law_at",["_law_script","_law_k"]⟩
theorem Ku:FnScope ["_law_script","_law_k"] I51.ps (defScope wx):=FS
theorem Kv {fa fd} (F:Fu V I51 wx fa fd) (gb:Gb2 V.mg):Fz V I51 fa fd (spX V.K d9):=by
 have sc:=Ku;refine yw (k:=0) F sc (by intro ds d h;unfold d9 at h;split at h <;> first | rfl | cases h) (fun cdv A outer s H E hr=>(ae (cg (ai (Ls hr.units) O4 (xv 0) (az ac) (nomark _)) (ag (ak ad)) au)
   (ag (ak (ah cm gy (aj (xv 0) (ah cj d8 (xv 1) (ax ce dw rfl gb.len PySem.boot_len (aa (xv 0) ac)))) (ah vo Ci ad (ah jl wd (xv 1) (ax ce dw rfl gb.len PySem.boot_len (aa (xv 0) ac))))))))) ?_
 intro ds d h;left;unfold d9 at h;split at h
 ·rename_i s k
  split at h
  ·rename_i ns hs
   split at h
   ·rename_i hk
    cases h;obtain ⟨rfl,hl⟩:=Al hs;cases ns with
    | nil=>simp [eScr,cellT]
    | cons n ns=>
     have hm0:=Int.emod_nonneg k (show ((n::ns).length:Int)≠0 by simp <;> omega);have hm1:=Int.emod_lt_of_pos k (show (0:Int) < ((n::ns).length:Int) by simp <;> omega);have hx:atD ((n::ns).map PyData.int) (k % ((n::ns).length:Int))=some (.int ((n::ns)[(k % ((n::ns).length:Int)).toNat]?.getD 0)):=by
      have h2:=eo (xs:=(n::ns).map PyData.int) (i:=(k % ((n::ns).length:Int)).toNat) (by rw [length_map];omega);rw [Int.toNat_of_nonneg hm0] at h2;rw [h2,getElem?_map,getElem?_eq_getElem (by omega)];simp
     have hb:(0:Int) < ((n::ns).length:Int)∧((n::ns).length:Int) < 1073741824:=by simp at hl ⊢;omega
     simp only [length_cons,map_cons,Int.natCast_add,Int.natCast_one] at hx hb;simp [eScr,cellT,hx,hb.1,hb.2,small]
   ·cases h
  ·cases h
 ·cases h
noncomputable abbrev qy:Stmt:=top 50
noncomputable abbrev I49:Inf:=⟨2,"_law_same",["_law_found","_law_due"]⟩
theorem Ez:FnScope ["_law_found","_law_due","_law_left","_law_right","_law_one","_law_two"] I49.ps (defScope qy):=FS
theorem E1 {fa fd} (F:Fu V I49 qy fa fd) (gb:Gb2 V.mg) (tj:Ox V I41 gl):Fz V I49 fa fd (spX V.K gr):=by
 have sc:=Ez;refine Tn (k:=1) F sc (by intro ds d h;obtain ⟨_,x,rfl,_⟩:=p6 h;rfl) (fun cdv A outer s H E hr=>(ao (nv (i:=2) sc.nd rfl (by trivial) (pz (aa (xv 0) ac)))
   (ao (nv (i:=3) sc.nd rfl (by trivial) (pz (aa (xv 1) ac)))
   (ao (Bg measS PassesOwn.never (ai (em hr.units) xh (xv 3) (az ac) (nomark _)) (ao (D6 (j:=4) (i:=2) sc.nd rfl (by trivial) (pv 2))
   (ao (D6 (j:=5) (i:=3) sc.nd rfl (by trivial) (pv 3))
   (bb (jn (fc (Oj rfl gb.isi (xv 5) rfl gb.list boot_list rfl gb.tuple boot_tuple) (fun _=>rfl)) (ao (jn (ai (em hr.units) xh (lf rfl gb.isi (xv 4) rfl gb.list boot_list) (lf rfl gb.isi (xv 5) rfl gb.list boot_list) (nomark _)) (bb (rg po)) gj)
   (ao (jn (Ab (Dw (ai (em hr.units) xh (lf rfl gb.isi (xv 4) rfl gb.tuple boot_tuple) (lf rfl gb.isi (xv 5) rfl gb.tuple boot_tuple) (nomark _)) (xc (ai (em hr.units) xh (ax ce dw rfl gb.len PySem.boot_len (aa (xv 4) ac)) (ax ce dw rfl gb.len PySem.boot_len (aa (xv 5) ac)) (nomark _))))) (bb (rg po)) gj)
   (ao (D7 (i:=2) (pv 2) (xv 4))
   (bb (D7 (i:=3) (pv 3) (xv 5)))))) (bb (jn (ai E7 Lg (xv 5) jq (nomark _)) (bb (jn (ai wz Cj (xv 4) jq (nomark _)) (bb (rg po)) gj)) (bb (jn (fc (lf rfl gb.isi (xv 5) rfl gb.bool boot_bool) (fun _=>rfl)) (bb (jn (Ab (Dw (Ac (fc (lf rfl gb.isi (xv 4) rfl gb.bool boot_bool) (fun _=>rfl))) (xc (ai (em hr.units) xh (xv 4) (xv 5) (nomark _))))) (bb (rg po)) gj)) (bb (jn (fc (lf rfl gb.isi (xv 5) rfl gb.str boot_str) (fun _=>rfl)) (bb (jn (Ab (Dw (Ac (fc (lf rfl gb.isi (xv 4) rfl gb.str boot_str) (fun _=>rfl))) (xc (ai (em hr.units) xh (xv 4) (xv 5) (nomark _))))) (bb (rg po)) gj)) (bb (jn (Ab (Dw (Ac (fc (am tj (hr.mono (by decide)) rfl (aa (xv 4) ac)) (fun _=>rfl))) (xc (ai (em hr.units) xh (xv 4) (xv 5) (nomark _))))) (bb (rg po)) gj)))))))))))))
   (bb (rg po)))))) ?_
 intro ds d h;obtain ⟨rfl,x,rfl,hc,hz⟩:=p6 h;clear h;refine Ly (ρ1:=[some (.sh x),some (.sh x),some (.ow [x]),none,none,none]) (ρ2:=rho x x [x] none none) (by simp [lim]) (by simp [rho,lim]) (Lx (Jn ?_ ?_ ?_ ?_) (fun _=>rfl) ?_ ?_)
 ·intro L o t hL
  simp [rho,lim,deepOk,hL]
 ·intro L y o t hf hL
  cases y <;> first | (cases hf;done) | simp [rho,isTy,tyN,gl]
 ·intro L xs o t hL hl
  simp [rho,isTy,tyN,gl,hl]
 ·intro L xs o t hL hl
  simp [rho,isTy,tyN,gl,hl]
 ·simp [szs,lim];omega
 ·simpa using hc
noncomputable abbrev j0:Stmt:=top 51
noncomputable abbrev I2d:Inf:=⟨1,"_law_sort_of",["_law_thing"]⟩
theorem zh:FnScope ["_law_thing"] I2d.ps (defScope j0):=FS
theorem zi {fa fd} (F:Fu V I2d j0 fa fd) (gb:Gb2 V.mg):Fz V I2d fa fd (spX V.K g7):=by
 have sc:=zh;refine yw (k:=0) F sc (by intro ds d h;unfold g7 at h;split at h <;> first | rfl | cases h) (fun cdv A outer s H E hr=>(ae (cg (fc (lf rfl gb.isi (xv 0) rfl gb.bool boot_bool) (fun _=>rfl)) (ag (ak af)) au)
   (ae (cg (fc (lf rfl gb.isi (xv 0) rfl gb.str boot_str) (fun _=>rfl)) (ag (ak af)) au)
   (ag (ak af))))) ?_
 intro ds d h;left;unfold g7 at h;split at h
 ·rename_i t
  split at h
  ·rename_i ht
   cases h;cases t <;> first | (cases ht;done) | skip
   all_goals simp [kindT,Kd.d,Kd.s,isTy,tyN]
  ·cases h
 ·cases h
noncomputable abbrev jb:Stmt:=top 52
noncomputable abbrev I21:Inf:=⟨1,"_law_asks_for",["_law_row","_law_kinds"]⟩
theorem yq:FnScope ["_law_row","_law_kinds"] I21.ps (defScope jb):=FS
theorem yr {fa fd} (F:Fu V I21 jb fa fd) (gb:Gb2 V.mg):Fz V I21 fa fd (spX V.K lu):=by
 have sc:=yq;refine yw (k:=0) F sc (fun ds d h=>kt h) (fun cdv A outer s H E hr=>(ae (cg (ai (tw hr.units) Hz (aj (xv 0) ad) (az (aa af (aa af ac))) (by with_unfolding_all rfl)) (ag (ak (az (aa af (aa af ac))))) au)
   (ae (cg (ai (ba hr.units) fx (aj (xv 0) ad) af (nomark _)) (ag (ak (az (aa af (aa af ac))))) au)
   (ae (cg (ai (tw hr.units) Hz (aj (xv 0) ad) (az (aa af (aa af ac))) (by with_unfolding_all rfl)) (ag (ak (az (aa af ac)))) au)
   (ae (cg (ai (tw hr.units) Hz (aj (xv 0) ad) (az (aa af (aa af ac))) (by with_unfolding_all rfl)) (ag (ak (ah Iw M4 (db (ah cm gy (xv 1) (az (aa af ac))) eh (dv ad)) ad))) au)
   (ae (cg (ai (tw hr.units) Hz (aj (xv 0) ad) (az (aa af (aa af ac))) (by with_unfolding_all rfl)) (ag (ak (az (aa af ac)))) au)
   (ae (cg (ai (ba hr.units) fx (aj (xv 0) ad) af (nomark _)) (ag (ak (ah Iw M4 (az (aa af ac)) (ax (Ho rfl) T3 rfl gb.max boot_max (aa ad (aa (ah cm gy (ax (Hq rfl) T4 rfl gb.min boot_min (aa (aj (xv 0) ad) (aa ad ac) cb)) ad) ac dn)))))) au)
   (ag (ak (az ac)))))))))) ?_
 intro ds d h;left;obtain ⟨r,ks,rfl,ho,hl,e⟩:=gq h;clear h;cases e;have hks:ks.length+1≤100000:=by omega
 cases r
 case copy n=>
  simp [eRow,ar,aq,asksT,eKs,lim];have key:(if 0 < (if 1000 < n then 1000 else n)+1 then (if 1000 < n then 1000 else n)+1 else (0:Int))=max 0 (min n 1000+1):=by (repeat' split) <;> omega
  rw [key,if_pos (by omega)];simp [Kd.d,Kd.s]
 case same=>
  simp [eRow,ar,aq,asksT,eKs,lim,hks];cases ks <;> simp [Kd.d,Kd.s,cutD,cIx,List.replicate]
 case swap=>
  simp [eRow,ar,aq,asksT,eKs,lim,hks];cases ks <;> simp [Kd.d,Kd.s,cutD,cIx,List.replicate]
 all_goals kernel_rfl
noncomputable abbrev ic:Stmt:=top 53
noncomputable abbrev I1a:Inf:=⟨2,"_law_reason_of",["_law_row","_law_kinds"]⟩
theorem wj:FnScope ["_law_row","_law_kinds","_law_wants"] I1a.ps (defScope ic):=FS
theorem wk {fa fd} (F:Fu V I1a ic fa fd) (gb:Gb2 V.mg) (mq:Ox V I21 lu):Fz V I1a fa fd (spX V.K kz):=by
 have sc:=wj;refine yw (k:=1) F sc (fun ds d h=>kt h) (fun cdv A outer s H E hr=>(ae (ck (i:=2) sc.nd rfl (by trivial) (am mq (hr.mono (by decide)) rfl (aa (xv 0) (aa (xv 1) ac))))
   (ae (cg (Ab (Dw (ai Ay su (ax ce dw rfl gb.len PySem.boot_len (aa (xv 1) ac)) (ax ce dw rfl gb.len PySem.boot_len (aa (xv 2) ac)) (nomark _)) (xc (Ab (lb (ai (ba hr.units) fx (aj (xv 0) ad) af (nomark _)) (ik (ai Ay su (aj (xv 0) ad) ad (nomark _)))))))) (ag (ak af)) au)
   (ae (cg (Ab (lb (ai (ba hr.units) fx (aj (xv 0) ad) af (nomark _)) (ik (ai (em hr.units) xh (aj (xv 1) (de ad)) (aj (xv 1) (de ad)) (nomark _))))) (ag (ak af)) au)
   (ae (cg (ai (tw hr.units) Hz (aj (xv 0) ad) (az (aa af (aa af (aa af (aa af (aa af ac)))))) (by with_unfolding_all rfl)) (ag (cg (ai (em hr.units) xh (db (xv 1) (dv (ah ii pp (ax ce dw rfl gb.len PySem.boot_len (aa (xv 1) ac)) (ax ce dw rfl gb.len PySem.boot_len (aa (xv 2) ac)))) eh) (xv 2) (nomark _)) (ag (ak af)) au)) au)
   (ag (ak jq))))))) ?_
 intro ds d h;left;obtain ⟨r,ks,rfl,ho,hl,e⟩:=gq h;split at e
 case isFalse=>cases e
 rename_i hk;cases e;have hA:lu [eRow r,eKs ks]=some (eKs (asksT r ks)):=dy ho hl;clear h;refine sq (dq (c6 (bx rfl (bx rfl rfl)) hA)) ?_;clear hA;obtain ⟨rs,rfl⟩: ∃rs,ks=rs.reverse:=⟨ks.reverse,(List.reverse_reverse _).symm⟩
 have z0:decide ((((rs.reverse.map Kd.d).length:Nat):Int) < ((0:Nat):Int))=false:=decide_eq_false (by omega);have ne: ∀k1 k2:List Kd,neB (.list (k1.map Kd.d)) (eKs k2)=some (.bool (decide (k1≠k2))):=fun k1 k2=>by simp [eKs,eqvKs,vc]
 have l2: ∀ {l:List Kd} {p:List D} {a b:Kd},l.map Kd.d=p++[a,b].map Kd.d→decide ((((l.map Kd.d).length:Nat):Int) < ((2:Nat):Int))=false:=fun h=>decide_eq_false (by rw [h];simp;omega);have l1: ∀ {l:List Kd} {p:List D} {b:Kd},l.map Kd.d=p++[b].map Kd.d→decide ((((l.map Kd.d).length:Nat):Int) < ((1:Nat):Int))=false:=fun h=>decide_eq_false (by rw [h];simp;omega);cases r
 case copy n=>
  rw [List.length_reverse] at hk;have en:((((asksT (.copy n) rs.reverse).map Kd.d).length:Nat):Int)=max 0 (min n 1000+1):=by
   rw [length_map]
   show ((List.replicate _ _).length:Int)=_
   rw [List.length_replicate];omega
  have ln:(((rs.reverse.map Kd.d).length:Nat):Int)=rs.length:=by rw [length_map,List.length_reverse]
  by_cases h1:n < 0∨n ≥ (rs.length:Int)
  ·have e:lackT (.copy n) rs.reverse=some .few:=by rw [bh];exact if_pos h1
   rw [e];refine sr rfl ?_
   by_cases h2:n < 0
   ·exact we (lenlt rfl rfl (decide_eq_false (by rw [en,ln];omega))) (congrArg some (decide_eq_true h2))
   ·exact C7 (lenlt rfl rfl (decide_eq_true (by rw [en,ln];omega)))
  ·have e:lackT (.copy n) rs.reverse=none:=by rw [bh];exact if_neg h1
   rw [e];exact sf (sf (sf rfl)) (we (lenlt rfl rfl (decide_eq_false (by rw [en,ln];omega))) (congrArg some (decide_eq_false (by omega))))
 case push t=>exact sf (sf (sf rfl)) (we (lenlt rfl rfl z0) (by kernel_rfl))
 case take k=>exact sf (sf (sf rfl)) (we (lenlt rfl rfl z0) (by kernel_rfl))
 case go n=>exact sf (sf (sf rfl)) (we (lenlt rfl rfl z0) (by kernel_rfl))
 case fin=>exact sf (sf (sf rfl)) (we (lenlt rfl rfl z0) (by kernel_rfl))
 case add | less=>
  rcases rs with _ | ⟨b,_ | ⟨a,rs⟩⟩
  ·exact sr rfl (C7 (by kernel_rfl))
  ·exact sr rfl (C7 (by kernel_rfl))
  ·have hs:(b::a::rs).reverse.map Kd.d=rs.reverse.map Kd.d++[a,b].map Kd.d:=by simp
   rw [bh];refine sf (sf ?_) (we (lenlt rfl rfl (l2 hs)) (by kernel_rfl))
   show _=some (Fl.rt (eWhy (if a= .number∧b= .number then none else some .kind)))
   by_cases hh:a= .number∧b= .number
   ·rw [if_pos hh]
    exact sq (Em (by kernel_rfl) (Kb (k9 (Eq.trans (jo (slcT hs rfl rfl rfl) rfl) ((ne _ _).trans (by rw [hh.1,hh.2];rfl)))) rfl)) rfl
   ·rw [if_neg hh]
    exact sr (Em (k9 (Eq.trans (jo (slcT hs rfl rfl rfl) rfl) ((ne _ _).trans (by rw [decide_eq_true (show [a,b]≠_ from fun z=>hh (by simpa [asksT] using z))])))) rfl)
 case join=>
  rcases rs with _ | ⟨b,_ | ⟨a,rs⟩⟩
  ·exact sr rfl (C7 (by kernel_rfl))
  ·exact sr rfl (C7 (by kernel_rfl))
  ·have hs:(b::a::rs).reverse.map Kd.d=rs.reverse.map Kd.d++[a,b].map Kd.d:=by simp
   rw [bh];refine sf (sf ?_) (we (lenlt rfl rfl (l2 hs)) (by kernel_rfl))
   show _=some (Fl.rt (eWhy (if a= .text∧b= .text then none else some .kind)))
   by_cases hh:a= .text∧b= .text
   ·rw [if_pos hh]
    exact sq (Em (by kernel_rfl) (Kb (k9 (Eq.trans (jo (slcT hs rfl rfl rfl) rfl) ((ne _ _).trans (by rw [hh.1,hh.2];rfl)))) rfl)) rfl
   ·rw [if_neg hh]
    exact sr (Em (k9 (Eq.trans (jo (slcT hs rfl rfl rfl) rfl) ((ne _ _).trans (by rw [decide_eq_true (show [a,b]≠_ from fun z=>hh (by simpa [asksT] using z))])))) rfl)
 case not | iff=>
  rcases rs with _ | ⟨b,rs⟩
  ·exact sr rfl (C7 (by kernel_rfl))
  ·have hs:(b::rs).reverse.map Kd.d=rs.reverse.map Kd.d++[b].map Kd.d:=by simp
   rw [bh];refine sf (sf ?_) (we (lenlt rfl rfl (l1 hs)) (by kernel_rfl))
   show _=some (Fl.rt (eWhy (if b= .truth then none else some .kind)))
   by_cases hh:b= .truth
   ·rw [if_pos hh]
    exact sq (Em (by kernel_rfl) (Kb (k9 (Eq.trans (jo (slcT hs rfl rfl rfl) rfl) ((ne _ _).trans (by rw [hh];rfl)))) rfl)) rfl
   ·rw [if_neg hh]
    exact sr (Em (k9 (Eq.trans (jo (slcT hs rfl rfl rfl) rfl) ((ne _ _).trans (by rw [decide_eq_true (show [b]≠_ from fun z=>hh (by simpa [asksT] using z))])))) rfl)
 case drop | tell=>
  rcases rs with _ | ⟨b,rs⟩
  ·exact sr rfl (C7 (by kernel_rfl))
  ·rw [bh]
   exact sf (sf (sf rfl)) (we (lenlt rfl rfl (l1 (p:=rs.reverse.map Kd.d) (b:=b) (by simp))) (by kernel_rfl))
 all_goals (rcases rs with _ | ⟨b,_ | ⟨a,rs⟩⟩)
 case swap.nil | swap.cons.nil | same.nil | same.cons.nil=>exact sr rfl (C7 (by kernel_rfl))
 case swap.cons.cons=>
  rw [bh];exact sf (sf (sf rfl)) (we (lenlt rfl rfl (l2 (p:=rs.reverse.map Kd.d) (a:=a) (b:=b) (by simp))) (by kernel_rfl))
 case same.cons.cons=>
  have hs:(b::a::rs).reverse.map Kd.d=rs.reverse.map Kd.d++[a.d,b.d]:=by simp
  have g1:atD ((b::a::rs).reverse.map Kd.d) (-1)=some b.d:=by rw [hs];exact a0
  have g2:atD ((b::a::rs).reverse.map Kd.d) (-2)=some a.d:=by rw [hs];exact a7
  rw [bh];refine sf ?_ (we (lenlt rfl rfl (l2 (p:=rs.reverse.map Kd.d) (a:=a) (b:=b) (by simp))) (by kernel_rfl))
  show _=some (Fl.rt (eWhy (if a=b then none else some .kind)))
  by_cases hh:a=b
  ·rw [if_pos hh]
   exact sf (sf rfl) (Eq.trans (Nd (by kernel_rfl)) (k9 (Eq.trans (jo (Eq.trans (jo rfl rfl) g1) (Eq.trans (jo rfl rfl) g2)) (by rw [hh];cases b <;> rfl))))
  ·rw [if_neg hh]
   exact sr rfl (Eq.trans (Nd (by kernel_rfl)) (k9 (Eq.trans (jo (Eq.trans (jo rfl rfl) g1) (Eq.trans (jo rfl rfl) g2)) (by cases a <;> cases b <;> first | rfl | exact absurd rfl hh))))
noncomputable abbrev o3:Stmt:=top 54
noncomputable abbrev I45:Inf:=⟨2,"_law_after",["_law_row","_law_kinds"]⟩
theorem Dm:FnScope ["_law_row","_law_kinds","_law_left","_law_last"] I45.ps (defScope o3):=FS
theorem wb {fa fd} (F:Fu V I45 o3 fa fd) (gb:Gb2 V.mg) (j6:Ox V I2d g7):Fz V I45 fa fd (spN V.K io):=by
 have sc:=Dm;refine Vl (k:=1) F sc (by intro ds d h;obtain ⟨r,ks,rfl,_⟩:=pe h;rfl) (fun cdv A outer s H E hr=>(ao (nv (i:=2) sc.nd rfl (by trivial) (Os rfl gb.list (xv 1)))
   (ao (jn (ai (tw hr.units) Hz (aj (xv 0) ad) (az (aa af (aa af (aa af (aa af ac))))) (by with_unfolding_all rfl)) (ao (Jd (i:=2) (pv 2))
   (bb (Jd (i:=2) (pv 2)))) (bb (jn (ai (tw hr.units) Hz (aj (xv 0) ad) (az (aa af (aa af (aa af (aa af ac))))) (by with_unfolding_all rfl)) (bb (Jd (i:=2) (pv 2))) gj)))
   (ao (jn (Ab (Dw (ai (ba hr.units) fx (aj (xv 0) ad) af (nomark _)) (xc (ai (ba hr.units) fx (aj (xv 0) ad) af (nomark _))))) (bb (sv (i:=2) (pv 2) (aj (az (aa af (aa af ac))) (dh tm T5 rfl gb.int boot_int (aa (ek (ba hr.units) fx (aj (xv 0) ad) af (nomark _)) ac))))) (bb (jn (ai (tw hr.units) Hz (aj (xv 0) ad) (az (aa af (aa af (aa af ac)))) (by with_unfolding_all rfl)) (bb (sv (i:=2) (pv 2) af)) (bb (jn (ai (ba hr.units) fx (aj (xv 0) ad) af (nomark _)) (bb (sv (i:=2) (pv 2) (am j6 (hr.mono (by decide)) rfl (aa (aj (xv 0) ad) ac cb)))) (bb (jn (ai (ba hr.units) fx (aj (xv 0) ad) af (nomark _)) (bb (sv (i:=2) (pv 2) (aj (xv 0) ad))) (bb (jn (ai (ba hr.units) fx (aj (xv 0) ad) af (nomark _)) (bb (Ot (i:=2) (pv 2) (aj (xv 2) (ah ii pp (ah ii pp (ax ce dw rfl gb.len PySem.boot_len (aa (xv 2) ac)) ad) (aj (xv 0) ad))))) (bb (jn (ai (ba hr.units) fx (aj (xv 0) ad) af (nomark _)) (ao (D6 (j:=3) (i:=2) sc.nd rfl (by trivial) (pv 2))
   (bb (Je (i:=2) (pv 2) (aa (ah ii pp (ax ce dw rfl gb.len PySem.boot_len (aa (xv 2) ac)) ad) (aa (xv 3) ac) dn)))) gj)))))))))))
   (bb (Bh (pv 2))))))) ?_
 intro ds d h;obtain ⟨r,ks,rfl,ho,hl,hL,rfl⟩:=pe h;clear h;obtain ⟨rs,rfl⟩: ∃rs:List Kd,ks=rs.reverse:=⟨ks.reverse,by simp⟩
 rw [bh] at hL;have hl:rs.length≤2000:=by simpa using hl
 cases r
 case push t=>
  obtain ⟨h1,_⟩:=va ho;exact Eq.trans (sqO rfl (sqO (ioF (ioF rfl)) (sqO (ioF (ioF (ioT (C8 rfl (c6 (bx rfl rfl) (by simp [g7,h1];rfl)) (by simp [lim];omega))))) rfl))) (congrArg (fun z=>some (FlO.rn z)) (by simp [afterT,afterR,Kd.d,Kd.s]))
 case take k=>exact Eq.trans (sqO rfl (sqO (ioF (ioF rfl)) (sqO (ioF (ioF (ioF (ioT (C8 rfl rfl (by simp [lim];omega)))))) rfl))) (congrArg (fun z=>some (FlO.rn z)) (by simp [afterT,afterR,Kd.d,Kd.s]))
 case go n=>exact Eq.trans (sqO rfl (sqO (ioF (ioF rfl)) (sqO (ioF (ioF (ioF (ioF (ioF (ioF rfl)))))) rfl))) (congrArg (fun z=>some (FlO.rn z)) (by simp [afterT,afterR,Kd.d,Kd.s]))
 case fin=>exact Eq.trans (sqO rfl (sqO (ioF (ioF rfl)) (sqO (ioF (ioF (ioF (ioF (ioF (ioF rfl)))))) rfl))) (congrArg (fun z=>some (FlO.rn z)) (by simp [afterT,afterR,Kd.d,Kd.s]))
 case copy n=>
  obtain ⟨h1,h2⟩:=Bc hL;have hl2:rs.length+1≤100000:=by omega
  have h3:=Fe (xs:=rs.map Kd.d) (n:=n) h1 (by simpa using h2);have h4:n.toNat < rs.length:=by omega
  rw [length_map,getElem?_map,getElem?_eq_getElem h4] at h3;simp [eRow,eKs,ar,aq,lim,afterT,afterR,h3,hl2,getElem?_eq_getElem h4,Kd.d]
 case swap=>
  obtain ⟨b,a,rs,rfl⟩:=Bb hL;have hl3:rs.length+1+1≤100000:=by simp at hl;omega
  have hl2:rs.length+1≤100000:=by omega
  simp [eRow,eKs,ar,aq,lim,afterT,afterR,Kd.d,Kd.s,hl2,hl3]
 case add | join=>
  rcases rs with _ | ⟨b,_ | ⟨a,rs⟩⟩
  ·cases hL
  ·cases hL
  have hs:(b::a::rs).reverse.map Kd.d=(rs.reverse.map Kd.d++[a.d])++[b.d]:=by simp
  exact Eq.trans (sqO (Ft (congrArg some hs)) (sqO (ioT (sqO (As rfl) (As rfl))) (sqO (ioT (C8 rfl (by rfl) (by simp at hl;simp [lim];omega))) rfl))) (congrArg (fun z=>some (FlO.rn z)) (by simp [afterT,afterR,Kd.d,Kd.s]))
 case less | same=>
  rcases rs with _ | ⟨b,_ | ⟨a,rs⟩⟩
  ·cases hL
  ·cases hL
  have hs:(b::a::rs).reverse.map Kd.d=(rs.reverse.map Kd.d++[a.d])++[b.d]:=by simp
  exact Eq.trans (sqO (Ft (congrArg some hs)) (sqO (ioT (sqO (As rfl) (As rfl))) (sqO (ioF (ioT (C8 rfl rfl (by simp at hl;simp [lim];omega)))) rfl))) (congrArg (fun z=>some (FlO.rn z)) (by simp [afterT,afterR,Kd.d,Kd.s]))
 case not=>
  rcases rs with _ | ⟨b,rs⟩
  ·cases hL
  have hs:(b::rs).reverse.map Kd.d=rs.reverse.map Kd.d++[b.d]:=by simp
  exact Eq.trans (sqO (Ft (congrArg some hs)) (sqO (ioF (ioT (As rfl))) (sqO (ioF (ioT (C8 rfl rfl (by simp at hl;simp [lim];omega)))) rfl))) (congrArg (fun z=>some (FlO.rn z)) (by simp [afterT,afterR,Kd.d,Kd.s]))
 case iff | drop | tell=>
  rcases rs with _ | ⟨b,rs⟩
  ·cases hL
  have hs:(b::rs).reverse.map Kd.d=rs.reverse.map Kd.d++[b.d]:=by simp
  exact Eq.trans (sqO (Ft (congrArg some hs)) (sqO (ioF (ioT (As rfl))) (sqO (ioF (ioF (ioF (ioF (ioF (ioF rfl)))))) rfl))) (congrArg (fun z=>some (FlO.rn z)) (by simp [afterT,afterR,Kd.d,Kd.s]))
noncomputable abbrev e9:Stmt:=top 55
noncomputable abbrev I13:Inf:=⟨1,"_law_drawn_thing",["_law_cell"]⟩
theorem uu:FnScope ["_law_cell","_law_far","_law_signs"] I13.ps (defScope e9):=FS
theorem uv {fa fd} (F:Fu V I13 e9 fa fd) (gb:Gb2 V.mg):Fz V I13 fa fd (spX V.K dz):=by
 have sc:=uu;refine yw (k:=0) F sc (by intro ds d h;unfold dz at h;split at h <;> first | rfl | cases h) (fun cdv A outer s H E hr=>(ae (cg (ai (ba hr.units) fx (ah cj d8 (xv 0) ad) ad (nomark _)) (ae (ck (i:=1) sc.nd rfl (by trivial) (ah cj d8 (ah vo Ci (xv 0) ad) (ah E6 Lf ad ad)))
   (ag (ak (aj (az (aa (ah ii pp (ah cj d8 (ah jl wd (xv 0) ad) ad) ad) (aa ad (aa (de ad) (aa ad (aa (xv 1) (aa (ah ii pp ad (xv 1)) ac dn))) Iy)) dn)) (ah cj d8 (ah jl wd (xv 0) ad) ad))))) au)
   (ae (cg (ai (ba hr.units) fx (ah cj d8 (xv 0) ad) ad (nomark _)) (ag (ak (ek (ba hr.units) fx (ah cj d8 (ah jl wd (xv 0) ad) ad) ad (nomark _)))) au)
   (ae (ck (i:=2) sc.nd rfl (by trivial) af)
   (ag (ak (aj (az (aa af (aa af (aa af (aa (aj (xv 2) (ah cj d8 (ah jl wd (xv 0) ad) (ax ce dw rfl gb.len PySem.boot_len (aa (xv 2) ac)))) (aa (ah xk A8 af ad) ac dn) cb))))) (ah cj d8 (ah jl wd (xv 0) ad) ad)))))))) ?_
 intro ds d h;left;unfold dz at h;split at h
 ·rename_i c
  cases h;have hp:(10:Int) ^ 30=1000000000000000000000000000000:=by decide+kernel
  have h3:c % 3=0∨c % 3=1∨c % 3=2:=by omega
  rcases h3 with h3 | h3 | h3
  ·have h6:c / 3 % 6=0∨c / 3 % 6=1∨c / 3 % 6=2∨c / 3 % 6=3∨c / 3 % 6=4∨c / 3 % 6=5:=by omega
   rcases h6 with h6 | h6 | h6 | h6 | h6 | h6 <;> simp [drawnT,h3,h6,small,lim,farT,hp]
  ·simp [drawnT,h3]
   rfl
  ·have ha:(Str.ofString "a").length=1:=by decide+kernel
   have hs:=Lw (c / 15 % 37) (by omega) (by omega);have h6:c / 3 % 5=0∨c / 3 % 5=1∨c / 3 % 5=2∨c / 3 % 5=3∨c / 3 % 5=4:=by omega
   rcases h6 with h6 | h6 | h6 | h6 | h6 <;> simp [drawnT,h3,h6,small,lim,Ct,hs,signsT,ha]
 ·cases h
noncomputable abbrev ie:Stmt:=top 56
noncomputable abbrev I1c:Inf:=⟨3,"_law_plain_row",["_law_way","_law_more","_law_kinds","_law_tables"]⟩
theorem wm:FnScope ["_law_way","_law_more","_law_kinds","_law_tables","_law_words","_law_row","_law_spots"] I1c.ps (defScope ie):=FS
theorem wn {fa fd} (F:Fu V I1c ie fa fd) (gb:Gb2 V.mg) (iu:Ox V I13 dz) (la:Ox V I1a kz):Rx V I1c fa fd ph b6 iq:=by
 have sc:=wm;refine re (k:=2) F sc (fun p _=>rfl) (fun cdv A outer s H E hr=>(ae (ck (i:=4) sc.nd rfl (by trivial) (az (aa af (aa af (aa af (aa af (aa af (aa af (aa af (aa af ac))))))))))
   (ae (cg (ai Ay su (xv 0) ad (nomark _)) (ae (ck (i:=5) sc.nd rfl (by trivial) (b5 (aa (aj (xv 4) (xv 0)) ac cb)))
   (ag (cg (ai E7 Lg (am la (hr.mono (by decide)) rfl (aa (xv 5) (aa (xv 2) ac))) jq (nomark _)) (ag (ak (xv 5))) au))) au)
   (ae (cg (ai (ba hr.units) fx (xv 0) ad (nomark _)) (ag (ak (b5 (aa af (aa (aj (az (aa af (aa af (aa af ac)))) (ah cj d8 (xv 1) ad)) ac cb))))) au)
   (ae (cg (Ab (lb (ai (ba hr.units) fx (xv 0) ad (nomark _)) (ik (ai (em hr.units) xh (xv 2) (az ac) (nomark _))))) (ag (ak (b5 (aa af (aa (ah cj d8 (xv 1) (ax ce dw rfl gb.len PySem.boot_len (aa (xv 2) ac))) ac dn))))) au)
   (ae (cg (Ab (lb (ai (ba hr.units) fx (xv 0) ad (nomark _)) (ik (ai (ba hr.units) fx (db (xv 2) (dv (de ad)) eh) (az (aa af ac)) (nomark _))))) (ae (A5 (i:=6) sc.nd rfl (by trivial) rfl (lc (NB:=["_law_k","_law_tables","_law_kinds"]) (fr:=[none,some 3,some 2]) rfl (by decide+kernel) rfl (by decide+kernel) rfl rfl rfl rfl) (kr rfl gb.range (aa (ax ce dw rfl gb.len PySem.boot_len (aa (xv 3) ac)) ac cy)) (ee (i:=0) rfl) (fun _ _ _ _ _=>gh (i:=0) (show List.Nodup (["_law_k","_law_tables","_law_kinds"]:List Str) by decide+kernel) rfl (Or.inl rfl)) (fun _ _ _ _ _=>(xg (ai (ba hr.units) fx (aj (xv 1) (xv 0)) (db (xv 2) eh (dv (de ad))) (nomark _)))) (fun _ _ _ _ _=>(xv 0)))
   (ag (cg (ai (em hr.units) xh (xv 6) (az ac) (nomark _)) (ag (ak (b5 (aa af (aa (aj (xv 6) (ah cj d8 (xv 1) (ax ce dw rfl gb.len PySem.boot_len (aa (xv 6) ac)))) ac cb))))) au))) au)
   (ae (cg (ai (ba hr.units) fx (xv 0) ad (nomark _)) (ag (ak (b5 (aa af (aa (ah cm gy (ax ce dw rfl gb.len PySem.boot_len (aa (xv 3) ac)) ad) ac dn))))) au)
   (ag (ak (b5 (aa af (aa (am iu (hr.mono (by decide)) rfl (aa (xv 1) ac)) ac cy)))))))))))) ?_
 rintro ⟨w,m,ks,ts⟩ ⟨h0,h1,hk,ht⟩
 have h0:0≤w:=h0;have h1:w≤13:=h1;have hk:ks.length≤500:=hk;have ht:ts.length≤500:=ht;have hd:dz [.int m]=some (drawnT m):=rfl;have hr: ∀r:Row,r.ok=true→kz [eRow r,eKs ks]=some (eWhy (lackT r ks)):=fun r ho=>(dy ho (by omega)).trans (if_pos (by omega));have hpush:iq (w,m,ks,ts) (eRow (.push (drawnT m))):=⟨.push (drawnT m),rfl,Eb m,xw,fun _=>⟨_,rfl⟩⟩
 by_cases hw8:w < 8
 ·obtain ⟨r,x,ro,er,hx⟩:=Om h0 hw8
  have hA:=hr r ro;rw [er] at hA;have n8:(w==8)=false:=by simp;omega
  have n9:(w==9)=false:=by simp;omega
  have n10:(w==10)=false:=by simp;omega
  have n11:(w==11)=false:=by simp;omega
  cases hL:lackT r ks with
  | none=>
   rw [hL] at hA;refine ⟨eRow r,?_,r,rfl,ro,hL,fun z=>absurd (show 12≤w from z) (by omega)⟩;rw [er];simp [eKs,eWhy] at hA;simp [b6,eKs,hA,lim,hx,hw8]
  | some y=>
   rw [hL] at hA;refine ⟨_,?_,hpush⟩;cases y <;> simp [eKs,eWhy,Why.d] at hA <;> simp [b6,eKs,eRow,hA,lim,hd,hx,hw8,n8,n9,n10,n11]
 have hw:w=8∨w=9∨w=10∨w=11∨w=12∨w=13:=by omega
 clear hw8;rcases hw with rfl | rfl | rfl | rfl | rfl | rfl
 ·refine ⟨eRow (.take (kd3 m)),?_,.take (kd3 m),rfl,rfl,Jx,fun z=>by simp at z⟩
  simp [b6,eKs,eRow,M8,lim]
 ·by_cases hn:ks=[]
  ·subst hn
   exact ⟨_,by kernel_rfl,hpush⟩
  ·have hl:0 < ks.length:=List.length_pos_iff.mpr hn
   have hne:ks.isEmpty=false:=by cases ks <;> simp at hn ⊢
   refine ⟨eRow (.copy (m % (ks.length:Int))),?_,.copy (m % (ks.length:Int)),rfl,rfl,Jy (Int.emod_nonneg _ (by omega)) (Int.emod_lt_of_pos _ (by omega)),fun z=>by simp at z⟩;simp [b6,eKs,eRow,lim,hd,deepOk,ua,ub,hne,hl,hn]
 ·obtain ⟨S,rfl⟩: ∃S:List Kd,ks=S.reverse:=⟨ks.reverse,by simp⟩
  cases S with
  | nil=>
   exact ⟨_,by kernel_rfl,hpush⟩
  | cons b S=>
   simp only [reverse_cons] at hpush hk ⊢;obtain ⟨q,rfl⟩: ∃q:List Kd,S=q.reverse:=⟨S.reverse,by simp⟩
   simp only [List.reverse_reverse] at hpush hk ⊢
   by_cases hb:b= .truth
   ·subst hb
    have htl:(ts.length:Int)≤1000000:=by omega
    have htn:ts.length≤100000:=by omega
    obtain ⟨sp,hsp⟩: ∃sp:List Nat,sp=(List.range ts.length).filter fun k=>decide (ts[k]?=some q):=⟨_,rfl⟩
    have hm: ∀ {g:D→Option (Option D)},(∀k:Nat,k < ts.length→g (.int (k:Int))=some (if decide (ts[k]?=some q)=true then some (.int (k:Int)) else none))→compL g ((List.range ts.length).map fun (i:Nat)=>PyData.int (i:Int))=some (sp.map fun (i:Nat)=>PyData.int (i:Int)):=fun h=>by rw [hsp];exact Ao fun k hk=>h k (List.mem_range.mp hk)
    have hone: ∀k:Nat,k < ts.length→ ∃x,ts[k]?=some x∧atD (ts.map eKs) (k:Int)=some (eKs x):=fun k hk=>⟨ts[k],getElem?_eq_getElem hk,by rw [eo (by rw [length_map];exact hk),getElem?_map,getElem?_eq_getElem hk];rfl⟩
    simp [b6,eKs,eRow,lim,hd,deepOk,sx,Ee,htl,htn,Kd.d,Kd.s,ar,aq];rw [hm]
    rotate_left
    ·intro k hk
     obtain ⟨x,e1,e2⟩:=hone k hk;simp only [eKs] at e2
     by_cases hx:x=q
     ·subst hx
      simp [e1,e2,Ee,deepOk,ua,ub,eqvKs]
     ·simp [e1,e2,Ee,deepOk,ua,ub,eqvKs,hx]
    clear hm hone hsp
    by_cases hsn:sp=[]
    ·subst hsn
     refine ⟨_,?_,hpush⟩;simp [eRow,lim,hd]
    ·obtain ⟨z,_,hz⟩:=R9 (l:=sp) (f:=fun (i:Nat)=>PyData.int (i:Int)) m hsn
     have hsl:0 < sp.length:=List.length_pos_iff.mpr hsn;refine ⟨eRow (.iff (z:Int)),?_,.iff (z:Int),rfl,rfl,Ed,fun z=>by simp at z⟩;have hse:sp.isEmpty=false:=by cases sp <;> simp at hsn ⊢
     simp [eRow,lim,hz,Fo,hsn,hsl,hse]
   ·refine ⟨_,?_,hpush⟩
    cases b <;> first | (exact absurd rfl hb) | simp [b6,eKs,eRow,lim,hd,deepOk,sx,Kd.d,Kd.s,ar,aq]
 ·refine ⟨eRow (.go ((ts.length:Int)+1)),?_,.go ((ts.length:Int)+1),rfl,rfl,Pd,fun z=>by simp at z⟩
  simp [b6,eKs,eRow,lim]
 ·exact ⟨_,by kernel_rfl,hpush⟩
 ·exact ⟨_,by kernel_rfl,hpush⟩
noncomputable abbrev j9:Stmt:=top 57
noncomputable abbrev I3d:Inf:=⟨4,"_law_rows_of",["_law_cells","_law_given"]⟩
theorem zj:FnScope ["_law_cells","_law_given","_law_rows","_law_tables","_law_kinds","_law_k","_law_cell","_law_made","_law_row"] I3d.ps (defScope j9):=FS
theorem zk {fa fd} (F:Fu V I3d j9 fa fd) (gb:Gb2 V.mg) (yt:Ox V I45 dk) {qj} (J1b:Kn V I1c ph b6 iq qj):Rn V I3d fa fd rh iz k6:=by
 have sc:=zj;refine R6 (k:=3) F sc (fun p _=>rfl) (fun cdv A outer s H E hr=>(ao (nv (i:=2) sc.nd rfl (by trivial) (pz ac))
   (ao (nv (i:=3) sc.nd rfl (by trivial) (pz ac))
   (ao (fg (i:=4) sc.nd rfl (by trivial) (dh b9 mv rfl gb.list boot_list (aa (xv 1) ac)))
   (ao (M6 (i:=5) PassesOwn.never rfl (kr rfl gb.range (aa (ah jl wd (ax ce dw rfl gb.len PySem.boot_len (aa (xv 0) ac)) ad) ac dn)) (jk sc.nd rfl (by trivial)) (ao (fg (i:=6) sc.nd rfl (by trivial) (ah cm gy (aj (xv 0) (ah vo Ci ad (xv 5))) (xv 5)))
   (ao (D9 (i:=7) sc.nd rfl (by trivial) (pz (aa (am J1b.o (hr.mono (by decide)) rfl (aa (ah cj d8 (xv 6) ad) (aa (aj (xv 0) (ah cm gy (ah vo Ci ad (xv 5)) ad)) (aa (xv 4) (aa (xv 3) ac)) cb) dn)) ac cy)))
   (ao (jn (Ab (lb (ai (ba hr.units) fx (ah cj d8 (xv 6) ad) ad (nomark _)) (ik (ai (ba hr.units) fx (db (xv 4) (dv (de ad)) eh) (az (aa af ac)) (nomark _))))) (bb (D9 (i:=7) sc.nd rfl (by trivial) (pz (aa (b5 (aa af (aa (ah cm gy (ax ce dw rfl gb.len PySem.boot_len (aa (xv 2) ac)) ad) ac dn))) (aa (aj (xv 7) ad) (aa (b5 (aa af ac)) ac dj) cb) dj)))) gj)
   (ao (jn (Ab (lb (ai (ba hr.units) fx (ah cj d8 (xv 6) ad) ad (nomark _)) (lb (ai (ba hr.units) fx (db (xv 4) (dv (de ad)) eh) (az (aa af ac)) (nomark _)) (ik (ai K3 su (ax ce dw rfl gb.len PySem.boot_len (aa (xv 4) ac)) ad (nomark _)))))) (bb (D9 (i:=7) sc.nd rfl (by trivial) (pz (aa (b5 (aa af (aa (ah cm gy (ax ce dw rfl gb.len PySem.boot_len (aa (xv 2) ac)) ad) ac dn))) (aa (b5 (aa af ac)) (aa (aj (xv 7) ad) ac cb) dj) dj)))) gj)
   (bb (M6 (i:=8) PassesOwn.never rfl (lq (xv 7)) (jk sc.nd rfl (by trivial)) (ao (sv (i:=2) (pv 2) (xv 8))
   (ao (sv (i:=3) (pv 3) (dh b9 mv rfl gb.list boot_list (aa (xv 4) ac)))
   (bb (fg (i:=4) sc.nd rfl (by trivial) (am yt (hr.mono (by decide)) rfl (aa (xv 8) (aa (xv 4) ac))))))))))))))
   (bb (Bh (pv 2)))))))) ?_
 rintro ⟨cells,given⟩ ⟨hc,hg⟩
 have hc:cells.length≤66:=hc;have hg:given.length≤40:=hg;have hg2:given.length≤100000:=by omega
 have hc2:(cells.length:Int) / 2≤1000000:=by omega
 refine L4 (cells:=cells) (given:=given) hc hg (ρ1:=[some (.sh (eInts cells)),some (.sh (eKs given)),some (.ow []),none,none,none,none,none,none]) (ρ2:=[some (.sh (eInts cells)),some (.sh (eKs given)),some (.ow []),some (.ow []),none,none,none,none,none]) (by simp [iz,lim]) (by simp [lim]) ?_ ?_ ?_ ?_
 ·simp [rhoD,eKs,lim,hg2]
 ·simp [rhoD,eInts,hc2]
  exact ⟨by omega,by rw [show ((cells.length:Int) / 2).toNat=cells.length / 2 by omega]⟩
 ·intro j rs ts ks c md r hj hrs hts hrl hkl
  have hsm:small 2=true:=small_iff.mpr (by omega);have g0:=J1 (show 2*j < cells.length by omega) (show 2*(j:Int)=((2*j:Nat):Int) by omega);have g1:=J1 hj (show 2*(j:Int)+1=((2*j+1:Nat):Int) by omega);obtain ⟨z,hz⟩: ∃z:Int,z=cells[2*j]+(j:Int):=⟨_,rfl⟩
  obtain ⟨pd,ep,row,rfl,rok,rlack,rpush⟩:=J1b.h (z % 14,cells[2*j+1],ks,ts) ⟨by show 0≤z % 14;omega,by show z % 14≤13;omega,by show ks.length≤500;omega,by show ts.length≤500;omega⟩;have rpush:12≤z % 14→ ∃t,row= .push t:=rpush;have rlack:lackT row ks=none:=rlack;have hn:=Ef rok;simp only [b6,eKs] at ep;have E:(z % 14=12∧ ∃q:List Kd,ks=q++[.truth])∨(z % 14=13∧ ∃q:List Kd,q≠[]∧ks=q++[.truth])∨(¬ (z % 14=12∧ ∃q:List Kd,ks=q++[.truth])∧¬ (z % 14=13∧ ∃q:List Kd,q≠[]∧ks=q++[.truth])):=by
   by_cases a:z % 14=12∧ ∃q:List Kd,ks=q++[.truth]
   ·exact .inl a
   ·by_cases b:z % 14=13∧ ∃q:List Kd,q≠[]∧ks=q++[.truth]
    ·exact .inr (.inl b)
    ·exact .inr (.inr ⟨a,b⟩)
  rcases E with ⟨hw,q,rfl⟩ | ⟨hw,q,hq,rfl⟩ | ⟨n12,n13⟩
  ·obtain ⟨t,rfl⟩:=rpush (by omega)
   simp only [List.map_append,map_cons,List.map_nil] at ep;have hnt:noL t=true:=by simpa [eRow] using hn
   refine xx (S:=[.iff ((rs.length:Int)+3),.push t,.drop]) (k':=some (.sh (.int (j:Int)))) (c':=some (.sh (.int z))) (ρ1:=(rhoD cells given rs ts (q++[.truth]) (some (.sh (.int (j:Int)))) (some (.sh (.int z))) md r)) (ρ2:=(rhoD cells given rs ts (q++[.truth]) (some (.sh (.int (j:Int)))) (some (.sh (.int z))) (some (.sh (.list [eRow (.push t)]))) r)) (ρ3:=(rhoD cells given rs ts (q++[.truth]) (some (.sh (.int (j:Int)))) (some (.sh (.int z))) (some (.sh (.list [eRow (.iff ((rs.length:Int)+3)),eRow (.push t),eRow (.drop)]))) r)) ?_ ?_ ?_ ?_ ?_ ?_ ⟨rfl,Ed,rok,xw,rfl,by rw [Fn,Gw];exact C2,trivial⟩ (by simp) hrs hts hrl hkl
   ·simp [rhoD,eInts,g0,hsm,hz]
   ·simp [rhoD,eInts,eKs,g0,g1,hsm,ep,lim,hn]
   ·simp [rhoD,eInts,eKs,hw,sx,deepOk,Kd.d,Kd.s,lim,eRow,hnt]
   ·simp [rhoD,eInts,eKs,hw,sx,deepOk,Kd.d,Kd.s,lim,eRow]
   ·simp [rhoD,eInts,eKs]
   ·intro md rs ts ks row ho hL h1 h2 h3
    have c4:dk [eRow row,eKs ks]=some (eKs (afterT row ks)):=by unfold dk;rw [nw ho (by omega) hL];rfl
    have h4:ks.length≤100000:=by omega
    unfold lim at h2 h3;simp only [eKs] at c4;simp [rhoD,eKs,h2,h3,c4,lim,h4]
  ·obtain ⟨t,rfl⟩:=rpush (by omega)
   simp only [List.map_append,map_cons,List.map_nil] at ep;have hnt:noL t=true:=by simpa [eRow] using hn
   have hq0:0 < q.length:=List.length_pos_iff.mpr hq;have hq0:1 < (q.length:Int)+1:=by omega
   refine xx (S:=[.iff ((rs.length:Int)+3),.drop,.push t]) (k':=some (.sh (.int (j:Int)))) (c':=some (.sh (.int z))) (ρ1:=(rhoD cells given rs ts (q++[.truth]) (some (.sh (.int (j:Int)))) (some (.sh (.int z))) md r)) (ρ2:=(rhoD cells given rs ts (q++[.truth]) (some (.sh (.int (j:Int)))) (some (.sh (.int z))) (some (.sh (.list [eRow (.push t)]))) r)) (ρ3:=(rhoD cells given rs ts (q++[.truth]) (some (.sh (.int (j:Int)))) (some (.sh (.int z))) (some (.sh (.list [eRow (.push t)]))) r)) ?_ ?_ ?_ ?_ ?_ ?_ ⟨rfl,Ed,rfl,by rw [Fn];exact Gv hq,rok,xw,trivial⟩ (by simp) hrs hts hrl hkl
   ·simp [rhoD,eInts,g0,hsm,hz]
   ·simp [rhoD,eInts,eKs,g0,g1,hsm,ep,lim,hn]
   ·simp [rhoD,eInts,eKs,hw,sx,deepOk,Kd.d,Kd.s,lim,eRow]
   ·simp [rhoD,eInts,eKs,hw,sx,deepOk,Kd.d,Kd.s,lim,eRow,hnt,hq0]
   ·simp [rhoD,eInts,eKs]
   ·intro md rs ts ks row ho hL h1 h2 h3
    have c4:dk [eRow row,eKs ks]=some (eKs (afterT row ks)):=by unfold dk;rw [nw ho (by omega) hL];rfl
    have h4:ks.length≤100000:=by omega
    unfold lim at h2 h3;simp only [eKs] at c4;simp [rhoD,eKs,h2,h3,c4,lim,h4]
  ·obtain ⟨B,B1,B2,B3,B4⟩:=Jz ks
   refine xx (S:=[row]) (k':=some (.sh (.int (j:Int)))) (c':=some (.sh (.int z))) (ρ1:=(rhoD cells given rs ts ks (some (.sh (.int (j:Int)))) (some (.sh (.int z))) md r)) (ρ2:=(rhoD cells given rs ts ks (some (.sh (.int (j:Int)))) (some (.sh (.int z))) (some (.sh (.list [eRow (row)]))) r)) (ρ3:=(rhoD cells given rs ts ks (some (.sh (.int (j:Int)))) (some (.sh (.int z))) (some (.sh (.list [eRow (row)]))) r)) ?_ ?_ ?_ ?_ ?_ ?_ ⟨rok,rlack,trivial⟩ (by simp) hrs hts hrl hkl
   ·simp [rhoD,eInts,g0,hsm,hz]
   ·simp [rhoD,eInts,eKs,g0,g1,hsm,ep,lim,hn]
   ·by_cases h12:z % 14=12
    ·have hB:B=false:=by
      cases hb:B with
      | false=>rfl
      | true=>exact absurd ⟨h12,B4 hb⟩ n12
     simp [rhoD,eInts,eKs,h12,deepOk,B1,B2,B3,hB,lim]
    ·have h12:(z % 14==12)=false:=by simpa using h12
     simp [rhoD,eInts,eKs,h12]
   ·by_cases h13:z % 14=13
    ·cases hb:B with
     | false=>simp [rhoD,eInts,eKs,h13,deepOk,B1,B2,B3,hb,lim]
     | true=>
      obtain ⟨q,hq⟩:=B4 hb;have hk1:¬ (1 < ks.length):=fun h=>n13 ⟨h13,q,fun e=>by rw [hq,e] at h;simp at h,hq⟩;have hk1:¬ (1 < (ks.length:Int)):=by omega
      simp [rhoD,eInts,eKs,h13,deepOk,B1,B2,B3,hb,lim,hk1]
    ·have h13:(z % 14==13)=false:=by simpa using h13
     simp [rhoD,eInts,eKs,h13]
   ·simp [rhoD,eInts,eKs]
   ·intro md rs ts ks row ho hL h1 h2 h3
    have c4:dk [eRow row,eKs ks]=some (eKs (afterT row ks)):=by unfold dk;rw [nw ho (by omega) hL];rfl
    have h4:ks.length≤100000:=by omega
    unfold lim at h2 h3;simp only [eKs] at c4;simp [rhoD,eKs,h2,h3,c4,lim,h4]
 ·intro rs ts ks k c md r
  simp [rhoD]
noncomputable abbrev ke:Stmt:=top 58
noncomputable abbrev I2e:Inf:=⟨1,"_law_odd_row",["_law_cell","_law_count"]⟩
theorem zl:FnScope ["_law_cell","_law_count","_law_odd","_law_far"] I2e.ps (defScope ke):=FS
theorem zm {fa fd} (F:Fu V I2e ke fa fd) (gb:Gb2 V.mg):Fz V I2e fa fd (spX V.K h9):=by
 have sc:=zl;refine Tn (k:=0) F sc (by intro ds d h;unfold h9 at h;split at h <;> first | rfl | cases h) (fun cdv A outer s H E hr=>(ao (nv (i:=2) sc.nd rfl (by trivial) (pz (aa (b5 (aa af ac)) (aa (b5 (aa af ac)) (aa (b5 (aa af ac)) (aa (b5 (aa af ac)) (aa (b5 (aa af ac)) (aa (b5 (aa af ac)) (aa (b5 (aa af ac)) (aa (b5 (aa af ac)) ac dj) dj) dj) dj) dj) dj) dj) dj)))
   (ao (Bf (i:=2) sc.nd rfl (by trivial) (Fj (xv 2) (az (aa (b5 (aa af (aa ad ac))) (aa (b5 (aa af (aa (de ad) ac Iy))) (aa (b5 (aa af (aa ad ac))) (aa (b5 (aa af ac)) ac dj) dj) dj) dj))))
   (ao (Bf (i:=2) sc.nd rfl (by trivial) (Fj (xv 2) (az (aa (b5 (aa af (aa (ah cj d8 (ah jl wd (xv 0) ad) (xv 1)) ac dn))) (aa (b5 (aa af (aa (ah cj d8 (ah jl wd (xv 0) ad) (xv 1)) ac dn))) ac dj) dj))))
   (ao (fg (i:=3) sc.nd rfl (by trivial) (ah cj d8 (ah vo Ci (xv 0) ad) (ah E6 Lf ad ad)))
   (ao (Bf (i:=2) sc.nd rfl (by trivial) (Fj (xv 2) (az (aa (b5 (aa af (aa (ah cm gy (xv 1) ad) ac dn))) (aa (b5 (aa af (aa (de ad) ac Iy))) (aa (b5 (aa af (aa ad ac))) (aa (b5 (aa af (aa af ac))) ac dj) dj) dj) dj))))
   (ao (Bf (i:=2) sc.nd rfl (by trivial) (Fj (xv 2) (az (aa (b5 (aa af (aa (xv 3) ac))) (aa (b5 (aa af (aa (ah cm gy (ah cm gy (xv 1) ad) (xv 3)) ac dn))) (aa (b5 (aa af (aa (ah ii pp (de ad) (xv 3)) ac dn))) ac dj) dj) dj))))
   (bb (rg (aj (xv 2) (ah cj d8 (xv 0) ad))))))))))) ?_
 intro ds d h;unfold h9 at h;split at h
 ·rename_i c n
  split at h
  case isFalse=>cases h
  rename_i hn;cases h;have hp:(10:Int) ^ 30=1000000000000000000000000000000:=by decide+kernel
  have hs:small 48271=true:=small_iff.mpr (by omega);simp [hs,lim,hp,hn];obtain ⟨z,hz,hc⟩: ∃z:Nat,z < 21∧c % 21=(z:Int):=⟨(c % 21).toNat,by omega,by omega⟩
  have hf:farT c=c*48271 % 1000000000000000000000000000000:=by unfold farT;rw [hp]
  unfold oddRowT;rw [hc,Int.toNat_natCast,hf];rcases z with _ | _ | _ | _ | _ | _ | _ | _ | _ | _ | _ | _ | _ | _ | _ | _ | _ | _ | _ | _ | _ | z <;> first | rfl | (exact absurd hz (by omega))
 ·cases h
noncomputable abbrev jc:Stmt:=top 59
noncomputable abbrev I24:Inf:=⟨1,"_law_given_of",["_law_cell"]⟩
theorem yu:FnScope ["_law_cell","_law_many","_law_sorts"] I24.ps (defScope jc):=FS
theorem yv {fa fd} (F:Fu V I24 jc fa fd) (gb:Gb2 V.mg):Rx V I24 fa fd p9 g9 pg:=by
 have sc:=yu;refine re (k:=0) F sc (fun p _=>rfl) (fun cdv A outer s H E hr=>(ae (ck (i:=1) sc.nd rfl (by trivial) (aj (az (aa ad (aa ad (aa ad (aa ad (aa ad (aa ad (aa ad (aa ad ac))))))))) (ah cj d8 (xv 0) ad)))
   (ae (ck (i:=2) sc.nd rfl (by trivial) (az (aa af (aa af (aa af ac)))))
   (ag (ak (lr rfl (lc (NB:=["_law_k","_law_sorts","_law_cell"]) (fr:=[none,some 2,some 0]) rfl (by decide+kernel) rfl (by decide+kernel) rfl rfl rfl rfl) (kr rfl gb.range (aa (xv 1) ac)) (ee (i:=0) rfl) (fun _ _ _ _ _=>gh (i:=0) (show List.Nodup (["_law_k","_law_sorts","_law_cell"]:List Str) by decide+kernel) rfl (Or.inl rfl)) (fun _ _ _ _ _=>nj) (fun _ _ _ _ _=>(aj (xv 1) (ah cj d8 (ah cm gy (ah jl wd (xv 2) ad) (ah vo Ci (xv 0) (ah cm gy (ah cj d8 (xv 2) ad) ad))) ad))))))))) ?_
 intro c _;obtain ⟨N,hN,e⟩: ∃N:Nat,N≤40∧atD [PyData.int 0,.int 1,.int 2,.int 3,.int 4,.int 5,.int 7,.int 40] (c % 8)=some (.int (N:Int)):=by
  have h8:c % 8=0∨c % 8=1∨c % 8=2∨c % 8=3∨c % 8=4∨c % 8=5∨c % 8=6∨c % 8=7:=by omega
  rcases h8 with h | h | h | h | h | h | h | h <;> rw [h]
  ·exact ⟨0,by omega,by simp⟩
  ·exact ⟨1,by omega,by simp⟩
  ·exact ⟨2,by omega,by simp⟩
  ·exact ⟨3,by omega,by simp⟩
  ·exact ⟨4,by omega,by simp⟩
  ·exact ⟨5,by omega,by simp⟩
  ·exact ⟨7,by omega,by simp⟩
  ·exact ⟨40,by omega,by simp⟩
 have hs:small (c % 3+1)=true:=small_iff.mpr (by omega);have hN2:(N:Int)≤1000000:=by omega
 have hN3:N≤100000:=by omega
 have hm: ∀ {g:D→Option (Option D)},(∀x:Nat,g (.int (x:Int))=some (some (kd3 (c / 8+(x:Int)*(c % 3+1))).d))→compL g ((List.range N).map fun (i:Nat)=>PyData.int (i:Int))=some (((List.range N).map fun (x:Nat)=>kd3 (c / 8+(x:Int)*(c % 3+1))).map Kd.d):=fun h=>by rw [List.map_map];exact p8 fun x _=>h x
 refine ⟨eKs ((List.range N).map fun (x:Nat)=>kd3 (c / 8+(x:Int)*(c % 3+1))),?_,_,rfl,by simpa using hN⟩;simp [g9,e,lim,hN2,hN3,eKs];rw [←List.map_map];exact hm fun x=>by simp [hs,M8]
noncomputable abbrev kf:Stmt:=top 60
noncomputable abbrev I34:Inf:=⟨5,"_law_task_of",["_law_script"]⟩
theorem zn:FnScope ["_law_script","_law_given","_law_rows","_law_spot"] I34.ps (defScope kf):=FS
theorem zo {fa fd} (F:Fu V I34 kf fa fd) (gb:Gb2 V.mg) (ed:Ox V I51 d9) {sj} (J28:Kn V I24 p9 g9 pg sj) (o5:Ox V I2e h9) {uw} (J2a:KnN V I3d rh iz k6 uw): ∃f,(∀p,lx p→ ∃q,f (dl p)=some q∧k7 p (.tuple [.list q.1,q.2]))∧Fz V I34 fa fd (spT V.K f):=by
 have sc:=zn;refine U1 (k:=4) F sc (fun p _=>rfl) (fun cdv A outer s H E hr=>Eo (fg (i:=1) sc.nd rfl (by trivial) (am J28.o (hr.mono (by decide)) rfl (aa (am ed (hr.mono (by decide)) rfl (aa (xv 0) (aa ad ac))) ac cy))) (Eo (nv (i:=2) sc.nd rfl (by trivial) (O0 J2a.o (hr.mono (by decide)) rfl (aa (db (xv 0) (dv ad) (dv ad)) (aa (xv 1) ac) cb))) (Eo (jn (Ab (lb (ai (ba hr.units) fx (ah cj d8 (am ed (hr.mono (by decide)) rfl (aa (xv 0) (aa ad ac))) ad) ad (nomark _)) (ik (ai (em hr.units) xh (xv 2) (az ac) (nomark _))))) (ao (Oq (i:=3) sc.nd rfl (by trivial) (ah cj d8 (am ed (hr.mono (by decide)) rfl (aa (xv 0) (aa ad ac))) (ax ce dw rfl gb.len PySem.boot_len (aa (xv 2) ac))))
   (bb (Ow (i:=2) (pv 2) (xv 3) (am o5 (hr.mono (by decide)) rfl (aa (am ed (hr.mono (by decide)) rfl (aa (xv 0) (aa ad ac))) (aa (ax ce dw rfl gb.len PySem.boot_len (aa (xv 2) ac)) ac cy) cy))))) gj) (S5 (pv 2) (pv 1))))) ?_
 intro ns hl;have hl:ns.length≤63:=hl;have c0:d9 [eScr ns,.int 0]=some (.int (cellT ns 0)):=gt hl (by omega) (by omega);have c1:d9 [eScr ns,.int 1]=some (.int (cellT ns 1)):=gt hl (by omega) (by omega);have c2:d9 [eScr ns,.int 2]=some (.int (cellT ns 2)):=gt hl (by omega) (by omega);have c3:d9 [eScr ns,.int 3]=some (.int (cellT ns 3)):=gt hl (by omega) (by omega);obtain ⟨g0,eg,given,rfl,hgl⟩:=J28.h (cellT ns 0) trivial;obtain ⟨r0,er,rs,rfl,hok,hrl⟩:=J2a.h (ns.drop 5,given) ⟨by show (ns.drop 5).length≤66;rw [List.length_drop];omega,hgl⟩;have hcut:=Eg hl;have hlen:(ns.drop 5).length≤100000:=by rw [List.length_drop];omega
 simp only [g9,eKs] at eg;simp only [iz,eInts,eKs,List.map_drop] at er;simp only [eScr] at c0 c1 c2 c3
 by_cases hx:cellT ns 1 % 2=1
 ·by_cases hr:rs=[]
  ·subst hr
   refine ⟨([],eKs given),?_,[],given,rfl,hok,by simp,hgl⟩;simp [pickT,dl,eScr,eKs,eRows,lim,c0,c1,eg,er,hcut,hx,deepOk]
  ·have hr0:0 < rs.length:=List.length_pos_iff.mpr hr
   have hre:rs.isEmpty=false:=by cases rs <;> simp at hr ⊢
   have c4:h9 [.int (cellT ns 3),.int (rs.length:Int)]=some (eRow (oddRowT (cellT ns 3) (rs.length:Int))):=if_pos (by omega);have hn:=Ef (C3 (cellT ns 3) (rs.length:Int));have m0:=Int.emod_nonneg (cellT ns 2) (show (rs.length:Int)≠0 by omega);have m1:=Int.emod_lt_of_pos (cellT ns 2) (show (0:Int) < (rs.length:Int) by omega);refine ⟨((rs.set (cellT ns 2 % (rs.length:Int)).toNat (oddRowT (cellT ns 3) (rs.length:Int))).map eRow,eKs given),?_,_,given,rfl,L5 hok (C3 _ _),by rw [length_set];exact hrl,hgl⟩;simp [pickT,dl,eScr,eKs,eRows,lim,c0,c1,c2,c3,c4,eg,er,hcut,hx,deepOk,hre,hr,hr0,hn,m0,m1,wu hok]
 ·have hx:(cellT ns 1 % 2==1)=false:=by simpa using hx
  refine ⟨(rs.map eRow,eKs given),?_,rs,given,rfl,hok,hrl,hgl⟩;simp [pickT,dl,eScr,eKs,eRows,lim,c0,c1,eg,er,hcut,hx]
noncomputable abbrev kh:Stmt:=top 61
noncomputable abbrev I29:Inf:=⟨1,"_law_pile_of",["_law_given","_law_cell"]⟩
theorem zp:FnScope ["_law_given","_law_cell","_law_pile","_law_k","_law_far","_law_things"] I29.ps (defScope kh):=FS
theorem zq {fa fd} (F:Fu V I29 kh fa fd) (gb:Gb2 V.mg):Rx V I29 fa fd r9 i4 k8:=by
 have sc:=zp;refine Ut (k:=0) F sc (fun p _=>rfl) (fun cdv A outer s H E hr=>(qt (Pg (i:=2) sc.nd rfl (by trivial) Sh)
   (qt (Sm (i:=3) PassesOwn.never rfl (kr rfl gb.range (aa (ax ce dw rfl gb.len PySem.boot_len (aa (xv 0) ac)) ac cy)) (jk sc.nd rfl (by trivial)) (qt (Sj (i:=4) sc.nd rfl (by trivial) (Us (ah cj d8 (ah vo Ci (ah cm gy (xv 1) (xv 3)) ad) (ah E6 Lf ad ad))))
   (qt (Ph (i:=5) sc.nd rfl (by trivial) (aj (az (aa (ah cm gy (ah ii pp (ah cj d8 (xv 1) ad) ad) (xv 3)) (aa (xv 4) (aa (ah ii pp ad (xv 4)) ac dn)) dn)) (ah cj d8 (xv 3) ad)))
   (qt (J6 (i:=5) (Ce hr) (pv 5) (ek (ba hr.units) fx (ah cj d8 (ah cm gy (xv 1) (xv 3)) ad) ad (nomark _)))
   (qt (J6 (i:=5) (Ce hr) (pv 5) (aj (az (aa af (aa af (aa (ah xk A8 af ad) ac dn)))) (ah cj d8 (ah cm gy (xv 1) (xv 3)) ad)))
   (J5 (Sk (i:=2) (pv 2) (Pf (i:=5) (Ce hr) (pv 5) (aj (xv 0) (xv 3))))))))))
   (J5 (Si (xv 2)))))) ?_
 rintro ⟨given,cell⟩ hg
 have hg:given.length≤100:=hg;have hp:(10:Int) ^ 30=1000000000000000000000000000000:=by decide+kernel
 have hsm:small 48271=true:=small_iff.mpr (by omega);refine Mb (given:=given) (cell:=cell) (by simp [i4,rhoP,lim]) ?_ (by intro x y z ps junk;simp [rhoP]) (C5 ?_ given.length 0 [] [] none none none (by simp) hg ⟨fun x hx=>(by cases hx),by simp,fun x hx=>(by cases hx)⟩)
 ·simp [rhoP,eKs]
  omega
 ·intro k g ps junk x y z hk hl
  have hk2:k < given.length:=(List.getElem?_eq_some_iff.mp hk).1;have ha:atD (given.map Kd.d) (k:Int)=some g.d:=by rw [eo (by simpa using hk2),getElem?_map,hk];rfl
  obtain ⟨a,ea⟩: ∃a,atD [PyData.int (cell % 9 - 4+(k:Int)),.int ((cell+(k:Int))*48271 % 1000000000000000000000000000000),.int (-((cell+(k:Int))*48271 % 1000000000000000000000000000000))] ((k:Int) % 3)=some (.int a):=by
   have h3:(k:Int) % 3=0∨(k:Int) % 3=1∨(k:Int) % 3=2:=by omega
   rcases h3 with h | h | h <;> rw [h] <;> simp
  obtain ⟨b,eb,hb,hb2⟩: ∃b,atD [PyData.str "",.str "x",.str (Txt.mul (Str.ofString "x") 40)] ((cell+(k:Int)) % 3)=some (.str b)∧PyData.strOk b=true∧b.length≤40:=by
   have h3:(cell+(k:Int)) % 3=0∨(cell+(k:Int)) % 3=1∨(cell+(k:Int)) % 3=2:=by omega
   rcases h3 with h | h | h <;> rw [h]
   ·exact ⟨_,rfl,by decide+kernel,by decide+kernel⟩
   ·exact ⟨_,rfl,by decide+kernel,by decide+kernel⟩
   ·exact ⟨_,rfl,by decide+kernel,by decide+kernel⟩
  have hl2:ps.length+1≤100000:=by omega
  have hu:(Str.ofString "x").length≤16:=by decide+kernel
  refine ⟨some (.sh (.int ((cell+(k:Int))*48271 % 10 ^ 30))),some (.ow (junk.length+1)),match g with | .number=> .int a | .truth=> .bool ((cell+(k:Int)) % 2==0) | .text=> .str b,.k [(Str.ofString "number",.int a),(Str.ofString "truth",.bool ((cell+(k:Int)) % 2==0)),(Str.ofString "text",.str b)],?_,?_,?_,?_⟩
  ·cases g <;> simp only [Kd.d,Kd.s] at ha <;> simp [rhoP,eKs,hsm,hp,ea,eb,ha,lim,hl2,hu,ar,aq]
  ·cases g <;> simp [thing,hb]
  ·cases g <;> simp [kindT]
  ·cases g <;> simp [sLen,hb2]
noncomputable abbrev ig:Stmt:=top 62
noncomputable abbrev I19:Inf:=⟨1,"_law_coming_of",["_law_cell"]⟩
theorem wo:FnScope ["_law_cell","_law_far","_law_numbers"] I19.ps (defScope ig):=FS
theorem wp {fa fd} (F:Fu V I19 ig fa fd) (gb:Gb2 V.mg):Rx V I19 fa fd pi fy m6:=by
 have sc:=wo;refine re (k:=0) F sc (fun p _=>rfl) (fun cdv A outer s H E hr=>(ae (ck (i:=1) sc.nd rfl (by trivial) (ah cj d8 (ah vo Ci (xv 0) ad) (ah E6 Lf ad ad)))
   (ae (ck (i:=2) sc.nd rfl (by trivial) (db (az (aa (ah ii pp (ah cj d8 (xv 0) ad) ad) (aa ad (aa ad (aa (de ad) (aa (xv 1) (aa (ah ii pp ad (xv 1)) (aa ad ac) dn)) Iy))) dn)) eh (dv (ah cj d8 (xv 0) ad))))
   (ag (ak (b5 (aa (xv 2) (aa (db (az (aa po (aa po (aa po ac)))) eh (dv (ah cj d8 (xv 0) ad))) (aa (db (az (aa af (aa af (aa af (aa (ah xk A8 af ad) ac dn))))) eh (dv (ah cj d8 (xv 0) ad))) ac cb) cb)))))))) ?_
 intro cell _;have hp:(10:Int) ^ 30=1000000000000000000000000000000:=by decide+kernel
 have hsm:small 48271=true:=small_iff.mpr (by omega);refine ⟨.tuple (Cm.l ⟨cutD [.int (cell % 7 - 3),.int 0,.int 1000000000000,.int (-1),.int (cell*48271 % 10 ^ 30),.int (0 - cell*48271 % 10 ^ 30),.int 7] none (some (cell % 8)),cutD [.bool true,.bool false,.bool true] none (some (cell % 4)),cutD [.str "u",.str "",.str "vw",.str (Txt.mul (Str.ofString "u") 40)] none (some (cell % 5))⟩),?_,_,rfl,?_,?_,?_,?_⟩
 ·have hu:(Str.ofString "u").length≤16:=by decide+kernel
  simp [fy,hsm,hp,lim,Cm.l,hu]
 ·intro x hx
  have hx:=Ek hx;simp only [mem_cons,not_mem_nil,or_false] at hx;rcases hx with rfl | rfl | rfl | rfl | rfl | rfl | rfl <;> exact ⟨_,rfl⟩
 ·intro x hx
  have hx:=Ek hx;simp only [mem_cons,not_mem_nil,or_false] at hx;rcases hx with rfl | rfl | rfl <;> exact ⟨_,rfl⟩
 ·intro x hx
  have hx:=Ek hx;simp only [mem_cons,not_mem_nil,or_false] at hx;rcases hx with rfl | rfl | rfl | rfl <;> exact ⟨_,rfl,by decide+kernel,by decide+kernel⟩
 ·exact ⟨Nat.le_trans El (by simp),Nat.le_trans El (by simp),Nat.le_trans El (by simp)⟩
noncomputable abbrev lm:Stmt:=top 63
noncomputable abbrev I3e:Inf:=⟨9,"_law_called",["_law_way","_law_rows","_law_given","_law_pile","_law_coming"]⟩
theorem By:FnScope ["_law_way","_law_rows","_law_given","_law_pile","_law_coming"] I3e.ps (defScope lm):=FS
theorem Bz {fa fd} (F:Fu V I3e lm fa fd) (gb:Gb2 V.mg) {CN CF CS:Addr} {g_looked} (j_looked:KJ V I50 CN RetO en1 bad1 g_looked) {g_run} (j_run:KJ V I55 CN RetO en2 bad2 g_run) {g_states} (j_states:KJ V I52 CN RetO en2 bad2 g_states) {g_table_stands} (j_table_stands:KJ V I26 CN RetO en3 bad1 g_table_stands) {g_fault_stands} (j_fault_stands:KJ V I1e CN RetO en4 bad1 g_fault_stands) {g_guarded} (j_guarded:KJ V I4f CN (Fine CF CS) en5 bad1 g_guarded): ∃g,(∀q,PreC q→ ∃o,g (encC q)=some o∧Out CN (Fine CF CS) (badW q) o)∧FnOk V.P V.w V.K V.mg V.base (CX1 V.P V.w) I3e.k fa fd I3e.ps (spR V.K g):=by
 have sc:=By;refine U6 (k:=8) F sc (fun p _=>rfl) (fun cdv A outer s H E hr=>(cv (C9 (ai (ba hr.units) fx (xv 0) ad (nomark _)) (cv (lz (ge j_looked.o (hr.mono (by decide)) rfl (aa (xv 1) (aa (xv 2) ac)))) gv) (cv (C9 (ai (ba hr.units) fx (xv 0) ad (nomark _)) (cv (lz (ge j_run.o (hr.mono (by decide)) rfl (aa (xv 1) (aa (xv 3) (aa (xv 4) (aa ad ac)))))) gv) (cv (C9 (ai (ba hr.units) fx (xv 0) ad (nomark _)) (cv (lz (ge j_states.o (hr.mono (by decide)) rfl (aa (xv 1) (aa (xv 3) (aa (xv 4) (aa ad ac)))))) gv) (cv (C9 (ai (ba hr.units) fx (xv 0) ad (nomark _)) (cv (lz (ge j_table_stands.o (hr.mono (by decide)) rfl (aa (xv 1) (aa (xv 2) (aa (lr rfl (lc (NB:=["_law_row"]) (fr:=[none]) rfl (by decide+kernel) rfl (by decide+kernel) rfl rfl rfl rfl) (lq (xv 1)) (ee (i:=0) rfl) (fun _ _ _ _ _=>gh (i:=0) (show List.Nodup (["_law_row"]:List Str) by decide+kernel) rfl (Or.inl rfl)) (fun _ _ _ _ _=>nj) (fun _ _ _ _ _=>jq)) ac))))) gv) (cv (C9 (ai (ba hr.units) fx (xv 0) ad (nomark _)) (cv (lz (ge j_fault_stands.o (hr.mono (by decide)) rfl (aa (xv 1) (aa (xv 2) (aa (b5 (aa af (aa (az (aa ad ac)) ac v0))) ac dj))))) gv) (cv (lz (ge j_guarded.o (hr.mono (by decide)) rfl (aa (xv 1) (aa (xv 2) (aa (xv 3) (aa (xv 4) (aa ad ac))))))) gv)) gv)) gv)) gv)) gv)) gv)) ?_
 rintro ⟨w,q⟩ ⟨hq,h0,h5⟩
 have h0:0≤w:=h0;have h5:w≤5:=h5;have hq:q.Ok:=hq;obtain ⟨l1,l2⟩:=hq.b.len;have hn2:q.b.rows.length≤lim:=by unfold lim;omega
 have hw:w=0∨w=1∨w=2∨w=3∨w=4∨w=5:=by omega
 have b1: ∀ {w:Int},w≠1→w≠2→badW (w,q)=bad1 q:=fun {w} n1 n2=>by
  unfold badW;rw [show (w==1)=false from beq_eq_false_iff_ne.mpr n1,show (w==2)=false from beq_eq_false_iff_ne.mpr n2,Bool.or_false,Bool.not_false,Bool.and_true]
 have b2: ∀ {w:Int},(w==1 || w==2)=true→badW (w,q)=bad2 q:=fun {w} n=>by
  unfold badW;rw [n,Bool.not_true,Bool.and_false,Bool.or_false]
 rcases hw with rfl | rfl | rfl | rfl | rfl | rfl
 ·rw [b1 (by decide) (by decide)]
  exact ng (seq_nilR.trans ((Kp (by kernel_rfl)).trans seq_nilR)) rfl (j_looked.h q hq) fun _ z=> .inl z
 ·rw [b2 rfl]
  exact ng (seq_nilR.trans ((sy (by kernel_rfl)).trans (seq_nilR.trans ((Kp (by kernel_rfl)).trans seq_nilR)))) rfl (j_run.h q hq) fun _ z=> .inl z
 ·rw [b2 rfl]
  exact ng (seq_nilR.trans ((sy (by kernel_rfl)).trans (seq_nilR.trans ((sy (by kernel_rfl)).trans (seq_nilR.trans ((Kp (by kernel_rfl)).trans seq_nilR)))))) rfl (j_states.h q hq) fun _ z=> .inl z
 ·rw [b1 (by decide) (by decide)]
  have nn: ∀ {ρ:Ren},compL (turnOf (gSet 0) (fun _=>some true) (fun _=>some PyData.none) (capS [none] ρ)) q.b.rows=some (q.b.rows.map fun _=> .none):=fun {ρ}=>by
   have:=p8 (c:=id) (q:=fun _=>PyData.none) (l:=q.b.rows) (g:=turnOf (gSet 0) (fun _=>some true) (fun _=>some PyData.none) (capS [none] ρ)) fun t ht=>rfl
   rwa [List.map_id] at this
  exact ng (seq_nilR.trans ((sy (by kernel_rfl)).trans (seq_nilR.trans ((sy (by kernel_rfl)).trans (seq_nilR.trans ((sy (by kernel_rfl)).trans (seq_nilR.trans ((Kp (by kernel_rfl)).trans seq_nilR)))))))) (bx rfl (bx rfl (bx (P3 nn hn2) rfl))) (j_table_stands.h q hq) fun _ z=> .inl z
 ·rw [b1 (by decide) (by decide)]
  exact ng (seq_nilR.trans ((sy (by kernel_rfl)).trans (seq_nilR.trans ((sy (by kernel_rfl)).trans (seq_nilR.trans ((sy (by kernel_rfl)).trans (seq_nilR.trans ((sy (by kernel_rfl)).trans (seq_nilR.trans ((Kp (by kernel_rfl)).trans seq_nilR)))))))))) rfl (j_fault_stands.h q hq) fun _ z=> .inl z
 ·rw [b1 (by decide) (by decide)]
  exact ng (seq_nilR.trans ((sy (by kernel_rfl)).trans (seq_nilR.trans ((sy (by kernel_rfl)).trans (seq_nilR.trans ((sy (by kernel_rfl)).trans (seq_nilR.trans ((sy (by kernel_rfl)).trans (seq_nilR.trans ((sy (by kernel_rfl)).trans (seq_nilR))))))))))) rfl (j_guarded.h q hq) fun _ z=>z
noncomputable abbrev ki:Stmt:=top 64
noncomputable abbrev I3b:Inf:=⟨10,"_law_refuses",["_law_way","_law_rows","_law_given","_law_pile","_law_coming"]⟩
theorem zr:FnScope ["_law_way","_law_rows","_law_given","_law_pile","_law_coming"] I3b.ps (defScope ki):=FS
theorem zt {fa fd} (F:Fu V I3b ki fa fd) (gb:Gb2 V.mg) {CG CN CF CS:Addr} (cx:Cx8 V CG CN CF CS) {g} (kc:KC V I3e CN CF CS g):Rx V I3b fa fd sd se qf:=by
 have sc:=zr;refine ⟨fOf PreC encC fun ds=>(g ds).map (refB CN),fun p hp=>?_,?_⟩
 ·obtain ⟨o,e,h⟩:=kc.h p hp
  exact ⟨_,by rw [Bj hp,e];rfl,Nm h (fun C z=>by rcases z with ⟨_,z⟩ | z | z <;> cases z;exact cx.ne.1;exact cx.ne.2.1)⟩
 obtain ⟨ga,gd,G,gm,gk,gbd⟩:=kc.o;refine Fun.ok F sc (fun vs H Q E h=>?_) (fun cdv A outer s H vs Q E hr h=>?_)
 ·obtain ⟨ds,d,i,e,_⟩:=h
  obtain ⟨p,_,rfl,_⟩:=dc e;rw [i.length];rfl
 obtain ⟨ds,d,i,e,q⟩:=h;obtain ⟨p,hp,rfl,e⟩:=dc e;obtain ⟨o,eg,ho⟩:=kc.h p hp;rw [eg] at e;cases e
 refine' ⟨_,js (S4 (Good:=fun C H'=>Same H H'∧o= .inr C) (Ret:=fun C R H'=>∀v H'',Same H' H''→Is V.K H'' v (refB CN (.inr C))→R v H'') rfl rfl ?_ (fun pins a C s1 D ok hh hR=>?_)) (jj (pq Gf)),?_,fun C H' z v H'' s'' i''=>?_⟩
 rotate_left
 ·intro pins
  refine' jj (kq (u7 G (hr.mono (by decide)) rfl gm gk gbd .nil (passesC (E:=fun _ C H'=>∀c,C=some c→Same H H'∧o= .inr c) rfl fun e C H' z=>z C rfl) (Vm (K:=V.K) rfl ?_)))
  rotate_left
  exact (aa (xv 0) (aa (xv 1) (aa (xv 2) (aa (xv 3) (aa (xv 4) ac)))))
 ·have hC:C=CN∨C=CF∨C=CS:=by
   obtain ⟨_,_,_,_,_,_,_,_,_,rfl⟩:=id hh;unfold Out at ho;split at ho
   ·cases ho;exact .inl rfl
   ·rcases ho with ⟨_,z⟩ | z | z <;> cases z
    ·exact .inr (.inl rfl)
    ·exact .inr (.inr rfl)
  rcases hC with z | z | z <;> replace z:=z.symm <;> subst z
  ·exact Bs (Ret:=fun R H'=>∀v H'',Same H' H''→Is V.K H'' v (refB CN (.inr CN))→R v H'') ok rfl cx.c.mN cx.xN cx.sNN hh hR (by rw [show refB CN (.inr CN)= .bool true from congrArg PyData.bool (decide_eq_true rfl)];exact fun oe=>⟨_,jj (pq Gf),fun R σ H z=>z (.bl true) H (Same.refl H) (.bl true)⟩)
  ·exact En rfl cx.c.mN cx.xN cx.sFN hh (Bs (Ret:=fun R H'=>∀v H'',Same H' H''→Is V.K H'' v (refB CN (.inr CF))→R v H'') ok rfl cx.c.mF cx.xF cx.sFF hh hR (by rw [show refB CN (.inr CF)= .bool false from congrArg PyData.bool (decide_eq_false cx.ne.1)];exact fun oe=>⟨_,jj (pq Gf),fun R σ H z=>z (.bl false) H (Same.refl H) (.bl false)⟩))
  ·exact En rfl cx.c.mN cx.xN cx.sSN hh (En rfl cx.c.mF cx.xF cx.sSF hh (Bs (Ret:=fun R H'=>∀v H'',Same H' H''→Is V.K H'' v (refB CN (.inr CS))→R v H'') ok rfl cx.c.mS cx.xS cx.sSS hh hR (by rw [show refB CN (.inr CS)= .bool false from congrArg PyData.bool (decide_eq_false cx.ne.2.1)];exact fun oe=>⟨_,jj (pq Gf),fun R σ H z=>z (.bl false) H (Same.refl H) (.bl false)⟩)))
 ·refine ⟨_,encC p,i.start _,rfl,fun vs' H1 s1 i1=>⟨encC p,o,by rw [append_nil];exact i1,eg,?_⟩⟩
  cases o with
  | inl d=>exact fun v H2 s2 i2=>q (.bl false) H2 (s1.trans s2) (.bl false)
  | inr C=>exact fun e H2 s2 c hc=>by cases hc;exact ⟨s1.trans s2,rfl⟩
 ·exact q v H'' (z.1.trans s'') (by rw [z.2];exact i'')
noncomputable abbrev du:Stmt:=top 65
noncomputable abbrev I11:Inf:=⟨7,"_law_refused_by_any",["_law_rows","_law_given"]⟩
theorem qk:FnScope ["_law_rows","_law_given","e","_law_kinds"] I11.ps (defScope du):=FS
theorem ql {fa fd} (F:Fu V I11 du fa fd) (gb:Gb2 V.mg) {CG CN CF CS:Addr} (cx:Cx8 V CG CN CF CS) {g} (kc:KJ V I50 CN RetO en1 bad1 g):Rx V I11 fa fd eu ji ij:=by
 have sc:=qk;refine ⟨fOf eu en1 fun ds=>(g ds).map (refB CN),fun p hp=>?_,?_⟩
 ·obtain ⟨o,e,h⟩:=kc.h p hp
  exact ⟨_,by rw [Bj hp,e];rfl,Nm h (fun C z=>by obtain ⟨_,z⟩:=z;cases z)⟩
 obtain ⟨ga,gd,G,gm,gk,gbd⟩:=kc.o.ex;refine Fun.ok F sc (fun vs H Q E h=>?_) (fun cdv A outer s H vs Q E hr h=>?_)
 ·obtain ⟨ds,d,i,e,_⟩:=h
  obtain ⟨p,_,rfl,_⟩:=dc e;rw [i.length];rfl
 obtain ⟨ds,d,i,e,q⟩:=h;obtain ⟨p,hp,rfl,e⟩:=dc e;obtain ⟨o,eg,ho⟩:=kc.h p hp;rw [eg] at e;cases e;have isN: ∀ {C H'},Same H H'∧o= .inr C→CN=C:=fun {C H'} z=>by
  unfold Out at ho;rw [z.2] at ho;split at ho
  ·cases ho;rfl
  ·obtain ⟨_,y⟩:=ho;cases y
 refine' ⟨_,js (Mg (i:=2) (G:=CG) (Good:=fun C H'=>Same H H'∧o= .inr C) (Ret:=fun C R H'=>∀v H'',Same H' H''→Is V.K H'' v (refB CN (.inr C))→R v H'') rfl rfl rfl sc.nd rfl rfl rfl cx.c.mG cx.c.g ?_ (fun C H' z=>?_) (fun pins a oe C H0 z rc=>?_)) (jj (pq Gf)),?_,fun C H' z v H'' s'' i''=>?_⟩
 rotate_left
 ·intro pins
  refine' jj (kq (u7 G (hr.mono (by decide)) rfl gm gk gbd .nil (passesC (E:=fun _ C H'=>∀c,C=some c→Same H H'∧o= .inr c) rfl fun e C H' z=>z C rfl) (Vm (K:=V.K) rfl ?_)))
  rotate_left
  exact (aa (xv 0) (aa (xv 1) ac))
 ·have z:=isN z
  subst z;exact cx.sNG
 ·have z:=isN z
  subst z;refine ⟨_,js (je (i:=3) sc.nd rfl (Or.inl rfl) (K2 Hl (pw tm rfl gb.int boot_int (cw (ni (wv (cV:=(.ref CN)) (c:=(.ref CN)) (mem_cons_self) rc cx.xN cx.c.hn cx.c.ht (fun u z=>z) cx.kN) rfl gb.isi boot_isinstance (cw (pv 2) (cw (so rfl cx.c.mN (show RelV (.ref CN) _ from rfl)) fh))) fh)) (pw tm rfl gb.int boot_int (cw (ni (wv (cV:=(.ref CF)) (c:=(.ref CF)) (mem_cons_self) rc cx.xN cx.c.hn cx.c.ht (fun u z=>z) cx.kF) rfl gb.isi boot_isinstance (cw (pv 2) (cw (so rfl cx.c.mF (show RelV (.ref CF) _ from rfl)) fh))) fh)))) (js (je (i:=3) sc.nd rfl (Or.inl rfl) (K2 Hl (pv 3) (pw tm rfl gb.int boot_int (cw (ni (wv (cV:=(.ref CS)) (c:=(.ref CS)) (mem_cons_self) rc cx.xN cx.c.hn cx.c.ht (fun u z=>z) cx.kS) rfl gb.isi boot_isinstance (cw (pv 2) (cw (so rfl cx.c.mS (show RelV (.ref CS) _ from rfl)) fh))) fh)))) (jj (pq (Ms (V0 (ek (ba hr.units) fx (xv 3) ad (nomark _))) (Mr (ni (wv (cV:=(.ty "ValueError")) (c:=(.type "ValueError")) (mem_cons_self) rc cx.xN cx.c.hn cx.c.ht (fun u z=>z) cx.kV) rfl gb.isi boot_isinstance (cw (pv 2) (cw (Ax rfl cx.c.mV (by decide+kernel) (show RelV (.ty "ValueError") _ from rfl)) fh)))))))),fun R σ H1 hR hlen hσ=>?_⟩;have hl:σ.length=4:=hlen;have g2: ∀ {x:L2.V} {σ:L2.St},σ[2]?=some (some (.ref a))→(σ.set 3 (some x))[2]?=some (some (.ref a)):=fun {x σ} y=>by rw [getElem?_set_ne (by decide)];exact y
  have g3: ∀ {x:L2.V} {σ:L2.St},σ.length=4→(σ.set 3 (some x))[3]?=some (some x):=fun {x σ} y=>getElem?_set_self (by rw [y];decide);have l3: ∀ {x:L2.V} {σ:L2.St},σ.length=4→(σ.set 3 (some x)).length=4:=fun {x σ} y=>by rw [length_set];exact y
  refine ⟨_,hσ,rfl,.inr ⟨_,rfl,_,hσ,rfl,.inr ⟨_,rfl,1,0,rfl,rfl,_,g3 hl,_,g2 hσ,rfl,.inr ⟨_,rfl,1,0,rfl,rfl,?_⟩⟩⟩⟩;refine ⟨_,.bool true,S2 (n:=4) (l3 (l3 hl)) (g3 (l3 hl)) (.int _),by kernel_rfl,fun v H2 s2 i2=>?_⟩;cases i2;refine ⟨true,rfl,iteT ⟨_,g2 (g2 hσ),rfl,hR _ H2 s2 ?_⟩⟩;rw [show refB CN (.inr CN)= .bool true from congrArg PyData.bool (decide_eq_true rfl)];exact .bl true
 ·refine ⟨_,en1 p,i.start _,rfl,fun vs' H1 s1 i1=>⟨en1 p,o,by rw [append_nil];exact i1,eg,?_⟩⟩
  cases o with
  | inl d=>exact fun v H2 s2 i2=>q (.bl false) H2 (s1.trans s2) (.bl false)
  | inr C=>exact fun e H2 s2 c hc=>by cases hc;exact ⟨s1.trans s2,rfl⟩
 ·exact q v H'' (z.1.trans s'') (by rw [z.2];exact i'')
noncomputable abbrev Kw:Stmt:=top 66
noncomputable abbrev I56:Inf:=⟨11,"law",["_law_script"]⟩
theorem Tb:FnScope ["_law_script","_law_rows","_law_given","_law_pile","_law_coming","_law_bad","_law_signs","_law_sign","_law_odd","_law_spot","_law_way","_law_due","_law_ones","_law_others","_law_handed","_law_parts"] I56.ps (defScope Kw):=FS
theorem Tc {fa fd} (F:Fu V I56 Kw fa fd) (gb:Gb2 V.mg) {pb} (J2b:KnT V I34 lx dl k7 pb) (ed:Ox V I51 d9) {qm} (J1d:Kn V I19 pi fy m6 qm) {uz} (J2c:Kn V I29 r9 i4 k8 uz) {jr} (J12:Kn V I11 eu ji ij jr) {u5} (J33:Kn V I3b sd se qf u5) (qz:Ox V I49 gr):Fz V I56 fa fd (spX V.K Ea):=by
 have sc:=Tb;refine Tn (k:=10) F sc (by intro ds d h;obtain ⟨ns,rfl,_⟩:=Am h;rfl) (fun cdv A outer s H E hr=>(ao (Qb rfl (Qa J2b.o (hr.mono (by decide)) rfl (aa (xv 0) ac)) (jk (i:=1) sc.nd rfl (by trivial)) (jk (i:=2) sc.nd rfl (by trivial)))
   (ao (fg (i:=3) sc.nd rfl (by trivial) (am J2c.o (hr.mono (by decide)) rfl (aa (xv 2) (aa (am ed (hr.mono (by decide)) rfl (aa (xv 0) (aa ad ac))) ac cy))))
   (ao (fg (i:=4) sc.nd rfl (by trivial) (am J1d.o (hr.mono (by decide)) rfl (aa (am ed (hr.mono (by decide)) rfl (aa (xv 0) (aa ad ac))) ac cy)))
   (ao (fg (i:=5) sc.nd rfl (by trivial) (ah cj d8 (ah jl wd (am ed (hr.mono (by decide)) rfl (aa (xv 0) (aa ad ac))) ad) ad))
   (ao (jn (ai (ba hr.units) fx (xv 5) ad (nomark _)) (ao (fg (i:=6) sc.nd rfl (by trivial) af)
   (ao (fg (i:=7) sc.nd rfl (by trivial) (aj (xv 6) (ah cj d8 (ah jl wd (am ed (hr.mono (by decide)) rfl (aa (xv 0) (aa ad ac))) ad) ad)))
   (ao (fg (i:=8) sc.nd rfl (by trivial) (aj (az (aa af (aa af (aa af (aa (xv 7) ac))))) (ah cj d8 (am ed (hr.mono (by decide)) rfl (aa (xv 0) (aa ad ac))) ad)))
   (bb (Je (i:=1) (pv 1) (aa (ah cj d8 (am ed (hr.mono (by decide)) rfl (aa (xv 0) (aa ad ac))) (ah cm gy (ax ce dw rfl gb.len PySem.boot_len (aa (xv 1) ac)) ad)) (aa (b5 (aa af (aa (xv 8) ac))) ac dj) dn)))))) gj)
   (ao (jn (ai (ba hr.units) fx (xv 5) ad (nomark _)) (ao (fg (i:=9) sc.nd rfl (by trivial) (ah cj d8 (am ed (hr.mono (by decide)) rfl (aa (xv 0) (aa ad ac))) (ah cm gy (ax ce dw rfl gb.len PySem.boot_len (aa (xv 2) ac)) ad)))
   (bb (fg (i:=2) sc.nd rfl (by trivial) (ah cm gy (ah cm gy (db (xv 2) eh (dv (xv 9))) (az (aa af ac))) (db (xv 2) (dv (xv 9)) eh))))) gj)
   (U2 (ae (cg (ai (em hr.units) xh (am J12.o (hr.mono (by decide)) rfl (aa (dh b9 mv rfl gb.list boot_list (aa (xv 1) ac)) (aa (dh b9 mv rfl gb.list boot_list (aa (xv 2) ac)) ac cy) cy)) (ek K3 su (xv 5) ad (nomark _)) (nomark _)) (ag (ak po)) au)
   (ae (Ih PassesOwn.never rfl (kr rfl gb.range (aa ad ac)) (gh (i:=10) sc.nd rfl (by trivial)) (ae (ck (i:=11) sc.nd rfl (by trivial) (N7 (ek (ba hr.units) fx (xv 5) ad (nomark _)) (vq (Cg (ek (ba hr.units) fx (xv 5) ad (nomark _)) (vq (ek (xi hr.units) xb (xv 10) (az (aa ad (aa ad ac))) (by with_unfolding_all rfl)))))))
   (ae (ck (i:=12) sc.nd rfl (by trivial) (dh b9 mv rfl gb.list boot_list (aa (xv 1) ac)))
   (ae (ck (i:=13) sc.nd rfl (by trivial) (dh b9 mv rfl gb.list boot_list (aa (xv 2) ac)))
   (ae (ck (i:=14) sc.nd rfl (by trivial) (dh b9 mv rfl gb.list boot_list (aa (xv 3) ac)))
   (ae (ck (i:=15) sc.nd rfl (by trivial) (b5 (aa (dh b9 mv rfl gb.list boot_list (aa (aj (xv 4) ad) ac cb)) (aa (dh b9 mv rfl gb.list boot_list (aa (aj (xv 4) ad) ac cb)) (aa (dh b9 mv rfl gb.list boot_list (aa (aj (xv 4) ad) ac cb)) ac cy) cy) cy)))
   (ae (cg (ai (em hr.units) xh (am J33.o (hr.mono (by decide)) rfl (aa (xv 10) (aa (xv 12) (aa (xv 13) (aa (xv 14) (aa (xv 15) ac)))))) (xv 11) (nomark _)) (ag (ak po)) au)
   (ae (cg (Ac (fc (am qz (hr.mono (by decide)) rfl (aa (az (aa (xv 12) (aa (xv 13) ac))) (aa (az (aa (xv 1) (aa (xv 2) ac))) ac v0) v0)) (fun _=>rfl))) (ag (ak po)) au)
   (ag (cg (Ac (fc (am qz (hr.mono (by decide)) rfl (aa (az (aa (xv 14) (aa (xv 15) ac))) (aa (az (aa (xv 3) (aa (xv 4) ac))) ac v0) v0)) (fun _=>rfl))) (ag (ak po)) au))))))))))
   (ag (ak po)))))))))))) ?_
 intro ds d h;obtain ⟨ns,rfl,hl,rfl⟩:=Am h;clear h;obtain ⟨⟨R0,G0⟩,e1,rs,ks,eq,hok,hrl,hkl⟩:=J2b.h ns hl;obtain ⟨rfl,rfl⟩:R0=rs.map eRow∧G0=eKs ks:=by simpa [eRows] using eq
 clear eq;have c1:d9 [eScr ns,.int 1]=some (.int (cellT ns 1)):=gt hl (by omega) (by omega);have c2:d9 [eScr ns,.int 2]=some (.int (cellT ns 2)):=gt hl (by omega) (by omega);have c3:d9 [eScr ns,.int 3]=some (.int (cellT ns 3)):=gt hl (by omega) (by omega);have c4:d9 [eScr ns,.int 4]=some (.int (cellT ns 4)):=gt hl (by omega) (by omega);obtain ⟨d5,e5,ps,rfl,hT,hK,h40⟩:=J2c.h (ks,cellT ns 4) (show ks.length≤100 by omega);obtain ⟨d6,e6,c,rfl,hC⟩:=J1d.h (cellT ns 3) trivial;have hpl:ps.length≤41:=by
  have:=congrArg List.length hK
  simp at this;omega
 simp only [dl] at e1;simp only [i4,fy] at e5 e6;have hb:cellT ns 1 / 2 % 3=0∨cellT ns 1 / 2 % 3=1∨cellT ns 1 / 2 % 3=2:=by omega
 generalize hbe:cellT ns 1 / 2 % 3=b at hb;refine oS (oP (ms:=fun ρ=>_) e1) (oS (oC (c6 (bx rfl (bx (c6 rfl c4) rfl)) e5)) (oS (oC (c6 (bx (c6 rfl c3) rfl) e6)) (oS (oC (d:= .int b) (by simp [c1,hbe])) ?_)));refine o2E (α:=Pz×Option Sl×Option Sl×Option Sl×Option Sl) (f:=fun x=> [some (.sh (eScr ns)),some (.ow x.1.b.rows),some (.sh (enG x.1)),some (.sh (.list x.1.p)),some (.sh (.tuple x.1.c.l)),some (.sh (.int b)),x.2.1,x.2.2.1,x.2.2.2.1,x.2.2.2.2,none,none,none,none,none,none]) (P:=fun x=>x.1.Ok∧bad1 x.1=decide (0 < b)∧ ∀w,badW (w,x.1)=(decide (b=1) || (decide (b=2) && !(w==1 || w==2)))) ?_ ?_
 ·rcases hb with rfl | rfl | rfl
  ·refine ⟨(⟨⟨rs,none,[],ks,none,[]⟩,ps,c⟩,none,none,none,none),_,ioF rfl,?_,⟨⟨by simpa using hok,by simp;omega,by simp;omega,(fun x z=>nomatch z),(fun x z=>nomatch z)⟩,hT,hpl,h40,hC⟩,rfl,fun w=>rfl⟩
   have er:(⟨rs,none,[],ks,none,[]⟩:Bd).rows=rs.map eRow:=by simp [Bd.rows]
   have eg:(⟨rs,none,[],ks,none,[]⟩:Bd).giv=ks.map Kd.d:=by simp [Bd.giv]
   unfold enG;rw [er,eg];exact ioF rfl
  ·obtain ⟨y,z,hy,hz,ho⟩:=Ml (cellT ns 3)
   have m0:=Int.emod_nonneg (cellT ns 2) (show (rs.length:Int)+1≠0 by omega);have m1:=Int.emod_lt_of_pos (cellT ns 2) (show (0:Int) < (rs.length:Int)+1 by omega);have hp0:(0:Int) < (rs.length:Int)+1:=by omega
   generalize hs:cellT ns 2 % ((rs.length:Int)+1)=sp at m0 m1;refine ⟨(⟨⟨rs.take sp.toNat,some z,rs.drop sp.toNat,ks,none,[]⟩,ps,c⟩,some (.sh signs8),some (.sh (.str y)),some (.sh (.str z)),none),_,ioT (oS (oC (d:=signs8) rfl) (oS (oC ((jo (a:=signs8) (b:= .int (cellT ns 3 / 4 % 40)) rfl (by simp [c3])).trans hy)) (oS (oC ((jo (b:= .int (cellT ns 3 % 4)) rfl (by simp [c3])).trans hz)) (oI (ds:=rs.map eRow) (k:=sp) (d:=tkD z) rfl (bx (by simp [c2,hp0,hs]) rfl) m0 (by rw [length_map];omega) (by rw [length_map];unfold lim;omega) rfl)))),?_,⟨⟨by simpa using hok,by simp;omega,by simp;omega,fun x e=>by cases e;exact ho,fun x e=>nomatch e⟩,hT,hpl,h40,hC⟩,rfl,fun w=>rfl⟩;have er:(⟨rs.take sp.toNat,some z,rs.drop sp.toNat,ks,none,[]⟩:Bd).rows=(rs.map eRow).take sp.toNat++tkD z::(rs.map eRow).drop sp.toNat:=by simp [Bd.rows,List.map_take,List.map_drop]
   have eg:(⟨rs.take sp.toNat,some z,rs.drop sp.toNat,ks,none,[]⟩:Bd).giv=ks.map Kd.d:=by simp [Bd.giv]
   unfold enG;rw [er,eg];exact ioF rfl
  ·have m0:=Int.emod_nonneg (cellT ns 2) (show (ks.length:Int)+1≠0 by omega)
   have m1:=Int.emod_lt_of_pos (cellT ns 2) (show (0:Int) < (ks.length:Int)+1 by omega);have hp0:(0:Int) < (ks.length:Int)+1:=by omega
   generalize hs:cellT ns 2 % ((ks.length:Int)+1)=sp at m0 m1;have q1:=Sz (xs:=ks.map Kd.d) m0;have q2:=Me (xs:=ks.map Kd.d) m0;have z1:min sp.toNat ks.length+1≤100000:=by omega
   have z2:min sp.toNat ks.length+1+(ks.length - sp.toNat)≤100000:=by omega
   refine ⟨(⟨⟨rs,none,[],ks.take sp.toNat,some (Str.ofString "kind"),ks.drop sp.toNat⟩,ps,c⟩,none,none,none,some (.sh (.int sp))),_,ioF rfl,?_,⟨⟨by simpa using hok,by simp;omega,by simp;omega,(fun x e=>nomatch e),fun x e=>by cases e;decide+kernel⟩,hT,hpl,h40,hC⟩,rfl,fun w=>rfl⟩;have er:(⟨rs,none,[],ks.take sp.toNat,some (Str.ofString "kind"),ks.drop sp.toNat⟩:Bd).rows=rs.map eRow:=by simp [Bd.rows]
   have eg:(⟨rs,none,[],ks.take sp.toNat,some (Str.ofString "kind"),ks.drop sp.toNat⟩:Bd).giv=(ks.map Kd.d).take sp.toNat++[.str "kind"]++(ks.map Kd.d).drop sp.toNat:=by simp [Bd.giv,List.map_take,List.map_drop]
   unfold enG;rw [er,eg];refine ioT (oS (oC (d:= .int sp) ?_) (oC ?_))
   ·simp [c2,hp0,hs,eKs]
   ·simp [eKs,q1,q2,lim,z1,z2]
 rintro ⟨q,o6,o7,o8,o9⟩ ⟨hq,hb1,hbW⟩
 have hq:q.Ok:=hq;have hb1:bad1 q=decide (0 < b):=hb1;have hbW: ∀w,badW (w,q)=(decide (b=1) || (decide (b=2) && !(w==1 || w==2))):=hbW;obtain ⟨dA,eA,qA⟩:=J12.h q hq;rw [show dA=_ from qA,hb1] at eA;obtain ⟨l1,l2⟩:=hq.b.len;refine oR (sf ?_ (k9 ((jo (c6 (bx (d:=enR q) rfl (bx (d:=enG q) rfl rfl)) eA) (b:= .bool (decide (0 < b))) ?_).trans ?_)))
 rotate_left
 ·rfl
 ·cases decide (0 < b) <;> rfl
 refine P1 (items:=[.int 0,.int 1,.int 2,.int 3,.int 4,.int 5]) (by kernel_rfl) (P:=fun ρ=>∃a1 a2 a3 a4 a5 a6,ρ=[some (eScr ns),some (enR q),some (enG q),some (.list q.p),some (.tuple q.c.l),some (.int b),o6.bind Sl.allD,o7.bind Sl.allD,o8.bind Sl.allD,o9.bind Sl.allD,a1,a2,a3,a4,a5,a6]) ⟨_,_,_,_,_,_,rfl⟩ ?_ (by rintro ρ ⟨_,_,_,_,_,_,rfl⟩;rfl)
 rintro x hx ρ ⟨a1,a2,a3,a4,a5,a6,rfl⟩
 obtain ⟨w,rfl,hw⟩: ∃w:Int,x= .int w∧(w=0∨w=1∨w=2∨w=3∨w=4∨w=5):=by
  simp only [mem_cons,not_mem_nil,or_false] at hx;rcases hx with rfl | rfl | rfl | rfl | rfl | rfl <;> exact ⟨_,rfl,by decide⟩
 obtain ⟨dR,eR,qR⟩:=J33.h (w,q) ⟨hq,by show 0≤w;omega,by show w≤5;omega⟩;rw [show dR=_ from qR,hbW] at eR;simp only [encC] at eR;have ne: ∀t:Bool,neB (.bool t) (.bool t)=some (.bool false):=fun t=>by cases t <;> rfl
 refine ⟨_,_,rfl,sq (dq (d:= .bool (decide (b=1) || (decide (b=2) && !(w==1 || w==2)))) ?_) (sq (dq (d:=enR q) rfl) (sq (dq (d:=enG q) rfl) (sq (dq (d:= .list q.p) rfl) (sq (dq (d:= .tuple q.c.l) rfl) (sf (sf (Kb (Nc (c6 rfl hq.same2)) rfl) (Nc (c6 rfl hq.same1))) (k9 ((jo (c6 rfl eR) rfl).trans (ne _)))))))),_,_,_,_,_,_,rfl⟩;rcases hb with rfl | rfl | rfl <;> rcases hw with rfl | rfl | rfl | rfl | rfl | rfl <;> kernel_rfl
end
end RZ
end
set_option maxHeartbeats 4000000
namespace RH
open PySem PySem.W PyProof.Rows PySem.Calls L2
noncomputable def bootT (P:Params):BT:=growT (boot_heap P).objs.toList 0 .nil
theorem Qh (P:Params):boot_heap P=absHeap (bootT P) 11 {}:=by kernel_rfl
theorem Td (w:World):((boot_heap w.params).isNs mainGlobals,(boot_heap w.params).nsMap mainGlobals "__annotations__")=(true,some (.ref 6)):=by kernel_rfl
noncomputable def xa (L:List Str) (i:Nat):Str:=L.getD i ⟨⟨[]⟩⟩
noncomputable def tp (p:Program) (i:Nat):Stmt:=p.main.body.getD i (.Pass ⟨0,0,0,0⟩)
noncomputable abbrev fdO (nm:Str) (st:Stmt) (m:Value) (cd:Addr):FuncData:=fnOf nm nm (defArgs st) (defBody st) (defScope st) .none .none .none m none (.ref cd) .none
noncomputable abbrev fnO (nm:Str) (st:Stmt) (m:Value) (cd:Addr):Obj:=⟨.type "function",none,.func (fdO nm st m cd),#[]⟩
noncomputable def cdO (nm:Str) (t1 t2:Nat) (fl:Str) (t3 line argc r0 r1:Nat) (a b:Value) (r2 t4 t5:Nat):Obj:=
 ⟨.type "code",none,.fields #[.str nm t1,.str nm t2,.str fl t3,.int line 0,.int argc 0,.int 0 0,.int 0 0,.int 3 0,.ref r0,.bool true,.int 181 0,.ref r1,.none,a,b,.ref r2,.int t4 0,.int line 0,.str fl t5],#[]⟩
noncomputable def enO (P:Params) (k:Str) (t:Nat) (v:Value):DictEntry:=⟨PyData.keyHash P k,.str k t,v⟩
theorem fm {K:Frag} {nm:Str} {st:Stmt} {m:Value} {cd f:Addr} (l:K.lookup f=some (fnO nm st m cd)) (c:codeIn K (.ref cd) nm=true) (k:keepIn K (.ref f)=true):Fun K nm nm st f (fdO nm st m cd):=Q7 l c k
theorem Te {l:List Nat} (h:(l.all fun n=>Nat.blt n 55296)=true):Str.ofString (String.ofList (l.map Char.ofNat))=⟨⟨l⟩⟩:=by
 rw [PySem.W.Fast.ofString_ofList,List.map_map]
 have:l.map (Char.toNat∘Char.ofNat)=l:=by
  conv=>rhs;rw [←List.map_id l]
  refine List.map_congr_left fun n hn=>?_
  have h2:=Nat.le_of_ble_eq_true (List.all_eq_true.mp h n hn)
  show (Char.ofNat n).toNat=n
  have v:n.isValidChar:=Or.inl h2;unfold Char.ofNat;rw [dif_pos v]
  show (UInt32.ofNatLT n _).toNat=n
  simp
 rw [this]
theorem Qi: ∀L:List (List Nat),(L.all fun l=>l.all fun n=>Nat.blt n 55296)=true→(L.map fun l=>Str.ofString (String.ofList (l.map Char.ofNat)))=L.map fun l=>(⟨⟨l⟩⟩:Str):=fun L h=>List.map_congr_left fun l hl=>Te (List.all_eq_true.mp h l hl)
end RH
namespace RZ
open PySem PySem.W PyProof.Rows PySem.Calls RH L2
noncomputable def keepL:List Nat:=[1,2,3,4,6,7,8,9,10,11,12,13,14,15,16,17,19,20,21,22,24,25,26,27,29,30,31,32,33,34,35,36,37,38,39,41,43,44,45,46,48,49,50,51,52,53,54,55,56,57,58,59,60,61,62,63,64,65,66]
noncomputable def KF (x:Nat→Str) (p:Program) (P:Params):Frag:=[(3,⟨.type "dict",none,.dict #[enO P (x 0) 165 (.str (x 1) 602),enO P (x 2) 166 .none,enO P (x 3) 167 .none,enO P (x 4) 168 (.builtin "__main__.__loader__#opaque"),enO P (x 5) 169 .none,enO P (x 6) 170 (.ref 6),enO P (x 7) 171 (.ref 4),enO P (x 8) 173 (.str (x 9) 172),enO P (x 10) 174 .none,enO P (x 11) 206 (.ref 24),enO P (x 12) 222 (.ref 37),enO P (x 13) 238 (.ref 49),enO P (x 14) 254 (.ref 61),enO P (x 15) 260 (.ref 64),enO P (x 16) 297 (.ref 65),enO P (x 17) 313 (.ref 80),enO P (x 18) 320 (.ref 87),enO P (x 19) 326 (.ref 92),enO P (x 20) 332 (.ref 97),enO P (x 21) 340 (.ref 104),enO P (x 22) 347 (.ref 111),enO P (x 23) 355 (.ref 118),enO P (x 24) 361 (.ref 123),enO P (x 25) 369 (.ref 130),enO P (x 26) 378 (.ref 137),enO P (x 27) 390 (.ref 144),enO P (x 28) 399 (.ref 151),enO P (x 29) 408 (.ref 158),enO P (x 30) 414 (.ref 163),enO P (x 31) 429 (.ref 170),enO P (x 32) 441 (.ref 177),enO P (x 33) 447 (.ref 182),enO P (x 34) 453 (.ref 187),enO P (x 35) 458 (.ref 188),enO P (x 36) 471 (.ref 195),enO P (x 37) 484 (.ref 202),enO P (x 38) 490 (.ref 207),enO P (x 39) 498 (.ref 214),enO P (x 40) 510 (.ref 221),enO P (x 41) 519 (.ref 228),enO P (x 42) 525 (.ref 233),enO P (x 43) 535 (.ref 240),enO P (x 44) 544 (.ref 247),enO P (x 45) 553 (.ref 254),enO P (x 46) 569 (.ref 261),enO P (x 47) 577 (.ref 266),enO P (x 48) 583 (.ref 271),enO P (x 49) 589 (.ref 276),enO P (x 50) 601 (.ref 283),enO P (x 51) 610 (.ref 290),enO P (x 52) 618 (.ref 297),enO P (x 53) 630 (.ref 304),enO P (x 54) 637 (.ref 311),enO P (x 55) 645 (.ref 318),enO P (x 56) 654 (.ref 325),enO P (x 57) 664 (.ref 332),enO P (x 58) 673 (.ref 339),enO P (x 59) 679 (.ref 344),enO P (x 60) 694 (.ref 351),enO P (x 61) 704 (.ref 358),enO P (x 62) 710 (.ref 363),enO P (x 63) 720 (.ref 370),enO P (x 64) 732 (.ref 377),enO P (x 65) 741 (.ref 384),enO P (x 66) 747 (.ref 389),enO P (x 67) 758 (.ref 396),enO P (x 68) 768 (.ref 403),enO P (x 69) 790 (.ref 410)] 68,#[]⟩),
 (23,⟨(.type "dict"),none,.dict #[enO P (x 94) 196 (.str (x 95) 187),enO P (x 96) 200 (.int 2 199),enO P (x 97) 201 (.ref 22),enO P (x 98) 203 (.ref 25),enO P (x 2) 204 .none] 3,#[]⟩),
 (24,⟨(.type "type"),none,.cls ⟨(x 11),[(.type "ValueError")],[(.ref 24),(.type "ValueError"),(.type "Exception"),(.type "BaseException"),(.type "object")],23,(x 11),true,[],[(.ref 37),(.ref 49),(.ref 61)],false,none,false⟩,#[some (.ref 15),none,some (.str (x 11) 189),some (.str (x 11) 197),some (.builtin "ValueError.__new__"),some (.bool true)]⟩),
 (36,⟨(.type "dict"),none,.dict #[enO P (x 94) 214 (.str (x 95) 187),enO P (x 96) 218 (.int 4 217),enO P (x 97) 219 (.ref 35),enO P (x 2) 220 .none] 2,#[]⟩),
 (37,⟨(.type "type"),none,.cls ⟨(x 12),[(.ref 24)],[(.ref 37),(.ref 24),(.type "ValueError"),(.type "Exception"),(.type "BaseException"),(.type "object")],36,(x 12),true,[],[],false,none,false⟩,#[some (.ref 28),none,some (.str (x 12) 207),some (.str (x 12) 215),some (.builtin "ValueError.__new__"),some (.bool true)]⟩),
 (48,⟨(.type "dict"),none,.dict #[enO P (x 94) 230 (.str (x 95) 187),enO P (x 96) 234 (.int 6 233),enO P (x 97) 235 (.ref 47),enO P (x 2) 236 .none] 2,#[]⟩),
 (49,⟨(.type "type"),none,.cls ⟨(x 13),[(.ref 24)],[(.ref 49),(.ref 24),(.type "ValueError"),(.type "Exception"),(.type "BaseException"),(.type "object")],48,(x 13),true,[],[],false,none,false⟩,#[some (.ref 40),none,some (.str (x 13) 223),some (.str (x 13) 231),some (.builtin "ValueError.__new__"),some (.bool true)]⟩),
 (60,⟨(.type "dict"),none,.dict #[enO P (x 94) 246 (.str (x 95) 187),enO P (x 96) 250 (.int 8 249),enO P (x 97) 251 (.ref 59),enO P (x 2) 252 .none] 2,#[]⟩),
 (61,⟨(.type "type"),none,.cls ⟨(x 14),[(.ref 24)],[(.ref 61),(.ref 24),(.type "ValueError"),(.type "Exception"),(.type "BaseException"),(.type "object")],60,(x 14),true,[],[],false,none,false⟩,#[some (.ref 52),none,some (.str (x 14) 239),some (.str (x 14) 247),some (.builtin "ValueError.__new__"),some (.bool true)]⟩),
 (64,⟨(.type "tuple"),none,.seq #[(.str (x 90) 257),(.str (x 92) 258),(.str (x 91) 259)] 0,#[]⟩),
 (65,⟨(.type "dict"),none,.dict #[enO P (x 76) 261 (.ref 66),enO P (x 77) 262 (.ref 67),enO P (x 78) 263 (.ref 68),enO P (x 79) 266 (.ref 69),enO P (x 80) 269 (.ref 70),enO P (x 81) 272 (.ref 71),enO P (x 82) 274 (.ref 72),enO P (x 83) 275 (.ref 73),enO P (x 84) 276 (.ref 74),enO P (x 85) 277 (.ref 75),enO P (x 86) 278 (.ref 76),enO P (x 87) 279 (.ref 77),enO P (x 88) 280 (.ref 78),enO P (x 89) 282 (.ref 79)] 14,#[]⟩),
 (66,⟨(.type "tuple"),none,.seq #[] 0,#[]⟩),
 (67,⟨(.type "tuple"),none,.seq #[] 0,#[]⟩),
 (68,⟨(.type "tuple"),none,.seq #[(.str (x 90) 264),(.str (x 90) 265)] 0,#[]⟩),
 (69,⟨(.type "tuple"),none,.seq #[(.str (x 90) 267),(.str (x 90) 268)] 0,#[]⟩),
 (70,⟨(.type "tuple"),none,.seq #[(.str (x 91) 270),(.str (x 91) 271)] 0,#[]⟩),
 (71,⟨(.type "tuple"),none,.seq #[(.str (x 92) 273)] 0,#[]⟩),
 (72,⟨(.type "tuple"),none,.seq #[.none,.none] 0,#[]⟩),
 (73,⟨(.type "tuple"),none,.seq #[] 0,#[]⟩),
 (74,⟨(.type "tuple"),none,.seq #[.none] 0,#[]⟩),
 (75,⟨(.type "tuple"),none,.seq #[.none,.none] 0,#[]⟩),
 (76,⟨(.type "tuple"),none,.seq #[.none] 0,#[]⟩),
 (77,⟨(.type "tuple"),none,.seq #[] 0,#[]⟩),
 (78,⟨(.type "tuple"),none,.seq #[(.str (x 92) 281)] 0,#[]⟩),
 (79,⟨(.type "tuple"),none,.seq #[] 0,#[]⟩),
 (80,⟨(.type "dict"),none,.dict #[enO P (x 78) 298 (.str (x 90) 299),enO P (x 79) 300 (.str (x 92) 301),enO P (x 80) 302 (.str (x 91) 303),enO P (x 81) 304 (.str (x 92) 305),enO P (x 82) 306 (.str (x 92) 307)] 5,#[]⟩),
 (86,cdO (x 18) 314 315 (x 9) 316 14 1 81 82 (.ref 83) (.ref 84) 85 318 319),
 (87,fnO (x 18) (tp p 9) (.str (x 70) 255) 86),
 (91,cdO (x 19) 321 322 (x 9) 323 20 1 88 89 .none .none 90 324 325),
 (92,fnO (x 19) (tp p 10) (.str (x 70) 255) 91),
 (96,cdO (x 20) 327 328 (x 9) 329 22 2 93 94 .none .none 95 330 331),
 (97,fnO (x 20) (tp p 11) (.str (x 70) 255) 96),
 (103,cdO (x 21) 333 334 (x 9) 335 27 2 98 99 (.ref 100) (.ref 101) 102 338 339),
 (104,fnO (x 21) (tp p 12) (.str (x 70) 255) 103),
 (110,cdO (x 22) 341 342 (x 9) 343 33 1 105 106 (.ref 107) (.ref 108) 109 345 346),
 (111,fnO (x 22) (tp p 13) (.str (x 70) 255) 110),
 (117,cdO (x 23) 348 349 (x 9) 350 35 2 112 113 (.ref 114) (.ref 115) 116 353 354),
 (118,fnO (x 23) (tp p 14) (.str (x 70) 255) 117),
 (122,cdO (x 24) 356 357 (x 9) 358 39 2 119 120 .none .none 121 359 360),
 (123,fnO (x 24) (tp p 15) (.str (x 70) 255) 122),
 (129,cdO (x 25) 362 363 (x 9) 364 45 2 124 125 (.ref 126) (.ref 127) 128 367 368),
 (130,fnO (x 25) (tp p 16) (.str (x 70) 255) 129),
 (136,cdO (x 26) 370 371 (x 9) 372 47 2 131 132 (.ref 133) (.ref 134) 135 376 377),
 (137,fnO (x 26) (tp p 17) (.str (x 70) 255) 136),
 (143,cdO (x 27) 381 382 (x 9) 383 61 3 138 139 (.ref 140) (.ref 141) 142 388 389),
 (144,fnO (x 27) (tp p 19) (.str (x 71) 379) 143),
 (150,cdO (x 28) 391 392 (x 9) 393 66 2 145 146 (.ref 147) (.ref 148) 149 397 398),
 (151,fnO (x 28) (tp p 20) (.str (x 71) 379) 150),
 (157,cdO (x 29) 400 401 (x 9) 402 71 2 152 153 (.ref 154) (.ref 155) 156 406 407),
 (158,fnO (x 29) (tp p 21) (.str (x 71) 379) 157),
 (162,cdO (x 30) 409 410 (x 9) 411 80 2 159 160 .none .none 161 412 413),
 (163,fnO (x 30) (tp p 22) (.str (x 71) 379) 162),
 (169,cdO (x 31) 417 418 (x 9) 419 83 2 164 165 (.ref 166) (.ref 167) 168 427 428),
 (170,fnO (x 31) (tp p 24) (.str (x 72) 415) 169),
 (176,cdO (x 32) 430 431 (x 9) 432 97 3 171 172 (.ref 173) (.ref 174) 175 439 440),
 (177,fnO (x 32) (tp p 25) (.str (x 72) 415) 176),
 (181,cdO (x 33) 442 443 (x 9) 444 106 2 178 179 .none .none 180 445 446),
 (182,fnO (x 33) (tp p 26) (.str (x 72) 415) 181),
 (186,cdO (x 34) 448 449 (x 9) 450 110 2 183 184 .none .none 185 451 452),
 (187,fnO (x 34) (tp p 27) (.str (x 72) 415) 186),
 (188,⟨(.type "tuple"),none,.seq #[(.int 0 456),(.bool false),(.str (x 93) 457)] 0,#[]⟩),
 (194,cdO (x 36) 459 460 (x 9) 461 114 4 189 190 (.ref 191) (.ref 192) 193 469 470),
 (195,fnO (x 36) (tp p 30) (.str (x 73) 454) 194),
 (201,cdO (x 37) 472 473 (x 9) 474 123 4 196 197 (.ref 198) (.ref 199) 200 482 483),
 (202,fnO (x 37) (tp p 31) (.str (x 73) 454) 201),
 (206,cdO (x 38) 485 486 (x 9) 487 132 2 203 204 .none .none 205 488 489),
 (207,fnO (x 38) (tp p 32) (.str (x 73) 454) 206),
 (213,cdO (x 39) 491 492 (x 9) 493 134 2 208 209 (.ref 210) (.ref 211) 212 496 497),
 (214,fnO (x 39) (tp p 33) (.str (x 73) 454) 213),
 (220,cdO (x 40) 499 500 (x 9) 501 136 3 215 216 (.ref 217) (.ref 218) 219 508 509),
 (221,fnO (x 40) (tp p 34) (.str (x 73) 454) 220),
 (227,cdO (x 41) 511 512 (x 9) 513 141 2 222 223 (.ref 224) (.ref 225) 226 517 518),
 (228,fnO (x 41) (tp p 35) (.str (x 73) 454) 227),
 (232,cdO (x 42) 520 521 (x 9) 522 146 2 229 230 .none .none 231 523 524),
 (233,fnO (x 42) (tp p 36) (.str (x 73) 454) 232),
 (239,cdO (x 43) 526 527 (x 9) 528 148 3 234 235 (.ref 236) (.ref 237) 238 533 534),
 (240,fnO (x 43) (tp p 37) (.str (x 73) 454) 239),
 (246,cdO (x 44) 536 537 (x 9) 538 161 2 241 242 (.ref 243) (.ref 244) 245 542 543),
 (247,fnO (x 44) (tp p 38) (.str (x 73) 454) 246),
 (253,cdO (x 45) 545 546 (x 9) 547 164 3 248 249 (.ref 250) (.ref 251) 252 551 552),
 (254,fnO (x 45) (tp p 39) (.str (x 73) 454) 253),
 (260,cdO (x 46) 556 557 (x 9) 558 173 5 255 256 (.ref 257) (.ref 258) 259 567 568),
 (261,fnO (x 46) (tp p 41) (.str (x 75) 554) 260),
 (265,cdO (x 47) 572 573 (x 9) 574 183 3 262 263 .none .none 264 575 576),
 (266,fnO (x 47) (tp p 43) (.str (x 74) 570) 265),
 (275,cdO (x 49) 584 585 (x 9) 586 196 3 272 273 .none .none 274 587 588),
 (276,fnO (x 49) (tp p 45) (.str (x 74) 570) 275),
 (282,cdO (x 50) 590 591 (x 9) 592 205 3 277 278 (.ref 279) (.ref 280) 281 599 600),
 (283,fnO (x 50) (tp p 46) (.str (x 74) 570) 282),
 (289,cdO (x 51) 604 605 (x 9) 606 215 1 284 285 (.ref 286) (.ref 287) 288 608 609),
 (290,fnO (x 51) (tp p 48) (.str (x 1) 602) 289),
 (296,cdO (x 52) 611 612 (x 9) 613 217 2 291 292 (.ref 293) (.ref 294) 295 616 617),
 (297,fnO (x 52) (tp p 49) (.str (x 1) 602) 296),
 (303,cdO (x 53) 619 620 (x 9) 621 221 2 298 299 (.ref 300) (.ref 301) 302 628 629),
 (304,fnO (x 53) (tp p 50) (.str (x 1) 602) 303),
 (310,cdO (x 54) 631 632 (x 9) 633 246 1 305 306 (.ref 307) (.ref 308) 309 635 636),
 (311,fnO (x 54) (tp p 51) (.str (x 1) 602) 310),
 (317,cdO (x 55) 638 639 (x 9) 640 252 2 312 313 (.ref 314) (.ref 315) 316 643 644),
 (318,fnO (x 55) (tp p 52) (.str (x 1) 602) 317),
 (324,cdO (x 56) 646 647 (x 9) 648 266 2 319 320 (.ref 321) (.ref 322) 323 652 653),
 (325,fnO (x 56) (tp p 53) (.str (x 1) 602) 324),
 (331,cdO (x 57) 655 656 (x 9) 657 276 2 326 327 (.ref 328) (.ref 329) 330 662 663),
 (332,fnO (x 57) (tp p 54) (.str (x 1) 602) 331),
 (338,cdO (x 58) 665 666 (x 9) 667 297 1 333 334 (.ref 335) (.ref 336) 337 671 672),
 (339,fnO (x 58) (tp p 55) (.str (x 1) 602) 338),
 (343,cdO (x 59) 674 675 (x 9) 676 305 4 340 341 .none .none 342 677 678),
 (344,fnO (x 59) (tp p 56) (.str (x 1) 602) 343),
 (350,cdO (x 60) 680 681 (x 9) 682 322 2 345 346 (.ref 347) (.ref 348) 349 692 693),
 (351,fnO (x 60) (tp p 57) (.str (x 1) 602) 350),
 (357,cdO (x 61) 695 696 (x 9) 697 338 2 352 353 (.ref 354) (.ref 355) 356 702 703),
 (358,fnO (x 61) (tp p 58) (.str (x 1) 602) 357),
 (362,cdO (x 62) 705 706 (x 9) 707 346 1 359 360 .none .none 361 708 709),
 (363,fnO (x 62) (tp p 59) (.str (x 1) 602) 362),
 (369,cdO (x 63) 711 712 (x 9) 713 350 1 364 365 (.ref 366) (.ref 367) 368 718 719),
 (370,fnO (x 63) (tp p 60) (.str (x 1) 602) 369),
 (376,cdO (x 64) 721 722 (x 9) 723 357 2 371 372 (.ref 373) (.ref 374) 375 730 731),
 (377,fnO (x 64) (tp p 61) (.str (x 1) 602) 376),
 (383,cdO (x 65) 733 734 (x 9) 735 366 1 378 379 (.ref 380) (.ref 381) 382 739 740),
 (384,fnO (x 65) (tp p 62) (.str (x 1) 602) 383),
 (388,cdO (x 66) 742 743 (x 9) 744 370 5 385 386 .none .none 387 745 746),
 (389,fnO (x 66) (tp p 63) (.str (x 1) 602) 388),
 (395,cdO (x 67) 748 749 (x 9) 750 383 5 390 391 (.ref 392) (.ref 393) 394 756 757),
 (396,fnO (x 67) (tp p 64) (.str (x 1) 602) 395),
 (402,cdO (x 68) 759 760 (x 9) 761 393 2 397 398 (.ref 399) (.ref 400) 401 766 767),
 (403,fnO (x 68) (tp p 65) (.str (x 1) 602) 402),
 (409,cdO (x 69) 769 770 (x 9) 771 401 1 404 405 (.ref 406) (.ref 407) 408 788 789),
 (410,fnO (x 69) (tp p 66) (.str (x 1) 602) 409)]
noncomputable def kAs:List Addr:=[3,23,24,36,37,48,49,60,61,64,65,66,67,68,69,70,71,72,73,74,75,76,77,78,79,80,86,87,91,92,96,97,103,104,110,111,117,118,122,123,129,130,136,137,143,144,150,151,157,158,162,163,169,170,176,177,181,182,186,187,188,194,195,201,202,206,207,213,214,220,221,227,228,232,233,239,240,246,247,253,254,260,261,265,266,275,276,282,283,289,290,296,297,303,304,310,311,317,318,324,325,331,332,338,339,343,344,350,351,357,358,362,363,369,370,376,377,383,384,388,389,395,396,402,403,409,410]
noncomputable def kA:List Str:=["__name__","law_rowguard_k08_no_kind","__doc__","__package__","__loader__","__spec__","__annotations__","__builtins__","__file__","/claim/cut.py","__cached__","GuardError","NoKind","NotFine","NotSo","KINDS","TAKEN","PUT","kind_of","kinds_of","refuse_no_kinds","lack_of_row","count_taken","has_few","has_wrong_kind","kinds_behind","kinds_put","why_not_done","jumps_astray","spots_behind","rows_behind","looked","fault_of","arrivals_behind","table_of","BLANKS","run","states","told_on","can_go_on","pair_behind","spot_behind","waiting_behind","things_put","thing_taken","put_for_two","guarded","table_stands","entry_stands","fault_stands","kinds_at_end","_law_whole","_law_at","_law_same","_law_sort_of","_law_asks_for","_law_reason_of","_law_after","_law_drawn_thing","_law_plain_row","_law_rows_of","_law_odd_row","_law_given_of","_law_task_of","_law_pile_of","_law_coming_of","_law_called","_law_refuses","_law_refused_by_any","law","rowguard.kinds","rowguard.steps","rowguard.looking","rowguard.machine","rowguard.checking","rowguard.guard","push","take","add","less","join","not","same","copy","drop","swap","tell","go","if","end","number","text","truth","","__module__","rowguard.errors","__firstlineno__","__static_attributes__","__weakref__"].map Str.ofString
noncomputable def kC:List (List Nat):=[[95,95,110,97,109,101,95,95],[108,97,119,95,114,111,119,103,117,97,114,100,95,107,48,56,95,110,111,95,107,105,110,100],[95,95,100,111,99,95,95],[95,95,112,97,99,107,97,103,101,95,95],[95,95,108,111,97,100,101,114,95,95],[95,95,115,112,101,99,95,95],[95,95,97,110,110,111,116,97,116,105,111,110,115,95,95],[95,95,98,117,105,108,116,105,110,115,95,95],[95,95,102,105,108,101,95,95],[47,99,108,97,105,109,47,99,117,116,46,112,121],[95,95,99,97,99,104,101,100,95,95],[71,117,97,114,100,69,114,114,111,114],[78,111,75,105,110,100],[78,111,116,70,105,110,101],[78,111,116,83,111],[75,73,78,68,83],[84,65,75,69,78],[80,85,84],[107,105,110,100,95,111,102],[107,105,110,100,115,95,111,102],[114,101,102,117,115,101,95,110,111,95,107,105,110,100,115],[108,97,99,107,95,111,102,95,114,111,119],[99,111,117,110,116,95,116,97,107,101,110],[104,97,115,95,102,101,119],[104,97,115,95,119,114,111,110,103,95,107,105,110,100],[107,105,110,100,115,95,98,101,104,105,110,100],[107,105,110,100,115,95,112,117,116],[119,104,121,95,110,111,116,95,100,111,110,101],[106,117,109,112,115,95,97,115,116,114,97,121],[115,112,111,116,115,95,98,101,104,105,110,100],[114,111,119,115,95,98,101,104,105,110,100],[108,111,111,107,101,100],[102,97,117,108,116,95,111,102],[97,114,114,105,118,97,108,115,95,98,101,104,105,110,100],[116,97,98,108,101,95,111,102],[66,76,65,78,75,83],[114,117,110],[115,116,97,116,101,115],[116,111,108,100,95,111,110],[99,97,110,95,103,111,95,111,110],[112,97,105,114,95,98,101,104,105,110,100],[115,112,111,116,95,98,101,104,105,110,100],[119,97,105,116,105,110,103,95,98,101,104,105,110,100],[116,104,105,110,103,115,95,112,117,116],[116,104,105,110,103,95,116,97,107,101,110],[112,117,116,95,102,111,114,95,116,119,111],[103,117,97,114,100,101,100],[116,97,98,108,101,95,115,116,97,110,100,115],[101,110,116,114,121,95,115,116,97,110,100,115],[102,97,117,108,116,95,115,116,97,110,100,115],[107,105,110,100,115,95,97,116,95,101,110,100],[95,108,97,119,95,119,104,111,108,101],[95,108,97,119,95,97,116],[95,108,97,119,95,115,97,109,101],[95,108,97,119,95,115,111,114,116,95,111,102],[95,108,97,119,95,97,115,107,115,95,102,111,114],[95,108,97,119,95,114,101,97,115,111,110,95,111,102],[95,108,97,119,95,97,102,116,101,114],[95,108,97,119,95,100,114,97,119,110,95,116,104,105,110,103],[95,108,97,119,95,112,108,97,105,110,95,114,111,119],[95,108,97,119,95,114,111,119,115,95,111,102],[95,108,97,119,95,111,100,100,95,114,111,119],[95,108,97,119,95,103,105,118,101,110,95,111,102],[95,108,97,119,95,116,97,115,107,95,111,102],[95,108,97,119,95,112,105,108,101,95,111,102],[95,108,97,119,95,99,111,109,105,110,103,95,111,102],[95,108,97,119,95,99,97,108,108,101,100],[95,108,97,119,95,114,101,102,117,115,101,115],[95,108,97,119,95,114,101,102,117,115,101,100,95,98,121,95,97,110,121],[108,97,119],[114,111,119,103,117,97,114,100,46,107,105,110,100,115],[114,111,119,103,117,97,114,100,46,115,116,101,112,115],[114,111,119,103,117,97,114,100,46,108,111,111,107,105,110,103],[114,111,119,103,117,97,114,100,46,109,97,99,104,105,110,101],[114,111,119,103,117,97,114,100,46,99,104,101,99,107,105,110,103],[114,111,119,103,117,97,114,100,46,103,117,97,114,100],[112,117,115,104],[116,97,107,101],[97,100,100],[108,101,115,115],[106,111,105,110],[110,111,116],[115,97,109,101],[99,111,112,121],[100,114,111,112],[115,119,97,112],[116,101,108,108],[103,111],[105,102],[101,110,100],[110,117,109,98,101,114],[116,101,120,116],[116,114,117,116,104],[],[95,95,109,111,100,117,108,101,95,95],[114,111,119,103,117,97,114,100,46,101,114,114,111,114,115],[95,95,102,105,114,115,116,108,105,110,101,110,111,95,95],[95,95,115,116,97,116,105,99,95,97,116,116,114,105,98,117,116,101,115,95,95],[95,95,119,101,97,107,114,101,102,95,95]]
theorem kAB:kA=kC.map fun l=>⟨⟨l⟩⟩:=(show kA=kC.map fun l=>Str.ofString (String.ofList (l.map Char.ofNat)) by kernel_rfl).trans (Qi kC (by decide+kernel))
noncomputable def KK:Params→Frag:=KF (xa kA) PySem.Challenge.pw_rowguard_k08_no_kind
noncomputable def looseL:List Str:=["TAKEN","PUT"]
def ChkP {β:Type} (ok:Nat→Option Value→Thread→Bool) (st:Program→World→SharedT→Thread→Option (SharedT×Thread)) (im:List Stmt→List Str) (os:Program→List Str→List Str→(Shared→Bool)→Bool→Shared→β) (gd:Program→List Str→β) (p:Program) (L:List Str) (w:World):Prop:=
 (fun o=>(goG ok st p w 11 (some (.ref 6)) 5736 ⟨bootT w.params,11,{},Array.mk [],boot_drawn,boot_toks,o⟩ (topStub p)).map fun s=>lookG im os p (view p keepL) looseL (fun s=>xlAt (view p keepL) [] s && recOk [] s) (fun s=>kAs.map s.heap.get?) (boot_heap w.params) s.abs)=fun _=>some (true,gd (view p keepL) looseL,(KF (xa L) p w.params).map fun x=>some x.2)
theorem Kx (w:World):ChkP PySem.W.Fast.tw6613529449190102663 (PySem.W.Fast.tw10156331382660048174 (PySem.W.Fast.tw11892475500146522536 PySem.W.Fast.tw14364793385576792824)) PySem.W.Fast.tw5923862056798008813 PySem.W.Fast.tw4187177175401517315 openGood PySem.Challenge.pw_rowguard_k08_no_kind (kC.map fun l=>⟨⟨l⟩⟩) (w.withFollow "special-get-raises" false):=by
 unfold ChkP;kernel_rfl
theorem Mn (w:World):ChkP PySem.W.Fast.tw6613529449190102663 (PySem.W.Fast.tw10156331382660048174 (PySem.W.Fast.tw11892475500146522536 PySem.W.Fast.tw14364793385576792824)) PySem.W.Fast.tw5923862056798008813 PySem.W.Fast.tw4187177175401517315 openGood PySem.Challenge.pw_rowguard_k08_no_kind (kC.map fun l=>⟨⟨l⟩⟩) (w.withFollow "special-get-raises" true):=by
 unfold ChkP;kernel_rfl
theorem chk (w:World):ChkP stepOk (stepT (denote treeTable)) importedModules openSeen openGood PySem.Challenge.pw_rowguard_k08_no_kind kA w:=by
 rw [kAB,PySem.W.Fast.te6613529449190102663,PySem.W.Fast.te10156331382660048174,PySem.W.Fast.te11892475500146522536,PySem.W.Fast.te14364793385576792824,PySem.W.Fast.te5923862056798008813,PySem.W.Fast.te4187177175401517315];exact byRow2 "special-get-raises" (P:=ChkP PySem.W.Fast.tw6613529449190102663 (PySem.W.Fast.tw10156331382660048174 (PySem.W.Fast.tw11892475500146522536 PySem.W.Fast.tw14364793385576792824)) PySem.W.Fast.tw5923862056798008813 PySem.W.Fast.tw4187177175401517315 openGood PySem.Challenge.pw_rowguard_k08_no_kind (kC.map fun l=>⟨⟨l⟩⟩)) Kx Mn w
theorem hl:LeftO PySem.Challenge.pw_rowguard_k08_no_kind (view PySem.Challenge.pw_rowguard_k08_no_kind keepL) looseL (fun s=>xlAt (view PySem.Challenge.pw_rowguard_k08_no_kind keepL) [] s && recOk [] s) (fun s=>kAs.map s.heap.get?) (fun w=>(KK w.params).map fun x=>some x.2) 5736 true:=
 Kq (T:=bootT) (life:={}) (m₀:=11) (ann:=some (.ref 6)) (by kernel_rfl) (by decide+kernel) (fun s=>by kernel_rfl) Qh Td chk
end RZ
namespace RZ
open PySem L2 RG RH
noncomputable abbrev VW (P:Program) (w:World) (mg:Str→Option Value) (base:Heap):Vv:=⟨P,w,KK w.params,mg,base⟩
theorem ln {α:Type} {l:List α} {n:Nat} (h:l.length=n+1): ∃a r,l=a::r∧r.length=n:=by
 obtain ⟨a,r,rfl⟩:=List.exists_cons_of_length_eq_add_one h;exact ⟨a,r,rfl,Nat.succ.inj h⟩
section
variable {P:Program} {w:World} {h base:Heap} {mg:Str→Option Value} {st:Stmt} {m:Value} {k cd f:Nat} {nm a b c d e:Str} (X:(KK w.params).In h) (G:h.Ns mainGlobals mg) (l:(KK w.params).lookup f=some (fnO nm st m cd):=by kernel_rfl) (o:PySem.W.codeIn (KK w.params) (.ref cd) nm=true:=by kernel_rfl) (q:keepIn (KK w.params) (.ref f)=true:=by kernel_rfl) (z:nsIn (KK w.params) mainGlobals nm=some (some (.ref f)):=by kernel_rfl)
include X G l o q z
theorem at1 (hb: ∀ (kV doc pm:Value) (an:Option Addr) (cdv ct u0:Value),bindArgs (fnOf nm nm (defArgs st) (defBody st) (defScope st) .none kV doc pm an cdv ct) ⟨[u0],[]⟩=pure [(a,u0)]:=by intros;rfl):At (VW P w mg base) ⟨k,nm,[a]⟩ st f (fdO nm st m cd):=⟨fm l o q,mg_of X G z,(fm l o q).binds fun kV doc pm an cdv ct us hl=>by
 have g0:us.length=1:=hl;obtain ⟨u0,us,rfl,g1⟩:=ln g0;obtain rfl:=List.length_eq_zero_iff.mp g1;exact hb kV doc pm an cdv ct u0⟩
theorem at2 (hb: ∀ (kV doc pm:Value) (an:Option Addr) (cdv ct u0 u1:Value),bindArgs (fnOf nm nm (defArgs st) (defBody st) (defScope st) .none kV doc pm an cdv ct) ⟨[u0,u1],[]⟩=pure [(a,u0),(b,u1)]:=by intros;rfl):At (VW P w mg base) ⟨k,nm,[a,b]⟩ st f (fdO nm st m cd):=⟨fm l o q,mg_of X G z,(fm l o q).binds fun kV doc pm an cdv ct us hl=>by
 have g0:us.length=2:=hl;obtain ⟨u0,us,rfl,g1⟩:=ln g0;obtain ⟨u1,us,rfl,g2⟩:=ln g1;obtain rfl:=List.length_eq_zero_iff.mp g2;exact hb kV doc pm an cdv ct u0 u1⟩
theorem at3 (hb: ∀ (kV doc pm:Value) (an:Option Addr) (cdv ct u0 u1 u2:Value),bindArgs (fnOf nm nm (defArgs st) (defBody st) (defScope st) .none kV doc pm an cdv ct) ⟨[u0,u1,u2],[]⟩=pure [(a,u0),(b,u1),(c,u2)]:=by intros;rfl):At (VW P w mg base) ⟨k,nm,[a,b,c]⟩ st f (fdO nm st m cd):=⟨fm l o q,mg_of X G z,(fm l o q).binds fun kV doc pm an cdv ct us hl=>by
 have g0:us.length=3:=hl;obtain ⟨u0,us,rfl,g1⟩:=ln g0;obtain ⟨u1,us,rfl,g2⟩:=ln g1;obtain ⟨u2,us,rfl,g3⟩:=ln g2;obtain rfl:=List.length_eq_zero_iff.mp g3;exact hb kV doc pm an cdv ct u0 u1 u2⟩
theorem at4 (hb: ∀ (kV doc pm:Value) (an:Option Addr) (cdv ct u0 u1 u2 u3:Value),bindArgs (fnOf nm nm (defArgs st) (defBody st) (defScope st) .none kV doc pm an cdv ct) ⟨[u0,u1,u2,u3],[]⟩=pure [(a,u0),(b,u1),(c,u2),(d,u3)]:=by intros;rfl):At (VW P w mg base) ⟨k,nm,[a,b,c,d]⟩ st f (fdO nm st m cd):=⟨fm l o q,mg_of X G z,(fm l o q).binds fun kV doc pm an cdv ct us hl=>by
 have g0:us.length=4:=hl;obtain ⟨u0,us,rfl,g1⟩:=ln g0;obtain ⟨u1,us,rfl,g2⟩:=ln g1;obtain ⟨u2,us,rfl,g3⟩:=ln g2;obtain ⟨u3,us,rfl,g4⟩:=ln g3;obtain rfl:=List.length_eq_zero_iff.mp g4;exact hb kV doc pm an cdv ct u0 u1 u2 u3⟩
theorem at5 (hb: ∀ (kV doc pm:Value) (an:Option Addr) (cdv ct u0 u1 u2 u3 u4:Value),bindArgs (fnOf nm nm (defArgs st) (defBody st) (defScope st) .none kV doc pm an cdv ct) ⟨[u0,u1,u2,u3,u4],[]⟩=pure [(a,u0),(b,u1),(c,u2),(d,u3),(e,u4)]:=by intros;rfl):At (VW P w mg base) ⟨k,nm,[a,b,c,d,e]⟩ st f (fdO nm st m cd):=⟨fm l o q,mg_of X G z,(fm l o q).binds fun kV doc pm an cdv ct us hl=>by
 have g0:us.length=5:=hl;obtain ⟨u0,us,rfl,g1⟩:=ln g0;obtain ⟨u1,us,rfl,g2⟩:=ln g1;obtain ⟨u2,us,rfl,g3⟩:=ln g2;obtain ⟨u3,us,rfl,g4⟩:=ln g3;obtain ⟨u4,us,rfl,g5⟩:=ln g4;obtain rfl:=List.length_eq_zero_iff.mp g5;exact hb kV doc pm an cdv ct u0 u1 u2 u3 u4⟩
end
section
variable (P:Program) (base:Heap) {w:World} {h:Heap} {mg:Str→Option Value} (X:(KK w.params).In h) (G:h.Ns mainGlobals mg)
include X G
theorem q0:At (VW P w mg base) I4b uh 87 (fdO "kind_of" uh (.str "rowguard.kinds" 255) 86):=at1 X G
theorem q1:At (VW P w mg base) I48 qv 92 (fdO "kinds_of" qv (.str "rowguard.kinds" 255) 91):=at1 X G
theorem q2:At (VW P w mg base) I14 d0 97 (fdO "refuse_no_kinds" d0 (.str "rowguard.kinds" 255) 96):=at2 X G
theorem q3:At (VW P w mg base) I2f jt 111 (fdO "count_taken" jt (.str "rowguard.kinds" 255) 110):=at1 X G
theorem q4:At (VW P w mg base) I4c uj 118 (fdO "has_few" uj (.str "rowguard.kinds" 255) 117):=at2 X G
theorem q5:At (VW P w mg base) I18 gf 123 (fdO "has_wrong_kind" gf (.str "rowguard.kinds" 255) 122):=at2 X G
theorem q6:At (VW P w mg base) I35 ju 104 (fdO "lack_of_row" ju (.str "rowguard.kinds" 255) 103):=at2 X G
theorem q7:At (VW P w mg base) I43 ol 137 (fdO "kinds_put" ol (.str "rowguard.kinds" 255) 136):=at2 X G
theorem q8:At (VW P w mg base) I20 i6 130 (fdO "kinds_behind" i6 (.str "rowguard.kinds" 255) 129):=at2 X G
theorem q9:At (VW P w mg base) I23 i7 151 (fdO "jumps_astray" i7 (.str "rowguard.steps" 379) 150):=at2 X G
theorem q10:At (VW P w mg base) I25 i8 144 (fdO "why_not_done" i8 (.str "rowguard.steps" 379) 143):=at3 X G
theorem q11:At (VW P w mg base) I27 i9 158 (fdO "spots_behind" i9 (.str "rowguard.steps" 379) 157):=at2 X G
theorem q12:At (VW P w mg base) I31 jv 163 (fdO "rows_behind" jv (.str "rowguard.steps" 379) 162):=at2 X G
theorem q13:At (VW P w mg base) I47 qw 177 (fdO "fault_of" qw (.str "rowguard.looking" 415) 176):=at3 X G
theorem q14:At (VW P w mg base) I15 ez 182 (fdO "arrivals_behind" ez (.str "rowguard.looking" 415) 181):=at2 X G
theorem q15:At (VW P w mg base) I46 qx 187 (fdO "table_of" qx (.str "rowguard.looking" 415) 186):=at2 X G
theorem q16:At (VW P w mg base) I50 um 170 (fdO "looked" um (.str "rowguard.looking" 415) 169):=at2 X G
theorem q17:At (VW P w mg base) I44 oq 214 (fdO "can_go_on" oq (.str "rowguard.machine" 454) 213):=at2 X G
theorem q18:At (VW P w mg base) I30 jw 228 (fdO "spot_behind" jw (.str "rowguard.machine" 454) 227):=at2 X G
theorem q19:At (VW P w mg base) I3a jx 247 (fdO "thing_taken" jx (.str "rowguard.machine" 454) 246):=at2 X G
theorem q20:At (VW P w mg base) I16 gg 233 (fdO "waiting_behind" gg (.str "rowguard.machine" 454) 232):=at2 X G
theorem q21:At (VW P w mg base) I36 jy 254 (fdO "put_for_two" jy (.str "rowguard.machine" 454) 253):=at3 X G
theorem q22:At (VW P w mg base) I3f ll 240 (fdO "things_put" ll (.str "rowguard.machine" 454) 239):=at3 X G
theorem q23:At (VW P w mg base) I38 jz 221 (fdO "pair_behind" jz (.str "rowguard.machine" 454) 220):=at3 X G
theorem q24:At (VW P w mg base) I52 uq 202 (fdO "states" uq (.str "rowguard.machine" 454) 201):=at4 X G
theorem q25:At (VW P w mg base) I4d ut 207 (fdO "told_on" ut (.str "rowguard.machine" 454) 206):=at2 X G
theorem q26:At (VW P w mg base) I55 Kt 195 (fdO "run" Kt (.str "rowguard.machine" 454) 194):=at4 X G
theorem q27:At (VW P w mg base) I26 fv 266 (fdO "table_stands" fv (.str "rowguard.checking" 570) 265):=at3 X G
theorem q28:At (VW P w mg base) I22 ja 283 (fdO "kinds_at_end" ja (.str "rowguard.checking" 570) 282):=at3 X G
theorem q29:At (VW P w mg base) I1e fw 276 (fdO "fault_stands" fw (.str "rowguard.checking" 570) 275):=at3 X G
theorem q30:At (VW P w mg base) I4f qi 261 (fdO "guarded" qi (.str "rowguard.guard" 554) 260):=at5 X G
theorem q31:At (VW P w mg base) I41 o0 290 (fdO "_law_whole" o0 (.str "law_rowguard_k08_no_kind" 602) 289):=at1 X G
theorem q32:At (VW P w mg base) I51 wx 297 (fdO "_law_at" wx (.str "law_rowguard_k08_no_kind" 602) 296):=at2 X G
theorem q33:At (VW P w mg base) I49 qy 304 (fdO "_law_same" qy (.str "law_rowguard_k08_no_kind" 602) 303):=at2 X G
theorem q34:At (VW P w mg base) I2d j0 311 (fdO "_law_sort_of" j0 (.str "law_rowguard_k08_no_kind" 602) 310):=at1 X G
theorem q35:At (VW P w mg base) I21 jb 318 (fdO "_law_asks_for" jb (.str "law_rowguard_k08_no_kind" 602) 317):=at2 X G
theorem q36:At (VW P w mg base) I1a ic 325 (fdO "_law_reason_of" ic (.str "law_rowguard_k08_no_kind" 602) 324):=at2 X G
theorem q37:At (VW P w mg base) I45 o3 332 (fdO "_law_after" o3 (.str "law_rowguard_k08_no_kind" 602) 331):=at2 X G
theorem q38:At (VW P w mg base) I13 e9 339 (fdO "_law_drawn_thing" e9 (.str "law_rowguard_k08_no_kind" 602) 338):=at1 X G
theorem q39:At (VW P w mg base) I1c ie 344 (fdO "_law_plain_row" ie (.str "law_rowguard_k08_no_kind" 602) 343):=at4 X G
theorem q40:At (VW P w mg base) I3d j9 351 (fdO "_law_rows_of" j9 (.str "law_rowguard_k08_no_kind" 602) 350):=at2 X G
theorem q41:At (VW P w mg base) I2e ke 358 (fdO "_law_odd_row" ke (.str "law_rowguard_k08_no_kind" 602) 357):=at2 X G
theorem q42:At (VW P w mg base) I24 jc 363 (fdO "_law_given_of" jc (.str "law_rowguard_k08_no_kind" 602) 362):=at1 X G
theorem q43:At (VW P w mg base) I34 kf 370 (fdO "_law_task_of" kf (.str "law_rowguard_k08_no_kind" 602) 369):=at1 X G
theorem q44:At (VW P w mg base) I29 kh 377 (fdO "_law_pile_of" kh (.str "law_rowguard_k08_no_kind" 602) 376):=at2 X G
theorem q45:At (VW P w mg base) I19 ig 384 (fdO "_law_coming_of" ig (.str "law_rowguard_k08_no_kind" 602) 383):=at1 X G
theorem q46:At (VW P w mg base) I3e lm 389 (fdO "_law_called" lm (.str "law_rowguard_k08_no_kind" 602) 388):=at5 X G
theorem q47:At (VW P w mg base) I3b ki 396 (fdO "_law_refuses" ki (.str "law_rowguard_k08_no_kind" 602) 395):=at5 X G
theorem q48:At (VW P w mg base) I11 du 403 (fdO "_law_refused_by_any" du (.str "law_rowguard_k08_no_kind" 602) 402):=at2 X G
theorem q49:At (VW P w mg base) I56 Kw 410 (fdO "law" Kw (.str "law_rowguard_k08_no_kind" 602) 409):=at1 X G
end
section
variable {w:World} {h:Heap} {mg:Str→Option Value} (X:(KK w.params).In h) (G:h.Ns mainGlobals mg)
include X G
theorem gbH:Gb2 mg:=⟨⟨mg_none_of X G (by kernel_rfl),mg_none_of X G (by kernel_rfl),mg_none_of X G (by kernel_rfl),mg_none_of X G (by kernel_rfl),mg_none_of X G (by kernel_rfl),mg_none_of X G (by kernel_rfl),mg_none_of X G (by kernel_rfl),mg_none_of X G (by kernel_rfl),mg_none_of X G (by kernel_rfl),mg_none_of X G (by kernel_rfl),mg_none_of X G (by kernel_rfl),mg_none_of X G (by kernel_rfl)⟩,mg_none_of X G (by kernel_rfl)⟩
theorem tTAKEN {P:Program}:TabAt P w (KK w.params) mg "TAKEN" takenF:=M9 (es:=[⟨PyData.keyHash w.params "push",.str "push" 261,.ref 66⟩,⟨PyData.keyHash w.params "take",.str "take" 262,.ref 67⟩,⟨PyData.keyHash w.params "add",.str "add" 263,.ref 68⟩,⟨PyData.keyHash w.params "less",.str "less" 266,.ref 69⟩,⟨PyData.keyHash w.params "join",.str "join" 269,.ref 70⟩,⟨PyData.keyHash w.params "not",.str "not" 272,.ref 71⟩,⟨PyData.keyHash w.params "same",.str "same" 274,.ref 72⟩,⟨PyData.keyHash w.params "copy",.str "copy" 275,.ref 73⟩,⟨PyData.keyHash w.params "drop",.str "drop" 276,.ref 74⟩,⟨PyData.keyHash w.params "swap",.str "swap" 277,.ref 75⟩,⟨PyData.keyHash w.params "tell",.str "tell" 278,.ref 76⟩,⟨PyData.keyHash w.params "go",.str "go" 279,.ref 77⟩,⟨PyData.keyHash w.params "if",.str "if" 280,.ref 78⟩,⟨PyData.keyHash w.params "end",.str "end" 282,.ref 79⟩]) (mg_of X G (show nsIn (KK w.params) mainGlobals "TAKEN"=some (some (.ref 65)) by kernel_rfl)) (n:=14) (by kernel_rfl) (.consT (show (KK w.params).lookup 66=some ⟨.type "tuple",none,.seq ([]:List Value).toArray 0,#[]⟩ by kernel_rfl) (show lits _=some ([]:List D) from rfl) (by decide) (.consT (show (KK w.params).lookup 67=some ⟨.type "tuple",none,.seq ([]:List Value).toArray 0,#[]⟩ by kernel_rfl) (show lits _=some ([]:List D) from rfl) (by decide) (.consT (show (KK w.params).lookup 68=some ⟨.type "tuple",none,.seq ([.str "number" 264,.str "number" 265]:List Value).toArray 0,#[]⟩ by kernel_rfl) (show lits _=some ([.str "number",.str "number"]:List D) from rfl) (by decide) (.consT (show (KK w.params).lookup 69=some ⟨.type "tuple",none,.seq ([.str "number" 267,.str "number" 268]:List Value).toArray 0,#[]⟩ by kernel_rfl) (show lits _=some ([.str "number",.str "number"]:List D) from rfl) (by decide) (.consT (show (KK w.params).lookup 70=some ⟨.type "tuple",none,.seq ([.str "text" 270,.str "text" 271]:List Value).toArray 0,#[]⟩ by kernel_rfl) (show lits _=some ([.str "text",.str "text"]:List D) from rfl) (by decide) (.consT (show (KK w.params).lookup 71=some ⟨.type "tuple",none,.seq ([.str "truth" 273]:List Value).toArray 0,#[]⟩ by kernel_rfl) (show lits _=some ([.str "truth"]:List D) from rfl) (by decide) (.consT (show (KK w.params).lookup 72=some ⟨.type "tuple",none,.seq ([.none,.none]:List Value).toArray 0,#[]⟩ by kernel_rfl) (show lits _=some ([.none,.none]:List D) from rfl) (by decide) (.consT (show (KK w.params).lookup 73=some ⟨.type "tuple",none,.seq ([]:List Value).toArray 0,#[]⟩ by kernel_rfl) (show lits _=some ([]:List D) from rfl) (by decide) (.consT (show (KK w.params).lookup 74=some ⟨.type "tuple",none,.seq ([.none]:List Value).toArray 0,#[]⟩ by kernel_rfl) (show lits _=some ([.none]:List D) from rfl) (by decide) (.consT (show (KK w.params).lookup 75=some ⟨.type "tuple",none,.seq ([.none,.none]:List Value).toArray 0,#[]⟩ by kernel_rfl) (show lits _=some ([.none,.none]:List D) from rfl) (by decide) (.consT (show (KK w.params).lookup 76=some ⟨.type "tuple",none,.seq ([.none]:List Value).toArray 0,#[]⟩ by kernel_rfl) (show lits _=some ([.none]:List D) from rfl) (by decide) (.consT (show (KK w.params).lookup 77=some ⟨.type "tuple",none,.seq ([]:List Value).toArray 0,#[]⟩ by kernel_rfl) (show lits _=some ([]:List D) from rfl) (by decide) (.consT (show (KK w.params).lookup 78=some ⟨.type "tuple",none,.seq ([.str "truth" 281]:List Value).toArray 0,#[]⟩ by kernel_rfl) (show lits _=some ([.str "truth"]:List D) from rfl) (by decide) (.consT (show (KK w.params).lookup 79=some ⟨.type "tuple",none,.seq ([]:List Value).toArray 0,#[]⟩ by kernel_rfl) (show lits _=some ([]:List D) from rfl) (by decide) .nil)))))))))))))) (by decide) fun _=>rfl
theorem tPUT {P:Program}:TabAt P w (KK w.params) mg "PUT" putsF:=M9 (es:=[⟨PyData.keyHash w.params "add",.str "add" 298,.str "number" 299⟩,⟨PyData.keyHash w.params "less",.str "less" 300,.str "truth" 301⟩,⟨PyData.keyHash w.params "join",.str "join" 302,.str "text" 303⟩,⟨PyData.keyHash w.params "not",.str "not" 304,.str "truth" 305⟩,⟨PyData.keyHash w.params "same",.str "same" 306,.str "truth" 307⟩]) (mg_of X G (show nsIn (KK w.params) mainGlobals "PUT"=some (some (.ref 80)) by kernel_rfl)) (n:=5) (by kernel_rfl) (.consS (.consS (.consS (.consS (.consS .nil))))) (by decide) fun _=>rfl
theorem tKINDS:GlAt (KK w.params) mg "KINDS" kindsD:=⟨⟨_,mg_of X G (show nsIn (KK w.params) mainGlobals "KINDS"=some (some (.ref 64)) by kernel_rfl),Bl (its:=[.str "number" 257,.str "truth" 258,.str "text" 259]) (n:=0) (od:=none) (sl:= #[]) (by kernel_rfl) (show lits _=some [.str "number",.str "truth",.str "text"] from rfl) (by decide)⟩⟩
theorem tBLANKS:GlAt (KK w.params) mg "BLANKS" blanksD:=⟨⟨_,mg_of X G (show nsIn (KK w.params) mainGlobals "BLANKS"=some (some (.ref 188)) by kernel_rfl),Bl (its:=[.int 0 456,.bool false,.str "" 457]) (n:=0) (od:=none) (sl:= #[]) (by kernel_rfl) (show lits _=some [.int 0,.bool false,.str ""] from rfl) (by decide)⟩⟩
theorem t3KINDS:Tup3 (KK w.params) mg "KINDS" "number" "truth" "text":=Tup3.of (mg_of X G (show nsIn (KK w.params) mainGlobals "KINDS"=some (some (.ref 64)) by kernel_rfl)) (show (KK w.params).lookup 64=some ⟨.type "tuple",none,.seq ([.str "number" 257,.str "truth" 258,.str "text" 259]:List Value).toArray 0,#[]⟩ by kernel_rfl)
theorem cxH {P:Program} {base:Heap}:Cxs (VW P w mg base) 24 37 49 61:=⟨mg_of X G (show nsIn (KK w.params) mainGlobals "GuardError"=some (some (.ref 24)) by kernel_rfl),mg_of X G (show nsIn (KK w.params) mainGlobals "NoKind"=some (some (.ref 37)) by kernel_rfl),mg_of X G (show nsIn (KK w.params) mainGlobals "NotFine"=some (some (.ref 49)) by kernel_rfl),mg_of X G (show nsIn (KK w.params) mainGlobals "NotSo"=some (some (.ref 61)) by kernel_rfl),mg_none_of X G (by kernel_rfl),by kernel_rfl,by kernel_rfl,⟨by kernel_rfl,by kernel_rfl,by kernel_rfl,by kernel_rfl,by kernel_rfl,by kernel_rfl,by kernel_rfl⟩,⟨_,_,_,_,_,_,_,_,_,_,_,_,_,_,_,_,rfl,by kernel_rfl,by kernel_rfl,by kernel_rfl⟩,⟨_,_,_,_,_,_,_,_,_,_,_,_,_,_,_,_,rfl,by kernel_rfl,by kernel_rfl,by kernel_rfl⟩⟩
theorem cx8H {P:Program} {base:Heap}:Cx8 (VW P w mg base) 24 37 49 61:=⟨cxH X G,⟨_,_,_,_,_,_,_,_,_,_,_,_,_,_,_,_,rfl,by kernel_rfl,by kernel_rfl,by kernel_rfl⟩,⟨by kernel_rfl,by kernel_rfl,by kernel_rfl,by kernel_rfl,by kernel_rfl,by kernel_rfl,by kernel_rfl⟩,⟨by kernel_rfl,by kernel_rfl,by kernel_rfl,by kernel_rfl,by kernel_rfl,by kernel_rfl,by kernel_rfl⟩,⟨by kernel_rfl,by kernel_rfl,by kernel_rfl,by kernel_rfl,by kernel_rfl,by kernel_rfl,by kernel_rfl⟩,by kernel_rfl,by kernel_rfl,by kernel_rfl,by kernel_rfl,by kernel_rfl,by kernel_rfl,by kernel_rfl,by kernel_rfl,by kernel_rfl,by kernel_rfl,by kernel_rfl⟩
end
theorem Tf {l:PySem.W.OpenLaw} {w:World} {h:Heap} {mg:Str→Option Value} {fa:Addr} (X:(KK w.params).In h) (G:h.Ns mainGlobals mg) (hfa:mg "law"=some (.ref fa)):
  ∃fd:FuncData,(∀ (s:Shared) (v:Value),BindsTo s fd ⟨[v],[]⟩ [("_law_script",v)])∧ ∀base:Heap,(KK w.params).In base→base.Ns mainGlobals mg→FnOk l.prog w (KK w.params) mg base CX0 11 fa fd ["_law_script"] (spX (KK w.params) Ea):=by
 have e:=hfa.symm.trans (q49 l.prog h X G).a;cases e;have gb:=gbH X G;have vg:TabAt l.prog w (KK w.params) mg "TAKEN" takenF:=tTAKEN X G;have Mm:TabAt l.prog w (KK w.params) mg "PUT" putsF:=tPUT X G;have oj:=tKINDS X G;have Bv:=tBLANKS X G;have t3_KINDS:=t3KINDS X G;refine ⟨fdO "law" Kw (.str "law_rowguard_k08_no_kind" 602) 409,fun s v=> .of_eq rfl,fun base _ _=>?_⟩;have cx:Cx8 (VW l.prog w mg base) 24 37 49 61:=cx8H X G;have nh:=(q0 l.prog base X G).own (G4 (q0 l.prog base X G).F gb);obtain ⟨ko,J4a⟩:=(q1 l.prog base X G).kn (Et (q1 l.prog base X G).F gb nh);have bc:=(q2 l.prog base X G).own (ui (q2 l.prog base X G).F gb oj);obtain ⟨_,b_refuse_no_kinds⟩:=(q2 l.prog base X G).kb (s9 (q2 l.prog base X G).F gb cx oj);have bj:=(q3 l.prog base X G).own (y0 (q3 l.prog base X G).F gb vg);have yb:=(q4 l.prog base X G).own (G6 (q4 l.prog base X G).F gb bj);have jp:=(q5 l.prog base X G).own (vi (q5 l.prog base X G).F gb vg bj);have om:=(q6 l.prog base X G).own (y6 (q6 l.prog base X G).F gb yb jp);have tf:=(q7 l.prog base X G).own (De (q7 l.prog base X G).F gb Mm nh);have mn:=(q8 l.prog base X G).own (yd (q8 l.prog base X G).F gb bj tf);have l9:=(q9 l.prog base X G).own (yf (q9 l.prog base X G).F gb);have b7:=(q10 l.prog base X G).own (yh (q10 l.prog base X G).F gb l9 om);have ef:=(q11 l.prog base X G).own (yj (q11 l.prog base X G).F gb);have on:=(q12 l.prog base X G).own (y8 (q12 l.prog base X G).F gb ef);have vj:=(q13 l.prog base X G).own (Ev (q13 l.prog base X G).F gb b7);have ir:=(q14 l.prog base X G).own (ul (q14 l.prog base X G).F gb mn on);have vk:=(q15 l.prog base X G).own (Ex (q15 l.prog base X G).F gb);have z_looked:=Kr (q16 l.prog base X G).F gb ir vj bc vk;obtain ⟨Ga,J54⟩:=(q16 l.prog base X G).kn z_looked;have Gc:=G7 (CN:=37) (q16 l.prog base X G).F gb b_refuse_no_kinds;obtain ⟨_,b_looked⟩:=(q16 l.prog base X G).kb Gc;obtain ⟨_,j_looked⟩:=(q16 l.prog base X G).join isB1 (fun q h=>F8 h) (Ep z_looked) Gc;obtain ⟨yk,J42⟩:=(q17 l.prog base X G).kn (Dh (q17 l.prog base X G).F gb J4a b7);obtain ⟨uo,J32⟩:=(q18 l.prog base X G).kn (za (q18 l.prog base X G).F gb ef);obtain ⟨oz,J37⟩:=(q19 l.prog base X G).kn (zc (q19 l.prog base X G).F gb Bv t3_KINDS);obtain ⟨pj,J17⟩:=(q20 l.prog base X G).kn (vn (q20 l.prog base X G).F gb oj);obtain ⟨ou,J3c⟩:=(q21 l.prog base X G).kn (ze (q21 l.prog base X G).F gb);obtain ⟨wa,J40⟩:=(q22 l.prog base X G).kn (Bx (q22 l.prog base X G).F gb bj J3c J37);obtain ⟨ur,J39⟩:=(q23 l.prog base X G).kn (zg (q23 l.prog base X G).F gb bj J32 J40);have z_states:=Ks (q24 l.prog base X G).F gb J42 J39 bc J17;obtain ⟨F9,J53⟩:=(q24 l.prog base X G).knN z_states;have Gd:=G8 (CN:=37) (q24 l.prog base X G).F gb b_refuse_no_kinds;obtain ⟨_,b_states⟩:=(q24 l.prog base X G).kb Gd;obtain ⟨_,j_states⟩:=(q24 l.prog base X G).join isB2 (fun q h=>Nj h) (Er z_states) Gd;obtain ⟨Dj,J4e⟩:=(q25 l.prog base X G).kn (Ha (q25 l.prog base X G).F gb);have z_run:=S9 (q26 l.prog base X G).F gb J4a J53 J4e b7;obtain ⟨Ta,J57⟩:=(q26 l.prog base X G).kn z_run;have U7:=Qg (CN:=37) (q26 l.prog base X G).F gb b_states;obtain ⟨_,j_run⟩:=(q26 l.prog base X G).join isB2 (fun q h=>Nj h) (Mj z_run) U7;have z_table_stands:=ym (q27 l.prog base X G).F gb bc;have zu:=wf (CN:=37) (q27 l.prog base X G).F gb b_refuse_no_kinds;obtain ⟨_,j_table_stands⟩:=(q27 l.prog base X G).join isB1 (fun q h=>F8 h) (G1 z_table_stands) zu;obtain ⟨si,J1f⟩:=(q28 l.prog base X G).kn (yo (q28 l.prog base X G).F gb);have z_fault_stands:=yp (q29 l.prog base X G).F gb J1f bc b7;have zv:=wg (CN:=37) (q29 l.prog base X G).F gb b_refuse_no_kinds;obtain ⟨_,j_fault_stands⟩:=(q29 l.prog base X G).join isB1 (fun q h=>F8 h) (G2 z_fault_stands) zv;have z_guarded:=Hb (q30 l.prog base X G).F gb cx.c J4a J54 J57;have Ky:=Ey (CN:=37) (q30 l.prog base X G).F gb b_looked;obtain ⟨_,j_guarded⟩:=(q30 l.prog base X G).join isB1 (fun q h=>F8 h) (Dc z_guarded) Ky;have tj:=(q31 l.prog base X G).own (Dl (q31 l.prog base X G).F gb);have ed:=(q32 l.prog base X G).own (Kv (q32 l.prog base X G).F gb);have qz:=(q33 l.prog base X G).own (E1 (q33 l.prog base X G).F gb tj);have j6:=(q34 l.prog base X G).own (zi (q34 l.prog base X G).F gb);have mq:=(q35 l.prog base X G).own (yr (q35 l.prog base X G).F gb);have la:=(q36 l.prog base X G).own (wk (q36 l.prog base X G).F gb mq);have yt:=(q37 l.prog base X G).own (wb (q37 l.prog base X G).F gb j6);have E2:Ox (VW l.prog w mg base) I45 dk:=(q37 l.prog base X G).own (Oy (wb (q37 l.prog base X G).F gb j6));have iu:=(q38 l.prog base X G).own (uv (q38 l.prog base X G).F gb);obtain ⟨qj,J1b⟩:=(q39 l.prog base X G).kn (wn (q39 l.prog base X G).F gb iu la);obtain ⟨uw,J2a⟩:=(q40 l.prog base X G).knN (zk (q40 l.prog base X G).F gb E2 J1b);have o5:=(q41 l.prog base X G).own (zm (q41 l.prog base X G).F gb);obtain ⟨sj,J28⟩:=(q42 l.prog base X G).kn (yv (q42 l.prog base X G).F gb);obtain ⟨pb,hT⟩:=zo (q43 l.prog base X G).F gb ed J28 o5 J2a;have J2b:KnT (VW l.prog w mg base) I34 lx dl k7 pb:=⟨hT.1,(q43 l.prog base X G).own hT.2⟩
 obtain ⟨uz,J2c⟩:=(q44 l.prog base X G).kn (zq (q44 l.prog base X G).F gb);obtain ⟨qm,J1d⟩:=(q45 l.prog base X G).kn (wp (q45 l.prog base X G).F gb);obtain ⟨gc,hc⟩:=Bz (q46 l.prog base X G).F gb j_looked j_run j_states j_table_stands j_fault_stands j_guarded;have kc:KC (VW l.prog w mg base) I3e 37 49 61 gc:=⟨hc.1,_,_,hc.2,(q46 l.prog base X G).a,(q46 l.prog base X G).F.kp,(q46 l.prog base X G).b⟩
 obtain ⟨u5,J33⟩:=(q47 l.prog base X G).kn (zt (q47 l.prog base X G).F gb cx kc);obtain ⟨jr,J12⟩:=(q48 l.prog base X G).kn (ql (q48 l.prog base X G).F gb cx j_looked);exact Tc (q49 l.prog base X G).F gb J2b ed J1d J2c J12 J33 qz
theorem Ge {K:Frag} {H:Hp}: ∀ns:List Int,Are K H (ns.map V.int) (ns.map PyData.int)
 | []=> .nil
 | n::ns=> .cons (.int n) (Ge ns)
theorem Mp {K:Frag} {H:Hp} {a:Addr} {ns:List Int} (hl:ns.length≤63) (hS:SqL K H a (ns.map V.int)):spX K Ea [.ref a] H (fun v _=>v= .bl true) fun _ _ _=>False:=
 ⟨[eScr ns],.bool true,.cons (.scr hS (Ge ns)) .nil,by unfold Ea;simp only [Jm hl],fun v H' _ i=>by cases i;rfl⟩
theorem walk {l:PySem.W.OpenLaw} {q:Program} {loose:List Str} {XP:(Str→Option Value)→Heap→Prop} {d:DefRec} (hn:l.most=some 63) (hdf:d.params.defaults=[]) (hd:d.name="law"):
  PySem.W.WalkO q loose XP (PySem.W.InK KK) l.row.toRowW d [] (fun f vs=>PySem.call f vs):=
 L2.N2 (n:=63) (k:=11) (x:="_law_script") (K:=KK) (CX:=fun _=>CX0) (sp:=fun w=>spX (KK w.params) Ea) hn (by decide) hdf ⟨rfl,by decide,by decide,rfl⟩ (fun w h Y=>Y) (fun w mg fa h X G e=>Tf X G (hd▸e)) (fun _ _ a ns hl _ hS=>Mp hl hS) fun _ _ _ _ _ z=>z
end RZ
open PySem PySem.W PyProof.Rows
set_option maxRecDepth 100000 in
set_option maxHeartbeats 0 in
theorem PySem.Challenge.cw_rowguard_k08_no_kind_holds : PySem.Challenge.rw_rowguard_k08_no_kind.Holds := by
 w_on
 refine PySem.W.holds_law wS fun said=>?_
 refine PySem.W.holds_open (q:=(view PySem.Challenge.pw_rowguard_k08_no_kind RZ.keepL)) (loose:=RZ.looseL) (Xt:=fun s=>xlAt (view PySem.Challenge.pw_rowguard_k08_no_kind RZ.keepL) [] s && recOk [] s) (XP:=XL (view PySem.Challenge.pw_rowguard_k08_no_kind RZ.keepL) []) (Yf:=fun s=>RZ.kAs.map s.heap.get?) (Ya:=fun w=>(RZ.KK w.params).map fun (x:Addr×Obj)=>some x.2) (YP:=InK RZ.KK) (N:=5736) RZ.hl (InK.of fun P=>by kernel_rfl) InK.keeps (fun s e=>xl_of s (Bool.and_eq_true_iff.mp e).1) XL.keeps (by rfl) (by rfl) (by rfl) (fun s e=>recFacts_of (Bool.and_eq_true_iff.mp e).2) (by rfl) (by first | assumption | decide+kernel) (by decide+kernel) ⟨rfl,rfl,rfl,rfl,rfl,by decide+kernel⟩ ?hw ?hc
 case hw=>w_witness2
 case hc=>exact RZ.walk rfl rfl rfl
end
