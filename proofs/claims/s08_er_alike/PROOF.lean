import PyProof.Rows.All
import Wide.All
import OpenK.AllK
import Wide.FinOn
import PyProof.EqAt
import PyProof.EqKinds
import PyProof.TupleCall
import KE.BitLaws
import PyProof.ZipIter
import PyProof.WalksMore
import PyProof.TupleKey
import PyProof.DictRoadsH
import PyProof.DictKind
import KE.KSortTup
import KE.KSortTupG
import KE.KDictSum
import KE.IntBitsLaws
import Sx38Spec
import PySx38
import Open.SpecLaws
import KE.OsHead
import KE.OsGo
import PySem.Challenge.RW_wholepoints_s08_er_alike
set_option Elab.async false
set_option linter.all false
set_option maxRecDepth 100000
set_option maxHeartbeats 4000000
noncomputable section
set_option genInjectivity false
set_option genSizeOf false
set_option bootstrap.genMatcherCode false
namespace L2
open PySem PySem.Spec PyProof.Rows
abbrev Key:=Sum Int Str
def keyIs:Key→Value→Bool
  | .inl k,v=>Value.isInt k v
  | .inr x,v=>Value.isStrOf x v
def keyH (w:World):Key→Int
  | .inl k=>hashInt k
  | .inr x=>hashStr w x
theorem keyIs_shape:∀ {k:Key} {v:Value},keyIs k v = true→(∃ i t,k = Sum.inl i∧v = Value.int i t)∨(∃ x t,k = Sum.inr x∧v = Value.str x t)
  | .inl i,v,h=>by
    obtain ⟨t,e⟩:=Value.isInt_shape (k:=i) (v:=v) h
    exact .inl ⟨i,t,rfl,e⟩
  | .inr x,v,h=>by
    obtain ⟨t,e⟩:=Value.isStrOf_shape (x:=x) (v:=v) h
    exact .inr ⟨x,t,rfl,e⟩
theorem keyIs_int (i:Int) (t:Tok):keyIs (.inl i) (.int i t) = true:=by simp [keyIs,Value.isInt]
theorem keyIs_str (x:Str) (t:Tok):keyIs (.inr x) (.str x t) = true:=by simp [keyIs,Value.isStrOf]
theorem key_ll (a b:Int):decide ((Sum.inl a:Key) = Sum.inl b) = (a == b):=by
  by_cases e:a = b
  · subst e;simp
  · have h:¬ (Sum.inl a:Key) = Sum.inl b:=fun q=>e (Sum.inl.inj q)
    rw [decide_eq_false h]
    exact (beq_eq_false_iff_ne.mpr e).symm
theorem key_rr (a b:Str):decide ((Sum.inr a:Key) = Sum.inr b) = decide (a = b):=by
  by_cases e:a = b
  · subst e;simp
  · have h:¬ (Sum.inr a:Key) = Sum.inr b:=fun q=>e (Sum.inr.inj q)
    rw [decide_eq_false h,decide_eq_false e]
theorem key_lr (a:Int) (b:Str):decide ((Sum.inl a:Key) = Sum.inr b) = false:=decide_eq_false (fun q=>nomatch q)
theorem key_rl (a:Str) (b:Int):decide ((Sum.inr a:Key) = Sum.inl b) = false:=decide_eq_false (fun q=>nomatch q)
def mixKind (prog:Program) (w:World):PySem.KeyKind prog w Key where
  is:=keyIs
  hash:=keyH w
  inj:=fun v a b ha hb=>by
    rcases keyIs_shape ha with ⟨i,t,rfl,rfl⟩ | ⟨x,t,rfl,rfl⟩
    · rcases keyIs_shape hb with ⟨j,u,rfl,e⟩ | ⟨y,u,rfl,e⟩
      · injection e with e1 _;rw [e1]
      · exact nomatch e
    · rcases keyIs_shape hb with ⟨j,u,rfl,e⟩ | ⟨y,u,rfl,e⟩
      · exact nomatch e
      · injection e with e1 _;rw [e1]
  byValue:=fun k v h=>by
    rcases keyIs_shape h with ⟨i,t,rfl,rfl⟩ | ⟨x,t,rfl,rfl⟩ <;> rfl
  pyHash:=fun hv h=>by
    rcases keyIs_shape hv with ⟨i,t,rfl,rfl⟩ | ⟨x,t,rfl,rfl⟩
    · exact wpAny_pyHash_int h
    · exact wpAny_pyHash_str h
  eqBool:=fun hu hv h=>by
    rcases keyIs_shape hu with ⟨i,t,rfl,rfl⟩ | ⟨x,t,rfl,rfl⟩
    · rcases keyIs_shape hv with ⟨j,u,rfl,rfl⟩ | ⟨y,u,rfl,rfl⟩
      · rw [key_ll] at h;exact wpAny_eqBool_int h
      · rw [key_lr] at h;exact SeqAt.EqAt.int_str i t y u _ _ _ _ h
    · rcases keyIs_shape hv with ⟨j,u,rfl,rfl⟩ | ⟨y,u,rfl,rfl⟩
      · rw [key_rl] at h;exact SeqAt.EqAt.str_int x t j u _ _ _ _ h
      · rw [key_rr] at h;exact wpAny_eqBool_str h
  «strs»:=fun k x t v h=>by
    rcases keyIs_shape h with ⟨i,u,rfl,e⟩ | ⟨y,u,rfl,e⟩
    · exact nomatch e
    · injection e with e1 _
      subst e1
      cases v <;> rfl
theorem mixKind_int (prog:Program) (w:World) (i:Int) (t:Tok):(mixKind prog w).is (.inl i) (.int i t) = true:=keyIs_int i t
theorem mixKind_str (prog:Program) (w:World) (x:Str) (t:Tok):(mixKind prog w).is (.inr x) (.str x t) = true:=keyIs_str x t
end L2
namespace L2
open PySem PySem.Spec PyProof.Rows
set_option genInjectivity true in
inductive V where
  | non | bl (b:Bool) | int (i:Int) | str (x:Str) | byt (b:Array UInt8) | flt (b:UInt64) | ref (a:Addr) | ty (n:String)
  deriving DecidableEq
def RelV:V→Value→Prop
  | .non,u=>u = Value.none
  | .bl b,u=>u = Value.bool b
  | .int i,u=>∃ t,u = Value.int i t
  | .str x,u=>∃ t,u = Value.str x t
  | .byt b,u=>∃ t,u = Value.bytes b t
  | .flt b,u=>∃ t,u = Value.float b t
  | .ref a,u=>u = Value.ref a
  | .ty n,u=>u = Value.type n
abbrev Vals:List V→List Value→Prop:=Paired RelV
theorem Vals.length {xs:List V} {us:List Value} (r:Vals xs us):xs.length = us.length:=Paired.length r
theorem Vals.get:∀ {xs:List V} {us:List Value} {i:Nat} {x:V},Vals xs us→xs[i]? = some x→∃ u,us[i]? = some u∧RelV x u
  | _,_,_,_,.nil,e=>by simp at e
  | _,_,0,_,.cons r _,e=>by simp at e;subst e;exact ⟨_,rfl,r⟩
  | _,_,i + 1,x,.cons _ t,e=>by
    obtain ⟨u,h1,h2⟩:=Vals.get (i:=i) (x:=x) t (by simpa using e)
    exact ⟨u,by simpa using h1,h2⟩
theorem Vals.append:∀ {xs ys:List V} {us ws:List Value},Vals xs us→Vals ys ws→Vals (xs ++ ys) (us ++ ws)
  | _,_,_,_,.nil,s=>s
  | _,_,_,_,.cons r t,s=>.cons r (Vals.append t s)
theorem Vals.take:∀ {xs:List V} {us:List Value} (n:Nat),Vals xs us→Vals (xs.take n) (us.take n)
  | _,_,0,_=>.nil
  | _,_,_ + 1,.nil=>.nil
  | _,_,n + 1,.cons r t=>.cons r (Vals.take n t)
theorem Vals.drop:∀ {xs:List V} {us:List Value} (n:Nat),Vals xs us→Vals (xs.drop n) (us.drop n)
  | _,_,0,r=>r
  | _,_,_ + 1,.nil=>.nil
  | _,_,n + 1,.cons _ t=>Vals.drop n t
def RelO:Option V→Option Value→Prop
  | some v,some u=>RelV v u
  | none,none=>True
  | _,_=>False
def KV {κ:Type}:List (κ × V)→List (κ × Value)→Prop:=Paired fun (p:κ × V) (q:κ × Value)=>p.1 = q.1∧RelV p.2 q.2
def kV:Key→V
  | .inl i=>.int i
  | .inr x=>.str x
set_option genInjectivity true in
inductive HO where
  | lst (xs:List V)
  | tup (xs:List V)
  | dK (kvs:List (Key × V)) | dT (kvs:List (List Key × V))
  | set (S:Int→Bool) (n:Nat)
  | ins (C dx:Addr) (fs:List (Str × V))
  | own (x:Addr)
  | xd (fs:List (Str × V))
  | met (f x:Addr)
  | rng (lo hi:Int)
  | frz (o:Obj) (u:HO)
  | tbl (ps:Array Value)
  | ext (φ:Heap→Prop)
abbrev Hp:=Addr→Option HO
def upd (H:Hp) (a:Addr) (o:HO):Hp:=fun b=>if b = a then some o else H b
theorem upd_same {H:Hp} {a:Addr} {o:HO}:upd H a o a = some o:=by unfold upd;rw [if_pos rfl]
theorem upd_ne {H:Hp} {a b:Addr} {o:HO} (h:b≠a):upd H a o b = H b:=by unfold upd;rw [if_neg h]
theorem ne_of_none {H:Hp} {a b:Addr} {o:HO} (h:H a = some o) (h':H b = none):a≠b:=by
  intro e;subst e;rw [h] at h';cases h'
section
variable (P:Program) (w:World)
def ObjOk (H:Hp) (h:Heap) (a:Addr):HO→Prop
  | .lst xs=>xs.length≤sizeLine∧∃ (its:List Value) (n:Nat),Vals xs its∧h.get? a = some { cls:=.type "list",data:=.seq its.toArray n }
  | .tup xs=>xs.length≤sizeLine∧∃ its:List Value,Vals xs its∧IsTup h a its.toArray
  | .dK kvs=>kvs.length≤sizeLine∧(a == sysModules) = false∧∃ vs,KV kvs vs∧h.DictOf (mixKind P w) a vs
  | .dT kvs=>kvs.length≤sizeLine∧(a == sysModules) = false∧∃ xs:List (List Key × Addr × Value),
      Paired (fun (p:List Key × V) (q:List Key × Addr × Value)=>p.1 = q.1∧H q.2.1 = some (.tup (p.1.map kV))∧RelV p.2 q.2.2) kvs xs ∧
      ∃ o es ep,h.get? a = some o∧o.ExactDict∧o.data = .dict es ep∧es.toList = xs.map (entryOfKey (tupleKind (mixKind P w)))∧(xs.map (·.1)).Nodup
  | .set S n=>h.SetOf (intKind P w) a S n
  | .ins C dx fs=>H dx = some (.own a)∧fs.length≤1000∧dx≠a∧h.get? a = some (PySem.W.instObj C dx) ∧
      ∃ mA,h.Ns1 dx mA∧(∀ f,RelO (fs.lookup f) (mA f))∧PySem.Within mA (fs.map (·.1))
  | .own _=>∃ o,h.get? a = some o
  | .xd fs=>∃ mA,h.Ns1 a mA∧∀ f,RelO (fs.lookup f) (mA f)
  | .rng lo hi=>∃ t u v,h.get? a = some { cls:=.type "range",data:=.fields #[.int lo t,.int hi u,.int 1 v] }
  | .frz o u=>h.get? a = some o∧ObjOk H h a u
  | .tbl ps=>h.get? a = some { cls:=.none,data:=.fields ps }
  | .met f x=>h.get? a = some (PySem.W.methodObj (.ref f) (.ref x))
  | .ext φ=>φ h∧(∃ o,h.get? a = some o)∧∀ h1 h2:Heap,φ h1→(∀ o,h1.get? a = some o→h2.get? a = some o)→φ h2
def HOk (H:Hp) (h:Heap):Prop:=∀ a o,H a = some o→ObjOk P w H h a o
end
section
variable {P:Program} {w:World} {H H':Hp} {h h':Heap} {a:Addr} {o:HO}
theorem ObjOk.lt (x:ObjOk P w H h a o):a < h.objs.size:=by
  cases o with
  | lst xs=>obtain ⟨_,_,_,_,e⟩:=x;exact Heap.lt_size e
  | tup xs=>obtain ⟨_,_,_,p⟩:=x;exact p.lt
  | dK kvs=>obtain ⟨_,_,_,_,o,_,_,e,_⟩:=x;exact Heap.lt_size e
  | dT kvs=>obtain ⟨_,_,_,_,o,_,_,e,_⟩:=x;exact Heap.lt_size e
  | set S n=>obtain ⟨o,_,_,_,e,_⟩:=x;exact Heap.lt_size e
  | ins C dx fs=>obtain ⟨_,_,_,e,_⟩:=x;exact Heap.lt_size e
  | own y=>obtain ⟨_,e⟩:=x;exact Heap.lt_size e
  | xd fs=>obtain ⟨_,⟨_,_,_,e,_⟩,_⟩:=x;exact Heap.lt_size e
  | rng lo hi=>obtain ⟨_,_,_,e⟩:=x;exact Heap.lt_size e
  | frz ob u=>obtain ⟨e,_⟩:=x;exact Heap.lt_size e
  | tbl ps=>exact Heap.lt_size (show h.get? a = some _ from x)
  | met f y=>exact Heap.lt_size (show h.get? a = some _ from x)
  | ext φ=>obtain ⟨_,⟨_,e⟩,_⟩:=x;exact Heap.lt_size e
theorem Paired.mapP {α β:Type} {F G:α→β→Prop}:∀ {l₁:List α} {l₂:List β},Paired F l₁ l₂→(∀ a b,F a b→G a b)→Paired G l₁ l₂
  | _,_,.nil,_=>.nil
  | _,_,.cons r t,f=>.cons (f _ _ r) (Paired.mapP t f)
theorem ObjOk.stay (x:ObjOk P w H h a o) (k:∀ b u,(b = a∨H b = some (.own a))→h.get? b = some u→h'.get? b = some u)
    (ho:∀ b,H b = some (.own a)→H' b = some (.own a)) (ht:∀ b xs,H b = some (.tup xs)→H' b = some (.tup xs)):ObjOk P w H' h' a o:=by
  induction o with
  | lst xs=>obtain ⟨z,its,n,r,e⟩:=x;exact ⟨z,its,n,r,k _ _ (.inl rfl) e⟩
  | tup xs=>obtain ⟨z,its,r,ob,e,c⟩:=x;exact ⟨z,its,r,ob,k _ _ (.inl rfl) e,c⟩
  | dK kvs=>obtain ⟨z,y,vs,r,ob,es,ep,e,c⟩:=x;exact ⟨z,y,vs,r,ob,es,ep,k _ _ (.inl rfl) e,c⟩
  | dT kvs =>
    obtain ⟨z,y,xs,r,ob,es,ep,e,c⟩:=x
    exact ⟨z,y,xs,Paired.mapP r fun p q z=>⟨z.1,ht _ _ z.2.1,z.2.2⟩,ob,es,ep,k _ _ (.inl rfl) e,c⟩
  | set S n=>obtain ⟨ob,es,ep,t,e,c⟩:=x;exact ⟨ob,es,ep,t,k _ _ (.inl rfl) e,c⟩
  | ins C dx fs =>
    obtain ⟨d,z,ne,e,mA,⟨od,es,ep,e2,c⟩,r⟩:=x
    exact ⟨ho _ d,z,ne,k _ _ (.inl rfl) e,mA,⟨od,es,ep,k _ _ (.inr d) e2,c⟩,r⟩
  | own y=>obtain ⟨ob,e⟩:=x;exact ⟨ob,k _ _ (.inl rfl) e⟩
  | xd fs=>obtain ⟨mA,⟨od,es,ep,e,c⟩,r⟩:=x;exact ⟨mA,⟨od,es,ep,k _ _ (.inl rfl) e,c⟩,r⟩
  | rng lo hi=>obtain ⟨t,u,v,e⟩:=x;exact ⟨t,u,v,k _ _ (.inl rfl) e⟩
  | frz ob u ih=>obtain ⟨e,q⟩:=x;exact ⟨k _ _ (.inl rfl) e,ih q⟩
  | tbl ps =>
    have e:h.get? a = some { cls:=.none,data:=.fields ps }:=x
    show h'.get? a = some { cls:=.none,data:=.fields ps }
    exact k a _ (.inl rfl) e
  | met f y =>
    have e:h.get? a = some (PySem.W.methodObj (.ref f) (.ref y)):=x
    show h'.get? a = some (PySem.W.methodObj (.ref f) (.ref y))
    exact k a _ (.inl rfl) e
  | ext φ=>obtain ⟨p,⟨o,e⟩,st⟩:=x;exact ⟨st _ _ p fun o q=>k _ _ (.inl rfl) q,⟨o,k _ _ (.inl rfl) e⟩,st⟩
theorem HOk.lt (x:HOk P w H h) (e:H a = some o):a < h.objs.size:=(x a o e).lt
theorem HOk.fresh (x:HOk P w H h) (e:h.objs.size≤a):H a = none:=by
  cases q:H a with
  | none=>rfl
  | some u=>exact absurd (Nat.lt_of_lt_of_le (x.lt q) e) (Nat.lt_irrefl _)
theorem HOk.kept (x:HOk P w H h) (k:∀ b u,h.get? b = some u→h'.get? b = some u):HOk P w H h':=fun a o e =>
  (x a o e).stay (fun b u _ q=>k b u q) (fun _ q=>q) fun _ _ q=>q
theorem HOk.laid (x:HOk P w H h) (k:∀ b u,h.get? b = some u→h'.get? b = some u) (hp:h.objs.size≤a) (new:ObjOk P w (upd H a o) h' a o):HOk P w (upd H a o) h':=fun b u e=>by
  have hn:=x.fresh hp
  by_cases hb:b = a
  · subst hb;rw [upd_same] at e;cases e;exact new
  · rw [upd_ne hb] at e
    exact (x b u e).stay (fun c v _ q=>k c v q) (fun c q=>by rw [upd_ne (ne_of_none q hn)];exact q) fun c xs q=>by rw [upd_ne (ne_of_none q hn)];exact q
end
def Rd (H:Hp) (a:Addr) (u:HO):Prop:=H a = some u∨∃ o,H a = some (.frz o u)
theorem Rd.ok {P:Program} {w:World} {H:Hp} {h:Heap} {a:Addr} {u:HO} (r:Rd H a u) (x:HOk P w H h):ObjOk P w H h a u:=by
  rcases r with r | ⟨o,r⟩
  · exact x a u r
  · obtain ⟨_,q⟩:=x a _ r
    exact q
def Mut:Option HO→Prop
  | some (.lst _)=>True
  | some (.dK _)=>True
  | some (.dT _)=>True
  | some (.set _ _)=>True
  | some (.ins _ _ _)=>True
  | some (.ext _)=>True
  | _=>False
section
variable {P:Program} {w:World} {H:Hp} {h h':Heap} {x e:Addr} {o':HO}
theorem HOk.write (ok:HOk P w H h) (mu:Mut (H x)) (he:e = x∨H e = some (.own x)) (k:∀ b u,b≠e→h.get? b = some u→h'.get? b = some u) (heo:∃ u,h'.get? e = some u)
    (new:ObjOk P w (upd H x o') h' x o'):HOk P w (upd H x o') h':=fun b u q=>by
  have nown:∀ c y,H c = some (.own y)→c≠x:=fun c y r z=>by subst z;rw [r] at mu;exact mu
  have ntup:∀ c xs,H c = some (.tup xs)→c≠x:=fun c xs r z=>by subst z;rw [r] at mu;exact mu
  by_cases hb:b = x
  · subst hb;rw [upd_same] at q;cases q;exact new
  · rw [upd_ne hb] at q
    by_cases hbe:b = e
    · have q':H b = some (.own x):=by
        rcases he with z | z
        · exact absurd (hbe.trans z) hb
        · rw [hbe];exact z
      rw [q] at q';cases q'
      obtain ⟨v,hv⟩:=heo
      exact ⟨v,by rw [hbe];exact hv⟩
    · refine (ok b u q).stay (fun c v hc r=>k c v ?_ r) (fun c r=>by rw [upd_ne (nown c b r)];exact r) fun c xs r=>by rw [upd_ne (ntup c xs r)];exact r
      rcases hc with rfl | hc
      · exact hbe
      · rintro rfl
        rcases he with z | z
        · exact nown c b hc z
        · rw [hc] at z;cases z;exact hb rfl
end
structure Un (fs ex:List Addr) (H H':Hp) (h h':Heap):Prop where
  keep:∀ b o,h.get? b = some o→H b = none→b ∉ fs→b ∉ ex→h'.get? b = some o
  slot:∀ b o,h.get? b = some o→H b = none→b∈fs→b ∉ ex→∃ sl,h'.get? b = some { o with slots:=sl }
  free:∀ b o,h.get? b = some o→H b = none→b ∉ ex→H' b = none
  there:∀ b o,h.get? b = some o→b ∉ ex→∃ o',h'.get? b = some o'
  tups:∀ b xs,H b = some (.tup xs)→H' b = some (.tup xs)
  frzs:∀ b o u,H b = some (.frz o u)→H' b = some (.frz o u)
  tbls:∀ b ps,H b = some (.tbl ps)→∃ more,H' b = some (.tbl (ps ++ more))
section
variable {fs fs' ex ex':List Addr} {H H1 H2:Hp} {h h1 h2 h':Heap} {a x e:Addr} {o:HO}
theorem Un.any (u:Un fs ex H H1 h h1) {b:Addr} {ob:Obj} (q:h.get? b = some ob) (n:H b = none) (hx:b ∉ ex):∃ sl,h1.get? b = some { ob with slots:=sl }:=by
  by_cases hb:b∈fs
  · exact u.slot b ob q n hb hx
  · exact ⟨ob.slots,u.keep b ob q n hb hx⟩
theorem Un.kept (k:∀ b u,h.get? b = some u→h'.get? b = some u):Un fs ex H H h h' :=
  ⟨fun b ob q _ _ _=>k b ob q,fun b ob q _ _ _=>⟨ob.slots,k b ob q⟩,fun _ _ _ n _=>n,fun b ob q _=>⟨ob,k b ob q⟩,fun _ _ q=>q,fun _ _ _ q=>q,fun _ ps q=>⟨#[],by rw [q];simp⟩⟩
theorem Un.refl:Un fs ex H H h h:=Un.kept fun _ _ q=>q
theorem Un.laid (k:∀ b u,h.get? b = some u→h'.get? b = some u) (hp:h.objs.size≤a) (hn:H a = none):Un fs ex H (upd H a o) h h' where
  keep:=fun b u q _ _ _=>k b u q
  slot:=fun b u q _ _ _=>⟨u.slots,k b u q⟩
  free:=fun b u q n _=>by rw [upd_ne (Nat.ne_of_lt (Nat.lt_of_lt_of_le (Heap.lt_size q) hp))];exact n
  there:=fun b u q _=>⟨u,k b u q⟩
  tups:=fun b xs q=>by rw [upd_ne (ne_of_none q hn)];exact q
  frzs:=fun b u xs q=>by rw [upd_ne (ne_of_none q hn)];exact q
  tbls:=fun b ps q=>⟨#[],by rw [upd_ne (ne_of_none q hn),q];simp⟩
theorem Un.write (mu:Mut (H x)) (he:e = x∨H e = some (.own x)) (k:∀ b u,b≠e→h.get? b = some u→h'.get? b = some u) (heo:∃ u,h'.get? e = some u):Un fs ex H (upd H x o) h h':=by
  have hx:∀ b,H b = none→b≠x:=fun b n z=>by subst z;rw [n] at mu;exact mu
  have hb:∀ b,H b = none→b≠e:=fun b n z=>by
    subst z
    rcases he with r | r
    · exact hx b n r
    · rw [n] at r;cases r
  have hm:∀ b u,H b = some u→¬ Mut (some u)→b≠x:=fun b u q nm z=>by subst z;rw [q] at mu;exact nm mu
  refine ⟨fun b u q n _ _=>k b u (hb b n) q,fun b u q n _ _=>⟨u.slots,k b u (hb b n) q⟩,fun b u q n _=>by rw [upd_ne (hx b n)];exact n,fun b u q _=>?_,
    fun b xs q=>by rw [upd_ne (hm b _ q fun z=>z)];exact q,fun b u xs q=>by rw [upd_ne (hm b _ q fun z=>z)];exact q,fun b ps q=>⟨#[],by rw [upd_ne (hm b _ q fun z=>z),q];simp⟩⟩
  by_cases hbe:b = e
  · subst hbe;exact heo
  · exact ⟨u,k b u hbe q⟩
end
noncomputable def trk (h:Heap) (H:Hp):List Addr:=(List.range h.objs.size).filter fun a=>(H a).isSome
def hidT (h:Heap) (H:Hp):Heap:=PySem.W.hideAll h (trk h H)
theorem hidT_size (h:Heap) (H:Hp):(hidT h H).objs.size = h.objs.size:=PySem.W.hideAll_size _ _
theorem hidT_get {h:Heap} {H:Hp} {b:Addr} {o:Obj} (e:h.get? b = some o) (n:H b = none):(hidT h H).get? b = some o :=
  PySem.W.hideAll_get _ e fun hm=>by
    have q:(H b).isSome = true:=(List.mem_filter.mp hm).2
    rw [n] at q;simp at q
theorem of_hidT {h:Heap} {H:Hp} {b:Addr} {o:Obj} (e:(hidT h H).get? b = some o):h.get? b = some o∧H b = none:=by
  have e':h.get? b = some o:=PySem.W.of_hideAll (trk h H) e
  refine ⟨e',?_⟩
  cases q:H b with
  | none=>rfl
  | some x =>
    have hm:b∈trk h H:=List.mem_filter.mpr ⟨List.mem_range.mpr (Heap.lt_size e'),by simp [q]⟩
    have z:(hidT h H).get? b = none:=PySem.W.hideAll_none (trk h H) hm
    rw [z] at e;cases e
end L2
namespace L2
open PySem PySem.Spec PyProof.Rows
structure Mod (K:PySem.W.Frag) (mg:Str→Option Value) (base:Heap):Prop where
  kin:K.In base
  glob:base.Ns mainGlobals mg
  blt:∃ mb,base.Ns builtinsNs mb∧∀ x:Str,x≠"__name__"→mb x = bootBuiltins x
  nolimit:base.NoLimit
/-- the context: a def's body (or a comprehension's block) running. base: fixed through the whole law;s₀,H₀: the entry;outer: the frames whose slots others may change (a def's callers);stack: all frames that run;
   ex: iterators that were made ahead of the entry and are walked here (a comprehension's);fn: the names whose cells were made at the entry (a def: all;a comprehension's block: its own);calm: not within an except suite;pn: pins that every state bears;xe: what is wanted of an exception that leaves the code -/
structure Cx where
  prog:Program
  w:World
  K:PySem.W.Frag
  mg:Str→Option Value
  base:Heap
  A:Around
  N:List Str
  s_0:Shared
  H_0:Hp
  env:Env
  outer:List Env
  stack:List Env
  ex:List Addr
  fn:Str→Bool
  calm:Bool
  pn:List (Addr × Obj)
  xe:Value→Shared→Prop
noncomputable def frs (l:List Env):List Addr:=l.filterMap (·.frame)
abbrev Cx.fs (X:Cx):List Addr:=frs X.outer
def Vis (sc:Scope) (x:Str):Prop:=sc.names.lookup x = some .local∨sc.names.lookup x = some .cell∨sc.names.lookup x = some .free
def Loc (sc:Scope) (x:Str):Prop:=sc.names.lookup x = some .local∨sc.names.lookup x = some .cell
def Look (env:Env) (h:Heap) (m:Str→Option Value) (x:Str) (u:Value):Prop :=
  (env.kindOf x = some .local∧m x = some u)∨((env.kindOf x = some .cell∨env.kindOf x = some .free)∧∃ c,env.cells.lookup x = some c∧h.IsCell c (some u))
structure Cx.Ok (X:Cx):Prop where
  mod:Mod X.K X.mg X.base
  kind:X.env.scope.kind = .function
  glob:X.env.globals = mainGlobals
  blt:X.env.builtins = builtinsNs
  above:X.s_0.heap.objs.size≤X.env.locals
  inj:∀ x y c,X.env.cells.lookup x = some c→X.env.cells.lookup y = some c→x = y
  has:∀ x,(X.env.kindOf x = some .cell∨X.env.kindOf x = some .free)→∃ c,X.env.cells.lookup x = some c
  cab:∀ x c,X.fn x = true→X.env.cells.lookup x = some c→X.s_0.heap.objs.size≤c
  hd:X.calm = true→X.A.handled = none
  frames:X.A.frames = some X.stack
  stk:X.stack = X.outer∨(X.stack = X.env :: X.outer∧X.env.frame = some X.env.locals)
  exf:∀ b∈X.ex,b≠X.env.locals∧∀ x c,X.env.cells.lookup x = some c→c≠b
  bs:∀ b o,X.base.get? b = some o→X.s_0.heap.get? b = some o∧X.H_0 b = none
  bsz:X.base.objs.size≤X.s_0.heap.objs.size
  noex:∀ b o,X.base.get? b = some o→b ∉ X.ex
  exfs:∀ b∈X.ex,b ∉ X.fs
  funs:X.s_0.heap.FunFrames X.base X.outer
  frf:∀ b∈X.fs,X.H_0 b = none
structure Inv (X:Cx) (pins:List (Addr × Obj)) (σ:List (Option V)) (H:Hp) (s:Shared):Prop where
  ok:X.Ok
  os:s.os = X.s_0.os
  bare:AllBare s.gens
  base:Un X.fs X.ex X.H_0 H X.s_0.heap s.heap
  loc:∃ m,s.heap.Ns X.env.locals m∧∀ (i:Nat) (x:Str) (v:V),X.N[i]? = some x→σ[i]? = some (some v)→Vis X.env.scope x→∃ u,RelV v u∧Look X.env s.heap m x u
  cell:∀ x c,X.env.cells.lookup x = some c→∃ v,s.heap.IsCell c v
  free:H X.env.locals = none
  freeC:∀ x c,X.env.cells.lookup x = some c→H c = none
  pin:∀ p∈X.pn ++ pins,s.heap.get? p.1 = some p.2∧H p.1 = none∧p.1≠X.env.locals∧p.1 ∉ X.fs∧∀ v,p.2.data≠.cell v
  hok:HOk X.prog X.w H s.heap
  len:σ.length = X.N.length
section
variable {X:Cx} {pins:List (Addr × Obj)} {σ:List (Option V)} {H H':Hp} {s:Shared} {h':Heap}
theorem Cx.Ok.nofr (ok:X.Ok) {b:Addr} {o:Obj} (e:X.base.get? b = some o):b ∉ X.fs:=fun hb=>by
  have:=(ok.funs.mem hb).1
  rw [e] at this;cases this
theorem Inv.bs (I:Inv X pins σ H s):∀ b o,X.base.get? b = some o→s.heap.get? b = some o∧H b = none:=fun b o e =>
  ⟨I.base.keep b o (I.ok.bs b o e).1 (I.ok.bs b o e).2 (I.ok.nofr e) (I.ok.noex b o e),I.base.free b o (I.ok.bs b o e).1 (I.ok.bs b o e).2 (I.ok.noex b o e)⟩
theorem Inv.bk (I:Inv X pins σ H s):∀ b o,X.base.get? b = some o→s.heap.get? b = some o:=fun b o e=>(I.bs b o e).1
theorem Inv.mod (I:Inv X pins σ H s):Mod X.K X.mg X.base:=I.ok.mod
theorem Inv.kIn (I:Inv X pins σ H s):X.K.In s.heap:=I.ok.mod.kin.keeps I.bk
theorem Inv.fr (I:Inv X pins σ H s):∃ m,Fr X.base X.env.locals s.heap m :=
  let ⟨m,hn,_⟩:=I.loc
  ⟨m,hn,I.bk,Nat.le_trans I.ok.bsz I.ok.above⟩
theorem Inv.lt (I:Inv X pins σ H s):X.env.locals < s.heap.objs.size:=let ⟨_,hn,_⟩:=I.loc;hn.lt
theorem Inv.sz (I:Inv X pins σ H s):X.s_0.heap.objs.size≤s.heap.objs.size:=Nat.le_trans I.ok.above (Nat.le_of_lt I.lt)
theorem Inv.nofs (I:Inv X pins σ H s) {a:Addr} (h:s.heap.objs.size≤a):a ∉ X.fs:=fun hb=>by
  obtain ⟨_,o,ho,_⟩:=I.ok.funs.mem hb
  exact absurd (Nat.lt_of_lt_of_le (Heap.lt_size ho) (Nat.le_trans I.sz h)) (Nat.lt_irrefl _)
theorem Inv.cne (I:Inv X pins σ H s):∀ x c,X.env.cells.lookup x = some c→c≠X.env.locals:=fun x c e z=>by
  obtain ⟨v,o,ho,hd⟩:=I.cell x c e
  obtain ⟨m,⟨o',es,ep,ho',hd',_⟩,_⟩:=I.loc
  rw [z,ho'] at ho;cases ho;rw [hd'] at hd;cases hd
theorem Inv.funs (I:Inv X pins σ H s):s.heap.FunFrames X.base X.outer:=by
  have all:∀ (l:List Env),(∀ b∈frs l,b∈X.fs)→X.s_0.heap.FunFrames X.base l→s.heap.FunFrames X.base l:=by
    intro l
    induction l with
    | nil=>intro _ _;trivial
    | cons env r ih =>
      intro hs hl
      obtain ⟨hk,⟨L,o,hf,hn,ho,hd⟩,hr⟩:=hl
      have hL:L∈X.fs:=hs L (by unfold frs;rw [List.filterMap_cons,hf];exact List.mem_cons_self)
      obtain ⟨sl,e⟩:=I.base.slot L o ho (I.ok.frf L hL) hL fun z=>I.ok.exfs L z hL
      exact ⟨hk,⟨L,_,hf,hn,e,hd⟩,ih (fun b hb=>hs b (by unfold frs;rw [List.filterMap_cons,hf];exact List.mem_cons_of_mem _ hb)) hr⟩
  exact all X.outer (fun _ hb=>hb) I.ok.funs
theorem Inv.stack (I:Inv X pins σ H s):s.heap.FunFrames X.base X.stack:=by
  rcases I.ok.stk with e | ⟨e,hf⟩
  · rw [e];exact I.funs
  · rw [e]
    obtain ⟨m,hn,_⟩:=I.loc
    refine .cons (by rw [I.ok.kind];decide) hf hn ?_ I.funs
    exact Heap.get?_none_of_le (Nat.le_trans I.ok.bsz I.ok.above)
theorem Inv.stkSub (I:Inv X pins σ H s):∀ b∈frs X.stack,b∈X.env.locals :: X.fs:=fun b hb=>by
  rcases I.ok.stk with e | ⟨e,hf⟩
  · rw [e] at hb;exact List.mem_cons_of_mem _ hb
  · rw [e] at hb
    unfold frs at hb
    rw [List.filterMap_cons,hf] at hb
    exact hb
theorem Inv.stkFree (I:Inv X pins σ H s):∀ b∈frs X.stack,H b = none:=fun b hb=>by
  rcases List.mem_cons.mp (I.stkSub b hb) with e | hb
  · rw [e];exact I.free
  · obtain ⟨_,o,ho,_⟩:=I.ok.funs.mem hb
    exact I.base.free b o ho (I.ok.frf b hb) fun z=>I.ok.exfs b z hb
theorem Inv.step {g':Array GenState} {t':Nat} {d':Drawn} {ch:List Addr} (I:Inv X pins σ H s)
    (hch:∀ b∈ch,(b∈X.ex∨X.s_0.heap.objs.size≤b)∧b≠X.env.locals∧(∀ x c,X.env.cells.lookup x = some c→c≠b)∧∀ p∈X.pn ++ pins,p.1≠b)
    (keep:∀ b o,b≠X.env.locals→b ∉ X.fs→b ∉ ch→s.heap.get? b = some o→H b = none→h'.get? b = some o)
    (slot:∀ b o,b≠X.env.locals→b∈X.fs→b ∉ ch→s.heap.get? b = some o→H b = none→∃ sl,h'.get? b = some { o with slots:=sl }) (free:∀ b o,b ∉ ch→s.heap.get? b = some o→H b = none→H' b = none)
    (there:∀ b o,b ∉ ch→s.heap.get? b = some o→∃ o',h'.get? b = some o')
    (tups:∀ b xs,H b = some (.tup xs)→H' b = some (.tup xs)) (frzs:∀ b o u,H b = some (.frz o u)→H' b = some (.frz o u)) (tbls:∀ b ps,H b = some (.tbl ps)→∃ more,H' b = some (.tbl (ps ++ more)))
    (ns:∀ m,s.heap.Ns X.env.locals m→h'.Ns X.env.locals m) (hok:HOk X.prog X.w H' h') (hg:AllBare g') :
    Inv X pins σ H' { s with heap:=h',gens:=g',drawn:=d',toks:=t' }:=by
  have neL:∀ b o,X.s_0.heap.get? b = some o→b≠X.env.locals:=fun b o e=>Nat.ne_of_lt (Nat.lt_of_lt_of_le (Heap.lt_size e) I.ok.above)
  have neC:∀ b o,X.s_0.heap.get? b = some o→b ∉ X.ex→b ∉ ch:=fun b o e hx hb=>by
    rcases (hch b hb).1 with z | z
    · exact hx z
    · exact absurd (Nat.lt_of_lt_of_le (Heap.lt_size e) z) (Nat.lt_irrefl _)
  have cellK:∀ x c,X.env.cells.lookup x = some c→∀ v,s.heap.IsCell c v→h'.IsCell c v:=fun x c e v ⟨o,ho,hd⟩=>by
    have nch:c ∉ ch:=fun z=>(hch c z).2.2.1 x c e rfl
    by_cases hc:c∈X.fs
    · obtain ⟨sl,q⟩:=slot c o (I.cne x c e) hc nch ho (I.freeC x c e)
      exact ⟨_,q,hd⟩
    · exact ⟨o,keep c o (I.cne x c e) hc nch ho (I.freeC x c e),hd⟩
  refine ⟨I.ok,I.os,hg,⟨fun b o e n hb hx=>?_,fun b o e n hb hx=>?_,fun b o e n hx=>?_,fun b o e hx=>?_,fun b xs e=>tups b xs (I.base.tups b xs e),fun b o xs e=>frzs b o xs (I.base.frzs b o xs e),fun b ps e=>?_⟩,?_,fun x c e=>?_,?_,fun x c e=>?_,fun p hp=>?_,hok,I.len⟩
  · exact keep b o (neL b o e) hb (neC b o e hx) (I.base.keep b o e n hb hx) (I.base.free b o e n hx)
  · obtain ⟨sl,e1⟩:=I.base.slot b o e n hb hx
    obtain ⟨sl',e2⟩:=slot b _ (neL b o e) hb (neC b o e hx) e1 (I.base.free b o e n hx)
    exact ⟨sl',e2⟩
  · obtain ⟨o',e1⟩:=I.base.there b o e hx
    exact free b o' (neC b o e hx) e1 (I.base.free b o e n hx)
  · obtain ⟨o',e1⟩:=I.base.there b o e hx
    exact there b o' (neC b o e hx) e1
  · obtain ⟨m1,e1⟩:=I.base.tbls b ps e
    obtain ⟨m2,e2⟩:=tbls b _ e1
    exact ⟨m1 ++ m2,by rw [e2,Array.append_assoc]⟩
  · obtain ⟨m,hn,hl⟩:=I.loc
    refine ⟨m,ns m hn,fun i x v e1 e2 e3=>?_⟩
    obtain ⟨u,r,l⟩:=hl i x v e1 e2 e3
    refine ⟨u,r,?_⟩
    rcases l with l | ⟨k,c,e,z⟩
    · exact .inl l
    · exact .inr ⟨k,c,e,cellK x c e _ z⟩
  · obtain ⟨v,z⟩:=I.cell x c e
    exact ⟨v,cellK x c e v z⟩
  · obtain ⟨m,⟨o,_,_,ho,_⟩,_⟩:=I.loc
    exact free _ o (fun z=>(hch _ z).2.1 rfl) ho I.free
  · obtain ⟨v,o,ho,hd⟩:=I.cell x c e
    exact free c o (fun z=>(hch c z).2.2.1 x c e rfl) ho (I.freeC x c e)
  · obtain ⟨e,n,ne,nf,d⟩:=I.pin p hp
    have nch:p.1 ∉ ch:=fun z=>(hch p.1 z).2.2.2 p hp rfl
    exact ⟨keep p.1 p.2 ne nf nch e n,free p.1 p.2 nch e n,ne,nf,d⟩
theorem Inv.un {t':Nat} (I:Inv X pins σ H s) (u:Un X.fs [] H H' s.heap h') (hok:HOk X.prog X.w H' h'):Inv X pins σ H' { s with heap:=h',toks:=t' }:=by
  obtain ⟨m,⟨o,es,ep,ho,r⟩,_⟩:=id I.loc
  obtain ⟨sl,hL⟩:=u.any ho I.free (by simp)
  exact I.step (g':=s.gens) (d':=s.drawn) (ch:=[]) (fun _ z=>nomatch z) (fun b o _ hb _ e n=>u.keep b o e n hb (by simp)) (fun b o _ hb _ e n=>u.slot b o e n hb (by simp)) (fun b o _ e n=>u.free b o e n (by simp)) (fun b o _ e=>u.there b o e (by simp)) u.tups u.frzs u.tbls (fun m' hm=>by
    obtain ⟨o',es',ep',ho',r'⟩:=hm
    rw [ho] at ho';cases ho'
    exact ⟨_,es',ep',hL,r'⟩) hok I.bare
theorem Inv.call {g':Array GenState} {t':Nat} {d':Drawn} {ch:List Addr} (I:Inv X pins σ H s) (u:Un (frs X.stack) ch H H' s.heap h') (hok:HOk X.prog X.w H' h') (hg:AllBare g')
    (hch:∀ b∈ch,(b∈X.ex∨X.s_0.heap.objs.size≤b)∧b≠X.env.locals∧(∀ x c,X.env.cells.lookup x = some c→c≠b)∧∀ p∈X.pn ++ pins,p.1≠b) :
    Inv X pins σ H' { s with heap:=h',gens:=g',drawn:=d',toks:=t' }:=by
  obtain ⟨m,⟨o,es,ep,ho,r⟩,_⟩:=id I.loc
  obtain ⟨sl,hL⟩:=u.any ho I.free fun z=>(hch _ z).2.1 rfl
  exact I.step (ch:=ch) hch (fun b o hL hb hc e n=>u.keep b o e n (fun z=>(List.mem_cons.mp (I.stkSub b z)).elim hL hb) hc) (fun b o _ _ hc e n=>u.any e n hc) (fun b o hc e n=>u.free b o e n hc) (fun b o hc e=>u.there b o e hc) u.tups u.frzs u.tbls (fun m' hm=>by
    obtain ⟨o',es',ep',ho',r'⟩:=hm
    rw [ho] at ho';cases ho'
    exact ⟨_,es',ep',hL,r'⟩) hok hg
theorem Inv.turned {t':Nat} {it:Addr} (I:Inv X pins σ H s) (k:∀ b o,b≠it→s.heap.get? b = some o→h'.get? b = some o) (hn:H it = none) (hL:it≠X.env.locals)
    (h1:it∈X.ex∨X.s_0.heap.objs.size≤it) (h2:∀ x c,X.env.cells.lookup x = some c→c≠it) (h3:∀ p∈X.pn ++ pins,p.1≠it):Inv X pins σ H { s with heap:=h',toks:=t' }:=by
  have nit:∀ b u,H b = some u→b≠it:=fun b u e z=>by rw [z,hn] at e;cases e
  refine I.step (g':=s.gens) (d':=s.drawn) (ch:=[it]) (fun b hb=>?_) (fun b o _ _ hc e _=>k b o (fun z=>hc (by simp [z])) e) (fun b o _ _ hc e _=>⟨o.slots,k b o (fun z=>hc (by simp [z])) e⟩) (fun _ _ _ _ n=>n)
    (fun b o hc e=>⟨o,k b o (fun z=>hc (by simp [z])) e⟩) (fun _ _ e=>e) (fun _ _ _ e=>e) (fun b ps e=>⟨#[],by rw [e];simp⟩) (fun m hm=>?_) (fun b u e=>?_) I.bare
  · have e:b = it:=by simpa using hb
    subst e
    exact ⟨h1,hL,h2,h3⟩
  · obtain ⟨o,es,ep,ho,r⟩:=hm
    exact ⟨o,es,ep,k _ o (Ne.symm hL) ho,r⟩
  · refine (I.hok b u e).stay (fun c v hc q=>k c v ?_ q) (fun _ q=>q) fun _ _ q=>q
    rcases hc with z | z
    · rw [z];exact nit b u e
    · exact nit c _ z
theorem Inv.tok (I:Inv X pins σ H s) (t:Nat):Inv X pins σ H { s with toks:=t }:=I.un (h':=s.heap) (t':=t) Un.refl I.hok
theorem Inv.kept {t':Nat} (I:Inv X pins σ H s) (k:∀ b u,s.heap.get? b = some u→h'.get? b = some u):Inv X pins σ H { s with heap:=h',toks:=t' }:=I.un (Un.kept k) (I.hok.kept k)
theorem Inv.laid {a:Addr} {o:HO} {t':Nat} (I:Inv X pins σ H s) (k:∀ b u,s.heap.get? b = some u→h'.get? b = some u) (hp:s.heap.objs.size≤a) (new:ObjOk X.prog X.w (upd H a o) h' a o) :
    Inv X pins σ (upd H a o) { s with heap:=h',toks:=t' }:=I.un (Un.laid k hp (I.hok.fresh hp)) (I.hok.laid k hp new)
theorem Inv.write {x e:Addr} {o:HO} {t':Nat} (I:Inv X pins σ H s) (mu:Mut (H x)) (he:e = x∨H e = some (.own x)) (k:∀ b u,b≠e→s.heap.get? b = some u→h'.get? b = some u) (heo:∃ u,h'.get? e = some u)
    (new:ObjOk X.prog X.w (upd H x o) h' x o):Inv X pins σ (upd H x o) { s with heap:=h',toks:=t' }:=I.un (Un.write mu he k heo) (I.hok.write mu he k heo new)
theorem Inv.weak {σ':List (Option V)} (I:Inv X pins σ H s) (hl:σ'.length = σ.length) (w:∀ (i:Nat) v,σ'[i]? = some (some v)→σ[i]? = some (some v)):Inv X pins σ' H s :=
  ⟨I.ok,I.os,I.bare,I.base,let ⟨m,hn,hl'⟩:=I.loc;⟨m,hn,fun i x v e1 e2 e3=>hl' i x v e1 (w i v e2) e3⟩,I.cell,I.free,I.freeC,I.pin,I.hok,hl.trans I.len⟩
theorem Inv.pins_of {pins':List (Addr × Obj)} (I:Inv X pins σ H s) (h:∀ p∈pins',s.heap.get? p.1 = some p.2∧H p.1 = none∧p.1≠X.env.locals∧p.1 ∉ X.fs∧∀ v,p.2.data≠.cell v):Inv X pins' σ H s :=
  ⟨I.ok,I.os,I.bare,I.base,I.loc,I.cell,I.free,I.freeC,fun p hp=>(List.mem_append.mp hp).elim (fun z=>I.pin p (List.mem_append_left _ z)) (h p),I.hok,I.len⟩
theorem nodup_ix {N:List Str} (hN:N.Nodup) {i j:Nat} {x:Str} (a:N[i]? = some x) (b:N[j]? = some x):i = j:=by
  obtain ⟨h1,e1⟩:=List.getElem?_eq_some_iff.mp a
  obtain ⟨h2,e2⟩:=List.getElem?_eq_some_iff.mp b
  exact (List.getElem_inj hN).mp (e1.trans e2.symm)
theorem store_ok2 {M:Model} {A:Around} {E:Value→Shared→Prop} {i:Nat} {x:Str} {v:V} {u:Value} {Q:Unit→Shared→Prop} (I:Inv X pins σ H s) (hN:X.N.Nodup) (hi:X.N[i]? = some x) (hx:Loc X.env.scope x) (r:RelV v u)
    (h:∀ s',Inv X pins (σ.set i (some v)) H s'→(∃ a,Heap.SameBut a s.heap s'.heap∧(a = X.env.locals∨X.env.cells.lookup x = some a))→Q () s') (hf:X.fn x = true∨X.env.scope.names.lookup x = some .local:=by first | exact .inl rfl | exact .inr rfl | assumption):wpAny M A (storeName X.env x u) Q E s:=by
  obtain ⟨m,hn,hl⟩:=id I.loc
  have hcls:(X.env.scope.kind == .class || (X.env.scope.kind == .module && X.env.locals != X.env.globals)) = false:=by rw [I.ok.kind];rfl
  have hiσ:i < σ.length:=by rw [I.len];exact (List.getElem?_eq_some_iff.mp hi).1
  have cne:=I.cne
  have tracked:∀ {a:Addr} {h':Heap},(∃ o,s.heap.get? a = some o∧H a = none)→Heap.SameBut a s.heap h'→HOk X.prog X.w H h':=fun {a h'} ha hs b ob e=>by
    obtain ⟨_,_,hfree⟩:=ha
    refine (I.hok b ob e).stay (fun c w' hc q=>(hs.2 c ?_).trans q) (fun _ q=>q) fun _ _ q=>q
    rintro rfl
    rcases hc with rfl | hc
    · rw [hfree] at e;cases e
    · rw [hfree] at hc;cases hc
  rcases hx with hk | hk
  · refine wpAny_storeName_local hk hn (fun h' hn' hs=>?_) hcls
    obtain ⟨oL,_,_,hoL,_⟩:=id hn
    refine h _ ⟨I.ok,I.os,I.bare,⟨fun b o e n hb hx=>?_,fun b o e n hb hx=>?_,I.base.free,fun b o e hx=>?_,I.base.tups,I.base.frzs,I.base.tbls⟩,⟨_,hn',fun j y v' e1 e2 e3=>?_⟩,fun y c e=>?_,I.free,I.freeC,fun p hp=>?_,tracked ⟨oL,hoL,I.free⟩ hs,by simpa using I.len⟩ ⟨_,hs,.inl rfl⟩
    · exact (hs.2 b (Nat.ne_of_lt (Nat.lt_of_lt_of_le (Heap.lt_size e) I.ok.above))).trans (I.base.keep b o e n hb hx)
    · obtain ⟨sl,e1⟩:=I.base.slot b o e n hb hx
      exact ⟨sl,(hs.2 b (Nat.ne_of_lt (Nat.lt_of_lt_of_le (Heap.lt_size e) I.ok.above))).trans e1⟩
    · obtain ⟨o',e1⟩:=I.base.there b o e hx
      exact ⟨o',(hs.2 b (Nat.ne_of_lt (Nat.lt_of_lt_of_le (Heap.lt_size e) I.ok.above))).trans e1⟩
    · by_cases hj:j = i
      · subst hj
        rw [hi] at e1;cases e1
        rw [List.getElem?_set_self hiσ] at e2
        cases e2
        exact ⟨u,r,.inl ⟨hk,by simp⟩⟩
      · rw [List.getElem?_set_ne (Ne.symm hj)] at e2
        obtain ⟨u',r',q⟩:=hl j y v' e1 e2 e3
        refine ⟨u',r',?_⟩
        rcases q with ⟨k,e⟩ | ⟨k,c,e,z⟩
        · refine .inl ⟨k,?_⟩
          have:y≠x:=fun e=>hj (nodup_ix hN e1 (e ▸ hi))
          simp [this,e]
        · exact .inr ⟨k,c,e,z.sameBut hs (cne y c e)⟩
    · obtain ⟨w',z⟩:=I.cell y c e
      exact ⟨w',z.sameBut hs (cne y c e)⟩
    · obtain ⟨e,n,ne,nf,d⟩:=I.pin p hp
      exact ⟨(hs.2 p.1 ne).trans e,n,ne,nf,d⟩
  · have hfn:X.fn x = true:=by
      rcases hf with z | z
      · exact z
      · rw [z] at hk;cases hk
    obtain ⟨c,hc⟩:=I.ok.has x (.inl hk)
    obtain ⟨w',z⟩:=I.cell x c hc
    refine wpAny_storeName_cell I.ok.kind hk hc z (fun h' hc' hs=>?_)
    obtain ⟨oc,hoc,hocd⟩:=id z
    refine h { s with heap:=h' } ⟨I.ok,I.os,I.bare,⟨fun b o e n hb hx=>?_,fun b o e n hb hx=>?_,I.base.free,fun b o e hx=>?_,I.base.tups,I.base.frzs,I.base.tbls⟩,⟨m,hn.sameBut hs (Ne.symm (cne x c hc)),fun j y v' e1 e2 e3=>?_⟩,fun y c' e=>?_,I.free,I.freeC,fun p hp=>?_,tracked ⟨oc,hoc,I.freeC x c hc⟩ hs,by simpa using I.len⟩ ⟨c,hs,.inr hc⟩
    · exact (hs.2 b (Nat.ne_of_lt (Nat.lt_of_lt_of_le (Heap.lt_size e) (I.ok.cab x c hfn hc)))).trans (I.base.keep b o e n hb hx)
    · obtain ⟨sl,e1⟩:=I.base.slot b o e n hb hx
      exact ⟨sl,(hs.2 b (Nat.ne_of_lt (Nat.lt_of_lt_of_le (Heap.lt_size e) (I.ok.cab x c hfn hc)))).trans e1⟩
    · obtain ⟨o',e1⟩:=I.base.there b o e hx
      exact ⟨o',(hs.2 b (Nat.ne_of_lt (Nat.lt_of_lt_of_le (Heap.lt_size e) (I.ok.cab x c hfn hc)))).trans e1⟩
    · by_cases hj:j = i
      · subst hj
        rw [hi] at e1;cases e1
        rw [List.getElem?_set_self hiσ] at e2
        cases e2
        exact ⟨u,r,.inr ⟨.inl hk,c,hc,hc'⟩⟩
      · rw [List.getElem?_set_ne (Ne.symm hj)] at e2
        obtain ⟨u',r',q⟩:=hl j y v' e1 e2 e3
        refine ⟨u',r',?_⟩
        rcases q with q | ⟨k,c',e,z'⟩
        · exact .inl q
        · refine .inr ⟨k,c',e,z'.sameBut hs ?_⟩
          rintro rfl
          exact hj (nodup_ix hN e1 (I.ok.inj _ _ _ e hc ▸ hi))
    · by_cases hcc:c' = c
      · subst hcc;exact ⟨_,hc'⟩
      · obtain ⟨w2,z2⟩:=I.cell y c' e
        exact ⟨w2,z2.sameBut hs hcc⟩
    · obtain ⟨e,n,ne,nf,d⟩:=I.pin p hp
      refine ⟨(hs.2 p.1 ?_).trans e,n,ne,nf,d⟩
      intro q
      rw [q,hoc] at e
      have q':oc = p.2:=Option.some.inj e
      exact d w' (by rw [← q'];exact hocd)
theorem store_ok {M:Model} {A:Around} {E:Value→Shared→Prop} {i:Nat} {x:Str} {v:V} {u:Value} {Q:Unit→Shared→Prop} (I:Inv X pins σ H s) (hN:X.N.Nodup) (hi:X.N[i]? = some x) (hx:Loc X.env.scope x) (r:RelV v u)
    (h:∀ s',Inv X pins (σ.set i (some v)) H s'→Q () s') (hf:X.fn x = true∨X.env.scope.names.lookup x = some .local:=by first | exact .inl rfl | exact .inr rfl | assumption):wpAny M A (storeName X.env x u) Q E s :=
  store_ok2 I hN hi hx r (fun s' I' _=>h s' I') hf
theorem Inv.call' {s':Shared} {ch:List Addr} (I:Inv X pins σ H s) (ho:s'.os = s.os) (u:Un (frs X.stack) ch H H' s.heap s'.heap) (hok:HOk X.prog X.w H' s'.heap) (hg:AllBare s'.gens)
    (hch:∀ b∈ch,(b∈X.ex∨X.s_0.heap.objs.size≤b)∧b≠X.env.locals∧(∀ x c,X.env.cells.lookup x = some c→c≠b)∧∀ p∈X.pn ++ pins,p.1≠b):Inv X pins σ H' s':=by
  obtain ⟨h',g',d',t',o'⟩:=s'
  have e:o' = s.os:=ho
  subst e
  exact I.call (g':=g') (t':=t') (d':=d') u hok hg hch
end
abbrev XK:=Value→Option Addr→Hp→Prop
abbrev St:=List (Option V)
abbrev VK:=V→Hp→Prop
abbrev TE:=St→Hp→VK→Prop
abbrev TT:=St→Hp→(Bool→Hp→Prop)→Prop
abbrev TA:=St→Hp→(List V→Hp→Prop)→Prop
structure Ends where
  nx:St→Hp→Prop
  rt:VK
  bk:St→Hp→Prop:=fun _ _=>False
  ct:St→Hp→Prop:=fun _ _=>False
abbrev TS:=Ends→St→Hp→Prop
def EP (X:Cx) (pins:List (Addr × Obj)) (σ:St) (Q:VK) (u:Value) (s':Shared):Prop:=∃ v H',Inv X pins σ H' s'∧RelV v u∧Q v H'
def TP (X:Cx) (pins:List (Addr × Obj)) (σ:St) (Q:Bool→Hp→Prop) (b:Bool) (s':Shared):Prop:=∃ H',Inv X pins σ H' s'∧Q b H'
def AP (X:Cx) (pins:List (Addr × Obj)) (σ:St) (Q:List V→Hp→Prop) (us:List Value) (s':Shared):Prop:=∃ vs H',Inv X pins σ H' s'∧Vals vs us∧Q vs H'
def SP (X:Cx) (pins:List (Addr × Obj)) (D:Ends) (f:Flow) (s':Shared):Prop :=
  match f with
  | .next=>∃ σ' H',Inv X pins σ' H' s'∧D.nx σ' H'
  | .brk=>∃ σ' H',Inv X pins σ' H' s'∧D.bk σ' H'
  | .cont=>∃ σ' H',Inv X pins σ' H' s'∧D.ct σ' H'
  | .ret u=>∃ v σ' H',Inv X pins σ' H' s'∧RelV v u∧D.rt v H'
def PE (X:Cx) (e:Expr) (t:TE):Prop :=
  ∀ (pins:List (Addr × Obj)) (s:Shared) (σ:St) (H:Hp) (Q:VK),Inv X pins σ H s→t σ H Q→wpAny (model X.prog X.w) X.A (eval e X.env) (EP X pins σ Q) X.xe s
def PT (X:Cx) (e:Expr) (t:TT):Prop :=
  ∀ (pins:List (Addr × Obj)) (s:Shared) (σ:St) (H:Hp) (Q:Bool→Hp→Prop),Inv X pins σ H s→t σ H Q→wpAny (model X.prog X.w) X.A (isTrue e X.env (eval e X.env)) (TP X pins σ Q) X.xe s
def PW (X:Cx) (e:Expr) (t:TT):Prop :=
  ∀ (whole:Sem Value) (pins:List (Addr × Obj)) (s:Shared) (σ:St) (H:Hp) (Q:Bool→Hp→Prop),Inv X pins σ H s→t σ H Q→wpAny (model X.prog X.w) X.A (isTrue e X.env whole) (TP X pins σ Q) X.xe s
theorem PW.pt {X:Cx} {e:Expr} {t:TT} (h:PW X e t):PT X e t:=h _
def PA (X:Cx) (es:List Expr) (t:TA):Prop :=
  ∀ (pos:Pos) (pins:List (Addr × Obj)) (s:Shared) (σ:St) (H:Hp) (Q:List V→Hp→Prop),Inv X pins σ H s→t σ H Q→wpAny (model X.prog X.w) X.A (spliced (backTo pos (starEach es X.env))) (AP X pins σ Q) X.xe s
def PS (X:Cx) (st:Stmt) (t:TS):Prop :=
  ∀ (pins:List (Addr × Obj)) (s:Shared) (σ:St) (H:Hp) (D:Ends),Inv X pins σ H s→t D σ H→wpAny (model X.prog X.w) X.A (exec st X.env) (SP X pins D) X.xe s
def PSs (X:Cx) (st:List Stmt) (t:TS):Prop :=
  ∀ (pins:List (Addr × Obj)) (s:Shared) (σ:St) (H:Hp) (D:Ends),Inv X pins σ H s→t D σ H→wpAny (model X.prog X.w) X.A (execs st X.env) (SP X pins D) X.xe s
theorem thn {α:Type} {t:Sem α} {Q Q':α→Shared→Prop} {M:Model} {A:Around} {E:Value→Shared→Prop} {s:Shared} (h:wpAny M A t Q E s) (hQ:∀ a s,Q a s→Q' a s):wpAny M A t Q' E s:=wpAny_mono h hQ fun _ _ x=>x
end L2
namespace L2
open PySem PySem.Spec PyProof.Rows
section
variable {X:Cx}
theorem bin {a b:Expr} {ta tb:TE} (ha:PE X a ta) (hb:PE X b tb) {pins:List (Addr × Obj)} {s:Shared} {σ:St} {H:Hp} {R:V→V→Hp→Prop} (I:Inv X pins σ H s) (h:ta σ H fun x H1=>tb σ H1 fun y H2=>R x y H2)
    {α:Type} {Q:α→Shared→Prop} {f:Value→Value→Sem α}
    (hf:∀ v u s2 x y H2,Inv X pins σ H2 s2→RelV x v→RelV y u→R x y H2→wpAny (model X.prog X.w) X.A (f v u) Q X.xe s2) :
    wpAny (model X.prog X.w) X.A (eval a X.env) (fun v s₁=>wpAny (model X.prog X.w) X.A (eval b X.env) (fun u s₂=>wpAny (model X.prog X.w) X.A (f v u) Q X.xe s₂) X.xe s₁) X.xe s:=by
  refine thn (ha pins s σ H _ I h) fun v s1 ⟨x,H1,I1,r1,q1⟩=>?_
  refine thn (hb pins s1 σ H1 _ I1 q1) fun u s2 ⟨y,H2,I2,r2,q2⟩=>?_
  exact hf v u s2 x y H2 I2 r1 r2 q2
def tVar (i:Nat):TE:=fun σ H Q=>∃ v,σ[i]? = some (some v)∧Q v H
def tC (v:V):TE:=fun _ H Q=>Q v H
theorem pe_var {i:Nat} {x:Str} {pos:Pos} (hN:X.N[i]? = some x) (hv:Vis X.env.scope x) (hd:(x == ("__debug__":Str)) = false:=by decide) (hcd:(x == ("__classdict__":Str)) = false:=by decide):PE X (.Name x pos) (tVar i):=by
  intro pins s σ H Q I h
  obtain ⟨v,e,h⟩:=h
  obtain ⟨m,hn,hl⟩:=I.loc
  obtain ⟨u,r,l⟩:=hl i x v hN e hv
  have fin:EP X pins σ Q u s:=⟨v,H,I,r,h⟩
  rcases l with ⟨hk,hm⟩ | ⟨hk,c,hc,hcell⟩
  · exact wpAny_Name (wpAny_loadName_local I.ok.kind hk hn hm fin) hd
  · rcases hk with hk | hk
    · exact wpAny_Name (wpAny_loadName_cell I.ok.kind hk hc hcell fin) hd
    · exact wpAny_Name (wpAny_loadName_free I.ok.kind hk hc hcell fin hcd) hd
theorem pe_int {i j pos}:PE X (.Constant (.int i) j pos) (tC (.int i)):=fun _ _ _ H _ I h=>wpAny_Constant_int ⟨.int i,H,I.tok _,⟨_,rfl⟩,h⟩
theorem pe_bl {b j pos}:PE X (.Constant (.bool b) j pos) (tC (.bl b)):=fun _ _ _ H _ I h=>Constant_bool ⟨.bl b,H,I,rfl,h⟩
def Gl (X:Cx) (x:Str):Prop:=X.env.kindOf x = some .globalImplicit
theorem ld_glob {E:Value→Shared→Prop} {pins:List (Addr × Obj)} {s:Shared} {σ:St} {H:Hp} {x:Str} {u:Value} {pos:Pos} {Q:Value→Shared→Prop} (I:Inv X pins σ H s) (hg:Gl X x) (hm:X.mg x = some u) (h:Q u s)
    (hd:(x == ("__debug__":Str)) = false:=by decide):wpAny (model X.prog X.w) X.A (eval (.Name x pos) X.env) Q E s :=
  Calls.Name_function_global I.ok.kind hg (Calls.loadGlobal_global (by rw [I.ok.glob];exact I.mod.glob.keeps I.bk) hm h) hd
theorem ld_blt {E:Value→Shared→Prop} {pins:List (Addr × Obj)} {s:Shared} {σ:St} {H:Hp} {x:Str} {u:Value} {pos:Pos} {Q:Value→Shared→Prop} (I:Inv X pins σ H s) (hg:Gl X x) (hm:X.mg x = none) (hv:bootBuiltins x = some u) (h:Q u s)
    (hn:x≠"__name__":=by decide) (hd:(x == ("__debug__":Str)) = false:=by decide):wpAny (model X.prog X.w) X.A (eval (.Name x pos) X.env) Q E s:=by
  obtain ⟨mb,h1,h2⟩:=I.mod.blt
  exact Calls.Name_function_global I.ok.kind hg (Calls.loadGlobal_builtin (by rw [I.ok.glob];exact I.mod.glob.keeps I.bk) hm (by rw [I.ok.blt];exact h1.keeps I.bk) ((h2 x hn).trans hv) h) hd
theorem pe_glob {x:Str} {v:V} {u:Value} {pos:Pos} (hg:Gl X x) (hm:X.mg x = some u) (r:RelV v u) (hd:(x == ("__debug__":Str)) = false:=by decide):PE X (.Name x pos) (tC v) :=
  fun _ _ _ H _ I h=>ld_glob I hg hm ⟨v,H,I,r,h⟩ hd
variable {a b:Expr} {ta tb:TE} {pos:Pos}
def PC (X:Cx) (op:CmpOp) (a b:Expr) (t:TE):Prop :=
  ∀ (pins:List (Addr × Obj)) (s:Shared) (σ:St) (H:Hp) (Q:VK),Inv X pins σ H s→t σ H Q →
    wpAny (model X.prog X.w) X.A (eval a X.env) (fun v s₁=>wpAny (model X.prog X.w) X.A (eval b X.env) (fun u s₂=>wpAny (model X.prog X.w) X.A (compareOp op v u) (EP X pins σ Q) X.xe s₂) X.xe s₁) X.xe s
def tB (t:TE):TT:=fun σ H Q=>t σ H fun x H1=>∃ c,x = .bl c∧Q c H1
theorem pt_cmp {op:CmpOp} {t:TE} (h:PC X op a b t) (h1:behindInMarks op b = false:=by first | exact nobehind _ (by decide) (by decide) | rfl):PT X (.Compare a [op] [b] pos) (tB t):=by
  intro pins s σ H Q I hw
  refine wpAny_isTrue_Compare1 (thn (h pins s σ H _ I hw) fun v s1 h1=>thn h1 fun u s2 h2=>thn h2 fun c s3 ⟨x,H1,I1,r1,q1⟩=>?_) h1
  obtain ⟨d,rfl,q⟩:=q1
  cases r1
  exact wpAny_truthy_bool ⟨H1,I1,q⟩
theorem pt_val {e:Expr} {t:TE} (h:PE X e t) (he:∀ whole,isTrue e X.env whole = (do let v ← whole;standAt e.pos;holding [v] (truthy v)):=by intro _;rfl):PT X e (tB t):=by
  intro pins s σ H Q I hw
  refine isTrue_plain (thn (h pins s σ H _ I hw) fun v s1 ⟨x,H1,I1,r1,q1⟩=>?_) (he _)
  obtain ⟨d,rfl,q⟩:=q1
  cases r1
  exact wpAny_truthy_bool ⟨H1,I1,q⟩
variable {tA tB':TT} {rest:List Expr}
def tAnd (t u:TT):TT:=fun σ H Q=>t σ H fun c H1=>if c = true then u σ H1 Q else Q false H1
def tOr (t u:TT):TT:=fun σ H Q=>t σ H fun c H1=>if c = true then Q true H1 else u σ H1 Q
def tNot (t:TT):TT:=fun σ H Q=>t σ H fun c H1=>Q (!c) H1
theorem pw_and1 (ha:PT X a tA):PW X (.BoolOp .And [a] pos) tA:=by
  intro wh pins s σ H Q I h
  refine isTrue_and (thn (ha pins s σ H Q I h) fun c s1 e=>?_)
  cases c with
  | true=>exact isTrue_and_nil e
  | false=>exact e
theorem pw_or1 (ha:PT X a tA):PW X (.BoolOp .Or [a] pos) tA:=by
  intro wh pins s σ H Q I h
  refine isTrue_or (thn (ha pins s σ H Q I h) fun c s1 e=>?_)
  cases c with
  | false=>exact isTrue_or_nil e
  | true=>exact e
theorem pw_and (ha:PT X a tA) (hb:PW X (.BoolOp .And (b :: rest) pos) tB'):PW X (.BoolOp .And (a :: b :: rest) pos) (tAnd tA tB'):=by
  intro wh pins s σ H Q I h
  refine isTrue_and (thn (ha pins s σ H _ I h) fun c s1 ⟨H1,I1,q1⟩=>?_)
  cases c with
  | true=>exact hb wh pins s1 σ H1 Q I1 q1
  | false=>exact ⟨H1,I1,q1⟩
theorem pw_or (ha:PT X a tA) (hb:PW X (.BoolOp .Or (b :: rest) pos) tB'):PW X (.BoolOp .Or (a :: b :: rest) pos) (tOr tA tB'):=by
  intro wh pins s σ H Q I h
  refine isTrue_or (thn (ha pins s σ H _ I h) fun c s1 ⟨H1,I1,q1⟩=>?_)
  cases c with
  | true=>exact ⟨H1,I1,q1⟩
  | false=>exact hb wh pins s1 σ H1 Q I1 q1
theorem pt_not (ha:PT X a tA):PT X (.UnaryOp .Not a pos) (tNot tA):=by
  intro pins s σ H Q I h
  exact isTrue_not (ha pins s σ H (fun c H1=>Q (!c) H1) I h)
def tIf (t:TT) (ta tb:TE):TE:=fun σ H Q=>t σ H fun c H1=>if c = true then ta σ H1 Q else tb σ H1 Q
theorem pe_ifExp {c:Expr} (hc:PT X c tA) (ha:PE X a ta) (hb:PE X b tb):PE X (.IfExp c a b pos) (tIf tA ta tb):=by
  intro pins s σ H Q I h
  refine wpAny_IfExp (thn (hc pins s σ H _ I h) fun d s1 ⟨H1,I1,q1⟩=>?_)
  cases d with
  | true=>exact ha pins s1 σ H1 Q I1 q1
  | false=>exact hb pins s1 σ H1 Q I1 q1
end
end L2
namespace L2
open PySem PySem.Spec PyProof.Rows
def SqL (K:PySem.W.Frag) (H:Hp) (a:Addr) (xs:List V):Prop :=
  Rd H a (.lst xs) ∨
    ∃ (o:Obj) (its:Array Value) (n:Nat),K.lookup a = some o∧o.cls = .type "list"∧o.dict = none∧o.data = .seq its n∧its.size≤sizeLine∧Vals xs its.toList
def SqT (K:PySem.W.Frag) (H:Hp) (a:Addr) (xs:List V):Prop :=
  Rd H a (.tup xs) ∨
    ∃ (o:Obj) (its:Array Value) (n:Nat),K.lookup a = some o∧o.cls = .type "tuple"∧o.data = .seq its n∧its.size≤sizeLine∧Vals xs its.toList
noncomputable def absV:Value→Option V
  | .none=>some .non
  | .bool b=>some (.bl b)
  | .int i _=>some (.int i)
  | .str x _=>some (.str x)
  | .bytes b _=>some (.byt b)
  | .float b _=>some (.flt b)
  | .ref a=>some (.ref a)
  | .type n=>some (.ty n)
  | _=>none
theorem RelV.abs {x:V} {u:Value} (r:RelV x u):absV u = some x:=by
  cases x with
  | non=>cases r;rfl
  | bl _=>cases r;rfl
  | int _=>obtain ⟨t,rfl⟩:=r;rfl
  | str _=>obtain ⟨t,rfl⟩:=r;rfl
  | byt _=>obtain ⟨t,rfl⟩:=r;rfl
  | flt _=>obtain ⟨t,rfl⟩:=r;rfl
  | ref _=>cases r;rfl
  | ty _=>cases r;rfl
theorem RelV.inj {x y:V} {u:Value} (r:RelV x u) (q:RelV y u):x = y:=Option.some.inj (r.abs.symm.trans q.abs)
theorem Vals.inj:∀ {xs ys:List V} {us:List Value},Vals xs us→Vals ys us→xs = ys
  | _,_,_,.nil,.nil=>rfl
  | _,_,_,.cons r t,.cons r' t'=>by rw [r.inj r',Vals.inj t t']
section
variable {X:Cx} {pins:List (Addr × Obj)} {σ:St} {H:Hp} {s:Shared} {a:Addr} {xs ys:List V}
theorem SqL.of {K:PySem.W.Frag} (h:H a = some (.lst xs)):SqL K H a xs:=.inl (.inl h)
theorem SqT.of {K:PySem.W.Frag} (h:H a = some (.tup xs)):SqT K H a xs:=.inl (.inl h)
theorem Inv.list (I:Inv X pins σ H s) (h:SqL X.K H a xs):∃ its:List Value,Vals xs its∧PlainL s.heap a its.toArray∧xs.length≤sizeLine:=by
  rcases h with h | ⟨o,its,n,hk,hc,hd,hs,hz,r⟩
  · obtain ⟨z,its,n,r,e⟩:=h.ok I.hok
    exact ⟨its,r,⟨_,n,e,rfl,rfl,rfl⟩,z⟩
  · refine ⟨its.toList,r,⟨o,n,I.kIn a o hk,hc,hd,by simpa using hs⟩,?_⟩
    have e:=r.length
    simp only [Array.length_toList] at e
    omega
theorem Inv.tuple (I:Inv X pins σ H s) (h:SqT X.K H a xs):∃ its:List Value,Vals xs its∧IsTup s.heap a its.toArray∧xs.length≤sizeLine:=by
  rcases h with h | ⟨o,its,n,hk,hc,hs,hz,r⟩
  · obtain ⟨z,its,r,p⟩:=h.ok I.hok
    exact ⟨its,r,p,z⟩
  · refine ⟨its.toList,r,⟨o,I.kIn a o hk,hc,n,by simpa using hs⟩,?_⟩
    have e:=r.length
    simp only [Array.length_toList] at e
    omega
theorem Inv.list_inj (I:Inv X pins σ H s) (h:SqL X.K H a xs) (h':SqL X.K H a ys):xs = ys:=by
  obtain ⟨its,r,⟨o,n,e,_,_,d⟩,_⟩:=I.list h
  obtain ⟨its',r',⟨o',n',e',_,_,d'⟩,_⟩:=I.list h'
  rw [e] at e';cases e'
  rw [d] at d'
  injection d' with d1 _
  have:its = its':=by simpa using congrArg Array.toList d1
  subst this
  exact r.inj r'
theorem Inv.tuple_inj (I:Inv X pins σ H s) (h:SqT X.K H a xs) (h':SqT X.K H a ys):xs = ys:=by
  obtain ⟨its,r,⟨o,e,_,n,d⟩,_⟩:=I.tuple h
  obtain ⟨its',r',⟨o',e',_,n',d'⟩,_⟩:=I.tuple h'
  rw [e] at e';cases e'
  rw [d] at d'
  injection d' with d1 _
  have:its = its':=by simpa using congrArg Array.toList d1
  subst this
  exact r.inj r'
end
abbrev Cx.wish (X:Cx) (E:Value→Shared→Prop):Cx:={ X with xe:=E }
abbrev Cx.nox (X:Cx):Cx:=X.wish fun _ _=>False
theorem Cx.Ok.wish {X:Cx} (ok:X.Ok) (E:Value→Shared→Prop):(X.wish E).Ok :=
  ⟨ok.mod,ok.kind,ok.glob,ok.blt,ok.above,ok.inj,ok.has,ok.cab,ok.hd,ok.frames,ok.stk,ok.exf,ok.bs,ok.bsz,ok.noex,ok.exfs,ok.funs,ok.frf⟩
theorem Cx.Ok.unwish {X:Cx} {E:Value→Shared→Prop} (ok:(X.wish E).Ok):X.Ok :=
  ⟨ok.mod,ok.kind,ok.glob,ok.blt,ok.above,ok.inj,ok.has,ok.cab,ok.hd,ok.frames,ok.stk,ok.exf,ok.bs,ok.bsz,ok.noex,ok.exfs,ok.funs,ok.frf⟩
section
variable {X:Cx} {pins:List (Addr × Obj)} {σ:St} {H:Hp} {s:Shared} {E:Value→Shared→Prop}
theorem Inv.wish (I:Inv X pins σ H s) (E:Value→Shared→Prop):Inv (X.wish E) pins σ H s:=⟨I.ok.wish E,I.os,I.bare,I.base,I.loc,I.cell,I.free,I.freeC,I.pin,I.hok,I.len⟩
theorem Inv.unwish (I:Inv (X.wish E) pins σ H s):Inv X pins σ H s:=⟨I.ok.unwish,I.os,I.bare,I.base,I.loc,I.cell,I.free,I.freeC,I.pin,I.hok,I.len⟩
theorem SP.unwish {D:Ends} {f:Flow} {s':Shared} (h:SP (X.wish E) pins D f s'):SP X pins D f s':=by
  cases f with
  | next=>obtain ⟨σ',H',I,q⟩:=h;exact ⟨σ',H',I.unwish,q⟩
  | brk=>obtain ⟨σ',H',I,q⟩:=h;exact ⟨σ',H',I.unwish,q⟩
  | cont=>obtain ⟨σ',H',I,q⟩:=h;exact ⟨σ',H',I.unwish,q⟩
  | ret u=>obtain ⟨v,σ',H',I,r,q⟩:=h;exact ⟨v,σ',H',I.unwish,r,q⟩
theorem PSs.nox {st:List Stmt} {t:TS} (h:PSs X.nox st t):PSs X st t:=fun pins s σ H D I hw =>
  wpAny_mono (h pins s σ H D (I.wish _) hw) (fun _ _ q=>q.unwish) fun _ _ z=>False.elim z
end
section
variable {X:Cx} {st:Stmt} {rest:List Stmt} {t u:TS} {e:Expr} {te:TE} {pos:Pos}
def tNext:TS:=fun D σ H=>D.nx σ H
def tSeq (t u:TS):TS:=fun D σ H=>t { D with nx:=u D } σ H
theorem pss_nil:PSs X [] tNext:=fun _ _ σ H _ I h=>wpAny_execs_nil ⟨σ,H,I,h⟩
theorem pss_cons (h1:PS X st t) (h2:PSs X rest u):PSs X (st :: rest) (tSeq t u):=by
  intro pins s σ H D I h
  refine wpAny_execs_cons (thn (h1 pins s σ H { D with nx:=u D } I h) fun f s1 q=>?_)
  cases f with
  | next =>
    obtain ⟨σ',H',I',q⟩:=q
    exact h2 pins s1 σ' H' D I' q
  | ret v=>exact q
  | brk=>exact q
  | cont=>exact q
theorem pss_one (h1:PS X st t):PSs X [st] t:=by
  intro pins s σ H D I h
  refine wpAny_execs_cons (thn (h1 pins s σ H D I h) fun f s1 q=>?_)
  cases f with
  | next=>exact wpAny_execs_nil q
  | ret v=>exact q
  | brk=>exact q
  | cont=>exact q
theorem Inv.quiet {pins:List (Addr × Obj)} {σ:St} {H:Hp} {s:Shared} (I:Inv X pins σ H s):interactive X.env = false:=by simp [interactive,I.ok.kind]
def tDrop (te:TE):TS:=fun D σ H=>te σ H fun _ H1=>D.nx σ H1
theorem ps_expr (he:PE X e te) (hs:swapsWith e none pos.line X.env = pure false:=by rfl):PS X (.Expr e pos) (tDrop te):=by
  intro pins s σ H D I h
  exact wpAny_Expr_any (thn (he pins s σ H _ I h) fun v s1 ⟨x,H1,I1,r1,q1⟩=>⟨σ,H1,I1,q1⟩) I.quiet hs
def tRet (te:TE):TS:=fun D σ H=>te σ H D.rt
theorem ps_ret (he:PE X e te):PS X (.Return (some e) pos) (tRet te):=by
  intro pins s σ H D I h
  exact wpAny_Return_some (thn (he pins s σ H _ I h) fun v s1 ⟨x,H1,I1,r1,q1⟩=>⟨x,σ,H1,I1,r1,q1⟩)
def tIfS (c:TT) (t u:TS):TS:=fun D σ H=>c σ H fun b H1=>if b = true then t D σ H1 else u D σ H1
theorem ps_if {c:Expr} {a b:List Stmt} {tc:TT} (hc:PT X c tc) (ha:PSs X a t) (hb:PSs X b u):PS X (.If c a b pos) (tIfS tc t u):=by
  intro pins s σ H D I h
  refine wpAny_If (thn (hc pins s σ H _ I h) fun d s1 ⟨H1,I1,q1⟩=>?_)
  cases d with
  | true=>exact ha pins s1 σ H1 D I1 q1
  | false=>exact hb pins s1 σ H1 D I1 q1
def tNever:TS:=fun _ _ _=>False
theorem pss_never {sts:List Stmt}:PSs X sts tNever:=fun _ _ _ _ _ _ h=>h.elim
end
abbrev TG:=V→St→Hp→(St→Hp→Prop)→Prop
abbrev TGs:=List V→St→Hp→(St→Hp→Prop)→Prop
def PG (X:Cx) (target:Expr) (t:TG):Prop :=
  ∀ (pins:List (Addr × Obj)) (s:Shared) (σ:St) (H:Hp) (v:V) (u:Value) (Q:St→Hp→Prop),Inv X pins σ H s→RelV v u→t v σ H Q →
    wpAny (model X.prog X.w) X.A (assign target X.env u) (fun _ s'=>∃ σ' H',Inv X pins σ' H' s'∧Q σ' H') X.xe s
def PGs (X:Cx) (ts:List Expr) (t:TGs):Prop :=
  ∀ (pins:List (Addr × Obj)) (s:Shared) (σ:St) (H:Hp) (vs:List V) (us:List Value) (Q:St→Hp→Prop),Inv X pins σ H s→Vals vs us→t vs σ H Q →
    wpAny (model X.prog X.w) X.A (assignInOrder ((assignEach ts X.env).map (·.2)) us) (fun _ s'=>∃ σ' H',Inv X pins σ' H' s'∧Q σ' H') X.xe s
abbrev TIp:=V→V→Hp→VK→Prop
def PIp (X:Cx) (op:Operator) (t:TIp):Prop :=
  ∀ (pins:List (Addr × Obj)) (s:Shared) (σ:St) (H:Hp) (x y:V) (v u:Value) (Q:VK),Inv X pins σ H s→RelV x v→RelV y u→t x y H Q →
    wpAny (model X.prog X.w) X.A (inplaceOp op v u) (EP X pins σ Q) X.xe s
section
variable {X:Cx} {pos:Pos}
def gName (i:Nat):TG:=fun v σ H Q=>Q (σ.set i (some v)) H
theorem pg_name {i:Nat} {x:Str} (hN:X.N.Nodup) (hi:X.N[i]? = some x) (hx:Loc X.env.scope x) (hf:X.fn x = true∨X.env.scope.names.lookup x = some .local:=by first | exact .inl rfl | exact .inr rfl | assumption):PG X (.Name x pos) (gName i):=by
  intro pins s σ H v u Q I r h
  exact wpAny_assign_Name (store_ok I hN hi hx r (fun s' I'=>⟨_,H,I',h⟩) hf)
def gNil:TGs:=fun vs σ H Q=>vs = []∧Q σ H
def gCons (t:TG) (u:TGs):TGs:=fun vs σ H Q=>∃ v r,vs = v :: r∧t v σ H fun σ' H'=>u r σ' H' Q
theorem pgs_nil:PGs X [] gNil:=by
  intro pins s σ H vs us Q I r h
  obtain ⟨e,h⟩:=h
  subst e
  cases r
  exact assignInOrder_nil ⟨σ,H,I,h⟩
theorem pgs_cons {e:Expr} {es:List Expr} {t:TG} {u:TGs} (h1:PG X e t) (h2:PGs X es u)
    (hs:(assignEach (e :: es) X.env).map (·.2) = assign e X.env :: (assignEach es X.env).map (·.2):=by rfl):PGs X (e :: es) (gCons t u):=by
  intro pins s σ H vs us Q I r h
  obtain ⟨v,vr,e1,h⟩:=h
  subst e1
  cases r with
  | cons r rr =>
    rw [hs]
    refine assignInOrder_cons (thn (h1 pins s σ H _ _ _ I r h) fun _ s1 ⟨σ1,H1,I1,q1⟩=>?_)
    exact h2 pins s1 σ1 H1 _ _ Q I1 rr q1
def gTup (K:PySem.W.Frag) (n:Nat) (t:TGs):TG:=fun v σ H Q=>∃ a xs,v = .ref a∧SqT K H a xs∧xs.length = n∧t xs σ H Q
theorem pg_tup {es:List Expr} {k:Nat} {t:TGs} {n:Nat} (hc:X.calm = true) (h:PGs X es t)
    (hn:(assignEach es X.env).length = n:=by rfl) (hst:(assignEach es X.env).findIdx? (·.1) = none:=by rfl):PG X (.Tuple es k pos) (gTup X.K n t):=by
  intro pins s σ H v u Q I r hw
  obtain ⟨a,xs,e1,hq,hl,hw⟩:=hw
  subst e1
  cases r
  obtain ⟨its,rv,ht,hz⟩:=I.tuple hq
  refine assign_Tuple_tuple (I.ok.hd hc) ht (by simp [hn,← hl,rv.length]) hst fun h' hx=>?_
  have I1:Inv X pins σ H { s with heap:=h' }:=I.kept (t':=s.toks) fun b o e=>hx b o (Nat.ne_of_lt (Heap.lt_size e)) e
  exact h pins _ σ H xs _ Q I1 (by simpa using rv) hw
def tAsg (te:TE) (g:TG):TS:=fun D σ H=>te σ H fun x H1=>g x σ H1 D.nx
theorem ps_set {i:Nat} {x:Str} {e:Expr} {te:TE} {pos':Pos} (hN:X.N.Nodup) (hi:X.N[i]? = some x) (hx:Loc X.env.scope x) (he:PE X e te) (hs:swapsWith e (some (.Name x pos')) pos.line X.env = pure false:=by rfl) (hf:X.fn x = true∨X.env.scope.names.lookup x = some .local:=by first | exact .inl rfl | exact .inr rfl | assumption) :
    PS X (.Assign [.Name x pos'] e pos) (tAsg te (gName i)):=by
  intro pins s σ H D I h
  refine wpAny_Assign_Name (thn (he pins s σ H _ I h) fun v s1 ⟨y,H1,I1,r1,q1⟩=>?_) hs
  exact store_ok I1 hN hi hx r1 (fun s2 I2=>⟨_,H1,I2,q1⟩) hf
def tAug (i:Nat) (te:TE) (ti:TIp):TS:=fun D σ H=>∃ x,σ[i]? = some (some x)∧te σ H fun y H1=>ti x y H1 fun z H2=>D.nx (σ.set i (some z)) H2
theorem ps_aug {i:Nat} {x:Str} {e:Expr} {te:TE} {op:Operator} {ti:TIp} {pos':Pos} (hN:X.N.Nodup) (hi:X.N[i]? = some x) (hx:Loc X.env.scope x) (he:PE X e te) (ho:PIp X op ti) (hf:X.fn x = true∨X.env.scope.names.lookup x = some .local:=by first | exact .inl rfl | exact .inr rfl | assumption) :
    PS X (.AugAssign (.Name x pos') op e pos) (tAug i te ti):=by
  intro pins s σ H D I h
  obtain ⟨v,e1,h⟩:=h
  obtain ⟨m,hn,hl⟩:=I.loc
  have vis:Vis X.env.scope x:=by rcases hx with k | k;exact .inl k;exact .inr (.inl k)
  obtain ⟨u,r,l⟩:=hl i x v hi e1 vis
  refine wpAny_AugAssign_Name ?_
  have go:wpAny (model X.prog X.w) X.A (eval e X.env) (fun w s₂=>wpAny (model X.prog X.w) X.A (inplaceOp op u w) (fun r s₃=>wpAny (model X.prog X.w) X.A (storeName X.env x r) (fun _=>SP X pins D .next) X.xe s₃) X.xe s₂) X.xe s:=by
    refine thn (he pins s σ H _ I h) fun w s1 ⟨y,H1,I1,r1,q1⟩=>?_
    refine thn (ho pins s1 σ H1 v y u w _ I1 r r1 q1) fun z s2 ⟨zv,H2,I2,r2,q2⟩=>?_
    exact store_ok I2 hN hi hx r2 (fun s3 I3=>⟨_,H2,I3,q2⟩) hf
  rcases l with ⟨hk,hm⟩ | ⟨hk,c,hc,hcell⟩
  · exact wpAny_loadName_local I.ok.kind hk hn hm go
  · rcases hk with hk | hk
    · exact wpAny_loadName_cell I.ok.kind hk hc hcell go
    · rcases hx with k | k
      · have:X.env.scope.names.lookup x = some .free:=hk
        rw [k] at this;cases this
      · have:X.env.scope.names.lookup x = some .free:=hk
        rw [k] at this;cases this
def ipI (f:Int→Int→Int):TIp:=fun x y H Q=>∃ i j,x = .int i∧y = .int j∧Q (.int (f i j)) H
theorem ip_add:PIp X .Add (ipI fun i j=>i + j):=by
  intro pins s σ H x y v u Q I r1 r2 h
  obtain ⟨i,j,e1,e2,q⟩:=h
  subst e1;subst e2
  obtain ⟨t,rfl⟩:=r1
  obtain ⟨t',rfl⟩:=r2
  exact iadd_int ⟨.int _,H,I.tok _,⟨_,rfl⟩,q⟩
end
section
variable {X:Cx} {pos:Pos}
def tWhile (c:TT) (tb:TS):TS:=fun D σ H=>∃ W:Nat→St→Hp→Prop,(∃ m,W m σ H)∧∀ m σ H,W m σ H →
  c σ H fun b H1=>if b = true then ∃ N:St→Hp→Prop,(∀ σ' H',N σ' H'→∃ m',m' < m∧W m' σ' H')∧tb { D with nx:=N,ct:=N,bk:=D.nx } σ H1 else D.nx σ H1
theorem ps_while {c:Expr} {body:List Stmt} {tc:TT} {tb:TS} (hp:PassesOwn (model X.prog X.w) X.A X.env X.xe) (hc:PT X c tc) (hb:PSs X body tb):PS X (.While c body [] pos) (tWhile tc tb):=by
  intro pins s σ H D I h
  obtain ⟨W,⟨m0,w0⟩,turn⟩:=h
  refine wpAny_While (codeAny_whileLoop (fun n s'=>∃ σ' H',Inv X pins σ' H' s'∧W n σ' H') ?_ m0 ⟨σ,H,I,w0⟩)
  rintro n s1 ⟨σ1,H1,I1,w1⟩
  refine wpAny_passesOwn hp (thn (hc pins s1 σ1 H1 _ I1 (turn n σ1 H1 w1)) fun b s2 ⟨H2,I2,q2⟩=>?_)
  cases b with
  | true =>
    obtain ⟨N,hN,q2⟩:=q2
    rw [if_pos rfl]
    refine wpAny_passesOwn hp (thn (hb pins s2 σ1 H2 _ I2 q2) fun f s3 q3=>?_)
    cases f with
    | next =>
      obtain ⟨σ3,H3,I3,n3⟩:=q3
      obtain ⟨m',hm,w3⟩:=hN σ3 H3 n3
      exact ⟨m',hm,σ3,H3,I3,w3⟩
    | cont =>
      obtain ⟨σ3,H3,I3,n3⟩:=q3
      obtain ⟨m',hm,w3⟩:=hN σ3 H3 n3
      exact ⟨m',hm,σ3,H3,I3,w3⟩
    | brk=>exact q3
    | ret v=>exact q3
  | false =>
    rw [if_neg Bool.false_ne_true]
    exact wpAny_execs_nil ⟨σ1,H2,I2,q2⟩
end
structure It where
  go:Nat→Hp→Prop
  yld:Nat→Hp→V→Hp→Prop
  stop:Nat→Hp→Prop
def FpOk (X:Cx) (pins:List (Addr × Obj)) (H:Hp) (b:Addr):Prop :=
  H b = none∧b≠X.env.locals∧b ∉ X.fs∧(b∈X.ex∨X.s_0.heap.objs.size≤b)∧(∀ x c,X.env.cells.lookup x = some c→c≠b)∧∀ p∈X.pn ++ pins,p.1≠b
theorem Inv.fpOk {X:Cx} {pins:List (Addr × Obj)} {σ:St} {H H':Hp} {s:Shared} {b:Addr} (I:Inv X pins σ H s) (hb:s.heap.objs.size≤b) (hn:H' b = none):FpOk X pins H' b:=by
  refine ⟨hn,Nat.ne_of_gt (Nat.lt_of_lt_of_le I.lt hb),I.nofs hb,.inr (Nat.le_trans I.sz hb),fun x c e z=>?_,fun p hp z=>?_⟩
  · obtain ⟨v,q⟩:=I.cell x c e
    exact absurd (Nat.lt_of_lt_of_le q.lt (by rw [z];exact hb)) (Nat.lt_irrefl _)
  · exact absurd (Nat.lt_of_lt_of_le (Heap.lt_size (I.pin p hp).1) (by rw [z];exact hb)) (Nat.lt_irrefl _)
structure Turn (P:Program) (w:World) (K:PySem.W.Frag) (tg:Expr) (J:It) (fp:List Addr) (it:Addr) (tn:Nat→Heap→Prop):Prop where
  mem:it∈fp
  obj:∀ i h,tn i h→∀ b∈fp,∃ o,h.get? b = some o∧∀ v,o.data≠.cell v
  keep:∀ i h h',tn i h→(∀ b∈fp,∀ o,h.get? b = some o→h'.get? b = some o)→tn i h'
  item:∀ (X:Cx),X.prog = P→X.w = w→X.K = K→X.calm = true→∀ (i:Nat) (pins:List (Addr × Obj)) (s:Shared) (σ:St) (H:Hp) (E:Value→Shared→Prop),Inv X pins σ H s→(∀ b∈fp,FpOk X pins H b)→tn i s.heap→J.go i H →
    wpAny (model P w) X.A (pyNext (.ref it)) (fun r s1=>∃ u,r = some u ∧
      wpAny (model P w) X.A (letOwnedTupleGo tg (.ref it) u) (fun _ s2=>∃ x H',Inv X pins σ H' s2∧RelV x u∧J.yld i H x H'∧tn (i + 1) s2.heap∧∀ b∈fp,H' b = none) E s1) E s
  done:∀ (X:Cx),X.prog = P→X.w = w→X.K = K→X.calm = true→∀ (i:Nat) (pins:List (Addr × Obj)) (s:Shared) (σ:St) (H:Hp) (E:Value→Shared→Prop),Inv X pins σ H s→(∀ b∈fp,FpOk X pins H b)→tn i s.heap→J.stop i H →
    wpAny (model P w) X.A (pyNext (.ref it)) (fun r s1=>r = none∧Inv X pins σ H s1) E s
  self:∀ (A:Around) (i:Nat) (s:Shared) (Q:Value→Shared→Prop) (E:Value→Shared→Prop),tn i s.heap→Q (.ref it) s→wpAny (model P w) A (pyIter (.ref it)) Q E s
abbrev TI:=St→Hp→(It→Hp→Prop)→Prop
def PIE (X:Cx) (pins:List (Addr × Obj)) (σ:St) (tg:Expr) (R:It→Hp→Prop) (itv:Value) (s2:Shared):Prop :=
  ∃ (it:Addr) (fp:List Addr) (tn:Nat→Heap→Prop) (J:It) (H':Hp),itv = .ref it∧Inv X pins σ H' s2∧Turn X.prog X.w X.K tg J fp it tn∧tn 0 s2.heap∧(∀ b∈fp,FpOk X pins H' b)∧R J H'
def PI (X:Cx) (tg iter:Expr) (wi:TI):Prop :=
  ∀ (pins:List (Addr × Obj)) (s:Shared) (σ:St) (H:Hp) (R:It→Hp→Prop),Inv X pins σ H s→wi σ H R →
    wpAny (model X.prog X.w) X.A (eval iter X.env) (fun v s1=>wpAny (model X.prog X.w) X.A (pyIter v) (PIE X pins σ tg R) X.xe s1) X.xe s
theorem go_of {M:Model} {A:Around} {E:Value→Shared→Prop} {s:Shared} {tg:Expr} {it:Addr} {u:Value} {o:Obj} {n:String} {vs:Array Value} {Q:Unit→Shared→Prop} (ho:s.heap.get? it = some o) (hc:o.cls = .type n) (hd:o.data = .fields vs)
    (hn:["enumerate","zip","dict_itemiterator","dict_reverseitemiterator","odict_iterator","itertools.zip_longest","itertools.pairwise"].contains n = false) (hQ:Q () s):wpAny M A (letOwnedTupleGo tg (.ref it) u) Q E s:=by
  unfold letOwnedTupleGo
  cases tg <;> first
    | exact wpAny_pure hQ
    | (cases u <;> first
        | exact wpAny_pure hQ
        | (refine wpAny_bind (wpAny_load ho ?_)
           rw [hc,hd]
           show wpAny M A (if (["enumerate","zip","dict_itemiterator","dict_reverseitemiterator","odict_iterator","itertools.zip_longest","itertools.pairwise"].contains n && vs[0]? == some (rawInt _)) = true then _ else _) Q E s
           rw [if_neg (by intro h;rw [hn,Bool.false_and] at h;cases h)]
           exact wpAny_pure hQ))
def Itl (K:PySem.W.Frag) (a:Addr):It :=
  ⟨fun i H=>∃ xs x,SqL K H a xs∧xs[i]? = some x,fun i H x H'=>H' = H∧∀ xs,SqL K H a xs→xs[i]? = some x,fun i H=>∃ xs,SqL K H a xs∧xs.length≤i⟩
def Itt (K:PySem.W.Frag) (a:Addr):It :=
  ⟨fun i H=>∃ xs x,SqT K H a xs∧xs[i]? = some x,fun i H x H'=>H' = H∧∀ xs,SqT K H a xs→xs[i]? = some x,fun i H=>∃ xs,SqT K H a xs∧xs.length≤i⟩
def Itr (lo:Int) (n:Nat):It:=⟨fun i _=>i < n,fun i H x H'=>H' = H∧x = .int (lo + i),fun i _=>n≤i⟩
theorem turn_list {P:Program} {w:World} {K:PySem.W.Frag} {tg:Expr} (a it:Addr):Turn P w K tg (Itl K a) [it] it (fun i h=>h.IsListIter it a i) where
  mem:=by simp
  obj:=fun i h st b hb=>by
    have e:b = it:=by simpa using hb
    subst e
    obtain ⟨o,e,c,d⟩:=st
    exact ⟨o,e,fun v z=>by rw [d] at z;cases z⟩
  keep:=fun i h h' st k=>st.at fun o e=>k it (by simp) o e
  item:=by
    intro X hP hw hK hc i pins s σ H E I hf st hg
    subst hP hw hK
    obtain ⟨xs,x,hq,hx⟩:=hg
    obtain ⟨its,rv,p,hz⟩:=I.list hq
    obtain ⟨u,hu,ru⟩:=rv.get hx
    obtain ⟨f0,f1,f2,f3,f4,f5⟩:=hf it (by simp)
    refine wpAny_pyNext_list_item st p.isList (x:=u) (by simpa using hu) fun h' st' sb=>?_
    have I1:Inv X pins σ H { s with heap:=h' }:=I.turned (t':=s.toks) (fun b o hb e=>(sb.2 b hb).trans e) f0 f1 f3 f4 f5
    obtain ⟨o,e,c,d⟩:=id st'
    exact ⟨u,rfl,go_of (s:={ s with heap:=h' }) e c d (by decide) ⟨x,H,I1,ru,⟨rfl,fun ys hy=>by rw [I.list_inj hy hq];exact hx⟩,st',fun b hb=>(hf b hb).1⟩⟩
  done:=by
    intro X hP hw hK hc i pins s σ H E I hf st hg
    subst hP hw hK
    obtain ⟨xs,hq,hx⟩:=hg
    obtain ⟨its,rv,p,hz⟩:=I.list hq
    obtain ⟨f0,f1,f2,f3,f4,f5⟩:=hf it (by simp)
    have hl:=rv.length
    exact wpAny_pyNext_list_end (I.ok.hd hc) st p.isList (by simp;omega) fun h' eb=>⟨rfl,I.turned (t':=s.toks) (fun b o hb e=>eb b o hb e) f0 f1 f3 f4 f5⟩
  self:=fun _ _ _ _ _ st h=>wpAny_pyIter_listiter st h
theorem turn_tuple {P:Program} {w:World} {K:PySem.W.Frag} {tg:Expr} (a it:Addr):Turn P w K tg (Itt K a) [it] it (fun i h=>h.IsTupleIter it a i) where
  mem:=by simp
  obj:=fun i h st b hb=>by
    have e:b = it:=by simpa using hb
    subst e
    obtain ⟨o,e,c,d⟩:=st
    exact ⟨o,e,fun v z=>by rw [d] at z;cases z⟩
  keep:=fun i h h' st k=>st.at fun o e=>k it (by simp) o e
  item:=by
    intro X hP hw hK hc i pins s σ H E I hf st hg
    subst hP hw hK
    obtain ⟨xs,x,hq,hx⟩:=hg
    obtain ⟨its,rv,p,hz⟩:=I.tuple hq
    obtain ⟨u,hu,ru⟩:=rv.get hx
    obtain ⟨f0,f1,f2,f3,f4,f5⟩:=hf it (by simp)
    refine wpAny_pyNext_tuple_item st (show s.heap.IsTuple a its.toArray from p) (x:=u) (by simpa using hu) fun h' st' sb=>?_
    have I1:Inv X pins σ H { s with heap:=h' }:=I.turned (t':=s.toks) (fun b o hb e=>(sb.2 b hb).trans e) f0 f1 f3 f4 f5
    obtain ⟨o,e,c,d⟩:=id st'
    exact ⟨u,rfl,go_of (s:={ s with heap:=h' }) e c d (by decide) ⟨x,H,I1,ru,⟨rfl,fun ys hy=>by rw [I.tuple_inj hy hq];exact hx⟩,st',fun b hb=>(hf b hb).1⟩⟩
  done:=by
    intro X hP hw hK hc i pins s σ H E I hf st hg
    subst hP hw hK
    obtain ⟨xs,hq,hx⟩:=hg
    obtain ⟨its,rv,p,hz⟩:=I.tuple hq
    obtain ⟨f0,f1,f2,f3,f4,f5⟩:=hf it (by simp)
    have hl:=rv.length
    exact wpAny_pyNext_tuple_end (I.ok.hd hc) st (show s.heap.IsTuple a its.toArray from p) (by simp;omega) fun h' eb=>⟨rfl,I.turned (t':=s.toks) (fun b o hb e=>eb b o hb e) f0 f1 f3 f4 f5⟩
  self:=fun _ _ _ _ _ st h=>wpAny_pyIter_tupleiter st h
theorem turn_range {P:Program} {w:World} {K:PySem.W.Frag} {tg:Expr} (it:Addr) (lo:Int) (n:Nat):Turn P w K tg (Itr lo n) [it] it (fun i h=>IsRangeIter h it (lo + (i:Nat) * 1) ((n:Int) - (i:Nat)) 1) where
  mem:=by simp
  obj:=fun i h st b hb=>by
    have e:b = it:=by simpa using hb
    subst e
    exact ⟨_,st,fun v z=>by
      have z':Data.fields _ = Data.cell v:=z
      cases z'⟩
  keep:=fun i h h' st k=>k it (by simp) _ st
  item:=by
    intro X hP hw hK hc i pins s σ H E I hf st hg
    subst hP hw hK
    obtain ⟨f0,f1,f2,f3,f4,f5⟩:=hf it (by simp)
    have W:=Walks.range (prog:=X.prog) (w:=X.w) (I.ok.hd hc) it lo 1 n
    refine W.item i s _ _ hg st fun v h' tk hv st' kk=>?_
    obtain ⟨t,rfl⟩:=hv
    have I1:Inv X pins σ H { s with heap:=h',toks:=tk }:=I.turned (fun b o hb e=>kk b o (by simpa using hb) e) f0 f1 f3 f4 f5
    refine ⟨_,rfl,go_of (s:={ s with heap:=h',toks:=tk }) (n:="range_iterator") st' rfl rfl (by decide) ⟨.int (lo + i),H,I1,⟨t,?_⟩,⟨rfl,rfl⟩,st',fun b hb=>(hf b hb).1⟩⟩
    rw [Int.mul_one]
  done:=by
    intro X hP hw hK hc i pins s σ H E I hf st hg
    subst hP hw hK
    obtain ⟨f0,f1,f2,f3,f4,f5⟩:=hf it (by simp)
    exact wpAny_pyNext_range_end (I.ok.hd hc) st (by have:n≤i:=hg;omega) fun h' eb=>⟨rfl,I.turned (t':=s.toks) (fun b o hb e=>eb b o hb e) f0 f1 f3 f4 f5⟩
  self:=fun _ _ _ _ _ st h=>wpAny_pyIter_rangeiter st h
end L2
namespace L2
open PySem PySem.Spec PyProof.Rows
section
variable {X:Cx} {tg:Expr}
def iList (K:PySem.W.Frag) (tl:TE):TI:=fun σ H R=>tl σ H fun x H1=>∃ a,x = .ref a∧(∃ xs,SqL K H1 a xs)∧R (Itl K a) H1
def iTup (K:PySem.W.Frag) (tl:TE):TI:=fun σ H R=>tl σ H fun x H1=>∃ a,x = .ref a∧(∃ xs,SqT K H1 a xs)∧R (Itt K a) H1
theorem pi_list {l:Expr} {tl:TE} (hl:PE X l tl):PI X tg l (iList X.K tl):=by
  intro pins s σ H R I h
  refine thn (hl pins s σ H _ I h) fun v s1 ⟨x,H1,I1,r1,q1⟩=>?_
  obtain ⟨a,e,⟨xs,hq⟩,q⟩:=q1
  subst e
  cases r1
  obtain ⟨its,rv,p,hz⟩:=I1.list hq
  refine wpAny_pyIter_list p.isList ?_
  refine ⟨s1.heap.objs.size,[s1.heap.objs.size],_,_,H1,rfl,I1.kept (t':=s1.toks) fun b o e=>Heap.get?_push_of_some _ e,turn_list a _,⟨_,Heap.get?_push_size _ rfl,rfl,rfl⟩,fun b hb=>?_,q⟩
  have e:b = s1.heap.objs.size:=by simpa using hb
  subst e
  exact I1.fpOk (Nat.le_refl _) (I1.hok.fresh (Nat.le_refl _))
theorem pi_tup {l:Expr} {tl:TE} (hl:PE X l tl):PI X tg l (iTup X.K tl):=by
  intro pins s σ H R I h
  refine thn (hl pins s σ H _ I h) fun v s1 ⟨x,H1,I1,r1,q1⟩=>?_
  obtain ⟨a,e,⟨xs,hq⟩,q⟩:=q1
  subst e
  cases r1
  obtain ⟨its,rv,p,hz⟩:=I1.tuple hq
  refine wpAny_pyIter_tuple (show s1.heap.IsTuple a its.toArray from p) ?_
  refine ⟨s1.heap.objs.size,[s1.heap.objs.size],_,_,H1,rfl,I1.kept (t':=s1.toks) fun b o e=>Heap.get?_push_of_some _ e,turn_tuple a _,⟨_,Heap.get?_push_size _ rfl,rfl,rfl⟩,fun b hb=>?_,q⟩
  have e:b = s1.heap.objs.size:=by simpa using hb
  subst e
  exact I1.fpOk (Nat.le_refl _) (I1.hok.fresh (Nat.le_refl _))
theorem range_it {pins:List (Addr × Obj)} {σ:St} {H:Hp} {s:Shared} {R:It→Hp→Prop} {E:Value→Shared→Prop} {lo hi:Int} {t u v:Tok} {tk:Nat} (I:Inv X pins σ H s) (h1:-(2 ^ 62)≤lo) (h2:lo < 2 ^ 62) (h3:-(2 ^ 62)≤hi) (h4:hi < 2 ^ 62)
    (q:R (Itr lo (hi - lo).toNat) H):wpAny (model X.prog X.w) X.A (pyIter (.ref s.heap.objs.size)) (PIE X pins σ tg R) E { s with heap:=s.heap.push { cls:=.type "range",data:=.fields #[.int lo t,.int hi u,.int 1 v] },toks:=tk }:=by
  refine wpAny_pyIter_range (IsRange.new ..) (small_one h1 h2 h3 h4) ?_
  have I1:Inv X pins σ H { s with heap:=s.heap.push { cls:=.type "range",data:=.fields #[.int lo t,.int hi u,.int 1 v] },toks:=tk }:=I.kept fun b o e=>Heap.get?_push_of_some _ e
  refine ⟨(s.heap.push { cls:=.type "range",data:=.fields #[.int lo t,.int hi u,.int 1 v] }).objs.size,[(s.heap.push { cls:=.type "range",data:=.fields #[.int lo t,.int hi u,.int 1 v] }).objs.size],_,_,H,rfl,
    I1.kept (t':=tk) fun b o e=>Heap.get?_push_of_some _ e,turn_range _ lo (hi - lo).toNat,?_,fun b hb=>?_,q⟩
  · have e1:lo + ((0:Nat):Int) * 1 = lo:=by simp
    have e2:(((hi - lo).toNat:Nat):Int) - ((0:Nat):Int) = Builtin.Range.rangeSize lo hi 1:=by rw [rangeSize_one];split <;> omega
    show IsRangeIter _ _ (lo + ((0:Nat):Int) * 1) ((((hi - lo).toNat:Nat):Int) - ((0:Nat):Int)) 1
    rw [e1,e2]
    exact Heap.get?_push_size _ rfl
  · have e:b = (s.heap.push { cls:=.type "range",data:=.fields #[.int lo t,.int hi u,.int 1 v] }).objs.size:=by simpa using hb
    subst e
    exact I1.fpOk (Nat.le_refl _) (I1.hok.fresh (Nat.le_refl _))
def iRng1 (ta:TA):TI:=fun σ H R=>ta σ H fun vs H1=>∃ j:Int,vs = [.int j]∧-(2 ^ 62)≤j∧j < 2 ^ 62∧R (Itr 0 j.toNat) H1
theorem pi_range1 {a:Expr} {ta:TA} {p pos:Pos} (hg:Gl X "range") (hm:X.mg "range" = none) (ha:PA X [a] ta) (hs:starEach [a] X.env = [(false,eval a X.env)]:=by rfl):PI X tg (.Call (.Name "range" p) [a] [] pos) (iRng1 ta):=by
  intro pins s σ H R I h
  refine Call_ (ld_blt I hg hm boot_range (PyProof.Rows.callWith_type1 (thn (ha pos pins s σ H _ I h) fun us s1 ⟨vs,H1,I1,r1,q1⟩=>?_) hs rfl))
  obtain ⟨j,e,q1,q2,q⟩:=q1
  subst e
  cases r1 with
  | cons r rr =>
    cases rr
    obtain ⟨t,rfl⟩:=r
    exact call_range_1 (range_it I1 (by omega) (by omega) q1 q2 (by simpa using q))
def tFor (wi:TI) (g:TG) (tb:TS):TS:=fun D σ H=>wi σ H fun J H1=>∃ W:Nat→Nat→St→Hp→Prop,(∃ m,W 0 m σ H1)∧∀ i m σ H,W i m σ H →
  (J.stop i H∧D.nx σ H)∨(J.go i H∧∃ N:St→Hp→Prop,(∀ σ' H',N σ' H'→∃ m',m' < m∧W (i + 1) m' σ' H')∧∀ x H',J.yld i H x H'→g x σ H' fun σ2 H2=>tb { D with nx:=N,ct:=N,bk:=D.nx } σ2 H2)
def pinsAt (fp:List Addr) (h:Heap):List (Addr × Obj):=fp.filterMap fun b=>(h.get? b).map fun o=>(b,o)
theorem mem_pinsAt {fp:List Addr} {h:Heap} {b:Addr} {o:Obj} (hb:b∈fp) (e:h.get? b = some o):(b,o)∈pinsAt fp h:=List.mem_filterMap.mpr ⟨b,hb,by rw [e];rfl⟩
theorem of_pinsAt {fp:List Addr} {h:Heap} {p:Addr × Obj} (hp:p∈pinsAt fp h):p.1∈fp∧h.get? p.1 = some p.2:=by
  obtain ⟨b,hb,e⟩:=List.mem_filterMap.mp hp
  cases q:h.get? b with
  | none=>rw [q] at e;cases e
  | some o =>
    rw [q] at e
    have e':(b,o) = p:=Option.some.inj e
    subst e'
    exact ⟨hb,q⟩
theorem Inv.pinned {pins:List (Addr × Obj)} {σ:St} {H:Hp} {s:Shared} {fp:List Addr} (I:Inv X pins σ H s) (hf:∀ b∈fp,FpOk X pins H b) (ho:∀ b∈fp,∃ o,s.heap.get? b = some o∧∀ v,o.data≠.cell v):Inv X (pins ++ pinsAt fp s.heap) σ H s :=
  I.pins_of fun p hp=>(List.mem_append.mp hp).elim (fun z=>I.pin p (List.mem_append_right _ z)) fun z=>by
    obtain ⟨hb,e⟩:=of_pinsAt z
    obtain ⟨f0,f1,f2,_⟩:=hf p.1 hb
    obtain ⟨o,e',d⟩:=ho p.1 hb
    rw [e] at e';cases e'
    exact ⟨e,f0,f1,f2,d⟩
theorem Inv.unpinned {pins pl:List (Addr × Obj)} {σ:St} {H:Hp} {s:Shared} (I:Inv X (pins ++ pl) σ H s):Inv X pins σ H s:=I.pins_of fun p hp=>I.pin p (List.mem_append_right _ (List.mem_append_left _ hp))
theorem ps_for {iter:Expr} {body:List Stmt} {wi:TI} {g:TG} {tb:TS} {pos:Pos} (hp:PassesOwn (model X.prog X.w) X.A X.env X.xe) (hc:X.calm = true) (hi:PI X tg iter wi) (hg:PG X tg g) (hb:PSs X body tb)
    (hs:∀ x,foldedSetIterable iter X.env x = pure x:=by intro _;rfl):PS X (.For tg iter body [] pos) (tFor wi g tb):=by
  intro pins s σ H D I h
  refine wpAny_For (thn (hi pins s σ H _ I h) fun v s1 h1=>thn h1 fun itv s2 h2=>?_) hs
  obtain ⟨it,fp,tn,J,H2,e,I2,T,st2,f2,W,⟨m0,w0⟩,turn⟩:=h2
  subst e
  have stat:∀ {H':Hp},(∀ b∈fp,H' b = none)→∀ b∈fp,FpOk X pins H' b:=fun hn b hb=>⟨hn b hb,(f2 b hb).2⟩
  refine codeAny_forLoop_any (fun n s'=>∃ i σ' H',Inv X pins σ' H' s'∧tn i s'.heap∧(∀ b∈fp,H' b = none)∧W i n σ' H') ?_ m0 ⟨0,σ,H2,I2,st2,fun b hb=>(f2 b hb).1,w0⟩
  rintro n s3 ⟨i,σ3,H3,I3,st3,fr3,w3⟩
  rcases turn i n σ3 H3 w3 with ⟨stop,qn⟩ | ⟨go,N,hN,step⟩
  · refine wpAny_passesOwn hp (thn (T.done X rfl rfl rfl hc i pins s3 σ3 H3 X.xe I3 (stat fr3) st3 stop) fun r s4 ⟨hr,I4⟩=>?_)
    subst hr
    exact wpAny_execs_nil ⟨σ3,H3,I4,qn⟩
  · refine wpAny_passesOwn hp (thn (T.item X rfl rfl rfl hc i pins s3 σ3 H3 X.xe I3 (stat fr3) st3 go) fun r s4 ⟨u,hr,h4⟩=>?_)
    subst hr
    refine wpAny_passesOwn hp (thn h4 fun _ s5 ⟨x,H5,I5,r5,y5,st5,fr5⟩=>?_)
    have I5':=I5.pinned (stat fr5) (T.obj _ _ st5)
    refine wpAny_passesOwn hp (thn (hg _ s5 σ3 H5 x u _ I5' r5 (step x H5 y5)) fun _ s6 ⟨σ6,H6,I6,q6⟩=>?_)
    refine wpAny_passesOwn hp (thn (hb _ s6 σ6 H6 _ I6 q6) fun f s7 q7=>?_)
    have again:∀ {σ7:St} {H7:Hp},Inv X (pins ++ pinsAt fp s5.heap) σ7 H7 s7→N σ7 H7→∃ m,m < n∧∃ i σ' H',Inv X pins σ' H' s7∧tn i s7.heap∧(∀ b∈fp,H' b = none)∧W i m σ' H':=fun {σ7 H7} I7 n7=>by
      obtain ⟨m',hm,w7⟩:=hN σ7 H7 n7
      refine ⟨m',hm,i + 1,σ7,H7,I7.unpinned,T.keep _ _ _ st5 fun b hb o e=>(I7.pin (b,o) (List.mem_append_right _ (List.mem_append_right _ (mem_pinsAt hb e)))).1,fun b hb=>?_,w7⟩
      obtain ⟨o,e,d⟩:=T.obj _ _ st5 b hb
      exact (I7.pin (b,o) (List.mem_append_right _ (List.mem_append_right _ (mem_pinsAt hb e)))).2.1
    cases f with
    | next=>obtain ⟨σ7,H7,I7,n7⟩:=q7;exact again I7 n7
    | cont=>obtain ⟨σ7,H7,I7,n7⟩:=q7;exact again I7 n7
    | brk=>obtain ⟨σ7,H7,I7,q7⟩:=q7;exact ⟨σ7,H7,I7.unpinned,q7⟩
    | ret v=>obtain ⟨x7,σ7,H7,I7,r7,q7⟩:=q7;exact ⟨x7,σ7,H7,I7.unpinned,r7,q7⟩
end
theorem for_list {K:PySem.W.Frag} {a:Addr} {xs:List V} {g:TG} {tb:TS} {D:Ends} {σ:St} {H:Hp} (Pv:Nat→St→Hp→Prop) (h0:Pv 0 σ H) (hl:∀ i σ H,i≤xs.length→Pv i σ H→SqL K H a xs)
    (hs:∀ i x σ H,xs[i]? = some x→Pv i σ H→g x σ H fun σ2 H2=>tb { D with nx:=Pv (i + 1),ct:=Pv (i + 1),bk:=D.nx } σ2 H2) (hd:∀ σ H,Pv xs.length σ H→D.nx σ H) :
    ∃ W:Nat→Nat→St→Hp→Prop,(∃ m,W 0 m σ H)∧∀ i m σ H,W i m σ H →
      ((Itl K a).stop i H∧D.nx σ H)∨((Itl K a).go i H∧∃ N:St→Hp→Prop,(∀ σ' H',N σ' H'→∃ m',m' < m∧W (i + 1) m' σ' H')∧∀ x H',(Itl K a).yld i H x H'→g x σ H' fun σ2 H2=>tb { D with nx:=N,ct:=N,bk:=D.nx } σ2 H2):=by
  refine ⟨fun i m σ H=>m = xs.length - i∧i≤xs.length∧Pv i σ H,⟨xs.length,by simp,Nat.zero_le _,h0⟩,?_⟩
  rintro i m σ H ⟨rfl,hi,p⟩
  have q:=hl i σ H hi p
  by_cases hlt:i < xs.length
  · refine .inr ⟨⟨xs,xs[i],q,by simp [hlt]⟩,Pv (i + 1),fun σ' H' p'=>⟨xs.length - (i + 1),by omega,rfl,hlt,p'⟩,fun x H' y=>?_⟩
    obtain ⟨e,y⟩:=y
    subst e
    exact hs i x σ _ (y xs q) p
  · have e:i = xs.length:=by omega
    subst e
    exact .inl ⟨⟨xs,q,Nat.le_refl _⟩,hd σ H p⟩
theorem for_tup {K:PySem.W.Frag} {a:Addr} {xs:List V} {g:TG} {tb:TS} {D:Ends} {σ:St} {H:Hp} (Pv:Nat→St→Hp→Prop) (h0:Pv 0 σ H) (hl:∀ i σ H,i≤xs.length→Pv i σ H→SqT K H a xs)
    (hs:∀ i x σ H,xs[i]? = some x→Pv i σ H→g x σ H fun σ2 H2=>tb { D with nx:=Pv (i + 1),ct:=Pv (i + 1),bk:=D.nx } σ2 H2) (hd:∀ σ H,Pv xs.length σ H→D.nx σ H) :
    ∃ W:Nat→Nat→St→Hp→Prop,(∃ m,W 0 m σ H)∧∀ i m σ H,W i m σ H →
      ((Itt K a).stop i H∧D.nx σ H)∨((Itt K a).go i H∧∃ N:St→Hp→Prop,(∀ σ' H',N σ' H'→∃ m',m' < m∧W (i + 1) m' σ' H')∧∀ x H',(Itt K a).yld i H x H'→g x σ H' fun σ2 H2=>tb { D with nx:=N,ct:=N,bk:=D.nx } σ2 H2):=by
  refine ⟨fun i m σ H=>m = xs.length - i∧i≤xs.length∧Pv i σ H,⟨xs.length,by simp,Nat.zero_le _,h0⟩,?_⟩
  rintro i m σ H ⟨rfl,hi,p⟩
  have q:=hl i σ H hi p
  by_cases hlt:i < xs.length
  · refine .inr ⟨⟨xs,xs[i],q,by simp [hlt]⟩,Pv (i + 1),fun σ' H' p'=>⟨xs.length - (i + 1),by omega,rfl,hlt,p'⟩,fun x H' y=>?_⟩
    obtain ⟨e,y⟩:=y
    subst e
    exact hs i x σ _ (y xs q) p
  · have e:i = xs.length:=by omega
    subst e
    exact .inl ⟨⟨xs,q,Nat.le_refl _⟩,hd σ H p⟩
theorem for_range {lo:Int} {n:Nat} {g:TG} {tb:TS} {D:Ends} {σ:St} {H:Hp} (Pv:Nat→St→Hp→Prop) (h0:Pv 0 σ H)
    (hs:∀ i σ H,i < n→Pv i σ H→g (.int (lo + i)) σ H fun σ2 H2=>tb { D with nx:=Pv (i + 1),ct:=Pv (i + 1),bk:=D.nx } σ2 H2) (hd:∀ σ H,Pv n σ H→D.nx σ H) :
    ∃ W:Nat→Nat→St→Hp→Prop,(∃ m,W 0 m σ H)∧∀ i m σ H,W i m σ H →
      ((Itr lo n).stop i H∧D.nx σ H)∨((Itr lo n).go i H∧∃ N:St→Hp→Prop,(∀ σ' H',N σ' H'→∃ m',m' < m∧W (i + 1) m' σ' H')∧∀ x H',(Itr lo n).yld i H x H'→g x σ H' fun σ2 H2=>tb { D with nx:=N,ct:=N,bk:=D.nx } σ2 H2):=by
  refine ⟨fun i m σ H=>m = n - i∧i≤n∧Pv i σ H,⟨n,by simp,Nat.zero_le _,h0⟩,?_⟩
  rintro i m σ H ⟨rfl,hi,p⟩
  by_cases hlt:i < n
  · refine .inr ⟨hlt,Pv (i + 1),fun σ' H' p'=>⟨n - (i + 1),by omega,rfl,hlt,p'⟩,fun x H' y=>?_⟩
    obtain ⟨e,y⟩:=y
    subst e y
    exact hs i σ _ hlt p
  · have e:i = n:=by omega
    subst e
    exact .inl ⟨Nat.le_refl _,hd σ H p⟩
theorem while_by {c:TT} {tb:TS} {D:Ends} {σ:St} {H:Hp} (Pv:St→Hp→Prop) (μ:St→Hp→Nat) (h0:Pv σ H)
    (hs:∀ σ H,Pv σ H→c σ H fun b H1=>if b = true then tb { D with nx:=fun σ' H'=>Pv σ' H'∧μ σ' H' < μ σ H,ct:=fun σ' H'=>Pv σ' H'∧μ σ' H' < μ σ H,bk:=D.nx } σ H1 else D.nx σ H1)
    (mono:∀ σ H Q Q',(∀ b H1,Q b H1→Q' b H1)→c σ H Q→c σ H Q'):tWhile c tb D σ H:=by
  refine ⟨fun m σ H=>m = μ σ H∧Pv σ H,⟨_,rfl,h0⟩,?_⟩
  rintro m σ H ⟨rfl,p⟩
  refine mono σ H _ _ (fun b H1 q=>?_) (hs σ H p)
  cases b with
  | true=>exact ⟨_,fun σ' H' ⟨p',l⟩=>⟨_,l,rfl,p'⟩,q⟩
  | false=>exact q
end L2
namespace L2
open PySem PySem.Spec PyProof.Rows
abbrev R2:=V→V→Hp→VK→Prop
def OpR (X:Cx) (f:Value→Value→Sem Value) (r:R2):Prop :=
  ∀ (pins:List (Addr × Obj)) (s:Shared) (σ:St) (H:Hp) (x y:V) (v u:Value) (Q:VK),Inv X pins σ H s→RelV x v→RelV y u→r x y H Q →
    wpAny (model X.prog X.w) X.A (f v u) (EP X pins σ Q) X.xe s
def UnR (X:Cx) (f:Value→Sem Value) (r:V→Hp→VK→Prop):Prop :=
  ∀ (pins:List (Addr × Obj)) (s:Shared) (σ:St) (H:Hp) (x:V) (v:Value) (Q:VK),Inv X pins σ H s→RelV x v→r x H Q →
    wpAny (model X.prog X.w) X.A (f v) (EP X pins σ Q) X.xe s
def CallR (X:Cx) (f:Value) (r:List V→Hp→VK→Prop):Prop :=
  ∀ (pins:List (Addr × Obj)) (s:Shared) (σ:St) (H:Hp) (xs:List V) (us:List Value) (Q:VK),Inv X pins σ H s→Vals xs us→r xs H Q →
    wpAny (model X.prog X.w) X.A (call f us) (EP X pins σ Q) X.xe s
def TruR (X:Cx) (r:V→Hp→(Bool→Hp→Prop)→Prop):Prop :=
  ∀ (pins:List (Addr × Obj)) (s:Shared) (σ:St) (H:Hp) (x:V) (v:Value) (Q:Bool→Hp→Prop),Inv X pins σ H s→RelV x v→r x H Q →
    wpAny (model X.prog X.w) X.A (truthy v) (TP X pins σ Q) X.xe s
def tOp (r:R2) (ta tb:TE):TE:=fun σ H Q=>ta σ H fun x H1=>tb σ H1 fun y H2=>r x y H2 Q
def tUn (r:V→Hp→VK→Prop) (ta:TE):TE:=fun σ H Q=>ta σ H fun x H1=>r x H1 Q
def rI (C:Int→Int→Prop) (g:Int→Int→V):R2:=fun x y H Q=>∃ i j,x = .int i∧y = .int j∧C i j∧Q (g i j) H
def rI0 (g:Int→Int→V):R2:=fun x y H Q=>∃ i j,x = .int i∧y = .int j∧Q (g i j) H
def rU (g:Int→V):V→Hp→VK→Prop:=fun x H Q=>∃ i,x = .int i∧Q (g i) H
section
variable {X:Cx} {a b c:Expr} {ta tb tc:TE} {pos:Pos}
theorem binT (ha:PE X a ta) (hb:PE X b tb) {pins:List (Addr × Obj)} {s:Shared} {σ:St} {H:Hp} {R:V→V→Hp→Prop} (I:Inv X pins σ H s)
    (h:ta σ H fun x H1=>tb σ H1 fun y H2=>R x y H2) {Q:Value→Shared→Prop} {f:Value→Value→Sem Value}
    (hf:∀ v u s2 x y H2,Inv X pins σ H2 s2→RelV x v→RelV y u→R x y H2→wpAny (model X.prog X.w) X.A (f v u) Q X.xe s2) :
    wpAny (model X.prog X.w) X.A (eval a X.env) (fun v s₁=>wpAny (model X.prog X.w) X.A (eval b X.env) (fun u s₂=>wpAny (model X.prog X.w) X.A (f v u) Q X.xe s₂) X.xe s₁) X.xe s:=by
  refine thn (ha pins s σ H _ I h) fun v s1 ⟨x,H1,I1,r1,q1⟩=>?_
  refine thn (hb pins s1 σ H1 _ I1 q1) fun u s2 ⟨y,H2,I2,r2,q2⟩=>?_
  exact hf v u s2 x y H2 I2 r1 r2 q2
theorem pe_op {op:Operator} {r:R2} (ho:OpR X (binaryOp op) r) (ha:PE X a ta) (hb:PE X b tb):PE X (.BinOp a op b pos) (tOp r ta tb):=by
  intro pins s σ H Q I h
  exact wpAny_BinOp (binT ha hb I h fun v u s2 x y H2 I2 rx ry q=>ho pins s2 σ H2 x y v u Q I2 rx ry q)
theorem pe_un {op:UnaryOp} {r:V→Hp→VK→Prop} (ho:UnR X (unaryOp op) r) (ha:PE X a ta):PE X (.UnaryOp op a pos) (tUn r ta):=by
  intro pins s σ H Q I h
  exact UnaryOp_ (thn (ha pins s σ H _ I h) fun v s1 ⟨x,H1,I1,r1,q1⟩=>ho pins s1 σ H1 x v Q I1 r1 q1)
theorem opI {f:Value→Value→Sem Value} {C:Int→Int→Prop} {g:Int→Int→Int}
    (rule:∀ (i j:Int) (t u:Tok) (s:Shared) (Q:Value→Shared→Prop) (E:Value→Shared→Prop),C i j→Q (.int (g i j) s.toks) { s with toks:=s.toks + 1 }→wpAny (model X.prog X.w) X.A (f (.int i t) (.int j u)) Q E s) :
    OpR X f (rI C fun i j=>.int (g i j)):=by
  intro pins s σ H x y v u Q I rx ry h
  obtain ⟨i,j,rfl,rfl,hc,q⟩:=h
  obtain ⟨t,rfl⟩:=rx
  obtain ⟨t',rfl⟩:=ry
  exact rule i j t t' s _ _ hc ⟨.int (g i j),H,I.tok _,⟨_,rfl⟩,q⟩
theorem opI0 {f:Value→Value→Sem Value} {g:Int→Int→Int}
    (rule:∀ (i j:Int) (t u:Tok) (s:Shared) (Q:Value→Shared→Prop) (E:Value→Shared→Prop),Q (.int (g i j) s.toks) { s with toks:=s.toks + 1 }→wpAny (model X.prog X.w) X.A (f (.int i t) (.int j u)) Q E s) :
    OpR X f (rI0 fun i j=>.int (g i j)):=by
  intro pins s σ H x y v u Q I rx ry h
  obtain ⟨i,j,rfl,rfl,q⟩:=h
  obtain ⟨t,rfl⟩:=rx
  obtain ⟨t',rfl⟩:=ry
  exact rule i j t t' s _ _ ⟨.int (g i j),H,I.tok _,⟨_,rfl⟩,q⟩
theorem opB0 {f:Value→Value→Sem Value} {g:Int→Int→Bool}
    (rule:∀ (i j:Int) (t u:Tok) (s:Shared) (Q:Value→Shared→Prop) (E:Value→Shared→Prop),Q (.bool (g i j)) s→wpAny (model X.prog X.w) X.A (f (.int i t) (.int j u)) Q E s) :
    OpR X f (rI0 fun i j=>.bl (g i j)):=by
  intro pins s σ H x y v u Q I rx ry h
  obtain ⟨i,j,rfl,rfl,q⟩:=h
  obtain ⟨t,rfl⟩:=rx
  obtain ⟨t',rfl⟩:=ry
  exact rule i j t t' s _ _ ⟨.bl (g i j),H,I,rfl,q⟩
def CDiv (i j:Int):Prop:=0 < j∧j < 1073741824
def CDivN (i j:Int):Prop:=j≠0∧j.natAbs < 1073741824
theorem op_add:OpR X (binaryOp .Add) (rI0 fun i j=>.int (i + j)):=opI0 fun _ _ _ _ _ _ _ q=>add_int q
theorem op_sub:OpR X (binaryOp .Sub) (rI0 fun i j=>.int (i - j)):=opI0 fun _ _ _ _ _ _ _ q=>sub_int q
theorem op_fdiv:OpR X (binaryOp .FloorDiv) (rI CDiv fun i j=>.int (i / j)):=opI fun i j _ _ _ _ _ hc q=>by
  have h1:(0:Int) < j:=hc.1
  have h2:j < 1073741824:=hc.2
  exact floordiv_int (by omega) (by rw [Int.fdiv_eq_ediv_of_nonneg i (by omega)];exact q) (.inl (PyProof.noPylong_small (by omega)))
theorem op_fdivN:OpR X (binaryOp .FloorDiv) (rI CDivN fun i j=>.int (i.fdiv j)):=opI fun _ _ _ _ _ _ _ hc q=>floordiv_int hc.1 q (.inl (PyProof.noPylong_small hc.2))
theorem op_mod:OpR X (binaryOp .Mod) (rI (fun _ j=>0 < j) fun i j=>.int (i % j)):=opI fun i j _ _ _ _ _ hc q=>by
  have h1:(0:Int) < j:=hc
  exact mod_int' (by omega) (by rw [Int.fmod_eq_emod_of_nonneg i (by omega)];exact q)
theorem op_modN:OpR X (binaryOp .Mod) (rI (fun _ j=>j≠0) fun i j=>.int (i.fmod j)):=opI fun _ _ _ _ _ _ _ hc q=>mod_int' hc q
theorem unI {f:Value→Sem Value} {g:Int→Int}
    (rule:∀ (i:Int) (t:Tok) (s:Shared) (Q:Value→Shared→Prop) (E:Value→Shared→Prop),Q (.int (g i) s.toks) { s with toks:=s.toks + 1 }→wpAny (model X.prog X.w) X.A (f (.int i t)) Q E s) :
    UnR X f (rU fun i=>.int (g i)):=by
  intro pins s σ H x v Q I rx h
  obtain ⟨i,rfl,q⟩:=h
  obtain ⟨t,rfl⟩:=rx
  exact rule i t s _ _ ⟨.int (g i),H,I.tok _,⟨_,rfl⟩,q⟩
theorem un_neg:UnR X (unaryOp .USub) (rU fun i=>.int (-i)):=unI fun _ _ _ _ _ q=>neg_int q
end
noncomputable def scal:V→V→Bool
  | .non,.non=>true | .non,.int _=>true | .int _,.non=>true | .non,.bl _=>true | .bl _,.non=>true | .non,.str _=>true | .str _,.non=>true
  | .int _,.int _=>true | .bl _,.bl _=>true | .str _,.str _=>true | .byt _,.byt _=>true
  | .int _,.str _=>true | .str _,.int _=>true | .bl _,.str _=>true | .str _,.bl _=>true
  | _,_=>false
def rEq:R2:=fun x y H Q=>scal x y = true∧Q (.bl (decide (x = y))) H
def rNe:R2:=fun x y H Q=>scal x y = true∧Q (.bl (!decide (x = y))) H
theorem dec_int {i j:Int}:decide (V.int i = V.int j) = (i == j):=by
  rw [Bool.eq_iff_iff]
  simp
theorem dec_bl {i j:Bool}:decide (V.bl i = V.bl j) = (i == j):=by
  rw [Bool.eq_iff_iff]
  simp
theorem dec_str {i j:Str}:decide (V.str i = V.str j) = (i == j):=by
  rw [Bool.eq_iff_iff]
  simp
theorem dec_byt {i j:Array UInt8}:decide (V.byt i = V.byt j) = (i.toList == j.toList):=by
  rw [Bool.eq_iff_iff]
  cases i
  cases j
  simp
section
variable {X:Cx} {a b c:Expr} {ta tb tc:TE} {pos:Pos}
theorem fin_bl {pins:List (Addr × Obj)} {σ:St} {H:Hp} {s:Shared} {Q:VK} {k k':Bool} (I:Inv X pins σ H s) (q:Q (.bl k) H) (e:k = k'):EP X pins σ Q (.bool k') s:=by
  subst e
  exact ⟨.bl k,H,I,rfl,q⟩
theorem op_eq:OpR X (compareOp .Eq) rEq:=by
  intro pins s σ H x y v u Q I rx ry h
  obtain ⟨hs,q⟩:=h
  cases x with
  | non =>
    cases rx
    cases y with
    | non=>cases ry;exact PySem.EqNone.eq_none_none (fin_bl I q (by simp))
    | bl j=>cases ry;exact PySem.EqNone.eq_none_bool (fin_bl I q (by simp))
    | int j=>obtain ⟨t',rfl⟩:=ry;exact PySem.EqNone.eq_none_int (fin_bl I q (by simp))
    | str j=>obtain ⟨t',rfl⟩:=ry;exact PySem.EqNone.eq_none_str (fin_bl I q (by simp))
    | _=>exact absurd (show false = true from hs) Bool.false_ne_true
  | bl i =>
    cases rx
    cases y with
    | non=>cases ry;exact PySem.EqNone.eq_bool_none (fin_bl I q (by simp))
    | bl j=>cases ry;exact eq_bool (fin_bl I q dec_bl)
    | str j=>obtain ⟨t',rfl⟩:=ry;exact PySem.EqMixed.eq_bool_str (fin_bl I q (by simp))
    | _=>exact absurd (show false = true from hs) Bool.false_ne_true
  | int i =>
    obtain ⟨t,rfl⟩:=rx
    cases y with
    | non=>cases ry;exact PySem.EqNone.eq_int_none (fin_bl I q (by simp))
    | int j=>obtain ⟨t',rfl⟩:=ry;exact eq_int (fin_bl I q dec_int)
    | str j=>obtain ⟨t',rfl⟩:=ry;exact PySem.EqMixed.eq_int_str (fin_bl I q (by simp))
    | _=>exact absurd (show false = true from hs) Bool.false_ne_true
  | str i =>
    obtain ⟨t,rfl⟩:=rx
    cases y with
    | non=>cases ry;exact PySem.EqNone.eq_str_none (fin_bl I q (by simp))
    | bl j=>cases ry;exact PySem.EqMixed.eq_str_bool (fin_bl I q (by simp))
    | int j=>obtain ⟨t',rfl⟩:=ry;exact PySem.EqMixed.eq_str_int (fin_bl I q (by simp))
    | str j=>obtain ⟨t',rfl⟩:=ry;exact eq_str (fin_bl I q dec_str)
    | _=>exact absurd (show false = true from hs) Bool.false_ne_true
  | byt i =>
    obtain ⟨t,rfl⟩:=rx
    cases y with
    | byt j=>obtain ⟨t',rfl⟩:=ry;exact PySem.W.eq_bytes (fin_bl I q dec_byt)
    | _=>exact absurd (show false = true from hs) Bool.false_ne_true
  | _=>cases y <;> exact absurd (show false = true from hs) Bool.false_ne_true
theorem op_ne:OpR X (compareOp .NotEq) rNe:=by
  intro pins s σ H x y v u Q I rx ry h
  obtain ⟨hs,q⟩:=h
  cases x with
  | non =>
    cases rx
    cases y with
    | non=>cases ry;exact PySem.EqNone.ne_none_none (fin_bl I q (by simp))
    | bl j=>cases ry;exact PySem.EqNone.ne_none_bool (fin_bl I q (by simp))
    | int j=>obtain ⟨t',rfl⟩:=ry;exact PySem.EqNone.ne_none_int (fin_bl I q (by simp))
    | str j=>obtain ⟨t',rfl⟩:=ry;exact PySem.EqNone.ne_none_str (fin_bl I q (by simp))
    | _=>exact absurd (show false = true from hs) Bool.false_ne_true
  | bl i =>
    cases rx
    cases y with
    | non=>cases ry;exact PySem.EqNone.ne_bool_none (fin_bl I q (by simp))
    | bl j=>cases ry;exact ne_bool (fin_bl I q (congrArg not dec_bl))
    | str j=>obtain ⟨t',rfl⟩:=ry;exact PySem.EqMixed.ne_bool_str (fin_bl I q (by simp))
    | _=>exact absurd (show false = true from hs) Bool.false_ne_true
  | int i =>
    obtain ⟨t,rfl⟩:=rx
    cases y with
    | non=>cases ry;exact PySem.EqNone.ne_int_none (fin_bl I q (by simp))
    | int j=>obtain ⟨t',rfl⟩:=ry;exact ne_int (fin_bl I q (congrArg not dec_int))
    | str j=>obtain ⟨t',rfl⟩:=ry;exact PySem.EqMixed.ne_int_str (fin_bl I q (by simp))
    | _=>exact absurd (show false = true from hs) Bool.false_ne_true
  | str i =>
    obtain ⟨t,rfl⟩:=rx
    cases y with
    | non=>cases ry;exact PySem.EqNone.ne_str_none (fin_bl I q (by simp))
    | bl j=>cases ry;exact PySem.EqMixed.ne_str_bool (fin_bl I q (by simp))
    | int j=>obtain ⟨t',rfl⟩:=ry;exact PySem.EqMixed.ne_str_int (fin_bl I q (by simp))
    | str j=>obtain ⟨t',rfl⟩:=ry;exact ne_str (fin_bl I q (congrArg not dec_str))
    | _=>exact absurd (show false = true from hs) Bool.false_ne_true
  | byt i =>
    obtain ⟨t,rfl⟩:=rx
    cases y with
    | byt j=>obtain ⟨t',rfl⟩:=ry;exact PySem.W.ne_bytes (fin_bl I q (congrArg not dec_byt))
    | _=>exact absurd (show false = true from hs) Bool.false_ne_true
  | _=>cases y <;> exact absurd (show false = true from hs) Bool.false_ne_true
theorem op_lt:OpR X (compareOp .Lt) (rI0 fun i j=>.bl (decide (i < j))):=opB0 fun _ _ _ _ _ _ _ q=>lt_int q
theorem op_le:OpR X (compareOp .LtE) (rI0 fun i j=>.bl (decide (i≤j))):=opB0 fun _ _ _ _ _ _ _ q=>le_int q
theorem op_gt:OpR X (compareOp .Gt) (rI0 fun i j=>.bl (decide (j < i))):=opB0 fun _ _ _ _ _ _ _ q=>gt_int q
theorem nomark (b:Expr) {op:CmpOp} (h:op≠.In:=by decide) (h2:op≠.NotIn:=by decide):behindInMarks op b = false:=by
  have e1:(op == CmpOp.In) = false:=by cases op <;> first | rfl | exact absurd rfl h
  have e2:(op == CmpOp.NotIn) = false:=by cases op <;> first | rfl | exact absurd rfl h2
  cases b <;> simp [behindInMarks,e1,e2]
theorem pe_cmpR {op:CmpOp} {r:R2} (ho:OpR X (compareOp op) r) (ha:PE X a ta) (hb:PE X b tb) (hm:behindInMarks op b = false):PE X (.Compare a [op] [b] pos) (tOp r ta tb):=by
  intro pins s σ H Q I h
  exact wpAny_Compare1 (binT ha hb I h fun v u s2 x y H2 I2 rx ry q=>ho pins s2 σ H2 x y v u Q I2 rx ry q) hm
def tTest (t:TE):TT:=fun σ H Q=>t σ H fun x H'=>∃ k,x = .bl k∧Q k H'
theorem pt_cmpR {op:CmpOp} {r:R2} (ho:OpR X (compareOp op) r) (ha:PE X a ta) (hb:PE X b tb) (hm:behindInMarks op b = false):PT X (.Compare a [op] [b] pos) (tTest (tOp r ta tb)):=by
  intro pins s σ H Q I h
  refine wpAny_isTrue_Compare1 (thn (ha pins s σ H _ I h) fun v s1 ⟨x,H1,I1,r1,q1⟩=>thn (hb pins s1 σ H1 _ I1 q1) fun u s2 ⟨y,H2,I2,r2,q2⟩ =>
    thn (ho pins s2 σ H2 x y v u _ I2 r1 r2 q2) fun c s3 ⟨z,H3,I3,r3,k,e,q3⟩=>?_) hm
  subst e
  cases r3
  exact wpAny_truthy_bool ⟨H3,I3,q3⟩
def TruV (K:PySem.W.Frag) (x:V) (H:Hp) (k:Bool):Prop :=
  match x with
  | .non=>k = false
  | .bl b=>k = b
  | .int i=>k = (i != 0)
  | .str y=>y.length≤sizeLine∧k = ((y.length:Int) != 0)
  | .byt y=>y.size≤sizeLine∧k = ((y.size:Int) != 0)
  | .ref p=>(∃ xs,SqL K H p xs∧k = !xs.isEmpty)∨(∃ xs,SqT K H p xs∧k = !xs.isEmpty)∨∃ kvs,H p = some (.dK kvs)∧k = !kvs.isEmpty
  | _=>False
theorem isEmpty_kv {κ:Type} {kvs:List (κ × V)} {vs:List (κ × Value)} (r:KV kvs vs):(!vs.isEmpty) = !kvs.isEmpty:=by
  cases r <;> rfl
theorem isEmpty_of {xs:List V} {its:List Value} (r:Vals xs its):(!its.toArray.isEmpty) = !xs.isEmpty:=by
  cases r <;> simp
theorem line63:(sizeLine:Nat) < 2 ^ 63:=by rw [sizeLine_eq];decide
theorem tru_ok:TruR X (fun x H Q=>∃ k,TruV X.K x H k∧Q k H):=by
  intro pins s σ H x v Q I rx h
  obtain ⟨k,e,q⟩:=h
  have hl:=line63
  have hs:sizeLine = 16777216:=sizeLine_eq
  cases x with
  | non =>
    cases rx
    have e':k = false:=e
    subst e'
    exact truthy_none ⟨H,I,q⟩
  | bl b =>
    cases rx
    have e':k = b:=e
    subst e'
    exact wpAny_truthy_bool ⟨H,I,q⟩
  | int i =>
    obtain ⟨t,rfl⟩:=rx
    have e':k = (i != 0):=e
    subst e'
    exact PySem.P.truthy_int ⟨H,I,q⟩
  | str y =>
    obtain ⟨t,rfl⟩:=rx
    obtain ⟨hy,e'⟩:y.length≤sizeLine∧k = ((y.length:Int) != 0):=e
    subst e'
    exact PySem.P.truthy_str (by omega) ⟨H,I.tok _,q⟩
  | byt y =>
    obtain ⟨t,rfl⟩:=rx
    obtain ⟨hy,e'⟩:y.size≤sizeLine∧k = ((y.size:Int) != 0):=e
    subst e'
    exact PySem.W.truthy_bytes (by omega) ⟨H,I.tok _,q⟩
  | ref p =>
    cases rx
    have e':(∃ xs,SqL X.K H p xs∧k = !xs.isEmpty)∨(∃ xs,SqT X.K H p xs∧k = !xs.isEmpty)∨∃ kvs,H p = some (.dK kvs)∧k = !kvs.isEmpty:=e
    rcases e' with ⟨xs,hx,e'⟩ | ⟨xs,hx,e'⟩ | ⟨kvs,hx,e'⟩
    · subst e'
      obtain ⟨its,r,pl,hz⟩:=I.list hx
      have hlen:=r.length
      exact wpAny_truthy_list pl.isList (by simp only [List.size_toArray];omega) ⟨H,I.tok _,by rw [isEmpty_of r];exact q⟩
    · subst e'
      obtain ⟨its,r,pl,hz⟩:=I.tuple hx
      have hlen:=r.length
      exact truthy_tuple pl (by simp only [List.size_toArray];omega) ⟨H,I.tok _,by rw [isEmpty_of r];exact q⟩
    · subst e'
      obtain ⟨hz,hS,vs,r,m⟩:kvs.length≤sizeLine∧(p == sysModules) = false∧∃ vs,KV kvs vs∧s.heap.DictOf (mixKind X.prog X.w) p vs:=I.hok p _ hx
      have hlen:kvs.length = vs.length:=Paired.length r
      exact wpAny_truthy_dict hS m (by omega) ⟨H,I.tok _,by rw [isEmpty_kv r];exact q⟩
  | _=>exact (show False from e).elim
theorem pt_truth (ha:PE X a ta) (he:∀ whole,isTrue a X.env whole = (do let v ← whole;standAt a.pos;holding [v] (truthy v))) :
    PT X a (fun σ H Q=>ta σ H fun x H'=>∃ k,TruV X.K x H' k∧Q k H'):=by
  intro pins s σ H Q I h
  exact isTrue_plain (thn (ha pins s σ H _ I h) fun v s1 ⟨x,H1,I1,r1,q1⟩=>tru_ok pins s1 σ H1 x v Q I1 r1 q1) (he _)
theorem vals1 {x:V} {us:List Value} (r:Vals [x] us):∃ u,us = [u]∧RelV x u:=by
  cases r with
  | cons r1 r2=>cases r2;exact ⟨_,rfl,r1⟩
theorem vals2 {x y:V} {us:List Value} (r:Vals [x,y] us):∃ u w',us = [u,w']∧RelV x u∧RelV y w':=by
  cases r with
  | cons r1 r2 =>
    cases r2 with
    | cons r3 r4=>cases r4;exact ⟨_,_,rfl,r1,r3⟩
theorem call_abs:CallR X (.builtin "abs") (fun xs H Q=>∃ i,xs = [.int i]∧Q (.int (if i < 0 then -i else i)) H):=by
  intro pins s σ H xs us Q I r h
  obtain ⟨i,rfl,q⟩:=h
  obtain ⟨u,rfl,t,rfl⟩:=vals1 r
  exact call_abs_int fun u tk=>⟨.int (if i < 0 then -i else i),H,I.tok _,⟨_,rfl⟩,q⟩
end
end L2
namespace L2
open PySem PySem.Spec PyProof.Rows
structure Room (k:Nat) (A:Around):Prop where
  hd:A.handled = none
  dp:A.depth + 3 * k + 5 < recursionLimit
  un:A.units + 16 * k + 200 < cLine
theorem Room.mono {j k:Nat} {A:Around} (r:Room k A) (h:j≤k):Room j A:=⟨r.hd,by have:=r.dp;omega,by have:=r.un;omega⟩
theorem Room.deeper {k:Nat} {A:Around} (r:Room (k + 1) A) (env:Env):Room k (A.deeper env) :=
  ⟨r.hd,by have:=r.dp;show A.depth + 1 + 3 * k + 5 < _;omega,by have:=r.un;show A.units + 3 + 16 * k + 200 < _;omega⟩
theorem Room.depth {k:Nat} {A:Around} (r:Room k A):A.depth < recursionLimit:=by have:=r.dp;omega
theorem Room.units {k:Nat} {A:Around} (r:Room k A):A.units + 64 < cLine:=by have:=r.un;omega
def tNil:TA:=fun _ H Q=>Q [] H
def tCons (ta:TE) (tr:TA):TA:=fun σ H Q=>ta σ H fun x H1=>tr σ H1 fun xs H2=>Q (x :: xs) H2
section
variable {X:Cx} {e:Expr} {es:List Expr} {te:TE} {t:TA} {pos:Pos}
theorem pa_nil:PA X [] tNil:=fun _ _ _ _ H Q I h=>Calls.spliced_nil ⟨[],H,I,.nil,h⟩
theorem pa_cons (ha:PE X e te) (hr:PA X es t) (hs:starEach (e :: es) X.env = (false,eval e X.env) :: starEach es X.env:=by rfl):PA X (e :: es) (tCons te t):=by
  intro pos pins s σ H Q I h
  rw [hs]
  show wpAny _ _ (spliced ((false,eval e X.env) :: backTo pos (starEach es X.env))) _ _ s
  refine Calls.spliced_cons (thn (ha pins s σ H _ I h) fun u s1 ⟨x,H1,I1,r1,q1⟩=>?_)
  exact thn (hr pos pins s1 σ H1 _ I1 q1) fun us s2 ⟨xs,H2,I2,r2,q2⟩=>⟨x :: xs,H2,I2,.cons r1 r2,q2⟩
def tTup (t:TA):TE:=fun σ H Q=>t σ H fun xs H1=>xs.length≤sizeLine∧∀ p,H1 p = none→Q (.ref p) (upd H1 p (.tup xs))
def tLst (t:TA):TE:=fun σ H Q=>t σ H fun xs H1=>xs.length≤sizeLine∧∀ p,H1 p = none→Q (.ref p) (upd H1 p (.lst xs))
theorem pe_tup {x1} (h:PA X es t):PE X (.Tuple es x1 pos) (tTup t):=by
  intro pins s σ H Q I hq
  refine wpAny_Tuple_spliced (thn (h pos pins s σ H _ I hq) fun us s1 ⟨xs,H1,I1,r,z,q⟩=>⟨by rw [← r.length];exact z,?_⟩)
  have hf:H1 s1.heap.objs.size = none:=I1.hok.fresh (Nat.le_refl _)
  refine ⟨.ref s1.heap.objs.size,upd H1 s1.heap.objs.size (.tup xs),I1.laid (t':=s1.toks) (fun b u e=>Heap.get?_push_of_some _ e) (Nat.le_refl _) ?_,rfl,q _ hf⟩
  exact ⟨z,us,r,⟨_,Heap.get?_push_size _ rfl,rfl,_,rfl⟩⟩
theorem pe_lst (h:PA X es t):PE X (.List es pos) (tLst t):=by
  intro pins s σ H Q I hq
  refine wpAny_List_spliced (thn (h pos pins s σ H _ I hq) fun us s1 ⟨xs,H1,I1,r,z,q⟩=>⟨by rw [← r.length];exact z,?_⟩)
  have hf:H1 s1.heap.objs.size = none:=I1.hok.fresh (Nat.le_refl _)
  refine ⟨.ref s1.heap.objs.size,upd H1 s1.heap.objs.size (.lst xs),I1.laid (t':=s1.toks) (fun b u e=>Heap.get?_push_of_some _ e) (Nat.le_refl _) ?_,rfl,q _ hf⟩
  exact ⟨z,us,0,r,Heap.get?_push_size _ rfl⟩
end
abbrev Sp:=List V→Hp→VK→XK→Prop
abbrev CXT:=List Env→Hp→Shared→XK→Value→Shared→Prop
structure Env0 (P:Program) (w:World) (K:PySem.W.Frag) (mg:Str→Option Value) (base:Heap) (A:Around) (outer:List Env) (s:Shared) (H:Hp):Prop where
  frames:A.frames = some outer
  mod:Mod K mg base
  bs:∀ b o,base.get? b = some o→s.heap.get? b = some o∧H b = none
  bsz:base.objs.size≤s.heap.objs.size
  funs:s.heap.FunFrames base outer
  frf:∀ b∈frs outer,H b = none
  hok:HOk P w H s.heap
  bare:AllBare s.gens
def CE (outer:List Env) (P:Program) (w:World) (H:Hp) (s:Shared) (Q:VK) (u:Value) (s':Shared):Prop :=
  ∃ v H',s'.os = s.os∧AllBare s'.gens∧Un (frs outer) [] H H' s.heap s'.heap∧HOk P w H' s'.heap∧RelV v u∧Q v H'
def CR (CX:CXT) (outer:List Env) (P:Program) (w:World) (H:Hp) (s:Shared) (Q:VK) (E:XK) (r:Result) (s':Shared):Prop :=
  match r with
  | .ok (.ret u)=>CE outer P w H s Q u s'
  | .ok _=>False
  | .error e=>CX outer H s E e s'
structure FnOk (P:Program) (w:World) (K:PySem.W.Frag) (mg:Str→Option Value) (base:Heap) (CX:CXT) (k:Nat) (f:Addr) (fd:FuncData) (ps:List Str) (sp:Sp):Prop where
  len:∀ vs H Q E,sp vs H Q E→vs.length = ps.length
  run:∀ (A:Around) (outer:List Env) (s:Shared) (H:Hp) (args:Args) (us:List Value) (vs:List V) (Q:VK) (E:XK),Room k A→Env0 P w K mg base A outer s H→BindsTo s fd args (ps.zip us)→Vals vs us→sp vs H Q E →
    codeAny (model P w) A (.call (.ref f) args) (CR CX outer P w H s Q E) s
section
variable {X:Cx} {pins:List (Addr × Obj)} {σ:St} {H:Hp} {s s':Shared}
theorem Inv.env0 (I:Inv X pins σ H s):Env0 X.prog X.w X.K X.mg X.base X.A X.stack s H :=
  ⟨I.ok.frames,I.ok.mod,I.bs,Nat.le_trans I.ok.bsz I.sz,I.stack,I.stkFree,I.hok,I.bare⟩
theorem Inv.after {Q:VK} {u:Value} (I:Inv X pins σ H s) (h:CE X.stack X.prog X.w H s Q u s'):EP X pins σ Q u s':=by
  obtain ⟨v,H',os,bare,un,hok,r,q⟩:=h
  obtain ⟨hh,g,d,t,os'⟩:=s'
  obtain rfl:os' = s.os:=os
  exact ⟨v,H',I.call (h':=hh) (g':=g) (d':=d) (t':=t) (ch:=[]) un hok bare (fun b z=>absurd z (by simp)),r,q⟩
end
def tCall (sp:Sp) (dvs:List V) (E:XK) (t:TA):TE:=fun σ H Q=>t σ H fun vs H1=>sp (vs ++ dvs) H1 Q E
def Binds (K:PySem.W.Frag) (fd:FuncData) (ps:List Str) (ds:List Value):Prop :=
  ∀ (s:Shared) (us:List Value),K.In s.heap→(us ++ ds).length = ps.length→BindsTo s fd ⟨us,[]⟩ (ps.zip (us ++ ds))
theorem Binds.all {K:PySem.W.Frag} {fd:FuncData} {ps:List Str} (h:∀ us:List Value,us.length = ps.length→bindArgs fd ⟨us,[]⟩ = pure (ps.zip us)):Binds K fd ps []:=fun s us _ hl=>by
  rw [List.append_nil] at hl ⊢
  exact .of_eq (h us hl)
def Passes (CX:CXT) (X:Cx) (E:XK):Prop:=∀ (pins:List (Addr × Obj)) (σ:St) (H:Hp) (s:Shared) (e:Value) (s':Shared),Inv X pins σ H s→CX X.stack H s E e s'→X.xe e s'
section
variable {X:Cx} {CX:CXT} {k:Nat} {f C:Addr} {fd:FuncData} {ps:List Str} {sp:Sp} {dvs:List V} {ds:List Value} {E:XK} {x m:Str} {p pos apos:Pos} {e o:Expr} {es:List Expr} {ta:TE} {t:TA}
theorem run_fn {pins:List (Addr × Obj)} {σ:St} {H:Hp} {s:Shared} {Q:VK} {us:List Value} {vs:List V} (F:FnOk X.prog X.w X.K X.mg X.base CX k f fd ps sp) (hr:Room k X.A) (hb:Binds X.K fd ps ds) (hd:Vals dvs ds) (hx:Passes CX X E)
    (I:Inv X pins σ H s) (r:Vals vs us) (h:sp (vs ++ dvs) H Q E):wpAny (model X.prog X.w) X.A (call (.ref f) us) (EP X pins σ Q) X.xe s:=by
  have r2:Vals (vs ++ dvs) (us ++ ds):=r.append hd
  have hl:(us ++ ds).length = ps.length:=by rw [← r2.length];exact F.len _ _ _ _ h
  refine wpAny_call (codeAny_mono (F.run X.A X.stack s H ⟨us,[]⟩ (us ++ ds) (vs ++ dvs) Q E hr I.env0 (hb s us I.kIn hl) r2 h) fun r s' hq=>?_)
  cases r with
  | error e=>exact hx pins σ H s e s' I hq
  | ok fl =>
    cases fl with
    | ret u=>exact I.after hq
    | next=>exact False.elim hq
    | brk=>exact False.elim hq
    | cont=>exact False.elim hq
theorem pe_call (F:FnOk X.prog X.w X.K X.mg X.base CX k f fd ps sp) (hr:Room k X.A) (hg:Gl X x) (hm:X.mg x = some (.ref f)) (hk:PySem.W.keepIn X.K (.ref f) = true) (hb:Binds X.K fd ps ds) (hd:Vals dvs ds) (hx:Passes CX X E)
    (ha:PA X (e :: es) t) (hdb:(x == ("__debug__":Str)) = false:=by decide) (he:starEach (e :: es) X.env = (false,eval e X.env) :: starEach es X.env:=by rfl) (hpl:(backTo pos (starEach es X.env)).any (·.1) = false:=by rfl) :
    PE X (.Call (.Name x p) (e :: es) [] pos) (tCall sp dvs E t):=by
  intro pins s σ H Q I h
  refine wpAny_Call_Name_kw (ld_glob I hg hm ?_ hdb)
  refine PySem.W.callWith_K (h₀:=X.base) I.ok.mod.kin hk (thn (ha pos pins s σ H _ I h) fun us s1 ⟨vs,H1,I1,r,q⟩=>⟨I1.kIn,?_⟩) he hpl
  exact run_fn F hr hb hd hx I1 r q
end
structure FnScope (N P:List Str) (sc:Scope):Prop where
  kind:sc.kind = .function
  co:sc.isCoroutine = false
  gen:sc.isGenerator = false
  nd:N.Nodup
  pre:N.take P.length = P
  par:∀ x∈P,sc.names.lookup x = some .local∨sc.names.lookup x = some .cell
  nofree:∀ y∈sc.names,y.2≠.free
theorem bindL_out {kindOf:Str→Option NameKind} {x:Str}:∀ {binds:List (Str × Value)} {m:Str→Option Value},(∀ v,(x,v) ∉ binds)→bindL kindOf binds m x = m x
  | [],_,_=>rfl
  | (n,v) :: r,m,h=>by
    unfold bindL
    rw [bindL_out fun w hw=>h w (List.mem_cons_of_mem _ hw)]
    split
    · have:x≠n:=by rintro rfl;exact h v List.mem_cons_self
      simp [this]
    · rfl
theorem bindC_out {kindOf:Str→Option NameKind} {x:Str}:∀ {binds:List (Str × Value)} {m:Str→Option Value},(∀ v,(x,v) ∉ binds)→bindC kindOf binds m x = m x
  | [],_,_=>rfl
  | (n,v) :: r,m,h=>by
    unfold bindC
    rw [bindC_out fun w hw=>h w (List.mem_cons_of_mem _ hw)]
    split
    · rfl
    · have:x≠n:=by rintro rfl;exact h v List.mem_cons_self
      simp [this]
theorem bindL_get {kindOf:Str→Option NameKind} {x:Str} {v:Value}:∀ {P:List Str} {vs:List Value} {i:Nat} {m:Str→Option Value},P.Nodup→P[i]? = some x→vs[i]? = some v→kindOf x = some .local →
    bindL kindOf (P.zip vs) m x = some v
  | [],_,_,_,_,h,_,_=>by simp at h
  | _ :: _,[],_,_,_,_,h,_=>by simp at h
  | p :: P,w :: vs,0,m,nd,h1,h2,hk=>by
    simp at h1 h2;subst h1;subst h2
    show bindL kindOf ((p,w) :: P.zip vs) m p = _
    unfold bindL
    rw [bindL_out fun v hv=>(List.nodup_cons.mp nd).1 (List.of_mem_zip hv).1,if_pos hk]
    simp
  | p :: P,w :: vs,i + 1,m,nd,h1,h2,hk=>by
    show bindL kindOf ((p,w) :: P.zip vs) m x = _
    unfold bindL
    exact bindL_get (i:=i) (List.nodup_cons.mp nd).2 (by simpa using h1) (by simpa using h2) hk
theorem bindC_get {kindOf:Str→Option NameKind} {x:Str} {v:Value}:∀ {P:List Str} {vs:List Value} {i:Nat} {m:Str→Option Value},P.Nodup→P[i]? = some x→vs[i]? = some v→kindOf x≠some .local →
    bindC kindOf (P.zip vs) m x = some v
  | [],_,_,_,_,h,_,_=>by simp at h
  | _ :: _,[],_,_,_,_,h,_=>by simp at h
  | p :: P,w :: vs,0,m,nd,h1,h2,hk=>by
    simp at h1 h2;subst h1;subst h2
    show bindC kindOf ((p,w) :: P.zip vs) m p = _
    unfold bindC
    rw [bindC_out fun v hv=>(List.nodup_cons.mp nd).1 (List.of_mem_zip hv).1,if_neg hk]
    simp
  | p :: P,w :: vs,i + 1,m,nd,h1,h2,hk=>by
    show bindC kindOf ((p,w) :: P.zip vs) m x = _
    unfold bindC
    exact bindC_get (i:=i) (List.nodup_cons.mp nd).2 (by simpa using h1) (by simpa using h2) hk
def start (N:List Str) (vs:List V):St:=vs.map some ++ List.replicate (N.length - vs.length) none
def cxOf (CX:CXT) (P:Program) (w:World) (K:PySem.W.Frag) (mg:Str→Option Value) (base:Heap) (N:List Str) (qual:Str) (scope:Scope) (f:Addr) (cd:Value) (A:Around) (outer:List Env) (s:Shared) (H:Hp) (E:XK):Cx where
  prog:=P
  w:=w
  K:=K
  mg:=mg
  base:=base
  A:=A.deeper (envOfC qual scope s.heap.objs.size f cd)
  N:=N
  s_0:=s
  H_0:=H
  env:=envOfC qual scope s.heap.objs.size f cd
  outer:=outer
  stack:=envOfC qual scope s.heap.objs.size f cd :: outer
  ex:=[]
  calm:=true
  fn:=fun _=>true
  pn:=[]
  xe:=fun e s'=>wpAny (model P w) (A.deeper (envOfC qual scope s.heap.objs.size f cd)) (leaving (envOfC qual scope s.heap.objs.size f cd) e) (fun _ s''=>CX outer H s E e s'') (fun e' s''=>CX outer H s E e' s'') s'
theorem cell_has {sc:Scope} {n:Nat} {x:Str} (h:sc.names.lookup x = some .cell):∃ c,(cellsFrom n sc.names []).lookup x = some c:=by
  have q:=PySem.W.cellsFrom_some sc.names n [] (.inl h)
  exact Option.isSome_iff_exists.mp q
theorem inv_start {CX:CXT} {P:Program} {w:World} {K:PySem.W.Frag} {mg:Str→Option Value} {base:Heap} {N ps:List Str} {qual:Str} {scope:Scope} {f:Addr} {cd:Value} {A:Around} {outer:List Env} {s s1:Shared} {H:Hp} {E:XK} {us:List Value} {vs:List V}
    (S:FnScope N ps scope) (hd:A.handled = none) (e0:Env0 P w K mg base A outer s H) (hl:vs.length = ps.length) (r:Vals vs us)
    (x:InCallC s s.heap.objs.size (bindL (envOfC qual scope s.heap.objs.size f cd).kindOf (ps.zip us) fun _=>none) (cellsFrom (s.heap.objs.size + 1) scope.names []) (bindC (envOfC qual scope s.heap.objs.size f cd).kindOf (ps.zip us) fun _=>none) s1) :
    Inv (cxOf CX P w K mg base N qual scope f cd A outer s H E) [] (start N vs) H s1:=by
  have hpl:ps.length≤N.length:=by have:=congrArg List.length S.pre;rw [List.length_take] at this;omega
  obtain ⟨h1,tk,rfl,hk⟩:=x.done
  have noA:∀ b:Addr,b ∉ (cxOf CX P w K mg base N qual scope f cd A outer s H E).ex:=fun b z=>absurd (show b∈([]:List Addr) from z) (by simp)
  refine ⟨⟨e0.mod,S.kind,rfl,rfl,Nat.le_refl _,fun y z c h1 h2=>?_,fun y hy=>?_,fun y c _ h=>?_,fun _=>hd,Around.frames_deeper e0.frames,.inr ⟨rfl,rfl⟩,fun b z=>absurd z (noA b),e0.bs,e0.bsz,fun b _ _=>noA b,fun b z=>absurd z (noA b),e0.funs,e0.frf⟩,
    rfl,e0.bare,Un.kept hk,⟨_,x.toInCall.ns,fun i y v h1 h2 h3=>?_⟩,fun y c h=>⟨_,x.cell y c h⟩,e0.hok.fresh (Nat.le_refl _),fun y c h=>?_,fun p hp=>absurd (show p∈([]:List (Addr × Obj)) from hp) (by simp),e0.hok.kept hk,?_⟩
  · exact name_of_addr x.apart (PySem.mem_of_lookup h1) (PySem.mem_of_lookup h2)
  · have hy:scope.names.lookup y = some .cell∨scope.names.lookup y = some .free:=hy
    rcases hy with hy | hy
    · exact cell_has hy
    · exact absurd rfl (S.nofree _ (PySem.mem_of_lookup hy))
  · exact Nat.le_of_lt (x.above y c (PySem.mem_of_lookup h))
  · have hi:i < vs.length:=by
      unfold start at h2
      by_cases hi:i < vs.length
      · exact hi
      · rw [List.getElem?_append_right (by simpa using hi)] at h2
        rw [List.getElem?_replicate] at h2
        split at h2 <;> cases h2
    have ha:vs[i]? = some v:=by
      unfold start at h2
      rw [List.getElem?_append_left (by simpa using hi),List.getElem?_map] at h2
      cases e:vs[i]? with
      | none=>rw [e] at h2;cases h2
      | some a=>rw [e] at h2;cases h2;rfl
    obtain ⟨u,hu,rv⟩:=r.get ha
    have hp:ps[i]? = some y:=by
      rw [← S.pre,List.getElem?_take_of_lt (by omega)];exact h1
    have ndP:ps.Nodup:=by rw [← S.pre];exact S.nd.sublist (List.take_sublist _ _)
    refine ⟨u,rv,?_⟩
    rcases S.par y (List.mem_of_getElem? hp) with k | k
    · exact .inl ⟨k,bindL_get ndP hp hu k⟩
    · obtain ⟨c,e⟩:=cell_has (n:=s.heap.objs.size + 1) k
      refine .inr ⟨.inl k,c,e,?_⟩
      have q:=x.cell y c e
      rw [bindC_get ndP hp hu (by show scope.names.lookup y≠_;rw [k];decide)] at q
      exact q
  · exact e0.hok.fresh (Nat.le_of_lt (x.above y c (PySem.mem_of_lookup h)))
  · unfold start
    show _ = N.length
    rw [List.length_append,List.length_map,List.length_replicate]
    omega
theorem fn_of {CX:CXT} {P:Program} {w:World} {K:PySem.W.Frag} {mg:Str→Option Value} {base:Heap} {k:Nat} {f:Addr} {name qual:Str} {params:Arguments} {body:List Stmt} {scope:Scope} {dV kV doc pm cdv ct oc:Value} {an od:Option Addr}
    {osl:Array (Option Value)} {N ps:List Str} {sp:Sp} (lk:K.lookup f = some ⟨oc,od,.func (PySem.W.fnOf name qual params body scope dV kV doc pm an cdv ct),osl⟩) (hcd:PySem.W.codeIn K cdv qual = true) (S:FnScope N ps scope)
    (len:∀ vs H Q E,sp vs H Q E→vs.length = ps.length)
    (hbody:∀ (A:Around) (outer:List Env) (s:Shared) (H:Hp) (vs:List V) (Q:VK) (E:XK),Room k (A.deeper (envOfC qual scope s.heap.objs.size f cdv))→sp vs H Q E →
      ∃ t,PSs (cxOf CX P w K mg base N qual scope f cdv A outer s H E) body t∧t { nx:=fun _ H'=>Q .non H',rt:=Q } (start N vs) H) :
    FnOk P w K mg base CX (k + 1) f (PySem.W.fnOf name qual params body scope dV kV doc pm an cdv ct) ps sp:=by
  refine ⟨len,fun A outer s H args us vs Q E hr e0 hb r hsp=>?_⟩
  have hl:=len _ _ _ _ hsp
  have KX:K.In s.heap:=e0.mod.kin.keeps fun b o e=>(e0.bs b o e).1
  have lim:s.heap.NoLimit:=e0.mod.nolimit.keeps fun b o e=>(e0.bs b o e).1
  have hkind:∀ y∈ps.zip us,scope.names.lookup y.1 = some .local∨(scope.names.lookup y.1 = some .cell∧((cellsFrom (s.heap.objs.size + 1) scope.names []).lookup y.1).isSome = true):=fun ⟨n,v⟩ hy=>by
    rcases S.par n (List.of_mem_zip hy).1 with q | q
    · exact .inl q
    · exact .inr ⟨q,PySem.W.cellsFrom_some _ _ _ (.inl q)⟩
  refine codeAny_call_function hr.depth (KX _ _ lk) rfl S.co S.gen rfl (PySem.W.codeRec_of KX hcd) (hb _ _ _ _ ?_)
  refine wpAny_newFunctionEnv_cells S.kind hkind fun env he s1 x=>?_
  subst he
  refine ⟨lim.keeps x.toInCall.keep,codeAny_func ?_⟩
  obtain ⟨t,ht,hq⟩:=hbody A outer s H vs Q E (hr.deeper _) hsp
  have I:Inv (cxOf CX P w K mg base N qual scope f cdv A outer s H E) [] (start N vs) H s1:=inv_start S hr.hd e0 hl r x
  refine wpAny_mono (ht [] s1 (start N vs) H _ I hq) (fun fl s' hs=>?_) fun e s' hs=>hs
  have fin:∀ {σ':St} {H':Hp} {v:V} {u:Value},Inv (cxOf CX P w K mg base N qual scope f cdv A outer s H E) [] σ' H' s'→RelV v u→Q v H'→CE outer P w H s Q u s' :=
    fun {σ' H' v u} J rv q=>⟨v,H',J.os,J.bare,J.base,J.hok,rv,q⟩
  cases fl with
  | ret u =>
    obtain ⟨v,σ',H',J,rv,q⟩:=hs
    exact fin J rv q
  | next =>
    obtain ⟨σ',H',J,q⟩:=hs
    exact fin (v:=V.non) (u:=Value.none) J rfl q
  | brk =>
    obtain ⟨_,_,_,q⟩:=hs
    exact False.elim q
  | cont =>
    obtain ⟨_,_,_,q⟩:=hs
    exact False.elim q
end L2
namespace L2
open PySem PySem.Spec PyProof.Rows
section
variable {X:Cx} {x:Str} {p pos:Pos} {e:Expr} {es:List Expr} {t:TA} {id T:String} {r:List V→Hp→VK→Prop}
def tCB (r:List V→Hp→VK→Prop) (t:TA):TE:=fun σ H Q=>t σ H fun vs H1=>r vs H1 Q
theorem pe_callB (hc:CallR X (.builtin id) r) (hg:Gl X x) (hm:X.mg x = none) (hv:bootBuiltins x = some (.builtin id)) (ha:PA X (e :: es) t) (hn:x≠"__name__":=by decide) (hdb:(x == ("__debug__":Str)) = false:=by decide)
    (he:starEach (e :: es) X.env = (false,eval e X.env) :: starEach es X.env:=by rfl) (hpl:(backTo pos (starEach es X.env)).any (·.1) = false:=by rfl):PE X (.Call (.Name x p) (e :: es) [] pos) (tCB r t):=by
  intro pins s σ H Q I h
  refine wpAny_Call_Name_kw (ld_blt I hg hm hv ?_ hn hdb)
  exact PyProof.Rows.callWith_builtin1 (thn (ha pos pins s σ H _ I h) fun us s1 ⟨vs,H1,I1,r1,q1⟩=>hc pins s1 σ H1 vs us Q I1 r1 q1) he hpl
theorem pe_callTy (hc:CallR X (.type T) r) (hg:Gl X x) (hm:X.mg x = none) (hv:bootBuiltins x = some (.type T)) (ha:PA X (e :: es) t) (hn:x≠"__name__":=by decide) (hdb:(x == ("__debug__":Str)) = false:=by decide)
    (he:starEach (e :: es) X.env = (false,eval e X.env) :: starEach es X.env:=by rfl) (hpl:(backTo pos (starEach es X.env)).any (·.1) = false:=by rfl):PE X (.Call (.Name x p) (e :: es) [] pos) (tCB r t):=by
  intro pins s σ H Q I h
  refine wpAny_Call_Name_kw (ld_blt I hg hm hv ?_ hn hdb)
  exact PyProof.Rows.callWith_type1 (thn (ha pos pins s σ H _ I h) fun us s1 ⟨vs,H1,I1,r1,q1⟩=>hc pins s1 σ H1 vs us Q I1 r1 q1) he hpl
end
end L2
namespace HT
open PySem PyProof.Rows
def lexLt:List Int→List Int→Bool
  | [],[]=>false
  | [],_ :: _=>true
  | _ :: _,[]=>false
  | x :: xs,y :: ys=>if x = y then lexLt xs ys else decide (x < y)
theorem lexLt_cons (x y:Int) (xs ys:List Int):lexLt (x :: xs) (y :: ys) = if x = y then lexLt xs ys else decide (x < y):=rfl
theorem lexLt_nil_nil:lexLt [] [] = false:=rfl
theorem lexLt_nil_cons (y:Int) (ys:List Int):lexLt [] (y :: ys) = true:=rfl
theorem lexLt_cons_nil (x:Int) (xs:List Int):lexLt (x :: xs) [] = false:=rfl
theorem eqAt_int (A:Around) (s:Shared) (a:Int) (t:Tok) (c:Int) (u:Tok):∃ e,SeqAt.EqAt A s (.int a t) (.int c u) e∧(e = true↔a = c) :=
  ⟨(a == c),SeqAt.EqAt.int_int a t c u,by simp⟩
theorem rcLt_int (A:Around) (s:Shared) (a:Int) (t:Tok) (c:Int) (u:Tok) (prog:Program) (w:World) (E:Value→Shared→Prop) (Q:Value→Shared→Prop) (h:Q (.bool (decide (a < c))) s) :
    wpAny (model prog w) A (richCompare .Lt (.int a t) (.int c u)) Q E s :=
  (PyProof.Rows.lt_int h:wpAny (model prog w) A (compareOp .Lt (.int a t) (.int c u)) Q E s)
section
open PySem.SeqAt
open PySem.AutoSeq1 (wpAny_loadPart')
open PySem.MeetsSeq PySem.MeetsSeq2 PySem.MeetsSeq3
theorem tuple_lt_ints (l b:Addr) (items items2:Array Value) (n n2:Nat) (dd dd2:Option Addr) (sl sl2:Array (Option Value)) (ns ms:List Int) (hi:IntsAre items.toList ns) (hj:IntsAre items2.toList ms) :
    Meets (Builtin.«tuple.__lt__» ⟨[.ref l,.ref b],[]⟩)
      (fun _ R s=>s.heap.get? l = some { cls:=.type "tuple",dict:=dd,data:=.seq items n,slots:=sl }∧s.heap.get? b = some { cls:=.type "tuple",dict:=dd2,data:=.seq items2 n2,slots:=sl2 } ∧
        R (.ok (.ret (.bool (lexLt ns ms)))) s) :=
  .of_wp fun prog w A R s h=>by
    obtain ⟨hp,g,d,tk,os⟩:=s;obtain ⟨hl,hb,h⟩:=h
    have f2:=AutoSeq1.sub_tuple_tuple
    have z1:items.size = ns.length:=by rw [← hi.length];simp
    have z2:items2.size = ms.length:=by rw [← hj.length];simp
    wp_walk using wpAny_loadPart' hl,wpAny_loadPart' hb,wpAny_forIn_list _ (fun rest b s'=>b.1 = none∧s' = ⟨hp,g,d,tk,os⟩∧∃ (vs ws:List Value) (ns' ms':List Int),rest = vs.zip ws ∧
      IntsAre vs ns'∧IntsAre ws ms'∧ns'.length + items2.size = ms'.length + items.size∧R (.ok (.ret (.bool (lexLt ns' ms')))) ⟨hp,g,d,tk,os⟩) _
    case turn =>
      rintro ⟨y,x⟩ rest b s' ⟨hb',rfl,vs,ws,ns',ms',hz,hvi,hwi,hlen,hR⟩
      cases hvi with
      | nil=>rw [List.zip_nil_left] at hz;cases hz
      | cons a t hvi' =>
        cases hwi with
        | nil=>rw [List.zip_nil_right] at hz;cases hz
        | cons c u hwi' =>
          rw [List.zip_cons_cons] at hz
          injection hz with hyx hrest
          injection hyx with hy hx
          subst hy hx
          rw [lexLt_cons] at hR
          simp only [List.length_cons] at hlen
          obtain ⟨e,he,hiff⟩:=eqAt_int A.in1 ⟨hp,g,d,tk,os⟩ a t c u
          refine wpAny_bind (he prog w _ _ ?_)
          cases e with
          | true =>
            rw [if_pos (hiff.mp rfl)] at hR
            wp_walk
            exact ⟨rfl,rfl,_,_,_,_,hrest,hvi',hwi',by omega,hR⟩
          | false =>
            rw [if_neg (fun q=>absurd (hiff.mpr q) Bool.false_ne_true)] at hR
            have hri:=rcLt_int A.in1 ⟨hp,g,d,tk,os⟩ a t c u prog w
            wp_walk using hri
            exact ⟨_,rfl,by simpa using hR⟩
    case fin =>
      rintro ⟨b1,b2⟩ s' ⟨hb',rfl,vs,ws,ns',ms',hz,hvi,hwi,hlen,hR⟩
      simp only at hb'
      subst hb'
      have hv:lexLt ns' ms' = decide (items.size < items2.size):=by
        cases hvi with
        | nil =>
          cases hwi with
          | nil =>
            simp only [List.length_nil] at hlen
            rw [lexLt_nil_nil]
            exact (decide_eq_false (by omega)).symm
          | cons c u hw =>
            simp only [List.length_nil,List.length_cons] at hlen
            rw [lexLt_nil_cons]
            exact (decide_eq_true (by omega)).symm
        | cons a t hv =>
          cases hwi with
          | nil =>
            simp only [List.length_nil,List.length_cons] at hlen
            rw [lexLt_cons_nil]
            exact (decide_eq_false (by omega)).symm
          | cons c u hw =>
            rw [List.zip_cons_cons] at hz
            cases hz
      rw [hv] at hR
      wp_walk
      exact ⟨_,rfl,by simpa [Builtin.Tuple.tupleCompareSizes] using hR⟩
    case h =>
      exact ⟨rfl,rfl,items.toList,items2.toList,ns,ms,rfl,hi,hj,by omega,h⟩
end
section
variable {prog:Program} {w:World} {A:Around} {E:Value→Shared→Prop} {s:Shared}
theorem lt_tupInts {l b:Addr} {items items2:Array Value} {ns ms:List Int} {Q:Value→Shared→Prop} (hl:IsTup s.heap l items) (hb:IsTup s.heap b items2) (hi:IntsAre items.toList ns) (hj:IntsAre items2.toList ms)
    (hu:A.units < cLine) (h:Q (.bool (lexLt ns ms)) s):wpAny (model prog w) A (compareOp .Lt (.ref l) (.ref b)) Q E s:=by
  obtain ⟨⟨cls,dd,data,sl⟩,ho,hc,n,hd⟩:=id hl
  obtain ⟨⟨cls2,dd2,data2,sl2⟩,ho2,hc2,n2,hd2⟩:=id hb
  simp only at hc hd hc2 hd2
  subst hc hd hc2 hd2
  exact richCompare_meets_room (op:=.Lt) ⟨_,ho,rfl⟩ ⟨_,ho2,rfl⟩ PySem.F.slot_tuple_lt PySem.F.entry_tuple_lt (PySem.F.args_tuple_lt_2 _ _) (tuple_lt_ints l b items items2 n n2 dd dd2 sl sl2 ns ms hi hj)
    ⟨ho,ho2,show Value.bool (lexLt ns ms)≠Value.notImplemented∧Q (.bool (lexLt ns ms)) s from ⟨(fun x=>nomatch x),h⟩⟩ hu
theorem cat_tup {t b:Addr} {vs ws:List Value} {Q:Value→Shared→Prop} (ht:IsTup s.heap t vs.toArray) (hb:IsTup s.heap b ws.toArray) (hv:vs≠[])
    (h1:ws = []→Q (.ref t) s) (h2:ws≠[]→Q (.ref s.heap.objs.size) { s with heap:=s.heap.push { cls:=.type "tuple",data:=.seq (vs ++ ws).toArray } })
    (hsz:vs.length + ws.length≤sizeLine):wpAny (model prog w) A (binaryOp .Add (.ref t) (.ref b)) Q E s:=by
  obtain ⟨⟨cls,dd,data,sl⟩,ho,hc,n,hd⟩:=id ht
  obtain ⟨⟨cls2,dd2,data2,sl2⟩,ho2,hc2,n2,hd2⟩:=id hb
  simp only at hc hd hc2 hd2
  subst hc hd hc2 hd2
  have e:vs.toArray ++ ws.toArray = (vs ++ ws).toArray:=by simp
  by_cases hw:ws = []
  · exact concat_meets ⟨_,ho,rfl⟩ ⟨_,ho2,rfl⟩ noFill_tuple_add seq_tuple_add PySem.F.slot_tuple_add PySem.F.entry_tuple_add (PySem.F.args_tuple_add_2 _ _)
      (tuple_addW1 t b vs.toArray ws.toArray n n2 dd dd2 sl sl2 (by simpa using hv) (by simp [hw])) ⟨ho,ho2,h1 hw⟩
  · refine concat_meets ⟨_,ho,rfl⟩ ⟨_,ho2,rfl⟩ noFill_tuple_add seq_tuple_add PySem.F.slot_tuple_add PySem.F.entry_tuple_add (PySem.F.args_tuple_add_2 _ _)
      (tuple_addW2 t b vs.toArray ws.toArray n n2 dd dd2 sl sl2 (by simpa using hv) (by simpa using hw) (by rw [List.size_toArray,List.size_toArray];exact hsz)) ⟨ho,ho2,?_⟩
    rw [e]
    exact h2 hw
def sIx (n d:Nat):Option Int→Nat
  | none=>d
  | some v=>if v < 0 then (v + (n:Int)).toNat else min v.toNat n
theorem sIx_none (n d:Nat):sIx n d none = d:=rfl
theorem sIx_nat (n d k:Nat):sIx n d (some (k:Int)) = min k n:=by
  show (if (k:Int) < 0 then ((k:Int) + (n:Int)).toNat else min (k:Int).toNat n) = min k n
  rw [if_neg (by omega),Int.toNat_natCast]
theorem sIx_le (n d:Nat) (hd:d≤n) (o:Option Int):sIx n d o≤n:=by
  cases o with
  | none=>exact hd
  | some v =>
    show (if v < 0 then (v + (n:Int)).toNat else min v.toNat n)≤n
    by_cases hv:v < 0
    · rw [if_pos hv];omega
    · rw [if_neg hv];exact Nat.min_le_right _ _
theorem clip_eq (v:Int) (n d:Nat):(if v < 0 then max (v + (n:Int)) 0 else min v (n:Int)) = ((sIx n d (some v):Nat):Int):=by
  show (if v < 0 then max (v + (n:Int)) 0 else min v (n:Int)) = (((if v < 0 then (v + (n:Int)).toNat else min v.toNat n):Nat):Int)
  by_cases hv:v < 0
  · simp only [if_pos hv];omega
  · simp only [if_neg hv];omega
theorem adjust_gen (lo hi:Option Int) (n:Nat):Builtin.Slice.sliceAdjust lo hi 1 (n:Int) = (((sIx n 0 lo:Nat):Int),((sIx n n hi:Nat):Int)):=by
  have h1:¬ ((1:Int) < 0):=by omega
  unfold Builtin.Slice.sliceAdjust
  simp only [h1,if_false]
  refine Prod.ext ?_ ?_
  · cases lo with
    | none=>rfl
    | some v=>exact clip_eq v n 0
  · cases hi with
    | none=>rfl
    | some v=>exact clip_eq v n n
theorem places_gen (i j:Nat):Builtin.Slice.slicePlaces (i:Int) (j:Int) 1 = j - i:=by
  unfold Builtin.Slice.slicePlaces
  have h1:(1:Int) > 0:=by omega
  simp only [h1,if_true,Int.ediv_one]
  split <;> omega
theorem slicePart_ {v:Value} {o:Option Int} {Q:Option Int→Shared→Prop} (p:IsPart v o) (h:Q o s):wpAny (model prog w) A (Builtin.Slice.slicePartIndex v) Q E s:=by
  cases p with
  | none=>exact slicePart_none h
  | int i t=>exact slicePart_int h
theorem sliceApplied_gen {sl:Addr} {vl vu:Value} {lo hi:Option Int} {n:Nat} {Q:Int × Int × Nat→Shared→Prop} (hs:s.heap.IsSliceOf sl vl vu .none) (pl:IsPart vl lo) (pu:IsPart vu hi)
    (h:Q (((sIx n 0 lo:Nat):Int),1,sIx n n hi - sIx n 0 lo) s):wpAny (model prog w) A (Builtin.Slice.sliceApplied (.ref sl) (pure (n:Int))) Q E s:=by
  obtain ⟨os,hos,hcs,hds⟩:=id hs
  unfold Builtin.Slice.sliceApplied Builtin.Slice.sliceFields
  refine wpAny_bind (wpAny_bind (wpAny_field hos hds (x:=vl) rfl (wpAny_bind (wpAny_field hos hds (x:=vu) rfl (wpAny_bind (wpAny_field hos hds (x:=.none) rfl (wpAny_pure ?_)))))))
  refine wpAny_bind (slicePart_none ?_)
  show wpAny _ _ (if ((1:Int) == 0) = true then _ else _) _ _ s
  rw [if_neg (by decide)]
  refine wpAny_bind (slicePart_ pl (wpAny_bind (slicePart_ pu (wpAny_bind (wpAny_pure ?_)))))
  show wpAny _ _ (match Builtin.Slice.sliceAdjust lo hi 1 (n:Int) with | (lo,hi)=>pure (lo,(1:Int),Builtin.Slice.slicePlaces lo hi 1)) _ _ s
  rw [adjust_gen lo hi n]
  show wpAny _ _ (pure (((sIx n 0 lo:Nat):Int),(1:Int),Builtin.Slice.slicePlaces ((sIx n 0 lo:Nat):Int) ((sIx n n hi:Nat):Int) 1)) _ _ s
  rw [places_gen]
  exact wpAny_pure h
theorem pick_gen (xs:Array Value) (i k:Nat):((List.range k).filterMap fun (m:Nat)=>xs[((i:Int) + (m:Int) * 1).toNat]?).toArray = ((xs.toList.drop i).take k).toArray:=by
  have e:(fun (m:Nat)=>xs[((i:Int) + (m:Int) * 1).toNat]?) = fun m=>xs[i + m]?:=by
    funext m
    have:((i:Int) + (m:Int) * 1).toNat = i + m:=by omega
    rw [this]
  rw [e]
  have:=pick_run xs i k
  rw [List.filterMap_map] at this
  have e2:((fun x=>xs[x]?) ∘ fun x=>i + x) = fun m=>xs[i + m]?:=rfl
  rw [e2] at this
  rw [this]
theorem getItem_tuple_cut {t sl:Addr} {items:Array Value} {vl vu:Value} {lo hi:Option Int} {Q:Value→Shared→Prop} (ht:IsTup s.heap t items) (hs:s.heap.IsSliceOf sl vl vu .none) (pl:IsPart vl lo) (pu:IsPart vu hi)
    (hw:¬ (sIx items.size 0 lo = 0∧sIx items.size items.size hi = items.size))
    (h:Q (.ref s.heap.objs.size) { s with heap:=s.heap.push { cls:=.type "tuple",data:=.seq ((items.toList.drop (sIx items.size 0 lo)).take (sIx items.size items.size hi - sIx items.size 0 lo)).toArray } })
    (hsz:items.size≤sizeLine):wpAny (model prog w) A (getItem (.ref t) (.ref sl)) Q E s:=by
  have htake:sizeOk (.seq ((items.toList.drop (sIx items.size 0 lo)).take (sIx items.size items.size hi - sIx items.size 0 lo)).toArray):=by
    show ((items.toList.drop (sIx items.size 0 lo)).take (sIx items.size items.size hi - sIx items.size 0 lo)).toArray.size≤sizeLine
    rw [List.size_toArray,List.length_take,List.length_drop,Array.length_toList]
    omega
  have hj:sIx items.size items.size hi≤items.size:=sIx_le _ _ (Nat.le_refl _) hi
  obtain ⟨os,hos,hcs,hds⟩:=id hs
  have hTs:s.TypeIs (.ref sl) "slice":=⟨os,hos,hcs⟩
  unfold getItem
  try with_reducible refine wpAny_holding ?_
  first | refine wpAny_bind (wpAny_pure ?_) | skip
  refine wpAny_bind (wpAny_sequenceKey ht.typeIs (by decide) ?_)
  refine wpAny_bind (wpAny_callSpecial?_slot (name:=Str.ofString "__getitem__") ht.typeIs PyProof.Rows.slot_tuple_getitem
    (wpAny_call_entry PyProof.Rows.slot_tuple_getitem ht.typeIs entry_tuple_getitem ?_ (args_tuple_getitem _ _)))
  show wpAny _ _ (Builtin.Tuple.tupleItemsOf (.ref t) >>= _) _ _ s
  refine wpAny_bind (tupleItemsOf_ ht ?_)
  refine wpAny_bind (wpAny_typeOf hTs ?_)
  rw [if_pos (by decide)]
  refine wpAny_bind (sliceApplied_gen hs pl pu ?_)
  have hno:¬ ((((sIx items.size 0 lo:Nat):Int) == 0 && (1:Int) == 1 && (sIx items.size items.size hi - sIx items.size 0 lo) == items.size) = true):=by
    intro q
    rw [Bool.and_eq_true,Bool.and_eq_true] at q
    have q1:((sIx items.size 0 lo:Nat):Int) = 0:=eq_of_beq q.1.1
    have q2:sIx items.size items.size hi - sIx items.size 0 lo = items.size:=eq_of_beq q.2
    exact hw ⟨by omega,by omega⟩
  show wpAny _ _ (if (((sIx items.size 0 lo:Nat):Int) == 0 && (1:Int) == 1 && (sIx items.size items.size hi - sIx items.size 0 lo) == items.size) = true then _ else _) _ _ s
  rw [if_neg hno,pick_gen]
  first
    | exact wpAny_bind (m:=Builtin.Tuple.tupleExact _) (wpAny_newObj_type (wpAny_pure ⟨_,rfl,wpAny_pure h⟩) htake)
    | exact wpAny_bind (m:=Builtin.Tuple.tupleExact _) (wpAny_newObj_type (wpAny_bind (wpAny_pure (wpAny_pure ⟨_,rfl,wpAny_pure h⟩))) htake)
    | exact wpAny_bind (wpAny_bind (m:=Builtin.Tuple.tupleExact _) (wpAny_newObj_type (wpAny_pure (wpAny_pure ⟨_,rfl,wpAny_pure h⟩)) htake))
    | exact wpAny_bind (wpAny_bind (m:=Builtin.Tuple.tupleExact _) (wpAny_newObj_type (wpAny_pure ⟨_,rfl,wpAny_pure h⟩) htake))
end
end HT
namespace L2
open PySem PySem.Spec PyProof.Rows
abbrev TO:=St→Hp→(Option Int→Hp→Prop)→Prop
def PO (X:Cx) (e:Option Expr) (t:TO):Prop :=
  ∀ (pins:List (Addr × Obj)) (s:Shared) (σ:St) (H:Hp) (Q:Option Int→Hp→Prop),Inv X pins σ H s→t σ H Q →
    wpAny (model X.prog X.w) X.A (evalPart e X.env) (fun u s'=>∃ o H',Inv X pins σ H' s'∧IsPart u o∧Q o H') X.xe s
def tNoPart:TO:=fun _ H Q=>Q none H
def tPart (t:TE):TO:=fun σ H Q=>t σ H fun x H1=>∃ i,x = .int i∧Q (some i) H1
section
variable {X:Cx} {e:Expr} {te:TE} {lo hi:Option Expr} {tl th:TO} {pos p2:Pos}
theorem po_none:PO X none tNoPart:=by
  intro pins s σ H Q I h
  rw [evalPart_none]
  exact wpAny_pure ⟨none,H,I,.none,h⟩
theorem po_some (h:PE X e te):PO X (some e) (tPart te):=by
  intro pins s σ H Q I hw
  rw [evalPart_some]
  refine thn (h pins s σ H _ I hw) fun u s1 ⟨x,H1,I1,r1,q1⟩=>?_
  obtain ⟨i,rfl,q⟩:=q1
  obtain ⟨t,rfl⟩:=r1
  exact ⟨some i,H1,I1,.int i t,q⟩
def SlR (X:Cx) (r:V→Option Int→Option Int→Hp→VK→Prop):Prop :=
  ∀ (pins:List (Addr × Obj)) (s:Shared) (σ:St) (H:Hp) (x:V) (v vl vu:Value) (lo hi:Option Int) (sl:Addr) (Q:VK),Inv X pins σ H s→RelV x v→s.heap.IsSliceOf sl vl vu .none→IsPart vl lo→IsPart vu hi→r x lo hi H Q →
    ∃ T id,typeLookup (.type T) "__getitem__" = pure (some (.builtin id))∧s.TypeIs v T∧wpAny (model X.prog X.w) X.A (getItem v (.ref sl)) (EP X pins σ Q) X.xe s
def tSl (r:V→Option Int→Option Int→Hp→VK→Prop) (te:TE) (tl th:TO):TE:=fun σ H Q=>te σ H fun x H1=>tl σ H1 fun l H2=>th σ H2 fun u H3=>r x l u H3 Q
theorem pe_slice {r:V→Option Int→Option Int→Hp→VK→Prop} (hr:SlR X r) (he:PE X e te) (hl:PO X lo tl) (hu:PO X hi th):PE X (.Subscript e (.Slice lo hi none p2) pos) (tSl r te tl th):=by
  intro pins s σ H Q I h
  refine Subscript_ (thn (he pins s σ H _ I h) fun v s1 ⟨x,H1,I1,r1,q1⟩=>?_)
  refine wpAny_Slice (thn (hl pins s1 σ H1 _ I1 q1) fun vl s2 ⟨l,H2,I2,pl,q2⟩=>thn (hu pins s2 σ H2 _ I2 q2) fun vu s3 ⟨u,H3,I3,pu,q3⟩=>?_)
  rw [evalPart_none]
  refine wpAny_pure ?_
  have I4:Inv X pins σ H3 { s3 with heap:=s3.heap.push { cls:=.type "slice",data:=.fields #[vl,vu,.none] } }:=I3.kept (t':=s3.toks) fun b ob q=>Heap.get?_push_of_some _ q
  obtain ⟨T,id,hT,ht,hg⟩:=hr pins { s3 with heap:=s3.heap.push { cls:=.type "slice",data:=.fields #[vl,vu,.none] } } σ H3 x v vl vu l u s3.heap.objs.size Q I4 r1 (Heap.IsSliceOf.new ..) pl pu q3
  show wpAny (model X.prog X.w) X.A (subscriptTail e (.Slice lo hi none p2) v (.ref s3.heap.objs.size)) (EP X pins σ Q) X.xe { s3 with heap:=s3.heap.push { cls:=.type "slice",data:=.fields #[vl,vu,.none] } }
  exact tail_any (ops:=[.ref s3.heap.objs.size,v]) ht hT hg (by with_unfolding_all rfl)
def cutV (xs:List V) (lo hi:Option Int):List V:=(xs.drop (HT.sIx xs.length 0 lo)).take (HT.sIx xs.length xs.length hi - HT.sIx xs.length 0 lo)
theorem cutV_length (xs:List V) (lo hi:Option Int):(cutV xs lo hi).length≤xs.length:=by
  unfold cutV
  rw [List.length_take,List.length_drop]
  omega
def rSlT (K:PySem.W.Frag):V→Option Int→Option Int→Hp→VK→Prop:=fun x lo hi H Q=>∃ a xs,x = .ref a∧SqT K H a xs ∧
  ¬ (HT.sIx xs.length 0 lo = 0∧HT.sIx xs.length xs.length hi = xs.length)∧∀ p,H p = none→Q (.ref p) (upd H p (.tup (cutV xs lo hi)))
theorem sl_tup:SlR X (rSlT X.K):=by
  intro pins s σ H x v vl vu lo hi sl Q I rx hs pl pu h
  obtain ⟨a,xs,rfl,hx,hw,q⟩:=h
  cases rx
  obtain ⟨its,r,ht,hz⟩:=I.tuple hx
  have hlen:its.toArray.size = xs.length:=by rw [List.size_toArray];exact r.length.symm
  refine ⟨"tuple",_,PyProof.Rows.slot_tuple_getitem.lookup,ht.typeIs,?_⟩
  refine HT.getItem_tuple_cut ht hs pl pu (by rw [hlen];exact hw) ?_ (by rw [hlen];exact hz)
  rw [hlen]
  refine ⟨.ref s.heap.objs.size,_,I.laid (t':=s.toks) (o:=.tup (cutV xs lo hi)) (fun b ob q=>Heap.get?_push_of_some _ q) (Nat.le_refl _) ?_,rfl,q _ (I.hok.fresh (Nat.le_refl _))⟩
  exact ⟨Nat.le_trans (cutV_length xs lo hi) hz,_,(r.drop (HT.sIx xs.length 0 lo)).take (HT.sIx xs.length xs.length hi - HT.sIx xs.length 0 lo),IsTup.new _ _⟩
def rCatT (K:PySem.W.Frag):R2:=fun x y H Q=>∃ a b xs ys,x = .ref a∧y = .ref b∧SqT K H a xs∧SqT K H b ys∧xs≠[]∧xs.length + ys.length≤sizeLine ∧
  (ys = []→Q (.ref a) H)∧(ys≠[]→∀ p,H p = none→Q (.ref p) (upd H p (.tup (xs ++ ys))))
theorem Vals.nil_iff {xs:List V} {us:List Value} (r:Vals xs us):us = []↔xs = []:=by
  cases r with
  | nil=>simp
  | cons _ _=>simp
theorem op_catT:OpR X (binaryOp .Add) (rCatT X.K):=by
  intro pins s σ H x y v u Q I rx ry h
  obtain ⟨a,b,xs,ys,rfl,rfl,ha,hb,hx,hz,q1,q2⟩:=h
  cases rx
  cases ry
  obtain ⟨its,r1,p1,_⟩:=I.tuple ha
  obtain ⟨its2,r2,p2,_⟩:=I.tuple hb
  refine HT.cat_tup p1 p2 (fun z=>hx (r1.nil_iff.mp z)) (fun z=>⟨.ref a,H,I,rfl,q1 (r2.nil_iff.mp z)⟩) (fun z=>?_) (by rw [← r1.length,← r2.length];exact hz)
  refine ⟨.ref s.heap.objs.size,_,I.laid (t':=s.toks) (o:=.tup (xs ++ ys)) (fun b ob q=>Heap.get?_push_of_some _ q) (Nat.le_refl _) ?_,rfl,q2 (fun w=>z (r2.nil_iff.mpr w)) _ (I.hok.fresh (Nat.le_refl _))⟩
  exact ⟨by rw [List.length_append];exact hz,_,r1.append r2,IsTup.new _ _⟩
end
end L2
namespace L2
open PySem PySem.Spec PyProof.Rows
noncomputable def ixN (n:Nat) (i:Int):Option Nat:=if 0≤i then (if i < n then some i.toNat else none) else if -(n:Int)≤i then some (i + n).toNat else none
def atI {α:Type} (xs:List α) (i:Int):Option α:=(ixN xs.length i).bind fun j=>xs[j]?
theorem ixN_seq {n:Nat} {i:Int} {j:Nat} (h:ixN n i = some j):seqIndex? i n = some j∧j < n∧-(n:Int)≤i∧i < n:=by
  unfold ixN at h
  by_cases h0:0≤i
  · rw [if_pos h0] at h
    by_cases h1:i < n
    · rw [if_pos h1] at h
      have e:i.toNat = j:=Option.some.inj h
      exact ⟨by rw [seqIndex_of h0 h1,e],by omega,by omega,h1⟩
    · rw [if_neg h1] at h;cases h
  · rw [if_neg h0] at h
    by_cases h1:-(n:Int)≤i
    · rw [if_pos h1] at h
      have e:(i + n).toNat = j:=Option.some.inj h
      exact ⟨by rw [seqIndex_neg (by omega) h1,e],by omega,h1,by omega⟩
    · rw [if_neg h1] at h;cases h
theorem atI_get {α:Type} {xs:List α} {i:Int} {v:α} (h:atI xs i = some v):∃ j,seqIndex? i xs.length = some j∧xs[j]? = some v∧j < xs.length∧-(xs.length:Int)≤i∧i < xs.length:=by
  unfold atI at h
  cases e:ixN xs.length i with
  | none=>rw [e] at h;cases h
  | some j =>
    rw [e] at h
    obtain ⟨h1,h2,h3,h4⟩:=ixN_seq e
    exact ⟨j,h1,h,h2,h3,h4⟩
theorem atI_nat {α:Type} {xs:List α} {j:Nat} {v:α} (h:xs[j]? = some v):atI xs (j:Int) = some v:=by
  have hj:j < xs.length:=(List.getElem?_eq_some_iff.mp h).1
  have e:ixN xs.length (j:Int) = some j:=by
    unfold ixN
    rw [if_pos (by omega),if_pos (by omega)];simp
  unfold atI;rw [e];exact h
def PlainIx (b:Expr):Prop:=∀ o i,subscripted b false o i = operate [o,i] (getItem o i)
def IxR (X:Cx) (r:R2):Prop :=
  ∀ (value slice:Expr) (pins:List (Addr × Obj)) (s:Shared) (σ:St) (H:Hp) (x y:V) (v u:Value) (Q:VK),Inv X pins σ H s→RelV x v→RelV y u→r x y H Q →
    subscripted slice false v u = operate [v,u] (getItem v u)→wpAny (model X.prog X.w) X.A (subscriptTail value slice v u) (EP X pins σ Q) X.xe s
def MtR (X:Cx) (id:String) (r:V→List V→Hp→VK→Prop):Prop :=
  ∀ (pins:List (Addr × Obj)) (s:Shared) (σ:St) (H:Hp) (x:V) (xs:List V) (v:Value) (us:List Value) (Q:VK),Inv X pins σ H s→RelV x v→Vals xs us→r x xs H Q →
    wpAny (model X.prog X.w) X.A (call (.builtin id) (v :: us)) (EP X pins σ Q) X.xe s
section
variable {X:Cx} {a b:Expr} {ta tb:TE} {pos:Pos}
theorem IxR.or {r r':R2} (h:IxR X r) (h':IxR X r'):IxR X (fun x y H Q=>r x y H Q∨r' x y H Q):=by
  intro value slice pins s σ H x y v u Q I rx ry q hs
  rcases q with q | q
  · exact h value slice pins s σ H x y v u Q I rx ry q hs
  · exact h' value slice pins s σ H x y v u Q I rx ry q hs
theorem pe_ix {r:R2} (hr:IxR X r) (ha:PE X a ta) (hb:PE X b tb) (hs:PlainIx b):PE X (.Subscript a b pos) (tOp r ta tb):=by
  intro pins s σ H Q I h
  exact Subscript_ (binT ha hb I h fun v u s2 x y H2 I2 rx ry q=>hr a b pins s2 σ H2 x y v u Q I2 rx ry q (hs _ _))
def rIxL (K:PySem.W.Frag):R2:=fun x y H Q=>∃ p xs i v,x = .ref p∧y = .int i∧SqL K H p xs∧atI xs i = some v∧Q v H
def rIxT (K:PySem.W.Frag):R2:=fun x y H Q=>∃ p xs i v,x = .ref p∧y = .int i∧SqT K H p xs∧atI xs i = some v∧Q v H
theorem ix_list:IxR X (rIxL X.K):=by
  intro value slice pins s σ H x y v u Q I rx ry h hs
  obtain ⟨p,xs,i,z,rfl,rfl,hq,he,q⟩:=h
  cases rx
  obtain ⟨t,rfl⟩:=ry
  obtain ⟨its,r,pl,hz⟩:=I.list hq
  obtain ⟨j,h1,h2,h3,h4,h5⟩:=atI_get he
  obtain ⟨w,ew,rw'⟩:=r.get h2
  have hl:=r.length
  have hn:=line63
  have fin:EP X pins σ Q w s:=⟨z,H,I,rw',q⟩
  by_cases h0:0≤i
  · have hj:i.toNat = j:=by
      rw [seqIndex_of h0 h5] at h1
      exact Option.some.inj h1
    exact item_listR pl.isList h0 (by omega) (by rw [hj];simpa using ew) fin hs
  · have hj:(i + (its.toArray.size:Int)).toNat = j:=by
      rw [seqIndex_neg (by omega) h4] at h1
      rw [List.size_toArray,← hl]
      exact Option.some.inj h1
    exact subscriptTail_builtinR (x:=w) pl.isList.typeIs slot_list_getitem.lookup
      (wpAny_getItem_list_neg (Q:=fun r s'=>r = w∧EP X pins σ Q r s') pl.isList (by omega) (by rw [List.size_toArray] <;> omega) (by omega) (by rw [hj];simpa using ew) ⟨rfl,fin⟩) hs
theorem ix_tup:IxR X (rIxT X.K):=by
  intro value slice pins s σ H x y v u Q I rx ry h hs
  obtain ⟨p,xs,i,z,rfl,rfl,hq,he,q⟩:=h
  cases rx
  obtain ⟨t,rfl⟩:=ry
  obtain ⟨its,r,pl,hz⟩:=I.tuple hq
  obtain ⟨j,h1,h2,h3,h4,h5⟩:=atI_get he
  obtain ⟨w,ew,rw'⟩:=r.get h2
  have hl:=r.length
  have hn:=line63
  have fin:EP X pins σ Q w s:=⟨z,H,I,rw',q⟩
  exact subscriptTail_builtinR (x:=w) pl.typeIs slot_tuple_getitem.lookup
    (getItem_tuple (j:=j) (Q:=fun r s'=>r = w∧EP X pins σ Q r s') pl (by omega) (by omega) (by rw [List.size_toArray,← hl];exact h1) (by simpa using ew) ⟨rfl,fin⟩) hs
theorem slice_bounds (lo hi:Option Int) (n:Nat):(sliceBounds lo hi none n).1 = ((HT.sIx n 0 lo:Nat):Int)∧(sliceBounds lo hi none n).2.1 = ((HT.sIx n n hi:Nat):Int)∧(sliceBounds lo hi none n).2.2 = 1:=by
  refine ⟨?_,?_,rfl⟩
  · cases lo with
    | none=>simp [sliceBounds,HT.sIx]
    | some i =>
      simp only [sliceBounds,HT.sIx,Option.getD_none,show (1:Int) > 0 by decide,if_true]
      by_cases h:i < 0
      · simp only [h,if_true] <;> omega
      · simp only [h,if_false] <;> omega
  · cases hi with
    | none=>simp [sliceBounds,HT.sIx]
    | some i =>
      simp only [sliceBounds,HT.sIx,Option.getD_none,show (1:Int) > 0 by decide,if_true]
      by_cases h:i < 0
      · simp only [h,if_true] <;> omega
      · simp only [h,if_false] <;> omega
theorem slicePick_cut (its:List Value) (lo hi:Option Int):slicePick its.toArray lo hi none = ((its.drop (HT.sIx its.length 0 lo)).take (HT.sIx its.length its.length hi - HT.sIx its.length 0 lo)).toArray:=by
  obtain ⟨h1,h2,h3⟩:=slice_bounds lo hi its.toArray.size
  unfold slicePick
  rw [h1,h2,h3]
  simp only [sliceRange_one,pick_run,List.size_toArray] <;> rfl
def rSlL (K:PySem.W.Frag):V→Option Int→Option Int→Hp→VK→Prop:=fun x lo hi H Q=>∃ a xs,x = .ref a∧SqL K H a xs∧∀ p,H p = none→Q (.ref p) (upd H p (.lst (cutV xs lo hi)))
theorem sl_list:SlR X (rSlL X.K):=by
  intro pins s σ H x v vl vu lo hi sl Q I rx hs pl pu h
  obtain ⟨a,xs,rfl,hx,q⟩:=h
  cases rx
  obtain ⟨its,r,ht,hz⟩:=I.list hx
  have hlen:=r.length
  refine ⟨"list",_,slot_list_getitem.lookup,ht.isList.typeIs,?_⟩
  refine wpAny_getItem_list_slice ht.isList hs pl pu .none (by simp) ?_ (by rw [List.size_toArray] <;> omega)
  rw [slicePick_cut,← hlen]
  refine ⟨.ref s.heap.objs.size,_,I.laid (t':=s.toks) (o:=.lst (cutV xs lo hi)) (fun b ob q=>Heap.get?_push_of_some _ q) (Nat.le_refl _) ?_,rfl,q _ (I.hok.fresh (Nat.le_refl _))⟩
  exact ⟨Nat.le_trans (cutV_length xs lo hi) hz,_,0,(r.drop (HT.sIx xs.length 0 lo)).take (HT.sIx xs.length xs.length hi - HT.sIx xs.length 0 lo),Heap.get?_push_size _ rfl⟩
theorem call_len_seq:CallR X (.builtin "len") (fun xs H Q=>∃ p ys,xs = [.ref p]∧(SqL X.K H p ys∨SqT X.K H p ys)∧Q (.int ys.length) H):=by
  intro pins s σ H xs us Q I r h
  obtain ⟨p,ys,rfl,hq,q⟩:=h
  obtain ⟨u,rfl,rx⟩:=vals1 r
  cases rx
  have hn:=line63
  rcases hq with hq | hq
  · obtain ⟨its,r',pl,hz⟩:=I.list hq
    have hlen:=r'.length
    exact Calls.call_len_list pl.isList (by simp only [List.size_toArray] <;> omega) ⟨.int ys.length,H,I.tok _,⟨s.toks + 1,by rw [List.size_toArray,hlen]⟩,q⟩
  · obtain ⟨its,r',pl,hz⟩:=I.tuple hq
    have hlen:=r'.length
    exact len_tuple pl (by simp only [List.size_toArray] <;> omega) ⟨.int ys.length,H,I.tok _,⟨s.toks + 1,by rw [List.size_toArray,hlen]⟩,q⟩
theorem call_list_of:CallR X (.type "list") (fun xs H Q=>∃ p ys,xs = [.ref p]∧(SqL X.K H p ys∨SqT X.K H p ys)∧∀ l,H l = none→Q (.ref l) (upd H l (.lst ys))):=by
  intro pins s σ H xs us Q I r h
  obtain ⟨p,ys,rfl,hq,q⟩:=h
  obtain ⟨u,rfl,rx⟩:=vals1 r
  cases rx
  have fin:∀ (its:List Value),Vals ys its→ys.length≤sizeLine→∀ (h':Heap) (c':Nat),(∀ b o',s.heap.get? b = some o'→h'.get? b = some o') →
      h'.get? s.heap.objs.size = some { cls:=.type "list",dict:=none,data:=.seq its.toArray c',slots:=#[] }→EP X pins σ Q (.ref s.heap.objs.size) { s with heap:=h' }:=fun its r' hz h' c' kp e =>
    ⟨.ref s.heap.objs.size,_,I.laid (t':=s.toks) kp (Nat.le_refl _) (show ObjOk X.prog X.w _ h' _ (.lst ys) from ⟨hz,its,c',r',e⟩),rfl,q _ (I.hok.fresh (Nat.le_refl _))⟩
  rcases hq with hq | hq
  · obtain ⟨its,r',pl,hz⟩:=I.list hq
    have hlen:=r'.length
    obtain ⟨o,ho,hc,n,hd⟩:=pl.isList
    exact call_list_seq p (.inl rfl) ho hc hd (fun h' c' kp e=>fin its r' hz h' c' kp e) (by simp only [List.size_toArray] <;> omega)
  · obtain ⟨its,r',pl,hz⟩:=I.tuple hq
    have hlen:=r'.length
    obtain ⟨o,ho,hc,n,hd⟩:=pl
    exact call_list_seq p (.inr rfl) ho hc hd (fun h' c' kp e=>fin its r' hz h' c' kp e) (by simp only [List.size_toArray] <;> omega)
theorem call_tuple_of:CallR X (.type "tuple") (fun xs H Q=>∃ p ys,xs = [.ref p]∧((SqL X.K H p ys∧∀ l,H l = none→Q (.ref l) (upd H l (.tup ys)))∨(SqT X.K H p ys∧Q (.ref p) H))):=by
  intro pins s σ H xs us Q I r h
  obtain ⟨p,ys,rfl,h⟩:=h
  obtain ⟨u,rfl,rx⟩:=vals1 r
  cases rx
  rcases h with ⟨hq,q⟩ | ⟨hq,q⟩
  · obtain ⟨its,r',pl,hz⟩:=I.list hq
    have hlen:=r'.length
    refine call_tuple_list pl.isList (fun h' kp=>?_) (by simp only [List.size_toArray] <;> omega)
    have I1:Inv X pins σ H { s with heap:=h' }:=I.kept (t':=s.toks) kp
    have I2:Inv X pins σ (upd H h'.objs.size (.tup ys)) { s with heap:=h'.push { cls:=.type "tuple",data:=.seq its.toArray } } :=
      I1.laid (t':=s.toks) (fun b o e=>Heap.get?_push_of_some _ e) (Nat.le_refl _) (show ObjOk X.prog X.w _ _ _ (.tup ys) from ⟨hz,its,r',IsTup.new _ _⟩)
    exact ⟨.ref h'.objs.size,_,I2,rfl,q _ (I1.hok.fresh (Nat.le_refl _))⟩
  · obtain ⟨its,r',pl,hz⟩:=I.tuple hq
    exact call_tuple_same pl ⟨.ref p,H,I,rfl,q⟩
def tyV (K:PySem.W.Frag) (T:String) (x:V) (H:Hp):Prop:=match x with
  | .str _=>T = "str"
  | .int _=>T = "int"
  | .ref p=>(T = "list"∧∃ xs,SqL K H p xs)∨(T = "tuple"∧∃ o,K.lookup p = some o∧o.cls = .type "tuple"∧o.dict = none) ∨
      (T = "dict"∧((∃ kvs,H p = some (.dK kvs))∨∃ kvs,H p = some (.dT kvs)))∨(T = "set"∧∃ S n,H p = some (.set S n))
  | _=>False
theorem tyV_is {pins:List (Addr × Obj)} {σ:St} {H:Hp} {s:Shared} {T:String} {x:V} {v:Value} (I:Inv X pins σ H s) (r:RelV x v) (ty:tyV X.K T x H) :
    s.TypeIs v T∧∀ a,v = .ref a→∃ ob,s.heap.get? a = some ob∧ob.dict = none:=by
  cases x with
  | str z =>
    obtain ⟨t,rfl⟩:=r
    cases (show T = "str" from ty)
    exact ⟨typeIs_str s z t,fun _ e=>nomatch e⟩
  | int i =>
    obtain ⟨t,rfl⟩:=r
    cases (show T = "int" from ty)
    exact ⟨typeIs_int s i t,fun _ e=>nomatch e⟩
  | ref p =>
    cases r
    rcases ty with ⟨rfl,xs,hq⟩ | ⟨rfl,o,hk,hc,hd⟩ | ⟨rfl,hk⟩ | ⟨rfl,S,n,hk⟩
    · obtain ⟨its,_,pl,_⟩:=I.list hq
      refine ⟨pl.isList.typeIs,fun a e=>?_⟩
      cases e
      obtain ⟨o,n,e,c,hd,_⟩:=pl
      exact ⟨o,e,hd⟩
    · refine ⟨⟨o,I.kIn p o hk,hc⟩,fun a e=>?_⟩
      cases e
      exact ⟨o,I.kIn _ o hk,hd⟩
    · have z:∃ o,s.heap.get? p = some o∧o.ExactDict:=by
        rcases hk with ⟨kvs,hk⟩ | ⟨kvs,hk⟩
        · obtain ⟨_,_,_,_,o,_,_,e,ex,_⟩:=I.hok p _ hk
          exact ⟨o,e,ex⟩
        · obtain ⟨_,_,_,_,o,_,_,e,ex,_⟩:=I.hok p _ hk
          exact ⟨o,e,ex⟩
      obtain ⟨o,e,ex⟩:=z
      refine ⟨⟨o,e,ex.1⟩,fun a e2=>?_⟩
      cases e2
      exact ⟨o,e,ex.2.1⟩
    · obtain ⟨o,_,_,_,e,ex,_⟩:=I.hok p _ hk
      refine ⟨⟨o,e,ex.1⟩,fun a e2=>?_⟩
      cases e2
      exact ⟨o,e,ex.2.1⟩
  | _=>exact False.elim ty
def tBM (K:PySem.W.Frag) (T:String) (r:V→List V→Hp→VK→Prop) (to:TE) (t:TA):TE:=fun σ H Q=>to σ H fun x H1=>tyV K T x H1∧t σ H1 fun xs H2=>r x xs H2 Q
variable {o e:Expr} {es:List Expr} {to:TE} {t:TA} {name:Str} {apos cpos:Pos} {T id:String} {r:V→List V→Hp→VK→Prop}
theorem pe_bm (pa:PlainAttrs T) (slot:Slot T name id) (hty:typeOf (.builtin id) = pure (.type "method_descriptor")) (hm:MtR X id r) (ho:PE X o to) (ha:PA X (e :: es) t)
    (hbase:attributeBase o name X.env (eval o X.env) = eval o X.env:=by rfl)
    (hfew:((backTo cpos (starEach (e :: es) X.env)).all (fun x=>!x.1) && (backToKw cpos (keywordEach [] X.env)).all (fun x=>x.1.isSome)
      && decide ((e :: es).length + ([]:List Keyword).length + (if ([]:List Keyword).isEmpty then 0 else 1) < 30)) = true:=by rfl)
    (hline:(apos.endLine == cpos.line) = true:=by rfl) (hs:starEach (e :: es) X.env = (false,eval e X.env) :: starEach es X.env:=by rfl) (hplain:(backTo cpos (starEach es X.env)).any (·.1) = false:=by rfl) :
    PE X (.Call (.Attribute o name apos) (e :: es) [] cpos) (tBM X.K T r to t):=by
  intro pins s σ H Q I h
  refine wpAny_Call_method_late hbase hfew hline rfl (thn (ho pins s σ H _ I h) fun v s1 ⟨x,H1,I1,r1,ty,q1⟩=>?_)
  obtain ⟨h1,h2⟩:=tyV_is I1 r1 ty
  refine ⟨T,id,pa,slot,hty,h1,h2,?_⟩
  have hA:=ha cpos pins s1 σ H1 _ I1 q1
  rw [hs] at hA ⊢
  refine Calls.callWith_builtin (by show (false || (backTo cpos (starEach es X.env)).any (·.1)) = false;rw [hplain] <;> rfl) (Calls.evalArgs_plain ?_)
  exact thn hA fun us s2 ⟨vs,H2,I2,r2,q2⟩=>hm pins s2 σ H2 x vs v us Q I2 r1 r2 q2
end
end L2
namespace L2
open PySem PySem.Spec PyProof.Rows
def MtM (X:Cx) (id:String) (r:V→List V→Hp→VK→Prop):Prop :=
  ∀ (pins:List (Addr × Obj)) (s:Shared) (σ:St) (H:Hp) (x:V) (xs:List V) (v:Value) (us:List Value) (Q:VK),Inv X pins σ H s→RelV x v→Vals xs us→r x xs H Q →
    wpAny (model X.prog X.w) X.A (call (.builtin id) (v :: us)) (EP X pins σ Q) X.xe s
theorem Vals.one:∀ {x:V} {us:List Value},Vals [x] us→∃ u,us = [u]∧RelV x u
  | _,_,.cons r .nil=>⟨_,rfl,r⟩
theorem Vals.rep {xs:List V} {us:List Value} (h:Vals xs us):∀ k:Nat,Vals (List.replicate k xs).flatten (List.replicate k us).flatten
  | 0=>.nil
  | k + 1=>by
    rw [List.replicate_succ,List.replicate_succ,List.flatten_cons,List.flatten_cons]
    exact Vals.append h (Vals.rep h k)
theorem foldl_rep (its:List Value):∀ (k:Nat) (acc:List Value),
    List.foldl (fun x1 x2=>x1 ++ x2) acc.toArray (List.replicate k its.toArray) = (acc ++ (List.replicate k its).flatten).toArray
  | 0,acc=>by simp
  | k + 1,acc=>by
    have e:acc.toArray ++ its.toArray = (acc ++ its).toArray:=by simp
    have e2:(acc ++ its) ++ (List.replicate k its).flatten = acc ++ (List.replicate (k + 1) its).flatten:=by
      rw [List.replicate_succ,List.flatten_cons,List.append_assoc]
    rw [← e2,← foldl_rep its k (acc ++ its),← e,List.replicate_succ,List.foldl_cons]
section
variable {X:Cx} {pins:List (Addr × Obj)} {σ:St} {H:Hp} {s:Shared} {l b:Addr} {xs ys zs:List V}
theorem Inv.lset {its its':List Value} {n:Nat} {f:Array Value→Array Value} {t':Nat} (I:Inv X pins σ H s) (hH:H l = some (.lst xs))
    (e:s.heap.get? l = some { cls:=.type "list",data:=.seq its.toArray n }) (hf:f its.toArray = its'.toArray) (hv:Vals ys its') (hz:ys.length≤sizeLine) :
    Inv X pins σ (upd H l (.lst ys)) { s with heap:=s.heap.update l (Obj.mapSeq f),toks:=t' }:=by
  have q:=PySem.IsL.update e f
  rw [hf] at q
  refine I.write (x:=l) (e:=l) (by rw [hH];exact trivial) (.inl rfl) (fun b' u hb hu=>(Heap.get?_update_other s.heap (Obj.mapSeq f) (Ne.symm hb)).trans hu) ⟨_,q⟩ ?_
  exact ⟨hz,its',_,hv,q⟩
theorem Inv.lnew {its:List Value} {t':Nat} (I:Inv X pins σ H s) (hv:Vals ys its) (hz:ys.length≤sizeLine) :
    Inv X pins σ (upd H s.heap.objs.size (.lst ys)) { s with heap:=s.heap.push { cls:=.type "list",data:=.seq its.toArray },toks:=t' } :=
  I.laid (fun _ _ q=>Heap.get?_push_of_some _ q) (Nat.le_refl _) ⟨hz,its,0,hv,Heap.get?_push_size _ rfl⟩
theorem Inv.fresh (I:Inv X pins σ H s):H s.heap.objs.size = none:=I.hok.fresh (Nat.le_refl _)
theorem Inv.lstM (I:Inv X pins σ H s) (hH:H l = some (.lst xs)):xs.length≤sizeLine∧∃ (its:List Value) (n:Nat),Vals xs its∧xs.length = its.length∧s.heap.get? l = some { cls:=.type "list",data:=.seq its.toArray n }:=by
  obtain ⟨z,its,n,r,e⟩:=I.hok l _ hH
  exact ⟨z,its,n,r,r.length,e⟩
theorem notLongL {n:Nat} (h:n≤sizeLine):Builtin.List.listTooLong n = false:=by
  unfold Builtin.List.listTooLong
  exact decide_eq_false (by omega)
end
section
variable {X:Cx}
def rAppend:V→List V→Hp→VK→Prop:=fun x vs H Q=>∃ l xs y,x = .ref l∧vs = [y]∧H l = some (.lst xs)∧xs.length < sizeLine∧Q .non (upd H l (.lst (xs ++ [y])))
theorem mt_append:MtM X "list.append" rAppend:=by
  intro pins s σ H x vs v us Q I rx rv h
  obtain ⟨l,xs,y,rfl,rfl,hH,hz,q⟩:=h
  cases rx
  obtain ⟨u,rfl,ru⟩:=rv.one
  obtain ⟨z,its,n,r,hl,e⟩:=I.lstM hH
  refine call_meets F.slot_list_append ⟨_,e,rfl⟩ F.entry_list_append (F.args_list_append_2 _ _) (PySem.list_append l its.toArray n u (by rw [List.size_toArray];omega)) ⟨e,?_⟩
  refine ⟨.non,_,I.lset (its':=its ++ [u]) hH e (by simp) (r.append (.cons ru .nil)) ?_,rfl,q⟩
  rw [List.length_append,List.length_singleton]
  omega
def rExtend:V→List V→Hp→VK→Prop:=fun x vs H Q=>∃ l b xs zs,x = .ref l∧vs = [.ref b]∧H l = some (.lst xs)∧H b = some (.lst zs)∧xs.length + zs.length≤sizeLine∧Q .non (upd H l (.lst (xs ++ zs)))
theorem mt_extend:MtM X "list.extend" rExtend:=by
  intro pins s σ H x vs v us Q I rx rv h
  obtain ⟨l,b,xs,zs,rfl,rfl,hH,hB,hz,q⟩:=h
  cases rx
  obtain ⟨u,rfl,ru⟩:=rv.one
  cases ru
  obtain ⟨z,its,n,r,hl,e⟩:=I.lstM hH
  obtain ⟨z2,its2,n2,r2,hl2,e2⟩:=I.lstM hB
  have hsz:its.toArray.size + its2.toArray.size≤sizeLine:=by rw [List.size_toArray,List.size_toArray];omega
  have hlong:¬ (!its.toArray.isEmpty && Builtin.List.listTooLong (its.toArray.size + its2.toArray.size)) = true:=by
    rw [notLongL hsz,Bool.and_false]
    exact Bool.false_ne_true
  refine call_meets F.slot_list_extend ⟨_,e,rfl⟩ F.entry_list_extend (F.args_list_extend_2 _ _)
    (AutoSeq1.list_extend_list_list_0 l its.toArray n b its2.toArray n2 hlong (by rw [List.size_toArray];omega) (by omega)) ⟨e,e2,?_⟩
  refine ⟨.non,_,I.lset (its':=its ++ its2) hH e (by simp) (r.append r2) ?_,rfl,q⟩
  rw [List.length_append]
  omega
def rCat:R2:=fun x y H Q=>∃ l b xs zs,x = .ref l∧y = .ref b∧H l = some (.lst xs)∧H b = some (.lst zs)∧xs.length + zs.length≤sizeLine∧∀ p,H p = none→Q (.ref p) (upd H p (.lst (xs ++ zs)))
theorem op_cat:OpR X (binaryOp .Add) rCat:=by
  intro pins s σ H x y v u Q I rx ry h
  obtain ⟨l,b,xs,zs,rfl,rfl,hH,hB,hz,q⟩:=h
  cases rx
  cases ry
  obtain ⟨z,its,n,r,hl,e⟩:=I.lstM hH
  obtain ⟨z2,its2,n2,r2,hl2,e2⟩:=I.lstM hB
  refine PySem.P.add_list e e2 ?_ (by rw [List.size_toArray,List.size_toArray];omega)
  have ea:its.toArray ++ its2.toArray = (its ++ its2).toArray:=by simp
  rw [ea]
  exact ⟨.ref _,_,I.lnew (t':=s.toks) (r.append r2) (by rw [List.length_append];omega),rfl,q _ I.fresh⟩
def rRep:R2:=fun x y H Q=>∃ l k xs,x = .ref l∧y = .int k∧H l = some (.lst xs)∧-(2 ^ 63)≤k∧k < 2 ^ 63∧xs.length * k.toNat≤sizeLine ∧
  ∀ p,H p = none→Q (.ref p) (upd H p (.lst (List.replicate k.toNat xs).flatten))
theorem len_rep {α:Type} (xs:List α) (k:Nat):(List.replicate k xs).flatten.length = k * xs.length:=by
  induction k with
  | zero=>simp
  | succ k ih=>rw [List.replicate_succ,List.flatten_cons,List.length_append,ih,Nat.succ_mul,Nat.add_comm]
theorem op_rep:OpR X (binaryOp .Mult) rRep:=by
  intro pins s σ H x y v u Q I rx ry h
  obtain ⟨l,k,xs,rfl,rfl,hH,h1,h2,hz,q⟩:=h
  cases rx
  obtain ⟨t,rfl⟩:=ry
  obtain ⟨z,its,n,r,hl,e⟩:=I.lstM hH
  have hlen:its.toArray.size * k.toNat≤sizeLine:=by rw [List.size_toArray,← hl];exact hz
  have hcap:¬ its.toArray.size * k.toNat > (2 ^ 63 - 1) / 8:=by
    have:(sizeLine:Nat)≤(2 ^ 63 - 1) / 8:=by decide
    omega
  have hfit:¬ (!Builtin.List.listFitsIndex k) = true:=by
    rw [fitsIndex_both h1 h2]
    exact Bool.false_ne_true
  have hlong:¬ Builtin.List.listTooLong (its.toArray.size * k.toNat) = true:=by
    rw [notLongL hlen]
    exact Bool.false_ne_true
  have hnew:List.foldl (fun x1 x2=>x1 ++ x2) #[] (List.replicate (if its.toArray.isEmpty = true then 0 else k.toNat) its.toArray) = (List.replicate k.toNat its).flatten.toArray:=by
    have f0:∀ m:Nat,List.foldl (fun x1 x2=>x1 ++ x2) #[] (List.replicate m its.toArray) = (List.replicate m its).flatten.toArray:=fun m=>by
      have:=foldl_rep its m []
      rw [List.nil_append] at this
      exact this
    rw [f0]
    cases its with
    | nil=>simp
    | cons a r'=>rw [if_neg (by simp)]
  refine wpAny_binaryOp_repeat_ref (T:="list") (U:="int") (by decide) ⟨_,e,rfl⟩ (fun s'=>typeIs_int s' k t) noFill_list_mul F.fills_int_mul F.slot_int_rmul repeat_list F.slot_int_index.lookup
    (call_meets F.slot_int_rmul (typeIs_int s k t) F.entry_int_rmul (F.args_int_rmul_2 _ _) (int___rmul___int_list k t l its.toArray n)
      ⟨e,rfl,⟨_,e,rfl⟩,call_meets F.slot_list_mul ⟨_,e,rfl⟩ F.entry_list_mul (F.args_list_mul_2 _ _) (AutoListH.list___mul___list_int_3 l its.toArray n k t hfit hcap hlong) ⟨e,?_⟩⟩)
  rw [hnew]
  exact ⟨.ref _,_,I.lnew (t':=s.toks) (r.rep k.toNat) (by rw [len_rep,Nat.mul_comm];exact hz),rfl,q _ I.fresh⟩
end
end L2
namespace L2
open PySem PySem.Spec PyProof.Rows
theorem Vals.ints:∀ {ns:List Int} {us:List Value},Vals (ns.map V.int) us→IntsAre us ns
  | [],us,h=>by
    rw [List.map_nil] at h
    cases h
    exact IntsAre.nil
  | n :: ns,us,h=>by
    rw [List.map_cons] at h
    cases h with
    | cons r t =>
      obtain ⟨k,rfl⟩:=r
      exact IntsAre.cons n k (Vals.ints t)
theorem Vals.bls:∀ {bs:List Bool} {us:List Value},Vals (bs.map V.bl) us→us = bs.map Value.bool
  | [],us,h=>by
    rw [List.map_nil] at h
    cases h
    rfl
  | b :: bs,us,h=>by
    rw [List.map_cons] at h
    cases h with
    | cons r t =>
      cases r
      rw [Vals.bls t,List.map_cons]
theorem Vals.ref1 {a:Addr} {us:List Value} (r:Vals [V.ref a] us):us = [Value.ref a]:=by
  cases r with
  | cons r t =>
    cases t
    cases r
    rfl
section
variable {prog:Program} {w:World} {A:Around} {E:Value→Shared→Prop} {s:Shared} {l:Addr} {its:List Value} {ns:List Int} {Q:Value→Shared→Prop}
theorem sum_raw (hh:A.handled = none) (hl:s.heap.IsList l its.toArray) (hi:IntsAre its ns)
    (h:∀ h' tk t',(∀ b o,s.heap.get? b = some o→h'.get? b = some o)→Q (.int ns.sum t') { s with heap:=h',toks:=tk }):wpAny (model prog w) A (call (.builtin "sum") [.ref l]) Q E s:=by
  obtain ⟨xs,e⟩:=hi.allInts.items
  have hn:numsOf (intItems xs).toList = ns:=by rw [← e];exact hi.numsOf
  rw [nums_intItems] at hn
  rw [e] at hl
  refine PySem.sum_intListG hh hl fun h' tk t' hk=>?_
  have:=h h' tk t' hk
  rw [preSum_eq,List.take_of_length_le (by simp),hn];exact this
theorem max_raw (hh:A.handled = none) (hl:s.heap.IsList l its.toArray) (hi:IntsAre its ns) (hne:0 < ns.length)
    (h:∀ h' tk M t',(∀ b o,s.heap.get? b = some o→h'.get? b = some o)→M∈ns→(∀ a,a∈ns→a≤M)→Q (.int M t') { s with heap:=h',toks:=tk }):wpAny (model prog w) A (call (.builtin "max") [.ref l]) Q E s:=by
  obtain ⟨xs,e⟩:=hi.allInts.items
  have hn:numsOf (intItems xs).toList = ns:=by rw [← e];exact hi.numsOf
  rw [nums_intItems] at hn
  subst hn
  rw [e] at hl
  have hsz:0 < xs.size:=by simpa using hne
  refine PySem.max_intList hh hl hsz fun v h' tk hv hk=>?_
  obtain ⟨t,rfl⟩:=intItems_at hv
  obtain ⟨h1,h2⟩:=argBest_gt (numAt xs) (xs.size - 1)
  refine h h' tk _ t hk ?_ fun a ha=>?_
  · rw [numAt_eq];exact PySem.getD_mem (by rw [List.length_map,Array.length_toList];omega)
  · obtain ⟨j,hj,rfl⟩:=mem_getD ha
    rw [List.length_map,Array.length_toList] at hj
    rw [← numAt_eq];exact h2 j (by omega)
theorem min_raw (hh:A.handled = none) (hl:s.heap.IsList l its.toArray) (hi:IntsAre its ns) (hne:0 < ns.length)
    (h:∀ h' tk M t',(∀ b o,s.heap.get? b = some o→h'.get? b = some o)→M∈ns→(∀ a,a∈ns→M≤a)→Q (.int M t') { s with heap:=h',toks:=tk }):wpAny (model prog w) A (call (.builtin "min") [.ref l]) Q E s:=by
  obtain ⟨xs,e⟩:=hi.allInts.items
  have hn:numsOf (intItems xs).toList = ns:=by rw [← e];exact hi.numsOf
  rw [nums_intItems] at hn
  subst hn
  rw [e] at hl
  have hsz:0 < xs.size:=by simpa using hne
  refine PySem.min_intList hh hl hsz fun v h' tk hv hk=>?_
  obtain ⟨t,rfl⟩:=intItems_at hv
  obtain ⟨h1,h2⟩:=argBest_lt (numAt xs) (xs.size - 1)
  refine h h' tk _ t hk ?_ fun a ha=>?_
  · rw [numAt_eq];exact PySem.getD_mem (by rw [List.length_map,Array.length_toList];omega)
  · obtain ⟨j,hj,rfl⟩:=mem_getD ha
    rw [List.length_map,Array.length_toList] at hj
    rw [← numAt_eq];exact h2 j (by omega)
end
section
variable {X:Cx}
def rSum (K:PySem.W.Frag):List V→Hp→VK→Prop:=fun vs H Q=>∃ (a:Addr) (ns:List Int),vs = [V.ref a]∧SqL K H a (ns.map V.int)∧Q (.int ns.sum) H
def rMax (K:PySem.W.Frag):List V→Hp→VK→Prop:=fun vs H Q=>∃ (a:Addr) (ns:List Int),vs = [V.ref a]∧SqL K H a (ns.map V.int)∧0 < ns.length∧∀ m,m∈ns→(∀ y,y∈ns→y≤m)→Q (.int m) H
def rMin (K:PySem.W.Frag):List V→Hp→VK→Prop:=fun vs H Q=>∃ (a:Addr) (ns:List Int),vs = [V.ref a]∧SqL K H a (ns.map V.int)∧0 < ns.length∧∀ m,m∈ns→(∀ y,y∈ns→m≤y)→Q (.int m) H
theorem cr_sum (hc:X.calm = true):CallR X (.builtin "sum") (rSum X.K):=by
  intro pins s σ H vs us Q I r h
  obtain ⟨a,ns,rfl,hs,q⟩:=h
  obtain ⟨its,rv,hl,_⟩:=I.list hs
  rw [Vals.ref1 r]
  exact sum_raw (I.ok.hd hc) hl.isList rv.ints fun h' tk t' hk=>⟨.int _,H,I.kept hk,⟨_,rfl⟩,q⟩
theorem cr_max (hc:X.calm = true):CallR X (.builtin "max") (rMax X.K):=by
  intro pins s σ H vs us Q I r h
  obtain ⟨a,ns,rfl,hs,hne,q⟩:=h
  obtain ⟨its,rv,hl,_⟩:=I.list hs
  rw [Vals.ref1 r]
  exact max_raw (I.ok.hd hc) hl.isList rv.ints hne fun h' tk m t' hk h1 h2=>⟨.int _,H,I.kept hk,⟨_,rfl⟩,q m h1 h2⟩
theorem cr_min (hc:X.calm = true):CallR X (.builtin "min") (rMin X.K):=by
  intro pins s σ H vs us Q I r h
  obtain ⟨a,ns,rfl,hs,hne,q⟩:=h
  obtain ⟨its,rv,hl,_⟩:=I.list hs
  rw [Vals.ref1 r]
  exact min_raw (I.ok.hd hc) hl.isList rv.ints hne fun h' tk m t' hk h1 h2=>⟨.int _,H,I.kept hk,⟨_,rfl⟩,q m h1 h2⟩
end
theorem iter_any {prog:Program} {w:World} {A:Around} {E:Value→Shared→Prop} {s:Shared} {l:Addr} {items:Array Value} {Q:Value→Shared→Prop} (hl:s.heap.IsList l items)
    (h:∀ s₂:Shared,s₂ = { s with heap:=s.heap.push { cls:=.type "list_iterator",data:=.fields #[.ref l,.int 0 0] } } →
      (s₂.heap.IsListIter s.heap.objs.size l 0∧s₂.heap.IsList l items)→l≠s.heap.objs.size→Q (.ref s.heap.objs.size) s₂):wpAny (model prog w) A (pyIter (.ref l)) Q E s:=by
  have hlt:l < s.heap.objs.size:=by obtain ⟨_,e,_⟩:=hl;exact Heap.lt_size e
  exact wpAny_pyIter_list hl (h _ rfl ⟨⟨_,Heap.get?_push_size _ rfl,rfl,rfl⟩,hl.push _⟩ (Nat.ne_of_lt hlt))
theorem truth_bools {prog:Program} {w:World} {A:Around} {bs:List Bool} {its:List Value} (e:its = bs.map Value.bool) :
    TruthOf prog w A (fun i v=>its.toArray[i]? = some v) (fun i=>bs.getD i false):=fun i v s Q E hv hq=>by
  have hv':its[i]? = some v:=by simpa using hv
  rw [e,List.getElem?_map] at hv'
  obtain ⟨b,hb,rfl⟩:=Option.map_eq_some_iff.mp hv'
  have hg:bs.getD i false = b:=by rw [List.getD_eq_getElem?_getD,hb] <;> rfl
  have hq':Q (bs.getD i false) s:=hq
  rw [hg] at hq'
  exact wpAny_truthy_bool hq'
theorem any_range:∀ bs:List Bool,(List.range bs.length).any (fun i=>bs.getD i false) = bs.any id
  | []=>rfl
  | b :: bs=>by
    rw [List.length_cons,List.range_succ_eq_map,List.any_cons,List.any_map,List.any_cons,← any_range bs]
    all_goals rfl
theorem all_range:∀ bs:List Bool,(List.range bs.length).all (fun i=>bs.getD i false) = bs.all id
  | []=>rfl
  | b :: bs=>by
    rw [List.length_cons,List.range_succ_eq_map,List.all_cons,List.all_map,List.all_cons,← all_range bs]
    all_goals rfl
section
variable {X:Cx}
def rAll (K:PySem.W.Frag):List V→Hp→VK→Prop:=fun vs H Q=>∃ (a:Addr) (bs:List Bool),vs = [V.ref a]∧SqL K H a (bs.map V.bl)∧Q (.bl (bs.all id)) H
theorem cr_all (hc:X.calm = true):CallR X (.builtin "all") (rAll X.K):=by
  intro pins s σ H vs us Q I r h
  obtain ⟨a,bs,rfl,hs,q⟩:=h
  obtain ⟨its,rv,hl,_⟩:=I.list hs
  rw [Vals.ref1 r]
  have hb:=rv.bls
  refine call_all_walk (iter_any hl.isList fun s₂ e2 st hne=>?_)
  subst e2
  refine ⟨_,_,_,_,_,_,_,rfl,Walks.list (A:=X.A.in1) (I.ok.hd hc) _ a hne its.toArray,st,truth_bools hb,fun h' tk hk=>?_⟩
  refine ⟨.bl _,H,I.kept fun b o eo=>hk b o (fun hmem=>?_) (Heap.get?_push_of_some _ eo),?_,q⟩
  · rcases List.mem_cons.mp hmem with e1 | hmem
    · exact absurd (e1 ▸ Heap.lt_size eo) (Nat.lt_irrefl _)
    · cases hmem
  · show Value.bool _ = Value.bool _
    rw [← all_range,hb,List.size_toArray,List.length_map]
end
end L2
namespace L2
open PySem PySem.Spec PyProof.Rows
abbrev CellAt (h:Heap) (c:Addr) (v:Option Value):Prop:=h.IsCell c v
noncomputable def relS (scope sc:Scope):Scope :=
  { scope with names:=scope.names.map fun (n,k)=>if (k == .free && sc.kind == .function && sc.names.lookup n == some .cell) then (n,.cell) else (n,k) }
noncomputable def cloFrom (cells:List (Str × Addr)):List (Str × NameKind)→List (Str × Addr)→List (Str × Addr)
  | [],acc=>acc
  | (n,k) :: r,acc=>if k == .free then cloFrom cells r ((n,(cells.lookup n).getD 0) :: acc) else cloFrom cells r acc
theorem closure_loop (env:Env) (f:Str × NameKind→List (Str × Addr)→Sem (ForInStep (List (Str × Addr))))
    (hf:∀ n k c,f (n,k) c = if k == .free then (do let a ← cellOf env n;pure (.yield ((n,a) :: c))) else pure (.yield c)) :
    ∀ (names:List (Str × NameKind)) (acc:List (Str × Addr)),(∀ y∈names,y.2 = .free→∃ c,env.cells.lookup y.1 = some c)→forIn names acc f = pure (cloFrom env.cells names acc)
  | [],acc,_=>by rw [List.forIn_nil];rfl
  | (n,k) :: r,acc,h=>by
    rw [List.forIn_cons,hf]
    have ih:=fun acc=>closure_loop env f hf r acc fun y hy=>h y (List.mem_cons_of_mem _ hy)
    unfold cloFrom
    by_cases hk:(k == NameKind.free) = true
    · rw [if_pos hk,if_pos hk]
      obtain ⟨c,hc⟩:=h (n,k) List.mem_cons_self (by simpa using hk)
      have e:cellOf env n = pure c:=by unfold cellOf;rw [hc]
      rw [e]
      have e2:(env.cells.lookup n).getD 0 = c:=by rw [hc];rfl
      rw [e2]
      exact ih _
    · rw [if_neg hk,if_neg hk]
      exact ih _
theorem closure_ok {scope:Scope} {env:Env} (h:∀ y∈scope.names,y.2 = .free→∃ c,env.cells.lookup y.1 = some c):closureFor scope env = pure (cloFrom env.cells scope.names []):=by
  simp only [closureFor]
  rw [closure_loop env _ (fun n k c=>rfl) scope.names [] h]
  rfl
theorem mem_lookup {α:Type}:∀ {l:List (Str × α)} {n:Str} {c:α},(n,c)∈l→∃ c',l.lookup n = some c'
  | (k,v) :: r,n,c,h=>by
    rw [List.lookup_cons]
    cases hb:n == k with
    | true=>exact ⟨_,rfl⟩
    | false =>
      rcases List.mem_cons.mp h with e | h
      · cases e;simp at hb
      · exact mem_lookup h
theorem cloFrom_mem {cells:List (Str × Addr)}:∀ {names:List (Str × NameKind)} {acc:List (Str × Addr)} {n:Str} {c:Addr},(n,c)∈cloFrom cells names acc→(n,c)∈acc∨((n,.free)∈names∧c = (cells.lookup n).getD 0)
  | [],_,_,_,h=>.inl h
  | (m,k) :: r,acc,n,c,h=>by
    unfold cloFrom at h
    split at h
    · rename_i hk
      have hk:k = .free:=by simpa using hk
      rcases cloFrom_mem h with h | ⟨h1,h2⟩
      · rcases List.mem_cons.mp h with e | h
        · cases e;exact .inr ⟨hk ▸ List.mem_cons_self,rfl⟩
        · exact .inl h
      · exact .inr ⟨List.mem_cons_of_mem _ h1,h2⟩
    · rcases cloFrom_mem h with h | ⟨h1,h2⟩
      · exact .inl h
      · exact .inr ⟨List.mem_cons_of_mem _ h1,h2⟩
theorem cloFrom_acc {cells:List (Str × Addr)}:∀ {names:List (Str × NameKind)} {acc:List (Str × Addr)} {p:Str × Addr},p∈acc→p∈cloFrom cells names acc
  | [],_,_,h=>h
  | (m,k) :: r,acc,p,h=>by
    unfold cloFrom
    split
    · exact cloFrom_acc (List.mem_cons_of_mem _ h)
    · exact cloFrom_acc h
theorem cloFrom_has {cells:List (Str × Addr)}:∀ {names:List (Str × NameKind)} {acc:List (Str × Addr)} {n:Str},(n,.free)∈names→(n,(cells.lookup n).getD 0)∈cloFrom cells names acc
  | (m,k) :: r,acc,n,h=>by
    unfold cloFrom
    rcases List.mem_cons.mp h with e | h
    · cases e
      exact cloFrom_acc List.mem_cons_self
    · split
      · exact cloFrom_has h
      · exact cloFrom_has h
theorem cells_mem:∀ {names:List (Str × NameKind)} {h:Heap} {acc:List (Str × Addr)} {x:Str} {c:Addr},(x,c)∈cellsFrom h.objs.size names acc →
    (x,c)∈acc∨((x,.cell)∈names∧h.objs.size≤c∧CellAt (pushCells h names) c none)
  | [],_,_,_,_,h=>.inl h
  | (n,k) :: r,h,acc,x,c,hm=>by
    unfold cellsFrom at hm
    unfold pushCells
    split at hm
    · rename_i hk
      rw [if_pos hk]
      have hk:k = .cell:=by simpa using hk
      rw [← Heap.size_push h { cls:=.type "cell",data:=.cell none }] at hm
      rcases cells_mem hm with hm | ⟨h1,h2,h3⟩
      · rcases List.mem_cons.mp hm with e | hm
        · cases e
          exact .inr ⟨hk ▸ List.mem_cons_self,Nat.le_refl _,_,pushCells_keeps r _ _ _ (Heap.get?_push_size _ rfl),rfl⟩
        · exact .inl hm
      · rw [Heap.size_push] at h2
        exact .inr ⟨List.mem_cons_of_mem _ h1,Nat.le_of_succ_le h2,h3⟩
    · rename_i hk
      rw [if_neg hk]
      rcases cells_mem hm with hm | ⟨h1,h2,h3⟩
      · exact .inl hm
      · exact .inr ⟨List.mem_cons_of_mem _ h1,h2,h3⟩
theorem cells_acc:∀ {names:List (Str × NameKind)} {n:Nat} {acc:List (Str × Addr)} {p:Str × Addr},p∈acc→p∈cellsFrom n names acc
  | [],_,_,_,h=>h
  | (m,k) :: r,n,acc,p,h=>by
    unfold cellsFrom
    split
    · exact cells_acc (List.mem_cons_of_mem _ h)
    · exact cells_acc h
theorem cells_has:∀ {names:List (Str × NameKind)} {n:Nat} {acc:List (Str × Addr)} {x:Str},(x,.cell)∈names→∃ c,(x,c)∈cellsFrom n names acc
  | (m,k) :: r,n,acc,x,h=>by
    unfold cellsFrom
    rcases List.mem_cons.mp h with e | h
    · cases e
      exact ⟨n,cells_acc List.mem_cons_self⟩
    · split
      · exact cells_has h
      · exact cells_has h
theorem cells_inj:∀ {names:List (Str × NameKind)} {h:Heap} {acc:List (Str × Addr)} {x y:Str} {c:Addr},(∀ p∈acc,p.2 < h.objs.size)→(∀ x y c,(x,c)∈acc→(y,c)∈acc→x = y) →
    (x,c)∈cellsFrom h.objs.size names acc→(y,c)∈cellsFrom h.objs.size names acc→x = y
  | [],_,_,_,_,_,_,hi,h1,h2=>hi _ _ _ h1 h2
  | (n,k) :: r,h,acc,x,y,c,hl,hi,h1,h2=>by
    unfold cellsFrom at h1 h2
    split at h1
    · rename_i hk
      rw [if_pos hk] at h2
      rw [← Heap.size_push h { cls:=.type "cell",data:=.cell none }] at h1 h2
      refine cells_inj (h:=h.push _) (fun p hp=>?_) (fun x y c a b=>?_) h1 h2
      · rw [Heap.size_push]
        rcases List.mem_cons.mp hp with rfl | hp
        · exact Nat.lt_succ_self _
        · exact Nat.lt_succ_of_lt (hl p hp)
      · rcases List.mem_cons.mp a with e | a <;> rcases List.mem_cons.mp b with e' | b
        · cases e;cases e';rfl
        · cases e;exact absurd (hl _ b) (Nat.lt_irrefl _)
        · cases e';exact absurd (hl _ a) (Nat.lt_irrefl _)
        · exact hi _ _ _ a b
    · rename_i hk
      rw [if_neg hk] at h2
      exact cells_inj hl hi h1 h2
theorem newEnv_comp {M:Model} {A:Around} {E:Value→Shared→Prop} {s:Shared} {scope:Scope} {globals:Addr} {closure:List (Str × Addr)} {qual:Str} {func:Option Addr} {code:Value} {around:Env} {builtins:Addr} {Q:Env→Shared→Prop}
    (h:Q (newEnv scope s.heap.objs.size globals (cellsFrom (s.heap.objs.size + 1) scope.names closure) qual func code (some around) builtins)
      { s with heap:=pushCells (s.heap.push { cls:=.type "dict",data:=.dict #[] }) scope.names }) :
    wpAny M A (newFunctionEnv scope globals closure [] qual func code (some around) builtins) Q E s:=by
  simp only [newFunctionEnv,Option.isSome_some,if_true]
  refine wpAny_bind (wpAny_alloc ?_)
  refine wpAny_bind (wpAny_layCells _ (fun n k c=>rfl) scope.names closure _ _ ?_)
  rw [show ({ s with heap:=s.heap.push { cls:=.type "dict",data:=.dict #[] } }:Shared).heap.objs.size = s.heap.objs.size + 1 from Heap.size_push ..]
  rw [List.forIn_nil]
  exact wpAny_bind (wpAny_pure (wpAny_pure h))
theorem lookup_relS {sc:Scope}:∀ {names:List (Str × NameKind)} {x:Str} {k:NameKind},
    (names.map fun (n,k)=>if (k == NameKind.free && sc.kind == .function && sc.names.lookup n == some .cell) then (n,NameKind.cell) else (n,k)).lookup x = some k →
    ∃ k',names.lookup x = some k'∧(k = k'∨(k' = .free∧k = .cell))
  | [],_,_,h=>by simp at h
  | (n,k₀) :: r,x,k,h=>by
    have ih:=@lookup_relS sc r x k
    have h':List.lookup x ((if (k₀ == NameKind.free && sc.kind == .function && sc.names.lookup n == some .cell) = true then (n,NameKind.cell) else (n,k₀)) :: (r.map _)) = some k:=h
    cases hx:x == n with
    | true =>
      simp only [List.lookup_cons,hx]
      by_cases hc:(k₀ == NameKind.free && sc.kind == .function && sc.names.lookup n == some .cell) = true
      · rw [if_pos hc] at h'
        simp only [List.lookup_cons,hx] at h'
        cases h'
        simp only [Bool.and_eq_true,beq_iff_eq] at hc
        exact ⟨k₀,rfl,.inr ⟨hc.1.1,rfl⟩⟩
      · rw [if_neg hc] at h'
        simp only [List.lookup_cons,hx] at h'
        cases h'
        exact ⟨_,rfl,.inl rfl⟩
    | false =>
      simp only [List.lookup_cons,hx]
      by_cases hc:(k₀ == NameKind.free && sc.kind == .function && sc.names.lookup n == some .cell) = true
      · rw [if_pos hc] at h'
        simp only [List.lookup_cons,hx] at h'
        exact ih h'
      · rw [if_neg hc] at h'
        simp only [List.lookup_cons,hx] at h'
        exact ih h'
structure BlkOk (N:List Str) (sc scope:Scope) (own:List (Str × Nat)):Prop where
  kind:scope.kind = .function
  uniq:∀ y∈scope.names,scope.names.lookup y.1 = some y.2
  ix:∀ p∈own,N[p.2]? = some p.1
  free:∀ y∈scope.names,y.2 = .free→sc.names.lookup y.1 = some .cell∨sc.names.lookup y.1 = some .free
  own:∀ y∈scope.names,y.2 = .local∨y.2 = .cell→y.1∈own.map (·.1)∨y.1 ∉ N
def wipe (σ:St):List Nat→St
  | []=>σ
  | v :: vs=>(wipe σ vs).set v none
theorem wipe_length (σ:St):∀ vs:List Nat,(wipe σ vs).length = σ.length
  | []=>rfl
  | v :: vs=>by unfold wipe;rw [List.length_set,wipe_length σ vs]
theorem wipe_some {σ:St} {i:Nat} {x:V}:∀ {vs:List Nat},(wipe σ vs)[i]? = some (some x)→σ[i]? = some (some x)∧i ∉ vs
  | [],h=>⟨h,by simp⟩
  | v :: vs,h=>by
    unfold wipe at h
    by_cases hi:v = i
    · subst hi
      by_cases hv:v < (wipe σ vs).length
      · rw [List.getElem?_set_self hv] at h;cases h
      · rw [List.getElem?_eq_none (by simpa using hv)] at h;cases h
    · rw [List.getElem?_set_ne hi] at h
      obtain ⟨h1,h2⟩:=wipe_some h
      exact ⟨h1,by simp only [List.mem_cons,not_or];exact ⟨fun e=>hi e.symm,h2⟩⟩
abbrev Cx.blk (X:Cx) (s:Shared) (H:Hp) (scope:Scope) (cenv:Env) (fp:List Addr):Cx:={ X with s_0:=s,H_0:=H,env:=cenv,outer:=X.stack,ex:=fp,fn:=fun x=>scope.names.lookup x == some .cell,pn:=[],xe:=fun _ _=>False }
section
variable {X:Cx} {pins:List (Addr × Obj)} {σ:St} {H:Hp} {s:Shared}
theorem block_start {scope:Scope} {own:List (Str × Nat)} {fp:List Addr} (I:Inv X pins σ H s) (ok:BlkOk X.N X.env.scope scope own) (hN:X.N.Nodup) (hfp:∀ b∈fp,FpOk X pins H b∧b < s.heap.objs.size) :
    Inv (X.blk s H scope (compEnvC scope (cellsFrom (s.heap.objs.size + 1) scope.names (cloFrom X.env.cells scope.names [])) s.heap.objs.size X.env) fp) [] (wipe σ (own.map (·.2))) H { s with heap:=pushCells (s.heap.push { cls:=.type "dict",data:=.dict #[] }) scope.names }:=by
  have hfree:∀ y∈scope.names,y.2 = .free→∃ c,X.env.cells.lookup y.1 = some c:=fun y hy e=>by
    rcases ok.free y hy e with k | k
    · exact I.ok.has _ (.inl k)
    · exact I.ok.has _ (.inr k)
  generalize hcenv:compEnvC scope (cellsFrom (s.heap.objs.size + 1) scope.names (cloFrom X.env.cells scope.names [])) s.heap.objs.size X.env = cenv
  have kp:∀ b o,s.heap.get? b = some o→(pushCells (s.heap.push { cls:=.type "dict",data:=.dict #[] }) scope.names).get? b = some o:=fun b o e=>pushCells_keeps _ _ _ _ (Heap.get?_push_of_some _ e)
  have hL:cenv.locals = s.heap.objs.size:=by rw [← hcenv];rfl
  have hcl:cenv.cells = cellsFrom (s.heap.objs.size + 1) scope.names (cloFrom X.env.cells scope.names []):=by rw [← hcenv];rfl
  have hsc:cenv.scope = relS scope X.env.scope:=by rw [← hcenv];rfl
  rw [← Heap.size_push s.heap { cls:=.type "dict",data:=.dict #[] }] at hcl
  have cm:∀ {y c},(y,c)∈cloFrom X.env.cells scope.names []→X.env.cells.lookup y = some c∧c < s.heap.objs.size:=fun {y c} hm=>by
    rcases cloFrom_mem hm with hm | ⟨h1,rfl⟩
    · cases hm
    · obtain ⟨c,hc⟩:=hfree _ h1 rfl
      rw [hc]
      obtain ⟨w,z⟩:=I.cell _ _ hc
      exact ⟨rfl,z.lt⟩
  have mem:∀ {y c},cenv.cells.lookup y = some c→(X.env.cells.lookup y = some c∧c < s.heap.objs.size)∨(s.heap.objs.size + 1≤c∧CellAt (pushCells (s.heap.push { cls:=.type "dict",data:=.dict #[] }) scope.names) c none):=fun {y c} e=>by
    rw [hcl] at e
    rcases cells_mem (PySem.mem_of_lookup e) with hm | ⟨_,h2,h3⟩
    · exact .inl (cm hm)
    · rw [Heap.size_push] at h2;exact .inr ⟨h2,h3⟩
  have look:∀ {y},scope.names.lookup y = some .free→∃ c,cenv.cells.lookup y = some c∧X.env.cells.lookup y = some c:=fun {y} hl=>by
    have hy:(y,NameKind.free)∈scope.names:=PySem.mem_of_lookup hl
    obtain ⟨c',e'⟩:=mem_lookup (cells_acc (names:=scope.names) (n:=(s.heap.push { cls:=.type "dict",data:=.dict #[] }).objs.size) (cloFrom_has (cells:=X.env.cells) (acc:=[]) hy))
    rw [← hcl] at e'
    refine ⟨c',e',?_⟩
    rw [hcl] at e'
    rcases cells_mem (PySem.mem_of_lookup e') with hm | ⟨h1,_,_⟩
    · exact (cm hm).1
    · have:=ok.uniq _ h1
      rw [hl] at this;cases this
  have okB:(X.blk s H scope cenv fp).Ok:=by
    refine ⟨I.ok.mod,by show cenv.scope.kind = _;rw [hsc];exact ok.kind,by show cenv.globals = _;rw [← hcenv];exact I.ok.glob,by show cenv.builtins = _;rw [← hcenv];exact I.ok.blt,by show s.heap.objs.size≤cenv.locals;rw [hL];exact Nat.le_refl _,
      fun y z c e1 e2=>?_,fun y hy=>?_,fun y c z e=>?_,I.ok.hd,I.ok.frames,.inl rfl,fun b hb=>⟨?_,fun y c e z=>?_⟩,I.bs,Nat.le_trans I.ok.bsz I.sz,fun b o e hb=>?_,fun b hb z=>?_,I.stack,I.stkFree⟩
    · have e1:cenv.cells.lookup y = some c:=e1
      have e2:cenv.cells.lookup z = some c:=e2
      rw [hcl] at e1 e2
      refine cells_inj (fun p hp=>?_) (fun y z c a b=>I.ok.inj y z c (cm a).1 (cm b).1) (PySem.mem_of_lookup e1) (PySem.mem_of_lookup e2)
      rw [Heap.size_push]
      exact Nat.lt_succ_of_lt (cm (y:=p.1) (c:=p.2) hp).2
    · show ∃ c,cenv.cells.lookup y = some c
      have key:∀ k,cenv.kindOf y = some k→(k = .cell∨k = .free)→∃ c,cenv.cells.lookup y = some c:=fun k hk hk'=>by
        unfold Env.kindOf at hk
        rw [hsc] at hk
        obtain ⟨k',e,r⟩:=lookup_relS hk
        have:k' = .cell∨k' = .free:=by
          rcases r with rfl | ⟨rfl,_⟩
          · exact hk'
          · exact .inr rfl
        rcases this with rfl | rfl
        · obtain ⟨c,hm⟩:=cells_has (n:=(s.heap.push { cls:=.type "dict",data:=.dict #[] }).objs.size) (acc:=cloFrom X.env.cells scope.names []) (PySem.mem_of_lookup e)
          obtain ⟨c',e'⟩:=mem_lookup hm
          exact ⟨c',by rw [hcl];exact e'⟩
        · obtain ⟨c,h1,_⟩:=look e
          exact ⟨c,h1⟩
      rcases hy with hy | hy
      · exact key _ hy (.inl rfl)
      · exact key _ hy (.inr rfl)
    · have z:(scope.names.lookup y == some NameKind.cell) = true:=z
      have z:scope.names.lookup y = some .cell:=by simpa using z
      have e:cenv.cells.lookup y = some c:=e
      rw [hcl] at e
      rcases cells_mem (PySem.mem_of_lookup e) with hm | ⟨_,h2,_⟩
      · rcases cloFrom_mem hm with hm | ⟨h1,_⟩
        · cases hm
        · have q:=ok.uniq _ h1
          rw [z] at q;cases q
      · rw [Heap.size_push] at h2
        exact Nat.le_of_succ_le h2
    · show b≠cenv.locals
      rw [hL];exact Nat.ne_of_lt (hfp b hb).2
    · have e:cenv.cells.lookup y = some c:=e
      rcases mem e with ⟨h1,_⟩ | ⟨h1,_⟩
      · exact (hfp b hb).1.2.2.2.2.1 y c h1 z
      · have h2:s.heap.objs.size + 1≤b:=by rw [← z];exact h1
        exact absurd (Nat.lt_of_lt_of_le (hfp b hb).2 (Nat.le_of_succ_le h2)) (Nat.lt_irrefl _)
    · rcases (hfp b hb).1.2.2.2.1 with z | z
      · exact I.ok.noex b o e z
      · exact absurd (Nat.lt_of_lt_of_le (Heap.lt_size e) (Nat.le_trans I.ok.bsz z)) (Nat.lt_irrefl _)
    · rcases List.mem_cons.mp (I.stkSub b z) with z | z
      · exact (hfp b hb).1.2.1 z
      · exact (hfp b hb).1.2.2.1 z
  refine ⟨okB,rfl,I.bare,Un.kept kp,⟨fun _=>none,?_,fun i y av e1 e2 e3=>?_⟩,fun y c e=>?_,?_,fun y c e=>?_,fun p hp=>?_,I.hok.kept kp,by rw [wipe_length];exact I.len⟩
  · show Heap.Ns _ cenv.locals _
    rw [hL]
    exact Heap.Ns.keeps (Heap.Ns.new ..) fun b o e=>pushCells_keeps _ _ _ _ e
  · obtain ⟨e2,hne⟩:=wipe_some e2
    have hfr:scope.names.lookup y = some .free∧(cenv.kindOf y = some .cell∨cenv.kindOf y = some .free):=by
      have key:∀ k,cenv.scope.names.lookup y = some k→k = .local∨k = .cell∨k = .free→scope.names.lookup y = some .free∧(cenv.kindOf y = some .cell∨cenv.kindOf y = some .free):=fun k hk hk'=>by
        have hk0:=hk
        rw [hsc] at hk
        obtain ⟨k',e,r⟩:=lookup_relS hk
        have no:¬ (k' = .local∨k' = .cell):=fun hh=>by
          rcases ok.own _ (PySem.mem_of_lookup e) hh with e' | e'
          · obtain ⟨p,hp,hpy⟩:=List.mem_map.mp e'
            have e3:=ok.ix p hp
            have:p.1 = y:=hpy
            rw [this] at e3
            exact hne (List.mem_map.mpr ⟨p,hp,nodup_ix hN e3 e1⟩)
          · exact e' (List.mem_of_getElem? e1)
        rcases r with rfl | ⟨rfl,rfl⟩
        · rcases hk' with rfl | rfl | rfl
          · exact absurd (.inl rfl) no
          · exact absurd (.inr rfl) no
          · exact ⟨e,.inr hk0⟩
        · exact ⟨e,.inl hk0⟩
      have e3:Vis cenv.scope y:=e3
      rcases e3 with e3 | e3 | e3
      · exact key _ e3 (.inl rfl)
      · exact key _ e3 (.inr (.inl rfl))
      · exact key _ e3 (.inr (.inr rfl))
    obtain ⟨m,hn,hl⟩:=I.loc
    have hvis:Vis X.env.scope y:=(ok.free _ (PySem.mem_of_lookup hfr.1) rfl).elim (fun k=>.inr (.inl k)) (fun k=>.inr (.inr k))
    obtain ⟨w,r,q⟩:=hl i y av e1 e2 hvis
    refine ⟨w,r,.inr ⟨hfr.2,?_⟩⟩
    obtain ⟨c,h1,h2⟩:=look hfr.1
    rcases q with ⟨k,_⟩ | ⟨_,c',e',z⟩
    · have k:X.env.scope.names.lookup y = some .local:=k
      rcases ok.free _ (PySem.mem_of_lookup hfr.1) rfl with k' | k' <;> rw [show X.env.scope.names.lookup y = _ from k'] at k <;> cases k
    · rw [h2] at e';cases e'
      exact ⟨c,h1,z.keeps kp⟩
  · have e:cenv.cells.lookup y = some c:=e
    rcases mem e with ⟨h1,_⟩ | ⟨_,z⟩
    · obtain ⟨w,z⟩:=I.cell y c h1
      exact ⟨w,z.keeps kp⟩
    · exact ⟨_,z⟩
  · show H cenv.locals = none
    rw [hL];exact I.hok.fresh (Nat.le_refl _)
  · have e:cenv.cells.lookup y = some c:=e
    rcases mem e with ⟨h1,_⟩ | ⟨h1,_⟩
    · exact I.freeC y c h1
    · exact I.hok.fresh (Nat.le_of_succ_le h1)
  · exact absurd (show p∈([]:List (Addr × Obj)) ++ [] from hp) (by simp)
theorem app_ok {E:Value→Shared→Prop} {D:Addr} {xs:List V} {y:V} {v:Value} {Q:Value→Shared→Prop} (I:Inv X pins σ H s) (hD:H D = some (.lst xs)) (hz:xs.length < sizeLine) (r:RelV y v)
    (h:∀ s',Inv X pins σ (upd H D (.lst (xs ++ [y]))) s'→Q .none s'):wpAny (model X.prog X.w) X.A (call (.builtin "list.append") [.ref D,v]) Q E s:=by
  obtain ⟨hz',its,n,ri,e⟩:=I.hok D _ hD
  have hl:=ri.length
  refine append_at (hsz:=by rw [List.size_toArray];omega) e fun h' sb ho'=>?_
  refine h { s with heap:=h' } (I.write (t':=s.toks) (by rw [hD];trivial) (.inl rfl) (fun b u hb q=>(sb.2 b hb).trans q) ⟨_,ho'⟩ ⟨by rw [List.length_append];exact hz,its ++ [v],n + 1,ri.append (.cons r .nil),?_⟩)
  rw [ho']
  simp
def PTs (X:Cx) (ifs:List Expr) (t:TT):Prop :=
  ∀ (pins:List (Addr × Obj)) (s:Shared) (σ:St) (H:Hp) (Q:Bool→Hp→Prop),Inv X pins σ H s→t σ H Q →
    wpAny (model X.prog X.w) X.A (forIn ifs true fun c r=>if r = true then do let ok ← isTrue c X.env (eval c X.env);pure (ForInStep.yield ok) else pure (ForInStep.yield r)) (TP X pins σ Q) X.xe s
def tYes:TT:=fun _ H Q=>Q true H
theorem pts_nil:PTs X [] tYes:=fun _ _ _ H _ I h=>wpAny_tests_nil ⟨H,I,h⟩
theorem pts_one {c:Expr} {t:TT} (h:PT X c t):PTs X [c] t:=fun pins s σ H Q I hw=>wpAny_tests_one (h pins s σ H Q I hw)
end
theorem thnF {α:Type} {t:Sem α} {Q Q':α→Shared→Prop} {M:Model} {A:Around} {E:Value→Shared→Prop} {s:Shared} (h:wpAny M A t Q (fun _ _=>False) s) (hQ:∀ a s,Q a s→Q' a s):wpAny M A t Q' E s:=wpAny_mono h hQ fun _ _ z=>False.elim z
theorem compLoop_any {prog:Program} {w:World} {A:Around} {R:Result→Shared→Prop} {s:Shared} {elt target iter:Expr} {ifs:List Expr} {scope:Scope} {pos:Pos} {it acc:Value} {env:Env} (I:Nat→Shared→Prop)
    (turn:∀ n s,I n s→wpAny (model prog w) A (pyNext it) (fun r s₁=>match r with
      | none=>R (.ok .next) s₁
      | some v=>wpAny (model prog w) A (letOwnedTupleGo target it v) (fun _ s₁'=>wpAny (model prog w) A (assign target env v) (fun _ s₂ =>
          wpAny (model prog w) A (forIn ifs true fun c r=>if r = true then do let ok ← isTrue c env (eval c env);pure (ForInStep.yield ok) else pure (ForInStep.yield r)) (fun ok s₃ =>
            if ok = true then wpAny (model prog w) A (eval elt env) (fun x s₄ =>
              wpAny (model prog w) A (call (.builtin "list.append") [acc,x]) (fun _ s₅=>∃ m,m < n∧I m s₅) (notedBy (model prog w) A env fun e s'=>R (.error e) s') s₄) (notedBy (model prog w) A env fun e s'=>R (.error e) s') s₃
            else ∃ m,m < n∧I m s₃) (notedBy (model prog w) A env fun e s'=>R (.error e) s') s₂) (notedBy (model prog w) A env fun e s'=>R (.error e) s') s₁') (notedBy (model prog w) A env fun e s'=>R (.error e) s') s₁) (notedBy (model prog w) A env fun e s'=>R (.error e) s') s)
    (n:Nat) (h:I n s) :
    codeAny (model prog w) A (.compLoop (.ListComp elt [⟨target,iter,ifs,0⟩] scope pos) 0 it acc env) R s:=by
  refine codeAny_loop rfl I (fun n s hI=>?_) n h
  show wpAny _ A ((compTurn (.ListComp elt [⟨target,iter,ifs,0⟩] scope pos) 0 it acc env).onRaise (fun x=>do noteFrame x env;theTreesLotGoes x)) _ _ s
  refine wpAny_noted ?_
  rw [compTurn_list]
  refine wpAny_bind (wpAny_standAt (wpAny_bind (wpAny_mono (turn n s hI) (fun r s₁ h₁=>?_) fun _ _ h'=>h')))
  cases r with
  | none=>exact wpAny_pure h₁
  | some v =>
    refine wpAny_bind (wpAny_mono h₁ (fun _ s₁' h₁'=>?_) fun _ _ h'=>h')
    refine wpAny_bind (wpAny_mono h₁' (fun _ s₂ h₂=>wpAny_bind (wpAny_mono h₂ (fun ok s₃ h₃=>?_) fun _ _ h'=>h')) fun _ _ h'=>h')
    cases ok with
    | false=>exact wpAny_pure ⟨rfl,h₃⟩
    | true =>
      exact wpAny_bind (wpAny_bind (wpAny_mono h₃ (fun x s₄ h₄=>wpAny_bind (wpAny_mono h₄ (fun _ s₅ h₅=>wpAny_pure (wpAny_pure ⟨rfl,h₅⟩)) fun _ _ h'=>h')) fun _ _ h'=>h'))
section
variable {X:Cx}
def tLc (wi:TI) (g:TG) (tt:TT) (te:TE) (vs:List Nat):TE:=fun σ H Q=>wi σ H fun J H1=>∀ D,H1 D = none→∃ W:Nat→Nat→Hp→Prop,(∃ m,W 0 m (upd H1 D (.lst [])))∧∀ i m H,W i m H →
  (J.stop i H∧Q (.ref D) H)∨(J.go i H∧∃ Nx:Hp→Prop,(∀ H',Nx H'→∃ m',m' < m∧W (i + 1) m' H')∧∀ x H',J.yld i H x H'→g x (wipe σ vs) H' fun σ2 H2=>wipe σ2 vs = wipe σ vs∧tt σ2 H2 fun b H3 =>
    if b = true then te σ2 H3 fun y H4=>∃ acc,H4 D = some (.lst acc)∧acc.length < sizeLine∧Nx (upd H4 D (.lst (acc ++ [y]))) else Nx H3)
theorem lc_core {pins:List (Addr × Obj)} {s:Shared} {σ:St} {H:Hp} {Q:VK} {elt tg iter:Expr} {ifs:List Expr} {scope:Scope} {own:List (Str × Nat)} {pos pos':Pos} {wi:TI} {g:TG} {tt:TT} {te:TE} {use:Option (Value→Sem Unit)} {Qf:Value→Shared→Prop}
    (hc:X.calm = true) (hN:X.N.Nodup) (I:Inv X pins σ H s) (hi:PI X tg iter wi) (ok:BlkOk X.N X.env.scope scope own)
    (hg:∀ (s:Shared) (H:Hp) (C:Addr) (cl:List (Str × Addr)) (fp:List Addr),PG (X.blk s H scope (compEnvC scope cl C X.env) fp) tg g) (ht:∀ (s:Shared) (H:Hp) (C:Addr) (cl:List (Str × Addr)) (fp:List Addr),PTs (X.blk s H scope (compEnvC scope cl C X.env) fp) ifs tt)
    (he:∀ (s:Shared) (H:Hp) (C:Addr) (cl:List (Str × Addr)) (fp:List Addr),PE (X.blk s H scope (compEnvC scope cl C X.env) fp) elt te) (hs:∀ x,foldedSetIterable iter X.env x = pure x)
    (h:tLc wi g tt te (own.map (·.2)) σ H Q)
    (hRR:∀ D C s' m H',Inv X pins σ H' s'→Q (.ref D) H'→s'.heap.Ns C m→FpOk X pins H' C→compPost (model X.prog X.w) X.A X.xe use Qf (.ref D) C (.ok .next) s') :
    wpAny (model X.prog X.w) X.A (comprehension (.ListComp elt [⟨tg,iter,ifs,0⟩] scope pos) scope X.env pos' (newList []) false (eval iter X.env) use) Qf X.xe s:=by
  have hfree:∀ y∈scope.names,y.2 = .free→∃ c,X.env.cells.lookup y.1 = some c:=fun y hy e=>by
    rcases ok.free y hy e with k | k
    · exact I.ok.has _ (.inl k)
    · exact I.ok.has _ (.inr k)
  refine wpAny_comprehension_free (use:=use) rfl hs (closure_ok hfree) ok.kind (fun y hy e=>by rw [ok.uniq y hy,e])
    (thn (hi pins s σ H _ I h) fun xv s1 hx=>thn hx fun itv s2 h2=>?_)
  obtain ⟨it,fp,tn,J,H2,e,I2,T,st2,f2,q⟩:=h2
  subst e
  refine wpAny_newObj_type (newEnv_comp ?_) (by show 0≤sizeLine;decide)
  generalize hD:s2.heap.objs.size = D
  have hDn:H2 D = none:=I2.hok.fresh (Nat.le_of_eq hD)
  obtain ⟨W,⟨m0,w0⟩,turn⟩:=q D hDn
  generalize hs3:({ s2 with heap:=s2.heap.push { cls:=.type "list",data:=.seq ([]:List Value).toArray } }:Shared) = s3
  have I3:Inv X pins σ (upd H2 D (.lst [])) s3:=by
    rw [← hs3]
    refine I2.laid (t':=s2.toks) (fun b o e=>Heap.get?_push_of_some _ e) (Nat.le_of_eq hD) ⟨Nat.zero_le _,[],0,.nil,?_⟩
    rw [← hD]
    exact Heap.get?_push_size _ rfl
  have h3:s3.heap = s2.heap.push { cls:=.type "list",data:=.seq ([]:List Value).toArray }:=by rw [← hs3]
  have sz:∀ b∈fp,b < s2.heap.objs.size:=fun b hb=>by
    obtain ⟨o,e,_⟩:=T.obj _ _ st2 b hb
    exact Heap.lt_size e
  have f3:∀ b∈fp,FpOk X pins (upd H2 D (.lst [])) b∧b < s3.heap.objs.size:=fun b hb=>by
    have hlt:=sz b hb
    refine ⟨⟨?_,(f2 b hb).2⟩,by rw [h3,Heap.size_push];exact Nat.lt_succ_of_lt hlt⟩
    rw [upd_ne (by rw [← hD];exact Nat.ne_of_lt hlt)]
    exact (f2 b hb).1
  have st3:tn 0 s3.heap:=T.keep _ _ _ st2 fun b _ o e=>by rw [h3];exact Heap.get?_push_of_some _ e
  have I4:=block_start I3 ok hN f3
  have pg:=hg s3 (upd H2 D (.lst [])) s3.heap.objs.size (cellsFrom (s3.heap.objs.size + 1) scope.names (cloFrom X.env.cells scope.names [])) fp
  have pt:=ht s3 (upd H2 D (.lst [])) s3.heap.objs.size (cellsFrom (s3.heap.objs.size + 1) scope.names (cloFrom X.env.cells scope.names [])) fp
  have pe:=he s3 (upd H2 D (.lst [])) s3.heap.objs.size (cellsFrom (s3.heap.objs.size + 1) scope.names (cloFrom X.env.cells scope.names [])) fp
  show codeAny _ _ (.compStart (.ListComp elt [⟨tg,iter,ifs,0⟩] scope pos) 0 (.ref it) (.ref D) (compEnvC scope (cellsFrom (s3.heap.objs.size + 1) scope.names (cloFrom X.env.cells scope.names [])) s3.heap.objs.size X.env)) (compPost (model X.prog X.w) X.A X.xe use Qf (.ref D) s3.heap.objs.size) { s3 with heap:=pushCells (s3.heap.push { cls:=.type "dict",data:=.dict #[] }) scope.names }
  have nfp:∀ b∈fp,(upd H2 D (.lst [])) b = none:=fun b hb=>(f3 b hb).1.1
  generalize hce:compEnvC scope (cellsFrom (s3.heap.objs.size + 1) scope.names (cloFrom X.env.cells scope.names [])) s3.heap.objs.size X.env = ce at I4 pg pt pe ⊢
  have cL:ce.locals = s3.heap.objs.size:=by subst hce;rfl
  generalize hH3:upd H2 D (.lst []) = H3 at I3 I4 pg pt pe w0 nfp f3
  generalize hs4:({ s3 with heap:=pushCells (s3.heap.push { cls:=.type "dict",data:=.dict #[] }) scope.names }:Shared) = s4 at I4 ⊢
  have st4:tn 0 s4.heap:=T.keep _ _ _ st3 fun b _ o e=>by rw [← hs4];exact pushCells_keeps _ _ _ _ (Heap.get?_push_of_some _ e)
  have stat:∀ {σ':St} {H':Hp} {s':Shared},Inv (X.blk s3 H3 scope ce fp) [] σ' H' s'→(∀ b∈fp,H' b = none)→∀ b∈fp,FpOk (X.blk s3 H3 scope ce fp) [] H' b:=fun {σ' H' s'} I' hn b hb =>
    ⟨hn b hb,(I'.ok.exf b hb).1,I'.ok.exfs b hb,.inl hb,fun x c e=>(I'.ok.exf b hb).2 x c e,fun p hp=>absurd (show p∈([]:List (Addr × Obj)) ++ [] from hp) (by simp)⟩
  have loop:codeAny (model X.prog X.w) X.A (.compLoop (.ListComp elt [⟨tg,iter,ifs,0⟩] scope pos) 0 (.ref it) (.ref D) ce) (compPost (model X.prog X.w) X.A X.xe use Qf (.ref D) s3.heap.objs.size) s4:=by
    refine compLoop_any (fun n s'=>∃ i H',Inv (X.blk s3 H3 scope ce fp) [] (wipe σ (own.map (·.2))) H' s'∧tn i s'.heap∧(∀ b∈fp,H' b = none)∧W i n H') ?_ m0 ⟨0,H3,I4,st4,nfp,w0⟩
    rintro n s5 ⟨i,H5,I5,st5,n5,w5⟩
    rcases turn i n H5 w5 with ⟨stop,qq⟩ | ⟨go,Nx,hNx,step⟩
    · have td:=T.done (X.blk s3 H3 scope ce fp) rfl rfl rfl hc i [] s5 _ H5 (fun _ _=>False) I5 (stat I5 n5) st5 stop
      refine thnF td fun r s6 ⟨hr,I6⟩=>?_
      subst hr
      have I7:Inv X pins σ H5 s6:=I3.call' (ch:=fp) I6.os I6.base I6.hok I6.bare fun b hb=>⟨(f3 b hb).1.2.2.2.1,(f3 b hb).1.2.1,(f3 b hb).1.2.2.2.2.1,(f3 b hb).1.2.2.2.2.2⟩
      have nC:H5 s3.heap.objs.size = none:=by
        have z:H5 ce.locals = none:=I6.free
        rw [cL] at z
        exact z
      obtain ⟨m,hn,_⟩:=I6.loc
      have hn:s6.heap.Ns ce.locals m:=hn
      rw [cL] at hn
      exact hRR D s3.heap.objs.size s6 m H5 I7 qq hn (I3.fpOk (Nat.le_refl _) nC)
    · have ti:=T.item (X.blk s3 H3 scope ce fp) rfl rfl rfl hc i [] s5 _ H5 (fun _ _=>False) I5 (stat I5 n5) st5 go
      refine thnF ti fun r s6 ⟨u,hr,h6⟩=>?_
      subst hr
      refine thnF h6 fun _ s7 ⟨x,H7,I7,r7,y7,st7,n7⟩=>?_
      have I7':=I7.pinned (stat I7 n7) (T.obj _ _ st7)
      refine thnF (pg _ s7 _ H7 x u _ I7' r7 (step x H7 y7)) fun _ s8 ⟨σ8,H8,I8,hw8,q8⟩=>?_
      refine thnF (pt _ s8 σ8 H8 _ I8 q8) fun b s9 ⟨H9,I9,q9⟩=>?_
      have fin:∀ {s':Shared} {H':Hp},Inv (X.blk s3 H3 scope ce fp) ([] ++ pinsAt fp s7.heap) σ8 H' s'→Nx H'→∃ m,m < n∧∃ i H',Inv (X.blk s3 H3 scope ce fp) [] (wipe σ (own.map (·.2))) H' s'∧tn i s'.heap∧(∀ b∈fp,H' b = none)∧W i m H':=fun {s' H'} I' nx=>by
        obtain ⟨m',hm,w'⟩:=hNx H' nx
        have pin':∀ b∈fp,∀ o,s7.heap.get? b = some o→s'.heap.get? b = some o∧H' b = none:=fun b hb o e =>
          let z:=I'.pin (b,o) (List.mem_append_right _ (List.mem_append_right _ (mem_pinsAt hb e)))
          ⟨z.1,z.2.1⟩
        have hl:(wipe σ (own.map (·.2))).length = σ8.length:=by rw [← hw8,wipe_length]
        refine ⟨m',hm,i + 1,H',(I'.unpinned (pins:=[])).weak hl (fun j v e=>?_),T.keep _ _ _ st7 fun b hb o e=>(pin' b hb o e).1,fun b hb=>?_,w'⟩
        · rw [← hw8] at e
          exact (wipe_some e).1
        · obtain ⟨o,e,_⟩:=T.obj _ _ st7 b hb
          exact (pin' b hb o e).2
      cases b with
      | false =>
        simp only [Bool.false_eq_true,if_false] at q9 ⊢
        exact fin I9 q9
      | true =>
        simp only [if_true] at q9 ⊢
        refine thnF (pe _ s9 σ8 H9 _ I9 q9) fun z s10 ⟨yv,H10,I10,r10,acc,hD10,hz10,nx⟩=>?_
        exact app_ok (X:=X.blk s3 H3 scope ce fp) I10 hD10 hz10 r10 fun s11 I11=>fin I11 nx
  exact codeAny_compStart_list loop (T.self X.A 0 _ _ _ st4 loop)
theorem pe_lc {elt tg iter:Expr} {ifs:List Expr} {scope:Scope} {own:List (Str × Nat)} {pos:Pos} {wi:TI} {g:TG} {tt:TT} {te:TE} (hc:X.calm = true) (hN:X.N.Nodup) (hi:PI X tg iter wi) (ok:BlkOk X.N X.env.scope scope own)
    (hg:∀ (s:Shared) (H:Hp) (C:Addr) (cl:List (Str × Addr)) (fp:List Addr),PG (X.blk s H scope (compEnvC scope cl C X.env) fp) tg g) (ht:∀ (s:Shared) (H:Hp) (C:Addr) (cl:List (Str × Addr)) (fp:List Addr),PTs (X.blk s H scope (compEnvC scope cl C X.env) fp) ifs tt)
    (he:∀ (s:Shared) (H:Hp) (C:Addr) (cl:List (Str × Addr)) (fp:List Addr),PE (X.blk s H scope (compEnvC scope cl C X.env) fp) elt te) (hs:∀ x,foldedSetIterable iter X.env x = pure x:=by intro _;rfl) :
    PE X (.ListComp elt [⟨tg,iter,ifs,0⟩] scope pos) (tLc wi g tt te (own.map (·.2))):=by
  intro pins s σ H Q I h
  rw [eval_ListComp]
  refine lc_core hc hN I hi ok hg ht he hs h fun D C s' m H' I' q hn f=>⟨m,hn,fun h'' sb=>?_⟩
  obtain ⟨f0,f1,f2,f3,f4,f5⟩:=f
  exact ⟨.ref D,H',I'.turned (t':=s'.toks) (fun b o hb e=>(sb.2 b hb).trans e) f0 f1 f3 f4 f5,rfl,q⟩
theorem ps_setLc {i:Nat} {y:Str} {py:Pos} {elt tg iter:Expr} {ifs:List Expr} {scope:Scope} {own:List (Str × Nat)} {pos spos:Pos} {wi:TI} {g:TG} {tt:TT} {te:TE} (hc:X.calm = true) (hN:X.N.Nodup) (hy:X.N[i]? = some y) (hyl:X.env.scope.names.lookup y = some .local)
    (hsw:swapsWith (.ListComp elt [⟨tg,iter,ifs,0⟩] scope pos) (some (.Name y py)) spos.line X.env = pure true) (hi:PI X tg iter wi) (ok:BlkOk X.N X.env.scope scope own)
    (hg:∀ (s:Shared) (H:Hp) (C:Addr) (cl:List (Str × Addr)) (fp:List Addr),PG (X.blk s H scope (compEnvC scope cl C X.env) fp) tg g) (ht:∀ (s:Shared) (H:Hp) (C:Addr) (cl:List (Str × Addr)) (fp:List Addr),PTs (X.blk s H scope (compEnvC scope cl C X.env) fp) ifs tt)
    (he:∀ (s:Shared) (H:Hp) (C:Addr) (cl:List (Str × Addr)) (fp:List Addr),PE (X.blk s H scope (compEnvC scope cl C X.env) fp) elt te) (hs:∀ x,foldedSetIterable iter X.env x = pure x:=by intro _;rfl) :
    PS X (.Assign [.Name y py] (.ListComp elt [⟨tg,iter,ifs,0⟩] scope pos) spos) (tAsg (tLc wi g tt te (own.map (·.2))) (gName i)):=by
  intro pins s σ H D I h
  rw [exec_Assign_Name_used _ _ _ _ hsw]
  refine wpAny_bind (wpAny_standAt (wpAny_bind ?_))
  show wpAny _ X.A (do let _ ← comprehension (.ListComp elt [⟨tg,iter,ifs,0⟩] scope pos) scope X.env (firstIterPos [⟨tg,iter,ifs,0⟩] pos) (newList []) false (eval iter X.env) (some (assign (.Name y py) X.env))) _ _ s
  have h:tLc wi g tt te (own.map (·.2)) σ H (fun x H1=>gName i x σ H1 D.nx):=h
  refine wpAny_bind (thn (lc_core (Qf:=fun _ s'=>SP X pins D .next s') hc hN I hi ok hg ht he hs h fun L C s' m H' I' q hn f=>?_) fun _ s' hq=>wpAny_pure (wpAny_pure hq))
  show wpAny _ _ (assign (.Name y py) X.env (.ref L)) _ _ _
  refine wpAny_assign_Name (store_ok2 (v:=V.ref L) I' hN hy (.inl hyl) rfl (fun s2 I2 ⟨a,sb,ha⟩=>?_) (.inr hyl))
  obtain ⟨f0,f1,f2,f3,f4,f5⟩:=f
  have haC:C≠a:=by
    rcases ha with z | z
    · rw [z];exact f1
    · exact fun e=>f4 y a z e.symm
  refine ⟨m,hn.sameBut sb haC,fun h3 sb3=>?_⟩
  exact ⟨_,H',I2.turned (t':=s2.toks) (fun b o hb e=>(sb3.2 b hb).trans e) f0 f1 f3 f4 f5,q⟩
theorem sw_true {elt:Expr} {gs:List Comprehension} {scope:Scope} {pos py:Pos} {y:Str} {l:Nat} {env:Env} (hk:env.scope.kind = .function) (hy:env.scope.names.lookup y = some .local) (hl:(py.line == pos.line) = true)
    (ha:(scope.names.any fun (n,k)=>n == y && (k == .local || k == .cell)) = false):swapsWith (.ListComp elt gs scope pos) (some (.Name y py)) l env = pure true:=by
  have ky:env.kindOf y = some .local:=hy
  have hb:env.blockKind = .function:=by unfold Env.blockKind;rw [hk];rfl
  unfold swapsWith
  simp only [hb,ky,ha,Expr.pos,hl]
  rfl
end
theorem lc_range {lo:Int} {n:Nat} {g:TG} {tt:TT} {te:TE} {vs:List Nat} {σ:St} {H1:Hp} {D:Addr} {Qd:Hp→Prop} (Pv:Nat→Hp→Prop) (h0:Pv 0 (upd H1 D (.lst [])))
    (hs:∀ i H,i < n→Pv i H→g (.int (lo + i)) (wipe σ vs) H fun σ2 H2=>wipe σ2 vs = wipe σ vs∧tt σ2 H2 fun b H3 =>
      if b = true then te σ2 H3 fun y H4=>∃ acc,H4 D = some (.lst acc)∧acc.length < sizeLine∧Pv (i + 1) (upd H4 D (.lst (acc ++ [y]))) else Pv (i + 1) H3) (hd:∀ H,Pv n H→Qd H) :
    ∃ W:Nat→Nat→Hp→Prop,(∃ m,W 0 m (upd H1 D (.lst [])))∧∀ i m H,W i m H →
      ((Itr lo n).stop i H∧Qd H)∨((Itr lo n).go i H∧∃ Nx:Hp→Prop,(∀ H',Nx H'→∃ m',m' < m∧W (i + 1) m' H')∧∀ x H',(Itr lo n).yld i H x H'→g x (wipe σ vs) H' fun σ2 H2=>wipe σ2 vs = wipe σ vs∧tt σ2 H2 fun b H3 =>
        if b = true then te σ2 H3 fun y H4=>∃ acc,H4 D = some (.lst acc)∧acc.length < sizeLine∧Nx (upd H4 D (.lst (acc ++ [y]))) else Nx H3):=by
  refine ⟨fun i m H=>m = n - i∧i≤n∧Pv i H,⟨n,by simp,Nat.zero_le _,h0⟩,?_⟩
  rintro i m H ⟨rfl,hi,p⟩
  by_cases hlt:i < n
  · refine .inr ⟨hlt,Pv (i + 1),fun H' p'=>⟨n - (i + 1),by omega,rfl,hlt,p'⟩,fun x H' y=>?_⟩
    obtain ⟨e,y⟩:=y
    subst e y
    exact hs i _ hlt p
  · have e:i = n:=by omega
    subst e
    exact .inl ⟨Nat.le_refl _,hd H p⟩
theorem lc_list {K:PySem.W.Frag} {a:Addr} {xs:List V} {g:TG} {tt:TT} {te:TE} {vs:List Nat} {σ:St} {H1:Hp} {D:Addr} {Qd:Hp→Prop} (Pv:Nat→Hp→Prop) (h0:Pv 0 (upd H1 D (.lst []))) (hl:∀ i H,i≤xs.length→Pv i H→SqL K H a xs)
    (hs:∀ i x H,xs[i]? = some x→Pv i H→g x (wipe σ vs) H fun σ2 H2=>wipe σ2 vs = wipe σ vs∧tt σ2 H2 fun b H3 =>
      if b = true then te σ2 H3 fun y H4=>∃ acc,H4 D = some (.lst acc)∧acc.length < sizeLine∧Pv (i + 1) (upd H4 D (.lst (acc ++ [y]))) else Pv (i + 1) H3) (hd:∀ H,Pv xs.length H→Qd H) :
    ∃ W:Nat→Nat→Hp→Prop,(∃ m,W 0 m (upd H1 D (.lst [])))∧∀ i m H,W i m H →
      ((Itl K a).stop i H∧Qd H)∨((Itl K a).go i H∧∃ Nx:Hp→Prop,(∀ H',Nx H'→∃ m',m' < m∧W (i + 1) m' H')∧∀ x H',(Itl K a).yld i H x H'→g x (wipe σ vs) H' fun σ2 H2=>wipe σ2 vs = wipe σ vs∧tt σ2 H2 fun b H3 =>
        if b = true then te σ2 H3 fun y H4=>∃ acc,H4 D = some (.lst acc)∧acc.length < sizeLine∧Nx (upd H4 D (.lst (acc ++ [y]))) else Nx H3):=by
  refine ⟨fun i m H=>m = xs.length - i∧i≤xs.length∧Pv i H,⟨xs.length,by simp,Nat.zero_le _,h0⟩,?_⟩
  rintro i m H ⟨rfl,hi,p⟩
  have q:=hl i H hi p
  by_cases hlt:i < xs.length
  · refine .inr ⟨⟨xs,xs[i],q,by simp [hlt]⟩,Pv (i + 1),fun H' p'=>⟨xs.length - (i + 1),by omega,rfl,hlt,p'⟩,fun x H' y=>?_⟩
    obtain ⟨e,y⟩:=y
    subst e
    exact hs i x _ (y xs q) p
  · have e:i = xs.length:=by omega
    subst e
    exact .inl ⟨⟨xs,q,Nat.le_refl _⟩,hd H p⟩
theorem lc_tup {K:PySem.W.Frag} {a:Addr} {xs:List V} {g:TG} {tt:TT} {te:TE} {vs:List Nat} {σ:St} {H1:Hp} {D:Addr} {Qd:Hp→Prop} (Pv:Nat→Hp→Prop) (h0:Pv 0 (upd H1 D (.lst []))) (hl:∀ i H,i≤xs.length→Pv i H→SqT K H a xs)
    (hs:∀ i x H,xs[i]? = some x→Pv i H→g x (wipe σ vs) H fun σ2 H2=>wipe σ2 vs = wipe σ vs∧tt σ2 H2 fun b H3 =>
      if b = true then te σ2 H3 fun y H4=>∃ acc,H4 D = some (.lst acc)∧acc.length < sizeLine∧Pv (i + 1) (upd H4 D (.lst (acc ++ [y]))) else Pv (i + 1) H3) (hd:∀ H,Pv xs.length H→Qd H) :
    ∃ W:Nat→Nat→Hp→Prop,(∃ m,W 0 m (upd H1 D (.lst [])))∧∀ i m H,W i m H →
      ((Itt K a).stop i H∧Qd H)∨((Itt K a).go i H∧∃ Nx:Hp→Prop,(∀ H',Nx H'→∃ m',m' < m∧W (i + 1) m' H')∧∀ x H',(Itt K a).yld i H x H'→g x (wipe σ vs) H' fun σ2 H2=>wipe σ2 vs = wipe σ vs∧tt σ2 H2 fun b H3 =>
        if b = true then te σ2 H3 fun y H4=>∃ acc,H4 D = some (.lst acc)∧acc.length < sizeLine∧Nx (upd H4 D (.lst (acc ++ [y]))) else Nx H3):=by
  refine ⟨fun i m H=>m = xs.length - i∧i≤xs.length∧Pv i H,⟨xs.length,by simp,Nat.zero_le _,h0⟩,?_⟩
  rintro i m H ⟨rfl,hi,p⟩
  have q:=hl i H hi p
  by_cases hlt:i < xs.length
  · refine .inr ⟨⟨xs,xs[i],q,by simp [hlt]⟩,Pv (i + 1),fun H' p'=>⟨xs.length - (i + 1),by omega,rfl,hlt,p'⟩,fun x H' y=>?_⟩
    obtain ⟨e,y⟩:=y
    subst e
    exact hs i x _ (y xs q) p
  · have e:i = xs.length:=by omega
    subst e
    exact .inl ⟨⟨xs,q,Nat.le_refl _⟩,hd H p⟩
noncomputable def blkC (N:List Str) (sc scope:Scope) (own:List (Str × Nat)):Bool :=
  (match scope.kind with | .function=>true | _=>false) && (scope.names.all fun y=>decide (scope.names.lookup y.1 = some y.2)) && (own.all fun p=>decide (N[p.2]? = some p.1)) &&
    (scope.names.all fun y=>match y.2 with
      | .free=>(match sc.names.lookup y.1 with | some .cell=>true | some .free=>true | _=>false)
      | .local=>decide (y.1∈own.map (·.1)) || decide (y.1 ∉ N)
      | .cell=>decide (y.1∈own.map (·.1)) || decide (y.1 ∉ N)
      | _=>true)
theorem blkOk_by {N:List Str} {sc scope:Scope} {own:List (Str × Nat)} (h:blkC N sc scope own = true):BlkOk N sc scope own:=by
  unfold blkC at h
  simp only [Bool.and_eq_true,List.all_eq_true,decide_eq_true_eq] at h
  obtain ⟨⟨⟨h1,h2⟩,h3⟩,h4⟩:=h
  refine ⟨?_,h2,h3,fun y hy e=>?_,fun y hy e=>?_⟩
  · split at h1
    · assumption
    · cases h1
  · have q:=h4 y hy
    simp only [e] at q
    split at q <;> first | exact .inl (by assumption) | exact .inr (by assumption) | cases q
  · have q:=h4 y hy
    rcases e with e | e <;> (simp only [e,Bool.or_eq_true,decide_eq_true_eq] at q;exact q)
end L2
namespace L2
open PySem PySem.Spec PyProof.Rows
theorem kV_is {P:Program} {w:World} {k:Key} {u:Value} (r:RelV (kV k) u):(mixKind P w).is k u = true:=by
  cases k with
  | inl i=>obtain ⟨t,e⟩:=(show ∃ t,u = Value.int i t from r);subst e;exact mixKind_int P w i t
  | inr x=>obtain ⟨t,e⟩:=(show ∃ t,u = Value.str x t from r);subst e;exact mixKind_str P w x t
theorem items_are {P:Program} {w:World}:∀ {ks:List Key} {us:List Value},Vals (ks.map kV) us→ItemsAre (mixKind P w) ks us
  | [],_,r=>by rw [List.map_nil] at r;cases r;exact .nil
  | k :: ks,_,r=>by
    rw [List.map_cons] at r
    cases r with
    | cons h t=>exact .cons (kV_is h) (items_are t)
section
variable {P:Program} {w:World} {H:Hp} {h:Heap} {a:Addr}
theorem key_of {ks:List Key} (ok:HOk P w H h) (e:H a = some (.tup (ks.map kV))):(tupleKind (mixKind P w)).is h ks a:=by
  obtain ⟨_,its,r,o,h1,h2,n,h3⟩:=(show ObjOk P w H h a (.tup (ks.map kV)) from ok a _ e)
  exact ⟨o,its.toArray,n,h1,h2,h3,by simpa using items_are r⟩
end
section
variable {X:Cx} {pins:List (Addr × Obj)} {σ:St} {H:Hp} {s:Shared} {a:Addr} {y v:V} {u r:Value} {o:Option V} {A:Around} {E:Value→Shared→Prop}
theorem Inv.big (I:Inv X pins σ H s):sysModules < s.heap.objs.size:=by
  have h:mainGlobals < s.heap.objs.size:=(I.mod.glob.keeps I.bk).lt
  exact Nat.lt_trans (by decide) h
theorem d_write {h':Heap} {t':Nat} {ob:HO} (I:Inv X pins σ H s) (mu:Mut (H a)) (hs:Heap.SameBut a s.heap h') (he:∃ q,h'.get? a = some q) (new:ObjOk X.prog X.w (upd H a ob) h' a ob) :
    Inv X pins σ (upd H a ob) { s with heap:=h',toks:=t' } :=
  I.write (x:=a) (e:=a) mu (.inl rfl) (fun b q hb z=>(hs.2 b hb).trans z) he new
end
end L2
namespace L2
open PySem PySem.Spec PyProof.Rows
section
variable {X:Cx}
theorem refs_at:∀ {ps:List Addr} {us:List Value},Vals (ps.map V.ref) us→us = ps.map Value.ref
  | [],us,r=>by
    rw [List.map_nil] at r
    cases r
    rfl
  | p :: ps,us,r=>by
    rw [List.map_cons] at r
    cases r with
    | cons h t =>
      cases h
      rw [List.map_cons,← refs_at t]
end
end L2
namespace L2
open PySem PySem.Spec PyProof.Rows
section
variable {X:Cx} {pins:List (Addr × Obj)} {σ:St} {H:Hp} {s:Shared} {h':Heap}
theorem Inv.turnedL {t':Nat} {ch:List Addr} (I:Inv X pins σ H s) (k:∀ b o,b ∉ ch→s.heap.get? b = some o→h'.get? b = some o) (hf:∀ b∈ch,FpOk X pins H b):Inv X pins σ H { s with heap:=h',toks:=t' }:=by
  have nit:∀ b u,H b = some u→b ∉ ch:=fun b u e z=>by
    have q:=(hf b z).1
    rw [q] at e;cases e
  refine I.step (g':=s.gens) (d':=s.drawn) (ch:=ch) (fun b hb=>⟨(hf b hb).2.2.2.1,(hf b hb).2.1,(hf b hb).2.2.2.2.1,(hf b hb).2.2.2.2.2⟩) (fun b o _ _ hc e _=>k b o hc e) (fun b o _ _ hc e _=>⟨o.slots,k b o hc e⟩)
    (fun _ _ _ _ n=>n) (fun b o hc e=>⟨o,k b o hc e⟩) (fun _ _ e=>e) (fun _ _ _ e=>e) (fun b ps e=>⟨#[],by rw [e];simp⟩) (fun m hm=>?_) (fun b u e=>?_) I.bare
  · obtain ⟨o,es,ep,ho,r⟩:=hm
    exact ⟨o,es,ep,k _ o (fun z=>(hf _ z).2.1 rfl) ho,r⟩
  · refine (I.hok b u e).stay (fun c v hc q=>k c v ?_ q) (fun _ q=>q) fun _ _ q=>q
    rcases hc with z | z
    · rw [z];exact nit b u e
    · exact nit c _ z
theorem Inv.turnedNew {t':Nat} {ch:List Addr} {T:Addr} {ob:HO} (I:Inv X pins σ H s) (k:∀ b o,b ∉ ch→s.heap.get? b = some o→h'.get? b = some o) (hf:∀ b∈ch,FpOk X pins H b) (hT:s.heap.objs.size≤T)
    (new:ObjOk X.prog X.w (upd H T ob) h' T ob):Inv X pins σ (upd H T ob) { s with heap:=h',toks:=t' }:=by
  have hn:H T = none:=I.hok.fresh hT
  have nit:∀ b u,H b = some u→b ∉ ch:=fun b u e z=>by
    have q:=(hf b z).1
    rw [q] at e;cases e
  refine I.step (g':=s.gens) (d':=s.drawn) (ch:=ch) (fun b hb=>⟨(hf b hb).2.2.2.1,(hf b hb).2.1,(hf b hb).2.2.2.2.1,(hf b hb).2.2.2.2.2⟩) (fun b o _ _ hc e _=>k b o hc e) (fun b o _ _ hc e _=>⟨o.slots,k b o hc e⟩)
    (fun b o _ e n=>?_) (fun b o hc e=>⟨o,k b o hc e⟩) (fun b xs e=>?_) (fun b o u e=>?_) (fun b ps e=>⟨#[],?_⟩) (fun m hm=>?_) (fun b u e=>?_) I.bare
  · rw [upd_ne (Nat.ne_of_lt (Nat.lt_of_lt_of_le (Heap.lt_size e) hT))];exact n
  · rw [upd_ne (ne_of_none e hn)];exact e
  · rw [upd_ne (ne_of_none e hn)];exact e
  · rw [upd_ne (ne_of_none e hn),e];simp
  · obtain ⟨o,es,ep,ho,r⟩:=hm
    exact ⟨o,es,ep,k _ o (fun z=>(hf _ z).2.1 rfl) ho,r⟩
  · by_cases hb:b = T
    · subst hb
      rw [upd_same] at e
      cases e
      exact new
    · rw [upd_ne hb] at e
      refine (I.hok b u e).stay (fun c v hc q=>k c v ?_ q) (fun c q=>by rw [upd_ne (ne_of_none q hn)];exact q) fun c xs q=>by rw [upd_ne (ne_of_none q hn)];exact q
      rcases hc with z | z
      · rw [z];exact nit b u e
      · exact nit c _ z
end
section
variable {prog:Program} {w:World} {A:Around} {E:Value→Shared→Prop} {s:Shared}
theorem iter_keys {d:Addr} {o:Obj} {es:Array DictEntry} {ep:Nat} {Q:Value→Shared→Prop} (hd:(d == sysModules) = false) (ho:s.heap.get? d = some o) (hc:o.ExactDict) (hdat:o.data = .dict es ep)
    (hQ:Q (.ref s.heap.objs.size) { s with heap:=s.heap.push { cls:=.type "dict_keyiterator",data:=.fields #[.ref d,.int 0 0,.int es.size 0,.int ep 0] } }) :
    wpAny (model prog w) A (pyIter (.ref d)) Q E s:=by
  have hT:s.TypeIs (.ref d) "dict":=⟨o,ho,hc.1⟩
  refine wpAny_pyIter_slot hT F.slot_dict_iter (wpAny_call_entry F.slot_dict_iter hT F.entry_dict_iter ?_ (F.args_dict_iter_1 _))
  unfold Builtin.«dict.__iter__»
  refine wpAny_bind ?_
  unfold Builtin.Dict.dictSlotNone
  refine wpAny_bind (wpAny_notOrdered_dict hT ?_)
  show wpAny _ _ (pure (Value.ref d)) _ _ s
  refine wpAny_pure ?_
  show wpAny _ _ (Builtin.Dict.showsAll d >>= _) _ _ s
  unfold Builtin.Dict.showsAll
  rw [if_neg (by rw [hd];exact Bool.false_ne_true)]
  refine wpAny_bind (wpAny_pure ?_)
  refine wpAny_bind (wpAny_dictEntries ho hdat ?_)
  refine wpAny_bind (wpAny_dictEpoch ho hdat ?_)
  refine wpAny_bind (wpAny_newObj_type (wpAny_pure ⟨_,rfl,"dict_keyiterator",_,⟨_,Heap.get?_push_size _ rfl,rfl⟩,F.slot_dict_keyiterator_next.lookup,?_⟩))
  simpa [rawInt] using hQ
theorem next_key_item {it d:Addr} {i n ep:Nat} {od:Obj} {es:Array DictEntry} {en:DictEntry} {Q:Option Value→Shared→Prop} (hit:s.heap.IsKeyIter it d i n ep) (hod:s.heap.get? d = some od) (hdd:od.data = .dict es ep)
    (hsz:es.size = n) (hx:es[i]? = some en) (hQ:∀ h',h'.IsKeyIter it d (i + 1) n ep→Heap.SameBut it s.heap h'→Q (some en.key) { s with heap:=h' }):wpAny (model prog w) A (pyNext (.ref it)) Q E s:=by
  obtain ⟨o,ho,hc,hd⟩:=id hit
  unfold pyNext
  refine wpAny_bind (wpAny_attempt (wpAny_callSpecial?_slot (name:=Str.ofString "__next__") hit.typeIs F.slot_dict_keyiterator_next
    (wpAny_call_entry F.slot_dict_keyiterator_next hit.typeIs F.entry_dict_keyiterator_next ?_ (F.args_dict_keyiterator_next_1 _))))
  refine wpAny_bind (wpAny_pure ?_)
  refine wpAny_bind ?_
  refine wpAny_bind ?_
  first | refine wpAny_bind (wpAny_typeNameOfWhole_keyiter hit.typeIs (wpAny_pure ?_)) | refine wpAny_bind (wpAny_typeNameOf_keyiter hit.typeIs (wpAny_pure ?_))
  refine wpAny_bind (wpAny_fieldsOf ho hd ?_)
  have hown:Builtin.Dict_items.ownsTuple "dict_keyiterator" = false:=by decide
  simp only [hown,Bool.false_eq_true,if_false]
  show wpAny _ _ (if (Value.ref d == Value.none) = true then _ else _) _ _ s
  rw [if_neg (show ¬ ((Value.ref d == Value.none) = true) from Bool.false_ne_true)]
  refine wpAny_bind (wpAny_pure ?_)
  refine wpAny_bind (wpAny_dictEntries hod hdd ?_)
  rw [if_neg (by rw [hsz];simp)]
  refine wpAny_bind (wpAny_pure ?_)
  refine wpAny_bind (wpAny_dictEpoch hod hdd ?_)
  rw [if_neg (by simp)]
  refine wpAny_pure ?_
  obtain ⟨hlt',hen⟩:=Array.getElem?_eq_some_iff.mp hx
  simp only [show ¬ ((i:Int) < 0) from by omega,if_false,Int.toNat_natCast,Array.getElem?_eq_getElem hlt']
  refine wpAny_bind ?_
  first | refine wpAny_bind (wpAny_typeNameOfWhole_keyiter hit.typeIs (wpAny_pure ?_)) | refine wpAny_bind (wpAny_typeNameOf_keyiter hit.typeIs (wpAny_pure ?_))
  refine wpAny_bind (wpAny_isOneOf_keyiter hit.typeIs ?_)
  show wpAny _ _ (setField (.ref it) 1 (rawInt ((i:Int) + 1)) >>= _) _ _ s
  refine wpAny_bind (wpAny_setField ho hd (by simp) ?_)
  have hit':(s.heap.update it (Obj.mapFields (·.setIfInBounds 1 (rawInt ((i:Int) + 1))))).IsKeyIter it d (i + 1) n ep :=
    ⟨_,Heap.get?_update_self _ ho (Obj.isFreed_of_fields (Obj.data_mapFields hd _)),(Obj.cls_mapFields ..).trans hc,by rw [Obj.data_mapFields hd];simp [rawInt]⟩
  refine wpAny_bind (wpAny_holding ?_)
  refine wpAny_bind (wpAny_isOneOf_keyiter (s:={ s with heap:=s.heap.update it (Obj.mapFields (·.setIfInBounds 1 (rawInt ((i:Int) + 1)))) }) hit'.typeIs ?_)
  show wpAny _ _ (pure es[i].key) _ _ _
  rw [hen]
  exact wpAny_pure (wpAny_pure ⟨_,rfl,wpAny_pure (hQ _ hit' (Heap.SameBut.update ..))⟩)
theorem next_key_end {it d:Addr} {i n ep:Nat} {od:Obj} {es:Array DictEntry} {Q:Option Value→Shared→Prop} (hh:A.handled = none) (hit:s.heap.IsKeyIter it d i n ep) (hod:s.heap.get? d = some od) (hdd:od.data = .dict es ep)
    (hsz:es.size = n) (hge:n≤i) (hQ:∀ h',Heap.ExtBut it s.heap h'→Q none { s with heap:=h' }):wpAny (model prog w) A (pyNext (.ref it)) Q E s:=by
  obtain ⟨o,ho,hc,hd⟩:=id hit
  unfold pyNext
  refine wpAny_bind (wpAny_attempt (wpAny_callSpecial?_slot (name:=Str.ofString "__next__") hit.typeIs F.slot_dict_keyiterator_next
    (wpAny_call_entry F.slot_dict_keyiterator_next hit.typeIs F.entry_dict_keyiterator_next ?_ (F.args_dict_keyiterator_next_1 _))))
  refine wpAny_bind (wpAny_pure ?_)
  refine wpAny_bind ?_
  refine wpAny_bind ?_
  first | refine wpAny_bind (wpAny_typeNameOfWhole_keyiter hit.typeIs (wpAny_pure ?_)) | refine wpAny_bind (wpAny_typeNameOf_keyiter hit.typeIs (wpAny_pure ?_))
  refine wpAny_bind (wpAny_fieldsOf ho hd ?_)
  have hown:Builtin.Dict_items.ownsTuple "dict_keyiterator" = false:=by decide
  simp only [hown,Bool.false_eq_true,if_false]
  show wpAny _ _ (if (Value.ref d == Value.none) = true then _ else _) _ _ s
  rw [if_neg (show ¬ ((Value.ref d == Value.none) = true) from Bool.false_ne_true)]
  refine wpAny_bind (wpAny_pure ?_)
  refine wpAny_bind (wpAny_dictEntries hod hdd ?_)
  rw [if_neg (by rw [hsz];simp)]
  refine wpAny_bind (wpAny_pure ?_)
  refine wpAny_bind (wpAny_dictEpoch hod hdd ?_)
  rw [if_neg (by simp)]
  refine wpAny_pure ?_
  have hge':es.size≤i:=by rw [hsz];exact hge
  simp only [show ¬ ((i:Int) < 0) from by omega,if_false,Int.toNat_natCast,Array.getElem?_eq_none hge']
  refine wpAny_bind ?_
  first | refine wpAny_bind (wpAny_typeNameOfWhole_keyiter hit.typeIs (wpAny_pure ?_)) | refine wpAny_bind (wpAny_typeNameOf_keyiter hit.typeIs (wpAny_pure ?_))
  show wpAny _ _ (setField (.ref it) 0 .none >>= _) _ _ s
  refine wpAny_bind (wpAny_setField ho hd (by simp) ?_)
  show wpAny _ _ (newExc (.type "StopIteration") [] >>= _) _ _ _
  refine wpAny_bind ?_
  simp only [newExc,newTuple]
  refine wpAny_bind (wpAny_newObj_type ?_ (by size_fits))
  refine wpAny_bind (m:=firstArgMember _ _) (wpAny_of_eq (a:=Value.none) (by first | rfl | (simp only [firstArgMember];rfl)) ?_)
  refine wpAny_newObj_type ?_ (by size_fits)
  simp only [raiseNew]
  refine wpAny_bind (wpAny_handled ?_)
  rw [show A.in1.handled = none from hh]
  refine wpAny_bind (wpAny_pure (wpAny_throw ?_))
  refine wpAny_bind (wpAny_isInstance (T:="StopIteration") (b:=true) ⟨_,Heap.get?_push_size _ rfl,rfl⟩ isSubtype_stop ?_)
  exact wpAny_pure (hQ _ (((Heap.SameBut.update ..).extBut.push _).push _))
end
theorem paired_get {α β:Type} {G:α→β→Prop} {l₁:List α} {l₂:List β} (h:Paired G l₁ l₂):∀ {i:Nat} {a:α},l₁[i]? = some a→∃ b,l₂[i]? = some b∧G a b:=by
  induction h with
  | nil=>intro i a e;simp at e
  | @cons a b l₁ l₂ r t ih =>
    intro i a' e
    cases i with
    | zero =>
      simp only [List.getElem?_cons_zero,Option.some.injEq] at e
      subst e
      exact ⟨b,rfl,r⟩
    | succ j =>
      simp only [List.getElem?_cons_succ] at e ⊢
      exact ih e
theorem boot_zip5:bootBuiltins "zip" = some (.type "zip"):=by decide +kernel
def Itz (K:PySem.W.Frag) (a b:Addr):It :=
  ⟨fun i H=>∃ (xs ys:List V) (x y:V),SqL K H a xs∧SqL K H b ys∧xs[i]? = some x∧ys[i]? = some y,
    fun i H v H'=>∃ T x y,v = .ref T∧H T = none∧H' = upd H T (.tup [x,y])∧(∀ xs,SqL K H a xs→xs[i]? = some x)∧∀ ys,SqL K H b ys→ys[i]? = some y,
    fun i H=>∃ xs ys:List V,SqL K H a xs∧SqL K H b ys∧(xs.length≤i∨ys.length≤i)⟩
theorem turn_zip {P:Program} {w:World} {K:PySem.W.Frag} {elts:List Expr} {kk:Nat} {tpos:Pos} {a b z TI TO i1 i2:Addr} (D:ZipApart z TI TO i1 i2 a b) :
    Turn P w K (.Tuple elts kk tpos) (Itz K a b) [z,TI,TO,i1,i2] z (fun i h=>IsZip h z TI TO .none∧IsPair h TI (.ref i1) (.ref i2)∧(∃ x y,IsPair h TO x y)∧h.IsListIter i1 a i∧h.IsListIter i2 b i) where
  mem:=by simp
  obj:=fun i h st c hc=>by
    obtain ⟨hz,hTI,⟨x,y,hTO⟩,⟨o1,e1,_,d1⟩,⟨o2,e2,_,d2⟩⟩:=st
    have e':c = z∨c = TI∨c = TO∨c = i1∨c = i2:=by simpa using hc
    rcases e' with q | q | q | q | q
    · rw [q];exact ⟨_,hz,fun v q=>nomatch q⟩
    · rw [q];exact ⟨_,hTI,fun v q=>nomatch q⟩
    · rw [q];exact ⟨_,hTO,fun v q=>nomatch q⟩
    · rw [q];exact ⟨o1,e1,fun v q=>by rw [d1] at q;cases q⟩
    · rw [q];exact ⟨o2,e2,fun v q=>by rw [d2] at q;cases q⟩
  keep:=fun i h h' st k=>by
    obtain ⟨hz,hTI,⟨x,y,hTO⟩,h1,h2⟩:=st
    exact ⟨k z (by simp) _ hz,k TI (by simp) _ hTI,⟨x,y,k TO (by simp) _ hTO⟩,h1.at fun o q=>k i1 (by simp) o q,h2.at fun o q=>k i2 (by simp) o q⟩
  item:=by
    intro X hP hw hK hc i pins s σ H E I hf st hg
    subst hP hw hK
    obtain ⟨hz,hTI,⟨x0,y0,hTO⟩,h1,h2⟩:=st
    obtain ⟨xs,ys,x,y,hqx,hqy,hx,hy⟩:=hg
    obtain ⟨its,rv,p,_⟩:=I.list hqx
    obtain ⟨its2,rv2,p2,_⟩:=I.list hqy
    obtain ⟨u,hu,ru⟩:=rv.get hx
    obtain ⟨u2,hu2,ru2⟩:=rv2.get hy
    have hzl:z < s.heap.objs.size:=Heap.lt_size hz
    refine wpAny_pyNext_zip_item D hz hTI hTO h1 h2 p.isList p2.isList (x:=u) (y:=u2) (by simpa using hu) (by simpa using hu2) fun h' z' TO' h1' h2' hT hsz hk=>?_
    refine ⟨_,rfl,wpAny_letOwnedTupleGo_zip (s:={ s with heap:=h' }) z' fun h'' z'' sb=>?_⟩
    have hT2:h''.get? s.heap.objs.size = some { cls:=.type "tuple",data:=.seq #[u,u2] }:=(sb.2 _ (Nat.ne_of_gt hzl)).trans hT
    have new:ObjOk X.prog X.w (upd H s.heap.objs.size (.tup [x,y])) h'' s.heap.objs.size (.tup [x,y]) :=
      ⟨by show 2≤sizeLine;decide,[u,u2],.cons ru (.cons ru2 .nil),⟨_,hT2,rfl,_,rfl⟩⟩
    have I1:Inv X pins σ (upd H s.heap.objs.size (.tup [x,y])) { s with heap:=h'' } :=
      I.turnedNew (t':=s.toks) (ch:=[z,TI,TO,i1,i2]) (fun c o hb q=>(sb.2 c (fun q'=>hb (by simp [q']))).trans (hk c o (fun q'=>hb (by simp [q'])) (fun q'=>hb (by simp [q'])) (fun q'=>hb (by simp [q'])) (fun q'=>hb (by simp [q'])) q)) hf (Nat.le_refl _) new
    refine ⟨.ref s.heap.objs.size,_,I1,rfl,⟨_,x,y,rfl,I.hok.fresh (Nat.le_refl _),rfl,fun l hl=>by rw [I.list_inj hl hqx];exact hx,fun l hl=>by rw [I.list_inj hl hqy];exact hy⟩,⟨z'',?_,⟨u,u2,?_⟩,?_,?_⟩,fun c hcm=>?_⟩
    · exact (sb.2 _ D.TIz).trans (hk _ _ D.TIz D.TITO D.TIi1 D.TIi2 hTI)
    · exact (sb.2 _ D.TOz).trans TO'
    · exact h1'.at fun o q=>(sb.2 _ D.i1z).trans q
    · exact h2'.at fun o q=>(sb.2 _ D.i2z).trans q
    · have hlt:c < s.heap.objs.size:=by
        have e':c = z∨c = TI∨c = TO∨c = i1∨c = i2:=by simpa using hcm
        rcases e' with q | q | q | q | q
        · rw [q];exact hzl
        · rw [q];exact Heap.lt_size hTI
        · rw [q];exact Heap.lt_size hTO
        · rw [q];obtain ⟨_,e1,_⟩:=h1;exact Heap.lt_size e1
        · rw [q];obtain ⟨_,e2,_⟩:=h2;exact Heap.lt_size e2
      rw [upd_ne (Nat.ne_of_lt hlt)]
      exact (hf c hcm).1
  done:=by
    intro X hP hw hK hc i pins s σ H E I hf st hg
    subst hP hw hK
    obtain ⟨hz,hTI,⟨x0,y0,hTO⟩,h1,h2⟩:=st
    obtain ⟨xs,ys,hqx,hqy,hend⟩:=hg
    obtain ⟨its,rv,p,_⟩:=I.list hqx
    obtain ⟨its2,rv2,p2,_⟩:=I.list hqy
    have l1:=rv.length
    have l2:=rv2.length
    have he:its.toArray[i]? = none∨its2.toArray[i]? = none:=by
      rcases hend with q | q
      · exact .inl (by simp;omega)
      · exact .inr (by simp;omega)
    exact wpAny_pyNext_zip_end (I.ok.hd hc) D hz hTI hTO h1 h2 p.isList p2.isList he fun h' hk=>⟨rfl,I.turnedL (t':=s.toks) (ch:=[z,TI,TO,i1,i2]) (fun c o hb q =>
      hk c o (fun q'=>hb (by simp [q'])) (fun q'=>hb (by simp [q'])) (fun q'=>hb (by simp [q'])) (fun q'=>hb (by simp [q'])) q) hf⟩
  self:=fun A i s Q E st h=>wpAny_pyIter_zip st.1 h
def iZip (K:PySem.W.Frag) (ta:TA):TI:=fun σ H R=>ta σ H fun vs H1=>∃ a b xs ys,vs = [.ref a,.ref b]∧SqL K H1 a xs∧SqL K H1 b ys∧R (Itz K a b) H1
theorem pi_zip {X:Cx} {e e2:Expr} {ta:TA} {p pos tpos:Pos} {elts:List Expr} {kk:Nat} (hg:Gl X "zip") (hm:X.mg "zip" = none) (ha:PA X [e,e2] ta)
    (hs:starEach [e,e2] X.env = (false,eval e X.env) :: starEach [e2] X.env:=by rfl) (hpl:(backTo pos (starEach [e2] X.env)).any (·.1) = false:=by rfl) :
    PI X (.Tuple elts kk tpos) (.Call (.Name "zip" p) [e,e2] [] pos) (iZip X.K ta):=by
  intro pins s σ H R I h
  refine Call_ (ld_blt I hg hm boot_zip5 (PyProof.Rows.callWith_type1 (thn (ha pos pins s σ H _ I h) fun us s1 ⟨vs,H1,I1,r1,q1⟩=>?_) hs hpl))
  obtain ⟨a,b,xs,ys,ex,hqx,hqy,q⟩:=q1
  subst ex
  cases r1 with
  | cons r rr =>
    cases rr with
    | cons r' rr =>
      cases rr
      cases r
      cases r'
      obtain ⟨its,rv,p1,_⟩:=I1.list hqx
      obtain ⟨its2,rv2,p2,_⟩:=I1.list hqy
      have la:a < s1.heap.objs.size:=p1.lt
      have lb:b < s1.heap.objs.size:=p2.lt
      refine call_zip_2 p1.isList p2.isList fun h' hz hTI hTO h1 h2 hsz hk=>wpAny_pyIter_zip hz ?_
      have I2:Inv X pins σ H1 { s1 with heap:=h' }:=I1.kept (t':=s1.toks) hk
      refine ⟨s1.heap.objs.size + 4,[s1.heap.objs.size + 4,s1.heap.objs.size + 2,s1.heap.objs.size + 3,s1.heap.objs.size,s1.heap.objs.size + 1],_,_,H1,rfl,I2,turn_zip (PySem.W.ktu_apart s1.heap.objs.size a b la lb),⟨hz,hTI,⟨_,_,hTO⟩,h1,h2⟩,fun c hcm=>?_,q⟩
      have e':c = s1.heap.objs.size + 4∨c = s1.heap.objs.size + 2∨c = s1.heap.objs.size + 3∨c = s1.heap.objs.size∨c = s1.heap.objs.size + 1:=by simpa using hcm
      have hle:s1.heap.objs.size≤c:=by
        rcases e' with z | z | z | z | z
        · rw [z];exact Nat.le_add_right _ _
        · rw [z];exact Nat.le_add_right _ _
        · rw [z];exact Nat.le_add_right _ _
        · rw [z];exact Nat.le_refl _
        · rw [z];exact Nat.le_add_right _ _
      exact I1.fpOk hle (I1.hok.fresh hle)
end L2
section 
end 
section 
end 
/- THE LAST THEOREM (shape;LID,My.* are yours):
   My.Adr: a structure of the addresses that your layer names (classes,functions);My.Txt K t: a structure (Prop) of the equations over K;
   My.txt_mk:{K} {implicit addresses ..} (e1:nsIn K mainGlobals "law" = some (some (.ref f))) (e2:K.lookup f = some ⟨oc,od,.func (fnOf "law" "law" params body scope dV kV doc pm an cdv ct),sl⟩) (e3:codeIn K cdv "law" = true) ..:∃ t,My.Txt K t
set_option maxRecDepth 100000 in
set_option maxHeartbeats 0 in
theorem PySem.Challenge.cw_LID_holds:PySem.Challenge.rw_LID.Holds:=by
  w_on;o_law;k_head;(case hw=>w_witness2)
  k_fill
  refine L2.walk_of (l:=PySem.Challenge.rw_LID) (n:=63) (k:=40) (x:="script") (CX:=fun w=>..) (sp:=fun _=>My.sp_law) rfl (by decide) rfl ⟨rfl,by decide,by decide⟩ (fun w h Y=>PySem.W.kIn_of Y) ?F ?S ?C
  case F =>
    intro w mg fa h KX G hmg
    have T:∃ t,My.Txt (L2.KOf KX) t:=by
      dsimp only [L2.KOf]                          -- K must stand as «<heap const> w.params» for k_is
      refine' My.txt_mk ?e1 ?e2 ?e3 ..
      (case e1=>PySem.W.k_is)                    -- in the order: a name -> its address -> its object -> its parts
      (case e2=>PySem.W.k_is)
      ..
    obtain ⟨t,T⟩:=T
    have e0:=hmg.symm.trans (PySem.W.mg_of KX G T.law)
    cases e0                                       -- fa is the law's own address
    exact ⟨_,fun s u=>.of_eq rfl,fun base kb nb=>My.law_fn T kb nb⟩     -- if «.of_eq rfl» comes too early: refine' ⟨_,?b,fun base kb nb=>My.law_fn T kb nb⟩;exact fun s u=>.of_eq rfl
  case S=>exact fun w H a ns hl hO hS=>..
  case C=>exact ..
(the tactic k_is has no namespace: write k_is) -/
namespace L2
open PySem PySem.Spec PyProof.Rows
def defArgs (s:Stmt):Arguments:=match s with
  | .FunctionDef _ a _ _ _ _ _ _ _ _=>a
  | _=>{ posonlyargs:=[],args:=[],vararg:=none,kwonlyargs:=[],kw_defaults:=[],kwarg:=none,defaults:=[] }
def defBody (s:Stmt):List Stmt:=match s with
  | .FunctionDef _ _ b _ _ _ _ _ _ _=>b
  | _=>[]
def defScope (s:Stmt):Scope:=match s with
  | .FunctionDef _ _ _ _ _ _ sc _ _ _=>sc
  | _=>{ kind:=.function,names:=[],isGenerator:=false,isCoroutine:=false }
abbrev CX0:CXT:=fun _ _ _ _ _ _=>False
abbrev E0:XK:=fun _ _ _=>False
theorem pass0 {X:Cx}:Passes CX0 X E0:=fun _ _ _ _ _ _ _ h=>h.elim
structure Fun (K:PySem.W.Frag) (x qual:Str) (st:Stmt) (f:Addr) (fd:FuncData):Prop where
  ex:∃ (oc:Value) (od:Option Addr) (kV doc pm:Value) (an:Option Addr) (cdv ct:Value) (osl:Array (Option Value)),
    fd = PySem.W.fnOf x qual (defArgs st) (defBody st) (defScope st) .none kV doc pm an cdv ct∧K.lookup f = some ⟨oc,od,.func fd,osl⟩∧PySem.W.codeIn K cdv qual = true
  kp:PySem.W.keepIn K (.ref f) = true
section
variable {P:Program} {w:World} {K:PySem.W.Frag} {mg:Str→Option Value} {base:Heap}
theorem Fun.ok {x qual:Str} {st:Stmt} {f:Addr} {fd:FuncData} {N ps:List Str} {k:Nat} {sp:Sp} (F:Fun K x qual st f fd) (S:FnScope N ps (defScope st)) (len:∀ vs H Q E,sp vs H Q E→vs.length = ps.length)
    (hbody:∀ (cdv:Value) (A:Around) (outer:List Env) (s:Shared) (H:Hp) (vs:List V) (Q:VK) (E:XK),Room k (A.deeper (envOfC qual (defScope st) s.heap.objs.size f cdv))→sp vs H Q E →
      ∃ t,PSs (cxOf CX0 P w K mg base N qual (defScope st) f cdv A outer s H E).nox (defBody st) t∧t { nx:=fun _ H'=>Q .non H',rt:=Q } (start N vs) H):FnOk P w K mg base CX0 (k + 1) f fd ps sp:=by
  obtain ⟨oc,od,kV,doc,pm,an,cdv,ct,osl,rfl,lk,hcd⟩:=F.ex
  refine fn_of lk hcd S len fun A outer s H vs Q E hr hsp=>?_
  obtain ⟨t,h,q⟩:=hbody cdv A outer s H vs Q E hr hsp
  exact ⟨t,h.nox,q⟩
theorem Fun.binds {x qual:Str} {st:Stmt} {f:Addr} {fd:FuncData} {ps:List Str} (F:Fun K x qual st f fd)
    (h:∀ (kV doc pm:Value) (an:Option Addr) (cdv ct:Value) (us:List Value),us.length = ps.length→bindArgs (PySem.W.fnOf x qual (defArgs st) (defBody st) (defScope st) .none kV doc pm an cdv ct) ⟨us,[]⟩ = pure (ps.zip us)):Binds K fd ps []:=by
  obtain ⟨oc,od,kV,doc,pm,an,cdv,ct,osl,rfl,lk,hcd⟩:=F.ex
  exact .all (h kV doc pm an cdv ct)
theorem fun_mk {x qual:Str} {st:Stmt} {f:Addr} {oc:Value} {od an:Option Addr} {osl:Array (Option Value)} {kV doc pm cdv ct:Value} (l:K.lookup f = some ⟨oc,od,.func (PySem.W.fnOf x qual (defArgs st) (defBody st) (defScope st) .none kV doc pm an cdv ct),osl⟩)
    (c:PySem.W.codeIn K cdv qual = true) (k:PySem.W.keepIn K (.ref f) = true):Fun K x qual st f (PySem.W.fnOf x qual (defArgs st) (defBody st) (defScope st) .none kV doc pm an cdv ct):=⟨⟨oc,od,kV,doc,pm,an,cdv,ct,osl,rfl,l,c⟩,k⟩
end
section
variable {X:Cx}
theorem pv (i:Nat) {x:Str} {pos:Pos} (hN:X.N[i]? = some x:=by rfl) (hv:Vis X.env.scope x:=by first | exact Or.inl rfl | exact Or.inr (Or.inl rfl) | exact Or.inr (Or.inr rfl)) (hd:(x == ("__debug__":Str)) = false:=by decide)
    (hcd:(x == ("__classdict__":Str)) = false:=by decide):PE X (.Name x pos) (tVar i):=pe_var hN hv hd hcd
end
theorem ite2 {c A B:Prop} [Decidable c] (h1:c→A) (h2:¬ c→B):if c then A else B:=by
  by_cases h:c
  · rw [if_pos h]
    exact h1 h
  · rw [if_neg h]
    exact h2 h
def Same (H H':Hp):Prop:=∀ b o,H b = some o→H' b = some o
theorem Same.refl (H:Hp):Same H H:=fun _ _ h=>h
theorem Same.trans {H H1 H2:Hp} (a:Same H H1) (b:Same H1 H2):Same H H2:=fun c o h=>b c o (a c o h)
theorem Same.seq {K:PySem.W.Frag} {H H':Hp} {a:Addr} {xs:List V} (e:Same H H') (h:SqL K H a xs):SqL K H' a xs:=by
  rcases h with (h | ⟨o,h⟩) | h
  · exact .inl (.inl (e _ _ h))
  · exact .inl (.inr ⟨o,e _ _ h⟩)
  · exact .inr h
theorem at_of {xs:List V} {z:Int} {j:Nat} {v:V} (e:z = (j:Int)) (h:xs[j]? = some v):atI xs z = some v:=by
  rw [e]
  exact atI_nat h
end L2
namespace L3
open PySem
structure Steps (prog:Program) (w:World) (it l:Addr) (items:Array Value) (St:Nat→Heap→Prop):Prop where
  item:∀ (A:Around) (E:Value→Shared→Prop) (s:Shared) (i:Nat) (x:Value) (Q:Value→Shared→Prop),St i s.heap→items[i]? = some x →
    (∀ g,St (i + 1) g→Heap.SameBut it s.heap g→Q x { s with heap:=g })→wpAny (model prog w) A (Builtin.SmallTypes.nextOf (.ref it)) Q E s
  fin:∀ (A:Around) (E:Value→Shared→Prop) (s:Shared) (i:Nat) (Q:Value→Shared→Prop),A.handled = none→St i s.heap→items[i]? = none →
    (∀ g e,Heap.ExtBut it s.heap g→(∃ o,g.get? e = some o∧o.cls = .type "StopIteration")→E (.ref e) { s with heap:=g })→wpAny (model prog w) A (Builtin.SmallTypes.nextOf (.ref it)) Q E s
  stays:∀ (i:Nat) (h g:Heap),St i h→(∀ b o,b = it∨b = l→h.get? b = some o→g.get? b = some o)→St i g
  there:∀ (i:Nat) (h:Heap),St i h→∃ o,h.get? it = some o∧∀ v,o.data≠.cell v
section
variable {prog:Program} {w:World} {A:Around} {E:Value→Shared→Prop} {s:Shared}
theorem tupNext_item {it t:Addr} {i:Nat} {its:Array Value} {x:Value} {Q:Value→Shared→Prop} (a:s.heap.IsTupleIter it t i) (b:s.heap.IsTuple t its) (e:its[i]? = some x)
    (k:∀ g,g.IsTupleIter it t (i + 1)→Heap.SameBut it s.heap g→Q x { s with heap:=g }):wpAny (model prog w) A (Builtin.SmallTypes.nextOf (.ref it)) Q E s:=by
  obtain ⟨o,g1,g2,g3⟩:=id a
  obtain ⟨ot,f1,_,m,f2⟩:=b
  unfold Builtin.SmallTypes.nextOf
  refine wpAny_bind (wpAny_callSpecial?_slot (name:=Str.ofString "__next__") a.typeIs F.slot_tuple_iterator_next (wpAny_call_entry F.slot_tuple_iterator_next a.typeIs F.entry_tuple_iterator_next ?_ (F.args_tuple_iterator_next_1 _)))
  show wpAny _ _ (field (.ref it) 0 >>= _) _ _ s;refine wpAny_bind (wpAny_field g1 g3 (x:=.ref t) rfl ?_)
  show wpAny _ _ (if (Value.ref t == Value.none) = true then _ else _) _ _ s;rw [if_neg (show ¬ ((Value.ref t == Value.none) = true) from Bool.false_ne_true)]
  show wpAny _ _ (field (.ref it) 1 >>= _) _ _ s;refine wpAny_bind (wpAny_field g1 g3 (x:=.int i 0) rfl ?_)
  show wpAny _ _ (seqItems? (.ref t) >>= _) _ _ s;refine wpAny_bind (wpAny_seqItems f1 f2 ?_)
  simp only [Int.toNat_natCast,e]
  refine wpAny_bind (wpAny_setField g1 g3 (by simp) (wpAny_pure ⟨x,rfl,wpAny_pure (k _ ⟨_,Heap.get?_update_self _ g1 (Obj.isFreed_of_fields (Obj.data_mapFields g3 _)),(Obj.cls_mapFields ..).trans g2,?_⟩ (Heap.SameBut.update ..))⟩))
  rw [Obj.data_mapFields g3];simp [rawInt]
theorem tupNext_fin {it t:Addr} {i:Nat} {its:Array Value} {Q:Value→Shared→Prop} (hh:A.handled = none) (a:s.heap.IsTupleIter it t i) (b:s.heap.IsTuple t its) (e:its[i]? = none)
    (k:∀ g e,Heap.ExtBut it s.heap g→(∃ o,g.get? e = some o∧o.cls = .type "StopIteration")→E (.ref e) { s with heap:=g }):wpAny (model prog w) A (Builtin.SmallTypes.nextOf (.ref it)) Q E s:=by
  obtain ⟨o,g1,g2,g3⟩:=id a
  obtain ⟨ot,f1,_,m,f2⟩:=b
  unfold Builtin.SmallTypes.nextOf
  refine wpAny_bind (wpAny_callSpecial?_slot (name:=Str.ofString "__next__") a.typeIs F.slot_tuple_iterator_next (wpAny_call_entry F.slot_tuple_iterator_next a.typeIs F.entry_tuple_iterator_next ?_ (F.args_tuple_iterator_next_1 _)))
  show wpAny _ _ (field (.ref it) 0 >>= _) _ _ s;refine wpAny_bind (wpAny_field g1 g3 (x:=.ref t) rfl ?_)
  show wpAny _ _ (if (Value.ref t == Value.none) = true then _ else _) _ _ s;rw [if_neg (show ¬ ((Value.ref t == Value.none) = true) from Bool.false_ne_true)]
  show wpAny _ _ (field (.ref it) 1 >>= _) _ _ s;refine wpAny_bind (wpAny_field g1 g3 (x:=.int i 0) rfl ?_)
  show wpAny _ _ (seqItems? (.ref t) >>= _) _ _ s;refine wpAny_bind (wpAny_seqItems f1 f2 ?_)
  simp only [Int.toNat_natCast,e]
  refine wpAny_bind (wpAny_rule (wpAny_bind (wpAny_setField g1 g3 (by simp) ?_)))
  show wpAny _ _ (newExc (.type "StopIteration") [] >>= _) _ _ _;refine wpAny_bind ?_
  simp only [newExc,newTuple];refine wpAny_bind (wpAny_newObj_type ?_ (by size_fits))
  refine wpAny_bind (m:=firstArgMember _ _) (wpAny_of_eq (a:=Value.none) (by first | rfl | (simp only [firstArgMember];rfl)) ?_);refine wpAny_newObj_type ?_ (by size_fits)
  simp only [raiseNew];refine wpAny_bind (wpAny_handled ?_)
  first | rw [show A.in1.handled = none from hh] | rw [hh]
  exact wpAny_bind (wpAny_pure (wpAny_throw (k _ _ (((Heap.SameBut.update ..).extBut.push _).push _) ⟨_,Heap.get?_push_size _ rfl,rfl⟩)))
end
theorem steps_tuple (prog:Program) (w:World) (it t:Addr) (hne:t≠it) (its:Array Value):Steps prog w it t its (fun i h=>h.IsTupleIter it t i∧h.IsTuple t its) where
  item:=fun A E s i x Q st e k=>tupNext_item st.1 st.2 e fun g a sb=>k g ⟨a,st.2.extBut sb.extBut hne⟩ sb
  fin:=fun A E s i Q hh st e k=>tupNext_fin hh st.1 st.2 e k
  stays:=fun i h g st k=>⟨st.1.at fun o q=>k it o (.inl rfl) q,st.2.at fun o q=>k t o (.inr rfl) q⟩
  there:=fun i h st=>by
    obtain ⟨⟨o,a,_,d⟩,_⟩:=st
    exact ⟨o,a,fun v q=>by rw [d] at q;cases q⟩
section
variable {prog:Program} {w:World} {A:Around} {E:Value→Shared→Prop} {s:Shared} {z T1 T2 i1 i2 l1 l2:Addr} {k1 k2:Nat} {xs ys:Array Value} {a b:Value} {S1 S2:Nat→Heap→Prop}
theorem zip_more {x y:Value} {Q:Value→Shared→Prop} (D:ZipApart z T1 T2 i1 i2 l1 l2) (P1:Steps prog w i1 l1 xs S1) (P2:Steps prog w i2 l2 ys S2)
    (hz:IsZip s.heap z T1 T2 .none) (h1:IsPair s.heap T1 (.ref i1) (.ref i2)) (h2:IsPair s.heap T2 a b) (st1:S1 k1 s.heap) (st2:S2 k2 s.heap) (ex:xs[k1]? = some x) (ey:ys[k2]? = some y)
    (k:∀ g,IsZip g z T1 T2 (rawInt s.heap.objs.size)→IsPair g T2 x y→S1 (k1 + 1) g→S2 (k2 + 1) g→IsPair g s.heap.objs.size x y→g.objs.size = s.heap.objs.size + 1 →
      (∀ c o,c≠z→c≠T2→c≠i1→c≠i2→s.heap.get? c = some o→g.get? c = some o)→Q (.ref s.heap.objs.size) { s with heap:=g }) :
    wpAny (model prog w) A (Builtin.«zip.__next__» ⟨[.ref z],[]⟩) (fun r s'=>∃ v,r = .done (.ret v)∧Q v s') E s:=by
  show wpAny _ _ (field (.ref z) 2 >>= _) _ _ _;refine wpAny_bind (wpAny_field hz rfl (x:=.bool false) rfl ?_)
  show wpAny _ _ (field (.ref z) 3 >>= _) _ _ _;refine wpAny_bind (wpAny_field hz rfl (x:=.ref T1) rfl ?_)
  refine wpAny_bind (wpAny_seqItems h1 rfl ?_)
  show wpAny _ _ (Builtin.SmallTypes.ownedTupleIsFree (.ref z) >>= _) _ _ _;refine wpAny_bind ?_
  unfold Builtin.SmallTypes.ownedTupleIsFree;refine wpAny_bind (wpAny_field hz rfl (x:=.none) rfl (wpAny_pure ?_));simp only [if_true]
  refine wpAny_bind (wpAny_rule ?_);refine wpAny_bind (wpAny_field hz rfl (x:=.ref T2) rfl ?_)
  refine wpAny_bind (wpAny_setField_rec hz (by simp) fun g1 z1 e1=>?_);replace z1:IsZip g1 z T1 T2 .ellipsis:=z1
  refine wpAny_bind ?_;simp only [List.zipIdx_cons,List.zipIdx_nil,List.forIn_cons,List.forIn_nil]
  have st1':=P1.stays _ _ g1 st1 fun c o hc q=>e1.extBut _ _ (by rcases hc with rfl | rfl;exact D.i1z;exact D.l1z) q
  refine wpAny_bind (wpAny_bind (wpAny_onRaise ?_));show wpAny _ _ (Builtin.SmallTypes.nextOf (.ref i1) >>= _) _ _ _
  refine wpAny_bind (P1.item _ _ _ _ _ _ st1' ex fun g2 n1 e2=>wpAny_pure ?_)
  have p2:IsPair g2 T2 a b:=e2.extBut _ _ D.TOi1 (e1.extBut _ _ D.TOz h2)
  refine wpAny_bind (wpAny_seqItems p2 rfl ?_);refine wpAny_bind (wpAny_updateSeq_pair p2 fun g3 p3 e3=>?_)
  replace p3:IsPair g3 T2 x b:=p3
  refine wpAny_bind (wpAny_letGo (wpAny_pure ?_))
  have st2':S2 k2 g3:=P2.stays _ _ g3 st2 fun c o hc q=>by
    refine e3.extBut _ _ ?_ (e2.extBut _ _ ?_ (e1.extBut _ _ ?_ q)) <;> rcases hc with rfl | rfl <;> first | exact D.TOi2.symm | exact D.l2TO | exact D.i12.symm | exact D.l2i1 | exact D.i2z | exact D.l2z
  refine wpAny_bind (wpAny_bind (wpAny_onRaise ?_));show wpAny _ _ (Builtin.SmallTypes.nextOf (.ref i2) >>= _) _ _ _
  refine wpAny_bind (P2.item _ _ _ _ _ _ st2' ey fun g4 n2 e4=>wpAny_pure ?_)
  have p4:IsPair g4 T2 x b:=e4.extBut _ _ D.TOi2 p3
  refine wpAny_bind (wpAny_seqItems p4 rfl ?_);refine wpAny_bind (wpAny_updateSeq_pair p4 fun g5 p5 e5=>?_)
  replace p5:IsPair g5 T2 x y:=p5
  refine wpAny_bind (wpAny_letGo (wpAny_pure (wpAny_pure ?_)))
  refine wpAny_bind (wpAny_seqItems p5 rfl ?_);refine wpAny_bind (wpAny_newTuple ?_)
  have sz:g5.objs.size = s.heap.objs.size:=by rw [e5.1,e4.1,e3.1,e2.1,e1.1]
  have z5:IsZip g5 z T1 T2 .ellipsis:=e5.extBut _ _ D.TOz.symm (e4.extBut _ _ D.i2z.symm (e3.extBut _ _ D.TOz.symm (e2.extBut _ _ D.i1z.symm z1)))
  have kp:∀ c o,c≠z→c≠T2→c≠i1→c≠i2→s.heap.get? c = some o→g5.get? c = some o:=fun c o c1 c2 c3 c4 q =>
    e5.extBut _ _ c2 (e4.extBut _ _ c4 (e3.extBut _ _ c2 (e2.extBut _ _ c3 (e1.extBut _ _ c1 q))))
  have m1:S1 (k1 + 1) g5:=P1.stays _ _ g5 n1 fun c o hc q=>by
    refine e5.extBut _ _ ?_ (e4.extBut _ _ ?_ (e3.extBut _ _ ?_ q)) <;> rcases hc with rfl | rfl <;> first | exact D.TOi1.symm | exact D.l1TO | exact D.i12 | exact D.l1i2
  have m2:S2 (k2 + 1) g5:=P2.stays _ _ g5 n2 fun c o hc q=>e5.extBut _ _ (by rcases hc with rfl | rfl;exact D.TOi2.symm;exact D.l2TO) q
  have lz:z < g5.objs.size:=Heap.lt_size z5
  show wpAny _ _ (Builtin.SmallTypes.ownedTupleHandOut (.ref z) (.ref g5.objs.size) >>= _) _ _ _;refine wpAny_bind ?_
  unfold Builtin.SmallTypes.ownedTupleHandOut
  have z6:IsZip (g5.push { cls:=.type "tuple",data:=.seq #[x,y] }) z T1 T2 .ellipsis:=Heap.get?_push_of_some _ z5
  refine wpAny_bind (wpAny_setField_rec z6 (by simp) fun g7 z7 e7=>?_);replace z7:IsZip g7 z T1 T2 (rawInt g5.objs.size):=z7
  refine wpAny_setField_rec z7 (by simp) fun g8 z8 e8=>?_;replace z8:IsZip g8 z T1 T2 (rawInt g5.objs.size):=z8
  have up:∀ c o,c≠z→g5.get? c = some o→g8.get? c = some o:=fun c o c1 q=>e8.extBut _ _ c1 (e7.extBut _ _ c1 (Heap.get?_push_of_some _ q))
  have pN:IsPair g8 g5.objs.size x y:=e8.extBut _ _ (Nat.ne_of_gt lz) (e7.extBut _ _ (Nat.ne_of_gt lz) (Heap.get?_push_size _ rfl))
  have s8:g8.objs.size = g5.objs.size + 1:=by rw [e8.1,e7.1,Heap.size_push]
  rw [sz] at z8 pN s8
  refine wpAny_pure ⟨_,rfl,?_⟩
  show Q (.ref g5.objs.size) _;rw [sz]
  exact k g8 z8 (up _ _ D.TOz p5) (P1.stays _ _ g8 m1 fun c o hc q=>up _ o (by rcases hc with rfl | rfl;exact D.i1z;exact D.l1z) q)
    (P2.stays _ _ g8 m2 fun c o hc q=>up _ o (by rcases hc with rfl | rfl;exact D.i2z;exact D.l2z) q) pN s8 fun c o c1 c2 c3 c4 q=>up c o c1 (kp c o c1 c2 c3 c4 q)
theorem zip_over {Q:Fin→Shared→Prop} (hh:A.handled = none) (D:ZipApart z T1 T2 i1 i2 l1 l2) (P1:Steps prog w i1 l1 xs S1) (P2:Steps prog w i2 l2 ys S2)
    (hz:IsZip s.heap z T1 T2 .none) (h1:IsPair s.heap T1 (.ref i1) (.ref i2)) (h2:IsPair s.heap T2 a b) (st1:S1 k1 s.heap) (st2:S2 k2 s.heap) (en:xs[k1]? = none∨ys[k2]? = none)
    (k:∀ g e,(∀ c o,c≠z→c≠T2→c≠i1→c≠i2→s.heap.get? c = some o→g.get? c = some o)→(∃ o,g.get? e = some o∧o.cls = .type "StopIteration")→E (.ref e) { s with heap:=g }) :
    wpAny (model prog w) A (Builtin.«zip.__next__» ⟨[.ref z],[]⟩) Q E s:=by
  show wpAny _ _ (field (.ref z) 2 >>= _) _ _ _;refine wpAny_bind (wpAny_field hz rfl (x:=.bool false) rfl ?_)
  show wpAny _ _ (field (.ref z) 3 >>= _) _ _ _;refine wpAny_bind (wpAny_field hz rfl (x:=.ref T1) rfl ?_)
  refine wpAny_bind (wpAny_seqItems h1 rfl ?_)
  show wpAny _ _ (Builtin.SmallTypes.ownedTupleIsFree (.ref z) >>= _) _ _ _;refine wpAny_bind ?_
  unfold Builtin.SmallTypes.ownedTupleIsFree;refine wpAny_bind (wpAny_field hz rfl (x:=.none) rfl (wpAny_pure ?_));simp only [if_true]
  refine wpAny_bind (wpAny_rule ?_);refine wpAny_bind (wpAny_field hz rfl (x:=.ref T2) rfl ?_)
  refine wpAny_bind (wpAny_setField_rec hz (by simp) fun g1 z1 e1=>?_);replace z1:IsZip g1 z T1 T2 .ellipsis:=z1
  refine wpAny_bind ?_;simp only [List.zipIdx_cons,List.zipIdx_nil,List.forIn_cons,List.forIn_nil]
  have st1':=P1.stays _ _ g1 st1 fun c o hc q=>e1.extBut _ _ (by rcases hc with rfl | rfl;exact D.i1z;exact D.l1z) q
  refine wpAny_bind (wpAny_bind (wpAny_onRaise ?_));show wpAny _ _ (Builtin.SmallTypes.nextOf (.ref i1) >>= _) _ _ _
  cases ex:xs[k1]? with
  | none =>
    refine wpAny_bind (P1.fin _ _ _ _ _ hh st1' ex fun g2 er e2 he=>?_)
    obtain ⟨oe,q1,q2⟩:=he
    have z2:IsZip g2 z T1 T2 .ellipsis:=e2 _ _ D.i1z.symm z1
    have ne:er≠z:=fun q=>by subst q;rw [z2] at q1;cases q1;simp at q2
    refine wpAny_setField_rec z2 (by simp) fun g3 _ e3=>k g3 er (fun c o c1 _ c3 _ q=>e3.extBut _ _ c1 (e2 _ _ c3 (e1.extBut _ _ c1 q))) ⟨oe,e3.extBut _ _ ne q1,q2⟩
  | some x =>
    have ey:ys[k2]? = none:=by rcases en with q | q;rw [ex] at q;cases q;exact q
    refine wpAny_bind (P1.item _ _ _ _ _ _ st1' ex fun g2 n1 e2=>wpAny_pure ?_)
    have p2:IsPair g2 T2 a b:=e2.extBut _ _ D.TOi1 (e1.extBut _ _ D.TOz h2)
    refine wpAny_bind (wpAny_seqItems p2 rfl ?_);refine wpAny_bind (wpAny_updateSeq_pair p2 fun g3 p3 e3=>?_)
    refine wpAny_bind (wpAny_letGo (wpAny_pure ?_))
    have st2':S2 k2 g3:=P2.stays _ _ g3 st2 fun c o hc q=>by
      refine e3.extBut _ _ ?_ (e2.extBut _ _ ?_ (e1.extBut _ _ ?_ q)) <;> rcases hc with rfl | rfl <;> first | exact D.TOi2.symm | exact D.l2TO | exact D.i12.symm | exact D.l2i1 | exact D.i2z | exact D.l2z
    refine wpAny_bind (wpAny_bind (wpAny_onRaise ?_));show wpAny _ _ (Builtin.SmallTypes.nextOf (.ref i2) >>= _) _ _ _
    refine wpAny_bind (P2.fin _ _ _ _ _ hh st2' ey fun g4 er e4 he=>?_)
    obtain ⟨oe,q1,q2⟩:=he
    have z4:IsZip g4 z T1 T2 .ellipsis:=e4 _ _ D.i2z.symm (e3.extBut _ _ D.TOz.symm (e2.extBut _ _ D.i1z.symm z1))
    have ne:er≠z:=fun q=>by subst q;rw [z4] at q1;cases q1;simp at q2
    refine wpAny_setField_rec z4 (by simp) fun g5 _ e5=>k g5 er (fun c o c1 c2 c3 c4 q=>e5.extBut _ _ c1 (e4 _ _ c4 (e3.extBut _ _ c2 (e2.extBut _ _ c3 (e1.extBut _ _ c1 q))))) ⟨oe,e5.extBut _ _ ne q1,q2⟩
theorem nextZip_more {x y:Value} {Q:Option Value→Shared→Prop} (D:ZipApart z T1 T2 i1 i2 l1 l2) (P1:Steps prog w i1 l1 xs S1) (P2:Steps prog w i2 l2 ys S2)
    (hz:IsZip s.heap z T1 T2 .none) (h1:IsPair s.heap T1 (.ref i1) (.ref i2)) (h2:IsPair s.heap T2 a b) (st1:S1 k1 s.heap) (st2:S2 k2 s.heap) (ex:xs[k1]? = some x) (ey:ys[k2]? = some y)
    (k:∀ g,IsZip g z T1 T2 (rawInt s.heap.objs.size)→IsPair g T2 x y→S1 (k1 + 1) g→S2 (k2 + 1) g→IsPair g s.heap.objs.size x y→g.objs.size = s.heap.objs.size + 1 →
      (∀ c o,c≠z→c≠T2→c≠i1→c≠i2→s.heap.get? c = some o→g.get? c = some o)→Q (some (.ref s.heap.objs.size)) { s with heap:=g }):wpAny (model prog w) A (pyNext (.ref z)) Q E s:=by
  have ty:s.TypeIs (.ref z) "zip":=⟨_,hz,rfl⟩
  unfold pyNext
  exact wpAny_bind (wpAny_attempt (wpAny_callSpecial?_slot (name:=Str.ofString "__next__") ty F.slot_zip_next (wpAny_call_entry F.slot_zip_next ty F.entry_zip_next
    (zip_more D P1 P2 hz h1 h2 st1 st2 ex ey fun g b1 b2 b3 b4 b5 b6 b7=>wpAny_pure (k g b1 b2 b3 b4 b5 b6 b7)) (F.args_zip_next_1 _))))
theorem nextZip_over {Q:Option Value→Shared→Prop} (hh:A.handled = none) (D:ZipApart z T1 T2 i1 i2 l1 l2) (P1:Steps prog w i1 l1 xs S1) (P2:Steps prog w i2 l2 ys S2)
    (hz:IsZip s.heap z T1 T2 .none) (h1:IsPair s.heap T1 (.ref i1) (.ref i2)) (h2:IsPair s.heap T2 a b) (st1:S1 k1 s.heap) (st2:S2 k2 s.heap) (en:xs[k1]? = none∨ys[k2]? = none)
    (k:∀ g,(∀ c o,c≠z→c≠T2→c≠i1→c≠i2→s.heap.get? c = some o→g.get? c = some o)→Q none { s with heap:=g }):wpAny (model prog w) A (pyNext (.ref z)) Q E s:=by
  have ty:s.TypeIs (.ref z) "zip":=⟨_,hz,rfl⟩
  unfold pyNext
  refine wpAny_bind (wpAny_attempt (wpAny_callSpecial?_slot (name:=Str.ofString "__next__") ty F.slot_zip_next (wpAny_call_entry F.slot_zip_next ty F.entry_zip_next (zip_over hh D P1 P2 hz h1 h2 st1 st2 en fun g e kp he=>?_) (F.args_zip_next_1 _))))
  obtain ⟨o,q1,q2⟩:=he
  exact wpAny_bind (wpAny_isInstance (T:="StopIteration") (b:=true) ⟨o,q1,q2⟩ isSubtype_stop (wpAny_pure (k _ kp)))
end
abbrev zt1 (h:Heap) (l1:Addr):Heap:=h.push { cls:=.type "tuple_iterator",data:=.fields #[.ref l1,.int 0 0] }
abbrev zt2 (h:Heap) (l1 l2:Addr):Heap:=(zt1 h l1).push { cls:=.type "tuple_iterator",data:=.fields #[.ref l2,.int 0 0] }
abbrev zt3 (h:Heap) (l1 l2:Addr):Heap:=(zt2 h l1 l2).push { cls:=.type "tuple",data:=.seq #[.ref h.objs.size,.ref (zt1 h l1).objs.size] }
abbrev zt4 (h:Heap) (l1 l2:Addr):Heap:=(zt3 h l1 l2).push { cls:=.type "tuple",data:=.seq #[.none,.none] }
abbrev zt5 (h:Heap) (l1 l2:Addr):Heap:=(zt4 h l1 l2).push { cls:=.type "zip",data:=.fields #[.none,.bool false,.bool false,.ref (zt2 h l1 l2).objs.size,.ref (zt3 h l1 l2).objs.size] }
theorem zt_new (l1 l2:Addr) (xs ys:Array Value):Meets (Builtin.«zip.__new__» ⟨[.type "zip",.ref l1,.ref l2],[]⟩) (fun _ R s=>s.heap.IsTuple l1 xs∧s.heap.IsTuple l2 ys ∧
      R (.ok (.ret (.ref (zt4 s.heap l1 l2).objs.size))) { s with heap:=zt5 s.heap l1 l2 }) :=
  .of_wp fun prog w A R s h=>by
    obtain ⟨hp,g,d,tk,os⟩:=s;obtain ⟨a1,a2,h⟩:=h
    have hsub:=sub_zip
    have b1:Heap.IsTuple (Shared.heap ⟨hp,g,d,tk,os⟩) l1 xs:=a1
    have b2:Heap.IsTuple (Shared.heap ⟨hp.push { cls:=.type "tuple_iterator",data:=.fields #[.ref l1,.int 0 0] },g,d,tk,os⟩) l2 ys:=Heap.IsTuple.push a2 _
    wp_walk using wpAny_pyIter_tuple b1,wpAny_pyIter_tuple b2
    exact ⟨_,rfl,h⟩
theorem call_zipT {prog:Program} {w:World} {A:Around} {E:Value→Shared→Prop} {s:Shared} {l1 l2:Addr} {xs ys:Array Value} {Q:Value→Shared→Prop} (a1:s.heap.IsTuple l1 xs) (a2:s.heap.IsTuple l2 ys)
    (k:∀ g,IsZip g (s.heap.objs.size + 4) (s.heap.objs.size + 2) (s.heap.objs.size + 3) .none→IsPair g (s.heap.objs.size + 2) (.ref s.heap.objs.size) (.ref (s.heap.objs.size + 1)) →
      IsPair g (s.heap.objs.size + 3) .none .none→g.IsTupleIter s.heap.objs.size l1 0→g.IsTupleIter (s.heap.objs.size + 1) l2 0→g.objs.size = s.heap.objs.size + 5 →
      (∀ c o,s.heap.get? c = some o→g.get? c = some o)→Q (.ref (s.heap.objs.size + 4)) { s with heap:=g }):wpAny (model prog w) A (call (.type "zip") [.ref l1,.ref l2]) Q E s:=by
  refine callType_new F.called_zip (by decide) (F.typeCall_zip_2 _ _) (F.newCall_zip_2 _ _) (fun obj=>F.args_object_init_3 obj _ _) F.entry_zip_new (zt_new l1 l2 xs ys) ⟨a1,a2,?_⟩
  have z1:(zt1 s.heap l1).objs.size = s.heap.objs.size + 1:=Heap.size_push ..
  have z2:(zt2 s.heap l1 l2).objs.size = s.heap.objs.size + 2:=by rw [Heap.size_push,z1]
  have z3:(zt3 s.heap l1 l2).objs.size = s.heap.objs.size + 3:=by rw [Heap.size_push,z2]
  have z4:(zt4 s.heap l1 l2).objs.size = s.heap.objs.size + 4:=by rw [Heap.size_push,z3]
  have z5:(zt5 s.heap l1 l2).objs.size = s.heap.objs.size + 5:=by rw [Heap.size_push,z4]
  have p:∀ (h:Heap) (o:Obj) (b:Addr) (q:Obj),h.get? b = some q→(h.push o).get? b = some q:=fun h o b q e=>Heap.get?_push_of_some _ e
  have g5:(zt5 s.heap l1 l2).get? (zt4 s.heap l1 l2).objs.size = some _:=Heap.get?_push_size _ rfl
  have g4:(zt5 s.heap l1 l2).get? (zt3 s.heap l1 l2).objs.size = some _:=p _ _ _ _ (Heap.get?_push_size _ rfl)
  have g3:(zt5 s.heap l1 l2).get? (zt2 s.heap l1 l2).objs.size = some _:=p _ _ _ _ (p _ _ _ _ (Heap.get?_push_size _ rfl))
  have g2:(zt5 s.heap l1 l2).get? (zt1 s.heap l1).objs.size = some _:=p _ _ _ _ (p _ _ _ _ (p _ _ _ _ (Heap.get?_push_size _ rfl)))
  have g1:(zt5 s.heap l1 l2).get? s.heap.objs.size = some _:=p _ _ _ _ (p _ _ _ _ (p _ _ _ _ (p _ _ _ _ (Heap.get?_push_size _ rfl))))
  show _∧_
  rw [z2,z3,z4] at g5;rw [z1,z2] at g3;rw [z3] at g4;rw [z1] at g2;rw [z4]
  exact ⟨⟨_,g5,rfl⟩,k _ g5 g3 g4 ⟨_,g1,rfl,rfl⟩ ⟨_,g2,rfl,rfl⟩ z5 fun c o x=>p _ _ _ _ (p _ _ _ _ (p _ _ _ _ (p _ _ _ _ (p _ _ _ _ x))))⟩
end L3
namespace L3
open PySem
section
variable (prog:Program) (w:World)
abbrev IKey:=List Int × Int
abbrev inKind:HeapKind prog w (List Int):=tupleKind (intKind prog w)
def IsPK (h:Heap) (k:IKey) (a:Addr):Prop:=∃ o n b t,h.get? a = some o∧o.cls = .type "tuple"∧o.data = .seq #[.ref b,.int k.2 t] n∧(inKind prog w).is h k.1 b
noncomputable def pkHash (k:IKey):Int:=reduceHash (Builtin.Tuple.tupleHashOf [(inKind prog w).hash k.1,hashInt k.2])
end
section
variable {prog:Program} {w:World} {A:Around} {E:Value→Shared→Prop} {s:Shared}
theorem IsPK.ty {k:IKey} {a:Addr} (x:IsPK prog w s.heap k a):s.TypeIs (.ref a) "tuple":=let ⟨o,_,_,_,ho,hc,_⟩:=x;⟨o,ho,hc⟩
theorem IsPK.inj {h:Heap} {x y:IKey} {a:Addr} (p:IsPK prog w h x a) (q:IsPK prog w h y a):x = y:=by
  obtain ⟨o,n,b,t,h1,h2,h3,h4⟩:=p
  obtain ⟨o',n',b',t',g1,g2,g3,g4⟩:=q
  rw [h1] at g1;cases g1
  rw [h3] at g3
  injection g3 with g3 _
  have e:=congrArg Array.toList g3
  simp only [List.cons.injEq,Value.ref.injEq,Value.int.injEq] at e
  obtain ⟨e1,⟨e2,_⟩,_⟩:=e
  subst e1
  exact Prod.ext ((inKind prog w).inj h4 g4) e2
theorem IsPK.keeps {h g:Heap} {k:IKey} {a d:Addr} {o:Obj} {es ep} (x:IsPK prog w h k a) (ho:h.get? d = some o) (hd:o.data = .dict es ep) (hs:Heap.SameBut d h g):IsPK prog w g k a:=by
  obtain ⟨o',n,b,t,h1,h2,h3,h4⟩:=x
  have ne:a≠d:=by
    intro q;subst q
    rw [h1] at ho;cases ho
    rw [hd] at h3;cases h3
  exact ⟨o',n,b,t,(hs.2 a ne).trans h1,h2,h3,(inKind prog w).keeps h4 ho hd hs⟩
theorem pk_hash {k:IKey} {a:Addr} {Q:Int→Shared→Prop} (hu:A.units + 8 < cLine) (hk:IsPK prog w s.heap k a) (h:Q (pkHash prog w k) { s with toks:=s.toks + (k.1.length + 3) }) :
    wpAny (model prog w) A (pyHash (.ref a)) Q E s:=by
  have ty:=hk.ty
  obtain ⟨o,n,b,t,h1,h2,h3,h4⟩:=hk
  unfold pyHash
  first | unfold pyHashByItsType | skip
  first | refine wpAny_bind (wpAny_cRoomFor_or (.inr (by omega)) ?_) | skip
  refine wpAny_bind (wpAny_specialOf ty F.slot_tuple_hash.lookup ?_)
  show wpAny _ _ (if (some (Value.builtin "tuple.__hash__") == some Value.none) = true then _ else _) Q E s;rw [if_neg (by rw [beq_builtin_none];exact Bool.false_ne_true)]
  refine wpAny_bind (wpAny_specialOf ty F.slot_tuple_hash.lookup ?_)
  show wpAny _ _ (callSpecialIfBoundUnlessNone? (.ref a) "__hash__" _ >>= _) Q E s
  refine wpAny_bind (wpAny_callSpecialIfBoundUnlessNone?_slot ty F.slot_tuple_hash (wpAny_call_entry F.slot_tuple_hash ty F.entry_tuple_hash ?_ (F.args_tuple_hash_1 _)))
  show wpAny _ _ (Builtin.Tuple.tupleItemsOf (.ref a) >>= _) _ _ s
  refine wpAny_bind (wpAny_tupleItemsOf h1 h3 ?_)
  refine wpAny_bind ?_
  rw [← Array.forIn_toList]
  simp only [List.forIn_cons,List.forIn_nil]
  refine wpAny_bind (wpAny_bind ((inKind prog w).pyHash (A:=A.in1) (show A.in1.units < cLine from by show A.units + 1 < cLine;omega) h4 ?_))
  first | refine wpAny_pure ?_ | refine wpAny_bind (wpAny_pure (wpAny_pure ?_))
  refine wpAny_bind (wpAny_bind (wpAny_pyHash_int ?_))
  first | refine wpAny_pure (wpAny_pure ?_) | refine wpAny_bind (wpAny_pure (wpAny_pure (wpAny_pure ?_)))
  show wpAny _ _ (retInt (Builtin.Tuple.tupleHashOf _)) _ _ _
  refine wpAny_ret_mkInt ?_
  unfold pkHash reduceHash at h
  have e:(((#[]:Array Int).push ((inKind prog w).hash k.1)).push (hashInt k.2)).toList = [(inKind prog w).hash k.1,hashInt k.2]:=rfl
  have dr:∀ ks:List Int,(inKind prog w).draws ks = ks.length + 1:=fun _=>rfl
  show wpAny _ _ (if (decide (-(2:Int) ^ 63≤Builtin.Tuple.tupleHashOf [(inKind prog w).hash k.1,hashInt k.2]) && decide (Builtin.Tuple.tupleHashOf [(inKind prog w).hash k.1,hashInt k.2] < 2 ^ 63)) = true then _ else _) Q E _
  by_cases hr:(decide (-(2:Int) ^ 63≤Builtin.Tuple.tupleHashOf [(inKind prog w).hash k.1,hashInt k.2]) && decide (Builtin.Tuple.tupleHashOf [(inKind prog w).hash k.1,hashInt k.2] < 2 ^ 63)) = true
  · rw [if_pos hr]
    rw [if_pos hr] at h
    exact wpAny_pure (by simpa [Nat.add_assoc,dr] using h)
  · rw [if_neg hr]
    rw [if_neg hr] at h
    exact wpAny_bind (wpAny_rule (wpAny_pure (by simpa [Nat.add_assoc,dr] using h)))
theorem dec_pair (x y:IKey):decide (x = y) = (decide (x.1 = y.1) && decide (x.2 = y.2)):=by
  by_cases h1:x.1 = y.1 <;> by_cases h2:x.2 = y.2
  · simp [Prod.ext_iff,h1,h2]
  · simp [Prod.ext_iff,h2]
  · simp [Prod.ext_iff,h1]
  · simp [Prod.ext_iff,h1]
theorem pk_eqTree {x y:IKey} {a b:Addr} {P:Fin→Shared→Prop} (hu:A.units < cLine) (p:IsPK prog w s.heap x a) (q:IsPK prog w s.heap y b) (h:P (.done (.ret (.bool (decide (x = y))))) s) :
    wpAny (model prog w) A (Builtin.«tuple.__eq__» ⟨[.ref a,.ref b],[]⟩) P E s:=by
  have tyb:=q.ty
  obtain ⟨o,n,c,t,h1,h2,h3,h4⟩:=p
  obtain ⟨o',n',c',t',g1,g2,g3,g4⟩:=q
  show wpAny _ _ (isInstance (.ref b) (.type "tuple") >>= _) _ _ s
  refine wpAny_bind (wpAny_isInstance tyb isSubtype_tuple_tuple ?_)
  simp only [Bool.not_true,Bool.false_eq_true,if_false]
  refine wpAny_bind (wpAny_tupleItemsOf h1 h3 ?_)
  refine wpAny_bind (wpAny_tupleItemsOf g1 g3 ?_)
  refine wpAny_bind ?_
  simp only [List.zip_cons_cons,List.zip_nil_left,List.forIn_cons,List.forIn_nil]
  refine wpAny_bind (wpAny_bind ((inKind prog w).eqBool hu h4 g4 ?_))
  rw [dec_pair] at h
  by_cases e1:x.1 = y.1
  · rw [decide_eq_true e1] at h ⊢
    simp only [Bool.not_true,Bool.false_eq_true,if_false]
    refine wpAny_pure ?_
    refine wpAny_bind (wpAny_bind (wpAny_eqBool_int ?_))
    by_cases e2:x.2 = y.2
    · have e3:(x.2 == y.2) = true:=by simpa using e2
      rw [e3]
      simp only [Bool.not_true,Bool.false_eq_true,if_false]
      refine wpAny_pure (wpAny_pure (wpAny_pure ?_))
      rw [decide_eq_true e2] at h
      exact h
    · have e3:(x.2 == y.2) = false:=by simpa using e2
      rw [e3]
      simp only [Bool.not_false,if_true]
      rw [decide_eq_false e2] at h
      exact wpAny_bind (wpAny_pure (wpAny_pure (wpAny_pure (wpAny_pure h))))
  · rw [decide_eq_false e1] at h ⊢
    simp only [Bool.not_false,if_true]
    exact wpAny_bind (wpAny_pure (wpAny_pure (wpAny_pure (wpAny_pure h))))
theorem pk_eq {x y:IKey} {a b:Addr} {Q:Bool→Shared→Prop} (hu:A.units + 8 < cLine) (p:IsPK prog w s.heap x a) (q:IsPK prog w s.heap y b) (h:Q (decide (x = y)) s) :
    wpAny (model prog w) A (eqBool (.ref a) (.ref b)) Q E s:=by
  unfold eqBool
  try with_reducible refine wpAny_holding ?_
  show wpAny _ _ (if (Value.ref a == Value.ref b) = true then _ else _) Q E s
  by_cases hab:(Value.ref a == Value.ref b) = true
  · rw [if_pos hab]
    have e:a = b:=by have:=eq_of_beq hab;injection this
    subst e
    obtain rfl:=p.inj q
    exact wpAny_bind (wpAny_rule (wpAny_pure (by simpa using h)))
  · rw [if_neg hab]
    refine wpAny_bind (wpAny_richCompare_same_room (op:=.Eq) p.ty q.ty F.slot_tuple_eq (wpAny_call_entry F.slot_tuple_eq p.ty F.entry_tuple_eq (pk_eqTree ?_ p q ⟨_,rfl,(fun e=>nomatch e),wpAny_truthy_bool h⟩) (F.args_tuple_eq_2 _ _)) (by omega))
    first | (show A.units + 1 < cLine;omega) | (show A.units + 2 < cLine;omega) | (show A.units + 3 < cLine;omega) | (simp [Around.in1];omega)
theorem quiet_tuple {ks:List Int} {a:Addr} {Q:Bool→Shared→Prop} (m:Nat) (hk:(inKind prog w).is s.heap ks a) (h:Q true s):wpAny (model prog w) A (eqIsQuiet (m + 1) (.ref a)) Q E s:=by
  have hk:IsTupleKey (intKind prog w) s.heap ks a:=hk
  have ty:=hk.typeIs
  obtain ⟨o,its,n,h1,_,h3,hi⟩:=hk
  unfold eqIsQuiet
  refine wpAny_bind (wpAny_specialOf ty F.slot_tuple_eq.lookup ?_)
  show wpAny _ _ (isInstance (.ref a) (.type "tuple") >>= _) _ _ s
  refine wpAny_bind (wpAny_isInstance ty isSubtype_tuple_tuple ?_)
  simp only [Bool.not_true,Bool.false_eq_true,if_false]
  refine wpAny_bind (wpAny_seqItems h1 h3 ?_)
  refine wpAny_bind ?_
  show wpAny _ _ (forIn its _ _) _ _ s
  rw [← Array.forIn_toList]
  refine wpAny_forIn_list _ (fun rest r s'=>r.1 = none∧s' = s∧∀ v∈rest,carriedByValue v = true) _ ?_ ?_ _ _ ⟨rfl,rfl,hi.byValue⟩
  · rintro v rest r s' ⟨hr,rfl,hall⟩
    rw [eqIsQuiet_byValue _ (hall v List.mem_cons_self)]
    refine wpAny_bind (wpAny_pure ?_)
    simp only [Bool.not_true,Bool.false_eq_true,if_false]
    exact wpAny_pure ⟨rfl,rfl,fun u hu'=>hall u (List.mem_cons_of_mem _ hu')⟩
  · rintro ⟨r1,r2⟩ s' ⟨hr,rfl,_⟩
    simp only at hr
    subst hr
    exact wpAny_pure h
theorem pk_quiet {k:IKey} {a:Addr} {Q:Bool→Shared→Prop} (hk:IsPK prog w s.heap k a) (h:Q true s):wpAny (model prog w) A (eqIsQuiet 8 (.ref a)) Q E s:=by
  have ty:=hk.ty
  obtain ⟨o,n,b,t,h1,h2,h3,h4⟩:=hk
  unfold eqIsQuiet
  refine wpAny_bind (wpAny_specialOf ty F.slot_tuple_eq.lookup ?_)
  show wpAny _ _ (isInstance (.ref a) (.type "tuple") >>= _) _ _ s
  refine wpAny_bind (wpAny_isInstance ty isSubtype_tuple_tuple ?_)
  simp only [Bool.not_true,Bool.false_eq_true,if_false]
  refine wpAny_bind (wpAny_seqItems h1 h3 ?_)
  refine wpAny_bind ?_
  show wpAny _ _ (forIn (#[Value.ref b,Value.int k.2 t]:Array Value) _ _) _ _ s
  rw [← Array.forIn_toList]
  simp only [List.forIn_cons,List.forIn_nil]
  refine wpAny_bind (wpAny_bind (quiet_tuple 6 h4 ?_))
  simp only [Bool.not_true,Bool.false_eq_true,if_false]
  refine wpAny_pure ?_
  refine wpAny_bind (wpAny_bind ?_)
  rw [eqIsQuiet_byValue _ (show carriedByValue (Value.int k.2 t) = true from rfl)]
  refine wpAny_pure ?_
  simp only [Bool.not_true,Bool.false_eq_true,if_false]
  exact wpAny_pure (wpAny_pure (wpAny_pure h))
end
def pairKind (prog:Program) (w:World):HeapKind prog w IKey where
  is:=IsPK prog w
  hash:=pkHash prog w
  draws:=fun k=>k.1.length + 3
  room:=fun A=>A.units + 8 < cLine
  inj:=fun hx hy=>hx.inj hy
  keeps:=fun x ho hd hs=>x.keeps ho hd hs
  pyHash:=fun hu hk h=>pk_hash hu hk h
  eqBool:=fun hu hx hy h=>pk_eq hu hx hy h
  quiet:=fun hk h=>pk_quiet hk h
end L3
namespace L3
open PySem PySem.W PyProof.Rows
def Ho {α:Type} (lt:Nat→Nat→Bool) (n:Nat):KasT α→(α→Prop)→Prop
  | .ret a,Q=>Q a
  | .ask i j k,Q=>i < n∧j < n∧Ho lt n (k (lt i j)) Q
theorem Ho.bind {α β:Type} {lt:Nat→Nat→Bool} {n:Nat} {f:α→KasT β} {Q:β→Prop}:∀ {t:KasT α},Ho lt n t (fun a=>Ho lt n (f a) Q)→Ho lt n (t.bind f) Q
  | .ret _,h=>h
  | .ask _ _ _,h=>⟨h.1,h.2.1,Ho.bind h.2.2⟩
theorem Ho.mono {α:Type} {lt:Nat→Nat→Bool} {n:Nat} {Q R:α→Prop} (hq:∀ a,Q a→R a):∀ {t:KasT α},Ho lt n t Q→Ho lt n t R
  | .ret a,h=>hq a h
  | .ask _ _ _,h=>⟨h.1,h.2.1,Ho.mono hq h.2.2⟩
theorem Ho.wp {α:Type} {lt:Nat→Nat→Bool} {n:Nat} {cmp:Nat→Nat→(Bool→Shared→Prop)→Shared→Prop} {s:Shared} {Q:α→Prop}
    (hc:∀ i j (C:Bool→Shared→Prop),i < n→j < n→C (lt i j) s→cmp i j C s):∀ {t:KasT α},Ho lt n t Q→t.kasWp cmp (fun a s'=>s' = s∧Q a) s
  | .ret a,h=>⟨rfl,h⟩
  | .ask i j k,h=>hc i j _ h.1 h.2.1 (Ho.wp hc h.2.2)
structure Ord (lt:Nat→Nat→Bool) (n:Nat):Prop where
  tri:∀ i j,i < n→j < n→i≠j→lt i j = false→lt j i = true
  tr:∀ i j k,i < n→j < n→k < n→lt i j = true→lt j k = true→lt i k = true
  irr:∀ i,i < n→lt i i = false
structure Pm (n:Nat) (p:Array Nat):Prop where
  size:p.size = n
  small:∀ i,i < n→p.getD i 0 < n
  inj:∀ i j,i < n→j < n→p.getD i 0 = p.getD j 0→i = j
def Asc (lt:Nat→Nat→Bool) (p:Array Nat) (k:Nat):Prop:=∀ i j,i < j→j < k→lt (p.getD i 0) (p.getD j 0) = true
section
variable {lt:Nat→Nat→Bool} {n:Nat} {p:Array Nat}
theorem getD_of {α:Type} {xs ys:Array α} {d:α} {i j:Nat} (h:xs[i]? = ys[j]?):xs.getD i d = ys.getD j d:=by
  rw [Array.getD_eq_getD_getElem?,Array.getD_eq_getD_getElem?,h]
theorem Pm.of_places {q:Array Nat} (P:Pm n p) (hz:q.size = n) (f:Nat→Nat) (hf:∀ i,i < n→f i < n) (fi:∀ i j,i < n→j < n→f i = f j→i = j) (e:∀ i,i < n→q.getD i 0 = p.getD (f i) 0):Pm n q where
  size:=hz
  small:=fun i hi=>by rw [e i hi];exact P.small _ (hf i hi)
  inj:=fun i j hi hj h=>by
    rw [e i hi,e j hj] at h
    exact fi i j hi hj (P.inj _ _ (hf i hi) (hf j hj) h)
theorem rev_getD {j:Nat} (hj:j≤p.size) (k:Nat):(kas_rev p 0 j).getD k 0 = p.getD (if k < j then j - 1 - k else k) 0:=by
  unfold kas_rev
  refine getD_of ?_
  rw [getElem?_mirror_all hj]
  by_cases h:k < j
  · simp only [Nat.zero_le,true_and,h,if_true]
    congr 1;omega
  · simp [h]
theorem rev_pm {j:Nat} (P:Pm n p) (hj:j≤n):Pm n (kas_rev p 0 j):=by
  refine P.of_places (by rw [kas_rev_size,P.size]) (fun k=>if k < j then j - 1 - k else k) (fun i hi=>?_) (fun a b ha hb h=>?_) fun i hi=>rev_getD (by rw [P.size];exact hj) i
  · show (if i < j then j - 1 - i else i) < n
    split <;> omega
  · split at h <;> split at h <;> omega
theorem bub_getD {k l:Nat} (hk:k < p.size) (hl:l≤k) (i:Nat):(bubble p k (k - l)).getD i 0 = p.getD (if i = l then k else if l < i∧i≤k then i - 1 else i) 0:=by
  refine getD_of ?_
  rw [getElem?_bubble hk (k - l) (by omega)]
  have e:k - (k - l) = l:=by omega
  rw [e]
  by_cases h1:i = l
  · simp [h1]
  · by_cases h2:l < i∧i≤k
    · simp [h1,h2]
    · simp [h1,h2]
theorem bub_pm {k l:Nat} (P:Pm n p) (hk:k < n) (hl:l≤k):Pm n (bubble p k (k - l)):=by
  refine P.of_places (by rw [bubble_size,P.size]) (fun i=>if i = l then k else if l < i∧i≤k then i - 1 else i) (fun i hi=>?_) (fun a b ha hb h=>?_) fun i hi=>bub_getD (by rw [P.size];exact hk) hl i
  · show (if i = l then k else if l < i∧i≤k then i - 1 else i) < n
    split
    · exact hk
    · split <;> omega
  · skip
    by_cases a1:a = l <;> by_cases b1:b = l <;> by_cases a2:l < a∧a≤k <;> by_cases b2:l < b∧b≤k <;> simp only [a1,b1,a2,b2,if_true,if_false,and_self] at h <;> omega
variable (O:Ord lt n)
include O
theorem Asc.grow {k:Nat} (P:Pm n p) (A:Asc lt p k) (h1:1≤k) (hk:k < n) (h:lt (p.getD k 0) (p.getD (k - 1) 0) = false):Asc lt p (k + 1):=by
  have h2:lt (p.getD (k - 1) 0) (p.getD k 0) = true:=O.tri _ _ (P.small k hk) (P.small (k - 1) (by omega)) (fun q=>by have:=P.inj _ _ hk (by omega) q;omega) h
  intro i j hij hj
  by_cases e:j = k
  · subst e
    by_cases e2:i = j - 1
    · rw [e2];exact h2
    · exact O.tr _ _ _ (P.small i (by omega)) (P.small (j - 1) (by omega)) (P.small j hk) (A i (j - 1) (by omega) (by omega)) h2
  · exact A i j hij (by omega)
theorem asc_ho {Q:Nat→Prop} (P:Pm n p):∀ (f k:Nat),1≤k→k + f≤n→Asc lt p k→(∀ m,k≤m→m≤k + f→Asc lt p m→(m < k + f→lt (p.getD m 0) (p.getD (m - 1) 0) = true)→Q m)→Ho lt n (kas_asc p f k) Q
  | 0,k,_,_,A,h=>h k (Nat.le_refl _) (Nat.le_refl _) A fun q=>absurd q (by omega)
  | f + 1,k,h1,hn,A,h=>by
    refine ⟨P.small k (by omega),P.small (k - 1) (by omega),?_⟩
    cases c:lt (p.getD k 0) (p.getD (k - 1) 0) with
    | true=>exact h k (Nat.le_refl _) (by omega) A fun _=>c
    | false=>exact asc_ho P f (k + 1) (by omega) (by omega) (Asc.grow O P A h1 (by omega) c) fun m m1 m2 m3 m4=>h m (by omega) (by omega) m3 fun q=>m4 (by omega)
def Dsc (lt:Nat→Nat→Bool) (p:Array Nat) (k:Nat):Prop:=∀ i j,i < j→j < k→lt (p.getD j 0) (p.getD i 0) = true
theorem Dsc.grow {k:Nat} (P:Pm n p) (A:Dsc lt p k) (h1:1≤k) (hk:k < n) (h:lt (p.getD k 0) (p.getD (k - 1) 0) = true):Dsc lt p (k + 1):=by
  intro i j hij hj
  by_cases e:j = k
  · subst e
    by_cases e2:i = j - 1
    · rw [e2];exact h
    · exact O.tr _ _ _ (P.small j hk) (P.small (j - 1) (by omega)) (P.small i (by omega)) h (A i (j - 1) (by omega) (by omega))
  · exact A i j hij (by omega)
theorem desc_ho {Q:Array Nat × Nat × Nat→Prop} (P:Pm n p):∀ (f k:Nat),1≤k→k + f≤n→Dsc lt p k→(∀ m,k≤m→m≤k + f→Dsc lt p m→Q (p,m,0))→Ho lt n (kas_desc f p k 0) Q
  | 0,k,_,_,A,h=>h k (Nat.le_refl _) (Nat.le_refl _) A
  | f + 1,k,h1,hn,A,h=>by
    refine ⟨P.small k (by omega),P.small (k - 1) (by omega),?_⟩
    cases c:lt (p.getD k 0) (p.getD (k - 1) 0) with
    | true =>
      dsimp only
      rw [if_pos rfl,if_neg (by decide)]
      exact desc_ho P f (k + 1) (by omega) (by omega) (Dsc.grow O P A h1 (by omega) c) fun m m1 m2 m3=>h m (by omega) (by omega) m3
    | false =>
      dsimp only
      rw [if_neg (by decide)]
      have h2:lt (p.getD (k - 1) 0) (p.getD k 0) = true:=O.tri _ _ (P.small k (by omega)) (P.small (k - 1) (by omega)) (fun q=>by have:=P.inj _ _ (by omega) (by omega) q;omega) c
      refine ⟨P.small (k - 1) (by omega),P.small k (by omega),?_⟩
      rw [h2]
      dsimp only
      rw [if_pos rfl]
      exact h k (Nat.le_refl _) (by omega) A
theorem count_ho {Q:Nat × Array Nat→Prop} (P:Pm n p) (h2:2≤n) (h:∀ m q,1≤m→m≤n→Pm n q→Asc lt q m→Q (m,q)):Ho lt n (kas_count n p) Q:=by
  unfold kas_count
  have A1:Asc lt p 1:=fun i j hij hj=>by omega
  refine Ho.bind (asc_ho O P (n - 1) 1 (Nat.le_refl _) (by omega) A1 fun m m1 m2 m3 m4=>?_)
  by_cases e:(m == n) = true
  · rw [if_pos e];exact h m p m1 (by omega) P m3
  · rw [if_neg e]
    have hm:m < n:=by
      have:m≠n:=fun q=>e (by simp [q])
      omega
    by_cases e2:m > 1
    · rw [if_pos e2]
      refine ⟨P.small 0 (by omega),P.small (m - 1) (by omega),?_⟩
      rw [m3 0 (m - 1) (by omega) (by omega)]
      dsimp only
      rw [if_pos rfl]
      exact h m p m1 (by omega) P m3
    · rw [if_neg e2]
      have em:m = 1:=by omega
      subst em
      have c:=m4 (by omega)
      have D2:Dsc lt p 2:=fun i j hij hj=>by
        have e1:i = 0:=by omega
        have e2:j = 1:=by omega
        rw [e1,e2];exact c
      unfold kas_descPart
      refine Ho.bind (desc_ho O P (n - (1 + 1)) 2 (by omega) (by omega) D2 fun m m1 m2 D=>?_)
      have e0:¬ ((0:Nat) > 0):=by decide
      simp only [e0,if_false]
      unfold kas_tail3
      have R:=rev_pm P (j:=m) (by omega)
      have AR:Asc lt (kas_rev p 0 m) m:=fun i j hij hj=>by
        rw [rev_getD (by rw [P.size];omega),rev_getD (by rw [P.size];omega),if_pos (by omega),if_pos (by omega)]
        exact D (m - 1 - j) (m - 1 - i) (by omega) (by omega)
      refine Ho.bind (asc_ho O R (n - m) m (by omega) (by omega) AR fun m' a1 a2 a3 _=>?_)
      exact h m' _ (by omega) (by omega) R a3
theorem place_ho {Q:Nat→Prop} {k:Nat} (P:Pm n p) (hk:k < n) (A:Asc lt p k):∀ (f l r:Nat),l≤r→r≤k→r - l≤f→(∀ i,i < l→lt (p.getD i 0) (p.getD k 0) = true)→(∀ i,r≤i→i < k→lt (p.getD k 0) (p.getD i 0) = true) →
    (∀ m,m≤k→(∀ i,i < m→lt (p.getD i 0) (p.getD k 0) = true)→(∀ i,m≤i→i < k→lt (p.getD k 0) (p.getD i 0) = true)→Q m)→Ho lt n (kas_place p k f l r) Q
  | 0,l,r,h1,h2,h3,lo,hi,h=>by
    have e:l = r:=by omega
    subst e
    exact h l h2 lo hi
  | f + 1,l,r,h1,h2,h3,lo,hi,h=>by
    unfold kas_place
    by_cases e:l ≥ r
    · rw [if_pos e]
      have e:l = r:=by omega
      subst e
      exact h l h2 lo hi
    · rw [if_neg e]
      refine ⟨P.small k hk,P.small ((l + r) / 2) (by omega),?_⟩
      cases c:lt (p.getD k 0) (p.getD ((l + r) / 2) 0) with
      | true =>
        dsimp only
        rw [if_pos rfl]
        refine place_ho P hk A f l ((l + r) / 2) (by omega) (by omega) (by omega) lo (fun i i1 i2=>?_) h
        by_cases q:i = (l + r) / 2
        · rw [q];exact c
        · exact O.tr _ _ _ (P.small k hk) (P.small ((l + r) / 2) (by omega)) (P.small i (by omega)) c (A _ i (by omega) i2)
      | false =>
        dsimp only
        rw [if_neg (by decide)]
        have c2:lt (p.getD ((l + r) / 2) 0) (p.getD k 0) = true:=O.tri _ _ (P.small k hk) (P.small ((l + r) / 2) (by omega)) (fun q=>by have:=P.inj _ _ hk (by omega) q;omega) c
        refine place_ho P hk A f ((l + r) / 2 + 1) r (by omega) h2 (by omega) (fun i i1=>?_) hi h
        by_cases q:i = (l + r) / 2
        · rw [q];exact c2
        · exact O.tr _ _ _ (P.small i (by omega)) (P.small ((l + r) / 2) (by omega)) (P.small k hk) (A i _ (by omega) (by omega)) c2
theorem bin_ho {Q:Array Nat→Prop}:∀ (f k:Nat) (p:Array Nat),Pm n p→k + f = n→Asc lt p k→(∀ q,Pm n q→Asc lt q n→Q q)→Ho lt n (kas_bin f p k) Q
  | 0,k,p,P,hk,A,h=>by
    have e:k = n:=by omega
    subst e
    exact h p P A
  | f + 1,k,p,P,hk,A,h=>by
    unfold kas_bin
    refine Ho.bind (place_ho O P (by omega) A k 0 k (Nat.zero_le _) (Nat.le_refl _) (by omega) (fun i hi=>absurd hi (by omega)) (fun i i1 i2=>absurd i1 (by omega)) fun l l1 lo hi=>?_)
    refine bin_ho f (k + 1) _ (bub_pm P (by omega) l1) (by omega) (fun i j hij hj=>?_) h
    rw [bub_getD (by rw [P.size];omega) l1,bub_getD (by rw [P.size];omega) l1]
    by_cases a:i = l
    · rw [if_pos a]
      by_cases b:j = l
      · omega
      · rw [if_neg b,if_pos (by omega)]
        exact hi (j - 1) (by omega) (by omega)
    · rw [if_neg a]
      by_cases b:j = l
      · rw [if_pos b,if_neg (by omega)]
        exact lo i (by omega)
      · rw [if_neg b]
        by_cases c:l < i∧i≤k
        · rw [if_pos c,if_pos (by omega)]
          exact A (i - 1) (j - 1) (by omega) (by omega)
        · rw [if_neg c]
          by_cases d:l < j∧j≤k
          · rw [if_pos d]
            exact A i (j - 1) (by omega) (by omega)
          · rw [if_neg d]
            exact A i j hij (by omega)
theorem range_pm (h0:0 < n):Pm n (List.toArray (List.range n)) where
  size:=by simp
  small:=fun i hi=>by simp [Array.getD,hi]
  inj:=fun i j hi hj h=>by simpa [Array.getD,hi,hj] using h
theorem sort_ho {Q:Array Nat→Prop} (h2:2≤n) (h:∀ q,Pm n q→Asc lt q n→Q q):Ho lt n (kas_sort n) Q:=by
  unfold kas_sort
  refine Ho.bind (count_ho O (range_pm O (by omega)) h2 fun m q m1 m2 P A=>?_)
  by_cases e:m < n
  · simp only [e,if_true]
    have e2:max m 1 = m:=by omega
    rw [e2]
    exact bin_ho O (n - m) m q P (by omega) A h
  · simp only [e,if_false]
    have e2:m = n:=by omega
    subst e2
    exact h q P A
end
end L3
namespace L3
open PySem PySem.W PyProof.Rows
def ikLt (x y:IKey):Bool:=if x.1 = y.1 then decide (x.2 < y.2) else HT.lexLt x.1 y.1
theorem lexLt_irrefl:∀ a:List Int,HT.lexLt a a = false
  | []=>rfl
  | x :: r=>by rw [HT.lexLt_cons,if_pos rfl];exact lexLt_irrefl r
theorem lexLt_tri:∀ a b:List Int,a≠b→HT.lexLt a b = false→HT.lexLt b a = true
  | [],[],h,_=>absurd rfl h
  | [],_ :: _,_,h=>by rw [HT.lexLt_nil_cons] at h;cases h
  | _ :: _,[],_,_=>HT.lexLt_nil_cons _ _
  | x :: r,y :: t,h,g=>by
    rw [HT.lexLt_cons] at g ⊢
    by_cases e:x = y
    · rw [if_pos e] at g
      rw [if_pos e.symm]
      exact lexLt_tri r t (fun q=>h (by rw [e,q])) g
    · rw [if_neg e] at g
      rw [if_neg (fun q=>e q.symm)]
      have:¬ x < y:=by simpa using g
      simp;omega
theorem lexLt_tr:∀ a b c:List Int,HT.lexLt a b = true→HT.lexLt b c = true→HT.lexLt a c = true
  | [],[],_,h,_=>by rw [HT.lexLt_nil_nil] at h;cases h
  | [],_ :: _,[],_,h=>by rw [HT.lexLt_cons_nil] at h;cases h
  | [],_ :: _,_ :: _,_,_=>HT.lexLt_nil_cons _ _
  | _ :: _,[],_,h,_=>by rw [HT.lexLt_cons_nil] at h;cases h
  | _ :: _,_ :: _,[],_,h=>by rw [HT.lexLt_cons_nil] at h;cases h
  | x :: r,y :: t,z :: u,h,g=>by
    rw [HT.lexLt_cons] at h g ⊢
    by_cases e1:x = y
    · subst e1
      rw [if_pos rfl] at h
      by_cases e2:x = z
      · subst e2
        rw [if_pos rfl] at g ⊢
        exact lexLt_tr r t u h g
      · rw [if_neg e2] at g ⊢
        exact g
    · rw [if_neg e1] at h
      have h':x < y:=by simpa using h
      by_cases e2:y = z
      · subst e2
        rw [if_neg e1];simpa using h'
      · rw [if_neg e2] at g
        have g':y < z:=by simpa using g
        rw [if_neg (by omega)];simp;omega
theorem ikLt_irrefl (x:IKey):ikLt x x = false:=by simp [ikLt]
theorem ikLt_tri (x y:IKey) (h:x≠y) (g:ikLt x y = false):ikLt y x = true:=by
  unfold ikLt at g ⊢
  by_cases e:x.1 = y.1
  · rw [if_pos e] at g
    rw [if_pos e.symm]
    have:¬ x.2 < y.2:=by simpa using g
    have ne:x.2≠y.2:=fun q=>h (Prod.ext e q)
    simp;omega
  · rw [if_neg e] at g
    rw [if_neg (fun q=>e q.symm)]
    exact lexLt_tri _ _ e g
theorem ikLt_tr (x y z:IKey) (h:ikLt x y = true) (g:ikLt y z = true):ikLt x z = true:=by
  unfold ikLt at h g ⊢
  by_cases e1:x.1 = y.1
  · rw [if_pos e1] at h
    by_cases e2:y.1 = z.1
    · rw [if_pos e2] at g
      rw [if_pos (e1.trans e2)]
      have h1:x.2 < y.2:=by simpa using h
      have h2:y.2 < z.2:=by simpa using g
      simp;omega
    · rw [if_neg e2] at g
      rw [if_neg (fun q=>e2 (e1.symm.trans q)),e1]
      exact g
  · rw [if_neg e1] at h
    by_cases e2:y.1 = z.1
    · rw [← e2,if_neg e1];exact h
    · rw [if_neg e2] at g
      by_cases e3:x.1 = z.1
      · exfalso
        rw [e3] at h
        have:=lexLt_tr _ _ _ h g
        rw [lexLt_irrefl] at this;cases this
      · rw [if_neg e3]
        exact lexLt_tr _ _ _ h g
section
variable {prog:Program} {w:World} {A:Around} {E:Value→Shared→Prop} {s:Shared}
theorem ints_of_key:∀ {ks:List Int} {us:List Value},ItemsAre (intKind prog w) ks us→IntsAre us ks
  | _,_,.nil=>.nil
  | _,_,.cons h r=>by
    obtain ⟨t,e⟩:=Value.isInt_shape h
    subst e
    exact .cons _ _ (ints_of_key r)
theorem pk_lt {x y:IKey} {a b:Addr} {Q:Bool→Shared→Prop} (hu:A.units + 8 < cLine) (p:IsPK prog w s.heap x a) (q:IsPK prog w s.heap y b) (h:Q (ikLt x y) s) :
    wpAny (model prog w) A (keyLt' (tuples' false) (.ref a) (.ref b)) Q E s:=by
  obtain ⟨o,n,c,t,h1,h2,h3,h4⟩:=p
  obtain ⟨o',n',c',t',g1,g2,g3,g4⟩:=q
  refine kat_lt h1 h3 g1 g3 ?_
  show KatLex prog w A false false Q [(.ref c,.ref c'),(.int x.2 t,.int y.2 t')] 0 s
  unfold ikLt at h
  refine kat_cons ((inKind prog w).eqBool (A:=A) (show A.units < cLine by omega) h4 g4 ?_)
  refine kat_go (fun e=>kat_yes ?_) (fun e=>kat_no ?_)
  · have e1:x.1 = y.1:=of_decide_eq_true e
    rw [if_pos e1] at h
    refine kat_cons (wpAny_eqBool_int ?_)
    refine kat_go (fun e2=>kat_yes ?_) (fun e2=>kat_no ?_)
    · have e3:x.2 = y.2:=by simpa using e2
      rw [decide_eq_false (by omega)] at h
      exact kat_nil h
    · exact oneLt_any_int h
  · have e1:¬ x.1 = y.1:=of_decide_eq_false e
    rw [if_neg e1] at h
    obtain ⟨ox,ix,nx,a1,a2,a3,a4⟩:IsTupleKey (intKind prog w) s.heap x.1 c:=h4
    obtain ⟨oy,iy,ny,b1,b2,b3,b4⟩:IsTupleKey (intKind prog w) s.heap y.1 c':=g4
    exact kat_one _ _ (HT.lt_tupInts ⟨ox,a1,a2,nx,a3⟩ ⟨oy,b1,b2,ny,b3⟩ (ints_of_key a4) (ints_of_key b4) (by omega) h)
theorem IsPK.tups {h g:Heap} {k:IKey} {a:Addr} (x:IsPK prog w h k a) (kp:G.KeepsTups h g):IsPK prog w g k a:=by
  obtain ⟨o,n,b,t,h1,h2,h3,⟨o',its,n',g1,g2,g3,g4⟩⟩:=x
  exact ⟨o,n,b,t,kp a o h1 h2,h2,h3,⟨o',its,n',kp b o' g1 g2,g2,g3,g4⟩⟩
theorem pk_firsts:∀ {xs:List (IKey × Addr)},(∀ x∈xs,IsPK prog w s.heap x.1 x.2)→∃ fs:List Value,KatTups s.heap (xs.map fun x=>Value.ref x.2) fs∧fs.length = xs.length∧∀ v∈fs,∃ b o,v = .ref b∧s.heap.get? b = some o∧o.cls = .type "tuple"
  | [],_=>⟨[],KatTups.nil,rfl,fun v hv=>nomatch hv⟩
  | x :: xs,h=>by
    obtain ⟨fs,k1,k2,k3⟩:=pk_firsts (xs:=xs) fun y hy=>h y (List.mem_cons_of_mem _ hy)
    obtain ⟨o,n,b,t,h1,h2,h3,⟨o',its,n',g1,g2,g3,g4⟩⟩:=h x List.mem_cons_self
    refine ⟨.ref b :: fs,KatTups.cons h1 h2 h3 rfl k1,by simp [k2],fun v hv=>?_⟩
    rcases List.mem_cons.mp hv with rfl | hv
    · exact ⟨b,o',rfl,g1,g2⟩
    · exact k3 v hv
theorem pk_kind {xs:List (IKey × Addr)} {Q:SortKind→Shared→Prop} (hk:∀ x∈xs,IsPK prog w s.heap x.1 x.2) (h0:0 < xs.length) (h:Q (tuples' false) s):wpAny (model prog w) A (keyKind' (xs.map fun x=>Value.ref x.2).toArray) Q E s:=by
  obtain ⟨fs,k1,k2,k3⟩:=pk_firsts hk
  refine kat_kind (T:=Value.type "tuple") k1 (by omega) (fun v hv=>?_) rfl ?_
  · obtain ⟨b,o,rfl,g1,g2⟩:=k3 v hv
    rw [← g2]
    exact (Looks.ld g1).andThen .now
  · have e:(Value.type "tuple" != Value.type "tuple") = false:=by first | rfl | decide | simp
    rw [e];exact h
end
theorem nodup_le {α:Type} [BEq α] [LawfulBEq α]:∀ (l m:List α),l.Nodup→(∀ x∈l,x∈m)→l.length≤m.length
  | [],_,_,_=>Nat.zero_le _
  | x :: l,m,nd,h=>by
    obtain ⟨hx,nd⟩:=List.nodup_cons.mp nd
    have hm:=h x List.mem_cons_self
    have:=nodup_le l (m.erase x) nd fun y hy=>(List.mem_erase_of_ne (fun (z:y = x)=>hx (by rw [← z];exact hy))).mpr (h y (List.mem_cons_of_mem _ hy))
    rw [List.length_erase_of_mem hm] at this
    have:=List.length_pos_of_mem hm
    rw [List.length_cons];omega
theorem pm_perm {n : Nat} {p : Array Nat} (P : Pm n p) : p.toList.Perm (List.range n) := by
  have hl : p.toList.length = n := by rw [Array.length_toList]; exact P.size
  have get : ∀ i (h : i < p.toList.length), p.toList[i] = p.getD i 0 := fun i h => by
    have : i < p.size := by simpa using h
    simp [Array.getD, this]
  have nd : p.toList.Nodup := by
    rw [List.Nodup, List.pairwise_iff_getElem]
    intro i j hi hj hij e
    rw [get i hi, get j hj] at e
    have := P.inj i j (by omega) (by omega) e
    omega
  have sub : ∀ x ∈ p.toList, x < n := fun x hx => by
    obtain ⟨i, hi, e⟩ := List.mem_iff_getElem.mp hx
    rw [get i hi] at e
    rw [← e]
    exact P.small i (by omega)
  refine (List.perm_ext_iff_of_nodup nd List.nodup_range).mpr fun x => ?_
  constructor
  · intro hx
    simpa using sub x hx
  · intro hx
    refine Classical.byContradiction fun q => ?_
    have := nodup_le p.toList ((List.range n).erase x) nd fun y hy => (List.mem_erase_of_ne (fun z => q (by rw [← z]; exact hy))).mpr (by simpa using sub y hy)
    rw [List.length_erase_of_mem hx, hl, List.length_range] at this
    have : 0 < n := by have : x < n := by simpa using hx
                       omega
    omega
section
variable {prog:Program} {w:World} {A:Around} {E:Value→Shared→Prop} {s:Shared}
def pkd:IKey × Addr:=(([],0),0)
theorem sort_pk {a:Addr} {xs:List (IKey × Addr)} {m:Nat} {P:Fin→Shared→Prop} (hu:A.units + 8 < cLine) (ho:s.heap.get? a = some (seqObj "list" (xs.map fun x=>Value.ref x.2).toArray m)) (hk:∀ x∈xs,IsPK prog w s.heap x.1 x.2)
    (nd:(xs.map (·.1)).Nodup) (h64:xs.length < 64)
    (h:∀ ys:List (IKey × Addr),ys.Perm xs→ys.Pairwise (fun x y=>ikLt x.1 y.1 = true)→P (.done (.ret .none)) { s with heap:=sortedHeap s.heap a (xs.map fun x=>Value.ref x.2) (ys.map fun x=>Value.ref x.2).toArray }) :
    wpAny (model prog w) A (Builtin.«list.sort» ⟨[.ref a],[]⟩) P E s:=by
  rw [list_sort_plain]
  have la:a < s.heap.objs.size:=Heap.lt_size ho
  have hz:(xs.map fun x=>Value.ref x.2).length = xs.length:=by simp
  have small:∀ {k:Nat},k≤xs.length→k≤sizeLine:=fun hk=>by rw [sizeLine_eq];omega
  refine wpAny_bind (listItems_at ho rfl ?_)
  refine wpAny_bind (listUpdate_at ho rfl ?_ (by rw [List.size_toArray];exact small (Nat.le_of_eq hz)) (Nat.zero_le _))
  obtain ⟨e1,ho1⟩:∃ e1,(s.heap.update a (Obj.mapSeq fun _=>#[])).get? a = some (seqObj "list" #[] e1):=⟨_,get?_update_seq ho (fun _=>#[])⟩
  refine wpAny_bind (seqEpoch_at ho1 rfl ?_)
  refine wpAny_bind (wpAny_newTuple ?_ (small (Nat.le_of_eq hz)))
  refine wpAny_bind (wpAny_newList ?_ (Nat.zero_le _))
  refine wpAny_holding ?_
  have ho6:(G.sortHeap6 s.heap a (xs.map fun x=>Value.ref x.2)).get? a = some (seqObj "list" #[] e1):=by
    unfold G.sortHeap6
    rw [Heap.get?_push_ne _ _ _ (by rw [size_push',Heap.size_update];exact Nat.ne_of_lt (Nat.lt_succ_of_lt la)),Heap.get?_push_ne _ _ _ (by rw [Heap.size_update];exact Nat.ne_of_lt la)]
    exact ho1
  have kp:=G.keeps_sort6 (vs:=xs.map fun x=>Value.ref x.2) ho
  show wpAny (model prog w) A _ P E { s with heap:=G.sortHeap6 s.heap a (xs.map fun x=>Value.ref x.2) }
  dsimp only
  have hk6:∀ x∈xs,IsPK prog w (G.sortHeap6 s.heap a (xs.map fun x=>Value.ref x.2)) x.1 x.2:=fun x hx=>(hk x hx).tups kp
  have szz:(xs.map fun x=>Value.ref x.2).toArray.size = xs.length:=by simp
  by_cases h2:(xs.map fun x=>Value.ref x.2).toArray.size < 2
  · rw [if_pos h2,if_pos h2]
    refine wpAny_bind (wpAny_pure ?_)
    rw [StateT.run_pure]
    refine wpAny_bind (wpAny_pure ?_)
    dsimp only
    refine wpAny_bind (seqEpoch_at ho6 rfl ?_)
    have outE:(arrOf (SortSt.mk' general' ((xs.map fun x=>Value.ref x.2).toArray.zip (xs.map fun x=>Value.ref x.2).toArray) #[] 7 none)).map (·.2) = (xs.map fun x=>Value.ref x.2).toArray:=by
      show (((xs.map fun x=>Value.ref x.2).toArray.zip (xs.map fun x=>Value.ref x.2).toArray)).map (·.2) = _
      apply Array.toList_inj.mp
      rw [Array.toList_map,Array.toList_zip]
      exact List.map_snd_zip (Nat.le_refl _)
    rw [outE]
    refine wpAny_bind (listUpdate_at ho6 rfl ?_ (Nat.zero_le _) (by rw [List.size_toArray];exact Nat.le_succ_of_le (small (Nat.le_of_eq hz))))
    simp only [bne_self_eq_false,Bool.false_eq_true,if_false]
    refine wpAny_pure (h xs (List.Perm.refl _) ?_)
    have hl:xs.length < 2:=by omega
    match xs,hl with
    | [],_=>exact .nil
    | [x],_=>simp
  · rw [if_neg h2,if_neg h2]
    have h2':2≤xs.length:=by omega
    refine wpAny_bind (pk_kind (s:={ s with heap:=G.sortHeap6 s.heap a (xs.map fun x=>Value.ref x.2) }) hk6 (by omega) ?_)
    let lt:Nat→Nat→Bool:=fun i j=>ikLt (xs.getD i pkd).1 (xs.getD j pkd).1
    have keyNe:∀ i j,i < xs.length→j < xs.length→i≠j→(xs.getD i pkd).1≠(xs.getD j pkd).1:=fun i j hi hj hne q=>hne (by
      have e1:xs.getD i pkd = xs[i]:=by simp [hi]
      have e2:xs.getD j pkd = xs[j]:=by simp [hj]
      rw [e1,e2] at q
      refine (List.getElem?_inj (l:=xs.map (·.1)) (i:=i) (j:=j) (by simpa using hi) nd).mp ?_
      simp [hi,hj,q])
    have O:Ord lt xs.length:=⟨fun i j hi hj hne g=>ikLt_tri _ _ (keyNe i j hi hj hne) g,fun i j k _ _ _ g1 g2=>ikLt_tr _ _ _ g1 g2,fun i _=>ikLt_irrefl _⟩
    have run:=kat_run (E:=E) (A:=A) (prog:=prog) (w:=w) (s:={ s with heap:=G.sortHeap6 s.heap a (xs.map fun x=>Value.ref x.2) }) (κ:=tuples' false) (ks:=xs.map fun x=>Value.ref x.2) (vs:=xs.map fun x=>Value.ref x.2)
      (Q:=fun st' s'=>∃ p:Array Nat,s' = { s with heap:=G.sortHeap6 s.heap a (xs.map fun x=>Value.ref x.2) }∧arrOf st' = p.map (kas_item ((xs.map fun x=>Value.ref x.2).toArray.zip (xs.map fun x=>Value.ref x.2).toArray))∧failedOf st' = none∧Pm xs.length p∧Asc lt p xs.length)
      (G:=fun p s'=>s' = { s with heap:=G.sortHeap6 s.heap a (xs.map fun x=>Value.ref x.2) }∧Pm xs.length p∧Asc lt p xs.length) rfl (by omega) (by omega) (fun p st' s' _ b2 b3 b4=>⟨p,b4.1,b2,b3,b4.2.1,b4.2.2⟩) (by
        rw [hz]
        refine Ho.wp (n:=xs.length) (lt:=lt) (fun i j C hi hj hC=>?_) (sort_ho O h2' fun q P A=>⟨P,A⟩)
        unfold kas_ask
        have g1:(xs.map fun x=>Value.ref x.2).getD i Value.none = Value.ref (xs.getD i pkd).2:=by simp [hi]
        have g2:(xs.map fun x=>Value.ref x.2).getD j Value.none = Value.ref (xs.getD j pkd).2:=by simp [hj]
        rw [g1,g2]
        have m1:xs.getD i pkd∈xs:=by
          have:xs.getD i pkd = xs[i]:=by simp [hi]
          rw [this];exact List.getElem_mem hi
        have m2:xs.getD j pkd∈xs:=by
          have:xs.getD j pkd = xs[j]:=by simp [hj]
          rw [this];exact List.getElem_mem hj
        exact pk_lt (s:={ s with heap:=G.sortHeap6 s.heap a (xs.map fun x=>Value.ref x.2) }) hu (hk6 _ m1) (hk6 _ m2) hC)
    refine wpAny_bind (wpAny_mono run ?_ fun _ _ e=>e)
    rintro ⟨⟨⟩,st'⟩ s' ⟨p,rfl,b2,b3,Pp,Aa⟩
    dsimp only
    have hout:=kat_snds (vs:=xs.map fun x=>Value.ref x.2) (ks:=xs.map fun x=>Value.ref x.2) rfl b2
    have e3:(p.toList.map fun i=>(xs.map fun x=>Value.ref x.2).getD i Value.none) = (p.toList.map fun i=>xs.getD i pkd).map fun x=>Value.ref x.2:=by
      rw [List.map_map]
      refine List.map_congr_left fun i hi=>?_
      have:i < xs.length:=by
        have:=(pm_perm Pp).subset hi
        simpa using this
      simp [this]
    have pl:p.toList.length = xs.length:=by rw [Array.length_toList];exact Pp.size
    rw [hout,e3]
    refine wpAny_bind (seqEpoch_at ho6 rfl ?_)
    refine wpAny_bind (listUpdate_at ho6 rfl ?_ (Nat.zero_le _) (by rw [List.size_toArray,List.length_map,List.length_map,pl];exact Nat.le_succ_of_le (small (Nat.le_refl _))))
    rw [b3]
    simp only [bne_self_eq_false,Bool.false_eq_true,if_false]
    refine wpAny_pure (h _ ?_ ?_)
    · have e4:xs = (List.range xs.length).map fun i=>xs.getD i pkd:=by
        apply List.ext_getElem
        · simp
        · intro i i1 i2;simp [i1]
      conv=>rhs;rw [e4]
      exact (pm_perm Pp).map _
    · rw [List.pairwise_map,List.pairwise_iff_getElem]
      intro i j hi hj hij
      have:=Aa i j hij (by omega)
      have ei:p.toList[i] = p.getD i 0:=by
        have:i < p.size:=by simpa using hi
        simp [Array.getD,this]
      have ej:p.toList[j] = p.getD j 0:=by
        have:j < p.size:=by simpa using hj
        simp [Array.getD,this]
      rw [ei,ej];exact this
end
end L3
namespace L3
open PySem PySem.Spec PyProof.Rows L2
section
variable {X:Cx}
def CBig (i j:Int):Prop:=i.natAbs < 2 ^ 4000∧j.natAbs < 2 ^ 4000
theorem CBig.ok {i j:Int} (h:CBig i j):IntMulOk i j:=IntMulOk.of_le (m:=4000) (n:=4000) (intBits_le_iff.mpr h.1) (intBits_le_iff.mpr h.2) (by decide)
theorem op_mulB:OpR X (binaryOp .Mult) (rI CBig fun i j=>.int (i * j)):=opI fun _ _ _ _ _ _ _ hc q=>mul_int q hc.ok
def rCatA (K:PySem.W.Frag):R2:=fun x y H Q=>∃ a b xs ys,x = .ref a∧y = .ref b∧SqT K H a xs∧SqT K H b ys∧xs.length + ys.length≤sizeLine ∧
  (xs = []→Q (.ref b) H)∧(xs≠[]→ys = []→Q (.ref a) H)∧(xs≠[]→ys≠[]→∀ p,H p = none→Q (.ref p) (upd H p (.tup (xs ++ ys))))
theorem op_catA:OpR X (binaryOp .Add) (rCatA X.K):=by
  intro pins s σ H x y v u Q I rx ry h
  obtain ⟨a,b,xs,ys,rfl,rfl,ha,hb,hz,q0,q1,q2⟩:=h
  cases rx
  cases ry
  obtain ⟨i1,r1,p1,_⟩:=I.tuple ha
  obtain ⟨i2,r2,p2,_⟩:=I.tuple hb
  by_cases e0:xs = []
  · have e0':=r1.nil_iff.mpr e0
    obtain ⟨m,F⟩:=I.fr
    exact add_tuples F News.nil p1 p2 (fun _=>⟨.ref b,H,I,rfl,q0 e0⟩) (fun e1=>absurd e0' e1) (fun e1=>absurd e0' e1) (by rw [← r1.length,← r2.length];exact hz)
  · exact op_catT pins s σ H (.ref a) (.ref b) _ _ Q I rfl rfl ⟨a,b,xs,ys,rfl,rfl,ha,hb,e0,hz,q1 e0,q2 e0⟩
theorem int_at {ns:List Int} {its:List Value} (hi:IntsAre its ns):∀ {i:Nat} {v:Value},its[i]? = some v→∃ t,v = .int (ns.getD i 0) t:=by
  induction hi with
  | nil=>intro i v h;simp at h
  | cons n t r ih =>
    intro i v h
    cases i with
    | zero=>simp at h;exact ⟨t,by simp [← h]⟩
    | succ i=>simpa using ih (i:=i) (by simpa using h)
theorem truth_ints {prog:Program} {w:World} {A:Around} {ns:List Int} {its:List Value} (hi:IntsAre its ns):TruthOf prog w A (fun i v=>its.toArray[i]? = some v) (fun i=>ns.getD i 0 != 0):=fun i v s Q E hv hq=>by
  obtain ⟨t,rfl⟩:=int_at hi (show its[i]? = some v by simpa using hv)
  exact PySem.P.truthy_int hq
theorem any_ints:∀ ns:List Int,(List.range ns.length).any (fun i=>ns.getD i 0 != 0) = ns.any fun x=>x != 0
  | []=>rfl
  | n :: ns=>by
    rw [List.length_cons,List.range_succ_eq_map,List.any_cons,List.any_map,List.any_cons,← any_ints ns]
    rfl
def rAnyI (K:PySem.W.Frag):List V→Hp→VK→Prop:=fun vs H Q=>∃ (a:Addr) (ns:List Int),vs = [V.ref a]∧(SqL K H a (ns.map V.int)∨SqT K H a (ns.map V.int))∧Q (.bl (ns.any fun x=>x != 0)) H
theorem cr_anyI (hc:X.calm = true):CallR X (.builtin "any") (rAnyI X.K):=by
  intro pins s σ H vs us Q I r h
  obtain ⟨a,ns,rfl,hs,q⟩:=h
  rw [Vals.ref1 r]
  rcases hs with hs | hs
  · obtain ⟨its,rv,hl,_⟩:=I.list hs
    have hi:=rv.ints
    refine call_any_walk (iter_any hl.isList fun s2 e2 st hne=>?_)
    subst e2
    refine ⟨_,_,_,_,_,_,_,rfl,Walks.list (A:=X.A.in1) (I.ok.hd hc) _ a hne its.toArray,st,truth_ints hi,fun g tk kp=>⟨.bl _,H,I.kept fun b o eo=>kp b o (fun hm=>?_) (Heap.get?_push_of_some _ eo),?_,q⟩⟩
    · rcases List.mem_cons.mp hm with e1 | hm
      · exact absurd (e1 ▸ Heap.lt_size eo) (Nat.lt_irrefl _)
      · cases hm
    · show Value.bool _ = Value.bool _
      rw [← any_ints,List.size_toArray,hi.length]
  · obtain ⟨its,rv,ht,_⟩:=I.tuple hs
    have hi:=rv.ints
    have ht':s.heap.IsTuple a its.toArray:=ht
    have la:a < s.heap.objs.size:=by obtain ⟨_,e,_⟩:=ht';exact Heap.lt_size e
    refine call_any_walk (wpAny_pyIter_tuple ht' ?_)
    refine ⟨_,_,_,_,_,_,_,rfl,Walks.tuple (A:=X.A.in1) (I.ok.hd hc) _ a (Nat.ne_of_lt la) its.toArray,⟨⟨_,Heap.get?_push_size _ rfl,rfl,rfl⟩,ht'.push _⟩,truth_ints hi,fun g tk kp=>⟨.bl _,H,I.kept fun b o eo=>kp b o (fun hm=>?_) (Heap.get?_push_of_some _ eo),?_,q⟩⟩
    · rcases List.mem_cons.mp hm with e1 | hm
      · exact absurd (e1 ▸ Heap.lt_size eo) (Nat.lt_irrefl _)
      · cases hm
    · show Value.bool _ = Value.bool _
      rw [← any_ints,List.size_toArray,hi.length]
theorem PI.or {tg e:Expr} {w1 w2:TI} (h1:PI X tg e w1) (h2:PI X tg e w2):PI X tg e (fun σ H R=>w1 σ H R∨w2 σ H R):=fun pins s σ H R I h =>
  h.elim (h1 pins s σ H R I) (h2 pins s σ H R I)
end
def ItzT (K:PySem.W.Frag) (a b:Addr):It :=
  ⟨fun i H=>∃ (xs ys:List V) (x y:V),SqT K H a xs∧SqT K H b ys∧xs[i]? = some x∧ys[i]? = some y,
    fun i H v H'=>∃ T x y,v = .ref T∧H T = none∧H' = upd H T (.tup [x,y])∧(∀ xs,SqT K H a xs→xs[i]? = some x)∧∀ ys,SqT K H b ys→ys[i]? = some y,
    fun i H=>∃ xs ys:List V,SqT K H a xs∧SqT K H b ys∧(xs.length≤i∨ys.length≤i)⟩
theorem turn_zipT {P:Program} {w:World} {K:PySem.W.Frag} {elts:List Expr} {kk:Nat} {tpos:Pos} {a b z T1 T2 i1 i2:Addr} (D:ZipApart z T1 T2 i1 i2 a b) :
    Turn P w K (.Tuple elts kk tpos) (ItzT K a b) [z,T1,T2,i1,i2] z (fun i h=>IsZip h z T1 T2 .none∧IsPair h T1 (.ref i1) (.ref i2)∧(∃ x y,IsPair h T2 x y)∧h.IsTupleIter i1 a i∧h.IsTupleIter i2 b i) where
  mem:=by simp
  obj:=fun i h st c hc=>by
    obtain ⟨hz,h1,⟨x,y,h2⟩,⟨o1,e1,_,d1⟩,⟨o2,e2,_,d2⟩⟩:=st
    have hc:c = z∨c = T1∨c = T2∨c = i1∨c = i2:=by simpa using hc
    rcases hc with rfl | rfl | rfl | rfl | rfl
    · exact ⟨_,hz,fun v q=>nomatch q⟩
    · exact ⟨_,h1,fun v q=>nomatch q⟩
    · exact ⟨_,h2,fun v q=>nomatch q⟩
    · exact ⟨o1,e1,fun v q=>by rw [d1] at q;cases q⟩
    · exact ⟨o2,e2,fun v q=>by rw [d2] at q;cases q⟩
  keep:=fun i h h' st k=>by
    obtain ⟨hz,h1,⟨x,y,h2⟩,s1,s2⟩:=st
    exact ⟨k z (by simp) _ hz,k T1 (by simp) _ h1,⟨x,y,k T2 (by simp) _ h2⟩,s1.at fun o q=>k i1 (by simp) o q,s2.at fun o q=>k i2 (by simp) o q⟩
  item:=by
    intro X hP hw hK hc i pins s σ H E I hf st hg
    subst hP hw hK
    obtain ⟨hz,h1,⟨x0,y0,h2⟩,s1,s2⟩:=st
    obtain ⟨xs,ys,x,y,hqx,hqy,hx,hy⟩:=hg
    obtain ⟨its,rv,p,_⟩:=I.tuple hqx
    obtain ⟨its2,rv2,p2,_⟩:=I.tuple hqy
    obtain ⟨u,hu,ru⟩:=rv.get hx
    obtain ⟨u2,hu2,ru2⟩:=rv2.get hy
    have lz:z < s.heap.objs.size:=Heap.lt_size hz
    refine nextZip_more D (steps_tuple _ _ i1 a D.l1i1 its.toArray) (steps_tuple _ _ i2 b D.l2i2 its2.toArray) hz h1 h2 ⟨s1,p⟩ ⟨s2,p2⟩ (x:=u) (y:=u2) (by simpa using hu) (by simpa using hu2) fun g z' T' n1 n2 pN _ kp=>?_
    refine ⟨_,rfl,wpAny_letOwnedTupleGo_zip (s:={ s with heap:=g }) z' fun g2 z2 sb=>?_⟩
    have pN2:g2.get? s.heap.objs.size = some { cls:=.type "tuple",data:=.seq #[u,u2] }:=(sb.2 _ (Nat.ne_of_gt lz)).trans pN
    have new:ObjOk X.prog X.w (upd H s.heap.objs.size (.tup [x,y])) g2 s.heap.objs.size (.tup [x,y]):=⟨by show 2≤sizeLine;decide,[u,u2],.cons ru (.cons ru2 .nil),⟨_,pN2,rfl,_,rfl⟩⟩
    have out:∀ {c:Addr},c ∉ [z,T1,T2,i1,i2]→c≠z∧c≠T2∧c≠i1∧c≠i2:=fun hb=>⟨fun q=>hb (by simp [q]),fun q=>hb (by simp [q]),fun q=>hb (by simp [q]),fun q=>hb (by simp [q])⟩
    have I1:Inv X pins σ (upd H s.heap.objs.size (.tup [x,y])) { s with heap:=g2 } :=
      I.turnedNew (t':=s.toks) (ch:=[z,T1,T2,i1,i2]) (fun c o hb q=>by obtain ⟨a1,a2,a3,a4⟩:=out hb;exact (sb.2 c a1).trans (kp c o a1 a2 a3 a4 q)) hf (Nat.le_refl _) new
    refine ⟨.ref s.heap.objs.size,_,I1,rfl,⟨_,x,y,rfl,I.hok.fresh (Nat.le_refl _),rfl,fun l hl=>by rw [I.tuple_inj hl hqx];exact hx,fun l hl=>by rw [I.tuple_inj hl hqy];exact hy⟩,⟨z2,?_,⟨u,u2,?_⟩,?_,?_⟩,fun c hcm=>?_⟩
    · exact (sb.2 _ D.TIz).trans (kp _ _ D.TIz D.TITO D.TIi1 D.TIi2 h1)
    · exact (sb.2 _ D.TOz).trans T'
    · exact n1.1.at fun o q=>(sb.2 _ D.i1z).trans q
    · exact n2.1.at fun o q=>(sb.2 _ D.i2z).trans q
    · have lc:c < s.heap.objs.size:=by
        have hcm:c = z∨c = T1∨c = T2∨c = i1∨c = i2:=by simpa using hcm
        rcases hcm with rfl | rfl | rfl | rfl | rfl
        · exact lz
        · exact Heap.lt_size h1
        · exact Heap.lt_size h2
        · obtain ⟨_,e1,_⟩:=s1;exact Heap.lt_size e1
        · obtain ⟨_,e2,_⟩:=s2;exact Heap.lt_size e2
      rw [upd_ne (Nat.ne_of_lt lc)]
      exact (hf c hcm).1
  done:=by
    intro X hP hw hK hc i pins s σ H E I hf st hg
    subst hP hw hK
    obtain ⟨hz,h1,⟨x0,y0,h2⟩,s1,s2⟩:=st
    obtain ⟨xs,ys,hqx,hqy,hend⟩:=hg
    obtain ⟨its,rv,p,_⟩:=I.tuple hqx
    obtain ⟨its2,rv2,p2,_⟩:=I.tuple hqy
    have l1:=rv.length
    have l2:=rv2.length
    have he:its.toArray[i]? = none∨its2.toArray[i]? = none:=by
      rcases hend with q | q
      · exact .inl (by simp;omega)
      · exact .inr (by simp;omega)
    exact nextZip_over (I.ok.hd hc) D (steps_tuple _ _ i1 a D.l1i1 its.toArray) (steps_tuple _ _ i2 b D.l2i2 its2.toArray) hz h1 h2 ⟨s1,p⟩ ⟨s2,p2⟩ he fun g kp=>⟨rfl,I.turnedL (t':=s.toks) (ch:=[z,T1,T2,i1,i2]) (fun c o hb q =>
      kp c o (fun q'=>hb (by simp [q'])) (fun q'=>hb (by simp [q'])) (fun q'=>hb (by simp [q'])) (fun q'=>hb (by simp [q'])) q) hf⟩
  self:=fun A i s Q E st h=>wpAny_pyIter_zip st.1 h
def iZipT (K:PySem.W.Frag) (ta:TA):TI:=fun σ H R=>ta σ H fun vs H1=>∃ a b xs ys,vs = [.ref a,.ref b]∧SqT K H1 a xs∧SqT K H1 b ys∧R (ItzT K a b) H1
theorem pi_zipT {X:Cx} {e e2:Expr} {ta:TA} {p pos tpos:Pos} {elts:List Expr} {kk:Nat} (hg:Gl X "zip") (hm:X.mg "zip" = none) (ha:PA X [e,e2] ta)
    (hs:starEach [e,e2] X.env = (false,eval e X.env) :: starEach [e2] X.env:=by rfl) (hpl:(backTo pos (starEach [e2] X.env)).any (·.1) = false:=by rfl) :
    PI X (.Tuple elts kk tpos) (.Call (.Name "zip" p) [e,e2] [] pos) (iZipT X.K ta):=by
  intro pins s σ H R I h
  refine Call_ (ld_blt I hg hm boot_zip5 (PyProof.Rows.callWith_type1 (thn (ha pos pins s σ H _ I h) fun us s1 ⟨vs,H1,I1,r1,q1⟩=>?_) hs hpl))
  obtain ⟨a,b,xs,ys,ex,hqx,hqy,q⟩:=q1
  subst ex
  obtain ⟨u1,u2,rfl,ra,rb⟩:=vals2 r1
  cases ra
  cases rb
  obtain ⟨its,rv,p1,_⟩:=I1.tuple hqx
  obtain ⟨its2,rv2,p2,_⟩:=I1.tuple hqy
  have la:a < s1.heap.objs.size:=p1.lt
  have lb:b < s1.heap.objs.size:=p2.lt
  refine call_zipT (show s1.heap.IsTuple a its.toArray from p1) (show s1.heap.IsTuple b its2.toArray from p2) fun g hz h1 h2 n1 n2 _ kp=>wpAny_pyIter_zip hz ?_
  have I2:Inv X pins σ H1 { s1 with heap:=g }:=I1.kept (t':=s1.toks) kp
  refine ⟨s1.heap.objs.size + 4,[s1.heap.objs.size + 4,s1.heap.objs.size + 2,s1.heap.objs.size + 3,s1.heap.objs.size,s1.heap.objs.size + 1],_,_,H1,rfl,I2,turn_zipT (PySem.W.ktu_apart s1.heap.objs.size a b la lb),⟨hz,h1,⟨_,_,h2⟩,n1,n2⟩,fun c hcm=>?_,q⟩
  have e':c = s1.heap.objs.size + 4∨c = s1.heap.objs.size + 2∨c = s1.heap.objs.size + 3∨c = s1.heap.objs.size∨c = s1.heap.objs.size + 1:=by simpa using hcm
  have hle:s1.heap.objs.size≤c:=by
    rcases e' with z | z | z | z | z <;> rw [z] <;> first | exact Nat.le_add_right _ _ | exact Nat.le_refl _
  exact I1.fpOk hle (I1.hok.fresh hle)
end L3
namespace L3
open PySem PySem.Spec PyProof.Rows L2
def PD (P:Program) (w:World) (a:Addr) (xs:List (IKey × Addr × Value)):Heap→Prop:=fun h=>(a == sysModules) = false∧xs.length≤sizeLine∧∃ o es ep,h.get? a = some o∧o.ExactDict∧o.data = .dict es ep∧es.toList = xs.map (entryOfKey (pairKind P w))∧(xs.map (·.1)).Nodup
def PDo (P:Program) (w:World) (a:Addr) (xs:List (IKey × Addr × Value)):HO:=.ext (PD P w a xs)
def KAt (H:Hp) (k:IKey) (a:Addr):Prop:=∃ b,H a = some (.tup [.ref b,.int k.2])∧H b = some (.tup (k.1.map V.int))
theorem KAt.same {H H':Hp} {k:IKey} {a:Addr} (s:Same H H') (x:KAt H k a):KAt H' k a:=let ⟨b,h1,h2⟩:=x;⟨b,s _ _ h1,s _ _ h2⟩
theorem itemsI {P:Program} {w:World}:∀ {ns:List Int} {us:List Value},Vals (ns.map V.int) us→ItemsAre (intKind P w) ns us
  | [],_,.nil=>.nil
  | n :: ns,_,.cons h r=>by
    obtain ⟨t,rfl⟩:=h
    refine .cons ?_ (itemsI r)
    show Value.isInt n (.int n t) = true
    simp [Value.isInt]
theorem KAt.pk {P:Program} {w:World} {H:Hp} {h:Heap} {k:IKey} {a:Addr} (x:KAt H k a) (ok:HOk P w H h):IsPK P w h k a:=by
  obtain ⟨b,h1,h2⟩:=x
  obtain ⟨_,its,r,o,g1,g2,n,g3⟩:=(show ObjOk P w H h a (.tup [.ref b,.int k.2]) from ok a _ h1)
  obtain ⟨_,its2,r2,o2,f1,f2,n2,f3⟩:=(show ObjOk P w H h b (.tup (k.1.map V.int)) from ok b _ h2)
  obtain ⟨u1,u2,rfl,ra,rb⟩:=vals2 r
  cases ra
  obtain ⟨t,rfl⟩:=rb
  exact ⟨o,n,b,t,g1,g2,g3,⟨o2,its2.toArray,n2,f1,f2,f3,by simpa using itemsI r2⟩⟩
theorem pd_obj {P:Program} {w:World} {H:Hp} {h:Heap} {a:Addr} {xs:List (IKey × Addr × Value)} (x:PD P w a xs h):ObjOk P w H h a (PDo P w a xs):=by
  refine ⟨x,?_,fun h1 h2 p kp=>?_⟩
  · obtain ⟨_,_,o,_,_,e,_⟩:=x;exact ⟨o,e⟩
  · obtain ⟨p0,p1,o,es,ep,q1,q2⟩:=p
    exact ⟨p0,p1,o,es,ep,kp o q1,q2⟩
theorem pd_dict {P:Program} {w:World} {H:Hp} {h:Heap} {a:Addr} {xs:List (IKey × Addr × Value)} (ok:HOk P w H h) (e:H a = some (PDo P w a xs)) (hk:∀ x∈xs,KAt H x.1 x.2.1):(a == sysModules) = false∧xs.length≤sizeLine∧h.DictOfH (pairKind P w) a xs:=by
  obtain ⟨⟨p0,p1,o,es,ep,q1,q2,q3,q4,q5⟩,_⟩:=(show ObjOk P w H h a (PDo P w a xs) from ok a _ e)
  exact ⟨p0,p1,o,es,ep,q1,q2,q3,q4,fun x hx=>(hk x hx).pk ok,q5⟩
section
variable {X:Cx} {o i value:Expr} {td ty tv:TE} {pos pos':Pos}
def tDNewP (P:Program) (w:World):TE:=fun _ H Q=>∀ p,H p = none→Q (.ref p) (upd H p (PDo P w p []))
theorem pe_dnewP:PE X (.Dict [] [] pos) (tDNewP X.prog X.w):=fun pins s σ H Q I h =>
  wpAny_Dict_empty ⟨.ref s.heap.objs.size,_,I.laid (a:=s.heap.objs.size) (o:=PDo X.prog X.w s.heap.objs.size []) (t':=s.toks) (fun _ _ q=>Heap.get?_push_of_some _ q) (Nat.le_refl _)
    (pd_obj ⟨beq_eq_false_iff_ne.mpr (Ne.symm (Nat.ne_of_lt I.big)),Nat.zero_le _,_,#[],0,Heap.get?_push_size _ rfl,⟨rfl,rfl,rfl⟩,rfl,rfl,List.nodup_nil⟩),rfl,h _ (I.hok.fresh (Nat.le_refl _))⟩
def sDPutP (P:Program) (w:World) (td ty tv:TE):TS:=fun D σ H=>tv σ H fun v H1=>td σ H1 fun x H2=>ty σ H2 fun y H3=>∃ a b k xs c,v = .bl c∧x = .ref a∧y = .ref b∧H3 a = some (PDo P w a xs)∧KAt H3 k b∧(∀ x∈xs,KAt H3 x.1 x.2.1)∧xs.length < sizeLine ∧
  D.nx σ (upd H3 a (PDo P w a (storedH xs k b (.bool c))))
theorem storedH_len {K:Type} [DecidableEq K] (xs:List (K × Addr × Value)) (k:K) (a:Addr) (v:Value):(storedH xs k a v).length≤xs.length + 1:=by
  unfold storedH
  split <;> simp
theorem ps_dputP (hu:X.A.units + 64 < cLine) (ho:PE X o td) (hi:PE X i ty) (hv:PE X value tv) (hs:swapsWith value (some (.Subscript o i pos')) pos.line X.env = pure false) :
    PS X (.Assign [.Subscript o i pos'] value pos) (sDPutP X.prog X.w td ty tv):=by
  intro pins s σ H D I h
  refine wpAny_Assign_Subscript (thn (hv pins s σ H _ I h) fun r s1 ⟨v,H1,I1,rv,q1⟩=>thn (ho pins s1 σ H1 _ I1 q1) fun u s2 ⟨x,H2,I2,rx,q2⟩=>thn (hi pins s2 σ H2 _ I2 q2) fun iv s3 ⟨y,H3,I3,ry,a,b,k,xs,c,e1,e2,e3,hd,hk,hks,hl,q3⟩=>?_) hs
  subst e1 e2 e3
  cases rv
  cases rx
  cases ry
  obtain ⟨m0,m1,dd⟩:=pd_dict I3.hok hd hks
  refine wpAny_setItem_heap (knd:=pairKind X.prog X.w) (hsz:=m1) (show X.A.in1.units + 8 < cLine by show X.A.units + 1 + 8 < cLine;omega) (hk.pk I3.hok) dd fun g dd' sb=>?_
  obtain ⟨q,es,ep,hq,f2,f3,f4,_,f5⟩:=dd'
  have hl':=storedH_len xs k b (.bool c)
  exact ⟨σ,_,d_write I3 (by rw [hd];exact True.intro) sb ⟨q,hq⟩ (pd_obj ⟨m0,by omega,q,es,ep,hq,f2,f3,f4,f5⟩),q3⟩
end
theorem src_dict {prog:Program} {w:World} {d:Addr} {es:Array DictEntry} {ep:Nat} (lo:(d == sysModules) = false) :
    PySem.W.KdlSrc prog w "dict" d d es.size (fun i v=>∃ en,es[i]? = some en∧v = en.key) (fun h=>∃ o,h.get? d = some o∧o.ExactDict∧o.data = .dict es ep) where
  type:=fun s ⟨o,h1,h2,_⟩=>⟨o,h1,h2.1⟩
  there:=fun h ⟨o,h1,_⟩=>⟨Heap.lt_size h1,Heap.lt_size h1⟩
  keep:=fun h g ⟨o,h1,h2⟩ k=>⟨o,k d (.inl rfl) o h1,h2⟩
  notList:=by decide
  notTuple:=by decide
  hint:=fun A E s Q ⟨o,h1,h2,_⟩ hq=>PySem.W.kdl_hint_dict ⟨o,h1,h2.1⟩ hq
  iter:=fun A s hh ⟨o,h1,h2,h3⟩=>by
    have ne:d≠s.heap.objs.size:=Nat.ne_of_lt (Heap.lt_size h1)
    refine ⟨_,fun i h=>h.IsKeyIter s.heap.objs.size d i es.size ep∧∃ o,h.get? d = some o∧o.ExactDict∧o.data = .dict es ep,fun E Q hq=>iter_keys lo h1 h2 h3 hq,?_,⟨⟨_,Heap.get?_push_size _ rfl,rfl,rfl⟩,o,Heap.get?_push_of_some _ h1,h2,h3⟩⟩
    exact {
      sub:=fun b hb=>by simp at hb;simp [hb]
      frame:=fun i h g st k=>⟨st.1.at fun o q=>k _ (by simp) o q,let ⟨o,a1,a2⟩:=st.2;⟨o,k d (by simp) o a1,a2⟩⟩
      item:=fun i s1 Q E hi st hQ=>by
        obtain ⟨st1,o1,a1,a2,a3⟩:=st
        refine next_key_item st1 a1 a3 rfl (Array.getElem?_eq_getElem hi) fun g st' sb=>?_
        exact hQ _ g s1.toks ⟨_,Array.getElem?_eq_getElem hi,rfl⟩ ⟨st',o1,(sb.2 d ne).trans a1,a2,a3⟩ fun b o hb e=>(sb.2 b (fun z=>hb (by simp [z]))).trans e
      done:=fun s1 Q E st hQ=>by
        obtain ⟨st1,o1,a1,a2,a3⟩:=st
        exact next_key_end hh st1 a1 a3 rfl (Nat.le_refl _) fun g eb=>hQ g s1.toks fun b o hb e=>eb b o (fun z=>hb (by simp [z])) e
      self:=fun i s1 Q E st hQ=>wpAny_pyIter_keyiter st.1 hQ }
theorem collect_src {prog:Program} {w:World} {A:Around} {E:Value→Shared→Prop} {s:Shared} {T:String} {r d:Addr} {n:Nat} {P:Nat→Value→Prop} {OK:Heap→Prop} {R:List Value→Shared→Prop} (K:PySem.W.KdlSrc prog w T r d n P OK) (hh:A.handled = none) (hok:OK s.heap) (hn:n≤sizeLine)
    (h:∀ (g:Heap) (tk:Nat) (acc:Array Value),s.heap.objs.size < g.objs.size→(∀ b o,s.heap.get? b = some o→g.get? b = some o)→ItemsOf P acc n→R acc.toList { s with heap:=g,toks:=tk }):wpAny (model prog w) A (collect (.ref r)) R E s:=by
  have lt:=K.there _ hok
  let s1:Shared:={ s with heap:=s.heap.push { cls:=.type "list",data:=.seq ([]:List Value).toArray } }
  have new1:s1.heap.get? s.heap.objs.size = some { cls:=.type "list",data:=.seq #[] }:=Heap.get?_push_size _ rfl
  have up:∀ b o,s.heap.get? b = some o→s1.heap.get? b = some o:=fun b o e=>Heap.get?_push_of_some _ e
  have got:=PySem.W.kdl_extend (A:=A) (s:=s1) (R:=fun (q:Result) (s':Shared)=>∃ (g:Heap) (tk:Nat) (acc:Array Value) (c:Nat),q = .ok (.ret (.ref s.heap.objs.size))∧s' = { s with heap:=g,toks:=tk } ∧
      (∀ b o,s.heap.get? b = some o→g.get? b = some o)∧g.get? s.heap.objs.size = some { cls:=.type "list",dict:=none,data:=.seq acc c,slots:=#[] }∧ItemsOf P acc n)
    K hh (K.keep _ _ hok fun b _ o e=>up b o e) s.heap.objs.size (Nat.ne_of_gt lt.1) (Nat.ne_of_gt lt.2) (.ref s.heap.objs.size) 0 new1
    (fun g tk acc c kp n1 items=>⟨g,tk,acc,c,rfl,rfl,fun b o e=>kp b o (Nat.ne_of_lt (Heap.lt_size e)) (up b o e),n1,items⟩) hn
  have fin:∀ {g:Heap} {tk:Nat} {acc:Array Value} {c:Nat},(∀ b o,s.heap.get? b = some o→g.get? b = some o)→g.get? s.heap.objs.size = some { cls:=.type "list",dict:=none,data:=.seq acc c,slots:=#[] }→ItemsOf P acc n→R acc.toList { s with heap:=g,toks:=tk } :=
    fun kp n1 items=>h _ _ _ (Heap.lt_size n1) kp items
  unfold collect
  refine wpAny_bind (wpAny_runValue (codeAny_builtin entry_proto_collect' ?_));rw [Around.under_plainId PySem.F.plain_proto_collect _]
  show wpAny _ A.in1 (newList [] >>= fun l=>again (.builtin "list.__iadd__" ⟨[l,.ref r],[]⟩)) _ _ s;refine wpAny_bind (wpAny_newObj_type ?_)
  refine wpAny_pure ⟨plainId_quiet PySem.F.plain_list_iadd _,codeAny_builtin entry_list_iadd' ?_⟩;rw [Around.under_plainId PySem.F.plain_list_iadd _]
  show wpAny _ A.in1 (Builtin.List.listExtendWith (.ref s.heap.objs.size) (.ref r) (.ref s.heap.objs.size)) _ _ _
  refine wpAny_mono got (fun f s' x=>?_) fun e s' x=>?_
  · cases f with
    | done fl =>
      obtain ⟨g,tk,acc,c,e,rfl,kp,n1,items⟩:=x
      cases e
      show wpAny _ A (load s.heap.objs.size >>= _) _ _ _
      exact wpAny_bind (wpAny_load n1 (wpAny_pure (fin kp n1 items)))
    | again c1 =>
      refine ⟨x.1,codeAny_mono x.2 fun q s2 y=>?_⟩
      obtain ⟨g,tk,acc,c,rfl,rfl,kp,n1,items⟩:=y
      show wpAny _ A (load s.heap.objs.size >>= _) _ _ _
      exact wpAny_bind (wpAny_load n1 (wpAny_pure (fin kp n1 items)))
  · obtain ⟨_,_,_,_,e',_⟩:=x
    cases e'
def rSortedP (P:Program) (w:World):List V→Hp→VK→Prop:=fun vs H Q=>∃ (a:Addr) (xs:List (IKey × Addr × Value)),vs = [V.ref a]∧H a = some (PDo P w a xs)∧(∀ x∈xs,KAt H x.1 x.2.1)∧xs.length < 64 ∧
  ∀ (ys:List (IKey × Addr)) (p:Addr),ys.Perm (xs.map fun x=>(x.1,x.2.1))→ys.Pairwise (fun x y=>ikLt x.1 y.1 = true)→H p = none→Q (.ref p) (upd H p (.lst (ys.map fun y=>V.ref y.2)))
theorem vals_refs:∀ l:List Addr,Vals (l.map V.ref) (l.map Value.ref)
  | []=>.nil
  | _ :: l=>.cons rfl (vals_refs l)
theorem cr_sortedP {X:Cx} (hc:X.calm = true) (hu:X.A.units + 64 < cLine):CallR X (.builtin "sorted") (rSortedP X.prog X.w):=by
  intro pins s σ H vs us Q I r h
  obtain ⟨a,xs,rfl,hd,hks,h64,q⟩:=h
  rw [Vals.ref1 r]
  obtain ⟨m0,m1,o,es,ep,f1,f2,f3,f4,f5,f6⟩:=pd_dict I.hok hd hks
  have hes:es.size = xs.length:=by rw [← Array.length_toList,f4,List.length_map]
  have sm:xs.length≤sizeLine:=by rw [sizeLine_eq];omega
  refine Calls.call_function_entry kind_sorted plain_sorted entry_sorted (args_sorted1 _) ?_
  unfold Builtin.«sorted»
  refine wpAny_bind (m:=checkCount "sorted" 1 1 _) (wpAny_pure ?_)
  refine wpAny_bind (collect_src (A:=X.A.in1) (src_dict m0) (I.ok.hd hc) ⟨o,f1,f2,f3⟩ (by omega) fun g tk acc lg kp hacc=>?_)
  have eacc:acc.toList = (xs.map fun x=>(x.1,x.2.1)).map fun x=>Value.ref x.2:=by
    obtain ⟨l1,l2⟩:=hacc
    apply List.ext_getElem?
    intro j
    by_cases hj:j < xs.length
    · have hj2:j < acc.size:=by omega
      obtain ⟨en,e1,e2⟩:=l2 j acc[j] (Array.getElem?_eq_getElem hj2)
      have e3:es[j]? = (xs[j]?).map (entryOfKey (pairKind X.prog X.w)):=by rw [← Array.getElem?_toList,f4,List.getElem?_map]
      rw [e1,List.getElem?_eq_getElem hj] at e3
      have e4:en = entryOfKey (pairKind X.prog X.w) xs[j]:=Option.some.inj e3
      rw [Array.getElem?_toList,Array.getElem?_eq_getElem hj2,e2,e4]
      simp [hj,entryOfKey]
    · rw [List.getElem?_eq_none (by simp;omega),List.getElem?_eq_none (by simp;omega)]
  rw [eacc]
  have hz:((xs.map fun x=>(x.1,x.2.1)).map fun x=>Value.ref x.2).length = xs.length:=by simp
  refine wpAny_bind (wpAny_newList ?_ (by rw [hz];exact sm))
  have hoL:(g.push (seqObj "list" ((xs.map fun x=>(x.1,x.2.1)).map fun x=>Value.ref x.2).toArray 0)).get? g.objs.size = some (seqObj "list" ((xs.map fun x=>(x.1,x.2.1)).map fun x=>Value.ref x.2).toArray 0):=Heap.get?_push_size _ rfl
  have kp2:∀ b u,s.heap.get? b = some u→(g.push (seqObj "list" ((xs.map fun x=>(x.1,x.2.1)).map fun x=>Value.ref x.2).toArray 0)).get? b = some u:=fun b u e=>Heap.get?_push_of_some _ (kp b u e)
  have sz:s.heap.objs.size≤g.objs.size:=Nat.le_of_lt lg
  show wpAny _ _ _ _ _ { s with heap:=g.push (seqObj "list" ((xs.map fun x=>(x.1,x.2.1)).map fun x=>Value.ref x.2).toArray 0),toks:=tk }
  refine wpAny_bind (wpAny_holding (wpAny_call_entry slot_list_sort ⟨_,hoL,rfl⟩ entry_list_sort (sort_pk (xs:=xs.map fun x=>(x.1,x.2.1)) ?room hoL ?keys ?nd (by simpa using h64) fun ys p1 p2=>⟨_,rfl,?ret⟩) (args_list_sort _)))
  case room=>show X.A.units + 1 + 1 + 8 < cLine;omega
  case keys =>
    intro x hx
    obtain ⟨y,hy,rfl⟩:=List.mem_map.mp hx
    exact ((hks y hy).pk (I.hok.kept kp2))
  case nd=>rw [List.map_map];exact f6
  case ret =>
    refine wpAny_pure ⟨_,rfl,?_⟩
    obtain ⟨ep2,he⟩:=sortedHeap_at (out:=(ys.map fun x=>Value.ref x.2).toArray) hoL
    have lys:ys.length = xs.length:=by rw [p1.length_eq];simp
    refine ⟨.ref g.objs.size,_,I.laid (t':=tk) (a:=g.objs.size) (o:=.lst (ys.map fun y=>V.ref y.2)) (fun b u e=>?_) sz ⟨by rw [List.length_map,lys];exact sm,_,ep2,?_,he⟩,rfl,q ys _ p1 p2 (I.hok.fresh sz)⟩
    · have lb:b < g.objs.size:=Heap.lt_size (kp b u e)
      rw [sortedHeap_old (Nat.ne_of_lt lb) (by rw [size_push'];exact Nat.lt_succ_of_lt lb)]
      exact kp2 b u e
    · have:=vals_refs (ys.map (·.2))
      rw [List.map_map,List.map_map] at this
      exact this
end L3
namespace L3
open PySem PySem.Spec PyProof.Rows L2
section
variable {prog:Program} {w:World} {A:Around} {E:Value→Shared→Prop}
abbrev tK (prog:Program) (w:World):=tupleKind (mixKind prog w)
theorem tk_at {h h':Heap} {k:List Key} {a:Addr} (x:(tK prog w).is h k a) (kp:∀ o,h.get? a = some o→h'.get? a = some o):(tK prog w).is h' k a:=by
  obtain ⟨o,items,n,h1,h2,h3,h4⟩:=(show IsTupleKey (mixKind prog w) h k a from x)
  exact ⟨o,items,n,kp o h1,h2,h3,h4⟩
theorem tk_lt {h:Heap} {k:List Key} {a:Addr} (x:(tK prog w).is h k a):a < h.objs.size:=by
  obtain ⟨o,items,n,h1,_⟩:=(show IsTupleKey (mixKind prog w) h k a from x)
  exact Heap.lt_size h1
end
end L3
namespace WP
abbrev Vec:=List Int
def at0 (r:Vec) (i:Nat):Int:=r.getD i 0
def firstCol:Vec→Nat
  | []=>0
  | x :: r=>if x = 0 then firstCol r + 1 else 0
def cleared (h:Vec) (c:Nat) (r:Vec):Vec:=List.zipWith (fun x y=>at0 h c * x - at0 r c * y) r h
noncomputable def prank:Nat→List Vec→Nat
  | 0,_=>0
  | _ + 1,[]=>0
  | n + 1,h :: rest=>if (h.any fun x=>x != 0) = true then prank n (rest.map (cleared h (firstCol h))) + 1 else prank n rest
def rankOf (rows:List Vec):Nat:=prank rows.length rows
noncomputable def dotS (S:List Nat) (r v:Nat→Int):Int:=(S.map fun i=>r i * v i).sum
def FullS (S:List Nat) (rows:List Vec):Prop:=∀ v:Nat→Int,(∀ r∈rows,dotS S (at0 r) v = 0)→∀ i∈S,v i = 0
theorem dotS_perm {S T:List Nat} (h:S.Perm T) (r v:Nat→Int):dotS S r v = dotS T r v:=by
  unfold dotS
  induction h with
  | nil=>rfl
  | cons x _ ih=>simp only [List.map_cons,List.sum_cons,ih]
  | swap x y l=>simp only [List.map_cons,List.sum_cons];omega
  | trans _ _ h1 h2=>exact h1.trans h2
theorem dotS_cons (c:Nat) (S:List Nat) (r v:Nat→Int):dotS (c :: S) r v = r c * v c + dotS S r v:=by simp [dotS]
theorem dotS_erase {S:List Nat} {c:Nat} (h:c∈S) (r v:Nat→Int):dotS S r v = r c * v c + dotS (S.erase c) r v:=by
  rw [dotS_perm (List.perm_cons_erase h),dotS_cons]
theorem dotS_congr {S:List Nat} {r v r' v':Nat→Int} (h:∀ i∈S,r i * v i = r' i * v' i):dotS S r v = dotS S r' v':=by
  unfold dotS
  rw [List.map_congr_left h]
theorem dotS_lin {S:List Nat} (x y:Int) (r q v:Nat→Int):dotS S (fun i=>x * r i - y * q i) v = x * dotS S r v - y * dotS S q v:=by
  induction S with
  | nil=>simp [dotS]
  | cons c S ih=>rw [dotS_cons,dotS_cons,dotS_cons,ih];grind
theorem dotS_linR {S:List Nat} (x y:Int) (r v u:Nat→Int):dotS S r (fun i=>x * v i - y * u i) = x * dotS S r v - y * dotS S r u:=by
  induction S with
  | nil=>simp [dotS]
  | cons c S ih=>rw [dotS_cons,dotS_cons,dotS_cons,ih];grind
theorem dotS_zero {S:List Nat} {r v:Nat→Int} (h:∀ i∈S,r i * v i = 0):dotS S r v = 0:=by
  induction S with
  | nil=>rfl
  | cons c S ih=>rw [dotS_cons,h c (by simp),ih fun i hi=>h i (by simp [hi])];rfl
theorem firstCol_spec:∀ (h:Vec),(h.any fun x=>x != 0) = true→at0 h (firstCol h)≠0∧firstCol h < h.length
  | [],e=>by simp at e
  | x :: r,e=>by
    by_cases hx:x = 0
    · subst hx
      have e':(r.any fun x=>x != 0) = true:=by simpa using e
      obtain ⟨a,b⟩:=firstCol_spec r e'
      refine ⟨?_,?_⟩
      · simpa [firstCol,at0] using a
      · simpa [firstCol] using b
    · simp [firstCol,hx,at0]
theorem at_cleared {h r:Vec} {c:Nat} (e:r.length = h.length) (i:Nat):at0 (cleared h c r) i = at0 h c * at0 r i - at0 r c * at0 h i:=by
  unfold cleared at0
  simp only [List.getD_eq_getElem?_getD,List.getElem?_zipWith]
  by_cases hi:i < h.length
  · have hr:i < r.length:=by omega
    simp [hi,hr]
  · have hr:¬ i < r.length:=by omega
    simp [hi,hr]
theorem cleared_length {h r:Vec} {c:Nat} (e:r.length = h.length):(cleared h c r).length = h.length:=by simp [cleared,e]
theorem prank_full (m:Nat):∀ (n:Nat) (rows:List Vec) (S:List Nat),rows.length≤n→S.Nodup→(∀ r∈rows,r.length = m)→(∀ r∈rows,∀ i,i ∉ S→at0 r i = 0) →
    prank n rows≤S.length∧(prank n rows = S.length↔FullS S rows)
  | 0,rows,S,hn,nd,hl,hz=>by
    have e:rows = []:=List.length_eq_zero_iff.mp (by omega)
    subst e
    refine ⟨by simp [prank],?_⟩
    constructor
    · intro h v _ i hi
      have:S = []:=List.length_eq_zero_iff.mp (by simpa [prank] using h.symm)
      subst this;simp at hi
    · intro F
      cases S with
      | nil=>rfl
      | cons c S=>exact absurd (F (fun _=>1) (by simp) c (by simp)) (by decide)
  | n + 1,[],S,hn,nd,hl,hz=>by
    refine ⟨by simp [prank],?_⟩
    constructor
    · intro h v _ i hi
      have:S = []:=List.length_eq_zero_iff.mp (by simpa [prank] using h.symm)
      subst this;simp at hi
    · intro F
      cases S with
      | nil=>rfl
      | cons c S=>exact absurd (F (fun _=>1) (by simp) c (by simp)) (by decide)
  | n + 1,h :: rest,S,hn,nd,hl,hz=>by
    have hn':rest.length≤n:=by simpa using hn
    unfold prank
    split
    case isFalse e =>
      have h0:∀ i,at0 h i = 0:=fun i=>by
        unfold at0
        by_cases hi:i < h.length
        · have:∀ x∈h,x = 0:=by simpa using e
          simp [hi,this _ (List.getElem_mem hi)]
        · simp [hi]
      have ih:=prank_full m n rest S hn' nd (fun r hr=>hl r (by simp [hr])) (fun r hr=>hz r (by simp [hr]))
      refine ⟨ih.1,ih.2.trans ?_⟩
      constructor
      · intro F v hv
        exact F v fun r hr=>hv r (by simp [hr])
      · intro F v hv
        refine F v fun r hr=>?_
        rcases List.mem_cons.mp hr with rfl | hr
        · exact dotS_zero fun i _=>by rw [h0];simp
        · exact hv r hr
    case isTrue e =>
      obtain ⟨hc,_⟩:=firstCol_spec h e
      generalize firstCol h = c at hc
      have cS:c∈S:=Classical.byContradiction fun q=>hc (hz h (by simp) c q)
      have lens:∀ r∈rest,r.length = h.length:=fun r hr=>by rw [hl r (by simp [hr]),hl h (by simp)]
      have hS:(S.erase c).length + 1 = S.length:=by
        rw [List.length_erase_of_mem cS]
        have:0 < S.length:=List.length_pos_of_mem cS
        omega
      have ih:=prank_full m n (rest.map (cleared h c)) (S.erase c) (by simpa using hn') (nd.erase c)
        (by
          intro r hr
          obtain ⟨q,hq,rfl⟩:=List.mem_map.mp hr
          rw [cleared_length (lens q hq),hl h (by simp)])
        (by
          intro r hr i hi
          obtain ⟨q,hq,rfl⟩:=List.mem_map.mp hr
          rw [at_cleared (lens q hq)]
          by_cases ic:i = c
          · subst ic;grind
          · have iS:i ∉ S:=fun z=>hi ((List.mem_erase_of_ne ic).mpr z)
            rw [hz q (by simp [hq]) i iS,hz h (by simp) i iS];simp)
      refine ⟨by omega,?_⟩
      have key:(prank n (rest.map (cleared h c)) + 1 = S.length↔prank n (rest.map (cleared h c)) = (S.erase c).length):=by omega
      rw [key,ih.2]
      constructor
      · intro F v hv
        have hv':=F v fun r hr=>by
          obtain ⟨q,hq,rfl⟩:=List.mem_map.mp hr
          have e1:dotS (S.erase c) (at0 (cleared h c q)) v = at0 h c * dotS (S.erase c) (at0 q) v - at0 q c * dotS (S.erase c) (at0 h) v:=by
            rw [← dotS_lin]
            exact dotS_congr fun i _=>by rw [at_cleared (lens q hq)]
          have e2:=hv q (by simp [hq])
          have e3:=hv h (by simp)
          rw [dotS_erase cS] at e2 e3
          rw [e1]
          grind
        have e3:=hv h (by simp)
        rw [dotS_erase cS,dotS_zero (S:=S.erase c) fun i hi=>by rw [hv' i hi];simp] at e3
        have vc:v c = 0:=by
          rcases Int.mul_eq_zero.mp (by simpa using e3) with z | z
          · exact absurd z hc
          · exact z
        intro i hi
        by_cases ic:i = c
        · rw [ic];exact vc
        · exact hv' i ((List.mem_erase_of_ne ic).mpr hi)
      · intro F v hv
        have hnc:c ∉ S.erase c:=fun z=>((List.Nodup.mem_erase_iff nd).mp z).1 rfl
        have hcl:∀ q∈rest,at0 h c * dotS (S.erase c) (at0 q) v - at0 q c * dotS (S.erase c) (at0 h) v = 0:=fun q hq=>by
          have e1:=hv (cleared h c q) (List.mem_map.mpr ⟨q,hq,rfl⟩)
          rw [← e1,← dotS_lin]
          exact (dotS_congr fun i _=>by rw [at_cleared (lens q hq)])
        let u:Nat→Int:=fun i=>if i = c then - dotS (S.erase c) (at0 h) v else at0 h c * v i
        have hu:∀ r:Vec,dotS S (at0 r) u = at0 h c * dotS (S.erase c) (at0 r) v - at0 r c * dotS (S.erase c) (at0 h) v:=fun r=>by
          rw [dotS_erase cS]
          have e1:dotS (S.erase c) (at0 r) u = at0 h c * dotS (S.erase c) (at0 r) v:=by
            have:dotS (S.erase c) (at0 r) u = dotS (S.erase c) (at0 r) (fun i=>at0 h c * v i - 0 * v i):=dotS_congr fun i hi=>by
              have:i≠c:=fun z=>hnc (z ▸ hi)
              simp [u,this]
            rw [this,dotS_linR];simp
          rw [e1]
          simp [u];grind
        have z:=F u fun r hr=>by
          rw [hu]
          rcases List.mem_cons.mp hr with rfl | hr
          · grind
          · exact hcl r hr
        intro i hi
        have ne:i≠c:=fun q=>hnc (q ▸ hi)
        have:=z i (List.mem_of_mem_erase hi)
        simp only [u,ne,if_false] at this
        rcases Int.mul_eq_zero.mp this with q | q
        · exact absurd q hc
        · exact q
end WP
namespace WP
open Sx38 Sa83
abbrev Fn:=Nat→Int
def FullF (S:List Nat) (rows:List Fn):Prop:=∀ v:Fn,(∀ r∈rows,dotS S r v = 0)→∀ i∈S,v i = 0
theorem fullS_iff {S:List Nat} {rows:List Vec}:FullS S rows↔FullF S (rows.map at0):=by
  unfold FullS FullF
  constructor
  · intro F v hv;exact F v fun r hr=>hv _ (List.mem_map.mpr ⟨r,hr,rfl⟩)
  · intro F v hv;exact F v fun r hr=>by obtain ⟨q,hq,rfl⟩:=List.mem_map.mp hr;exact hv q hq
def clearedF (h:Fn) (c:Nat) (r:Fn):Fn:=fun i=>h c * r i - r c * h i
theorem full_step {S:List Nat} {c:Nat} {h:Fn} {rest:List Fn} (nd:S.Nodup) (cS:c∈S) (hc:h c≠0) :
    FullF S (h :: rest)↔FullF (S.erase c) (rest.map (clearedF h c)):=by
  constructor
  · intro F v hv
    have hnc:c ∉ S.erase c:=fun z=>((List.Nodup.mem_erase_iff nd).mp z).1 rfl
    have hcl:∀ q∈rest,h c * dotS (S.erase c) q v - q c * dotS (S.erase c) h v = 0:=fun q hq=>by
      have e1:=hv (clearedF h c q) (List.mem_map.mpr ⟨q,hq,rfl⟩)
      rw [← e1,← dotS_lin];rfl
    let u:Fn:=fun i=>if i = c then - dotS (S.erase c) h v else h c * v i
    have hu:∀ r:Fn,dotS S r u = h c * dotS (S.erase c) r v - r c * dotS (S.erase c) h v:=fun r=>by
      rw [dotS_erase cS]
      have e1:dotS (S.erase c) r u = h c * dotS (S.erase c) r v:=by
        have:dotS (S.erase c) r u = dotS (S.erase c) r (fun i=>h c * v i - 0 * v i):=dotS_congr fun i hi=>by
          have:i≠c:=fun z=>hnc (z ▸ hi)
          simp [u,this]
        rw [this,dotS_linR];simp
      rw [e1]
      simp [u];grind
    have z:=F u fun r hr=>by
      rw [hu]
      rcases List.mem_cons.mp hr with rfl | hr
      · grind
      · exact hcl r hr
    intro i hi
    have ne:i≠c:=fun q=>hnc (q ▸ hi)
    have:=z i (List.mem_of_mem_erase hi)
    simp only [u,ne,if_false] at this
    rcases Int.mul_eq_zero.mp this with q | q
    · exact absurd q hc
    · exact q
  · intro F v hv
    have hv':=F v fun r hr=>by
      obtain ⟨q,hq,rfl⟩:=List.mem_map.mp hr
      have e1:dotS (S.erase c) (clearedF h c q) v = h c * dotS (S.erase c) q v - q c * dotS (S.erase c) h v:=by
        rw [← dotS_lin];rfl
      have e2:=hv q (by simp [hq])
      have e3:=hv h (by simp)
      rw [dotS_erase cS] at e2 e3
      rw [e1]
      grind
    have e3:=hv h (by simp)
    rw [dotS_erase cS,dotS_zero (S:=S.erase c) fun i hi=>by rw [hv' i hi];simp] at e3
    have vc:v c = 0:=by
      rcases Int.mul_eq_zero.mp (by simpa using e3) with z | z
      · exact absurd z hc
      · exact z
    intro i hi
    by_cases ic:i = c
    · rw [ic];exact vc
    · exact hv' i ((List.mem_erase_of_ne ic).mpr hi)
theorem full_drop {S:List Nat} {h:Fn} {rest:List Fn} (hz:∀ i∈S,h i = 0):FullF S (h :: rest)↔FullF S rest:=by
  constructor
  · intro F v hv
    refine F v fun r hr=>?_
    rcases List.mem_cons.mp hr with rfl | hr
    · exact dotS_zero fun i hi=>by rw [hz i hi];simp
    · exact hv r hr
  · intro F v hv;exact F v fun r hr=>hv r (by simp [hr])
theorem full_few:∀ (rows:List Fn) (S:List Nat),S.Nodup→rows.length < S.length→¬ FullF S rows
  | [],S,nd,h,F=>by
    cases S with
    | nil=>simp at h
    | cons c S=>exact absurd (F (fun _=>1) (by simp) c (by simp)) (by decide)
  | r :: rest,S,nd,h,F=>by
    by_cases e:∃ c∈S,r c≠0
    · obtain ⟨c,cS,hc⟩:=e
      refine full_few (rest.map (clearedF r c)) (S.erase c) (nd.erase c) ?_ ((full_step nd cS hc).mp F)
      rw [List.length_erase_of_mem cS]
      simp at h ⊢;omega
    · refine full_few rest S nd (by simp at h;omega) ((full_drop fun i hi=>?_).mp F)
      exact Classical.byContradiction fun q=>e ⟨i,hi,q⟩
termination_by rows=>rows.length
theorem full_mono {S:List Nat} {rows more:List Fn} (h:∀ r∈rows,r∈more) (F:FullF S rows):FullF S more :=
  fun v hv=>F v fun r hr=>hv r (h r hr)
def D2 (a b:Fn) (i j:Nat):Int:=a i * b j - a j * b i
def D3 (a b c:Fn) (i j k:Nat):Int:=a i * D2 b c j k - a j * D2 b c i k + a k * D2 b c i j
noncomputable def D4 (a b c d:Fn) (i j k l:Nat):Int:=a i * D3 b c d j k l - a j * D3 b c d i k l + a k * D3 b c d i j l - a l * D3 b c d i j k
theorem sq1 {a:Fn} {i:Nat}:FullF [i] [a]↔a i≠0:=by
  by_cases h:a i = 0
  · constructor
    · intro F
      exact absurd ((full_drop (by simp [h])).mp F) (full_few _ _ (by simp) (by simp))
    · intro q;exact absurd h q
  · refine ⟨fun _=>h,fun _=>(full_step (by simp) (by simp) h).mpr ?_⟩
    intro v _ i hi;simp at hi
theorem ne_of_eq_mul {x y k:Int} (hk:k≠0) (e:x = k * y):x≠0↔y≠0:=by
  rw [e]
  constructor
  · intro h q;exact h (by rw [q];simp)
  · intro h q;rcases Int.mul_eq_zero.mp q with z | z
    · exact hk z
    · exact h z
theorem sq2 {a b:Fn} {i j:Nat} (nd:[i,j].Nodup):FullF [i,j] [a,b]↔D2 a b i j≠0:=by
  have hij:i≠j:=by simpa using nd
  by_cases hi:a i = 0
  · by_cases hj:a j = 0
    · constructor
      · intro F
        exact absurd ((full_drop (by simp [hi,hj])).mp F) (full_few _ _ nd (by simp))
      · intro q;exact absurd (by simp [D2,hi,hj]) q
    · rw [full_step nd (by simp:j∈[i,j]) hj]
      have e:([i,j]:List Nat).erase j = [i]:=by simp [List.erase_cons,hij]
      rw [e]
      refine sq1.trans (ne_of_eq_mul (k:=-1) (by decide) ?_)
      simp [clearedF,D2];grind
  · rw [full_step nd (by simp:i∈[i,j]) hi]
    have e:([i,j]:List Nat).erase i = [j]:=by simp
    rw [e]
    refine sq1.trans (ne_of_eq_mul (k:=1) (by decide) ?_)
    simp [clearedF,D2];grind
theorem mul_ne {x y:Int} (hx:x≠0) (hy:y≠0):x * y≠0:=fun h=>by
  rcases Int.mul_eq_zero.mp h with z | z
  · exact hx z
  · exact hy z
theorem sq3 {a b c:Fn} {i j k:Nat} (nd:[i,j,k].Nodup):FullF [i,j,k] [a,b,c]↔D3 a b c i j k≠0:=by
  obtain ⟨⟨hij,hik⟩,hjk⟩:(i≠j∧i≠k)∧j≠k:=by simpa using nd
  by_cases hi:a i = 0
  · by_cases hj:a j = 0
    · by_cases hk:a k = 0
      · constructor
        · intro F
          exact absurd ((full_drop (by simp [hi,hj,hk])).mp F) (full_few _ _ nd (by simp))
        · intro q;exact absurd (by simp [D3,hi,hj,hk]) q
      · rw [full_step nd (by simp:k∈[i,j,k]) hk]
        have e:([i,j,k]:List Nat).erase k = [i,j]:=by simp [List.erase_cons,hik,hjk]
        rw [e]
        refine (sq2 (by simp [hij])).trans (ne_of_eq_mul (k:=a k) hk ?_)
        simp only [clearedF,D3,D2];grind
    · rw [full_step nd (by simp:j∈[i,j,k]) hj]
      have e:([i,j,k]:List Nat).erase j = [i,k]:=by simp [List.erase_cons,hij]
      rw [e]
      refine (sq2 (by simp [hik])).trans (ne_of_eq_mul (k:=- a j) (by omega) ?_)
      simp only [clearedF,D3,D2];grind
  · rw [full_step nd (by simp:i∈[i,j,k]) hi]
    have e:([i,j,k]:List Nat).erase i = [j,k]:=by simp
    rw [e]
    refine (sq2 (by simp [hjk])).trans (ne_of_eq_mul (k:=a i) hi ?_)
    simp only [clearedF,D3,D2];grind
theorem sq4 {a b c d:Fn} {i j k l:Nat} (nd:[i,j,k,l].Nodup):FullF [i,j,k,l] [a,b,c,d]↔D4 a b c d i j k l≠0:=by
  obtain ⟨⟨hij,hik,hil⟩,⟨hjk,hjl⟩,hkl⟩:(i≠j∧i≠k∧i≠l)∧(j≠k∧j≠l)∧k≠l:=by simpa using nd
  by_cases hi:a i = 0
  · by_cases hj:a j = 0
    · by_cases hk:a k = 0
      · by_cases hl:a l = 0
        · constructor
          · intro F
            exact absurd ((full_drop (by simp [hi,hj,hk,hl])).mp F) (full_few _ _ nd (by simp))
          · intro q;exact absurd (by simp [D4,hi,hj,hk,hl]) q
        · rw [full_step nd (by simp:l∈[i,j,k,l]) hl]
          have e:([i,j,k,l]:List Nat).erase l = [i,j,k]:=by simp [List.erase_cons,hil,hjl,hkl]
          rw [e]
          refine (sq3 (by simp [hij,hik,hjk])).trans (ne_of_eq_mul (k:=-(a l * a l)) (by have:=mul_ne hl hl;omega) ?_)
          simp only [clearedF,D4,D3,D2];grind
      · rw [full_step nd (by simp:k∈[i,j,k,l]) hk]
        have e:([i,j,k,l]:List Nat).erase k = [i,j,l]:=by simp [List.erase_cons,hik,hjk]
        rw [e]
        refine (sq3 (by simp [hij,hil,hjl])).trans (ne_of_eq_mul (k:=a k * a k) (mul_ne hk hk) ?_)
        simp only [clearedF,D4,D3,D2];grind
    · rw [full_step nd (by simp:j∈[i,j,k,l]) hj]
      have e:([i,j,k,l]:List Nat).erase j = [i,k,l]:=by simp [List.erase_cons,hij]
      rw [e]
      refine (sq3 (by simp [hik,hil,hkl])).trans (ne_of_eq_mul (k:=-(a j * a j)) (by have:=mul_ne hj hj;omega) ?_)
      simp only [clearedF,D4,D3,D2];grind
  · rw [full_step nd (by simp:i∈[i,j,k,l]) hi]
    have e:([i,j,k,l]:List Nat).erase i = [j,k,l]:=by simp
    rw [e]
    refine (sq3 (by simp [hjk,hjl,hkl])).trans (ne_of_eq_mul (k:=a i * a i) (mul_ne hi hi) ?_)
    simp only [clearedF,D4,D3,D2];grind
end WP
namespace WP
open Sx38 Sa83
theorem len0 {α:Type} {l:List α} (h:l.length = 0):l = []:=List.length_eq_zero_iff.mp h
theorem len_succ {α:Type} {l:List α} {n:Nat} (h:l.length = n + 1):∃ a t,l = a :: t∧t.length = n:=by
  cases l with
  | nil=>simp at h
  | cons a t=>exact ⟨a,t,rfl,by simpa using h⟩
theorem len1 {α:Type} {l:List α} (h:l.length = 1):∃ a,l = [a]:=by
  obtain ⟨a,t,rfl,ht⟩:=len_succ h;rw [len0 ht];exact ⟨a,rfl⟩
theorem len2 {α:Type} {l:List α} (h:l.length = 2):∃ a b,l = [a,b]:=by
  obtain ⟨a,t,rfl,ht⟩:=len_succ h;obtain ⟨b,rfl⟩:=len1 ht;exact ⟨a,b,rfl⟩
theorem len3 {α:Type} {l:List α} (h:l.length = 3):∃ a b c,l = [a,b,c]:=by
  obtain ⟨a,t,rfl,ht⟩:=len_succ h;obtain ⟨b,c,rfl⟩:=len2 ht;exact ⟨a,b,c,rfl⟩
theorem len4 {α:Type} {l:List α} (h:l.length = 4):∃ a b c d,l = [a,b,c,d]:=by
  obtain ⟨a,t,rfl,ht⟩:=len_succ h;obtain ⟨b,c,d,rfl⟩:=len3 ht;exact ⟨a,b,c,d,rfl⟩
theorem det_full {m:Nat} (hm:m≤4) {c:List Vec} (hc:c.length = m) (hl:∀ r∈c,r.length = m) :
    det m c≠0↔FullF (List.range m) (c.map at0):=by
  match m,hm with
  | 0,_ =>
    rw [len0 hc]
    exact ⟨fun _ v _ i hi=>by simp at hi,fun _=>by decide⟩
  | 1,_ =>
    obtain ⟨a,rfl⟩:=len1 hc
    obtain ⟨x,rfl⟩:=len1 (hl a (by simp))
    refine Iff.trans ?_ (sq1 (i:=0) (a:=at0 [x])).symm
    simp [det,Sa83.sum,at0]
  | 2,_ =>
    obtain ⟨a,b,rfl⟩:=len2 hc
    obtain ⟨a0,a1,rfl⟩:=len2 (hl a (by simp))
    obtain ⟨b0,b1,rfl⟩:=len2 (hl b (by simp))
    refine Iff.trans ?_ (sq2 (i:=0) (j:=1) (a:=at0 [a0,a1]) (b:=at0 [b0,b1]) (by decide)).symm
    have:det 2 [[a0,a1],[b0,b1]] = D2 (at0 [a0,a1]) (at0 [b0,b1]) 0 1:=by
      simp [det,Sa83.sum,at0,D2,List.eraseIdx];grind
    rw [this]
  | 3,_ =>
    obtain ⟨a,b,c,rfl⟩:=len3 hc
    obtain ⟨a0,a1,a2,rfl⟩:=len3 (hl a (by simp))
    obtain ⟨b0,b1,b2,rfl⟩:=len3 (hl b (by simp))
    obtain ⟨c0,c1,c2,rfl⟩:=len3 (hl c (by simp))
    refine Iff.trans ?_ (sq3 (i:=0) (j:=1) (k:=2) (a:=at0 [a0,a1,a2]) (b:=at0 [b0,b1,b2]) (c:=at0 [c0,c1,c2]) (by decide)).symm
    have:det 3 [[a0,a1,a2],[b0,b1,b2],[c0,c1,c2]] = D3 (at0 [a0,a1,a2]) (at0 [b0,b1,b2]) (at0 [c0,c1,c2]) 0 1 2:=by
      simp [det,Sa83.sum,at0,D2,D3,List.eraseIdx];grind
    rw [this]
  | 4,_ =>
    obtain ⟨a,b,c,d,rfl⟩:=len4 hc
    obtain ⟨a0,a1,a2,a3,rfl⟩:=len4 (hl a (by simp))
    obtain ⟨b0,b1,b2,b3,rfl⟩:=len4 (hl b (by simp))
    obtain ⟨c0,c1,c2,c3,rfl⟩:=len4 (hl c (by simp))
    obtain ⟨d0,d1,d2,d3,rfl⟩:=len4 (hl d (by simp))
    refine Iff.trans ?_ (sq4 (i:=0) (j:=1) (k:=2) (l:=3) (a:=at0 [a0,a1,a2,a3]) (b:=at0 [b0,b1,b2,b3]) (c:=at0 [c0,c1,c2,c3]) (d:=at0 [d0,d1,d2,d3]) (by decide)).symm
    have:det 4 [[a0,a1,a2,a3],[b0,b1,b2,b3],[c0,c1,c2,c3],[d0,d1,d2,d3]] = D4 (at0 [a0,a1,a2,a3]) (at0 [b0,b1,b2,b3]) (at0 [c0,c1,c2,c3]) (at0 [d0,d1,d2,d3]) 0 1 2 3:=by
      simp [det,Sa83.sum,at0,D2,D3,D4,List.eraseIdx];grind
    rw [this]
noncomputable def normalW (d:Nat) (m:List Vec):Vec:=(List.range d).map fun k=>(if k % 2 = 0 then 1 else -1) * det d (m.map fun r=>r.eraseIdx k)
theorem normal_eq (d:Nat) (l:List Vec):normal d l = normalW d ((l.drop 1).map fun q=>sub q (l.headD [])):=rfl
theorem normalW_length (d:Nat) (m:List Vec):(normalW d m).length = d:=by simp [normalW]
theorem normalW_full {d:Nat} (h1:1≤d) (hd:d≤4) {m:List Vec} (hc:m.length + 1 = d) (hl:∀ r∈m,r.length = d) {u:Vec} (hu:u.length = d) :
    dot u (normalW d m)≠0↔FullF (List.range d) (at0 u :: m.map at0):=by
  refine Iff.trans ?_ (det_full hd (c:=u :: m) (by simpa using hc) (by
    intro r hr
    rcases List.mem_cons.mp hr with rfl | hr
    · exact hu
    · exact hl r hr))
  have:dot u (normalW d m) = det d (u :: m):=by
    match d,h1,hd with
    | 1,_,_ =>
      obtain rfl:=len0 (l:=m) (by omega)
      obtain ⟨x,rfl⟩:=len1 hu
      simp [det,Sa83.sum,normalW,dot]
    | 2,_,_ =>
      obtain ⟨b,rfl⟩:=len1 (l:=m) (by omega)
      obtain ⟨a0,a1,rfl⟩:=len2 hu
      obtain ⟨b0,b1,rfl⟩:=len2 (hl b (by simp))
      simp [det,Sa83.sum,normalW,dot,List.range_succ,List.eraseIdx] <;> grind
    | 3,_,_ =>
      obtain ⟨b,c,rfl⟩:=len2 (l:=m) (by omega)
      obtain ⟨a0,a1,a2,rfl⟩:=len3 hu
      obtain ⟨b0,b1,b2,rfl⟩:=len3 (hl b (by simp))
      obtain ⟨c0,c1,c2,rfl⟩:=len3 (hl c (by simp))
      simp [det,Sa83.sum,normalW,dot,List.range_succ,List.eraseIdx] <;> grind
    | 4,_,_ =>
      obtain ⟨b,c,d,rfl⟩:=len3 (l:=m) (by omega)
      obtain ⟨a0,a1,a2,a3,rfl⟩:=len4 hu
      obtain ⟨b0,b1,b2,b3,rfl⟩:=len4 (hl b (by simp))
      obtain ⟨c0,c1,c2,c3,rfl⟩:=len4 (hl c (by simp))
      obtain ⟨d0,d1,d2,d3,rfl⟩:=len4 (hl d (by simp))
      simp [det,Sa83.sum,normalW,dot,List.range_succ,List.eraseIdx] <;> grind
  rw [this]
theorem prank_sub:∀ (n:Nat) (rows:List Vec),rows.length≤n→∃ c,List.Sublist c rows∧c.length = prank n rows∧prank c.length c = c.length
  | 0,rows,h=>by
    have e:rows = []:=len0 (by omega)
    subst e;exact ⟨[],.slnil,rfl,rfl⟩
  | n + 1,[],h=>⟨[],.slnil,rfl,rfl⟩
  | n + 1,r :: rest,h=>by
    have hn:rest.length≤n:=by simpa using h
    by_cases e:(r.any fun x=>x != 0) = true
    · obtain ⟨c,hs,hl,hp⟩:=prank_sub n (rest.map (cleared r (firstCol r))) (by simpa using hn)
      obtain ⟨c',hs',rfl⟩:=List.sublist_map_iff.mp hs
      refine ⟨r :: c',hs'.cons_cons r,?_,?_⟩
      · simp only [prank,e,if_true];simpa using hl
      · simp only [List.length_cons,prank,e,if_true]
        simpa using hp
    · obtain ⟨c,hs,hl,hp⟩:=prank_sub n rest hn
      refine ⟨c,hs.cons r,?_,hp⟩
      simp only [prank,e];exact hl
theorem at0_beyond {r:Vec} {m i:Nat} (h:r.length = m) (hi:i ∉ List.range m):at0 r i = 0:=by
  have:m≤i:=by simpa using hi
  simp [at0,h,this]
theorem rankOf_full {m:Nat} {rows:List Vec} (hl:∀ r∈rows,r.length = m):rankOf rows = m↔FullF (List.range m) (rows.map at0):=by
  have h:=(prank_full m rows.length rows (List.range m) (Nat.le_refl _) List.nodup_range hl fun r hr i hi=>at0_beyond (hl r hr) hi).2
  rw [fullS_iff] at h
  simpa [rankOf] using h
theorem mem_choose {α:Type}:∀ {l:List α} {k:Nat} {c:List α},c∈choose_ l k↔List.Sublist c l∧c.length = k
  | l,0,c=>by
    have e:choose_ l 0 = [[]]:=by cases l <;> rfl
    rw [e]
    constructor
    · intro h
      have:c = []:=by simpa using h
      subst this;exact ⟨List.nil_sublist _,rfl⟩
    · rintro ⟨_,h⟩
      rw [len0 h];simp
  | [],k + 1,c=>by
    simp [choose_]
    rintro rfl;simp
  | x :: l,k + 1,c=>by
    simp only [choose_,List.mem_append,List.mem_map,mem_choose]
    constructor
    · rintro (⟨t,⟨h1,h2⟩,rfl⟩ | ⟨h1,h2⟩)
      · exact ⟨h1.cons_cons x,by simp [h2]⟩
      · exact ⟨h1.cons x,h2⟩
    · rintro ⟨h1,h2⟩
      cases h1 with
      | cons _ h=>exact .inr ⟨h,h2⟩
      | cons_cons _ h=>exact .inl ⟨_,⟨h,by simpa using h2⟩,rfl⟩
theorem full_square {m:Nat} {rows:List Vec} (hl:∀ r∈rows,r.length = m) (F:FullF (List.range m) (rows.map at0)) :
    ∃ c,List.Sublist c rows∧c.length = m∧FullF (List.range m) (c.map at0):=by
  have h:=(rankOf_full hl).mpr F
  obtain ⟨c,hs,hc,hp⟩:=prank_sub rows.length rows (Nat.le_refl _)
  have e:c.length = m:=hc.trans h
  refine ⟨c,hs,e,(rankOf_full fun r hr=>hl r (hs.subset hr)).mp ?_⟩
  rw [← e];exact hp
theorem fold_last (d:Nat) (p:Nat→Bool):((List.range (d + 1)).foldl (fun (b:Nat) (k:Nat)=>if p k then k else b) 0 = d)↔(p d = true∨d = 0):=by
  rw [List.range_succ,List.foldl_append]
  simp only [List.foldl_cons,List.foldl_nil]
  have hlt:∀ n,0 < n→(List.range n).foldl (fun (b:Nat) (k:Nat)=>if p k then k else b) 0 < n:=by
    intro n
    induction n with
    | zero=>simp
    | succ n ih =>
      intro _
      rw [List.range_succ,List.foldl_append]
      simp only [List.foldl_cons,List.foldl_nil]
      split
      · omega
      · rcases Nat.eq_zero_or_pos n with h | h
        · subst h;simp
        · have:=ih h;omega
  by_cases hp:p d = true
  · simp [hp]
  · simp only [hp]
    rcases Nat.eq_zero_or_pos d with h | h
    · subst h;simp
    · have:=hlt d h
      simp;omega
theorem map_at (r:Vec) (m:Nat) (h:r.length = m):(List.range m).map (fun j=>at_ r j) = r:=by
  apply List.ext_getElem
  · simp [h]
  · intro i h1 h2;simp [at_,h2]
theorem choose_self {α:Type}:∀ (l:List α),choose_ l l.length = [l]
  | []=>rfl
  | x :: l=>by
    have h:∀ (l:List α) (k:Nat),l.length < k→choose_ l k = []:=by
      intro l
      induction l with
      | nil=>intro k hk;cases k with
        | zero=>simp at hk
        | succ k=>rfl
      | cons y l ih=>intro k hk;cases k with
        | zero=>simp at hk
        | succ k =>
          simp at hk
          simp [choose_,ih k hk,ih (k + 1) (by omega)]
    simp [choose_,choose_self l,h l (l.length + 1) (by omega)]
theorem spec_rank {d:Nat} (h1:1≤d) (hd:d≤4) {rows:List Vec} (hl:∀ r∈rows,r.length = d):(rank d rows = d)↔(rankOf rows = d):=by
  unfold rank
  rw [fold_last,rankOf_full hl]
  have e:choose_ (List.range d) d = [List.range d]:=by
    have:=choose_self (List.range d);simpa using this
  simp only [e,List.any_eq_true,List.any_cons,List.any_nil,Bool.or_false]
  constructor
  · rintro (⟨c,hc,hn⟩ | h)
    · obtain ⟨hs,hcl⟩:=mem_choose.mp hc
      have hcr:∀ r∈c,r.length = d:=fun r hr=>hl r (hs.subset hr)
      have e2:(c.map fun r=>(List.range d).map fun j=>at_ r j) = c:=by
        conv=>rhs;rw [← List.map_id c]
        exact List.map_congr_left fun r hr=>map_at r d (hcr r hr)
      rw [e2] at hn
      refine full_mono ?_ ((det_full hd hcl hcr).mp (by simpa using hn))
      intro r hr
      obtain ⟨q,hq,rfl⟩:=List.mem_map.mp hr
      exact List.mem_map.mpr ⟨q,hs.subset hq,rfl⟩
    · omega
  · intro F
    obtain ⟨c,hs,hcl,Fc⟩:=full_square hl F
    have hcr:∀ r∈c,r.length = d:=fun r hr=>hl r (hs.subset hr)
    refine .inl ⟨c,mem_choose.mpr ⟨hs,hcl⟩,?_⟩
    have e2:(c.map fun r=>(List.range d).map fun j=>at_ r j) = c:=by
      conv=>rhs;rw [← List.map_id c]
      exact List.map_congr_left fun r hr=>map_at r d (hcr r hr)
    rw [e2]
    simpa using (det_full hd hcl hcr).mpr Fc
end WP
namespace WP
open Sx38 Sa83
theorem sum_eq (l:List Int):Sa83.sum l = l.sum:=by
  have:∀ (l:List Int) (a:Int),l.foldl (fun a b=>a + b) a = a + l.sum:=by
    intro l
    induction l with
    | nil=>intro a;simp
    | cons x l ih=>intro a;simp [ih];omega
  simp [Sa83.sum,this]
theorem dot_eq {d:Nat} {a x:Vec} (ha:a.length = d) (hx:x.length = d):dot a x = dotS (List.range d) (at0 a) (at0 x):=by
  unfold dot dotS
  rw [sum_eq]
  congr 1
  apply List.ext_getElem
  · simp [ha,hx]
  · intro i h1 h2
    have hi:i < d:=by simpa using h2
    simp [at0,ha,hx,hi]
theorem dotS_comm (S:List Nat) (r v:Fn):dotS S r v = dotS S v r:=dotS_congr fun i _=>Int.mul_comm _ _
theorem sq_nonneg (x:Int):0≤x * x:=by
  rcases Int.le_total 0 x with h | h
  · exact Int.mul_nonneg h h
  · exact Int.mul_nonneg_of_nonpos_of_nonpos h h
theorem dotS_self_nonneg (S:List Nat) (a:Fn):0≤dotS S a a:=by
  induction S with
  | nil=>simp [dotS]
  | cons c S ih=>rw [dotS_cons];have:=sq_nonneg (a c);omega
theorem dotS_self_zero {S:List Nat} {a:Fn} (h:dotS S a a = 0):∀ i∈S,a i = 0:=by
  induction S with
  | nil=>simp
  | cons c S ih =>
    rw [dotS_cons] at h
    have h1:=sq_nonneg (a c)
    have h2:=dotS_self_nonneg S a
    intro i hi
    rcases List.mem_cons.mp hi with rfl | hi
    · have:a i * a i = 0:=by omega
      rcases Int.mul_eq_zero.mp this with z | z <;> exact z
    · exact ih (by omega) i hi
def par (d:Nat) (u v:Fn):Prop:=∀ i,i < d→∀ j,j < d→u i * v j = u j * v i
theorem par_of {d:Nat} {a v:Fn} {rows:List Fn} (F:FullF (List.range d) (a :: rows)) (ha:∀ r∈rows,dotS (List.range d) r a = 0) (hv:∀ r∈rows,dotS (List.range d) r v = 0) :
    par d v a:=by
  have z:=F (fun i=>dotS (List.range d) a a * v i - dotS (List.range d) a v * a i) fun r hr=>by
    rw [dotS_linR]
    rcases List.mem_cons.mp hr with rfl | hr
    · grind
    · rw [ha r hr,hv r hr];simp
  intro i hi j hj
  have h1:=z i (by simpa using hi)
  have h2:=z j (by simpa using hj)
  by_cases q:dotS (List.range d) a a = 0
  · have:=dotS_self_zero q
    rw [this i (by simpa using hi),this j (by simpa using hj)];simp
  · have:dotS (List.range d) a a * (v i * a j - v j * a i) = 0:=by
      grind
    rcases Int.mul_eq_zero.mp this with z | z
    · exact absurd z q
    · omega
theorem dvd_gcdOf {k:Nat} {a:Vec}:k ∣ gcdOf a↔∀ z∈a,k ∣ z.natAbs:=by
  have:∀ (a:Vec) (g:Nat),k ∣ a.foldl (fun g z=>Nat.gcd g z.natAbs) g↔k ∣ g∧∀ z∈a,k ∣ z.natAbs:=by
    intro a
    induction a with
    | nil=>intro g;simp
    | cons x a ih =>
      intro g
      rw [List.foldl_cons,ih,Nat.dvd_gcd_iff]
      simp [and_assoc]
  simp [gcdOf,this]
theorem gcdOf_dvd {a:Vec} {z:Int} (h:z∈a):gcdOf a ∣ z.natAbs:=dvd_gcdOf.mp (Nat.dvd_refl _) z h
theorem gcdOf_zero {a:Vec}:gcdOf a = 0↔∀ z∈a,z = 0:=by
  constructor
  · intro h z hz
    have:=gcdOf_dvd hz
    rw [h,Nat.zero_dvd] at this
    omega
  · intro h
    have:0 ∣ gcdOf a:=dvd_gcdOf.mpr fun z hz=>by rw [h z hz];simp
    exact Nat.zero_dvd.mp this
theorem gcdOf_neg (a:Vec):gcdOf (a.map fun z=>-z) = gcdOf a:=by
  apply Nat.dvd_antisymm
  · exact dvd_gcdOf.mpr fun z hz=>by
      have:=gcdOf_dvd (a:=a.map fun z=>-z) (z:=-z) (List.mem_map.mpr ⟨z,hz,rfl⟩)
      simpa using this
  · refine dvd_gcdOf.mpr fun z hz=>?_
    obtain ⟨y,hy,rfl⟩:=List.mem_map.mp hz
    simpa using gcdOf_dvd hy
theorem div_exact {a:Vec} {z:Int} (h:z∈a):(gcdOf a:Int) * (z / (gcdOf a:Int)) = z:=by
  apply Int.mul_ediv_cancel'
  exact Int.ofNat_dvd_left.mpr (gcdOf_dvd h)
theorem gcdOf_div {a:Vec} (h:gcdOf a≠0):gcdOf (a.map fun z=>z / (gcdOf a:Int)) = 1:=by
  generalize hk:gcdOf (a.map fun z=>z / (gcdOf a:Int)) = k
  have h1:gcdOf a * k ∣ gcdOf a:=dvd_gcdOf.mpr fun z hz=>by
    have h2:k ∣ (z / (gcdOf a:Int)).natAbs:=by
      rw [← hk];exact gcdOf_dvd (List.mem_map.mpr ⟨z,hz,rfl⟩)
    have h3:=div_exact hz
    have h4:z.natAbs = gcdOf a * (z / (gcdOf a:Int)).natAbs:=by
      conv=>lhs;rw [← h3]
      rw [Int.natAbs_mul];simp
    rw [h4]
    exact Nat.mul_dvd_mul_left _ h2
  obtain ⟨m,hm⟩:=h1
  have h5:gcdOf a * (k * m) = gcdOf a * 1:=by rw [← Nat.mul_assoc];omega
  have h6:=Nat.eq_of_mul_eq_mul_left (Nat.pos_of_ne_zero h) h5
  exact Nat.eq_one_of_mul_eq_one_right h6
theorem dvd_scaled {k y:Nat} {a:Vec} (h:∀ z∈a,k ∣ z.natAbs * y):k ∣ gcdOf a * y:=by
  have:∀ (a:Vec) (g:Nat),k ∣ g * y→(∀ z∈a,k ∣ z.natAbs * y)→k ∣ a.foldl (fun g z=>Nat.gcd g z.natAbs) g * y:=by
    intro a
    induction a with
    | nil=>intro g hg _;exact hg
    | cons x a ih =>
      intro g hg ha
      rw [List.foldl_cons]
      refine ih _ ?_ fun z hz=>ha z (by simp [hz])
      rw [← Nat.gcd_mul_right]
      exact Nat.dvd_gcd hg (ha x (by simp))
  exact this a 0 (by simp) h
theorem at0_mem {a:Vec} {i:Nat} (h:i < a.length):at0 a i∈a:=by
  have:at0 a i = a[i]:=by simp [at0,h]
  rw [this];exact List.getElem_mem h
theorem mem_at0 {a:Vec} {z:Int} (h:z∈a):∃ i,i < a.length∧at0 a i = z:=by
  obtain ⟨i,hi,e⟩:=List.mem_iff_getElem.mp h
  exact ⟨i,hi,by simp [at0,hi,e]⟩
theorem ext_at0 {a b:Vec} (hl:a.length = b.length) (h:∀ i,i < a.length→at0 a i = at0 b i):a = b:=by
  apply List.ext_getElem hl
  intro i h1 h2
  have:=h i h1
  simpa [at0,h1,h2] using this
theorem par_abs {d:Nat} {a n:Vec} (ha:a.length = d) (hn:n.length = d) (ga:gcdOf a = 1) (p:par d (at0 a) (at0 n)) {j:Nat} (hj:j < d):(at0 a j).natAbs ∣ (at0 n j).natAbs:=by
  have:(at0 a j).natAbs ∣ gcdOf a * (at0 n j).natAbs:=dvd_scaled fun z hz=>by
    obtain ⟨i,hi,rfl⟩:=mem_at0 hz
    have:=p i (by omega) j hj
    rw [← Int.natAbs_mul,this,Int.natAbs_mul]
    exact Nat.dvd_mul_right _ _
  simpa [ga] using this
theorem par_prim {d:Nat} {a n:Vec} (ha:a.length = d) (hn:n.length = d) (ga:gcdOf a = 1) (gn:gcdOf n = 1) (p:par d (at0 a) (at0 n)) :
    a = n∨a = n.map fun z=>-z:=by
  have p':par d (at0 n) (at0 a):=fun i hi j hj=>by
    have:=p i hi j hj
    grind
  have hab:∀ j,j < d→(at0 a j).natAbs = (at0 n j).natAbs:=fun j hj=>Nat.dvd_antisymm (par_abs ha hn ga p hj) (par_abs hn ha gn p' hj)
  obtain ⟨j,hj,hne⟩:∃ j,j < d∧at0 n j≠0:=Classical.byContradiction fun q=>by
    have:gcdOf n = 0:=gcdOf_zero.mpr fun z hz=>by
      obtain ⟨i,hi,rfl⟩:=mem_at0 hz
      exact Classical.byContradiction fun y=>q ⟨i,by omega,y⟩
    omega
  have ej:=hab j hj
  have:at0 a j = at0 n j∨at0 a j = - at0 n j:=by omega
  rcases this with e | e
  · left
    refine ext_at0 (by omega) fun i hi=>?_
    have:=p i (by omega) j hj
    rw [e] at this
    have:at0 n j * (at0 a i - at0 n i) = 0:=by grind
    rcases Int.mul_eq_zero.mp this with z | z
    · exact absurd z hne
    · omega
  · right
    refine ext_at0 (by simp;omega) fun i hi=>?_
    have h1:=p i (by omega) j hj
    rw [e] at h1
    have:at0 n j * (at0 a i + at0 n i) = 0:=by grind
    have h2:at0 (n.map fun z=>-z) i = - at0 n i:=by
      have:i < n.length:=by omega
      simp [at0,this]
    rcases Int.mul_eq_zero.mp this with z | z
    · exact absurd z hne
    · omega
theorem at0_map {f:Int→Int} {a:Vec} (h0:f 0 = 0) (i:Nat):at0 (a.map f) i = f (at0 a i):=by
  by_cases h:i < a.length
  · simp [at0,h]
  · simp [at0,h,h0]
theorem at0_sub {d:Nat} {x y:Vec} (hx:x.length = d) (hy:y.length = d) (i:Nat):at0 (sub x y) i = at0 x i - at0 y i:=by
  unfold sub
  by_cases h:i < d
  · have h1:i < x.length:=by omega
    have h2:i < y.length:=by omega
    have h3:i < (x.zip y).length:=by simp;omega
    simp [at0,h1,h2,List.getElem?_eq_getElem h3]
  · have h1:¬ i < x.length:=by omega
    have h2:¬ i < y.length:=by omega
    have h3:(x.zip y)[i]? = none:=by simp;omega
    simp [at0,h1,h2,h3]
theorem sub_length {d:Nat} {x y:Vec} (hx:x.length = d) (hy:y.length = d):(sub x y).length = d:=by simp [sub,hx,hy]
theorem dotS_sub {d:Nat} {x y:Vec} (hx:x.length = d) (hy:y.length = d) (S:List Nat) (v:Fn):dotS S (at0 (sub x y)) v = dotS S (at0 x) v - dotS S (at0 y) v:=by
  have:dotS S (at0 (sub x y)) v = dotS S (fun i=>1 * at0 x i - 1 * at0 y i) v:=dotS_congr fun i _=>by rw [at0_sub hx hy];simp
  rw [this,dotS_lin];simp
structure SideP (d:Nat) (L:List Vec) (a:Vec) (e:Int):Prop where
  len:a.length = d
  one:gcdOf a = 1
  most:∀ x∈L,dot a x≤e
  some_:∃ x∈L,dot a x = e
  only:∀ (v:Fn) (f:Int),(∀ x∈L,dot a x = e→dotS (List.range d) v (at0 x) = f)→par d v (at0 a)
noncomputable def unit (d:Nat) (c:List Vec):Vec:=(normal d c).map fun z=>z / (gcdOf (normal d c):Int)
structure Found (d:Nat) (L:List Vec) (c:List Vec) (a:Vec) (e:Int):Prop where
  sub:List.Sublist c L
  len:c.length = d
  some_:gcdOf (normal d c)≠0
  way:a = unit d c∨a = (unit d c).map fun z=>-z
  at_:e = dot a (c.headD [])
  most:∀ x∈L,dot a x≤e
theorem SideP.congr {d:Nat} {L M:List Vec} {a:Vec} {e:Int} (h:∀ x,x∈L↔x∈M) (s:SideP d L a e):SideP d M a e where
  len:=s.len
  one:=s.one
  most:=fun x hx=>s.most x ((h x).mpr hx)
  some_:=let ⟨x,hx,e⟩:=s.some_;⟨x,(h x).mp hx,e⟩
  only:=fun v f hv=>s.only v f fun x hx=>hv x ((h x).mp hx)
theorem normal_length (d:Nat) (c:List Vec):(normal d c).length = d:=by simp [normal]
theorem unit_length (d:Nat) (c:List Vec):(unit d c).length = d:=by simp [unit,normal_length]
theorem ways_kill {d:Nat} (h1:1≤d) (hd:d≤4) {m:List Vec} (hc:m.length + 1 = d) (hl:∀ r∈m,r.length = d) {r:Vec} (hr:r∈m):dot r (normalW d m) = 0:=by
  refine Classical.byContradiction fun q=>?_
  have F:=(normalW_full h1 hd hc hl (hl r hr)).mp q
  refine full_few (m.map at0) (List.range d) List.nodup_range (by simp;omega) (full_mono ?_ F)
  intro s hs
  rcases List.mem_cons.mp hs with rfl | hs
  · exact List.mem_map.mpr ⟨r,hr,rfl⟩
  · exact hs
section
variable {d:Nat} {L c:List Vec} {a:Vec} {e:Int}
theorem found_side (h1:1≤d) (hd:d≤4) (hL:∀ x∈L,x.length = d) (F:Found d L c a e):SideP d L a e:=by
  have hcL:∀ x∈c,x.length = d:=fun x hx=>hL x (F.sub.subset hx)
  obtain ⟨p,cs,rfl,hcs⟩:=len_succ (l:=c) (n:=d - 1) (by rw [F.len];omega)
  have hp:p.length = d:=hcL p (by simp)
  have hq:∀ q∈cs,q.length = d:=fun q hq=>hcL q (by simp [hq])
  let m:=cs.map fun q=>sub q p
  have hm:normal d (p :: cs) = normalW d m:=by rw [normal_eq];rfl
  have hml:∀ r∈m,r.length = d:=fun r hr=>by
    obtain ⟨q,hq',rfl⟩:=List.mem_map.mp hr
    exact sub_length (hq q hq') hp
  have hmc:m.length + 1 = d:=by simp [m];omega
  have hg:gcdOf (normalW d m)≠0:=by rw [← hm];exact F.some_
  have nl:=normalW_length d m
  obtain ⟨s,hs,hs0⟩:∃ s:Int,(∀ i,(at0 (normalW d m) i) = s * at0 a i)∧s≠0:=by
    have hgz:((gcdOf (normalW d m):Nat):Int)≠0:=by omega
    have hu:∀ i,at0 (normalW d m) i = (gcdOf (normalW d m):Int) * at0 (unit d (p :: cs)) i:=fun i=>by
      unfold unit
      rw [hm,at0_map (by simp)]
      by_cases hi:i < d
      · exact (div_exact (at0_mem (by omega))).symm
      · rw [at0_beyond nl (by simpa using hi)];simp
    rcases F.way with rfl | rfl
    · exact ⟨_,hu,hgz⟩
    · refine ⟨-(gcdOf (normalW d m):Int),fun i=>?_,by omega⟩
      rw [at0_map (by simp),hu];grind
  have la:a.length = d:=by
    rcases F.way with e | e
    · rw [e];exact unit_length _ _
    · rw [e];simp [unit_length]
  have hnn:dot (normalW d m) (normalW d m)≠0:=fun q=>by
    rw [dot_eq nl nl] at q
    have z:=dotS_self_zero q
    exact hg (gcdOf_zero.mpr fun y hy=>by
      obtain ⟨i,hi,rfl⟩:=mem_at0 hy
      exact z i (by simpa using (by omega:i < d)))
  have Fm:=(normalW_full h1 hd hmc hml nl).mp hnn
  have hk:∀ r∈m.map at0,dotS (List.range d) r (at0 (normalW d m)) = 0:=fun r hr=>by
    obtain ⟨q,hq',rfl⟩:=List.mem_map.mp hr
    rw [← dot_eq (hml q hq') nl]
    exact ways_kill h1 hd hmc hml hq'
  have hka:∀ q∈cs,dot a q = e:=fun q hq'=>by
    have z:=hk (at0 (sub q p)) (List.mem_map.mpr ⟨_,List.mem_map.mpr ⟨q,hq',rfl⟩,rfl⟩)
    have e1:dotS (List.range d) (at0 (sub q p)) (at0 (normalW d m)) = s * dotS (List.range d) (at0 (sub q p)) (at0 a):=by
      have:dotS (List.range d) (at0 (sub q p)) (at0 (normalW d m)) = dotS (List.range d) (at0 (sub q p)) (fun i=>s * at0 a i - 0 * at0 a i):=dotS_congr fun i _=>by rw [hs];simp
      rw [this,dotS_linR];simp
    rw [e1] at z
    rcases Int.mul_eq_zero.mp z with z | z
    · exact absurd z hs0
    · rw [dotS_sub (hq q hq') hp] at z
      have e2:e = dot a p:=F.at_
      rw [e2,dot_eq la (hq q hq'),dot_eq la hp,dotS_comm,dotS_comm _ (at0 a)]
      omega
  refine ⟨la,?_,F.most,⟨p,F.sub.subset (by simp),F.at_.symm⟩,?_⟩
  · have g1:gcdOf (unit d (p :: cs)) = 1:=gcdOf_div F.some_
    rcases F.way with e | e
    · rw [e];exact g1
    · rw [e,gcdOf_neg];exact g1
  · intro v f hv
    have hv':∀ r∈m.map at0,dotS (List.range d) r v = 0:=fun r hr=>by
      obtain ⟨r',hr',rfl⟩:=List.mem_map.mp hr
      obtain ⟨q,hq',rfl⟩:=List.mem_map.mp hr'
      rw [dotS_sub (hq q hq') hp,dotS_comm,hv q (F.sub.subset (by simp [hq'])) (hka q hq'),dotS_comm,hv p (F.sub.subset (by simp)) F.at_.symm]
      omega
    have pp:=par_of Fm hk hv'
    intro i hi j hj
    have:=pp i hi j hj
    rw [hs i,hs j] at this
    have:s * (v i * at0 a j - v j * at0 a i) = 0:=by grind
    rcases Int.mul_eq_zero.mp this with z | z
    · exact absurd z hs0
    · omega
theorem side_found (h1:1≤d) (hd:d≤4) (hL:∀ x∈L,x.length = d) (S:SideP d L a e):∃ c,Found d L c a e:=by
  have la:=S.len
  have ha0:dotS (List.range d) (at0 a) (at0 a)≠0:=fun q=>by
    have z:=dotS_self_zero q
    have:gcdOf a = 0:=gcdOf_zero.mpr fun y hy=>by
      obtain ⟨i,hi,rfl⟩:=mem_at0 hy
      exact z i (by simpa using (by omega:i < d))
    have:=S.one;omega
  obtain ⟨p,T',hT⟩:∃ p T',(L.filter fun x=>decide (dot a x = e)) = p :: T':=by
    obtain ⟨x,hx,ex⟩:=S.some_
    cases h:L.filter fun x=>decide (dot a x = e) with
    | nil =>
      have:x∈L.filter fun x=>decide (dot a x = e):=List.mem_filter.mpr ⟨hx,by simp [ex]⟩
      rw [h] at this;simp at this
    | cons p T'=>exact ⟨p,T',rfl⟩
  have hsub:List.Sublist (p :: T') L:=by rw [← hT];exact List.filter_sublist
  have tight:∀ x∈p :: T',dot a x = e:=fun x hx=>by
    rw [← hT] at hx
    simpa using (List.mem_filter.mp hx).2
  have hp:p.length = d:=hL p (hsub.subset (by simp))
  have ht:∀ q∈T',q.length = d:=fun q hq=>hL q (hsub.subset (by simp [hq]))
  have kill:∀ q∈T',dotS (List.range d) (at0 (sub q p)) (at0 a) = 0:=fun q hq=>by
    have e1:=tight q (by simp [hq])
    have e2:=tight p (by simp)
    rw [dot_eq la (ht q hq)] at e1
    rw [dot_eq la hp] at e2
    rw [dotS_sub (ht q hq) hp,dotS_comm,e1,dotS_comm,e2];omega
  let rows:List Vec:=a :: T'.map fun q=>sub q p
  have hrl:∀ r∈rows,r.length = d:=fun r hr=>by
    rcases List.mem_cons.mp hr with rfl | hr
    · exact la
    · obtain ⟨q,hq,rfl⟩:=List.mem_map.mp hr
      exact sub_length (ht q hq) hp
  have FR:FullF (List.range d) (rows.map at0):=by
    intro v hv i hi
    have av:dotS (List.range d) (at0 a) v = 0:=hv _ (by simp [rows])
    have pv:=S.only v (dotS (List.range d) v (at0 p)) fun x hx hxe=>by
      have hx':x∈p :: T':=by rw [← hT];exact List.mem_filter.mpr ⟨hx,by simp [hxe]⟩
      rcases List.mem_cons.mp hx' with rfl | hx'
      · rfl
      · have:=hv (at0 (sub x p)) (by simp only [rows,List.map_cons,List.map_map,List.mem_cons,List.mem_map];exact .inr ⟨x,hx',rfl⟩)
        rw [dotS_sub (ht x hx') hp] at this
        rw [dotS_comm,dotS_comm _ v];omega
    have key:∀ (S:List Nat),(∀ j∈S,j < d)→dotS S (at0 a) (at0 a) * v i = dotS S (at0 a) v * at0 a i:=by
      intro S
      induction S with
      | nil=>intro _;simp [dotS]
      | cons c S ih =>
        intro hS
        rw [dotS_cons,dotS_cons]
        have h2:=ih fun j hj=>hS j (by simp [hj])
        have h3:=pv i (by simpa using hi) c (hS c (by simp))
        grind
    have h4:=key (List.range d) (fun j hj=>by simpa using hj)
    rw [av] at h4
    rcases Int.mul_eq_zero.mp (by simpa using h4:dotS (List.range d) (at0 a) (at0 a) * v i = 0) with z | z
    · exact absurd z ha0
    · exact z
  obtain ⟨c0,hs0,hc0,F0⟩:=full_square hrl FR
  have hbad:¬ List.Sublist c0 (T'.map fun q=>sub q p):=fun q=>by
    have z:=F0 (at0 a) fun r hr=>by
      obtain ⟨r',hr',rfl⟩:=List.mem_map.mp hr
      obtain ⟨y,hy,rfl⟩:=List.mem_map.mp (q.subset hr')
      exact kill y hy
    exact ha0 (dotS_zero fun i hi=>by rw [z i hi];simp)
  have hs0:List.Sublist c0 (a :: T'.map fun q=>sub q p):=hs0
  cases hs0 with
  | cons _ h=>exact absurd h hbad
  | cons_cons _ h =>
    rename_i c1
    obtain ⟨c2,hc2,rfl⟩:=List.sublist_map_iff.mp h
    have hc2l:c2.length + 1 = d:=by simpa using hc0
    let m:=c2.map fun q=>sub q p
    have hm:normal d (p :: c2) = normalW d m:=by rw [normal_eq];rfl
    have hml:∀ r∈m,r.length = d:=fun r hr=>by
      obtain ⟨q,hq',rfl⟩:=List.mem_map.mp hr
      exact sub_length (ht q (hc2.subset hq')) hp
    have hmc:m.length + 1 = d:=by simp [m];omega
    have nl:=normalW_length d m
    have hn:=(normalW_full h1 hd hmc hml la).mpr F0
    have hg:gcdOf (normalW d m)≠0:=fun q=>hn (by
      rw [dot_eq la nl]
      exact dotS_zero fun i hi=>by
        have:i < d:=by simpa using hi
        rw [gcdOf_zero.mp q _ (at0_mem (by omega))];simp)
    have hnn:dot (normalW d m) (normalW d m)≠0:=fun q=>by
      rw [dot_eq nl nl] at q
      have z:=dotS_self_zero q
      exact hg (gcdOf_zero.mpr fun y hy=>by
        obtain ⟨i,hi,rfl⟩:=mem_at0 hy
        exact z i (by simpa using (by omega:i < d)))
    have Fm:=(normalW_full h1 hd hmc hml nl).mp hnn
    have hk:∀ r∈m.map at0,dotS (List.range d) r (at0 (normalW d m)) = 0:=fun r hr=>by
      obtain ⟨q,hq',rfl⟩:=List.mem_map.mp hr
      rw [← dot_eq (hml q hq') nl]
      exact ways_kill h1 hd hmc hml hq'
    have hka:∀ r∈m.map at0,dotS (List.range d) r (at0 a) = 0:=fun r hr=>by
      obtain ⟨r',hr',rfl⟩:=List.mem_map.mp hr
      obtain ⟨q,hq',rfl⟩:=List.mem_map.mp hr'
      exact kill q (hc2.subset hq')
    have pp:=par_of Fm hk hka
    refine ⟨p :: c2,(hc2.cons_cons p).trans hsub,by simpa using hc2l,by rw [hm];exact hg,?_,(tight p (by simp)).symm,S.most⟩
    have g1:gcdOf (unit d (p :: c2)) = 1:=gcdOf_div (by rw [hm];exact hg)
    refine par_prim la (unit_length _ _) S.one g1 ?_
    intro i hi j hj
    have:=pp i hi j hj
    have hu:∀ i,at0 (normalW d m) i = (gcdOf (normalW d m):Int) * at0 (unit d (p :: c2)) i:=fun i=>by
      unfold unit
      rw [hm,at0_map (by simp)]
      by_cases hi:i < d
      · exact (div_exact (at0_mem (by omega))).symm
      · rw [at0_beyond nl (by simpa using hi)];simp
    rw [hu i,hu j] at this
    have:(gcdOf (normalW d m):Int) * (at0 a i * at0 (unit d (p :: c2)) j - at0 a j * at0 (unit d (p :: c2)) i) = 0:=by grind
    rcases Int.mul_eq_zero.mp this with z | z
    · omega
    · omega
end
end WP
namespace WP
open Sx38 Sa83
def RoomP (d:Nat) (L:List Vec):Prop:=∀ (v:Fn) (f:Int),(∀ x∈L,dotS (List.range d) v (at0 x) = f)→∀ i,i < d→v i = 0
theorem dotS_snoc {d:Nat} {x:Vec} (hx:x.length = d) (v:Fn):dotS (List.range (d + 1)) (at0 (x ++ [1])) v = dotS (List.range d) (at0 x) v + v d:=by
  have e:List.range (d + 1) = List.range d ++ [d]:=List.range_succ
  have h2:at0 (x ++ [1]) d = 1:=by simp [at0,← hx]
  have h3:dotS (List.range d) (at0 (x ++ [1])) v = dotS (List.range d) (at0 x) v:=dotS_congr fun i hi=>by
    have:i < x.length:=by rw [hx];simpa using hi
    simp [at0,this,List.getElem?_append_left this]
  rw [← h3]
  unfold dotS
  rw [e]
  simp [h2]
theorem room_rank {d : Nat} {L : List Vec} (hL : ∀ x ∈ L, x.length = d) (h0 : L ≠ []) : rankOf (L.map fun x => x ++ [1]) = d + 1 ↔ RoomP d L := by
  rw [rankOf_full (m := d + 1) (by
    intro r hr
    obtain ⟨x, hx, rfl⟩ := List.mem_map.mp hr
    simp [hL x hx])]
  constructor
  · intro F v f hv i hi
    have z := F (fun i => if i = d then -f else v i) fun r hr => by
      obtain ⟨r', hr', rfl⟩ := List.mem_map.mp hr
      obtain ⟨x, hx, rfl⟩ := List.mem_map.mp hr'
      rw [dotS_snoc (hL x hx)]
      have : dotS (List.range d) (at0 x) (fun i => if i = d then -f else v i) = dotS (List.range d) (at0 x) v := dotS_congr fun i hi => by
        have : i ≠ d := by have : i < d := by simpa using hi
                           omega
        simp [this]
      rw [this, dotS_comm, hv x hx]; simp; omega
    have := z i (by simp; omega)
    have ne : i ≠ d := by omega
    simpa [ne] using this
  · intro R v hv
    have hx' : ∀ x ∈ L, dotS (List.range d) v (at0 x) = - v d := fun x hx => by
      have := hv (at0 (x ++ [1])) (List.mem_map.mpr ⟨_, List.mem_map.mpr ⟨x, hx, rfl⟩, rfl⟩)
      rw [dotS_snoc (hL x hx)] at this
      rw [dotS_comm]; omega
    have z := R v (- v d) hx'
    obtain ⟨x, t, e⟩ := List.exists_cons_of_ne_nil h0
    have hd := hx' x (by simp [e])
    rw [dotS_zero fun i hi => by rw [z i (by simpa using hi)]; simp] at hd
    intro i hi
    have : i < d + 1 := by simpa using hi
    by_cases e : i = d
    · rw [e]; omega
    · exact z i (by omega)
theorem max_in {α:Type} (f:α→Int):∀ (L:List α),L≠[]→∃ x∈L,∀ y∈L,f y≤f x
  | [],h=>absurd rfl h
  | [x],_=>⟨x,by simp,by simp⟩
  | x :: y :: r,_=>by
    obtain ⟨z,hz,hm⟩:=max_in f (y :: r) (by simp)
    by_cases h:f z≤f x
    · refine ⟨x,by simp,fun w hw=>?_⟩
      rcases List.mem_cons.mp hw with rfl | hw
      · omega
      · have:=hm w hw;omega
    · refine ⟨z,by simp at hz ⊢;exact .inr hz,fun w hw=>?_⟩
      rcases List.mem_cons.mp hw with rfl | hw
      · omega
      · exact hm w hw
theorem ratio_in {α:Type} (N S:α→Int):∀ (L:List α),(∀ x∈L,0 < N x→0 < S x)→(∃ x∈L,0 < N x)→∃ x∈L,0 < N x∧∀ y∈L,0 < N y→N y * S x≤N x * S y
  | [],_,h=>by obtain ⟨x,hx,_⟩:=h;simp at hx
  | x :: r,hS,h=>by
    by_cases hr:∃ y∈r,0 < N y
    · obtain ⟨z,hz,pz,hm⟩:=ratio_in N S r (fun y hy=>hS y (by simp [hy])) hr
      have sz:=hS z (by simp [hz]) pz
      by_cases hx:0 < N x∧N z * S x≤N x * S z
      · refine ⟨x,by simp,hx.1,fun y hy py=>?_⟩
        have sx:=hS x (by simp) hx.1
        rcases List.mem_cons.mp hy with rfl | hy
        · exact Int.le_refl _
        · have sy:=hS y (by simp [hy]) py
          have h1:=hm y hy py
          have h2:N y * S z * S x≤N z * S y * S x:=Int.mul_le_mul_of_nonneg_right h1 (by omega)
          have h3:N z * S x * S y≤N x * S z * S y:=Int.mul_le_mul_of_nonneg_right hx.2 (by omega)
          have h4:N y * S x * S z≤N x * S y * S z:=by grind
          exact Int.le_of_mul_le_mul_right h4 sz
      · refine ⟨z,by simp [hz],pz,fun y hy py=>?_⟩
        rcases List.mem_cons.mp hy with rfl | hy
        · have:¬ N z * S y≤N y * S z:=fun q=>hx ⟨py,q⟩
          omega
        · exact hm y hy py
    · obtain ⟨y,hy,py⟩:=h
      rcases List.mem_cons.mp hy with rfl | hy
      · refine ⟨y,by simp,py,fun w hw pw=>?_⟩
        rcases List.mem_cons.mp hw with rfl | hw
        · exact Int.le_refl _
        · exact absurd ⟨w,hw,pw⟩ hr
      · exact absurd ⟨y,hy,py⟩ hr
theorem filter_lt {α:Type} {p q:α→Bool} (h:∀ x,q x = true→p x = true):∀ {L:List α},(∃ x∈L,p x = true∧q x = false)→(L.filter q).length < (L.filter p).length:=by
  have le:∀ L:List α,(L.filter q).length≤(L.filter p).length:=by
    intro L
    induction L with
    | nil=>simp
    | cons x r ih =>
      by_cases hq:q x = true
      · simp [hq,h x hq,ih]
      · by_cases hp:p x = true
        · simp [hq,hp];omega
        · simp [hq,hp,ih]
  intro L
  induction L with
  | nil=>rintro ⟨x,hx,_⟩;simp at hx
  | cons x r ih =>
    rintro ⟨y,hy,hp,hq⟩
    rcases List.mem_cons.mp hy with rfl | hy
    · have:=le r
      simp [hp,hq];omega
    · have:=ih ⟨y,hy,hp,hq⟩
      by_cases hq:q x = true
      · simp [hq,h x hq,this]
      · by_cases hp:p x = true
        · simp [hq,hp];omega
        · simp [hq,hp,this]
section
variable {d:Nat} {L:List Vec}
theorem dot_fn {a x:Vec} {v:Fn} (ha:a.length = d) (hx:x.length = d) (h:∀ i,i < d→at0 a i = v i):dot a x = dotS (List.range d) v (at0 x):=by
  rw [dot_eq ha hx]
  exact dotS_congr fun i hi=>by rw [h i (by simpa using hi)]
theorem made_at {v:Fn} {i:Nat} (h:i < d):at0 ((List.range d).map v) i = v i:=by simp [at0,h]
theorem rotate (hL:∀ x∈L,x.length = d) (R:RoomP d L):∀ (k:Nat) (a:Vec) (e:Int),a.length = d→(∃ i,i < d∧at0 a i≠0)→(∀ x∈L,dot a x≤e)→(∃ x∈L,dot a x = e) →
    (L.filter fun x=>decide (dot a x≠e)).length≤k→∃ a e,SideP d L a e:=by
  intro k
  induction k with
  | zero =>
    intro a e la hne hm ⟨x0,hx0,ex0⟩ hk
    exfalso
    have hall:∀ x∈L,dot a x = e:=fun x hx=>Classical.byContradiction fun q=>by
      have:x∈L.filter fun x=>decide (dot a x≠e):=List.mem_filter.mpr ⟨hx,by simpa using q⟩
      rw [len0 (Nat.le_zero.mp hk)] at this
      simp at this
    obtain ⟨i,hi,hn⟩:=hne
    exact hn (R (at0 a) e (fun x hx=>by rw [← dot_eq la (hL x hx)];exact hall x hx) i hi)
  | succ k ih =>
    intro a e la hne hm hs hk
    by_cases only:∀ (v:Fn) (f:Int),(∀ x∈L,dot a x = e→dotS (List.range d) v (at0 x) = f)→par d v (at0 a)
    · obtain ⟨x0,hx0,ex0⟩:=hs
      obtain ⟨i,hi,hn⟩:=hne
      have hg:gcdOf a≠0:=fun q=>hn (gcdOf_zero.mp q _ (at0_mem (by omega)))
      let a1:=a.map fun z=>z / (gcdOf a:Int)
      have la1:a1.length = d:=by simp [a1,la]
      have ha:∀ i,i < d→at0 a i = (gcdOf a:Int) * at0 a1 i:=fun i hi=>by
        have:at0 a1 i = at0 a i / (gcdOf a:Int):=at0_map (by simp) i
        rw [this]
        exact (div_exact (at0_mem (by omega))).symm
      have hd:∀ x∈L,dot a x = (gcdOf a:Int) * dot a1 x:=fun x hx=>by
        rw [dot_fn la (hL x hx) ha,dot_eq la1 (hL x hx)]
        have:=dotS_lin (S:=List.range d) (gcdOf a:Int) 0 (at0 a1) (at0 a1) (at0 x)
        simpa using this
      have gp:(0:Int) < (gcdOf a:Int):=by omega
      refine ⟨a1,dot a1 x0,la1,gcdOf_div hg,fun x hx=>?_,⟨x0,hx0,rfl⟩,fun v f hv=>?_⟩
      · have h1:=hm x hx
        rw [← ex0,hd x hx,hd x0 hx0] at h1
        exact Int.le_of_mul_le_mul_left h1 gp
      · have pp:=only v f fun x hx hxe=>hv x hx (by
          rw [← ex0,hd x hx,hd x0 hx0] at hxe
          exact Int.eq_of_mul_eq_mul_left (by omega) hxe)
        intro i hi j hj
        have:=pp i hi j hj
        rw [ha i hi,ha j hj] at this
        have:(gcdOf a:Int) * (v i * at0 a1 j - v j * at0 a1 i) = 0:=by grind
        rcases Int.mul_eq_zero.mp this with z | z
        · omega
        · omega
    · -- a way to turn
      obtain ⟨v,f,hv,hnp,y,hy,hpos⟩:∃ (v:Fn) (f:Int),(∀ x∈L,dot a x = e→dotS (List.range d) v (at0 x) = f)∧¬ par d v (at0 a)∧∃ y∈L,0 < dotS (List.range d) v (at0 y) - f:=by
        obtain ⟨v,hv⟩:=Classical.not_forall.mp only
        obtain ⟨f,hv⟩:=Classical.not_forall.mp hv
        obtain ⟨hv,hnp⟩:=Classical.not_imp.mp hv
        obtain ⟨y,hy,hne'⟩:∃ y∈L,dotS (List.range d) v (at0 y)≠f:=Classical.byContradiction fun q=>hnp (by
          have z:=R v f fun x hx=>Classical.byContradiction fun w=>q ⟨x,hx,w⟩
          intro i hi j hj
          rw [z i hi,z j hj];simp)
        by_cases hp:0 < dotS (List.range d) v (at0 y) - f
        · exact ⟨v,f,hv,hnp,y,hy,hp⟩
        · have neg:∀ x:Vec,dotS (List.range d) (fun i=>0 * v i - 1 * v i) (at0 x) = - dotS (List.range d) v (at0 x):=fun x=>by
            rw [dotS_lin];simp
          refine ⟨fun i=>0 * v i - 1 * v i,-f,fun x hx hxe=>by rw [neg,hv x hx hxe],fun q=>hnp ?_,y,hy,by rw [neg];omega⟩
          intro i hi j hj
          have:=q i hi j hj
          grind
      have hS:∀ x∈L,0 < dotS (List.range d) v (at0 x) - f→0 < e - dot a x:=fun x hx hp=>by
        have h1:=hm x hx
        have h2:dot a x≠e:=fun q=>by have:=hv x hx q;omega
        omega
      obtain ⟨s,hs',ps,hmax⟩:=ratio_in (fun x=>dotS (List.range d) v (at0 x) - f) (fun x=>e - dot a x) L hS ⟨y,hy,hpos⟩
      have ss:=hS s hs' ps
      generalize hN:dotS (List.range d) v (at0 s) - f = N at ps hmax
      generalize hSs:e - dot a s = S at ss hmax
      let a':=(List.range d).map fun i=>N * at0 a i - (-S) * v i
      have la':a'.length = d:=by simp [a']
      have hd:∀ x∈L,dot a' x = N * dot a x + S * dotS (List.range d) v (at0 x):=fun x hx=>by
        rw [dot_fn la' (hL x hx) (v:=fun i=>N * at0 a i - (-S) * v i) (fun i hi=>made_at hi),dotS_lin,dot_eq la (hL x hx)]
        grind
      have keep:∀ x∈L,dot a x = e→dot a' x = N * e + S * f:=fun x hx hxe=>by
        rw [hd x hx,hxe,hv x hx hxe]
      have hse:dot a' s = N * e + S * f:=by
        rw [hd s hs']
        have e1:dot a s = e - S:=by omega
        have e2:dotS (List.range d) v (at0 s) = N + f:=by omega
        rw [e1,e2];grind
      refine ih a' (N * e + S * f) la' ?_ ?_ ⟨s,hs',hse⟩ ?_
      · refine Classical.byContradiction fun q=>hnp ?_
        have z:∀ i,i < d→N * at0 a i + S * v i = 0:=fun i hi=>Classical.byContradiction fun w=>q ⟨i,hi,by
          rw [made_at hi]
          intro u;exact w (by grind)⟩
        intro i hi j hj
        have h1:=z i hi
        have h2:=z j hj
        have:S * (v i * at0 a j - v j * at0 a i) = 0:=by grind
        rcases Int.mul_eq_zero.mp this with w | w
        · omega
        · omega
      · intro x hx
        rw [hd x hx]
        have h1:=hm x hx
        by_cases hp:0 < dotS (List.range d) v (at0 x) - f
        · have:=hmax x hx hp
          grind
        · have h3:0≤N * (e - dot a x):=Int.mul_nonneg (by omega) (by omega)
          have h4:0≤S * (f - dotS (List.range d) v (at0 x)):=Int.mul_nonneg (by omega) (by omega)
          grind
      · have hsne:dot a s≠e:=by omega
        have:(L.filter fun x=>decide (dot a' x≠N * e + S * f)).length < (L.filter fun x=>decide (dot a x≠e)).length:=by
          have e1:(L.filter fun x=>decide (dot a' x≠N * e + S * f)) = L.filter fun x=>decide (dot a' x≠N * e + S * f) && decide (dot a x≠e):=by
            apply List.filter_congr
            intro x hx
            by_cases w:dot a x = e
            · simp [w,keep x hx w]
            · simp [w]
          rw [e1]
          apply filter_lt
          · intro x hx
            simp only [Bool.and_eq_true] at hx
            exact hx.2
          · exact ⟨s,hs',by simpa using hsne,by simp [hse]⟩
        omega
theorem exists_side (h1:1≤d) (hL:∀ x∈L,x.length = d) (h0:L≠[]) (R:RoomP d L):∃ a e,SideP d L a e:=by
  let a:Vec:=(List.range d).map fun i=>if i = 0 then 1 else 0
  obtain ⟨x0,hx0,hm⟩:=max_in (fun x=>dot a x) L h0
  exact rotate hL R _ a (dot a x0) (by simp [a]) ⟨0,h1,by rw [made_at (by omega)];simp⟩ hm ⟨x0,hx0,rfl⟩ (Nat.le_refl _)
theorem side_room (hL:∀ x∈L,x.length = d) {a:Vec} {e:Int} (S:SideP d L a e) (hlt:∃ x∈L,dot a x < e):RoomP d L:=by
  obtain ⟨x0,hx0,h0⟩:=hlt
  obtain ⟨p,hp,hpe⟩:=S.some_
  intro v f hv i hi
  have pp:=S.only v f fun x hx _=>hv x hx
  have key:∀ (T:List Nat),(∀ j∈T,j < d)→dotS T (at0 a) (at0 (sub x0 p)) * v i = dotS T v (at0 (sub x0 p)) * at0 a i:=by
    intro T
    induction T with
    | nil=>intro _;simp [dotS]
    | cons c T ih =>
      intro hT
      rw [dotS_cons,dotS_cons]
      have h2:=ih fun j hj=>hT j (by simp [hj])
      have h3:=pp i hi c (hT c (by simp))
      grind
  have h4:=key (List.range d) fun j hj=>by simpa using hj
  rw [dotS_comm,dotS_sub (hL x0 hx0) (hL p hp),dotS_comm _ v,dotS_sub (hL x0 hx0) (hL p hp),dotS_comm _ (at0 x0) v,hv x0 hx0,dotS_comm _ (at0 p) v,hv p hp,dotS_comm _ (at0 x0),← dot_eq S.len (hL x0 hx0),dotS_comm _ (at0 p),← dot_eq S.len (hL p hp)] at h4
  have:(dot a x0 - dot a p) * v i = 0:=by simpa using h4
  rcases Int.mul_eq_zero.mp this with z | z
  · omega
  · exact z
theorem room_strict (hL:∀ x∈L,x.length = d) (R:RoomP d L) {a:Vec} {e:Int} (S:SideP d L a e):∃ x∈L,dot a x < e:=by
  refine Classical.byContradiction fun q=>?_
  have hall:∀ x∈L,dot a x = e:=fun x hx=>by
    have:=S.most x hx
    have:¬ dot a x < e:=fun w=>q ⟨x,hx,w⟩
    omega
  have z:=R (at0 a) e fun x hx=>by rw [← dot_eq S.len (hL x hx)];exact hall x hx
  have:gcdOf a = 0:=gcdOf_zero.mpr fun y hy=>by
    obtain ⟨i,hi,rfl⟩:=mem_at0 hy
    exact z i (by rw [← S.len];exact hi)
  have:=S.one;omega
theorem dot_neg {a x:Vec}:dot (a.map fun z=>-z) x = - dot a x:=by
  unfold dot
  rw [sum_eq,sum_eq]
  induction a generalizing x with
  | nil=>simp
  | cons y a ih=>cases x with
    | nil=>simp
    | cons w x=>simp only [List.map_cons,List.zip_cons_cons,List.sum_cons];rw [ih];grind
theorem mem_sidesOf (h1:1≤d) (hd:d≤4) (hL:∀ x∈L,x.length = d) {a:Vec} {e:Int} :
    (a,e)∈sidesOf d L↔SideP d L a e∧∃ x∈L,dot a x < e:=by
  have hmem:∀ x,x∈L.eraseDups↔x∈L:=fun x=>by simp
  have hL':∀ x∈L.eraseDups,x.length = d:=fun x hx=>hL x ((hmem x).mp hx)
  unfold sidesOf
  rw [List.mem_eraseDups,List.mem_flatMap]
  constructor
  · rintro ⟨c,hc,hm⟩
    obtain ⟨hs,hcl⟩:=mem_choose.mp hc
    simp only at hm
    split at hm
    · simp at hm
    · rename_i hg
      have hg:gcdOf (normal d c)≠0:=by omega
      rw [List.mem_append] at hm
      have fin:∀ {b:Vec} {f:Int},(b = unit d c∨b = (unit d c).map fun z=>-z)→f = dot b (c.headD [])→(∀ x∈L,dot b x≤f)→(∃ x∈L,dot b x < f)→SideP d L b f∧∃ x∈L,dot b x < f:=by
        intro b f hb hf hmost hlt
        exact ⟨(found_side h1 hd hL' ⟨hs,hcl,hg,hb,hf,fun x hx=>hmost x ((hmem x).mp hx)⟩).congr hmem,hlt⟩
      rcases hm with hm | hm
      · split at hm
        · rename_i hcond
          obtain ⟨rfl,rfl⟩:a = unit d c∧e = dot (unit d c) (c.headD []):=by
            have:=List.mem_singleton.mp hm
            exact ⟨(Prod.mk.inj this).1,(Prod.mk.inj this).2⟩
          simp only [Bool.and_eq_true,List.all_eq_true,List.any_eq_true,List.mem_map,decide_eq_true_eq] at hcond
          refine fin (.inl rfl) rfl (fun x hx=>hcond.1 _ ⟨x,hx,rfl⟩) ?_
          obtain ⟨_,⟨x,hx,rfl⟩,hlt⟩:=hcond.2
          exact ⟨x,hx,hlt⟩
        · simp at hm
      · split at hm
        · rename_i hcond
          obtain ⟨rfl,rfl⟩:a = (unit d c).map (fun z=>-z)∧e = - dot (unit d c) (c.headD []):=by
            have:=List.mem_singleton.mp hm
            exact ⟨(Prod.mk.inj this).1,(Prod.mk.inj this).2⟩
          simp only [Bool.and_eq_true,List.all_eq_true,List.any_eq_true,List.mem_map,decide_eq_true_eq] at hcond
          refine fin (.inr rfl) dot_neg.symm (fun x hx=>?_) ?_
          · have:=hcond.1 _ ⟨x,hx,rfl⟩
            rw [dot_neg];exact Int.neg_le_neg this
          · obtain ⟨_,⟨x,hx,rfl⟩,hlt⟩:=hcond.2
            refine ⟨x,hx,?_⟩
            rw [dot_neg];exact Int.neg_lt_neg hlt
        · simp at hm
  · rintro ⟨S,hlt⟩
    obtain ⟨c,F⟩:=side_found h1 hd hL' (S.congr fun x=>(hmem x).symm)
    refine ⟨c,mem_choose.mpr ⟨F.sub,F.len⟩,?_⟩
    have hg:¬ ((gcdOf (normal d c):Nat):Int) = 0:=by have:=F.some_;omega
    simp only [hg,if_false]
    rw [List.mem_append]
    obtain ⟨x0,hx0,h0⟩:=hlt
    rcases F.way with hw | hw
    · left
      have he:e = dot (unit d c) (c.headD []):=by rw [F.at_,hw]
      rw [if_pos]
      · exact List.mem_singleton.mpr (by rw [hw,he];rfl)
      · simp only [Bool.and_eq_true,List.all_eq_true,List.any_eq_true,List.mem_map,decide_eq_true_eq]
        constructor
        · rintro _ ⟨x,hx,rfl⟩
          have:=S.most x hx
          rw [hw,he] at this;exact this
        · refine ⟨_,⟨x0,hx0,rfl⟩,?_⟩
          rw [hw,he] at h0;exact h0
    · right
      have he:e = - dot (unit d c) (c.headD []):=by rw [F.at_,hw,dot_neg]
      rw [if_pos]
      · exact List.mem_singleton.mpr (by rw [hw,he];rfl)
      · simp only [Bool.and_eq_true,List.all_eq_true,List.any_eq_true,List.mem_map,decide_eq_true_eq]
        constructor
        · rintro _ ⟨x,hx,rfl⟩
          have:=S.most x hx
          rw [hw,he,dot_neg] at this;exact Int.neg_le_neg_iff.mp this
        · refine ⟨_,⟨x0,hx0,rfl⟩,?_⟩
          rw [hw,he,dot_neg] at h0;exact Int.neg_lt_neg_iff.mp h0
theorem sides_room (h1:1≤d) (hd:d≤4) (hL:∀ x∈L,x.length = d) (h0:L≠[]):sidesOf d L≠[]↔RoomP d L:=by
  constructor
  · intro h
    obtain ⟨⟨a,e⟩,t,hx⟩:=List.exists_cons_of_ne_nil h
    obtain ⟨S,hlt⟩:=(mem_sidesOf h1 hd hL (a:=a) (e:=e)).mp (by rw [hx];simp)
    exact side_room hL S hlt
  · intro R q
    obtain ⟨a,e,S⟩:=exists_side h1 hL h0 R
    have:=(mem_sidesOf h1 hd hL).mpr ⟨S,room_strict hL R S⟩
    rw [q] at this;simp at this
end
end WP
namespace WP
open Sx38 Sa83
theorem before_irrefl:∀ (a:List Int),before a a = false
  | []=>rfl
  | x :: r=>by simp [before,before_irrefl r]
theorem before_trans:∀ {a b c:List Int},before a b = true→before b c = true→before a c = true
  | [],_,_,h,_=>by simp [before] at h
  | _ :: _,[],_,h,_=>by simp [before] at h
  | _ :: _,_ :: _,[],_,h=>by simp [before] at h
  | x :: r,y :: s,z :: t,h,g=>by
    simp only [before,Bool.or_eq_true,Bool.and_eq_true,decide_eq_true_eq,beq_iff_eq] at h g ⊢
    rcases h with h | ⟨rfl,h⟩
    · rcases g with g | ⟨rfl,g⟩
      · left;omega
      · left;exact h
    · rcases g with g | ⟨rfl,g⟩
      · left;exact g
      · right;exact ⟨rfl,before_trans h g⟩
theorem before_total:∀ {a b:List Int},a.length = b.length→before a b = false→before b a = false→a = b
  | [],[],_,_,_=>rfl
  | x :: r,y :: s,hl,h,g=>by
    simp only [before,Bool.or_eq_false_iff,Bool.and_eq_false_iff,decide_eq_false_iff_not,beq_eq_false_iff_ne] at h g
    have e:x = y:=by omega
    subst e
    have h2:before r s = false:=by rcases h.2 with z | z;exact absurd rfl z;exact z
    have g2:before s r = false:=by rcases g.2 with z | z;exact absurd rfl z;exact z
    rw [before_total (by simpa using hl) h2 g2]
theorem mem_insert {x y:List Int}:∀ {l:List (List Int)},y∈insert_ x l↔y = x∨y∈l
  | []=>by simp [insert_]
  | z :: r=>by
    unfold insert_
    split
    · simp
    · simp only [List.mem_cons,mem_insert]
      constructor
      · rintro (h | h | h) <;> simp [h]
      · rintro (h | h | h) <;> simp [h]
def bD (b:List Int):Nat:=(b.getD 0 0).toNat
def bN (b:List Int):Nat:=(b.getD 1 0).toNat
def bZ (b:List Int):List Int:=b.drop 2
noncomputable def pts (b:List Int):List Vec:=(List.range (bN b)).map fun k=>((bZ b).drop (bD b * k)).take (bD b)
structure Shape (b:List Int):Prop where
  d1:1≤bD b
  d4:bD b≤4
  n1:1≤bN b
  n12:bN b≤12
  len:(bZ b).length = bD b * bN b
theorem blocks_getD (f:Nat→Nat→Int):∀ (n i k:Nat),i < n→k < 4→((List.range n).flatMap fun i=>(List.range 4).map (f i)).getD (4 * i + k) 0 = f i k:=by
  intro n
  induction n with
  | zero=>intro i k hi;omega
  | succ n ih =>
    intro i k hi hk
    have hlen:∀ n,((List.range n).flatMap fun i=>(List.range 4).map (f i)).length = 4 * n:=by
      intro n
      induction n with
      | zero=>rfl
      | succ n ih=>rw [List.range_succ (n:=n),List.flatMap_append,List.length_append,ih];simp;omega
    rw [List.range_succ (n:=n),List.flatMap_append,List.getD_eq_getElem?_getD]
    by_cases h:i < n
    · rw [List.getElem?_append_left (by rw [hlen];omega),← List.getD_eq_getElem?_getD]
      exact ih i k h hk
    · have e:i = n:=by omega
      subst e
      rw [List.getElem?_append_right (by rw [hlen];omega),hlen]
      have:4 * i + k - 4 * i = k:=by omega
      rw [this]
      simp [hk]
theorem points_eq {b:List Int} (h:Shape b):(Sx38Neutral.bodyOf b).points = pts b:=by
  unfold Body.points pts Sx38Neutral.bodyOf Body.dim
  simp only
  have hn:bN b≤12:=h.n12
  have e1:(b.getD 1 0).toNat = bN b:=rfl
  have e2:(b.getD 0 0).toNat = bD b:=rfl
  have e3:b.drop 2 = bZ b:=rfl
  rw [e1,e2,e3,Nat.min_eq_left hn]
  apply List.map_congr_left
  intro i hi
  have hi:i < bN b:=by simpa using hi
  apply List.ext_getElem
  · have:bD b * i + bD b≤bD b * bN b:=by
      rw [← Nat.mul_succ];exact Nat.mul_le_mul_left _ hi
    have:=h.len
    simp;omega
  · intro k h1 h2
    have hk:k < bD b:=by simpa using h1
    have hd:=h.d4
    simp only [List.getElem_map,List.getElem_range]
    rw [blocks_getD (fun i k=>if k < bD b then (bZ b).getD (i * bD b + k) 0 else 0) (bN b) i k hi (by omega),if_pos hk]
    have hlt:bD b * i + k < (bZ b).length:=by
      rw [h.len]
      have:bD b * i + bD b≤bD b * bN b:=by rw [← Nat.mul_succ];exact Nat.mul_le_mul_left _ hi
      omega
    rw [Nat.mul_comm i]
    simp [List.getElem?_eq_getElem hlt]
theorem pts_len {b:List Int} (h:Shape b):∀ x∈pts b,x.length = bD b:=by
  intro x hx
  obtain ⟨i,hi,rfl⟩:=List.mem_map.mp hx
  have hi:i < bN b:=by simpa using hi
  have:bD b * i + bD b≤bD b * bN b:=by rw [← Nat.mul_succ];exact Nat.mul_le_mul_left _ hi
  have:=h.len
  simp;omega
theorem pts_ne {b:List Int} (h:Shape b):pts b≠[]:=by
  have:=h.n1
  intro q
  have:(pts b).length = 0:=by rw [q];rfl
  simp [pts] at this;omega
theorem pts_all {b:List Int} (h:Shape b) (P:Int→Prop):(∀ x∈pts b,∀ z∈x,P z)↔∀ z∈bZ b,P z:=by
  constructor
  · intro hp z hz
    obtain ⟨j,hj,rfl⟩:=List.mem_iff_getElem.mp hz
    have hd:=h.d1
    have hj':j < bD b * bN b:=by rw [← h.len];exact hj
    have hq:j / bD b < bN b:=Nat.div_lt_of_lt_mul hj'
    have hr:j % bD b < bD b:=Nat.mod_lt _ hd
    have hdm:=Nat.div_add_mod j (bD b)
    refine hp (((bZ b).drop (bD b * (j / bD b))).take (bD b)) (List.mem_map.mpr ⟨j / bD b,by simpa using hq,rfl⟩) _ ?_
    refine List.mem_iff_getElem.mpr ⟨j % bD b,?_,?_⟩
    · simp only [List.length_take,List.length_drop]
      omega
    · simp only [List.getElem_take,List.getElem_drop]
      congr 1
  · intro hp x hx z hz
    obtain ⟨i,hi,rfl⟩:=List.mem_map.mp hx
    exact hp z (List.mem_of_mem_drop (List.mem_of_mem_take hz))
def okB (b:List Int):Prop:=Shape b∧(∀ z∈bZ b,-4≤z∧z≤4)∧rankOf ((pts b).map fun x=>x ++ [1]) = bD b + 1
theorem good_iff {b:List Int} (ht:Sx38Neutral.told b = true):good (Sx38Neutral.bodyOf b) = true↔okB b:=by
  unfold Sx38Neutral.told at ht
  split at ht
  case h_2=>cases ht
  rename_i d n z
  simp only [Bool.and_eq_true,NeutralIO.within,decide_eq_true_eq,List.all_eq_true] at ht
  obtain ⟨⟨⟨hd0,hd1⟩,hn0,hn1⟩,hz,hlen⟩:=ht
  have ed:bD (d :: n :: z) = d.toNat:=rfl
  have en:bN (d :: n :: z) = n.toNat:=rfl
  have ez:bZ (d :: n :: z) = z:=rfl
  by_cases hs:1≤d∧d≤4∧1≤n∧n≤12
  · have S:Shape (d :: n :: z):=by
      refine ⟨by rw [ed];omega,by rw [ed];omega,by rw [en];omega,by rw [en];omega,?_⟩
      rw [ez,ed,en]
      rw [if_pos hs] at hlen
      have h1:(d.toNat:Int) = d:=Int.toNat_of_nonneg (by omega)
      have h2:(n.toNat:Int) = n:=Int.toNat_of_nonneg (by omega)
      have:((d.toNat * n.toNat:Nat):Int) = d * n:=by rw [Int.natCast_mul,h1,h2]
      omega
    have hp:=points_eq S
    have hg:good (Sx38Neutral.bodyOf (d :: n :: z)) = ((pts (d :: n :: z)).all (fun x=>x.all fun z=>decide (-4≤z) && decide (z≤4)) && !(sidesOf d.toNat (pts (d :: n :: z))).isEmpty):=by
      unfold good
      rw [hp]
      have e1:(Sx38Neutral.bodyOf (d :: n :: z)).d = d:=rfl
      have e2:(Sx38Neutral.bodyOf (d :: n :: z)).n = n:=rfl
      have e3:(Sx38Neutral.bodyOf (d :: n :: z)).dim = d.toNat:=rfl
      rw [e1,e2,e3]
      simp [hs.1,hs.2.1,hs.2.2.1,hs.2.2.2]
    rw [hg]
    unfold okB
    rw [room_rank (pts_len S) (pts_ne S)]
    rw [← sides_room S.d1 S.d4 (pts_len S) (pts_ne S),ed]
    have hall:=pts_all S (fun z=>-4≤z∧z≤4)
    rw [← hall]
    simp only [Bool.and_eq_true,List.all_eq_true,decide_eq_true_eq,Bool.not_eq_true',List.isEmpty_eq_false_iff]
    constructor
    · rintro ⟨h1,h2⟩;exact ⟨S,h1,h2⟩
    · rintro ⟨_,h1,h2⟩;exact ⟨h1,h2⟩
  · constructor
    · intro h
      exfalso
      unfold good at h
      have e1:(Sx38Neutral.bodyOf (d :: n :: z)).d = d:=rfl
      have e2:(Sx38Neutral.bodyOf (d :: n :: z)).n = n:=rfl
      rw [e1,e2] at h
      simp only [Bool.and_eq_true,decide_eq_true_eq] at h
      exact hs ⟨h.1,h.2.1,h.2.2.1,h.2.2.2.1⟩
    · rintro ⟨S,_⟩
      exfalso
      have:=S.d1;have:=S.d4;have:=S.n1;have:=S.n12
      rw [ed] at *;rw [en] at *
      exact hs (by omega)
def SidesAre (d:Nat) (P:List Vec) (S:List (Vec × Int)):Prop:=∀ a e,(a,e)∈S↔SideP d P a e
def meets (S:List (Vec × Int)) (x:Vec):List Vec:=(S.filter fun s=>decide (dot s.1 x = s.2)).map (·.1)
theorem okB_room {b:List Int} (h:okB b):RoomP (bD b) (pts b):=(room_rank (pts_len h.1) (pts_ne h.1)).mp h.2.2
theorem nodup_eraseDups {α:Type} [BEq α] [LawfulBEq α]:∀ (n:Nat) (l:List α),l.length≤n→l.eraseDups.Nodup
  | _,[],_=>by simp
  | 0,_ :: _,h=>by simp at h
  | n + 1,x :: l,h=>by
    rw [List.eraseDups_cons]
    refine List.nodup_cons.mpr ⟨by simp,nodup_eraseDups n _ ?_⟩
    have:=List.length_filter_le (fun b=>!b == x) l
    simp at h;omega
end WP
namespace WP
open Sx38 Sa83
theorem alg1 {S K s2 s3 d1 d2 d3 e1 e2 e3:Int} (k1:S * (s3 * d2 - s2 * d3) = K * d1) (k2:S * (s3 * e2 - s2 * e3) = K * e1):S * (s3 * (e2 - d2) - s2 * (e3 - d3)) = K * (e1 - d1):=by grind
theorem alg2 {S K s2 s3 d1 d3 e1 e2 e3:Int} (r:S * (s3 * (e2 - e2) - s2 * (e3 - d3)) = K * (e1 - d1)) (r1:0≤K * (e1 - d1)) (r2:0≤S * (s2 * (e3 - d3))):S * (s2 * (e3 - d3)) = 0:=by
  have h:S * (s3 * (e2 - e2) - s2 * (e3 - d3)) = -(S * (s2 * (e3 - d3))):=by clear r r1 r2;grind
  omega
theorem alg3 {S K s2 s3 d1 d2 e1 e2 e3:Int} (r:S * (s3 * (e2 - d2) - s2 * (e3 - e3)) = K * (e1 - d1)) (r1:0≤(-K) * (e1 - d1)) (r2:0≤S * (s3 * (e2 - d2))):S * (s3 * (e2 - d2)) = 0:=by
  have h:S * (s3 * (e2 - d2) - s2 * (e3 - e3)) = S * (s3 * (e2 - d2)):=by clear r r1 r2;grind
  have h2:(-K) * (e1 - d1) = -(K * (e1 - d1)):=by clear r r1 r2 h;grind
  omega
section
variable {d:Nat} {L c:List Vec} {a b:Vec} {e f:Int}
theorem par_side (hL:∀ x∈L,x.length = d) (R:RoomP d L) (S:SideP d L a e) (B:SideP d L b f) (pp:par d (at0 b) (at0 a)) {p:Vec} (hp:p∈L) (h1:dot a p = e) (h2:dot b p = f):(a,e) = (b,f):=by
  rcases par_prim B.len S.len B.one S.one pp with rfl | rfl
  · rw [← h1,← h2]
  · exfalso
    obtain ⟨x,hx,hlt⟩:=room_strict hL R S
    have h3:=B.most x hx
    rw [dot_neg] at h3 h2
    omega
theorem side_eq (hL:∀ x∈L,x.length = d) (R:RoomP d L) (S:SideP d L a e) (B:SideP d L b f) (h:∀ x∈L,dot a x = e→dot b x = f):(a,e) = (b,f):=by
  obtain ⟨p,hp,hpe⟩:=S.some_
  exact par_side hL R S B (S.only (at0 b) f fun x hx hxe=>by rw [← dot_eq B.len (hL x hx)];exact h x hx hxe) hp hpe (h p hp hpe)
theorem Found.self (F:Found d L c a e):Found d c c a e:=⟨List.Sublist.refl _,F.len,F.some_,F.way,F.at_,fun x hx=>F.most x (F.sub.subset hx)⟩
theorem found_only (h1:1≤d) (hd:d≤4) (hL:∀ x∈L,x.length = d) (F:Found d L c a e) {v:Fn} {g:Int} (hv:∀ y∈c,dotS (List.range d) v (at0 y) = g):par d v (at0 a) :=
  (found_side h1 hd (fun x hx=>hL x (F.sub.subset hx)) F.self).only v g fun x hx _=>hv x hx
theorem found_tight (h1:1≤d) (hd:d≤4) (hL:∀ x∈L,x.length = d) (F:Found d L c a e):∀ y∈c,dot a y = e:=by
  have hcL:∀ x∈c,x.length = d:=fun x hx=>hL x (F.sub.subset hx)
  obtain ⟨p,cs,rfl,hcs⟩:=len_succ (l:=c) (n:=d - 1) (by rw [F.len];omega)
  have hp:p.length = d:=hcL p (by simp)
  have hq:∀ q∈cs,q.length = d:=fun q hq=>hcL q (by simp [hq])
  have la:a.length = d:=(found_side h1 hd hL F).len
  have hm:normal d (p :: cs) = normalW d (cs.map fun q=>sub q p):=by rw [normal_eq];rfl
  intro y hy
  rcases List.mem_cons.mp hy with rfl | hy
  · exact F.at_.symm
  · have hk:=ways_kill h1 hd (m:=cs.map fun q=>sub q p) (by simp;omega) (fun r hr=>by
      obtain ⟨q,hq',rfl⟩:=List.mem_map.mp hr
      exact sub_length (hq q hq') hp) (List.mem_map.mpr ⟨y,hy,rfl⟩)
    rw [← hm] at hk
    have ls:=sub_length (hq y hy) hp
    rw [dot_eq ls (normal_length _ _)] at hk
    have hg:((gcdOf (normal d (p :: cs)):Nat):Int)≠0:=by have:=F.some_;omega
    have hu:∀ i,i < d→at0 (normal d (p :: cs)) i = (gcdOf (normal d (p :: cs)):Int) * at0 (unit d (p :: cs)) i:=fun i hi=>by
      unfold unit
      rw [at0_map (by simp)]
      exact (div_exact (at0_mem (by rw [normal_length];exact hi))).symm
    have e1:dotS (List.range d) (at0 (sub y p)) (at0 (normal d (p :: cs))) = (gcdOf (normal d (p :: cs)):Int) * dotS (List.range d) (at0 (sub y p)) (at0 (unit d (p :: cs))):=by
      have:dotS (List.range d) (at0 (sub y p)) (at0 (normal d (p :: cs))) = dotS (List.range d) (at0 (sub y p)) (fun i=>(gcdOf (normal d (p :: cs)):Int) * at0 (unit d (p :: cs)) i - 0 * at0 (unit d (p :: cs)) i):=dotS_congr fun i hi=>by rw [hu i (by simpa using hi)];simp
      rw [this,dotS_linR];simp
    rw [e1] at hk
    have hz:dotS (List.range d) (at0 (sub y p)) (at0 (unit d (p :: cs))) = 0:=by
      rcases Int.mul_eq_zero.mp hk with z | z
      · exact absurd z hg
      · exact z
    rw [dotS_sub (hq y hy) hp,dotS_comm,← dot_eq (unit_length _ _) (hq y hy),dotS_comm,← dot_eq (unit_length _ _) hp] at hz
    have he:e = dot a p:=F.at_
    rcases F.way with rfl | rfl
    · omega
    · rw [he,dot_neg,dot_neg];omega
theorem found_ne (h1:1≤d) (hd:d≤4) (hL:∀ x∈L,x.length = d) {p q:Vec} {r:List Vec} (F:Found d L (p :: q :: r) a e):p≠q:=by
  intro hpq
  subst hpq
  have hcL:∀ x∈p :: p :: r,x.length = d:=fun x hx=>hL x (F.sub.subset hx)
  have hp:p.length = d:=hcL p (by simp)
  have hm:normal d (p :: p :: r) = normalW d ((p :: r).map fun q=>sub q p):=by rw [normal_eq];rfl
  have hml:∀ s∈(p :: r).map (fun q=>sub q p),s.length = d:=fun s hs=>by
    obtain ⟨q,hq',rfl⟩:=List.mem_map.mp hs
    exact sub_length (hcL q (by rcases List.mem_cons.mp hq' with rfl | z;simp;simp [z])) hp
  have hmc:((p :: r).map fun q=>sub q p).length + 1 = d:=by have:=F.len;simpa using this
  have nl:=normalW_length d ((p :: r).map fun q=>sub q p)
  have hnn:dot (normalW d ((p :: r).map fun q=>sub q p)) (normalW d ((p :: r).map fun q=>sub q p))≠0:=fun z=>by
    rw [dot_eq nl nl] at z
    have z:=dotS_self_zero z
    have:gcdOf (normal d (p :: p :: r)) = 0:=by
      rw [hm]
      exact gcdOf_zero.mpr fun y hy=>by
        obtain ⟨i,hi,rfl⟩:=mem_at0 hy
        exact z i (by simpa using (by omega:i < d))
    exact F.some_ this
  have FF:=(normalW_full h1 hd hmc hml nl).mp hnn
  generalize normalW d ((p :: r).map fun q=>sub q p) = nv at FF
  have FF2:FullF (List.range d) (at0 nv :: (r.map fun q=>sub q p).map at0):=by
    intro v hv
    refine FF v fun s hs=>?_
    simp only [List.map_cons,List.mem_cons] at hs
    rcases hs with rfl | rfl | hs
    · exact hv _ (by simp)
    · refine dotS_zero fun i _=>?_
      rw [at0_sub hp hp];simp
    · exact hv s (by simp only [List.mem_cons];exact .inr hs)
  refine full_few _ _ List.nodup_range ?_ FF2
  have:=F.len
  simp at this ⊢;omega
theorem pencil (h1:1≤d) (hd:d≤4) (hL:∀ x∈L,x.length = d) (R:RoomP d L) {T:List Vec} {x t:Vec} {a1 a2 a3:Vec} {e1 e2 e3:Int} (F:Found d L c a1 e1) (hc:∀ y∈c,y = x∨y∈T) (hx:x∈c) (ht:t∈T) (hT:∀ y∈T,y∈L)
    (S1:SideP d L a1 e1) (S2:SideP d L a2 e2) (S3:SideP d L a3 e3) (t1:∀ y∈T,dot a1 y = e1) (t2:∀ y∈T,dot a2 y = e2) (t3:∀ y∈T,dot a3 y = e3) (n12:(a1,e1)≠(a2,e2)) (n13:(a1,e1)≠(a3,e3)):(a2,e2) = (a3,e3):=by
  have xL:x∈L:=F.sub.subset hx
  have tL:=hT t ht
  have lx:=hL x xL
  have pos:∀ {b:Vec} {f:Int},SideP d L b f→(∀ y∈T,dot b y = f)→(a1,e1)≠(b,f)→0 < f - dot b x:=by
    intro b f B tb nb
    have h:=B.most x xL
    have:dot b x≠f:=fun q=>nb (by
      refine par_side hL R S1 B (found_only h1 hd hL F (g:=f) fun y hy=>?_) xL (found_tight h1 hd hL F x hx) q
      rw [← dot_eq B.len (hL y (F.sub.subset hy))]
      rcases hc y hy with rfl | h
      · exact q
      · exact tb y h)
    omega
  have p2:=pos S2 t2 n12
  have p3:=pos S3 t3 n13
  generalize hb2:e2 - dot a2 x = s2 at p2
  generalize hb3:e3 - dot a3 x = s3 at p3
  have dv:∀ y∈L,dotS (List.range d) (fun i=>s3 * at0 a2 i - s2 * at0 a3 i) (at0 y) = s3 * dot a2 y - s2 * dot a3 y:=fun y hy=>by
    rw [dotS_lin,dot_eq S2.len (hL y hy),dot_eq S3.len (hL y hy)]
  have pv:=found_only h1 hd hL F (v:=fun i=>s3 * at0 a2 i - s2 * at0 a3 i) (g:=s3 * e2 - s2 * e3) fun y hy=>by
    rw [dv y (F.sub.subset hy)]
    rcases hc y hy with rfl | h
    · have q2:dot a2 y = e2 - s2:=by omega
      have q3:dot a3 y = e3 - s3:=by omega
      rw [q2,q3];grind
    · rw [t2 y h,t3 y h]
  have key:∀ (U:List Nat),(∀ j∈U,j < d)→∀ y:Vec,dotS U (at0 a1) (at0 a1) * dotS (List.range d) (fun i=>s3 * at0 a2 i - s2 * at0 a3 i) (at0 y) = dotS U (at0 a1) (fun i=>s3 * at0 a2 i - s2 * at0 a3 i) * dotS (List.range d) (at0 a1) (at0 y):=by
    have one:∀ (j:Nat),j < d→∀ (W:List Nat),(∀ i∈W,i < d)→∀ y:Vec,at0 a1 j * dotS W (fun i=>s3 * at0 a2 i - s2 * at0 a3 i) (at0 y) = (s3 * at0 a2 j - s2 * at0 a3 j) * dotS W (at0 a1) (at0 y):=by
      intro j hj W
      induction W with
      | nil=>intro _ y;simp [dotS]
      | cons i W ih =>
        intro hW y
        rw [dotS_cons,dotS_cons]
        have h2:=ih (fun k hk=>hW k (by simp [hk])) y
        have h3:=pv i (hW i (by simp)) j hj
        simp only at h3
        generalize s3 * at0 a2 i - s2 * at0 a3 i = A at h3 ⊢
        generalize s3 * at0 a2 j - s2 * at0 a3 j = B at h3 h2 ⊢
        grind
    intro U
    induction U with
    | nil=>intro _ y;simp [dotS]
    | cons j U ih =>
      intro hU y
      have h2:=ih (fun k hk=>hU k (by simp [hk])) y
      have h3:=one j (hU j (by simp)) (List.range d) (fun i hi=>by simpa using hi) y
      rw [dotS_cons,dotS_cons]
      generalize s3 * at0 a2 j - s2 * at0 a3 j = B at h3 ⊢
      generalize dotS (List.range d) (fun i=>s3 * at0 a2 i - s2 * at0 a3 i) (at0 y) = Y at *
      grind
  have hS:0 < dotS (List.range d) (at0 a1) (at0 a1):=by
    have h0:=dotS_self_nonneg (List.range d) (at0 a1)
    have:dotS (List.range d) (at0 a1) (at0 a1)≠0:=fun q=>by
      have z:=dotS_self_zero q
      have:gcdOf a1 = 0:=gcdOf_zero.mpr fun y hy=>by
        obtain ⟨i,hi,rfl⟩:=mem_at0 hy
        exact z i (by simpa using (by rw [← S1.len];exact hi:i < d))
      have:=S1.one;omega
    omega
  generalize hK:dotS (List.range d) (at0 a1) (fun i=>s3 * at0 a2 i - s2 * at0 a3 i) = K at key
  generalize hSd:dotS (List.range d) (at0 a1) (at0 a1) = S at hS
  have rel:∀ y∈L,S * (s3 * (e2 - dot a2 y) - s2 * (e3 - dot a3 y)) = K * (e1 - dot a1 y):=fun y hy=>by
    have k1:=key (List.range d) (fun j hj=>by simpa using hj) y
    have k2:=key (List.range d) (fun j hj=>by simpa using hj) t
    rw [hK,hSd] at k1 k2
    rw [dv y hy,← dot_eq S1.len (hL y hy)] at k1
    rw [dv t tL,← dot_eq S1.len (hL t tL),t1 t ht,t2 t ht,t3 t ht] at k2
    exact alg1 k1 k2
  by_cases hk:0≤K
  · -- tight for 2: tight for 3
    refine side_eq hL R S2 S3 fun y hy hye=>?_
    have h3:=S3.most y hy
    have h4:=S1.most y hy
    have r:=rel y hy
    rw [hye] at r
    have r1:0≤K * (e1 - dot a1 y):=Int.mul_nonneg hk (by omega)
    have r2:0≤S * (s2 * (e3 - dot a3 y)):=Int.mul_nonneg (by omega) (Int.mul_nonneg (by omega) (by omega))
    have r3:S * (s2 * (e3 - dot a3 y)) = 0:=alg2 r r1 r2
    rcases Int.mul_eq_zero.mp r3 with z | z
    · omega
    · rcases Int.mul_eq_zero.mp z with z | z
      · omega
      · omega
  · refine (side_eq hL R S3 S2 fun y hy hye=>?_).symm
    have h3:=S2.most y hy
    have h4:=S1.most y hy
    have r:=rel y hy
    rw [hye] at r
    have r1:0≤(-K) * (e1 - dot a1 y):=Int.mul_nonneg (by omega) (by omega)
    have r2:0≤S * (s3 * (e2 - dot a2 y)):=Int.mul_nonneg (by omega) (Int.mul_nonneg (by omega) (by omega))
    have r3:S * (s3 * (e2 - dot a2 y)) = 0:=alg3 r r1 r2
    rcases Int.mul_eq_zero.mp r3 with z | z
    · omega
    · rcases Int.mul_eq_zero.mp z with z | z
      · omega
      · omega
end
theorem sum_add {α:Type} (f g:α→Nat):∀ l:List α,(l.map fun x=>f x + g x).sum = (l.map f).sum + (l.map g).sum
  | []=>rfl
  | x :: l=>by simp only [List.map_cons,List.sum_cons,sum_add f g l];omega
theorem ones {β:Type} (p:β→Bool):∀ Y:List β,(Y.filter p).length = (Y.map fun y=>if p y = true then 1 else 0).sum
  | []=>rfl
  | y :: Y=>by
    have ih:=ones p Y
    by_cases h:p y = true
    · rw [List.filter_cons_of_pos h,List.map_cons,List.sum_cons,if_pos h,List.length_cons,ih];omega
    · rw [List.filter_cons_of_neg h,List.map_cons,List.sum_cons,if_neg h,ih];omega
theorem twice {α β:Type} (R:α→β→Bool):∀ (X:List α) (Y:List β),(X.map fun x=>(Y.filter fun y=>R x y).length).sum = (Y.map fun y=>(X.filter fun x=>R x y).length).sum
  | [],Y=>by
    induction Y with
    | nil=>rfl
    | cons y Y ih=>simp at ih ⊢;exact ih
  | x :: X,Y=>by
    rw [List.map_cons,List.sum_cons,twice R X Y]
    have e:(Y.map fun y=>((x :: X).filter fun x=>R x y).length) = Y.map fun y=>(if R x y = true then 1 else 0) + (X.filter fun x=>R x y).length:=List.map_congr_left fun y _=>by
      by_cases h:R x y = true
      · simp [h];omega
      · simp [h]
    rw [e,sum_add]
    congr 1
    exact ones (R x) Y
theorem sum_ge {α:Type} (f:α→Nat) (m:Nat):∀ (l:List α),(∀ x∈l,m≤f x)→m * l.length≤(l.map f).sum
  | [],_=>by simp
  | x :: l,h=>by
    have h1:=sum_ge f m l fun y hy=>h y (by simp [hy])
    have h2:=h x (by simp)
    simp only [List.length_cons,List.map_cons,List.sum_cons,Nat.mul_succ];omega
theorem sum_le {α:Type} (f:α→Nat) (m:Nat):∀ (l:List α),(∀ x∈l,f x≤m)→(l.map f).sum≤m * l.length
  | [],_=>by simp
  | x :: l,h=>by
    have h1:=sum_le f m l fun y hy=>h y (by simp [hy])
    have h2:=h x (by simp)
    simp only [List.length_cons,List.map_cons,List.sum_cons,Nat.mul_succ];omega
theorem two_in {β:Type} {p:β→Bool} {Y:List β} {y z:β} (hy:y∈Y) (hz:z∈Y) (hne:y≠z) (py:p y = true) (pz:p z = true):2≤(Y.filter p).length:=by
  have h1:y∈Y.filter p:=List.mem_filter.mpr ⟨hy,py⟩
  have h2:z∈Y.filter p:=List.mem_filter.mpr ⟨hz,pz⟩
  generalize Y.filter p = W at h1 h2
  match W,h1,h2 with
  | [],h1,_=>simp at h1
  | [u],h1,h2 =>
    simp at h1 h2
    exact absurd (h1.trans h2.symm) hne
  | _ :: _ :: _,_,_=>simp
theorem no_three {α:Type} {X:List α} (hn:X.Nodup) (h:∀ x∈X,∀ y∈X,∀ z∈X,x≠y→x≠z→y = z):X.length≤2:=by
  match X,hn,h with
  | [],_,_=>simp
  | [_],_,_=>simp
  | [_,_],_,_=>simp
  | x :: y :: z :: r,hn,h =>
    exfalso
    simp at hn
    exact hn.2.1.1 (h x (by simp) y (by simp) z (by simp) (fun q=>hn.1.1 q) (fun q=>hn.1.2.1 q))
def binom:Nat→Nat→Nat
  | _,0=>1
  | 0,_ + 1=>0
  | n + 1,k + 1=>binom n k + binom n (k + 1)
theorem choose_len {α:Type}:∀ (l:List α) (k:Nat),(choose_ l k).length = binom l.length k
  | l,0=>by cases l <;> simp [choose_,binom]
  | [],k + 1=>by simp [choose_,binom]
  | x :: l,k + 1=>by simp [choose_,binom,choose_len l k,choose_len l (k + 1)]
theorem eraseDups_le {α:Type} [BEq α] [LawfulBEq α]:∀ (n:Nat) (l:List α),l.length≤n→l.eraseDups.length≤l.length
  | _,[],_=>by simp
  | 0,_ :: _,h=>by simp at h
  | n + 1,x :: l,h=>by
    rw [List.eraseDups_cons]
    have h1:=List.length_filter_le (fun b=>!b == x) l
    have:=eraseDups_le n (l.filter fun b=>!b == x) (by simp at h;omega)
    simp;omega
theorem binom_small:∀ n,n≤8→∀ k,k≤3→binom n k≤56:=by decide
open Classical in
theorem sides_few {d:Nat} {L:List Vec} (h1:1≤d) (hd:d≤4) (hL:∀ x∈L,x.length = d) (R:RoomP d L) (h8:L.length≤8) {S:List (Vec × Int)} (hn:S.Nodup) (hS:∀ a e,(a,e)∈S→SideP d L a e):S.length≤56:=by
  have base:∀ s:Vec × Int,∃ c,s∈S→Found d L c s.1 s.2:=fun s=>by
    by_cases h:s∈S
    · obtain ⟨c,F⟩:=side_found h1 hd hL (hS s.1 s.2 h)
      exact ⟨c,fun _=>F⟩
    · exact ⟨[],fun q=>absurd q h⟩
  let cb:Vec × Int→List Vec:=fun s=>(base s).choose
  have hcb:∀ s∈S,Found d L (cb s) s.1 s.2:=fun s hs=>(base s).choose_spec hs
  rcases Nat.lt_or_ge d 2 with hlt | hge
  · -- one dimension: by the points themselves
    let Y:=(choose_ L 1).eraseDups
    have t:=twice (fun (s:Vec × Int) (T:List Vec)=>decide (cb s = T)) S Y
    have hd1:d = 1:=by omega
    have lo:=sum_ge (fun s=>(Y.filter fun T=>decide (cb s = T)).length) 1 S fun s hs=>by
      have F:=hcb s hs
      have:cb s∈Y.filter fun T=>decide (cb s = T):=List.mem_filter.mpr ⟨List.mem_eraseDups.mpr (mem_choose.mpr ⟨F.sub,by rw [F.len];exact hd1⟩),by simp⟩
      exact List.length_pos_of_mem this
    have hi:=sum_le (fun T=>(S.filter fun s=>decide (cb s = T)).length) 1 Y fun T _=>by
      have nd:(S.filter fun s=>decide (cb s = T)).Nodup:=hn.filter _
      have same:∀ s∈S.filter (fun s=>decide (cb s = T)),∀ u∈S.filter (fun s=>decide (cb s = T)),s = u:=fun s hs u hu=>by
        obtain ⟨hs1,hs2⟩:=List.mem_filter.mp hs
        obtain ⟨hu1,hu2⟩:=List.mem_filter.mp hu
        have es:cb s = T:=by simpa using hs2
        have eu:cb u = T:=by simpa using hu2
        have Fs:=hcb s hs1
        have Fu:=hcb u hu1
        rw [es] at Fs
        rw [eu] at Fu
        obtain ⟨p,hp⟩:=len1 (Fs.len.trans hd1)
        have hpT:p∈T:=by rw [hp];simp
        exact par_side hL R (hS _ _ hs1) (hS _ _ hu1) (found_only h1 hd hL Fs (g:=u.2) fun y hy=>by
          rw [← dot_eq (hS _ _ hu1).len (hL y (Fs.sub.subset hy))]
          exact found_tight h1 hd hL Fu y hy) (Fs.sub.subset hpT) (found_tight h1 hd hL Fs p hpT) (found_tight h1 hd hL Fu p hpT)
      generalize S.filter (fun s=>decide (cb s = T)) = W at nd same
      match W,nd,same with
      | [],_,_=>simp
      | [_],_,_=>simp
      | s :: u :: r,nd,same =>
        exfalso
        simp at nd
        exact nd.1.1 (same s (by simp) u (by simp))
    have hY:Y.length≤56:=Nat.le_trans (eraseDups_le _ _ (Nat.le_refl _)) (by rw [choose_len];exact binom_small _ h8 1 (by decide))
    omega
  · let Y:=(choose_ L (d - 1)).eraseDups
    have t:=twice (fun (s:Vec × Int) (T:List Vec)=>decide ((cb s).drop 1 = T) || decide ((cb s).take 1 ++ (cb s).drop 2 = T)) S Y
    have shape:∀ s∈S,∃ p q r,cb s = p :: q :: r∧r.length + 2 = d:=fun s hs=>by
      have hl:=(hcb s hs).len
      obtain ⟨p,t,e1,h⟩:=len_succ (l:=cb s) (n:=d - 1) (by omega)
      obtain ⟨q,r,e2,h⟩:=len_succ (l:=t) (n:=d - 2) (by omega)
      exact ⟨p,q,r,by rw [e1,e2],by omega⟩
    have lo:=sum_ge (fun s=>(Y.filter fun T=>decide ((cb s).drop 1 = T) || decide ((cb s).take 1 ++ (cb s).drop 2 = T)).length) 2 S fun s hs=>by
      obtain ⟨p,q,r,e,hr⟩:=shape s hs
      have F:=hcb s hs
      rw [e] at F
      have ne:=found_ne h1 hd hL F
      have m1:q :: r∈Y:=List.mem_eraseDups.mpr (mem_choose.mpr ⟨(List.sublist_cons_self p (q :: r)).trans F.sub,by simp;omega⟩)
      have m2:p :: r∈Y:=List.mem_eraseDups.mpr (mem_choose.mpr ⟨((List.sublist_cons_self q r).cons_cons p).trans F.sub,by simp;omega⟩)
      refine two_in m1 m2 (fun z=>ne (List.cons.inj z).1.symm) (by simp [e]) (by simp [e])
    have hi:=sum_le (fun T=>(S.filter fun s=>decide ((cb s).drop 1 = T) || decide ((cb s).take 1 ++ (cb s).drop 2 = T)).length) 2 Y fun T hTY=>by
      have hTl:T.length = d - 1:=(mem_choose.mp (List.mem_eraseDups.mp hTY)).2
      have hTL:∀ y∈T,y∈L:=fun y hy=>(mem_choose.mp (List.mem_eraseDups.mp hTY)).1.subset hy
      refine no_three (hn.filter _) fun s hs u hu v hv nsu nsv=>?_
      have inc:∀ s∈S.filter (fun s=>decide ((cb s).drop 1 = T) || decide ((cb s).take 1 ++ (cb s).drop 2 = T)),s∈S∧∃ x,x∈cb s∧(∀ y∈cb s,y = x∨y∈T)∧∀ y∈T,y∈cb s:=fun s hs=>by
        obtain ⟨h1',h2'⟩:=List.mem_filter.mp hs
        obtain ⟨p,q,r,e,hr⟩:=shape s h1'
        refine ⟨h1',?_⟩
        rw [e] at h2' ⊢
        simp only [List.drop_succ_cons,List.drop_zero,List.take_succ_cons,List.take_zero,Bool.or_eq_true,decide_eq_true_eq,List.singleton_append] at h2'
        rcases h2' with rfl | rfl
        · refine ⟨p,by simp,fun y hy=>?_,fun y hy=>by simp at hy ⊢;exact .inr hy⟩
          rcases List.mem_cons.mp hy with rfl | hy
          · exact .inl rfl
          · exact .inr hy
        · refine ⟨q,by simp,fun y hy=>?_,fun y hy=>?_⟩
          · simp at hy ⊢
            rcases hy with rfl | rfl | hy
            · exact .inr (.inl rfl)
            · exact .inl rfl
            · exact .inr (.inr hy)
          · simp at hy ⊢
            rcases hy with rfl | hy
            · exact .inl rfl
            · exact .inr (.inr hy)
      obtain ⟨sS,x,hx,hc,hsub⟩:=inc s hs
      obtain ⟨uS,_,_,_,usub⟩:=inc u hu
      obtain ⟨vS,_,_,_,vsub⟩:=inc v hv
      obtain ⟨t0,T',eT,_⟩:=len_succ (l:=T) (n:=d - 2) (by omega)
      have tt:∀ w∈S,(∀ y∈T,y∈cb w)→∀ y∈T,dot w.1 y = w.2:=fun w hw hsub y hy=>found_tight h1 hd hL (hcb w hw) y (hsub y hy)
      exact pencil h1 hd hL R (hcb s sS) hc hx (t:=t0) (by rw [eT];simp) hTL (hS _ _ sS) (hS _ _ uS) (hS _ _ vS) (tt s sS hsub) (tt u uS usub) (tt v vS vsub) nsu nsv
    have hY:Y.length≤56:=Nat.le_trans (eraseDups_le _ _ (Nat.le_refl _)) (by rw [choose_len];exact binom_small _ h8 _ (by omega))
    omega
end WP
namespace WP
open Sa83 Sx38
theorem pos_right {a b:Int} (h:0 < a * b) (ha:0 < a):0 < b:=Classical.byContradiction fun q=>by
  have:a * b≤a * 0:=Int.mul_le_mul_of_nonneg_left (by omega) (by omega)
  omega
theorem ratio_max {α:Type} (g h:α→Int):∀ (L:List α),(∃ x∈L,0 < h x)→∃ x∈L,0 < h x∧∀ y∈L,0 < h y→g y * h x≤g x * h y
  | [],q=>by obtain ⟨x,hx,_⟩:=q;simp at hx
  | a :: r,q=>by
    by_cases hr:∃ x∈r,0 < h x
    · obtain ⟨x,hx,px,mx⟩:=ratio_max g h r hr
      by_cases ha:0 < h a
      · by_cases hc:g a * h x≤g x * h a
        · refine ⟨x,List.mem_cons_of_mem _ hx,px,fun y hy py=>?_⟩
          rcases List.mem_cons.mp hy with rfl | hy
          · exact hc
          · exact mx y hy py
        · refine ⟨a,List.mem_cons_self,ha,fun y hy py=>?_⟩
          rcases List.mem_cons.mp hy with rfl | hy
          · exact Int.le_refl _
          · have m:=mx y hy py
            have h1:0 < g a * h x - g x * h a:=by omega
            have h2:0 < h y * (g a * h x - g x * h a):=Int.mul_pos py h1
            have h3:0≤h a * (g x * h y - g y * h x):=Int.mul_nonneg (by omega) (by omega)
            have h4:0 < h x * (g a * h y - g y * h a):=by grind
            have h5:0 < g a * h y - g y * h a:=pos_right h4 px
            omega
      · refine ⟨x,List.mem_cons_of_mem _ hx,px,fun y hy py=>?_⟩
        rcases List.mem_cons.mp hy with rfl | hy
        · exact absurd py ha
        · exact mx y hy py
    · obtain ⟨x,hx,px⟩:=q
      rcases List.mem_cons.mp hx with rfl | hx
      · refine ⟨x,List.mem_cons_self,px,fun y hy py=>?_⟩
        rcases List.mem_cons.mp hy with rfl | hy
        · exact Int.le_refl _
        · exact absurd ⟨y,hy,py⟩ hr
      · exact absurd ⟨x,hx,px⟩ hr
theorem same_alg {g1 h1 g2 h2 g h:Int} (z:g1 * h2 - g2 * h1 = 0) (p1:0 < h1) (p2:0 < h2) (t1:0≤g1 * h - h1 * g) (t2:0≤h2 * g - g2 * h):g1 * h - h1 * g = 0:=by
  have t3:0≤h2 * (g1 * h - h1 * g):=Int.mul_nonneg (by omega) t1
  have t4:0≤h1 * (h2 * g - g2 * h):=Int.mul_nonneg (by omega) t2
  have t6:h2 * (g1 * h - h1 * g) + h1 * (h2 * g - g2 * h) = h * (g1 * h2 - g2 * h1):=by grind
  rw [z,Int.mul_zero] at t6
  have t5:h2 * (g1 * h - h1 * g) = 0:=by omega
  rcases Int.mul_eq_zero.mp t5 with w | w
  · omega
  · exact w
section
variable {d:Nat} {L:List Vec}
theorem side_of {a:Vec} {e:Int} (hL:∀ x∈L,x.length = d) (la:a.length = d) (hne:∃ i,i < d∧at0 a i≠0) (hm:∀ x∈L,dot a x≤e) (hs:∃ x∈L,dot a x = e)
    (only:∀ (v:Fn) (f:Int),(∀ x∈L,dot a x = e→dotS (List.range d) v (at0 x) = f)→par d v (at0 a)) :
    ∃ (a1:Vec) (e1 g:Int),SideP d L a1 e1∧0 < g∧e = g * e1∧∀ i,i < d→at0 a i = g * at0 a1 i:=by
  obtain ⟨x0,hx0,ex0⟩:=hs
  obtain ⟨i,hi,hn⟩:=hne
  have hg:gcdOf a≠0:=fun q=>hn (gcdOf_zero.mp q _ (at0_mem (by omega)))
  let a1:=a.map fun z=>z / (gcdOf a:Int)
  have la1:a1.length = d:=by simp [a1,la]
  have ha:∀ i,i < d→at0 a i = (gcdOf a:Int) * at0 a1 i:=fun i hi=>by
    have:at0 a1 i = at0 a i / (gcdOf a:Int):=at0_map (by simp) i
    rw [this]
    exact (div_exact (at0_mem (by omega))).symm
  have hd:∀ x∈L,dot a x = (gcdOf a:Int) * dot a1 x:=fun x hx=>by
    rw [dot_fn la (hL x hx) ha,dot_eq la1 (hL x hx)]
    have:=dotS_lin (S:=List.range d) (gcdOf a:Int) 0 (at0 a1) (at0 a1) (at0 x)
    simpa using this
  have gp:(0:Int) < (gcdOf a:Int):=by omega
  refine ⟨a1,dot a1 x0,(gcdOf a:Int),⟨la1,gcdOf_div hg,fun x hx=>?_,⟨x0,hx0,rfl⟩,fun v f hv=>?_⟩,gp,by rw [← ex0,hd x0 hx0],ha⟩
  · have h1:=hm x hx
    rw [← ex0,hd x hx,hd x0 hx0] at h1
    exact Int.le_of_mul_le_mul_left h1 gp
  · have pp:=only v f fun x hx hxe=>hv x hx (by
      rw [← ex0,hd x hx,hd x0 hx0] at hxe
      exact Int.eq_of_mul_eq_mul_left (by omega) hxe)
    intro i hi j hj
    have:=pp i hi j hj
    rw [ha i hi,ha j hj] at this
    have:(gcdOf a:Int) * (v i * at0 a1 j - v j * at0 a1 i) = 0:=by grind
    rcases Int.mul_eq_zero.mp this with z | z
    · omega
    · omega
theorem fewer_off {a a':Vec} {e e':Int} (keep:∀ x∈L,dot a x = e→dot a' x = e') {s:Vec} (hs:s∈L) (h1:dot a s≠e) (h2:dot a' s = e') :
    (L.filter fun x=>decide (dot a' x≠e')).length < (L.filter fun x=>decide (dot a x≠e)).length:=by
  have e1:(L.filter fun x=>decide (dot a' x≠e')) = L.filter fun x=>decide (dot a' x≠e') && decide (dot a x≠e):=by
    apply List.filter_congr
    intro x hx
    by_cases w:dot a x = e
    · simp [w,keep x hx w]
    · simp [w]
  rw [e1]
  apply filter_lt
  · intro x hx
    simp only [Bool.and_eq_true] at hx
    exact hx.2
  · exact ⟨s,hs,by simpa using h1,by simp [h2]⟩
theorem valid_ind (hL : ∀ x ∈ L, x.length = d) (R : RoomP d L) {Q : Vec → Int → Prop}
    (side : ∀ (a : Vec) (e : Int) (b : Vec) (g : Int), SideP d L a e → 0 < g → b.length = d → (∀ i, i < d → at0 b i = g * at0 a i) → Q b (g * e))
    (mix : ∀ (a b c : Vec) (e f g p q D : Int), a.length = d → b.length = d → c.length = d → 0 < D → 0 < p → 0 < q → (∀ i, i < d → D * at0 c i = p * at0 a i + q * at0 b i) → D * g = p * e + q * f → Q a e → Q b f → Q c g) :
    ∀ (k : Nat) (a : Vec) (e : Int), a.length = d → (∃ i, i < d ∧ at0 a i ≠ 0) → (∀ x ∈ L, dot a x ≤ e) → (∃ x ∈ L, dot a x = e) →
    (L.filter fun x => decide (dot a x ≠ e)).length ≤ k → Q a e := by
  intro k
  induction k with
  | zero =>
    intro a e la hne hm ⟨x0, hx0, ex0⟩ hk
    exfalso
    have hall : ∀ x ∈ L, dot a x = e := fun x hx => Classical.byContradiction fun q => by
      have : x ∈ L.filter fun x => decide (dot a x ≠ e) := List.mem_filter.mpr ⟨hx, by simpa using q⟩
      rw [len0 (Nat.le_zero.mp hk)] at this
      simp at this
    obtain ⟨i, hi, hn⟩ := hne
    exact hn (R (at0 a) e (fun x hx => by rw [← dot_eq la (hL x hx)]; exact hall x hx) i hi)
  | succ k ih =>
    intro a e la hne hm hs hk
    by_cases only : ∀ (v : Fn) (f : Int), (∀ x ∈ L, dot a x = e → dotS (List.range d) v (at0 x) = f) → par d v (at0 a)
    · obtain ⟨a1, e1, g, S, gp, rfl, h⟩ := side_of hL la hne hm hs only
      exact side a1 e1 a g S gp la h
    · obtain ⟨v, hv⟩ := Classical.not_forall.mp only
      obtain ⟨f, hv⟩ := Classical.not_forall.mp hv
      obtain ⟨hv, hnp⟩ := Classical.not_imp.mp hv
      have hoff : ∃ x ∈ L, 0 < e - dot a x := Classical.byContradiction fun q => by
        obtain ⟨i, hi, hn⟩ := hne
        refine hn (R (at0 a) e (fun x hx => ?_) i hi)
        rw [← dot_eq la (hL x hx)]
        have h1 := hm x hx
        have h2 : ¬ 0 < e - dot a x := fun w => q ⟨x, hx, w⟩
        omega
      let G : Vec → Int := fun x => dotS (List.range d) v (at0 x) - f
      let H : Vec → Int := fun x => e - dot a x
      have hH : ∀ x ∈ L, 0 ≤ H x := fun x hx => by have := hm x hx; show 0 ≤ e - dot a x; omega
      have hG : ∀ x ∈ L, H x = 0 → G x = 0 := fun x hx q => by
        have := hv x hx (by have : e - dot a x = 0 := q; omega)
        show dotS (List.range d) v (at0 x) - f = 0
        omega
      obtain ⟨p1, hp1, pos1, max1⟩ := ratio_max G H L hoff
      obtain ⟨p2, hp2, pos2, max2⟩ := ratio_max (fun x => - G x) H L hoff
      have top : ∀ x ∈ L, 0 ≤ G p1 * H x - H p1 * G x := fun x hx => by
        have h0 := hH x hx
        by_cases z : H x = 0
        · rw [z, hG x hx z]; simp
        · have := max1 x hx (by omega)
          grind
      have bot : ∀ x ∈ L, 0 ≤ H p2 * G x - G p2 * H x := fun x hx => by
        have h0 := hH x hx
        by_cases z : H x = 0
        · rw [z, hG x hx z]; simp
        · have := max2 x hx (by omega)
          grind
      let D := G p1 * H p2 - G p2 * H p1
      have hD : 0 < D := by
        have h1 : 0 ≤ D := by have := top p2 hp2; show 0 ≤ G p1 * H p2 - G p2 * H p1; grind
        refine Classical.byContradiction fun q => hnp ?_
        have z : G p1 * H p2 - G p2 * H p1 = 0 := by have : D = 0 := by omega
                                                     exact this
        have same : ∀ x ∈ L, G p1 * H x - H p1 * G x = 0 := fun x hx => by
          exact same_alg z pos1 pos2 (top x hx) (bot x hx)
        have zz := R (fun i => G p1 * at0 a i - (- H p1) * v i) (G p1 * e + H p1 * f) (fun x hx => by
          rw [dotS_lin]
          have s1 := same x hx
          have s2 : H x = e - dotS (List.range d) (at0 a) (at0 x) := by show e - dot a x = _; rw [dot_eq la (hL x hx)]
          have s3 : G x = dotS (List.range d) v (at0 x) - f := rfl
          rw [s2, s3] at s1
          grind)
        intro i hi j hj
        have u1 := zz i hi
        have u2 := zz j hj
        have u3 : H p1 * (v i * at0 a j - v j * at0 a i) = 0 := by grind
        rcases Int.mul_eq_zero.mp u3 with w | w
        · omega
        · omega
      let a' := (List.range d).map fun i => G p1 * at0 a i - (- H p1) * v i
      let b' := (List.range d).map fun i => (- G p2) * at0 a i - H p2 * v i
      have la' : a'.length = d := by simp [a']
      have lb' : b'.length = d := by simp [b']
      have ea : ∀ x ∈ L, dot a' x = G p1 * dot a x + H p1 * dotS (List.range d) v (at0 x) := fun x hx => by
        rw [dot_fn la' (hL x hx) (v := fun i => G p1 * at0 a i - (- H p1) * v i) (fun i hi => made_at hi), dotS_lin, dot_eq la (hL x hx)]
        grind
      have eb : ∀ x ∈ L, dot b' x = - (G p2 * dot a x) - H p2 * dotS (List.range d) v (at0 x) := fun x hx => by
        rw [dot_fn lb' (hL x hx) (v := fun i => (- G p2) * at0 a i - H p2 * v i) (fun i hi => made_at hi), dotS_lin, dot_eq la (hL x hx)]
        grind
      have ka : ∀ x ∈ L, dot a' x = G p1 * e + H p1 * f - (G p1 * H x - H p1 * G x) := fun x hx => by
        rw [ea x hx]
        show _ = G p1 * e + H p1 * f - (G p1 * (e - dot a x) - H p1 * (dotS (List.range d) v (at0 x) - f))
        grind
      have kb : ∀ x ∈ L, dot b' x = - (G p2 * e) - H p2 * f - (H p2 * G x - G p2 * H x) := fun x hx => by
        rw [eb x hx]
        show _ = - (G p2 * e) - H p2 * f - (H p2 * (dotS (List.range d) v (at0 x) - f) - G p2 * (e - dot a x))
        grind
      have Ha : ∀ x, dot a x = e → H x = 0 := fun x q => by show e - dot a x = 0; omega
      have qa : Q a' (G p1 * e + H p1 * f) := by
        refine ih a' _ la' ?_ (fun x hx => by rw [ka x hx]; have := top x hx; omega) ⟨p1, hp1, by rw [ka p1 hp1]; grind⟩ ?_
        · refine Classical.byContradiction fun q => hnp ?_
          have z : ∀ i, i < d → G p1 * at0 a i - (- H p1) * v i = 0 := fun i hi => Classical.byContradiction fun w => q ⟨i, hi, by rw [made_at hi]; exact w⟩
          intro i hi j hj
          have u1 := z i hi
          have u2 := z j hj
          have u3 : H p1 * (v i * at0 a j - v j * at0 a i) = 0 := by grind
          rcases Int.mul_eq_zero.mp u3 with w | w
          · omega
          · omega
        · have := fewer_off (L := L) (a := a) (a' := a') (e := e) (e' := G p1 * e + H p1 * f) (fun x hx q => by rw [ka x hx, hG x hx (Ha x q), Ha x q]; simp) hp1
            (fun q => by have := Ha p1 q; omega) (by rw [ka p1 hp1]; grind)
          omega
      have qb : Q b' (- (G p2 * e) - H p2 * f) := by
        refine ih b' _ lb' ?_ (fun x hx => by rw [kb x hx]; have := bot x hx; omega) ⟨p2, hp2, by rw [kb p2 hp2]; grind⟩ ?_
        · refine Classical.byContradiction fun q => hnp ?_
          have z : ∀ i, i < d → (- G p2) * at0 a i - H p2 * v i = 0 := fun i hi => Classical.byContradiction fun w => q ⟨i, hi, by rw [made_at hi]; exact w⟩
          intro i hi j hj
          have u1 := z i hi
          have u2 := z j hj
          have u3 : H p2 * (v i * at0 a j - v j * at0 a i) = 0 := by grind
          rcases Int.mul_eq_zero.mp u3 with w | w
          · omega
          · omega
        · have := fewer_off (L := L) (a := a) (a' := b') (e := e) (e' := - (G p2 * e) - H p2 * f) (fun x hx q => by rw [kb x hx, hG x hx (Ha x q), Ha x q]; simp) hp2
            (fun q => by have := Ha p2 q; omega) (by rw [kb p2 hp2]; grind)
          omega
      refine mix a' b' a _ _ e (H p2) (H p1) D la' lb' la hD pos2 pos1 (fun i hi => ?_) ?_ qa qb
      · rw [made_at hi, made_at hi]
        show (G p1 * H p2 - G p2 * H p1) * at0 a i = _
        grind
      · show (G p1 * H p2 - G p2 * H p1) * e = _
        grind
theorem valid_all (hL:∀ x∈L,x.length = d) (R:RoomP d L) {Q:Vec→Int→Prop}
    (side:∀ (a:Vec) (e:Int) (b:Vec) (g:Int),SideP d L a e→0 < g→b.length = d→(∀ i,i < d→at0 b i = g * at0 a i)→Q b (g * e))
    (mix:∀ (a b c:Vec) (e f g p q D:Int),a.length = d→b.length = d→c.length = d→0 < D→0 < p→0 < q→(∀ i,i < d→D * at0 c i = p * at0 a i + q * at0 b i)→D * g = p * e + q * f→Q a e→Q b f→Q c g)
    {a:Vec} {e:Int} (la:a.length = d) (hne:∃ i,i < d∧at0 a i≠0) (hm:∀ x∈L,dot a x≤e) (hs:∃ x∈L,dot a x = e):Q a e :=
  valid_ind hL R side mix _ a e la hne hm hs (Nat.le_refl _)
theorem dot_mul {a b x:Vec} {g:Int} (la:a.length = d) (lb:b.length = d) (lx:x.length = d) (h:∀ i,i < d→at0 b i = g * at0 a i):dot b x = g * dot a x:=by
  rw [dot_fn lb lx h,dot_eq la lx]
  have:=dotS_lin (S:=List.range d) g 0 (at0 a) (at0 a) (at0 x)
  simpa using this
theorem dot_mixed {a b c x:Vec} {p q D:Int} (la:a.length = d) (lb:b.length = d) (lc:c.length = d) (lx:x.length = d) (h:∀ i,i < d→D * at0 c i = p * at0 a i + q * at0 b i):D * dot c x = p * dot a x + q * dot b x:=by
  rw [dot_eq la lx,dot_eq lb lx,dot_eq lc lx]
  have h1:=dotS_lin (S:=List.range d) D 0 (at0 c) (at0 c) (at0 x)
  have h2:=dotS_lin (S:=List.range d) p (-q) (at0 a) (at0 b) (at0 x)
  have h3:dotS (List.range d) (fun i=>D * at0 c i - 0 * at0 c i) (at0 x) = dotS (List.range d) (fun i=>p * at0 a i - (-q) * at0 b i) (at0 x):=dotS_congr fun i hi=>by
    have:=h i (by simpa using hi)
    have e1:D * at0 c i - 0 * at0 c i = p * at0 a i - (-q) * at0 b i:=by grind
    rw [e1]
  rw [h1,h2] at h3
  grind
theorem keeps (hL:∀ x∈L,x.length = d) (R:RoomP d L) {t:Int} {x:Vec} (lx:x.length = d) (hx:∀ a e,SideP d L a e→dot a x≤t * e)
    {a:Vec} {e:Int} (la:a.length = d) (hne:∃ i,i < d∧at0 a i≠0) (hm:∀ x∈L,dot a x≤e) (hs:∃ x∈L,dot a x = e):dot a x≤t * e:=by
  refine valid_all hL R (Q:=fun a e=>dot a x≤t * e) ?_ ?_ la hne hm hs
  · intro a e b g S gp lb hb
    rw [dot_mul S.len lb lx hb]
    have:=Int.mul_le_mul_of_nonneg_left (hx a e S) (Int.le_of_lt gp)
    grind
  · intro a b c e f g p q D la lb lc hD hp hq hc hg ha hb
    have h1:=dot_mixed la lb lc lx hc
    have h2:=Int.mul_le_mul_of_nonneg_left ha (Int.le_of_lt hp)
    have h3:=Int.mul_le_mul_of_nonneg_left hb (Int.le_of_lt hq)
    have h5:D * (t * g) = p * (t * e) + q * (t * f):=by
      have:D * (t * g) = t * (D * g):=by grind
      rw [this,hg];grind
    have h4:D * dot c x≤D * (t * g):=by rw [h1,h5];omega
    exact Int.le_of_mul_le_mul_left h4 hD
end
end WP
namespace WP
open Sx38 Sa83
theorem rankOf_le {m:Nat} {rows:List Vec} (hl:∀ r∈rows,r.length = m):rankOf rows≤m:=by
  have:=(prank_full m rows.length rows (List.range m) (Nat.le_refl _) List.nodup_range hl (fun r hr i hi=>at0_beyond (hl r hr) hi)).1
  simpa [rankOf] using this
end WP
namespace WP
open Sx38 Sa83
theorem not_good {b:List Int} (ht:Sx38Neutral.told b = true) (h:¬ okB b):good (Sx38Neutral.bodyOf b) = false:=by
  cases e:good (Sx38Neutral.bodyOf b) with
  | false=>rfl
  | true=>exact absurd ((good_iff ht).mp e) h
theorem flat_told {b:List Int} (h:Sx38Neutral.flat b = true):Sx38Neutral.told b = true:=by
  unfold Sx38Neutral.flat Sx38Neutral.few at h
  simp only [Bool.and_eq_true] at h
  exact h.1.1
theorem flat_few {b:List Int} (h:Sx38Neutral.flat b = true):Sx38Neutral.few b = true:=by
  unfold Sx38Neutral.flat at h
  simp only [Bool.and_eq_true] at h
  exact h.1
theorem flat_d {b:List Int} (h:Sx38Neutral.flat b = true) (o:okB b):bD b≤3:=by
  have hg:=(good_iff (flat_told h)).mpr o
  unfold Sx38Neutral.flat at h
  simp only [Bool.and_eq_true,Bool.or_eq_true] at h
  rcases h.2 with q | q
  · have q:b.getD 0 0≤3:=by simpa using q
    unfold bD;omega
  · rw [hg] at q;cases q
end WP
namespace WP
open Sx38 Sa83
theorem dotS_scale (S:List Nat) (x:Int) (r v:Fn):dotS S (fun i=>x * r i) v = x * dotS S r v:=by
  have:=dotS_lin (S:=S) x 0 r r v
  simpa using this
theorem dotS_nonpos {S:List Nat} {l f:Fn} (hl:∀ i∈S,0≤l i) (hf:∀ i∈S,f i≤0):dotS S l f≤0:=by
  induction S with
  | nil=>simp [dotS]
  | cons c S ih =>
    rw [dotS_cons]
    have h1:=Int.mul_nonneg (hl c (by simp)) (show 0≤- f c by have:=hf c (by simp);omega)
    have h2:=ih (fun i hi=>hl i (by simp [hi])) (fun i hi=>hf i (by simp [hi]))
    have h3:l c * -f c = -(l c * f c):=by grind
    omega
theorem dotS_le {S:List Nat} {l f g:Fn} (hl:∀ i∈S,0≤l i) (h:∀ i∈S,f i≤g i):dotS S l f≤dotS S l g:=by
  have:=dotS_nonpos (S:=S) (l:=l) (f:=fun i=>1 * f i - 1 * g i) hl fun i hi=>by have:=h i hi;omega
  rw [dotS_linR] at this
  omega
theorem dotS_mulR (S:List Nat) (x:Int) (r v:Fn):dotS S r (fun i=>x * v i) = x * dotS S r v:=by
  have:=dotS_linR (S:=S) x 0 r v v
  simpa using this
theorem farkas (n:Nat):∀ (S:List Nat) (v:Nat→Fn) (g:Fn),S.Nodup→(∀ c:Fn,(∀ i∈S,dotS (List.range n) (v i) c≤0)→dotS (List.range n) g c≤0) →
    ∃ (D:Int) (l:Fn),0 < D∧(∀ i∈S,0≤l i)∧∀ j,j < n→D * g j = dotS S l (fun i=>v i j)
  | [],v,g,_,h=>by
    have h1:=h g (fun i hi=>nomatch hi)
    have h2:=dotS_self_nonneg (List.range n) g
    have h3:=dotS_self_zero (S:=List.range n) (a:=g) (by omega)
    exact ⟨1,fun _=>0,by decide,by intro i hi;simp at hi,fun j hj=>by rw [h3 j (by simpa using hj)];simp [dotS]⟩
  | m :: S,v,g,nd,h=>by
    have nd':=List.nodup_cons.mp nd
    have ne:∀ i∈S,i≠m:=fun i hi q=>nd'.1 (q ▸ hi)
    by_cases hS:∀ c:Fn,(∀ i∈S,dotS (List.range n) (v i) c≤0)→dotS (List.range n) g c≤0
    · obtain ⟨D,l,hD,hl,e⟩:=farkas n S v g nd'.2 hS
      refine ⟨D,fun i=>if i = m then 0 else l i,hD,fun i hi=>?_,fun j hj=>?_⟩
      · by_cases q:i = m
        · simp [q]
        · show 0≤if i = m then 0 else l i
          rw [if_neg q]
          rcases List.mem_cons.mp hi with r | r
          · exact absurd r q
          · exact hl i r
      · rw [dotS_cons,e j hj]
        simp only [if_true,Int.zero_mul,Int.zero_add]
        exact dotS_congr fun i hi=>by rw [if_neg (ne i hi)]
    · obtain ⟨xb,hx⟩:=Classical.not_forall.mp hS
      obtain ⟨hx1,hx2⟩:=Classical.not_imp.mp hx
      have sp:0 < dotS (List.range n) (v m) xb:=Classical.byContradiction fun q=>hx2 (h xb fun i hi=>by
        rcases List.mem_cons.mp hi with r | r
        · rw [r];omega
        · exact hx1 i r)
      generalize hs:dotS (List.range n) (v m) xb = s at sp
      generalize hgx:dotS (List.range n) g xb = gx at hx2
      obtain ⟨D,l,hD,hl,e⟩:=farkas n S (fun i j=>s * v i j - dotS (List.range n) (v i) xb * v m j) (fun j=>s * g j - gx * v m j) nd'.2 (fun c hc=>by
        rw [dotS_lin]
        have key:=h (fun j=>s * c j - dotS (List.range n) (v m) c * xb j) (fun i hi=>by
          rw [dotS_linR]
          rcases List.mem_cons.mp hi with r | r
          · rw [r,hs]
            have:s * dotS (List.range n) (v m) c - dotS (List.range n) (v m) c * s = 0:=by grind
            omega
          · have:=hc i r
            rw [dotS_lin] at this
            have e2:dotS (List.range n) (v m) c * dotS (List.range n) (v i) xb = dotS (List.range n) (v i) xb * dotS (List.range n) (v m) c:=Int.mul_comm _ _
            omega)
        rw [dotS_linR,hgx] at key
        have e2:dotS (List.range n) (v m) c * gx = gx * dotS (List.range n) (v m) c:=Int.mul_comm _ _
        omega)
      have hT:=dotS_nonpos (S:=S) (l:=l) (f:=fun i=>dotS (List.range n) (v i) xb) hl hx1
      refine ⟨D * s,fun i=>if i = m then D * gx - dotS S l (fun i=>dotS (List.range n) (v i) xb) else s * l i,Int.mul_pos hD sp,fun i hi=>?_,fun j hj=>?_⟩
      · by_cases q:i = m
        · simp only [q,if_true]
          have:=Int.mul_nonneg (Int.le_of_lt hD) (show 0≤gx by omega)
          omega
        · simp only [q,if_false]
          rcases List.mem_cons.mp hi with r | r
          · exact absurd r q
          · exact Int.mul_nonneg (Int.le_of_lt sp) (hl i r)
      · have e1:=e j hj
        have e2:dotS S l (fun i=>s * v i j - dotS (List.range n) (v i) xb * v m j) = s * dotS S l (fun i=>v i j) - v m j * dotS S l (fun i=>dotS (List.range n) (v i) xb):=by
          rw [← dotS_linR]
          exact dotS_congr fun i _=>by grind
        rw [e2] at e1
        rw [dotS_cons]
        have e3:dotS S (fun i=>if i = m then D * gx - dotS S l (fun i=>dotS (List.range n) (v i) xb) else s * l i) (fun i=>v i j) = s * dotS S l (fun i=>v i j):=by
          rw [← dotS_scale]
          exact dotS_congr fun i hi=>by rw [if_neg (ne i hi)]
        rw [e3]
        simp only [if_true]
        generalize dotS S l (fun i=>v i j) = A at *
        generalize dotS S l (fun i=>dotS (List.range n) (v i) xb) = B at *
        grind
theorem less_one {n:Nat} {S:List Nat} {v:Nat→Fn} {g:Fn} {D:Int} {l:Fn} {μ:Fn} (hD:0 < D) (hl:∀ i∈S,0≤l i) (e:∀ j,j < n→D * g j = dotS S l (fun i=>v i j))
    (hne:∃ i∈S,μ i≠0) (hμ:∀ j,j < n→dotS S μ (fun i=>v i j) = 0) :
    ∃ (D':Int) (l':Fn),0 < D'∧(∀ i∈S,0≤l' i)∧(∀ j,j < n→D' * g j = dotS S l' (fun i=>v i j))∧∃ i∈S,l' i = 0:=by
  obtain ⟨ν,hpos,hν⟩:∃ ν:Fn,(∃ i∈S,0 < ν i)∧∀ j,j < n→dotS S ν (fun i=>v i j) = 0:=by
    obtain ⟨i,hi,h0⟩:=hne
    by_cases q:0 < μ i
    · exact ⟨μ,⟨i,hi,q⟩,hμ⟩
    · refine ⟨fun i=>(-1) * μ i,⟨i,hi,by show 0 < (-1) * μ i;omega⟩,fun j hj=>by rw [dotS_scale,hμ j hj];rfl⟩
  obtain ⟨i,hi,pi,hmax⟩:=ratio_max (fun i=>- l i) ν S hpos
  refine ⟨ν i * D,fun k=>ν i * l k - l i * ν k,Int.mul_pos pi hD,fun k hk=>?_,fun j hj=>?_,i,hi,by show ν i * l i - l i * ν i = 0;grind⟩
  · show 0≤ν i * l k - l i * ν k
    by_cases q:0 < ν k
    · have:=hmax k hk q
      grind
    · have h1:=Int.mul_nonneg (Int.le_of_lt pi) (hl k hk)
      have h2:=Int.mul_nonneg (hl i hi) (show 0≤- ν k by omega)
      grind
  · rw [dotS_lin,hν j hj,← e j hj];grind
theorem carath {n:Nat} {v:Nat→Fn} {g:Fn}:∀ (k:Nat) (S:List Nat) (D:Int) (l:Fn),S.length≤k→S.Nodup→0 < D→(∀ i∈S,0≤l i)→(∀ j,j < n→D * g j = dotS S l (fun i=>v i j)) →
    ∃ (S':List Nat) (D':Int) (l':Fn),S'.Nodup∧(∀ i∈S',i∈S)∧S'.length≤n∧0 < D'∧(∀ i∈S',0≤l' i)∧∀ j,j < n→D' * g j = dotS S' l' (fun i=>v i j):=by
  intro k
  induction k with
  | zero =>
    intro S D l hk nd hD hl e
    exact ⟨S,D,l,nd,fun _ h=>h,by omega,hD,hl,e⟩
  | succ k ih =>
    intro S D l hk nd hD hl e
    by_cases hn:S.length≤n
    · exact ⟨S,D,l,nd,fun _ h=>h,hn,hD,hl,e⟩
    · have nf:=full_few ((List.range n).map fun j=>fun i=>v i j) S nd (by simp;omega)
      obtain ⟨μ,hμ⟩:=Classical.not_forall.mp nf
      obtain ⟨h1,h2⟩:=Classical.not_imp.mp hμ
      obtain ⟨D',l',hD',hl',e',i,hi,h0⟩:=less_one (μ:=μ) hD hl e (Classical.byContradiction fun q=>h2 fun i hi=>Classical.byContradiction fun r=>q ⟨i,hi,r⟩) (fun j hj=>by
        rw [dotS_comm];exact h1 _ (List.mem_map.mpr ⟨j,by simpa using hj,rfl⟩))
      obtain ⟨S2,D2,l2,a1,a2,a3,a4,a5,a6⟩:=ih (S.erase i) D' l' (by rw [List.length_erase_of_mem hi];omega) (nd.erase i) hD' (fun k hk=>hl' k (List.mem_of_mem_erase hk)) (fun j hj=>by
        rw [e' j hj,dotS_erase hi,h0];simp)
      exact ⟨S2,D2,l2,a1,fun k hk=>List.mem_of_mem_erase (a2 k hk),a3,a4,a5,a6⟩
theorem dotS_swap (S N:List Nat) (l a:Fn) (v:Nat→Fn):dotS N a (fun j=>dotS S l (fun k=>v k j)) = dotS S l (fun k=>dotS N a (v k)):=by
  induction S with
  | nil=>simp only [dotS,List.map_nil,List.sum_nil];exact dotS_zero fun i _=>by simp
  | cons c S ih =>
    rw [dotS_cons,← ih]
    have:dotS N a (fun j=>dotS (c :: S) l (fun k=>v k j)) = dotS N a (fun j=>l c * v c j - (-1) * dotS S l (fun k=>v k j)):=dotS_congr fun j _=>by rw [dotS_cons];grind
    rw [this,dotS_linR]
    grind
theorem comb_dot {S:List Nat} {d:Nat} {D:Int} {w l a:Fn} {v:Nat→Fn} (e:∀ j,j < d→D * w j = dotS S l (fun k=>v k j)):D * dotS (List.range d) a w = dotS S l (fun k=>dotS (List.range d) a (v k)):=by
  rw [← dotS_swap,← dotS_mulR]
  exact dotS_congr fun j hj=>by rw [e j (by simpa using hj)]
def hat (d:Nat) (p:Vec) (t:Int):Fn:=fun j=>if j < d then at0 p j else t
theorem hat_dot {d:Nat} {p:Vec} {t:Int} (c:Fn):dotS (List.range (d + 1)) (hat d p t) c = dotS (List.range d) (at0 p) c + t * c d:=by
  rw [List.range_succ]
  unfold dotS
  rw [List.map_append,List.sum_append]
  have:((List.range d).map fun i=>hat d p t i * c i) = (List.range d).map fun i=>at0 p i * c i:=List.map_congr_left fun i hi=>by
    have:i < d:=by simpa using hi
    simp [hat,this]
  rw [this]
  simp [hat]
section
variable {d:Nat} {L:List Vec}
theorem hull (hL:∀ x∈L,x.length = d) (h0:L≠[]) (R:RoomP d L) {t:Int} (ht:0≤t) {x:Vec} (lx:x.length = d) (hx:∀ a e,SideP d L a e→dot a x≤t * e) :
    ∃ (S:List Nat) (D:Int) (l:Fn),S.Nodup∧(∀ i∈S,i < L.length)∧S.length≤d + 1∧0 < D∧(∀ i∈S,0≤l i)∧∀ j,j < d + 1→D * hat d x t j = dotS S l (fun i=>hat d (L.getD i []) 1 j):=by
  have get:∀ i,i < L.length→L.getD i []∈L:=fun i hi=>by rw [List.getD_eq_getElem?_getD,List.getElem?_eq_getElem hi];exact List.getElem_mem _
  obtain ⟨D,l,hD,hl,e⟩:=farkas (d + 1) (List.range L.length) (fun i=>hat d (L.getD i []) 1) (hat d x t) List.nodup_range (fun c hc=>by
    rw [hat_dot]
    have hp:∀ p∈L,dotS (List.range d) (at0 p) c + c d≤0:=fun p hp=>by
      obtain ⟨i,hi,rfl⟩:=List.mem_iff_getElem.mp hp
      have:=hc i (by simpa using hi)
      rw [hat_dot] at this
      have e:L.getD i [] = L[i]:=by rw [List.getD_eq_getElem?_getD,List.getElem?_eq_getElem hi];rfl
      rw [e] at this
      omega
    let a:Vec:=(List.range d).map c
    have la:a.length = d:=by simp [a]
    have da:∀ y:Vec,y.length = d→dot a y = dotS (List.range d) (at0 y) c:=fun y hy=>by
      rw [dot_fn la hy (v:=c) (fun i hi=>made_at hi),dotS_comm]
    rw [← da x lx]
    obtain ⟨y,hy,hm⟩:=max_in (fun y=>dot a y) L h0
    have hye:=hp y hy
    rw [← da y (hL y hy)] at hye
    have main:dot a x≤t * dot a y:=by
      by_cases hne:∃ i,i < d∧at0 a i≠0
      · exact keeps hL R lx hx la hne hm ⟨y,hy,rfl⟩
      · have z:∀ w:Vec,w.length = d→dot a w = 0:=fun w hw=>by
          rw [dot_eq la hw]
          exact dotS_zero fun i hi=>by
            have:at0 a i = 0:=Classical.byContradiction fun q=>hne ⟨i,by simpa using hi,q⟩
            rw [this];simp
        rw [z x lx,z y (hL y hy)];simp
    have h2:=Int.mul_nonneg ht (show 0≤-(dot a y + c d) by omega)
    have h3:t * -(dot a y + c d) = -(t * dot a y) - t * c d:=by grind
    omega)
  obtain ⟨S,D',l',a1,a2,a3,a4,a5,a6⟩:=carath (n:=d + 1) (v:=fun i=>hat d (L.getD i []) 1) (g:=hat d x t) _ (List.range L.length) D l (Nat.le_refl _) List.nodup_range hD hl e
  exact ⟨S,D',l',a1,fun i hi=>by simpa using a2 i hi,a3,a4,a5,a6⟩
end
end WP
namespace WP
open Sx38 Sa83
theorem plus_length {d:Nat} {x y:Vec} (hx:x.length = d) (hy:y.length = d):(plus x y).length = d:=by simp [plus,hx,hy]
theorem at0_plus {d:Nat} {x y:Vec} (hx:x.length = d) (hy:y.length = d) (i:Nat):at0 (plus x y) i = at0 x i + at0 y i:=by
  by_cases h:i < d
  · have h1:x[i]? = some x[i]:=List.getElem?_eq_getElem (by omega)
    have h2:y[i]? = some y[i]:=List.getElem?_eq_getElem (by omega)
    simp [at0,plus,List.zip,List.getElem?_zipWith,h1,h2]
  · have h1:x[i]? = none:=List.getElem?_eq_none (by omega)
    have h2:y[i]? = none:=List.getElem?_eq_none (by omega)
    simp [at0,plus,List.zip,List.getElem?_zipWith,h1,h2]
theorem sub_plus {d:Nat} {y z:Vec} (hy:y.length = d) (hz:z.length = d):sub (plus y z) y = z :=
  ext_at0 (by rw [sub_length (plus_length hy hz) hy,hz]) fun i _=>by rw [at0_sub (plus_length hy hz) hy,at0_plus hy hz];omega
end WP
namespace WP
open Sx38 Sa83
def CornerP (d:Nat) (L:List Vec) (x:Vec):Prop:=∀ v:Fn,(∀ a e,SideP d L a e→dot a x = e→dotS (List.range d) (at0 a) v = 0)→∀ i,i < d→v i = 0
def nsq (d:Nat) (x:Fn):Int:=dotS (List.range d) x x
theorem nsq_sub {d:Nat} (x y:Fn):nsq d (fun i=>1 * x i - 1 * y i) = nsq d x - 2 * dotS (List.range d) y x + nsq d y:=by
  unfold nsq
  rw [dotS_lin,dotS_linR,dotS_linR,dotS_comm (List.range d) x y]
  grind
theorem max_two {α:Type} (f g:α→Int) (L:List α) (h0:L≠[]):∃ p∈L,(∀ y∈L,f y≤f p)∧∀ y∈L,f y = f p→g y≤g p:=by
  obtain ⟨q,hq,hmax⟩:=max_in f L h0
  have ne:L.filter (fun y=>decide (f y = f q))≠[]:=fun z=>by
    have:q∈L.filter (fun y=>decide (f y = f q)):=List.mem_filter.mpr ⟨hq,by simp⟩
    rw [z] at this;simp at this
  obtain ⟨p,hp,hg⟩:=max_in g _ ne
  obtain ⟨hpL,hpf⟩:=List.mem_filter.mp hp
  have hpf:f p = f q:=by simpa using hpf
  refine ⟨p,hpL,fun y hy=>by rw [hpf];exact hmax y hy,fun y hy e=>hg y (List.mem_filter.mpr ⟨hy,by simp [e,hpf]⟩)⟩
theorem sum_zero {S:List Nat} {l f:Fn} (hl:∀ i∈S,0≤l i) (hf:∀ i∈S,0 < l i→0≤f i) (h:dotS S l f≤0):∀ i∈S,0 < l i→f i = 0:=by
  induction S with
  | nil=>intro i hi;simp at hi
  | cons c S ih =>
    rw [dotS_cons] at h
    have pos:∀ i∈c :: S,0≤l i * f i:=fun i hi=>by
      by_cases q:0 < l i
      · exact Int.mul_nonneg (hl i hi) (hf i hi q)
      · have:l i = 0:=by have:=hl i hi;omega
        rw [this];simp
    have p1:=pos c (by simp)
    have p2:0≤dotS S l f:=by
      have:=dotS_nonpos (S:=S) (l:=fun _=>1) (f:=fun i=>- (l i * f i)) (fun _ _=>by decide) fun i hi=>by have:=pos i (by simp [hi]);omega
      have e:dotS S (fun _=>1) (fun i=>- (l i * f i)) = - dotS S l f:=by
        have:∀ S:List Nat,dotS S (fun _=>1) (fun i=>- (l i * f i)) = - dotS S l f:=fun S=>by
          induction S with
          | nil=>simp [dotS]
          | cons c S ih=>rw [dotS_cons,dotS_cons,ih];omega
        exact this S
      omega
    intro i hi hpos
    rcases List.mem_cons.mp hi with rfl | hi
    · have:l i * f i = 0:=by omega
      rcases Int.mul_eq_zero.mp this with z | z
      · omega
      · exact z
    · exact ih (fun i hi=>hl i (by simp [hi])) (fun i hi=>hf i (by simp [hi])) (by omega) i hi hpos
section
variable {d:Nat} {L:List Vec}
theorem stuck (hL:∀ x∈L,x.length = d) (h0:L≠[]) (R:RoomP d L) {v:Fn} {p:Vec} (hp:p∈L) (hmax:∀ y∈L,dotS (List.range d) v (at0 y)≤dotS (List.range d) v (at0 p))
    {N:Int} (hN:0≤N) {w:Vec} (lw:w.length = d) (hvw:dotS (List.range d) v (at0 w) = 0)
    (hfar:∀ y∈L,dotS (List.range d) v (at0 y) = dotS (List.range d) v (at0 p)→nsq d (at0 y)≤nsq d (at0 p))
    {q:Vec} (lq:q.length = d) (hq:∀ i,i < d→at0 q i = N * at0 p i + at0 w i) (hs:∀ a e,SideP d L a e→dot a q≤N * e):dotS (List.range d) (at0 p) (at0 w)≤0∧(dotS (List.range d) (at0 p) (at0 w) = 0→∀ i,i < d→at0 w i = 0):=by
  obtain ⟨S,D,l,nd,hS,hlen,hD,hl,e⟩:=hull hL h0 R hN lq hs
  have get:∀ i∈S,L.getD i []∈L:=fun i hi=>by
    have:=hS i hi
    rw [List.getD_eq_getElem?_getD,List.getElem?_eq_getElem this];exact List.getElem_mem _
  have e1:∀ j,j < d→D * at0 q j = dotS S l (fun i=>at0 (L.getD i []) j):=fun j hj=>by
    have:=e j (by omega)
    simpa [hat,hj] using this
  have e2:D * N = dotS S l (fun _=>1):=by
    have:=e d (by omega)
    simpa [hat] using this
  have ev:=comb_dot (a:=v) e1
  have qv:dotS (List.range d) v (at0 q) = N * dotS (List.range d) v (at0 p):=by
    have:dotS (List.range d) v (at0 q) = dotS (List.range d) v (fun i=>N * at0 p i - (-1) * at0 w i):=dotS_congr fun i hi=>by
      rw [hq i (by simpa using hi)];grind
    rw [this,dotS_linR,hvw];simp
  have tight:∀ i∈S,0 < l i→dotS (List.range d) v (at0 (L.getD i [])) = dotS (List.range d) v (at0 p):=fun i hi hpos=>by
    have:=sum_zero (S:=S) (l:=l) (f:=fun i=>dotS (List.range d) v (at0 p) * 1 - 1 * dotS (List.range d) v (at0 (L.getD i []))) hl (fun i hi _=>by have:=hmax _ (get i hi);omega) (by
      rw [dotS_linR,← ev,← e2,qv]
      have:dotS (List.range d) v (at0 p) * (D * N) - 1 * (D * (N * dotS (List.range d) v (at0 p))) = 0:=by grind
      omega) i hi hpos
    omega
  have far:∀ i∈S,0 < l i→nsq d (at0 (L.getD i []))≤nsq d (at0 p):=fun i hi hpos=>hfar _ (get i hi) (tight i hi hpos)
  have ep:=comb_dot (a:=at0 p) e1
  have qp:dotS (List.range d) (at0 p) (at0 q) = N * nsq d (at0 p) + dotS (List.range d) (at0 p) (at0 w):=by
    have:dotS (List.range d) (at0 p) (at0 q) = dotS (List.range d) (at0 p) (fun i=>N * at0 p i - (-1) * at0 w i):=dotS_congr fun i hi=>by
      rw [hq i (by simpa using hi)];grind
    rw [this,dotS_linR];unfold nsq;omega
  rw [qp] at ep
  let F:Fn:=fun i=>nsq d (fun j=>1 * at0 (L.getD i []) j - 1 * at0 p j)
  have Fpos:∀ i,0≤F i:=fun i=>dotS_self_nonneg _ _
  have Fle:∀ i∈S,0 < l i→F i≤2 * nsq d (at0 p) - 2 * dotS (List.range d) (at0 p) (at0 (L.getD i [])):=fun i hi hpos=>by
    show nsq d (fun j=>1 * at0 (L.getD i []) j - 1 * at0 p j)≤_
    rw [nsq_sub]
    have:=far i hi hpos
    omega
  have Fsum:dotS S l F≤- (2 * D * dotS (List.range d) (at0 p) (at0 w)):=by
    have h1:dotS S l F≤dotS S l (fun i=>(2 * nsq d (at0 p)) * 1 - 2 * dotS (List.range d) (at0 p) (at0 (L.getD i []))):=by
      have:∀ S:List Nat,(∀ i∈S,0≤l i)→(∀ i∈S,0 < l i→F i≤2 * nsq d (at0 p) - 2 * dotS (List.range d) (at0 p) (at0 (L.getD i [])))→dotS S l F≤dotS S l (fun i=>(2 * nsq d (at0 p)) * 1 - 2 * dotS (List.range d) (at0 p) (at0 (L.getD i []))):=fun S=>by
        induction S with
        | nil=>intro _ _;simp [dotS]
        | cons c S ih =>
          intro g1 g2
          rw [dotS_cons,dotS_cons]
          have i1:=ih (fun i hi=>g1 i (by simp [hi])) (fun i hi=>g2 i (by simp [hi]))
          by_cases q:0 < l c
          · have:=Int.mul_le_mul_of_nonneg_left (g2 c (by simp) q) (g1 c (by simp))
            have e:l c * (2 * nsq d (at0 p) - 2 * dotS (List.range d) (at0 p) (at0 (L.getD c []))) = l c * ((2 * nsq d (at0 p)) * 1 - 2 * dotS (List.range d) (at0 p) (at0 (L.getD c []))):=by grind
            omega
          · have z:l c = 0:=by have:=g1 c (by simp);omega
            rw [z];omega
      exact this S hl Fle
    rw [dotS_linR,← e2,← ep] at h1
    have:(2 * nsq d (at0 p)) * (D * N) - 2 * (D * (N * nsq d (at0 p) + dotS (List.range d) (at0 p) (at0 w))) = - (2 * D * dotS (List.range d) (at0 p) (at0 w)):=by grind
    omega
  have Fnn:0≤dotS S l F:=by
    have:=dotS_nonpos (S:=S) (l:=l) (f:=fun i=>0 * F i - 1 * F i) hl fun i _=>by have:=Fpos i;omega
    rw [dotS_linR] at this
    omega
  constructor
  · refine Classical.byContradiction fun c=>?_
    have:=Int.mul_pos (show 0 < 2 * D by omega) (show 0 < dotS (List.range d) (at0 p) (at0 w) by omega)
    omega
  · intro hz j hj
    rw [hz] at Fsum
    have F0:=sum_zero (S:=S) (l:=l) (f:=F) hl (fun i _ _=>Fpos i) (by omega)
    have same:∀ i∈S,0 < l i→at0 (L.getD i []) j = at0 p j:=fun i hi hpos=>by
      have:=dotS_self_zero (S:=List.range d) (F0 i hi hpos) j (by simpa using hj)
      omega
    have e3:=e1 j hj
    have e4:dotS S l (fun i=>at0 (L.getD i []) j) = dotS S l (fun _=>at0 p j * 1):=dotS_congr fun i hi=>by
      by_cases q:0 < l i
      · rw [same i hi q];simp
      · have z:l i = 0:=by have:=hl i hi;omega
        rw [z];simp
    rw [e4,dotS_mulR,← e2,hq j hj] at e3
    have e5:D * at0 w j = 0:=by grind
    rcases Int.mul_eq_zero.mp e5 with z | z
    · omega
    · exact z
theorem bound_all {α:Type} (f:α→Nat):∀ (l:List α),∃ N,∀ x∈l,f x≤N
  | []=>⟨0,fun x h=>nomatch h⟩
  | a :: l=>by
    obtain ⟨N,hN⟩:=bound_all f l
    refine ⟨max N (f a),fun x hx=>?_⟩
    rcases List.mem_cons.mp hx with rfl | hx
    · omega
    · have:=hN x hx;omega
theorem corner_max (h1:1≤d) (h4:d≤4) (hL:∀ x∈L,x.length = d) (h0:L≠[]) (R:RoomP d L) (v:Fn):∃ p∈L,CornerP d L p∧∀ y∈L,dotS (List.range d) v (at0 y)≤dotS (List.range d) v (at0 p):=by
  obtain ⟨p,hp,hmax,hfar⟩:=max_two (fun y=>dotS (List.range d) v (at0 y)) (fun y=>nsq d (at0 y)) L h0
  refine ⟨p,hp,?_,hmax⟩
  intro w0 hw0
  refine Classical.byContradiction fun hne=>?_
  let w:Vec:=(List.range d).map w0
  have lw:w.length = d:=by simp [w]
  have aw:∀ i,i < d→at0 w i = w0 i:=fun i hi=>made_at hi
  obtain ⟨M,hM⟩:=bound_all (fun s:Vec × Int=>(dotS (List.range d) (at0 s.1) (at0 w)).natAbs) (sidesOf d L)
  let N:Int:=(M:Int) + 1
  have hm:∀ a e,(a,e)∈sidesOf d L↔SideP d L a e:=fun a e=>by
    rw [mem_sidesOf h1 h4 hL]
    exact ⟨fun h=>h.1,fun h=>⟨h,room_strict hL R h⟩⟩
  have go:∀ sg:Int,(sg = 1∨sg = -1)→∃ q:Vec,q.length = d∧(∀ i,i < d→at0 q i = N * at0 p i + sg * at0 w i)∧∀ a e,SideP d L a e→dot a q≤N * e:=fun sg hsg=>by
    refine ⟨(List.range d).map fun i=>N * at0 p i + sg * at0 w i,by simp,fun i hi=>made_at hi,fun a e s=>?_⟩
    have lq:((List.range d).map fun i=>N * at0 p i + sg * at0 w i).length = d:=by simp
    have e1:dot a ((List.range d).map fun i=>N * at0 p i + sg * at0 w i) = N * dot a p + sg * dotS (List.range d) (at0 a) (at0 w):=by
      rw [dot_eq s.len lq,dot_eq s.len (hL p hp)]
      have:dotS (List.range d) (at0 a) (at0 ((List.range d).map fun i=>N * at0 p i + sg * at0 w i)) = dotS (List.range d) (at0 a) (fun i=>N * at0 p i - (-sg) * at0 w i):=dotS_congr fun i hi=>by
        rw [made_at (by simpa using hi)];grind
      rw [this,dotS_linR];grind
    rw [e1]
    have hb:=hM (a,e) ((hm a e).mpr s)
    have hb:(dotS (List.range d) (at0 a) (at0 w)).natAbs≤M:=hb
    have hle:=s.most p hp
    by_cases ht:dot a p = e
    · have z:dotS (List.range d) (at0 a) (at0 w) = 0:=by
        have:=hw0 a e s ht
        rw [← this]
        exact dotS_congr fun i hi=>by rw [aw i (by simpa using hi)]
      rw [z,ht];simp
    · have h2:N * 1≤N * (e - dot a p):=Int.mul_le_mul_of_nonneg_left (by omega) (by show 0≤(M:Int) + 1;omega)
      have h3:N * (e - dot a p) = N * e - N * dot a p:=by grind
      have h4:(sg * dotS (List.range d) (at0 a) (at0 w)).natAbs≤M:=by
        rw [Int.natAbs_mul]
        have:sg.natAbs = 1:=by rcases hsg with r | r <;> rw [r] <;> rfl
        rw [this];omega
      have h5:N = (M:Int) + 1:=rfl
      omega
  obtain ⟨q1,lq1,hq1,hs1⟩:=go 1 (.inl rfl)
  obtain ⟨q2,lq2,hq2,hs2⟩:=go (-1) (.inr rfl)
  have hN:0≤N:=by show 0≤(M:Int) + 1;omega
  have ne:∃ i,i < d∧at0 w i≠0:=Classical.byContradiction fun z=>hne fun i hi=>by
    have:at0 w i = 0:=Classical.byContradiction fun r=>z ⟨i,hi,r⟩
    rw [← aw i hi];exact this
  have vflat:dotS (List.range d) v (at0 w) = 0:=by
    have one:∀ (sg:Int) (q:Vec),q.length = d→(∀ i,i < d→at0 q i = N * at0 p i + sg * at0 w i)→(∀ a e,SideP d L a e→dot a q≤N * e)→sg * dotS (List.range d) v (at0 w)≤0:=by
      intro sg q lq hq hs
      obtain ⟨S,D,l,nd,hS,hlen,hD,hl,e⟩:=hull hL h0 R hN lq hs
      have e1:∀ j,j < d→D * at0 q j = dotS S l (fun i=>at0 (L.getD i []) j):=fun j hj=>by
        have:=e j (by omega)
        simpa [hat,hj] using this
      have e2:D * N = dotS S l (fun _=>1):=by
        have:=e d (by omega)
        simpa [hat] using this
      have ev:=comb_dot (a:=v) e1
      have h1:dotS S l (fun i=>dotS (List.range d) v (at0 (L.getD i [])))≤dotS S l (fun _=>dotS (List.range d) v (at0 p) * 1):=dotS_le hl fun i hi=>by
        have:=hmax (L.getD i []) (by
          have:=hS i hi
          rw [List.getD_eq_getElem?_getD,List.getElem?_eq_getElem this];exact List.getElem_mem _)
        omega
      rw [dotS_mulR,← e2,← ev] at h1
      have qv:dotS (List.range d) v (at0 q) = N * dotS (List.range d) v (at0 p) + sg * dotS (List.range d) v (at0 w):=by
        have:dotS (List.range d) v (at0 q) = dotS (List.range d) v (fun i=>N * at0 p i - (-sg) * at0 w i):=dotS_congr fun i hi=>by
          rw [hq i (by simpa using hi)];grind
        rw [this,dotS_linR];grind
      rw [qv] at h1
      have h2:D * (sg * dotS (List.range d) v (at0 w))≤D * 0:=by grind
      exact Int.le_of_mul_le_mul_left h2 hD
    have a1:=one 1 q1 lq1 hq1 hs1
    have a2:=one (-1) q2 lq2 hq2 hs2
    omega
  let w2:Vec:=(List.range d).map fun i=>-1 * at0 w i
  have lw2:w2.length = d:=by simp [w2]
  have aw2:∀ i,i < d→at0 w2 i = -1 * at0 w i:=fun i hi=>made_at hi
  have dw2:∀ u:Fn,dotS (List.range d) u (at0 w2) = - dotS (List.range d) u (at0 w):=fun u=>by
    have:dotS (List.range d) u (at0 w2) = dotS (List.range d) u (fun i=>(-1) * at0 w i):=dotS_congr fun i hi=>by rw [aw2 i (by simpa using hi)]
    rw [this,dotS_mulR];omega
  have r1:=stuck hL h0 R hp hmax hN lw vflat hfar lq1 (fun i hi=>by rw [hq1 i hi];omega) hs1
  have r2:=stuck hL h0 R hp hmax hN lw2 (by rw [dw2,vflat];rfl) hfar lq2 (fun i hi=>by rw [hq2 i hi,aw2 i hi]) hs2
  rw [dw2] at r2
  obtain ⟨i,hi,h⟩:=ne
  exact h (r1.2 (by omega) i hi)
theorem corners_room (h1:1≤d) (h4:d≤4) (hL:∀ x∈L,x.length = d) (h0:L≠[]) (R:RoomP d L) {C:List Vec} (hC:∀ x,x∈C↔x∈L∧CornerP d L x):RoomP d C:=by
  intro v f hv
  refine R v f fun x hx=>?_
  obtain ⟨p,hp,cp,mp⟩:=corner_max h1 h4 hL h0 R v
  obtain ⟨q,hq,cq,mq⟩:=corner_max h1 h4 hL h0 R (fun i=>-1 * v i)
  have a1:=hv p ((hC p).mpr ⟨hp,cp⟩)
  have a2:=hv q ((hC q).mpr ⟨hq,cq⟩)
  have b1:=mp x hx
  have b2:=mq x hx
  rw [dotS_scale,dotS_scale] at b2
  omega
end
end WP
namespace WP
open Sx38 Sa83
theorem prank_fuel:∀ (n:Nat) (rows:List Vec),rows.length≤n→prank n rows = prank rows.length rows
  | 0,rows,h=>by
    have:rows = []:=len0 (by omega)
    subst this;rfl
  | n + 1,[],_=>rfl
  | n + 1,h :: rest,hn=>by
    have hr:rest.length≤n:=by simpa using hn
    show (if (h.any fun x=>x != 0) = true then prank n (rest.map (cleared h (firstCol h))) + 1 else prank n rest) = (if (h.any fun x=>x != 0) = true then prank rest.length (rest.map (cleared h (firstCol h))) + 1 else prank rest.length rest)
    rw [prank_fuel n rest hr,prank_fuel n (rest.map (cleared h (firstCol h))) (by simpa using hr),List.length_map]
def Kills (m:Nat) (rows:List Vec) (c:Vec):Prop:=∀ v:Fn,(∀ r∈rows,dotS (List.range m) (at0 r) v = 0)→dotS (List.range m) (at0 c) v = 0
theorem prank_snoc (m:Nat):∀ (n:Nat) (rows:List Vec) (c:Vec),rows.length + 1≤n→(∀ r∈rows,r.length = m)→c.length = m→(prank n (rows ++ [c]) = prank n rows∧Kills m rows c)∨prank n (rows ++ [c]) = prank n rows + 1
  | 0,rows,c,h,_,_=>by omega
  | n + 1,[],c,_,_,hc=>by
    have z:∀ k,prank k [] = 0:=fun k=>by cases k <;> rfl
    by_cases q:(c.any fun x=>x != 0) = true
    · right
      show (if (c.any fun x=>x != 0) = true then prank n [] + 1 else prank n []) = prank (n + 1) [] + 1
      rw [if_pos q,z,z]
    · left
      refine ⟨?_,fun v _=>dotS_zero fun i hi=>?_⟩
      · show (if (c.any fun x=>x != 0) = true then prank n [] + 1 else prank n []) = prank (n + 1) []
        rw [if_neg q,z,z]
      · have:at0 c i = 0:=Classical.byContradiction fun r=>q (List.any_eq_true.mpr ⟨at0 c i,at0_mem (by rw [hc];simpa using hi),by simpa using r⟩)
        rw [this];simp
  | n + 1,h :: rest,c,hn,hl,hc=>by
    have hr:rest.length + 1≤n:=by simpa using hn
    have hlr:∀ r∈rest,r.length = m:=fun r hr=>hl r (by simp [hr])
    have hh:=hl h (by simp)
    by_cases q:(h.any fun x=>x != 0) = true
    · have e1:prank (n + 1) (h :: rest ++ [c]) = prank n (rest.map (cleared h (firstCol h)) ++ [cleared h (firstCol h) c]) + 1:=by
        show (if (h.any fun x=>x != 0) = true then prank n ((rest ++ [c]).map (cleared h (firstCol h))) + 1 else _) = _
        rw [if_pos q,List.map_append];rfl
      have e2:prank (n + 1) (h :: rest) = prank n (rest.map (cleared h (firstCol h))) + 1:=by
        show (if (h.any fun x=>x != 0) = true then prank n (rest.map (cleared h (firstCol h))) + 1 else _) = _
        rw [if_pos q]
      have cl:∀ r:Vec,r.length = m→(cleared h (firstCol h) r).length = m:=fun r hr=>by rw [cleared_length (by rw [hr,hh]),hh]
      rw [e1,e2]
      rcases prank_snoc m n (rest.map (cleared h (firstCol h))) (cleared h (firstCol h) c) (by simpa using hr) (fun r hr=>by
        obtain ⟨y,hy,rfl⟩:=List.mem_map.mp hr
        exact cl y (hlr y hy)) (cl c hc) with ⟨g1,g2⟩ | g
      · left
        refine ⟨by rw [g1],fun v hv=>?_⟩
        have dc:∀ r:Vec,r.length = m→dotS (List.range m) (at0 (cleared h (firstCol h) r)) v = at0 h (firstCol h) * dotS (List.range m) (at0 r) v - at0 r (firstCol h) * dotS (List.range m) (at0 h) v:=fun r hr=>by
          rw [← dotS_lin]
          exact dotS_congr fun i _=>by rw [at_cleared (by rw [hr,hh])]
        have k:=g2 v fun r hr=>by
          obtain ⟨y,hy,rfl⟩:=List.mem_map.mp hr
          rw [dc y (hlr y hy),hv y (by simp [hy]),hv h (by simp)];simp
        rw [dc c hc,hv h (by simp)] at k
        have hp:=(firstCol_spec h q).1
        have k2:at0 h (firstCol h) * dotS (List.range m) (at0 c) v = 0:=by omega
        rcases Int.mul_eq_zero.mp k2 with z | z
        · exact absurd z hp
        · exact z
      · right;rw [g]
    · have e1:prank (n + 1) (h :: rest ++ [c]) = prank n (rest ++ [c]):=by
        show (if (h.any fun x=>x != 0) = true then _ else prank n (rest ++ [c])) = _
        rw [if_neg q]
      have e2:prank (n + 1) (h :: rest) = prank n rest:=by
        show (if (h.any fun x=>x != 0) = true then _ else prank n rest) = _
        rw [if_neg q]
      rw [e1,e2]
      rcases prank_snoc m n rest c hr hlr hc with ⟨g1,g2⟩ | g
      · exact .inl ⟨g1,fun v hv=>g2 v fun r hr=>hv r (by simp [hr])⟩
      · exact .inr g
theorem rank_snoc {m:Nat} {rows:List Vec} {c:Vec} (hl:∀ r∈rows,r.length = m) (hc:c.length = m):(rankOf (rows ++ [c]) = rankOf rows∧Kills m rows c)∨rankOf (rows ++ [c]) = rankOf rows + 1:=by
  unfold rankOf
  rw [← prank_fuel (rows.length + 1) rows (by omega),List.length_append]
  exact prank_snoc m (rows.length + 1) rows c (Nat.le_refl _) hl hc
def hatL (L:List Vec):List Vec:=L.map fun x=>x ++ [1]
noncomputable def baseP:List Vec→List Vec→List Vec
  | base,[]=>base
  | base,c :: cs=>baseP (if base.length < rankOf (hatL (base ++ [c])) then base ++ [c] else base) cs
section
variable {d:Nat}
theorem hatL_len {L:List Vec} (h:∀ x∈L,x.length = d):∀ r∈hatL L,r.length = d + 1:=fun r hr=>by
  obtain ⟨x,hx,rfl⟩:=List.mem_map.mp hr
  simp [h x hx]
theorem Kills.more {m:Nat} {rows:List Vec} {c e:Vec} (h:Kills m rows c):Kills m (rows ++ [e]) c:=fun v hv=>h v fun r hr=>hv r (by simp [hr])
theorem baseP_inv:∀ (cs base seen:List Vec),(∀ x∈cs,x.length = d)→(∀ x∈base,x.length = d)→rankOf (hatL base) = base.length→(∀ c∈seen,Kills (d + 1) (hatL base) (c ++ [1]))→(∀ x∈base,x∈seen) →
    rankOf (hatL (baseP base cs)) = (baseP base cs).length∧(∀ x∈baseP base cs,x.length = d)∧(∀ c∈seen ++ cs,Kills (d + 1) (hatL (baseP base cs)) (c ++ [1]))∧∀ x∈baseP base cs,x∈seen ++ cs
  | [],base,seen,_,hb,hr,hk,hs=>⟨hr,hb,by simpa [baseP] using hk,by simpa [baseP] using hs⟩
  | c :: cs,base,seen,hc,hb,hr,hk,hs=>by
    have lc:=hc c (by simp)
    have hcs:∀ x∈cs,x.length = d:=fun x hx=>hc x (by simp [hx])
    have e1:hatL (base ++ [c]) = hatL base ++ [c ++ [1]]:=by simp [hatL]
    have rs:=rank_snoc (m:=d + 1) (rows:=hatL base) (c:=c ++ [1]) (hatL_len hb) (by simp [lc])
    have ea:seen ++ c :: cs = (seen ++ [c]) ++ cs:=by simp
    rw [ea]
    unfold baseP
    by_cases q:base.length < rankOf (hatL (base ++ [c]))
    · rw [if_pos q]
      refine baseP_inv cs (base ++ [c]) (seen ++ [c]) hcs (fun x hx=>?_) ?_ (fun x hx=>?_) (fun x hx=>?_)
      · rcases List.mem_append.mp hx with hx | hx
        · exact hb x hx
        · have:x = c:=by simpa using hx
          rw [this];exact lc
      · rw [e1] at q ⊢
        rcases rs with ⟨g,_⟩ | g
        · rw [g,hr] at q;omega
        · rw [g,hr];simp
      · rw [e1]
        rcases List.mem_append.mp hx with hx | hx
        · exact (hk x hx).more
        · have:x = c:=by simpa using hx
          rw [this]
          exact fun v hv=>hv _ (by simp)
      · rcases List.mem_append.mp hx with hx | hx
        · simp [hs x hx]
        · simp at hx;simp [hx]
    · rw [if_neg q]
      refine baseP_inv cs base (seen ++ [c]) hcs hb hr (fun x hx=>?_) (fun x hx=>by simp [hs x hx])
      rcases List.mem_append.mp hx with hx | hx
      · exact hk x hx
      · have:x = c:=by simpa using hx
        rw [this]
        rw [e1] at q
        rcases rs with ⟨_,g⟩ | g
        · exact g
        · rw [g,hr] at q;omega
theorem base_ok {C:List Vec} (hC:∀ x∈C,x.length = d) (h0:C≠[]) (R:RoomP d C):(baseP [] C).length = d + 1∧rankOf (hatL (baseP [] C)) = d + 1∧(∀ x∈baseP [] C,x∈C):=by
  obtain ⟨i1,i2,i3,i4⟩:=baseP_inv C [] [] hC (fun x hx=>nomatch hx) rfl (fun x hx=>nomatch hx) (fun x hx=>nomatch hx)
  have le:=rankOf_le (hatL_len i2)
  have i3:∀ c∈C,Kills (d + 1) (hatL (baseP [] C)) (c ++ [1]):=fun c hc=>i3 c (by simpa using hc)
  have full:(baseP [] C).length = d + 1:=by
    refine Classical.byContradiction fun q=>?_
    have lt:(baseP [] C).length < d + 1:=by omega
    have nf:=full_few ((hatL (baseP [] C)).map at0) (List.range (d + 1)) List.nodup_range (by simp [hatL];exact lt)
    obtain ⟨v,hv⟩:=Classical.not_forall.mp nf
    obtain ⟨g1,g2⟩:=Classical.not_imp.mp hv
    refine g2 ?_
    have kill:∀ c∈C,dotS (List.range (d + 1)) (at0 (c ++ [1])) v = 0:=fun c hc=>i3 c hc v fun r hr=>g1 (at0 r) (List.mem_map.mpr ⟨r,hr,rfl⟩)
    have zero:=R v (- v d) fun x hx=>by
      have:=kill x hx
      rw [dotS_snoc (hC x hx)] at this
      rw [dotS_comm];omega
    have zd:v d = 0:=by
      cases hCe:C with
      | nil=>exact absurd hCe h0
      | cons x r =>
        have:=kill x (by rw [hCe];simp)
        rw [dotS_snoc (hC x (by rw [hCe];simp))] at this
        have z2:dotS (List.range d) (at0 x) v = 0:=dotS_zero fun i hi=>by rw [zero i (by simpa using hi)];simp
        omega
    intro i hi
    have hi:i < d + 1:=by simpa using hi
    by_cases q2:i < d
    · exact zero i q2
    · have:i = d:=by omega
      rw [this];exact zd
  exact ⟨full,by rw [i1,full],fun x hx=>by simpa using i4 x hx⟩
theorem base_det (h1:1≤d) (h4:d≤4) {b0:Vec} {rest:List Vec} (hl:∀ x∈b0 :: rest,x.length = d) (hlen:rest.length = d) (hr:rankOf (hatL (b0 :: rest)) = d + 1):det d (rest.map fun x=>sub x b0)≠0:=by
  have R:RoomP d (b0 :: rest):=(room_rank hl (by simp)).mp hr
  have l0:=hl b0 (by simp)
  refine (det_full h4 (by simpa using hlen) (fun r hr=>?_)).mpr ?_
  · obtain ⟨x,hx,rfl⟩:=List.mem_map.mp hr
    exact sub_length (hl x (by simp [hx])) l0
  · intro v hv
    have:=R v (dotS (List.range d) v (at0 b0)) fun x hx=>by
      rcases List.mem_cons.mp hx with rfl | hx
      · rfl
      · have:=hv (at0 (sub x b0)) (List.mem_map.mpr ⟨sub x b0,List.mem_map.mpr ⟨x,hx,rfl⟩,rfl⟩)
        rw [dotS_sub (hl x (by simp [hx])) l0] at this
        rw [dotS_comm,dotS_comm (List.range d) v]
        omega
    intro i hi
    exact this i (by simpa using hi)
end
end WP
namespace WP
open Sx38 Sa83
def IsMat (d:Nat) (M:List Vec):Prop:=M.length = d∧∀ r∈M,r.length = d
structure MapP (d:Nat) (cb cc:List Vec) (M:List Vec) (v:Vec):Prop where
  sq:IsMat d M
  one:(det d M).natAbs = 1
  lv:v.length = d
  len:cb.length = cc.length
  takes:∀ x∈cb,plus (by_ M x) v∈cc
theorem by_length (M:List Vec) (x:Vec):(by_ M x).length = M.length:=by simp [by_]
theorem by_inj {d:Nat} (h4:d≤4) {M:List Vec} (hM:IsMat d M) (hdet:det d M≠0) {x y:Vec} (hx:x.length = d) (hy:y.length = d) (h:by_ M x = by_ M y):x = y:=by
  have F:=(det_full h4 hM.1 hM.2).mp hdet
  have z:=F (at0 (sub x y)) fun r hr=>by
    obtain ⟨m,hm,rfl⟩:=List.mem_map.mp hr
    have:dot m x = dot m y:=by
      obtain ⟨i,hi,rfl⟩:=List.mem_iff_getElem.mp hm
      have:=congrArg (fun l=>l[i]?) h
      simpa [by_,hi] using this
    rw [dotS_comm,dotS_sub hx hy,dotS_comm,← dot_eq (hM.2 m hm) hx,dotS_comm (List.range d) (at0 y),← dot_eq (hM.2 m hm) hy,this]
    omega
  refine ext_at0 (by rw [hx,hy]) fun i hi=>?_
  have:=z i (by rw [hx] at hi;simpa using hi)
  rw [at0_sub hx hy] at this
  omega
theorem plus_cancel {d:Nat} {x y v:Vec} (hx:x.length = d) (hy:y.length = d) (hv:v.length = d) (h:plus x v = plus y v):x = y:=by
  refine ext_at0 (by rw [hx,hy]) fun i hi=>?_
  have:=congrArg (fun l=>at0 l i) h
  rw [at0_plus hx hv,at0_plus hy hv] at this
  omega
theorem map_inj {d:Nat} (h4:d≤4) {M:List Vec} {v:Vec} (hM:IsMat d M) (hdet:(det d M).natAbs = 1) (hv:v.length = d) {x y:Vec} (hx:x.length = d) (hy:y.length = d) (h:plus (by_ M x) v = plus (by_ M y) v):x = y :=
  by_inj h4 hM (fun q=>by rw [q] at hdet;simp at hdet) hx hy (plus_cancel (by rw [by_length,hM.1]) (by rw [by_length,hM.1]) hv h)
theorem mem_tuples {l:List Vec}:∀ {k:Nat} {u:List Vec},u∈tuples l k↔u.length = k∧u.Nodup∧∀ x∈u,x∈l
  | 0,u=>by
    simp only [tuples,List.mem_singleton]
    constructor
    · rintro rfl;simp
    · rintro ⟨h,_⟩;exact len0 h
  | k + 1,u=>by
    simp only [tuples,List.mem_flatMap,List.mem_map,List.mem_filter]
    constructor
    · rintro ⟨t,ht,x,⟨hx,hn⟩,rfl⟩
      obtain ⟨h1,h2,h3⟩:=mem_tuples.mp ht
      have hn:x ∉ t:=by simpa using hn
      refine ⟨by simp [h1],?_,fun y hy=>?_⟩
      · rw [List.nodup_append]
        exact ⟨h2,by simp,fun a ha b hb q=>by
          have:b = x:=by simpa using hb
          rw [q,this] at ha;exact hn ha⟩
      · rcases List.mem_append.mp hy with hy | hy
        · exact h3 y hy
        · have:y = x:=by simpa using hy
          rw [this];exact hx
    · rintro ⟨h1,h2,h3⟩
      have hne:u≠[]:=fun z=>by rw [z] at h1;simp at h1
      have e:u.dropLast ++ [u.getLast hne] = u:=List.dropLast_concat_getLast hne
      have h2':=h2
      rw [← e,List.nodup_append] at h2'
      refine ⟨u.dropLast,mem_tuples.mpr ⟨by rw [List.length_dropLast,h1];rfl,h2'.1,fun x hx=>h3 x ((List.dropLast_sublist u).subset hx)⟩,u.getLast hne,⟨h3 _ (List.getLast_mem hne),?_⟩,e⟩
      have:u.getLast hne ∉ u.dropLast:=fun q=>h2'.2.2 _ q _ (by simp) rfl
      simpa using this
theorem nodup_map {α β:Type} {f:α→β}:∀ {l:List α},(∀ x∈l,∀ y∈l,f x = f y→x = y)→l.Nodup→(l.map f).Nodup
  | [],_,_=>by simp
  | a :: l,h,nd=>by
    obtain ⟨h1,h2⟩:=List.nodup_cons.mp nd
    rw [List.map_cons,List.nodup_cons]
    refine ⟨fun q=>?_,nodup_map (fun x hx y hy=>h x (by simp [hx]) y (by simp [hy])) h2⟩
    obtain ⟨x,hx,e⟩:=List.mem_map.mp q
    have:=h x (by simp [hx]) a (by simp) e
    rw [this] at hx;exact h1 hx
def crNum (d:Nat) (base im:List Vec) (i k:Nat):Int:=det d (base.zipIdx.map fun r=>(r.1.zipIdx.map fun z=>if z.2 = k then at_ (im.getD r.2 []) i else z.1))
theorem lt3 {i d:Nat} (h:i < d) (hd:d≤3):i = 0∨i = 1∨i = 2:=by omega
theorem cramer {d:Nat} (h1:1≤d) (h3:d≤3) {base M:List Vec} (hb:IsMat d base) (hM:IsMat d M) {i k:Nat} (hi:i < d) (hk:k < d):crNum d base (base.map (by_ M)) i k = det d base * at0 (M.getD i []) k:=by
  have:d = 1∨d = 2∨d = 3:=by omega
  rcases this with rfl | rfl | rfl
  · obtain ⟨r,rfl⟩:=len1 hb.1
    obtain ⟨a,rfl⟩:=len1 (hb.2 r (by simp))
    obtain ⟨m,rfl⟩:=len1 hM.1
    obtain ⟨b,rfl⟩:=len1 (hM.2 m (by simp))
    have:i = 0:=by omega
    have:k = 0:=by omega
    subst i k
    simp [crNum,det,by_,dot,Sa83.sum,at_,at0,List.zipIdx]
    grind
  · obtain ⟨r,s,rfl⟩:=len2 hb.1
    obtain ⟨a,b,rfl⟩:=len2 (hb.2 r (by simp))
    obtain ⟨c,e,rfl⟩:=len2 (hb.2 s (by simp))
    obtain ⟨m,n,rfl⟩:=len2 hM.1
    obtain ⟨m0,m1,rfl⟩:=len2 (hM.2 m (by simp))
    obtain ⟨n0,n1,rfl⟩:=len2 (hM.2 n (by simp))
    have hi:i = 0∨i = 1:=by omega
    have hk:k = 0∨k = 1:=by omega
    rcases hi with rfl | rfl <;> rcases hk with rfl | rfl <;> simp [crNum,det,by_,dot,Sa83.sum,at_,at0,List.zipIdx] <;> grind
  · obtain ⟨r,s,t,rfl⟩:=len3 hb.1
    obtain ⟨a,b,c,rfl⟩:=len3 (hb.2 r (by simp))
    obtain ⟨e,f,g,rfl⟩:=len3 (hb.2 s (by simp))
    obtain ⟨p,q,u,rfl⟩:=len3 (hb.2 t (by simp))
    have hl:i < M.length:=by rw [hM.1];exact hi
    have hA:∀ v,at_ (by_ M v) i = dot (M.getD i []) v:=fun v=>by simp [at_,by_,hl]
    obtain ⟨x,y,z,hr⟩:=len3 (show (M.getD i []).length = 3 by
      have:M.getD i [] = M[i]:=by simp [hl]
      rw [this];exact hM.2 _ (List.getElem_mem _))
    have h0:at_ (by_ M [a,b,c]) i = x * a + y * b + z * c:=by rw [hA,hr];simp [dot,Sa83.sum]
    have h1:at_ (by_ M [e,f,g]) i = x * e + y * f + z * g:=by rw [hA,hr];simp [dot,Sa83.sum]
    have h2:at_ (by_ M [p,q,u]) i = x * p + y * q + z * u:=by rw [hA,hr];simp [dot,Sa83.sum]
    rw [hr]
    simp only [crNum,List.map_cons,List.map_nil]
    rcases lt3 hk (by omega) with rfl | rfl | rfl <;> simp [det,Sa83.sum,at0,List.zipIdx,h0,h1,h2] <;> clear h0 h1 h2 hr hA hl hM hb <;> grind
end WP
namespace WP
open Sx38 Sa83
theorem baseP_sub:∀ (cs base:List Vec),∃ s,baseP base cs = base ++ s∧List.Sublist s cs
  | [],base=>⟨[],by simp [baseP],.slnil⟩
  | c :: cs,base=>by
    unfold baseP
    split
    · obtain ⟨s,e,h⟩:=baseP_sub cs (base ++ [c])
      exact ⟨c :: s,by rw [e];simp,h.cons_cons c⟩
    · obtain ⟨s,e,h⟩:=baseP_sub cs base
      exact ⟨s,e,h.cons c⟩
theorem mat_eq {d:Nat} {M:List Vec} (hM:IsMat d M):(List.range d).map (fun i=>(List.range d).map fun k=>at0 (M.getD i []) k) = M:=by
  apply List.ext_getElem?
  intro i
  by_cases h:i < d
  · have hl:i < M.length:=by rw [hM.1];exact h
    have e:M.getD i [] = M[i]:=by simp [List.getD,hl]
    have hr:=hM.2 M[i] (List.getElem_mem _)
    rw [List.getElem?_map,List.getElem?_range h,List.getElem?_eq_getElem hl]
    show some _ = some _
    congr 1
    show (List.range d).map (fun k=>at0 (M.getD i []) k) = M[i]
    rw [e]
    exact map_at _ _ hr
  · rw [List.getElem?_eq_none (by simp;omega),List.getElem?_eq_none (by rw [hM.1];omega)]
noncomputable def tryU (d:Nat) (cb cc t u:List Vec):Option (List Int) :=
  let base:=(t.drop 1).map fun x=>sub x (t.headD [])
  let D:=det d base
  let im:=(u.drop 1).map fun x=>sub x (u.headD [])
  let m:=(List.range d).map fun i=>(List.range d).map fun k=>crNum d base im i k
  if m.any (fun r=>r.any fun z=>z % D != 0) then none else
    let m:=m.map fun r=>r.map fun z=>z / D
    let v:=sub (u.headD []) (by_ m (t.headD []))
    if (det d m).natAbs = 1∧cb.length = cc.length∧(cb.all fun x=>cc.contains (plus (by_ m x) v)) = true then some (squareTold m v) else none
theorem alikes_eq (d:Nat) (b c:List Vec):alikes d b c = match (choose_ (cornersOf d b).eraseDups (d + 1)).find? fun t=>det d ((t.drop 1).map fun x=>sub x (t.headD [])) != 0 with
    | none=>[]
    | some t=>(tuples (cornersOf d c).eraseDups (d + 1)).filterMap (tryU d (cornersOf d b).eraseDups (cornersOf d c).eraseDups t):=rfl
section
variable {d:Nat} (h1:1≤d) (h3:d≤3)
theorem sub_by {d:Nat} {M:List Vec} {v x y:Vec} (hM:IsMat d M) (hv:v.length = d) (hx:x.length = d) (hy:y.length = d):sub (plus (by_ M x) v) (plus (by_ M y) v) = by_ M (sub x y):=by
  have l1:(by_ M x).length = d:=by rw [by_length,hM.1]
  have l2:(by_ M y).length = d:=by rw [by_length,hM.1]
  refine ext_at0 (by rw [sub_length (plus_length l1 hv) (plus_length l2 hv),by_length,hM.1]) fun i hi=>?_
  have hi:i < d:=by rw [sub_length (plus_length l1 hv) (plus_length l2 hv)] at hi;exact hi
  rw [at0_sub (plus_length l1 hv) (plus_length l2 hv),at0_plus l1 hv,at0_plus l2 hv]
  have hl:i < M.length:=by rw [hM.1];exact hi
  have e:∀ z:Vec,at0 (by_ M z) i = dot M[i] z:=fun z=>by simp [at0,by_,hl]
  rw [e,e,e]
  have hr:=hM.2 M[i] (List.getElem_mem _)
  rw [dot_eq hr (sub_length hx hy),dotS_comm,dotS_sub hx hy,dotS_comm,← dot_eq hr hx,dotS_comm (List.range d) (at0 y),← dot_eq hr hy]
  omega
theorem tryU_some (h1:1≤d) (h3:d≤3) {cb cc:List Vec} {t0:Vec} {ts:List Vec} (ht:∀ x∈t0 :: ts,x.length = d) (hts:ts.length = d) (hdet:det d (ts.map fun x=>sub x t0)≠0) {M:List Vec} {v:Vec} (P:MapP d cb cc M v) :
    tryU d cb cc (t0 :: ts) ((t0 :: ts).map fun x=>plus (by_ M x) v) = some (squareTold M v):=by
  have hM:=P.sq
  have lt0:=ht t0 (by simp)
  have hb:IsMat d (ts.map fun x=>sub x t0):=⟨by simpa using hts,fun r hr=>by
    obtain ⟨x,hx,rfl⟩:=List.mem_map.mp hr
    exact sub_length (ht x (by simp [hx])) lt0⟩
  have him:((ts.map fun x=>plus (by_ M x) v).map fun x=>sub x (plus (by_ M t0) v)) = (ts.map fun x=>sub x t0).map (by_ M):=by
    rw [List.map_map,List.map_map]
    exact List.map_congr_left fun x hx=>sub_by hM P.lv (ht x (by simp [hx])) lt0
  unfold tryU
  simp only [List.map_cons,List.drop_succ_cons,List.drop_zero,List.headD_cons]
  rw [him]
  have em:((List.range d).map fun i=>(List.range d).map fun k=>crNum d (ts.map fun x=>sub x t0) ((ts.map fun x=>sub x t0).map (by_ M)) i k) = (List.range d).map fun i=>(List.range d).map fun k=>det d (ts.map fun x=>sub x t0) * at0 (M.getD i []) k :=
    List.map_congr_left fun i hi=>List.map_congr_left fun k hk=>cramer h1 h3 hb hM (by simpa using hi) (by simpa using hk)
  rw [em]
  generalize det d (ts.map fun x=>sub x t0) = D at hdet
  have any0:(((List.range d).map fun i=>(List.range d).map fun k=>D * at0 (M.getD i []) k).any fun r=>r.any fun z=>z % D != 0) = false:=by
    rw [Bool.eq_false_iff]
    intro q
    obtain ⟨r,hr,q⟩:=List.any_eq_true.mp q
    obtain ⟨z,hz,q⟩:=List.any_eq_true.mp q
    obtain ⟨i,_,rfl⟩:=List.mem_map.mp hr
    obtain ⟨k,_,rfl⟩:=List.mem_map.mp hz
    simp at q
  rw [if_neg (by rw [any0];simp)]
  have ediv:(((List.range d).map fun i=>(List.range d).map fun k=>D * at0 (M.getD i []) k).map fun r=>r.map fun z=>z / D) = M:=by
    rw [List.map_map]
    conv=>rhs;rw [← mat_eq hM]
    refine List.map_congr_left fun i _=>?_
    show (((List.range d).map fun k=>D * at0 (M.getD i []) k).map fun z=>z / D) = _
    rw [List.map_map]
    exact List.map_congr_left fun k _=>by
      show D * at0 (M.getD i []) k / D = _
      rw [Int.mul_ediv_cancel_left _ hdet]
  rw [ediv]
  have ev:sub (plus (by_ M t0) v) (by_ M t0) = v:=sub_plus (by rw [by_length,hM.1]) P.lv
  rw [ev,if_pos ⟨P.one,P.len,List.all_eq_true.mpr fun x hx=>by simpa using P.takes x hx⟩]
theorem tryU_sound (h1:1≤d) {cb cc t u:List Vec} (ht:(t.headD []).length = d) (hu:(u.headD []).length = d) {x:List Int} (h:tryU d cb cc t u = some x):∃ M v,MapP d cb cc M v∧x = squareTold M v:=by
  unfold tryU at h
  simp only at h
  split at h
  · cases h
  · split at h
    · rename_i g
      refine ⟨_,_,⟨⟨by simp,fun r hr=>?_⟩,g.1,?_,g.2.1,fun y hy=>?_⟩,(Option.some.inj h).symm⟩
      · obtain ⟨s,hs,rfl⟩:=List.mem_map.mp hr
        obtain ⟨i,_,rfl⟩:=List.mem_map.mp hs
        simp
      · exact sub_length hu (by rw [by_length];simp)
      · have:=List.all_eq_true.mp g.2.2 y hy
        simpa using this
    · cases h
theorem corner_iff (h1:1≤d) (h4:d≤4) {L:List Vec} (hL:∀ x∈L,x.length = d) (R:RoomP d L) {S:List (Vec × Int)} (hS:SidesAre d L S) (x:Vec):rankOf (meets S x) = d↔CornerP d L x:=by
  have hl:∀ r∈meets S x,r.length = d:=fun r hr=>by
    obtain ⟨s,hs,rfl⟩:=List.mem_map.mp hr
    exact ((hS s.1 s.2).mp (List.mem_filter.mp hs).1).len
  rw [rankOf_full hl]
  constructor
  · intro F v hv i hi
    refine F v (fun r hr=>?_) i (by simpa using hi)
    obtain ⟨a,ha,rfl⟩:=List.mem_map.mp hr
    obtain ⟨s,hs,rfl⟩:=List.mem_map.mp ha
    obtain ⟨h1,h2⟩:=List.mem_filter.mp hs
    exact hv s.1 s.2 ((hS s.1 s.2).mp h1) (by simpa using h2)
  · intro C v hv i hi
    refine C v (fun a e s ht=>?_) i (by simpa using hi)
    exact hv (at0 a) (List.mem_map.mpr ⟨a,List.mem_map.mpr ⟨(a,e),List.mem_filter.mpr ⟨(hS a e).mpr s,by simpa using ht⟩,rfl⟩,rfl⟩)
theorem mem_cornersOf (h1:1≤d) (h4:d≤4) {L:List Vec} (hL:∀ x∈L,x.length = d) (R:RoomP d L) {x:Vec}:x∈cornersOf d L↔x∈L∧CornerP d L x:=by
  have hm:SidesAre d L (sidesOf d L):=fun a e=>by
    rw [mem_sidesOf h1 h4 hL]
    exact ⟨fun h=>h.1,fun h=>⟨h,room_strict hL R h⟩⟩
  unfold cornersOf
  simp only [List.mem_filter,beq_iff_eq]
  have e4:((sidesOf d L).filter fun y=>dot y.1 x == y.2).map (fun y=>y.1) = meets (sidesOf d L) x:=by
    unfold meets
    congr 1
  rw [e4,spec_rank h1 h4 (by
    intro r hr
    obtain ⟨⟨a,e⟩,hs,rfl⟩:=List.mem_map.mp hr
    exact ((hm a e).mp (List.mem_filter.mp hs).1).len),corner_iff h1 h4 hL R hm]
theorem mem_alikes (h1:1≤d) (h3:d≤3) {b c:List Vec} (hb:∀ x∈b,x.length = d) (hc:∀ x∈c,x.length = d) (b0:b≠[]) (Rb:RoomP d b) {x:List Int} :
    x∈alikes d b c↔∃ M v,MapP d (cornersOf d b).eraseDups (cornersOf d c).eraseDups M v∧x = squareTold M v:=by
  have mb:∀ y,y∈(cornersOf d b).eraseDups↔y∈cornersOf d b:=fun y=>by simp
  have mc:∀ y,y∈(cornersOf d c).eraseDups↔y∈cornersOf d c:=fun y=>by simp
  have lb:∀ y∈(cornersOf d b).eraseDups,y.length = d:=fun y hy=>hb y ((List.mem_filter.mp ((mb y).mp hy)).1)
  have lc:∀ y∈(cornersOf d c).eraseDups,y.length = d:=fun y hy=>hc y ((List.mem_filter.mp ((mc y).mp hy)).1)
  have nb:(cornersOf d b).eraseDups.Nodup:=nodup_eraseDups _ _ (Nat.le_refl _)
  have Rc:RoomP d (cornersOf d b).eraseDups:=corners_room h1 (by omega) hb b0 Rb fun y=>by rw [mb,mem_cornersOf h1 (by omega) hb Rb]
  have ne:(cornersOf d b).eraseDups≠[]:=fun z=>by
    have:=Rc (fun _=>1) 0 (by rw [z];intro x hx;simp at hx) 0 (by omega)
    simp at this
  rw [alikes_eq]
  generalize (cornersOf d b).eraseDups = cb at *
  generalize (cornersOf d c).eraseDups = cc at *
  obtain ⟨hlen,hrk,hsub⟩:=base_ok lb ne Rc
  obtain ⟨s,es,ss⟩:=baseP_sub cb []
  have es:baseP [] cb = s:=by simpa using es
  cases hf:(choose_ cb (d + 1)).find? fun t=>det d ((t.drop 1).map fun x=>sub x (t.headD [])) != 0 with
  | none =>
    exfalso
    have nope:=List.find?_eq_none.mp hf (baseP [] cb) (mem_choose.mpr ⟨by rw [es];exact ss,hlen⟩)
    obtain ⟨t0,ts,e,hts⟩:=len_succ hlen
    rw [e] at nope hrk hsub
    have yes:=base_det h1 (by omega) (fun y hy=>lb y (hsub y hy)) hts hrk
    have nope:¬ (det d (ts.map fun x=>sub x t0) != 0) = true:=nope
    exact nope (by simpa using yes)
  | some t =>
    obtain ⟨tsub,tlen⟩:=mem_choose.mp (List.mem_of_find?_eq_some hf)
    have tdet:=List.find?_some hf
    have tl:∀ y∈t,y.length = d:=fun y hy=>lb y (tsub.subset hy)
    obtain ⟨t0,ts,rfl,hts⟩:=len_succ tlen
    have tdet:det d (ts.map fun x=>sub x t0)≠0:=by simpa using tdet
    simp only [List.mem_filterMap]
    constructor
    · rintro ⟨u,hu,h⟩
      obtain ⟨ul,_,um⟩:=mem_tuples.mp hu
      obtain ⟨u0,us,rfl,_⟩:=len_succ ul
      exact tryU_sound (t:=t0 :: ts) (u:=u0 :: us) h1 (tl t0 (by simp)) (lc u0 (um u0 (by simp))) h
    · rintro ⟨M,v,P,rfl⟩
      refine ⟨(t0 :: ts).map fun x=>plus (by_ M x) v,mem_tuples.mpr ⟨by rw [List.length_map];exact tlen,?_,fun y hy=>?_⟩,tryU_some h1 h3 tl hts tdet P⟩
      · exact nodup_map (fun x hx y hy e=>map_inj (by omega) P.sq P.one P.lv (tl x hx) (tl y hy) e) (tsub.nodup nb)
      · obtain ⟨x,hx,rfl⟩:=List.mem_map.mp hy
        exact P.takes x (tsub.subset hx)
theorem insert_head {x:List Int} {s:List (List Int)} (h:∀ y r,s = y :: r→∀ z∈s,before z y = false):∀ y r,insert_ x s = y :: r→∀ z∈insert_ x s,before z y = false:=by
  intro y r e z hz
  cases s with
  | nil =>
    have:insert_ x [] = [x]:=rfl
    rw [this] at e hz
    have e1:x = y:=by simpa using (List.cons.inj e).1
    have e2:z = x:=by simpa using hz
    rw [e2,e1,before_irrefl]
  | cons w s =>
    have hw:=h w s rfl
    unfold insert_ at e hz
    by_cases q:before x w = true
    · rw [if_pos q] at e hz
      have e1:=(List.cons.inj e).1
      subst e1
      rcases List.mem_cons.mp hz with rfl | hz
      · exact before_irrefl _
      · have:=hw z hz
        refine Bool.eq_false_iff.mpr fun t=>?_
        have:=before_trans t q
        rw [hw z hz] at this;cases this
    · rw [if_neg q] at e hz
      have e1:=(List.cons.inj e).1
      subst e1
      rcases List.mem_cons.mp hz with rfl | hz
      · exact before_irrefl _
      · rcases mem_insert.mp hz with rfl | hz
        · simpa using q
        · exact hw z (by simp [hz])
theorem sorted_mem (l:List (List Int)):∀ s:List (List Int),(∀ y,y∈l.foldl (fun s x=>insert_ x s) s↔y∈l∨y∈s)∧((∀ y r,s = y :: r→∀ z∈s,before z y = false)→∀ y r,l.foldl (fun s x=>insert_ x s) s = y :: r→∀ z∈l.foldl (fun s x=>insert_ x s) s,before z y = false):=by
  induction l with
  | nil=>intro s;exact ⟨fun y=>by simp,fun h=>h⟩
  | cons a l ih =>
    intro s
    obtain ⟨i1,i2⟩:=ih (insert_ a s)
    rw [List.foldl_cons]
    refine ⟨fun y=>?_,fun h=>i2 (insert_head h)⟩
    rw [i1,mem_insert]
    simp only [List.mem_cons]
    constructor
    · rintro (h | h | h) <;> simp [h]
    · rintro ((h | h) | h) <;> simp [h]
theorem sorted_first {k:Nat} {l:List (List Int)} (hl:∀ x∈l,x.length = k) {x:List Int} (hx:x∈l) (hm:∀ y∈l,before y x = false):∃ r,sorted l = x :: r:=by
  obtain ⟨i1,i2⟩:=sorted_mem l []
  have mem:∀ y,y∈sorted l↔y∈l:=fun y=>by
    have:=i1 y
    unfold sorted
    rw [this];simp
  cases e:sorted l with
  | nil=>have:=(mem x).mpr hx;rw [e] at this;simp at this
  | cons y r =>
    have hy:y∈l:=(mem y).mp (by rw [e];simp)
    have h2:=i2 (fun y r q=>by cases q) y r e x (by show x∈sorted l;exact (mem x).mpr hx)
    have h3:=hm y hy
    have:x = y:=before_total (by rw [hl x hx,hl y hy]) h2 h3
    exact ⟨r,by rw [this]⟩
theorem sorted_nil:sorted [] = []:=rfl
end
end WP
namespace WP
open Sx38 Sa83
theorem before_cat:∀ (a b x y:List Int),a.length = b.length→before (a ++ x) (b ++ y) = if a = b then before x y else before a b
  | [],[],x,y,_=>by simp
  | p :: a,q :: b,x,y,h=>by
    have ih:=before_cat a b x y (by simpa using h)
    simp only [List.cons_append,before,ih]
    by_cases e:p = q
    · subst e
      by_cases f:a = b
      · simp [f]
      · simp [f]
    · have e':(p == q) = false:=by simpa using e
      simp [e,e']
def pad (r:Vec):Vec:=(r ++ List.replicate 4 0).take 4
theorem pad_length (r:Vec):(pad r).length = 4:=by simp [pad]
theorem pad_eq {r:Vec} (h:r.length≤4):pad r = r ++ List.replicate (4 - r.length) 0:=by
  unfold pad
  rw [List.take_append,List.take_of_length_le h,List.take_replicate]
  congr 2;omega
theorem pad_inj {d:Nat} (hd:d≤4) {r s:Vec} (hr:r.length = d) (hs:s.length = d):pad r = pad s↔r = s:=by
  rw [pad_eq (by omega),pad_eq (by omega)]
  constructor
  · intro h
    exact (List.append_inj h (by rw [hr,hs])).1
  · rintro rfl;rfl
theorem pad_before {d:Nat} (hd:d≤4) {r s:Vec} (hr:r.length = d) (hs:s.length = d):before (pad r) (pad s) = before r s:=by
  rw [pad_eq (by omega),pad_eq (by omega),before_cat _ _ _ _ (by rw [hr,hs]),hr,hs]
  by_cases e:r = s
  · rw [if_pos e,e,before_irrefl,before_irrefl]
  · rw [if_neg e]
def matLt:List Vec→List Vec→Bool
  | r :: M,s :: N=>if r = s then matLt M N else before r s
  | _,_=>false
def nestLt (p q:List Vec × Vec):Bool:=if p.1 = q.1 then before p.2 q.2 else matLt p.1 q.1
theorem told_eq (M:List Vec) (v:Vec):squareTold M v = pad (M.getD 0 []) ++ (pad (M.getD 1 []) ++ (pad (M.getD 2 []) ++ (pad (M.getD 3 []) ++ pad v))):=by
  unfold squareTold pad
  simp [List.range_succ]
theorem told_length (M:List Vec) (v:Vec):(squareTold M v).length = 20:=by
  rw [told_eq]
  simp [pad_length]
theorem blk {d:Nat} (hd:d≤4) {r s x y:Vec} (hr:r.length = d) (hs:s.length = d):before (pad r ++ x) (pad s ++ y) = if r = s then before x y else before r s:=by
  rw [before_cat _ _ _ _ (by rw [pad_length,pad_length]),pad_before hd hr hs]
  by_cases e:r = s
  · rw [if_pos e,if_pos ((pad_inj hd hr hs).mpr e)]
  · rw [if_neg e,if_neg (fun q=>e ((pad_inj hd hr hs).mp q))]
theorem blk0 {x y:Vec}:before (pad [] ++ x) (pad [] ++ y) = before x y:=by
  rw [blk (d:=0) (by decide) rfl rfl,if_pos rfl]
theorem told_before {d:Nat} (h1:1≤d) (h3:d≤3) {M N:List Vec} {v u:Vec} (hM:IsMat d M) (hN:IsMat d N) (hv:v.length = d) (hu:u.length = d):before (squareTold M v) (squareTold N u) = nestLt (M,v) (N,u):=by
  rw [told_eq,told_eq]
  have:d = 1∨d = 2∨d = 3:=by omega
  rcases this with rfl | rfl | rfl
  · obtain ⟨r,rfl⟩:=len1 hM.1
    obtain ⟨s,rfl⟩:=len1 hN.1
    show before (pad r ++ (pad [] ++ (pad [] ++ (pad [] ++ pad v)))) (pad s ++ (pad [] ++ (pad [] ++ (pad [] ++ pad u)))) = _
    rw [blk (by decide) (hM.2 r (by simp)) (hN.2 s (by simp)),blk0,blk0,blk0,pad_before (by decide) hv hu]
    by_cases e:r = s
    · simp [nestLt,e]
    · simp [nestLt,matLt,e]
  · obtain ⟨r,r2,rfl⟩:=len2 hM.1
    obtain ⟨s,s2,rfl⟩:=len2 hN.1
    show before (pad r ++ (pad r2 ++ (pad [] ++ (pad [] ++ pad v)))) (pad s ++ (pad s2 ++ (pad [] ++ (pad [] ++ pad u)))) = _
    rw [blk (by decide) (hM.2 r (by simp)) (hN.2 s (by simp)),blk (by decide) (hM.2 r2 (by simp)) (hN.2 s2 (by simp)),blk0,blk0,pad_before (by decide) hv hu]
    by_cases e:r = s
    · by_cases e2:r2 = s2
      · simp [nestLt,e,e2]
      · simp [nestLt,matLt,e,e2]
    · simp [nestLt,matLt,e]
  · obtain ⟨r,r2,r3,rfl⟩:=len3 hM.1
    obtain ⟨s,s2,s3,rfl⟩:=len3 hN.1
    show before (pad r ++ (pad r2 ++ (pad r3 ++ (pad [] ++ pad v)))) (pad s ++ (pad s2 ++ (pad s3 ++ (pad [] ++ pad u)))) = _
    rw [blk (by decide) (hM.2 r (by simp)) (hN.2 s (by simp)),blk (by decide) (hM.2 r2 (by simp)) (hN.2 s2 (by simp)),blk (by decide) (hM.2 r3 (by simp)) (hN.2 s3 (by simp)),blk0,pad_before (by decide) hv hu]
    by_cases e:r = s
    · by_cases e2:r2 = s2
      · by_cases e3:r3 = s3
        · simp [nestLt,e,e2,e3]
        · simp [nestLt,matLt,e,e2,e3]
      · simp [nestLt,matLt,e,e2]
    · simp [nestLt,matLt,e]
theorem alike_eq (b c:List Int):PySx38.er_alike b c = (does (.alike (Sx38Neutral.bodyOf b) (Sx38Neutral.bodyOf c))).v :: (does (.alike (Sx38Neutral.bodyOf b) (Sx38Neutral.bodyOf c))).l:=rfl
theorem alike_bad {b c:List Int} (hb:Sx38Neutral.told b = true) (hc:Sx38Neutral.told c = true) (h:¬ (okB b∧okB c)):PySx38.er_alike b c = [-2]:=by
  rw [alike_eq]
  have:good (Sx38Neutral.bodyOf b) = false∨good (Sx38Neutral.bodyOf c) = false:=by
    by_cases o:okB b
    · exact .inr (not_good hc fun q=>h ⟨o,q⟩)
    · exact .inl (not_good hb o)
  simp only [does,ok]
  rw [if_pos this]
theorem bodyD (b:List Int):(Sx38Neutral.bodyOf b).d = b.getD 0 0:=rfl
theorem alike_diff {b c:List Int} (hb:Sx38Neutral.told b = true) (hc:Sx38Neutral.told c = true) (ob:okB b) (oc:okB c) (h:bD b≠bD c):PySx38.er_alike b c = [0]:=by
  rw [alike_eq]
  have gb:good (Sx38Neutral.bodyOf b) = true:=(good_iff hb).mpr ob
  have gc:good (Sx38Neutral.bodyOf c) = true:=(good_iff hc).mpr oc
  simp only [does,ok,gb,gc]
  have d1:=ob.1.d1
  have d2:=oc.1.d1
  have:(Sx38Neutral.bodyOf b).d≠(Sx38Neutral.bodyOf c).d:=fun q=>by
    rw [bodyD,bodyD] at q
    unfold bD at h
    rw [q] at h
    exact h rfl
  rw [if_neg (by simp),if_pos this]
theorem perm_of {α:Type} [DecidableEq α] {l m:List α} (hl:l.Nodup) (hm:m.Nodup) (h:∀ x,x∈l↔x∈m):l.Perm m:=(List.perm_ext_iff_of_nodup hl hm).mpr h
theorem MapP.congr {d:Nat} {cb cc C G:List Vec} (nb:cb.Nodup) (nc:cc.Nodup) (nC:C.Nodup) (nG:G.Nodup) (hC:∀ x,x∈C↔x∈cb) (hG:∀ x,x∈G↔x∈cc) {M:List Vec} {v:Vec}:MapP d C G M v↔MapP d cb cc M v:=by
  have e1:=(perm_of nC nb hC).length_eq
  have e2:=(perm_of nG nc hG).length_eq
  constructor
  · intro P
    exact ⟨P.sq,P.one,P.lv,by rw [← e1,← e2];exact P.len,fun x hx=>(hG _).mp (P.takes x ((hC x).mpr hx))⟩
  · intro P
    exact ⟨P.sq,P.one,P.lv,by rw [e1,e2];exact P.len,fun x hx=>(hG _).mpr (P.takes x ((hC x).mp hx))⟩
theorem alike_good {b c:List Int} (hb:Sx38Neutral.told b = true) (hc:Sx38Neutral.told c = true) (ob:okB b) (oc:okB c) (hd:bD b = bD c) (h3:bD b≤3) {C G:List Vec} (nC:C.Nodup) (nG:G.Nodup)
    (hC:∀ x,x∈C↔x∈pts b∧CornerP (bD b) (pts b) x) (hG:∀ x,x∈G↔x∈pts c∧CornerP (bD b) (pts c) x) :
    ((∀ M v,¬ MapP (bD b) C G M v)→PySx38.er_alike b c = [0]) ∧
    ∀ M v,MapP (bD b) C G M v→(∀ N u,MapP (bD b) C G N u→nestLt (N,u) (M,v) = false)→PySx38.er_alike b c = 1 :: squareTold M v:=by
  have gb:good (Sx38Neutral.bodyOf b) = true:=(good_iff hb).mpr ob
  have gc:good (Sx38Neutral.bodyOf c) = true:=(good_iff hc).mpr oc
  have d1:=ob.1.d1
  have hbl:=pts_len ob.1
  have hcl:∀ x∈pts c,x.length = bD b:=fun x hx=>by rw [hd];exact pts_len oc.1 x hx
  have Rb:=okB_room ob
  have Rc:RoomP (bD b) (pts c):=by rw [hd];exact okB_room oc
  have key:∀ x,x∈alikes (bD b) (pts b) (pts c)↔∃ M v,MapP (bD b) C G M v∧x = squareTold M v:=fun x=>by
    rw [mem_alikes d1 h3 hbl hcl (pts_ne ob.1) Rb]
    have cg:∀ {M v},MapP (bD b) C G M v↔MapP (bD b) (cornersOf (bD b) (pts b)).eraseDups (cornersOf (bD b) (pts c)).eraseDups M v:=fun {M v} =>
      MapP.congr (nodup_eraseDups _ _ (Nat.le_refl _)) (nodup_eraseDups _ _ (Nat.le_refl _)) nC nG
        (fun x=>by rw [hC,List.mem_eraseDups,mem_cornersOf d1 (by omega) hbl Rb]) (fun x=>by rw [hG,List.mem_eraseDups,mem_cornersOf d1 (by omega) hcl Rc])
    constructor
    · rintro ⟨M,v,P,e⟩;exact ⟨M,v,cg.mpr P,e⟩
    · rintro ⟨M,v,P,e⟩;exact ⟨M,v,cg.mp P,e⟩
  have same:¬ (Sx38Neutral.bodyOf b).d≠(Sx38Neutral.bodyOf c).d:=fun q=>q (by
    rw [bodyD,bodyD]
    have h1:=ob.1.d1
    have h2:=oc.1.d1
    unfold bD at hd h1 h2
    omega)
  have e3:(Sx38Neutral.bodyOf b).dim = bD b:=rfl
  have start:PySx38.er_alike b c = (match sorted (alikes (bD b) (pts b) (pts c)) with
      | x :: _=>(⟨1,x⟩:Ans)
      | []=>Sa83.ok 0).v :: (match sorted (alikes (bD b) (pts b) (pts c)) with
      | x :: _=>(⟨1,x⟩:Ans)
      | []=>Sa83.ok 0).l:=by
    rw [alike_eq]
    simp only [does,gb,gc,points_eq ob.1,points_eq oc.1,e3]
    rw [if_neg (by simp),if_neg same]
    cases sorted (alikes (bD b) (pts b) (pts c)) <;> rfl
  rw [start]
  constructor
  · intro none
    have:alikes (bD b) (pts b) (pts c) = []:=List.eq_nil_iff_forall_not_mem.mpr fun x hx=>by
      obtain ⟨M,v,P,_⟩:=(key x).mp hx
      exact none M v P
    rw [this,sorted_nil]
    rfl
  · intro M v P hmin
    obtain ⟨r,e⟩:=sorted_first (k:=20) (l:=alikes (bD b) (pts b) (pts c)) (fun x hx=>by
        obtain ⟨N,u,_,rfl⟩:=(key x).mp hx
        exact told_length N u) ((key _).mpr ⟨M,v,P,rfl⟩) (fun y hy=>by
        obtain ⟨N,u,Q,rfl⟩:=(key y).mp hy
        rw [told_before d1 h3 Q.sq P.sq Q.lv P.lv]
        exact hmin N u Q)
    rw [e]
end WP
namespace WP
open Sx38 Sa83
noncomputable def cof (n:Nat) (rows:List Vec) (p c:Nat):Int:=(if (p + c) % 2 = 1 then -1 else 1) * det (n - 1) ((rows.eraseIdx p).map fun r=>r.eraseIdx c)
def adjM (n:Nat) (rows:List Vec):List Vec:=(List.range n).map fun c=>(List.range n).map fun p=>cof n rows p c
theorem laplace1 {d:Nat} (h1:1≤d) (h3:d≤3) {base im:List Vec} (hb:IsMat d base) (hM:IsMat d im) {i k:Nat} (hi:i < d) (hk:k < d):dot ((List.range d).map fun p=>cof d base p k) (im.map fun w=>at0 w i) = crNum d base im i k:=by
  have:d = 1∨d = 2∨d = 3:=by omega
  rcases this with rfl | rfl | rfl
  · obtain ⟨r,rfl⟩:=len1 hb.1
    obtain ⟨a,rfl⟩:=len1 (hb.2 r (by simp))
    obtain ⟨m,rfl⟩:=len1 hM.1
    obtain ⟨b,rfl⟩:=len1 (hM.2 m (by simp))
    have:i = 0:=by omega
    have:k = 0:=by omega
    subst i k
    simp [cof,crNum,det,dot,Sa83.sum,at_,at0,List.zipIdx,List.range,List.range.loop]
  · obtain ⟨r,s,rfl⟩:=len2 hb.1
    obtain ⟨a,b,rfl⟩:=len2 (hb.2 r (by simp))
    obtain ⟨c,e,rfl⟩:=len2 (hb.2 s (by simp))
    obtain ⟨m,n,rfl⟩:=len2 hM.1
    obtain ⟨m0,m1,rfl⟩:=len2 (hM.2 m (by simp))
    obtain ⟨n0,n1,rfl⟩:=len2 (hM.2 n (by simp))
    have hi:i = 0∨i = 1:=by omega
    have hk:k = 0∨k = 1:=by omega
    rcases hi with rfl | rfl <;> rcases hk with rfl | rfl <;> simp [cof,crNum,det,dot,Sa83.sum,at_,at0,List.zipIdx,List.range,List.range.loop,List.eraseIdx] <;> grind
  · obtain ⟨r,s,t,rfl⟩:=len3 hb.1
    obtain ⟨a,b,c,rfl⟩:=len3 (hb.2 r (by simp))
    obtain ⟨e,f,g,rfl⟩:=len3 (hb.2 s (by simp))
    obtain ⟨p,q,u,rfl⟩:=len3 (hb.2 t (by simp))
    obtain ⟨m,n,o,rfl⟩:=len3 hM.1
    have h0:at_ m i = at0 m i:=rfl
    have h1:at_ n i = at0 n i:=rfl
    have h2:at_ o i = at0 o i:=rfl
    clear hM hb
    simp only [List.map_cons,List.map_nil]
    generalize at0 m i = x at h0 ⊢
    generalize at0 n i = y at h1 ⊢
    generalize at0 o i = z at h2 ⊢
    rcases lt3 hk (by omega) with rfl | rfl | rfl <;> simp [cof,crNum,det,dot,Sa83.sum,List.zipIdx,List.range,List.range.loop,List.eraseIdx,h0,h1,h2] <;> clear h0 h1 h2 <;> grind
def numR (d:Nat) (base im:List Vec) (i:Nat):Vec:=(List.range d).map fun k=>crNum d base im i k
theorem laplace {d:Nat} (h1:1≤d) (h3:d≤3) {base im:List Vec} (hb:IsMat d base) (hM:IsMat d im) {i:Nat} (hi:i < d):by_ (adjM d base) (im.map fun w=>at0 w i) = numR d base im i:=by
  unfold by_ adjM numR
  rw [List.map_map]
  exact List.map_congr_left fun k hk=>laplace1 h1 h3 hb hM hi (by simpa using hk)
def sqOk (d:Nat) (base im:List Vec) (i:Nat):Bool:=!((numR d base im i).any fun z=>z % det d base != 0)
def sqRow (d:Nat) (base im:List Vec) (i:Nat):Vec:=(numR d base im i).map fun z=>z / det d base
def sqP (d:Nat) (base im:List Vec):List Vec:=if (List.range d).all (sqOk d base im) = true then (List.range d).map (sqRow d base im) else []
def waysP (t:List Vec):List Vec:=(t.drop 1).map fun x=>sub x (t.headD [])
noncomputable def vP (M t u:List Vec):Vec:=sub (u.headD []) (by_ M (t.headD []))
noncomputable def tryM (d:Nat) (cb cc t u:List Vec):Option (List Vec × Vec) :=
  if sqP d (waysP t) (waysP u)≠[]∧(det d (sqP d (waysP t) (waysP u))).natAbs = 1∧cb.length = cc.length∧(∀ x∈cb,plus (by_ (sqP d (waysP t) (waysP u)) x) (vP (sqP d (waysP t) (waysP u)) t u)∈cc) then some (sqP d (waysP t) (waysP u),vP (sqP d (waysP t) (waysP u)) t u) else none
theorem sqP_mat {d:Nat} {base im:List Vec} (h:sqP d base im≠[]):IsMat d (sqP d base im):=by
  unfold sqP at h ⊢
  split at h
  · rename_i q
    rw [if_pos q]
    refine ⟨by simp,fun r hr=>?_⟩
    obtain ⟨i,_,rfl⟩:=List.mem_map.mp hr
    simp [sqRow,numR]
  · exact absurd rfl h
section
variable {d:Nat}
theorem tryM_some (h1:1≤d) (h3:d≤3) {cb cc:List Vec} {t0:Vec} {ts:List Vec} (ht:∀ x∈t0 :: ts,x.length = d) (hts:ts.length = d) (hdet:det d (ts.map fun x=>sub x t0)≠0) {M:List Vec} {v:Vec} (P:MapP d cb cc M v) :
    tryM d cb cc (t0 :: ts) ((t0 :: ts).map fun x=>plus (by_ M x) v) = some (M,v):=by
  have hM:=P.sq
  have lt0:=ht t0 (by simp)
  have hb:IsMat d (ts.map fun x=>sub x t0):=⟨by simpa using hts,fun r hr=>by
    obtain ⟨x,hx,rfl⟩:=List.mem_map.mp hr
    exact sub_length (ht x (by simp [hx])) lt0⟩
  have him:waysP ((t0 :: ts).map fun x=>plus (by_ M x) v) = (ts.map fun x=>sub x t0).map (by_ M):=by
    unfold waysP
    simp only [List.map_cons,List.drop_succ_cons,List.drop_zero,List.headD_cons]
    rw [List.map_map,List.map_map]
    exact List.map_congr_left fun x hx=>sub_by hM P.lv (ht x (by simp [hx])) lt0
  have hw:waysP (t0 :: ts) = ts.map fun x=>sub x t0:=rfl
  have em:∀ i,i < d→numR d (ts.map fun x=>sub x t0) ((ts.map fun x=>sub x t0).map (by_ M)) i = (List.range d).map fun k=>det d (ts.map fun x=>sub x t0) * at0 (M.getD i []) k:=fun i hi =>
    List.map_congr_left fun k hk=>cramer h1 h3 hb hM hi (by simpa using hk)
  have eq:sqP d (waysP (t0 :: ts)) (waysP ((t0 :: ts).map fun x=>plus (by_ M x) v)) = M:=by
    rw [him,hw]
    unfold sqP
    rw [if_pos (List.all_eq_true.mpr fun i hi=>?_)]
    · conv=>rhs;rw [← mat_eq hM]
      refine List.map_congr_left fun i hi=>?_
      unfold sqRow
      rw [em i (by simpa using hi),List.map_map]
      exact List.map_congr_left fun k _=>by
        show det d (ts.map fun x=>sub x t0) * at0 (M.getD i []) k / _ = _
        rw [Int.mul_ediv_cancel_left _ hdet]
    · unfold sqOk
      rw [em i (by simpa using hi),Bool.not_eq_true',Bool.eq_false_iff]
      intro q
      obtain ⟨z,hz,q⟩:=List.any_eq_true.mp q
      obtain ⟨k,_,rfl⟩:=List.mem_map.mp hz
      simp at q
  have ev:vP M (t0 :: ts) ((t0 :: ts).map fun x=>plus (by_ M x) v) = v:=sub_plus (by rw [by_length,hM.1]) P.lv
  unfold tryM
  rw [eq,ev,if_pos ⟨fun q=>by have:=hM.1;rw [q] at this;simp at this;omega,P.one,P.len,P.takes⟩]
theorem tryM_sound {cb cc t u:List Vec} (ht:(t.headD []).length = d) (hu:(u.headD []).length = d) {M:List Vec} {v:Vec} (h:tryM d cb cc t u = some (M,v)):MapP d cb cc M v:=by
  unfold tryM at h
  split at h
  · rename_i g
    have e:=Option.some.inj h
    obtain ⟨g1,g2,g3,g4⟩:=g
    have m:=sqP_mat g1
    injection e with e1 e2
    rw [e1] at g2 g4 m e2
    rw [e2] at g4
    exact ⟨m,g2,by rw [← e2];exact sub_length hu (by rw [by_length,m.1]),g3,g4⟩
  · cases h
theorem mem_found (h1:1≤d) (h3:d≤3) {C G:List Vec} {t0:Vec} {ts:List Vec} (hC:∀ x∈C,x.length = d) (hG:∀ x∈G,x.length = d) (hs:∀ x∈t0 :: ts,x∈C) (hts:ts.length = d) (nd:(t0 :: ts).Nodup) (hdet:det d (ts.map fun x=>sub x t0)≠0) {M:List Vec} {v:Vec} :
    (M,v)∈(tuples G (d + 1)).filterMap (tryM d C G (t0 :: ts))↔MapP d C G M v:=by
  have ht:∀ x∈t0 :: ts,x.length = d:=fun x hx=>hC x (hs x hx)
  rw [List.mem_filterMap]
  constructor
  · rintro ⟨u,hu,e⟩
    obtain ⟨u1,u2,u3⟩:=mem_tuples.mp hu
    refine tryM_sound (t:=t0 :: ts) (u:=u) (ht t0 (by simp)) ?_ e
    cases u with
    | nil=>simp at u1
    | cons a u=>exact hG a (u3 a (by simp))
  · intro P
    refine ⟨_,mem_tuples.mpr ⟨by simp [hts],nodup_map (fun x hx y hy q=>map_inj (by omega) P.sq P.one P.lv (ht x hx) (ht y hy) q) nd,fun y hy=>?_⟩,tryM_some h1 h3 ht hts hdet P⟩
    obtain ⟨x,hx,rfl⟩:=List.mem_map.mp hy
    exact P.takes x (hs x hx)
theorem mem_le {α:Type} [DecidableEq α]:∀ {l m:List α},l.Nodup→(∀ x∈l,x∈m)→l.length≤m.length
  | [],_,_,_=>by simp
  | a :: l,m,h,hs=>by
    have ha:=hs a (by simp)
    have h2:=mem_le (l:=l) (m:=m.erase a) (List.nodup_cons.mp h).2 fun x hx=>by
      have hne:x≠a:=fun q=>(List.nodup_cons.mp h).1 (q ▸ hx)
      exact (List.mem_erase_of_ne hne).mpr (hs x (by simp [hx]))
    rw [List.length_erase_of_mem ha] at h2
    have:=List.length_pos_of_mem ha
    rw [List.length_cons];omega
theorem takes_perm {C G:List Vec} {f:Vec→Vec} (nC:C.Nodup) (nG:G.Nodup) (hl:C.length = G.length) (inj:∀ x∈C,∀ y∈C,f x = f y→x = y):(C.map f).Perm G↔∀ x∈C,f x∈G:=by
  constructor
  · intro h x hx
    exact h.mem_iff.mp (List.mem_map.mpr ⟨x,hx,rfl⟩)
  · intro h
    have nd:=nodup_map inj nC
    have sub:∀ y∈C.map f,y∈G:=fun y hy=>by
      obtain ⟨x,hx,rfl⟩:=List.mem_map.mp hy
      exact h x hx
    refine perm_of nd nG fun y=>⟨sub y,fun hy=>Classical.byContradiction fun q=>?_⟩
    have:=mem_le (l:=y :: C.map f) (m:=G) (List.nodup_cons.mpr ⟨q,nd⟩) fun z hz=>by
      rcases List.mem_cons.mp hz with e | hz
      · rw [e];exact hy
      · exact sub z hz
    simp at this;omega
theorem sorted_unique:∀ {ys G:List Vec},(∀ x∈G,x.length = d)→ys.Perm G→ys.Pairwise (fun x y=>before y x = false)→G.Pairwise (fun x y=>before y x = false)→ys = G
  | [],G,_,p,_,_=>(List.nil_perm.mp p).symm
  | y :: ys,[],_,p,_,_=>by have:=p.length_eq;simp at this
  | y :: ys,g :: G,hG,p,h1,h2=>by
    have my:y∈g :: G:=p.mem_iff.mp (by simp)
    have mg:g∈y :: ys:=p.mem_iff.mpr (by simp)
    have e:y = g:=by
      rcases List.mem_cons.mp my with e | my2
      · exact e
      · rcases List.mem_cons.mp mg with e | mg2
        · exact e.symm
        · have a1:=(List.pairwise_cons.mp h1).1 g mg2
          have a2:=(List.pairwise_cons.mp h2).1 y my2
          exact before_total (by rw [hG y my,hG g (by simp)]) a2 a1
    subst e
    rw [sorted_unique (fun x hx=>hG x (by simp [hx])) ((List.perm_cons y).mp p) (List.pairwise_cons.mp h1).2 (List.pairwise_cons.mp h2).2]
theorem sorted_iff {ys im G:List Vec} (hG:∀ x∈G,x.length = d) (p:ys.Perm im) (h1:ys.Pairwise (fun x y=>before y x = false)) (h2:G.Pairwise (fun x y=>before y x = false)):ys = G↔im.Perm G:=by
  constructor
  · rintro rfl;exact p.symm
  · intro q;exact sorted_unique hG (p.trans q) h1 h2
end
theorem fmod0 (z D:Int):(z.fmod D != 0) = (z % D != 0):=by
  have:z.fmod D = 0↔z % D = 0:=by
    rw [← Int.dvd_iff_emod_eq_zero,Int.dvd_iff_fmod_eq_zero]
  rw [Bool.eq_iff_iff]
  simp [this]
theorem fdiv0 {z D:Int} (h:z % D = 0):z.fdiv D = z / D:=Int.fdiv_eq_ediv_of_dvd (Int.dvd_of_emod_eq_zero h)
end WP
namespace ST
open PySem PySem.SetTable
noncomputable def advM (mask:Nat) (p:Probe):Probe :=
  if p.more > 0 then { p with j:=p.j + 1,more:=p.more - 1 } else
  { p with j:=(leap mask p.i p.perturb).1,more:=runEnd mask (leap mask p.i p.perturb).1 - (leap mask p.i p.perturb).1,i:=(leap mask p.i p.perturb).1,perturb:=(leap mask p.i p.perturb).2 }
theorem adv_eq (t:SetTable) (p:Probe):t.advance p = advM t.mask p:=by
  unfold advance advM
  split <;> rfl
def startM (mask:Nat) (h:Int):Probe:={ j:=bits h % (mask + 1),more:=runEnd mask (bits h % (mask + 1)) - bits h % (mask + 1),i:=bits h % (mask + 1),perturb:=bits h,dummy:=none }
def pr (mask:Nat) (h:Int):Nat→Probe
  | 0=>startM mask h
  | m + 1=>advM mask (pr mask h m)
def pos (mask:Nat) (h:Int) (m:Nat):Nat:=(pr mask h m).j
theorem pr_dummy (mask:Nat) (h:Int):∀ m,(pr mask h m).dummy = none
  | 0=>rfl
  | m + 1=>by
    have:=pr_dummy mask h m
    unfold pr advM
    split <;> exact this
def AtTurn (mask:Nat) (p:Probe):Prop:=p.j = p.i∧p.more = runEnd mask p.i - p.i
theorem start_turn (mask:Nat) (h:Int):AtTurn mask (startM mask h):=⟨rfl,rfl⟩
def advN (mask:Nat):Nat→Probe→Probe
  | 0,p=>p
  | n + 1,p=>advN mask n (advM mask p)
theorem advN_add (mask:Nat):∀ (a b:Nat) (p:Probe),advN mask (a + b) p = advN mask b (advN mask a p)
  | 0,b,p=>by rw [Nat.zero_add];rfl
  | a + 1,b,p=>by
    rw [show a + 1 + b = (a + b) + 1 by omega]
    exact advN_add mask a b _
theorem pr_advN (mask:Nat) (h:Int):∀ m,pr mask h m = advN mask m (startM mask h)
  | 0=>rfl
  | m + 1=>by
    show advM mask (pr mask h m) = _
    rw [pr_advN mask h m,advN_add mask m 1];rfl
theorem run_more (mask:Nat):∀ (k:Nat) (p:Probe),p.more = k→advN mask (k + 1) p = { p with j:=(leap mask p.i p.perturb).1,more:=runEnd mask (leap mask p.i p.perturb).1 - (leap mask p.i p.perturb).1,i:=(leap mask p.i p.perturb).1,perturb:=(leap mask p.i p.perturb).2 }
  | 0,p,h=>by
    show advM mask p = _
    unfold advM
    rw [if_neg (by omega)]
  | k + 1,p,h=>by
    show advN mask (k + 1) (advM mask p) = _
    have e:advM mask p = { p with j:=p.j + 1,more:=p.more - 1 }:=by
      unfold advM;rw [if_pos (by omega)]
    rw [e,run_more mask k _ (by show p.more - 1 = k;omega)]
theorem run_le (mask i:Nat):runEnd mask i - i≤9:=by
  unfold runEnd;split <;> omega
theorem next_turn {mask:Nat} {p:Probe} (h:AtTurn mask p):∃ s,s≤10∧AtTurn mask (advN mask s p)∧(advN mask s p).i = (leap mask p.i p.perturb).1∧(advN mask s p).perturb = p.perturb / 32:=by
  refine ⟨p.more + 1,?_,?_⟩
  · have:=run_le mask p.i
    rw [h.2];omega
  · rw [run_more mask p.more p rfl]
    exact ⟨⟨rfl,rfl⟩,rfl,rfl⟩
def lcg (mask:Nat):Nat→Nat→Nat
  | 0,i=>i
  | n + 1,i=>lcg mask n ((i * 5 + 1) % (mask + 1))
theorem turns_on {mask:Nat}:∀ (n:Nat) (p:Probe),AtTurn mask p→∃ s,s≤10 * n∧AtTurn mask (advN mask s p)∧(advN mask s p).perturb = p.perturb / 32 ^ n∧(p.perturb = 0→(advN mask s p).i = lcg mask n p.i)
  | 0,p,h=>⟨0,by omega,h,by simp [advN],fun _=>rfl⟩
  | n + 1,p,h=>by
    obtain ⟨s1,l1,t1,i1,q1⟩:=next_turn h
    obtain ⟨s2,l2,t2,q2,i2⟩:=turns_on n _ t1
    refine ⟨s1 + s2,by omega,by rw [advN_add];exact t2,?_,fun z=>?_⟩
    · rw [advN_add,q2,q1,Nat.div_div_eq_div_mul,Nat.pow_succ,Nat.mul_comm]
    · rw [advN_add,i2 (by rw [q1,z]),i1]
      show lcg mask n ((p.i * 5 + 1 + p.perturb / 32) % (mask + 1)) = lcg mask (n + 1) p.i
      rw [z];rfl
theorem turn_i_lt {mask:Nat}:∀ (n:Nat) (p:Probe),AtTurn mask p→p.i < mask + 1→∃ s,s≤10 * n∧AtTurn mask (advN mask s p)∧(advN mask s p).perturb = p.perturb / 32 ^ n∧(advN mask s p).i < mask + 1
  | 0,p,h,hi=>⟨0,by omega,h,by simp [advN],hi⟩
  | n + 1,p,h,hi=>by
    obtain ⟨s1,l1,t1,i1,q1⟩:=next_turn h
    obtain ⟨s2,l2,t2,q2,i2⟩:=turn_i_lt n _ t1 (by rw [i1];exact Nat.mod_lt _ (by omega))
    refine ⟨s1 + s2,by omega,by rw [advN_add];exact t2,?_,by rw [advN_add];exact i2⟩
    rw [advN_add,q2,q1,Nat.div_div_eq_div_mul,Nat.pow_succ,Nat.mul_comm]
theorem lcg7:∀ i,i < 8→∀ j,j < 8→∃ n,n < 8∧lcg 7 n i = j:=by decide +kernel
theorem lcg31:∀ i,i < 32→∀ j,j < 32→∃ n,n < 32∧lcg 31 n i = j:=by decide +kernel
theorem bits_lt (h:Int):bits h < 2 ^ 64:=by
  unfold bits
  have h1:=Int.emod_nonneg h (show (2 ^ 64:Int)≠0 by decide)
  have h2:=Int.emod_lt_of_pos h (show (0:Int) < 2 ^ 64 by decide)
  omega
theorem lcg_all {mask:Nat} (hm:mask = 7∨mask = 31) {i j:Nat} (hi:i < mask + 1) (hj:j < mask + 1):∃ n,n≤mask∧lcg mask n i = j:=by
  rcases hm with rfl | rfl
  · obtain ⟨n,hn,e⟩:=lcg7 i hi j hj
    exact ⟨n,by omega,e⟩
  · obtain ⟨n,hn,e⟩:=lcg31 i hi j hj
    exact ⟨n,by omega,e⟩
theorem meets_all {mask:Nat} (hm:mask = 7∨mask = 31) (h:Int) {j:Nat} (hj:j < mask + 1):∃ m,m < 10 * turns mask∧pos mask h m = j:=by
  obtain ⟨s1,l1,t1,q1,i1⟩:=turn_i_lt 13 (startM mask h) (start_turn mask h) (Nat.mod_lt _ (by omega))
  have z:(advN mask s1 (startM mask h)).perturb = 0:=by
    rw [q1]
    show bits h / 32 ^ 13 = 0
    have:=bits_lt h
    exact Nat.div_eq_of_lt (Nat.lt_of_lt_of_le this (by decide))
  obtain ⟨n,hn,en⟩:=lcg_all hm i1 hj
  obtain ⟨s2,l2,t2,q2,i2⟩:=turns_on n _ t1
  refine ⟨s1 + s2,?_,?_⟩
  · unfold turns;omega
  · show (pr mask h (s1 + s2)).j = j
    rw [pr_advN,advN_add,t2.1,i2 z,en]
def Asc (xs:Array Nat):Prop:=∀ i k:Nat,∀ a b:Nat,i < k→xs[i]? = some a→xs[k]? = some b→a < b
theorem below_go (xs:Array Nat) (hx:Asc xs) (j:Nat):∀ (fuel lo hi:Nat),hi - lo≤fuel→lo≤hi→hi≤xs.size→(∀ i a,i < lo→xs[i]? = some a→a < j)→(∀ i a,hi≤i→xs[i]? = some a→j≤a) →
    below.go xs j fuel lo hi≤xs.size∧(∀ i a,i < below.go xs j fuel lo hi→xs[i]? = some a→a < j)∧∀ i a,below.go xs j fuel lo hi≤i→xs[i]? = some a→j≤a
  | 0,lo,hi,h1,h2,h3,h4,h5=>by
    have e:lo = hi:=by omega
    subst e
    exact ⟨h3,h4,h5⟩
  | fuel + 1,lo,hi,h1,h2,h3,h4,h5=>by
    unfold below.go
    by_cases q:lo < hi
    · rw [if_pos q]
      have hmid:(lo + hi) / 2 < xs.size:=by omega
      have em:xs[(lo + hi) / 2]? = some xs[(lo + hi) / 2]:=Array.getElem?_eq_getElem hmid
      have eg:xs.getD ((lo + hi) / 2) j = xs[(lo + hi) / 2]:=by rw [Array.getD_eq_getD_getElem?,em];rfl
      simp only []
      by_cases r:xs.getD ((lo + hi) / 2) j < j
      · rw [if_pos r]
        refine below_go xs hx j fuel ((lo + hi) / 2 + 1) hi (by omega) (by omega) h3 (fun i a hi' e=>?_) h5
        rw [eg] at r
        by_cases c:i = (lo + hi) / 2
        · rw [c,em] at e
          have:=Option.some.inj e
          omega
        · have:=hx i ((lo + hi) / 2) a _ (by omega) e em
          omega
      · rw [if_neg r]
        refine below_go xs hx j fuel lo ((lo + hi) / 2) (by omega) (by omega) (by omega) h4 (fun i a hi' e=>?_)
        rw [eg] at r
        by_cases c:i = (lo + hi) / 2
        · rw [c,em] at e
          have:=Option.some.inj e
          omega
        · have:=hx ((lo + hi) / 2) i _ a (by omega) em e
          omega
    · rw [if_neg q]
      have e:lo = hi:=by omega
      subst e
      exact ⟨h3,h4,h5⟩
theorem below_spec {xs:Array Nat} (hx:Asc xs) (j:Nat):below xs j≤xs.size∧(∀ i a,i < below xs j→xs[i]? = some a→a < j)∧∀ i a,below xs j≤i→xs[i]? = some a→j≤a :=
  below_go xs hx j xs.size 0 xs.size (by omega) (by omega) (Nat.le_refl _) (fun i a h=>by omega) (fun i a h e=>by
    rw [Array.getElem?_eq_none h] at e;cases e)
theorem below_at {xs:Array Nat} (hx:Asc xs) {i j:Nat} (h:xs[i]? = some j):below xs j = i:=by
  obtain ⟨h1,h2,h3⟩:=below_spec hx j
  rcases Nat.lt_trichotomy (below xs j) i with q | q | q
  · have hb:below xs j < xs.size:=Nat.lt_trans q (Array.getElem?_eq_some_iff.mp h).1
    have e:xs[below xs j]? = some xs[below xs j]:=Array.getElem?_eq_getElem hb
    have:=h3 _ _ (Nat.le_refl _) e
    have:=hx _ i _ j q e h
    omega
  · exact q
  · have:=h2 i j q h
    omega
theorem slot_live {t:SetTable} (hx:Asc t.place) {i j:Nat} (h:t.place[i]? = some j):t.slot j = .live i:=by
  unfold slot
  rw [below_at hx h]
  simp [h]
theorem slot_cases {t:SetTable} (hx:Asc t.place) (hd:t.dummies = #[]) (j:Nat):(∃ i:Nat,t.slot j = .live i∧t.place[i]? = some j)∨(t.slot j = .empty∧∀ i:Nat,t.place[i]?≠some j):=by
  unfold slot
  by_cases q:t.place[below t.place j]? = some j
  · left
    exact ⟨below t.place j,by simp [q],q⟩
  · right
    refine ⟨?_,fun i e=>q (by rw [below_at hx e];exact e)⟩
    have h1:(t.place[below t.place j]? == some j) = false:=by simpa using q
    simp only [h1]
    have h2:has t.dummies j = false:=by
      unfold has
      rw [hd];simp
    rw [h2];rfl
end ST
namespace ST
open PySem PySem.SetTable
theorem go_spec {t:SetTable} (hx:Asc t.place) (hd:t.dummies = #[]) (hashAt:Nat→Int) (h:Int):∀ (F m:Nat),(∃ k,m≤k∧k < m + F∧∀ i:Nat,t.place[i]?≠some (pos t.mask h k)) →
    (∃ k,m≤k∧probe.go t hashAt h F (pr t.mask h m) = some (.empty (pos t.mask h k) none)∧(∀ i:Nat,t.place[i]?≠some (pos t.mask h k))∧∀ k',m≤k'→k' < k→∃ i:Nat,t.place[i]? = some (pos t.mask h k')∧hashAt i≠h) ∨
    (∃ (k i:Nat),m≤k∧probe.go t hashAt h F (pr t.mask h m) = some (.candidate (pos t.mask h k) i (pr t.mask h (k + 1)))∧t.place[i]? = some (pos t.mask h k)∧hashAt i = h∧∀ k',m≤k'→k' < k→∃ i:Nat,t.place[i]? = some (pos t.mask h k')∧hashAt i≠h)
  | 0,m,⟨k,h1,h2,_⟩=>by omega
  | F + 1,m,⟨k,h1,h2,h3⟩=>by
    unfold probe.go
    rcases slot_cases hx hd (pr t.mask h m).j with ⟨i,e1,e2⟩ | ⟨e1,e2⟩
    · rw [e1]
      simp only []
      by_cases q:hashAt i = h
      · right
        refine ⟨m,i,Nat.le_refl _,?_,e2,q,fun k' a b=>by omega⟩
        rw [if_pos (by simpa using q),adv_eq]
        rfl
      · rw [if_neg (by simpa using q),adv_eq]
        have ne:m≠k:=fun z=>h3 i (by rw [← z];exact e2)
        have more:∀ k' ,m≤k'→m≠k'→m + 1≤k':=fun k' a b=>by omega
        rcases go_spec hx hd hashAt h F (m + 1) ⟨k,by omega,by omega,h3⟩ with ⟨k2,a1,a2,a3,a4⟩ | ⟨k2,i2,a1,a2,a3,a4,a5⟩
        · left
          refine ⟨k2,by omega,a2,a3,fun k' b1 b2=>?_⟩
          by_cases c:k' = m
          · rw [c];exact ⟨i,e2,q⟩
          · exact a4 k' (by omega) b2
        · right
          refine ⟨k2,i2,by omega,a2,a3,a4,fun k' b1 b2=>?_⟩
          by_cases c:k' = m
          · rw [c];exact ⟨i,e2,q⟩
          · exact a5 k' (by omega) b2
    · rw [e1]
      left
      refine ⟨m,Nat.le_refl _,?_,e2,fun k' a b=>by omega⟩
      show some (Met.empty (pr t.mask h m).j (pr t.mask h m).dummy) = _
      rw [pr_dummy];rfl
theorem nodup_le {α:Type} [DecidableEq α]:∀ (l m:List α),l.Nodup→(∀ x∈l,x∈m)→l.length≤m.length
  | [],m,_,_=>Nat.zero_le _
  | a :: l,m,nd,h=>by
    obtain ⟨h1,h2⟩:=List.nodup_cons.mp nd
    have ha:=h a (by simp)
    have:=nodup_le l (m.erase a) h2 fun x hx=>by
      have ne:x≠a:=fun q=>h1 (q ▸ hx)
      exact (List.mem_erase_of_ne ne).mpr (h x (by simp [hx]))
    rw [List.length_erase_of_mem ha] at this
    have:0 < m.length:=List.length_pos_of_mem ha
    rw [List.length_cons];omega
theorem few_miss {n:Nat} (l:List Nat) (h:l.length < n):∃ j,j < n∧j ∉ l:=by
  refine Classical.byContradiction fun q=>?_
  have sub:∀ j∈List.range n,j∈l:=fun j hj=>Classical.byContradiction fun r=>q ⟨j,by simpa using hj,r⟩
  have:=nodup_le _ _ List.nodup_range sub
  simp at this
  omega
theorem free_place {t:SetTable} (hm:t.mask = 7∨t.mask = 31) (hs:t.place.size < t.mask + 1) (h:Int) (m:Nat) (hall:∀ m',m' < m→∃ i:Nat,t.place[i]? = some (pos t.mask h m')):∃ k,m≤k∧k < m + 10 * turns t.mask∧∀ i:Nat,t.place[i]?≠some (pos t.mask h k):=by
  obtain ⟨j,hj,hn⟩:=few_miss t.place.toList (n:=t.mask + 1) (by simpa using hs)
  obtain ⟨k,hk,e⟩:=meets_all hm h hj
  have nk:∀ i:Nat,t.place[i]?≠some (pos t.mask h k):=fun i q=>hn (by
    rw [e] at q
    have:=Array.mem_of_getElem? q
    simpa using this)
  refine ⟨k,?_,by omega,nk⟩
  refine Classical.byContradiction fun q=>?_
  obtain ⟨i,hi⟩:=hall k (by omega)
  exact nk i hi
theorem insertAt_list {α:Type} (xs:Array α) (p:Nat) (x:α):(insertAt xs p x).toList = xs.toList.take p ++ x :: xs.toList.drop p:=by
  unfold insertAt
  rw [Array.toList_append,Array.toList_push,Array.toList_extract,Array.toList_extract]
  simp only [List.extract_eq_take_drop,List.drop_zero,Nat.sub_zero]
  rw [List.take_of_length_le (l:=xs.toList.drop p) (by simp)]
  simp
theorem insertAt_size {α:Type} (xs:Array α) (p:Nat) (x:α):(insertAt xs p x).size = xs.size + 1:=by
  rw [← Array.length_toList,insertAt_list]
  simp
  omega
theorem insertAt_get {α:Type} {xs:Array α} {p:Nat} (hp:p≤xs.size) (x:α) (k:Nat):(insertAt xs p x)[k]? = if k < p then xs[k]? else if k = p then some x else xs[k - 1]?:=by
  rw [← Array.getElem?_toList,insertAt_list]
  have tl:(xs.toList.take p).length = p:=by simp [hp]
  by_cases h:k < p
  · rw [if_pos h,List.getElem?_append_left (by omega),List.getElem?_take,if_pos h,Array.getElem?_toList]
  · rw [if_neg h,List.getElem?_append_right (by omega),tl]
    by_cases e:k = p
    · subst e;simp
    · rw [if_neg e]
      obtain ⟨d,hd⟩:∃ d,k - p = d + 1:=⟨k - p - 1,by omega⟩
      rw [hd,List.getElem?_cons_succ,List.getElem?_drop,Array.getElem?_toList]
      congr 1;omega
theorem insertAt_perm {α:Type} (xs:Array α) (p:Nat) (x:α):(insertAt xs p x).toList.Perm (x :: xs.toList):=by
  rw [insertAt_list]
  refine List.perm_middle.trans ?_
  rw [List.take_append_drop]
theorem insert_asc {xs:Array Nat} (hx:Asc xs) {j:Nat} (hn:∀ i:Nat,xs[i]?≠some j):Asc (insertAt xs (below xs j) j):=by
  obtain ⟨h1,h2,h3⟩:=below_spec hx j
  have h3':∀ i a,below xs j≤i→xs[i]? = some a→j < a:=fun i a hi e=>by
    have:=h3 i a hi e
    have:a≠j:=fun q=>hn i (by rw [e,q])
    omega
  intro i k a b hik ea eb
  rw [insertAt_get h1] at ea eb
  by_cases i1:i < below xs j
  · rw [if_pos i1] at ea
    have la:=h2 i a i1 ea
    by_cases k1:k < below xs j
    · rw [if_pos k1] at eb
      exact hx i k a b hik ea eb
    · rw [if_neg k1] at eb
      by_cases k2:k = below xs j
      · rw [if_pos k2] at eb
        have:=Option.some.inj eb
        omega
      · rw [if_neg k2] at eb
        have:=h3' (k - 1) b (by omega) eb
        omega
  · rw [if_neg i1] at ea
    rw [if_neg (by omega)] at eb
    rw [if_neg (by omega)] at eb
    by_cases i2:i = below xs j
    · rw [if_pos i2] at ea
      have:=Option.some.inj ea
      have:=h3' (k - 1) b (by omega) eb
      omega
    · rw [if_neg i2] at ea
      exact hx (i - 1) (k - 1) a b (by omega) ea eb
structure TOk (t:SetTable) (es:Array (Int × Value)):Prop where
  size:t.place.size = es.size
  asc:Asc t.place
  nod:t.dummies = #[]
  mask:t.mask = 7∨t.mask = 31
  plain:t.plain = true
  path:∀ (k:Nat) (e:Int × Value) (j:Nat),es[k]? = some e→t.place[k]? = some j→∃ m,pos t.mask e.1 m = j∧∀ m',m' < m→∃ i:Nat,t.place[i]? = some (pos t.mask e.1 m')
theorem tok_put {t:SetTable} {es:Array (Int × Value)} (T:TOk t es) {h:Int} {x:Value} {k:Nat} (hn:∀ i:Nat,t.place[i]?≠some (pos t.mask h k)) (hb:∀ m',m' < k→∃ i:Nat,t.place[i]? = some (pos t.mask h m')) :
    TOk (t.put (pos t.mask h k)).1 (insertAt es (t.put (pos t.mask h k)).2 (h,x)):=by
  have hp:=(below_spec T.asc (pos t.mask h k)).1
  have e1:(t.put (pos t.mask h k)).1 = { t with place:=insertAt t.place (below t.place (pos t.mask h k)) (pos t.mask h k) }:=by
    unfold put
    have:has t.dummies (pos t.mask h k) = false:=by unfold has;rw [T.nod];simp
    simp only [this]
    rfl
  have e2:(t.put (pos t.mask h k)).2 = below t.place (pos t.mask h k):=rfl
  rw [e1,e2]
  have asc:=insert_asc T.asc hn
  generalize below t.place (pos t.mask h k) = p at hp asc
  have hp2:p≤es.size:=by rw [← T.size];exact hp
  have keep:∀ j,(∃ i:Nat,t.place[i]? = some j)→∃ i:Nat,(insertAt t.place p (pos t.mask h k))[i]? = some j:=fun j ⟨i,e⟩=>by
    by_cases q:i < p
    · exact ⟨i,by rw [insertAt_get hp,if_pos q];exact e⟩
    · exact ⟨i + 1,by rw [insertAt_get hp,if_neg (by omega),if_neg (by omega)];exact e⟩
  refine ⟨?_,?_,T.nod,T.mask,T.plain,?_⟩
  · show (insertAt t.place p _).size = _
    rw [insertAt_size,insertAt_size,T.size]
  · exact asc
  · intro n e j he hj
    have hj:(insertAt t.place p (pos t.mask h k))[n]? = some j:=hj
    show ∃ m,pos t.mask e.1 m = j∧∀ m',m' < m→∃ i:Nat,(insertAt t.place p (pos t.mask h k))[i]? = some (pos t.mask e.1 m')
    rw [insertAt_get hp2] at he
    rw [insertAt_get hp] at hj
    by_cases n1:n < p
    · rw [if_pos n1] at he hj
      obtain ⟨m,a1,a2⟩:=T.path n e j he hj
      exact ⟨m,a1,fun m' hm=>keep _ (a2 m' hm)⟩
    · rw [if_neg n1] at he hj
      by_cases n2:n = p
      · rw [if_pos n2] at he hj
        have:=Option.some.inj he
        subst this
        exact ⟨k,Option.some.inj hj,fun m' hm=>keep _ (hb m' hm)⟩
      · rw [if_neg n2] at he hj
        obtain ⟨m,a1,a2⟩:=T.path (n - 1) e j he hj
        exact ⟨m,a1,fun m' hm=>keep _ (a2 m' hm)⟩
end ST
namespace ST
open PySem PySem.SetTable
def Owned (ow:Array (Option Nat)) (j:Nat):Prop:=(ow.getD j (some 0)).isNone = false
theorem pos_run {mask:Nat} {h:Int} {s:Nat} (ht:AtTurn mask (pr mask h s)):∀ k,k≤(pr mask h s).more→pr mask h (s + k) = { pr mask h s with j:=(pr mask h s).i + k,more:=(pr mask h s).more - k }
  | 0,_=>by
    show pr mask h s = _
    obtain ⟨e1,e2⟩:=ht
    cases hp:pr mask h s
    rw [hp] at e1
    simp_all
  | k + 1,hk=>by
    show advM mask (pr mask h (s + k)) = _
    rw [pos_run ht k (by omega)]
    unfold advM
    rw [if_pos (by show 0 < (pr mask h s).more - k;omega)]
    simp only [Probe.mk.injEq]
    refine ⟨by omega,by omega,trivial,trivial,trivial⟩
theorem next_at {mask:Nat} {h:Int} {s:Nat} (ht:AtTurn mask (pr mask h s)):AtTurn mask (pr mask h (s + (pr mask h s).more + 1))∧(pr mask h (s + (pr mask h s).more + 1)).i = (leap mask (pr mask h s).i (pr mask h s).perturb).1∧(pr mask h (s + (pr mask h s).more + 1)).perturb = (leap mask (pr mask h s).i (pr mask h s).perturb).2:=by
  have e:pr mask h (s + (pr mask h s).more + 1) = advN mask ((pr mask h s).more + 1) (pr mask h s):=by
    rw [Nat.add_assoc,pr_advN,advN_add,← pr_advN]
  rw [e,run_more mask (pr mask h s).more (pr mask h s) rfl]
  exact ⟨⟨rfl,rfl⟩,rfl,rfl⟩
def leapN (mask:Nat):Nat→Nat × Nat→Nat × Nat
  | 0,p=>p
  | n + 1,p=>leapN mask n (leap mask p.1 p.2)
theorem find_range {n:Nat} {p:Nat→Bool}:((List.range n).find? p = none∧∀ k,k < n→p k = false)∨∃ k,(List.range n).find? p = some k∧k < n∧p k = true∧∀ k',k' < k→p k' = false:=by
  induction n with
  | zero=>left;exact ⟨rfl,fun k h=>by omega⟩
  | succ n ih =>
    rw [List.range_succ,List.find?_append]
    rcases ih with ⟨e,h⟩ | ⟨k,e,h1,h2,h3⟩
    · rw [e]
      by_cases q:p n = true
      · right
        exact ⟨n,by simp [q],by omega,q,h⟩
      · left
        refine ⟨by simp [q],fun k hk=>?_⟩
        by_cases c:k = n
        · rw [c];simpa using q
        · exact h k (by omega)
    · right
      exact ⟨k,by rw [e];rfl,by omega,h2,h3⟩
theorem free_spec {mask:Nat} {h:Int} (ow:Array (Option Nat)):∀ (F s:Nat),AtTurn mask (pr mask h s)→(∃ n,n < F∧¬ Owned ow (leapN mask n ((pr mask h s).i,(pr mask h s).perturb)).1) →
    ∃ m,s≤m∧layClean.free mask ow F (pr mask h s).i (pr mask h s).perturb = some (pos mask h m)∧¬ Owned ow (pos mask h m)∧∀ m',s≤m'→m' < m→Owned ow (pos mask h m')
  | 0,s,_,⟨n,hn,_⟩=>by omega
  | F + 1,s,ht,⟨n,hn,hfree⟩=>by
    have hrun:runEnd mask (pr mask h s).i + 1 - (pr mask h s).i = (pr mask h s).more + 1:=by
      have:(pr mask h s).i≤runEnd mask (pr mask h s).i:=by unfold runEnd;split <;> omega
      rw [ht.2];omega
    have at_:∀ k,k≤(pr mask h s).more→pos mask h (s + k) = (pr mask h s).i + k:=fun k hk=>by
      show (pr mask h (s + k)).j = _
      rw [pos_run ht k hk]
    unfold layClean.free
    rw [hrun]
    rcases find_range (n:=(pr mask h s).more + 1) (p:=fun k=>(ow.getD ((pr mask h s).i + k) (some 0)).isNone) with ⟨e,hall⟩ | ⟨k,e,k1,k2,k3⟩
    · rw [e]
      obtain ⟨t1,t2,t3⟩:=next_at ht
      simp only []
      have n0:n≠0:=fun z=>by
        rw [z] at hfree
        have:=hall 0 (by omega)
        exact hfree (by simpa [Owned,leapN] using this)
      obtain ⟨n',rfl⟩:∃ n',n = n' + 1:=⟨n - 1,by omega⟩
      obtain ⟨m,a1,a2,a3,a4⟩:=free_spec ow F (s + (pr mask h s).more + 1) t1 ⟨n',by omega,by rw [t2,t3];exact hfree⟩
      rw [t2,t3] at a2
      refine ⟨m,by omega,a2,a3,fun m' b1 b2=>?_⟩
      by_cases c:m'≤s + (pr mask h s).more
      · obtain ⟨k,rfl⟩:∃ k,m' = s + k:=⟨m' - s,by omega⟩
        rw [at_ k (by omega)]
        exact hall k (by omega)
      · exact a4 m' (by omega) b2
    · rw [e]
      refine ⟨s + k,by omega,by rw [at_ k (by omega)],?_,fun m' b1 b2=>?_⟩
      · rw [at_ k (by omega)]
        unfold Owned
        rw [k2];simp
      · obtain ⟨k',rfl⟩:∃ k',m' = s + k':=⟨m' - s,by omega⟩
        rw [at_ k' (by omega)]
        exact k3 k' (by omega)
theorem leapN_add (mask:Nat):∀ (a b:Nat) (p:Nat × Nat),leapN mask (a + b) p = leapN mask b (leapN mask a p)
  | 0,b,p=>by rw [Nat.zero_add];rfl
  | a + 1,b,p=>by
    rw [show a + 1 + b = (a + b) + 1 by omega]
    exact leapN_add mask a b _
theorem leapN_q (mask:Nat):∀ (n:Nat) (p:Nat × Nat),(leapN mask n p).2 = p.2 / 32 ^ n
  | 0,p=>by simp [leapN]
  | n + 1,p=>by
    show (leapN mask n (leap mask p.1 p.2)).2 = _
    rw [leapN_q mask n]
    show p.2 / 32 / 32 ^ n = _
    rw [Nat.div_div_eq_div_mul,Nat.pow_succ,Nat.mul_comm]
theorem leapN_lt (mask:Nat):∀ (n:Nat) (p:Nat × Nat),p.1 < mask + 1→(leapN mask n p).1 < mask + 1
  | 0,p,h=>h
  | n + 1,p,h=>leapN_lt mask n _ (Nat.mod_lt _ (by omega))
theorem leapN_lcg (mask:Nat):∀ (n i:Nat),(leapN mask n (i,0)).1 = lcg mask n i
  | 0,i=>rfl
  | n + 1,i=>by
    show (leapN mask n ((i * 5 + 1 + 0 / 32) % (mask + 1),0 / 32)).1 = lcg mask n ((i * 5 + 1) % (mask + 1))
    exact leapN_lcg mask n _
theorem turn_all {mask:Nat} (hm:mask = 7∨mask = 31) (h:Int) {j:Nat} (hj:j < mask + 1):∃ n,n < turns mask∧(leapN mask n (bits h % (mask + 1),bits h)).1 = j:=by
  have z:(leapN mask 13 (bits h % (mask + 1),bits h)).2 = 0:=by
    rw [leapN_q]
    exact Nat.div_eq_of_lt (Nat.lt_of_lt_of_le (bits_lt h) (by decide))
  have i1:=leapN_lt mask 13 (bits h % (mask + 1),bits h) (Nat.mod_lt _ (by omega))
  obtain ⟨n,hn,e⟩:=lcg_all hm i1 hj
  refine ⟨13 + n,by unfold turns;omega,?_⟩
  rw [leapN_add]
  have:leapN mask 13 (bits h % (mask + 1),bits h) = ((leapN mask 13 (bits h % (mask + 1),bits h)).1,0):=by rw [← z]
  rw [this,leapN_lcg,e]
structure Lay (mask:Nat) (hs:List Int) (ow:Array (Option Nat)) (k:Nat):Prop where
  size:ow.size = mask + 1
  there:∀ i,i < k→∃ (j:Nat) (h:Int),ow[j]? = some (some i)∧hs[i]? = some h∧∃ m,pos mask h m = j∧∀ m',m' < m→Owned ow (pos mask h m')
  lt:∀ (j i:Nat),ow[j]? = some (some i)→i < k
  one:∀ (j j' i:Nat),ow[j]? = some (some i)→ow[j']? = some (some i)→j = j'
theorem owned_iff {ow:Array (Option Nat)} {j:Nat} (hj:j < ow.size):Owned ow j↔∃ i:Nat,ow[j]? = some (some i):=by
  unfold Owned
  rw [Array.getD_eq_getD_getElem?,Array.getElem?_eq_getElem hj]
  show (ow[j]).isNone = false↔_
  cases e:ow[j] with
  | none=>simp
  | some i=>simp
theorem not_owned {ow:Array (Option Nat)} {j:Nat} (h:¬ Owned ow j):j < ow.size∧ow[j]? = some none:=by
  by_cases hj:j < ow.size
  · refine ⟨hj,?_⟩
    rw [owned_iff hj] at h
    rw [Array.getElem?_eq_getElem hj]
    cases e:ow[j] with
    | none=>rfl
    | some i=>exact absurd ⟨i,by rw [Array.getElem?_eq_getElem hj,e]⟩ h
  · exfalso
    refine h ?_
    unfold Owned
    rw [Array.getD_eq_getD_getElem?,Array.getElem?_eq_none (by omega)];rfl
theorem lay_free {mask:Nat} (hm:mask = 7∨mask = 31) {hs:List Int} {ow:Array (Option Nat)} {k:Nat} (L:Lay mask hs ow k) (hk:k < mask + 1):∃ j,j < mask + 1∧¬ Owned ow j:=by
  refine Classical.byContradiction fun q=>?_
  have all:∀ j,j < mask + 1→∃ i:Nat,ow[j]? = some (some i):=fun j hj=>by
    have:Owned ow j:=Classical.byContradiction fun r=>q ⟨j,hj,r⟩
    exact (owned_iff (by rw [L.size];exact hj)).mp this
  have f:∀ j,∃ i:Nat,j < mask + 1→ow[j]? = some (some i):=fun j=>by
    by_cases hj:j < mask + 1
    · obtain ⟨i,e⟩:=all j hj;exact ⟨i,fun _=>e⟩
    · exact ⟨0,fun h=>absurd h hj⟩
  let g:Nat→Nat:=fun j=>Classical.choose (f j)
  have hg:∀ j,j < mask + 1→ow[j]? = some (some (g j)):=fun j hj=>Classical.choose_spec (f j) hj
  have nd:((List.range (mask + 1)).map g).Nodup:=WP.nodup_map (fun x hx y hy e=>by
    have h1:=hg x (by simpa using hx)
    have h2:=hg y (by simpa using hy)
    rw [e] at h1
    exact L.one x y _ h1 h2) List.nodup_range
  have:=nodup_le _ (List.range k) nd fun x hx=>by
    obtain ⟨j,hj,rfl⟩:=List.mem_map.mp hx
    exact List.mem_range.mpr (L.lt j _ (hg j (by simpa using hj)))
  simp at this
  omega
theorem lay_step {mask:Nat} (hm:mask = 7∨mask = 31) {hs:List Int} {ow:Array (Option Nat)} {k:Nat} (L:Lay mask hs ow k) (hk:k < mask + 1) {h:Int} (hh:hs[k]? = some h) :
    ∃ j,layClean.free mask ow (turns mask) (bits h % (mask + 1)) (bits h) = some j∧Lay mask hs (ow.setIfInBounds j (some k)) (k + 1):=by
  obtain ⟨j0,hj0,hfree⟩:=lay_free hm L hk
  obtain ⟨n,hn,en⟩:=turn_all hm h hj0
  obtain ⟨m,_,a2,a3,a4⟩:=free_spec (mask:=mask) (h:=h) ow (turns mask) 0 (start_turn mask h) ⟨n,hn,by rw [show ((pr mask h 0).i,(pr mask h 0).perturb) = (bits h % (mask + 1),bits h) from rfl,en];exact hfree⟩
  obtain ⟨hlt,hnone⟩:=not_owned a3
  have a2:layClean.free mask ow (turns mask) (bits h % (mask + 1)) (bits h) = some (pos mask h m):=a2
  refine ⟨pos mask h m,a2,?_⟩
  generalize hj:pos mask h m = j at *
  have get:∀ j':Nat,(ow.setIfInBounds j (some k))[j']? = if j' = j then some (some k) else ow[j']?:=fun j'=>by
    rw [Array.getElem?_setIfInBounds]
    by_cases c:j = j'
    · subst c;simp [hlt]
    · rw [if_neg c,if_neg (fun q=>c q.symm)]
  have mono:∀ j',Owned ow j'→Owned (ow.setIfInBounds j (some k)) j':=fun j' ho=>by
    unfold Owned at ho ⊢
    rw [Array.getD_eq_getD_getElem?] at ho ⊢
    rw [get]
    by_cases c:j' = j
    · rw [if_pos c];rfl
    · rw [if_neg c];exact ho
  refine ⟨by rw [Array.size_setIfInBounds];exact L.size,fun i hi=>?_,fun j' i e=>?_,fun j1 j2 i e1 e2=>?_⟩
  · by_cases c:i = k
    · subst c
      exact ⟨j,h,by rw [get,if_pos rfl],hh,m,hj,fun m' hm'=>mono _ (a4 m' (by omega) hm')⟩
    · obtain ⟨j1,h1,b1,b2,m1,b3,b4⟩:=L.there i (by omega)
      have ne:j1≠j:=fun q=>by rw [q,hnone] at b1;cases b1
      exact ⟨j1,h1,by rw [get,if_neg ne];exact b1,b2,m1,b3,fun m' hm'=>mono _ (b4 m' hm')⟩
  · rw [get] at e
    by_cases c:j' = j
    · rw [if_pos c] at e
      have:k = i:=by simpa using e
      omega
    · rw [if_neg c] at e
      have:=L.lt j' i e
      omega
  · rw [get] at e1 e2
    by_cases c1:j1 = j
    · rw [if_pos c1] at e1
      have:k = i:=by simpa using e1
      by_cases c2:j2 = j
      · rw [c1,c2]
      · rw [if_neg c2] at e2
        have:=L.lt j2 i e2
        omega
    · rw [if_neg c1] at e1
      by_cases c2:j2 = j
      · rw [if_pos c2] at e2
        have:k = i:=by simpa using e2
        have:=L.lt j1 i e1
        omega
      · rw [if_neg c2] at e2
        exact L.one j1 j2 i e1 e2
end ST
namespace ST
open PySem PySem.SetTable
theorem run_ok {mask i:Nat} (h:i < mask + 1):i + (runEnd mask i - i)≤mask:=by
  unfold runEnd;split <;> omega
theorem pr_ok (mask:Nat) (h:Int):∀ m,(pr mask h m).j + (pr mask h m).more≤mask
  | 0=>run_ok (Nat.mod_lt _ (by omega))
  | m + 1=>by
    have ih:=pr_ok mask h m
    show (advM mask (pr mask h m)).j + (advM mask (pr mask h m)).more≤mask
    unfold advM
    split
    · show (pr mask h m).j + 1 + ((pr mask h m).more - 1)≤mask
      omega
    · exact run_ok (Nat.mod_lt _ (by omega))
theorem pos_lt (mask:Nat) (h:Int) (m:Nat):pos mask h m < mask + 1:=by
  have:=pr_ok mask h m
  unfold pos;omega
noncomputable def layF (mask:Nat) (acc:Option (Array (Option Nat) × Nat)) (h:Int):Option (Array (Option Nat) × Nat):=do
    let (owner,k) ← acc
    let j ← layClean.free mask owner (turns mask) (bits h % (mask + 1)) (bits h)
    pure (owner.setIfInBounds j (some k),k + 1)
theorem lay_fold {mask:Nat} (hm:mask = 7∨mask = 31) {hs:List Int} (hn:hs.length≤mask):∀ (rest:List Int) (ow:Array (Option Nat)) (k:Nat),Lay mask hs ow k→k + rest.length = hs.length→(∀ i h,rest[i]? = some h→hs[k + i]? = some h) →
    ∃ ow',rest.foldl (layF mask) (some (ow,k)) = some (ow',hs.length)∧Lay mask hs ow' hs.length
  | [],ow,k,L,hk,_=>by
    have:k = hs.length:=by simpa using hk
    subst this
    exact ⟨ow,rfl,L⟩
  | h :: rest,ow,k,L,hk,hr=>by
    rw [List.length_cons] at hk
    obtain ⟨j,e,L2⟩:=lay_step hm L (by omega) (hr 0 h rfl)
    have e2:layF mask (some (ow,k)) h = some (ow.setIfInBounds j (some k),k + 1):=by
      unfold layF
      show (layClean.free mask ow (turns mask) (bits h % (mask + 1)) (bits h) >>= _) = _
      rw [e];rfl
    rw [List.foldl_cons,e2]
    exact lay_fold hm hn rest _ (k + 1) L2 (by omega) fun i h' e'=>by
      have:=hr (i + 1) h' (by simpa using e')
      rw [show k + 1 + i = k + (i + 1) by omega];exact this
theorem lay_nil (mask:Nat) (hs:List Int):Lay mask hs (Array.replicate (mask + 1) none) 0 where
  size:=by simp
  there:=fun i hi=>by omega
  lt:=fun j i e=>by
    rw [Array.getElem?_replicate] at e
    split at e <;> cases e
  one:=fun j j' i e _=>by
    rw [Array.getElem?_replicate] at e
    split at e <;> cases e
theorem layClean_spec {mask:Nat} (hm:mask = 7∨mask = 31) (hs:Array Int) (hn:hs.size≤mask):∃ ow,layClean mask hs = some ow∧Lay mask hs.toList ow hs.size:=by
  obtain ⟨ow,e,L⟩:=lay_fold hm (hs:=hs.toList) (by simpa using hn) hs.toList (Array.replicate (mask + 1) none) 0 (lay_nil mask _) (by simp) (fun i h e=>by rw [Nat.zero_add];exact e)
  refine ⟨ow,?_,by simpa using L⟩
  unfold layClean
  have:hs.foldl (layF mask) (some (Array.replicate (mask + 1) none,0)) = some (ow,hs.toList.length):=by rw [← e,Array.foldl_toList]
  show (hs.foldl (layF mask) (some (Array.replicate (mask + 1) none,0))).map (·.1) = some ow
  rw [this];rfl
def liveOf (mask:Nat) (ow:Array (Option Nat)):List (Nat × Nat):=(List.range (mask + 1)).filterMap fun j=>(ow.getD j none).map (j,·)
theorem mem_live {mask:Nat} {ow:Array (Option Nat)} (hs:ow.size = mask + 1) {j i:Nat}:(j,i)∈liveOf mask ow↔ow[j]? = some (some i):=by
  unfold liveOf
  rw [List.mem_filterMap]
  constructor
  · rintro ⟨j',hj',e⟩
    have hj':j' < ow.size:=by rw [hs];simpa using hj'
    rw [Array.getD_eq_getD_getElem?,Array.getElem?_eq_getElem hj'] at e
    have e:(ow[j']).map (j',·) = some (j,i):=e
    cases c:ow[j'] with
    | none=>rw [c] at e;cases e
    | some i' =>
      rw [c] at e
      have:(j',i') = (j,i):=by simpa using e
      cases this
      rw [Array.getElem?_eq_getElem hj',c]
  · intro e
    obtain ⟨hj,e2⟩:=Array.getElem?_eq_some_iff.mp e
    refine ⟨j,by rw [hs] at hj;simpa using hj,?_⟩
    rw [Array.getD_eq_getD_getElem?,e];rfl
theorem live_asc (mask:Nat) (ow:Array (Option Nat)):(liveOf mask ow).Pairwise fun x y=>x.1 < y.1:=by
  unfold liveOf
  rw [List.pairwise_filterMap]
  refine (List.pairwise_lt_range (n:=mask + 1)).imp fun {a b} h x hx y hy=>?_
  obtain ⟨i,_,e1⟩:=Option.map_eq_some_iff.mp hx
  obtain ⟨k,_,e2⟩:=Option.map_eq_some_iff.mp hy
  rw [← e1,← e2];exact h
theorem asc_of {l:List Nat} (h:l.Pairwise (· < ·)):Asc l.toArray:=by
  intro i k a b hik ea eb
  have ea:l[i]? = some a:=by simpa using ea
  have eb:l[k]? = some b:=by simpa using eb
  obtain ⟨h1,e1⟩:=List.getElem?_eq_some_iff.mp ea
  obtain ⟨h2,e2⟩:=List.getElem?_eq_some_iff.mp eb
  have:=List.pairwise_iff_getElem.mp h i k h1 h2 hik
  omega
theorem relaid_spec {t:SetTable} {es:Array (Int × Value)} (hp:t.plain = true) (hn:es.size≤8) {wanted:Nat} (hw:sizeAbove wanted = 32) :
    ∃ t' order,t.relaid (es.map (·.1)) wanted = some (t',order)∧(order.filterMap (es[·]?)).size = es.size∧(order.filterMap (es[·]?)).toList.Perm es.toList∧TOk t' (order.filterMap (es[·]?))∧t'.led = t.led∧t'.mask = 31:=by
  obtain ⟨ow,e,L⟩:=layClean_spec (mask:=31) (.inr rfl) (es.map (·.1)) (by rw [Array.size_map];omega)
  rw [Array.size_map] at L
  have er:t.relaid (es.map (·.1)) wanted = some ({ mask:=31,place:=((liveOf 31 ow).map (·.1)).toArray,dummies:=#[],finger:=t.finger,led:=t.led,moves:=t.movedTo 31,plain:=t.plain },((liveOf 31 ow).map (·.2)).toArray):=by
    unfold relaid laid
    rw [hw]
    show (layClean 31 (es.map (·.1)) >>= _) = _
    rw [e];rfl
  refine ⟨_,_,er,?_⟩
  have ml:∀ x∈liveOf 31 ow,x.2 < es.size:=fun x hx=>L.lt x.1 x.2 ((mem_live L.size).mp hx)
  have el:(((liveOf 31 ow).map (·.2)).toArray.filterMap (es[·]?)).toList = (liveOf 31 ow).filterMap fun x=>es[x.2]?:=by
    rw [Array.toList_filterMap]
    simp [List.filterMap_map]
    rfl
  have get:∀ l:List (Nat × Nat),(∀ x∈l,x.2 < es.size)→l.filterMap (fun x=>es[x.2]?) = l.map fun x=>es[x.2]?.getD (0,.none):=by
    intro l
    induction l with
    | nil=>intro _;rfl
    | cons a l ih =>
      intro h
      have ha:=h a (by simp)
      rw [List.filterMap_cons,Array.getElem?_eq_getElem ha,List.map_cons,ih fun x hx=>h x (by simp [hx]),Array.getElem?_eq_getElem ha]
      rfl
  rw [get _ ml] at el
  have nd:((liveOf 31 ow).map (·.2)).Nodup:=by
    refine WP.nodup_map (fun x hx y hy q=>?_) ((live_asc 31 ow).imp fun h z=>by rw [z] at h;omega)
    have h1:=(mem_live L.size).mp (show (x.1,x.2)∈liveOf 31 ow from hx)
    have h2:=(mem_live L.size).mp (show (y.1,y.2)∈liveOf 31 ow from hy)
    rw [← q] at h2
    exact Prod.ext (L.one _ _ _ h1 h2) q
  have pm:((liveOf 31 ow).map (·.2)).Perm (List.range es.size):=WP.perm_of nd List.nodup_range fun i=>by
    rw [List.mem_map,List.mem_range]
    constructor
    · rintro ⟨x,hx,rfl⟩;exact ml x hx
    · intro hi
      obtain ⟨j,_,e1,_⟩:=L.there i hi
      exact ⟨(j,i),(mem_live L.size).mpr e1,rfl⟩
  have elist:((List.range es.size).map fun i=>es[i]?.getD (0,.none)) = es.toList:=by
    apply List.ext_getElem?
    intro i
    by_cases h:i < es.size
    · simp [h]
    · simp [h]
  have perm:((liveOf 31 ow).map fun x=>es[x.2]?.getD (0,.none)).Perm es.toList:=by
    have:=pm.map fun i=>es[i]?.getD (0,.none)
    rw [List.map_map,elist] at this
    exact this
  have sz:(((liveOf 31 ow).map (·.2)).toArray.filterMap (es[·]?)).size = es.size:=by
    rw [← Array.length_toList,el,perm.length_eq,Array.length_toList]
  refine ⟨sz,by rw [el];exact perm,⟨?_,?_,rfl,.inr rfl,hp,?_⟩,rfl,rfl⟩
  · rw [sz]
    show ((liveOf 31 ow).map (·.1)).toArray.size = es.size
    have:=perm.length_eq
    simpa using this
  · exact asc_of (by rw [List.pairwise_map];exact live_asc 31 ow)
  · intro k x j hx hj
    rw [← Array.getElem?_toList,el,List.getElem?_map] at hx
    have hj:((liveOf 31 ow).map (·.1))[k]? = some j:=by simpa using hj
    rw [List.getElem?_map] at hj
    obtain ⟨y,hy,e1⟩:=Option.map_eq_some_iff.mp hj
    rw [hy] at hx
    have e2:es[y.2]?.getD (0,.none) = x:=by simpa using hx
    have my:y∈liveOf 31 ow:=List.mem_of_getElem? hy
    have ow1:=(mem_live L.size).mp (show (y.1,y.2)∈liveOf 31 ow from my)
    obtain ⟨j2,h2,b1,b2,m,b3,b4⟩:=L.there y.2 (ml y my)
    have ej:j2 = y.1:=L.one _ _ _ b1 ow1
    have eh:h2 = x.1:=by
      have hlt:=ml y my
      rw [Array.getElem?_eq_getElem hlt] at e2
      have e2:es[y.2] = x:=e2
      have:(es.map (·.1)).toList[y.2]? = some es[y.2].1:=by simp [hlt]
      rw [this] at b2
      rw [← e2];exact (Option.some.inj b2).symm
    subst ej eh
    refine ⟨m,by rw [b3];exact e1,fun m' hm'=>?_⟩
    have:=b4 m' hm'
    have hlt:pos 31 x.1 m' < ow.size:=by rw [L.size];exact pos_lt 31 x.1 m'
    obtain ⟨i',e'⟩:=(owned_iff hlt).mp this
    have:=(mem_live L.size).mpr e'
    obtain ⟨n,hn'⟩:=List.mem_iff_getElem?.mp this
    exact ⟨n,by
      show ((liveOf 31 ow).map (·.1)).toArray[n]? = _
      simp [hn']⟩
end ST
namespace ST
open PySem PySem.Spec PyProof.Rows L2 L3 PySem.SetTable
def kI (x:List Int):List Key:=x.map Sum.inl
section
variable {prog:Program} {w:World} {A:Around} {E:Value→Shared→Prop} {s:Shared}
theorem items_int:∀ {x:List Int} {vs:List Value},ItemsAre (mixKind prog w) (kI x) vs→∀ v∈vs,∃ n t,v = Value.int n t
  | [],_,.nil,v,h=>by simp at h
  | n :: x,_,.cons h r,v,hv=>by
    rcases List.mem_cons.mp hv with e | hv
    · subst e
      have hk:keyIs (Sum.inl n) v = true:=h
      rcases keyIs_shape hk with ⟨i,t,_,e⟩ | ⟨y,t,e,_⟩
      · exact ⟨i,t,e⟩
      · cases e
    · exact items_int r v hv
def RowA (prog:Program) (w:World) (h:Heap) (x:List Int) (a:Addr):Prop:=(tK prog w).is h (kI x) a
theorem RowA.at {h h':Heap} {x:List Int} {a:Addr} (r:RowA prog w h x a) (k:∀ o,h.get? a = some o→h'.get? a = some o):RowA prog w h' x a:=tk_at r k
theorem hash_row {x:List Int} {a:Addr} {Q:Bool→Shared→Prop} (r:RowA prog w s.heap x a) (h:Q true s):wpAny (model prog w) A (hashByValue 8 (.ref a)) Q E s:=by
  have hT:s.TypeIs (.ref a) "tuple":=IsTupleKey.typeIs r
  obtain ⟨o,items,n,ho,_,hd,hi⟩:=(show IsTupleKey (mixKind prog w) s.heap (kI x) a from r)
  have hin:=items_int hi
  unfold hashByValue;refine wpAny_bind (wpAny_specialOf hT F.slot_tuple_hash.lookup ?_)
  show wpAny _ _ (seqItems? (.ref a) >>= _) _ _ s;refine wpAny_bind (wpAny_seqItems ho hd ?_);refine wpAny_bind ?_
  show wpAny _ _ (forIn items _ _) _ _ s;rw [← Array.forIn_toList]
  refine wpAny_forIn_list _ (fun rest q s2=>q.1 = none∧s2 = s∧∀ v∈rest,∃ n t,v = Value.int n t) _ (fun v rest q s2 g=>?_) (fun q s2 g=>?_) _ _ ⟨rfl,rfl,hin⟩
  · obtain ⟨g1,g2,g3⟩:=g
    subst g2
    obtain ⟨n,t,e⟩:=g3 v (by simp)
    subst e
    have:hashByValue 7 (Value.int n t) = pure true:=rfl
    rw [this];refine wpAny_bind (wpAny_pure ?_)
    simp only [Bool.not_true,Bool.false_eq_true,if_false]
    exact wpAny_pure ⟨rfl,rfl,fun u hu=>g3 u (by simp [hu])⟩
  · obtain ⟨q1,q2⟩:=q
    obtain ⟨g1,g2,g3⟩:=g
    simp only at g1
    subst g1 g2
    exact wpAny_pure h
theorem no_class {x:List Int} {a:Addr} {Q:Bool→Shared→Prop} (r:RowA prog w s.heap x a) (h:Q false s):wpAny (model prog w) A (ofAClassStatement 8 (.ref a)) Q E s:=by
  have hT:s.TypeIs (.ref a) "tuple":=IsTupleKey.typeIs r
  obtain ⟨o,items,n,ho,_,hd,hi⟩:=(show IsTupleKey (mixKind prog w) s.heap (kI x) a from r)
  have hin:=items_int hi
  unfold ofAClassStatement;refine wpAny_bind (wpAny_typeOf hT ?_)
  simp only [show (("tuple":String) == "tuple") = true by decide,if_true]
  refine wpAny_bind (wpAny_pure ?_)
  simp only [Bool.not_true,Bool.false_eq_true,if_false]
  refine wpAny_bind (wpAny_seqItems ho hd ?_)
  show wpAny _ _ (forIn items _ _ >>= _) _ _ s
  refine wpAny_bind ?_;rw [← Array.forIn_toList]
  refine wpAny_forIn_list _ (fun rest q s2=>q.1 = none∧s2 = s∧∀ v∈rest,∃ n t,v = Value.int n t) _ (fun v rest q s2 g=>?_) (fun q s2 g=>?_) _ _ ⟨rfl,rfl,hin⟩
  · obtain ⟨g1,g2,g3⟩:=g
    subst g2
    obtain ⟨n,t,e⟩:=g3 v (by simp)
    subst e
    have:ofAClassStatement 7 (Value.int n t) = pure false:=rfl
    rw [this];refine wpAny_bind (wpAny_pure ?_)
    simp only [Bool.false_eq_true,if_false]
    exact wpAny_pure ⟨rfl,rfl,fun u hu=>g3 u (by simp [hu])⟩
  · obtain ⟨q1,q2⟩:=q
    obtain ⟨g1,g2,g3⟩:=g
    simp only at g1
    subst g1 g2
    exact wpAny_pure h
theorem not_seen {x:List Int} {a:Addr} {Q:Bool→Shared→Prop} (r:RowA prog w s.heap x a) (l:List Value) (hl:∀ v∈l,∃ y b,v = Value.ref b∧RowA prog w s.heap y b) (h:Q false s):wpAny (model prog w) A (searchCouldBeSeen (.ref a) l) Q E s:=by
  unfold searchCouldBeSeen;refine wpAny_bind ?_
  refine wpAny_forIn_list _ (fun rest q s2=>q.1 = none∧s2 = s∧∀ v∈rest,∃ y b,v = Value.ref b∧RowA prog w s.heap y b) _ (fun v rest q s2 g=>?_) (fun q s2 g=>?_) _ _ ⟨rfl,rfl,hl⟩
  · obtain ⟨g1,g2,g3⟩:=g
    subst g2
    obtain ⟨y,b,e,rb⟩:=g3 v (by simp)
    subst e
    have nx:∀ v∈rest,∃ y b,v = Value.ref b∧RowA prog w s2.heap y b:=fun u hu=>g3 u (by simp [hu])
    by_cases very:((a == b) || (carriedByValue (.ref a) && carriedByValue (.ref b))) = true
    · simp only [very];exact wpAny_pure ⟨rfl,rfl,nx⟩
    · simp only [very,Bool.false_eq_true,if_false]
      refine wpAny_bind ((tK prog w).quiet r ?_);simp only [Bool.not_true,Bool.false_eq_true,if_false]
      refine wpAny_bind ((tK prog w).quiet rb ?_);simp only [Bool.not_true,Bool.false_eq_true,if_false]
      refine wpAny_bind (no_class r ?_);simp only [Bool.false_eq_true,if_false]
      refine wpAny_bind (no_class rb ?_);simp only [Bool.false_eq_true,if_false]
      exact wpAny_pure ⟨rfl,rfl,nx⟩
  · obtain ⟨q1,q2⟩:=q
    obtain ⟨g1,g2,g3⟩:=g
    simp only at g1
    subst g1 g2
    exact wpAny_pure h
abbrev hsh (prog:Program) (w:World) (x:List Int):Int:=(tK prog w).hash (kI x)
structure SetR (prog:Program) (w:World) (h:Heap) (S:Addr) (xs:List (List Int × Addr)) (o:Obj) (es:Array (Int × Value)) (ep:Nat) (t:SetTable):Prop where
  get:h.get? S = some o
  ex:o.ExactSet
  dat:o.data = .set es ep t
  tab:TOk t es
  few:es.size≤8∧(t.mask = 7→es.size≤4)
  ent:es.toList = xs.map fun x=>(hsh prog w x.1,Value.ref x.2)
  rows:∀ x∈xs,RowA prog w h x.1 x.2
  nd:(xs.map (·.1)).Nodup
  led:w.params.followText "set-order" = false→t.led = true
theorem tok_fits {t:SetTable} {es:Array (Int × Value)} (T:TOk t es) (h8:es.size≤8) (h4:t.mask = 7→es.size≤7):t.fits es.size = true:=by
  unfold SetTable.fits SetTable.fill
  rw [T.nod,T.size]
  have:es.size≤t.mask:=by
    rcases T.mask with e | e
    · rw [e];exact h4 e
    · rw [e];omega
  simp [this]
theorem SetR.fits {h:Heap} {S:Addr} {xs:List (List Int × Addr)} {o:Obj} {es:Array (Int × Value)} {ep:Nat} {t:SetTable} (R:SetR prog w h S xs o es ep t):t.fits es.size = true:=tok_fits R.tab R.few.1 fun e=>by have:=R.few.2 e;omega
theorem search {S a:Addr} {x:List Int} {xs:List (List Int × Addr)} {o:Obj} {es:Array (Int × Value)} {ep:Nat} {t:SetTable} {Q:SetFound→Shared→Prop} (hu:A.units + 8 < cLine) (R:SetR prog w s.heap S xs o es ep t) (r:RowA prog w s.heap x a)
    (h1:∀ i,x∈xs.map (·.1)→Q (.there i) s)
    (h2:∀ k,x ∉ xs.map (·.1)→(∀ i:Nat,t.place[i]?≠some (pos t.mask (hsh prog w x) k))→(∀ m',m' < k→∃ i:Nat,t.place[i]? = some (pos t.mask (hsh prog w x) m'))→Q (.free (pos t.mask (hsh prog w x) k) false) s) :
    ∀ (F m:Nat) (stand:Option SetTable.Probe),(stand.getD (t.probeStart (hsh prog w x)) = pr t.mask (hsh prog w x) m)→(∀ m',m' < m→∃ i:Nat,t.place[i]? = some (pos t.mask (hsh prog w x) m')∧∀ y,xs[i]? = some y→y.1≠x) →
      (∃ k,m≤k∧k < m + F∧∀ i:Nat,t.place[i]?≠some (pos t.mask (hsh prog w x) k))→wpAny (model prog w) A (setSearchFrom S (.ref a) (hsh prog w x) true F stand) Q E s
  | 0,m,stand,_,_,⟨k,b1,b2,_⟩=>by omega
  | F + 1,m,stand,hst,hch,⟨k,b1,b2,b3⟩=>by
    have hlen:es.size = xs.length:=by rw [← Array.length_toList,R.ent,List.length_map]
    have eat:∀ i:Nat,es[i]? = (xs[i]?).map fun x=>(hsh prog w x.1,Value.ref x.2):=fun i=>by rw [← Array.getElem?_toList,R.ent,List.getElem?_map]
    unfold setSearchFrom;refine wpAny_bind (wpAny_setState_of R.get R.dat R.fits ?_)
    have gw:t.gaveWay = false:=by unfold SetTable.gaveWay;rcases R.tab.mask with e | e <;> rw [e] <;> rfl
    simp only [gw,Bool.false_eq_true,if_false]
    rw [hst]
    let hat:Nat→Int:=fun i=>(es[i]?.map (·.1)).getD 0
    have pe:t.probe (fun i=>(es[i]?.map (·.1)).getD 0) (hsh prog w x) (pr t.mask (hsh prog w x) m) = probe.go t hat (hsh prog w x) (10 * turns t.mask) (pr t.mask (hsh prog w x) m):=rfl
    obtain ⟨k2,c1,c2,c3⟩:=free_place R.tab.mask (by
      rw [R.tab.size]
      have:=R.few.1
      rcases R.tab.mask with e | e
      · have:=R.few.2 e;rw [e];omega
      · rw [e];omega) (hsh prog w x) m fun m' hm'=>let ⟨i,e,_⟩:=hch m' hm';⟨i,e⟩
    have inxs:∀ i:Nat,∀ j,t.place[i]? = some j→∃ y,xs[i]? = some y:=fun i j e=>by
      have:i < xs.length:=by rw [← hlen,← R.tab.size];exact (Array.getElem?_eq_some_iff.mp e).1
      exact ⟨xs[i],List.getElem?_eq_getElem this⟩
    have hatx:∀ (i:Nat) y,xs[i]? = some y→hat i = hsh prog w y.1:=fun i y e=>by
      show (es[i]?.map (·.1)).getD 0 = _
      rw [eat,e];rfl
    have absent:∀ kf,(∀ i:Nat,t.place[i]?≠some (pos t.mask (hsh prog w x) kf))→(∀ m',m' < kf→∃ i:Nat,t.place[i]? = some (pos t.mask (hsh prog w x) m')∧∀ y,xs[i]? = some y→y.1≠x)→x ∉ xs.map (·.1):=by
      intro kf hkf hall q
      obtain ⟨y,hy,ey⟩:=List.mem_map.mp q
      obtain ⟨i,hi,hyi⟩:=List.mem_iff_getElem.mp hy
      have gi:xs[i]? = some y:=by rw [List.getElem?_eq_getElem hi,hyi]
      have gp:∃ j,t.place[i]? = some j:=by
        have:i < t.place.size:=by rw [R.tab.size,hlen];exact hi
        exact ⟨t.place[i],Array.getElem?_eq_getElem this⟩
      obtain ⟨j,gj⟩:=gp
      obtain ⟨mm,e1,e2⟩:=R.tab.path i (hsh prog w y.1,Value.ref y.2) j (by rw [eat,gi];rfl) gj
      simp only [ey] at e1 e2
      have hlt:mm < kf:=Classical.byContradiction fun z=>by
        by_cases e:mm = kf
        · rw [e] at e1
          exact hkf i (by rw [gj,e1])
        · obtain ⟨i2,e3⟩:=e2 kf (by omega)
          exact hkf i2 e3
      obtain ⟨i3,e4,e5⟩:=hall mm hlt
      have:i3 = i:=by
        rw [e1] at e4
        have l1:=slot_live R.tab.asc e4
        have l2:=slot_live R.tab.asc gj
        rw [l1] at l2
        cases l2;rfl
      subst this
      exact e5 y gi ey
    rcases go_spec R.tab.asc R.tab.nod hat (hsh prog w x) (10 * turns t.mask) m ⟨k2,c1,c2,c3⟩ with ⟨kf,d1,d2,d3,d4⟩ | ⟨kc,ic,d1,d2,d3,d4,d5⟩
    · have all:∀ m',m' < kf→∃ i:Nat,t.place[i]? = some (pos t.mask (hsh prog w x) m')∧∀ y,xs[i]? = some y→y.1≠x:=fun m' hm'=>by
        by_cases e:m' < m
        · exact hch m' e
        · obtain ⟨i,e1,e2⟩:=d4 m' (by omega) hm'
          exact ⟨i,e1,fun y gy q=>e2 (by rw [hatx i y gy,q])⟩
      split
      · rename_i met heq
        have heq2:probe.go t hat (hsh prog w x) (10 * turns t.mask) (pr t.mask (hsh prog w x) m) = some met:=heq
        rw [d2] at heq2
        cases heq2
        exact wpAny_pure (h2 kf (absent kf d3 all) d3 fun m' hm'=>let ⟨i,e,_⟩:=all m' hm';⟨i,e⟩)
      · rename_i heq
        exact (heq _ d2).elim
    · split
      · rename_i met heq
        have heq2:probe.go t hat (hsh prog w x) (10 * turns t.mask) (pr t.mask (hsh prog w x) m) = some met:=heq
        rw [d2] at heq2
        cases heq2
        obtain ⟨y,gy⟩:=inxs ic _ d3
        have ge:es[ic]? = some (hsh prog w y.1,Value.ref y.2):=by rw [eat,gy];rfl
        have ry:=R.rows y (List.mem_of_getElem? gy)
        have room:(tK prog w).room A:=by show A.units < cLine;omega
        have sm:t.sameMemory t.moves t.mask = some true:=by simp [SetTable.sameMemory]
        have sl:=slot_live R.tab.asc d3
        have checked:y.1≠x→∀ m',m' < kc + 1→∃ i:Nat,t.place[i]? = some (pos t.mask (hsh prog w x) m')∧∀ y,xs[i]? = some y→y.1≠x:=fun hne m' hm'=>by
          by_cases e:m' < m
          · exact hch m' e
          · by_cases e2:m' < kc
            · obtain ⟨i,e1,e3⟩:=d5 m' (by omega) e2
              exact ⟨i,e1,fun z gz q=>e3 (by rw [hatx i z gz,q])⟩
            · have:m' = kc:=by omega
              rw [this]
              exact ⟨ic,d3,fun z gz=>by rw [gy] at gz;cases gz;exact hne⟩
        have later:∃ k,kc + 1≤k∧k < kc + 1 + F∧∀ i:Nat,t.place[i]?≠some (pos t.mask (hsh prog w x) k):=by
          refine ⟨k,Classical.byContradiction fun q=>?_,by omega,b3⟩
          by_cases e:k = kc
          · exact b3 ic (by rw [e];exact d3)
          · obtain ⟨i,e1,_⟩:=d5 k b1 (by omega)
            exact b3 i e1
        by_cases hled:t.led = true
        · simp only [hled,Bool.not_true]
          simp only [Bool.false_eq_true,if_false,ge]
          refine wpAny_bind (wpAny_holding ((tK prog w).eqBool room ry r ?_))
          refine wpAny_bind (wpAny_setState_of R.get R.dat R.fits ?_)
          by_cases eq:y.1 = x
          · rw [eq,decide_eq_true rfl]
            exact wpAny_pure (h1 none (List.mem_map.mpr ⟨y,List.mem_of_getElem? gy,eq⟩))
          · have nk:decide (kI y.1 = kI x) = false:=decide_eq_false fun q=>eq (List.map_inj_right (fun a b q=>by cases q;rfl) |>.mp q)
            rw [nk]
            simp only [sm,sl,ge,if_true,Bool.true_and,Bool.false_eq_true,if_false]
            refine wpAny_bind (wpAny_isSame_ref_self ?_)
            refine wpAny_bind (wpAny_pure ?_)
            simp only [if_true,Bool.false_eq_true,if_false]
            exact search hu R r h1 h2 F (kc + 1) _ rfl (checked eq) later
        · have hled:t.led = false:=by simpa using hled
          simp only [hled,Bool.not_false,if_true]
          refine wpAny_bind (not_seen r _ (fun v hv=>?_) ?_)
          · obtain ⟨p,hp,rfl⟩:=List.mem_map.mp hv
            have hp:p∈es.toList:=by
              have:p∈es∧p.fst = hsh prog w x:=by simpa using hp
              simpa using this.1
            rw [R.ent] at hp
            obtain ⟨z,hz,rfl⟩:=List.mem_map.mp hp
            exact ⟨z.1,z.2,rfl,R.rows z hz⟩
          simp only [Bool.false_eq_true,if_false,ge]
          refine wpAny_bind (wpAny_holding ((tK prog w).eqBool room ry r ?_))
          refine wpAny_bind (wpAny_setState_of R.get R.dat R.fits ?_)
          by_cases eq:y.1 = x
          · rw [eq,decide_eq_true rfl]
            exact wpAny_pure (h1 none (List.mem_map.mpr ⟨y,List.mem_of_getElem? gy,eq⟩))
          · have nk:decide (kI y.1 = kI x) = false:=decide_eq_false fun q=>eq (List.map_inj_right (fun a b q=>by cases q;rfl) |>.mp q)
            rw [nk]
            simp only [sm,sl,ge,if_true,Bool.true_and,Bool.false_eq_true,if_false]
            refine wpAny_bind (wpAny_isSame_ref_self ?_)
            refine wpAny_bind (wpAny_pure ?_)
            simp only [if_true,Bool.false_eq_true,if_false]
            exact search hu R r h1 h2 F (kc + 1) _ rfl (checked eq) later
      · rename_i heq
        exact (heq _ d2).elim
theorem perm_map {α β : Type} {f : α → β} : ∀ {l m : List β}, l.Perm m → ∀ {xs : List α}, m = xs.map f → ∃ ys : List α, ys.Perm xs ∧ l = ys.map f := by
  intro l m h
  induction h with
  | nil => intro xs e; have : xs = [] := by simpa using e.symm
           subst this; exact ⟨[], .refl _, rfl⟩
  | cons x _ ih =>
    intro xs e
    cases xs with
    | nil => cases e
    | cons y ys =>
      rw [List.map_cons] at e
      injection e with e1 e2
      obtain ⟨zs, h1, h2⟩ := ih e2
      exact ⟨y :: zs, h1.cons y, by rw [List.map_cons, h2, e1]⟩
  | swap x y l =>
    intro xs e
    cases xs with
    | nil => cases e
    | cons a xs =>
      cases xs with
      | nil => cases e
      | cons b ys =>
        rw [List.map_cons, List.map_cons] at e
        injection e with e1 e2
        injection e2 with e2 e3
        exact ⟨b :: a :: ys, .swap .., by rw [List.map_cons, List.map_cons, e1, e2, e3]⟩
  | trans _ _ ih1 ih2 =>
    intro xs e
    obtain ⟨ys, h1, h2⟩ := ih2 e
    obtain ⟨zs, h3, h4⟩ := ih1 h2
    exact ⟨zs, h3.trans h1, h4⟩
theorem row_ne_set {h:Heap} {x:List Int} {a S:Addr} {o:Obj} {es:Array (Int × Value)} {ep:Nat} {t:SetTable} (r:RowA prog w h x a) (g:h.get? S = some o) (d:o.data = .set es ep t):a≠S:=fun e=>by
  obtain ⟨o2,items,n,ho,_,hd,_⟩:=(show IsTupleKey (mixKind prog w) h (kI x) a from r)
  rw [e,g] at ho
  cases ho
  rw [d] at hd;cases hd
theorem add_row {S a:Addr} {x:List Int} {xs:List (List Int × Addr)} {o:Obj} {es:Array (Int × Value)} {ep:Nat} {t:SetTable} {Q:Bool→Shared→Prop} (hu:A.units + 16 < cLine) (R:SetR prog w s.heap S xs o es ep t) (h7:xs.length≤7) (r:RowA prog w s.heap x a)
    (h1:∀ tk,x∈xs.map (·.1)→Q false { s with toks:=tk })
    (h2:∀ tk h' xs' o' es' ep' t',x ∉ xs.map (·.1)→SetR prog w h' S xs' o' es' ep' t'→xs'.Perm ((x,a) :: xs)→Heap.SameBut S s.heap h'→Q true { s with heap:=h',toks:=tk }) :
    wpAny (model prog w) A (setAdd S (.ref a)) Q E s:=by
  have hlen:es.size = xs.length:=by rw [← Array.length_toList,R.ent,List.length_map]
  unfold setAdd;refine wpAny_holding (wpAny_bind ((tK prog w).pyHash (show A.units < cLine by omega) r ?_))
  generalize hs2:({ s with toks:=s.toks + (tK prog w).draws (kI x) }:Shared) = s2
  have eh:s2.heap = s.heap:=by rw [← hs2]
  have R2:SetR prog w s2.heap S xs o es ep t:=by rw [eh];exact R
  have r2:RowA prog w s2.heap x a:=by rw [eh];exact r
  unfold setAddHashed;refine wpAny_holding ?_
  unfold setAddHashedIn;refine wpAny_bind (wpAny_setState_of R2.get R2.dat R2.fits ?_)
  have bs:byScan (Value.ref a) es = false:=rfl
  simp only [bs,Bool.false_eq_true,if_false]
  obtain ⟨kf,_,f2,f3⟩:=free_place R.tab.mask (by
      rw [R.tab.size]
      have:=R.few.1
      rcases R.tab.mask with e | e
      · have:=R.few.2 e;rw [e];omega
      · rw [e];omega) (hsh prog w x) 0 fun m' hm'=>by omega
  have tl:10 * turns t.mask < 100000:=by unfold turns;rcases R.tab.mask with e | e <;> rw [e] <;> decide
  refine wpAny_bind (search (A:=A) (by omega) R2 r2 (fun i hin=>?_) (fun k hno p1 p2=>?_) 100000 0 none rfl (fun m' hm'=>by omega) ⟨kf,Nat.zero_le _,by omega,f3⟩)
  · simp only []
    refine wpAny_pure ?_
    have:=h1 s2.toks hin
    rw [← hs2] at this ⊢;exact this
  · simp only []
    refine wpAny_bind (wpAny_setState_of R2.get R2.dat R2.fits ?_)
    have T1:=tok_put R.tab (x:=Value.ref a) p1 p2
    have pl:(t.put (pos t.mask (hsh prog w x) k)).1.plain = true:=T1.plain
    have pm:(t.put (pos t.mask (hsh prog w x) k)).1.mask = t.mask:=rfl
    have pd:(t.put (pos t.mask (hsh prog w x) k)).1.led = t.led:=rfl
    generalize hput:t.put (pos t.mask (hsh prog w x) k) = tp at T1 pl pm pd
    obtain ⟨t1,p⟩:=tp
    simp only at T1 pl pm pd
    simp only [pl,if_true]
    refine wpAny_bind (hash_row r2 ?_)
    simp only [if_true]
    have sz:(insertAt es p (hsh prog w x,Value.ref a)).size = es.size + 1:=insertAt_size ..
    obtain ⟨xs1,px1,ex1⟩:=perm_map (f:=fun x:List Int × Addr=>(hsh prog w x.1,Value.ref x.2)) (insertAt_perm es p (hsh prog w x,Value.ref a)) (xs:=(x,a) :: xs) (by rw [R.ent];rfl)
    generalize insertAt es p (hsh prog w x,Value.ref a) = es1 at T1 sz ex1
    refine wpAny_bind (wpAny_storeSet_of R2.get R2.dat ?_ (by rw [sz,sizeLine_eq];omega))
    have g1:(s2.heap.update S (Obj.putSet es1 t1)).get? S = some { o with data:=.set es1 (ep + 1) t1 }:=by
      have:=Heap.get?_update_self (Obj.putSet es1 t1) R2.get (by rw [putSet_of es1 t1 R2.dat];rfl)
      rw [putSet_of es1 t1 R2.dat] at this;exact this
    have sb1:=Heap.SameBut.update s2.heap S (Obj.putSet es1 t1)
    have nd1:(xs1.map (·.1)).Nodup:=(px1.map (·.1)).nodup_iff.mpr (List.nodup_cons.mpr ⟨hno,R.nd⟩)
    have rows1:∀ y∈xs1,RowA prog w (s2.heap.update S (Obj.putSet es1 t1)) y.1 y.2:=fun y hy=>by
      rcases List.mem_cons.mp (px1.mem_iff.mp hy) with e | hy
      · subst e
        exact r2.at fun o' e=>by rw [sb1.2 a (row_ne_set r2 R2.get R2.dat)];exact e
      · have ry:=R2.rows y hy
        exact ry.at fun o' e=>by rw [sb1.2 y.2 (row_ne_set ry R2.get R2.dat)];exact e
    have ex:({ o with data:=.set es1 (ep + 1) t1 }:Obj).ExactSet:=R.ex
    by_cases full:t1.tooFull = true
    · simp only [full,Bool.not_false,Bool.true_and,if_true]
      have s5:es.size + 1 = 5:=by
        unfold SetTable.tooFull SetTable.fill at full
        rw [T1.nod,T1.size,sz] at full
        have full:t1.mask * 3≤(es.size + 1 + 0) * 5:=by simpa using full
        rw [pm] at full
        rcases R.tab.mask with e | e
        · have:=R.few.2 e;rw [e] at full;omega
        · rw [e] at full;omega
      have gr:SetTable.grown (es.size + 1) = 20:=by rw [s5];rfl
      rw [gr]
      have fits1:t1.fits es1.size = true:=tok_fits T1 (by omega) fun e=>by omega
      obtain ⟨t2,order,q1,q2,q3,q4,q5,q6⟩:=relaid_spec (t:=t1) (es:=es1) pl (by omega) (wanted:=20) (by decide)
      unfold setRelay;refine wpAny_bind (wpAny_bind (wpAny_setState_of (s:={ s2 with heap:=s2.heap.update S (Obj.putSet es1 t1) }) g1 rfl fits1 ?_))
      have big:¬ SetTable.sizeAbove 20 > sizeLine:=by rw [sizeLine_eq];decide
      simp only [big,if_false]
      rw [q1]
      refine wpAny_bind ?_
      have ne:((order.filterMap (es1[·]?)).size != es1.size) = false:=by rw [q2];simp
      show wpAny _ _ (if ((order.filterMap (es1[·]?)).size != es1.size) = true then _ else pure (order.filterMap (es1[·]?),t2)) _ _ _
      rw [ne];simp only [Bool.false_eq_true,if_false]
      refine wpAny_pure ?_
      refine wpAny_storeSet_of g1 rfl ?_ (by rw [q2,sz,sizeLine_eq];omega)
      obtain ⟨xs2,px2,ex2⟩:=perm_map (f:=fun x:List Int × Addr=>(hsh prog w x.1,Value.ref x.2)) q3 (xs:=xs1) ex1
      generalize hes2:order.filterMap (es1[·]?) = es2 at q2 q3 q4 ex2 ne
      have g2:((s2.heap.update S (Obj.putSet es1 t1)).update S (Obj.putSet es2 t2)).get? S = some { o with data:=.set es2 (ep + 1 + 1) t2 }:=by
        have:=Heap.get?_update_self (Obj.putSet es2 t2) g1 (by rw [putSet_of es2 t2 rfl];rfl)
        rw [putSet_of es2 t2 rfl] at this;exact this
      have sb2:=Heap.SameBut.update (s2.heap.update S (Obj.putSet es1 t1)) S (Obj.putSet es2 t2)
      refine wpAny_pure ?_
      have:=h2 s2.toks _ xs2 _ es2 (ep + 1 + 1) t2 hno ⟨g2,ex,rfl,q4,⟨by omega,fun e=>by rw [q6] at e;cases e⟩,ex2,fun y hy=>?_,(px2.map (·.1)).nodup_iff.mpr nd1,fun z=>by rw [q5,pd];exact R.led z⟩ (px2.trans px1) (by rw [eh] at sb1 sb2 ⊢;exact sb1.trans sb2)
      · rw [← hs2] at this ⊢;exact this
      · have ry:=rows1 y (px2.mem_iff.mp hy)
        exact ry.at fun o' e=>by rw [sb2.2 y.2 (row_ne_set ry g1 rfl)];exact e
    · simp only [full,Bool.not_false,Bool.true_and,Bool.false_eq_true,if_false]
      refine wpAny_pure ?_
      have:=h2 s2.toks _ xs1 _ es1 (ep + 1) t1 hno ⟨g1,ex,rfl,T1,⟨by omega,fun e=>?_⟩,ex1,rows1,nd1,fun z=>by rw [pd];exact R.led z⟩ px1 (by rw [eh] at sb1 ⊢;exact sb1)
      · rw [← hs2] at this ⊢;exact this
      · unfold SetTable.tooFull SetTable.fill at full
        rw [T1.nod,T1.size,e] at full
        have full:¬ (7 * 3≤(es1.size + 0) * 5):=by simpa using full
        omega
end
end ST
namespace ST
open PySem PySem.Spec PyProof.Rows L2 L3 PySem.SetTable
section
variable {prog:Program} {w:World} {A:Around}
def HoldsS (zs:List (List Int × Addr)) (i:Nat) (xs:List (List Int × Addr)):Prop:=xs.length≤i∧(∀ y∈xs,y∈zs)∧∀ z∈zs.take i,z.1∈xs.map (·.1)
theorem holds_nil (zs:List (List Int × Addr)):HoldsS zs 0 []:=⟨Nat.le_refl _,fun y hy=>(nomatch hy),fun z hz=>by simp at hz⟩
theorem set_loop {R:Result→Shared→Prop} {I S:Addr} {fp wr:List Addr} {n:Nat} {P:Nat→Value→Prop} {St:Nat→Heap→Prop} (W:Walks prog w A.in1 I fp wr n P St) (hS:S ∉ fp) (hu:A.units + 32 < cLine) {zs:List (List Int × Addr)} (hn:n = zs.length) (h8:n≤8)
    (hP:∀ i v,P i v→∃ z,zs[i]? = some z∧v = Value.ref z.2) (hw:∀ z∈zs,z.2 ∉ wr∧z.2≠S) :
    ∀ (k i:Nat) (s:Shared) (xs:List (List Int × Addr)) (o:Obj) (es:Array (Int × Value)) (ep:Nat) (t:SetTable),n - i = k→i≤n→St i s.heap→SetR prog w s.heap S xs o es ep t→HoldsS zs i xs→(∀ z∈zs,RowA prog w s.heap z.1 z.2) →
      (∀ h' tk xs' o' es' ep' t',SetR prog w h' S xs' o' es' ep' t'→HoldsS zs n xs'→(∀ b o,b ∉ wr→b≠S→s.heap.get? b = some o→h'.get? b = some o)→R (.ok (.ret .none)) { s with heap:=h',toks:=tk }) →
      codeAny (model prog w) A (.builtin "set.update.loop" ⟨[.ref S,.ref I],[]⟩) R s:=by
  have hSw:S ∉ wr:=fun h=>hS (W.sub _ h)
  intro k
  induction k with
  | zero =>
    intro i s xs o es ep t hk hi st R0 H rows fin
    have e:i = n:=by omega
    subst e
    refine codeAny_builtin F.entry_set_update_loop ?_;rw [Around.under_plainId F.plain_set_update_loop _]
    show wpAny _ A.in1 (pyNext (.ref I) >>= _) _ _ s;refine wpAny_bind (W.done s _ _ st fun h' tk kp=>?_)
    refine wpAny_pure (fin h' tk xs o es ep t ?_ H fun b o hb _ e=>kp b o hb e)
    exact ⟨kp S _ hSw R0.get,R0.ex,R0.dat,R0.tab,R0.few,R0.ent,fun y hy=>(R0.rows y hy).at fun o e=>kp _ o (hw y (H.2.1 y hy)).1 e,R0.nd,R0.led⟩
  | succ k ih =>
    intro i s xs o es ep t hk hi st R0 H rows fin
    have lt:i < n:=by omega
    refine codeAny_builtin F.entry_set_update_loop ?_;rw [Around.under_plainId F.plain_set_update_loop _]
    show wpAny _ A.in1 (pyNext (.ref I) >>= _) _ _ s;refine wpAny_bind (W.item i s _ _ lt st fun v h' tk hv st' kp=>?_)
    obtain ⟨z,hz,rfl⟩:=hP i v hv
    have mz:=List.mem_of_getElem? hz
    have R1:SetR prog w h' S xs o es ep t:=⟨kp S _ hSw R0.get,R0.ex,R0.dat,R0.tab,R0.few,R0.ent,fun y hy=>(R0.rows y hy).at fun o e=>kp _ o (hw y (H.2.1 y hy)).1 e,R0.nd,R0.led⟩
    have rows1:∀ z∈zs,RowA prog w h' z.1 z.2:=fun z hz=>(rows z hz).at fun o e=>kp _ o (hw z hz).1 e
    have tk1:zs.take (i + 1) = zs.take i ++ [z]:=by rw [List.take_add_one,hz];rfl
    show wpAny _ A.in1 (holding [Value.ref z.2] (setAdd S (.ref z.2)) >>= _) _ _ { s with heap:=h',toks:=tk }
    refine wpAny_bind (wpAny_holding (add_row (A:=A.in1) (by show A.units + 1 + 16 < cLine;omega) (s:={ s with heap:=h',toks:=tk }) R1 (by have:=H.1;omega) (rows1 z mz) (fun tk2 hin=>?_) (fun tk2 h2 xs2 o2 es2 ep2 t2 hno R2 p2 sb=>?_)))
    · refine wpAny_pure ⟨plainId_quiet F.plain_set_update_loop _,ih (i + 1) { s with heap:=h',toks:=tk2 } xs o es ep t (by omega) lt st' R1 ⟨by have:=H.1;omega,H.2.1,fun y hy=>?_⟩ rows1 fun h3 tk3 xs3 o3 es3 ep3 t3 R3 H3 kp3=>?_⟩
      · rw [tk1] at hy
        rcases List.mem_append.mp hy with hy | hy
        · exact H.2.2 y hy
        · have:y = z:=by simpa using hy
          rw [this];exact hin
      · exact fin h3 tk3 xs3 o3 es3 ep3 t3 R3 H3 fun b o hb hbS e=>kp3 b o hb hbS (kp b o hb e)
    · refine wpAny_pure ⟨plainId_quiet F.plain_set_update_loop _,ih (i + 1) { s with heap:=h2,toks:=tk2 } xs2 o2 es2 ep2 t2 (by omega) lt (W.frame _ _ _ st' fun b hb o e=>?_) R2 ⟨by rw [p2.length_eq,List.length_cons];have:=H.1;omega,fun y hy=>?_,fun y hy=>?_⟩ (fun y hy=>(rows1 y hy).at fun o e=>?_) fun h3 tk3 xs3 o3 es3 ep3 t3 R3 H3 kp3=>?_⟩
      · rw [sb.2 b (fun q=>hS (by rw [← q];exact hb))];exact e
      · rcases List.mem_cons.mp (p2.mem_iff.mp hy) with e | hy
        · rw [e];exact mz
        · exact H.2.1 y hy
      · rw [tk1] at hy
        have pk:=(p2.map (·.1)).mem_iff (a:=y.1)
        rw [pk,List.map_cons,List.mem_cons]
        rcases List.mem_append.mp hy with hy | hy
        · exact .inr (H.2.2 y hy)
        · have:y = z:=by simpa using hy
          rw [this];exact .inl rfl
      · rw [sb.2 y.2 (hw y hy).2];exact e
      · exact fin h3 tk3 xs3 o3 es3 ep3 t3 R3 H3 fun b o hb hbS e=>kp3 b o hb hbS (by rw [sb.2 b hbS];exact kp b o hb e)
end
section
variable {prog:Program} {w:World} {A:Around} {E:Value→Shared→Prop} {s:Shared}
theorem fresh_ok (led:Bool):TOk (.fresh 0 0 led) #[] where
  size:=rfl
  asc:=fun i k a b _ e _=>by
    have:(#[]:Array Nat)[i]? = some a:=e
    simp at this
  nod:=rfl
  mask:=.inl rfl
  plain:=rfl
  path:=fun k e j h _=>by simp at h
theorem set_new (a:Value) {Q₁:Value→Shared→Prop} (h:∀ led:Bool,(w.params.followText "set-order" = false→led = true)→Q₁ (.ref s.heap.objs.size) { s with heap:=s.heap.push { cls:=.type "set",dict:=none,data:=.set #[] 0 (.fresh 0 0 led) } }) :
    codeAny (model prog w) A (.call (.builtin "set.__new__") ⟨[.type "set",a],[]⟩) (wants Q₁ E) s:=by
  refine codeAny_of_tree ?_;show wpAny _ A.in1 (do checkBuiltinCall "set.__new__" ⟨[.type "set",a],[]⟩;again (.builtin "set.__new__" ⟨[.type "set",a],[]⟩)) _ _ s
  refine wpAny_bind (wpAny_of_eq (F.newCall_set_1 a) (wpAny_pure ⟨plainId_quiet F.plain_set_new _,codeAny_builtin F.entry_set_new ?_⟩));rw [Around.under_plainId F.plain_set_new _]
  unfold Builtin.«set.__new__» Builtin.Frozenset.newClass;have hsub:=sub_set_self
  obtain ⟨hp,g,d,tk,os⟩:=s
  dsimp only
  wp_walk
  refine wpAny_askSetting (wpAny_pure ?_)
  dsimp only
  simp only [newObj];refine wpAny_bind (wpAny_alloc (wpAny_pure ?_))
  refine wpAny_pure (h _ fun z=>?_)
  simp only [Bool.not_eq_true'];exact z
set_option maxHeartbeats 3200000 in
theorem call_set {l:Addr} {items:Array Value} {zs:List (List Int × Addr)} {Q:Value→Shared→Prop} (hu:A.units + 48 < cLine) (hh:A.handled = none) (hl:s.heap.IsList l items) (hz:items.toList = zs.map fun z=>Value.ref z.2) (h8:zs.length≤8) (rows:∀ z∈zs,RowA prog w s.heap z.1 z.2)
    (fin:∀ h' tk xs o es ep t,SetR prog w h' s.heap.objs.size xs o es ep t→HoldsS zs zs.length xs→(∀ b o,b < s.heap.objs.size→s.heap.get? b = some o→h'.get? b = some o)→Q (.ref s.heap.objs.size) { s with heap:=h',toks:=tk }) :
    wpAny (model prog w) A (call (.type "set") [.ref l]) Q E s:=by
  obtain ⟨c,tl,hmro⟩:=F.called_set.mro
  have hmade:=F.called_set.made;have hsub:=F.called_set.sub
  refine wpAny_call (codeAny_of_tree ?_);show wpAny _ _ (callAny (.type "set") _) _ _ _
  refine wpAny_pure ⟨Code.quiet_builtin _ (by decide +kernel),codeAny_builtin F.entry_type_call ?_⟩;rw [Around.under_plain (weight_type_call_type "set" [.ref l] []) rfl]
  have h1:=F.called_set.notType;have h2:=F.called_set.canCreate;have hct:=F.typeCall_set_1 (.ref l)
  repeat (any_goals (first | wp_step | assumption))
  refine codeAny_mono (set_new (.ref l) (E:=E) (Q₁:=fun ob s1=>∃ led:Bool,(w.params.followText "set-order" = false→led = true)∧ob = .ref s.heap.objs.size∧s1 = { s with heap:=s.heap.push { cls:=.type "set",dict:=none,data:=.set #[] 0 (.fresh 0 0 led) } }) fun led hled=>⟨led,hled,rfl,rfl⟩) fun r s1 hr=>?_
  match r,hr with
  | .error e,hr=>exact hr
  | .ok (.ret ob),hr =>
    obtain ⟨led,hled,e1,e2⟩:=hr;subst e1 e2
    let O:Obj:={ cls:=.type "set",dict:=none,data:=.set #[] 0 (.fresh 0 0 led) }
    have gS:(s.heap.push O).get? s.heap.objs.size = some O:=Heap.get?_push_size _ rfl
    have hT:Shared.TypeIs { s with heap:=s.heap.push O } (.ref s.heap.objs.size) "set":=⟨_,gS,rfl⟩
    have hli:=F.called_set.init.lookup;have hbi:=F.called_set.init.bind (.ref s.heap.objs.size)
    repeat (any_goals (first | wp_step | assumption))
    refine codeAny_mono (codeAny_call_builtin (R:=wants (fun r s2=>r = .none∧∃ h' tk xs o es ep t,s2 = { s with heap:=h',toks:=tk }∧SetR prog w h' s.heap.objs.size xs o es ep t∧HoldsS zs zs.length xs∧∀ b o,b < s.heap.objs.size→s.heap.get? b = some o→h'.get? b = some o) E) F.called_set.init.plain F.entry_set_init (check_set_init_1 hT ?_)) fun r2 s2 hr2=>?_
    · obtain ⟨ol,hol,hcl,nl,hdl⟩:=hl
      obtain ⟨ocls,odict,odata,oslots⟩:=ol
      simp only at hcl hdl;subst hcl hdl
      have hol2:(s.heap.push O).get? l = some { cls:=.type "list",dict:=odict,data:=.seq items nl,slots:=oslots }:=Heap.get?_push_of_some _ hol
      have hsls:=F.sub_list_set;have hslf:=F.sub_list_frozenset
      have hne:(Value.type "list" == Value.type "dict") = false:=by decide
      have hl1:(s.heap.push O).IsList l items:=⟨_,hol2,rfl,nl,rfl⟩
      unfold Builtin.«set.__init__» noKeywords Builtin.Frozenset.updateFrom
      generalize hPI:pyIter = PI
      wp_walk
      subst hPI
      refine wpAny_pyIter_list hl1 (wpAny_bind (wpAny_runValue ?_))
      have lS:l < s.heap.objs.size:=Heap.lt_size hol
      have zl:items.size = zs.length:=by rw [← Array.length_toList,hz,List.length_map]
      have hI:(s.heap.push O).objs.size = s.heap.objs.size + 1:=Heap.size_push ..
      have push2:∀ b o,s.heap.get? b = some o→((s.heap.push O).push { cls:=.type "list_iterator",data:=.fields #[.ref l,.int 0 0] }).get? b = some o:=fun b o e=>Heap.get?_push_of_some _ (Heap.get?_push_of_some _ e)
      refine set_loop (zs:=zs) (n:=items.size) (S:=s.heap.objs.size) (Walks.list (by simp [hh]) _ l (by rw [hI];exact Nat.ne_of_lt (Nat.lt_succ_of_lt lS)) items) (by rw [hI];simp only [List.mem_cons,List.not_mem_nil,or_false,not_or];exact ⟨Nat.ne_of_lt (Nat.lt_succ_self _),Nat.ne_of_gt lS⟩) (by show _ + 32 < cLine;simp only [Around.in1];omega) zl (by omega)
        (fun i v hv=>?_) (fun z hz=>?_) (items.size - 0) 0 _ [] O #[] 0 (.fresh 0 0 led) (by omega) (Nat.zero_le _) ⟨⟨_,Heap.get?_push_size _ rfl,rfl,rfl⟩,hl1.push _⟩ ?_ (holds_nil zs) (fun z hz=>(rows z hz).at fun o e=>push2 _ o e) (fun h' tk xs o es ep t R0 H kp=>?_)
      · have hv:items[i]? = some v:=hv
        rw [← Array.getElem?_toList,hz,List.getElem?_map] at hv
        obtain ⟨z,h3,h4⟩:=Option.map_eq_some_iff.mp hv
        exact ⟨z,h3,h4.symm⟩
      · have lt:=tk_lt (rows z hz)
        rw [hI]
        simp only [List.mem_cons,List.not_mem_nil,or_false]
        exact ⟨Nat.ne_of_lt (Nat.lt_succ_of_lt lt),Nat.ne_of_lt lt⟩
      · exact ⟨Heap.get?_push_of_some _ gS,⟨rfl,rfl,rfl⟩,rfl,fresh_ok led,⟨Nat.zero_le _,fun _=>Nat.zero_le _⟩,rfl,(fun y hy=>(nomatch hy)),List.nodup_nil,hled⟩
      · refine wpAny_pure ?_
        show wpAny _ _ (ret Value.none) _ _ _;refine wpAny_pure ⟨rfl,h',tk,xs,o,es,ep,t,rfl,R0,by rw [← zl];exact H,fun b o hb e=>?_⟩
        refine kp b o ?_ (Nat.ne_of_lt hb) (push2 b o e)
        rw [hI]
        simp only [List.mem_cons,List.not_mem_nil,or_false]
        exact Nat.ne_of_lt (Nat.lt_succ_of_lt hb)
    · match r2,hr2 with
      | .error e,hr2=>exact hr2
      | .ok (.ret r),hr2 =>
        obtain ⟨e1,h',tk,xs,o,es,ep,t,e2,R0,H,kp⟩:=hr2;subst e1 e2
        repeat (any_goals (first | wp_step | assumption))
        exact fin _ _ xs o es ep t R0 H kp
      | .ok .next,hr2=>exact hr2.elim
      | .ok .brk,hr2=>exact hr2.elim
      | .ok .cont,hr2=>exact hr2.elim
  | .ok .next,hr=>exact hr.elim
  | .ok .brk,hr=>exact hr.elim
  | .ok .cont,hr=>exact hr.elim
end
end ST
namespace ST
open PySem PySem.Spec PyProof.Rows L2 L3 PySem.SetTable
theorem erase_perm {α:Type} {l:List α} {i:Nat} (h:i < l.length):(l[i] :: l.eraseIdx i).Perm l:=by
  rw [List.eraseIdx_eq_take_drop_succ]
  refine List.perm_middle.symm.trans ?_
  rw [← List.drop_eq_getElem_cons h,List.take_append_drop]
theorem pick_go {α:Type} (next:Nat→Nat):∀ (fuel k:Nat) (left:List α) (out:Array α),left.length = fuel→(pickOrder.go next fuel k left out).toList.Perm (out.toList ++ left)
  | 0,k,left,out,h=>by
    have:left = []:=List.length_eq_zero_iff.mp h
    subst this
    show out.toList.Perm _
    simp
  | fuel + 1,k,left,out,h=>by
    have lt:next k % left.length < left.length:=Nat.mod_lt _ (by omega)
    unfold pickOrder.go
    rw [List.getElem?_eq_getElem lt]
    refine (pick_go next fuel (k + 1) _ _ (by rw [List.length_eraseIdx_of_lt lt];omega)).trans ?_
    rw [Array.toList_push,List.append_assoc]
    exact (List.Perm.append_left _ (erase_perm lt))
theorem pick_perm {α:Type} (next:Nat→Nat) (xs:Array α):(pickOrder next xs).toList.Perm xs.toList:=by
  have:=pick_go next xs.size 0 xs.toList #[] (by simp)
  simpa [pickOrder] using this
section
variable {w:World}
noncomputable def walkOf (w:World) (S:Addr) (es:Array (Int × Value)) (ep:Nat):List Value:=if w.params.followText "set-order" = true then (pickOrder (w.params.setOrder S ep) es).toList.map (·.2) else es.toList.map (·.2)
theorem walk_perm (S:Addr) (es:Array (Int × Value)) (ep:Nat):(walkOf w S es ep).Perm (es.toList.map (·.2)):=by
  unfold walkOf
  split
  · exact (pick_perm _ es).map _
  · exact .refl _
end
theorem slot_si_next:Slot "set_iterator" "__next__" "set_iterator.__next__":=.of (owner:="set_iterator") (n:="__next__") (by rw [typeLookup_type,builtinLookup_eq_fast];kernel_rfl) (by decide +kernel) (by decide +kernel) (by decide +kernel) (by first | exact .inl (by decide +kernel) | exact .inr (by decide +kernel)) (by rw [isSubtype_type];kernel_rfl)
theorem entry_si_next:entryFor table "set_iterator.__next__" = some Builtin.«set_iterator.__next__»:=entryFor_of_tree (by kernel_rfl)
theorem owner_si:Manifest.owners.lookup (String.ofList ['r','o','t','a','r','e','t','i','_','t','e','s'].reverse) = some Manifest.sig_set_iterator:=by kernel_rfl
theorem args_si_next (a:Value):argsOk "set_iterator.__next__" ⟨[a],[]⟩:=by
  unfold argsOk;rw [signature?_of (id:="set_iterator.__next__") (n:=['_','_','t','x','e','n','_','_']) (o:=['r','o','t','a','r','e','t','i','_','t','e','s']) (by kernel_rfl) owner_si];kernel_rfl
theorem slot_si_iter:Slot "set_iterator" "__iter__" "set_iterator.__iter__":=.of (owner:="set_iterator") (n:="__iter__") (by rw [typeLookup_type,builtinLookup_eq_fast];kernel_rfl) (by decide +kernel) (by decide +kernel) (by decide +kernel) (by first | exact .inl (by decide +kernel) | exact .inr (by decide +kernel)) (by rw [isSubtype_type];kernel_rfl)
theorem entry_set_it:entryFor table "set.__iter__" = some Builtin.«frozenset.__iter__»:=entryFor_alias (id':="frozenset.__iter__") (by kernel_rfl) rfl (by decide +kernel) (by kernel_rfl)
section
variable {prog:Program} {w:World} {A:Around} {E:Value→Shared→Prop} {s:Shared}
structure SetO (w:World) (h:Heap) (S:Addr) (es:Array (Int × Value)) (ep:Nat) (t:SetTable):Prop where
  obj:∃ o,h.get? S = some o∧o.ExactSet∧o.data = .set es ep t
  tab:TOk t es
  fits:t.fits es.size = true
  led:w.params.followText "set-order" = false→t.led = true
def IsIt (w:World) (h:Heap) (it S:Addr) (es:Array (Int × Value)) (ep:Nat) (t:SetTable) (i:Nat):Prop :=
  ∃ slot:Nat,(w.params.followText "set-order" = false→below t.place slot = i)∧h.get? it = some { cls:=.type "set_iterator",data:=.fields #[rawInt slot,rawInt i,.ref S,rawInt es.size,rawInt ep] }
theorem IsIt.typeIs {it S:Addr} {es:Array (Int × Value)} {ep:Nat} {t:SetTable} {i:Nat} (h:IsIt w s.heap it S es ep t i):s.TypeIs (.ref it) "set_iterator":=let ⟨_,_,g⟩:=h;⟨_,g,rfl⟩
theorem set_next {it S:Addr} {es:Array (Int × Value)} {ep:Nat} {t:SetTable} {i:Nat} {v:Value} {Q:Option Value→Shared→Prop} (hne:it≠S) (st:IsIt w s.heap it S es ep t i) (so:SetO w s.heap S es ep t) (hv:(walkOf w S es ep)[i]? = some v)
    (hQ:∀ h',IsIt w h' it S es ep t (i + 1)→Heap.SameBut it s.heap h'→Q (some v) { s with heap:=h' }):wpAny (model prog w) A (pyNext (.ref it)) Q E s:=by
  have hT:=st.typeIs
  obtain ⟨slot,hsl,gi⟩:=st
  obtain ⟨o,go,ex,hd⟩:=so.obj
  unfold pyNext
  refine wpAny_bind (wpAny_attempt (wpAny_callSpecial?_slot (name:=Str.ofString "__next__") hT slot_si_next (wpAny_call_entry slot_si_next hT entry_si_next ?_ (args_si_next _))))
  unfold Builtin.«set_iterator.__next__»
  refine wpAny_bind (wpAny_pure ?_)
  refine wpAny_bind (wpAny_fieldsOf gi rfl ?_)
  show wpAny _ _ (setEntries S >>= _) _ _ s
  refine wpAny_bind (wpAny_setEntries_of go hd so.fits ?_)
  have e0:((es.size:Int) != (es.size:Int)) = false:=by simp
  simp only [e0,Bool.false_eq_true,if_false]
  show wpAny _ _ (setNext S slot i ep >>= _) _ _ s
  have upd2:∀ next:Nat,(w.params.followText "set-order" = false→below t.place next = i + 1)→wpAny (model prog w) A.in1 (do
      setField (.ref it) 0 (rawInt next)
      setField (.ref it) 1 (rawInt ((i:Int) + 1))
      ret v) (fun fin s'=>∃ v,fin = Fin.done (Flow.ret v)∧wpAny (model prog w) A (pure (some v)) Q E s') (fun e s'=>wpAny (model prog w) A (match (Except.error e:Except Value (Option Value)) with
        | Except.ok (some v)=>pure (some v)
        | Except.ok none=>unsupported "iter:the-iterator's-class-has-lost-its-__next__-amid-the-walk"
        | Except.error e=>do
          let __do_lift ← isInstance e (Value.type "StopIteration")
          if __do_lift = true then pure none else throw e) Q E s') s:=by
    intro next hnx
    refine wpAny_bind (wpAny_setField gi rfl (by simp) ?_)
    have g1:(s.heap.update it (Obj.mapFields (·.setIfInBounds 0 (rawInt next)))).get? it = some { cls:=.type "set_iterator",data:=.fields #[rawInt next,rawInt i,.ref S,rawInt es.size,rawInt ep] }:=by
      rw [Heap.get?_update_self _ gi rfl];rfl
    refine wpAny_bind (wpAny_setField (s:={ s with heap:=s.heap.update it (Obj.mapFields (·.setIfInBounds 0 (rawInt next))) }) g1 rfl (by simp) ?_)
    refine wpAny_pure ⟨v,rfl,wpAny_pure (hQ _ ⟨next,hnx,?_⟩ ((Heap.SameBut.update ..).trans (Heap.SameBut.update ..)))⟩
    rw [Heap.get?_update_self _ g1 rfl];rfl
  unfold setNext;refine wpAny_bind (wpAny_bind (wpAny_setState_of go hd so.fits ?_))
  unfold setsByText;refine wpAny_bind (wpAny_bind (wpAny_askSetting (wpAny_pure ?_)))
  by_cases bt:w.params.followText "set-order" = true
  · simp only [show (model prog w).w.params.followText "set-order" = true from bt,if_true]
    have e1:(ep != ep) = false:=by simp
    simp only [e1,Bool.false_eq_true,if_false]
    unfold setWalk;refine wpAny_bind (wpAny_bind (wpAny_setState_of go hd so.fits ?_))
    unfold setsByText;refine wpAny_bind (wpAny_bind (wpAny_askSetting (wpAny_pure ?_)))
    simp only [show (model prog w).w.params.followText "set-order" = true from bt,if_true]
    refine wpAny_bind (wpAny_askSetting (wpAny_pure ?_))
    refine wpAny_pure ?_
    have hv2:((pickOrder (w.params.setOrder S ep) es)[i]?).map (fun e=>(e.2,slot)) = some (v,slot):=by
      unfold walkOf at hv
      rw [if_pos bt,List.getElem?_map,Array.getElem?_toList] at hv
      obtain ⟨e,h1,h2⟩:=Option.map_eq_some_iff.mp hv
      rw [h1,← h2];rfl
    have hv3:((pickOrder ((model prog w).w.params.setOrder S ep) es)[i]?).map (fun e=>(e.2,slot)) = some (v,slot):=hv2
    simp only [hv3]
    exact upd2 slot fun h=>by rw [bt] at h;cases h
  · have bt:w.params.followText "set-order" = false:=by simpa using bt
    simp only [show (model prog w).w.params.followText "set-order" = false from bt,Bool.false_eq_true,if_false]
    refine wpAny_ite_split (fun hab=>absurd hab ?_) (fun _=>?_)
    · show ¬ ((!t.plain && decide (es.size > 1)) = true)
      rw [so.tab.plain];simp
    refine wpAny_bind ?_
    show wpAny _ _ (if (!t.led && !es.isEmpty) = true then _ else pure ()) _ _ s
    rw [so.led bt,if_neg (by simp)]
    refine wpAny_pure (wpAny_pure ?_)
    have hsl:=hsl bt
    unfold walkOf at hv
    rw [if_neg (by rw [bt];decide),List.getElem?_map,Array.getElem?_toList] at hv
    obtain ⟨e,h1,h2⟩:=Option.map_eq_some_iff.mp hv
    have hlt:i < t.place.size:=by rw [so.tab.size];exact (Array.getElem?_eq_some_iff.mp h1).1
    have gp:t.place[i]? = some t.place[i]:=Array.getElem?_eq_getElem hlt
    obtain ⟨eh,ev⟩:=e
    have h2:ev = v:=h2
    subst h2
    simp only [hsl,h1,gp]
    refine upd2 (t.place[i] + 1) fun _=>?_
    obtain ⟨b1,b2,b3⟩:=below_spec so.tab.asc (t.place[i] + 1)
    rcases Nat.lt_trichotomy (below t.place (t.place[i] + 1)) (i + 1) with q | q | q
    · have:=b3 i _ (by omega) gp
      omega
    · exact q
    · have hl2:i + 1 < t.place.size:=by omega
      have g2:t.place[i + 1]? = some t.place[i + 1]:=Array.getElem?_eq_getElem hl2
      have c1:=b2 (i + 1) _ q g2
      have c2:=so.tab.asc i (i + 1) _ _ (by omega) gp g2
      omega
end
end ST
namespace ST
open PySem PySem.Spec PyProof.Rows L2 L3 PySem.SetTable
section
variable {prog:Program} {w:World} {A:Around} {E:Value→Shared→Prop} {s:Shared}
theorem walk_len (S:Addr) (es:Array (Int × Value)) (ep:Nat):(walkOf w S es ep).length = es.size:=by
  rw [(walk_perm S es ep).length_eq];simp
theorem set_end {it S:Addr} {es:Array (Int × Value)} {ep:Nat} {t:SetTable} {i:Nat} {Q:Option Value→Shared→Prop} (hh:A.handled = none) (hne:it≠S) (st:IsIt w s.heap it S es ep t i) (so:SetO w s.heap S es ep t) (hi:es.size≤i)
    (hQ:∀ h',Heap.ExtBut it s.heap h'→Q none { s with heap:=h' }):wpAny (model prog w) A (pyNext (.ref it)) Q E s:=by
  have hT:=st.typeIs
  obtain ⟨slot,hsl,gi⟩:=st
  obtain ⟨o,go,ex,hd⟩:=so.obj
  unfold pyNext
  refine wpAny_bind (wpAny_attempt (wpAny_callSpecial?_slot (name:=Str.ofString "__next__") hT slot_si_next (wpAny_call_entry slot_si_next hT entry_si_next ?_ (args_si_next _))))
  unfold Builtin.«set_iterator.__next__»
  refine wpAny_bind (wpAny_pure ?_)
  refine wpAny_bind (wpAny_fieldsOf gi rfl ?_)
  show wpAny _ _ (setEntries S >>= _) _ _ s
  refine wpAny_bind (wpAny_setEntries_of go hd so.fits ?_)
  have e0:((es.size:Int) != (es.size:Int)) = false:=by simp
  simp only [e0,Bool.false_eq_true,if_false]
  show wpAny _ _ (setNext S slot i ep >>= _) _ _ s
  have stop:wpAny (model prog w) A.in1 (do
      setField (.ref it) 2 Value.none
      let ex ← newExc (Value.type "StopIteration") []
      raiseNew ex:Sem PySem.Fin) (fun fin s'=>∃ v,fin = Fin.done (Flow.ret v)∧wpAny (model prog w) A (pure (some v)) Q E s') (fun e s'=>wpAny (model prog w) A (match (Except.error e:Except Value (Option Value)) with
        | Except.ok (some v)=>pure (some v)
        | Except.ok none=>unsupported "iter:the-iterator's-class-has-lost-its-__next__-amid-the-walk"
        | Except.error e=>do
          let __do_lift ← isInstance e (Value.type "StopIteration")
          if __do_lift = true then pure none else throw e) Q E s') s:=by
    refine wpAny_bind (wpAny_setField gi rfl (by simp) ?_)
    refine wpAny_bind ?_
    simp only [newExc,newTuple]
    refine wpAny_bind (wpAny_newObj_type ?_ (by size_fits));refine wpAny_bind (m:=firstArgMember _ _) (wpAny_of_eq (a:=Value.none) (by first | rfl | (simp only [firstArgMember];rfl)) ?_)
    refine wpAny_newObj_type ?_ (by size_fits);simp only [raiseNew]
    refine wpAny_bind (wpAny_handled ?_);rw [show A.in1.handled = none from hh]
    refine wpAny_bind (wpAny_pure (wpAny_throw ?_));refine wpAny_bind (wpAny_isInstance (T:="StopIteration") (b:=true) ⟨_,Heap.get?_push_size _ rfl,rfl⟩ isSubtype_stop ?_)
    exact wpAny_pure (hQ _ (((Heap.SameBut.update ..).extBut.push _).push _))
  unfold setNext;refine wpAny_bind (wpAny_bind (wpAny_setState_of go hd so.fits ?_))
  unfold setsByText;refine wpAny_bind (wpAny_bind (wpAny_askSetting (wpAny_pure ?_)))
  by_cases bt:w.params.followText "set-order" = true
  · simp only [show (model prog w).w.params.followText "set-order" = true from bt,if_true]
    have e1:(ep != ep) = false:=by simp
    simp only [e1,Bool.false_eq_true,if_false]
    unfold setWalk;refine wpAny_bind (wpAny_bind (wpAny_setState_of go hd so.fits ?_))
    unfold setsByText;refine wpAny_bind (wpAny_bind (wpAny_askSetting (wpAny_pure ?_)))
    simp only [show (model prog w).w.params.followText "set-order" = true from bt,if_true]
    refine wpAny_bind (wpAny_askSetting (wpAny_pure ?_))
    refine wpAny_pure ?_
    have hv3:((pickOrder ((model prog w).w.params.setOrder S ep) es)[i]?).map (fun e=>(e.2,slot)) = none:=by
      have:(pickOrder ((model prog w).w.params.setOrder S ep) es).size = es.size:=by
        rw [← Array.length_toList,(pick_perm _ es).length_eq,Array.length_toList]
      rw [Array.getElem?_eq_none (by omega)];rfl
    simp only [hv3]
    exact stop
  · have bt:w.params.followText "set-order" = false:=by simpa using bt
    simp only [show (model prog w).w.params.followText "set-order" = false from bt,Bool.false_eq_true,if_false]
    refine wpAny_ite_split (fun hab=>absurd hab ?_) (fun _=>?_)
    · show ¬ ((!t.plain && decide (es.size > 1)) = true)
      rw [so.tab.plain];simp
    refine wpAny_bind ?_
    show wpAny _ _ (if (!t.led && !es.isEmpty) = true then _ else pure ()) _ _ s
    rw [so.led bt,if_neg (by simp)]
    refine wpAny_pure (wpAny_pure ?_)
    have hsl:=hsl bt
    have gn:es[i]? = none:=Array.getElem?_eq_none hi
    simp only [hsl,gn]
    exact stop
theorem set_hint {S:Addr} {Q:Bool→Shared→Prop} (hT:s.TypeIs (.ref S) "set") (h:Q false s):wpAny (model prog w) A (Builtin.List.listLengthHint (.ref S)) Q E s:=by
  unfold Builtin.List.listLengthHint;refine wpAny_bind (wpAny_specialOf hT PySem.F.slot_set_len.lookup ?_)
  generalize hid:("set.__len__":String) = id0
  wp_delta
  rw [show splitId id0 = some ("set","__len__") from by subst hid;decide +kernel]
  subst hid
  refine wpAny_bind (wpAny_isInstance (T:="set") (b:=true) hT (by rw [isSubtype_type];kernel_rfl) ?_)
  refine wpAny_ite_split (fun hab=>absurd hab (by decide)) (fun _=>?_);refine wpAny_ite_split (fun _=>?_) (fun hab=>absurd (by decide +kernel) hab)
  exact wpAny_bind (wpAny_typeOf hT (wpAny_pure h))
theorem SetO.typeIs {S:Addr} {es:Array (Int × Value)} {ep:Nat} {t:SetTable} (so:SetO w s.heap S es ep t):s.TypeIs (.ref S) "set":=let ⟨o,g,e,_⟩:=so.obj;⟨o,g,e.1⟩
theorem set_iter {S:Addr} {es:Array (Int × Value)} {ep:Nat} {t:SetTable} {Q:Value→Shared→Prop} (so:SetO w s.heap S es ep t)
    (hQ:Q (.ref s.heap.objs.size) { s with heap:=s.heap.push { cls:=.type "set_iterator",data:=.fields #[rawInt 0,rawInt 0,.ref S,rawInt es.size,rawInt ep] } }):wpAny (model prog w) A (pyIter (.ref S)) Q E s:=by
  have hT:=so.typeIs
  obtain ⟨o,go,ex,hd⟩:=so.obj
  refine wpAny_pyIter_slot hT F.slot_set_iter (wpAny_call_entry F.slot_set_iter hT entry_set_it ?_ (F.args_set_iter_1 _))
  unfold Builtin.«frozenset.__iter__»
  refine wpAny_bind (wpAny_pure ?_)
  unfold Builtin.Frozenset.sizeOf;refine wpAny_bind (wpAny_bind (wpAny_setEntries_of go hd so.fits (wpAny_pure ?_)))
  unfold setDrawn;refine wpAny_bind (wpAny_bind (wpAny_setState_of go hd so.fits ?_))
  unfold setsByText;refine wpAny_bind (wpAny_bind (wpAny_askSetting (wpAny_pure ?_)))
  refine wpAny_pure ?_
  refine wpAny_ite_split (fun hab=>absurd hab ?_) (fun _=>?_)
  · show ¬ ((!_ && (!t.plain && decide (es.size > 1))) = true)
    rw [so.tab.plain];simp
  refine wpAny_bind (wpAny_pure ?_)
  show wpAny _ _ (setEpoch S >>= _) _ _ s
  refine wpAny_bind (wpAny_setEpoch_of go hd so.fits ?_)
  unfold newFields
  refine wpAny_bind (wpAny_newObj_type (wpAny_pure ⟨_,rfl,"set_iterator",_,⟨_,Heap.get?_push_size _ rfl,rfl⟩,slot_si_next.lookup,?_⟩))
  exact hQ
theorem entry_si_iter:entryFor table "set_iterator.__iter__" = some Builtin.«dict_keyiterator.__iter__»:=entryFor_alias (id':="dict_keyiterator.__iter__") (by kernel_rfl) rfl (by decide +kernel) (by kernel_rfl)
theorem args_si_iter (a:Value):argsOk "set_iterator.__iter__" ⟨[a],[]⟩:=by
  unfold argsOk;rw [signature?_of (id:="set_iterator.__iter__") (n:=['_','_','r','e','t','i','_','_']) (o:=['r','o','t','a','r','e','t','i','_','t','e','s']) (by kernel_rfl) owner_si];kernel_rfl
theorem si_self {it S:Addr} {es:Array (Int × Value)} {ep:Nat} {t:SetTable} {i:Nat} {Q:Value→Shared→Prop} (st:IsIt w s.heap it S es ep t i) (hQ:Q (.ref it) s):wpAny (model prog w) A (pyIter (.ref it)) Q E s:=by
  refine wpAny_pyIter_slot st.typeIs slot_si_iter (wpAny_call_entry slot_si_iter st.typeIs entry_si_iter ?_ (args_si_iter _));show wpAny _ _ (ret (.ref it)) _ _ s
  exact wpAny_pure ⟨_,rfl,"set_iterator",_,st.typeIs,slot_si_next.lookup,hQ⟩
theorem src_set {S:Addr} {es:Array (Int × Value)} {ep:Nat} {t:SetTable}:PySem.W.KdlSrc prog w "set" S S es.size (fun i v=>(walkOf w S es ep)[i]? = some v) (fun h=>SetO w h S es ep t) where
  type:=fun s so=>so.typeIs
  there:=fun h so=>let ⟨o,g,_⟩:=so.obj;⟨Heap.lt_size g,Heap.lt_size g⟩
  keep:=fun h g so k=>⟨let ⟨o,a1,a2,a3⟩:=so.obj;⟨o,k S (.inl rfl) o a1,a2,a3⟩,so.tab,so.fits,so.led⟩
  notList:=by decide
  notTuple:=by decide
  hint:=fun A E s Q so hq=>set_hint so.typeIs hq
  iter:=fun A s hh so=>by
    obtain ⟨o,go,ex,hd⟩:=so.obj
    have ne:s.heap.objs.size≠S:=Nat.ne_of_gt (Heap.lt_size go)
    refine ⟨_,fun i h=>IsIt w h s.heap.objs.size S es ep t i∧SetO w h S es ep t,fun E Q hq=>set_iter so hq,?_,⟨⟨0,fun _=>?_,Heap.get?_push_size _ rfl⟩,⟨⟨o,Heap.get?_push_of_some _ go,ex,hd⟩,so.tab,so.fits,so.led⟩⟩⟩
    · exact {
        sub:=fun b hb=>by simp at hb;simp [hb]
        frame:=fun i h g st k=>by
          obtain ⟨⟨slot,h1,h2⟩,h3⟩:=st
          obtain ⟨o',a1,a2,a3⟩:=h3.obj
          exact ⟨⟨slot,h1,k _ (by simp) _ h2⟩,⟨⟨o',k S (by simp) _ a1,a2,a3⟩,h3.tab,h3.fits,h3.led⟩⟩
        item:=fun i s1 Q E hi st hQ=>by
          have hl:i < (walkOf w S es ep).length:=by rw [walk_len];exact hi
          refine set_next ne st.1 st.2 (List.getElem?_eq_getElem hl) fun g st' sb=>?_
          obtain ⟨o',a1,a2,a3⟩:=st.2.obj
          exact hQ _ g s1.toks (List.getElem?_eq_getElem hl) ⟨st',⟨⟨o',(sb.2 S (Ne.symm ne)).trans a1,a2,a3⟩,so.tab,so.fits,so.led⟩⟩ fun b o hb e=>(sb.2 b (fun z=>hb (by simp [z]))).trans e
        done:=fun s1 Q E st hQ=>set_end hh ne st.1 st.2 (Nat.le_refl _) fun g eb=>hQ g s1.toks fun b o hb e=>eb b o (fun z=>hb (by simp [z])) e
        self:=fun i s1 Q E st hQ=>si_self st.1 hQ }
    · obtain ⟨b1,b2,b3⟩:=below_spec so.tab.asc 0
      rcases Nat.eq_zero_or_pos (below t.place 0) with q | q
      · exact q
      · have hl:0 < t.place.size:=by omega
        have g0:t.place[0]? = some t.place[0]:=Array.getElem?_eq_getElem hl
        have:=b2 0 _ q g0
        omega
end
end ST
namespace ST
open PySem PySem.Spec PyProof.Rows L2 L3 PySem.SetTable
theorem lex_before:∀ {x y:List Int},x.length = y.length→PyProof.Rows.lexLt itemOrd (x.map Sum.inl) (y.map Sum.inl) = Sa83.before x y
  | [],[],_=>rfl
  | a :: x,b :: y,h=>by
    have ih:=lex_before (x:=x) (y:=y) (by simpa using h)
    rw [List.map_cons,List.map_cons,lex_cons,ih]
    show (decide (a < b) || (!decide (b < a) && Sa83.before x y)) = (decide (a < b) || (a == b && Sa83.before x y))
    rcases Int.lt_trichotomy a b with q | q | q
    · simp [q]
    · subst q;simp
    · have h1:¬ a < b:=by omega
      have h2:¬ a = b:=by omega
      simp [h1,h2,q]
section
variable {prog:Program} {w:World} {A:Around} {E:Value→Shared→Prop} {s:Shared}
theorem items_key:∀ {x:List Int} {vs:List Value} (i:Nat),ItemsAre (mixKind prog w) (kI x) vs→tupItems (fun _=>false) i vs = some (x.map Sum.inl)
  | [],_,_,.nil=>rfl
  | n :: x,_,i,.cons h r=>by
    have ih:=items_key (i + 1) r
    have hk:keyIs (Sum.inl n) _ = true:=h
    rcases keyIs_shape hk with ⟨j,t,ej,e⟩ | ⟨y,t,e,_⟩
    · subst e
      cases ej
      simp [tupItems,ih]
    · cases e
theorem row_key {h:Heap} {x:List Int} {a:Addr} (r:RowA prog w h x a):G.tupKeyC h (fun _=>false) (.ref a) = some (x.map Sum.inl):=by
  obtain ⟨o,items,n,ho,hc,hd,hi⟩:=(show IsTupleKey (mixKind prog w) h (kI x) a from r)
  unfold G.tupKeyC G.isTupObj tupKey
  simp only [ho,hc,hd]
  simpa using items_key 0 hi
theorem row_tup {h:Heap} {x:List Int} {a:Addr} (r:RowA prog w h x a) (hx:x≠[]):∃ f,TupOf h (fun _=>false) (.ref a) f:=by
  obtain ⟨o,items,n,ho,hc,hd,hi⟩:=(show IsTupleKey (mixKind prog w) h (kI x) a from r)
  have hin:=items_int hi
  cases x with
  | nil=>exact absurd rfl hx
  | cons k x =>
    generalize hl:items.toList = l at hi hin
    cases hi with
    | cons h1 h2 =>
      rename_i v vs
      refine ⟨v,a,o,items,n,rfl,ho,hc,hd,?_,fun _=>hin v (by simp),fun q=>by cases q⟩
      rw [← Array.getElem?_toList,hl];rfl
theorem rows_tups {h:Heap}:∀ {zs:List (List Int × Addr)},(∀ z∈zs,RowA prog w h z.1 z.2)→(∀ z∈zs,z.1≠[])→∃ fs,TupsOf h (fun _=>false) (zs.map fun z=>Value.ref z.2) fs
  | [],_,_=>⟨[],.nil⟩
  | z :: zs,h1,h2=>by
    obtain ⟨f,hf⟩:=row_tup (h1 z (by simp)) (h2 z (by simp))
    obtain ⟨fs,hfs⟩:=rows_tups (fun y hy=>h1 y (by simp [hy])) (fun y hy=>h2 y (by simp [hy])) (zs:=zs)
    exact ⟨f :: fs,.cons hf hfs⟩
theorem sort_rows {a:Addr} {zs:List (List Int × Addr)} {d m:Nat} {P:Fin→Shared→Prop} (ho:s.heap.get? a = some (seqObj "list" (zs.map fun z=>Value.ref z.2).toArray m)) (hk:∀ z∈zs,RowA prog w s.heap z.1 z.2) (hd:∀ z∈zs,z.1.length = d) (h1:1≤d) (h64:zs.length≤64)
    (h:∀ ys:List (List Int × Addr),ys.Perm zs→ys.Pairwise (fun x y=>Sa83.before y.1 x.1 = false)→P (.done (.ret .none)) { s with heap:=sortedHeap s.heap a (zs.map fun z=>Value.ref z.2) (ys.map fun z=>Value.ref z.2).toArray }) :
    wpAny (model prog w) A (Builtin.«list.sort» ⟨[.ref a],[]⟩) P E s:=by
  obtain ⟨fs,ht⟩:=rows_tups hk fun z hz q=>by have:=hd z hz;rw [q] at this;simp at this;omega
  refine G.list_sort_tups ho ht (fun v hv=>?_) (by rw [List.length_map,sizeLine_eq];omega) fun st' p1 p2 p3=>?_
  · obtain ⟨z,hz,rfl⟩:=List.mem_map.mp hv
    exact ⟨_,row_key (hk z hz)⟩
  · have q1:(arrOf st').toList.Perm (zs.map fun z=>(Value.ref z.2,Value.ref z.2)):=by
      have:=p1.toList
      rw [pairsOf_toList] at this
      have e:((zs.map fun z=>Value.ref z.2).zip (zs.map fun z=>Value.ref z.2)) = zs.map fun z=>(Value.ref z.2,Value.ref z.2):=by
        rw [List.zip_map']
      rw [e] at this
      exact this
    obtain ⟨ys,py,ey⟩:=perm_map q1 (xs:=zs) rfl
    have eo:(arrOf st').map (·.2) = (ys.map fun z=>Value.ref z.2).toArray:=by
      apply Array.toList_inj.mp
      rw [Array.toList_map,ey,List.map_map]
      rfl
    rw [eo]
    refine h ys py ?_
    have sz:(pairsOf (zs.map fun z=>Value.ref z.2)).size = (arrOf st').size:=p1.size_eq.symm
    rw [sz] at p2
    have pw:=sm_pw_of_sorted p2
    rw [ey,List.pairwise_map] at pw
    refine pw.imp_of_mem fun {x y} hx hy q=>?_
    have mx:=py.mem_iff.mp hx
    have my:=py.mem_iff.mp hy
    have q:PyProof.Rows.lexLt itemOrd (sm_kq (G.tupKindC s.heap fun _=>false) (Value.ref y.2,Value.ref y.2)) (sm_kq (G.tupKindC s.heap fun _=>false) (Value.ref x.2,Value.ref x.2)) = false:=q
    have k1:sm_kq (G.tupKindC s.heap fun _=>false) (Value.ref y.2,Value.ref y.2) = y.1.map Sum.inl:=by
      unfold sm_kq;show (G.tupKeyC s.heap (fun _=>false) (.ref y.2)).getD [] = _;rw [row_key (hk y my)];rfl
    have k2:sm_kq (G.tupKindC s.heap fun _=>false) (Value.ref x.2,Value.ref x.2) = x.1.map Sum.inl:=by
      unfold sm_kq;show (G.tupKeyC s.heap (fun _=>false) (.ref x.2)).getD [] = _;rw [row_key (hk x mx)];rfl
    rw [k1,k2,lex_before (by rw [hd y my,hd x mx])] at q
    exact q
end
section
variable {X:Cx}
theorem row_of {H:Hp} {h:Heap} {P:Program} {w:World} {x:List Int} {a:Addr} (ok:HOk P w H h) (e:H a = some (.tup (x.map V.int))):RowA P w h x a:=by
  refine key_of ok ?_
  have:(kI x).map kV = x.map V.int:=by rw [kI,List.map_map];rfl
  rw [this];exact e
theorem sorted_go {pins:List (Addr × Obj)} {σ:L2.St} {H:Hp} {s:Shared} {Q:VK} {r:Addr} {zs:List (List Int × Addr)} {d:Nat} (I:Inv X pins σ H s) (hk:∀ z∈zs,H z.2 = some (.tup (z.1.map V.int))) (hd:∀ z∈zs,z.1.length = d) (h1:1≤d) (h64:zs.length≤64)
    (hcol:∀ (R:List Value→Shared→Prop) (E:Value→Shared→Prop),(∀ (g:Heap) (tk:Nat) (zs':List (List Int × Addr)),zs'.Perm zs→s.heap.objs.size≤g.objs.size→(∀ b o,s.heap.get? b = some o→g.get? b = some o)→R (zs'.map fun z=>Value.ref z.2) { s with heap:=g,toks:=tk })→wpAny (model X.prog X.w) X.A.in1 (collect (.ref r)) R E s)
    (q:∀ (ys:List (List Int × Addr)) (p:Addr),ys.Perm zs→ys.Pairwise (fun x y=>Sa83.before y.1 x.1 = false)→H p = none→Q (.ref p) (upd H p (.lst (ys.map fun y=>V.ref y.2)))) :
    wpAny (model X.prog X.w) X.A (call (.builtin "sorted") [.ref r]) (EP X pins σ Q) X.xe s:=by
  refine Calls.call_function_entry kind_sorted plain_sorted entry_sorted (args_sorted1 _) ?_
  unfold Builtin.«sorted»;refine wpAny_bind (m:=checkCount "sorted" 1 1 _) (wpAny_pure ?_)
  refine wpAny_bind (hcol _ _ fun g tk zs' pz sz kp=>?_)
  have lz:zs'.length = zs.length:=pz.length_eq
  have sm:zs'.length≤sizeLine:=by rw [sizeLine_eq];omega
  refine wpAny_bind (wpAny_newList ?_ (by rw [List.length_map];exact sm))
  have hoL:(g.push (seqObj "list" (zs'.map fun x=>Value.ref x.2).toArray 0)).get? g.objs.size = some (seqObj "list" (zs'.map fun x=>Value.ref x.2).toArray 0):=Heap.get?_push_size _ rfl
  have kp2:∀ b u,s.heap.get? b = some u→(g.push (seqObj "list" (zs'.map fun x=>Value.ref x.2).toArray 0)).get? b = some u:=fun b u e=>Heap.get?_push_of_some _ (kp b u e)
  show wpAny _ _ _ _ _ { s with heap:=g.push (seqObj "list" (zs'.map fun x=>Value.ref x.2).toArray 0),toks:=tk }
  refine wpAny_bind (wpAny_holding (wpAny_call_entry slot_list_sort ⟨_,hoL,rfl⟩ entry_list_sort (sort_rows (zs:=zs') hoL (fun z hz=>row_of (I.hok.kept kp2) (hk z (pz.mem_iff.mp hz))) (fun z hz=>hd z (pz.mem_iff.mp hz)) h1 (by omega) fun ys p1 p2=>⟨_,rfl,?ret⟩) (args_list_sort _)))
  case ret =>
    refine wpAny_pure ⟨_,rfl,?_⟩
    obtain ⟨ep2,he⟩:=sortedHeap_at (out:=(ys.map fun x=>Value.ref x.2).toArray) hoL
    have lys:ys.length = zs'.length:=p1.length_eq
    refine ⟨.ref g.objs.size,_,I.laid (t':=tk) (a:=g.objs.size) (o:=.lst (ys.map fun y=>V.ref y.2)) (fun b u e=>?_) sz ⟨by rw [List.length_map,lys];exact sm,_,ep2,?_,he⟩,rfl,q ys _ (p1.trans pz) p2 (I.hok.fresh sz)⟩
    · have lb:b < g.objs.size:=Heap.lt_size (kp b u e)
      rw [sortedHeap_old (Nat.ne_of_lt lb) (by rw [size_push'];exact Nat.lt_succ_of_lt lb)]
      exact kp2 b u e
    · have:=vals_refs (ys.map (·.2))
      rw [List.map_map,List.map_map] at this
      exact this
def rSortedT (K:PySem.W.Frag):List V→Hp→VK→Prop:=fun vs H Q=>∃ (a:Addr) (zs:List (List Int × Addr)) (d:Nat),vs = [V.ref a]∧SqL K H a (zs.map fun z=>V.ref z.2)∧(∀ z∈zs,H z.2 = some (.tup (z.1.map V.int)))∧(∀ z∈zs,z.1.length = d)∧1≤d∧zs.length≤64 ∧
  ∀ (ys:List (List Int × Addr)) (p:Addr),ys.Perm zs→ys.Pairwise (fun x y=>Sa83.before y.1 x.1 = false)→H p = none→Q (.ref p) (upd H p (.lst (ys.map fun y=>V.ref y.2)))
theorem cr_sortedT:CallR X (.builtin "sorted") (rSortedT X.K):=by
  intro pins s σ H vs us Q I r h
  obtain ⟨a,zs,d,rfl,hq,hk,hd,h1,h64,q⟩:=h
  rw [Vals.ref1 r]
  obtain ⟨its,rv,pl,hz⟩:=I.list hq
  have ei:=refs_at (ps:=zs.map (·.2)) (by rw [List.map_map];exact rv)
  subst ei
  refine sorted_go I hk hd h1 h64 (fun R E hR=>?_) q
  obtain ⟨o,n,ho,hc,hdd,hdat⟩:=pl
  refine collect_list (vs:=(zs.map (·.2)).map Value.ref) ⟨o,ho,hc,n,hdat⟩ ?_
  have e:(zs.map (·.2)).map Value.ref = zs.map fun z=>Value.ref z.2:=by rw [List.map_map];rfl
  have:=hR ((s.heap.push (seqObj "list" #[] 0)).update s.heap.objs.size (Obj.mapSeq (· ++ ((zs.map (·.2)).map Value.ref).toArray))) s.toks zs (List.Perm.refl _) (by rw [Heap.size_update,size_push'];omega) fun b o e=>by
    rw [Heap.get?_update_ne _ _ _ _ (Nat.ne_of_lt (Heap.lt_size e))];exact Heap.get?_push_of_some _ e
  rw [← e] at this
  exact this
def SD (w:World) (S:Addr) (xs:List (List Int × Addr)):Heap→Prop:=fun h=>∃ es ep t,SetO w h S es ep t∧es.size≤8∧es.toList.map (·.2) = xs.map fun x=>Value.ref x.2
def SDo (w:World) (S:Addr) (xs:List (List Int × Addr)):HO:=.ext (SD w S xs)
theorem sd_obj {P:Program} {w:World} {H:Hp} {h:Heap} {S:Addr} {xs:List (List Int × Addr)} (x:SD w S xs h):ObjOk P w H h S (SDo w S xs):=by
  refine ⟨x,?_,fun h1 h2 p kp=>?_⟩
  · obtain ⟨es,ep,t,so,_⟩:=x
    obtain ⟨o,e,_⟩:=so.obj
    exact ⟨o,e⟩
  · obtain ⟨es,ep,t,so,r⟩:=p
    exact ⟨es,ep,t,⟨let ⟨o,a1,a2⟩:=so.obj;⟨o,kp o a1,a2⟩,so.tab,so.fits,so.led⟩,r⟩
def rSetT (K:PySem.W.Frag) (w:World):List V→Hp→VK→Prop:=fun vs H Q=>∃ (a:Addr) (zs:List (List Int × Addr)),vs = [V.ref a]∧SqL K H a (zs.map fun z=>V.ref z.2)∧(∀ z∈zs,H z.2 = some (.tup (z.1.map V.int)))∧zs.length≤8 ∧
  ∀ (xs:List (List Int × Addr)) (p:Addr),(xs.map (·.1)).Nodup→(∀ y∈xs,y∈zs)→(∀ z∈zs,z.1∈xs.map (·.1))→H p = none→Q (.ref p) (upd H p (SDo w p xs))
theorem cr_setT (hcalm:X.calm = true) (hu:X.A.units + 64 < cLine):CallR X (.type "set") (rSetT X.K X.w):=by
  intro pins s σ H vs us Q I r h
  obtain ⟨a,zs,rfl,hq,hk,h8,q⟩:=h
  rw [Vals.ref1 r]
  obtain ⟨its,rv,pl,hz⟩:=I.list hq
  have ei:=refs_at (ps:=zs.map (·.2)) (by rw [List.map_map];exact rv)
  subst ei
  obtain ⟨o,n,ho,hc,hdd,hdat⟩:=pl
  refine call_set (zs:=zs) (by omega) (I.ok.hd hcalm) ⟨o,ho,hc,n,hdat⟩ (by rw [List.map_map];rfl) h8 (fun z hz=>row_of I.hok (hk z hz)) fun h' tk xs o es ep t R0 H0 kp=>?_
  have hf:H s.heap.objs.size = none:=I.hok.fresh (Nat.le_refl _)
  refine ⟨.ref s.heap.objs.size,_,I.laid (t':=tk) (a:=s.heap.objs.size) (o:=SDo X.w s.heap.objs.size xs) (fun b o e=>kp b o (Heap.lt_size e) e) (Nat.le_refl _) (sd_obj ⟨es,ep,t,⟨⟨o,R0.get,R0.ex,R0.dat⟩,R0.tab,R0.fits,R0.led⟩,R0.few.1,?_⟩),rfl,q xs _ R0.nd H0.2.1 (fun z hz=>H0.2.2 z (by rw [List.take_length];exact hz)) hf⟩
  rw [R0.ent,List.map_map];rfl
def rSortedS (w:World):List V→Hp→VK→Prop:=fun vs H Q=>∃ (a:Addr) (xs:List (List Int × Addr)) (d:Nat),vs = [V.ref a]∧H a = some (SDo w a xs)∧(∀ z∈xs,H z.2 = some (.tup (z.1.map V.int)))∧(∀ z∈xs,z.1.length = d)∧1≤d ∧
  ∀ (ys:List (List Int × Addr)) (p:Addr),ys.Perm xs→ys.Pairwise (fun x y=>Sa83.before y.1 x.1 = false)→H p = none→Q (.ref p) (upd H p (.lst (ys.map fun y=>V.ref y.2)))
theorem cr_sortedS (hcalm:X.calm = true):CallR X (.builtin "sorted") (rSortedS X.w):=by
  intro pins s σ H vs us Q I r h
  obtain ⟨a,xs,d,rfl,hq,hk,hd,h1,q⟩:=h
  rw [Vals.ref1 r]
  obtain ⟨⟨es,ep,t,so,h8,ee⟩,_⟩:=(show ObjOk X.prog X.w H s.heap a (SDo X.w a xs) from I.hok a _ hq)
  have lx:xs.length = es.size:=by
    have:=congrArg List.length ee
    rw [List.length_map,List.length_map,Array.length_toList] at this
    exact this.symm
  refine sorted_go I hk hd h1 (by omega) (fun R E hR=>?_) q
  refine collect_src (src_set (t:=t)) (I.ok.hd hcalm) so (by rw [sizeLine_eq];omega) fun g tk acc lg kp hacc=>?_
  have ea:acc.toList = walkOf X.w a es ep:=by
    obtain ⟨l1,l2⟩:=hacc
    apply List.ext_getElem?
    intro j
    by_cases hj:j < acc.size
    · have:=l2 j acc[j] (Array.getElem?_eq_getElem hj)
      rw [this,Array.getElem?_toList,Array.getElem?_eq_getElem hj]
    · rw [List.getElem?_eq_none (by simpa using hj),List.getElem?_eq_none (by rw [walk_len];omega)]
  have pw:=walk_perm (w:=X.w) a es ep
  rw [ee] at pw
  obtain ⟨zs',pz,ez⟩:=perm_map pw rfl
  rw [ea,ez]
  exact hR g tk zs' pz (Nat.le_of_lt lg) kp
end
end ST
namespace ST
open PySem PySem.Spec PyProof.Rows L2 L3
section
variable {prog:Program} {w:World} {A:Around} {s:Shared}
theorem items_any {p2:Program} {w2:World}:∀ {k:List Key} {vs:List Value},ItemsAre (mixKind prog w) k vs→ItemsAre (mixKind p2 w2) k vs
  | _,_,.nil=>.nil
  | _,_,.cons h r=>.cons h (items_any r)
theorem RowA.any {p2:Program} {w2:World} {h:Heap} {x:List Int} {a:Addr} (r:RowA prog w h x a):RowA p2 w2 h x a:=by
  obtain ⟨o,items,n,ho,hc,hd,hi⟩:=(show IsTupleKey (mixKind prog w) h (kI x) a from r)
  exact ⟨o,items,n,ho,hc,hd,items_any hi⟩
theorem kI_eq {x y:List Int}:decide (kI x = kI y) = decide (x = y):=decide_eq_decide.mpr (List.map_inj_right fun a b q=>by cases q;rfl)
theorem row_eqAt {x y:List Int} {a b:Addr} (hu:A.units < cLine) (r:RowA prog w s.heap x a) (q:RowA prog w s.heap y b):SeqAt.EqAt A s (.ref a) (.ref b) (decide (x = y)):=fun p2 w2 E Q h=>by
  have r2:RowA p2 w2 s.heap x a:=r.any
  have q2:RowA p2 w2 s.heap y b:=q.any
  exact (tK p2 w2).eqBool (show A.units < cLine from hu) r2 q2 (by rw [kI_eq];exact h)
end
section
variable {X:Cx}
theorem ints_inj {x y:List Int} (h:x.map V.int = y.map V.int):x = y:=(List.map_inj_right fun a b q=>by cases q;rfl).mp h
def rNotT (K:PySem.W.Frag):R2:=fun x y H Q=>∃ (a p:Addr) (k:List Int) (zs:List (List Int × Addr)),x = .ref a∧y = .ref p∧H a = some (.tup (k.map V.int))∧SqL K H p (zs.map fun z=>V.ref z.2)∧(∀ z∈zs,H z.2 = some (.tup (z.1.map V.int)))∧Q (.bl (!decide (k∈zs.map (·.1)))) H
theorem op_notInT (hu:X.A.units + 64 < cLine):OpR X (compareOp .NotIn) (rNotT X.K):=by
  intro pins s σ H x y v u Q I rx ry h
  obtain ⟨a,p,k,zs,rfl,rfl,ha,hq,hk,q⟩:=h
  cases rx
  cases ry
  obtain ⟨its,rv,pl,hz⟩:=I.list hq
  have ei:=refs_at (ps:=zs.map (·.2)) (by rw [List.map_map];exact rv)
  subst ei
  have key:∀ z∈zs,(H z.2 = some (.tup (k.map V.int))↔z.1 = k):=fun z hz=>by
    rw [hk z hz]
    constructor
    · intro e
      injection e with e
      injection e with e
      exact ints_inj e
    · rintro rfl;rfl
  refine SeqAt.notIn_listAt (fun v=>match v with | .ref b=>@decide (H b = some (.tup (k.map V.int))) (Classical.propDecidable _) | _=>false) pl.isList (fun y hy=>?_) ⟨.bl _,H,I,rfl,?_⟩
  · have hy:y∈(zs.map (·.2)).map Value.ref:=by simpa using hy
    rw [List.map_map] at hy
    obtain ⟨z,hz,rfl⟩:=List.mem_map.mp hy
    have e:@decide (H z.2 = some (.tup (k.map V.int))) (Classical.propDecidable _) = decide (z.1 = k):=by
      rw [Bool.eq_iff_iff,@decide_eq_true_iff _ (Classical.propDecidable _),decide_eq_true_iff];exact key z hz
    show SeqAt.EqAt _ _ (.ref z.2) _ (@decide (H z.2 = some (.tup (k.map V.int))) (Classical.propDecidable _))
    rw [e]
    exact row_eqAt (A:=X.A.in1) (show X.A.units + 1 < cLine by omega) (row_of I.hok (hk z hz)) (row_of I.hok ha)
  · have e:(((zs.map (·.2)).map Value.ref).toArray.any fun v=>match v with | .ref b=>@decide (H b = some (.tup (k.map V.int))) (Classical.propDecidable _) | _=>false) = decide (k∈zs.map (·.1)):=by
      rw [Bool.eq_iff_iff]
      simp only [List.any_toArray,List.any_eq_true,List.mem_map,decide_eq_true_eq]
      constructor
      · rintro ⟨v,⟨b,⟨z,hz,rfl⟩,rfl⟩,h⟩
        exact ⟨z,hz,(key z hz).mp (by simpa using h)⟩
      · rintro ⟨z,hz,rfl⟩
        exact ⟨_,⟨_,⟨z,hz,rfl⟩,rfl⟩,by simpa using hk z hz⟩
    rw [e]
    exact q
def rEqT (K:PySem.W.Frag):R2:=fun x y H Q=>∃ (a b:Addr) (xs ys:List (List Int × Addr)),x = .ref a∧y = .ref b∧SqL K H a (xs.map fun z=>V.ref z.2)∧SqL K H b (ys.map fun z=>V.ref z.2)∧(∀ z∈xs,H z.2 = some (.tup (z.1.map V.int)))∧(∀ z∈ys,H z.2 = some (.tup (z.1.map V.int)))∧xs.length = ys.length∧Q (.bl (decide (xs.map (·.1) = ys.map (·.1)))) H
theorem all_range {xs ys:List (List Int × Addr)} (hl:xs.length = ys.length):((List.range xs.length).all fun j=>decide ((xs.map (·.1))[j]? = (ys.map (·.1))[j]?)) = decide (xs.map (·.1) = ys.map (·.1)):=by
  rw [Bool.eq_iff_iff]
  simp only [List.all_eq_true,List.mem_range,decide_eq_true_eq]
  constructor
  · intro h
    apply List.ext_getElem?
    intro j
    by_cases hj:j < xs.length
    · exact h j hj
    · rw [List.getElem?_eq_none (by simpa using hj),List.getElem?_eq_none (by rw [List.length_map];omega)]
  · intro h j _
    rw [h]
theorem op_eqT (hu:X.A.units + 64 < cLine):OpR X (compareOp .Eq) (rEqT X.K):=by
  intro pins s σ H x y v u Q I rx ry h
  obtain ⟨a,b,xs,ys,rfl,rfl,ha,hb,hx,hy,hl,q⟩:=h
  cases rx
  cases ry
  obtain ⟨i1,r1,p1,z1⟩:=I.list ha
  obtain ⟨i2,r2,p2,z2⟩:=I.list hb
  have e1:=refs_at (ps:=xs.map (·.2)) (by rw [List.map_map];exact r1)
  have e2:=refs_at (ps:=ys.map (·.2)) (by rw [List.map_map];exact r2)
  subst e1 e2
  refine SeqAt.eq_listAt (e:=fun j=>decide ((xs.map (·.1))[j]? = (ys.map (·.1))[j]?)) p1.isList p2.isList (by simp [hl]) (by omega) (fun j h1 h2=>?_) ⟨.bl _,H,I,rfl,?_⟩
  · have h1:j < xs.length:=by simpa using h1
    have h2:j < ys.length:=by simpa using h2
    have:=row_eqAt (A:=X.A.in1) (show X.A.units + 1 < cLine by omega) (row_of I.hok (hx xs[j] (List.getElem_mem h1))) (row_of I.hok (hy ys[j] (List.getElem_mem h2)))
    simpa [h1,h2] using this
  · have e:((xs.map (·.2)).map Value.ref).toArray.size = xs.length:=by simp
    rw [e,all_range hl];exact q
end
end ST
namespace ST
open PySem PySem.Spec PyProof.Rows L2 L3
open PySem.SeqAt PySem.MeetsSeq PySem.MeetsSeq2 PySem.MeetsSeq3
open PySem.AutoSeq1 (wpAny_loadPart')
def RlAt (A:Around) (s:Shared) (y x:Value) (b:Bool):Prop:=∀ (prog:Program) (w:World) (E:Value→Shared→Prop) (Q:Value→Shared→Prop),Q (.bool b) s→wpAny (model prog w) A (richCompare .Lt y x) Q E s
theorem lexB:∀ {x y:List Int},x.length = y.length→HT.lexLt x y = Sa83.before x y
  | [],[],_=>rfl
  | a :: x,b :: y,h=>by
    have ih:=lexB (x:=x) (y:=y) (by simpa using h)
    rw [HT.lexLt_cons,ih]
    show _ = (decide (a < b) || (a == b && Sa83.before x y))
    by_cases e:a = b
    · subst e;simp
    · have e':(a == b) = false:=by simpa using e
      simp [e,e']
section
variable {prog:Program} {w:World} {A:Around} {s:Shared}
theorem ints_items:∀ {x:List Int} {vs:List Value},ItemsAre (mixKind prog w) (kI x) vs→IntsAre vs x
  | [],_,.nil=>.nil
  | n :: x,_,.cons h r=>by
    have hk:keyIs (Sum.inl n) _ = true:=h
    rcases keyIs_shape hk with ⟨j,t,ej,e⟩ | ⟨y,t,e,_⟩
    · subst e
      cases ej
      exact .cons _ _ (ints_items r)
    · cases e
theorem row_ltAt {x y:List Int} {a b:Addr} (hu:A.units < cLine) (hl:x.length = y.length) (r:RowA prog w s.heap x a) (q:RowA prog w s.heap y b):RlAt A s (.ref a) (.ref b) (Sa83.before x y):=fun p2 w2 E Q h=>by
  obtain ⟨o,i,n,h1,h2,h3,h4⟩:=(show IsTupleKey (mixKind prog w) s.heap (kI x) a from r)
  obtain ⟨o',i',n',g1,g2,g3,g4⟩:=(show IsTupleKey (mixKind prog w) s.heap (kI y) b from q)
  exact HT.lt_tupInts ⟨o,h1,h2,n,h3⟩ ⟨o',g1,g2,n',g3⟩ (ints_items h4) (ints_items g4) hu (by rw [lexB hl];exact h)
end
def ltN (e g:Nat→Bool):Nat→Nat→Bool
  | 0,_=>false
  | k + 1,i=>if e i = true then ltN e g k (i + 1) else g i
theorem lt_loopAt (l b:Addr) (items items2:Array Value) (n n2:Nat) (dd dd2:Option Addr) (sl sl2:Array (Option Value)) (hsz:items.size = items2.size) (e g:Nat→Bool) (k:Nat):∀ i:Nat,items.size - i = k →
    Meets (Builtin.«list.__eq__.loop» ⟨[.ref l,.ref b,rawInt i,rawInt 0],[]⟩) (fun A R s=>(s.heap.get? l = some { cls:=.type "list",dict:=dd,data:=.seq items n,slots:=sl }∧s.heap.get? b = some { cls:=.type "list",dict:=dd2,data:=.seq items2 n2,slots:=sl2 }) ∧
        (∀ j (h1:j < items.size) (h2:j < items2.size),EqAt A.in1 s items[j] items2[j] (e j)∧(e j = false→RlAt A.in1 s items[j] items2[j] (g j)))∧R (.ok (.ret (.bool (ltN e g k i)))) s):=by
  induction k with
  | zero =>
    intro i hk prog w A R s h
    obtain ⟨hp,gs,d,tk,os⟩:=s;obtain ⟨⟨hl,hb⟩,he,h⟩:=h
    wp_walk using wpAny_loadPart' hl,wpAny_loadPart' hb
    rw [show items[((i:Nat):Int).toNat]? = none by simp;omega,show items2[((i:Nat):Int).toNat]? = none by simp;omega]
    wp_walk using wpAny_loadPart' hl,wpAny_loadPart' hb
    show R (.ok (.ret (.bool (decide (items.size < items2.size))))) _
    rw [hsz,decide_eq_false (Nat.lt_irrefl _)]
    exact h
  | succ k ih =>
    intro i hk prog w A R s h
    obtain ⟨hp,gs,d,tk,os⟩:=s;obtain ⟨⟨hl,hb⟩,he,h⟩:=h
    have lt1:i < items.size:=by omega
    have lt2:i < items2.size:=by omega
    obtain ⟨he1,he2⟩:=he i lt1 lt2
    have q1:items[((i:Nat):Int).toNat]? = some items[i]:=by simp [lt1]
    have q2:items2[((i:Nat):Int).toNat]? = some items2[i]:=by simp [lt2]
    wp_walk using wpAny_loadPart' hl,wpAny_loadPart' hb
    rw [q1,q2]
    refine wpAny_bind (he1 prog w _ _ ?_)
    have ex:ltN e g (k + 1) i = if e i = true then ltN e g k (i + 1) else g i:=rfl
    rw [ex] at h
    cases hc:e i with
    | true =>
      rw [hc,if_pos rfl] at h
      wp_walk
      rw [show ((i:Int) + 1) = ((i + 1:Nat):Int) by push_cast;rfl]
      refine ⟨plainId_quiet plain_eq_loop _,codeAny_builtin entry_eq_loop ?_⟩
      rw [Around.under_plainId plain_eq_loop _];exact ih (i + 1) (by omega) prog w A R _ ⟨⟨hl,hb⟩,he,h⟩
    | false =>
      rw [hc,if_neg (by decide)] at h
      have hri:=he2 hc prog w
      wp_walk using wpAny_loadPart' hl,wpAny_loadPart' hb
      rw [q1,q2]
      wp_walk using hri
      exact h
theorem list_ltAt (l b:Addr) (items items2:Array Value) (n n2:Nat) (dd dd2:Option Addr) (sl sl2:Array (Option Value)) (hsz:items.size = items2.size) (e g:Nat→Bool) :
    Meets (Builtin.«list.__lt__» ⟨[.ref l,.ref b],[]⟩) (fun A R s=>(s.heap.get? l = some { cls:=.type "list",dict:=dd,data:=.seq items n,slots:=sl }∧s.heap.get? b = some { cls:=.type "list",dict:=dd2,data:=.seq items2 n2,slots:=sl2 }) ∧
        (∀ j (h1:j < items.size) (h2:j < items2.size),EqAt A.in1 s items[j] items2[j] (e j)∧(e j = false→RlAt A.in1 s items[j] items2[j] (g j)))∧R (.ok (.ret (.bool (ltN e g items.size 0)))) s):=by
  intro prog w A R s h
  obtain ⟨hp,gs,d,tk,os⟩:=s;obtain ⟨⟨hl,hb⟩,he,h⟩:=h
  have f3:=AutoSeq1.sub_list_list
  wp_walk using wpAny_loadPart' hl,wpAny_loadPart' hb
  refine ⟨plainId_quiet plain_eq_loop _,codeAny_builtin entry_eq_loop ?_⟩
  rw [Around.under_plainId plain_eq_loop _]
  exact lt_loopAt l b items items2 n n2 dd dd2 sl sl2 hsz e g _ 0 rfl prog w A R _ ⟨⟨hl,hb⟩,he,h⟩
section
variable {prog:Program} {w:World} {A:Around} {s:Shared}
theorem RlAt.lists {l b:Addr} {items items2:Array Value} {e g:Nat→Bool} (hl:s.heap.IsList l items) (hb:s.heap.IsList b items2) (hsz:items.size = items2.size) (hu:A.units < cLine)
    (he:∀ j (h1:j < items.size) (h2:j < items2.size),EqAt A.in1 s items[j] items2[j] (e j)∧(e j = false→RlAt A.in1 s items[j] items2[j] (g j))):RlAt A s (.ref l) (.ref b) (ltN e g items.size 0):=fun prog w E Q h=>by
  obtain ⟨⟨cls,dd,data,sl⟩,ho,hc,n,hd⟩:=id hl;obtain ⟨⟨cls2,dd2,data2,sl2⟩,ho2,hc2,n2,hd2⟩:=id hb
  simp only at hc hd hc2 hd2;subst hc hd hc2 hd2
  exact richCompare_meets_room (op:=.Lt) ⟨_,ho,rfl⟩ ⟨_,ho2,rfl⟩ F.slot_list_lt F.entry_list_lt (F.args_list_lt_2 _ _) (list_ltAt l b items items2 n n2 dd dd2 sl sl2 hsz e g) ⟨⟨ho,ho2⟩,he,show Value.bool _≠Value.notImplemented∧Q (.bool _) s from ⟨(fun x=>nomatch x),h⟩⟩ hu
def RowsA (prog:Program) (w:World) (h:Heap) (zs:List (List Int × Addr)) (l:Addr):Prop:=h.IsList l ((zs.map fun z=>Value.ref z.2).toArray)∧∀ z∈zs,RowA prog w h z.1 z.2
theorem RowA.inj {h:Heap} {x y:List Int} {a:Addr} (r:RowA prog w h x a) (q:RowA prog w h y a):x = y:=by
  have:=(row_key r).symm.trans (row_key q)
  exact (List.map_inj_right fun a b q=>by cases q;rfl).mp (Option.some.inj this)
theorem rows_same:∀ {h:Heap} {xs ys:List (List Int × Addr)},(∀ z∈xs,RowA prog w h z.1 z.2)→(∀ z∈ys,RowA prog w h z.1 z.2)→xs.map (fun z=>Value.ref z.2) = ys.map (fun z=>Value.ref z.2)→xs.map (·.1) = ys.map (·.1)
  | _,[],[],_,_,_=>rfl
  | h,x :: xs,y :: ys,h1,h2,e=>by
    rw [List.map_cons,List.map_cons] at e
    injection e with e1 e2
    injection e1 with e1
    have q:=h2 y (by simp)
    rw [← e1] at q
    rw [List.map_cons,List.map_cons,(h1 x (by simp)).inj q,rows_same (fun z hz=>h1 z (by simp [hz])) (fun z hz=>h2 z (by simp [hz])) e2]
  | _,[],_ :: _,_,_,e=>by simp at e
  | _,_ :: _,[],_,_,e=>by simp at e
theorem rows_eqAt {xs ys:List (List Int × Addr)} {l b:Addr} (hu:A.units + 1 < cLine) (hx:RowsA prog w s.heap xs l) (hy:RowsA prog w s.heap ys b) (hl:xs.length = ys.length):EqAt A s (.ref l) (.ref b) (decide (xs.map (·.1) = ys.map (·.1))):=by
  by_cases e:l = b
  · subst e
    have:xs.map (·.1) = ys.map (·.1):=rows_same hx.2 hy.2 (by
      obtain ⟨o,ho,_,n,hd⟩:=hx.1
      obtain ⟨o',ho',_,n',hd'⟩:=hy.1
      rw [ho] at ho'
      cases ho'
      rw [hd] at hd'
      injection hd' with e1
      simpa using e1)
    rw [decide_eq_true this]
    exact EqAt.same _
  · refine EqAt.of_refs e ?_
    have:=RcAt.lists (A:=A) (e:=fun j=>decide ((xs.map (·.1))[j]? = (ys.map (·.1))[j]?)) hx.1 hy.1 (by simp [hl]) (by omega) fun j h1 h2=>by
      have h1:j < xs.length:=by simpa using h1
      have h2:j < ys.length:=by simpa using h2
      have:=row_eqAt (A:=A.in1) (show A.units + 1 < cLine by omega) (hx.2 xs[j] (List.getElem_mem h1)) (hy.2 ys[j] (List.getElem_mem h2))
      simpa [h1,h2] using this
    have e:((xs.map fun z=>Value.ref z.2).toArray).size = xs.length:=by simp
    rw [e,all_range hl] at this
    exact this
theorem ltN_mat:∀ (M N:List (List Int)) (i k:Nat),M.length = N.length→k + i = M.length→ltN (fun j=>decide (M[j]? = N[j]?)) (fun j=>Sa83.before (M.getD j []) (N.getD j [])) k i = WP.matLt (M.drop i) (N.drop i)
  | M,N,i,0,hl,hk=>by
    rw [List.drop_of_length_le (by omega),List.drop_of_length_le (by omega)];rfl
  | M,N,i,k + 1,hl,hk=>by
    have h1:i < M.length:=by omega
    have h2:i < N.length:=by omega
    have ih:=ltN_mat M N (i + 1) k hl (by omega)
    rw [List.drop_eq_getElem_cons h1,List.drop_eq_getElem_cons h2]
    show (if decide (M[i]? = N[i]?) = true then ltN _ _ k (i + 1) else Sa83.before (M.getD i []) (N.getD i [])) = if M[i] = N[i] then WP.matLt (M.drop (i + 1)) (N.drop (i + 1)) else Sa83.before M[i] N[i]
    rw [ih]
    simp [h1,h2]
theorem rows_ltAt {xs ys:List (List Int × Addr)} {l b:Addr} {d:Nat} (hu:A.units + 1 < cLine) (hx:RowsA prog w s.heap xs l) (hy:RowsA prog w s.heap ys b) (hl:xs.length = ys.length) (dx:∀ z∈xs,z.1.length = d) (dy:∀ z∈ys,z.1.length = d):RlAt A s (.ref l) (.ref b) (WP.matLt (xs.map (·.1)) (ys.map (·.1))):=by
  have:=RlAt.lists (A:=A) (e:=fun j=>decide ((xs.map (·.1))[j]? = (ys.map (·.1))[j]?)) (g:=fun j=>Sa83.before ((xs.map (·.1)).getD j []) ((ys.map (·.1)).getD j [])) hx.1 hy.1 (by simp [hl]) (by omega) fun j h1 h2=>by
    have h1:j < xs.length:=by simpa using h1
    have h2:j < ys.length:=by simpa using h2
    have r1:=hx.2 xs[j] (List.getElem_mem h1)
    have r2:=hy.2 ys[j] (List.getElem_mem h2)
    have e1:=row_eqAt (A:=A.in1) (show A.units + 1 < cLine by omega) r1 r2
    have e2:=row_ltAt (A:=A.in1) (show A.units + 1 < cLine by omega) (by rw [dx _ (List.getElem_mem h1),dy _ (List.getElem_mem h2)]) r1 r2
    exact ⟨by simpa [h1,h2] using e1,fun _=>by simpa [h1,h2] using e2⟩
  have e:((xs.map fun z=>Value.ref z.2).toArray).size = xs.length:=by simp
  rw [e,ltN_mat _ _ 0 xs.length (by simp [hl]) (by simp)] at this
  simpa using this
end
end ST
namespace ST
open PySem PySem.Spec PyProof.Rows L2 L3
open PySem.SeqAt PySem.MeetsSeq PySem.MeetsSeq2 PySem.MeetsSeq3
open PySem.AutoSeq1 (wpAny_loadPart')
section
variable {prog:Program} {w:World} {A:Around} {E:Value→Shared→Prop} {s:Shared}
def NestA (prog:Program) (w:World) (d:Nat) (h:Heap) (m:List (List Int) × List Int) (a:Addr):Prop:=∃ (l t:Addr) (zs:List (List Int × Addr)) (o:Obj) (n:Nat),h.get? a = some o∧o.cls = .type "tuple"∧o.data = .seq #[.ref l,.ref t] n∧RowsA prog w h zs l∧zs.map (·.1) = m.1∧RowA prog w h m.2 t∧zs.length = d∧(∀ z∈zs,z.1.length = d)∧m.2.length = d
theorem NestA.at {d:Nat} {h h':Heap} {m:List (List Int) × List Int} {a:Addr} (x:NestA prog w d h m a) (k:∀ b o,h.get? b = some o→h'.get? b = some o):NestA prog w d h' m a:=by
  obtain ⟨l,t,zs,o,n,h1,h2,h3,⟨⟨o',g1,g2⟩,h5⟩,h6,h7,r⟩:=x
  exact ⟨l,t,zs,o,n,k _ _ h1,h2,h3,⟨⟨o',k _ _ g1,g2⟩,fun z hz=>(h5 z hz).at fun o e=>k _ o e⟩,h6,h7.at fun o e=>k _ o e,r⟩
theorem nest_tree {d:Nat} {x y:List (List Int) × List Int} {a b:Addr} {P:Fin→Shared→Prop} (hu:A.units + 4 < cLine) (p:NestA prog w d s.heap x a) (q:NestA prog w d s.heap y b) (h:P (.done (.ret (.bool (WP.nestLt x y)))) s) :
    wpAny (model prog w) A (Builtin.«tuple.__lt__» ⟨[.ref a,.ref b],[]⟩) P E s:=by
  obtain ⟨l,t,xs,o,n,h1,h2,h3,h4,h5,h6,h7,h8,h9⟩:=p
  obtain ⟨l',t',ys,o',n',g1,g2,g3,g4,g5,g6,g7,g8,g9⟩:=q
  have eL:=rows_eqAt (A:=A) (by omega) h4 g4 (by omega)
  have eT:=row_eqAt (A:=A) (by omega) h6 g6
  have lL:=rows_ltAt (A:=A) (by omega) h4 g4 (by omega) h8 g8
  have lT:=row_ltAt (A:=A) (by omega) (by omega) h6 g6
  rw [h5,g5] at eL lL
  show wpAny _ _ (isInstance (.ref b) (.type "tuple") >>= _) _ _ s
  refine wpAny_bind (wpAny_isInstance (T:="tuple") ⟨o',g1,g2⟩ isSubtype_tuple_tuple ?_)
  simp only [Bool.not_true,Bool.false_eq_true,if_false]
  refine wpAny_bind (wpAny_tupleItemsOf h1 h3 (wpAny_bind (wpAny_tupleItemsOf g1 g3 (wpAny_bind ?_))))
  simp only [List.zip_cons_cons,List.zip_nil_left,List.forIn_cons,List.forIn_nil]
  refine wpAny_bind (wpAny_bind (eL prog w _ _ ?_))
  by_cases e1:x.1 = y.1
  · rw [decide_eq_true e1]
    have en:WP.nestLt x y = Sa83.before x.2 y.2:=if_pos e1
    rw [en] at h
    simp only [Bool.not_true,Bool.false_eq_true,if_false]
    refine wpAny_pure (wpAny_bind (wpAny_bind (eT prog w _ _ ?_)))
    by_cases e2:x.2 = y.2
    · rw [decide_eq_true e2]
      simp only [Bool.not_true,Bool.false_eq_true,if_false]
      rw [e2,WP.before_irrefl] at h
      exact wpAny_pure (wpAny_pure (wpAny_pure h))
    · rw [decide_eq_false e2]
      simp only [Bool.not_false,if_true]
      refine wpAny_bind (wpAny_bind (wpAny_rule (wpAny_pure ?_)))
      refine wpAny_bind (lT prog w _ _ ?_)
      refine wpAny_bind (wpAny_pure ?_)
      exact wpAny_pure (wpAny_pure (wpAny_pure h))
  · rw [decide_eq_false e1]
    have en:WP.nestLt x y = WP.matLt x.1 y.1:=if_neg e1
    rw [en] at h
    simp only [Bool.not_false,if_true]
    refine wpAny_bind (wpAny_bind (wpAny_rule (wpAny_pure ?_)))
    refine wpAny_bind (lL prog w _ _ ?_)
    refine wpAny_bind (wpAny_pure ?_)
    exact wpAny_pure (wpAny_pure (wpAny_pure h))
theorem nest_lt {d:Nat} {x y:List (List Int) × List Int} {a b:Addr} {Q:Value→Shared→Prop} (hu:A.units + 8 < cLine) (p:NestA prog w d s.heap x a) (q:NestA prog w d s.heap y b) (h:Q (.bool (WP.nestLt x y)) s) :
    wpAny (model prog w) A (richCompare .Lt (.ref a) (.ref b)) Q E s:=by
  have ta:s.TypeIs (.ref a) "tuple":=let ⟨_,_,_,o,_,h1,h2,_⟩:=p;⟨o,h1,h2⟩
  have tb:s.TypeIs (.ref b) "tuple":=let ⟨_,_,_,o,_,h1,h2,_⟩:=q;⟨o,h1,h2⟩
  refine wpAny_richCompare_same_room (op:=.Lt) ta tb F.slot_tuple_lt (wpAny_call_entry F.slot_tuple_lt ta F.entry_tuple_lt (nest_tree ?_ p q ⟨_,rfl,(fun e=>nomatch e),h⟩) (F.args_tuple_lt_2 _ _)) (by omega)
  first | (show A.units + 1 + 4 < cLine;omega) | (show A.units + 2 + 4 < cLine;omega)
end
section
variable {prog:Program} {w:World} {A:Around} {R:Result→Shared→Prop} {I S:Addr} {fp wr:List Addr} {n:Nat} {P:Nat→Value→Prop} {St:Nat→Heap→Prop} {h0:Heap}
def Kp (h0 h:Heap):Prop:=∀ b o,h0.get? b = some o→h.get? b = some o
theorem min_loop (W:Walks prog w A.in1 I fp wr n P St) (bt:Nat→Nat→Bool) (cmp:∀ i j vi vj (s:Shared) (Q:Value→Shared→Prop) (E:Value→Shared→Prop),Kp h0 s.heap→P i vi→P j vj→Q (.bool (bt i j)) s→wpAny (model prog w) A.in1 (richCompare .Lt vi vj) Q E s)
    (hSf:S ∉ fp) (ow:∀ b∈wr,h0.get? b = none) (oS:h0.get? S = none):∀ (k j:Nat) (s:Shared) (vb:Value) (c:Nat),n - (j + 1) = k→j + 1≤n→St (j + 1) s.heap→P (argBest bt j) vb→s.heap.get? S = some { cls:=.type "list",dict:=none,data:=.seq #[vb,vb] c,slots:=#[] }→Kp h0 s.heap →
    (∀ v h' tk,P (argBest bt (n - 1)) v→Kp h0 h'→R (.ok (.ret v)) { s with heap:=h',toks:=tk })→codeAny (model prog w) A (.builtin "min.loop" ⟨[.ref I,.none,.ref S],[]⟩) R s:=by
  have hSw:S ∉ wr:=fun h=>hSf (W.sub _ h)
  have hname:(toString "min" ++ toString ".loop":String) = "min.loop":=by decide
  have nw:∀ {b o},h0.get? b = some o→b ∉ wr:=fun e hb=>by rw [ow _ hb] at e;cases e
  have nS:∀ {b o},h0.get? b = some o→b≠S:=fun e hb=>by rw [hb,oS] at e;cases e
  intro k
  induction k with
  | zero =>
    intro j s vb c hk hj st pb gS kp fin
    have e:j + 1 = n:=by omega
    subst e
    refine codeAny_builtin F.entry_min_loop ?_;rw [Around.under_plainId F.plain_min_loop _]
    show wpAny _ A.in1 (seqItems? (.ref S) >>= _) _ _ s;refine wpAny_bind (wpAny_seqItems gS rfl ?_)
    show wpAny _ A.in1 (tryCatch (pyNext (.ref I)) _ >>= _) _ _ s;refine wpAny_bind (wpAny_tryCatch (W.done s _ _ st fun h' tk kp'=>?_))
    show wpAny _ A.in1 (updateSeq S (fun _=>#[]) >>= _) _ _ _
    refine wpAny_bind (wpAny_updateSeq (kp' S _ hSw gS) rfl (wpAny_bind (wpAny_letGo (wpAny_pure (fin vb _ tk pb fun b o e=>?_)))))
    exact (Heap.get?_update_other _ _ (Ne.symm (nS e))).trans (kp' b o (nw e) (kp b o e))
  | succ k ih =>
    intro j s vb c hk hj st pb gS kp fin
    have lt:j + 1 < n:=by omega
    refine codeAny_builtin F.entry_min_loop ?_;rw [Around.under_plainId F.plain_min_loop _]
    show wpAny _ A.in1 (seqItems? (.ref S) >>= _) _ _ s;refine wpAny_bind (wpAny_seqItems gS rfl ?_)
    show wpAny _ A.in1 (tryCatch (pyNext (.ref I)) _ >>= _) _ _ s;refine wpAny_bind (wpAny_tryCatch (W.item (j + 1) s _ _ lt st fun v h' tk pv st' kp'=>?_))
    have gS':=kp' S _ hSw gS
    have kp2:Kp h0 h':=fun b o e=>kp' b o (nw e) (kp b o e)
    show wpAny _ A.in1 (tryCatch (holding [v,v] (richCompare .Lt v vb >>= _)) _ >>= _) _ _ _
    refine wpAny_bind (wpAny_tryCatch (wpAny_holding (wpAny_bind (cmp (j + 1) (argBest bt j) v vb _ _ _ kp2 pv pb ?_))));refine wpAny_bind (wpAny_holding (wpAny_truthy_bool ?_))
    refine wpAny_bind (wpAny_letGo (wpAny_pure ?_))
    have ea:argBest bt (j + 1) = if bt (j + 1) (argBest bt j) then j + 1 else argBest bt j:=rfl
    cases hb:bt (j + 1) (argBest bt j) with
    | true =>
      rw [hb] at ea
      simp only [if_true]
      refine wpAny_bind (wpAny_updateSeq gS' rfl (wpAny_bind (wpAny_letGo ?_)))
      rw [hname];refine wpAny_pure ⟨plainId_quiet F.plain_min_loop _,ih (j + 1) _ v _ (by omega) lt (W.frame _ _ _ st' fun b hbf o e=>?_) (by rw [ea];exact pv) (Heap.get?_update_self _ gS' rfl) (fun b o e=>?_) fun v' h2 tk2 pv' kp3=>fin v' h2 tk2 pv' kp3⟩
      · exact (Heap.get?_update_other _ _ (fun q:S = b=>hSf (by rw [q];exact hbf))).trans e
      · exact (Heap.get?_update_other _ _ (Ne.symm (nS e))).trans (kp2 b o e)
    | false =>
      rw [hb] at ea
      simp only [Bool.false_eq_true,if_false]
      refine wpAny_bind (wpAny_letGo ?_)
      rw [hname];exact wpAny_pure ⟨plainId_quiet F.plain_min_loop _,ih (j + 1) _ vb c (by omega) lt st' (by rw [ea];exact pb) gS' kp2 fun v' h2 tk2 pv' kp3=>fin v' h2 tk2 pv' kp3⟩
end
theorem best_lt (bt:Nat→Nat→Bool):∀ k,argBest bt k≤k
  | 0=>Nat.le_refl _
  | k + 1=>by
    have:=best_lt bt k
    show (if bt (k + 1) (argBest bt k) = true then k + 1 else argBest bt k)≤k + 1
    split <;> omega
theorem best_least {bt:Nat→Nat→Bool} {n:Nat} (ir:∀ i,i < n→bt i i = false) (tr:∀ i j k,i < n→j < n→k < n→bt i j = true→bt j k = true→bt i k = true):∀ k,k < n→∀ j,j≤k→bt j (argBest bt k) = false
  | 0,hk,j,hj=>by
    have:j = 0:=by omega
    rw [this];exact ir 0 hk
  | k + 1,hk,j,hj=>by
    have ih:=best_least ir tr k (by omega)
    have lb:=best_lt bt k
    have ea:argBest bt (k + 1) = if bt (k + 1) (argBest bt k) then k + 1 else argBest bt k:=rfl
    cases hb:bt (k + 1) (argBest bt k) with
    | true =>
      rw [hb] at ea
      rw [ea]
      show bt j (k + 1) = false
      by_cases e:j = k + 1
      · rw [e];exact ir _ hk
      · cases q:bt j (k + 1) with
        | false=>rfl
        | true =>
          have:=tr j (k + 1) (argBest bt k) (by omega) hk (by omega) q hb
          rw [ih j (by omega)] at this;cases this
    | false =>
      rw [hb] at ea
      rw [ea]
      show bt j (argBest bt k) = false
      by_cases e:j = k + 1
      · rw [e];exact hb
      · exact ih j (by omega)
section
variable {X:Cx}
def NestAt (K:PySem.W.Frag) (d:Nat) (H:Hp) (m:List (List Int) × List Int) (p:Addr):Prop:=∃ (l t:Addr) (zs:List (List Int × Addr)),H p = some (.tup [.ref l,.ref t])∧SqL K H l (zs.map fun z=>V.ref z.2)∧(∀ z∈zs,H z.2 = some (.tup (z.1.map V.int)))∧zs.map (·.1) = m.1∧H t = some (.tup (m.2.map V.int))∧zs.length = d∧(∀ z∈zs,z.1.length = d)∧m.2.length = d
theorem nest_of {pins:List (Addr × Obj)} {σ:L2.St} {H:Hp} {s:Shared} (I:Inv X pins σ H s) {d:Nat} {m:List (List Int) × List Int} {p:Addr} (x:NestAt X.K d H m p):NestA X.prog X.w d s.heap m p:=by
  obtain ⟨l,t,zs,h1,h2,h3,h4,h5,h6⟩:=x
  obtain ⟨_,its,r,o,g1,g2,n,g3⟩:=(show ObjOk X.prog X.w H s.heap p (.tup [.ref l,.ref t]) from I.hok p _ h1)
  obtain ⟨u1,u2,rfl,ra,rb⟩:=vals2 r
  cases ra
  cases rb
  obtain ⟨its,rv,pl,hz⟩:=I.list h2
  have ei:=refs_at (ps:=zs.map (·.2)) (by rw [List.map_map];exact rv)
  subst ei
  rw [List.map_map] at pl
  exact ⟨l,t,zs,o,n,g1,g2,g3,⟨pl.isList,fun z hz=>row_of I.hok (h3 z hz)⟩,h4,row_of I.hok h5,h6⟩
def rMinN (K:PySem.W.Frag):List V→Hp→VK→Prop:=fun vs H Q=>∃ (a:Addr) (ms:List ((List (List Int) × List Int) × Addr)) (d:Nat),vs = [V.ref a]∧SqL K H a (ms.map fun m=>V.ref m.2)∧(∀ m∈ms,NestAt K d H m.1 m.2)∧1≤d∧d≤3∧ms≠[] ∧
  ∀ m∈ms,(∀ m'∈ms,WP.nestLt m'.1 m.1 = false)→Q (.ref m.2) H
theorem cr_minN (hc:X.calm = true) (hu:X.A.units + 64 < cLine):CallR X (.builtin "min") (rMinN X.K):=by
  intro pins s σ H vs us Q I r h
  obtain ⟨a,ms,d,rfl,hq,hk,h1,h3,hne,q⟩:=h
  rw [Vals.ref1 r]
  obtain ⟨its,rv,pl,hz⟩:=I.list hq
  have ei:=refs_at (ps:=ms.map (·.2)) (by rw [List.map_map];exact rv)
  subst ei
  have la:a < s.heap.objs.size:=by obtain ⟨_,e,_⟩:=pl.isList;exact Heap.lt_size e
  have hn:0 < ms.length:=List.length_pos_iff.mpr hne
  have hname:(toString "min" ++ toString ".loop":String) = "min.loop":=by decide
  let bt:Nat→Nat→Bool:=fun i j=>WP.nestLt (ms.getD i (([],[]),0)).1 (ms.getD j (([],[]),0)).1
  have gm:∀ i,i < ms.length→ms.getD i (([],[]),0)∈ms:=fun i hi=>by
    have:ms.getD i (([],[]),0) = ms[i]:=by simp [hi]
    rw [this];exact List.getElem_mem hi
  have mat:∀ m∈ms,WP.IsMat d m.1.1∧m.1.2.length = d:=fun m hm=>by
    obtain ⟨l,t,zs,_,_,_,e4,_,e6,e7,e8⟩:=hk m hm
    refine ⟨⟨by rw [← e4,List.length_map,e6],fun r hr=>?_⟩,e8⟩
    rw [← e4] at hr
    obtain ⟨z,hz,rfl⟩:=List.mem_map.mp hr
    exact e7 z hz
  have tb:∀ m∈ms,∀ m'∈ms,WP.nestLt m.1 m'.1 = Sa83.before (Sa83.squareTold m.1.1 m.1.2) (Sa83.squareTold m'.1.1 m'.1.2):=fun m hm m' hm'=>(WP.told_before h1 h3 (mat m hm).1 (mat m' hm').1 (mat m hm).2 (mat m' hm').2).symm
  refine call_function_tree F.kind_min F.plain_min F.entry_min (F.args_min1 _) ?_
  show wpAny _ X.A.in1 (Builtin.Builtins.bindParams "min" ["key","default"] 0 ⟨[],[]⟩ >>= _) _ _ s
  refine wpAny_bind (wpAny_of_eq (show Builtin.Builtins.bindParams "min" ["key","default"] 0 ⟨[],[]⟩ = pure [none,none] from rfl) (wpAny_bind (wpAny_pure ?_)))
  refine wpAny_bind (wpAny_pyIter_list pl.isList ?_)
  refine wpAny_bind (wpAny_newObj_type ?_)
  rw [hname]
  let O1:Obj:={ cls:=.type "list_iterator",data:=.fields #[.ref a,.int 0 0] }
  have kp0:∀ (o:Obj),Kp s.heap ((s.heap.push O1).push o):=fun o b u e=>Heap.get?_push_of_some _ (Heap.get?_push_of_some _ e)
  have hI:(s.heap.push O1).objs.size = s.heap.objs.size + 1:=Heap.size_push ..
  have W:=Walks.list (prog:=X.prog) (w:=X.w) (A:=X.A.in1) (I.ok.hd hc) s.heap.objs.size a (Nat.ne_of_lt la) ((ms.map (·.2)).map Value.ref).toArray
  have sz:((ms.map (·.2)).map Value.ref).toArray.size = ms.length:=by simp
  let S:Addr:=(s.heap.push O1).objs.size
  have nS:S≠s.heap.objs.size:=by show (s.heap.push O1).objs.size≠_;rw [hI];exact Nat.ne_of_gt (Nat.lt_succ_self _)
  have hSf:S ∉ [s.heap.objs.size,a]:=by
    simp only [List.mem_cons,List.not_mem_nil,or_false,not_or]
    exact ⟨nS,by show (s.heap.push O1).objs.size≠_;rw [hI];exact Nat.ne_of_gt (Nat.lt_succ_of_lt la)⟩
  have none0:∀ b,s.heap.objs.size≤b→s.heap.get? b = none:=fun b hb=>by
    cases q:s.heap.get? b with
    | none=>rfl
    | some o=>exact absurd (Heap.lt_size q) (Nat.not_lt.mpr hb)
  have ow:∀ b∈[s.heap.objs.size],s.heap.get? b = none:=fun b hb=>by
    have:b = s.heap.objs.size:=by simpa using hb
    rw [this];exact none0 _ (Nat.le_refl _)
  have oS:s.heap.get? S = none:=none0 _ (by show _≤(s.heap.push O1).objs.size;rw [hI];exact Nat.le_succ _)
  have nw:∀ {b o},s.heap.get? b = some o→b ∉ [s.heap.objs.size]:=fun e hb=>by rw [ow _ hb] at e;cases e
  have nSb:∀ {b o},s.heap.get? b = some o→b≠S:=fun e hb=>by rw [hb,oS] at e;cases e
  have getV:∀ i v,((ms.map (·.2)).map Value.ref).toArray[i]? = some v→i < ms.length∧v = .ref (ms.getD i (([],[]),0)).2:=fun i v e=>by
    have hi:i < ms.length:=by
      have:=(Array.getElem?_eq_some_iff.mp e).1
      rw [sz] at this;exact this
    refine ⟨hi,?_⟩
    simp [hi] at e
    simp [hi,e]
  have cmp:∀ i j vi vj (s':Shared) (Q:Value→Shared→Prop) (E:Value→Shared→Prop),Kp s.heap s'.heap→((ms.map (·.2)).map Value.ref).toArray[i]? = some vi→((ms.map (·.2)).map Value.ref).toArray[j]? = some vj→Q (.bool (bt i j)) s'→wpAny (model X.prog X.w) X.A.in1 (richCompare .Lt vi vj) Q E s':=fun i j vi vj s' Q E kp ei ej hq=>by
    obtain ⟨hi,rfl⟩:=getV i vi ei
    obtain ⟨hj,rfl⟩:=getV j vj ej
    exact nest_lt (show X.A.units + 1 + 8 < cLine by omega) ((nest_of I (hk _ (gm i hi))).at kp) ((nest_of I (hk _ (gm j hj))).at kp) hq
  refine wpAny_pure ⟨plainId_quiet F.plain_min_loop _,codeAny_builtin F.entry_min_loop ?_⟩
  rw [Around.under_plainId F.plain_min_loop _]
  have gS:((s.heap.push O1).push { cls:=.type "list",data:=.seq #[] }).get? S = some { cls:=.type "list",data:=.seq #[] }:=Heap.get?_push_size _ rfl
  show wpAny _ X.A.in1 (seqItems? (.ref S) >>= _) _ _ _;refine wpAny_bind (wpAny_seqItems gS rfl ?_)
  show wpAny _ X.A.in1 (tryCatch (pyNext (.ref s.heap.objs.size)) _ >>= _) _ _ _
  refine wpAny_bind (wpAny_tryCatch (W.item 0 _ _ _ (by rw [sz];exact hn) ⟨⟨_,Heap.get?_push_of_some _ (Heap.get?_push_size _ rfl),rfl,rfl⟩,(pl.isList.push _).push _⟩ fun v h' tk pv st' kp'=>?_))
  have gS':=kp' S _ (fun hm=>nS (by simpa using hm)) gS
  show wpAny _ X.A.in1 (updateSeq S (fun _=>#[v,v]) >>= _) _ _ _;refine wpAny_bind (wpAny_updateSeq gS' rfl ?_)
  rw [hname]
  refine wpAny_pure ⟨plainId_quiet F.plain_min_loop _,min_loop (h0:=s.heap) W bt cmp hSf ow oS _ 0 _ v _ rfl (by rw [sz];exact hn) (W.frame _ _ _ st' fun b hb o e=>?_) pv (Heap.get?_update_self _ gS' rfl) (fun b o e=>?_) fun v' h2 tk2 pv' kp3=>?_⟩
  · exact (Heap.get?_update_other _ _ (fun q:S = b=>hSf (by rw [q];exact hb))).trans e
  · exact (Heap.get?_update_other _ _ (Ne.symm (nSb e))).trans (kp' b o (nw e) (kp0 _ b o e))
  · obtain ⟨hi,rfl⟩:=getV _ _ pv'
    have e:((ms.map (·.2)).map Value.ref).toArray.size - 1 = ms.length - 1:=by rw [sz]
    rw [e] at hi ⊢
    refine ⟨.ref _,H,I.kept kp3,rfl,q _ (gm _ hi) fun m' hm'=>?_⟩
    obtain ⟨j,hj,ej⟩:=List.mem_iff_getElem.mp hm'
    have:=best_least (bt:=bt) (n:=ms.length) (fun i hi=>?_) (fun i j k hi hj hk b1 b2=>?_) (ms.length - 1) (by omega) j (by omega)
    · have ee:ms.getD j (([],[]),0) = m':=by simp [hj,ej]
      show WP.nestLt m'.1 (ms.getD (argBest bt (ms.length - 1)) (([],[]),0)).1 = false
      rw [← ee];exact this
    · show WP.nestLt _ _ = false
      rw [tb _ (gm i hi) _ (gm i hi),WP.before_irrefl]
    · have b1:WP.nestLt _ _ = true:=b1
      have b2:WP.nestLt _ _ = true:=b2
      show WP.nestLt _ _ = true
      rw [tb _ (gm i hi) _ (gm j hj)] at b1
      rw [tb _ (gm j hj) _ (gm k hk)] at b2
      rw [tb _ (gm i hi) _ (gm k hk)]
      exact WP.before_trans b1 b2
end
end ST
namespace WB
open PySem PySem.Spec PyProof.Rows L2 L3 WP
theorem same_upd {H:Hp} {p:Addr} {o:HO} (h:H p = none):Same H (upd H p o):=fun b u e=>by rw [upd_ne (ne_of_none e h)];exact e
theorem Same.seqT {K:PySem.W.Frag} {H H':Hp} {a:Addr} {xs:List V} (e:Same H H') (h:SqT K H a xs):SqT K H' a xs:=by
  rcases h with h | h
  · rcases h with h | ⟨o,h⟩
    · exact .inl (.inl (e _ _ h))
    · exact .inl (.inr ⟨o,e _ _ h⟩)
  · exact .inr h
def off (H:Hp) (D:Addr):Hp:=fun b=>if b = D then none else H b
theorem off_some {H:Hp} {D b:Addr} {o:HO} (h:off H D b = some o):b≠D∧H b = some o:=by
  unfold off at h
  by_cases e:b = D
  · rw [if_pos e] at h;cases h
  · rw [if_neg e] at h;exact ⟨e,h⟩
theorem off_at {H:Hp} {D b:Addr} {o:HO} (e:b≠D) (h:H b = some o):off H D b = some o:=by unfold off;rw [if_neg e];exact h
theorem off_le {H:Hp} {D:Addr}:Same (off H D) H:=fun b o h=>(off_some h).2
theorem off_same {H H':Hp} {D:Addr} (s:Same H H'):Same (off H D) (off H' D):=fun b o h=>off_at (off_some h).1 (s _ _ (off_some h).2)
theorem off_upd {H:Hp} {D:Addr} {o:HO}:Same (off H D) (off (upd H D o) D):=fun b u h=>off_at (off_some h).1 (by rw [upd_ne (off_some h).1];exact (off_some h).2)
theorem same_write {H1 H:Hp} {D:Addr} {o:HO} (h:H1 D = none) (s:Same H1 H):Same H1 (upd H D o):=fun b u e=>by rw [upd_ne (ne_of_none e h)];exact s b u e
def RowH (t:Bool) (ns:Vec):HO:=if t then .tup (ns.map V.int) else .lst (ns.map V.int)
def Row (t:Bool) (H:Hp) (v:V) (ns:Vec):Prop:=∃ a,v = .ref a∧H a = some (RowH t ns)
def Stable {α:Type} (R:Hp→V→α→Prop):Prop:=∀ (H H':Hp) (v:V) (x:α),Same H H'→R H v x→R H' v x
theorem row_st {t:Bool}:Stable (Row t):=fun _ _ _ _ s ⟨a,e,h⟩=>⟨a,e,s _ _ h⟩
def Lst {α:Type} (R:Hp→V→α→Prop) (H:Hp) (v:V) (xs:List α):Prop:=∃ a vs,v = .ref a∧H a = some (.lst vs)∧Paired (R H) vs xs
theorem paired_mono {α β:Type} {F G:α→β→Prop} {l:List α} {m:List β} (f:∀ a b,F a b→G a b) (r:Paired F l m):Paired G l m:=Paired.mapP r f
theorem lst_st {α:Type} {R:Hp→V→α→Prop} (st:Stable R):Stable (Lst R):=fun _ _ _ _ s ⟨a,vs,e,h,p⟩=>⟨a,vs,e,s _ _ h,paired_mono (fun _ _ q=>st _ _ _ _ s q) p⟩
theorem paired_at {α β:Type} {F:α→β→Prop} {l:List α} {m:List β} (r:Paired F l m) {i:Nat} {a:α} (h:l[i]? = some a):∃ b,m[i]? = some b∧F a b:=paired_get r h
theorem paired_at' {α β:Type} {F:α→β→Prop}:∀ {l:List α} {m:List β},Paired F l m→∀ {i:Nat} {b:β},m[i]? = some b→∃ a,l[i]? = some a∧F a b
  | _,_,.nil,i,b,h=>by simp at h
  | _,_,.cons q r,0,b,h=>by simp at h;subst h;exact ⟨_,rfl,q⟩
  | _,_,.cons q r,i + 1,b,h=>by simpa using paired_at' r (i:=i) (by simpa using h)
theorem paired_snoc {α β:Type} {F:α→β→Prop}:∀ {l:List α} {m:List β} {a:α} {b:β},Paired F l m→F a b→Paired F (l ++ [a]) (m ++ [b])
  | _,_,_,_,.nil,h=>.cons h .nil
  | _,_,_,_,.cons q r,h=>.cons q (paired_snoc r h)
theorem paired_len {α β:Type} {F:α→β→Prop} {l:List α} {m:List β} (r:Paired F l m):l.length = m.length:=Paired.length r
theorem paired_drop {α β:Type} {F:α→β→Prop}:∀ {l:List α} {m:List β} (n:Nat),Paired F l m→Paired F (l.drop n) (m.drop n)
  | _,_,0,r=>r
  | _,_,n + 1,.nil=>.nil
  | _,_,n + 1,.cons _ r=>paired_drop n r
theorem paired_app {α β:Type} {F:α→β→Prop}:∀ {l l':List α} {m m':List β},Paired F l m→Paired F l' m'→Paired F (l ++ l') (m ++ m')
  | _,_,_,_,.nil,s=>s
  | _,_,_,_,.cons q r,s=>.cons q (paired_app r s)
theorem take_snoc {α:Type} {l:List α} {i:Nat} {x:α} (h:l[i]? = some x):l.take (i + 1) = l.take i ++ [x]:=by
  rw [List.take_add_one,h];rfl
section
variable {α β:Type} {K:PySem.W.Frag} {g:TG} {tt:TT} {te:TE} {vs:List Nat} {σ:L2.St} {H1:Hp} {D:Addr} {Qd:Hp→Prop}
def Does (R:Hp→V→β→Prop) (p:α→Bool) (f:α→β) (tt:TT) (te:TE) (H1:Hp) (D:Addr) (z:α) (T:(L2.St→Hp→Prop)→Prop) (σw:L2.St) (vs:List Nat) (H:Hp):Prop :=
  ∀ (Nx:V→Hp→Prop) (Fx:Hp→Prop),(∀ y H4,p z = true→Same H H4→R (off H4 D) y (f z)→Nx y H4)→(∀ H3,p z = false→Same H H3→Fx H3) →
    T fun σ2 H2=>wipe σ2 vs = σw∧tt σ2 H2 fun b H3=>if b = true then te σ2 H3 Nx else Fx H3
def Got (R:Hp→V→β→Prop) (H1:Hp) (D:Addr) (m:List β) (H:Hp):Prop:=Same H1 H∧∃ acc,H D = some (.lst acc)∧Paired (R (off H D)) acc m
theorem got_next {R:Hp→V→β→Prop} (st:Stable R) {m:List β} {H H4:Hp} {y:V} {b:β} (hD:H1 D = none) (G:Got R H1 D m H) (s:Same H H4) (r:R (off H4 D) y b) (hl:m.length < sizeLine) :
    ∃ acc,H4 D = some (.lst acc)∧acc.length < sizeLine∧Got R H1 D (m ++ [b]) (upd H4 D (.lst (acc ++ [y]))):=by
  obtain ⟨s1,acc,e,p⟩:=G
  refine ⟨acc,s _ _ e,by rw [paired_len p];exact hl,same_write hD (s1.trans s),acc ++ [y],upd_same,paired_snoc (paired_mono (fun v z q=>st _ _ _ _ off_upd (st _ _ _ _ (off_same s) q)) p) (st _ _ _ _ off_upd r)⟩
theorem got_keep {R:Hp→V→β→Prop} (st:Stable R) {m:List β} {H H3:Hp} (G:Got R H1 D m H) (s:Same H H3):Got R H1 D m H3:=by
  obtain ⟨s1,acc,e,p⟩:=G
  exact ⟨s1.trans s,acc,s _ _ e,paired_mono (fun v z q=>st _ _ _ _ (off_same s) q) p⟩
theorem got_nil {R:Hp→V→β→Prop} (hD:H1 D = none):Got R H1 D [] (upd H1 D (.lst [])):=⟨same_upd hD,[],upd_same,.nil⟩
theorem got_end {R:Hp→V→β→Prop} (st:Stable R) {m:List β} {H:Hp} (G:Got R H1 D m H):Same H1 H∧∃ acc,H D = some (.lst acc)∧Paired (R H) acc m:=by
  obtain ⟨s1,acc,e,p⟩:=G
  exact ⟨s1,acc,e,paired_mono (fun v z q=>st _ _ _ _ off_le q) p⟩
theorem lc_listM {a:Addr} {xs:List V} {zs:List α} {R:Hp→V→β→Prop} (st:Stable R) (p:α→Bool) (f:α→β) (hD:H1 D = none) (hx:SqL K H1 a xs) (hlen:xs.length = zs.length) (hsz:zs.length≤sizeLine)
    (hs:∀ (i:Nat) (x:V) (z:α) (H:Hp),xs[i]? = some x→zs[i]? = some z→Same H1 H→(∃ acc,H D = some (.lst acc))→Does R p f tt te H1 D z (g x (wipe σ vs) H) (wipe σ vs) vs H)
    (hd:∀ H ys,Same H1 H→H D = some (.lst ys)→Paired (R H) ys ((zs.filter p).map f)→Qd H) :
    ∃ W:Nat→Nat→Hp→Prop,(∃ m,W 0 m (upd H1 D (.lst [])))∧∀ i m H,W i m H →
      ((Itl K a).stop i H∧Qd H)∨((Itl K a).go i H∧∃ Nx:Hp→Prop,(∀ H',Nx H'→∃ m',m' < m∧W (i + 1) m' H')∧∀ x H',(Itl K a).yld i H x H'→g x (wipe σ vs) H' fun σ2 H2=>wipe σ2 vs = wipe σ vs∧tt σ2 H2 fun b H3 =>
        if b = true then te σ2 H3 fun y H4=>∃ acc,H4 D = some (.lst acc)∧acc.length < sizeLine∧Nx (upd H4 D (.lst (acc ++ [y]))) else Nx H3):=by
  have len:∀ i,i < zs.length→(((zs.take i).filter p).map f).length < sizeLine:=fun i hi=>by
    have h1:=List.length_filter_le p (zs.take i)
    rw [List.length_take] at h1
    rw [List.length_map]
    have:min i zs.length = i:=by omega
    omega
  refine lc_list (K:=K) (a:=a) (xs:=xs) (fun i H=>Got R H1 D (((zs.take i).filter p).map f) H) (got_nil hD) (fun i H _ G=>Same.seq G.1 hx) (fun i x H hi G=>?_) (fun H G=>?_)
  · obtain ⟨z,hz⟩:∃ z,zs[i]? = some z:=by
      have:i < zs.length:=by rw [← hlen];exact (List.getElem?_eq_some_iff.mp hi).1
      exact ⟨zs[i],List.getElem?_eq_getElem this⟩
    have hi':i < zs.length:=(List.getElem?_eq_some_iff.mp hz).1
    refine hs i x z H hi hz G.1 (by obtain ⟨_,acc,e,_⟩:=G;exact ⟨acc,e⟩) _ _ (fun y H4 pz s r=>?_) (fun H3 pz s=>?_)
    · obtain ⟨acc,e1,e2,G2⟩:=got_next st hD G s r (by exact len i hi')
      refine ⟨acc,e1,e2,?_⟩
      rw [take_snoc hz,List.filter_append,List.map_append]
      simpa [pz] using G2
    · have G2:=got_keep st G s
      rw [take_snoc hz,List.filter_append,List.map_append]
      simpa [pz] using G2
  · rw [hlen,List.take_length] at G
    obtain ⟨s1,acc,e,q⟩:=got_end st G
    exact hd H acc s1 e q
theorem lc_rangeM {n:Nat} {R:Hp→V→β→Prop} (st:Stable R) (f:Nat→β) (hD:H1 D = none) (hsz:n≤sizeLine)
    (hs:∀ (i:Nat) (H:Hp),i < n→Same H1 H→(∃ acc,H D = some (.lst acc))→Does R (fun _=>true) f tt te H1 D i (g (.int (0 + (i:Int))) (wipe σ vs) H) (wipe σ vs) vs H)
    (hd:∀ H ys,Same H1 H→H D = some (.lst ys)→Paired (R H) ys ((List.range n).map f)→Qd H) :
    ∃ W:Nat→Nat→Hp→Prop,(∃ m,W 0 m (upd H1 D (.lst [])))∧∀ i m H,W i m H →
      ((Itr 0 n).stop i H∧Qd H)∨((Itr 0 n).go i H∧∃ Nx:Hp→Prop,(∀ H',Nx H'→∃ m',m' < m∧W (i + 1) m' H')∧∀ x H',(Itr 0 n).yld i H x H'→g x (wipe σ vs) H' fun σ2 H2=>wipe σ2 vs = wipe σ vs∧tt σ2 H2 fun b H3 =>
        if b = true then te σ2 H3 fun y H4=>∃ acc,H4 D = some (.lst acc)∧acc.length < sizeLine∧Nx (upd H4 D (.lst (acc ++ [y]))) else Nx H3):=by
  refine lc_range (lo:=0) (n:=n) (fun i H=>Got R H1 D ((List.range i).map f) H) (got_nil hD) (fun i H hi G=>?_) (fun H G=>?_)
  · refine hs i H hi G.1 (by obtain ⟨_,acc,e,_⟩:=G;exact ⟨acc,e⟩) _ _ (fun y H4 pz s r=>?_) (fun H3 pz s=>by cases pz)
    obtain ⟨acc,e1,e2,G2⟩:=got_next st hD G s r (by rw [List.length_map,List.length_range];omega)
    refine ⟨acc,e1,e2,?_⟩
    rw [List.range_succ,List.map_append];exact G2
  · obtain ⟨s1,acc,e,q⟩:=got_end st G
    exact hd H acc s1 e q
theorem lc_zipM {a b:Addr} {us ws:Vec} {R:Hp→V→β→Prop} (st:Stable R) (f:Int→Int→β) (hD:H1 D = none) (ha:SqT K H1 a (us.map V.int)) (hb:SqT K H1 b (ws.map V.int)) (hlen:us.length = ws.length) (hsz:us.length≤sizeLine)
    (hs:∀ (i:Nat) (x y:Int) (T:Addr) (H:Hp),us[i]? = some x→ws[i]? = some y→Same H1 H→H T = none→T≠D→Does R (fun _=>true) (fun z:Int × Int=>f z.1 z.2) tt te H1 D (x,y) (g (.ref T) (wipe σ vs) (upd H T (.tup [.int x,.int y]))) (wipe σ vs) vs (upd H T (.tup [.int x,.int y])))
    (hd:∀ H ys,Same H1 H→H D = some (.lst ys)→Paired (R H) ys (List.zipWith f us ws)→Qd H) :
    ∃ W:Nat→Nat→Hp→Prop,(∃ m,W 0 m (upd H1 D (.lst [])))∧∀ i m H,W i m H →
      ((ItzT K a b).stop i H∧Qd H)∨((ItzT K a b).go i H∧∃ Nx:Hp→Prop,(∀ H',Nx H'→∃ m',m' < m∧W (i + 1) m' H')∧∀ x H',(ItzT K a b).yld i H x H'→g x (wipe σ vs) H' fun σ2 H2=>wipe σ2 vs = wipe σ vs∧tt σ2 H2 fun b H3 =>
        if b = true then te σ2 H3 fun y H4=>∃ acc,H4 D = some (.lst acc)∧acc.length < sizeLine∧Nx (upd H4 D (.lst (acc ++ [y]))) else Nx H3):=by
  refine ⟨fun i m H=>m = us.length - i∧i≤us.length∧Got R H1 D ((List.zipWith f us ws).take i) H,⟨us.length,by simp,Nat.zero_le _,got_nil hD⟩,?_⟩
  rintro i m H ⟨rfl,hi,G⟩
  have qa:=Same.seqT G.1 ha
  have qb:=Same.seqT G.1 hb
  by_cases hlt:i < us.length
  · have hlw:i < ws.length:=by omega
    refine .inr ⟨⟨_,_,.int us[i],.int ws[i],qa,qb,by simp [hlt],by simp [hlw]⟩,_,fun H' G'=>⟨us.length - (i + 1),by omega,rfl,hlt,G'⟩,fun v H' y=>?_⟩
    obtain ⟨T,x,y,rfl,hT,rfl,ex,ey⟩:=y
    have ex:=ex _ qa
    have ey:=ey _ qb
    have ex:x = .int us[i]:=by simpa [hlt] using ex.symm
    have ey:y = .int ws[i]:=by simpa [hlw] using ey.symm
    subst ex ey
    have TD:T≠D:=fun z=>by obtain ⟨_,acc,e,_⟩:=G;rw [z,e] at hT;cases hT
    have G0:Got R H1 D ((List.zipWith f us ws).take i) (upd H T (.tup [.int us[i],.int ws[i]])):=got_keep st G (same_upd hT)
    refine hs i us[i] ws[i] T H (List.getElem?_eq_getElem hlt) (List.getElem?_eq_getElem hlw) G.1 hT TD _ _ (fun y H4 _ s r=>?_) (fun H3 pz s=>by cases pz)
    have hz:(List.zipWith f us ws)[i]? = some (f us[i] ws[i]):=by rw [List.getElem?_zipWith,List.getElem?_eq_getElem hlt,List.getElem?_eq_getElem hlw]
    obtain ⟨acc,e1,e2,G2⟩:=got_next st hD G0 s r (by rw [List.length_take];omega)
    refine ⟨acc,e1,e2,?_⟩
    rw [take_snoc hz];exact G2
  · have e:i = us.length:=by omega
    subst e
    refine .inl ⟨⟨_,_,qa,qb,.inl (by simp)⟩,?_⟩
    rw [List.take_of_length_le (by rw [List.length_zipWith];omega)] at G
    obtain ⟨s1,acc,e,q⟩:=got_end st G
    exact hd H acc s1 e q
theorem lc_zipL {a b:Addr} {us ws:Vec} {R:Hp→V→β→Prop} (st:Stable R) (f:Int→Int→β) (hD:H1 D = none) (ha:SqL K H1 a (us.map V.int)) (hb:SqL K H1 b (ws.map V.int)) (hlen:us.length = ws.length) (hsz:us.length≤sizeLine)
    (hs:∀ (i:Nat) (x y:Int) (T:Addr) (H:Hp),us[i]? = some x→ws[i]? = some y→Same H1 H→H T = none→T≠D→Does R (fun _=>true) (fun z:Int × Int=>f z.1 z.2) tt te H1 D (x,y) (g (.ref T) (wipe σ vs) (upd H T (.tup [.int x,.int y]))) (wipe σ vs) vs (upd H T (.tup [.int x,.int y])))
    (hd:∀ H ys,Same H1 H→H D = some (.lst ys)→Paired (R H) ys (List.zipWith f us ws)→Qd H) :
    ∃ W:Nat→Nat→Hp→Prop,(∃ m,W 0 m (upd H1 D (.lst [])))∧∀ i m H,W i m H →
      ((Itz K a b).stop i H∧Qd H)∨((Itz K a b).go i H∧∃ Nx:Hp→Prop,(∀ H',Nx H'→∃ m',m' < m∧W (i + 1) m' H')∧∀ x H',(Itz K a b).yld i H x H'→g x (wipe σ vs) H' fun σ2 H2=>wipe σ2 vs = wipe σ vs∧tt σ2 H2 fun b H3 =>
        if b = true then te σ2 H3 fun y H4=>∃ acc,H4 D = some (.lst acc)∧acc.length < sizeLine∧Nx (upd H4 D (.lst (acc ++ [y]))) else Nx H3):=by
  refine ⟨fun i m H=>m = us.length - i∧i≤us.length∧Got R H1 D ((List.zipWith f us ws).take i) H,⟨us.length,by simp,Nat.zero_le _,got_nil hD⟩,?_⟩
  rintro i m H ⟨rfl,hi,G⟩
  have qa:=Same.seq G.1 ha
  have qb:=Same.seq G.1 hb
  by_cases hlt:i < us.length
  · have hlw:i < ws.length:=by omega
    refine .inr ⟨⟨_,_,.int us[i],.int ws[i],qa,qb,by simp [hlt],by simp [hlw]⟩,_,fun H' G'=>⟨us.length - (i + 1),by omega,rfl,hlt,G'⟩,fun v H' y=>?_⟩
    obtain ⟨T,x,y,rfl,hT,rfl,ex,ey⟩:=y
    have ex:=ex _ qa
    have ey:=ey _ qb
    have ex:x = .int us[i]:=by simpa [hlt] using ex.symm
    have ey:y = .int ws[i]:=by simpa [hlw] using ey.symm
    subst ex ey
    have TD:T≠D:=fun z=>by obtain ⟨_,acc,e,_⟩:=G;rw [z,e] at hT;cases hT
    have G0:Got R H1 D ((List.zipWith f us ws).take i) (upd H T (.tup [.int us[i],.int ws[i]])):=got_keep st G (same_upd hT)
    refine hs i us[i] ws[i] T H (List.getElem?_eq_getElem hlt) (List.getElem?_eq_getElem hlw) G.1 hT TD _ _ (fun y H4 _ s r=>?_) (fun H3 pz s=>by cases pz)
    have hz:(List.zipWith f us ws)[i]? = some (f us[i] ws[i]):=by rw [List.getElem?_zipWith,List.getElem?_eq_getElem hlt,List.getElem?_eq_getElem hlw]
    obtain ⟨acc,e1,e2,G2⟩:=got_next st hD G0 s r (by rw [List.length_take];omega)
    refine ⟨acc,e1,e2,?_⟩
    rw [take_snoc hz];exact G2
  · have e:i = us.length:=by omega
    subst e
    refine .inl ⟨⟨_,_,qa,qb,.inl (by simp)⟩,?_⟩
    rw [List.take_of_length_le (by rw [List.length_zipWith];omega)] at G
    obtain ⟨s1,acc,e,q⟩:=got_end st G
    exact hd H acc s1 e q
end
def IntR (_:Hp) (v:V) (n:Int):Prop:=v = .int n
theorem int_st:Stable IntR:=fun _ _ _ _ _ h=>h
def BlR (_:Hp) (v:V) (b:Bool):Prop:=v = .bl b
theorem bl_st:Stable BlR:=fun _ _ _ _ _ h=>h
theorem ints_eq {H:Hp}:∀ {vs:List V} {ns:List Int},Paired (IntR H) vs ns→vs = ns.map V.int
  | _,_,.nil=>rfl
  | _,_,.cons h r=>by rw [show _ = V.int _ from h,ints_eq r];rfl
theorem bls_eq {H:Hp}:∀ {vs:List V} {bs:List Bool},Paired (BlR H) vs bs→vs = bs.map V.bl
  | _,_,.nil=>rfl
  | _,_,.cons h r=>by rw [show _ = V.bl _ from h,bls_eq r];rfl
section
variable {α β:Type} {K:PySem.W.Frag} {g:TG} {tt:TT} {te:TE} {vs:List Nat} {σ:L2.St} {H1:Hp} {D:Addr} {Qd:Hp→Prop}
theorem lc_tupM {a:Addr} {xs:List V} {zs:List α} {R:Hp→V→β→Prop} (st:Stable R) (p:α→Bool) (f:α→β) (hD:H1 D = none) (hx:SqT K H1 a xs) (hlen:xs.length = zs.length) (hsz:zs.length≤sizeLine)
    (hs:∀ (i:Nat) (x:V) (z:α) (H:Hp),xs[i]? = some x→zs[i]? = some z→Same H1 H→(∃ acc,H D = some (.lst acc))→Does R p f tt te H1 D z (g x (wipe σ vs) H) (wipe σ vs) vs H)
    (hd:∀ H ys,Same H1 H→H D = some (.lst ys)→Paired (R H) ys ((zs.filter p).map f)→Qd H) :
    ∃ W:Nat→Nat→Hp→Prop,(∃ m,W 0 m (upd H1 D (.lst [])))∧∀ i m H,W i m H →
      ((Itt K a).stop i H∧Qd H)∨((Itt K a).go i H∧∃ Nx:Hp→Prop,(∀ H',Nx H'→∃ m',m' < m∧W (i + 1) m' H')∧∀ x H',(Itt K a).yld i H x H'→g x (wipe σ vs) H' fun σ2 H2=>wipe σ2 vs = wipe σ vs∧tt σ2 H2 fun b H3 =>
        if b = true then te σ2 H3 fun y H4=>∃ acc,H4 D = some (.lst acc)∧acc.length < sizeLine∧Nx (upd H4 D (.lst (acc ++ [y]))) else Nx H3):=by
  have len:∀ i,i < zs.length→(((zs.take i).filter p).map f).length < sizeLine:=fun i hi=>by
    have h1:=List.length_filter_le p (zs.take i)
    rw [List.length_take] at h1
    rw [List.length_map]
    have:min i zs.length = i:=by omega
    omega
  refine lc_tup (K:=K) (a:=a) (xs:=xs) (fun i H=>Got R H1 D (((zs.take i).filter p).map f) H) (got_nil hD) (fun i H _ G=>Same.seqT G.1 hx) (fun i x H hi G=>?_) (fun H G=>?_)
  · obtain ⟨z,hz⟩:∃ z,zs[i]? = some z:=by
      have:i < zs.length:=by rw [← hlen];exact (List.getElem?_eq_some_iff.mp hi).1
      exact ⟨zs[i],List.getElem?_eq_getElem this⟩
    have hi':i < zs.length:=(List.getElem?_eq_some_iff.mp hz).1
    refine hs i x z H hi hz G.1 (by obtain ⟨_,acc,e,_⟩:=G;exact ⟨acc,e⟩) _ _ (fun y H4 pz s r=>?_) (fun H3 pz s=>?_)
    · obtain ⟨acc,e1,e2,G2⟩:=got_next st hD G s r (by exact len i hi')
      refine ⟨acc,e1,e2,?_⟩
      rw [take_snoc hz,List.filter_append,List.map_append]
      simpa [pz] using G2
    · have G2:=got_keep st G s
      rw [take_snoc hz,List.filter_append,List.map_append]
      simpa [pz] using G2
  · rw [hlen,List.take_length] at G
    obtain ⟨s1,acc,e,q⟩:=got_end st G
    exact hd H acc s1 e q
end
theorem cut_take (xs:List V) (c:Nat) (h:c≤xs.length):cutV xs none (some (c:Int)) = xs.take c:=by
  unfold cutV
  rw [HT.sIx_none,HT.sIx_nat]
  simp [Nat.min_eq_left h]
theorem cut_drop (xs:List V) (c:Nat) (h:c≤xs.length):cutV xs (some (c:Int)) none = xs.drop c:=by
  unfold cutV
  rw [HT.sIx_none,HT.sIx_nat,Nat.min_eq_left h]
  rw [List.take_of_length_le (by simp)]
theorem cut_mid (xs:List V) (c d:Nat) (h:c + d≤xs.length):cutV xs (some (c:Int)) (some ((c:Int) + (d:Int))) = (xs.drop c).take d:=by
  unfold cutV
  have e:((c:Int) + (d:Int)) = ((c + d:Nat):Int):=by simp
  have m1:min c xs.length = c:=Nat.min_eq_left (by omega)
  have m2:min (c + d) xs.length = c + d:=Nat.min_eq_left h
  rw [e,HT.sIx_nat,HT.sIx_nat,m1,m2]
  congr 1;omega
structure Tx (mg:Str→Option Value):Prop where
  zip:mg "zip" = none
  tuple:mg "tuple" = none
  sum:mg "sum" = none
  any:mg "any" = none
  all:mg "all" = none
  abs:mg "abs" = none
  len:mg "len" = none
  range:mg "range" = none
  min:mg "min" = none
  max:mg "max" = none
  sorted:mg "sorted" = none
  list:mg "list" = none
theorem boot_tuple:bootBuiltins "tuple" = some (.type "tuple"):=by decide +kernel
theorem boot_sum:bootBuiltins "sum" = some (.builtin "sum"):=by decide +kernel
theorem boot_any:bootBuiltins "any" = some (.builtin "any"):=by decide +kernel
theorem boot_all:bootBuiltins "all" = some (.builtin "all"):=by decide +kernel
theorem boot_abs:bootBuiltins "abs" = some (.builtin "abs"):=by decide +kernel
theorem boot_min:bootBuiltins "min" = some (.builtin "min"):=by decide +kernel
theorem boot_max:bootBuiltins "max" = some (.builtin "max"):=by decide +kernel
theorem boot_sorted:bootBuiltins "sorted" = some (.builtin "sorted"):=by decide +kernel
theorem pg_pair {X:Cx} {i j:Nat} {x y:Str} {k:Nat} {p1 p2 pos:Pos} {K:PySem.W.Frag} (hK:X.K = K) (hc:X.calm = true) (hN:X.N.Nodup) (hi:X.N[i]? = some x) (hj:X.N[j]? = some y) (hx:X.env.scope.names.lookup x = some .local) (hy:X.env.scope.names.lookup y = some .local) :
    PG X (.Tuple [.Name x p1,.Name y p2] k pos) (gTup K 2 (gCons (gName i) (gCons (gName j) gNil))):=by
  subst hK
  exact pg_tup (n:=2) hc (pgs_cons (pg_name (i:=i) hN hi (Or.inl hx) (Or.inr hx)) (pgs_cons (pg_name (i:=j) hN hj (Or.inl hy) (Or.inr hy)) pgs_nil))
def Bd (M:Nat) (ns:Vec):Prop:=∀ z∈ns,z.natAbs≤M
def top (i:Nat):Stmt:=PySem.Challenge.pw_wholepoints_s08_er_alike.main.body.getD i (.Pass ⟨0,0,0,0⟩)
abbrev sGcd:Stmt:=top 30
abbrev sVal:Stmt:=top 28
def spVal:Sp:=fun vs H Q _=>∃ (v u:V) (a x:Vec),vs = [v,u]∧Row true H v a∧Row true H u x∧a.length = x.length∧a.length≤5∧Bd (2 ^ 30) a∧Bd (2 ^ 30) x∧∀ H',Same H H'→Q (.int (Sa83.dot a x)) H'
def spGcd:Sp:=fun vs H Q _=>∃ a b:Int,vs = [.int a,.int b]∧0≤a∧0≤b∧Q (.int (Nat.gcd a.toNat b.toNat:Nat)) H
def slotI (σ:L2.St) (i:Nat):Int:=match σ[i]? with
  | some (some (.int n))=>n
  | _=>0
section
variable {P:Program} {w:World} {K:PySem.W.Frag} {mg:Str→Option Value} {base:Heap}
theorem scGcd:FnScope ["a","b","rest"] ["a","b"] (defScope sGcd):=⟨rfl,rfl,rfl,by decide +kernel,rfl,by decide +kernel,by decide +kernel⟩
theorem gcd_step {a b:Int} (ha:0≤a) (hb:0≤b) (h0:b≠0):Nat.gcd b.toNat (a % b).toNat = Nat.gcd a.toNat b.toNat:=by
  have hb':0 < b:=by omega
  obtain ⟨m,rfl⟩:=Int.eq_ofNat_of_zero_le ha
  obtain ⟨n,rfl⟩:=Int.eq_ofNat_of_zero_le hb
  have e:((m:Int) % (n:Int)).toNat = m % n:=by
    rw [← Int.natCast_emod];exact Int.toNat_natCast _
  rw [e]
  simp only [Int.toNat_natCast]
  rw [Nat.gcd_comm n,← Nat.gcd_rec,Nat.gcd_comm]
theorem ok_gcd {f:Addr} {fd:FuncData} (F:Fun K "common_divisor" "common_divisor" sGcd f fd):FnOk P w K mg base CX0 1 f fd ["a","b"] spGcd:=by
  refine F.ok scGcd (fun vs H Q E h=>?_) (fun cdv A outer s H vs Q E hr h=>?_)
  · obtain ⟨a,b,rfl,_⟩:=h
    rfl
  · obtain ⟨a,b,rfl,ha,hb,q⟩:=h
    refine ⟨_,pss_cons (ps_while PassesOwn.never (pt_cmpR op_ne (pv 1) pe_int (nomark _)) (pss_cons (ps_set (i:=2) scGcd.nd rfl (Or.inl rfl) (pe_op op_mod (pv 0) (pv 1)))
      (pss_cons (ps_set (i:=0) scGcd.nd rfl (Or.inl rfl) (pv 1)) (pss_one (ps_set (i:=1) scGcd.nd rfl (Or.inl rfl) (pv 2))))))
      (pss_one (ps_ret (pv 0))),?_⟩
    refine while_by (fun σ H'=>∃ (x y:Int) (r:Option V),σ = [some (.int x),some (.int y),r]∧0≤x∧0≤y∧Nat.gcd x.toNat y.toNat = Nat.gcd a.toNat b.toNat∧H' = H) (fun σ _=>(slotI σ 1).toNat) ⟨a,b,none,rfl,ha,hb,rfl,rfl⟩ ?_ ?_
    · rintro σ H' ⟨x,y,r,rfl,hx,hy,e,rfl⟩
      refine ⟨_,rfl,rfl,_,rfl,?_⟩
      refine ite2 (fun c=>?_) (fun c=>?_)
      · have hy0:y≠0:=by simpa using c
        refine ⟨_,rfl,_,rfl,_,_,rfl,rfl,(by show 0 < y;omega),?_⟩
        refine ⟨_,rfl,?_⟩
        refine ⟨_,rfl,?_⟩
        refine ⟨⟨y,x % y,_,rfl,hy,Int.emod_nonneg _ hy0,?_,rfl⟩,?_⟩
        · rw [gcd_step hx hy hy0];exact e
        · show (x % y).toNat < y.toNat
          have:=Int.emod_lt_of_pos x (show 0 < y by omega)
          omega
      · have hy0:y = 0:=by simpa using c
        refine ⟨_,rfl,?_⟩
        subst hy0
        have e2:((Nat.gcd a.toNat b.toNat:Nat):Int) = x:=by rw [← e];simp;omega
        rw [e2] at q
        exact q
    · rintro σ H' Q1 Q2 hq ⟨v,e1,h1,k,e2,h2⟩
      exact ⟨v,e1,h1,k,e2,hq _ _ h2⟩
theorem big_of {M:Nat} {z:Int} (h:z.natAbs≤M) (hM:M < 2 ^ 4000):z.natAbs < 2 ^ 4000:=Nat.lt_of_le_of_lt h hM
theorem big30 {ns:Vec} {i:Nat} {x:Int} (h:Bd (2 ^ 30) ns) (e:ns[i]? = some x):x.natAbs < 2 ^ 4000:=big_of (h x (List.mem_of_getElem? e)) (Nat.pow_lt_pow_right (by decide) (show 30 < 4000 by decide))
theorem dot_zip (a x:Vec):Sa83.dot a x = (List.zipWith (fun x y=>x * y) a x).sum:=by
  unfold Sa83.dot
  rw [sum_eq]
  congr 1
  rw [List.zip,List.map_zipWith]
theorem scVal:FnScope ["normal","point","a","x"] ["normal","point"] (defScope sVal):=⟨rfl,rfl,rfl,by decide +kernel,rfl,by decide +kernel,by decide +kernel⟩
theorem small_ok {n:Nat} (h:n≤100000):n≤sizeLine:=by rw [sizeLine_eq];omega
theorem ok_val {f:Addr} {fd:FuncData} (F:Fun K "value_at" "value_at" sVal f fd) (T:Tx mg):FnOk P w K mg base CX0 1 f fd ["normal","point"] spVal:=by
  refine F.ok scVal (fun vs H Q E h=>?_) (fun cdv A outer s H vs Q E hr h=>?_)
  · obtain ⟨v,u,a,x,rfl,_⟩:=h
    rfl
  · obtain ⟨v,u,a,x,rfl,⟨p,rfl,hp⟩,⟨q,rfl,hq⟩,hl,h5,ba,bx,k⟩:=h
    refine ⟨_,pss_one (ps_ret (pe_callB (cr_sum rfl) rfl T.sum boot_sum (pa_cons (pe_lc rfl scVal.nd (pi_zipT rfl T.zip (pa_cons (pv 0) (pa_cons (pv 1) pa_nil))) (blkOk_by (own:=[("a",2),("x",3)]) (by kernel_rfl))
      (fun s H C cl fp=>pg_pair (i:=2) (j:=3) (K:=K) rfl rfl scVal.nd rfl rfl rfl rfl) (fun s H C cl fp=>pts_nil) (fun s H C cl fp=>pe_op op_mulB (pv 2) (pv 3))) pa_nil))),?_⟩
    refine ⟨_,rfl,_,rfl,p,q,_,_,rfl,SqT.of hp,SqT.of hq,fun D hD=>lc_zipM int_st (fun x y=>x * y) hD (SqT.of hp) (SqT.of hq) hl (small_ok (by omega)) (fun i x y T0 H2 ex ey s1 hT TD Nx Fx n1 n2=>?_) (fun H2 ys s1 e1 e2=>?_)⟩
    · refine ⟨T0,_,rfl,SqT.of upd_same,rfl,_,_,rfl,_,_,rfl,rfl,rfl,?_⟩
      exact ⟨_,rfl,_,rfl,_,_,rfl,rfl,⟨big30 ba ex,big30 bx ey⟩,n1 _ _ rfl (Same.refl _) rfl⟩
    · have e3:=ints_eq e2
      subst e3
      refine ⟨D,_,rfl,SqL.of e1,?_⟩
      rw [← dot_zip]
      exact k H2 s1
end
abbrev sDif:Stmt:=top 25
abbrev sWo:Stmt:=top 24
abbrev sClr:Stmt:=top 23
abbrev sFc:Stmt:=top 22
abbrev sWcd:Stmt:=top 29
def GivesRow (H:Hp) (Q:VK) (ns:Vec):Prop:=∀ p H',Same H H'→H' p = some (RowH true ns)→Q (.ref p) H'
def spDif:Sp:=fun vs H Q _=>∃ (v u:V) (a x:Vec),vs = [v,u]∧Row true H v a∧Row true H u x∧a.length = x.length∧a.length≤5∧GivesRow H Q (Sx38.sub a x)
def spWo:Sp:=fun vs H Q _=>∃ (v:V) (a:Vec) (c:Nat),vs = [v,.int c]∧Row true H v a∧c < a.length∧a.length≤5∧GivesRow H Q (a.eraseIdx c)
def spClr:Sp:=fun vs H Q _=>∃ (t:Bool) (v u:V) (r h:Vec) (c:Nat),vs = [v,u,.int c]∧Row t H v r∧Row t H u h∧r.length = h.length∧c < h.length∧h.length≤5∧Bd (2 ^ 3000) r∧Bd (2 ^ 3000) h ∧
  ∀ p H',H p = none→Same H H'→H' p = some (RowH false (cleared h c r))→Q (.ref p) H'
def spFc:Sp:=fun vs H Q _=>∃ (t:Bool) (v:V) (a:Vec),vs = [v]∧Row t H v a∧(a.any fun x=>x != 0) = true∧a.length≤5∧Q (.int (firstCol a:Nat)) H
section
variable {P:Program} {w:World} {K:PySem.W.Frag} {mg:Str→Option Value} {base:Heap}
theorem scDif:FnScope ["point","other","x","y"] ["point","other"] (defScope sDif):=⟨rfl,rfl,rfl,by decide +kernel,rfl,by decide +kernel,by decide +kernel⟩
theorem sub_zip (a x:Vec):Sx38.sub a x = List.zipWith (fun x y=>x - y) a x:=by
  unfold Sx38.sub
  rw [List.zip,List.map_zipWith]
theorem ok_dif {f:Addr} {fd:FuncData} (F:Fun K "difference" "difference" sDif f fd) (T:Tx mg):FnOk P w K mg base CX0 1 f fd ["point","other"] spDif:=by
  refine F.ok scDif (fun vs H Q E h=>?_) (fun cdv A outer s H vs Q E hr h=>?_)
  · obtain ⟨v,u,a,x,rfl,_⟩:=h
    rfl
  · obtain ⟨v,u,a,x,rfl,⟨p,rfl,hp⟩,⟨q,rfl,hq⟩,hl,h5,k⟩:=h
    refine ⟨_,pss_one (ps_ret (pe_callTy call_tuple_of rfl T.tuple boot_tuple (pa_cons (pe_lc rfl scDif.nd (pi_zipT rfl T.zip (pa_cons (pv 0) (pa_cons (pv 1) pa_nil))) (blkOk_by (own:=[("x",2),("y",3)]) (by kernel_rfl))
      (fun s H C cl fp=>pg_pair (i:=2) (j:=3) (K:=K) rfl rfl scDif.nd rfl rfl rfl rfl) (fun s H C cl fp=>pts_nil) (fun s H C cl fp=>pe_op op_sub (pv 2) (pv 3))) pa_nil))),?_⟩
    refine ⟨_,rfl,_,rfl,p,q,_,_,rfl,SqT.of hp,SqT.of hq,fun D hD=>lc_zipM int_st (fun x y=>x - y) hD (SqT.of hp) (SqT.of hq) hl (small_ok (by omega)) (fun i x y T0 H2 ex ey s1 hT TD Nx Fx n1 n2=>?_) (fun H2 ys s1 e1 e2=>?_)⟩
    · refine ⟨T0,_,rfl,SqT.of upd_same,rfl,_,_,rfl,_,_,rfl,rfl,rfl,?_⟩
      exact ⟨_,rfl,_,rfl,_,_,rfl,rfl,n1 _ _ rfl (Same.refl _) rfl⟩
    · have e3:=ints_eq e2
      rw [← sub_zip] at e3
      subst e3
      exact ⟨D,_,rfl,.inl ⟨SqL.of e1,fun l hl=>k l _ (s1.trans (same_upd hl)) upd_same⟩⟩
theorem scWo:FnScope ["row","column"] ["row","column"] (defScope sWo):=⟨rfl,rfl,rfl,by decide +kernel,rfl,by decide +kernel,by decide +kernel⟩
theorem ok_wo {f:Addr} {fd:FuncData} (F:Fun K "without_column" "without_column" sWo f fd):FnOk P w K mg base CX0 1 f fd ["row","column"] spWo:=by
  refine F.ok scWo (fun vs H Q E h=>?_) (fun cdv A outer s H vs Q E hr h=>?_)
  · obtain ⟨v,a,c,rfl,_⟩:=h
    rfl
  · obtain ⟨v,a,c,rfl,⟨p,rfl,hp⟩,hc,h5,k⟩:=h
    refine ⟨_,pss_one (ps_ret (pe_op op_catA (pe_slice sl_tup (pv 0) po_none (po_some (pv 1))) (pe_slice sl_tup (pv 0) (po_some (pe_op op_add (pv 1) pe_int)) po_none))),?_⟩
    have hlm:(a.map V.int).length = a.length:=by simp
    refine ⟨_,rfl,_,rfl,_,rfl,p,_,rfl,SqT.of hp,?_,fun p1 hp1=>?_⟩
    · rw [HT.sIx_none,HT.sIx_nat,hlm];omega
    have s1:=same_upd (o:=.tup (cutV (a.map V.int) none (some (c:Int)))) hp1
    have ec:((c:Int) + 1) = ((c + 1:Nat):Int):=by simp
    refine ⟨_,rfl,_,rfl,_,_,rfl,rfl,_,rfl,p,_,rfl,SqT.of (s1 _ _ hp),?_,fun p2 hp2=>?_⟩
    · rw [ec,HT.sIx_nat,hlm];omega
    have s2:=same_upd (o:=.tup (cutV (a.map V.int) (some ((c:Int) + 1)) none)) hp2
    have g1:=s2 _ _ (show _ = some (HO.tup (cutV (a.map V.int) none (some (c:Int)))) from upd_same)
    have g2:upd (upd H p1 (.tup (cutV (a.map V.int) none (some (c:Int))))) p2 (.tup (cutV (a.map V.int) (some ((c:Int) + 1)) none)) p2 = some (.tup (cutV (a.map V.int) (some ((c:Int) + 1)) none)):=upd_same
    have e1:cutV (a.map V.int) none (some (c:Int)) = (a.take c).map V.int:=by rw [cut_take _ _ (by rw [hlm];omega),List.map_take]
    have e2:cutV (a.map V.int) (some ((c:Int) + 1)) none = (a.drop (c + 1)).map V.int:=by rw [ec,cut_drop _ _ (by rw [hlm];omega),List.map_drop]
    generalize cutV (a.map V.int) none (some (c:Int)) = L1 at *
    generalize cutV (a.map V.int) (some ((c:Int) + 1)) none = L2 at *
    subst e1 e2
    have er:a.eraseIdx c = a.take c ++ a.drop (c + 1):=List.eraseIdx_eq_take_drop_succ ..
    refine ⟨p1,p2,_,_,rfl,rfl,SqT.of g1,SqT.of g2,?_,fun z=>?_,fun z1 z2=>?_,fun z1 z2 l hl=>?_⟩
    · have:=List.length_take_le c a
      simp only [List.length_map,List.length_drop,List.length_take]
      exact small_ok (by omega)
    · refine k p2 _ (s1.trans s2) ?_
      have e0:a.eraseIdx c = a.drop (c + 1):=by rw [er,show a.take c = [] by simpa using z];rfl
      rw [e0];exact g2
    · refine k p1 _ (s1.trans s2) ?_
      have e0:a.eraseIdx c = a.take c:=by rw [er,show a.drop (c + 1) = [] by simpa using z2,List.append_nil]
      rw [e0];exact g1
    · refine k l _ ((s1.trans s2).trans (same_upd hl)) ?_
      rw [er]
      show _ = some (HO.tup ((a.take c ++ a.drop (c + 1)).map V.int))
      rw [List.map_append];exact upd_same
theorem row_sq {t:Bool} {H:Hp} {a:Addr} {ns:Vec} (h:H a = some (RowH t ns)):SqL K H a (ns.map V.int)∨SqT K H a (ns.map V.int):=by
  cases t with
  | true=>exact .inr (SqT.of h)
  | false=>exact .inl (SqL.of h)
theorem atI_int {ns:Vec} {c:Nat} (h:c < ns.length):atI (ns.map V.int) (c:Int) = some (.int (at0 ns c)):=by
  refine atI_nat ?_
  rw [List.getElem?_map,List.getElem?_eq_getElem h]
  simp [at0,h]
theorem ix_row {t:Bool} {H:Hp} {a:Addr} {ns:Vec} {c:Nat} {Q:VK} (h:H a = some (RowH t ns)) (hc:c < ns.length) (q:Q (.int (at0 ns c)) H):rIxL K (.ref a) (.int c) H Q∨rIxT K (.ref a) (.int c) H Q:=by
  cases t with
  | true=>exact .inr ⟨a,_,_,_,rfl,rfl,SqT.of h,atI_int hc,q⟩
  | false=>exact .inl ⟨a,_,_,_,rfl,rfl,SqL.of h,atI_int hc,q⟩
theorem ix_rowK {X:Cx} {K:PySem.W.Frag} (hK:X.K = K):IxR X (fun x y H Q=>rIxL K x y H Q∨rIxT K x y H Q):=by subst hK;exact ix_list.or ix_tup
theorem row_mono {t:Bool} {H H':Hp} {a:Addr} {ns:Vec} (s:Same H H') (h:H a = some (RowH t ns)):H' a = some (RowH t ns):=s _ _ h
theorem scClr:FnScope ["row","head","column","x","y"] ["row","head","column"] (defScope sClr):=⟨rfl,rfl,rfl,by decide +kernel,rfl,by decide +kernel,by decide +kernel⟩
theorem big3000 {ns:Vec} {x:Int} (h:Bd (2 ^ 3000) ns) (e:x∈ns):x.natAbs < 2 ^ 4000:=big_of (h x e) (Nat.pow_lt_pow_right (by decide) (show 3000 < 4000 by decide))
theorem clr_zip (h r:Vec) (c:Nat):cleared h c r = List.zipWith (fun x y=>at0 h c * x - at0 r c * y) r h:=rfl
theorem ok_clr {f:Addr} {fd:FuncData} (F:Fun K "cleared" "cleared" sClr f fd) (T:Tx mg):FnOk P w K mg base CX0 1 f fd ["row","head","column"] spClr:=by
  refine F.ok scClr (fun vs H Q E h=>?_) (fun cdv A outer s H vs Q E hr h=>?_)
  · obtain ⟨t,v,u,r,h,c,rfl,_⟩:=h
    rfl
  · obtain ⟨t,v,u,r,h,c,rfl,⟨p,rfl,hp⟩,⟨q,rfl,hq⟩,hl,hc,h5,br,bh,k⟩:=h
    refine ⟨_,pss_one (ps_ret (pe_lc rfl scClr.nd (PI.or (pi_zipT rfl T.zip (pa_cons (pv 0) (pa_cons (pv 1) pa_nil))) (pi_zip rfl T.zip (pa_cons (pv 0) (pa_cons (pv 1) pa_nil)))) (blkOk_by (own:=[("x",3),("y",4)]) (by kernel_rfl))
      (fun s H C cl fp=>pg_pair (i:=3) (j:=4) (K:=K) rfl rfl scClr.nd rfl rfl rfl rfl) (fun s H C cl fp=>pts_nil)
      (fun s H C cl fp=>pe_op op_sub (pe_op op_mulB (pe_ix (ix_rowK (K:=K) rfl) (pv 1) (pv 2) (fun _ _=>rfl)) (pv 3)) (pe_op op_mulB (pe_ix (ix_rowK (K:=K) rfl) (pv 0) (pv 2) (fun _ _=>rfl)) (pv 4))))),?_⟩
    have turn:∀ (i:Nat) (x y:Int) (T0 D:Addr) (H2:Hp),r[i]? = some x→h[i]? = some y→Same H H2→H2 T0 = none→T0≠D →
        Does IntR (fun _=>true) (fun z:Int × Int=>at0 h c * z.1 - at0 r c * z.2) tYes (tOp (rI0 fun i j=>.int (i - j)) (tOp (rI CBig fun i j=>.int (i * j)) (tOp (fun x y H Q=>rIxL K x y H Q∨rIxT K x y H Q) (tVar 1) (tVar 2)) (tVar 3)) (tOp (rI CBig fun i j=>.int (i * j)) (tOp (fun x y H Q=>rIxL K x y H Q∨rIxT K x y H Q) (tVar 0) (tVar 2)) (tVar 4))) H D (x,y)
          (gTup K 2 (gCons (gName 3) (gCons (gName 4) gNil)) (.ref T0) (wipe (L2.start ["row","head","column","x","y"] [.ref p,.ref q,.int c]) [3,4]) (upd H2 T0 (.tup [.int x,.int y]))) (wipe (L2.start ["row","head","column","x","y"] [.ref p,.ref q,.int c]) [3,4]) [3,4] (upd H2 T0 (.tup [.int x,.int y])):=by
      intro i x y T0 D H2 ex ey s1 hT TD Nx Fx n1 n2
      have s2:=s1.trans (same_upd (o:=.tup [.int x,.int y]) hT)
      refine ⟨T0,_,rfl,SqT.of upd_same,rfl,_,_,rfl,_,_,rfl,rfl,rfl,?_⟩
      have m1:at0 h c∈h:=at0_mem hc
      have m2:at0 r c∈r:=at0_mem (by omega)
      refine ⟨_,rfl,_,rfl,ix_row (row_mono s2 hq) hc ?_⟩
      refine ⟨_,rfl,_,_,rfl,rfl,⟨big3000 bh m1,big3000 br (List.mem_of_getElem? ex)⟩,?_⟩
      refine ⟨_,rfl,_,rfl,ix_row (row_mono s2 hp) (by omega) ?_⟩
      exact ⟨_,rfl,_,_,rfl,rfl,⟨big3000 br m2,big3000 bh (List.mem_of_getElem? ey)⟩,_,_,rfl,rfl,n1 _ _ rfl (Same.refl _) rfl⟩
    have done:∀ (D:Addr) (H2:Hp) (ys:List V),H D = none→Same H H2→H2 D = some (.lst ys)→Paired (IntR H2) ys (List.zipWith (fun x y=>at0 h c * x - at0 r c * y) r h)→Q (.ref D) H2:=by
      intro D H2 ys hD s1 e1 e2
      have e3:=ints_eq e2
      subst e3
      exact k D H2 hD s1 e1
    cases t with
    | true=>exact .inl ⟨_,rfl,_,rfl,p,q,_,_,rfl,SqT.of hp,SqT.of hq,fun D hD=>lc_zipM int_st (fun x y=>at0 h c * x - at0 r c * y) hD (SqT.of hp) (SqT.of hq) hl (small_ok (by omega)) (fun i x y T0 H2 ex ey s1 hT TD=>turn i x y T0 D H2 ex ey s1 hT TD) (fun H2 ys s1 e1 e2=>done D H2 ys hD s1 e1 e2)⟩
    | false=>exact .inr ⟨_,rfl,_,rfl,p,q,_,_,rfl,SqL.of hp,SqL.of hq,fun D hD=>lc_zipL int_st (fun x y=>at0 h c * x - at0 r c * y) hD (SqL.of hp) (SqL.of hq) hl (small_ok (by omega)) (fun i x y T0 H2 ex ey s1 hT TD=>turn i x y T0 D H2 ex ey s1 hT TD) (fun H2 ys s1 e1 e2=>done D H2 ys hD s1 e1 e2)⟩
theorem scFc:FnScope ["row","column"] ["row"] (defScope sFc):=⟨rfl,rfl,rfl,by decide +kernel,rfl,by decide +kernel,by decide +kernel⟩
theorem firstCol_before:∀ (a:Vec) (c:Nat),c < firstCol a→at0 a c = 0
  | [],c,h=>by simp [firstCol] at h
  | x :: r,c,h=>by
    unfold firstCol at h
    by_cases hx:x = 0
    · rw [if_pos hx] at h
      cases c with
      | zero=>simp [at0,hx]
      | succ c=>have:=firstCol_before r c (by omega);simpa [at0] using this
    · rw [if_neg hx] at h;omega
theorem ok_fc {f:Addr} {fd:FuncData} (F:Fun K "first_column" "first_column" sFc f fd):FnOk P w K mg base CX0 1 f fd ["row"] spFc:=by
  refine F.ok scFc (fun vs H Q E h=>?_) (fun cdv A outer s H vs Q E hr h=>?_)
  · obtain ⟨t,v,a,rfl,_⟩:=h
    rfl
  · obtain ⟨t,v,a,rfl,⟨p,rfl,hp⟩,hany,h5,k⟩:=h
    obtain ⟨hne,hlt⟩:=firstCol_spec a hany
    refine ⟨_,pss_cons (ps_set (i:=1) scFc.nd rfl (Or.inl rfl) pe_int) (pss_cons (ps_while PassesOwn.never (pt_cmpR op_eq (pe_ix (ix_rowK (K:=K) rfl) (pv 0) (pv 1) (fun _ _=>rfl)) pe_int (nomark _)) (pss_one (ps_aug (i:=1) scFc.nd rfl (Or.inl rfl) pe_int ip_add))) (pss_one (ps_ret (pv 1)))),?_⟩
    refine while_by (fun σ H'=>∃ c:Nat,σ = [some (.ref p),some (.int (c:Int))]∧c≤firstCol a∧H' = H) (fun σ _=>a.length - (slotI σ 1).toNat) ⟨0,rfl,Nat.zero_le _,rfl⟩ ?_ ?_
    · rintro σ H' ⟨c,rfl,hc,rfl⟩
      refine ⟨_,rfl,_,rfl,ix_row hp (by omega) ?_⟩
      refine ⟨rfl,_,rfl,ite2 (fun e=>?_) (fun e=>?_)⟩
      · have e0:at0 a c = 0:=by simpa using e
        have hlt':c < firstCol a:=by
          rcases Nat.lt_or_ge c (firstCol a) with z | z
          · exact z
          · exact absurd (show at0 a (firstCol a) = 0 by rw [show firstCol a = c by omega];exact e0) hne
        refine ⟨_,rfl,_,_,rfl,rfl,?_⟩
        refine ⟨⟨c + 1,by simp,hlt',rfl⟩,?_⟩
        show a.length - ((c:Int) + 1).toNat < a.length - ((c:Int)).toNat
        omega
      · have e0:at0 a c≠0:=by simpa using e
        have ec:c = firstCol a:=by
          rcases Nat.lt_or_ge c (firstCol a) with z | z
          · exact absurd (firstCol_before a c z) e0
          · omega
        subst ec
        exact ⟨_,rfl,k⟩
    · rintro σ H' Q1 Q2 hq ⟨v1,e1,v2,e2,h1⟩
      refine ⟨v1,e1,v2,e2,?_⟩
      rcases h1 with ⟨p1,xs,i,v,f1,f2,f3,f4,f5,kk,f6,f7⟩ | ⟨p1,xs,i,v,f1,f2,f3,f4,f5,kk,f6,f7⟩
      · exact .inl ⟨p1,xs,i,v,f1,f2,f3,f4,f5,kk,f6,hq _ _ f7⟩
      · exact .inr ⟨p1,xs,i,v,f1,f2,f3,f4,f5,kk,f6,hq _ _ f7⟩
end
structure Cal (K:PySem.W.Frag) (mg:Str→Option Value) (x:Str) (st:Stmt) (ps:List Str) (f:Addr) (fd:FuncData):Prop where
  fn:Fun K x x st f fd
  at_:mg x = some (.ref f)
  bi:Binds K fd ps []
def spWcd:Sp:=fun vs H Q _=>∃ (v:V) (a:Vec),vs = [v]∧Row true H v a∧(a.any fun x=>x != 0) = true∧a.length≤5∧Bd (2 ^ 20) a∧GivesRow H Q (a.map fun z=>z / (Sa83.gcdOf a:Int))
section
variable {P:Program} {w:World} {K:PySem.W.Frag} {mg:Str→Option Value} {base:Heap}
theorem scWcd:FnScope ["normal","divisor","a"] ["normal"] (defScope sWcd):=⟨rfl,rfl,rfl,by decide +kernel,rfl,by decide +kernel,by decide +kernel⟩
theorem gcd_take {a:Vec} {i:Nat} {z:Int} (h:a[i]? = some z):Sa83.gcdOf (a.take (i + 1)) = Nat.gcd (Sa83.gcdOf (a.take i)) z.natAbs:=by
  rw [take_snoc h];simp [Sa83.gcdOf]
theorem ok_wcd {f fG : Addr} {fd fdG : FuncData} (F : Fun K "without_common_divisor" "without_common_divisor" sWcd f fd) (T : Tx mg) (cG : Cal K mg "common_divisor" sGcd ["a", "b"] fG fdG) : FnOk P w K mg base CX0 2 f fd ["normal"] spWcd := by
  have GG : FnOk P w K mg base CX0 1 fG fdG ["a", "b"] spGcd := ok_gcd cG.fn
  refine F.ok scWcd (fun vs H Q E h => ?_) (fun cdv A outer s H vs Q E hr h => ?_)
  · obtain ⟨v, a, rfl, _⟩ := h
    rfl
  · obtain ⟨v, a, rfl, ⟨p, rfl, hp⟩, hany, h5, bd, k⟩ := h
    refine ⟨_, pss_cons (ps_set (i := 1) scWcd.nd rfl (Or.inr rfl) pe_int) (pss_cons (ps_for PassesOwn.never rfl (pi_tup (pv 0)) (pg_name (i := 2) scWcd.nd rfl (Or.inl rfl))
      (pss_one (ps_set (i := 1) scWcd.nd rfl (Or.inr rfl) (pe_call GG hr rfl cG.at_ cG.fn.kp cG.bi .nil pass0 (pa_cons (pv 1) (pa_cons (pe_callB call_abs rfl T.abs boot_abs (pa_cons (pv 2) pa_nil)) pa_nil))))))
      (pss_one (ps_ret (pe_callTy call_tuple_of rfl T.tuple boot_tuple (pa_cons (pe_lc rfl scWcd.nd (pi_tup (pv 0)) (blkOk_by (own := [("a", 2)]) (by kernel_rfl))
        (fun s H C cl fp => pg_name (i := 2) scWcd.nd rfl (Or.inl rfl) (Or.inr rfl)) (fun s H C cl fp => pts_nil) (fun s H C cl fp => pe_op op_fdiv (pv 2) (pv 1))) pa_nil))))), ?_⟩
    refine ⟨_, rfl, p, rfl, ⟨_, SqT.of hp⟩, for_tup (K := K) (a := p) (xs := a.map V.int) (fun i σ H' => ∃ v : Option V, σ = [some (.ref p), some (.int (Sa83.gcdOf (a.take i) : Nat)), v] ∧ H' = H)
      ⟨none, rfl, rfl⟩ (fun i σ H' _ ⟨_, _, e⟩ => by subst e; exact SqT.of hp) ?_ ?_⟩
    · rintro i x σ H' hi ⟨v, rfl, rfl⟩
      obtain ⟨z, hz, rfl⟩ : ∃ z, a[i]? = some z ∧ x = V.int z := by
        rw [List.getElem?_map] at hi
        obtain ⟨z, h1, h2⟩ := Option.map_eq_some_iff.mp hi
        exact ⟨z, h1, h2.symm⟩
      refine ⟨_, rfl, _, rfl, _, rfl, _, _, rfl, Int.natCast_nonneg _, by split <;> omega, ?_⟩
      refine ⟨some (.int z), ?_, rfl⟩
      have e1 : (if z < 0 then -z else z).toNat = z.natAbs := by split <;> omega
      rw [e1, Int.toNat_natCast, gcd_take hz]
      rfl
    · rintro σ H' ⟨v, rfl, rfl⟩
      rw [List.length_map, List.take_length]
      have g0 : Sa83.gcdOf a ≠ 0 := fun q => by
        obtain ⟨x, hx, hne⟩ := List.any_eq_true.mp hany
        have := gcdOf_zero.mp q x hx
        simp [this] at hne
      have g1 : Sa83.gcdOf a ≤ 2 ^ 20 := by
        obtain ⟨x, hx, hne⟩ := List.any_eq_true.mp hany
        exact Nat.le_trans (Nat.le_of_dvd (by have : x ≠ 0 := by simpa using hne
                                              omega) (gcdOf_dvd hx)) (bd x hx)
      refine ⟨_, rfl, p, rfl, ⟨_, SqT.of hp⟩, fun D hD => lc_tupM (zs := a) int_st (fun _ => true) (fun z : Int => z / (Sa83.gcdOf a : Int)) hD (SqT.of hp) (by simp) (small_ok (by omega)) (fun i x z H2 ex ez s1 hDs Nx Fx n1 n2 => ?_) (fun H2 ys s1 e1 e2 => ?_)⟩
      · have e : x = .int z := by rw [List.getElem?_map, ez] at ex; exact (Option.some.inj ex).symm
        subst e
        refine ⟨rfl, ?_⟩
        exact ⟨_, rfl, _, rfl, _, _, rfl, rfl, ⟨by omega, by omega⟩, n1 _ _ rfl (Same.refl _) rfl⟩
      · have e3 := ints_eq e2
        rw [List.filter_eq_self.mpr (fun _ _ => rfl)] at e3
        subst e3
        exact ⟨D, _, rfl, .inl ⟨SqL.of e1, fun l hl => k l _ (s1.trans (same_upd hl)) upd_same⟩⟩
end
abbrev sRank:Stmt:=top 21
def bnd (k:Nat):Nat:=2 ^ (65 * 2 ^ k - 1)
def spRank:Sp:=fun vs H Q _=>∃ (t:Bool) (v:V) (rs:List Vec) (m:Nat),vs = [v]∧Lst (Row t) H v rs∧(∀ r∈rs,r.length = m)∧m≤5∧rs.length≤100∧(∀ r∈rs,Bd (2 ^ 64) r)∧∀ H',Same H H'→Q (.int (rankOf rs:Nat)) H'
noncomputable def lenAt (σ:L2.St) (i:Nat) (H:Hp):Nat:=match σ[i]? with
  | some (some (.ref a))=>(match H a with
    | some (.lst vs)=>vs.length
    | _=>0)
  | _=>0
theorem rankOf_cons (h:Vec) (rest:List Vec):rankOf (h :: rest) = if (h.any fun x=>x != 0) = true then rankOf (rest.map (cleared h (firstCol h))) + 1 else rankOf rest:=by
  unfold rankOf
  rw [List.length_cons,List.length_map]
  rfl
theorem rankOf_le {m:Nat} {rs:List Vec} (hl:∀ r∈rs,r.length = m):rankOf rs≤m:=by
  have h:=(prank_full m rs.length rs (List.range m) (Nat.le_refl _) List.nodup_range hl fun r hr i hi=>at0_beyond (hl r hr) hi).1
  simpa [rankOf] using h
theorem bnd_small {k:Nat} (h:k≤4):bnd k≤2 ^ 3000:=by
  have:2 ^ k≤2 ^ 4:=Nat.pow_le_pow_right (by decide) h
  exact Nat.pow_le_pow_right (by decide) (by omega)
theorem bnd_step {k:Nat} {a b c d:Int} (ha:a.natAbs≤bnd k) (hb:b.natAbs≤bnd k) (hc:c.natAbs≤bnd k) (hd:d.natAbs≤bnd k):(a * b - c * d).natAbs≤bnd (k + 1):=by
  have h1:(a * b).natAbs≤bnd k * bnd k:=by rw [Int.natAbs_mul];exact Nat.mul_le_mul ha hb
  have h2:(c * d).natAbs≤bnd k * bnd k:=by rw [Int.natAbs_mul];exact Nat.mul_le_mul hc hd
  have h3:bnd k * bnd k * 2 = bnd (k + 1):=by
    unfold bnd
    have:0 < 2 ^ k:=Nat.two_pow_pos k
    rw [← Nat.pow_add,← Nat.pow_succ]
    congr 1
    rw [Nat.pow_succ];omega
  have h4:=Int.natAbs_sub_le (a * b) (c * d)
  omega
theorem clr_bd {k:Nat} {h r:Vec} {c:Nat} (bh:Bd (bnd k) h) (br:Bd (bnd k) r) (hc:c < h.length) (hl:r.length = h.length):Bd (bnd (k + 1)) (cleared h c r):=by
  intro z hz
  rw [clr_zip] at hz
  obtain ⟨i,hi,e⟩:=List.mem_iff_getElem.mp hz
  rw [List.getElem_zipWith] at e
  subst e
  have hi':i < r.length∧i < h.length:=by rw [List.length_zipWith] at hi;omega
  exact bnd_step (bh _ (at0_mem hc)) (br _ (List.getElem_mem hi'.1)) (br _ (at0_mem (by omega))) (bh _ (List.getElem_mem hi'.2))
section
variable {P:Program} {w:World} {K:PySem.W.Frag} {mg:Str→Option Value} {base:Heap}
theorem scRank:FnScope ["rows","rest","found","head","column","row"] ["rows"] (defScope sRank):=⟨rfl,rfl,rfl,by decide +kernel,rfl,by decide +kernel,by decide +kernel⟩
theorem ok_rank {f fF fC:Addr} {fd fdF fdC:FuncData} (F:Fun K "rank" "rank" sRank f fd) (T:Tx mg) (cF:Cal K mg "first_column" sFc ["row"] fF fdF) (cC:Cal K mg "cleared" sClr ["row","head","column"] fC fdC):FnOk P w K mg base CX0 2 f fd ["rows"] spRank:=by
  have GF:FnOk P w K mg base CX0 1 fF fdF ["row"] spFc:=ok_fc cF.fn
  have GC:FnOk P w K mg base CX0 1 fC fdC ["row","head","column"] spClr:=ok_clr cC.fn T
  refine F.ok scRank (fun vs H Q E h=>?_) (fun cdv A outer s H vs Q E hr h=>?_)
  · obtain ⟨t,v,rs,m,rfl,_⟩:=h
    rfl
  · obtain ⟨t0,v0,rs0,m,rfl,L0,hm,h5,h100,hb,k⟩:=h
    refine ⟨_,pss_cons (ps_set (i:=1) scRank.nd rfl (Or.inl rfl) (pv 0)) (pss_cons (ps_set (i:=2) scRank.nd rfl (Or.inl rfl) pe_int)
      (pss_cons (ps_while PassesOwn.never (pt_truth (pv 1) (fun _=>rfl))
        (pss_cons (ps_set (i:=3) scRank.nd rfl (Or.inr rfl) (pe_ix ix_list (pv 1) pe_int (fun _ _=>rfl)))
        (pss_cons (ps_set (i:=1) scRank.nd rfl (Or.inl rfl) (pe_slice sl_list (pv 1) (po_some pe_int) po_none))
        (pss_one (ps_if (pt_val (pe_callB (cr_anyI rfl) rfl T.any boot_any (pa_cons (pv 3) pa_nil)))
          (pss_cons (ps_set (i:=4) scRank.nd rfl (Or.inr rfl) (pe_call GF hr rfl cF.at_ cF.fn.kp cF.bi .nil pass0 (pa_cons (pv 3) pa_nil)))
          (pss_cons (ps_setLc (i:=1) rfl scRank.nd rfl rfl (sw_true rfl rfl rfl (by kernel_rfl)) (pi_list (pv 1)) (blkOk_by (own:=[("row",5)]) (by kernel_rfl))
            (fun s H C cl fp=>pg_name (i:=5) scRank.nd rfl (Or.inl rfl) (Or.inr rfl)) (fun s H C cl fp=>pts_nil)
            (fun s H C cl fp=>pe_call GC hr rfl cC.at_ cC.fn.kp cC.bi .nil pass0 (pa_cons (pv 5) (pa_cons (pv 3) (pa_cons (pv 4) pa_nil)))))
          (pss_one (ps_aug (i:=2) scRank.nd rfl (Or.inl rfl) pe_int ip_add))))
          pss_nil)))))
      (pss_one (ps_ret (pv 2))))),?_⟩
    refine ⟨_,rfl,?_⟩
    dsimp only [tSeq,tAsg,gName,tC]
    refine while_by (fun σ H'=>∃ (t:Bool) (v1:V) (rs:List Vec) (kk:Nat) (o3 o4:Option V),σ = [some v0,some v1,some (.int (kk:Int)),o3,o4,none]∧Lst (Row t) H' v1 rs∧Same H H'∧(∀ r∈rs,r.length = m)∧rs.length≤100∧kk + rankOf rs = rankOf rs0∧∀ r∈rs,Bd (bnd kk) r)
      (fun σ H'=>lenAt σ 1 H') ⟨t0,v0,rs0,0,none,none,rfl,L0,Same.refl _,hm,h100,by simp,hb⟩ ?_ ?_
    · rintro σ H' ⟨t,v1,rs,kk,o3,o4,rfl,⟨a,us,rfl,ha,pr⟩,s1,hm',hl,hk,hb'⟩
      refine ⟨_,rfl,!us.isEmpty,.inl ⟨us,SqL.of ha,rfl⟩,ite2 (fun c=>?_) (fun c=>?_)⟩
      · -- a turn
        obtain ⟨u,us',rfl⟩:∃ u us',us = u :: us':=by
          cases us with
          | nil=>simp at c
          | cons u us'=>exact ⟨u,us',rfl⟩
        cases pr with
        | @cons _ h _ rs' ru pr' =>
          refine ⟨_,rfl,a,_,_,u,rfl,rfl,SqL.of ha,at_of (j:=0) rfl rfl,?_⟩
          refine ⟨_,rfl,_,rfl,a,_,rfl,SqL.of ha,fun b hbn=>?_⟩
          have ecut:cutV (u :: us') (some (1:Int)) none = us':=cut_drop (u :: us') 1 (by simp)
          have s2:=same_upd (o:=.lst (cutV (u :: us') (some (1:Int)) none)) hbn
          have hb2:upd H' b (.lst (cutV (u :: us') (some (1:Int)) none)) b = some (.lst us'):=by rw [upd_same,ecut]
          generalize upd H' b (.lst (cutV (u :: us') (some (1:Int)) none)) = H2 at s2 hb2
          have ru2:=row_st _ _ _ _ s2 ru
          obtain ⟨q,rfl,hq⟩:=ru2
          have hlen:h.length = m:=hm' h (by simp)
          refine ⟨_,rfl,q,h,rfl,row_sq hq,_,rfl,ite2 (fun c1=>?_) (fun c1=>?_)⟩
          · -- a pivot
            have rk:=rankOf_cons h rs'
            rw [if_pos c1] at rk
            have hkm:kk≤4:=by
              have:=rankOf_le hm
              omega
            obtain ⟨hne,hfc⟩:=firstCol_spec h c1
            refine ⟨_,rfl,t,_,h,rfl,⟨q,rfl,hq⟩,c1,by omega,?_⟩
            refine ⟨_,rfl,b,rfl,⟨_,SqL.of hb2⟩,fun D hD=>lc_listM (zs:=rs') (R:=Row false) row_st (fun _=>true) (cleared h (firstCol h)) hD (SqL.of hb2) (paired_len pr') (small_ok (by simp at hl;omega)) (fun i x z H3 ex ez s3 hDs Nx Fx n1 n2=>?_) (fun H3 ys s3 e1 e2=>?_)⟩
            · refine ⟨rfl,?_⟩
              obtain ⟨z',hz',rx⟩:=paired_at pr' ex
              have:z' = z:=Option.some.inj (hz'.symm.trans ez)
              subst this
              have mz:z'∈rs':=List.mem_of_getElem? ez
              have rx3:=row_st _ _ _ _ (s2.trans s3) rx
              refine ⟨_,rfl,_,rfl,_,rfl,t,_,_,z',h,firstCol h,rfl,rx3,⟨q,rfl,s3 _ _ hq⟩,by rw [hm' z' (by simp [mz]),hlen],hfc,by omega,fun y hy=>Nat.le_trans (hb' z' (by simp [mz]) y hy) (bnd_small hkm),fun y hy=>Nat.le_trans (hb' h (by simp) y hy) (bnd_small hkm),fun p H4 hp4 s4 e4=>?_⟩
              obtain ⟨acc,hacc⟩:=hDs
              have pD:p≠D:=fun z=>by rw [z,hacc] at hp4;cases hp4
              exact n1 _ _ rfl s4 ⟨p,rfl,off_at pD e4⟩
            · rw [List.filter_eq_self.mpr (fun _ _=>rfl)] at e2
              refine ⟨_,rfl,_,_,rfl,rfl,?_⟩
              refine ⟨⟨false,_,rs'.map (cleared h (firstCol h)),kk + 1,some (.ref q),some (.int (firstCol h:Int)),by simp,⟨D,ys,rfl,e1,e2⟩,(s1.trans s2).trans s3,fun r hr=>?_,by simpa using (by simp at hl;omega:rs'.length≤100),by rw [← hk,rk];omega,fun r hr=>?_⟩,?_⟩
              · obtain ⟨y,hy,rfl⟩:=List.mem_map.mp hr
                rw [cleared_length (by rw [hm' y (by simp [hy]),hlen]),hlen]
              · obtain ⟨y,hy,rfl⟩:=List.mem_map.mp hr
                exact clr_bd (hb' h (by simp)) (hb' y (by simp [hy])) hfc (by rw [hm' y (by simp [hy]),hlen])
              · show (match H3 D with | some (.lst vs)=>vs.length | _=>0) < (match H' a with | some (.lst vs)=>vs.length | _=>0)
                rw [e1,ha]
                have:=paired_len e2
                have:=paired_len pr'
                simp at *;omega
          · -- a row of zeros
            have rk:=rankOf_cons h rs'
            rw [if_neg c1] at rk
            refine ⟨⟨t,_,rs',kk,_,_,rfl,⟨b,us',rfl,hb2,paired_mono (fun _ _ q=>row_st _ _ _ _ s2 q) pr'⟩,s1.trans s2,fun r hr=>hm' r (by simp [hr]),by simp at hl;omega,by rw [← hk,rk],fun r hr=>hb' r (by simp [hr])⟩,?_⟩
            show (match H2 b with | some (.lst vs)=>vs.length | _=>0) < (match H' a with | some (.lst vs)=>vs.length | _=>0)
            rw [hb2,ha]
            simp
      · have:us = []:=by simpa using c
        subst this
        cases pr
        refine ⟨_,rfl,?_⟩
        have e:kk = rankOf rs0:=by rw [← hk];rfl
        rw [e]
        exact k H' s1
    · rintro σ H' Q1 Q2 hq ⟨v1,e1,kk,t1,h1⟩
      exact ⟨v1,e1,kk,t1,hq _ _ h1⟩
end
abbrev sDet:Stmt:=top 20
noncomputable def dTerm (k:Nat) (r:Vec) (m:List Vec) (j:Nat):Int:=(if j % 2 = 0 then at0 r j else -at0 r j) * Sx38.det k (m.map fun y=>y.eraseIdx j)
theorem det_sum (k n:Nat) (r:Vec) (m:List Vec) (hr:r.length = n):Sx38.det (k + 1) (r :: m) = ((List.range n).map (dTerm k r m)).sum:=by
  unfold Sx38.det
  rw [sum_eq]
  congr 1
  apply List.ext_getElem
  · simp [hr]
  · intro i h1 h2
    have hi:i < r.length:=by simpa using h1
    simp [dTerm,at0,hi]
def dBM (M:Nat):Nat→Nat
  | 0=>1
  | k + 1=>(k + 1) * (M * dBM M k)
theorem sum_abs_le (M:Nat) (f:Nat→Int):∀ n,(∀ j,j < n→(f j).natAbs≤M)→(((List.range n).map f).sum).natAbs≤n * M
  | 0,_=>by simp
  | n + 1,h=>by
    rw [List.range_succ,List.map_append,List.sum_append]
    have h1:=sum_abs_le M f n fun j hj=>h j (by omega)
    have h2:=h n (by omega)
    have h3:=Int.natAbs_add_le ((List.range n).map f).sum ([n].map f).sum
    simp at h3 ⊢
    rw [Nat.add_mul];omega
theorem bd_erase {M:Nat} {r:Vec} {j:Nat} (h:Bd M r):Bd M (r.eraseIdx j):=fun z hz=>h z (List.mem_of_mem_eraseIdx hz)
theorem det_bd {M:Nat}:∀ (k:Nat) (rs:List Vec),rs.length = k→(∀ r∈rs,r.length = k)→(∀ r∈rs,Bd M r)→(Sx38.det k rs).natAbs≤dBM M k
  | 0,rs,_,_,_=>by simp [Sx38.det,dBM]
  | k + 1,[],h,_,_=>by simp at h
  | k + 1,r :: m,h,hl,hb=>by
    rw [det_sum k (k + 1) r m (hl r (by simp))]
    refine sum_abs_le (M * dBM M k) _ (k + 1) fun j hj=>?_
    have ih:=det_bd k (m.map fun y=>y.eraseIdx j) (by simpa using h) (fun y hy=>by
      obtain ⟨z,hz,rfl⟩:=List.mem_map.mp hy
      have:=hl z (by simp [hz])
      rw [List.length_eraseIdx_of_lt (by omega)];omega) (fun y hy=>by
      obtain ⟨z,hz,rfl⟩:=List.mem_map.mp hy
      exact bd_erase (hb z (by simp [hz])))
    unfold dTerm
    rw [Int.natAbs_mul]
    refine Nat.mul_le_mul ?_ ih
    have:=hb r (by simp) _ (at0_mem (a:=r) (i:=j) (by rw [hl r (by simp)];exact hj))
    split <;> omega
theorem dB_le:∀ k,k≤4→dBM 8 k≤2 ^ 20:=by decide
theorem dB_big:∀ k,k≤4→dBM (2 ^ 20) k≤2 ^ 100:=by decide
theorem big_100 {z:Int} (h:z.natAbs≤2 ^ 100):z.natAbs < 2 ^ 4000:=big_of h (Nat.pow_lt_pow_right (by decide) (show 100 < 4000 by decide))
theorem big_small {z:Int} (h:z.natAbs≤2 ^ 30):z.natAbs < 2 ^ 4000:=big_of h (Nat.pow_lt_pow_right (by decide) (show 30 < 4000 by decide))
theorem atI_int' {ns:Vec} {z:Int} {c:Nat} (e:z = (c:Int)) (h:c < ns.length):atI (ns.map V.int) z = some (.int (at0 ns c)):=by rw [e];exact atI_int h
def spDet (n:Nat):Sp:=fun vs H Q _=>∃ (v:V) (rs:List Vec),vs = [v]∧Lst (Row true) H v rs∧rs.length≤n∧n≤4∧(∀ r∈rs,r.length = rs.length)∧(∀ r∈rs,Bd (2 ^ 20) r)∧∀ H',Same H H'→Q (.int (Sx38.det rs.length rs)) H'
section
variable {P:Program} {w:World} {K:PySem.W.Frag} {mg:Str→Option Value} {base:Heap}
theorem scDet:FnScope ["rows","total","sign","column","rest","row"] ["rows"] (defScope sDet):=⟨rfl,rfl,rfl,by decide +kernel,rfl,by decide +kernel,by decide +kernel⟩
theorem ok_det {f fW:Addr} {fd fdW:FuncData} (cD:Cal K mg "determinant" sDet ["rows"] f fd) (T:Tx mg) (cW:Cal K mg "without_column" sWo ["row","column"] fW fdW):∀ n,FnOk P w K mg base CX0 (n + 2) f fd ["rows"] (spDet n)
  | 0=>by
    refine cD.fn.ok scDet (fun vs H Q E h=>?_) (fun cdv A outer s H vs Q E hr h=>?_)
    · obtain ⟨v,rs,rfl,_⟩:=h
      rfl
    · obtain ⟨v,rs,rfl,⟨a,us,rfl,ha,pr⟩,hn,_,hl,hb,k⟩:=h
      have e:rs = []:=len0 (by omega)
      subst e
      cases pr
      refine ⟨_,pss_cons (ps_if (pt_not (pt_truth (pv 0) (fun _=>rfl))) (pss_one (ps_ret pe_int)) pss_nil) pss_never,?_⟩
      exact ⟨_,rfl,false,.inl ⟨[],SqL.of ha,rfl⟩,k H (Same.refl _)⟩
  | n + 1=>by
    have GD:FnOk P w K mg base CX0 (n + 2) f fd ["rows"] (spDet n):=ok_det cD T cW n
    have GW:FnOk P w K mg base CX0 1 fW fdW ["row","column"] spWo:=ok_wo cW.fn
    refine cD.fn.ok scDet (fun vs H Q E h=>?_) (fun cdv A outer s H vs Q E hr h=>?_)
    · obtain ⟨v,rs,rfl,_⟩:=h
      rfl
    · obtain ⟨v,rs,rfl,⟨a,us,rfl,ha,pr⟩,hn,h4,hl,hb,k⟩:=h
      have hr1:Room 1 _:=hr.mono (by omega)
      refine ⟨_,pss_cons (ps_if (pt_not (pt_truth (pv 0) (fun _=>rfl))) (pss_one (ps_ret pe_int)) pss_nil)
        (pss_cons (ps_set (i:=1) scDet.nd rfl (Or.inl rfl) pe_int) (pss_cons (ps_set (i:=2) scDet.nd rfl (Or.inl rfl) pe_int)
        (pss_cons (ps_for PassesOwn.never rfl (pi_range1 rfl T.range (pa_cons (pe_callB call_len_seq rfl T.len PySem.boot_len (pa_cons (pv 0) pa_nil)) pa_nil)) (pg_name (i:=3) scDet.nd rfl (Or.inr rfl))
          (pss_cons (ps_setLc (i:=4) rfl scDet.nd rfl rfl (sw_true rfl rfl rfl (by kernel_rfl)) (pi_list (pe_slice sl_list (pv 0) (po_some pe_int) po_none)) (blkOk_by (own:=[("row",5)]) (by kernel_rfl))
            (fun s H C cl fp=>pg_name (i:=5) scDet.nd rfl (Or.inl rfl) (Or.inr rfl)) (fun s H C cl fp=>pts_nil)
            (fun s H C cl fp=>pe_call GW hr1 rfl cW.at_ cW.fn.kp cW.bi .nil pass0 (pa_cons (pv 5) (pa_cons (pv 3) pa_nil))))
          (pss_cons (ps_aug (i:=1) scDet.nd rfl (Or.inl rfl) (pe_op op_mulB (pe_op op_mulB (pv 2) (pe_ix ix_tup (pe_ix ix_list (pv 0) pe_int (fun _ _=>rfl)) (pv 3) (fun _ _=>rfl)))
            (pe_call GD hr rfl cD.at_ cD.fn.kp cD.bi .nil pass0 (pa_cons (pv 4) pa_nil))) ip_add)
          (pss_one (ps_set (i:=2) scDet.nd rfl (Or.inl rfl) (pe_un un_neg (pv 2)))))))
        (pss_one (ps_ret (pv 1)))))),?_⟩
      cases pr with
      | nil=>exact ⟨_,rfl,false,.inl ⟨[],SqL.of ha,rfl⟩,k H (Same.refl _)⟩
      | @cons u r us' m ru pr' =>
        refine ⟨_,rfl,true,.inl ⟨u :: us',SqL.of ha,rfl⟩,?_⟩
        dsimp only [tSeq,tAsg,gName,tC,tNext]
        have hm:m.length≤n:=by simp at hn;omega
        have hrl:r.length = m.length + 1:=by have:=hl r (by simp);simpa using this
        have hul:(u :: us').length = m.length + 1:=by have:=paired_len pr';simp;omega
        have hml:∀ y∈m,y.length = m.length + 1:=fun y hy=>by have:=hl y (by simp [hy]);simpa using this
        refine ⟨_,rfl,a,_,rfl,.inl (SqL.of ha),_,rfl,by rw [hul];omega,by rw [hul];omega,?_⟩
        have etn:(((u :: us').length:Nat):Int).toNat = m.length + 1:=by rw [Int.toNat_natCast,hul]
        rw [etn]
        refine for_range (lo:=0) (n:=m.length + 1) (fun i σ H'=>∃ (o3 o4:Option V),σ = [some (.ref a),some (.int ((List.range i).map (dTerm m.length r m)).sum),some (.int (if i % 2 = 0 then 1 else -1)),o3,o4,none]∧Same H H') ⟨none,none,rfl,Same.refl _⟩ ?_ ?_
        · rintro i σ H' hi ⟨o3,o4,rfl,s1⟩
          have ha1:=s1 _ _ ha
          refine ⟨_,rfl,_,rfl,a,_,rfl,SqL.of ha1,fun b hbn=>?_⟩
          have ecut:cutV (u :: us') (some (1:Int)) none = us':=cut_drop (u :: us') 1 (by simp)
          have s2:=same_upd (o:=.lst (cutV (u :: us') (some (1:Int)) none)) hbn
          have hb2:upd H' b (.lst (cutV (u :: us') (some (1:Int)) none)) b = some (.lst us'):=by rw [upd_same,ecut]
          generalize upd H' b (.lst (cutV (u :: us') (some (1:Int)) none)) = H2 at s2 hb2
          refine ⟨b,rfl,⟨_,SqL.of hb2⟩,fun D hD=>lc_listM (zs:=m) (R:=Row true) row_st (fun _=>true) (fun y=>y.eraseIdx i) hD (SqL.of hb2) (paired_len pr') (small_ok (by omega)) (fun j x z H3 ex ez s3 hDs Nx Fx n1 n2=>?_) (fun H3 ys s3 e1 e2=>?_)⟩
          · refine ⟨rfl,?_⟩
            obtain ⟨z',hz',rx⟩:=paired_at pr' ex
            have:z' = z:=Option.some.inj (hz'.symm.trans ez)
            subst this
            have mz:z'∈m:=List.mem_of_getElem? ez
            refine ⟨_,rfl,_,rfl,_,z',i,by simp,row_st _ _ _ _ ((s1.trans s2).trans s3) rx,by rw [hml z' mz];exact hi,by rw [hml z' mz];omega,fun p H4 s4 e4=>n1 _ _ rfl s4 ⟨p,rfl,off_at (fun z=>?_) e4⟩⟩
            obtain ⟨acc,hacc⟩:=hDs
            have:=s4 _ _ hacc
            rw [← z,e4] at this
            cases this
          · rw [List.filter_eq_self.mpr (fun _ _=>rfl)] at e2
            have ha3:=((s1.trans s2).trans s3) _ _ ha
            have ru3:=row_st _ _ _ _ ((s1.trans s2).trans s3) ru
            obtain ⟨q,rfl,hq⟩:=ru3
            have eb:(m.map fun y=>y.eraseIdx i).length = m.length:=by simp
            have bl:∀ y∈m.map (fun y=>y.eraseIdx i),y.length = (m.map fun y=>y.eraseIdx i).length:=fun y hy=>by
              obtain ⟨z,hz,rfl⟩:=List.mem_map.mp hy
              rw [List.length_eraseIdx_of_lt (by rw [hml z hz];exact hi),hml z hz,eb];rfl
            have bb:∀ y∈m.map (fun y=>y.eraseIdx i),Bd (2 ^ 20) y:=fun y hy=>by
              obtain ⟨z,hz,rfl⟩:=List.mem_map.mp hy
              exact bd_erase (hb z (by simp [hz]))
            have dbd:=det_bd m.length (m.map fun y=>y.eraseIdx i) eb (fun y hy=>(bl y hy).trans eb) bb
            have b8:(at0 r i).natAbs≤2 ^ 20:=hb r (by simp) _ (at0_mem (by omega))
            have sg:(if i % 2 = 0 then (1:Int) else -1).natAbs≤1:=by split <;> decide
            refine ⟨_,rfl,_,rfl,_,rfl,a,_,_,_,rfl,rfl,SqL.of ha3,at_of (j:=0) rfl rfl,_,rfl,q,_,_,_,rfl,rfl,SqT.of hq,atI_int' (c:=i) (by simp) (by omega),_,_,rfl,rfl,⟨big_small (by omega),big_small (by omega)⟩,?_⟩
            refine ⟨_,rfl,_,m.map (fun y=>y.eraseIdx i),rfl,⟨D,ys,rfl,e1,e2⟩,by rw [eb];exact hm,by omega,bl,bb,fun H4 s4=>?_⟩
            rw [eb]
            have d20:=dB_big m.length (by omega)
            refine ⟨_,_,rfl,rfl,⟨big_small ?_,big_100 (by omega)⟩,_,_,rfl,rfl,_,rfl,_,rfl,some (.int (0 + (i:Int))),some (.ref D),?_,((s1.trans s2).trans s3).trans s4⟩
            · rw [Int.natAbs_mul]
              have:=Nat.mul_le_mul sg b8
              omega
            · have e5:((List.range (i + 1)).map (dTerm m.length r m)).sum = ((List.range i).map (dTerm m.length r m)).sum + (if i % 2 = 0 then 1 else -1) * at0 r i * Sx38.det m.length (m.map fun y=>y.eraseIdx i):=by
                rw [List.range_succ,List.map_append,List.sum_append]
                simp only [List.map_cons,List.map_nil,List.sum_cons,List.sum_nil,dTerm]
                split <;> grind
              have e6:(if (i + 1) % 2 = 0 then (1:Int) else -1) = - (if i % 2 = 0 then (1:Int) else -1):=by
                by_cases c:i % 2 = 0
                · rw [if_pos c,if_neg (by omega)]
                · rw [if_neg c,if_pos (by omega)];rfl
              rw [e5,e6]
              rfl
        · rintro σ H' ⟨o3,o4,rfl,s1⟩
          refine ⟨_,rfl,?_⟩
          have:=k H' s1
          rw [show (r :: m).length = m.length + 1 from rfl,det_sum m.length (m.length + 1) r m hrl] at this
          exact this
end
abbrev sNrm:Stmt:=top 19
abbrev sCho:Stmt:=top 18
theorem det_fuel:∀ (f:Nat) (rows:List Vec),rows.length≤f→Sx38.det f rows = Sx38.det rows.length rows
  | 0,rows,h=>by rw [len0 (Nat.le_zero.mp h)];rfl
  | f + 1,[],_=>rfl
  | f + 1,r :: m,h=>by
    have hm:m.length≤f:=by simpa using h
    show Sa83.sum (r.zipIdx.map fun x=>(if x.2 % 2 = 0 then x.1 else -x.1) * Sx38.det f (m.map fun y=>y.eraseIdx x.2)) = Sa83.sum (r.zipIdx.map fun x=>(if x.2 % 2 = 0 then x.1 else -x.1) * Sx38.det m.length (m.map fun y=>y.eraseIdx x.2))
    congr 1
    apply List.map_congr_left
    intro x _
    have:=det_fuel f (m.map fun y=>y.eraseIdx x.2) (by simpa using hm)
    rw [this,List.length_map]
def spNrm:Sp:=fun vs H Q _=>∃ (v:V) (c:List Vec) (d:Nat),vs = [v]∧Lst (Row true) H v c∧c.length = d∧(∀ x∈c,x.length = d)∧1≤d∧d≤4∧(∀ x∈c,Bd 4 x)∧GivesRow H Q (Sx38.normal d c)
def nTerm (d:Nat) (ws:List Vec) (k:Nat):Int:=(if k % 2 = 0 then 1 else -1) * Sx38.det d (ws.map fun r=>r.eraseIdx k)
theorem sub_bd {a b:Vec} (ha:Bd 4 a) (hb:Bd 4 b):Bd 8 (Sx38.sub a b):=by
  intro z hz
  rw [sub_zip] at hz
  obtain ⟨i,hi,e⟩:=List.mem_iff_getElem.mp hz
  rw [List.getElem_zipWith] at e
  subst e
  have hi':i < a.length∧i < b.length:=by rw [List.length_zipWith] at hi;omega
  have h1:=ha _ (List.getElem_mem hi'.1)
  have h2:=hb _ (List.getElem_mem hi'.2)
  omega
section
variable {P:Program} {w:World} {K:PySem.W.Frag} {mg:Str→Option Value} {base:Heap}
theorem ix_lK {X:Cx} {K:PySem.W.Frag} (hK:X.K = K):IxR X (rIxL K):=by subst hK;exact ix_list
theorem ix_tK {X:Cx} {K:PySem.W.Frag} (hK:X.K = K):IxR X (rIxT K):=by subst hK;exact ix_tup
theorem scNrm:FnScope ["chosen","ways","normal","sign","column","point","way"] ["chosen"] (defScope sNrm):=⟨rfl,rfl,rfl,by decide +kernel,rfl,by decide +kernel,by decide +kernel⟩
theorem ok_nrm {f fD fF fW:Addr} {fd fdD fdF fdW:FuncData} (F:Fun K "normal_of" "normal_of" sNrm f fd) (T:Tx mg) (cD:Cal K mg "determinant" sDet ["rows"] fD fdD) (cF:Cal K mg "difference" sDif ["point","other"] fF fdF) (cW:Cal K mg "without_column" sWo ["row","column"] fW fdW):FnOk P w K mg base CX0 6 f fd ["chosen"] spNrm:=by
  have GD:FnOk P w K mg base CX0 5 fD fdD ["rows"] (spDet 3):=ok_det cD T cW 3
  have GF:FnOk P w K mg base CX0 1 fF fdF ["point","other"] spDif:=ok_dif cF.fn T
  have GW:FnOk P w K mg base CX0 1 fW fdW ["row","column"] spWo:=ok_wo cW.fn
  refine F.ok scNrm (fun vs H Q E h=>?_) (fun cdv A outer s H vs Q E hr h=>?_)
  · obtain ⟨v,c,d,rfl,_⟩:=h
    rfl
  · obtain ⟨v,c,d,rfl,⟨a,us,rfl,ha,pr⟩,hc,hl,h1,h4,hb,k⟩:=h
    have hr1:Room 1 _:=hr.mono (by omega)
    refine ⟨_,pss_cons (ps_setLc (i:=1) rfl scNrm.nd rfl rfl (sw_true rfl rfl rfl (by kernel_rfl)) (pi_list (pe_slice sl_list (pv 0) (po_some pe_int) po_none)) (blkOk_by (own:=[("point",5)]) (by kernel_rfl))
        (fun s H C cl fp=>pg_name (i:=5) scNrm.nd rfl (Or.inl rfl) (Or.inr rfl)) (fun s H C cl fp=>pts_nil)
        (fun s H C cl fp=>pe_call GF hr1 rfl cF.at_ cF.fn.kp cF.bi .nil pass0 (pa_cons (pv 5) (pa_cons (pe_ix (ix_lK (K:=K) rfl) (pv 0) pe_int (fun _ _=>rfl)) pa_nil))))
      (pss_cons (ps_set (i:=2) scNrm.nd rfl (Or.inl rfl) (pe_lst pa_nil)) (pss_cons (ps_set (i:=3) scNrm.nd rfl (Or.inl rfl) pe_int)
      (pss_cons (ps_for PassesOwn.never rfl (pi_range1 rfl T.range (pa_cons (pe_callB call_len_seq rfl T.len PySem.boot_len (pa_cons (pe_ix ix_list (pv 0) pe_int (fun _ _=>rfl)) pa_nil)) pa_nil)) (pg_name (i:=4) scNrm.nd rfl (Or.inr rfl))
        (pss_cons (ps_expr (pe_bm PySem.F.plainAttrs_list PySem.F.slot_list_append PySem.F.type_list_append mt_append (pv 2) (pa_cons (pe_op op_mulB (pv 3) (pe_call GD hr rfl cD.at_ cD.fn.kp cD.bi .nil pass0
          (pa_cons (pe_lc rfl scNrm.nd (pi_list (pv 1)) (blkOk_by (own:=[("way",6)]) (by kernel_rfl)) (fun s H C cl fp=>pg_name (i:=6) scNrm.nd rfl (Or.inl rfl) (Or.inr rfl)) (fun s H C cl fp=>pts_nil)
            (fun s H C cl fp=>pe_call GW hr1 rfl cW.at_ cW.fn.kp cW.bi .nil pass0 (pa_cons (pv 6) (pa_cons (pv 4) pa_nil)))) pa_nil))) pa_nil)))
        (pss_one (ps_set (i:=3) scNrm.nd rfl (Or.inl rfl) (pe_un un_neg (pv 3))))))
      (pss_one (ps_ret (pe_callTy call_tuple_of rfl T.tuple boot_tuple (pa_cons (pv 2) pa_nil))))))),?_⟩
    obtain ⟨p,cs,rfl,hcs⟩:=len_succ (l:=c) (n:=d - 1) (by omega)
    cases pr with
    | @cons u _ us' _ ru pr' =>
      obtain ⟨q,rfl,hq⟩:=ru
      have hpl:p.length = d:=hl p (by simp)
      refine ⟨_,rfl,_,rfl,a,_,rfl,SqL.of ha,fun b hbn=>?_⟩
      have ecut:cutV (V.ref q :: us') (some (1:Int)) none = us':=cut_drop (V.ref q :: us') 1 (by simp)
      have s2:=same_upd (o:=.lst (cutV (V.ref q :: us') (some (1:Int)) none)) hbn
      have hb2:upd H b (.lst (cutV (V.ref q :: us') (some (1:Int)) none)) b = some (.lst us'):=by rw [upd_same,ecut]
      generalize upd H b (.lst (cutV (V.ref q :: us') (some (1:Int)) none)) = H2 at s2 hb2
      refine ⟨b,rfl,⟨_,SqL.of hb2⟩,fun D hD=>lc_listM (zs:=cs) (R:=Row true) row_st (fun _=>true) (fun y=>Sx38.sub y p) hD (SqL.of hb2) (paired_len pr') (small_ok (by omega)) (fun j x z H3 ex ez s3 hDs Nx Fx n1 n2=>?_) (fun H3 ys s3 e1 e2=>?_)⟩
      · refine ⟨rfl,?_⟩
        obtain ⟨z',hz',rx⟩:=paired_at pr' ex
        have:z' = z:=Option.some.inj (hz'.symm.trans ez)
        subst this
        have mz:z'∈cs:=List.mem_of_getElem? ez
        refine ⟨_,rfl,_,rfl,a,_,_,_,rfl,rfl,SqL.of ((s2.trans s3) _ _ ha),at_of (j:=0) rfl rfl,_,_,z',p,rfl,row_st _ _ _ _ (s2.trans s3) rx,⟨q,rfl,(s2.trans s3) _ _ hq⟩,by rw [hl z' (by simp [mz]),hpl],by rw [hl z' (by simp [mz])];omega,fun p4 H4 s4 e4=>n1 _ _ rfl s4 ⟨p4,rfl,off_at (fun z=>?_) e4⟩⟩
        obtain ⟨acc,hacc⟩:=hDs
        have:=s4 _ _ hacc
        rw [← z,e4] at this
        cases this
      · rw [List.filter_eq_self.mpr (fun _ _=>rfl)] at e2
        refine ⟨Nat.zero_le _,fun n0 hn0=>?_⟩
        dsimp only [tSeq,tAsg,gName,tC]
        have s03:=s2.trans s3
        have ha3:=s03 _ _ ha
        have hq3:=s03 _ _ hq
        have s4:=same_upd (o:=.lst []) hn0
        generalize hws:(cs.map fun y=>Sx38.sub y p) = ws at e2
        have lws:ws.length + 1 = d:=by rw [← hws];simp;omega
        have wl:∀ y∈ws,y.length = d:=fun y hy=>by
          rw [← hws] at hy
          obtain ⟨z,hz,rfl⟩:=List.mem_map.mp hy
          exact WP.sub_length (hl z (by simp [hz])) hpl
        have wb:∀ y∈ws,Bd 8 y:=fun y hy=>by
          rw [← hws] at hy
          obtain ⟨z,hz,rfl⟩:=List.mem_map.mp hy
          exact sub_bd (hb z (by simp [hz])) (hb p (by simp))
        refine ⟨_,rfl,a,_,_,_,rfl,rfl,SqL.of (s4 _ _ ha3),at_of (j:=0) rfl rfl,q,_,rfl,.inr (SqT.of (s4 _ _ hq3)),_,rfl,by rw [List.length_map];omega,by rw [List.length_map];omega,?_⟩
        have etn:(((p.map V.int).length:Nat):Int).toNat = d:=by rw [Int.toNat_natCast,List.length_map,hpl]
        rw [etn]
        refine for_range (lo:=0) (n:=d) (fun i σ H'=>∃ (o4:Option V),σ = [some (.ref a),some (.ref D),some (.ref n0),some (.int (if i % 2 = 0 then 1 else -1)),o4,none,none]∧Same H3 H'∧H' n0 = some (.lst (((List.range i).map (nTerm d ws)).map V.int))) ⟨none,rfl,s4,upd_same⟩ ?_ ?_
        · rintro i σ H' hi ⟨o4,rfl,s5,hn5⟩
          refine ⟨_,rfl,.inl ⟨rfl,_,SqL.of hn5⟩,_,rfl,_,rfl,D,rfl,⟨_,SqL.of (s5 _ _ e1)⟩,fun D2 hD2=>lc_listM (zs:=ws) (R:=Row true) row_st (fun _=>true) (fun y=>y.eraseIdx i) hD2 (SqL.of (s5 _ _ e1)) (paired_len e2) (small_ok (by omega)) (fun j x z H6 ex ez s6 hDs Nx Fx n1 n2=>?_) (fun H6 zs s6 f1 f2=>?_)⟩
          · refine ⟨rfl,?_⟩
            obtain ⟨z',hz',rx⟩:=paired_at e2 ex
            have:z' = z:=Option.some.inj (hz'.symm.trans ez)
            subst this
            have mz:z'∈ws:=List.mem_of_getElem? ez
            refine ⟨_,rfl,_,rfl,_,z',i,by simp,row_st _ _ _ _ (s5.trans s6) rx,by rw [wl z' mz];exact hi,by rw [wl z' mz];omega,fun p4 H4 s4 e4=>n1 _ _ rfl s4 ⟨p4,rfl,off_at (fun z=>?_) e4⟩⟩
            obtain ⟨acc,hacc⟩:=hDs
            have:=s4 _ _ hacc
            rw [← z,e4] at this
            cases this
          · rw [List.filter_eq_self.mpr (fun _ _=>rfl)] at f2
            have eb:(ws.map fun y=>y.eraseIdx i).length = ws.length:=by simp
            have bl:∀ y∈ws.map (fun y=>y.eraseIdx i),y.length = (ws.map fun y=>y.eraseIdx i).length:=fun y hy=>by
              obtain ⟨z,hz,rfl⟩:=List.mem_map.mp hy
              rw [List.length_eraseIdx_of_lt (by rw [wl z hz];exact hi),wl z hz,eb];omega
            have bb:∀ y∈ws.map (fun y=>y.eraseIdx i),Bd 8 y:=fun y hy=>by
              obtain ⟨z,hz,rfl⟩:=List.mem_map.mp hy
              exact bd_erase (wb z hz)
            have dbd:=det_bd ws.length (ws.map fun y=>y.eraseIdx i) eb (fun y hy=>(bl y hy).trans eb) bb
            have d20:=dB_le ws.length (by omega)
            have fu:=det_fuel d (ws.map fun y=>y.eraseIdx i) (by rw [eb];omega)
            have sg:(if i % 2 = 0 then (1:Int) else -1).natAbs≤1:=by split <;> decide
            refine ⟨_,ws.map (fun y=>y.eraseIdx i),rfl,⟨D2,zs,rfl,f1,f2⟩,by rw [eb];omega,by omega,bl,fun y hy z hz=>Nat.le_trans (bb y hy z hz) (by decide),fun H7 s7=>?_⟩
            have hn7:=(s6.trans s7) _ _ hn5
            refine ⟨_,_,rfl,rfl,⟨big_small (by omega),big_small (by rw [eb];omega)⟩,n0,_,_,rfl,rfl,hn7,?_,?_⟩
            · rw [List.length_map,List.length_map,List.length_range]
              exact Nat.lt_of_le_of_lt (Nat.le_trans (Nat.le_of_lt hi) h4) (by rw [sizeLine_eq];omega)
            · refine ⟨_,rfl,_,rfl,some (.int (0 + (i:Int))),?_,same_write hn0 ((s5.trans s6).trans s7),?_⟩
              · have e6:(if (i + 1) % 2 = 0 then (1:Int) else -1) = - (if i % 2 = 0 then (1:Int) else -1):=by
                  by_cases c:i % 2 = 0
                  · rw [if_pos c,if_neg (by omega)]
                  · rw [if_neg c,if_pos (by omega)];rfl
                rw [e6]
                rfl
              · rw [upd_same,List.range_succ,List.map_append,List.map_append,← fu]
                rfl
        · rintro σ H' ⟨o4,rfl,s5,hn5⟩
          refine ⟨_,rfl,n0,_,rfl,.inl ⟨SqL.of hn5,fun l hl2=>k l _ ((s03.trans s5).trans (same_upd hl2)) ?_⟩⟩
          rw [upd_same]
          have:(List.range d).map (nTerm d ws) = Sx38.normal d (p :: cs):=by
            rw [← hws]
            unfold Sx38.normal nTerm
            simp
          rw [this]
          rfl
end
noncomputable def grow (size:Nat) (bs:List (List Vec)) (p:Vec):List (List Vec):=bs ++ (bs.filter fun c=>decide (c.length < size)).map fun c=>c ++ [p]
def begun (size:Nat) (ps:List Vec):List (List Vec):=ps.foldl (grow size) [[]]
def chs (size:Nat) (ps:List Vec):List (List Vec):=(begun size ps).filter fun c=>decide (c.length = size)
theorem begun_snoc (size:Nat) (ps:List Vec) (p:Vec):begun size (ps ++ [p]) = grow size (begun size ps) p:=by simp [begun,List.foldl_append]
theorem begun_len (size:Nat):∀ (ps:List Vec) (bs:List (List Vec)),(ps.foldl (grow size) bs).length≤2 ^ ps.length * bs.length
  | [],bs=>by simp
  | p :: ps,bs=>by
    have h1:=begun_len size ps (grow size bs p)
    have h2:(grow size bs p).length≤2 * bs.length:=by
      unfold grow
      have:=List.length_filter_le (fun c=>decide (c.length < size)) bs
      simp only [List.length_append,List.length_map];omega
    rw [List.foldl_cons,List.length_cons,Nat.pow_succ,Nat.mul_assoc]
    exact Nat.le_trans h1 (Nat.mul_le_mul_left _ h2)
theorem mem_begun (size:Nat) (ps:List Vec):∀ (n:Nat),n = ps.length→∀ c,c∈begun size ps↔List.Sublist c ps∧c.length≤size:=by
  intro n
  induction n generalizing ps with
  | zero =>
    intro h c
    rw [len0 h.symm]
    constructor
    · intro q
      have:c = []:=by simpa [begun] using q
      subst this;exact ⟨.slnil,Nat.zero_le _⟩
    · rintro ⟨q,_⟩
      have:c = []:=by simpa using q
      subst this;simp [begun]
  | succ n ih =>
    intro h c
    have hne:ps≠[]:=fun q=>by rw [q] at h;simp at h
    obtain ⟨qs,p,rfl⟩:∃ qs p,ps = qs ++ [p]:=⟨ps.dropLast,ps.getLast hne,(List.dropLast_concat_getLast hne).symm⟩
    have hq:n = qs.length:=by simpa using h
    rw [begun_snoc]
    unfold grow
    simp only [List.mem_append,List.mem_map,List.mem_filter,ih qs hq,decide_eq_true_eq]
    constructor
    · rintro (⟨h1,h2⟩ | ⟨b,⟨⟨h1,h2⟩,h3⟩,rfl⟩)
      · exact ⟨h1.trans (List.sublist_append_left qs [p]),h2⟩
      · exact ⟨h1.append (List.Sublist.refl [p]),by simp;omega⟩
    · rintro ⟨h1,h2⟩
      obtain ⟨b,r,rfl,hb,hr⟩:=List.sublist_append_iff.mp h1
      cases r with
      | nil=>exact .inl ⟨by simpa using hb,by simpa using h2⟩
      | cons x r =>
        have e:x :: r = [p]:=by
          have hle:r.length + 1≤1:=hr.length_le
          have hr0:r = []:=len0 (by omega)
          subst hr0
          have:x∈[p]:=hr.subset (by simp)
          simpa using this
        rw [e] at h2 ⊢
        exact .inr ⟨b,⟨⟨hb,by simp at h2;omega⟩,by simp at h2;omega⟩,rfl⟩
theorem mem_chs {size:Nat} {ps:List Vec} {c:List Vec}:c∈chs size ps↔List.Sublist c ps∧c.length = size:=by
  unfold chs
  rw [List.mem_filter,mem_begun size ps _ rfl]
  simp only [decide_eq_true_eq]
  constructor
  · rintro ⟨⟨h1,_⟩,h2⟩;exact ⟨h1,h2⟩
  · rintro ⟨h1,h2⟩;exact ⟨⟨h1,by omega⟩,h2⟩
theorem row_off {t:Bool} {H:Hp} {D:Addr} {acc:List V} {v:V} {r:Vec} (hD:H D = some (.lst acc)) (h:Row true H v r):Row true (off H D) v r:=by
  obtain ⟨a,e,h⟩:=h
  exact ⟨a,e,off_at (fun z=>by rw [z,hD] at h;cases h) h⟩
def spCho:Sp:=fun vs H Q _=>∃ (v:V) (ps:List Vec) (size:Nat),vs = [v,.int (size:Int)]∧Lst (Row true) H v ps∧ps.length≤8∧size≤4∧∀ w H',Same H H'→Lst (Lst (Row true)) H' w (chs size ps)→Q w H'
section
variable {P:Program} {w:World} {K:PySem.W.Frag} {mg:Str→Option Value} {base:Heap}
theorem len_K {X:Cx} {K:PySem.W.Frag} (hK:X.K = K):CallR X (.builtin "len") (fun xs H Q=>∃ p ys,xs = [.ref p]∧(SqL K H p ys∨SqT K H p ys)∧Q (.int ys.length) H):=by subst hK;exact call_len_seq
theorem scCho:FnScope ["points","size","begun","point","chosen"] ["points","size"] (defScope sCho):=⟨rfl,rfl,rfl,by decide +kernel,rfl,by decide +kernel,by decide +kernel⟩
theorem ok_cho {f:Addr} {fd:FuncData} (F:Fun K "choices" "choices" sCho f fd) (T:Tx mg):FnOk P w K mg base CX0 1 f fd ["points","size"] spCho:=by
  refine F.ok scCho (fun vs H Q E h=>?_) (fun cdv A outer s H vs Q E hr h=>?_)
  · obtain ⟨v,ps,size,rfl,_⟩:=h
    rfl
  · obtain ⟨v,ps,size,rfl,⟨a,us,rfl,ha,pr⟩,h8,h4,k⟩:=h
    refine ⟨_,pss_cons (ps_set (i:=2) scCho.nd rfl (Or.inl rfl) (pe_lst (pa_cons (pe_lst pa_nil) pa_nil)))
      (pss_cons (ps_for PassesOwn.never rfl (pi_list (pv 0)) (pg_name (i:=3) scCho.nd rfl (Or.inr rfl))
        (pss_one (ps_set (i:=2) scCho.nd rfl (Or.inl rfl) (pe_op op_cat (pv 2) (pe_lc rfl scCho.nd (pi_list (pv 2)) (blkOk_by (own:=[("chosen",4)]) (by kernel_rfl)) (fun s H C cl fp=>pg_name (i:=4) scCho.nd rfl (Or.inl rfl) (Or.inr rfl))
          (fun s H C cl fp=>pts_one (pt_cmpR op_lt (pe_callB (len_K (K:=K) rfl) rfl T.len PySem.boot_len (pa_cons (pv 4) pa_nil)) (pv 1) (nomark _))) (fun s H C cl fp=>pe_op op_cat (pv 4) (pe_lst (pa_cons (pv 3) pa_nil))))))))
      (pss_one (ps_ret (pe_lc rfl scCho.nd (pi_list (pv 2)) (blkOk_by (own:=[("chosen",4)]) (by kernel_rfl)) (fun s H C cl fp=>pg_name (i:=4) scCho.nd rfl (Or.inl rfl) (Or.inr rfl))
        (fun s H C cl fp=>pts_one (pt_cmpR op_eq (pe_callB (len_K (K:=K) rfl) rfl T.len PySem.boot_len (pa_cons (pv 4) pa_nil)) (pv 1) (nomark _))) (fun s H C cl fp=>pv 4))))),?_⟩
    refine ⟨Nat.zero_le _,fun e0 he0=>⟨by show 1≤sizeLine;decide,fun b0 hb0=>?_⟩⟩
    have s0:=(same_upd (o:=.lst []) he0).trans (same_upd (o:=.lst [V.ref e0]) hb0)
    have st2:Stable (Lst (Row true)):=lst_st row_st
    have len256:∀ i,i≤ps.length→(begun size (ps.take i)).length≤256:=fun i hi=>by
      have h1:=begun_len size (ps.take i) [[]]
      have h2:(ps.take i).length≤8:=by rw [List.length_take];omega
      have h3:2 ^ (ps.take i).length≤2 ^ 8:=Nat.pow_le_pow_right (by decide) h2
      simp only [List.length_cons,List.length_nil] at h1
      unfold begun
      omega
    refine ⟨_,rfl,a,rfl,⟨_,SqL.of (s0 _ _ ha)⟩,for_list (K:=K) (a:=a) (xs:=us) (fun i σ H'=>∃ (vb:V) (o3:Option V),σ = [some (.ref a),some (.int (size:Int)),some vb,o3,none]∧Same H H'∧Lst (Lst (Row true)) H' vb (begun size (ps.take i)))
      ⟨.ref b0,none,rfl,s0,⟨b0,[V.ref e0],rfl,upd_same,.cons ⟨e0,[],rfl,(same_upd hb0) _ _ upd_same,.nil⟩ .nil⟩⟩ (fun i σ H' _ ⟨_,_,_,s1,_⟩=>SqL.of (s1 _ _ ha)) ?_ ?_⟩
    · rintro i x σ H' hi ⟨vb,o3,rfl,s1,⟨b,bs,rfl,hb,pb⟩⟩
      obtain ⟨p,hp,rx⟩:=paired_at pr hi
      have hip:i < ps.length:=(List.getElem?_eq_some_iff.mp hp).1
      refine ⟨_,rfl,_,rfl,b,rfl,⟨_,SqL.of hb⟩,fun D hD=>lc_listM (zs:=begun size (ps.take i)) (R:=Lst (Row true)) st2 (fun c=>decide (c.length < size)) (fun c=>c ++ [p]) hD (SqL.of hb) (paired_len pb) (small_ok (by have:=len256 i (by omega);omega)) (fun j y z H3 ey ez s3 hDs Nx Fx n1 n2=>?_) (fun H3 ys s3 e1 e2=>?_)⟩
      · refine ⟨rfl,?_⟩
        obtain ⟨z',hz',ry⟩:=paired_at pb ey
        have:z' = z:=Option.some.inj (hz'.symm.trans ez)
        subst this
        obtain ⟨c,cs,rfl,hc,pc⟩:=st2 _ _ _ _ s3 ry
        have lc:=paired_len pc
        refine ⟨_,rfl,c,_,rfl,.inl (SqL.of hc),_,rfl,_,_,rfl,rfl,_,rfl,ite2 (fun c1=>?_) (fun c1=>?_)⟩
        · have lt:z'.length < size:=by
            have:((cs.length:Nat):Int) < (size:Int):=by simpa using c1
            omega
          refine ⟨_,rfl,_,rfl,by show 1≤sizeLine;decide,fun q hq=>?_⟩
          have s4:=same_upd (o:=.lst [x]) hq
          refine ⟨c,q,_,_,rfl,rfl,s4 _ _ hc,upd_same,small_ok (by simp;omega),fun l hl=>?_⟩
          have s5:=same_upd (o:=.lst (cs ++ [x])) hl
          obtain ⟨acc,hacc⟩:=hDs
          have hacc5:=s5 _ _ (s4 _ _ hacc)
          refine n1 _ _ (by simpa using lt) (s4.trans s5) ⟨l,cs ++ [x],rfl,off_at (fun z=>?_) upd_same,paired_snoc (paired_mono (fun _ _ r=>row_off (t:=true) hacc5 (row_st _ _ _ _ (s4.trans s5) r)) pc) (row_off (t:=true) hacc5 (row_st _ _ _ _ (((s1.trans s3).trans s4).trans s5) rx))⟩
          rw [z] at hl
          rw [s4 _ _ hacc] at hl
          cases hl
        · have ge:¬ z'.length < size:=by
            have:¬ ((cs.length:Nat):Int) < (size:Int):=by simpa using c1
            omega
          exact n2 _ (by simpa using ge) (Same.refl _)
      · have l1:=paired_len e2
        have l2:=paired_len pb
        have l3:=List.length_filter_le (fun c=>decide (c.length < size)) (begun size (ps.take i))
        have l4:=len256 i (by omega)
        refine ⟨b,D,_,_,rfl,rfl,s3 _ _ hb,e1,small_ok (by rw [l1,l2];simp at *;omega),fun q hq=>?_⟩
        have s4:=same_upd (o:=.lst (bs ++ ys)) hq
        refine ⟨.ref q,_,rfl,(s1.trans s3).trans s4,⟨q,bs ++ ys,rfl,upd_same,?_⟩⟩
        rw [take_snoc hp,begun_snoc]
        exact paired_app (paired_mono (fun _ _ r=>st2 _ _ _ _ (s3.trans s4) r) pb) (paired_mono (fun _ _ r=>st2 _ _ _ _ s4 r) e2)
    · rintro σ H' ⟨vb,o3,rfl,s1,⟨b,bs,rfl,hb,pb⟩⟩
      have lu:=paired_len pr
      rw [lu,List.take_length] at pb
      refine ⟨_,rfl,b,rfl,⟨_,SqL.of hb⟩,fun D hD=>lc_listM (zs:=begun size ps) (R:=Lst (Row true)) st2 (fun c=>decide (c.length = size)) (fun c=>c) hD (SqL.of hb) (paired_len pb) (small_ok (by have:=len256 ps.length (Nat.le_refl _);rw [List.take_length] at this;omega)) (fun j y z H3 ey ez s3 hDs Nx Fx n1 n2=>?_) (fun H3 ys s3 e1 e2=>?_)⟩
      · refine ⟨rfl,?_⟩
        obtain ⟨z',hz',ry⟩:=paired_at pb ey
        have:z' = z:=Option.some.inj (hz'.symm.trans ez)
        subst this
        obtain ⟨c,cs,rfl,hc,pc⟩:=ry
        have lc:=paired_len pc
        obtain ⟨acc,hacc⟩:=hDs
        refine ⟨_,rfl,c,_,rfl,.inl (SqL.of (s3 _ _ hc)),_,rfl,rfl,_,rfl,ite2 (fun c1=>?_) (fun c1=>?_)⟩
        · have e:z'.length = size:=by
            have:((cs.length:Nat):Int) = (size:Int):=by simpa using c1
            omega
          refine ⟨_,rfl,n1 _ _ (by simpa using e) (Same.refl _) ⟨c,cs,rfl,off_at (fun z=>by rw [z,hD] at hc;cases hc) (s3 _ _ hc),paired_mono (fun _ _ r=>row_off (t:=true) hacc (row_st _ _ _ _ s3 r)) pc⟩⟩
        · have e:¬ z'.length = size:=by
            have:¬ ((cs.length:Nat):Int) = (size:Int):=by simpa using c1
            omega
          exact n2 _ (by simpa using e) (Same.refl _)
      · rw [List.map_id'] at e2
        exact k _ H3 (s1.trans s3) ⟨D,ys,rfl,e1,e2⟩
end
abbrev sSid:Stmt:=top 8
def SideR (H:Hp) (v:V) (s:Vec × Int):Prop:=∃ p,v = .ref p∧KAt H s p
theorem side_st:Stable SideR:=fun _ _ _ _ s ⟨p,e,h⟩=>⟨p,e,h.same s⟩
theorem off_updL {H:Hp} {D:Addr} {o:HO}:Same (off H D) (upd H D o):=fun b u h=>by
  rw [upd_ne (off_some h).1];exact (off_some h).2
theorem kat_off {H:Hp} {D:Addr} {k:IKey} {a:Addr} {p:Heap→Prop} (hD:H D = some (.ext p)) (x:KAt H k a):KAt (off H D) k a:=by
  obtain ⟨b,h1,h2⟩:=x
  exact ⟨b,off_at (fun z=>by rw [z,hD] at h1;cases h1) h1,off_at (fun z=>by rw [z,hD] at h2;cases h2) h2⟩
theorem row_offD {t:Bool} {H:Hp} {D:Addr} {p:Heap→Prop} {v:V} {r:Vec} (hD:H D = some (.ext p)) (h:Row t H v r):Row t (off H D) v r:=by
  obtain ⟨a,e,h⟩:=h
  refine ⟨a,e,off_at (fun z=>?_) h⟩
  rw [z,hD] at h
  cases t <;> cases h
theorem lst_offD {α:Type} {R:Hp→V→α→Prop} {H:Hp} {D:Addr} {p:Heap→Prop} {v:V} {xs:List α} (hD:H D = some (.ext p)) (hR:∀ v x,R H v x→R (off H D) v x) (h:Lst R H v xs):Lst R (off H D) v xs:=by
  obtain ⟨a,vs,e,h,q⟩:=h
  exact ⟨a,vs,e,off_at (fun z=>by rw [z,hD] at h;cases h) h,paired_mono (fun v x r=>hR v x r) q⟩
def Sd (P:Program) (w:World) (fd:Addr) (p:IKey→Prop) (H:Hp):Prop:=∃ xs:List (IKey × Addr × Value),H fd = some (PDo P w fd xs)∧(∀ x∈xs,KAt H x.1 x.2.1)∧(xs.map (·.1)).Nodup∧∀ k,k∈xs.map (·.1)↔p k
theorem Sd.same {P:Program} {w:World} {fd:Addr} {p:IKey→Prop} {H H':Hp} (s:Same H H') (h:Sd P w fd p H):Sd P w fd p H':=by
  obtain ⟨xs,h1,h2,h3,h4⟩:=h
  exact ⟨xs,s _ _ h1,fun x hx=>(h2 x hx).same s,h3,h4⟩
theorem Sd.iff {P:Program} {w:World} {fd:Addr} {p q:IKey→Prop} {H:Hp} (h:Sd P w fd p H) (e:∀ k,p k↔q k):Sd P w fd q H:=by
  obtain ⟨xs,h1,h2,h3,h4⟩:=h
  exact ⟨xs,h1,h2,h3,fun k=>(h4 k).trans (e k)⟩
theorem putAt_fst {K:Type} [DecidableEq K] (k:K) (v:Value) (x:K × Addr × Value):(putAt k v x).1 = x.1:=by unfold putAt;split <;> rfl
theorem stored_keys (xs:List (IKey × Addr × Value)) (k:IKey) (a:Addr) (v:Value):(storedH xs k a v).map (·.1) = if k∈xs.map (·.1) then xs.map (·.1) else xs.map (·.1) ++ [k]:=by
  have hk:(atKey xs k).isSome = true↔k∈xs.map (·.1):=by
    unfold atKey
    rw [Option.isSome_map,List.find?_isSome]
    simp only [List.mem_map,decide_eq_true_eq]
  unfold storedH
  by_cases h:k∈xs.map (·.1)
  · rw [if_pos (hk.mpr h),if_pos h,List.map_map]
    exact List.map_congr_left fun x _=>putAt_fst k v x
  · rw [if_neg (fun q=>h (hk.mp q)),if_neg h,List.map_append];rfl
theorem sd_put {P:Program} {w:World} {fd b:Addr} {p:IKey→Prop} {H:Hp} {k:IKey} {xs:List (IKey × Addr × Value)} {v:Value} (h1:H fd = some (PDo P w fd xs)) (h2:∀ x∈xs,KAt H x.1 x.2.1) (h3:(xs.map (·.1)).Nodup) (h4:∀ k,k∈xs.map (·.1)↔p k) (hk:KAt H k b) :
    Sd P w fd (fun q=>p q∨q = k) (upd H fd (PDo P w fd (storedH xs k b v))):=by
  refine ⟨_,upd_same,fun x hx=>?_,?_,fun q=>?_⟩
  · rcases mem_storedH hx with ⟨y,hy,e1,e2⟩ | ⟨e1,e2⟩
    · rw [e1,e2];exact (kat_off h1 (h2 y hy)).same off_updL
    · rw [e1,e2];exact (kat_off h1 hk).same off_updL
  · rw [stored_keys]
    split
    · exact h3
    · rename_i hn
      exact List.nodup_append.mpr ⟨h3,by simp,fun a ha c hc=>by
        have:c = k:=by simpa using hc
        subst this
        exact fun z=>hn (z ▸ ha)⟩
  · rw [stored_keys]
    split
    · rename_i hm
      rw [h4]
      refine ⟨.inl,?_⟩
      rintro (z | rfl)
      · exact z
      · exact (h4 _).mp hm
    · rw [List.mem_append,h4,List.mem_singleton]
def ways (d:Nat) (c:List Vec):List Vec:=[unit d c,(unit d c).map fun z=>-z]
def Hit (ps:List Vec) (c:List Vec) (k:IKey):Prop:=k.2 = Sa83.dot k.1 (c.headD [])∧∀ x∈ps,Sa83.dot k.1 x≤k.2
def Done (d:Nat) (ps:List Vec) (cs:List (List Vec)) (k:IKey):Prop:=∃ c∈cs,Found d ps c k.1 k.2
theorem found_iff {d:Nat} {ps c:List Vec} {k:IKey} (h1:List.Sublist c ps) (h2:c.length = d) (h3:Sa83.gcdOf (Sx38.normal d c)≠0):Found d ps c k.1 k.2↔k.1∈ways d c∧Hit ps c k:=by
  constructor
  · intro F
    exact ⟨by unfold ways;rcases F.way with z | z <;> simp [← z],F.at_,F.most⟩
  · rintro ⟨h4,h5,h6⟩
    refine ⟨h1,h2,h3,?_,h5,h6⟩
    simpa [ways] using h4
theorem done_snoc {d:Nat} {ps c:List Vec} {cs:List (List Vec)} {k:IKey}:Done d ps (cs ++ [c]) k↔Done d ps cs k∨Found d ps c k.1 k.2:=by
  unfold Done
  constructor
  · rintro ⟨e,he,F⟩
    rcases List.mem_append.mp he with he | he
    · exact .inl ⟨e,he,F⟩
    · have:e = c:=by simpa using he
      subst this;exact .inr F
  · rintro (⟨e,he,F⟩ | F)
    · exact ⟨e,by simp [he],F⟩
    · exact ⟨c,by simp,F⟩
theorem any_gcd (a:Vec):(a.any fun x=>x != 0) = true↔Sa83.gcdOf a≠0:=by
  rw [Ne,gcdOf_zero,List.any_eq_true]
  constructor
  · rintro ⟨x,hx,h⟩ q
    have:=q x hx
    simp [this] at h
  · intro h
    refine Classical.byContradiction fun q=>h fun z hz=>?_
    refine Classical.byContradiction fun h0=>q ⟨z,hz,by simpa using h0⟩
theorem normal_bd {d:Nat} {c:List Vec} (hc:c.length = d) (h1:1≤d) (h4:d≤4) (hl:∀ x∈c,x.length = d) (hb:∀ x∈c,Bd 4 x):Bd (2 ^ 20) (Sx38.normal d c):=by
  obtain ⟨p,cs,rfl,hcs⟩:=len_succ (l:=c) (n:=d - 1) (by omega)
  intro z hz
  unfold Sx38.normal at hz
  obtain ⟨k,hk,rfl⟩:=List.mem_map.mp hz
  have hk:k < d:=by simpa using hk
  have hpl:p.length = d:=hl p (by simp)
  generalize hm:(((((p :: cs).drop 1).map fun q=>Sx38.sub q ((p :: cs).headD [])).map fun r=>r.eraseIdx k)) = m
  have hm':m = (cs.map fun q=>Sx38.sub q p).map fun r=>r.eraseIdx k:=by rw [← hm];rfl
  have ml:m.length = d - 1:=by rw [hm'];simp;omega
  have len:∀ y∈m,y.length = d - 1:=fun y hy=>by
    rw [hm'] at hy
    obtain ⟨r,hr,rfl⟩:=List.mem_map.mp hy
    obtain ⟨q,hq,rfl⟩:=List.mem_map.mp hr
    have e:=sub_length (hl q (by simp [hq])) hpl
    rw [List.length_eraseIdx_of_lt (by omega),e]
  have bd:∀ y∈m,Bd 8 y:=fun y hy=>by
    rw [hm'] at hy
    obtain ⟨r,hr,rfl⟩:=List.mem_map.mp hy
    obtain ⟨q,hq,rfl⟩:=List.mem_map.mp hr
    exact bd_erase (sub_bd (hb q (by simp [hq])) (hb p (by simp)))
  have fu:=det_fuel d m (by omega)
  have h:=det_bd m.length m rfl (fun y hy=>(len y hy).trans ml.symm) bd
  have h2:=dB_le m.length (by omega)
  rw [Int.natAbs_mul,fu]
  have sg:(if k % 2 = 0 then (1:Int) else -1).natAbs = 1:=by split <;> rfl
  rw [sg,Nat.one_mul]
  omega
theorem div_natAbs_le (z:Int) (g:Nat):(z / (g:Int)).natAbs≤z.natAbs:=by
  rcases Nat.eq_zero_or_pos g with h | h
  · subst h;simp
  · have h1:(0:Int) < (g:Int):=by omega
    rcases Int.le_total 0 z with hz | hz
    · have h2:=Int.ediv_nonneg hz (Int.le_of_lt h1)
      have h3:=Int.ediv_le_self (g:Int) hz
      omega
    · have h2:z / (g:Int)≤0:=by
        have:=Int.ediv_le_ediv h1 hz
        rwa [Int.zero_ediv] at this
      have h3:z≤z / (g:Int):=by
        refine (Int.le_ediv_iff_mul_le h1).mpr ?_
        have:z * (g:Int)≤z * 1:=Int.mul_le_mul_of_nonpos_left hz (by omega)
        omega
      omega
theorem unit_bd {d:Nat} {c:List Vec} (h:Bd (2 ^ 20) (Sx38.normal d c)):Bd (2 ^ 20) (unit d c):=by
  intro z hz
  obtain ⟨y,hy,rfl⟩:=List.mem_map.mp hz
  exact Nat.le_trans (div_natAbs_le _ _) (h y hy)
theorem neg_bd {M:Nat} {a:Vec} (h:Bd M a):Bd M (a.map fun z=>-z):=by
  intro z hz
  obtain ⟨y,hy,rfl⟩:=List.mem_map.mp hz
  rw [Int.natAbs_neg];exact h y hy
theorem bd_mono {M N:Nat} {a:Vec} (h:Bd M a) (hm:M≤N):Bd N a:=fun z hz=>Nat.le_trans (h z hz) hm
theorem way_facts {d:Nat} {c:List Vec} (h:Bd (2 ^ 20) (Sx38.normal d c)):∀ a∈ways d c,a.length = d∧Bd (2 ^ 20) a:=by
  intro a ha
  have:a = unit d c∨a = (unit d c).map fun z=>-z:=by simpa [ways] using ha
  rcases this with rfl | rfl
  · exact ⟨unit_length d c,unit_bd h⟩
  · exact ⟨by simp [unit_length],neg_bd (unit_bd h)⟩
structure Ds (K:PySem.W.Frag) (mg:Str→Option Value) where
  fG:Addr
  dG:FuncData
  cG:Cal K mg "common_divisor" sGcd ["a","b"] fG dG
  fV:Addr
  dV:FuncData
  cV:Cal K mg "value_at" sVal ["normal","point"] fV dV
  fF:Addr
  dF:FuncData
  cF:Cal K mg "difference" sDif ["point","other"] fF dF
  fW:Addr
  dW:FuncData
  cW:Cal K mg "without_column" sWo ["row","column"] fW dW
  fC:Addr
  dC:FuncData
  cC:Cal K mg "cleared" sClr ["row","head","column"] fC dC
  fR:Addr
  dR:FuncData
  cR:Cal K mg "first_column" sFc ["row"] fR dR
  fK:Addr
  dK:FuncData
  cK:Cal K mg "rank" sRank ["rows"] fK dK
  fL:Addr
  dL:FuncData
  cL:Cal K mg "without_common_divisor" sWcd ["normal"] fL dL
  fD:Addr
  dD:FuncData
  cD:Cal K mg "determinant" sDet ["rows"] fD dD
  fN:Addr
  dN:FuncData
  cN:Cal K mg "normal_of" sNrm ["chosen"] fN dN
  fH:Addr
  dH:FuncData
  cH:Cal K mg "choices" sCho ["points","size"] fH dH
def SortedL (S:List (Vec × Int)):Prop:=S.Pairwise fun x y=>ikLt x y = true
def spSid:Sp:=fun vs H Q _=>∃ (v:V) (ps:List Vec) (d:Nat),vs = [v]∧Lst (Row true) H v ps∧ps≠[]∧ps.length≤8∧(∀ x∈ps,x.length = d)∧1≤d∧d≤4∧(∀ x∈ps,Bd 4 x)∧RoomP d ps ∧
  ∀ w H' S,Same H H'→Lst SideR H' w S→SidesAre d ps S→SortedL S→S.length≤56→(∀ s∈S,Bd (2 ^ 20) s.1)→Q w H'
section
variable {P:Program} {w:World} {K:PySem.W.Frag} {mg:Str→Option Value} {base:Heap}
theorem dnewP' {X:Cx} {P:Program} {w:World} {pos:Pos} (hP:X.prog = P) (hw:X.w = w):PE X (.Dict [] [] pos) (tDNewP P w):=by subst hP hw;exact pe_dnewP
theorem scSid:FnScope ["points","found","chosen","normal","least","sign","outward","a","e","point"] ["points"] (defScope sSid):=⟨rfl,rfl,rfl,by decide +kernel,rfl,by decide +kernel,by decide +kernel⟩
theorem found_bd {d:Nat} {ps c:List Vec} {k:IKey} (F:Found d ps c k.1 k.2) (h1:1≤d) (h4:d≤4) (hl:∀ x∈ps,x.length = d) (hb:∀ x∈ps,Bd 4 x):Bd (2 ^ 20) k.1:=by
  refine (way_facts (d:=d) (c:=c) (normal_bd F.len h1 h4 (fun x hx=>hl x (F.sub.subset hx)) (fun x hx=>hb x (F.sub.subset hx))) k.1 ?_).2
  unfold ways;rcases F.way with z | z <;> simp [← z]
theorem sd_few {fd:Addr} {p:IKey→Prop} {d:Nat} {ps:List Vec} {xs:List (IKey × Addr × Value)} (h1:1≤d) (h4:d≤4) (hl:∀ x∈ps,x.length = d) (hR:RoomP d ps) (h8:ps.length≤8) (nd:(xs.map (·.1)).Nodup) (hk:∀ k,k∈xs.map (·.1)→∃ c,Found d ps c k.1 k.2):xs.length≤56:=by
  have:=sides_few (S:=xs.map (·.1)) h1 h4 hl hR h8 nd fun a e hm=>let ⟨c,F⟩:=hk (a,e) hm;found_side h1 h4 hl F
  simpa using this
end
section
variable {P:Program} {w:World} {K:PySem.W.Frag} {mg:Str→Option Value} {base:Heap}
theorem head_at {α:Type} {c:List α} {x d:α} (h:c[0]? = some x):c.headD d = x:=by
  cases c with
  | nil=>simp at h
  | cons y r=>simpa using h
theorem take_two {d:Nat} {c:List Vec} {j:Nat} {y:Vec} (h:(ways d c)[j]? = some y):(ways d c).take (j + 1) = (ways d c).take j ++ [y]:=take_snoc h
theorem paired_kats {H:Hp}:∀ ys:List (IKey × Addr),(∀ y∈ys,KAt H y.1 y.2)→Paired (SideR H) (ys.map fun y=>V.ref y.2) (ys.map (·.1))
  | [],_=>.nil
  | y :: ys,h=>.cons ⟨y.2,rfl,h y (by simp)⟩ (paired_kats ys fun z hz=>h z (by simp [hz]))
theorem sign_way {j:Nat} {y:V} (h:([V.int 1,V.int (-1)]:List V)[j]? = some y) (d:Nat) (c:List Vec):∃ (sg:Int) (wy:Vec),y = .int sg∧(ways d c)[j]? = some wy∧wy = (unit d c).map (fun z=>sg * z)∧sg.natAbs≤1:=by
  match j,h with
  | 0,h=>exact ⟨1,unit d c,by simpa using h.symm,rfl,by simp,by decide⟩
  | 1,h=>exact ⟨-1,(unit d c).map fun z=>-z,by simpa using h.symm,rfl,by simp,by decide⟩
  | j + 2,h=>simp at h
theorem ok_sid {f:Addr} {fd:FuncData} (F:Fun K "sides_of" "sides_of" sSid f fd) (T:Tx mg) (Z:Ds K mg):FnOk P w K mg base CX0 7 f fd ["points"] spSid:=by
  have GC:FnOk P w K mg base CX0 1 Z.fH Z.dH ["points","size"] spCho:=ok_cho Z.cH.fn T
  have GN:FnOk P w K mg base CX0 6 Z.fN Z.dN ["chosen"] spNrm:=ok_nrm Z.cN.fn T Z.cD Z.cF Z.cW
  have GL:FnOk P w K mg base CX0 2 Z.fL Z.dL ["normal"] spWcd:=ok_wcd Z.cL.fn T Z.cG
  have GV:FnOk P w K mg base CX0 1 Z.fV Z.dV ["normal","point"] spVal:=ok_val Z.cV.fn T
  refine F.ok scSid (fun vs H Q E h=>?_) (fun cdv A outer s H vs Q E hr h=>?_)
  · obtain ⟨v,ps,d,rfl,_⟩:=h
    rfl
  · obtain ⟨v,ps,d,rfl,⟨a,us,rfl,ha,pr⟩,hne,h8,hl,h1,h4,hb,hR,k⟩:=h
    have hr1:Room 1 _:=hr.mono (by decide)
    have hr2:Room 2 _:=hr.mono (by decide)
    refine ⟨_,pss_cons (ps_set (i:=1) scSid.nd rfl (Or.inl rfl) (dnewP' (P:=P) (w:=w) rfl rfl))
      (pss_cons (ps_for PassesOwn.never rfl (pi_list (pe_call GC hr1 rfl Z.cH.at_ Z.cH.fn.kp Z.cH.bi .nil pass0 (pa_cons (pv 0) (pa_cons (pe_callB call_len_seq rfl T.len PySem.boot_len (pa_cons (pe_ix ix_list (pv 0) pe_int (fun _ _=>rfl)) pa_nil)) pa_nil)))) (pg_name (i:=2) scSid.nd rfl (Or.inl rfl))
        (pss_cons (ps_set (i:=3) scSid.nd rfl (Or.inl rfl) (pe_call GN hr rfl Z.cN.at_ Z.cN.fn.kp Z.cN.bi .nil pass0 (pa_cons (pv 2) pa_nil)))
        (pss_one (ps_if (pt_val (pe_callB (cr_anyI rfl) rfl T.any boot_any (pa_cons (pv 3) pa_nil)))
          (pss_cons (ps_set (i:=4) scSid.nd rfl (Or.inl rfl) (pe_call GL hr2 rfl Z.cL.at_ Z.cL.fn.kp Z.cL.bi .nil pass0 (pa_cons (pv 3) pa_nil)))
          (pss_one (ps_for PassesOwn.never rfl (pi_tup (pe_tup (pa_cons pe_int (pa_cons (pe_un un_neg pe_int) pa_nil)))) (pg_name (i:=5) scSid.nd rfl (Or.inr rfl))
            (pss_cons (ps_set (i:=6) scSid.nd rfl (Or.inr rfl) (pe_callTy call_tuple_of rfl T.tuple boot_tuple (pa_cons (pe_lc rfl scSid.nd (pi_tup (pv 4)) (blkOk_by (own:=[("a",7)]) (by kernel_rfl)) (fun s H C cl fp=>pg_name (i:=7) scSid.nd rfl (Or.inl rfl) (Or.inr rfl)) (fun s H C cl fp=>pts_nil) (fun s H C cl fp=>pe_op op_mulB (pv 5) (pv 7))) pa_nil)))
            (pss_cons (ps_set (i:=8) scSid.nd rfl (Or.inr rfl) (pe_call GV hr1 rfl Z.cV.at_ Z.cV.fn.kp Z.cV.bi .nil pass0 (pa_cons (pv 6) (pa_cons (pe_ix ix_list (pv 2) pe_int (fun _ _=>rfl)) pa_nil))))
            (pss_one (ps_if (pt_val (pe_callB (cr_all rfl) rfl T.all boot_all (pa_cons (pe_lc rfl scSid.nd (pi_list (pv 0)) (blkOk_by (own:=[("point",9)]) (by kernel_rfl)) (fun s H C cl fp=>pg_name (i:=9) scSid.nd rfl (Or.inl rfl) (Or.inr rfl)) (fun s H C cl fp=>pts_nil)
                (fun s H C cl fp=>pe_cmpR op_le (pe_call GV hr1 rfl Z.cV.at_ Z.cV.fn.kp Z.cV.bi .nil pass0 (pa_cons (pv 6) (pa_cons (pv 9) pa_nil))) (pv 8) (nomark _))) pa_nil)))
              (pss_one (ps_dputP hr.units (pv 1) (pe_tup (pa_cons (pv 6) (pa_cons (pv 8) pa_nil))) pe_bl rfl))
              pss_nil)))))))
          pss_nil))))
      (pss_one (ps_ret (pe_callB (cr_sortedP rfl hr.units) rfl T.sorted boot_sorted (pa_cons (pv 1) pa_nil))))),?_⟩
    intro t0 ht0
    have s0:=same_upd (o:=PDo P w t0 []) ht0
    have e0:upd H t0 (PDo P w t0 []) t0 = some (PDo P w t0 []):=upd_same
    generalize upd H t0 (PDo P w t0 []) = H1 at s0 e0
    obtain ⟨p0,hp0⟩:∃ p0,ps[0]? = some p0:=by
      cases ps with
      | nil=>exact absurd rfl hne
      | cons p _=>exact ⟨p,rfl⟩
    obtain ⟨u0,hu0,⟨q0,rfl,hq0⟩⟩:=paired_at' pr hp0
    have hpl:p0.length = d:=hl p0 (List.mem_of_getElem? hp0)
    refine ⟨_,rfl,_,rfl,a,_,_,_,rfl,rfl,SqL.of (s0 _ _ ha),at_of (j:=0) rfl hu0,q0,_,rfl,.inr (SqT.of (s0 _ _ hq0)),_,ps,d,by rw [List.length_map,hpl];rfl,⟨a,us,rfl,s0 _ _ ha,paired_mono (fun _ _ q=>row_st _ _ _ _ s0 q) pr⟩,h8,h4,fun wv H2 s2 LL=>?_⟩
    obtain ⟨cl,cus,rfl,hcl,pc⟩:=LL
    have e2:=s2 _ _ e0
    have st2:Stable (Lst (Row true)):=lst_st row_st
    have fd_ne:∀ {b:Addr} {us:List V},H2 b = some (.lst us)→b≠t0:=fun hb z=>by rw [z,e2] at hb;cases hb
    have La:Lst (Row true) (off H2 t0) (.ref a) ps:=⟨a,us,rfl,off_at (fd_ne ((s0.trans s2) _ _ ha)) ((s0.trans s2) _ _ ha),paired_mono (fun _ _ q=>row_offD e2 (row_st _ _ _ _ (s0.trans s2) q)) pr⟩
    have Pc:Paired (Lst (Row true) (off H2 t0)) cus (chs d ps):=paired_mono (fun _ _ q=>lst_offD e2 (fun _ _ r=>row_offD e2 r) q) pc
    have hclo:off H2 t0 cl = some (.lst cus):=off_at (fd_ne hcl) hcl
    have few:∀ {cs:List (List Vec)} {c:List Vec} {ws:List Vec} {xs:List (IKey × Addr × Value)},(xs.map (·.1)).Nodup→(∀ k,k∈xs.map (·.1)→∃ c,Found d ps c k.1 k.2)→xs.length≤56:=fun nd hk=>sd_few (fd:=t0) (p:=fun _=>True) h1 h4 hl hR h8 nd hk
    refine ⟨cl,rfl,⟨_,SqL.of hcl⟩,for_list (K:=K) (a:=cl) (xs:=cus) (fun i σ H'=>∃ (o2 o3 o4 o5 o6 o8:Option V),σ = [some (.ref a),some (.ref t0),o2,o3,o4,o5,o6,none,o8,none]∧Same (off H2 t0) H'∧Same H H'∧Sd P w t0 (Done d ps ((chs d ps).take i)) H')
      ⟨none,none,none,none,none,none,rfl,off_le,s0.trans s2,[],e2,fun x hx=>(nomatch hx),.nil,fun k=>⟨fun h=>(nomatch h),fun ⟨c,hc,_⟩=>(nomatch hc)⟩⟩ (fun i σ H' _ ⟨_,_,_,_,_,_,_,s3,_⟩=>SqL.of (s3 _ _ hclo)) ?_ ?_⟩
    · rintro i x σ H' hi ⟨o2,o3,o4,o5,o6,o8,rfl,s3,sH,sd⟩
      obtain ⟨c,hc,rx⟩:=paired_at Pc hi
      obtain ⟨csub,clen⟩:=mem_chs.mp (List.mem_of_getElem? hc)
      have cl':∀ y∈c,y.length = d:=fun y hy=>hl y (csub.subset hy)
      have cb:∀ y∈c,Bd 4 y:=fun y hy=>hb y (csub.subset hy)
      have nbd:=normal_bd clen h1 h4 cl' cb
      have Lx:=st2 _ _ _ _ s3 rx
      refine ⟨_,rfl,_,c,d,rfl,Lx,clen,cl',h1,h4,cb,fun nb H4 s4 e4=>?_⟩
      have sd4:=sd.same s4
      refine ⟨_,rfl,nb,Sx38.normal d c,rfl,.inr (SqT.of e4),_,rfl,ite2 (fun c1=>?_) (fun c1=>?_)⟩
      · have g0:=(any_gcd _).mp c1
        refine ⟨_,rfl,_,Sx38.normal d c,rfl,⟨nb,rfl,e4⟩,c1,by rw [normal_length];omega,nbd,fun lb H5 s5 e5=>?_⟩
        refine ⟨_,rfl,by show 2≤sizeLine;decide,fun tb htb=>?_⟩
        have s7:=same_upd (o:=.tup [V.int 1,V.int (-1)]) htb
        have e7:upd H5 tb (.tup [V.int 1,V.int (-1)]) tb = some (.tup [V.int 1,V.int (-1)]):=upd_same
        generalize upd H5 tb (.tup [V.int 1,V.int (-1)]) = H7 at s7 e7
        have s47:=s5.trans s7
        have sd7:=sd4.same s47
        obtain ⟨xs7,t7,_⟩:=id sd7
        have htbo:off H7 t0 tb = some (.tup [V.int 1,V.int (-1)]):=off_at (fun z=>by rw [z,t7] at e7;cases e7) e7
        have e5':H7 lb = some (RowH true (unit d c)):=s7 _ _ e5
        have hlbo:off H7 t0 lb = some (RowH true (unit d c)):=off_at (fun z=>by rw [z,t7] at e5';cases e5') e5'
        have sOff:Same (off H2 t0) (off H7 t0):=fun b o hb=>off_at (off_some hb).1 ((s4.trans s47) _ _ (s3 _ _ hb))
        refine ⟨tb,rfl,⟨_,SqT.of e7⟩,for_tup (K:=K) (a:=tb) (xs:=[V.int 1,V.int (-1)]) (fun j σ H'=>∃ (o5 o6 o8:Option V),σ = [some (.ref a),some (.ref t0),some x,some (.ref nb),some (.ref lb),o5,o6,none,o8,none]∧Same (off H7 t0) H'∧Same H H'∧Sd P w t0 (fun k=>Done d ps ((chs d ps).take i) k∨(k.1∈(ways d c).take j∧Hit ps c k)) H')
          ⟨o5,o6,o8,rfl,off_le,(sH.trans s4).trans s47,sd7.iff fun k=>⟨.inl,fun h=>h.elim id fun q=>(nomatch q.1)⟩⟩ (fun j σ H' _ ⟨_,_,_,_,s8,_⟩=>SqT.of (s8 _ _ htbo)) ?_ ?_⟩
        · rintro j y σ H8' hj ⟨o5,o6,o8,rfl,s8',sH8',sd8'⟩
          obtain ⟨sg,wy,rfl,hwy,ewy,bsg⟩:=sign_way hj d c
          have hlb8:=s8' _ _ hlbo
          refine ⟨_,rfl,lb,rfl,⟨_,SqT.of hlb8⟩,fun D0 hD0=>lc_tupM (zs:=unit d c) int_st (fun _=>true) (fun z:Int=>sg * z) hD0 (SqT.of hlb8) (by simp) (small_ok (by rw [unit_length];omega)) (fun l y' z HA ey ez sA hDs Nx Fx n1 n2=>?_) (fun HA ys sA f1 f2=>?_)⟩
          · have e:y' = .int z:=by rw [List.getElem?_map,ez] at ey;exact (Option.some.inj ey).symm
            subst e
            have bz:=unit_bd nbd z (List.mem_of_getElem? ez)
            refine ⟨rfl,?_⟩
            exact ⟨_,rfl,_,rfl,_,_,rfl,rfl,⟨big_small (by omega),big_small (by omega)⟩,n1 _ _ rfl (Same.refl _) rfl⟩
          have f3:=ints_eq f2
          rw [List.filter_eq_self.mpr (fun _ _=>rfl),← ewy] at f3
          subst f3
          refine ⟨D0,_,rfl,.inl ⟨SqL.of f1,fun ob hob=>?_⟩⟩
          have sob:=same_upd (o:=.tup (wy.map V.int)) hob
          have ry8:Row true (upd HA ob (.tup (wy.map V.int))) (.ref ob) wy:=⟨ob,rfl,upd_same⟩
          generalize upd HA ob (.tup (wy.map V.int)) = H8 at sob ry8
          have s8:=s8'.trans (sA.trans sob)
          have sH8:=sH8'.trans (sA.trans sob)
          have sd8:=sd8'.same (sA.trans sob)
          obtain ⟨wl,wb⟩:=way_facts nbd wy (List.mem_of_getElem? hwy)
          obtain ⟨c0,hc0⟩:∃ c0,c[0]? = some c0:=⟨c[0]'(by omega),List.getElem?_eq_getElem (by omega)⟩
          have mc0:c0∈c:=List.mem_of_getElem? hc0
          have Lx8:Lst (Row true) H8 x c:=st2 _ _ _ _ (sOff.trans s8) rx
          have La8:Lst (Row true) H8 (.ref a) ps:=st2 _ _ _ _ (sOff.trans s8) La
          obtain ⟨cx,cxs,rfl,hcx,pcx⟩:=Lx8
          obtain ⟨uc0,huc0,rc0⟩:=paired_at' pcx hc0
          obtain ⟨a',us',ea',ha8,pr8⟩:=La8
          cases ea'
          have wb30:=bd_mono wb (show 2 ^ 20≤2 ^ 30 by decide)
          refine ⟨_,rfl,_,rfl,cx,_,_,_,rfl,rfl,SqL.of hcx,at_of (j:=0) rfl huc0,_,_,wy,c0,rfl,ry8,rc0,by rw [wl,cl' c0 mc0],by omega,wb30,bd_mono (cb c0 mc0) (by decide),fun H9 s9=>?_⟩
          refine ⟨_,rfl,a,rfl,⟨_,SqL.of (s9 _ _ ha8)⟩,fun D hD=>lc_listM (zs:=ps) (R:=BlR) bl_st (fun _=>true) (fun z=>decide (Sa83.dot wy z≤Sa83.dot wy c0)) hD (SqL.of (s9 _ _ ha8)) (paired_len pr8) (small_ok (by omega)) (fun l y' z HA ey ez sA hDs Nx Fx n1 n2=>?_) (fun HA ys sA f1 f2=>?_)⟩
          · refine ⟨rfl,?_⟩
            obtain ⟨z',hz',rz⟩:=paired_at pr8 ey
            have:z' = z:=Option.some.inj (hz'.symm.trans ez)
            subst this
            have mz:z'∈ps:=List.mem_of_getElem? ez
            refine ⟨_,rfl,_,rfl,_,_,wy,z',rfl,row_st _ _ _ _ (s9.trans sA) ry8,row_st _ _ _ _ (s9.trans sA) rz,by rw [wl,hl z' mz],by omega,wb30,bd_mono (hb z' mz) (by decide),fun HB sB=>?_⟩
            exact ⟨_,rfl,_,_,rfl,rfl,n1 _ _ rfl sB rfl⟩
          · rw [List.filter_eq_self.mpr (fun _ _=>rfl)] at f2
            have f3:=bls_eq f2
            subst f3
            have sd10:=sd8.same (s9.trans sA)
            have sd8':=s8.trans (s9.trans sA)
            have hall:((ps.map fun z=>decide (Sa83.dot wy z≤Sa83.dot wy c0)).all id) = true↔∀ z∈ps,Sa83.dot wy z≤Sa83.dot wy c0:=by simp
            refine ⟨D,_,rfl,SqL.of f1,_,rfl,ite2 (fun c2=>?_) (fun c2=>?_)⟩
            · -- it's a side
              have hmost:=hall.mp c2
              obtain ⟨xs,x1,x2,x3,x4⟩:=sd10
              refine ⟨_,rfl,_,rfl,_,rfl,by show 2≤sizeLine;decide,fun kb hkb=>?_⟩
              have s11:=same_upd (o:=.tup [.ref ob,.int (Sa83.dot wy c0)]) hkb
              have e11:upd HA kb (.tup [.ref ob,.int (Sa83.dot wy c0)]) kb = some (.tup [.ref ob,.int (Sa83.dot wy c0)]):=upd_same
              generalize upd HA kb (.tup [.ref ob,.int (Sa83.dot wy c0)]) = HB at s11 e11
              obtain ⟨yb,eyb,hyb⟩:=row_st _ _ _ _ ((s9.trans sA).trans s11) ry8
              cases eyb
              have kk:KAt HB (wy,Sa83.dot wy c0) kb:=⟨ob,e11,hyb⟩
              have hcs:∀ k,k∈xs.map (·.1)→∃ c,Found d ps c k.1 k.2:=fun k hk=>by
                rcases (x4 k).mp hk with ⟨c',_,F'⟩ | ⟨q1,q2⟩
                · exact ⟨c',F'⟩
                · exact ⟨c,(found_iff csub clen g0).mpr ⟨List.mem_of_mem_take q1,q2⟩⟩
              have lt:=few (cs:=[]) (c:=[]) (ws:=[]) x3 hcs
              refine ⟨t0,kb,(wy,Sa83.dot wy c0),xs,true,rfl,rfl,rfl,s11 _ _ x1,kk,fun x hx=>(x2 x hx).same s11,by have:=small_ok (n:=57) (by decide);omega,?_⟩
              refine ⟨_,_,_,rfl,fun b o hb=>?_,fun b o hb=>?_,(sd_put (s11 _ _ x1) (fun x hx=>(x2 x hx).same s11) x3 x4 kk).iff fun k=>?_⟩
              · rw [upd_ne (off_some hb).1];exact s11 _ _ (sd8' _ _ hb)
              · rw [upd_ne (ne_of_none hb ht0)];exact ((s9.trans sA).trans s11) _ _ (sH8 _ _ hb)
              · rw [take_two hwy]
                constructor
                · rintro ((z | z) | rfl)
                  · exact .inl z
                  · exact .inr ⟨List.mem_append.mpr (.inl z.1),z.2⟩
                  · exact .inr ⟨by simp,by rw [head_at hc0],fun x hx=>hmost x hx⟩
                · rintro (z | ⟨z1,z2⟩)
                  · exact .inl (.inl z)
                  · rcases List.mem_append.mp z1 with z1 | z1
                    · exact .inl (.inr ⟨z1,z2⟩)
                    · have z1:k.1 = wy:=by simpa using z1
                      refine .inr (Prod.ext z1 ?_)
                      rw [z2.1,head_at hc0,z1]
            · have hmost:¬ ∀ z∈ps,Sa83.dot wy z≤Sa83.dot wy c0:=fun q=>c2 (hall.mpr q)
              refine ⟨_,_,_,rfl,sd8',sH8.trans (s9.trans sA),sd10.iff fun k=>?_⟩
              rw [take_two hwy]
              constructor
              · rintro (z | z)
                · exact .inl z
                · exact .inr ⟨List.mem_append.mpr (.inl z.1),z.2⟩
              · rintro (z | ⟨z1,z2⟩)
                · exact .inl z
                · rcases List.mem_append.mp z1 with z1 | z1
                  · exact .inr ⟨z1,z2⟩
                  · have z1:k.1 = wy:=by simpa using z1
                    exfalso
                    refine hmost fun x hx=>?_
                    have:=z2.2 x hx
                    rw [z2.1,head_at hc0,z1] at this
                    exact this
        · rintro σ H8 ⟨o5,o6,o8,rfl,s8,sH8,sd8⟩
          refine ⟨_,_,_,_,_,_,rfl,sOff.trans s8,sH8,sd8.iff fun k=>?_⟩
          rw [take_snoc hc,done_snoc,found_iff csub clen g0]
          have:(ways d c).take ([V.int 1,V.int (-1)]:List V).length = ways d c:=rfl
          rw [this]
      · have g0:¬ Sa83.gcdOf (Sx38.normal d c)≠0:=fun q=>c1 ((any_gcd _).mpr q)
        refine ⟨_,_,_,_,_,_,rfl,s3.trans s4,sH.trans s4,sd4.iff fun k=>?_⟩
        rw [take_snoc hc,done_snoc]
        exact ⟨.inl,fun h=>h.elim id fun F=>absurd F.some_ g0⟩
    · rintro σ H' ⟨o2,o3,o4,o5,o6,o8,rfl,s3,sH,sd⟩
      have lc:=paired_len pc
      rw [lc,List.take_length] at sd
      obtain ⟨xs,x1,x2,x3,x4⟩:=sd
      have hcs:∀ k,k∈xs.map (·.1)→∃ c,Found d ps c k.1 k.2:=fun k hk=>let ⟨c,_,F⟩:=(x4 k).mp hk;⟨c,F⟩
      have lt:=few (cs:=[]) (c:=[]) (ws:=[]) x3 hcs
      refine ⟨_,rfl,t0,xs,rfl,x1,x2,by omega,fun ys p perm pw hp=>?_⟩
      have s4:=same_upd (o:=.lst (ys.map fun y=>V.ref y.2)) hp
      have mem:∀ k,k∈ys.map (·.1)↔k∈xs.map (·.1):=fun k=>by
        have e:=(perm.map (·.1)).mem_iff (a:=k)
        rw [List.map_map] at e
        exact e
      refine k _ _ (ys.map (·.1)) (sH.trans s4) ⟨p,_,rfl,upd_same,paired_kats ys fun y hy=>?_⟩ (fun u e=>?_) ?_ ?_ ?_
      · have:=perm.subset hy
        obtain ⟨z,hz,rfl⟩:=List.mem_map.mp this
        exact (x2 z hz).same s4
      · rw [mem,x4]
        constructor
        · rintro ⟨c,_,F⟩;exact found_side h1 h4 hl F
        · intro S
          obtain ⟨c,F⟩:=side_found h1 h4 hl S
          exact ⟨c,mem_chs.mpr ⟨F.sub,F.len⟩,F⟩
      · unfold SortedL;rw [List.pairwise_map];exact pw
      · rw [List.length_map,perm.length_eq,List.length_map];exact lt
      · intro s hs
        obtain ⟨c,F⟩:=hcs s ((mem s).mp hs)
        exact found_bd F h1 h4 hl hb
end
abbrev sRm:Stmt:=top 7
abbrev sPts:Stmt:=top 6
theorem dec_V {i j:Int}:decide (V.int i = V.int j) = decide (i = j):=by
  rw [Bool.eq_iff_iff];simp
def spRm:Sp:=fun vs H Q _=>∃ (v:V) (ps:List Vec) (d:Nat),vs = [v]∧Lst (Row true) H v ps∧ps.length≤12∧(∀ x∈ps,x.length = d)∧1≤d∧d≤4∧(∀ x∈ps,Bd 4 x)∧∀ H',Same H H'→Q (.int ((rankOf (ps.map fun x=>x ++ [1]):Nat):Int)) H'
def spPts (K:PySem.W.Frag):Sp:=fun vs H Q _=>∃ (a:Addr) (b:List Int),vs = [.ref a]∧SqL K H a (b.map V.int)∧Sx38Neutral.told b = true ∧
  (okB b→∀ v H',Same H H'→Lst (Row true) H' v (pts b)→Q v H')∧(¬ okB b→∀ v H',Same H H'→Lst (Row true) H' v []→Q v H')
structure Nums (mg:Str→Option Value):Prop where
  axes:∃ t,mg "MOST_AXES" = some (.int 4 t)
  points:∃ t,mg "MOST_POINTS" = some (.int 12 t)
  far:∃ t,mg "FARTHEST" = some (.int 4 t)
  none:∃ t,mg "NO_BODY" = some (.int (-2) t)
section
variable {P:Program} {w:World} {K:PySem.W.Frag} {mg:Str→Option Value} {base:Heap}
theorem pe_num {X:Cx} {x:Str} {i:Int} {t:Tok} {pos:Pos} (hg:Gl X x) (hm:X.mg x = some (.int i t)) (hd:(x == ("__debug__":Str)) = false:=by decide):PE X (.Name x pos) (tC (.int i)):=pe_glob hg hm ⟨t,rfl⟩ hd
theorem catA_K {X:Cx} {K:PySem.W.Frag} (hK:X.K = K):OpR X (binaryOp .Add) (rCatA K):=by subst hK;exact op_catA
theorem sl_lK {X:Cx} {K:PySem.W.Frag} (hK:X.K = K):SlR X (rSlL K):=by subst hK;exact sl_list
theorem tup_K {X:Cx} {K:PySem.W.Frag} (hK:X.K = K):CallR X (.type "tuple") (fun xs H Q=>∃ p ys,xs = [.ref p]∧((SqL K H p ys∧∀ l,H l = none→Q (.ref l) (upd H l (.tup ys)))∨(SqT K H p ys∧Q (.ref p) H))):=by subst hK;exact call_tuple_of
theorem scRm:FnScope ["points","point"] ["points"] (defScope sRm):=⟨rfl,rfl,rfl,by decide +kernel,rfl,by decide +kernel,by decide +kernel⟩
theorem ok_rm {f:Addr} {fd:FuncData} (F:Fun K "room_of" "room_of" sRm f fd) (T:Tx mg) (Z:Ds K mg):FnOk P w K mg base CX0 3 f fd ["points"] spRm:=by
  have GK:FnOk P w K mg base CX0 2 Z.fK Z.dK ["rows"] spRank:=ok_rank Z.cK.fn T Z.cR Z.cC
  refine F.ok scRm (fun vs H Q E h=>?_) (fun cdv A outer s H vs Q E hr h=>?_)
  · obtain ⟨v,ps,d,rfl,_⟩:=h
    rfl
  · obtain ⟨v,ps,d,rfl,⟨a,us,rfl,ha,pr⟩,h12,hl,h1,h4,hb,k⟩:=h
    refine ⟨_,pss_one (ps_ret (pe_call GK hr rfl Z.cK.at_ Z.cK.fn.kp Z.cK.bi .nil pass0 (pa_cons (pe_lc rfl scRm.nd (pi_list (pv 0)) (blkOk_by (own:=[("point",1)]) (by kernel_rfl)) (fun s H C cl fp=>pg_name (i:=1) scRm.nd rfl (Or.inl rfl) (Or.inr rfl)) (fun s H C cl fp=>pts_nil)
        (fun s H C cl fp=>pe_op (catA_K (K:=K) rfl) (pv 1) (pe_tup (pa_cons pe_int pa_nil)))) pa_nil))),?_⟩
    refine ⟨_,rfl,a,rfl,⟨_,SqL.of ha⟩,fun D hD=>lc_listM (zs:=ps) (R:=Row true) row_st (fun _=>true) (fun x=>x ++ [1]) hD (SqL.of ha) (paired_len pr) (small_ok (by omega)) (fun i x z H2 ex ez s1 hDs Nx Fx n1 n2=>?_) (fun H2 ys s1 e1 e2=>?_)⟩
    · refine ⟨rfl,?_⟩
      obtain ⟨z',hz',rx⟩:=paired_at pr ex
      have:z' = z:=Option.some.inj (hz'.symm.trans ez)
      subst this
      have mz:z'∈ps:=List.mem_of_getElem? ez
      have zl:=hl z' mz
      obtain ⟨q,rfl,hq⟩:=row_st _ _ _ _ s1 rx
      refine ⟨_,rfl,by show 1≤sizeLine;decide,fun tb htb=>?_⟩
      have s2:=same_upd (o:=.tup [V.int 1]) htb
      refine ⟨q,tb,_,_,rfl,rfl,SqT.of (s2 _ _ hq),SqT.of upd_same,small_ok (by simp;omega),fun e=>?_,fun _ e=>?_,fun _ _ p hp=>?_⟩
      · have:z'.length = 0:=by simpa using e
        omega
      · cases e
      · have s3:=same_upd (o:=.tup (z'.map V.int ++ [V.int 1])) hp
        obtain ⟨acc,hacc⟩:=hDs
        refine n1 _ _ rfl (s2.trans s3) ⟨p,rfl,off_at (fun z=>?_) ?_⟩
        · rw [z,s2 _ _ hacc] at hp;cases hp
        · rw [upd_same]
          show _ = some (HO.tup ((z' ++ [1]).map V.int))
          rw [List.map_append];rfl
    · rw [List.filter_eq_self.mpr (fun _ _=>rfl)] at e2
      refine ⟨true,_,ps.map (fun x=>x ++ [1]),d + 1,rfl,⟨D,ys,rfl,e1,e2⟩,fun r hr=>?_,by omega,by rw [List.length_map];omega,fun r hr=>?_,fun H3 s3=>?_⟩
      · obtain ⟨x,hx,rfl⟩:=List.mem_map.mp hr
        simp [hl x hx]
      · obtain ⟨x,hx,rfl⟩:=List.mem_map.mp hr
        intro z hz
        rcases List.mem_append.mp hz with hz | hz
        · exact Nat.le_trans (hb x hx z hz) (by decide)
        · have:z = 1:=by simpa using hz
          subst this;decide
      · exact k H3 (s1.trans s3)
theorem told_shape {b:List Int} (ht:Sx38Neutral.told b = true):∃ d n z,b = d :: n :: z∧0≤d∧0≤n∧n≤1000000∧(z.length:Int) = if 1≤d∧d≤4∧1≤n∧n≤12 then d * n else 0:=by
  unfold Sx38Neutral.told at ht
  split at ht
  · rename_i d n z
    simp only [Bool.and_eq_true,NeutralIO.within,decide_eq_true_eq] at ht
    exact ⟨d,n,z,rfl,ht.1.1.1,ht.1.2.1,ht.1.2.2,ht.2.2⟩
  · cases ht
theorem scPts:FnScope ["body","d","n","numbers","points","k"] ["body"] (defScope sPts):=⟨rfl,rfl,rfl,by decide +kernel,rfl,by decide +kernel,by decide +kernel⟩
theorem shape_of {d n:Int} {z:List Int} (h1:1≤d) (h2:d≤4) (h3:1≤n) (h4:n≤12) (hz:(z.length:Int) = d * n):Shape (d :: n :: z) where
  d1:=by show 1≤d.toNat;omega
  d4:=by show d.toNat≤4;omega
  n1:=by show 1≤n.toNat;omega
  n12:=by show n.toNat≤12;omega
  len:=by
    show z.length = d.toNat * n.toNat
    have:((d.toNat * n.toNat:Nat):Int) = d * n:=by rw [Int.natCast_mul,Int.toNat_of_nonneg (by omega),Int.toNat_of_nonneg (by omega)]
    omega
theorem ok_pts {f fr:Addr} {fd fdr:FuncData} (F:Fun K "points_of" "points_of" sPts f fd) (T:Tx mg) (U:Nums mg) (Z:Ds K mg) (cr:Cal K mg "room_of" sRm ["points"] fr fdr):FnOk P w K mg base CX0 4 f fd ["body"] (spPts K):=by
  have GR:FnOk P w K mg base CX0 3 fr fdr ["points"] spRm:=ok_rm cr.fn T Z
  refine F.ok scPts (fun vs H Q E h=>?_) (fun cdv A outer s H vs Q E hr h=>?_)
  · obtain ⟨a,b,rfl,_⟩:=h
    rfl
  · obtain ⟨a,b,rfl,ha,ht,kg,kb⟩:=h
    obtain ⟨t1,g1⟩:=U.axes
    obtain ⟨t2,g2⟩:=U.points
    obtain ⟨t3,g3⟩:=U.far
    obtain ⟨d,n,z,rfl,hd0,hn0,hn1,hz⟩:=told_shape ht
    refine ⟨_,pss_cons (ps_set (i:=1) scPts.nd rfl (Or.inr rfl) (pe_ix ix_list (pv 0) pe_int (fun _ _=>rfl)))
      (pss_cons (ps_set (i:=2) scPts.nd rfl (Or.inl rfl) (pe_ix ix_list (pv 0) pe_int (fun _ _=>rfl)))
      (pss_cons (ps_if (PW.pt (pw_or (pt_cmpR op_lt (pv 1) pe_int (nomark _)) (pw_or (pt_cmpR op_gt (pv 1) (pe_num rfl g1) (nomark _)) (pw_or (pt_cmpR op_lt (pv 2) pe_int (nomark _)) (pw_or1 (pt_cmpR op_gt (pv 2) (pe_num rfl g2) (nomark _))))))) (pss_one (ps_ret (pe_lst pa_nil))) pss_nil)
      (pss_cons (ps_set (i:=3) scPts.nd rfl (Or.inr rfl) (pe_slice sl_list (pv 0) (po_some pe_int) po_none))
      (pss_cons (ps_if (PW.pt (pw_or (pt_cmpR op_lt (pe_callB (cr_min rfl) rfl T.min boot_min (pa_cons (pv 3) pa_nil)) (pe_un un_neg (pe_num rfl g3)) (nomark _)) (pw_or1 (pt_cmpR op_gt (pe_callB (cr_max rfl) rfl T.max boot_max (pa_cons (pv 3) pa_nil)) (pe_num rfl g3) (nomark _))))) (pss_one (ps_ret (pe_lst pa_nil))) pss_nil)
      (pss_cons (ps_setLc (i:=4) rfl scPts.nd rfl rfl (sw_true rfl rfl rfl (by kernel_rfl)) (pi_range1 rfl T.range (pa_cons (pv 2) pa_nil)) (blkOk_by (own:=[("k",5)]) (by kernel_rfl))
        (fun s H C cl fp=>pg_name (i:=5) scPts.nd rfl (Or.inl rfl) (Or.inr rfl)) (fun s H C cl fp=>pts_nil)
        (fun s H C cl fp=>pe_callTy (tup_K (K:=K) rfl) rfl T.tuple boot_tuple (pa_cons (pe_slice (sl_lK (K:=K) rfl) (pv 3) (po_some (pe_op op_mulB (pv 1) (pv 5))) (po_some (pe_op op_add (pe_op op_mulB (pv 1) (pv 5)) (pv 1)))) pa_nil)))
      (pss_cons (ps_if (pt_cmpR op_le (pe_call GR hr rfl cr.at_ cr.fn.kp cr.bi .nil pass0 (pa_cons (pv 4) pa_nil)) (pv 1) (nomark _)) (pss_one (ps_ret (pe_lst pa_nil))) pss_nil)
      (pss_one (ps_ret (pv 4)))))))))  ,?_⟩
    have bad:∀ {H':Hp},Same H H'→¬ okB (d :: n :: z)→∀ p,H' p = none→Q (.ref p) (upd H' p (.lst [])):=fun {H'} s1 nb p hp=>kb nb _ _ (s1.trans (same_upd hp)) ⟨p,[],rfl,upd_same,.nil⟩
    refine ⟨_,rfl,a,_,_,_,rfl,rfl,ha,at_of (j:=0) (v:=V.int d) rfl rfl,?_⟩
    refine ⟨_,rfl,a,_,_,_,rfl,rfl,ha,at_of (j:=1) (v:=V.int n) rfl rfl,?_⟩
    refine ⟨_,rfl,_,_,rfl,rfl,_,rfl,ite2 (fun c1=>?_) (fun c1=>?_)⟩
    · refine ⟨Nat.zero_le _,bad (Same.refl _) fun o=>?_⟩
      have:d < 1:=by simpa using c1
      have:=o.1.d1
      have:1≤d.toNat:=this
      omega
    have hd1:¬ d < 1:=by simpa using c1
    refine ⟨_,rfl,_,_,rfl,rfl,_,rfl,ite2 (fun c2=>?_) (fun c2=>?_)⟩
    · refine ⟨Nat.zero_le _,bad (Same.refl _) fun o=>?_⟩
      have:4 < d:=by simpa using c2
      have:=o.1.d4
      have:d.toNat≤4:=this
      omega
    have hd4:¬ 4 < d:=by simpa using c2
    refine ⟨_,rfl,_,_,rfl,rfl,_,rfl,ite2 (fun c3=>?_) (fun c3=>?_)⟩
    · refine ⟨Nat.zero_le _,bad (Same.refl _) fun o=>?_⟩
      have:n < 1:=by simpa using c3
      have:=o.1.n1
      have:1≤n.toNat:=this
      omega
    have hn1':¬ n < 1:=by simpa using c3
    refine ⟨_,rfl,_,_,rfl,rfl,_,rfl,ite2 (fun c4=>?_) (fun c4=>?_)⟩
    · refine ⟨Nat.zero_le _,bad (Same.refl _) fun o=>?_⟩
      have:12 < n:=by simpa using c4
      have:=o.1.n12
      have:n.toNat≤12:=this
      omega
    have hn12:¬ 12 < n:=by simpa using c4
    rw [if_pos (by omega)] at hz
    have sh:Shape (d :: n :: z):=shape_of (by omega) (by omega) (by omega) (by omega) hz
    have zlen:z.length = d.toNat * n.toNat:=sh.len
    have zpos:0 < z.length:=by rw [zlen];exact Nat.mul_pos (by omega) (by omega)
    have zle:z.length≤48:=by rw [zlen];exact Nat.mul_le_mul (show d.toNat≤4 by omega) (show n.toNat≤12 by omega)
    refine ⟨_,rfl,_,rfl,a,_,rfl,ha,fun nb hnb=>?_⟩
    have ecut:cutV ((d :: n :: z).map V.int) (some (2:Int)) none = z.map V.int:=cut_drop ((d :: n :: z).map V.int) 2 (by simp)
    have s2:=same_upd (o:=.lst (cutV ((d :: n :: z).map V.int) (some (2:Int)) none)) hnb
    have hb2:upd H nb (.lst (cutV ((d :: n :: z).map V.int) (some (2:Int)) none)) nb = some (.lst (z.map V.int)):=by rw [upd_same,ecut]
    generalize upd H nb (.lst (cutV ((d :: n :: z).map V.int) (some (2:Int)) none)) = H2 at s2 hb2
    refine ⟨_,rfl,nb,z,rfl,SqL.of hb2,zpos,fun m1 mm1 ml1=>?_⟩
    refine ⟨_,rfl,_,_,rfl,rfl,_,rfl,ite2 (fun c5=>?_) (fun c5=>?_)⟩
    · refine ⟨Nat.zero_le _,bad s2 fun o=>?_⟩
      have h5:m1 < -4:=by simpa using c5
      have:=(o.2.1 m1 mm1).1
      omega
    have h5:¬ m1 < -4:=by simpa using c5
    refine ⟨_,rfl,nb,z,rfl,SqL.of hb2,zpos,fun m2 mm2 ml2=>?_⟩
    refine ⟨_,_,rfl,rfl,_,rfl,ite2 (fun c6=>?_) (fun c6=>?_)⟩
    · refine ⟨Nat.zero_le _,bad s2 fun o=>?_⟩
      have h6:4 < m2:=by simpa using c6
      have:=(o.2.1 m2 mm2).2
      omega
    have h6:¬ 4 < m2:=by simpa using c6
    have zb:∀ x∈z,-4≤x∧x≤4:=fun x hx=>⟨by have:=ml1 x hx;omega,by have:=ml2 x hx;omega⟩
    refine ⟨_,rfl,n,rfl,by omega,by omega,fun D hD=>lc_rangeM (n:=n.toNat) (R:=Row true) row_st (fun k=>(z.drop (d.toNat * k)).take d.toNat) hD (small_ok (by omega)) (fun i H3 hi s3 hDs Nx Fx n1 n2=>?_) (fun H3 ys s3 e1 e2=>?_)⟩
    · refine ⟨rfl,?_⟩
      have bd1:d.natAbs≤2 ^ 30:=by omega
      have bd2:(0 + (i:Int)).natAbs≤2 ^ 30:=by omega
      refine ⟨_,rfl,_,rfl,_,rfl,_,_,rfl,rfl,⟨big_small bd1,big_small bd2⟩,_,rfl,_,rfl,_,rfl,_,_,rfl,rfl,⟨big_small bd1,big_small bd2⟩,_,rfl,_,_,rfl,rfl,_,rfl,nb,_,rfl,SqL.of (s3 _ _ hb2),fun q hq=>?_⟩
      have ed:d = ((d.toNat:Nat):Int):=by omega
      have em:d * (0 + (i:Int)) = ((d.toNat * i:Nat):Int):=by rw [Int.natCast_mul,← ed];simp
      have le:d.toNat * i + d.toNat≤z.length:=by
        rw [zlen,← Nat.mul_succ];exact Nat.mul_le_mul_left _ hi
      have ec:cutV (z.map V.int) (some (d * (0 + (i:Int)))) (some (d * (0 + (i:Int)) + d)) = ((z.drop (d.toNat * i)).take d.toNat).map V.int:=by
        have e9:d * (0 + (i:Int)) + d = ((d.toNat * i:Nat):Int) + ((d.toNat:Nat):Int):=by rw [em];omega
        rw [e9,em,cut_mid _ _ _ (by rw [List.length_map];exact le),List.map_take,List.map_drop]
      have s4:=same_upd (o:=.lst (cutV (z.map V.int) (some (d * (0 + (i:Int)))) (some (d * (0 + (i:Int)) + d)))) hq
      refine ⟨q,_,rfl,.inl ⟨SqL.of upd_same,fun l hl2=>?_⟩⟩
      have s5:=same_upd (o:=.tup (cutV (z.map V.int) (some (d * (0 + (i:Int)))) (some (d * (0 + (i:Int)) + d)))) hl2
      obtain ⟨acc,hacc⟩:=hDs
      refine n1 _ _ rfl (s4.trans s5) ⟨l,rfl,off_at (fun z=>?_) ?_⟩
      · rw [z,s4 _ _ hacc] at hl2;cases hl2
      · rw [upd_same,ec];rfl
    · have ep:(List.range n.toNat).map (fun k=>(z.drop (d.toNat * k)).take d.toNat) = pts (d :: n :: z):=rfl
      rw [ep] at e2
      have pl:(pts (d :: n :: z)).length≤12:=by simp [pts];exact sh.n12
      have Lp:Lst (Row true) H3 (.ref D) (pts (d :: n :: z)):=⟨D,ys,rfl,e1,e2⟩
      refine ⟨_,rfl,_,pts (d :: n :: z),bD (d :: n :: z),rfl,Lp,pl,pts_len sh,sh.d1,sh.d4,fun x hx y hy=>?_,fun H4 s4=>?_⟩
      · have:=(pts_all sh (fun y=>-4≤y∧y≤4)).mpr zb x hx y hy
        omega
      · have hdd:((bD (d :: n :: z):Nat):Int) = d:=by show ((d.toNat:Nat):Int) = d;omega
        have rle:=WP.rankOf_le (m:=bD (d :: n :: z) + 1) (rows:=(pts (d :: n :: z)).map fun x=>x ++ [1]) fun r hr=>by
          obtain ⟨x,hx,rfl⟩:=List.mem_map.mp hr
          simp [pts_len sh x hx]
        refine ⟨_,rfl,_,_,rfl,rfl,_,rfl,ite2 (fun c7=>?_) (fun c7=>?_)⟩
        · refine ⟨Nat.zero_le _,bad ((s2.trans s3).trans s4) fun o=>?_⟩
          have:=o.2.2
          have c7:((rankOf ((pts (d :: n :: z)).map fun x=>x ++ [1]):Nat):Int)≤d:=by simpa using c7
          omega
        · have c7:¬ ((rankOf ((pts (d :: n :: z)).map fun x=>x ++ [1]):Nat):Int)≤d:=by simpa using c7
          have h7:rankOf ((pts (d :: n :: z)).map fun x=>x ++ [1]) = bD (d :: n :: z) + 1:=by omega
          refine ⟨_,rfl,kg ⟨sh,zb,h7⟩ _ H4 ((s2.trans s3).trans s4) (lst_st row_st _ _ _ _ s4 Lp)⟩
end
theorem pts_bd {b:List Int} (o:okB b):∀ x∈pts b,Bd 4 x:=fun x hx y hy=>by
  have:=(pts_all o.1 (fun y=>-4≤y∧y≤4)).mpr o.2.1 x hx y hy
  omega
theorem few_pts {b:List Int} (hf:Sx38Neutral.few b = true) (o:okB b):(pts b).length≤8:=by
  unfold Sx38Neutral.few at hf
  rw [Bool.and_eq_true,Bool.or_eq_true] at hf
  have hg:=(good_iff hf.1).mpr o
  rcases hf.2 with h | h
  · have h:b.getD 1 0≤8:=by simpa using h
    have e:(pts b).length = (b.getD 1 0).toNat:=by simp [pts,bN]
    omega
  · rw [hg] at h;cases h
theorem boot_list:bootBuiltins "list" = some (.type "list"):=by decide +kernel
abbrev sFil:Stmt:=top 9
def fill (ns:Vec) (n:Int):Vec:=ns ++ List.replicate (n - (ns.length:Int)).toNat 0
def spFil:Sp:=fun vs H Q _=>∃ (t:Bool) (v:V) (ns:Vec) (n:Int),vs = [v,.int n]∧Row t H v ns∧ns.length≤100∧0≤n∧n≤100∧∀ p H',Same H H'→H' p = some (.lst ((fill ns n).map V.int))→Q (.ref p) H'
section
variable {P:Program} {w:World} {K:PySem.W.Frag} {mg:Str→Option Value} {base:Heap}
theorem scFil:FnScope ["numbers","size"] ["numbers","size"] (defScope sFil):=⟨rfl,rfl,rfl,by decide +kernel,rfl,by decide +kernel,by decide +kernel⟩
theorem ok_fil {f:Addr} {fd:FuncData} (F:Fun K "filled" "filled" sFil f fd) (T:Tx mg):FnOk P w K mg base CX0 1 f fd ["numbers","size"] spFil:=by
  refine F.ok scFil (fun vs H Q E h=>?_) (fun cdv A outer s H vs Q E hr h=>?_)
  · obtain ⟨t,v,ns,n,rfl,_⟩:=h
    rfl
  · obtain ⟨t,v,a,n,rfl,⟨b,rfl,kb⟩,h4,n0,n1,k⟩:=h
    refine ⟨_,pss_one (ps_ret (pe_op op_cat (pe_callTy call_list_of rfl T.list boot_list (pa_cons (pv 0) pa_nil)) (pe_op op_rep (pe_lst (pa_cons pe_int pa_nil)) (pe_op op_sub (pv 1) (pe_callB call_len_seq rfl T.len PySem.boot_len (pa_cons (pv 0) pa_nil)))))),?_⟩
    have al:(a.map V.int).length = a.length:=List.length_map ..
    refine ⟨_,rfl,b,_,rfl,row_sq kb,fun l hl=>?_⟩
    have s1:=same_upd (o:=.lst (a.map V.int)) hl
    have e1:upd H l (.lst (a.map V.int)) l = some (.lst (a.map V.int)):=upd_same
    generalize upd H l (.lst (a.map V.int)) = H1 at s1 e1
    refine ⟨by show 1≤sizeLine;decide,fun z0 hz0=>?_⟩
    have s2:=same_upd (o:=.lst [V.int 0]) hz0
    have e2:upd H1 z0 (.lst [V.int 0]) z0 = some (.lst [V.int 0]):=upd_same
    generalize upd H1 z0 (.lst [V.int 0]) = H2 at s2 e2
    refine ⟨_,rfl,_,rfl,b,_,rfl,row_sq (row_mono (s1.trans s2) kb),_,_,rfl,rfl,z0,_,_,rfl,rfl,e2,by rw [al];omega,by rw [al];omega,small_ok (by rw [al];simp;omega),fun r hr=>?_⟩
    have s3:=same_upd (o:=.lst (List.replicate (n - ((a.map V.int).length:Nat)).toNat [V.int 0]).flatten) hr
    have e3:upd H2 r (.lst (List.replicate (n - ((a.map V.int).length:Nat)).toNat [V.int 0]).flatten) r = some (.lst ((List.replicate (n - (a.length:Int)).toNat (0:Int)).map V.int)):=by
      rw [upd_same,al]
      congr 2
      rw [List.map_replicate,List.flatten_replicate_singleton]
    generalize upd H2 r (.lst (List.replicate (n - ((a.map V.int).length:Nat)).toNat [V.int 0]).flatten) = H3 at s3 e3
    refine ⟨l,r,_,_,rfl,rfl,(s2.trans s3) _ _ e1,e3,small_ok (by simp;omega),fun c hc=>?_⟩
    refine k c _ (((s1.trans s2).trans s3).trans (same_upd hc)) ?_
    rw [upd_same,← List.map_append]
    rfl
theorem fill_four {x:Vec} (h:x.length≤4):fill x 4 = Sa83.four x:=by
  unfold fill Sa83.four
  rw [List.take_append,List.take_of_length_le h,List.take_replicate]
  congr 2;omega
end
abbrev sCor:Stmt:=top 10
def spCor:Sp:=fun vs H Q _=>∃ (u v:V) (x:Vec) (S:List (Vec × Int)) (d:Nat),vs = [u,v]∧Row true H u x∧Lst SideR H v S∧x.length = d∧(∀ s∈S,s.1.length = d)∧(∀ s∈S,Bd (2 ^ 20) s.1)∧Bd 4 x∧d≤4∧S.length≤56 ∧
  ∀ H',Same H H'→Q (.bl (decide (rankOf (meets S x) = d))) H'
section
variable {P:Program} {w:World} {K:PySem.W.Frag} {mg:Str→Option Value} {base:Heap}
theorem scCor:FnScope ["point","sides","meeting","side"] ["point","sides"] (defScope sCor):=⟨rfl,rfl,rfl,by decide +kernel,rfl,by decide +kernel,by decide +kernel⟩
theorem ok_cor {f:Addr} {fd:FuncData} (F:Fun K "is_corner" "is_corner" sCor f fd) (T:Tx mg) (Z:Ds K mg):FnOk P w K mg base CX0 3 f fd ["point","sides"] spCor:=by
  have GK:FnOk P w K mg base CX0 2 Z.fK Z.dK ["rows"] spRank:=ok_rank Z.cK.fn T Z.cR Z.cC
  have GV:FnOk P w K mg base CX0 1 Z.fV Z.dV ["normal","point"] spVal:=ok_val Z.cV.fn T
  refine F.ok scCor (fun vs H Q E h=>?_) (fun cdv A outer s H vs Q E hr h=>?_)
  · obtain ⟨u,v,x,S,d,rfl,_⟩:=h
    rfl
  · obtain ⟨u,v,x,S,d,rfl,rx,⟨a,us,rfl,ha,pr⟩,xl,hl,hb,xb,h4,h56,k⟩:=h
    have hr1:Room 1 _:=hr.mono (by decide)
    refine ⟨_,pss_cons (ps_setLc (i:=2) rfl scCor.nd rfl rfl (sw_true rfl rfl rfl (by kernel_rfl)) (pi_list (pv 1)) (blkOk_by (own:=[("side",3)]) (by kernel_rfl))
        (fun s H C cl fp=>pg_name (i:=3) scCor.nd rfl (Or.inl rfl) (Or.inr rfl))
        (fun s H C cl fp=>pts_one (pt_cmpR op_eq (pe_call GV hr1 rfl Z.cV.at_ Z.cV.fn.kp Z.cV.bi .nil pass0 (pa_cons (pe_ix (ix_tK (K:=K) rfl) (pv 3) pe_int (fun _ _=>rfl)) (pa_cons (pv 0) pa_nil))) (pe_ix (ix_tK (K:=K) rfl) (pv 3) pe_int (fun _ _=>rfl)) (nomark _)))
        (fun s H C cl fp=>pe_ix (ix_tK (K:=K) rfl) (pv 3) pe_int (fun _ _=>rfl)))
      (pss_one (ps_ret (pe_cmpR op_eq (pe_call GK hr rfl Z.cK.at_ Z.cK.fn.kp Z.cK.bi .nil pass0 (pa_cons (pv 2) pa_nil)) (pe_callB call_len_seq rfl T.len PySem.boot_len (pa_cons (pv 0) pa_nil)) (nomark _)))),?_⟩
    refine ⟨_,rfl,a,rfl,⟨_,SqL.of ha⟩,fun D hD=>lc_listM (zs:=S) (R:=Row true) row_st (fun s=>decide (Sa83.dot s.1 x = s.2)) (fun s=>s.1) hD (SqL.of ha) (paired_len pr) (small_ok (by omega)) (fun i y z H2 ey ez s1 hDs Nx Fx n1 n2=>?_) (fun H2 ys s1 e1 e2=>?_)⟩
    · refine ⟨rfl,?_⟩
      obtain ⟨z',hz',ry⟩:=paired_at pr ey
      have:z' = z:=Option.some.inj (hz'.symm.trans ez)
      subst this
      have mz:z'∈S:=List.mem_of_getElem? ez
      obtain ⟨p,rfl,⟨b,kp,kb⟩⟩:=side_st _ _ _ _ s1 ry
      have rx2:=row_st _ _ _ _ s1 rx
      refine ⟨_,rfl,p,_,_,_,rfl,rfl,SqT.of kp,at_of (j:=0) (v:=V.ref b) rfl rfl,_,rfl,_,_,z'.1,x,rfl,⟨b,rfl,kb⟩,rx2,by rw [hl z' mz,xl],by rw [hl z' mz];omega,bd_mono (hb z' mz) (by decide),bd_mono xb (by decide),fun H3 s3=>?_⟩
      refine ⟨_,rfl,p,_,_,_,rfl,rfl,SqT.of (s3 _ _ kp),at_of (j:=1) (v:=V.int z'.2) rfl rfl,rfl,_,rfl,ite2 (fun c1=>?_) (fun c1=>?_)⟩
      · have c1:Sa83.dot z'.1 x = z'.2:=by simpa using c1
        obtain ⟨acc,hacc⟩:=hDs
        refine ⟨_,rfl,p,_,_,_,rfl,rfl,SqT.of (s3 _ _ kp),at_of (j:=0) (v:=V.ref b) rfl rfl,n1 _ _ (by simpa using c1) s3 ⟨b,rfl,off_at (fun z=>?_) (s3 _ _ kb)⟩⟩
        rw [z,hacc] at kb;cases kb
      · have c1:¬ Sa83.dot z'.1 x = z'.2:=by simpa using c1
        exact n2 _ (by simpa using c1) s3
    · have em:((S.filter fun s=>decide (Sa83.dot s.1 x = s.2)).map fun s=>s.1) = meets S x:=rfl
      rw [em] at e2
      have ml:∀ r∈meets S x,∃ s∈S,r = s.1:=fun r hr=>by
        obtain ⟨s,hs,rfl⟩:=List.mem_map.mp hr
        exact ⟨s,(List.mem_filter.mp hs).1,rfl⟩
      refine ⟨_,rfl,true,_,meets S x,d,rfl,⟨D,ys,rfl,e1,e2⟩,fun r hr=>?_,by omega,?_,fun r hr=>?_,fun H3 s3=>?_⟩
      · obtain ⟨s,hs,rfl⟩:=ml r hr
        exact hl s hs
      · have:=List.length_filter_le (fun s=>decide (Sa83.dot s.1 x = s.2)) S
        unfold meets
        rw [List.length_map];omega
      · obtain ⟨s,hs,rfl⟩:=ml r hr
        exact bd_mono (hb s hs) (by decide)
      · obtain ⟨q,rfl,hq⟩:=row_st _ _ _ _ (s1.trans s3) rx
        refine ⟨_,rfl,q,_,rfl,.inr (SqT.of hq),rfl,?_⟩
        have:=k H3 (s1.trans s3)
        have e5:decide (V.int ((rankOf (meets S x):Nat):Int) = V.int (((x.map V.int).length:Nat):Int)) = decide (rankOf (meets S x) = d):=by
          rw [dec_V,List.length_map,xl,Bool.eq_iff_iff]
          simp only [decide_eq_true_eq]
          omega
        rw [e5]
        exact this
end
abbrev sTim:Stmt:=top 27
abbrev sMov:Stmt:=top 26
abbrev sBas:Stmt:=top 13
abbrev sArr:Stmt:=top 14
def spValG:Sp:=fun vs H Q _=>∃ (t:Bool) (v u:V) (a x:Vec),vs = [v,u]∧Row t H v a∧Row t H u x∧a.length = x.length∧a.length≤5∧Bd (2 ^ 30) a∧Bd (2 ^ 30) x∧∀ H',Same H H'→Q (.int (Sa83.dot a x)) H'
def spTim:Sp:=fun vs H Q _=>∃ (t:Bool) (v u:V) (rs:List Vec) (x:Vec),vs = [v,u]∧Lst (Row t) H v rs∧Row t H u x∧(∀ r∈rs,r.length = x.length)∧x.length≤5∧rs.length≤5∧(∀ r∈rs,Bd (2 ^ 30) r)∧Bd (2 ^ 30) x∧GivesRow H Q (Sa83.by_ rs x)
def spMov:Sp:=fun vs H Q _=>∃ (v u:V) (a x:Vec),vs = [v,u]∧Row true H v a∧Row true H u x∧a.length = x.length∧a.length≤5∧GivesRow H Q (Sa83.plus a x)
def spBas:Sp:=fun vs H Q _=>∃ (v:V) (C:List Vec) (d:Nat),vs = [v]∧Lst (Row true) H v C∧C.length≤8∧(∀ x∈C,x.length = d)∧1≤d∧d≤4∧(∀ x∈C,Bd 4 x)∧∀ w H',Same H H'→Lst (Row true) H' w (baseP [] C)→Q w H'
def spArr:Sp:=fun vs H Q _=>∃ (v:V) (G:List Vec) (n:Nat),vs = [v,.int (n:Int)]∧Lst (Row true) H v G∧G.length≤8∧n≤4∧∀ w H',Same H H'→Lst (Lst (Row true)) H' w (Sx38.tuples G n)→Q w H'
section
variable {P:Program} {w:World} {K:PySem.W.Frag} {mg:Str→Option Value} {base:Heap}
theorem ok_valG {f:Addr} {fd:FuncData} (F:Fun K "value_at" "value_at" sVal f fd) (T:Tx mg):FnOk P w K mg base CX0 1 f fd ["normal","point"] spValG:=by
  refine F.ok scVal (fun vs H Q E h=>?_) (fun cdv A outer s H vs Q E hr h=>?_)
  · obtain ⟨t,v,u,a,x,rfl,_⟩:=h
    rfl
  · obtain ⟨t,v,u,a,x,rfl,⟨p,rfl,hp⟩,⟨q,rfl,hq⟩,hl,h5,ba,bx,k⟩:=h
    refine ⟨_,pss_one (ps_ret (pe_callB (cr_sum rfl) rfl T.sum boot_sum (pa_cons (pe_lc rfl scVal.nd (PI.or (pi_zipT rfl T.zip (pa_cons (pv 0) (pa_cons (pv 1) pa_nil))) (pi_zip rfl T.zip (pa_cons (pv 0) (pa_cons (pv 1) pa_nil)))) (blkOk_by (own:=[("a",2),("x",3)]) (by kernel_rfl))
      (fun s H C cl fp=>pg_pair (i:=2) (j:=3) (K:=K) rfl rfl scVal.nd rfl rfl rfl rfl) (fun s H C cl fp=>pts_nil) (fun s H C cl fp=>pe_op op_mulB (pv 2) (pv 3))) pa_nil))),?_⟩
    have done:∀ (D:Addr) (H2:Hp) (ys:List V),Same H H2→H2 D = some (.lst ys)→Paired (IntR H2) ys (List.zipWith (fun x y=>x * y) a x)→Q (.int (Sa83.dot a x)) H2:=fun D H2 ys s1 _ _=>k H2 s1
    cases t with
    | true =>
      refine .inl ⟨_,rfl,_,rfl,p,q,_,_,rfl,SqT.of hp,SqT.of hq,fun D hD=>lc_zipM int_st (fun x y=>x * y) hD (SqT.of hp) (SqT.of hq) hl (small_ok (by omega)) (fun i x y T0 H2 ex ey s1 hT TD Nx Fx n1 n2=>?_) (fun H2 ys s1 e1 e2=>?_)⟩
      · refine ⟨T0,_,rfl,SqT.of upd_same,rfl,_,_,rfl,_,_,rfl,rfl,rfl,?_⟩
        exact ⟨_,rfl,_,rfl,_,_,rfl,rfl,⟨big30 ba ex,big30 bx ey⟩,n1 _ _ rfl (Same.refl _) rfl⟩
      · have e3:=ints_eq e2
        subst e3
        refine ⟨D,_,rfl,SqL.of e1,?_⟩
        rw [← dot_zip]
        exact k H2 s1
    | false =>
      refine .inr ⟨_,rfl,_,rfl,p,q,_,_,rfl,SqL.of hp,SqL.of hq,fun D hD=>lc_zipL int_st (fun x y=>x * y) hD (SqL.of hp) (SqL.of hq) hl (small_ok (by omega)) (fun i x y T0 H2 ex ey s1 hT TD Nx Fx n1 n2=>?_) (fun H2 ys s1 e1 e2=>?_)⟩
      · refine ⟨T0,_,rfl,SqT.of upd_same,rfl,_,_,rfl,_,_,rfl,rfl,rfl,?_⟩
        exact ⟨_,rfl,_,rfl,_,_,rfl,rfl,⟨big30 ba ex,big30 bx ey⟩,n1 _ _ rfl (Same.refl _) rfl⟩
      · have e3:=ints_eq e2
        subst e3
        refine ⟨D,_,rfl,SqL.of e1,?_⟩
        rw [← dot_zip]
        exact k H2 s1
theorem scTim:FnScope ["rows","point","row"] ["rows","point"] (defScope sTim):=⟨rfl,rfl,rfl,by decide +kernel,rfl,by decide +kernel,by decide +kernel⟩
theorem ok_tim {f fV:Addr} {fd dV:FuncData} (F:Fun K "times" "times" sTim f fd) (T:Tx mg) (cV:Cal K mg "value_at" sVal ["normal","point"] fV dV):FnOk P w K mg base CX0 2 f fd ["rows","point"] spTim:=by
  have GV:FnOk P w K mg base CX0 1 fV dV ["normal","point"] spValG:=ok_valG cV.fn T
  refine F.ok scTim (fun vs H Q E h=>?_) (fun cdv A outer s H vs Q E hr h=>?_)
  · obtain ⟨t,v,u,rs,x,rfl,_⟩:=h
    rfl
  · obtain ⟨t,v,u,rs,x,rfl,⟨a,us,rfl,ha,pr⟩,rx,hl,h5,hr5,br,bx,k⟩:=h
    refine ⟨_,pss_one (ps_ret (pe_callTy call_tuple_of rfl T.tuple boot_tuple (pa_cons (pe_lc rfl scTim.nd (pi_list (pv 0)) (blkOk_by (own:=[("row",2)]) (by kernel_rfl)) (fun s H C cl fp=>pg_name (i:=2) scTim.nd rfl (Or.inl rfl) (Or.inr rfl)) (fun s H C cl fp=>pts_nil)
      (fun s H C cl fp=>pe_call GV hr rfl cV.at_ cV.fn.kp cV.bi .nil pass0 (pa_cons (pv 2) (pa_cons (pv 1) pa_nil)))) pa_nil))),?_⟩
    refine ⟨_,rfl,a,rfl,⟨_,SqL.of ha⟩,fun D hD=>lc_listM (zs:=rs) (R:=IntR) int_st (fun _=>true) (fun r=>Sa83.dot r x) hD (SqL.of ha) (paired_len pr) (small_ok (by omega)) (fun i y z H2 ey ez s1 hDs Nx Fx n1 n2=>?_) (fun H2 ys s1 e1 e2=>?_)⟩
    · refine ⟨rfl,?_⟩
      obtain ⟨z',hz',ry⟩:=paired_at pr ey
      have:z' = z:=Option.some.inj (hz'.symm.trans ez)
      subst this
      have mz:z'∈rs:=List.mem_of_getElem? ez
      exact ⟨_,rfl,_,rfl,t,_,_,z',x,rfl,row_st _ _ _ _ s1 ry,row_st _ _ _ _ s1 rx,hl z' mz,by rw [hl z' mz];exact h5,br z' mz,bx,fun H3 s3=>n1 _ _ rfl s3 rfl⟩
    · rw [List.filter_eq_self.mpr (fun _ _=>rfl)] at e2
      have e3:=ints_eq e2
      subst e3
      exact ⟨D,_,rfl,.inl ⟨SqL.of e1,fun l hl=>k l _ (s1.trans (same_upd hl)) upd_same⟩⟩
theorem plus_zip (a x:Vec):Sa83.plus a x = List.zipWith (fun x y=>x + y) a x:=by
  unfold Sa83.plus
  rw [List.zip,List.map_zipWith]
theorem scMov:FnScope ["point","way","x","y"] ["point","way"] (defScope sMov):=⟨rfl,rfl,rfl,by decide +kernel,rfl,by decide +kernel,by decide +kernel⟩
theorem ok_mov {f:Addr} {fd:FuncData} (F:Fun K "moved" "moved" sMov f fd) (T:Tx mg):FnOk P w K mg base CX0 1 f fd ["point","way"] spMov:=by
  refine F.ok scMov (fun vs H Q E h=>?_) (fun cdv A outer s H vs Q E hr h=>?_)
  · obtain ⟨v,u,a,x,rfl,_⟩:=h
    rfl
  · obtain ⟨v,u,a,x,rfl,⟨p,rfl,hp⟩,⟨q,rfl,hq⟩,hl,h5,k⟩:=h
    refine ⟨_,pss_one (ps_ret (pe_callTy call_tuple_of rfl T.tuple boot_tuple (pa_cons (pe_lc rfl scMov.nd (pi_zipT rfl T.zip (pa_cons (pv 0) (pa_cons (pv 1) pa_nil))) (blkOk_by (own:=[("x",2),("y",3)]) (by kernel_rfl))
      (fun s H C cl fp=>pg_pair (i:=2) (j:=3) (K:=K) rfl rfl scMov.nd rfl rfl rfl rfl) (fun s H C cl fp=>pts_nil) (fun s H C cl fp=>pe_op op_add (pv 2) (pv 3))) pa_nil))),?_⟩
    refine ⟨_,rfl,_,rfl,p,q,_,_,rfl,SqT.of hp,SqT.of hq,fun D hD=>lc_zipM int_st (fun x y=>x + y) hD (SqT.of hp) (SqT.of hq) hl (small_ok (by omega)) (fun i x y T0 H2 ex ey s1 hT TD Nx Fx n1 n2=>?_) (fun H2 ys s1 e1 e2=>?_)⟩
    · refine ⟨T0,_,rfl,SqT.of upd_same,rfl,_,_,rfl,_,_,rfl,rfl,rfl,?_⟩
      exact ⟨_,rfl,_,rfl,_,_,rfl,rfl,n1 _ _ rfl (Same.refl _) rfl⟩
    · have e3:=ints_eq e2
      rw [← plus_zip] at e3
      subst e3
      exact ⟨D,_,rfl,.inl ⟨SqL.of e1,fun l hl=>k l _ (s1.trans (same_upd hl)) upd_same⟩⟩
theorem baseP_app:∀ (l m b:List Vec),baseP b (l ++ m) = baseP (baseP b l) m
  | [],_,_=>rfl
  | _ :: l,m,b=>by
    show baseP _ (l ++ m) = _
    rw [baseP_app l m];rfl
theorem scBas:FnScope ["corners","base","corner"] ["corners"] (defScope sBas):=⟨rfl,rfl,rfl,by decide +kernel,rfl,by decide +kernel,by decide +kernel⟩
theorem ok_bas {f fr:Addr} {fd dr:FuncData} (F:Fun K "base_of" "base_of" sBas f fd) (T:Tx mg) (Z:Ds K mg) (cr:Cal K mg "room_of" sRm ["points"] fr dr):FnOk P w K mg base CX0 4 f fd ["corners"] spBas:=by
  have GR:FnOk P w K mg base CX0 3 fr dr ["points"] spRm:=ok_rm cr.fn T Z
  refine F.ok scBas (fun vs H Q E h=>?_) (fun cdv A outer s H vs Q E hr h=>?_)
  · obtain ⟨v,C,d,rfl,_⟩:=h
    rfl
  · obtain ⟨v,C,d,rfl,⟨a,us,rfl,ha,pr⟩,h8,hl,h1,h4,hb,k⟩:=h
    refine ⟨_,pss_cons (ps_set (i:=1) scBas.nd rfl (Or.inl rfl) (pe_lst pa_nil))
      (pss_cons (ps_for PassesOwn.never rfl (pi_list (pv 0)) (pg_name (i:=2) scBas.nd rfl (Or.inl rfl))
        (pss_one (ps_if (pt_cmpR op_gt (pe_call GR hr rfl cr.at_ cr.fn.kp cr.bi .nil pass0 (pa_cons (pe_op op_cat (pv 1) (pe_lst (pa_cons (pv 2) pa_nil))) pa_nil)) (pe_callB call_len_seq rfl T.len PySem.boot_len (pa_cons (pv 1) pa_nil)) (nomark _))
          (pss_one (ps_expr (pe_bm PySem.F.plainAttrs_list PySem.F.slot_list_append PySem.F.type_list_append mt_append (pv 1) (pa_cons (pv 2) pa_nil)))) pss_nil)))
      (pss_one (ps_ret (pv 1)))),?_⟩
    refine ⟨Nat.zero_le _,fun n0 hn0=>?_⟩
    dsimp only [tSeq,tAsg,gName,tC]
    have s0:=same_upd (o:=.lst []) hn0
    have sub:∀ i,∀ x∈baseP [] (C.take i),x∈C:=fun i x hx=>by
      obtain ⟨s,e,hs⟩:=baseP_sub (C.take i) []
      rw [e] at hx
      exact List.mem_of_mem_take (hs.subset (by simpa using hx))
    have bl:∀ i,(baseP [] (C.take i)).length≤8:=fun i=>by
      obtain ⟨s,e,hs⟩:=baseP_sub (C.take i) []
      rw [e]
      have:=hs.length_le
      have:=List.length_take_le i C
      simp at *;omega
    refine ⟨_,rfl,a,rfl,⟨_,SqL.of (s0 _ _ ha)⟩,for_list (K:=K) (a:=a) (xs:=us) (fun i σ H'=>∃ (o2:Option V) (bs:List V),σ = [some (.ref a),some (.ref n0),o2]∧Same H H'∧H' n0 = some (.lst bs)∧Paired (Row true (off H' n0)) bs (baseP [] (C.take i)))
      ⟨none,[],rfl,s0,upd_same,.nil⟩ (fun i σ H' _ ⟨_,_,_,s1,_⟩=>SqL.of (s1 _ _ ha)) ?_ ?_⟩
    · rintro i y σ H1 hi ⟨o2,bs,rfl,s1,e1,pb⟩
      obtain ⟨c,hc,rc⟩:=paired_at pr hi
      have mc:=List.mem_of_getElem? hc
      have lb:=paired_len pb
      have l8:=bl i
      refine ⟨_,rfl,_,rfl,by show 1≤sizeLine;decide,fun q hq=>?_⟩
      have s2:=same_upd (o:=.lst [y]) hq
      have e2:upd H1 q (.lst [y]) q = some (.lst [y]):=upd_same
      generalize upd H1 q (.lst [y]) = H2 at s2 e2
      refine ⟨n0,q,_,_,rfl,rfl,s2 _ _ e1,e2,small_ok (by simp;omega),fun r hr2=>?_⟩
      have s3:=same_upd (o:=.lst (bs ++ [y])) hr2
      have e3:upd H2 r (.lst (bs ++ [y])) r = some (.lst (bs ++ [y])):=upd_same
      generalize upd H2 r (.lst (bs ++ [y])) = H3 at s3 e3
      have s13:=s2.trans s3
      have pb3:Paired (Row true H3) bs (baseP [] (C.take i)):=paired_mono (fun _ _ r=>row_st _ _ _ _ (off_le.trans s13) r) pb
      refine ⟨_,baseP [] (C.take i) ++ [c],d,rfl,⟨r,_,rfl,e3,paired_snoc pb3 (row_st _ _ _ _ (s1.trans s13) rc)⟩,by rw [List.length_append];show _ + 1≤12;omega,fun x hx=>?_,h1,h4,fun x hx=>?_,fun H4 s4=>?_⟩
      · rcases List.mem_append.mp hx with hx | hx
        · exact hl x (sub i x hx)
        · have:x = c:=by simpa using hx
          rw [this];exact hl c mc
      · rcases List.mem_append.mp hx with hx | hx
        · exact hb x (sub i x hx)
        · have:x = c:=by simpa using hx
          rw [this];exact hb c mc
      · have s14:=s13.trans s4
        have ec:baseP [] (C.take (i + 1)) = if (baseP [] (C.take i)).length < rankOf (hatL (baseP [] (C.take i) ++ [c])) then baseP [] (C.take i) ++ [c] else baseP [] (C.take i):=by
          rw [take_snoc hc,baseP_app];rfl
        have pb4:Paired (Row true (off H4 n0)) bs (baseP [] (C.take i)):=paired_mono (fun _ _ r=>row_st _ _ _ _ (off_same s14) r) pb
        refine ⟨_,rfl,n0,_,rfl,.inl (SqL.of (s14 _ _ e1)),_,_,rfl,rfl,_,rfl,ite2 (fun c1=>?_) (fun c1=>?_)⟩
        · have c1:(baseP [] (C.take i)).length < rankOf (hatL (baseP [] (C.take i) ++ [c])):=by
            have:((bs.length:Nat):Int) < ((rankOf (hatL (baseP [] (C.take i) ++ [c])):Nat):Int):=of_decide_eq_true c1
            omega
          refine ⟨_,rfl,.inl ⟨rfl,_,SqL.of (s14 _ _ e1)⟩,_,rfl,n0,_,_,rfl,rfl,s14 _ _ e1,Nat.lt_of_le_of_lt (show bs.length≤8 by omega) (by rw [sizeLine_eq];omega),?_⟩
          refine ⟨_,_,rfl,same_write hn0 (s1.trans s14),upd_same,?_⟩
          rw [ec,if_pos c1]
          exact paired_snoc (paired_mono (fun _ _ r=>row_st _ _ _ _ off_upd r) pb4) (row_st _ _ _ _ off_upd (row_off (t:=true) (s14 _ _ e1) (row_st _ _ _ _ (s1.trans s14) rc)))
        · have c1:¬ (baseP [] (C.take i)).length < rankOf (hatL (baseP [] (C.take i) ++ [c])):=by
            have:¬ ((bs.length:Nat):Int) < ((rankOf (hatL (baseP [] (C.take i) ++ [c])):Nat):Int):=fun h=>c1 (decide_eq_true h)
            omega
          refine ⟨_,_,rfl,s1.trans s14,s14 _ _ e1,?_⟩
          rw [ec,if_neg c1]
          exact pb4
    · rintro σ H1 ⟨o2,bs,rfl,s1,e1,pb⟩
      have lu:=paired_len pr
      rw [lu,List.take_length] at pb
      exact ⟨_,rfl,k _ H1 s1 ⟨n0,bs,rfl,e1,paired_mono (fun _ _ r=>row_st _ _ _ _ off_le r) pb⟩⟩
end
theorem rows_pairs {H:Hp}:∀ {vs:List V} {xs:List Vec},Paired (Row true H) vs xs→∃ zs:List (Vec × Addr),vs = zs.map (fun z=>V.ref z.2)∧zs.map (·.1) = xs∧∀ z∈zs,H z.2 = some (.tup (z.1.map V.int))
  | _,_,.nil=>⟨[],rfl,rfl,fun z hz=>nomatch hz⟩
  | _,_,.cons (b:=x) h t=>by
    obtain ⟨zs,e1,e2,e3⟩:=rows_pairs t
    obtain ⟨a,rfl,ha⟩:=h
    refine ⟨(x,a) :: zs,by rw [e1];rfl,by rw [List.map_cons,e2],fun z hz=>?_⟩
    rcases List.mem_cons.mp hz with e | hz
    · subst e;exact ha
    · exact e3 z hz
theorem pairs_rows {H:Hp}:∀ {zs:List (Vec × Addr)},(∀ z∈zs,H z.2 = some (.tup (z.1.map V.int)))→Paired (Row true H) (zs.map fun z=>V.ref z.2) (zs.map (·.1))
  | [],_=>.nil
  | z :: zs,h=>.cons ⟨z.2,rfl,h z (by simp)⟩ (pairs_rows fun y hy=>h y (by simp [hy]))
theorem flatN {α β:Type} {f:α→List β} {n:Nat}:∀ {l:List α},(∀ x∈l,(f x).length≤n)→(l.flatMap f).length≤l.length * n
  | [],_=>by simp
  | x :: l,h=>by
    have h1:=h x (by simp)
    have h2:=flatN (l:=l) fun y hy=>h y (by simp [hy])
    rw [List.flatMap_cons,List.length_append,List.length_cons,Nat.add_mul];omega
theorem paired_mem {α β:Type} {F:α→β→Prop}:∀ {l:List α} {m:List β},Paired F l m→Paired (fun a b=>F a b∧b∈m) l m
  | _,_,.nil=>.nil
  | _,_,.cons h t=>.cons ⟨h,by simp⟩ (paired_mono (fun _ _ q=>⟨q.1,by simp [q.2]⟩) (paired_mem t))
def nexts (G:List Vec) (t:List Vec):List (List Vec):=(G.filter fun x=>!t.contains x).map fun x=>t ++ [x]
theorem nexts_len (G t:List Vec):(nexts G t).length≤G.length:=by
  unfold nexts
  rw [List.length_map];exact List.length_filter_le _ _
theorem tuples_len {G:List Vec} (h:G.length≤8):∀ k,(Sx38.tuples G k).length≤8 ^ k
  | 0=>by simp [Sx38.tuples]
  | k + 1=>by
    have ih:=tuples_len h k
    have h2:((Sx38.tuples G k).flatMap (nexts G)).length≤(Sx38.tuples G k).length * 8:=flatN fun t _=>Nat.le_trans (nexts_len G t) h
    show ((Sx38.tuples G k).flatMap (nexts G)).length≤_
    rw [Nat.pow_succ];omega
section
variable {P:Program} {w:World} {K:PySem.W.Frag} {mg:Str→Option Value} {base:Heap}
theorem notIn_K {X:Cx} {K:PySem.W.Frag} (hK:X.K = K) (hu:X.A.units + 64 < cLine):OpR X (compareOp .NotIn) (ST.rNotT K):=by subst hK;exact ST.op_notInT hu
theorem scArr:FnScope ["points","size","begun","place","longer","chosen","point"] ["points","size"] (defScope sArr):=⟨rfl,rfl,rfl,by decide +kernel,rfl,by decide +kernel,by decide +kernel⟩
theorem ok_arr {f:Addr} {fd:FuncData} (F:Fun K "arrangements" "arrangements" sArr f fd) (T:Tx mg):FnOk P w K mg base CX0 1 f fd ["points","size"] spArr:=by
  refine F.ok scArr (fun vs H Q E h=>?_) (fun cdv A outer s H vs Q E hr h=>?_)
  · obtain ⟨v,G,n,rfl,_⟩:=h
    rfl
  · obtain ⟨v,G,n,rfl,⟨a,us,rfl,ha,pr⟩,h8,h4,k⟩:=h
    have st2:Stable (Lst (Row true)):=lst_st row_st
    have lu:=paired_len pr
    refine ⟨_,pss_cons (ps_set (i:=2) scArr.nd rfl (Or.inl rfl) (pe_lst (pa_cons (pe_lst pa_nil) pa_nil)))
      (pss_cons (ps_for PassesOwn.never rfl (pi_range1 rfl T.range (pa_cons (pv 1) pa_nil)) (pg_name (i:=3) scArr.nd rfl (Or.inl rfl))
        (pss_cons (ps_set (i:=4) scArr.nd rfl (Or.inl rfl) (pe_lst pa_nil))
        (pss_cons (ps_for PassesOwn.never rfl (pi_list (pv 2)) (pg_name (i:=5) scArr.nd rfl (Or.inr rfl))
          (pss_one (ps_expr (pe_bm PySem.F.plainAttrs_list PySem.F.slot_list_extend PySem.F.type_list_extend mt_extend (pv 4) (pa_cons (pe_lc rfl scArr.nd (pi_list (pv 0)) (blkOk_by (own:=[("point",6)]) (by kernel_rfl)) (fun s H C cl fp=>pg_name (i:=6) scArr.nd rfl (Or.inl rfl) (Or.inr rfl))
            (fun s H C cl fp=>pts_one (pt_cmpR (notIn_K (K:=K) rfl hr.units) (pv 6) (pv 5) rfl)) (fun s H C cl fp=>pe_op op_cat (pv 5) (pe_lst (pa_cons (pv 6) pa_nil)))) pa_nil)))))
        (pss_one (ps_set (i:=2) scArr.nd rfl (Or.inl rfl) (pv 4))))))
      (pss_one (ps_ret (pv 2)))),?_⟩
    refine ⟨Nat.zero_le _,fun e0 he0=>?_⟩
    have s0:=same_upd (o:=.lst []) he0
    have g0:upd H e0 (.lst []) e0 = some (.lst []):=upd_same
    generalize upd H e0 (.lst []) = H0 at s0 g0
    refine ⟨by show 1≤sizeLine;decide,fun b0 hb0=>?_⟩
    have s1:=same_upd (o:=.lst [V.ref e0]) hb0
    have g1:upd H0 b0 (.lst [V.ref e0]) b0 = some (.lst [V.ref e0]):=upd_same
    generalize upd H0 b0 (.lst [V.ref e0]) = H1 at s1 g1
    dsimp only [tSeq,tAsg,gName,tC]
    refine ⟨_,rfl,_,rfl,by omega,by omega,?_⟩
    have etn:((n:Nat):Int).toNat = n:=Int.toNat_natCast n
    rw [etn]
    refine for_range (lo:=0) (n:=n) (fun i σ H'=>∃ (vb:V) (o3 o4 o5:Option V),σ = [some (.ref a),some (.int (n:Int)),some vb,o3,o4,o5,none]∧Same H H'∧Lst (Lst (Row true)) H' vb (Sx38.tuples G i))
      ⟨_,none,none,none,rfl,s0.trans s1,⟨b0,_,rfl,g1,.cons ⟨e0,[],rfl,s1 _ _ g0,.nil⟩ .nil⟩⟩ ?_ ?_
    · rintro i σ H2 hi ⟨vb,o3,o4,o5,rfl,s2,⟨b,bs,rfl,hb,pb⟩⟩
      refine ⟨Nat.zero_le _,fun n0 hn0=>?_⟩
      have s3:=same_upd (o:=.lst []) hn0
      have g3:upd H2 n0 (.lst []) n0 = some (.lst []):=upd_same
      generalize upd H2 n0 (.lst []) = H3 at s3 g3
      have tl:=tuples_len h8 i
      have p4:8 ^ i≤8 ^ 3:=Nat.pow_le_pow_right (by decide) (by omega)
      refine ⟨_,rfl,b,rfl,⟨_,SqL.of (s3 _ _ hb)⟩,for_list (K:=K) (a:=b) (xs:=bs) (fun j σ H'=>∃ (o5:Option V) (acc:List V),σ = [some (.ref a),some (.int (n:Int)),some (.ref b),some (.int (0 + (i:Int))),some (.ref n0),o5,none]∧Same H2 H'∧H' n0 = some (.lst acc)∧Paired (Lst (Row true) (off H' n0)) acc (((Sx38.tuples G i).take j).flatMap (nexts G)))
        ⟨_,[],rfl,s3,g3,.nil⟩ (fun j σ H' _ ⟨_,_,_,s4,_⟩=>SqL.of (s4 _ _ hb)) ?_ ?_⟩
      · rintro j y σ H4 hj ⟨o5,acc,rfl,s4,g4,pacc⟩
        obtain ⟨t,ht,ry⟩:=paired_at pb hj
        obtain ⟨c,cs,rfl,hc,pc⟩:=ry
        have lc:=paired_len pc
        have tm:=mem_tuples.mp (List.mem_of_getElem? ht)
        refine ⟨_,rfl,.inl ⟨rfl,_,SqL.of g4⟩,_,rfl,a,rfl,⟨_,SqL.of ((s2.trans s4) _ _ ha)⟩,fun D hD=>lc_listM (zs:=G) (R:=Lst (Row true)) st2 (fun x=>!t.contains x) (fun x=>t ++ [x]) hD (SqL.of ((s2.trans s4) _ _ ha)) lu (small_ok (by omega)) (fun m x z H5 ex ez s5 hDs Nx Fx n1 n2=>?_) (fun H5 ys s5 f1 f2=>?_)⟩
        · refine ⟨rfl,?_⟩
          obtain ⟨z',hz',rx⟩:=paired_at pr ex
          have:z' = z:=Option.some.inj (hz'.symm.trans ez)
          subst this
          have s45:=(s4.trans s5)
          obtain ⟨q,rfl,hq⟩:=row_st _ _ _ _ (s2.trans s45) rx
          have pc5:Paired (Row true H5) cs t:=paired_mono (fun _ _ r=>row_st _ _ _ _ s45 r) pc
          obtain ⟨zs,ez1,ez2,ez3⟩:=rows_pairs pc5
          refine ⟨_,rfl,_,rfl,q,c,z',zs,rfl,rfl,hq,by rw [← ez1];exact SqL.of (s45 _ _ hc),ez3,_,rfl,ite2 (fun c1=>?_) (fun c1=>?_)⟩
          · have c1:(!t.contains z') = true:=by
              rw [ez2] at c1
              simpa using c1
            refine ⟨_,rfl,_,rfl,by show 1≤sizeLine;decide,fun q2 hq2=>?_⟩
            have s6:=same_upd (o:=.lst [V.ref q]) hq2
            refine ⟨c,q2,_,_,rfl,rfl,s6 _ _ (s45 _ _ hc),upd_same,small_ok (by simp;omega),fun l hl=>?_⟩
            have s7:=same_upd (o:=.lst (cs ++ [V.ref q])) hl
            obtain ⟨acc5,hacc5⟩:=hDs
            have hacc7:=s7 _ _ (s6 _ _ hacc5)
            refine n1 _ _ c1 (s6.trans s7) ⟨l,cs ++ [V.ref q],rfl,off_at (fun z=>?_) upd_same,paired_snoc (paired_mono (fun _ _ r=>row_off (t:=true) hacc7 (row_st _ _ _ _ (s6.trans s7) r)) pc5) (row_off (t:=true) hacc7 ⟨q,rfl,(s6.trans s7) _ _ hq⟩)⟩
            rw [z,s6 _ _ hacc5] at hl;cases hl
          · have c1:(!t.contains z') = false:=by
              rw [ez2] at c1
              simpa using c1
            exact n2 _ c1 (Same.refl _)
        · have f2:Paired (Lst (Row true) H5) ys (nexts G t):=f2
          have hne:D≠n0:=fun z=>by rw [z,g4] at hD;cases hD
          have ly:=paired_len f2
          have la:=paired_len pacc
          have ln:=nexts_len G t
          have lf:(((Sx38.tuples G i).take j).flatMap (nexts G)).length≤((Sx38.tuples G i).take j).length * 8:=flatN fun t _=>Nat.le_trans (nexts_len G t) h8
          have lt:=List.length_take_le' j (Sx38.tuples G i)
          refine ⟨n0,D,_,_,rfl,rfl,s5 _ _ g4,f1,small_ok (by omega),?_⟩
          have offL:∀ v x,Lst (Row true) H5 v x→v≠.ref n0→Lst (Row true) (off H5 n0) v x:=fun v x ⟨p,ps,e,hp,pp⟩ hv=>⟨p,ps,e,off_at (fun z=>hv (by rw [e,z])) hp,paired_mono (fun _ _ r=>row_off (t:=true) (s5 _ _ g4) r) pp⟩
          refine ⟨_,_,rfl,same_write hn0 (s4.trans s5),upd_same,?_⟩
          rw [take_snoc ht,List.flatMap_append]
          refine paired_app (paired_mono (fun _ _ r=>st2 _ _ _ _ ((off_same s5).trans off_upd) r) pacc) ?_
          rw [List.flatMap_cons,List.flatMap_nil,List.append_nil]
          have ne:∀ v x,Lst (Row true) H5 v x→x≠[]→v≠.ref n0:=fun v x ⟨p,ps,e,hp,pp⟩ hx z=>by
            rw [e] at z
            injection z with z
            rw [z,s5 _ _ g4] at hp
            have ea:acc = ps:=by injection hp with hp;injection hp
            subst ea
            cases pp with
            | nil=>exact hx rfl
            | cons r _ =>
              generalize ((Sx38.tuples G i).take j).flatMap (nexts G) = mm at pacc
              cases pacc with
              | cons r2 _ =>
                obtain ⟨q1,e1,h1⟩:=r
                obtain ⟨q2,qs,e2,h2,_⟩:=r2
                rw [e1] at e2
                injection e2 with e2
                have:=s5 _ _ (off_le _ _ h2)
                rw [← e2,h1] at this
                cases this
          exact paired_mono (fun v x r=>st2 _ _ _ _ off_upd (offL v x r.1 (ne v x r.1 fun q=>by
            have:=r.2
            rw [q] at this
            obtain ⟨y,_,e⟩:=List.mem_map.mp this
            simp at e))) (paired_mem f2)
      · rintro σ H4 ⟨o5,acc,rfl,s4,g4,pacc⟩
        rw [paired_len pb,List.take_length] at pacc
        exact ⟨_,rfl,_,_,_,_,rfl,s2.trans s4,⟨n0,acc,rfl,g4,paired_mono (fun _ _ r=>st2 _ _ _ _ off_le r) pacc⟩⟩
    · rintro σ H2 ⟨vb,o3,o4,o5,rfl,s2,L⟩
      exact ⟨_,rfl,k _ H2 s2 L⟩
end
abbrev sCof:Stmt:=top 17
abbrev sAdj:Stmt:=top 16
theorem paired_take {α β:Type} {F:α→β→Prop}:∀ {l:List α} {m:List β} (n:Nat),Paired F l m→Paired F (l.take n) (m.take n)
  | _,_,0,_=>by simpa using Paired.nil
  | _,_,n + 1,.nil=>.nil
  | _,_,n + 1,.cons h t=>.cons h (paired_take n t)
def spCof:Sp:=fun vs H Q _=>∃ (v:V) (rows:List Vec) (n p c:Nat),vs = [v,.int (p:Int),.int (c:Int)]∧Lst (Row true) H v rows∧IsMat n rows∧n≤3∧p < n∧c < n∧(∀ r∈rows,Bd 8 r)∧∀ H',Same H H'→Q (.int (cof n rows p c)) H'
def spAdj:Sp:=fun vs H Q _=>∃ (v:V) (rows:List Vec) (n:Nat),vs = [v]∧Lst (Row true) H v rows∧IsMat n rows∧n≤3∧(∀ r∈rows,Bd 8 r)∧∀ w H',Same H H'→Lst (Row false) H' w (adjM n rows)→Q w H'
theorem cof_bd {n p c:Nat} {rows:List Vec} (hM:IsMat n rows) (h3:n≤3) (hp:p < n) (hc:c < n) (hb:∀ r∈rows,Bd 8 r):(cof n rows p c).natAbs≤2 ^ 20:=by
  have sub:∀ y∈(rows.eraseIdx p).map (fun r=>r.eraseIdx c),y.length = n - 1∧Bd 8 y:=fun y hy=>by
    obtain ⟨r,hr,rfl⟩:=List.mem_map.mp hy
    have mr:=List.mem_of_mem_eraseIdx hr
    exact ⟨by rw [List.length_eraseIdx_of_lt (by rw [hM.2 r mr];exact hc),hM.2 r mr],bd_erase (hb r mr)⟩
  have l:((rows.eraseIdx p).map (fun r=>r.eraseIdx c)).length = n - 1:=by rw [List.length_map,List.length_eraseIdx_of_lt (by rw [hM.1];exact hp),hM.1]
  have h:=det_bd (n - 1) _ l (fun y hy=>(sub y hy).1) (fun y hy=>(sub y hy).2)
  have h2:=dB_le (n - 1) (by omega)
  unfold cof
  rw [Int.natAbs_mul]
  have sg:(if (p + c) % 2 = 1 then (-1:Int) else 1).natAbs = 1:=by split <;> rfl
  rw [sg,Nat.one_mul];omega
section
variable {P:Program} {w:World} {K:PySem.W.Frag} {mg:Str→Option Value} {base:Heap}
theorem scCof:FnScope ["rows","place","column","sign","row"] ["rows","place","column"] (defScope sCof):=⟨rfl,rfl,rfl,by decide +kernel,rfl,by decide +kernel,by decide +kernel⟩
theorem ok_cof {f fD fW:Addr} {fd dD dW:FuncData} (F:Fun K "cofactor" "cofactor" sCof f fd) (T:Tx mg) (cD:Cal K mg "determinant" sDet ["rows"] fD dD) (cW:Cal K mg "without_column" sWo ["row","column"] fW dW):FnOk P w K mg base CX0 5 f fd ["rows","place","column"] spCof:=by
  have GD:FnOk P w K mg base CX0 4 fD dD ["rows"] (spDet 2):=ok_det cD T cW 2
  have GW:FnOk P w K mg base CX0 1 fW dW ["row","column"] spWo:=ok_wo cW.fn
  refine F.ok scCof (fun vs H Q E h=>?_) (fun cdv A outer s H vs Q E hr h=>?_)
  · obtain ⟨v,rows,n,p,c,rfl,_⟩:=h
    rfl
  · obtain ⟨v,rows,n,p,c,rfl,⟨a,us,rfl,ha,pr⟩,hM,h3,hp,hc,hb,k⟩:=h
    have hr1:Room 1 _:=hr.mono (by decide)
    have lu:=paired_len pr
    have lr:=hM.1
    refine ⟨_,pss_cons (ps_set (i:=3) scCof.nd rfl (Or.inl rfl) (pe_ifExp (pt_cmpR op_eq (pe_op op_mod (pe_op op_add (pv 1) (pv 2)) pe_int) pe_int (nomark _)) (pe_un un_neg pe_int) pe_int))
      (pss_one (ps_ret (pe_op op_mulB (pv 3) (pe_call GD hr rfl cD.at_ cD.fn.kp cD.bi .nil pass0 (pa_cons (pe_lc rfl scCof.nd (pi_list (pe_op op_cat (pe_slice sl_list (pv 0) po_none (po_some (pv 1))) (pe_slice sl_list (pv 0) (po_some (pe_op op_add (pv 1) pe_int)) po_none)))
        (blkOk_by (own:=[("row",4)]) (by kernel_rfl)) (fun s H C cl fp=>pg_name (i:=4) scCof.nd rfl (Or.inl rfl) (Or.inr rfl)) (fun s H C cl fp=>pts_nil)
        (fun s H C cl fp=>pe_call GW hr1 rfl cW.at_ cW.fn.kp cW.bi .nil pass0 (pa_cons (pv 4) (pa_cons (pv 2) pa_nil)))) pa_nil))))),?_⟩
    have em:((p:Int) + (c:Int)) % 2 = (((p + c) % 2:Nat):Int):=by simp
    refine ⟨_,rfl,_,rfl,_,_,rfl,rfl,_,_,rfl,rfl,(by show (0:Int) < 2;decide),rfl,_,rfl,ite2 (fun c1=>?t1) (fun c1=>?t2)⟩
    case' t1 =>
      have es:(if (p + c) % 2 = 1 then (-1:Int) else 1) = -1:=by
        have c1:decide (V.int (((p:Int) + (c:Int)) % 2) = V.int 1) = true:=c1
        rw [dec_V,em] at c1
        have:=of_decide_eq_true c1
        rw [if_pos (by omega)]
      refine ⟨_,rfl,?_⟩
    case' t2 =>
      have es:(if (p + c) % 2 = 1 then (-1:Int) else 1) = 1:=by
        have c1:¬ decide (V.int (((p:Int) + (c:Int)) % 2) = V.int 1) = true:=c1
        rw [dec_V,em] at c1
        have:¬ (((p + c) % 2:Nat):Int) = 1:=fun z=>c1 (decide_eq_true z)
        rw [if_neg (by omega)]
    all_goals
      have l1:(us.take p).length = p:=by rw [List.length_take];omega
      have cut1:cutV us none (some (p:Int)) = us.take p:=cut_take us p (by omega)
      have cut2:cutV us (some ((p:Int) + 1)) none = us.drop (p + 1):=by
        rw [show ((p:Int) + 1) = ((p + 1:Nat):Int) by simp];exact cut_drop us (p + 1) (by omega)
      refine ⟨_,rfl,_,rfl,_,rfl,_,rfl,a,_,rfl,SqL.of ha,fun b1 hb1=>?_⟩
      have s1:=same_upd (o:=.lst (cutV us none (some (p:Int)))) hb1
      have g1:upd H b1 (.lst (cutV us none (some (p:Int)))) b1 = some (.lst (us.take p)):=by rw [upd_same,cut1]
      generalize upd H b1 (.lst (cutV us none (some (p:Int)))) = H1 at s1 g1
      refine ⟨_,rfl,_,rfl,_,_,rfl,rfl,_,rfl,a,_,rfl,SqL.of (s1 _ _ ha),fun b2 hb2=>?_⟩
      have s2:=same_upd (o:=.lst (cutV us (some ((p:Int) + 1)) none)) hb2
      have g2:upd H1 b2 (.lst (cutV us (some ((p:Int) + 1)) none)) b2 = some (.lst (us.drop (p + 1))):=by rw [upd_same,cut2]
      generalize upd H1 b2 (.lst (cutV us (some ((p:Int) + 1)) none)) = H2 at s2 g2
      refine ⟨b1,b2,_,_,rfl,rfl,s2 _ _ g1,g2,small_ok (by rw [List.length_take,List.length_drop];omega),fun b3 hb3=>?_⟩
      have s3:=same_upd (o:=.lst (us.take p ++ us.drop (p + 1))) hb3
      have g3:upd H2 b3 (.lst (us.take p ++ us.drop (p + 1))) b3 = some (.lst (us.take p ++ us.drop (p + 1))):=upd_same
      generalize upd H2 b3 (.lst (us.take p ++ us.drop (p + 1))) = H3 at s3 g3
      have s03:=(s1.trans s2).trans s3
      have er:rows.eraseIdx p = rows.take p ++ rows.drop (p + 1):=List.eraseIdx_eq_take_drop_succ ..
      have pe:Paired (Row true H3) (us.take p ++ us.drop (p + 1)) (rows.eraseIdx p):=by
        rw [er]
        exact paired_mono (fun _ _ r=>row_st _ _ _ _ s03 r) (paired_app (paired_take p pr) (paired_drop (p + 1) pr))
      have le:(rows.eraseIdx p).length = n - 1:=by rw [List.length_eraseIdx_of_lt (by omega),lr]
      refine ⟨b3,rfl,⟨_,SqL.of g3⟩,fun D hD=>lc_listM (zs:=rows.eraseIdx p) (R:=Row true) row_st (fun _=>true) (fun y=>y.eraseIdx c) hD (SqL.of g3) (paired_len pe) (small_ok (by omega)) (fun j x z H4 ex ez s4 hDs Nx Fx n1 n2=>?_) (fun H4 ys s4 e1 e2=>?_)⟩
      · refine ⟨rfl,?_⟩
        obtain ⟨z',hz',rx⟩:=paired_at pe ex
        have:z' = z:=Option.some.inj (hz'.symm.trans ez)
        subst this
        have mz:z'∈rows:=List.mem_of_mem_eraseIdx (List.mem_of_getElem? ez)
        refine ⟨_,rfl,_,rfl,_,z',c,rfl,row_st _ _ _ _ s4 rx,by rw [hM.2 z' mz];exact hc,by rw [hM.2 z' mz];omega,fun q H5 s5 e5=>n1 _ _ rfl s5 ⟨q,rfl,off_at (fun z=>?_) e5⟩⟩
        obtain ⟨acc,hacc⟩:=hDs
        have:=s5 _ _ hacc
        rw [← z,e5] at this
        cases this
      · rw [List.filter_eq_self.mpr (fun _ _=>rfl)] at e2
        have eb:((rows.eraseIdx p).map fun y=>y.eraseIdx c).length = n - 1:=by rw [List.length_map,le]
        have sub:∀ y∈(rows.eraseIdx p).map (fun r=>r.eraseIdx c),y.length = n - 1∧Bd 8 y:=fun y hy=>by
          obtain ⟨r,hr,rfl⟩:=List.mem_map.mp hy
          have mr:=List.mem_of_mem_eraseIdx hr
          exact ⟨by rw [List.length_eraseIdx_of_lt (by rw [hM.2 r mr];exact hc),hM.2 r mr],bd_erase (hb r mr)⟩
        have dbd:=det_bd (n - 1) _ eb (fun y hy=>(sub y hy).1) (fun y hy=>(sub y hy).2)
        have d20:=dB_le (n - 1) (by omega)
        refine ⟨_,_,rfl,⟨D,ys,rfl,e1,e2⟩,by rw [eb];omega,by decide,fun y hy=>by rw [eb];exact (sub y hy).1,fun y hy z hz=>Nat.le_trans ((sub y hy).2 z hz) (by decide),fun H5 s5=>?_⟩
        rw [eb]
        refine ⟨_,_,rfl,rfl,⟨big_small (by decide),big_small (by omega)⟩,?_⟩
        have:=k H5 ((s03.trans s4).trans s5)
        unfold cof at this
        rw [es] at this
        exact this
theorem scAdj:FnScope ["rows","found","column","place"] ["rows"] (defScope sAdj):=⟨rfl,rfl,rfl,by decide +kernel,rfl,by decide +kernel,by decide +kernel⟩
theorem ok_adj {f fC fD fW:Addr} {fd dC dD dW:FuncData} (F:Fun K "adjugate" "adjugate" sAdj f fd) (T:Tx mg) (cC:Cal K mg "cofactor" sCof ["rows","place","column"] fC dC) (cD:Cal K mg "determinant" sDet ["rows"] fD dD) (cW:Cal K mg "without_column" sWo ["row","column"] fW dW):FnOk P w K mg base CX0 6 f fd ["rows"] spAdj:=by
  have GC:FnOk P w K mg base CX0 5 fC dC ["rows","place","column"] spCof:=ok_cof cC.fn T cD cW
  refine F.ok scAdj (fun vs H Q E h=>?_) (fun cdv A outer s H vs Q E hr h=>?_)
  · obtain ⟨v,rows,n,rfl,_⟩:=h
    rfl
  · obtain ⟨v,rows,n,rfl,⟨a,us,rfl,ha,pr⟩,hM,h3,hb,k⟩:=h
    have lu:=paired_len pr
    have lr:=hM.1
    refine ⟨_,pss_cons (ps_set (i:=1) scAdj.nd rfl (Or.inl rfl) (pe_lst pa_nil))
      (pss_cons (ps_for PassesOwn.never rfl (pi_range1 rfl T.range (pa_cons (pe_callB call_len_seq rfl T.len PySem.boot_len (pa_cons (pv 0) pa_nil)) pa_nil)) (pg_name (i:=2) scAdj.nd rfl (Or.inr rfl))
        (pss_one (ps_expr (pe_bm PySem.F.plainAttrs_list PySem.F.slot_list_append PySem.F.type_list_append mt_append (pv 1) (pa_cons (pe_lc rfl scAdj.nd (pi_range1 rfl T.range (pa_cons (pe_callB call_len_seq rfl T.len PySem.boot_len (pa_cons (pv 0) pa_nil)) pa_nil))
          (blkOk_by (own:=[("place",3)]) (by kernel_rfl)) (fun s H C cl fp=>pg_name (i:=3) scAdj.nd rfl (Or.inl rfl) (Or.inr rfl)) (fun s H C cl fp=>pts_nil)
          (fun s H C cl fp=>pe_call GC hr rfl cC.at_ cC.fn.kp cC.bi .nil pass0 (pa_cons (pv 0) (pa_cons (pv 3) (pa_cons (pv 2) pa_nil))))) pa_nil)))))
      (pss_one (ps_ret (pv 1)))),?_⟩
    refine ⟨Nat.zero_le _,fun n0 hn0=>?_⟩
    dsimp only [tSeq,tAsg,gName,tC]
    have s0:=same_upd (o:=.lst []) hn0
    have etn:((us.length:Nat):Int).toNat = n:=by rw [Int.toNat_natCast,lu,lr]
    refine ⟨_,rfl,a,_,rfl,.inl (SqL.of (s0 _ _ ha)),_,rfl,by omega,by omega,?_⟩
    rw [etn]
    refine for_range (lo:=0) (n:=n) (fun i σ H'=>∃ (o2:Option V) (acc:List V),σ = [some (.ref a),some (.ref n0),o2,none]∧Same H H'∧H' n0 = some (.lst acc)∧Paired (Row false (off H' n0)) acc ((List.range i).map fun c=>(List.range n).map fun p=>cof n rows p c))
      ⟨none,[],rfl,s0,upd_same,.nil⟩ ?_ ?_
    · rintro i σ H1 hi ⟨o2,acc,rfl,s1,g1,pacc⟩
      refine ⟨_,rfl,.inl ⟨rfl,_,SqL.of g1⟩,_,rfl,a,_,rfl,.inl (SqL.of (s1 _ _ ha)),_,rfl,by omega,by omega,fun D hD=>?_⟩
      rw [etn]
      refine lc_rangeM (n:=n) (R:=IntR) int_st (fun p=>cof n rows p i) hD (small_ok (by omega)) (fun j H2 hj s2 hDs Nx Fx n1 n2=>?_) (fun H2 ys s2 e1 e2=>?_)
      · refine ⟨rfl,?_⟩
        refine ⟨_,rfl,_,rfl,_,rfl,_,rows,n,j,i,?_,⟨a,us,rfl,(s1.trans s2) _ _ ha,paired_mono (fun _ _ r=>row_st _ _ _ _ (s1.trans s2) r) pr⟩,hM,h3,hj,hi,hb,fun H3 s3=>n1 _ _ rfl s3 rfl⟩
        simp
      · have e3:=ints_eq e2
        subst e3
        have hne:D≠n0:=fun z=>by rw [z,g1] at hD;cases hD
        have la:=paired_len pacc
        have lr2:((List.range i).map fun c=>(List.range n).map fun p=>cof n rows p c).length = i:=by simp
        refine ⟨n0,_,_,rfl,rfl,s2 _ _ g1,Nat.lt_of_le_of_lt (show acc.length≤8 by omega) (by rw [sizeLine_eq];omega),?_⟩
        refine ⟨_,_,rfl,same_write hn0 (s1.trans s2),upd_same,?_⟩
        rw [List.range_succ,List.map_append]
        exact paired_snoc (paired_mono (fun _ _ r=>row_st _ _ _ _ ((off_same s2).trans off_upd) r) pacc) ⟨D,rfl,off_at hne (by rw [upd_ne hne];exact e1)⟩
    · rintro σ H1 ⟨o2,acc,rfl,s1,g1,pacc⟩
      exact ⟨_,rfl,k _ H1 s1 ⟨n0,acc,rfl,g1,paired_mono (fun _ _ r=>row_st _ _ _ _ off_le r) pacc⟩⟩
end
abbrev sSqo:Stmt:=top 15
def spSqo:Sp:=fun vs H Q _=>∃ (v u:V) (D:Int) (bs us:List Vec) (d:Nat),vs = [v,.int D,u]∧Lst (Row false) H v (adjM d bs)∧Lst (Row true) H u us∧IsMat d bs∧(∀ r∈bs,Bd 8 r)∧D = Sx38.det d bs∧D≠0∧us.length = d + 1∧(∀ x∈us,x.length = d)∧(∀ x∈us,Bd 4 x)∧1≤d∧d≤3 ∧
  ∀ w H',Same H H'→Lst (Row true) H' w (sqP d bs (waysP us))→Q w H'
theorem adj_facts {d:Nat} {bs:List Vec} (hM:IsMat d bs) (h3:d≤3) (hb:∀ r∈bs,Bd 8 r):(adjM d bs).length = d∧∀ r∈adjM d bs,r.length = d∧Bd (2 ^ 30) r:=by
  refine ⟨by simp [adjM],fun r hr=>?_⟩
  obtain ⟨c,hc,rfl⟩:=List.mem_map.mp hr
  refine ⟨by simp,fun z hz=>?_⟩
  obtain ⟨p,hp,rfl⟩:=List.mem_map.mp hz
  exact Nat.le_trans (cof_bd hM h3 (by simpa using hp) (by simpa using hc) hb) (by decide)
theorem det_small {d:Nat} {bs:List Vec} (hM:IsMat d bs) (h3:d≤3) (hb:∀ r∈bs,Bd 8 r):(Sx38.det d bs).natAbs < 1073741824:=by
  have h:=det_bd d bs hM.1 hM.2 hb
  have:=dB_le d (by omega)
  omega
theorem sq_all {d:Nat} {bs im:List Vec} (h:∀ i,i < d→sqOk d bs im i = true):sqP d bs im = (List.range d).map (sqRow d bs im):=by
  unfold sqP
  rw [if_pos (List.all_eq_true.mpr fun i hi=>h i (by simpa using hi))]
theorem sq_none {d:Nat} {bs im:List Vec} {i:Nat} (hi:i < d) (h:sqOk d bs im i = false):sqP d bs im = []:=by
  unfold sqP
  rw [if_neg]
  intro q
  have:=List.all_eq_true.mp q i (by simpa using hi)
  rw [h] at this;cases this
theorem any_mod {l:Vec} {D:Int}:((l.map fun z=>z.fmod D).any fun x=>x != 0) = l.any fun z=>z % D != 0:=by
  rw [List.any_map]
  congr 1
  funext z
  exact fmod0 z D
section
variable {P:Program} {w:World} {K:PySem.W.Frag} {mg:Str→Option Value} {base:Heap}
theorem scSqo:FnScope ["undone","divisor","images","ways","square","axis","row","image","way","x"] ["undone","divisor","images"] (defScope sSqo):=⟨rfl,rfl,rfl,by decide +kernel,rfl,by decide +kernel,by decide +kernel⟩
theorem ok_sqo {f fF fT fV:Addr} {fd dF dT dV:FuncData} (F:Fun K "square_of" "square_of" sSqo f fd) (T:Tx mg) (cF:Cal K mg "difference" sDif ["point","other"] fF dF) (cT:Cal K mg "times" sTim ["rows","point"] fT dT) (cV:Cal K mg "value_at" sVal ["normal","point"] fV dV):FnOk P w K mg base CX0 3 f fd ["undone","divisor","images"] spSqo:=by
  have GF:FnOk P w K mg base CX0 1 fF dF ["point","other"] spDif:=ok_dif cF.fn T
  have GT:FnOk P w K mg base CX0 2 fT dT ["rows","point"] spTim:=ok_tim cT.fn T cV
  refine F.ok scSqo (fun vs H Q E h=>?_) (fun cdv A outer s H vs Q E hr h=>?_)
  · obtain ⟨v,u,D,bs,us,d,rfl,_⟩:=h
    rfl
  · obtain ⟨v,u,D,bs,us,d,rfl,LU,⟨a,vs,rfl,ha,pr⟩,hM,hbb,hD,hD0,hul,hl,hb,h1,h3,k⟩:=h
    have hr1:Room 1 _:=hr.mono (by decide)
    refine ⟨_,pss_cons (ps_setLc (i:=3) rfl scSqo.nd rfl rfl (sw_true rfl rfl rfl (by kernel_rfl)) (pi_list (pe_slice sl_list (pv 2) (po_some pe_int) po_none)) (blkOk_by (own:=[("image",7)]) (by kernel_rfl))
        (fun s H C cl fp=>pg_name (i:=7) scSqo.nd rfl (Or.inl rfl) (Or.inr rfl)) (fun s H C cl fp=>pts_nil)
        (fun s H C cl fp=>pe_call GF hr1 rfl cF.at_ cF.fn.kp cF.bi .nil pass0 (pa_cons (pv 7) (pa_cons (pe_ix (ix_lK (K:=K) rfl) (pv 2) pe_int (fun _ _=>rfl)) pa_nil))))
      (pss_cons (ps_set (i:=4) scSqo.nd rfl (Or.inl rfl) (pe_lst pa_nil))
      (pss_cons (ps_for PassesOwn.never rfl (pi_range1 rfl T.range (pa_cons (pe_callB call_len_seq rfl T.len PySem.boot_len (pa_cons (pv 3) pa_nil)) pa_nil)) (pg_name (i:=5) scSqo.nd rfl (Or.inr rfl))
        (pss_cons (ps_set (i:=6) scSqo.nd rfl (Or.inl rfl) (pe_call GT hr rfl cT.at_ cT.fn.kp cT.bi .nil pass0 (pa_cons (pv 0) (pa_cons (pe_lc rfl scSqo.nd (pi_list (pv 3)) (blkOk_by (own:=[("way",8)]) (by kernel_rfl)) (fun s H C cl fp=>pg_name (i:=8) scSqo.nd rfl (Or.inl rfl) (Or.inr rfl)) (fun s H C cl fp=>pts_nil)
          (fun s H C cl fp=>pe_ix (ix_tK (K:=K) rfl) (pv 8) (pv 5) (fun _ _=>rfl))) pa_nil))))
        (pss_cons (ps_if (pt_val (pe_callB (cr_anyI rfl) rfl T.any boot_any (pa_cons (pe_lc rfl scSqo.nd (pi_tup (pv 6)) (blkOk_by (own:=[("x",9)]) (by kernel_rfl)) (fun s H C cl fp=>pg_name (i:=9) scSqo.nd rfl (Or.inl rfl) (Or.inr rfl)) (fun s H C cl fp=>pts_nil)
            (fun s H C cl fp=>pe_op op_modN (pv 9) (pv 1))) pa_nil))) (pss_one (ps_ret (pe_lst pa_nil))) pss_nil)
        (pss_one (ps_expr (pe_bm PySem.F.plainAttrs_list PySem.F.slot_list_append PySem.F.type_list_append mt_append (pv 4) (pa_cons (pe_callTy call_tuple_of rfl T.tuple boot_tuple (pa_cons (pe_lc rfl scSqo.nd (pi_tup (pv 6)) (blkOk_by (own:=[("x",9)]) (by kernel_rfl)) (fun s H C cl fp=>pg_name (i:=9) scSqo.nd rfl (Or.inl rfl) (Or.inr rfl)) (fun s H C cl fp=>pts_nil)
            (fun s H C cl fp=>pe_op op_fdivN (pv 9) (pv 1))) pa_nil)) pa_nil)))))))
      (pss_one (ps_ret (pv 4))))),?_⟩
    obtain ⟨p,cs,rfl,hcs⟩:=len_succ (l:=us) (n:=d) hul
    cases pr with
    | @cons u0 _ vs' _ ru pr' =>
      obtain ⟨q,rfl,hq⟩:=ru
      have hpl:p.length = d:=hl p (by simp)
      refine ⟨_,rfl,_,rfl,a,_,rfl,SqL.of ha,fun b hbn=>?_⟩
      have ecut:cutV (V.ref q :: vs') (some (1:Int)) none = vs':=cut_drop (V.ref q :: vs') 1 (by simp)
      have s2:=same_upd (o:=.lst (cutV (V.ref q :: vs') (some (1:Int)) none)) hbn
      have hb2:upd H b (.lst (cutV (V.ref q :: vs') (some (1:Int)) none)) b = some (.lst vs'):=by rw [upd_same,ecut]
      generalize upd H b (.lst (cutV (V.ref q :: vs') (some (1:Int)) none)) = H2 at s2 hb2
      refine ⟨b,rfl,⟨_,SqL.of hb2⟩,fun D1 hD1=>lc_listM (zs:=cs) (R:=Row true) row_st (fun _=>true) (fun y=>Sx38.sub y p) hD1 (SqL.of hb2) (paired_len pr') (small_ok (by omega)) (fun j x z H3 ex ez s3 hDs Nx Fx n1 n2=>?_) (fun H3 ys s3 e1 e2=>?_)⟩
      · refine ⟨rfl,?_⟩
        obtain ⟨z',hz',rx⟩:=paired_at pr' ex
        have:z' = z:=Option.some.inj (hz'.symm.trans ez)
        subst this
        have mz:z'∈cs:=List.mem_of_getElem? ez
        refine ⟨_,rfl,_,rfl,a,_,_,_,rfl,rfl,SqL.of ((s2.trans s3) _ _ ha),at_of (j:=0) rfl rfl,_,_,z',p,rfl,row_st _ _ _ _ (s2.trans s3) rx,⟨q,rfl,(s2.trans s3) _ _ hq⟩,by rw [hl z' (by simp [mz]),hpl],by rw [hl z' (by simp [mz])];omega,fun p4 H4 s4 e4=>n1 _ _ rfl s4 ⟨p4,rfl,off_at (fun z=>?_) e4⟩⟩
        obtain ⟨acc,hacc⟩:=hDs
        have:=s4 _ _ hacc
        rw [← z,e4] at this
        cases this
      · rw [List.filter_eq_self.mpr (fun _ _=>rfl)] at e2
        have ew:waysP (p :: cs) = cs.map fun y=>Sx38.sub y p:=rfl
        rw [← ew] at e2
        generalize hws:waysP (p :: cs) = ws at e2 k
        have lws:ws.length = d:=by rw [← hws,ew,List.length_map];exact hcs
        have wl:∀ y∈ws,y.length = d:=fun y hy=>by
          rw [← hws,ew] at hy
          obtain ⟨z,hz,rfl⟩:=List.mem_map.mp hy
          exact WP.sub_length (hl z (by simp [hz])) hpl
        have wb:∀ y∈ws,Bd 8 y:=fun y hy=>by
          rw [← hws,ew] at hy
          obtain ⟨z,hz,rfl⟩:=List.mem_map.mp hy
          exact sub_bd (hb z (by simp [hz])) (hb p (by simp))
        have lys:=paired_len e2
        refine ⟨Nat.zero_le _,fun n0 hn0=>?_⟩
        dsimp only [tSeq,tAsg,gName,tC]
        have s4:=same_upd (o:=.lst []) hn0
        have s03:=s2.trans s3
        have etn:((ys.length:Nat):Int).toNat = d:=by rw [Int.toNat_natCast,lys,lws]
        refine ⟨_,rfl,D1,_,rfl,.inl (SqL.of (s4 _ _ e1)),_,rfl,by omega,by omega,?_⟩
        rw [etn]
        refine for_range (lo:=0) (n:=d) (fun i σ H'=>∃ (o5 o6:Option V) (acc:List V),σ = [some v,some (.int D),some (.ref a),some (.ref D1),some (.ref n0),o5,o6,none,none,none]∧Same H3 H'∧H' n0 = some (.lst acc)∧Paired (Row true (off H' n0)) acc ((List.range i).map (sqRow d bs ws))∧∀ j,j < i→sqOk d bs ws j = true)
          ⟨none,none,[],rfl,s4,upd_same,.nil,fun j hj=>by omega⟩ ?_ ?_
        · rintro i σ H5 hi ⟨o5,o6,acc,rfl,s5,g5,pacc,hok⟩
          obtain ⟨al,af⟩:=adj_facts hM h3 hbb
          refine ⟨_,rfl,_,rfl,D1,rfl,⟨_,SqL.of (s5 _ _ e1)⟩,fun D2 hD2=>lc_listM (zs:=ws) (R:=IntR) int_st (fun _=>true) (fun y=>at0 y i) hD2 (SqL.of (s5 _ _ e1)) lys (small_ok (by omega)) (fun j x z H6 ex ez s6 hDs Nx Fx n1 n2=>?_) (fun H6 zs s6 f1 f2=>?_)⟩
          · refine ⟨rfl,?_⟩
            obtain ⟨z',hz',rx⟩:=paired_at e2 ex
            have:z' = z:=Option.some.inj (hz'.symm.trans ez)
            subst this
            have mz:z'∈ws:=List.mem_of_getElem? ez
            obtain ⟨q2,rfl,hq2⟩:=row_st _ _ _ _ (s5.trans s6) rx
            exact ⟨_,rfl,_,rfl,q2,_,_,_,rfl,rfl,SqT.of hq2,atI_int' (c:=i) (by simp) (by rw [wl z' mz];exact hi),n1 _ _ rfl (Same.refl _) rfl⟩
          · rw [List.filter_eq_self.mpr (fun _ _=>rfl)] at f2
            have f3:=ints_eq f2
            subst f3
            have s06:=(s03.trans s5).trans s6
            refine ⟨false,v,_,adjM d bs,ws.map (fun y=>at0 y i),rfl,lst_st row_st _ _ _ _ s06 LU,⟨D2,rfl,f1⟩,fun r hr=>by rw [(af r hr).1,List.length_map,lws],by rw [List.length_map];omega,by omega,fun r hr=>(af r hr).2,fun z hz=>?_,fun r7 H7 s7 g7=>?_⟩
            · obtain ⟨y,hy,rfl⟩:=List.mem_map.mp hz
              exact Nat.le_trans (wb y hy _ (at0_mem (by rw [wl y hy];exact hi))) (by decide)
            · rw [laplace h1 h3 hM ⟨lws,wl⟩ hi] at g7
              have ln:(numR d bs ws i).length = d:=by simp [numR]
              have s67:=s6.trans s7
              have s57:=s5.trans s67
              refine ⟨_,rfl,r7,rfl,⟨_,SqT.of g7⟩,fun D3 hD3=>lc_tupM (zs:=numR d bs ws i) int_st (fun _=>true) (fun z:Int=>z.fmod D) hD3 (SqT.of g7) (by simp) (small_ok (by omega)) (fun j x z H8 ex ez s8 hDs Nx Fx n1 n2=>?_) (fun H8 ys8 s8 h8a h8b=>?_)⟩
              · have e:x = .int z:=by rw [List.getElem?_map,ez] at ex;exact (Option.some.inj ex).symm
                subst e
                refine ⟨rfl,?_⟩
                exact ⟨_,rfl,_,rfl,_,_,rfl,rfl,hD0,n1 _ _ rfl (Same.refl _) rfl⟩
              · have h8c:=ints_eq h8b
                rw [List.filter_eq_self.mpr (fun _ _=>rfl)] at h8c
                subst h8c
                refine ⟨D3,_,rfl,.inl (SqL.of h8a),_,rfl,ite2 (fun c1=>?_) (fun c1=>?_)⟩
                · have c1:(((numR d bs ws i).map fun z=>z.fmod D).any fun x=>x != 0) = true:=c1
                  rw [any_mod,hD] at c1
                  have no:sqOk d bs ws i = false:=by unfold sqOk;rw [c1];rfl
                  rw [sq_none hi no] at k
                  exact ⟨Nat.zero_le _,fun pz hpz=>k _ _ (((s03.trans s57).trans s8).trans (same_upd hpz)) ⟨pz,[],rfl,upd_same,.nil⟩⟩
                · have c1:¬ (((numR d bs ws i).map fun z=>z.fmod D).any fun x=>x != 0) = true:=c1
                  rw [any_mod,hD] at c1
                  have yes:sqOk d bs ws i = true:=by unfold sqOk;simpa using c1
                  have s58:=s67.trans s8
                  refine ⟨_,rfl,.inl ⟨rfl,_,SqL.of (s58 _ _ g5)⟩,_,rfl,r7,rfl,⟨_,SqT.of (s8 _ _ g7)⟩,fun D4 hD4=>lc_tupM (zs:=numR d bs ws i) int_st (fun _=>true) (fun z:Int=>z.fdiv D) hD4 (SqT.of (s8 _ _ g7)) (by simp) (small_ok (by omega)) (fun j x z H9 ex ez s9 hDs Nx Fx n1 n2=>?_) (fun H9 ys9 s9 h9a h9b=>?_)⟩
                  · have e:x = .int z:=by rw [List.getElem?_map,ez] at ex;exact (Option.some.inj ex).symm
                    subst e
                    refine ⟨rfl,?_⟩
                    exact ⟨_,rfl,_,rfl,_,_,rfl,rfl,⟨hD0,by rw [hD];exact det_small hM h3 hbb⟩,n1 _ _ rfl (Same.refl _) rfl⟩
                  · have h9c:=ints_eq h9b
                    rw [List.filter_eq_self.mpr (fun _ _=>rfl)] at h9c
                    have er:((numR d bs ws i).map fun z=>z.fdiv D) = sqRow d bs ws i:=by
                      unfold sqRow
                      rw [hD]
                      refine List.map_congr_left fun z hz=>fdiv0 ?_
                      have c2:=Bool.eq_false_iff.mpr c1
                      rw [List.any_eq_false] at c2
                      simpa using c2 z hz
                    rw [er] at h9c
                    subst h9c
                    refine ⟨D4,_,rfl,.inl ⟨SqL.of h9a,fun l hl2=>?_⟩⟩
                    have s10:=same_upd (o:=.tup ((sqRow d bs ws i).map V.int)) hl2
                    have g10:upd H9 l (.tup ((sqRow d bs ws i).map V.int)) l = some (.tup ((sqRow d bs ws i).map V.int)):=upd_same
                    generalize upd H9 l (.tup ((sqRow d bs ws i).map V.int)) = H10 at s10 g10
                    have s510:=(s58.trans s9).trans s10
                    have la:=paired_len pacc
                    have lr2:((List.range i).map (sqRow d bs ws)).length = i:=by simp
                    have gn:=s510 _ _ g5
                    refine ⟨n0,_,_,rfl,rfl,gn,Nat.lt_of_le_of_lt (show acc.length≤8 by omega) (by rw [sizeLine_eq];omega),?_⟩
                    have hne:l≠n0:=fun z=>by rw [z,gn] at g10;cases g10
                    refine ⟨_,_,_,rfl,same_write hn0 (s5.trans s510),upd_same,?_,fun j hj=>?_⟩
                    · rw [List.range_succ,List.map_append]
                      exact paired_snoc (paired_mono (fun _ _ r=>row_st _ _ _ _ ((off_same s510).trans off_upd) r) pacc) ⟨l,rfl,off_at hne (by rw [upd_ne hne];exact g10)⟩
                    · by_cases e:j = i
                      · rw [e];exact yes
                      · exact hok j (by omega)
        · rintro σ H5 ⟨o5,o6,acc,rfl,s5,g5,pacc,hok⟩
          rw [sq_all hok] at k
          exact ⟨_,rfl,k _ H5 (s03.trans s5) ⟨n0,acc,rfl,g5,paired_mono (fun _ _ r=>row_st _ _ _ _ off_le r) pacc⟩⟩
end
abbrev sCrs:Stmt:=top 11
theorem boot_set:bootBuiltins "set" = some (.type "set"):=by decide +kernel
def UpL (C:List Vec):Prop:=C.Nodup∧C.Pairwise fun x y=>Sa83.before y x = false
def spCrs:Sp:=fun vs H Q _=>∃ (v:V) (ps:List Vec) (d:Nat),vs = [v]∧Lst (Row true) H v ps∧ps≠[]∧ps.length≤8∧(∀ x∈ps,x.length = d)∧1≤d∧d≤4∧(∀ x∈ps,Bd 4 x)∧RoomP d ps ∧
  ∀ w H' C,Same H H'→Lst (Row true) H' w C→UpL C→(∀ x,x∈C↔x∈ps∧CornerP d ps x)→C.length≤8→Q w H'
section
variable {P:Program} {w:World} {K:PySem.W.Frag} {mg:Str→Option Value} {base:Heap}
theorem scCrs:FnScope ["points","sides","point"] ["points"] (defScope sCrs):=⟨rfl,rfl,rfl,by decide +kernel,rfl,by decide +kernel,by decide +kernel⟩
theorem ok_crs {f fS fC:Addr} {fd dS dC:FuncData} (F:Fun K "corners_of" "corners_of" sCrs f fd) (T:Tx mg) (ts:mg "set" = none) (Z:Ds K mg) (cS:Cal K mg "sides_of" sSid ["points"] fS dS) (cC:Cal K mg "is_corner" sCor ["point","sides"] fC dC):FnOk P w K mg base CX0 8 f fd ["points"] spCrs:=by
  have GS:FnOk P w K mg base CX0 7 fS dS ["points"] spSid:=ok_sid cS.fn T Z
  have GC:FnOk P w K mg base CX0 3 fC dC ["point","sides"] spCor:=ok_cor cC.fn T Z
  refine F.ok scCrs (fun vs H Q E h=>?_) (fun cdv A outer s H vs Q E hr h=>?_)
  · obtain ⟨v,ps,d,rfl,_⟩:=h
    rfl
  · obtain ⟨v,ps,d,rfl,⟨a,us,rfl,ha,pr⟩,h0,h8,hl,h1,h4,hb,hR,k⟩:=h
    have hr3:Room 3 _:=hr.mono (by decide)
    refine ⟨_,pss_cons (ps_set (i:=1) scCrs.nd rfl (Or.inr rfl) (pe_call GS hr rfl cS.at_ cS.fn.kp cS.bi .nil pass0 (pa_cons (pv 0) pa_nil)))
      (pss_one (ps_ret (pe_callB (ST.cr_sortedS rfl) rfl T.sorted boot_sorted (pa_cons (pe_callTy (ST.cr_setT rfl hr.units) rfl ts boot_set (pa_cons (pe_lc rfl scCrs.nd (pi_list (pv 0)) (blkOk_by (own:=[("point",2)]) (by kernel_rfl))
        (fun s H C cl fp=>pg_name (i:=2) scCrs.nd rfl (Or.inl rfl) (Or.inr rfl)) (fun s H C cl fp=>pts_one (pt_val (pe_call GC hr3 rfl cC.at_ cC.fn.kp cC.bi .nil pass0 (pa_cons (pv 2) (pa_cons (pv 1) pa_nil))))) (fun s H C cl fp=>pv 2)) pa_nil)) pa_nil)))),?_⟩
    have lu:=paired_len pr
    refine ⟨_,rfl,_,ps,d,rfl,⟨a,us,rfl,ha,pr⟩,h0,h8,hl,h1,h4,hb,hR,fun sv H1 S s1 LS hS hs h56 hbd=>?_⟩
    refine ⟨_,rfl,a,rfl,⟨_,SqL.of (s1 _ _ ha)⟩,fun D hD=>lc_listM (zs:=ps) (R:=Row true) row_st (fun x=>decide (rankOf (meets S x) = d)) (fun x=>x) hD (SqL.of (s1 _ _ ha)) lu (small_ok (by omega)) (fun i y z H2 ey ez s2 hDs Nx Fx n1 n2=>?_) (fun H2 ys s2 e1 e2=>?_)⟩
    · refine ⟨rfl,?_⟩
      obtain ⟨z',hz',ry⟩:=paired_at pr ey
      have:z' = z:=Option.some.inj (hz'.symm.trans ez)
      subst this
      have mz:z'∈ps:=List.mem_of_getElem? ez
      refine ⟨_,rfl,_,rfl,_,_,z',S,d,rfl,row_st _ _ _ _ (s1.trans s2) ry,lst_st side_st _ _ _ _ s2 LS,hl z' mz,fun s hs=>((hS s.1 s.2).mp hs).len,hbd,hb z' mz,h4,h56,fun H3 s3=>?_⟩
      refine ⟨_,rfl,ite2 (fun c1=>?_) (fun c1=>?_)⟩
      · obtain ⟨q,rfl,hq⟩:=row_st _ _ _ _ (s1.trans (s2.trans s3)) ry
        obtain ⟨acc,hacc⟩:=hDs
        refine ⟨_,rfl,n1 _ _ c1 s3 ⟨q,rfl,off_at (fun z=>?_) hq⟩⟩
        have:=s3 _ _ hacc
        rw [← z,hq] at this;cases this
      · exact n2 _ (by simpa using c1) s3
    · rw [List.map_id'] at e2
      obtain ⟨zs,ez1,ez2,ez3⟩:=rows_pairs e2
      subst ez1
      have lz:zs.length≤8:=by
        have:zs.length = (zs.map (·.1)).length:=by rw [List.length_map]
        rw [this,ez2]
        exact Nat.le_trans (List.length_filter_le _ _) h8
      have mz:∀ z∈zs,z.1∈ps∧rankOf (meets S z.1) = d:=fun z hz=>by
        have:z.1∈zs.map (·.1):=List.mem_map.mpr ⟨z,hz,rfl⟩
        rw [ez2,List.mem_filter] at this
        exact ⟨this.1,by simpa using this.2⟩
      refine ⟨D,zs,rfl,SqL.of e1,ez3,lz,fun xs p nd sub mem hp=>?_⟩
      have s3:=same_upd (o:=ST.SDo w p xs) hp
      refine ⟨p,xs,d,rfl,upd_same,fun z hz=>s3 _ _ (ez3 z (sub z hz)),fun z hz=>hl z.1 (mz z (sub z hz)).1,h1,fun yy q perm pw hq=>?_⟩
      have s4:=same_upd (o:=.lst (yy.map fun y=>V.ref y.2)) hq
      have nd2:(yy.map (·.1)).Nodup:=(perm.map (·.1)).nodup_iff.mpr nd
      refine k _ _ (yy.map (·.1)) ((s1.trans s2).trans (s3.trans s4)) ⟨q,_,rfl,upd_same,pairs_rows fun z hz=>(s3.trans s4) _ _ (ez3 z (sub z (perm.mem_iff.mp hz)))⟩ ⟨nd2,by rw [List.pairwise_map];exact pw⟩ (fun x=>?_) ?_
      · rw [(perm.map (·.1)).mem_iff,← corner_iff h1 h4 hl hR hS x]
        constructor
        · intro hx
          obtain ⟨y,hy,rfl⟩:=List.mem_map.mp hx
          exact mz y (sub y hy)
        · rintro ⟨hx,hc⟩
          have:x∈zs.map (·.1):=by rw [ez2,List.mem_filter];exact ⟨hx,by simpa using hc⟩
          obtain ⟨z,hz,rfl⟩:=List.mem_map.mp this
          exact mem z hz
      · have:=mem_le (l:=yy.map (·.1)) (m:=zs.map (·.1)) nd2 fun x hx=>by
          obtain ⟨y,hy,rfl⟩:=List.mem_map.mp hx
          exact List.mem_map.mpr ⟨y,sub y (perm.mem_iff.mp hy),rfl⟩
        exact Nat.le_trans this (by rw [List.length_map];exact lz)
end
abbrev sMps:Stmt:=top 12
def NestR (H:Hp) (v:V) (m:List Vec × Vec):Prop:=∃ (p l t:Addr) (zs:List (Vec × Addr)),v = .ref p∧H p = some (.tup [.ref l,.ref t])∧H l = some (.lst (zs.map fun z=>V.ref z.2))∧(∀ z∈zs,H z.2 = some (.tup (z.1.map V.int)))∧zs.map (·.1) = m.1∧H t = some (.tup (m.2.map V.int))
theorem nest_st:Stable NestR:=fun _ _ _ _ s ⟨p,l,t,zs,e,h1,h2,h3,h4,h5⟩=>⟨p,l,t,zs,e,s _ _ h1,s _ _ h2,fun z hz=>s _ _ (h3 z hz),h4,s _ _ h5⟩
def spMps:Sp:=fun vs H Q _=>∃ (u v:V) (C G:List Vec) (d:Nat),vs = [u,v]∧Lst (Row true) H u C∧Lst (Row true) H v G∧UpL C∧UpL G∧(∀ x∈C,x.length = d)∧(∀ x∈G,x.length = d)∧(∀ x∈C,Bd 4 x)∧(∀ x∈G,Bd 4 x)∧C.length≤8∧G.length≤8∧1≤d∧d≤3∧C≠[]∧RoomP d C ∧
  ∀ w H' ms,Same H H'→Lst NestR H' w ms→(∀ M v,(M,v)∈ms↔MapP d C G M v)→Q w H'
theorem at_8 {y:Vec} {i:Nat} (h:Bd 8 y):(Sa83.at_ y i).natAbs≤8:=by
  unfold Sa83.at_
  rw [List.getD_eq_getElem?_getD]
  cases e:y[i]? with
  | none=>simp
  | some z=>exact h z (List.mem_of_getElem? e)
theorem num_bd {d:Nat} {bs im:List Vec} (hM:IsMat d bs) (hb:∀ r∈bs,Bd 8 r) (hi:∀ r∈im,Bd 8 r) (h3:d≤3) {i k:Nat}:(crNum d bs im i k).natAbs≤2 ^ 20:=by
  have h2:=dB_le d (by omega)
  refine Nat.le_trans (det_bd (M:=8) d _ ?_ (fun r hr=>?_) fun r hr=>?_) h2
  · simp [hM.1]
  · obtain ⟨x,hx,rfl⟩:=List.mem_map.mp hr
    have:=hM.2 x.1 (List.fst_mem_of_mem_zipIdx hx)
    simp [this]
  · obtain ⟨x,hx,rfl⟩:=List.mem_map.mp hr
    intro z hz
    obtain ⟨y,hy,rfl⟩:=List.mem_map.mp hz
    split
    · refine at_8 ?_
      rw [List.getD_eq_getElem?_getD]
      cases e:im[x.2]? with
      | none=>intro z hz;simp at hz
      | some r=>exact hi r (List.mem_of_getElem? e)
    · exact hb x.1 (List.fst_mem_of_mem_zipIdx hx) _ (List.fst_mem_of_mem_zipIdx hy)
theorem sq_bd {d:Nat} {bs im:List Vec} (hM:IsMat d bs) (hb:∀ r∈bs,Bd 8 r) (hi:∀ r∈im,Bd 8 r) (h3:d≤3):∀ r∈sqP d bs im,Bd (2 ^ 20) r:=by
  intro r hr
  unfold sqP at hr
  split at hr
  · obtain ⟨i,_,rfl⟩:=List.mem_map.mp hr
    intro z hz
    obtain ⟨y,hy,rfl⟩:=List.mem_map.mp hz
    obtain ⟨k,_,rfl⟩:=List.mem_map.mp hy
    exact Nat.le_trans (Int.natAbs_ediv_le_natAbs _ _) (num_bd hM hb hi h3)
  · cases hr
theorem nest_ne {H0 H:Hp} {n0:Addr} {acc:List V} {ms:List (List Vec × Vec)} {M:List Vec} (s:Same H0 H) (pa:Paired (NestR H0) acc ms) (g:H n0 = some (.lst acc)) (L:Lst (Row true) H (.ref n0) M) (h0:M≠[]) (h1:∀ r∈M,r≠[]):False:=by
  obtain ⟨a,vs,e,ha,pr⟩:=L
  injection e with e
  rw [← e,g] at ha
  have ea:acc = vs:=by injection ha with ha;injection ha
  subst ea
  cases pr with
  | nil=>exact h0 rfl
  | @cons u r _ _ ru _ =>
    cases pa with
    | cons rn _ =>
      obtain ⟨p,l,t,zs,e1,h2,_⟩:=rn
      obtain ⟨q,e2,h3⟩:=ru
      rw [e1] at e2
      injection e2 with e2
      have h4:=s _ _ h2
      rw [e2,h3] at h4
      have h5:r.map V.int = [V.ref l,V.ref t]:=by injection h4 with h4;injection h4
      cases r with
      | nil=>cases h5
      | cons z r=>cases h5
theorem tuples_ne {G:List Vec} {k:Nat} (nd:G.Nodup) (h:k≤G.length):Sx38.tuples G k≠[]:=fun q=>by
  have:G.take k∈Sx38.tuples G k:=mem_tuples.mpr ⟨by rw [List.length_take];omega,nd.sublist (List.take_sublist k G),fun x hx=>List.mem_of_mem_take hx⟩
  rw [q] at this;cases this
theorem lst_ne {R:Hp→V→Vec→Prop} {H:Hp} {n0:Addr} {v:V} {u:List Vec} (g:H n0 = some (.lst [])) (L:Lst R H v u) (h:u≠[]):v≠.ref n0:=fun e=>by
  obtain ⟨a,vs,e1,ha,pr⟩:=L
  rw [e1] at e
  injection e with e
  rw [e,g] at ha
  have:vs = []:=by cases ha;rfl
  subst this
  cases pr
  exact h rfl
section
variable {P:Program} {w:World} {K:PySem.W.Frag} {mg:Str→Option Value} {base:Heap}
structure Ms (K:PySem.W.Frag) (mg:Str→Option Value) where
  fB:Addr
  dB:FuncData
  cB:Cal K mg "base_of" sBas ["corners"] fB dB
  fA:Addr
  dA:FuncData
  cA:Cal K mg "arrangements" sArr ["points","size"] fA dA
  fQ:Addr
  dQ:FuncData
  cQ:Cal K mg "square_of" sSqo ["undone","divisor","images"] fQ dQ
  fJ:Addr
  dJ:FuncData
  cJ:Cal K mg "adjugate" sAdj ["rows"] fJ dJ
  fC:Addr
  dC:FuncData
  cC:Cal K mg "cofactor" sCof ["rows","place","column"] fC dC
  fM:Addr
  dM:FuncData
  cM:Cal K mg "moved" sMov ["point","way"] fM dM
  fT:Addr
  dT:FuncData
  cT:Cal K mg "times" sTim ["rows","point"] fT dT
theorem scMps:FnScope ["corners","goals","base","ways","undone","divisor","found","images","square","v","corner"] ["corners","goals"] (defScope sMps):=⟨rfl,rfl,rfl,by decide +kernel,rfl,by decide +kernel,by decide +kernel⟩
theorem ok_mps {f fr:Addr} {fd dr:FuncData} (F:Fun K "maps_between" "maps_between" sMps f fd) (T:Tx mg) (Z:Ds K mg) (Y:Ms K mg) (cr:Cal K mg "room_of" sRm ["points"] fr dr):FnOk P w K mg base CX0 7 f fd ["corners","goals"] spMps:=by
  have GB:FnOk P w K mg base CX0 4 Y.fB Y.dB ["corners"] spBas:=ok_bas Y.cB.fn T Z cr
  have GF:FnOk P w K mg base CX0 1 Z.fF Z.dF ["point","other"] spDif:=ok_dif Z.cF.fn T
  have GJ:FnOk P w K mg base CX0 6 Y.fJ Y.dJ ["rows"] spAdj:=ok_adj Y.cJ.fn T Y.cC Z.cD Z.cW
  have GD:FnOk P w K mg base CX0 5 Z.fD Z.dD ["rows"] (spDet 3):=ok_det Z.cD T Z.cW 3
  have GA:FnOk P w K mg base CX0 1 Y.fA Y.dA ["points","size"] spArr:=ok_arr Y.cA.fn T
  have GQ:FnOk P w K mg base CX0 3 Y.fQ Y.dQ ["undone","divisor","images"] spSqo:=ok_sqo Y.cQ.fn T Z.cF Y.cT Z.cV
  have GT:FnOk P w K mg base CX0 2 Y.fT Y.dT ["rows","point"] spTim:=ok_tim Y.cT.fn T Z.cV
  have GM:FnOk P w K mg base CX0 1 Y.fM Y.dM ["point","way"] spMov:=ok_mov Y.cM.fn T
  refine F.ok scMps (fun vs H Q E h=>?_) (fun cdv A outer s H vs Q E hr h=>?_)
  · obtain ⟨u,v,C,G,d,rfl,_⟩:=h
    rfl
  · obtain ⟨u,v,C,G,d,rfl,⟨a,us,rfl,ha,pr⟩,⟨b,gs,rfl,hgb,pg⟩,uC,uG,lC,lG,bC,bG,c8,g8,h1,h3,cne,hR,k⟩:=h
    have hr5:Room 5 _:=hr.mono (by decide)
    have hr4:Room 4 _:=hr.mono (by decide)
    have hr3:Room 3 _:=hr.mono (by decide)
    have hr2:Room 2 _:=hr.mono (by decide)
    have hr1:Room 1 _:=hr.mono (by decide)
    refine ⟨_,pss_cons (ps_if (pt_cmpR op_ne (pe_callB call_len_seq rfl T.len PySem.boot_len (pa_cons (pv 0) pa_nil)) (pe_callB call_len_seq rfl T.len PySem.boot_len (pa_cons (pv 1) pa_nil)) (nomark _)) (pss_one (ps_ret (pe_lst pa_nil))) pss_nil)
      (pss_cons (ps_set (i:=2) scMps.nd rfl (Or.inr rfl) (pe_call GB hr4 rfl Y.cB.at_ Y.cB.fn.kp Y.cB.bi .nil pass0 (pa_cons (pv 0) pa_nil)))
      (pss_cons (ps_setLc (i:=3) rfl scMps.nd rfl rfl (sw_true rfl rfl rfl (by kernel_rfl)) (pi_list (pe_slice sl_list (pv 2) (po_some pe_int) po_none)) (blkOk_by (own:=[("corner",10)]) (by kernel_rfl))
        (fun s H C cl fp=>pg_name (i:=10) scMps.nd rfl (Or.inl rfl) (Or.inr rfl)) (fun s H C cl fp=>pts_nil)
        (fun s H C cl fp=>pe_call GF hr1 rfl Z.cF.at_ Z.cF.fn.kp Z.cF.bi .nil pass0 (pa_cons (pv 10) (pa_cons (pe_ix (ix_lK (K:=K) rfl) (pv 2) pe_int (fun _ _=>rfl)) pa_nil))))
      (pss_cons (ps_set (i:=4) scMps.nd rfl (Or.inl rfl) (pe_call GJ hr rfl Y.cJ.at_ Y.cJ.fn.kp Y.cJ.bi .nil pass0 (pa_cons (pv 3) pa_nil)))
      (pss_cons (ps_set (i:=5) scMps.nd rfl (Or.inl rfl) (pe_call GD hr5 rfl Z.cD.at_ Z.cD.fn.kp Z.cD.bi .nil pass0 (pa_cons (pv 3) pa_nil)))
      (pss_cons (ps_set (i:=6) scMps.nd rfl (Or.inl rfl) (pe_lst pa_nil))
      (pss_cons (ps_for PassesOwn.never rfl (pi_list (pe_call GA hr1 rfl Y.cA.at_ Y.cA.fn.kp Y.cA.bi .nil pass0 (pa_cons (pv 1) (pa_cons (pe_callB call_len_seq rfl T.len PySem.boot_len (pa_cons (pv 2) pa_nil)) pa_nil)))) (pg_name (i:=7) scMps.nd rfl (Or.inl rfl))
        (pss_cons (ps_set (i:=8) scMps.nd rfl (Or.inr rfl) (pe_call GQ hr3 rfl Y.cQ.at_ Y.cQ.fn.kp Y.cQ.bi .nil pass0 (pa_cons (pv 4) (pa_cons (pv 5) (pa_cons (pv 7) pa_nil)))))
        (pss_one (ps_if (PW.pt (pw_and (pt_truth (pv 8) (fun _=>rfl)) (pw_and1 (pt_cmpR op_eq (pe_callB call_abs rfl T.abs boot_abs (pa_cons (pe_call GD hr5 rfl Z.cD.at_ Z.cD.fn.kp Z.cD.bi .nil pass0 (pa_cons (pv 8) pa_nil)) pa_nil)) pe_int (nomark _)))))
          (pss_cons (ps_set (i:=9) scMps.nd rfl (Or.inr rfl) (pe_call GF hr1 rfl Z.cF.at_ Z.cF.fn.kp Z.cF.bi .nil pass0 (pa_cons (pe_ix ix_list (pv 7) pe_int (fun _ _=>rfl)) (pa_cons (pe_call GT hr2 rfl Y.cT.at_ Y.cT.fn.kp Y.cT.bi .nil pass0 (pa_cons (pv 8) (pa_cons (pe_ix ix_list (pv 2) pe_int (fun _ _=>rfl)) pa_nil))) pa_nil))))
          (pss_one (ps_if (pt_cmpR (ST.op_eqT hr.units) (pe_callB ST.cr_sortedT rfl T.sorted boot_sorted (pa_cons (pe_lc rfl scMps.nd (pi_list (pv 0)) (blkOk_by (own:=[("corner",10)]) (by kernel_rfl)) (fun s H C cl fp=>pg_name (i:=10) scMps.nd rfl (Or.inl rfl) (Or.inr rfl)) (fun s H C cl fp=>pts_nil)
              (fun s H C cl fp=>pe_call GM hr1 rfl Y.cM.at_ Y.cM.fn.kp Y.cM.bi .nil pass0 (pa_cons (pe_call GT hr2 rfl Y.cT.at_ Y.cT.fn.kp Y.cT.bi .nil pass0 (pa_cons (pv 8) (pa_cons (pv 10) pa_nil))) (pa_cons (pv 9) pa_nil)))) pa_nil)) (pv 1) (nomark _))
            (pss_one (ps_expr (pe_bm PySem.F.plainAttrs_list PySem.F.slot_list_append PySem.F.type_list_append mt_append (pv 6) (pa_cons (pe_tup (pa_cons (pv 8) (pa_cons (pv 9) pa_nil))) pa_nil)))) pss_nil)))
          pss_nil))))
      (pss_one (ps_ret (pv 6))))))))),?_⟩
    have lu:=paired_len pr
    have lg:=paired_len pg
    refine ⟨_,rfl,a,_,rfl,.inl (SqL.of ha),_,rfl,b,_,rfl,.inl (SqL.of hgb),rfl,_,rfl,ite2 (fun c1=>?_) (fun c1=>?_)⟩
    · have c1:C.length≠G.length:=fun q=>by
        have:us.length = gs.length:=by omega
        rw [this] at c1
        simp at c1
      refine ⟨Nat.zero_le _,fun pz hpz=>k _ _ [] (same_upd hpz) ⟨pz,[],rfl,upd_same,.nil⟩ fun M v=>⟨fun h=>(nomatch h),fun P=>absurd P.len c1⟩⟩
    · have clen:C.length = G.length:=by
        have:¬ us.length≠gs.length:=fun q=>c1 (by
          have:¬ ((us.length:Nat):Int) = ((gs.length:Nat):Int):=by omega
          simpa using this)
        omega
      refine ⟨_,rfl,_,C,d,rfl,⟨a,us,rfl,ha,pr⟩,c8,lC,h1,by omega,bC,fun bw H1 s1 LB=>?_⟩
      obtain ⟨bl,br,bs⟩:=base_ok lC cne hR
      obtain ⟨t0,ts,et,hts⟩:=len_succ (l:=baseP [] C) (n:=d) bl
      rw [et] at LB br bs
      have tl:∀ x∈t0 :: ts,x.length = d:=fun x hx=>lC x (bs x hx)
      have tb:∀ x∈t0 :: ts,Bd 4 x:=fun x hx=>bC x (bs x hx)
      have hdet:=base_det h1 (by omega) tl hts br
      have tn:(t0 :: ts).Nodup:=by
        obtain ⟨s,e,hs⟩:=baseP_sub C []
        rw [et] at e
        rw [e]
        exact uC.1.sublist (by simpa using hs)
      have found:=fun {M:List Vec} {v:Vec}=>mem_found h1 h3 (C:=C) (G:=G) lC lG bs hts tn hdet (M:=M) (v:=v)
      obtain ⟨ba,bus,rfl,hba,pb⟩:=LB
      cases pb with
      | @cons u0 _ bus' _ ru pb' =>
      obtain ⟨q,rfl,hq⟩:=ru
      have hpl:t0.length = d:=tl t0 (by simp)
      refine ⟨_,rfl,_,rfl,ba,_,rfl,SqL.of hba,fun b2 hbn=>?_⟩
      have ecut:cutV (V.ref q :: bus') (some (1:Int)) none = bus':=cut_drop (V.ref q :: bus') 1 (by simp)
      have s2:=same_upd (o:=.lst (cutV (V.ref q :: bus') (some (1:Int)) none)) hbn
      have hb2:upd H1 b2 (.lst (cutV (V.ref q :: bus') (some (1:Int)) none)) b2 = some (.lst bus'):=by rw [upd_same,ecut]
      generalize upd H1 b2 (.lst (cutV (V.ref q :: bus') (some (1:Int)) none)) = H2 at s2 hb2
      refine ⟨b2,rfl,⟨_,SqL.of hb2⟩,fun D1 hD1=>lc_listM (zs:=ts) (R:=Row true) row_st (fun _=>true) (fun y=>Sx38.sub y t0) hD1 (SqL.of hb2) (paired_len pb') (small_ok (by omega)) (fun j x z H3 ex ez s3 hDs Nx Fx n1 n2=>?_) (fun H3 ys s3 e1 e2=>?_)⟩
      · refine ⟨rfl,?_⟩
        obtain ⟨z',hz',rx⟩:=paired_at pb' ex
        have:z' = z:=Option.some.inj (hz'.symm.trans ez)
        subst this
        have mz:z'∈ts:=List.mem_of_getElem? ez
        refine ⟨_,rfl,_,rfl,ba,_,_,_,rfl,rfl,SqL.of ((s2.trans s3) _ _ hba),at_of (j:=0) rfl rfl,_,_,z',t0,rfl,row_st _ _ _ _ (s2.trans s3) rx,⟨q,rfl,(s2.trans s3) _ _ hq⟩,by rw [tl z' (by simp [mz]),hpl],by rw [tl z' (by simp [mz])];omega,fun p4 H4 s4 e4=>n1 _ _ rfl s4 ⟨p4,rfl,off_at (fun z=>?_) e4⟩⟩
        obtain ⟨acc,hacc⟩:=hDs
        have:=s4 _ _ hacc
        rw [← z,e4] at this
        cases this
      · rw [List.filter_eq_self.mpr (fun _ _=>rfl)] at e2
        have ew:waysP (t0 :: ts) = ts.map fun y=>Sx38.sub y t0:=rfl
        rw [← ew] at e2 hdet
        generalize hws:waysP (t0 :: ts) = ws at e2 hdet
        have lws:ws.length = d:=by rw [← hws,ew,List.length_map];exact hts
        have wl:∀ y∈ws,y.length = d:=fun y hy=>by
          rw [← hws,ew] at hy
          obtain ⟨z,hz,rfl⟩:=List.mem_map.mp hy
          exact WP.sub_length (tl z (by simp [hz])) hpl
        have wb:∀ y∈ws,Bd 8 y:=fun y hy=>by
          rw [← hws,ew] at hy
          obtain ⟨z,hz,rfl⟩:=List.mem_map.mp hy
          exact sub_bd (tb z (by simp [hz])) (tb t0 (by simp))
        have wm:IsMat d ws:=⟨lws,wl⟩
        have s13:=s2.trans s3
        have s03:=s1.trans s13
        refine ⟨_,rfl,_,ws,d,rfl,⟨D1,ys,rfl,e1,e2⟩,wm,h3,wb,fun uw H4 s4 LU=>?_⟩
        refine ⟨_,rfl,_,ws,rfl,⟨D1,ys,rfl,s4 _ _ e1,paired_mono (fun _ _ r=>row_st _ _ _ _ s4 r) e2⟩,by omega,by decide,fun r hr=>by rw [wl r hr,lws],fun r hr z hz=>Nat.le_trans (wb r hr z hz) (by decide),fun H5 s5=>?_⟩
        rw [lws]
        generalize hDD:Sx38.det d ws = DD at hdet
        refine ⟨Nat.zero_le _,fun n0 hn0=>?_⟩
        dsimp only [tSeq,tAsg,gName,tC]
        have s6:=same_upd (o:=.lst []) hn0
        have g6:upd H5 n0 (.lst []) n0 = some (.lst []):=upd_same
        generalize upd H5 n0 (.lst []) = H6 at s6 g6
        have s05:=(s03.trans s4).trans s5
        have s06:=s05.trans s6
        have s46:=s5.trans s6
        have s16:=(s13.trans s4).trans s46
        refine ⟨_,rfl,_,rfl,ba,_,rfl,.inl (SqL.of (s16 _ _ hba)),_,G,d + 1,?_,⟨b,gs,rfl,s06 _ _ hgb,paired_mono (fun _ _ r=>row_st _ _ _ _ s06 r) pg⟩,g8,by omega,fun aw H7 s7 LA=>?_⟩
        · have:=paired_len pb'
          simp [this,hts]
        have g7:=s7 _ _ g6
        have une:∀ u∈Sx38.tuples G (d + 1),u≠[]:=fun u hu q=>by
          have:=(mem_tuples.mp hu).1
          rw [q] at this;cases this
        have tne:Sx38.tuples G (d + 1)≠[]:=tuples_ne uG.1 (by
          have:=mem_le tn bs
          rw [List.length_cons,hts] at this
          omega)
        obtain ⟨aa,aus,rfl,haa,pa⟩:=LA
        have ane:aa≠n0:=fun z=>by
          rw [z,g7] at haa
          have:aus = []:=by cases haa;rfl
          rw [this] at pa
          generalize Sx38.tuples G (d + 1) = TT at pa tne
          cases pa
          exact tne rfl
        have haO:off H7 n0 aa = some (.lst aus):=off_at ane haa
        have paO:Paired (Lst (Row true) (off H7 n0)) aus (Sx38.tuples G (d + 1)):=paired_mono (fun v x r=>by
          obtain ⟨r1,r2⟩:=r
          have nv:=lst_ne g7 r1 (une x r2)
          obtain ⟨p1,vs1,e,hp1,pp1⟩:=r1
          exact ⟨p1,vs1,e,off_at (fun z=>nv (by rw [e,z])) hp1,paired_mono (fun _ _ r=>row_off (t:=true) g7 r) pp1⟩) (paired_mem pa)
        have s07:=s06.trans s7
        have s57:=s6.trans s7
        have tlen:=tuples_len g8 (d + 1)
        have p4:8 ^ (d + 1)≤8 ^ 4:=Nat.pow_le_pow_right (by decide) (by omega)
        refine ⟨aa,rfl,⟨_,SqL.of haa⟩,for_list (K:=K) (a:=aa) (xs:=aus) (fun i σ H'=>∃ (o7 o8 o9:Option V) (acc:List V),σ = [some (.ref a),some (.ref b),some (.ref ba),some (.ref D1),some uw,some (.int DD),some (.ref n0),o7,o8,o9,none]∧Same H5 H'∧Same (off H7 n0) H'∧H' n0 = some (.lst acc)∧Paired (NestR (off H' n0)) acc (((Sx38.tuples G (d + 1)).take i).filterMap (tryM d C G (t0 :: ts))))
          ⟨none,none,none,[],rfl,s57,off_le,g7,.nil⟩ (fun i σ H' _ ⟨_,_,_,_,_,_,s8,_⟩=>SqL.of (s8 _ _ haO)) ?_ ?_⟩
        · rintro i y σ H8 hi ⟨o7,o8,o9,acc,rfl,s58,s8,g8n,pacc⟩
          obtain ⟨im,him,rim⟩:=paired_at paO hi
          have mim:=List.mem_of_getElem? him
          obtain ⟨m1,m2,m3⟩:=mem_tuples.mp mim
          have iml:∀ x∈im,x.length = d:=fun x hx=>lG x (m3 x hx)
          have imb:∀ x∈im,Bd 4 x:=fun x hx=>bG x (m3 x hx)
          have s48:=s5.trans s58
          have s08:=s05.trans s58
          have s18:=(s13.trans s4).trans s48
          have L8:=lst_st row_st _ _ _ _ s8 rim
          have la:=paired_len pacc
          have lf:(((Sx38.tuples G (d + 1)).take i).filterMap (tryM d C G (t0 :: ts))).length≤4096:=by
            refine Nat.le_trans (List.length_filterMap_le _ _) ?_
            have:=List.length_take_le' i (Sx38.tuples G (d + 1))
            omega
          have snoc:((Sx38.tuples G (d + 1)).take (i + 1)).filterMap (tryM d C G (t0 :: ts)) = ((Sx38.tuples G (d + 1)).take i).filterMap (tryM d C G (t0 :: ts)) ++ (tryM d C G (t0 :: ts) im).toList:=by
            rw [take_snoc him,List.filterMap_append]
            congr 1
          refine ⟨_,rfl,_,rfl,_,rfl,uw,y,DD,ws,im,d,rfl,lst_st row_st _ _ _ _ s48 LU,L8,wm,wb,hDD.symm,hdet,m1,iml,imb,h1,h3,fun sw H9 s9 LS=>?_⟩
          have imw:∀ r∈waysP im,Bd 8 r:=fun r hr=>by
            unfold waysP at hr
            obtain ⟨x,hx,rfl⟩:=List.mem_map.mp hr
            refine sub_bd (imb x (List.mem_of_mem_drop hx)) ?_
            cases im with
            | nil=>simp at m1
            | cons x0 _=>exact imb x0 (by simp)
          have sqb:=sq_bd wm wb imw h3
          generalize hMM:sqP d ws (waysP im) = M at LS sqb
          have hM2:sqP d (waysP (t0 :: ts)) (waysP im) = M:=by rw [hws];exact hMM
          obtain ⟨sa,svs,rfl,hsa,psq⟩:=LS
          have lsv:=paired_len psq
          have s59:=s58.trans s9
          have s09:=s08.trans s9
          have s19:=s18.trans s9
          have g9:=s9 _ _ g8n
          have stay:∀ (H':Hp),Same H9 H'→tryM d C G (t0 :: ts) im = none→∀ o7 o8 o9:Option V,∃ (o7' o8' o9':Option V) (acc':List V),[some (V.ref a),some (.ref b),some (.ref ba),some (.ref D1),some uw,some (.int DD),some (.ref n0),o7,o8,o9,none] = [some (V.ref a),some (.ref b),some (.ref ba),some (.ref D1),some uw,some (.int DD),some (.ref n0),o7',o8',o9',none]∧Same H5 H'∧Same (off H7 n0) H'∧H' n0 = some (.lst acc')∧Paired (NestR (off H' n0)) acc' (((Sx38.tuples G (d + 1)).take (i + 1)).filterMap (tryM d C G (t0 :: ts))):=fun H' s' e o7 o8 o9=>by
            refine ⟨o7,o8,o9,acc,rfl,s59.trans s',(s8.trans s9).trans s',s' _ _ g9,?_⟩
            rw [snoc,e]
            simpa using paired_mono (fun _ _ r=>nest_st _ _ _ _ (off_same (s9.trans s')) r) pacc
          by_cases hM0:M = []
          · have tn0:tryM d C G (t0 :: ts) im = none:=by
              unfold tryM
              rw [hM2,if_neg fun q=>q.1 hM0]
            subst hM0
            cases psq
            refine ⟨_,rfl,false,.inl ⟨[],SqL.of hsa,rfl⟩,?_⟩
            exact stay H9 (Same.refl _) tn0 _ _ _
          · have mm:IsMat d M:=by
              have:=sqP_mat (d:=d) (base:=ws) (im:=waysP im)
              rw [hMM] at this
              exact this hM0
            have sne:svs≠[]:=fun z=>by
              rw [z] at psq
              cases psq
              first | done | exact hM0 rfl
            refine ⟨_,rfl,true,.inl ⟨svs,SqL.of hsa,by cases svs with | nil=>exact absurd rfl sne | cons _ _=>rfl⟩,?_⟩
            have lM:M.length = d:=mm.1
            refine ⟨_,rfl,_,M,rfl,⟨sa,svs,rfl,hsa,psq⟩,by omega,by decide,fun r hr=>by rw [mm.2 r hr,lM],sqb,fun H10 s10=>?_⟩
            rw [lM]
            have s510:=s59.trans s10
            have s910:=s9.trans s10
            have s010:=s09.trans s10
            have s110:=s19.trans s10
            refine ⟨_,rfl,rfl,_,rfl,ite2 (fun c2=>?_) (fun c2=>?_)⟩
            · have c2:decide (V.int (if Sx38.det d M < 0 then -Sx38.det d M else Sx38.det d M) = V.int 1) = true:=c2
              rw [dec_V] at c2
              have one:(Sx38.det d M).natAbs = 1:=by
                have:=of_decide_eq_true c2
                split at this <;> omega
              obtain ⟨x0,hx0⟩:∃ x0,im[0]? = some x0:=⟨im[0]'(by omega),List.getElem?_eq_getElem _⟩
              have hd0:im.headD [] = x0:=by
                cases im with
                | nil=>cases hx0
                | cons x1 _=>exact Option.some.inj hx0
              have mx0:=List.mem_of_getElem? hx0
              obtain ⟨c,cs,rfl,hc,pc⟩:=L8
              obtain ⟨v0,hv0,rv0⟩:=paired_at' pc hx0
              have lby:∀ x,(Sa83.by_ M x).length = d:=fun x=>by rw [by_length,lM]
              have psq10:Paired (Row true H10) svs M:=paired_mono (fun _ _ r=>row_st _ _ _ _ s10 r) psq
              refine ⟨_,rfl,c,_,_,_,rfl,rfl,SqL.of (s910 _ _ hc),at_of (j:=0) rfl hv0,_,rfl,_,rfl,ba,_,_,_,rfl,rfl,SqL.of (s110 _ _ hba),at_of (j:=0) rfl rfl,true,_,_,M,t0,rfl,⟨sa,svs,rfl,s10 _ _ hsa,psq10⟩,⟨q,rfl,s110 _ _ hq⟩,fun r hr=>by rw [mm.2 r hr,hpl],by omega,by omega,fun r hr=>bd_mono (sqb r hr) (by decide),bd_mono (tb t0 (by simp)) (by decide),fun tq H11 s11 g11=>?_⟩
              refine ⟨_,_,x0,Sa83.by_ M t0,rfl,row_st _ _ _ _ (s910.trans s11) rv0,⟨tq,rfl,g11⟩,by rw [iml x0 mx0,lby],by rw [iml x0 mx0];omega,fun vq H12 s12 g12=>?_⟩
              have evv:vP M (t0 :: ts) im = Sx38.sub x0 (Sa83.by_ M t0):=by unfold vP;rw [hd0];rfl
              generalize hvv:Sx38.sub x0 (Sa83.by_ M t0) = vv at g12 evv
              have lvv:vv.length = d:=by rw [← hvv];exact WP.sub_length (iml x0 mx0) (lby _)
              have s102:=s11.trans s12
              have s012:=s010.trans s102
              have s912:=s10.trans s102
              have hsa12:=s912 _ _ hsa
              have psq12:Paired (Row true H12) svs M:=paired_mono (fun _ _ r=>row_st _ _ _ _ s912 r) psq
              refine ⟨_,rfl,a,rfl,⟨_,SqL.of (s012 _ _ ha)⟩,fun D5 hD5=>lc_listM (zs:=C) (R:=Row true) row_st (fun _=>true) (fun x=>Sa83.plus (Sa83.by_ M x) vv) hD5 (SqL.of (s012 _ _ ha)) lu (small_ok (by omega)) (fun j x z H13 ex ez s13' hDs Nx Fx n1 n2=>?_) (fun H13 ys13 s13' f1 f2=>?_)⟩
              · refine ⟨rfl,?_⟩
                obtain ⟨z',hz',rx⟩:=paired_at pr ex
                have:z' = z:=Option.some.inj (hz'.symm.trans ez)
                subst this
                have mz:z'∈C:=List.mem_of_getElem? ez
                refine ⟨_,rfl,_,rfl,true,_,_,M,z',rfl,⟨sa,svs,rfl,s13' _ _ hsa12,paired_mono (fun _ _ r=>row_st _ _ _ _ s13' r) psq12⟩,row_st _ _ _ _ (s012.trans s13') rx,fun r hr=>by rw [mm.2 r hr,lC z' mz],by rw [lC z' mz];omega,by omega,fun r hr=>bd_mono (sqb r hr) (by decide),bd_mono (bC z' mz) (by decide),fun tq2 H14 s14 g14=>?_⟩
                refine ⟨_,rfl,_,_,Sa83.by_ M z',vv,rfl,⟨tq2,rfl,g14⟩,⟨vq,rfl,(s13'.trans s14) _ _ g12⟩,by rw [lby,lvv],by rw [lby];omega,fun mq H15 s15 g15=>n1 _ _ rfl (s14.trans s15) ⟨mq,rfl,off_at (fun z=>?_) g15⟩⟩
                obtain ⟨acc5,hacc5⟩:=hDs
                have:=(s14.trans s15) _ _ hacc5
                rw [← z,g15] at this
                cases this
              · rw [List.filter_eq_self.mpr (fun _ _=>rfl)] at f2
                obtain ⟨zs,ez1,ez2,ez3⟩:=rows_pairs f2
                subst ez1
                have lzs:zs.length = C.length:=by
                  have:=congrArg List.length ez2
                  simpa using this
                have zl:∀ z∈zs,z.1.length = d:=fun z hz=>by
                  have:z.1∈zs.map (·.1):=List.mem_map.mpr ⟨z,hz,rfl⟩
                  rw [ez2] at this
                  obtain ⟨x,_,e⟩:=List.mem_map.mp this
                  rw [← e];exact plus_length (lby x) lvv
                refine ⟨D5,zs,d,rfl,SqL.of f1,ez3,zl,h1,by omega,fun yy pp perm pw hpp=>?_⟩
                have s14:=same_upd (o:=.lst (yy.map fun y=>V.ref y.2)) hpp
                have g14:upd H13 pp (.lst (yy.map fun y=>V.ref y.2)) pp = some (.lst (yy.map fun y=>V.ref y.2)):=upd_same
                generalize upd H13 pp (.lst (yy.map fun y=>V.ref y.2)) = H14 at s14 g14
                have s1214:=s13'.trans s14
                have s014:=s012.trans s1214
                obtain ⟨zg,eg1,eg2,eg3⟩:=rows_pairs (paired_mono (fun _ _ r=>row_st _ _ _ _ s014 r) pg)
                have lzg:zg.length = G.length:=by rw [← eg2,List.length_map]
                have hgb14:=s014 _ _ hgb
                rw [eg1] at hgb14
                refine ⟨_,rfl,pp,b,yy,zg,rfl,rfl,SqL.of g14,SqL.of hgb14,fun z hz=>s14 _ _ (ez3 z (perm.mem_iff.mp hz)),eg3,by rw [perm.length_eq];omega,_,rfl,ite2 (fun c3=>?_) (fun c3=>?_)⟩
                all_goals
                  have key:yy.map (·.1) = G↔∀ x∈C,Sa83.plus (Sa83.by_ M x) vv∈G:=by
                    rw [← takes_perm uC.1 uG.1 clen fun x hx y hy e=>map_inj (by omega) mm one lvv (lC x hx) (lC y hy) e,← ez2]
                    exact sorted_iff lG (perm.map (·.1)) (by rw [List.pairwise_map];exact pw) uG.2
                · have c3:yy.map (·.1) = zg.map (·.1):=of_decide_eq_true c3
                  rw [eg2] at c3
                  have tk:=key.mp c3
                  have tm:tryM d C G (t0 :: ts) im = some (M,vv):=by
                    unfold tryM
                    rw [hM2,evv,if_pos ⟨hM0,one,clen,tk⟩]
                  have s914:=s912.trans s1214
                  have g14n:=s914 _ _ g9
                  refine ⟨_,rfl,.inl ⟨rfl,_,SqL.of g14n⟩,_,rfl,_,rfl,by show 2≤sizeLine;decide,fun nb hnb=>?_⟩
                  have s15:=same_upd (o:=.tup [V.ref sa,V.ref vq]) hnb
                  have g15:upd H14 nb (.tup [V.ref sa,V.ref vq]) nb = some (.tup [V.ref sa,V.ref vq]):=upd_same
                  generalize upd H14 nb (.tup [V.ref sa,V.ref vq]) = H15 at s15 g15
                  have s915:=s914.trans s15
                  have g15n:=s915 _ _ g9
                  have s815:=s9.trans s915
                  refine ⟨n0,_,_,rfl,rfl,g15n,Nat.lt_of_le_of_lt (show acc.length≤4096 by omega) (by rw [sizeLine_eq];omega),?_⟩
                  have n1:nb≠n0:=fun z=>by rw [z,g15n] at g15;cases g15
                  have n2:sa≠n0:=fun z=>by
                    have L9:Lst (Row true) H9 (.ref n0) M:=⟨sa,svs,by rw [z],hsa,psq⟩
                    exact nest_ne (off_le.trans s9) pacc g9 L9 hM0 fun r hr q=>by
                      have:=mm.2 r hr
                      rw [q] at this;simp at this;omega
                  have tupne:∀ {x:Addr} {l:List V},H15 x = some (.tup l)→x≠n0:=fun e z=>by rw [z,g15n] at e;cases e
                  obtain ⟨zq,eq1,eq2,eq3⟩:=rows_pairs (paired_mono (fun _ _ r=>row_st _ _ _ _ s915 r) psq)
                  have g12':H15 vq = some (.tup (vv.map V.int)):=(s1214.trans s15) _ _ g12
                  have hsa15:=s915 _ _ hsa
                  rw [eq1] at hsa15
                  refine ⟨_,_,_,_,rfl,same_write hn0 (s58.trans s815),fun b o hb=>?_,upd_same,?_⟩
                  · rw [upd_ne (off_some hb).1];exact (s8.trans s815) _ _ hb
                  · rw [snoc,tm]
                    refine paired_app (paired_mono (fun _ _ r=>nest_st _ _ _ _ ((off_same s815).trans off_upd) r) pacc) (.cons (nest_st _ _ _ _ off_upd ⟨nb,sa,vq,zq,rfl,off_at n1 g15,off_at n2 hsa15,fun z hz=>off_at (tupne (eq3 z hz)) (eq3 z hz),eq2,off_at (tupne g12') g12'⟩) .nil)
                · have c3:¬ yy.map (·.1) = zg.map (·.1):=fun q=>c3 (decide_eq_true q)
                  rw [eg2] at c3
                  have tm:tryM d C G (t0 :: ts) im = none:=by
                    unfold tryM
                    rw [hM2,evv,if_neg fun q=>c3 (key.mpr q.2.2.2)]
                  exact stay _ (s912.trans s1214) tm _ _ _
            · have c2:¬ decide (V.int (if Sx38.det d M < 0 then -Sx38.det d M else Sx38.det d M) = V.int 1) = true:=c2
              rw [dec_V] at c2
              have one:¬ (Sx38.det d M).natAbs = 1:=fun z=>c2 (decide_eq_true (by split <;> omega))
              have tm:tryM d C G (t0 :: ts) im = none:=by
                unfold tryM
                rw [hM2,if_neg fun q=>one q.2.1]
              exact stay _ s10 tm _ _ _
        · rintro σ H8 ⟨o7,o8,o9,acc,rfl,s58,s8,g8n,pacc⟩
          rw [paired_len paO,List.take_length] at pacc
          exact ⟨_,rfl,k _ H8 _ (s05.trans s58) ⟨n0,acc,rfl,g8n,paired_mono (fun _ _ r=>nest_st _ _ _ _ off_le r) pacc⟩ fun M v=>found⟩
end
abbrev sEra:Stmt:=top 5
def spEra (K:PySem.W.Frag):Sp:=fun vs H Q _=>∃ (a1 a2:Addr) (b c:List Int),vs = [.ref a1,.ref a2]∧SqL K H a1 (b.map V.int)∧SqL K H a2 (c.map V.int)∧PySx38.er_alike_asked b c = true∧∀ p H',H' p = some (.lst ((PySx38.er_alike b c).map V.int))→Q (.ref p) H'
theorem fill_pad {r:Vec} (h:r.length≤4):fill r 4 = pad r:=fill_four h
theorem pad_nil:pad [] = List.replicate 4 0:=by simp [pad]
theorem told_fill {d:Nat} (h1:1≤d) (h3:d≤3) {M:List Vec} {v:Vec} (hM:IsMat d M) (hv:v.length = d):fill (M.flatMap fun r=>fill r 4) 16 ++ fill v 4 = Sa83.squareTold M v:=by
  rw [told_eq,fill_pad (by omega)]
  have hr:∀ r∈M,fill r 4 = pad r:=fun r hr=>fill_pad (by rw [hM.2 r hr];omega)
  have:d = 1∨d = 2∨d = 3:=by omega
  rcases this with rfl | rfl | rfl
  · obtain ⟨r,rfl⟩:=len1 hM.1
    rw [List.flatMap_cons,hr r (by simp)]
    simp only [List.flatMap_nil,List.append_nil]
    unfold fill
    rw [pad_length]
    simp [pad_nil,List.replicate]
  · obtain ⟨r,s,rfl⟩:=len2 hM.1
    rw [List.flatMap_cons,List.flatMap_cons,hr r (by simp),hr s (by simp)]
    simp only [List.flatMap_nil,List.append_nil]
    unfold fill
    rw [List.length_append,pad_length,pad_length]
    simp [pad_nil,List.replicate]
  · obtain ⟨r,s,t,rfl⟩:=len3 hM.1
    rw [List.flatMap_cons,List.flatMap_cons,List.flatMap_cons,hr r (by simp),hr s (by simp),hr t (by simp)]
    simp only [List.flatMap_nil,List.append_nil]
    unfold fill
    rw [List.length_append,List.length_append,pad_length,pad_length,pad_length]
    simp [pad_nil,List.replicate]
theorem nests_pairs {K:PySem.W.Frag} {H:Hp} {d:Nat}:∀ {vs:List V} {ms:List (List Vec × Vec)},Paired (NestR H) vs ms→(∀ m∈ms,IsMat d m.1∧m.2.length = d)→∃ zs:List ((List Vec × Vec) × Addr),vs = zs.map (fun z=>V.ref z.2)∧zs.map (·.1) = ms∧∀ z∈zs,ST.NestAt K d H z.1 z.2∧∃ (l t:Addr) (rs:List (Vec × Addr)),H z.2 = some (.tup [.ref l,.ref t])∧H l = some (.lst (rs.map fun z=>V.ref z.2))∧(∀ r∈rs,H r.2 = some (.tup (r.1.map V.int)))∧rs.map (·.1) = z.1.1∧H t = some (.tup (z.1.2.map V.int))
  | _,_,.nil,_=>⟨[],rfl,rfl,fun z hz=>nomatch hz⟩
  | _,_,.cons (b:=m) h t,hm=>by
    obtain ⟨zs,e1,e2,e3⟩:=nests_pairs (K:=K) t fun y hy=>hm y (by simp [hy])
    obtain ⟨p,l,tt,rs,rfl,h1,h2,h3,h4,h5⟩:=h
    obtain ⟨m1,m2⟩:=hm m (by simp)
    refine ⟨(m,p) :: zs,by rw [e1];rfl,by rw [List.map_cons,e2],fun z hz=>?_⟩
    rcases List.mem_cons.mp hz with e | hz
    · subst e
      refine ⟨⟨l,tt,rs,h1,SqL.of h2,h3,h4,h5,?_,fun z hz=>?_,m2⟩,l,tt,rs,h1,h2,h3,h4,h5⟩
      · have:=m1.1
        rw [← h4,List.length_map] at this
        exact this
      · exact m1.2 z.1 (by rw [← h4];exact List.mem_map.mpr ⟨z,hz,rfl⟩)
    · exact e3 z hz
theorem fill_16 {X:Vec} (h:X.length≤16):(fill X 16).length≤16:=by
  unfold fill
  rw [List.length_append,List.length_replicate];omega
theorem flat_len4 {M:List Vec} (h:∀ r∈M,r.length≤4):(M.flatMap fun r=>fill r 4).length≤M.length * 4:=flatN fun r hr=>by
  rw [fill_pad (h r hr),pad_length];omega
section
variable {P:Program} {w:World} {K:PySem.W.Frag} {mg:Str→Option Value} {base:Heap}
theorem scEra:FnScope ["body","other","points","goals","maps","first","numbers","row"] ["body","other"] (defScope sEra):=⟨rfl,rfl,rfl,by decide +kernel,rfl,by decide +kernel,by decide +kernel⟩
theorem ok_era {f fP fr fS fC fK fM fF:Addr} {fd dP dr dS dC dK dM dF:FuncData} (F:Fun K "er_alike" "er_alike" sEra f fd) (T:Tx mg) (ts:mg "set" = none) (U:Nums mg) (Z:Ds K mg) (Y:Ms K mg) (cr:Cal K mg "room_of" sRm ["points"] fr dr) (cP:Cal K mg "points_of" sPts ["body"] fP dP) (cS:Cal K mg "sides_of" sSid ["points"] fS dS) (cC:Cal K mg "is_corner" sCor ["point","sides"] fC dC)
    (cK:Cal K mg "corners_of" sCrs ["points"] fK dK) (cM:Cal K mg "maps_between" sMps ["corners","goals"] fM dM) (cF:Cal K mg "filled" sFil ["numbers","size"] fF dF):FnOk P w K mg base CX0 9 f fd ["body","other"] (spEra K):=by
  have GP:FnOk P w K mg base CX0 4 fP dP ["body"] (spPts K):=ok_pts cP.fn T U Z cr
  have GK:FnOk P w K mg base CX0 8 fK dK ["points"] spCrs:=ok_crs cK.fn T ts Z cS cC
  have GM:FnOk P w K mg base CX0 7 fM dM ["corners","goals"] spMps:=ok_mps cM.fn T Z Y cr
  have GF:FnOk P w K mg base CX0 1 fF dF ["numbers","size"] spFil:=ok_fil cF.fn T
  refine F.ok scEra (fun vs H Q E h=>?_) (fun cdv A outer s H vs Q E hr h=>?_)
  · obtain ⟨a1,a2,b,c,rfl,_⟩:=h
    rfl
  · obtain ⟨a1,a2,b,c,rfl,ha1,ha2,hask,k⟩:=h
    have hask2:(Sx38Neutral.flat b && Sx38Neutral.flat c) = true:=hask
    obtain ⟨fb,fc⟩:=Bool.and_eq_true_iff.mp hask2
    have tb:=flat_told fb
    have tc:=flat_told fc
    obtain ⟨t1,g1⟩:=U.axes
    obtain ⟨t4,g4⟩:=U.none
    have hr7:Room 7 _:=hr.mono (by decide)
    have hr4:Room 4 _:=hr.mono (by decide)
    have hr1:Room 1 _:=hr.mono (by decide)
    refine ⟨_,pss_cons (ps_set (i:=2) scEra.nd rfl (Or.inl rfl) (pe_call GP hr4 rfl cP.at_ cP.fn.kp cP.bi .nil pass0 (pa_cons (pv 0) pa_nil)))
      (pss_cons (ps_set (i:=3) scEra.nd rfl (Or.inl rfl) (pe_call GP hr4 rfl cP.at_ cP.fn.kp cP.bi .nil pass0 (pa_cons (pv 1) pa_nil)))
      (pss_cons (ps_if (PW.pt (pw_or (pt_not (pt_truth (pv 2) (fun _=>rfl))) (pw_or1 (pt_not (pt_truth (pv 3) (fun _=>rfl)))))) (pss_one (ps_ret (pe_lst (pa_cons (pe_num rfl g4) pa_nil)))) pss_nil)
      (pss_cons (ps_if (pt_cmpR op_ne (pe_callB call_len_seq rfl T.len PySem.boot_len (pa_cons (pe_ix ix_list (pv 2) pe_int (fun _ _=>rfl)) pa_nil)) (pe_callB call_len_seq rfl T.len PySem.boot_len (pa_cons (pe_ix ix_list (pv 3) pe_int (fun _ _=>rfl)) pa_nil)) (nomark _)) (pss_one (ps_ret (pe_lst (pa_cons pe_int pa_nil)))) pss_nil)
      (pss_cons (ps_set (i:=4) scEra.nd rfl (Or.inl rfl) (pe_call GM hr7 rfl cM.at_ cM.fn.kp cM.bi .nil pass0 (pa_cons (pe_call GK hr rfl cK.at_ cK.fn.kp cK.bi .nil pass0 (pa_cons (pv 2) pa_nil)) (pa_cons (pe_call GK hr rfl cK.at_ cK.fn.kp cK.bi .nil pass0 (pa_cons (pv 3) pa_nil)) pa_nil))))
      (pss_cons (ps_if (pt_not (pt_truth (pv 4) (fun _=>rfl))) (pss_one (ps_ret (pe_lst (pa_cons pe_int pa_nil)))) pss_nil)
      (pss_cons (ps_set (i:=5) scEra.nd rfl (Or.inl rfl) (pe_callB (ST.cr_minN rfl hr.units) rfl T.min boot_min (pa_cons (pv 4) pa_nil)))
      (pss_cons (ps_set (i:=6) scEra.nd rfl (Or.inl rfl) (pe_lst pa_nil))
      (pss_cons (ps_for PassesOwn.never rfl (pi_list (pe_ix ix_tup (pv 5) pe_int (fun _ _=>rfl))) (pg_name (i:=7) scEra.nd rfl (Or.inl rfl))
        (pss_one (ps_expr (pe_bm PySem.F.plainAttrs_list PySem.F.slot_list_extend PySem.F.type_list_extend mt_extend (pv 6) (pa_cons (pe_call GF hr1 rfl cF.at_ cF.fn.kp cF.bi .nil pass0 (pa_cons (pv 7) (pa_cons (pe_num rfl g1) pa_nil))) pa_nil)))))
      (pss_one (ps_ret (pe_op op_cat (pe_op op_cat (pe_lst (pa_cons pe_int pa_nil)) (pe_call GF hr1 rfl cF.at_ cF.fn.kp cF.bi .nil pass0 (pa_cons (pv 6) (pa_cons (pe_op op_mulB (pe_num rfl g1) (pe_num rfl g1)) pa_nil)))) (pe_call GF hr1 rfl cF.at_ cF.fn.kp cF.bi .nil pass0 (pa_cons (pe_ix ix_tup (pv 5) pe_int (fun _ _=>rfl)) (pa_cons (pe_num rfl g1) pa_nil)))))))))))))),?_⟩
    have bad:¬ (okB b∧okB c)→PySx38.er_alike b c = [-2]:=alike_bad tb tc
    refine ⟨_,rfl,a1,b,rfl,ha1,tb,fun o v H1 s1 L1=>?_,fun o v H1 s1 L1=>?_⟩
    · obtain ⟨pa,us,rfl,hpa,pr⟩:=L1
      have lu:=paired_len pr
      have ne:=pts_ne o.1
      have une:us≠[]:=fun q=>by
        rw [q] at lu
        exact ne (List.length_eq_zero_iff.mp lu.symm)
      refine ⟨_,rfl,a2,c,rfl,s1.seq ha2,tc,fun oc vc H2 s2 L2=>?_,fun oc vc H2 s2 L2=>?_⟩
      · obtain ⟨pc,uc,rfl,hpc,prc⟩:=L2
        have luc:=paired_len prc
        have nec:=pts_ne oc.1
        have unec:uc≠[]:=fun q=>by
          rw [q] at luc
          exact nec (List.length_eq_zero_iff.mp luc.symm)
        have hpa2:=s2 _ _ hpa
        have pr2:Paired (Row true H2) us (pts b):=paired_mono (fun _ _ r=>row_st _ _ _ _ s2 r) pr
        refine ⟨_,rfl,true,.inl ⟨us,SqL.of hpa2,by cases us with | nil=>exact absurd rfl une | cons _ _=>rfl⟩,_,rfl,true,.inl ⟨uc,SqL.of hpc,by cases uc with | nil=>exact absurd rfl unec | cons _ _=>rfl⟩,?_⟩
        dsimp only [tSeq,tAsg,gName,tC,tNext]
        obtain ⟨p0,hp0⟩:∃ p0,(pts b)[0]? = some p0:=by
          cases e:pts b with
          | nil=>exact absurd e ne
          | cons p _=>exact ⟨p,rfl⟩
        obtain ⟨r0,hr0⟩:∃ r0,(pts c)[0]? = some r0:=by
          cases e:pts c with
          | nil=>exact absurd e nec
          | cons p _=>exact ⟨p,rfl⟩
        obtain ⟨u0,hu0,⟨q0,rfl,hq0⟩⟩:=paired_at' pr2 hp0
        obtain ⟨u1,hu1,⟨q1,rfl,hq1⟩⟩:=paired_at' prc hr0
        have l0:p0.length = bD b:=pts_len o.1 p0 (List.mem_of_getElem? hp0)
        have l1:r0.length = bD c:=pts_len oc.1 r0 (List.mem_of_getElem? hr0)
        refine ⟨_,rfl,pa,_,_,_,rfl,rfl,SqL.of hpa2,at_of (j:=0) rfl hu0,q0,_,rfl,.inr (SqT.of hq0),_,rfl,pc,_,_,_,rfl,rfl,SqL.of hpc,at_of (j:=0) rfl hu1,q1,_,rfl,.inr (SqT.of hq1),rfl,_,rfl,ite2 (fun c1=>?_) (fun c1=>?_)⟩
        · have c1:bD b≠bD c:=fun q=>by
            rw [List.length_map,List.length_map,l0,l1,q] at c1
            simp at c1
          refine ⟨by show 1≤sizeLine;decide,fun p hp=>k p _ ?_⟩
          rw [alike_diff tb tc o oc c1]
          exact upd_same
        · have hd:bD b = bD c:=Classical.byContradiction fun q=>c1 (by
            rw [List.length_map,List.length_map,l0,l1]
            have:¬ ((bD b:Nat):Int) = ((bD c:Nat):Int):=by omega
            simpa using this)
          have d1:=o.1.d1
          have d3:=flat_d fb o
          have hcl:∀ x∈pts c,x.length = bD b:=fun x hx=>by rw [hd];exact pts_len oc.1 x hx
          have Rc:RoomP (bD b) (pts c):=by rw [hd];exact okB_room oc
          refine ⟨_,rfl,_,pts b,bD b,rfl,⟨pa,us,rfl,hpa2,pr2⟩,ne,few_pts (flat_few fb) o,pts_len o.1,d1,o.1.d4,pts_bd o,okB_room o,fun cw H3 C s3 LC uC hC lC8=>?_⟩
          refine ⟨_,rfl,_,pts c,bD b,rfl,⟨pc,uc,rfl,s3 _ _ hpc,paired_mono (fun _ _ r=>row_st _ _ _ _ s3 r) prc⟩,nec,few_pts (flat_few fc) oc,hcl,d1,o.1.d4,pts_bd oc,Rc,fun gw H4 G s4 LG uG hG lG8=>?_⟩
          have cne:C≠[]:=fun q=>by
            obtain ⟨p,hp,cp,_⟩:=corner_max d1 o.1.d4 (pts_len o.1) ne (okB_room o) (fun _=>0)
            have:=(hC p).mpr ⟨hp,cp⟩
            rw [q] at this;cases this
          refine ⟨_,_,C,G,bD b,rfl,lst_st row_st _ _ _ _ s4 LC,LG,uC,uG,fun x hx=>pts_len o.1 x ((hC x).mp hx).1,fun x hx=>hcl x ((hG x).mp hx).1,fun x hx=>pts_bd o x ((hC x).mp hx).1,fun x hx=>pts_bd oc x ((hG x).mp hx).1,lC8,lG8,d1,d3,cne,corners_room d1 o.1.d4 (pts_len o.1) ne (okB_room o) hC,fun mw H5 ms s5 LM hms=>?_⟩
          obtain ⟨ans0,ans1⟩:=alike_good tb tc o oc hd d3 uC.1 uG.1 hC hG
          obtain ⟨ma,mvs,rfl,hma,pm⟩:=LM
          by_cases hm0:ms = []
          · subst hm0
            cases pm
            refine ⟨_,rfl,false,.inl ⟨[],SqL.of hma,rfl⟩,?_⟩
            refine ⟨by show 1≤sizeLine;decide,fun p hp=>k p _ ?_⟩
            rw [ans0 fun M v P=>by have:=(hms M v).mpr P;cases this]
            exact upd_same
          · have mat:∀ m∈ms,IsMat (bD b) m.1∧m.2.length = bD b:=fun m hm=>by
              have P:=(hms m.1 m.2).mp hm
              exact ⟨P.sq,P.lv⟩
            have mne:mvs≠[]:=fun z=>by
              rw [z] at pm
              cases pm
              first | done | exact hm0 rfl
            refine ⟨_,rfl,true,.inl ⟨mvs,SqL.of hma,by cases mvs with | nil=>exact absurd rfl mne | cons _ _=>rfl⟩,?_⟩
            obtain ⟨zs,ez1,ez2,ez3⟩:=nests_pairs (K:=K) pm mat
            have zne:zs≠[]:=fun z=>by
              rw [z] at ez2
              exact hm0 ez2.symm
            refine ⟨_,rfl,ma,zs,bD b,rfl,by rw [← ez1];exact SqL.of hma,fun m hm=>(ez3 m hm).1,d1,d3,zne,fun m hm hmin=>?_⟩
            obtain ⟨_,l,t,rs,k1,k2,k3,k4,k5⟩:=ez3 m hm
            have mm:m.1∈ms:=by rw [← ez2];exact List.mem_map.mpr ⟨m,hm,rfl⟩
            have PM:=(hms m.1.1 m.1.2).mp mm
            have ans:=ans1 m.1.1 m.1.2 PM fun N u Q=>by
              have hq:=(hms N u).mpr Q
              rw [← ez2] at hq
              obtain ⟨m',hm',e⟩:=List.mem_map.mp hq
              have:=hmin m' hm'
              rw [e] at this
              exact this
            rw [← told_fill d1 d3 PM.sq PM.lv] at ans
            have lM:m.1.1.length = bD b:=PM.sq.1
            have rowl:∀ r∈m.1.1,r.length≤4:=fun r hr=>by rw [PM.sq.2 r hr];omega
            have pR:=pairs_rows k3
            rw [k4] at pR
            have lR:=paired_len pR
            refine ⟨Nat.zero_le _,fun n0 hn0=>?_⟩
            dsimp only [tSeq,tAsg,gName,tC,tNext]
            have s6:=same_upd (o:=.lst []) hn0
            have g6:upd H5 n0 (.lst []) n0 = some (.lst []):=upd_same
            generalize upd H5 n0 (.lst []) = H6 at s6 g6
            refine ⟨_,rfl,m.2,_,_,_,rfl,rfl,SqT.of (s6 _ _ k1),at_of (j:=0) rfl rfl,l,rfl,⟨_,SqL.of (s6 _ _ k2)⟩,for_list (K:=K) (a:=l) (xs:=rs.map fun z=>V.ref z.2) (fun i σ H'=>∃ o7:Option V,σ = [some (.ref a1),some (.ref a2),some (.ref pa),some (.ref pc),some (.ref ma),some (.ref m.2),some (.ref n0),o7]∧Same H5 H'∧H' n0 = some (.lst (((m.1.1.take i).flatMap fun r=>fill r 4).map V.int)))
              ⟨none,rfl,s6,g6⟩ (fun i σ H' _ ⟨_,_,s7,_⟩=>SqL.of (s7 _ _ k2)) ?_ ?_⟩
            · rintro i x σ H7 hi ⟨o7,rfl,s7,g7⟩
              obtain ⟨r,hr2,rr⟩:=paired_at pR hi
              have mr:=List.mem_of_getElem? hr2
              refine ⟨_,rfl,.inl ⟨rfl,_,SqL.of g7⟩,_,rfl,true,_,r,4,rfl,row_st _ _ _ _ s7 rr,Nat.le_trans (rowl r mr) (by decide),by decide,by decide,fun q H8 s8 e8=>?_⟩
              have tl:=List.length_take_le' i m.1.1
              have fl:=flat_len4 (M:=m.1.1.take i) fun r hr=>rowl r (List.mem_of_mem_take hr)
              refine ⟨n0,q,_,_,rfl,rfl,s8 _ _ g7,e8,small_ok (by rw [List.length_map,List.length_map,fill_pad (rowl r mr),pad_length];omega),?_⟩
              refine ⟨_,rfl,same_write hn0 (s7.trans s8),?_⟩
              rw [upd_same,take_snoc hr2,List.flatMap_append,List.map_append]
              simp
            · rintro σ H7 ⟨o7,rfl,s7,g7⟩
              rw [lR,List.take_length] at g7
              have fl:=flat_len4 rowl
              refine ⟨by show 1≤sizeLine;decide,fun q1 hq1=>?_⟩
              have s8:=same_upd (o:=.lst [V.int 1]) hq1
              have g8:upd H7 q1 (.lst [V.int 1]) q1 = some (.lst [V.int 1]):=upd_same
              generalize upd H7 q1 (.lst [V.int 1]) = H8 at s8 g8
              refine ⟨_,rfl,_,_,rfl,rfl,⟨big_small (by decide),big_small (by decide)⟩,false,_,m.1.1.flatMap fun r=>fill r 4,16,rfl,⟨n0,rfl,s8 _ _ g7⟩,by omega,by decide,by decide,fun q2 H9 s9 e9=>?_⟩
              have l16:(fill (m.1.1.flatMap fun r=>fill r 4) 16).length≤16:=fill_16 (by omega)
              refine ⟨q1,q2,_,_,rfl,rfl,s9 _ _ g8,e9,small_ok (by rw [List.length_map];simp;omega),fun q3 hq3=>?_⟩
              have s10:=same_upd (o:=.lst ([V.int 1] ++ (fill (m.1.1.flatMap fun r=>fill r 4) 16).map V.int)) hq3
              have g10:upd H9 q3 (.lst ([V.int 1] ++ (fill (m.1.1.flatMap fun r=>fill r 4) 16).map V.int)) q3 = some (.lst ([V.int 1] ++ (fill (m.1.1.flatMap fun r=>fill r 4) 16).map V.int)):=upd_same
              generalize upd H9 q3 (.lst ([V.int 1] ++ (fill (m.1.1.flatMap fun r=>fill r 4) 16).map V.int)) = H10 at s10 g10
              have s710:=(s8.trans s9).trans s10
              have s510:=s7.trans s710
              refine ⟨_,rfl,m.2,_,_,_,rfl,rfl,SqT.of (s510 _ _ k1),at_of (j:=1) rfl rfl,true,_,m.1.2,4,rfl,⟨t,rfl,s510 _ _ k5⟩,by rw [PM.lv];omega,by decide,by decide,fun q4 H11 s11 e11=>?_⟩
              have l4:(fill m.1.2 4).length = 4:=by rw [fill_pad (by rw [PM.lv];omega),pad_length]
              refine ⟨q3,q4,_,_,rfl,rfl,s11 _ _ g10,e11,small_ok (by simp;omega),fun p hp=>k p _ ?_⟩
              rw [ans,upd_same]
              simp
      · obtain ⟨pc,uc,rfl,hpc,prc⟩:=L2
        cases prc
        refine ⟨_,rfl,true,.inl ⟨us,SqL.of (s2 _ _ hpa),by cases us with | nil=>exact absurd rfl une | cons _ _=>rfl⟩,_,rfl,false,.inl ⟨[],SqL.of hpc,rfl⟩,?_⟩
        refine ⟨by show 1≤sizeLine;decide,fun p hp=>k p _ ?_⟩
        rw [bad fun q=>oc q.2]
        exact upd_same
    · obtain ⟨pa,us,rfl,hpa,pr⟩:=L1
      cases pr
      refine ⟨_,rfl,a2,c,rfl,s1.seq ha2,tc,fun oc vc H2 s2 L2=>?_,fun oc vc H2 s2 L2=>?_⟩
      all_goals
        refine ⟨_,rfl,false,.inl ⟨[],SqL.of (s2 _ _ hpa),rfl⟩,?_⟩
        refine ⟨by show 1≤sizeLine;decide,fun p hp=>k p _ ?_⟩
        rw [bad fun q=>o q.1]
        exact upd_same
end
end WB
section
namespace L2
open PySem PySem.Spec PyProof.Rows
open PySem.W (WData Codec OpenSpec Well WellAll ReadsW ReadsAllW)
mutual
inductive Dw (K:PySem.W.Frag) (H:Hp):V→WData→Prop
  | non:Dw K H .non .none
  | bl (b:Bool):Dw K H (.bl b) (.bool b)
  | int (i:Int):Dw K H (.int i) (.int i)
  | str (x:Str):Dw K H (.str x) (.str x)
  | byt (b:Array UInt8):Dw K H (.byt b) (.bytes b.toList)
  | lst {a:Addr} {xs:List V} {ds:List WData}:SqL K H a xs→DwAll K H xs ds→Dw K H (.ref a) (.list ds)
  | tup {a:Addr} {xs:List V} {ds:List WData}:SqT K H a xs→DwAll K H xs ds→Dw K H (.ref a) (.tuple ds)
inductive DwAll (K:PySem.W.Frag) (H:Hp):List V→List WData→Prop
  | nil:DwAll K H [] []
  | cons {v:V} {vs:List V} {d:WData} {ds:List WData}:Dw K H v d→DwAll K H vs ds→DwAll K H (v :: vs) (d :: ds)
end
theorem dw_ints {K:PySem.W.Frag} {H:Hp}:∀ ns:List Int,DwAll K H (ns.map V.int) (ns.map WData.int)
  | []=>.nil
  | n :: r=>.cons (.int n) (dw_ints r)
theorem ints_dw {K:PySem.W.Frag} {H:Hp}:∀ (ns:List Int) (xs:List V),DwAll K H xs (ns.map WData.int)→xs = ns.map V.int
  | [],xs,h=>by
    cases h
    rfl
  | n :: r,xs,h=>by
    cases h with
    | cons h1 h2 =>
      cases h1
      rw [ints_dw r _ h2] <;> rfl
section
variable {P:Program} {w:World} {K:PySem.W.Frag} {H:Hp} {h:Heap} {R:PySem.W.WRecords} {cl:Str→Option Addr}
theorem sqL_at {a:Addr} {xs:List V} (hok:HOk P w H h) (KX:K.In h) (q:SqL K H a xs):∃ (its:List Value) (o:Obj) (n:Nat),Vals xs its∧h.get? a = some o∧o.cls = .type "list"∧o.data = .seq its.toArray n:=by
  rcases q with q | ⟨o,its,n,e,hc,_,hd,_,hv⟩
  · obtain ⟨_,its,n,hv,e⟩:=(show ObjOk P w H h a (.lst xs) from q.ok hok)
    exact ⟨its,_,n,hv,e,rfl,rfl⟩
  · exact ⟨its.toList,o,n,hv,KX _ _ e,hc,by simp [hd]⟩
theorem sqT_at {a:Addr} {xs:List V} (hok:HOk P w H h) (KX:K.In h) (q:SqT K H a xs):∃ (its:List Value) (o:Obj) (n:Nat),Vals xs its∧h.get? a = some o∧o.cls = .type "tuple"∧o.data = .seq its.toArray n:=by
  rcases q with q | ⟨o,its,n,e,hc,hd,_,hv⟩
  · obtain ⟨_,its,hv,o,e,hc,n,hd⟩:=(show ObjOk P w H h a (.tup xs) from q.ok hok)
    exact ⟨its,o,n,hv,e,hc,hd⟩
  · exact ⟨its.toList,o,n,hv,KX _ _ e,hc,by simp [hd]⟩
mutual
theorem Dw.reads (hok:HOk P w H h) (KX:K.In h):∀ (d:WData) (v:V) (u:Value),Dw K H v d→RelV v u→∃ as,ReadsW R cl h u d as
  | .none,_,_,x,r=>by
    cases x
    cases r
    exact ⟨_,ReadsW.none⟩
  | .bool b,_,_,x,r=>by
    cases x
    cases r
    exact ⟨_,ReadsW.bool b⟩
  | .int i,_,_,x,r=>by
    cases x
    obtain ⟨t,rfl⟩:=r
    exact ⟨_,ReadsW.int i t⟩
  | .str s,_,_,x,r=>by
    cases x
    obtain ⟨t,rfl⟩:=r
    exact ⟨_,ReadsW.str s t⟩
  | .bytes b,_,_,x,r=>by
    cases x
    obtain ⟨t,rfl⟩:=r
    exact ⟨_,ReadsW.bytes _ t⟩
  | .list ds,_,_,x,r=>by
    cases x with
    | lst hs ha =>
      cases r
      obtain ⟨its,o,n,rv,ho,hc,hd⟩:=sqL_at hok KX hs
      obtain ⟨as,hr⟩:=Dw.readsAll hok KX ds _ its ha rv
      exact ⟨_,ReadsW.list ho hc hd hr⟩
  | .tuple ds,_,_,x,r=>by
    cases x with
    | tup hs ha =>
      cases r
      obtain ⟨its,o,n,rv,ho,hc,hd⟩:=sqT_at hok KX hs
      obtain ⟨as,hr⟩:=Dw.readsAll hok KX ds _ its ha rv
      exact ⟨_,ReadsW.tuple ho hc hd hr⟩
  | .float _,_,_,x,_=>by cases x
  | .dict _,_,_,x,_=>by cases x
  | .bytearray _,_,_,x,_=>by cases x
  | .set _,_,_,x,_=>by cases x
  | .frozenset _,_,_,x,_=>by cases x
  | .obj _ _,_,_,x,_=>by cases x
theorem Dw.readsAll (hok:HOk P w H h) (KX:K.In h):∀ (ds:List WData) (vs:List V) (us:List Value),DwAll K H vs ds→Vals vs us→∃ as,ReadsAllW R cl h us ds as
  | [],_,_,x,r=>by
    cases x
    cases r
    exact ⟨_,ReadsAllW.nil⟩
  | d :: ds,_,_,x,r=>by
    cases x with
    | cons h1 h2 =>
      cases r with
      | cons r1 r2 =>
        obtain ⟨as,q1⟩:=Dw.reads hok KX d _ _ h1 r1
        obtain ⟨bs,q2⟩:=Dw.readsAll hok KX ds _ _ h2 r2
        exact ⟨_,ReadsAllW.cons q1 q2⟩
end
end
mutual
def plW:WData→Bool
  | .none=>true
  | .bool _=>true
  | .int _=>true
  | .str _=>true
  | .bytes _=>true
  | .list xs=>plWs xs
  | .tuple xs=>plWs xs
  | _=>false
def plWs:List WData→Bool
  | []=>true
  | x :: r=>plW x && plWs r
end
theorem plWs_map {α:Type} {f:α→WData} (h:∀ a,plW (f a) = true):∀ l:List α,plWs (l.map f) = true
  | []=>rfl
  | x :: r=>by
    show (plW (f x) && plWs (r.map f)) = true
    rw [h x,plWs_map h r] <;> rfl
theorem pl_enc:∀ (c:Codec) (a:c.denote),plW (c.enc a) = true
  | .unit,_=>rfl
  | .bool,_=>rfl
  | .int _ _,_=>rfl
  | .nat _ _,_=>rfl
  | .u8,_=>rfl
  | .bytes _ _,_=>rfl
  | .text _ _ _ _,_=>rfl
  | .list _ _ c,a=>plWs_map (fun x=>pl_enc c x) a
  | .pair c d,a=>by
    show (plW (c.enc a.1) && (plW (d.enc a.2) && true)) = true
    rw [pl_enc c a.1,pl_enc d a.2] <;> rfl
  | .triple c d e,a=>by
    show (plW (c.enc a.1) && (plW (d.enc a.2.1) && (plW (e.enc a.2.2) && true))) = true
    rw [pl_enc c a.1,pl_enc d a.2.1,pl_enc e a.2.2] <;> rfl
  | .option c,none=>rfl
  | .option c,some x=>pl_enc c x
theorem pl_encAll:∀ (cs:List Codec) (a:Codec.denoteAll cs),plWs (Codec.encAll cs a) = true
  | [],_=>rfl
  | c :: cs,a=>by
    show (plW (c.enc a.1) && plWs (Codec.encAll cs a.2)) = true
    rw [pl_enc c a.1,pl_encAll cs a.2] <;> rfl
theorem weight_mem:∀ {xs:List WData} {d:WData},d∈xs→d.weight≤WData.weightAll xs
  | [],d,h=>absurd h (by simp)
  | x :: r,d,h=>by
    show d.weight≤x.weight + 1 + WData.weightAll r
    rcases List.mem_cons.mp h with e | m
    · rw [e]
      omega
    · have z:=weight_mem m
      omega
def toV:Value→V
  | .none=>.non
  | .bool b=>.bl b
  | .int i _=>.int i
  | .str x _=>.str x
  | .bytes b _=>.byt b
  | .ref a=>.ref a
  | _=>.non
def OkU (A:List Addr):Value→Prop
  | .none=>True
  | .bool _=>True
  | .int _ _=>True
  | .str _ _=>True
  | .bytes _ _=>True
  | .ref a=>a∈A
  | _=>False
theorem OkU.mono {A B:List Addr} (h:∀ a∈A,a∈B):∀ {u:Value},OkU A u→OkU B u:=fun {u} x=>by
  cases u with
  | ref a=>exact h a x
  | none=>trivial
  | bool b=>trivial
  | int i t=>trivial
  | str s t=>trivial
  | bytes b t=>trivial
  | _=>exact False.elim x
theorem relV_toV {A:List Addr} {u:Value} (x:OkU A u):RelV (toV u) u:=by
  cases u with
  | ref a=>rfl
  | none=>rfl
  | bool b=>rfl
  | int i t=>exact ⟨t,rfl⟩
  | str s t=>exact ⟨t,rfl⟩
  | bytes b t=>exact ⟨t,rfl⟩
  | _=>exact False.elim x
theorem vals_toV {A:List Addr}:∀ {vs:List Value},(∀ u∈vs,OkU A u)→Vals (vs.map toV) vs
  | [],_=>.nil
  | u :: r,h=>.cons (relV_toV (h u (List.mem_cons_self ..))) (vals_toV fun x hx=>h x (List.mem_cons_of_mem _ hx))
def ArgOb (h:Heap) (A:List Addr) (a:Addr):Prop:=∃ vs:List Value,vs.length≤sizeLine∧(∀ u∈vs,OkU A u) ∧
  (h.get? a = some { cls:=.type "list",data:=.seq vs.toArray }∨h.get? a = some { cls:=.type "tuple",data:=.seq vs.toArray })
theorem ArgOb.mono {h:Heap} {A B:List Addr} {a:Addr} (k:∀ a∈A,a∈B) (x:ArgOb h A a):ArgOb h B a:=by
  obtain ⟨vs,h1,h2,h3⟩:=x
  exact ⟨vs,h1,fun u hu=>(h2 u hu).mono k,h3⟩
theorem wellAll_len {P:Params} {h:Heap}:∀ {vs:List Value} {ds:List WData},WellAll P h vs ds→vs.length = ds.length
  | _,_,.nil=>rfl
  | _,_,.cons _ b=>by
    show _ + 1 = _ + 1
    rw [wellAll_len b]
theorem well_list {P:Params} {h:Heap} {v:Value} {ds:List WData} (x:Well P h v (.list ds)):∃ (a:Addr) (vs:List Value),v = .ref a∧h.get? a = some { cls:=.type "list",data:=.seq vs.toArray }∧WellAll P h vs ds:=by
  cases x with
  | list ho hall=>exact ⟨_,_,rfl,ho,hall⟩
theorem well_tuple {P:Params} {h:Heap} {v:Value} {ds:List WData} (x:Well P h v (.tuple ds)):∃ (a:Addr) (vs:List Value),v = .ref a∧h.get? a = some { cls:=.type "tuple",data:=.seq vs.toArray }∧WellAll P h vs ds:=by
  cases x with
  | tuple ho hall=>exact ⟨_,_,rfl,ho,hall⟩
theorem well_cons {P:Params} {h:Heap} {us:List Value} {d:WData} {ds:List WData} (x:WellAll P h us (d :: ds)):∃ (v:Value) (vs:List Value),us = v :: vs∧Well P h v d∧WellAll P h vs ds:=by
  cases x with
  | cons a b=>exact ⟨_,_,rfl,a,b⟩
theorem line_of {n:Nat} (h:n≤1048576):n≤sizeLine:=Nat.le_trans h (by decide)
section
variable {P:Params} {h:Heap}
mutual
theorem area_one:∀ (d:WData) (v:Value),Well P h v d→plW d = true→d.weight≤1048576→∃ A:List Addr,OkU A v∧∀ a∈A,ArgOb h A a
  | .none,_,x,_,_=>by
    cases x
    exact ⟨[],trivial,fun a m=>absurd m (by simp)⟩
  | .bool b,_,x,_,_=>by
    cases x
    exact ⟨[],trivial,fun a m=>absurd m (by simp)⟩
  | .int i,_,x,_,_=>by
    cases x
    exact ⟨[],trivial,fun a m=>absurd m (by simp)⟩
  | .str s,_,x,_,_=>by
    cases x
    exact ⟨[],trivial,fun a m=>absurd m (by simp)⟩
  | .bytes b,_,x,_,_=>by
    cases x
    exact ⟨[],trivial,fun a m=>absurd m (by simp)⟩
  | .list ds,_,x,p,z=>by
    obtain ⟨a,vs,rfl,ho,hall⟩:=well_list x
    have z2:WData.weightAll ds≤1048576:=z
    obtain ⟨A,h1,h2⟩:=area_all ds _ hall p fun d hd=>Nat.le_trans (weight_mem hd) z2
    have k:∀ b∈A,b∈a :: A:=fun b hb=>List.mem_cons_of_mem _ hb
    refine ⟨a :: A,List.mem_cons_self ..,fun b hb=>?_⟩
    rcases List.mem_cons.mp hb with e | m
    · rw [e]
      exact ⟨vs,line_of (by rw [wellAll_len hall];exact Nat.le_trans (PySem.W.length_le_weightAllW ds) z2),fun u hu=>(h1 u hu).mono k,.inl ho⟩
    · exact (h2 b m).mono k
  | .tuple ds,_,x,p,z=>by
    obtain ⟨a,vs,rfl,ho,hall⟩:=well_tuple x
    have z2:WData.weightAll ds≤1048576:=z
    obtain ⟨A,h1,h2⟩:=area_all ds _ hall p fun d hd=>Nat.le_trans (weight_mem hd) z2
    have k:∀ b∈A,b∈a :: A:=fun b hb=>List.mem_cons_of_mem _ hb
    refine ⟨a :: A,List.mem_cons_self ..,fun b hb=>?_⟩
    rcases List.mem_cons.mp hb with e | m
    · rw [e]
      exact ⟨vs,line_of (by rw [wellAll_len hall];exact Nat.le_trans (PySem.W.length_le_weightAllW ds) z2),fun u hu=>(h1 u hu).mono k,.inr ho⟩
    · exact (h2 b m).mono k
  | .float _,_,_,p,_=>Bool.noConfusion (show false = true from p)
  | .dict _,_,_,p,_=>Bool.noConfusion (show false = true from p)
  | .bytearray _,_,_,p,_=>Bool.noConfusion (show false = true from p)
  | .set _,_,_,p,_=>Bool.noConfusion (show false = true from p)
  | .frozenset _,_,_,p,_=>Bool.noConfusion (show false = true from p)
  | .obj _ _,_,_,p,_=>Bool.noConfusion (show false = true from p)
theorem area_all:∀ (ds:List WData) (vs:List Value),WellAll P h vs ds→plWs ds = true→(∀ d∈ds,d.weight≤1048576)→∃ A:List Addr,(∀ u∈vs,OkU A u)∧∀ a∈A,ArgOb h A a
  | [],_,x,_,_=>by
    cases x
    exact ⟨[],fun u m=>absurd m (by simp),fun a m=>absurd m (by simp)⟩
  | d :: ds,_,x,p,z=>by
    obtain ⟨v,vs,rfl,x1,x2⟩:=well_cons x
    have q:plW d = true∧plWs ds = true:=Bool.and_eq_true_iff.mp p
    obtain ⟨A,a1,a2⟩:=area_one d v x1 q.1 (z d (List.mem_cons_self ..))
    obtain ⟨B,b1,b2⟩:=area_all ds vs x2 q.2 fun e he=>z e (List.mem_cons_of_mem _ he)
    have kA:∀ b∈A,b∈A ++ B:=fun b hb=>List.mem_append.mpr (.inl hb)
    have kB:∀ b∈B,b∈A ++ B:=fun b hb=>List.mem_append.mpr (.inr hb)
    refine ⟨A ++ B,fun u hu=>?_,fun b hb=>?_⟩
    · rcases List.mem_cons.mp hu with e | m
      · rw [e]
        exact a1.mono kA
      · exact (b1 u m).mono kB
    · rcases List.mem_append.mp hb with m | m
      · exact (a2 b m).mono kA
      · exact (b2 b m).mono kB
end
end
noncomputable def hoOf (o:Obj):Option HO:=match o.data with
  | .seq vs _=>if (o.cls == Value.type "list") = true then some (.frz o (.lst (vs.toList.map toV))) else some (.frz o (.tup (vs.toList.map toV)))
  | _=>none
noncomputable def argH (K:PySem.W.Frag) (h:Heap) (A:List Addr):Hp:=fun b=>if b∈A then (if (K.lookup b).isNone = true then (h.get? b).bind hoOf else none) else none
def OnlyF (H:Hp):Prop:=∀ b,H b = none∨∃ o u,H b = some (.frz o u)
theorem hoOf_lst (vs:List Value):hoOf { cls:=.type "list",data:=.seq vs.toArray } = some (.frz { cls:=.type "list",data:=.seq vs.toArray } (.lst (vs.map toV))):=by
  show (if (Value.type "list" == Value.type "list") = true then some (HO.frz { cls:=.type "list",data:=.seq vs.toArray } (.lst (vs.toArray.toList.map toV))) else some (HO.frz { cls:=.type "list",data:=.seq vs.toArray } (.tup (vs.toArray.toList.map toV)))) = _
  rw [if_pos (beq_self_eq_true _)]
theorem hoOf_tup (vs:List Value):hoOf { cls:=.type "tuple",data:=.seq vs.toArray } = some (.frz { cls:=.type "tuple",data:=.seq vs.toArray } (.tup (vs.map toV))):=by
  show (if (Value.type "tuple" == Value.type "list") = true then some (HO.frz { cls:=.type "tuple",data:=.seq vs.toArray } (.lst (vs.toArray.toList.map toV))) else some (HO.frz { cls:=.type "tuple",data:=.seq vs.toArray } (.tup (vs.toArray.toList.map toV)))) = _
  rw [if_neg (by decide)]
section
variable {P:Program} {w:World} {K:PySem.W.Frag} {h:Heap} {A:List Addr}
theorem argH_at {b:Addr} {o:Obj} (hb:b∈A) (hk:K.lookup b = none) (e:h.get? b = some o):argH K h A b = hoOf o:=by
  unfold argH
  rw [if_pos hb,hk,if_pos (show (none:Option Obj).isNone = true from rfl),e] <;> rfl
theorem of_argH {b:Addr} {u:HO} (q:argH K h A b = some u):b∈A∧K.lookup b = none:=by
  unfold argH at q
  by_cases hb:b∈A
  · rw [if_pos hb] at q
    cases hk:K.lookup b with
    | none=>exact ⟨hb,rfl⟩
    | some o =>
      rw [hk,if_neg (by simp)] at q
      cases q
  · rw [if_neg hb] at q
    cases q
theorem argH_is (ar:∀ a∈A,ArgOb h A a) {b:Addr} {u:HO} (q:argH K h A b = some u):K.lookup b = none∧∃ vs:List Value,vs.length≤sizeLine∧(∀ u∈vs,OkU A u) ∧
    ((h.get? b = some { cls:=.type "list",data:=.seq vs.toArray }∧u = .frz { cls:=.type "list",data:=.seq vs.toArray } (.lst (vs.map toV))) ∨
     (h.get? b = some { cls:=.type "tuple",data:=.seq vs.toArray }∧u = .frz { cls:=.type "tuple",data:=.seq vs.toArray } (.tup (vs.map toV)))):=by
  obtain ⟨hb,hk⟩:=of_argH q
  obtain ⟨vs,h1,h2,h3⟩:=ar b hb
  refine ⟨hk,vs,h1,h2,?_⟩
  rcases h3 with e | e
  · rw [argH_at hb hk e,hoOf_lst] at q
    exact .inl ⟨e,(Option.some.inj q).symm⟩
  · rw [argH_at hb hk e,hoOf_tup] at q
    exact .inr ⟨e,(Option.some.inj q).symm⟩
theorem argH_only (ar:∀ a∈A,ArgOb h A a):OnlyF (argH K h A):=fun b=>by
  cases q:argH K h A b with
  | none=>exact .inl rfl
  | some u =>
    obtain ⟨_,vs,_,_,⟨_,e⟩ | ⟨_,e⟩⟩:=argH_is ar q
    · exact .inr ⟨_,_,by rw [e]⟩
    · exact .inr ⟨_,_,by rw [e]⟩
theorem argH_ok (ar:∀ a∈A,ArgOb h A a):HOk P w (argH K h A) h:=fun b u q=>by
  obtain ⟨_,vs,h1,h2,⟨e,rfl⟩ | ⟨e,rfl⟩⟩:=argH_is ar q
  · exact ⟨e,by rw [List.length_map];exact h1,vs,_,vals_toV h2,e⟩
  · exact ⟨e,by rw [List.length_map];exact h1,vs,vals_toV h2,_,e,rfl,_,rfl⟩
theorem seq_inj {c c':Value} {vs us:List Value} (e:(some { cls:=c,data:=.seq vs.toArray }:Option Obj) = some { cls:=c',data:=.seq us.toArray }):c = c'∧vs = us:=by
  have e1:=Option.some.inj e
  have e2:c = c':=congrArg Obj.cls e1
  have e3:Data.seq vs.toArray = Data.seq us.toArray:=congrArg Obj.data e1
  injection e3 with e4
  refine ⟨e2,?_⟩
  have e5:=congrArg Array.toList e4
  simpa using e5
theorem argL (KX:K.In h) (ar:∀ a∈A,ArgOb h A a) {a:Addr} {vs:List Value} (ha:a∈A) (e:h.get? a = some { cls:=.type "list",data:=.seq vs.toArray }):(∀ u∈vs,OkU A u)∧SqL K (argH K h A) a (vs.map toV):=by
  obtain ⟨us,h1,h2,h3⟩:=ar a ha
  have hu:us = vs:=by
    rcases h3 with q | q
    · rw [e] at q
      exact (seq_inj q).2.symm
    · rw [e] at q
      exact absurd (Value.type.inj (seq_inj q).1) (by decide)
  subst hu
  refine ⟨h2,?_⟩
  cases hk:K.lookup a with
  | none=>exact .inl (.inr ⟨_,by rw [argH_at ha hk e,hoOf_lst]⟩)
  | some o =>
    have e2:=KX a o hk
    rw [e] at e2
    obtain rfl:=Option.some.inj e2
    exact .inr ⟨_,us.toArray,_,hk,rfl,rfl,rfl,by rw [List.size_toArray];exact h1,by simpa using vals_toV h2⟩
theorem argT (KX:K.In h) (ar:∀ a∈A,ArgOb h A a) {a:Addr} {vs:List Value} (ha:a∈A) (e:h.get? a = some { cls:=.type "tuple",data:=.seq vs.toArray }):(∀ u∈vs,OkU A u)∧SqT K (argH K h A) a (vs.map toV):=by
  obtain ⟨us,h1,h2,h3⟩:=ar a ha
  have hu:us = vs:=by
    rcases h3 with q | q
    · rw [e] at q
      exact absurd (Value.type.inj (seq_inj q).1) (by decide)
    · rw [e] at q
      exact (seq_inj q).2.symm
  subst hu
  refine ⟨h2,?_⟩
  cases hk:K.lookup a with
  | none=>exact .inl (.inr ⟨_,by rw [argH_at ha hk e,hoOf_tup]⟩)
  | some o =>
    have e2:=KX a o hk
    rw [e] at e2
    obtain rfl:=Option.some.inj e2
    exact .inr ⟨_,us.toArray,_,hk,rfl,rfl,by rw [List.size_toArray];exact h1,by simpa using vals_toV h2⟩
mutual
theorem dw_one {Pm:Params} (KX:K.In h) (ar:∀ a∈A,ArgOb h A a):∀ (d:WData) (v:Value),Well Pm h v d→plW d = true→OkU A v→Dw K (argH K h A) (toV v) d
  | .none,_,x,_,_=>by
    cases x
    exact .non
  | .bool b,_,x,_,_=>by
    cases x
    exact .bl b
  | .int i,_,x,_,_=>by
    cases x
    exact .int i
  | .str s,_,x,_,_=>by
    cases x
    exact .str s
  | .bytes b,_,x,_,_=>by
    cases x
    have z:=Dw.byt (K:=K) (H:=argH K h A) b.toArray
    exact z
  | .list ds,_,x,p,hu=>by
    obtain ⟨a,vs,rfl,ho,hall⟩:=well_list x
    obtain ⟨h2,hs⟩:=argL KX ar hu ho
    exact .lst hs (dw_all KX ar ds _ hall p h2)
  | .tuple ds,_,x,p,hu=>by
    obtain ⟨a,vs,rfl,ho,hall⟩:=well_tuple x
    obtain ⟨h2,hs⟩:=argT KX ar hu ho
    exact .tup hs (dw_all KX ar ds _ hall p h2)
  | .float _,_,_,p,_=>Bool.noConfusion (show false = true from p)
  | .dict _,_,_,p,_=>Bool.noConfusion (show false = true from p)
  | .bytearray _,_,_,p,_=>Bool.noConfusion (show false = true from p)
  | .set _,_,_,p,_=>Bool.noConfusion (show false = true from p)
  | .frozenset _,_,_,p,_=>Bool.noConfusion (show false = true from p)
  | .obj _ _,_,_,p,_=>Bool.noConfusion (show false = true from p)
theorem dw_all {Pm:Params} (KX:K.In h) (ar:∀ a∈A,ArgOb h A a):∀ (ds:List WData) (vs:List Value),WellAll Pm h vs ds→plWs ds = true→(∀ u∈vs,OkU A u)→DwAll K (argH K h A) (vs.map toV) ds
  | [],_,x,_,_=>by
    cases x
    exact .nil
  | d :: ds,_,x,p,hu=>by
    obtain ⟨v,vs,rfl,x1,x2⟩:=well_cons x
    have q:plW d = true∧plWs ds = true:=Bool.and_eq_true_iff.mp p
    exact .cons (dw_one KX ar d v x1 q.1 (hu _ (List.mem_cons_self ..))) (dw_all KX ar ds vs x2 q.2 fun u m=>hu u (List.mem_cons_of_mem _ m))
end
end
theorem spec_call {P:Program} {w:World} {K:PySem.W.Frag} {mg mb:Str→Option Value} {CX:CXT} {k:Nat} {fa:Addr} {fd:FuncData} {ps:List Str} {sp:Sp} {s₁:Shared} {vals:List Value} {ds:List WData} {R:PySem.W.WRecords} {cl:Str→Option Addr} {d0:WData}
    (KX:K.In s₁.heap) (hns:s₁.heap.Ns mainGlobals mg) (hb:s₁.heap.Ns builtinsNs mb) (hbb:∀ x:Str,x≠"__name__"→mb x = bootBuiltins x) (hlim:s₁.heap.NoLimit) (hg:s₁.gens = #[])
    (hwl:WellAll w.params s₁.heap vals ds) (hpl:plWs ds = true) (hwt:∀ d∈ds,d.weight≤1048576) (hr:Room k callerA)
    (F:∀ base:Heap,K.In base→base.Ns mainGlobals mg→FnOk P w K mg base CX k fa fd ps sp) (hbind:∀ (s:Shared) (us:List Value),us.length = ps.length→BindsTo s fd ⟨us,[]⟩ (ps.zip us)) (hlen:ds.length = ps.length)
    (hsp:∀ (H:Hp) (xs:List V),OnlyF H→DwAll K H xs ds→sp xs H (fun v H'=>Dw K H' v d0) fun _ _ _=>False)
    (hCX:∀ H e s',CX [] H s₁ (fun _ _ _=>False) e s'→False) :
    codeAny (model P w) callerA (.call (.ref fa) ⟨vals,[]⟩) (fun r s'=>∃ u as,r = .ok (.ret u)∧ReadsW R cl s'.heap u d0 as∧OldK s₁.heap s'.heap∧s'.os = s₁.os∧AllBare s'.gens) s₁:=by
  obtain ⟨A,ho,ar⟩:=area_all ds vals hwl hpl hwt
  have hO:OnlyF (argH K s₁.heap A):=argH_only ar
  have hok:HOk P w (argH K s₁.heap A) s₁.heap:=argH_ok ar
  have hS:=dw_all KX ar ds vals hwl hpl ho
  have hV:=vals_toV ho
  have hK:∀ b u,argH K s₁.heap A b = some u→K.lookup b = none:=fun b u q=>(argH_is ar q).1
  have noA:∀ {b:Addr} {o:Obj} {es:Array DictEntry} {ep:Nat},s₁.heap.get? b = some o→o.data = .dict es ep→argH K s₁.heap A b = none:=fun {b o es ep} e d=>by
    cases q:argH K s₁.heap A b with
    | none=>rfl
    | some u =>
      obtain ⟨_,vs,_,_,⟨e2,_⟩ | ⟨e2,_⟩⟩:=argH_is ar q
      · rw [e2] at e
        cases e
        have d':Data.seq vs.toArray _ = Data.dict es ep:=d
        cases d'
      · rw [e2] at e
        cases e
        have d':Data.seq vs.toArray _ = Data.dict es ep:=d
        cases d'
  generalize argH K s₁.heap A = H at hO hok hS hK noA
  have base_of:∀ {b:Addr} {o:Obj},s₁.heap.get? b = some o→H b = none→(hidT s₁.heap H).get? b = some o:=fun e n=>hidT_get e n
  have nsK:∀ {b:Addr} {m:Str→Option Value},s₁.heap.Ns b m→(hidT s₁.heap H).Ns b m:=fun {b m} ⟨o,es,ep,e,d,r⟩=>⟨o,es,ep,base_of e (noA e d),d,r⟩
  have nK:∀ b o,K.lookup b = some o→H b = none:=fun b o e=>by
    cases q:H b with
    | none=>rfl
    | some u =>
      rw [hK b u q] at e
      cases e
  have hKb:K.In (hidT s₁.heap H):=fun b o e=>base_of (KX b o e) (nK b o e)
  have hM:Mod K mg (hidT s₁.heap H):=⟨hKb,nsK hns,⟨mb,nsK hb,hbb⟩,let ⟨mc,h1,h2⟩:=hlim;⟨mc,nsK h1,h2⟩⟩
  have e0:Env0 P w K mg (hidT s₁.heap H) callerA [] s₁ H:=⟨rfl,hM,fun b o e=>of_hidT e,Nat.le_of_eq (hidT_size _ _),trivial,fun b hb=>absurd (show b∈([]:List Addr) from hb) (by simp),hok,.of_eq hg⟩
  have hl:vals.length = ps.length:=by rw [wellAll_len hwl];exact hlen
  refine codeAny_mono ((F _ hKb (nsK hns)).run callerA [] s₁ H ⟨vals,[]⟩ vals (vals.map toV) _ _ hr e0 (hbind s₁ vals hl) hV (hsp H _ hO hS)) fun r s' x=>?_
  cases r with
  | error e=>exact (hCX H e s' x).elim
  | ok fl =>
    cases fl with
    | next=>exact False.elim x
    | brk=>exact False.elim x
    | cont=>exact False.elim x
    | ret u =>
      obtain ⟨v,H',os,bare,un,hok',r',q⟩:=x
      have kept:∀ b o,s₁.heap.get? b = some o→s'.heap.get? b = some o:=fun b o e=>by
        cases q2:H b with
        | none=>exact un.keep b o e q2 (by intro z;exact absurd (show b∈([]:List Addr) from z) (by simp)) (by simp)
        | some u2 =>
          rcases hO b with z | ⟨ob,u3,z⟩
          · rw [q2] at z
            cases z
          · have z2:=un.frzs b ob _ z
            obtain ⟨e1,_⟩:=hok b _ z
            obtain ⟨e2,_⟩:=hok' b _ z2
            rw [e] at e1
            cases e1
            exact e2
      have KX':K.In s'.heap:=fun b o e=>kept b o (KX b o e)
      obtain ⟨as,hrd⟩:=Dw.reads (R:=R) (cl:=cl) hok' KX' d0 v u q r'
      exact ⟨u,as,rfl,hrd,OldK.of_keep kept,os,bare⟩
theorem layable_weight {ds:List WData} (h:WData.layableAll ds = true):∀ d∈ds,d.weight≤1048576:=fun d hd =>
  (PySem.W.layableW_iff.mp (List.all_eq_true.mp h d hd)).2.2
theorem encAll_len:∀ (cs:List Codec) (a:Codec.denoteAll cs),(Codec.encAll cs a).length = cs.length
  | [],_=>rfl
  | c :: cs,a=>by
    show (Codec.encAll cs a.2).length + 1 = cs.length + 1
    rw [encAll_len cs a.2]
theorem walk_spec {r:OpenSpec} {k:Nat} {q:Program} {loose:List Str} {XP:(Str→Option Value)→Heap→Prop} {YP:World→Heap→Prop} {d:DefRec} {K:Params→PySem.W.Frag} {CX:World→CXT} {ps:List Str} {sp:World→Sp}
    (hwell:r.wellSaid = true) (hdf:d.params.defaults = []) (hlen:r.args.length = ps.length) (hr:Room k callerA)
    (hY:∀ (w:World) (h:Heap),YP w h→(K w.params).In h)
    (F:∀ (w:World) (mg:Str→Option Value) (fa:Addr) (h:Heap),YP w h→(K w.params).In h→h.Ns mainGlobals mg→mg d.name = some (.ref fa) →
      ∃ fd:FuncData,(∀ (s:Shared) (us:List Value),us.length = ps.length→BindsTo s fd ⟨us,[]⟩ (ps.zip us)) ∧
        ∀ base:Heap,(K w.params).In base→base.Ns mainGlobals mg→FnOk r.prog w (K w.params) mg base (CX w) k fa fd ps (sp w))
    (hsp:∀ (w:World) (H:Hp) (xs:List V) (a:Codec.denoteAll r.args),OnlyF H→Codec.withinAll r.args a = true→Codec.app r.args r.asked a = true→DwAll (K w.params) H xs (Codec.encAll r.args a) →
      sp w xs H (fun v H'=>Dw (K w.params) H' v (r.ret.enc (Codec.app r.args r.f a))) fun _ _ _=>False)
    (hCX:∀ (w:World) (H:Hp) (s:Shared) (e:Value) (s':Shared),CX w [] H s (fun _ _ _=>False) e s'→False) :
    PySem.W.WalkOS q loose XP YP r d [] (fun f vs=>PySem.call f vs):=by
  intro w s_0 s₁ mg mb G Y fa o pm cd doc dV kV ho hd hcd hD hmg hg args vals as hpre hlay hrd hwl hlo
  obtain ⟨a,e1,e2⟩:=PySem.W.os_pre_some hpre
  obtain ⟨e3,hwi⟩:=Codec.encAll_of_decAll r.args args a e1
  subst e3
  have KX:=hY w _ Y
  obtain ⟨fd,hb,hF⟩:=F w mg fa _ Y KX G.T.g hmg
  refine PySem.W.enter_call (codeAny_mono (spec_call (R:=[]) (cl:=classAt s_0.heap) (d0:=r.ret.enc (Codec.app r.args r.f a)) KX G.T.g G.T.b G.T.builtins G.T.nolimit hg hwl (pl_encAll _ _) (layable_weight hlay) hr hF hb (by rw [encAll_len];exact hlen)
    (fun H xs hO hS=>hsp w H xs a hO hwi e2 hS) fun H e s'=>hCX w H s₁ e s') fun r' s' hq=>?_)
  obtain ⟨u,as',rfl,h1,h2,h3,h4⟩:=hq
  exact ⟨.inl ⟨u,_,as',rfl,fun _=>rfl,h1,(OpenSpec.post_iff hwell hwi _ _).mpr rfl,fun z=>Bool.noConfusion (show false = true from z)⟩,h2,h3,h4⟩
theorem walk_specK {r:OpenSpec} {k:Nat} {q:Program} {loose:List Str} {XP:(Str→Option Value)→Heap→Prop} {YP:World→Heap→Prop} {d:DefRec} {K:Params→PySem.W.Frag} {CX:CXT} {ps:List Str} {sp:PySem.W.Frag→Sp}
    (hwell:r.wellSaid = true) (hdf:d.params.defaults = []) (hlen:r.args.length = ps.length) (hr:Room k callerA)
    (hY:∀ (w:World) (h:Heap),YP w h→(K w.params).In h)
    (F:∀ (w:World) (mg:Str→Option Value) (fa:Addr) (h:Heap),YP w h→(K w.params).In h→h.Ns mainGlobals mg→mg d.name = some (.ref fa) →
      ∃ fd:FuncData,(∀ (s:Shared) (us:List Value),us.length = ps.length→BindsTo s fd ⟨us,[]⟩ (ps.zip us)) ∧
        ∀ base:Heap,(K w.params).In base→base.Ns mainGlobals mg→FnOk r.prog w (K w.params) mg base CX k fa fd ps (sp (K w.params)))
    (hsp:∀ (K:PySem.W.Frag) (H:Hp) (xs:List V) (a:Codec.denoteAll r.args),OnlyF H→Codec.withinAll r.args a = true→Codec.app r.args r.asked a = true→DwAll K H xs (Codec.encAll r.args a) →
      sp K xs H (fun v H'=>Dw K H' v (r.ret.enc (Codec.app r.args r.f a))) fun _ _ _=>False)
    (hCX:∀ (H:Hp) (s:Shared) (e:Value) (s':Shared),CX [] H s (fun _ _ _=>False) e s'→False) :
    PySem.W.WalkOS q loose XP YP r d [] (fun f vs=>PySem.call f vs) :=
  walk_spec (K:=K) (CX:=fun _=>CX) (sp:=fun w=>sp (K w.params)) hwell hdf hlen hr hY F (fun w H xs a h1 h2 h3 h4=>hsp (K w.params) H xs a h1 h2 h3 h4) fun _ H s e s'=>hCX H s e s'
end L2
end
namespace WB
open PySem PySem.Spec PyProof.Rows L2 L3 WP
theorem lV1 {P:List Value→Prop} (h:∀ a,P [a]):∀ us:List Value,us.length = 1→P us
  | [a],_=>h a
theorem lV2 {P:List Value→Prop} (h:∀ a b,P [a,b]):∀ us:List Value,us.length = 2→P us
  | [a,b],_=>h a b
theorem lV3 {P:List Value→Prop} (h:∀ a b c,P [a,b,c]):∀ us:List Value,us.length = 3→P us
  | [a,b,c],_=>h a b c
theorem all_mk {P:Program} {w:World} {K:PySem.W.Frag} {h:Heap} {mg:Str→Option Value} {fa:Addr} (X:K.In h) (G:h.Ns mainGlobals mg) (hfa:mg "er_alike" = some (.ref fa))
    {f0 f1 f2 f3 f4 f5 f6 f7 f8 f9 f10 f11 f12 f13 f14 f15 f16 f17 f18 f19 f20 f21 f22 f23 f24 f25:Addr}
    {od0 an0 od1 an1 od2 an2 od3 an3 od4 an4 od5 an5 od6 an6 od7 an7 od8 an8 od9 an9 od10 an10 od11 an11 od12 an12 od13 an13 od14 an14 od15 an15 od16 an16 od17 an17 od18 an18 od19 an19 od20 an20 od21 an21 od22 an22 od23 an23 od24 an24 od25 an25:Option Addr}
    {sl0 sl1 sl2 sl3 sl4 sl5 sl6 sl7 sl8 sl9 sl10 sl11 sl12 sl13 sl14 sl15 sl16 sl17 sl18 sl19 sl20 sl21 sl22 sl23 sl24 sl25:Array (Option Value)}
    {oc0 kV0 dc0 pm0 cd0 ct0 oc1 kV1 dc1 pm1 cd1 ct1 oc2 kV2 dc2 pm2 cd2 ct2 oc3 kV3 dc3 pm3 cd3 ct3 oc4 kV4 dc4 pm4 cd4 ct4 oc5 kV5 dc5 pm5 cd5 ct5 oc6 kV6 dc6 pm6 cd6 ct6 oc7 kV7 dc7 pm7 cd7 ct7 oc8 kV8 dc8 pm8 cd8 ct8 oc9 kV9 dc9 pm9 cd9 ct9 oc10 kV10 dc10 pm10 cd10 ct10 oc11 kV11 dc11 pm11 cd11 ct11 oc12 kV12 dc12 pm12 cd12 ct12 oc13 kV13 dc13 pm13 cd13 ct13 oc14 kV14 dc14 pm14 cd14 ct14 oc15 kV15 dc15 pm15 cd15 ct15 oc16 kV16 dc16 pm16 cd16 ct16 oc17 kV17 dc17 pm17 cd17 ct17 oc18 kV18 dc18 pm18 cd18 ct18 oc19 kV19 dc19 pm19 cd19 ct19 oc20 kV20 dc20 pm20 cd20 ct20 oc21 kV21 dc21 pm21 cd21 ct21 oc22 kV22 dc22 pm22 cd22 ct22 oc23 kV23 dc23 pm23 cd23 ct23 oc24 kV24 dc24 pm24 cd24 ct24 oc25 kV25 dc25 pm25 cd25 ct25:Value}
    {t0 t1 t2 t3:Tok}
    (a0:PySem.W.nsIn K mainGlobals "common_divisor" = some (some (.ref f0))) (l0:K.lookup f0 = some ⟨oc0,od0,.func (PySem.W.fnOf "common_divisor" "common_divisor" (defArgs sGcd) (defBody sGcd) (defScope sGcd) .none kV0 dc0 pm0 an0 cd0 ct0),sl0⟩) (c0:PySem.W.codeIn K cd0 "common_divisor" = true) (k0:PySem.W.keepIn K (.ref f0) = true)
    (a1:PySem.W.nsIn K mainGlobals "value_at" = some (some (.ref f1))) (l1:K.lookup f1 = some ⟨oc1,od1,.func (PySem.W.fnOf "value_at" "value_at" (defArgs sVal) (defBody sVal) (defScope sVal) .none kV1 dc1 pm1 an1 cd1 ct1),sl1⟩) (c1:PySem.W.codeIn K cd1 "value_at" = true) (k1:PySem.W.keepIn K (.ref f1) = true)
    (a2:PySem.W.nsIn K mainGlobals "difference" = some (some (.ref f2))) (l2:K.lookup f2 = some ⟨oc2,od2,.func (PySem.W.fnOf "difference" "difference" (defArgs sDif) (defBody sDif) (defScope sDif) .none kV2 dc2 pm2 an2 cd2 ct2),sl2⟩) (c2:PySem.W.codeIn K cd2 "difference" = true) (k2:PySem.W.keepIn K (.ref f2) = true)
    (a3:PySem.W.nsIn K mainGlobals "without_column" = some (some (.ref f3))) (l3:K.lookup f3 = some ⟨oc3,od3,.func (PySem.W.fnOf "without_column" "without_column" (defArgs sWo) (defBody sWo) (defScope sWo) .none kV3 dc3 pm3 an3 cd3 ct3),sl3⟩) (c3:PySem.W.codeIn K cd3 "without_column" = true) (k3:PySem.W.keepIn K (.ref f3) = true)
    (a4:PySem.W.nsIn K mainGlobals "cleared" = some (some (.ref f4))) (l4:K.lookup f4 = some ⟨oc4,od4,.func (PySem.W.fnOf "cleared" "cleared" (defArgs sClr) (defBody sClr) (defScope sClr) .none kV4 dc4 pm4 an4 cd4 ct4),sl4⟩) (c4:PySem.W.codeIn K cd4 "cleared" = true) (k4:PySem.W.keepIn K (.ref f4) = true)
    (a5:PySem.W.nsIn K mainGlobals "first_column" = some (some (.ref f5))) (l5:K.lookup f5 = some ⟨oc5,od5,.func (PySem.W.fnOf "first_column" "first_column" (defArgs sFc) (defBody sFc) (defScope sFc) .none kV5 dc5 pm5 an5 cd5 ct5),sl5⟩) (c5:PySem.W.codeIn K cd5 "first_column" = true) (k5:PySem.W.keepIn K (.ref f5) = true)
    (a6:PySem.W.nsIn K mainGlobals "rank" = some (some (.ref f6))) (l6:K.lookup f6 = some ⟨oc6,od6,.func (PySem.W.fnOf "rank" "rank" (defArgs sRank) (defBody sRank) (defScope sRank) .none kV6 dc6 pm6 an6 cd6 ct6),sl6⟩) (c6:PySem.W.codeIn K cd6 "rank" = true) (k6:PySem.W.keepIn K (.ref f6) = true)
    (a7:PySem.W.nsIn K mainGlobals "without_common_divisor" = some (some (.ref f7))) (l7:K.lookup f7 = some ⟨oc7,od7,.func (PySem.W.fnOf "without_common_divisor" "without_common_divisor" (defArgs sWcd) (defBody sWcd) (defScope sWcd) .none kV7 dc7 pm7 an7 cd7 ct7),sl7⟩) (c7:PySem.W.codeIn K cd7 "without_common_divisor" = true) (k7:PySem.W.keepIn K (.ref f7) = true)
    (a8:PySem.W.nsIn K mainGlobals "determinant" = some (some (.ref f8))) (l8:K.lookup f8 = some ⟨oc8,od8,.func (PySem.W.fnOf "determinant" "determinant" (defArgs sDet) (defBody sDet) (defScope sDet) .none kV8 dc8 pm8 an8 cd8 ct8),sl8⟩) (c8:PySem.W.codeIn K cd8 "determinant" = true) (k8:PySem.W.keepIn K (.ref f8) = true)
    (a9:PySem.W.nsIn K mainGlobals "normal_of" = some (some (.ref f9))) (l9:K.lookup f9 = some ⟨oc9,od9,.func (PySem.W.fnOf "normal_of" "normal_of" (defArgs sNrm) (defBody sNrm) (defScope sNrm) .none kV9 dc9 pm9 an9 cd9 ct9),sl9⟩) (c9:PySem.W.codeIn K cd9 "normal_of" = true) (k9:PySem.W.keepIn K (.ref f9) = true)
    (a10:PySem.W.nsIn K mainGlobals "choices" = some (some (.ref f10))) (l10:K.lookup f10 = some ⟨oc10,od10,.func (PySem.W.fnOf "choices" "choices" (defArgs sCho) (defBody sCho) (defScope sCho) .none kV10 dc10 pm10 an10 cd10 ct10),sl10⟩) (c10:PySem.W.codeIn K cd10 "choices" = true) (k10:PySem.W.keepIn K (.ref f10) = true)
    (a11:PySem.W.nsIn K mainGlobals "room_of" = some (some (.ref f11))) (l11:K.lookup f11 = some ⟨oc11,od11,.func (PySem.W.fnOf "room_of" "room_of" (defArgs sRm) (defBody sRm) (defScope sRm) .none kV11 dc11 pm11 an11 cd11 ct11),sl11⟩) (c11:PySem.W.codeIn K cd11 "room_of" = true) (k11:PySem.W.keepIn K (.ref f11) = true)
    (a12:PySem.W.nsIn K mainGlobals "points_of" = some (some (.ref f12))) (l12:K.lookup f12 = some ⟨oc12,od12,.func (PySem.W.fnOf "points_of" "points_of" (defArgs sPts) (defBody sPts) (defScope sPts) .none kV12 dc12 pm12 an12 cd12 ct12),sl12⟩) (c12:PySem.W.codeIn K cd12 "points_of" = true) (k12:PySem.W.keepIn K (.ref f12) = true)
    (a13:PySem.W.nsIn K mainGlobals "sides_of" = some (some (.ref f13))) (l13:K.lookup f13 = some ⟨oc13,od13,.func (PySem.W.fnOf "sides_of" "sides_of" (defArgs sSid) (defBody sSid) (defScope sSid) .none kV13 dc13 pm13 an13 cd13 ct13),sl13⟩) (c13:PySem.W.codeIn K cd13 "sides_of" = true) (k13:PySem.W.keepIn K (.ref f13) = true)
    (a14:PySem.W.nsIn K mainGlobals "is_corner" = some (some (.ref f14))) (l14:K.lookup f14 = some ⟨oc14,od14,.func (PySem.W.fnOf "is_corner" "is_corner" (defArgs sCor) (defBody sCor) (defScope sCor) .none kV14 dc14 pm14 an14 cd14 ct14),sl14⟩) (c14:PySem.W.codeIn K cd14 "is_corner" = true) (k14:PySem.W.keepIn K (.ref f14) = true)
    (a15:PySem.W.nsIn K mainGlobals "corners_of" = some (some (.ref f15))) (l15:K.lookup f15 = some ⟨oc15,od15,.func (PySem.W.fnOf "corners_of" "corners_of" (defArgs sCrs) (defBody sCrs) (defScope sCrs) .none kV15 dc15 pm15 an15 cd15 ct15),sl15⟩) (c15:PySem.W.codeIn K cd15 "corners_of" = true) (k15:PySem.W.keepIn K (.ref f15) = true)
    (a16:PySem.W.nsIn K mainGlobals "maps_between" = some (some (.ref f16))) (l16:K.lookup f16 = some ⟨oc16,od16,.func (PySem.W.fnOf "maps_between" "maps_between" (defArgs sMps) (defBody sMps) (defScope sMps) .none kV16 dc16 pm16 an16 cd16 ct16),sl16⟩) (c16:PySem.W.codeIn K cd16 "maps_between" = true) (k16:PySem.W.keepIn K (.ref f16) = true)
    (a17:PySem.W.nsIn K mainGlobals "filled" = some (some (.ref f17))) (l17:K.lookup f17 = some ⟨oc17,od17,.func (PySem.W.fnOf "filled" "filled" (defArgs sFil) (defBody sFil) (defScope sFil) .none kV17 dc17 pm17 an17 cd17 ct17),sl17⟩) (c17:PySem.W.codeIn K cd17 "filled" = true) (k17:PySem.W.keepIn K (.ref f17) = true)
    (a18:PySem.W.nsIn K mainGlobals "base_of" = some (some (.ref f18))) (l18:K.lookup f18 = some ⟨oc18,od18,.func (PySem.W.fnOf "base_of" "base_of" (defArgs sBas) (defBody sBas) (defScope sBas) .none kV18 dc18 pm18 an18 cd18 ct18),sl18⟩) (c18:PySem.W.codeIn K cd18 "base_of" = true) (k18:PySem.W.keepIn K (.ref f18) = true)
    (a19:PySem.W.nsIn K mainGlobals "arrangements" = some (some (.ref f19))) (l19:K.lookup f19 = some ⟨oc19,od19,.func (PySem.W.fnOf "arrangements" "arrangements" (defArgs sArr) (defBody sArr) (defScope sArr) .none kV19 dc19 pm19 an19 cd19 ct19),sl19⟩) (c19:PySem.W.codeIn K cd19 "arrangements" = true) (k19:PySem.W.keepIn K (.ref f19) = true)
    (a20:PySem.W.nsIn K mainGlobals "square_of" = some (some (.ref f20))) (l20:K.lookup f20 = some ⟨oc20,od20,.func (PySem.W.fnOf "square_of" "square_of" (defArgs sSqo) (defBody sSqo) (defScope sSqo) .none kV20 dc20 pm20 an20 cd20 ct20),sl20⟩) (c20:PySem.W.codeIn K cd20 "square_of" = true) (k20:PySem.W.keepIn K (.ref f20) = true)
    (a21:PySem.W.nsIn K mainGlobals "adjugate" = some (some (.ref f21))) (l21:K.lookup f21 = some ⟨oc21,od21,.func (PySem.W.fnOf "adjugate" "adjugate" (defArgs sAdj) (defBody sAdj) (defScope sAdj) .none kV21 dc21 pm21 an21 cd21 ct21),sl21⟩) (c21:PySem.W.codeIn K cd21 "adjugate" = true) (k21:PySem.W.keepIn K (.ref f21) = true)
    (a22:PySem.W.nsIn K mainGlobals "cofactor" = some (some (.ref f22))) (l22:K.lookup f22 = some ⟨oc22,od22,.func (PySem.W.fnOf "cofactor" "cofactor" (defArgs sCof) (defBody sCof) (defScope sCof) .none kV22 dc22 pm22 an22 cd22 ct22),sl22⟩) (c22:PySem.W.codeIn K cd22 "cofactor" = true) (k22:PySem.W.keepIn K (.ref f22) = true)
    (a23:PySem.W.nsIn K mainGlobals "moved" = some (some (.ref f23))) (l23:K.lookup f23 = some ⟨oc23,od23,.func (PySem.W.fnOf "moved" "moved" (defArgs sMov) (defBody sMov) (defScope sMov) .none kV23 dc23 pm23 an23 cd23 ct23),sl23⟩) (c23:PySem.W.codeIn K cd23 "moved" = true) (k23:PySem.W.keepIn K (.ref f23) = true)
    (a24:PySem.W.nsIn K mainGlobals "times" = some (some (.ref f24))) (l24:K.lookup f24 = some ⟨oc24,od24,.func (PySem.W.fnOf "times" "times" (defArgs sTim) (defBody sTim) (defScope sTim) .none kV24 dc24 pm24 an24 cd24 ct24),sl24⟩) (c24:PySem.W.codeIn K cd24 "times" = true) (k24:PySem.W.keepIn K (.ref f24) = true)
    (a25:PySem.W.nsIn K mainGlobals "er_alike" = some (some (.ref f25))) (l25:K.lookup f25 = some ⟨oc25,od25,.func (PySem.W.fnOf "er_alike" "er_alike" (defArgs sEra) (defBody sEra) (defScope sEra) .none kV25 dc25 pm25 an25 cd25 ct25),sl25⟩) (c25:PySem.W.codeIn K cd25 "er_alike" = true) (k25:PySem.W.keepIn K (.ref f25) = true)
    (z0:PySem.W.nsIn K mainGlobals "zip" = some none)
    (z1:PySem.W.nsIn K mainGlobals "tuple" = some none)
    (z2:PySem.W.nsIn K mainGlobals "sum" = some none)
    (z3:PySem.W.nsIn K mainGlobals "any" = some none)
    (z4:PySem.W.nsIn K mainGlobals "all" = some none)
    (z5:PySem.W.nsIn K mainGlobals "abs" = some none)
    (z6:PySem.W.nsIn K mainGlobals "len" = some none)
    (z7:PySem.W.nsIn K mainGlobals "range" = some none)
    (z8:PySem.W.nsIn K mainGlobals "min" = some none)
    (z9:PySem.W.nsIn K mainGlobals "max" = some none)
    (z10:PySem.W.nsIn K mainGlobals "sorted" = some none)
    (z11:PySem.W.nsIn K mainGlobals "list" = some none)
    (z12:PySem.W.nsIn K mainGlobals "set" = some none)
    (nu0:PySem.W.nsIn K mainGlobals "MOST_AXES" = some (some (.int 4 t0)))
    (nu1:PySem.W.nsIn K mainGlobals "MOST_POINTS" = some (some (.int 12 t1)))
    (nu2:PySem.W.nsIn K mainGlobals "FARTHEST" = some (some (.int 4 t2)))
    (nu3:PySem.W.nsIn K mainGlobals "NO_BODY" = some (some (.int (-2) t3))) :
    ∃ fd:FuncData,(∀ (s:Shared) (us:List Value),us.length = (["body","other"]:List Str).length→BindsTo s fd ⟨us,[]⟩ ((["body","other"]:List Str).zip us))∧∀ base:Heap,K.In base→base.Ns mainGlobals mg→FnOk P w K mg base CX0 9 fa fd ["body","other"] (spEra K):=by
  have e:=hfa.symm.trans (PySem.W.mg_of X G a25)
  cases e
  have F0:=fun_mk (st:=sGcd) l0 c0 k0
  have b0:=F0.binds (ps:=["a","b"]) fun _ _ _ _ _ _=>lV2 fun _ _=>rfl
  have C0:Cal K mg "common_divisor" sGcd ["a","b"] f0 _:=⟨F0,PySem.W.mg_of X G a0,b0⟩
  have F1:=fun_mk (st:=sVal) l1 c1 k1
  have b1:=F1.binds (ps:=["normal","point"]) fun _ _ _ _ _ _=>lV2 fun _ _=>rfl
  have C1:Cal K mg "value_at" sVal ["normal","point"] f1 _:=⟨F1,PySem.W.mg_of X G a1,b1⟩
  have F2:=fun_mk (st:=sDif) l2 c2 k2
  have b2:=F2.binds (ps:=["point","other"]) fun _ _ _ _ _ _=>lV2 fun _ _=>rfl
  have C2:Cal K mg "difference" sDif ["point","other"] f2 _:=⟨F2,PySem.W.mg_of X G a2,b2⟩
  have F3:=fun_mk (st:=sWo) l3 c3 k3
  have b3:=F3.binds (ps:=["row","column"]) fun _ _ _ _ _ _=>lV2 fun _ _=>rfl
  have C3:Cal K mg "without_column" sWo ["row","column"] f3 _:=⟨F3,PySem.W.mg_of X G a3,b3⟩
  have F4:=fun_mk (st:=sClr) l4 c4 k4
  have b4:=F4.binds (ps:=["row","head","column"]) fun _ _ _ _ _ _=>lV3 fun _ _ _=>rfl
  have C4:Cal K mg "cleared" sClr ["row","head","column"] f4 _:=⟨F4,PySem.W.mg_of X G a4,b4⟩
  have F5:=fun_mk (st:=sFc) l5 c5 k5
  have b5:=F5.binds (ps:=["row"]) fun _ _ _ _ _ _=>lV1 fun _=>rfl
  have C5:Cal K mg "first_column" sFc ["row"] f5 _:=⟨F5,PySem.W.mg_of X G a5,b5⟩
  have F6:=fun_mk (st:=sRank) l6 c6 k6
  have b6:=F6.binds (ps:=["rows"]) fun _ _ _ _ _ _=>lV1 fun _=>rfl
  have C6:Cal K mg "rank" sRank ["rows"] f6 _:=⟨F6,PySem.W.mg_of X G a6,b6⟩
  have F7:=fun_mk (st:=sWcd) l7 c7 k7
  have b7:=F7.binds (ps:=["normal"]) fun _ _ _ _ _ _=>lV1 fun _=>rfl
  have C7:Cal K mg "without_common_divisor" sWcd ["normal"] f7 _:=⟨F7,PySem.W.mg_of X G a7,b7⟩
  have F8:=fun_mk (st:=sDet) l8 c8 k8
  have b8:=F8.binds (ps:=["rows"]) fun _ _ _ _ _ _=>lV1 fun _=>rfl
  have C8:Cal K mg "determinant" sDet ["rows"] f8 _:=⟨F8,PySem.W.mg_of X G a8,b8⟩
  have F9:=fun_mk (st:=sNrm) l9 c9 k9
  have b9:=F9.binds (ps:=["chosen"]) fun _ _ _ _ _ _=>lV1 fun _=>rfl
  have C9:Cal K mg "normal_of" sNrm ["chosen"] f9 _:=⟨F9,PySem.W.mg_of X G a9,b9⟩
  have F10:=fun_mk (st:=sCho) l10 c10 k10
  have b10:=F10.binds (ps:=["points","size"]) fun _ _ _ _ _ _=>lV2 fun _ _=>rfl
  have C10:Cal K mg "choices" sCho ["points","size"] f10 _:=⟨F10,PySem.W.mg_of X G a10,b10⟩
  have F11:=fun_mk (st:=sRm) l11 c11 k11
  have b11:=F11.binds (ps:=["points"]) fun _ _ _ _ _ _=>lV1 fun _=>rfl
  have C11:Cal K mg "room_of" sRm ["points"] f11 _:=⟨F11,PySem.W.mg_of X G a11,b11⟩
  have F12:=fun_mk (st:=sPts) l12 c12 k12
  have b12:=F12.binds (ps:=["body"]) fun _ _ _ _ _ _=>lV1 fun _=>rfl
  have C12:Cal K mg "points_of" sPts ["body"] f12 _:=⟨F12,PySem.W.mg_of X G a12,b12⟩
  have F13:=fun_mk (st:=sSid) l13 c13 k13
  have b13:=F13.binds (ps:=["points"]) fun _ _ _ _ _ _=>lV1 fun _=>rfl
  have C13:Cal K mg "sides_of" sSid ["points"] f13 _:=⟨F13,PySem.W.mg_of X G a13,b13⟩
  have F14:=fun_mk (st:=sCor) l14 c14 k14
  have b14:=F14.binds (ps:=["point","sides"]) fun _ _ _ _ _ _=>lV2 fun _ _=>rfl
  have C14:Cal K mg "is_corner" sCor ["point","sides"] f14 _:=⟨F14,PySem.W.mg_of X G a14,b14⟩
  have F15:=fun_mk (st:=sCrs) l15 c15 k15
  have b15:=F15.binds (ps:=["points"]) fun _ _ _ _ _ _=>lV1 fun _=>rfl
  have C15:Cal K mg "corners_of" sCrs ["points"] f15 _:=⟨F15,PySem.W.mg_of X G a15,b15⟩
  have F16:=fun_mk (st:=sMps) l16 c16 k16
  have b16:=F16.binds (ps:=["corners","goals"]) fun _ _ _ _ _ _=>lV2 fun _ _=>rfl
  have C16:Cal K mg "maps_between" sMps ["corners","goals"] f16 _:=⟨F16,PySem.W.mg_of X G a16,b16⟩
  have F17:=fun_mk (st:=sFil) l17 c17 k17
  have b17:=F17.binds (ps:=["numbers","size"]) fun _ _ _ _ _ _=>lV2 fun _ _=>rfl
  have C17:Cal K mg "filled" sFil ["numbers","size"] f17 _:=⟨F17,PySem.W.mg_of X G a17,b17⟩
  have F18:=fun_mk (st:=sBas) l18 c18 k18
  have b18:=F18.binds (ps:=["corners"]) fun _ _ _ _ _ _=>lV1 fun _=>rfl
  have C18:Cal K mg "base_of" sBas ["corners"] f18 _:=⟨F18,PySem.W.mg_of X G a18,b18⟩
  have F19:=fun_mk (st:=sArr) l19 c19 k19
  have b19:=F19.binds (ps:=["points","size"]) fun _ _ _ _ _ _=>lV2 fun _ _=>rfl
  have C19:Cal K mg "arrangements" sArr ["points","size"] f19 _:=⟨F19,PySem.W.mg_of X G a19,b19⟩
  have F20:=fun_mk (st:=sSqo) l20 c20 k20
  have b20:=F20.binds (ps:=["undone","divisor","images"]) fun _ _ _ _ _ _=>lV3 fun _ _ _=>rfl
  have C20:Cal K mg "square_of" sSqo ["undone","divisor","images"] f20 _:=⟨F20,PySem.W.mg_of X G a20,b20⟩
  have F21:=fun_mk (st:=sAdj) l21 c21 k21
  have b21:=F21.binds (ps:=["rows"]) fun _ _ _ _ _ _=>lV1 fun _=>rfl
  have C21:Cal K mg "adjugate" sAdj ["rows"] f21 _:=⟨F21,PySem.W.mg_of X G a21,b21⟩
  have F22:=fun_mk (st:=sCof) l22 c22 k22
  have b22:=F22.binds (ps:=["rows","place","column"]) fun _ _ _ _ _ _=>lV3 fun _ _ _=>rfl
  have C22:Cal K mg "cofactor" sCof ["rows","place","column"] f22 _:=⟨F22,PySem.W.mg_of X G a22,b22⟩
  have F23:=fun_mk (st:=sMov) l23 c23 k23
  have b23:=F23.binds (ps:=["point","way"]) fun _ _ _ _ _ _=>lV2 fun _ _=>rfl
  have C23:Cal K mg "moved" sMov ["point","way"] f23 _:=⟨F23,PySem.W.mg_of X G a23,b23⟩
  have F24:=fun_mk (st:=sTim) l24 c24 k24
  have b24:=F24.binds (ps:=["rows","point"]) fun _ _ _ _ _ _=>lV2 fun _ _=>rfl
  have C24:Cal K mg "times" sTim ["rows","point"] f24 _:=⟨F24,PySem.W.mg_of X G a24,b24⟩
  have F25:=fun_mk (st:=sEra) l25 c25 k25
  have T:Tx mg:=⟨PySem.W.mg_none_of X G z0,PySem.W.mg_none_of X G z1,PySem.W.mg_none_of X G z2,PySem.W.mg_none_of X G z3,PySem.W.mg_none_of X G z4,PySem.W.mg_none_of X G z5,PySem.W.mg_none_of X G z6,PySem.W.mg_none_of X G z7,PySem.W.mg_none_of X G z8,PySem.W.mg_none_of X G z9,PySem.W.mg_none_of X G z10,PySem.W.mg_none_of X G z11⟩
  have U:Nums mg:=⟨⟨_,PySem.W.mg_of X G nu0⟩,⟨_,PySem.W.mg_of X G nu1⟩,⟨_,PySem.W.mg_of X G nu2⟩,⟨_,PySem.W.mg_of X G nu3⟩⟩
  let Z:Ds K mg:=⟨_,_,C0,_,_,C1,_,_,C2,_,_,C3,_,_,C4,_,_,C5,_,_,C6,_,_,C7,_,_,C8,_,_,C9,_,_,C10⟩
  exact ⟨PySem.W.fnOf "er_alike" "er_alike" (defArgs sEra) (defBody sEra) (defScope sEra) .none kV25 dc25 pm25 an25 cd25 ct25,fun s us hu=>match us,hu with | [_,_],_=>.of_eq rfl,fun base _ _=>ok_era F25 T (PySem.W.mg_none_of X G z12) U Z ⟨_,_,C18,_,_,C19,_,_,C20,_,_,C21,_,_,C22,_,_,C23,_,_,C24⟩ C11 C12 C13 C14 C15 C16 C17⟩
end WB
open PySem PySem.W PyProof.Rows
set_option maxRecDepth 100000 in
set_option maxHeartbeats 0 in
theorem PySem.Challenge.cw_wholepoints_s08_er_alike_holds : PySem.Challenge.rw_wholepoints_s08_er_alike.Holds := by
  w_on; k_headS; (case hw => exact ⟨[.list [.int 0, .int 0], .list [.int 0, .int 0]], by decide +kernel, by decide +kernel⟩)
  k_fillS
  refine L2.walk_specK (r := PySem.Challenge.rw_wholepoints_s08_er_alike) (k := 9) (CX := L2.CX0) (ps := ["body", "other"]) (sp := WB.spEra) (by decide +kernel) rfl rfl ⟨rfl, by decide, by decide⟩ (fun w h Y => PySem.W.kIn_of Y) ?F ?S (fun _ _ _ _ z => z)
  case F =>
    intro w mg fa h Y KX G hmg
    refine' WB.all_mk KX G hmg ?a0 ?l0 ?c0 ?k0 ?a1 ?l1 ?c1 ?k1 ?a2 ?l2 ?c2 ?k2 ?a3 ?l3 ?c3 ?k3 ?a4 ?l4 ?c4 ?k4 ?a5 ?l5 ?c5 ?k5 ?a6 ?l6 ?c6 ?k6 ?a7 ?l7 ?c7 ?k7 ?a8 ?l8 ?c8 ?k8 ?a9 ?l9 ?c9 ?k9 ?a10 ?l10 ?c10 ?k10 ?a11 ?l11 ?c11 ?k11 ?a12 ?l12 ?c12 ?k12 ?a13 ?l13 ?c13 ?k13 ?a14 ?l14 ?c14 ?k14 ?a15 ?l15 ?c15 ?k15 ?a16 ?l16 ?c16 ?k16 ?a17 ?l17 ?c17 ?k17 ?a18 ?l18 ?c18 ?k18 ?a19 ?l19 ?c19 ?k19 ?a20 ?l20 ?c20 ?k20 ?a21 ?l21 ?c21 ?k21 ?a22 ?l22 ?c22 ?k22 ?a23 ?l23 ?c23 ?k23 ?a24 ?l24 ?c24 ?k24 ?a25 ?l25 ?c25 ?k25 ?z0 ?z1 ?z2 ?z3 ?z4 ?z5 ?z6 ?z7 ?z8 ?z9 ?z10 ?z11 ?z12 ?nu0 ?nu1 ?nu2 ?nu3
    (case a0 => k_is)
    (case l0 => k_is)
    (case c0 => k_is)
    (case k0 => k_is)
    (case a1 => k_is)
    (case l1 => k_is)
    (case c1 => k_is)
    (case k1 => k_is)
    (case a2 => k_is)
    (case l2 => k_is)
    (case c2 => k_is)
    (case k2 => k_is)
    (case a3 => k_is)
    (case l3 => k_is)
    (case c3 => k_is)
    (case k3 => k_is)
    (case a4 => k_is)
    (case l4 => k_is)
    (case c4 => k_is)
    (case k4 => k_is)
    (case a5 => k_is)
    (case l5 => k_is)
    (case c5 => k_is)
    (case k5 => k_is)
    (case a6 => k_is)
    (case l6 => k_is)
    (case c6 => k_is)
    (case k6 => k_is)
    (case a7 => k_is)
    (case l7 => k_is)
    (case c7 => k_is)
    (case k7 => k_is)
    (case a8 => k_is)
    (case l8 => k_is)
    (case c8 => k_is)
    (case k8 => k_is)
    (case a9 => k_is)
    (case l9 => k_is)
    (case c9 => k_is)
    (case k9 => k_is)
    (case a10 => k_is)
    (case l10 => k_is)
    (case c10 => k_is)
    (case k10 => k_is)
    (case a11 => k_is)
    (case l11 => k_is)
    (case c11 => k_is)
    (case k11 => k_is)
    (case a12 => k_is)
    (case l12 => k_is)
    (case c12 => k_is)
    (case k12 => k_is)
    (case a13 => k_is)
    (case l13 => k_is)
    (case c13 => k_is)
    (case k13 => k_is)
    (case a14 => k_is)
    (case l14 => k_is)
    (case c14 => k_is)
    (case k14 => k_is)
    (case a15 => k_is)
    (case l15 => k_is)
    (case c15 => k_is)
    (case k15 => k_is)
    (case a16 => k_is)
    (case l16 => k_is)
    (case c16 => k_is)
    (case k16 => k_is)
    (case a17 => k_is)
    (case l17 => k_is)
    (case c17 => k_is)
    (case k17 => k_is)
    (case a18 => k_is)
    (case l18 => k_is)
    (case c18 => k_is)
    (case k18 => k_is)
    (case a19 => k_is)
    (case l19 => k_is)
    (case c19 => k_is)
    (case k19 => k_is)
    (case a20 => k_is)
    (case l20 => k_is)
    (case c20 => k_is)
    (case k20 => k_is)
    (case a21 => k_is)
    (case l21 => k_is)
    (case c21 => k_is)
    (case k21 => k_is)
    (case a22 => k_is)
    (case l22 => k_is)
    (case c22 => k_is)
    (case k22 => k_is)
    (case a23 => k_is)
    (case l23 => k_is)
    (case c23 => k_is)
    (case k23 => k_is)
    (case a24 => k_is)
    (case l24 => k_is)
    (case c24 => k_is)
    (case k24 => k_is)
    (case a25 => k_is)
    (case l25 => k_is)
    (case c25 => k_is)
    (case k25 => k_is)
    (case z0 => k_is)
    (case z1 => k_is)
    (case z2 => k_is)
    (case z3 => k_is)
    (case z4 => k_is)
    (case z5 => k_is)
    (case z6 => k_is)
    (case z7 => k_is)
    (case z8 => k_is)
    (case z9 => k_is)
    (case z10 => k_is)
    (case z11 => k_is)
    (case z12 => k_is)
    (case nu0 => k_is)
    (case nu1 => k_is)
    (case nu2 => k_is)
    (case nu3 => k_is)
  case S =>
    intro K H xs a hO hwi hask hx
    cases hx with
    | cons h1 h2 =>
      cases h2 with
      | cons h2 h3 =>
        cases h3
        cases h1 with
        | lst hs1 ha1 =>
          cases h2 with
          | lst hs2 ha2 =>
            have e1 := L2.ints_dw a.1 _ ha1
            subst e1
            have e2 := L2.ints_dw a.2.1 _ ha2
            subst e2
            exact ⟨_, _, a.1, a.2.1, rfl, hs1, hs2, hask, fun p H' hp => .lst (L2.SqL.of hp) (L2.dw_ints _)⟩
