import PyProof.Rows.All
import Wide.All
import OpenK.AllK
import Wide.FinOn
import PyProof.EqAt
import PyProof.EqKinds
import PyProof.TupleCall
import KE.BitLaws
import KE.KSortTupUse
import KE.KSortKey
import KE.KDictList
import KE.OsEnd
import Open.SpecLaws
import PyProof.StrLawsFirst
import PyProof.StrLawsIn
import KE.IntTextLaws
import PyProof.Rows.StrCase
import PyProof.Rows.StrCut
import KE.OsGo
import PySem.Challenge.RW_headplaces_s01_answers
set_option Elab.async false
set_option linter.all false
set_option maxRecDepth 100000
set_option maxHeartbeats 4000000
namespace L2
open PySem PySem.Spec PyProof.Rows
abbrev Key:=Sum Int Str
def keyIs:Key→Value→Bool
 | .inl k,v=>Value.isInt k v
 | .inr x,v=>Value.isStrOf x v
def keyH (w:World):Key→Int
 | .inl k=>hashInt k
 | .inr x=>hashStr w x
theorem keyIs_shape:∀ {k:Key} {v:Value},keyIs k v = true→(∃ i t,k = Sum.inl i∧v = Value.int i t)∨(∃ x t,k = Sum.inr x∧v = Value.str x t)
 | .inl i,v,h=>by
   obtain ⟨t,e⟩:=Value.isInt_shape (k:=i) (v:=v) h
   exact .inl ⟨i,t,rfl,e⟩
 | .inr x,v,h=>by
   obtain ⟨t,e⟩:=Value.isStrOf_shape (x:=x) (v:=v) h
   exact .inr ⟨x,t,rfl,e⟩
theorem keyIs_int (i:Int) (t:Tok):keyIs (.inl i) (.int i t) = true:=by simp [keyIs,Value.isInt]
theorem keyIs_str (x:Str) (t:Tok):keyIs (.inr x) (.str x t) = true:=by simp [keyIs,Value.isStrOf]
theorem key_ll (a b:Int):decide ((Sum.inl a:Key) = Sum.inl b) = (a == b):=by
 by_cases e:a = b
 · subst e; simp
 · have h:¬ (Sum.inl a:Key) = Sum.inl b:=fun q=>e (Sum.inl.inj q)
   rw [decide_eq_false h]
   exact (beq_eq_false_iff_ne.mpr e).symm
theorem key_rr (a b:Str):decide ((Sum.inr a:Key) = Sum.inr b) = decide (a = b):=by
 by_cases e:a = b
 · subst e; simp
 · have h:¬ (Sum.inr a:Key) = Sum.inr b:=fun q=>e (Sum.inr.inj q)
   rw [decide_eq_false h,decide_eq_false e]
theorem key_lr (a:Int) (b:Str):decide ((Sum.inl a:Key) = Sum.inr b) = false:=decide_eq_false (fun q=>nomatch q)
theorem key_rl (a:Str) (b:Int):decide ((Sum.inr a:Key) = Sum.inl b) = false:=decide_eq_false (fun q=>nomatch q)
def mixKind (prog:Program) (w:World):PySem.KeyKind prog w Key where
 is:=keyIs
 hash:=keyH w
 inj:=fun v a b ha hb=>by
  rcases keyIs_shape ha with ⟨i,t,rfl,rfl⟩ | ⟨x,t,rfl,rfl⟩
  · rcases keyIs_shape hb with ⟨j,u,rfl,e⟩ | ⟨y,u,rfl,e⟩
    · injection e with e1 _; rw [e1]
    · exact nomatch e
  · rcases keyIs_shape hb with ⟨j,u,rfl,e⟩ | ⟨y,u,rfl,e⟩
    · exact nomatch e
    · injection e with e1 _; rw [e1]
 byValue:=fun k v h=>by
  rcases keyIs_shape h with ⟨i,t,rfl,rfl⟩ | ⟨x,t,rfl,rfl⟩ <;> rfl
 pyHash:=fun hv h=>by
  rcases keyIs_shape hv with ⟨i,t,rfl,rfl⟩ | ⟨x,t,rfl,rfl⟩
  · exact wpAny_pyHash_int h
  · exact wpAny_pyHash_str h
 eqBool:=fun hu hv h=>by
  rcases keyIs_shape hu with ⟨i,t,rfl,rfl⟩ | ⟨x,t,rfl,rfl⟩
  · rcases keyIs_shape hv with ⟨j,u,rfl,rfl⟩ | ⟨y,u,rfl,rfl⟩
    · rw [key_ll] at h; exact wpAny_eqBool_int h
    · rw [key_lr] at h; exact SeqAt.EqAt.int_str i t y u _ _ _ _ h
  · rcases keyIs_shape hv with ⟨j,u,rfl,rfl⟩ | ⟨y,u,rfl,rfl⟩
    · rw [key_rl] at h; exact SeqAt.EqAt.str_int x t j u _ _ _ _ h
    · rw [key_rr] at h; exact wpAny_eqBool_str h
 «strs»:=fun k x t v h=>by
  rcases keyIs_shape h with ⟨i,u,rfl,e⟩ | ⟨y,u,rfl,e⟩
  · exact nomatch e
  · injection e with e1 _
    subst e1
    cases v <;> rfl
theorem mixKind_int (prog:Program) (w:World) (i:Int) (t:Tok):(mixKind prog w).is (.inl i) (.int i t) = true:=keyIs_int i t
theorem mixKind_str (prog:Program) (w:World) (x:Str) (t:Tok):(mixKind prog w).is (.inr x) (.str x t) = true:=keyIs_str x t
end L2
namespace L2
open PySem PySem.Spec PyProof.Rows
inductive V where
 | non | bl (b:Bool) | int (i:Int) | str (x:Str) | byt (b:Array UInt8) | flt (b:UInt64) | ref (a:Addr) | ty (n:String)
 deriving DecidableEq
def RelV:V→Value→Prop
 | .non,u=>u = Value.none
 | .bl b,u=>u = Value.bool b
 | .int i,u=>∃ t,u = Value.int i t
 | .str x,u=>∃ t,u = Value.str x t
 | .byt b,u=>∃ t,u = Value.bytes b t
 | .flt b,u=>∃ t,u = Value.float b t
 | .ref a,u=>u = Value.ref a
 | .ty n,u=>u = Value.type n
abbrev Vals:List V→List Value→Prop:=Paired RelV
theorem Vals.length {xs:List V} {us:List Value} (r:Vals xs us):xs.length = us.length:=Paired.length r
theorem Vals.get:∀ {xs:List V} {us:List Value} {i:Nat} {x:V},Vals xs us→xs[i]? = some x→∃ u,us[i]? = some u∧RelV x u
 | _,_,_,_,.nil,e=>by simp at e
 | _,_,0,_,.cons r _,e=>by simp at e; subst e; exact ⟨_,rfl,r⟩
 | _,_,i + 1,x,.cons _ t,e=>by
   obtain ⟨u,h1,h2⟩:=Vals.get (i:=i) (x:=x) t (by simpa using e)
   exact ⟨u,by simpa using h1,h2⟩
theorem Vals.set {x:V} {u:Value} (r:RelV x u):∀ {xs:List V} {us:List Value} (i:Nat),Vals xs us→Vals (xs.set i x) (us.set i u)
 | _,_,_,.nil=>.nil
 | _,_,0,.cons _ t=>.cons r t
 | _,_,i + 1,.cons q t=>.cons q (Vals.set r i t)
theorem Vals.append:∀ {xs ys:List V} {us ws:List Value},Vals xs us→Vals ys ws→Vals (xs ++ ys) (us ++ ws)
 | _,_,_,_,.nil,s=>s
 | _,_,_,_,.cons r t,s=>.cons r (Vals.append t s)
theorem Vals.take:∀ {xs:List V} {us:List Value} (n:Nat),Vals xs us→Vals (xs.take n) (us.take n)
 | _,_,0,_=>.nil
 | _,_,_ + 1,.nil=>.nil
 | _,_,n + 1,.cons r t=>.cons r (Vals.take n t)
theorem Vals.drop:∀ {xs:List V} {us:List Value} (n:Nat),Vals xs us→Vals (xs.drop n) (us.drop n)
 | _,_,0,r=>r
 | _,_,_ + 1,.nil=>.nil
 | _,_,n + 1,.cons _ t=>Vals.drop n t
def RelO:Option V→Option Value→Prop
 | some v,some u=>RelV v u
 | none,none=>True
 | _,_=>False
def KV {κ:Type}:List (κ × V)→List (κ × Value)→Prop:=Paired fun (p:κ × V) (q:κ × Value)=>p.1 = q.1∧RelV p.2 q.2
def kV:Key→V
 | .inl i=>.int i
 | .inr x=>.str x
inductive HO where
 | lst (xs:List V)
 | tup (xs:List V)
 | dK (kvs:List (Key × V)) | dT (kvs:List (List Key × V))
 | set (S:Int→Bool) (n:Nat)
 | ins (C dx:Addr) (fs:List (Str × V))
 | own (x:Addr)
 | xd (fs:List (Str × V))
 | met (f x:Addr)
 | rng (lo hi:Int)
 | frz (o:Obj) (u:HO)
 | tbl (ps:Array Value)
 | ext (φ:Heap→Prop)
abbrev Hp:=Addr→Option HO
def upd (H:Hp) (a:Addr) (o:HO):Hp:=fun b=>if b = a then some o else H b
theorem upd_same {H:Hp} {a:Addr} {o:HO}:upd H a o a = some o:=by unfold upd; rw [if_pos rfl]
theorem upd_ne {H:Hp} {a b:Addr} {o:HO} (h:b≠a):upd H a o b = H b:=by unfold upd; rw [if_neg h]
theorem upd_upd {H:Hp} {a:Addr} {o u:HO}:upd (upd H a o) a u = upd H a u:=by
 funext b; unfold upd; split <;> rfl
theorem ne_of {H:Hp} {a b:Addr} {o u:HO} (h:H a = some o) (h':H b = some u) (d:o≠u):a≠b:=by
 intro e; subst e; rw [h] at h'; exact d (Option.some.inj h')
theorem ne_of_none {H:Hp} {a b:Addr} {o:HO} (h:H a = some o) (h':H b = none):a≠b:=by
 intro e; subst e; rw [h] at h'; cases h'
section
variable (P:Program) (w:World)
def ObjOk (H:Hp) (h:Heap) (a:Addr):HO→Prop
 | .lst xs=>xs.length≤sizeLine∧∃ (its:List Value) (n:Nat),Vals xs its∧h.get? a = some { cls:=.type "list",data:=.seq its.toArray n }
 | .tup xs=>xs.length≤sizeLine∧∃ its:List Value,Vals xs its∧IsTup h a its.toArray
 | .dK kvs=>kvs.length≤sizeLine∧(a == sysModules) = false∧∃ vs,KV kvs vs∧h.DictOf (mixKind P w) a vs
 | .dT kvs=>kvs.length≤sizeLine∧(a == sysModules) = false∧∃ xs:List (List Key × Addr × Value),
   Paired (fun (p:List Key × V) (q:List Key × Addr × Value)=>p.1 = q.1∧H q.2.1 = some (.tup (p.1.map kV))∧RelV p.2 q.2.2) kvs xs ∧
   ∃ o es ep,h.get? a = some o∧o.ExactDict∧o.data = .dict es ep∧es.toList = xs.map (entryOfKey (tupleKind (mixKind P w)))∧(xs.map (·.1)).Nodup
 | .set S n=>h.SetOf (intKind P w) a S n
 | .ins C dx fs=>H dx = some (.own a)∧fs.length≤1000∧dx≠a∧h.get? a = some (PySem.W.instObj C dx) ∧
   ∃ mA,h.Ns1 dx mA∧(∀ f,RelO (fs.lookup f) (mA f))∧PySem.Within mA (fs.map (·.1))
 | .own _=>∃ o,h.get? a = some o
 | .xd fs=>∃ mA,h.Ns1 a mA∧∀ f,RelO (fs.lookup f) (mA f)
 | .rng lo hi=>∃ t u v,h.get? a = some { cls:=.type "range",data:=.fields #[.int lo t,.int hi u,.int 1 v] }
 | .frz o u=>h.get? a = some o∧ObjOk H h a u
 | .tbl ps=>h.get? a = some { cls:=.none,data:=.fields ps }
 | .met f x=>h.get? a = some (PySem.W.methodObj (.ref f) (.ref x))
 | .ext φ=>φ h∧(∃ o,h.get? a = some o)∧∀ h1 h2:Heap,φ h1→(∀ o,h1.get? a = some o→h2.get? a = some o)→φ h2
def HOk (H:Hp) (h:Heap):Prop:=∀ a o,H a = some o→ObjOk P w H h a o
end
section
variable {P:Program} {w:World} {H H':Hp} {h h':Heap} {a:Addr} {o:HO}
theorem ObjOk.lt (x:ObjOk P w H h a o):a < h.objs.size:=by
 cases o with
 | lst xs=>obtain ⟨_,_,_,_,e⟩:=x; exact Heap.lt_size e
 | tup xs=>obtain ⟨_,_,_,p⟩:=x; exact p.lt
 | dK kvs=>obtain ⟨_,_,_,_,o,_,_,e,_⟩:=x; exact Heap.lt_size e
 | dT kvs=>obtain ⟨_,_,_,_,o,_,_,e,_⟩:=x; exact Heap.lt_size e
 | set S n=>obtain ⟨o,_,_,_,e,_⟩:=x; exact Heap.lt_size e
 | ins C dx fs=>obtain ⟨_,_,_,e,_⟩:=x; exact Heap.lt_size e
 | own y=>obtain ⟨_,e⟩:=x; exact Heap.lt_size e
 | xd fs=>obtain ⟨_,⟨_,_,_,e,_⟩,_⟩:=x; exact Heap.lt_size e
 | rng lo hi=>obtain ⟨_,_,_,e⟩:=x; exact Heap.lt_size e
 | frz ob u=>obtain ⟨e,_⟩:=x; exact Heap.lt_size e
 | tbl ps=>exact Heap.lt_size (show h.get? a = some _ from x)
 | met f y=>exact Heap.lt_size (show h.get? a = some _ from x)
 | ext φ=>obtain ⟨_,⟨_,e⟩,_⟩:=x; exact Heap.lt_size e
theorem Paired.mapP {α β:Type} {F G:α→β→Prop}:∀ {l₁:List α} {l₂:List β},Paired F l₁ l₂→(∀ a b,F a b→G a b)→Paired G l₁ l₂
 | _,_,.nil,_=>.nil
 | _,_,.cons r t,f=>.cons (f _ _ r) (Paired.mapP t f)
theorem ObjOk.stay (x:ObjOk P w H h a o) (k:∀ b u,(b = a∨H b = some (.own a))→h.get? b = some u→h'.get? b = some u)
  (ho:∀ b,H b = some (.own a)→H' b = some (.own a)) (ht:∀ b xs,H b = some (.tup xs)→H' b = some (.tup xs)):ObjOk P w H' h' a o:=by
 induction o with
 | lst xs=>obtain ⟨z,its,n,r,e⟩:=x; exact ⟨z,its,n,r,k _ _ (.inl rfl) e⟩
 | tup xs=>obtain ⟨z,its,r,ob,e,c⟩:=x; exact ⟨z,its,r,ob,k _ _ (.inl rfl) e,c⟩
 | dK kvs=>obtain ⟨z,y,vs,r,ob,es,ep,e,c⟩:=x; exact ⟨z,y,vs,r,ob,es,ep,k _ _ (.inl rfl) e,c⟩
 | dT kvs =>
   obtain ⟨z,y,xs,r,ob,es,ep,e,c⟩:=x
   exact ⟨z,y,xs,Paired.mapP r fun p q z=>⟨z.1,ht _ _ z.2.1,z.2.2⟩,ob,es,ep,k _ _ (.inl rfl) e,c⟩
 | set S n=>obtain ⟨ob,es,ep,t,e,c⟩:=x; exact ⟨ob,es,ep,t,k _ _ (.inl rfl) e,c⟩
 | ins C dx fs =>
   obtain ⟨d,z,ne,e,mA,⟨od,es,ep,e2,c⟩,r⟩:=x
   exact ⟨ho _ d,z,ne,k _ _ (.inl rfl) e,mA,⟨od,es,ep,k _ _ (.inr d) e2,c⟩,r⟩
 | own y=>obtain ⟨ob,e⟩:=x; exact ⟨ob,k _ _ (.inl rfl) e⟩
 | xd fs=>obtain ⟨mA,⟨od,es,ep,e,c⟩,r⟩:=x; exact ⟨mA,⟨od,es,ep,k _ _ (.inl rfl) e,c⟩,r⟩
 | rng lo hi=>obtain ⟨t,u,v,e⟩:=x; exact ⟨t,u,v,k _ _ (.inl rfl) e⟩
 | frz ob u ih=>obtain ⟨e,q⟩:=x; exact ⟨k _ _ (.inl rfl) e,ih q⟩
 | tbl ps =>
   have e:h.get? a = some { cls:=.none,data:=.fields ps }:=x
   show h'.get? a = some { cls:=.none,data:=.fields ps }
   exact k a _ (.inl rfl) e
 | met f y =>
   have e:h.get? a = some (PySem.W.methodObj (.ref f) (.ref y)):=x
   show h'.get? a = some (PySem.W.methodObj (.ref f) (.ref y))
   exact k a _ (.inl rfl) e
 | ext φ=>obtain ⟨p,⟨o,e⟩,st⟩:=x; exact ⟨st _ _ p fun o q=>k _ _ (.inl rfl) q,⟨o,k _ _ (.inl rfl) e⟩,st⟩
theorem HOk.lt (x:HOk P w H h) (e:H a = some o):a < h.objs.size:=(x a o e).lt
theorem HOk.fresh (x:HOk P w H h) (e:h.objs.size≤a):H a = none:=by
 cases q:H a with
 | none=>rfl
 | some u=>exact absurd (Nat.lt_of_lt_of_le (x.lt q) e) (Nat.lt_irrefl _)
theorem HOk.kept (x:HOk P w H h) (k:∀ b u,h.get? b = some u→h'.get? b = some u):HOk P w H h':=fun a o e =>
 (x a o e).stay (fun b u _ q=>k b u q) (fun _ q=>q) fun _ _ q=>q
theorem HOk.laid (x:HOk P w H h) (k:∀ b u,h.get? b = some u→h'.get? b = some u) (hp:h.objs.size≤a) (new:ObjOk P w (upd H a o) h' a o):HOk P w (upd H a o) h':=fun b u e=>by
 have hn:=x.fresh hp
 by_cases hb:b = a
 · subst hb; rw [upd_same] at e; cases e; exact new
 · rw [upd_ne hb] at e
   exact (x b u e).stay (fun c v _ q=>k c v q) (fun c q=>by rw [upd_ne (ne_of_none q hn)]; exact q) fun c xs q=>by rw [upd_ne (ne_of_none q hn)]; exact q
end
def Rd (H:Hp) (a:Addr) (u:HO):Prop:=H a = some u∨∃ o,H a = some (.frz o u)
theorem Rd.ok {P:Program} {w:World} {H:Hp} {h:Heap} {a:Addr} {u:HO} (r:Rd H a u) (x:HOk P w H h):ObjOk P w H h a u:=by
 rcases r with r | ⟨o,r⟩
 · exact x a u r
 · obtain ⟨_,q⟩:=x a _ r
   exact q
def Mut:Option HO→Prop
 | some (.lst _)=>True
 | some (.dK _)=>True
 | some (.dT _)=>True
 | some (.set _ _)=>True
 | some (.ins _ _ _)=>True
 | some (.ext _)=>True
 | _=>False
section
variable {P:Program} {w:World} {H:Hp} {h h':Heap} {x e:Addr} {o':HO}
theorem HOk.write (ok:HOk P w H h) (mu:Mut (H x)) (he:e = x∨H e = some (.own x)) (k:∀ b u,b≠e→h.get? b = some u→h'.get? b = some u) (heo:∃ u,h'.get? e = some u)
  (new:ObjOk P w (upd H x o') h' x o'):HOk P w (upd H x o') h':=fun b u q=>by
 have nown:∀ c y,H c = some (.own y)→c≠x:=fun c y r z=>by subst z; rw [r] at mu; exact mu
 have ntup:∀ c xs,H c = some (.tup xs)→c≠x:=fun c xs r z=>by subst z; rw [r] at mu; exact mu
 by_cases hb:b = x
 · subst hb; rw [upd_same] at q; cases q; exact new
 · rw [upd_ne hb] at q
   by_cases hbe:b = e
   · have q':H b = some (.own x):=by
      rcases he with z | z
      · exact absurd (hbe.trans z) hb
      · rw [hbe]; exact z
     rw [q] at q'; cases q'
     obtain ⟨v,hv⟩:=heo
     exact ⟨v,by rw [hbe]; exact hv⟩
   · refine (ok b u q).stay (fun c v hc r=>k c v ?_ r) (fun c r=>by rw [upd_ne (nown c b r)]; exact r) fun c xs r=>by rw [upd_ne (ntup c xs r)]; exact r
     rcases hc with rfl | hc
     · exact hbe
     · rintro rfl
       rcases he with z | z
       · exact nown c b hc z
       · rw [hc] at z; cases z; exact hb rfl
end
structure Un (fs ex:List Addr) (H H':Hp) (h h':Heap):Prop where
 keep:∀ b o,h.get? b = some o→H b = none→b ∉ fs→b ∉ ex→h'.get? b = some o
 slot:∀ b o,h.get? b = some o→H b = none→b∈fs→b ∉ ex→∃ sl,h'.get? b = some { o with slots:=sl }
 free:∀ b o,h.get? b = some o→H b = none→b ∉ ex→H' b = none
 there:∀ b o,h.get? b = some o→b ∉ ex→∃ o',h'.get? b = some o'
 tups:∀ b xs,H b = some (.tup xs)→H' b = some (.tup xs)
 frzs:∀ b o u,H b = some (.frz o u)→H' b = some (.frz o u)
 tbls:∀ b ps,H b = some (.tbl ps)→∃ more,H' b = some (.tbl (ps ++ more))
section
variable {fs fs' ex ex':List Addr} {H H1 H2:Hp} {h h1 h2 h':Heap} {a x e:Addr} {o:HO}
theorem Un.any (u:Un fs ex H H1 h h1) {b:Addr} {ob:Obj} (q:h.get? b = some ob) (n:H b = none) (hx:b ∉ ex):∃ sl,h1.get? b = some { ob with slots:=sl }:=by
 by_cases hb:b∈fs
 · exact u.slot b ob q n hb hx
 · exact ⟨ob.slots,u.keep b ob q n hb hx⟩
theorem Un.kept (k:∀ b u,h.get? b = some u→h'.get? b = some u):Un fs ex H H h h' :=
 ⟨fun b ob q _ _ _=>k b ob q,fun b ob q _ _ _=>⟨ob.slots,k b ob q⟩,fun _ _ _ n _=>n,fun b ob q _=>⟨ob,k b ob q⟩,fun _ _ q=>q,fun _ _ _ q=>q,fun _ ps q=>⟨#[],by rw [q]; simp⟩⟩
theorem Un.refl:Un fs ex H H h h:=Un.kept fun _ _ q=>q
theorem Un.laid (k:∀ b u,h.get? b = some u→h'.get? b = some u) (hp:h.objs.size≤a) (hn:H a = none):Un fs ex H (upd H a o) h h' where
 keep:=fun b u q _ _ _=>k b u q
 slot:=fun b u q _ _ _=>⟨u.slots,k b u q⟩
 free:=fun b u q n _=>by rw [upd_ne (Nat.ne_of_lt (Nat.lt_of_lt_of_le (Heap.lt_size q) hp))]; exact n
 there:=fun b u q _=>⟨u,k b u q⟩
 tups:=fun b xs q=>by rw [upd_ne (ne_of_none q hn)]; exact q
 frzs:=fun b u xs q=>by rw [upd_ne (ne_of_none q hn)]; exact q
 tbls:=fun b ps q=>⟨#[],by rw [upd_ne (ne_of_none q hn),q]; simp⟩
theorem Un.write (mu:Mut (H x)) (he:e = x∨H e = some (.own x)) (k:∀ b u,b≠e→h.get? b = some u→h'.get? b = some u) (heo:∃ u,h'.get? e = some u):Un fs ex H (upd H x o) h h':=by
 have hx:∀ b,H b = none→b≠x:=fun b n z=>by subst z; rw [n] at mu; exact mu
 have hb:∀ b,H b = none→b≠e:=fun b n z=>by
  subst z
  rcases he with r | r
  · exact hx b n r
  · rw [n] at r; cases r
 have hm:∀ b u,H b = some u→¬ Mut (some u)→b≠x:=fun b u q nm z=>by subst z; rw [q] at mu; exact nm mu
 refine ⟨fun b u q n _ _=>k b u (hb b n) q,fun b u q n _ _=>⟨u.slots,k b u (hb b n) q⟩,fun b u q n _=>by rw [upd_ne (hx b n)]; exact n,fun b u q _=>?_,
  fun b xs q=>by rw [upd_ne (hm b _ q fun z=>z)]; exact q,fun b u xs q=>by rw [upd_ne (hm b _ q fun z=>z)]; exact q,fun b ps q=>⟨#[],by rw [upd_ne (hm b _ q fun z=>z),q]; simp⟩⟩
 by_cases hbe:b = e
 · subst hbe; exact heo
 · exact ⟨u,k b u hbe q⟩
end
def trk (h:Heap) (H:Hp):List Addr:=(List.range h.objs.size).filter fun a=>(H a).isSome
def hidT (h:Heap) (H:Hp):Heap:=PySem.W.hideAll h (trk h H)
theorem hidT_size (h:Heap) (H:Hp):(hidT h H).objs.size = h.objs.size:=PySem.W.hideAll_size _ _
theorem hidT_get {h:Heap} {H:Hp} {b:Addr} {o:Obj} (e:h.get? b = some o) (n:H b = none):(hidT h H).get? b = some o :=
 PySem.W.hideAll_get _ e fun hm=>by
  have q:(H b).isSome = true:=(List.mem_filter.mp hm).2
  rw [n] at q; simp at q
theorem of_hidT {h:Heap} {H:Hp} {b:Addr} {o:Obj} (e:(hidT h H).get? b = some o):h.get? b = some o∧H b = none:=by
 have e':h.get? b = some o:=PySem.W.of_hideAll (trk h H) e
 refine ⟨e',?_⟩
 cases q:H b with
 | none=>rfl
 | some x =>
   have hm:b∈trk h H:=List.mem_filter.mpr ⟨List.mem_range.mpr (Heap.lt_size e'),by simp [q]⟩
   have z:(hidT h H).get? b = none:=PySem.W.hideAll_none (trk h H) hm
   rw [z] at e; cases e
end L2
namespace L2
open PySem PySem.Spec PyProof.Rows
structure Mod (K:PySem.W.Frag) (mg:Str→Option Value) (base:Heap):Prop where
 kin:K.In base
 glob:base.Ns mainGlobals mg
 blt:∃ mb,base.Ns builtinsNs mb∧∀ x:Str,x≠"__name__"→mb x = bootBuiltins x
 nolimit:base.NoLimit
structure Cx where
 prog:Program
 w:World
 K:PySem.W.Frag
 mg:Str→Option Value
 base:Heap
 A:Around
 N:List Str
 s_0:Shared
 H_0:Hp
 env:Env
 outer:List Env
 stack:List Env
 ex:List Addr
 fn:Str→Bool
 calm:Bool
 pn:List (Addr × Obj)
 xe:Value→Shared→Prop
def frs (l:List Env):List Addr:=l.filterMap (·.frame)
abbrev Cx.fs (X:Cx):List Addr:=frs X.outer
def Vis (sc:Scope) (x:Str):Prop:=sc.names.lookup x = some .local∨sc.names.lookup x = some .cell∨sc.names.lookup x = some .free
def Loc (sc:Scope) (x:Str):Prop:=sc.names.lookup x = some .local∨sc.names.lookup x = some .cell
def Look (env:Env) (h:Heap) (m:Str→Option Value) (x:Str) (u:Value):Prop :=
 (env.kindOf x = some .local∧m x = some u)∨((env.kindOf x = some .cell∨env.kindOf x = some .free)∧∃ c,env.cells.lookup x = some c∧h.IsCell c (some u))
structure Cx.Ok (X:Cx):Prop where
 mod:Mod X.K X.mg X.base
 kind:X.env.scope.kind = .function
 glob:X.env.globals = mainGlobals
 blt:X.env.builtins = builtinsNs
 above:X.s_0.heap.objs.size≤X.env.locals
 inj:∀ x y c,X.env.cells.lookup x = some c→X.env.cells.lookup y = some c→x = y
 has:∀ x,(X.env.kindOf x = some .cell∨X.env.kindOf x = some .free)→∃ c,X.env.cells.lookup x = some c
 cab:∀ x c,X.fn x = true→X.env.cells.lookup x = some c→X.s_0.heap.objs.size≤c
 hd:X.calm = true→X.A.handled = none
 frames:X.A.frames = some X.stack
 stk:X.stack = X.outer∨(X.stack = X.env :: X.outer∧X.env.frame = some X.env.locals)
 exf:∀ b∈X.ex,b≠X.env.locals∧∀ x c,X.env.cells.lookup x = some c→c≠b
 bs:∀ b o,X.base.get? b = some o→X.s_0.heap.get? b = some o∧X.H_0 b = none
 bsz:X.base.objs.size≤X.s_0.heap.objs.size
 noex:∀ b o,X.base.get? b = some o→b ∉ X.ex
 exfs:∀ b∈X.ex,b ∉ X.fs
 funs:X.s_0.heap.FunFrames X.base X.outer
 frf:∀ b∈X.fs,X.H_0 b = none
structure Inv (X:Cx) (pins:List (Addr × Obj)) (σ:List (Option V)) (H:Hp) (s:Shared):Prop where
 ok:X.Ok
 os:s.os = X.s_0.os
 bare:AllBare s.gens
 base:Un X.fs X.ex X.H_0 H X.s_0.heap s.heap
 loc:∃ m,s.heap.Ns X.env.locals m∧∀ (i:Nat) (x:Str) (v:V),X.N[i]? = some x→σ[i]? = some (some v)→Vis X.env.scope x→∃ u,RelV v u∧Look X.env s.heap m x u
 cell:∀ x c,X.env.cells.lookup x = some c→∃ v,s.heap.IsCell c v
 free:H X.env.locals = none
 freeC:∀ x c,X.env.cells.lookup x = some c→H c = none
 pin:∀ p∈X.pn ++ pins,s.heap.get? p.1 = some p.2∧H p.1 = none∧p.1≠X.env.locals∧p.1 ∉ X.fs∧∀ v,p.2.data≠.cell v
 hok:HOk X.prog X.w H s.heap
 len:σ.length = X.N.length
section
variable {X:Cx} {pins:List (Addr × Obj)} {σ:List (Option V)} {H H':Hp} {s:Shared} {h':Heap}
theorem Cx.Ok.nofr (ok:X.Ok) {b:Addr} {o:Obj} (e:X.base.get? b = some o):b ∉ X.fs:=fun hb=>by
 have:=(ok.funs.mem hb).1
 rw [e] at this; cases this
theorem Inv.bs (I:Inv X pins σ H s):∀ b o,X.base.get? b = some o→s.heap.get? b = some o∧H b = none:=fun b o e =>
 ⟨I.base.keep b o (I.ok.bs b o e).1 (I.ok.bs b o e).2 (I.ok.nofr e) (I.ok.noex b o e),I.base.free b o (I.ok.bs b o e).1 (I.ok.bs b o e).2 (I.ok.noex b o e)⟩
theorem Inv.bk (I:Inv X pins σ H s):∀ b o,X.base.get? b = some o→s.heap.get? b = some o:=fun b o e=>(I.bs b o e).1
theorem Inv.mod (I:Inv X pins σ H s):Mod X.K X.mg X.base:=I.ok.mod
theorem Inv.kIn (I:Inv X pins σ H s):X.K.In s.heap:=I.ok.mod.kin.keeps I.bk
theorem Inv.fr (I:Inv X pins σ H s):∃ m,Fr X.base X.env.locals s.heap m :=
 let ⟨m,hn,_⟩:=I.loc
 ⟨m,hn,I.bk,Nat.le_trans I.ok.bsz I.ok.above⟩
theorem Inv.lt (I:Inv X pins σ H s):X.env.locals < s.heap.objs.size:=let ⟨_,hn,_⟩:=I.loc; hn.lt
theorem Inv.sz (I:Inv X pins σ H s):X.s_0.heap.objs.size≤s.heap.objs.size:=Nat.le_trans I.ok.above (Nat.le_of_lt I.lt)
theorem Inv.nofs (I:Inv X pins σ H s) {a:Addr} (h:s.heap.objs.size≤a):a ∉ X.fs:=fun hb=>by
 obtain ⟨_,o,ho,_⟩:=I.ok.funs.mem hb
 exact absurd (Nat.lt_of_lt_of_le (Heap.lt_size ho) (Nat.le_trans I.sz h)) (Nat.lt_irrefl _)
theorem Inv.cne (I:Inv X pins σ H s):∀ x c,X.env.cells.lookup x = some c→c≠X.env.locals:=fun x c e z=>by
 obtain ⟨v,o,ho,hd⟩:=I.cell x c e
 obtain ⟨m,⟨o',es,ep,ho',hd',_⟩,_⟩:=I.loc
 rw [z,ho'] at ho; cases ho; rw [hd'] at hd; cases hd
theorem Inv.funs (I:Inv X pins σ H s):s.heap.FunFrames X.base X.outer:=by
 have all:∀ (l:List Env),(∀ b∈frs l,b∈X.fs)→X.s_0.heap.FunFrames X.base l→s.heap.FunFrames X.base l:=by
  intro l
  induction l with
  | nil=>intro _ _; trivial
  | cons env r ih =>
    intro hs hl
    obtain ⟨hk,⟨L,o,hf,hn,ho,hd⟩,hr⟩:=hl
    have hL:L∈X.fs:=hs L (by unfold frs; rw [List.filterMap_cons,hf]; exact List.mem_cons_self)
    obtain ⟨sl,e⟩:=I.base.slot L o ho (I.ok.frf L hL) hL fun z=>I.ok.exfs L z hL
    exact ⟨hk,⟨L,_,hf,hn,e,hd⟩,ih (fun b hb=>hs b (by unfold frs; rw [List.filterMap_cons,hf]; exact List.mem_cons_of_mem _ hb)) hr⟩
 exact all X.outer (fun _ hb=>hb) I.ok.funs
theorem Inv.stack (I:Inv X pins σ H s):s.heap.FunFrames X.base X.stack:=by
 rcases I.ok.stk with e | ⟨e,hf⟩
 · rw [e]; exact I.funs
 · rw [e]
   obtain ⟨m,hn,_⟩:=I.loc
   refine .cons (by rw [I.ok.kind]; decide) hf hn ?_ I.funs
   exact Heap.get?_none_of_le (Nat.le_trans I.ok.bsz I.ok.above)
theorem Inv.stkSub (I:Inv X pins σ H s):∀ b∈frs X.stack,b∈X.env.locals :: X.fs:=fun b hb=>by
 rcases I.ok.stk with e | ⟨e,hf⟩
 · rw [e] at hb; exact List.mem_cons_of_mem _ hb
 · rw [e] at hb
   unfold frs at hb
   rw [List.filterMap_cons,hf] at hb
   exact hb
theorem Inv.stkFree (I:Inv X pins σ H s):∀ b∈frs X.stack,H b = none:=fun b hb=>by
 rcases List.mem_cons.mp (I.stkSub b hb) with e | hb
 · rw [e]; exact I.free
 · obtain ⟨_,o,ho,_⟩:=I.ok.funs.mem hb
   exact I.base.free b o ho (I.ok.frf b hb) fun z=>I.ok.exfs b z hb
theorem Inv.step {g':Array GenState} {t':Nat} {d':Drawn} {ch:List Addr} (I:Inv X pins σ H s)
  (hch:∀ b∈ch,(b∈X.ex∨X.s_0.heap.objs.size≤b)∧b≠X.env.locals∧(∀ x c,X.env.cells.lookup x = some c→c≠b)∧∀ p∈X.pn ++ pins,p.1≠b)
  (keep:∀ b o,b≠X.env.locals→b ∉ X.fs→b ∉ ch→s.heap.get? b = some o→H b = none→h'.get? b = some o)
  (slot:∀ b o,b≠X.env.locals→b∈X.fs→b ∉ ch→s.heap.get? b = some o→H b = none→∃ sl,h'.get? b = some { o with slots:=sl }) (free:∀ b o,b ∉ ch→s.heap.get? b = some o→H b = none→H' b = none)
  (there:∀ b o,b ∉ ch→s.heap.get? b = some o→∃ o',h'.get? b = some o')
  (tups:∀ b xs,H b = some (.tup xs)→H' b = some (.tup xs)) (frzs:∀ b o u,H b = some (.frz o u)→H' b = some (.frz o u)) (tbls:∀ b ps,H b = some (.tbl ps)→∃ more,H' b = some (.tbl (ps ++ more)))
  (ns:∀ m,s.heap.Ns X.env.locals m→h'.Ns X.env.locals m) (hok:HOk X.prog X.w H' h') (hg:AllBare g') :
  Inv X pins σ H' { s with heap:=h',gens:=g',drawn:=d',toks:=t' }:=by
 have neL:∀ b o,X.s_0.heap.get? b = some o→b≠X.env.locals:=fun b o e=>Nat.ne_of_lt (Nat.lt_of_lt_of_le (Heap.lt_size e) I.ok.above)
 have neC:∀ b o,X.s_0.heap.get? b = some o→b ∉ X.ex→b ∉ ch:=fun b o e hx hb=>by
  rcases (hch b hb).1 with z | z
  · exact hx z
  · exact absurd (Nat.lt_of_lt_of_le (Heap.lt_size e) z) (Nat.lt_irrefl _)
 have cellK:∀ x c,X.env.cells.lookup x = some c→∀ v,s.heap.IsCell c v→h'.IsCell c v:=fun x c e v ⟨o,ho,hd⟩=>by
  have nch:c ∉ ch:=fun z=>(hch c z).2.2.1 x c e rfl
  by_cases hc:c∈X.fs
  · obtain ⟨sl,q⟩:=slot c o (I.cne x c e) hc nch ho (I.freeC x c e)
    exact ⟨_,q,hd⟩
  · exact ⟨o,keep c o (I.cne x c e) hc nch ho (I.freeC x c e),hd⟩
 refine ⟨I.ok,I.os,hg,⟨fun b o e n hb hx=>?_,fun b o e n hb hx=>?_,fun b o e n hx=>?_,fun b o e hx=>?_,fun b xs e=>tups b xs (I.base.tups b xs e),fun b o xs e=>frzs b o xs (I.base.frzs b o xs e),fun b ps e=>?_⟩,?_,fun x c e=>?_,?_,fun x c e=>?_,fun p hp=>?_,hok,I.len⟩
 · exact keep b o (neL b o e) hb (neC b o e hx) (I.base.keep b o e n hb hx) (I.base.free b o e n hx)
 · obtain ⟨sl,e1⟩:=I.base.slot b o e n hb hx
   obtain ⟨sl',e2⟩:=slot b _ (neL b o e) hb (neC b o e hx) e1 (I.base.free b o e n hx)
   exact ⟨sl',e2⟩
 · obtain ⟨o',e1⟩:=I.base.there b o e hx
   exact free b o' (neC b o e hx) e1 (I.base.free b o e n hx)
 · obtain ⟨o',e1⟩:=I.base.there b o e hx
   exact there b o' (neC b o e hx) e1
 · obtain ⟨m1,e1⟩:=I.base.tbls b ps e
   obtain ⟨m2,e2⟩:=tbls b _ e1
   exact ⟨m1 ++ m2,by rw [e2,Array.append_assoc]⟩
 · obtain ⟨m,hn,hl⟩:=I.loc
   refine ⟨m,ns m hn,fun i x v e1 e2 e3=>?_⟩
   obtain ⟨u,r,l⟩:=hl i x v e1 e2 e3
   refine ⟨u,r,?_⟩
   rcases l with l | ⟨k,c,e,z⟩
   · exact .inl l
   · exact .inr ⟨k,c,e,cellK x c e _ z⟩
 · obtain ⟨v,z⟩:=I.cell x c e
   exact ⟨v,cellK x c e v z⟩
 · obtain ⟨m,⟨o,_,_,ho,_⟩,_⟩:=I.loc
   exact free _ o (fun z=>(hch _ z).2.1 rfl) ho I.free
 · obtain ⟨v,o,ho,hd⟩:=I.cell x c e
   exact free c o (fun z=>(hch c z).2.2.1 x c e rfl) ho (I.freeC x c e)
 · obtain ⟨e,n,ne,nf,d⟩:=I.pin p hp
   have nch:p.1 ∉ ch:=fun z=>(hch p.1 z).2.2.2 p hp rfl
   exact ⟨keep p.1 p.2 ne nf nch e n,free p.1 p.2 nch e n,ne,nf,d⟩
theorem Inv.un {t':Nat} (I:Inv X pins σ H s) (u:Un X.fs [] H H' s.heap h') (hok:HOk X.prog X.w H' h'):Inv X pins σ H' { s with heap:=h',toks:=t' }:=by
 obtain ⟨m,⟨o,es,ep,ho,r⟩,_⟩:=id I.loc
 obtain ⟨sl,hL⟩:=u.any ho I.free (by simp)
 exact I.step (g':=s.gens) (d':=s.drawn) (ch:=[]) (fun _ z=>nomatch z) (fun b o _ hb _ e n=>u.keep b o e n hb (by simp)) (fun b o _ hb _ e n=>u.slot b o e n hb (by simp)) (fun b o _ e n=>u.free b o e n (by simp)) (fun b o _ e=>u.there b o e (by simp)) u.tups u.frzs u.tbls (fun m' hm=>by
  obtain ⟨o',es',ep',ho',r'⟩:=hm
  rw [ho] at ho'; cases ho'
  exact ⟨_,es',ep',hL,r'⟩) hok I.bare
theorem Inv.call {g':Array GenState} {t':Nat} {d':Drawn} {ch:List Addr} (I:Inv X pins σ H s) (u:Un (frs X.stack) ch H H' s.heap h') (hok:HOk X.prog X.w H' h') (hg:AllBare g')
  (hch:∀ b∈ch,(b∈X.ex∨X.s_0.heap.objs.size≤b)∧b≠X.env.locals∧(∀ x c,X.env.cells.lookup x = some c→c≠b)∧∀ p∈X.pn ++ pins,p.1≠b) :
  Inv X pins σ H' { s with heap:=h',gens:=g',drawn:=d',toks:=t' }:=by
 obtain ⟨m,⟨o,es,ep,ho,r⟩,_⟩:=id I.loc
 obtain ⟨sl,hL⟩:=u.any ho I.free fun z=>(hch _ z).2.1 rfl
 exact I.step (ch:=ch) hch (fun b o hL hb hc e n=>u.keep b o e n (fun z=>(List.mem_cons.mp (I.stkSub b z)).elim hL hb) hc) (fun b o _ _ hc e n=>u.any e n hc) (fun b o hc e n=>u.free b o e n hc) (fun b o hc e=>u.there b o e hc) u.tups u.frzs u.tbls (fun m' hm=>by
  obtain ⟨o',es',ep',ho',r'⟩:=hm
  rw [ho] at ho'; cases ho'
  exact ⟨_,es',ep',hL,r'⟩) hok hg
theorem Inv.turned {t':Nat} {it:Addr} (I:Inv X pins σ H s) (k:∀ b o,b≠it→s.heap.get? b = some o→h'.get? b = some o) (hn:H it = none) (hL:it≠X.env.locals)
  (h1:it∈X.ex∨X.s_0.heap.objs.size≤it) (h2:∀ x c,X.env.cells.lookup x = some c→c≠it) (h3:∀ p∈X.pn ++ pins,p.1≠it):Inv X pins σ H { s with heap:=h',toks:=t' }:=by
 have nit:∀ b u,H b = some u→b≠it:=fun b u e z=>by rw [z,hn] at e; cases e
 refine I.step (g':=s.gens) (d':=s.drawn) (ch:=[it]) (fun b hb=>?_) (fun b o _ _ hc e _=>k b o (fun z=>hc (by simp [z])) e) (fun b o _ _ hc e _=>⟨o.slots,k b o (fun z=>hc (by simp [z])) e⟩) (fun _ _ _ _ n=>n)
  (fun b o hc e=>⟨o,k b o (fun z=>hc (by simp [z])) e⟩) (fun _ _ e=>e) (fun _ _ _ e=>e) (fun b ps e=>⟨#[],by rw [e]; simp⟩) (fun m hm=>?_) (fun b u e=>?_) I.bare
 · have e:b = it:=by simpa using hb
   subst e
   exact ⟨h1,hL,h2,h3⟩
 · obtain ⟨o,es,ep,ho,r⟩:=hm
   exact ⟨o,es,ep,k _ o (Ne.symm hL) ho,r⟩
 · refine (I.hok b u e).stay (fun c v hc q=>k c v ?_ q) (fun _ q=>q) fun _ _ q=>q
   rcases hc with z | z
   · rw [z]; exact nit b u e
   · exact nit c _ z
theorem Inv.tok (I:Inv X pins σ H s) (t:Nat):Inv X pins σ H { s with toks:=t }:=I.un (h':=s.heap) (t':=t) Un.refl I.hok
theorem Inv.kept {t':Nat} (I:Inv X pins σ H s) (k:∀ b u,s.heap.get? b = some u→h'.get? b = some u):Inv X pins σ H { s with heap:=h',toks:=t' }:=I.un (Un.kept k) (I.hok.kept k)
theorem Inv.laid {a:Addr} {o:HO} {t':Nat} (I:Inv X pins σ H s) (k:∀ b u,s.heap.get? b = some u→h'.get? b = some u) (hp:s.heap.objs.size≤a) (new:ObjOk X.prog X.w (upd H a o) h' a o) :
  Inv X pins σ (upd H a o) { s with heap:=h',toks:=t' }:=I.un (Un.laid k hp (I.hok.fresh hp)) (I.hok.laid k hp new)
theorem Inv.write {x e:Addr} {o:HO} {t':Nat} (I:Inv X pins σ H s) (mu:Mut (H x)) (he:e = x∨H e = some (.own x)) (k:∀ b u,b≠e→s.heap.get? b = some u→h'.get? b = some u) (heo:∃ u,h'.get? e = some u)
  (new:ObjOk X.prog X.w (upd H x o) h' x o):Inv X pins σ (upd H x o) { s with heap:=h',toks:=t' }:=I.un (Un.write mu he k heo) (I.hok.write mu he k heo new)
theorem Inv.weak {σ':List (Option V)} (I:Inv X pins σ H s) (hl:σ'.length = σ.length) (w:∀ (i:Nat) v,σ'[i]? = some (some v)→σ[i]? = some (some v)):Inv X pins σ' H s :=
 ⟨I.ok,I.os,I.bare,I.base,let ⟨m,hn,hl'⟩:=I.loc; ⟨m,hn,fun i x v e1 e2 e3=>hl' i x v e1 (w i v e2) e3⟩,I.cell,I.free,I.freeC,I.pin,I.hok,hl.trans I.len⟩
theorem Inv.pins_of {pins':List (Addr × Obj)} (I:Inv X pins σ H s) (h:∀ p∈pins',s.heap.get? p.1 = some p.2∧H p.1 = none∧p.1≠X.env.locals∧p.1 ∉ X.fs∧∀ v,p.2.data≠.cell v):Inv X pins' σ H s :=
 ⟨I.ok,I.os,I.bare,I.base,I.loc,I.cell,I.free,I.freeC,fun p hp=>(List.mem_append.mp hp).elim (fun z=>I.pin p (List.mem_append_left _ z)) (h p),I.hok,I.len⟩
theorem nodup_ix {N:List Str} (hN:N.Nodup) {i j:Nat} {x:Str} (a:N[i]? = some x) (b:N[j]? = some x):i = j:=by
 obtain ⟨h1,e1⟩:=List.getElem?_eq_some_iff.mp a
 obtain ⟨h2,e2⟩:=List.getElem?_eq_some_iff.mp b
 exact (List.getElem_inj hN).mp (e1.trans e2.symm)
theorem store_ok2 {M:Model} {A:Around} {E:Value→Shared→Prop} {i:Nat} {x:Str} {v:V} {u:Value} {Q:Unit→Shared→Prop} (I:Inv X pins σ H s) (hN:X.N.Nodup) (hi:X.N[i]? = some x) (hx:Loc X.env.scope x) (r:RelV v u)
  (h:∀ s',Inv X pins (σ.set i (some v)) H s'→(∃ a,Heap.SameBut a s.heap s'.heap∧(a = X.env.locals∨X.env.cells.lookup x = some a))→Q () s') (hf:X.fn x = true∨X.env.scope.names.lookup x = some .local:=by first | exact .inl rfl | exact .inr rfl | assumption):wpAny M A (storeName X.env x u) Q E s:=by
 obtain ⟨m,hn,hl⟩:=id I.loc
 have hcls:(X.env.scope.kind == .class || (X.env.scope.kind == .module && X.env.locals != X.env.globals)) = false:=by rw [I.ok.kind]; rfl
 have hiσ:i < σ.length:=by rw [I.len]; exact (List.getElem?_eq_some_iff.mp hi).1
 have cne:=I.cne
 have tracked:∀ {a:Addr} {h':Heap},(∃ o,s.heap.get? a = some o∧H a = none)→Heap.SameBut a s.heap h'→HOk X.prog X.w H h':=fun {a h'} ha hs b ob e=>by
  obtain ⟨_,_,hfree⟩:=ha
  refine (I.hok b ob e).stay (fun c w' hc q=>(hs.2 c ?_).trans q) (fun _ q=>q) fun _ _ q=>q
  rintro rfl
  rcases hc with rfl | hc
  · rw [hfree] at e; cases e
  · rw [hfree] at hc; cases hc
 rcases hx with hk | hk
 · refine wpAny_storeName_local hk hn (fun h' hn' hs=>?_) hcls
   obtain ⟨oL,_,_,hoL,_⟩:=id hn
   refine h _ ⟨I.ok,I.os,I.bare,⟨fun b o e n hb hx=>?_,fun b o e n hb hx=>?_,I.base.free,fun b o e hx=>?_,I.base.tups,I.base.frzs,I.base.tbls⟩,⟨_,hn',fun j y v' e1 e2 e3=>?_⟩,fun y c e=>?_,I.free,I.freeC,fun p hp=>?_,tracked ⟨oL,hoL,I.free⟩ hs,by simpa using I.len⟩ ⟨_,hs,.inl rfl⟩
   · exact (hs.2 b (Nat.ne_of_lt (Nat.lt_of_lt_of_le (Heap.lt_size e) I.ok.above))).trans (I.base.keep b o e n hb hx)
   · obtain ⟨sl,e1⟩:=I.base.slot b o e n hb hx
     exact ⟨sl,(hs.2 b (Nat.ne_of_lt (Nat.lt_of_lt_of_le (Heap.lt_size e) I.ok.above))).trans e1⟩
   · obtain ⟨o',e1⟩:=I.base.there b o e hx
     exact ⟨o',(hs.2 b (Nat.ne_of_lt (Nat.lt_of_lt_of_le (Heap.lt_size e) I.ok.above))).trans e1⟩
   · by_cases hj:j = i
     · subst hj
       rw [hi] at e1; cases e1
       rw [List.getElem?_set_self hiσ] at e2
       cases e2
       exact ⟨u,r,.inl ⟨hk,by simp⟩⟩
     · rw [List.getElem?_set_ne (Ne.symm hj)] at e2
       obtain ⟨u',r',q⟩:=hl j y v' e1 e2 e3
       refine ⟨u',r',?_⟩
       rcases q with ⟨k,e⟩ | ⟨k,c,e,z⟩
       · refine .inl ⟨k,?_⟩
         have:y≠x:=fun e=>hj (nodup_ix hN e1 (e ▸ hi))
         simp [this,e]
       · exact .inr ⟨k,c,e,z.sameBut hs (cne y c e)⟩
   · obtain ⟨w',z⟩:=I.cell y c e
     exact ⟨w',z.sameBut hs (cne y c e)⟩
   · obtain ⟨e,n,ne,nf,d⟩:=I.pin p hp
     exact ⟨(hs.2 p.1 ne).trans e,n,ne,nf,d⟩
 · have hfn:X.fn x = true:=by
    rcases hf with z | z
    · exact z
    · rw [z] at hk; cases hk
   obtain ⟨c,hc⟩:=I.ok.has x (.inl hk)
   obtain ⟨w',z⟩:=I.cell x c hc
   refine wpAny_storeName_cell I.ok.kind hk hc z (fun h' hc' hs=>?_)
   obtain ⟨oc,hoc,hocd⟩:=id z
   refine h { s with heap:=h' } ⟨I.ok,I.os,I.bare,⟨fun b o e n hb hx=>?_,fun b o e n hb hx=>?_,I.base.free,fun b o e hx=>?_,I.base.tups,I.base.frzs,I.base.tbls⟩,⟨m,hn.sameBut hs (Ne.symm (cne x c hc)),fun j y v' e1 e2 e3=>?_⟩,fun y c' e=>?_,I.free,I.freeC,fun p hp=>?_,tracked ⟨oc,hoc,I.freeC x c hc⟩ hs,by simpa using I.len⟩ ⟨c,hs,.inr hc⟩
   · exact (hs.2 b (Nat.ne_of_lt (Nat.lt_of_lt_of_le (Heap.lt_size e) (I.ok.cab x c hfn hc)))).trans (I.base.keep b o e n hb hx)
   · obtain ⟨sl,e1⟩:=I.base.slot b o e n hb hx
     exact ⟨sl,(hs.2 b (Nat.ne_of_lt (Nat.lt_of_lt_of_le (Heap.lt_size e) (I.ok.cab x c hfn hc)))).trans e1⟩
   · obtain ⟨o',e1⟩:=I.base.there b o e hx
     exact ⟨o',(hs.2 b (Nat.ne_of_lt (Nat.lt_of_lt_of_le (Heap.lt_size e) (I.ok.cab x c hfn hc)))).trans e1⟩
   · by_cases hj:j = i
     · subst hj
       rw [hi] at e1; cases e1
       rw [List.getElem?_set_self hiσ] at e2
       cases e2
       exact ⟨u,r,.inr ⟨.inl hk,c,hc,hc'⟩⟩
     · rw [List.getElem?_set_ne (Ne.symm hj)] at e2
       obtain ⟨u',r',q⟩:=hl j y v' e1 e2 e3
       refine ⟨u',r',?_⟩
       rcases q with q | ⟨k,c',e,z'⟩
       · exact .inl q
       · refine .inr ⟨k,c',e,z'.sameBut hs ?_⟩
         rintro rfl
         exact hj (nodup_ix hN e1 (I.ok.inj _ _ _ e hc ▸ hi))
   · by_cases hcc:c' = c
     · subst hcc; exact ⟨_,hc'⟩
     · obtain ⟨w2,z2⟩:=I.cell y c' e
       exact ⟨w2,z2.sameBut hs hcc⟩
   · obtain ⟨e,n,ne,nf,d⟩:=I.pin p hp
     refine ⟨(hs.2 p.1 ?_).trans e,n,ne,nf,d⟩
     intro q
     rw [q,hoc] at e
     have q':oc = p.2:=Option.some.inj e
     exact d w' (by rw [← q']; exact hocd)
theorem store_ok {M:Model} {A:Around} {E:Value→Shared→Prop} {i:Nat} {x:Str} {v:V} {u:Value} {Q:Unit→Shared→Prop} (I:Inv X pins σ H s) (hN:X.N.Nodup) (hi:X.N[i]? = some x) (hx:Loc X.env.scope x) (r:RelV v u)
  (h:∀ s',Inv X pins (σ.set i (some v)) H s'→Q () s') (hf:X.fn x = true∨X.env.scope.names.lookup x = some .local:=by first | exact .inl rfl | exact .inr rfl | assumption):wpAny M A (storeName X.env x u) Q E s :=
 store_ok2 I hN hi hx r (fun s' I' _=>h s' I') hf
theorem Inv.call' {s':Shared} {ch:List Addr} (I:Inv X pins σ H s) (ho:s'.os = s.os) (u:Un (frs X.stack) ch H H' s.heap s'.heap) (hok:HOk X.prog X.w H' s'.heap) (hg:AllBare s'.gens)
  (hch:∀ b∈ch,(b∈X.ex∨X.s_0.heap.objs.size≤b)∧b≠X.env.locals∧(∀ x c,X.env.cells.lookup x = some c→c≠b)∧∀ p∈X.pn ++ pins,p.1≠b):Inv X pins σ H' s':=by
 obtain ⟨h',g',d',t',o'⟩:=s'
 have e:o' = s.os:=ho
 subst e
 exact I.call (g':=g') (t':=t') (d':=d') u hok hg hch
end
abbrev XK:=Value→Option Addr→Hp→Prop
abbrev St:=List (Option V)
abbrev VK:=V→Hp→Prop
abbrev TE:=St→Hp→VK→Prop
abbrev TT:=St→Hp→(Bool→Hp→Prop)→Prop
abbrev TA:=St→Hp→(List V→Hp→Prop)→Prop
structure Ends where
 nx:St→Hp→Prop
 rt:VK
 bk:St→Hp→Prop:=fun _ _=>False
 ct:St→Hp→Prop:=fun _ _=>False
abbrev TS:=Ends→St→Hp→Prop
def EP (X:Cx) (pins:List (Addr × Obj)) (σ:St) (Q:VK) (u:Value) (s':Shared):Prop:=∃ v H',Inv X pins σ H' s'∧RelV v u∧Q v H'
def TP (X:Cx) (pins:List (Addr × Obj)) (σ:St) (Q:Bool→Hp→Prop) (b:Bool) (s':Shared):Prop:=∃ H',Inv X pins σ H' s'∧Q b H'
def AP (X:Cx) (pins:List (Addr × Obj)) (σ:St) (Q:List V→Hp→Prop) (us:List Value) (s':Shared):Prop:=∃ vs H',Inv X pins σ H' s'∧Vals vs us∧Q vs H'
def SP (X:Cx) (pins:List (Addr × Obj)) (D:Ends) (f:Flow) (s':Shared):Prop :=
 match f with
 | .next=>∃ σ' H',Inv X pins σ' H' s'∧D.nx σ' H'
 | .brk=>∃ σ' H',Inv X pins σ' H' s'∧D.bk σ' H'
 | .cont=>∃ σ' H',Inv X pins σ' H' s'∧D.ct σ' H'
 | .ret u=>∃ v σ' H',Inv X pins σ' H' s'∧RelV v u∧D.rt v H'
def PE (X:Cx) (e:Expr) (t:TE):Prop :=
 ∀ (pins:List (Addr × Obj)) (s:Shared) (σ:St) (H:Hp) (Q:VK),Inv X pins σ H s→t σ H Q→wpAny (model X.prog X.w) X.A (eval e X.env) (EP X pins σ Q) X.xe s
def PT (X:Cx) (e:Expr) (t:TT):Prop :=
 ∀ (pins:List (Addr × Obj)) (s:Shared) (σ:St) (H:Hp) (Q:Bool→Hp→Prop),Inv X pins σ H s→t σ H Q→wpAny (model X.prog X.w) X.A (isTrue e X.env (eval e X.env)) (TP X pins σ Q) X.xe s
def PW (X:Cx) (e:Expr) (t:TT):Prop :=
 ∀ (whole:Sem Value) (pins:List (Addr × Obj)) (s:Shared) (σ:St) (H:Hp) (Q:Bool→Hp→Prop),Inv X pins σ H s→t σ H Q→wpAny (model X.prog X.w) X.A (isTrue e X.env whole) (TP X pins σ Q) X.xe s
theorem PW.pt {X:Cx} {e:Expr} {t:TT} (h:PW X e t):PT X e t:=h _
def PA (X:Cx) (es:List Expr) (t:TA):Prop :=
 ∀ (pos:Pos) (pins:List (Addr × Obj)) (s:Shared) (σ:St) (H:Hp) (Q:List V→Hp→Prop),Inv X pins σ H s→t σ H Q→wpAny (model X.prog X.w) X.A (spliced (backTo pos (starEach es X.env))) (AP X pins σ Q) X.xe s
def PS (X:Cx) (st:Stmt) (t:TS):Prop :=
 ∀ (pins:List (Addr × Obj)) (s:Shared) (σ:St) (H:Hp) (D:Ends),Inv X pins σ H s→t D σ H→wpAny (model X.prog X.w) X.A (exec st X.env) (SP X pins D) X.xe s
def PSs (X:Cx) (st:List Stmt) (t:TS):Prop :=
 ∀ (pins:List (Addr × Obj)) (s:Shared) (σ:St) (H:Hp) (D:Ends),Inv X pins σ H s→t D σ H→wpAny (model X.prog X.w) X.A (execs st X.env) (SP X pins D) X.xe s
theorem thn {α:Type} {t:Sem α} {Q Q':α→Shared→Prop} {M:Model} {A:Around} {E:Value→Shared→Prop} {s:Shared} (h:wpAny M A t Q E s) (hQ:∀ a s,Q a s→Q' a s):wpAny M A t Q' E s:=wpAny_mono h hQ fun _ _ x=>x
end L2
namespace L2
open PySem PySem.Spec PyProof.Rows
section
variable {X:Cx}
theorem bin {a b:Expr} {ta tb:TE} (ha:PE X a ta) (hb:PE X b tb) {pins:List (Addr × Obj)} {s:Shared} {σ:St} {H:Hp} {R:V→V→Hp→Prop} (I:Inv X pins σ H s) (h:ta σ H fun x H1=>tb σ H1 fun y H2=>R x y H2)
  {α:Type} {Q:α→Shared→Prop} {f:Value→Value→Sem α}
  (hf:∀ v u s2 x y H2,Inv X pins σ H2 s2→RelV x v→RelV y u→R x y H2→wpAny (model X.prog X.w) X.A (f v u) Q X.xe s2) :
  wpAny (model X.prog X.w) X.A (eval a X.env) (fun v s₁=>wpAny (model X.prog X.w) X.A (eval b X.env) (fun u s₂=>wpAny (model X.prog X.w) X.A (f v u) Q X.xe s₂) X.xe s₁) X.xe s:=by
 refine thn (ha pins s σ H _ I h) fun v s1 ⟨x,H1,I1,r1,q1⟩=>?_
 refine thn (hb pins s1 σ H1 _ I1 q1) fun u s2 ⟨y,H2,I2,r2,q2⟩=>?_
 exact hf v u s2 x y H2 I2 r1 r2 q2
def tVar (i:Nat):TE:=fun σ H Q=>∃ v,σ[i]? = some (some v)∧Q v H
def tC (v:V):TE:=fun _ H Q=>Q v H
theorem pe_var {i:Nat} {x:Str} {pos:Pos} (hN:X.N[i]? = some x) (hv:Vis X.env.scope x) (hd:(x == ("__debug__":Str)) = false:=by decide) (hcd:(x == ("__classdict__":Str)) = false:=by decide):PE X (.Name x pos) (tVar i):=by
 intro pins s σ H Q I h
 obtain ⟨v,e,h⟩:=h
 obtain ⟨m,hn,hl⟩:=I.loc
 obtain ⟨u,r,l⟩:=hl i x v hN e hv
 have fin:EP X pins σ Q u s:=⟨v,H,I,r,h⟩
 rcases l with ⟨hk,hm⟩ | ⟨hk,c,hc,hcell⟩
 · exact wpAny_Name (wpAny_loadName_local I.ok.kind hk hn hm fin) hd
 · rcases hk with hk | hk
   · exact wpAny_Name (wpAny_loadName_cell I.ok.kind hk hc hcell fin) hd
   · exact wpAny_Name (wpAny_loadName_free I.ok.kind hk hc hcell fin hcd) hd
theorem pe_int {i j pos}:PE X (.Constant (.int i) j pos) (tC (.int i)):=fun _ _ _ H _ I h=>wpAny_Constant_int ⟨.int i,H,I.tok _,⟨_,rfl⟩,h⟩
theorem pe_bl {b j pos}:PE X (.Constant (.bool b) j pos) (tC (.bl b)):=fun _ _ _ H _ I h=>Constant_bool ⟨.bl b,H,I,rfl,h⟩
theorem pe_non {j pos}:PE X (.Constant .none j pos) (tC .non):=fun _ _ _ H _ I h=>Constant_none ⟨.non,H,I,rfl,h⟩
theorem pe_str {x j pos}:PE X (.Constant (.str x) j pos) (tC (.str x)):=fun _ _ _ H _ I h=>Calls.Constant_str ⟨.str x,H,I.tok _,⟨_,rfl⟩,h⟩
def Gl (X:Cx) (x:Str):Prop:=X.env.kindOf x = some .globalImplicit
theorem ld_glob {E:Value→Shared→Prop} {pins:List (Addr × Obj)} {s:Shared} {σ:St} {H:Hp} {x:Str} {u:Value} {pos:Pos} {Q:Value→Shared→Prop} (I:Inv X pins σ H s) (hg:Gl X x) (hm:X.mg x = some u) (h:Q u s)
  (hd:(x == ("__debug__":Str)) = false:=by decide):wpAny (model X.prog X.w) X.A (eval (.Name x pos) X.env) Q E s :=
 Calls.Name_function_global I.ok.kind hg (Calls.loadGlobal_global (by rw [I.ok.glob]; exact I.mod.glob.keeps I.bk) hm h) hd
theorem ld_blt {E:Value→Shared→Prop} {pins:List (Addr × Obj)} {s:Shared} {σ:St} {H:Hp} {x:Str} {u:Value} {pos:Pos} {Q:Value→Shared→Prop} (I:Inv X pins σ H s) (hg:Gl X x) (hm:X.mg x = none) (hv:bootBuiltins x = some u) (h:Q u s)
  (hn:x≠"__name__":=by decide) (hd:(x == ("__debug__":Str)) = false:=by decide):wpAny (model X.prog X.w) X.A (eval (.Name x pos) X.env) Q E s:=by
 obtain ⟨mb,h1,h2⟩:=I.mod.blt
 exact Calls.Name_function_global I.ok.kind hg (Calls.loadGlobal_builtin (by rw [I.ok.glob]; exact I.mod.glob.keeps I.bk) hm (by rw [I.ok.blt]; exact h1.keeps I.bk) ((h2 x hn).trans hv) h) hd
theorem pe_glob {x:Str} {v:V} {u:Value} {pos:Pos} (hg:Gl X x) (hm:X.mg x = some u) (r:RelV v u) (hd:(x == ("__debug__":Str)) = false:=by decide):PE X (.Name x pos) (tC v) :=
 fun _ _ _ H _ I h=>ld_glob I hg hm ⟨v,H,I,r,h⟩ hd
variable {a b:Expr} {ta tb:TE} {pos:Pos}
def PC (X:Cx) (op:CmpOp) (a b:Expr) (t:TE):Prop :=
 ∀ (pins:List (Addr × Obj)) (s:Shared) (σ:St) (H:Hp) (Q:VK),Inv X pins σ H s→t σ H Q →
   wpAny (model X.prog X.w) X.A (eval a X.env) (fun v s₁=>wpAny (model X.prog X.w) X.A (eval b X.env) (fun u s₂=>wpAny (model X.prog X.w) X.A (compareOp op v u) (EP X pins σ Q) X.xe s₂) X.xe s₁) X.xe s
theorem nobehind (b:Expr) {op:CmpOp} (h:op≠.In) (h2:op≠.NotIn):behindInMarks op b = false:=by
 have e1:(op == CmpOp.In) = false:=by cases op <;> first | rfl | exact absurd rfl h
 have e2:(op == CmpOp.NotIn) = false:=by cases op <;> first | rfl | exact absurd rfl h2
 cases b <;> simp [behindInMarks,e1,e2]
def tIsN (ta:TE):TE:=fun σ H Q=>ta σ H fun x H1=>Q (.bl (decide (x = .non))) H1
theorem RelV.none_iff {x:V} {v:Value} (r:RelV x v):(v == Value.none) = decide (x = .non):=by
 cases x with
 | non=>cases r; rfl
 | bl _=>cases r; rfl
 | int _=>obtain ⟨t,rfl⟩:=r; rfl
 | str _=>obtain ⟨t,rfl⟩:=r; rfl
 | byt _=>obtain ⟨t,rfl⟩:=r; rfl
 | flt _=>obtain ⟨t,rfl⟩:=r; rfl
 | ref _=>cases r; rfl
 | ty _=>cases r; rfl
theorem pc_isN {j pos'} (ha:PE X a ta):PC X .Is a (.Constant .none j pos') (tIsN ta):=by
 intro pins s σ H Q I h
 refine thn (ha pins s σ H _ I h) fun v s1 ⟨x,H1,I1,r1,q1⟩=>?_
 exact Constant_none (is_none_gen ⟨.bl _,H1,I1,by rw [r1.none_iff]; rfl,q1⟩)
def tB (t:TE):TT:=fun σ H Q=>t σ H fun x H1=>∃ c,x = .bl c∧Q c H1
theorem pt_cmp {op:CmpOp} {t:TE} (h:PC X op a b t) (h1:behindInMarks op b = false:=by first | exact nobehind _ (by decide) (by decide) | rfl):PT X (.Compare a [op] [b] pos) (tB t):=by
 intro pins s σ H Q I hw
 refine wpAny_isTrue_Compare1 (thn (h pins s σ H _ I hw) fun v s1 h1=>thn h1 fun u s2 h2=>thn h2 fun c s3 ⟨x,H1,I1,r1,q1⟩=>?_) h1
 obtain ⟨d,rfl,q⟩:=q1
 cases r1
 exact wpAny_truthy_bool ⟨H1,I1,q⟩
theorem pt_val {e:Expr} {t:TE} (h:PE X e t) (he:∀ whole,isTrue e X.env whole = (do let v ← whole; standAt e.pos; holding [v] (truthy v)):=by intro _; rfl):PT X e (tB t):=by
 intro pins s σ H Q I hw
 refine isTrue_plain (thn (h pins s σ H _ I hw) fun v s1 ⟨x,H1,I1,r1,q1⟩=>?_) (he _)
 obtain ⟨d,rfl,q⟩:=q1
 cases r1
 exact wpAny_truthy_bool ⟨H1,I1,q⟩
variable {tA tB':TT} {rest:List Expr}
def tAnd (t u:TT):TT:=fun σ H Q=>t σ H fun c H1=>if c = true then u σ H1 Q else Q false H1
def tOr (t u:TT):TT:=fun σ H Q=>t σ H fun c H1=>if c = true then Q true H1 else u σ H1 Q
def tNot (t:TT):TT:=fun σ H Q=>t σ H fun c H1=>Q (!c) H1
theorem pw_and1 (ha:PT X a tA):PW X (.BoolOp .And [a] pos) tA:=by
 intro wh pins s σ H Q I h
 refine isTrue_and (thn (ha pins s σ H Q I h) fun c s1 e=>?_)
 cases c with
 | true=>exact isTrue_and_nil e
 | false=>exact e
theorem pw_or1 (ha:PT X a tA):PW X (.BoolOp .Or [a] pos) tA:=by
 intro wh pins s σ H Q I h
 refine isTrue_or (thn (ha pins s σ H Q I h) fun c s1 e=>?_)
 cases c with
 | false=>exact isTrue_or_nil e
 | true=>exact e
theorem pw_and (ha:PT X a tA) (hb:PW X (.BoolOp .And (b :: rest) pos) tB'):PW X (.BoolOp .And (a :: b :: rest) pos) (tAnd tA tB'):=by
 intro wh pins s σ H Q I h
 refine isTrue_and (thn (ha pins s σ H _ I h) fun c s1 ⟨H1,I1,q1⟩=>?_)
 cases c with
 | true=>exact hb wh pins s1 σ H1 Q I1 q1
 | false=>exact ⟨H1,I1,q1⟩
theorem pw_or (ha:PT X a tA) (hb:PW X (.BoolOp .Or (b :: rest) pos) tB'):PW X (.BoolOp .Or (a :: b :: rest) pos) (tOr tA tB'):=by
 intro wh pins s σ H Q I h
 refine isTrue_or (thn (ha pins s σ H _ I h) fun c s1 ⟨H1,I1,q1⟩=>?_)
 cases c with
 | true=>exact ⟨H1,I1,q1⟩
 | false=>exact hb wh pins s1 σ H1 Q I1 q1
theorem pt_not (ha:PT X a tA):PT X (.UnaryOp .Not a pos) (tNot tA):=by
 intro pins s σ H Q I h
 exact isTrue_not (ha pins s σ H (fun c H1=>Q (!c) H1) I h)
def tAndV (ta tb:TE):TE:=fun σ H Q=>ta σ H fun x H1=>∃ c,x = .bl c∧if c = true then tb σ H1 Q else Q (.bl false) H1
theorem pe_one {op} {t:TE} (h:PE X a t):PE X (.BoolOp op [a] pos) t:=fun pins s σ H Q I hw=>BoolOp_one (h pins s σ H Q I hw)
theorem pe_and (ha:PE X a ta) (hb:PE X (.BoolOp .And (b :: rest) pos) tb):PE X (.BoolOp .And (a :: b :: rest) pos) (tAndV ta tb):=by
 intro pins s σ H Q I h
 refine BoolOp_and (thn (ha pins s σ H _ I h) fun v s1 ⟨x,H1,I1,r1,q1⟩=>?_)
 obtain ⟨c,rfl,q1⟩:=q1
 cases r1
 refine wpAny_truthy_bool ?_
 cases c with
 | true=>exact hb pins s1 σ H1 Q I1 q1
 | false=>exact ⟨.bl false,H1,I1,rfl,q1⟩
def tIf (t:TT) (ta tb:TE):TE:=fun σ H Q=>t σ H fun c H1=>if c = true then ta σ H1 Q else tb σ H1 Q
theorem pe_ifExp {c:Expr} (hc:PT X c tA) (ha:PE X a ta) (hb:PE X b tb):PE X (.IfExp c a b pos) (tIf tA ta tb):=by
 intro pins s σ H Q I h
 refine wpAny_IfExp (thn (hc pins s σ H _ I h) fun d s1 ⟨H1,I1,q1⟩=>?_)
 cases d with
 | true=>exact ha pins s1 σ H1 Q I1 q1
 | false=>exact hb pins s1 σ H1 Q I1 q1
end
end L2
namespace L2
open PySem PySem.Spec PyProof.Rows
def SqL (K:PySem.W.Frag) (H:Hp) (a:Addr) (xs:List V):Prop :=
 Rd H a (.lst xs) ∨
  ∃ (o:Obj) (its:Array Value) (n:Nat),K.lookup a = some o∧o.cls = .type "list"∧o.dict = none∧o.data = .seq its n∧its.size≤sizeLine∧Vals xs its.toList
def SqT (K:PySem.W.Frag) (H:Hp) (a:Addr) (xs:List V):Prop :=
 Rd H a (.tup xs) ∨
  ∃ (o:Obj) (its:Array Value) (n:Nat),K.lookup a = some o∧o.cls = .type "tuple"∧o.data = .seq its n∧its.size≤sizeLine∧Vals xs its.toList
def absV:Value→Option V
 | .none=>some .non
 | .bool b=>some (.bl b)
 | .int i _=>some (.int i)
 | .str x _=>some (.str x)
 | .bytes b _=>some (.byt b)
 | .float b _=>some (.flt b)
 | .ref a=>some (.ref a)
 | .type n=>some (.ty n)
 | _=>none
theorem RelV.abs {x:V} {u:Value} (r:RelV x u):absV u = some x:=by
 cases x with
 | non=>cases r; rfl
 | bl _=>cases r; rfl
 | int _=>obtain ⟨t,rfl⟩:=r; rfl
 | str _=>obtain ⟨t,rfl⟩:=r; rfl
 | byt _=>obtain ⟨t,rfl⟩:=r; rfl
 | flt _=>obtain ⟨t,rfl⟩:=r; rfl
 | ref _=>cases r; rfl
 | ty _=>cases r; rfl
theorem RelV.inj {x y:V} {u:Value} (r:RelV x u) (q:RelV y u):x = y:=Option.some.inj (r.abs.symm.trans q.abs)
theorem Vals.inj:∀ {xs ys:List V} {us:List Value},Vals xs us→Vals ys us→xs = ys
 | _,_,_,.nil,.nil=>rfl
 | _,_,_,.cons r t,.cons r' t'=>by rw [r.inj r',Vals.inj t t']
section
variable {X:Cx} {pins:List (Addr × Obj)} {σ:St} {H:Hp} {s:Shared} {a:Addr} {xs ys:List V}
theorem SqL.of {K:PySem.W.Frag} (h:H a = some (.lst xs)):SqL K H a xs:=.inl (.inl h)
theorem SqT.of {K:PySem.W.Frag} (h:H a = some (.tup xs)):SqT K H a xs:=.inl (.inl h)
theorem Inv.list (I:Inv X pins σ H s) (h:SqL X.K H a xs):∃ its:List Value,Vals xs its∧PlainL s.heap a its.toArray∧xs.length≤sizeLine:=by
 rcases h with h | ⟨o,its,n,hk,hc,hd,hs,hz,r⟩
 · obtain ⟨z,its,n,r,e⟩:=h.ok I.hok
   exact ⟨its,r,⟨_,n,e,rfl,rfl,rfl⟩,z⟩
 · refine ⟨its.toList,r,⟨o,n,I.kIn a o hk,hc,hd,by simpa using hs⟩,?_⟩
   have e:=r.length
   simp only [Array.length_toList] at e
   omega
theorem Inv.tuple (I:Inv X pins σ H s) (h:SqT X.K H a xs):∃ its:List Value,Vals xs its∧IsTup s.heap a its.toArray∧xs.length≤sizeLine:=by
 rcases h with h | ⟨o,its,n,hk,hc,hs,hz,r⟩
 · obtain ⟨z,its,r,p⟩:=h.ok I.hok
   exact ⟨its,r,p,z⟩
 · refine ⟨its.toList,r,⟨o,I.kIn a o hk,hc,n,by simpa using hs⟩,?_⟩
   have e:=r.length
   simp only [Array.length_toList] at e
   omega
theorem Inv.list_inj (I:Inv X pins σ H s) (h:SqL X.K H a xs) (h':SqL X.K H a ys):xs = ys:=by
 obtain ⟨its,r,⟨o,n,e,_,_,d⟩,_⟩:=I.list h
 obtain ⟨its',r',⟨o',n',e',_,_,d'⟩,_⟩:=I.list h'
 rw [e] at e'; cases e'
 rw [d] at d'
 injection d' with d1 _
 have:its = its':=by simpa using congrArg Array.toList d1
 subst this
 exact r.inj r'
end
abbrev Cx.wish (X:Cx) (E:Value→Shared→Prop):Cx:={ X with xe:=E }
abbrev Cx.nox (X:Cx):Cx:=X.wish fun _ _=>False
theorem Cx.Ok.wish {X:Cx} (ok:X.Ok) (E:Value→Shared→Prop):(X.wish E).Ok :=
 ⟨ok.mod,ok.kind,ok.glob,ok.blt,ok.above,ok.inj,ok.has,ok.cab,ok.hd,ok.frames,ok.stk,ok.exf,ok.bs,ok.bsz,ok.noex,ok.exfs,ok.funs,ok.frf⟩
theorem Cx.Ok.unwish {X:Cx} {E:Value→Shared→Prop} (ok:(X.wish E).Ok):X.Ok :=
 ⟨ok.mod,ok.kind,ok.glob,ok.blt,ok.above,ok.inj,ok.has,ok.cab,ok.hd,ok.frames,ok.stk,ok.exf,ok.bs,ok.bsz,ok.noex,ok.exfs,ok.funs,ok.frf⟩
section
variable {X:Cx} {pins:List (Addr × Obj)} {σ:St} {H:Hp} {s:Shared} {E:Value→Shared→Prop}
theorem Inv.wish (I:Inv X pins σ H s) (E:Value→Shared→Prop):Inv (X.wish E) pins σ H s:=⟨I.ok.wish E,I.os,I.bare,I.base,I.loc,I.cell,I.free,I.freeC,I.pin,I.hok,I.len⟩
theorem Inv.unwish (I:Inv (X.wish E) pins σ H s):Inv X pins σ H s:=⟨I.ok.unwish,I.os,I.bare,I.base,I.loc,I.cell,I.free,I.freeC,I.pin,I.hok,I.len⟩
theorem SP.unwish {D:Ends} {f:Flow} {s':Shared} (h:SP (X.wish E) pins D f s'):SP X pins D f s':=by
 cases f with
 | next=>obtain ⟨σ',H',I,q⟩:=h; exact ⟨σ',H',I.unwish,q⟩
 | brk=>obtain ⟨σ',H',I,q⟩:=h; exact ⟨σ',H',I.unwish,q⟩
 | cont=>obtain ⟨σ',H',I,q⟩:=h; exact ⟨σ',H',I.unwish,q⟩
 | ret u=>obtain ⟨v,σ',H',I,r,q⟩:=h; exact ⟨v,σ',H',I.unwish,r,q⟩
theorem PSs.nox {st:List Stmt} {t:TS} (h:PSs X.nox st t):PSs X st t:=fun pins s σ H D I hw =>
 wpAny_mono (h pins s σ H D (I.wish _) hw) (fun _ _ q=>q.unwish) fun _ _ z=>False.elim z
end
section
variable {X:Cx} {st:Stmt} {rest:List Stmt} {t u:TS} {e:Expr} {te:TE} {pos:Pos}
def tNext:TS:=fun D σ H=>D.nx σ H
def tSeq (t u:TS):TS:=fun D σ H=>t { D with nx:=u D } σ H
theorem pss_nil:PSs X [] tNext:=fun _ _ σ H _ I h=>wpAny_execs_nil ⟨σ,H,I,h⟩
theorem pss_cons (h1:PS X st t) (h2:PSs X rest u):PSs X (st :: rest) (tSeq t u):=by
 intro pins s σ H D I h
 refine wpAny_execs_cons (thn (h1 pins s σ H { D with nx:=u D } I h) fun f s1 q=>?_)
 cases f with
 | next =>
   obtain ⟨σ',H',I',q⟩:=q
   exact h2 pins s1 σ' H' D I' q
 | ret v=>exact q
 | brk=>exact q
 | cont=>exact q
theorem pss_one (h1:PS X st t):PSs X [st] t:=by
 intro pins s σ H D I h
 refine wpAny_execs_cons (thn (h1 pins s σ H D I h) fun f s1 q=>?_)
 cases f with
 | next=>exact wpAny_execs_nil q
 | ret v=>exact q
 | brk=>exact q
 | cont=>exact q
theorem Inv.quiet {pins:List (Addr × Obj)} {σ:St} {H:Hp} {s:Shared} (I:Inv X pins σ H s):interactive X.env = false:=by simp [interactive,I.ok.kind]
def tDrop (te:TE):TS:=fun D σ H=>te σ H fun _ H1=>D.nx σ H1
theorem ps_expr (he:PE X e te) (hs:swapsWith e none pos.line X.env = pure false:=by rfl):PS X (.Expr e pos) (tDrop te):=by
 intro pins s σ H D I h
 exact wpAny_Expr_any (thn (he pins s σ H _ I h) fun v s1 ⟨x,H1,I1,r1,q1⟩=>⟨σ,H1,I1,q1⟩) I.quiet hs
def tRet (te:TE):TS:=fun D σ H=>te σ H D.rt
theorem ps_ret (he:PE X e te):PS X (.Return (some e) pos) (tRet te):=by
 intro pins s σ H D I h
 exact wpAny_Return_some (thn (he pins s σ H _ I h) fun v s1 ⟨x,H1,I1,r1,q1⟩=>⟨x,σ,H1,I1,r1,q1⟩)
def tIfS (c:TT) (t u:TS):TS:=fun D σ H=>c σ H fun b H1=>if b = true then t D σ H1 else u D σ H1
theorem ps_if {c:Expr} {a b:List Stmt} {tc:TT} (hc:PT X c tc) (ha:PSs X a t) (hb:PSs X b u):PS X (.If c a b pos) (tIfS tc t u):=by
 intro pins s σ H D I h
 refine wpAny_If (thn (hc pins s σ H _ I h) fun d s1 ⟨H1,I1,q1⟩=>?_)
 cases d with
 | true=>exact ha pins s1 σ H1 D I1 q1
 | false=>exact hb pins s1 σ H1 D I1 q1
def tNever:TS:=fun _ _ _=>False
theorem ps_never:PS X st tNever:=fun _ _ _ _ _ _ h=>h.elim
end
abbrev TG:=V→St→Hp→(St→Hp→Prop)→Prop
abbrev TGs:=List V→St→Hp→(St→Hp→Prop)→Prop
def PG (X:Cx) (target:Expr) (t:TG):Prop :=
 ∀ (pins:List (Addr × Obj)) (s:Shared) (σ:St) (H:Hp) (v:V) (u:Value) (Q:St→Hp→Prop),Inv X pins σ H s→RelV v u→t v σ H Q →
   wpAny (model X.prog X.w) X.A (assign target X.env u) (fun _ s'=>∃ σ' H',Inv X pins σ' H' s'∧Q σ' H') X.xe s
def PGs (X:Cx) (ts:List Expr) (t:TGs):Prop :=
 ∀ (pins:List (Addr × Obj)) (s:Shared) (σ:St) (H:Hp) (vs:List V) (us:List Value) (Q:St→Hp→Prop),Inv X pins σ H s→Vals vs us→t vs σ H Q →
   wpAny (model X.prog X.w) X.A (assignInOrder ((assignEach ts X.env).map (·.2)) us) (fun _ s'=>∃ σ' H',Inv X pins σ' H' s'∧Q σ' H') X.xe s
abbrev TSet:=V→V→V→Hp→(Hp→Prop)→Prop
def PSet (X:Cx) (t:TSet):Prop :=
 ∀ (pins:List (Addr × Obj)) (s:Shared) (σ:St) (H:Hp) (o i v:V) (ov iv u:Value) (Q:Hp→Prop),Inv X pins σ H s→RelV o ov→RelV i iv→RelV v u→t o i v H Q →
   wpAny (model X.prog X.w) X.A (setItem ov iv u) (fun _ s'=>∃ H',Inv X pins σ H' s'∧Q H') X.xe s
section
variable {X:Cx} {pos:Pos}
def gName (i:Nat):TG:=fun v σ H Q=>Q (σ.set i (some v)) H
theorem pg_name {i:Nat} {x:Str} (hN:X.N.Nodup) (hi:X.N[i]? = some x) (hx:Loc X.env.scope x) (hf:X.fn x = true∨X.env.scope.names.lookup x = some .local:=by first | exact .inl rfl | exact .inr rfl | assumption):PG X (.Name x pos) (gName i):=by
 intro pins s σ H v u Q I r h
 exact wpAny_assign_Name (store_ok I hN hi hx r (fun s' I'=>⟨_,H,I',h⟩) hf)
def gNil:TGs:=fun vs σ H Q=>vs = []∧Q σ H
def gCons (t:TG) (u:TGs):TGs:=fun vs σ H Q=>∃ v r,vs = v :: r∧t v σ H fun σ' H'=>u r σ' H' Q
theorem pgs_nil:PGs X [] gNil:=by
 intro pins s σ H vs us Q I r h
 obtain ⟨e,h⟩:=h
 subst e
 cases r
 exact assignInOrder_nil ⟨σ,H,I,h⟩
theorem pgs_cons {e:Expr} {es:List Expr} {t:TG} {u:TGs} (h1:PG X e t) (h2:PGs X es u)
  (hs:(assignEach (e :: es) X.env).map (·.2) = assign e X.env :: (assignEach es X.env).map (·.2):=by rfl):PGs X (e :: es) (gCons t u):=by
 intro pins s σ H vs us Q I r h
 obtain ⟨v,vr,e1,h⟩:=h
 subst e1
 cases r with
 | cons r rr =>
   rw [hs]
   refine assignInOrder_cons (thn (h1 pins s σ H _ _ _ I r h) fun _ s1 ⟨σ1,H1,I1,q1⟩=>?_)
   exact h2 pins s1 σ1 H1 _ _ Q I1 rr q1
def gTup (K:PySem.W.Frag) (n:Nat) (t:TGs):TG:=fun v σ H Q=>∃ a xs,v = .ref a∧SqT K H a xs∧xs.length = n∧t xs σ H Q
theorem pg_tup {es:List Expr} {k:Nat} {t:TGs} {n:Nat} (hc:X.calm = true) (h:PGs X es t)
  (hn:(assignEach es X.env).length = n:=by rfl) (hst:(assignEach es X.env).findIdx? (·.1) = none:=by rfl):PG X (.Tuple es k pos) (gTup X.K n t):=by
 intro pins s σ H v u Q I r hw
 obtain ⟨a,xs,e1,hq,hl,hw⟩:=hw
 subst e1
 cases r
 obtain ⟨its,rv,ht,hz⟩:=I.tuple hq
 refine assign_Tuple_tuple (I.ok.hd hc) ht (by simp [hn,← hl,rv.length]) hst fun h' hx=>?_
 have I1:Inv X pins σ H { s with heap:=h' }:=I.kept (t':=s.toks) fun b o e=>hx b o (Nat.ne_of_lt (Heap.lt_size e)) e
 exact h pins _ σ H xs _ Q I1 (by simpa using rv) hw
def gSub (to ti:TE) (t:TSet):TG:=fun v σ H Q=>to σ H fun o H1=>ti σ H1 fun i H2=>t o i v H2 fun H3=>Q σ H3
theorem pg_sub {o i:Expr} {to ti:TE} {t:TSet} (ho:PE X o to) (hi:PE X i ti) (hs:PSet X t)
  (ha:∀ v,assign (.Subscript o i pos) X.env v = (do
   let ov ← holding [v] (eval o X.env)
   let iv ← holding [v,ov] (eval i X.env)
   standAt pos
   holding [v,ov,iv] (setItem ov iv v)
   release [v,ov,iv] []):=by intro _; rfl):PG X (.Subscript o i pos) (gSub to ti t):=by
 intro pins s σ H v u Q I r h
 rw [ha]
 refine wpAny_bind (wpAny_holding (thn (ho pins s σ H _ I h) fun ov s1 ⟨x,H1,I1,r1,q1⟩=>?_))
 refine wpAny_bind (wpAny_holding (thn (hi pins s1 σ H1 _ I1 q1) fun iv s2 ⟨y,H2,I2,r2,q2⟩=>?_))
 refine wpAny_bind (wpAny_standAt (wpAny_bind (wpAny_holding (thn (hs pins s2 σ H2 x y v ov iv u _ I2 r1 r2 r q2) fun _ s3 ⟨H3,I3,q3⟩=>?_))))
 exact wpAny_release ⟨σ,H3,I3,q3⟩
def tAsg (te:TE) (g:TG):TS:=fun D σ H=>te σ H fun x H1=>g x σ H1 D.nx
theorem ps_asg {tg e:Expr} {te:TE} {g:TG} (he:PE X e te) (hg:PG X tg g) (hs:swapsWithSole [tg] e pos.line X.env = pure false:=by rfl) (hw:swappedStores [tg] e X.env = pure none:=by rfl)
  (h1:(assignEach [tg] X.env).map (·.2) = [assign tg X.env]:=by rfl):PS X (.Assign [tg] e pos) (tAsg te g):=by
 intro pins s σ H D I h
 refine wpAny_Assign_stores (thn (he pins s σ H _ I h) fun v s1 ⟨x,H1,I1,r1,q1⟩=>?_) hs hw
 rw [h1]
 exact thn (hg pins s1 σ H1 x v _ I1 r1 q1) fun _ s2 q=>q
theorem ps_set {i:Nat} {x:Str} {e:Expr} {te:TE} {pos':Pos} (hN:X.N.Nodup) (hi:X.N[i]? = some x) (hx:Loc X.env.scope x) (he:PE X e te) (hs:swapsWith e (some (.Name x pos')) pos.line X.env = pure false:=by rfl) (hf:X.fn x = true∨X.env.scope.names.lookup x = some .local:=by first | exact .inl rfl | exact .inr rfl | assumption) :
  PS X (.Assign [.Name x pos'] e pos) (tAsg te (gName i)):=by
 intro pins s σ H D I h
 refine wpAny_Assign_Name (thn (he pins s σ H _ I h) fun v s1 ⟨y,H1,I1,r1,q1⟩=>?_) hs
 exact store_ok I1 hN hi hx r1 (fun s2 I2=>⟨_,H1,I2,q1⟩) hf
end
section
variable {X:Cx} {pos:Pos}
def tWhile (c:TT) (tb:TS):TS:=fun D σ H=>∃ W:Nat→St→Hp→Prop,(∃ m,W m σ H)∧∀ m σ H,W m σ H →
 c σ H fun b H1=>if b = true then ∃ N:St→Hp→Prop,(∀ σ' H',N σ' H'→∃ m',m' < m∧W m' σ' H')∧tb { D with nx:=N,ct:=N,bk:=D.nx } σ H1 else D.nx σ H1
theorem ps_while {c:Expr} {body:List Stmt} {tc:TT} {tb:TS} (hp:PassesOwn (model X.prog X.w) X.A X.env X.xe) (hc:PT X c tc) (hb:PSs X body tb):PS X (.While c body [] pos) (tWhile tc tb):=by
 intro pins s σ H D I h
 obtain ⟨W,⟨m0,w0⟩,turn⟩:=h
 refine wpAny_While (codeAny_whileLoop (fun n s'=>∃ σ' H',Inv X pins σ' H' s'∧W n σ' H') ?_ m0 ⟨σ,H,I,w0⟩)
 rintro n s1 ⟨σ1,H1,I1,w1⟩
 refine wpAny_passesOwn hp (thn (hc pins s1 σ1 H1 _ I1 (turn n σ1 H1 w1)) fun b s2 ⟨H2,I2,q2⟩=>?_)
 cases b with
 | true =>
   obtain ⟨N,hN,q2⟩:=q2
   rw [if_pos rfl]
   refine wpAny_passesOwn hp (thn (hb pins s2 σ1 H2 _ I2 q2) fun f s3 q3=>?_)
   cases f with
   | next =>
     obtain ⟨σ3,H3,I3,n3⟩:=q3
     obtain ⟨m',hm,w3⟩:=hN σ3 H3 n3
     exact ⟨m',hm,σ3,H3,I3,w3⟩
   | cont =>
     obtain ⟨σ3,H3,I3,n3⟩:=q3
     obtain ⟨m',hm,w3⟩:=hN σ3 H3 n3
     exact ⟨m',hm,σ3,H3,I3,w3⟩
   | brk=>exact q3
   | ret v=>exact q3
 | false =>
   rw [if_neg Bool.false_ne_true]
   exact wpAny_execs_nil ⟨σ1,H2,I2,q2⟩
end
structure It where
 go:Nat→Hp→Prop
 yld:Nat→Hp→V→Hp→Prop
 stop:Nat→Hp→Prop
def FpOk (X:Cx) (pins:List (Addr × Obj)) (H:Hp) (b:Addr):Prop :=
 H b = none∧b≠X.env.locals∧b ∉ X.fs∧(b∈X.ex∨X.s_0.heap.objs.size≤b)∧(∀ x c,X.env.cells.lookup x = some c→c≠b)∧∀ p∈X.pn ++ pins,p.1≠b
theorem Inv.fpOk {X:Cx} {pins:List (Addr × Obj)} {σ:St} {H H':Hp} {s:Shared} {b:Addr} (I:Inv X pins σ H s) (hb:s.heap.objs.size≤b) (hn:H' b = none):FpOk X pins H' b:=by
 refine ⟨hn,Nat.ne_of_gt (Nat.lt_of_lt_of_le I.lt hb),I.nofs hb,.inr (Nat.le_trans I.sz hb),fun x c e z=>?_,fun p hp z=>?_⟩
 · obtain ⟨v,q⟩:=I.cell x c e
   exact absurd (Nat.lt_of_lt_of_le q.lt (by rw [z]; exact hb)) (Nat.lt_irrefl _)
 · exact absurd (Nat.lt_of_lt_of_le (Heap.lt_size (I.pin p hp).1) (by rw [z]; exact hb)) (Nat.lt_irrefl _)
structure Turn (P:Program) (w:World) (K:PySem.W.Frag) (tg:Expr) (J:It) (fp:List Addr) (it:Addr) (tn:Nat→Heap→Prop):Prop where
 mem:it∈fp
 obj:∀ i h,tn i h→∀ b∈fp,∃ o,h.get? b = some o∧∀ v,o.data≠.cell v
 keep:∀ i h h',tn i h→(∀ b∈fp,∀ o,h.get? b = some o→h'.get? b = some o)→tn i h'
 item:∀ (X:Cx),X.prog = P→X.w = w→X.K = K→X.calm = true→∀ (i:Nat) (pins:List (Addr × Obj)) (s:Shared) (σ:St) (H:Hp) (E:Value→Shared→Prop),Inv X pins σ H s→(∀ b∈fp,FpOk X pins H b)→tn i s.heap→J.go i H →
  wpAny (model P w) X.A (pyNext (.ref it)) (fun r s1=>∃ u,r = some u ∧
   wpAny (model P w) X.A (letOwnedTupleGo tg (.ref it) u) (fun _ s2=>∃ x H',Inv X pins σ H' s2∧RelV x u∧J.yld i H x H'∧tn (i + 1) s2.heap∧∀ b∈fp,H' b = none) E s1) E s
 done:∀ (X:Cx),X.prog = P→X.w = w→X.K = K→X.calm = true→∀ (i:Nat) (pins:List (Addr × Obj)) (s:Shared) (σ:St) (H:Hp) (E:Value→Shared→Prop),Inv X pins σ H s→(∀ b∈fp,FpOk X pins H b)→tn i s.heap→J.stop i H →
  wpAny (model P w) X.A (pyNext (.ref it)) (fun r s1=>r = none∧Inv X pins σ H s1) E s
 self:∀ (A:Around) (i:Nat) (s:Shared) (Q:Value→Shared→Prop) (E:Value→Shared→Prop),tn i s.heap→Q (.ref it) s→wpAny (model P w) A (pyIter (.ref it)) Q E s
abbrev TI:=St→Hp→(It→Hp→Prop)→Prop
def PIE (X:Cx) (pins:List (Addr × Obj)) (σ:St) (tg:Expr) (R:It→Hp→Prop) (itv:Value) (s2:Shared):Prop :=
 ∃ (it:Addr) (fp:List Addr) (tn:Nat→Heap→Prop) (J:It) (H':Hp),itv = .ref it∧Inv X pins σ H' s2∧Turn X.prog X.w X.K tg J fp it tn∧tn 0 s2.heap∧(∀ b∈fp,FpOk X pins H' b)∧R J H'
def PI (X:Cx) (tg iter:Expr) (wi:TI):Prop :=
 ∀ (pins:List (Addr × Obj)) (s:Shared) (σ:St) (H:Hp) (R:It→Hp→Prop),Inv X pins σ H s→wi σ H R →
   wpAny (model X.prog X.w) X.A (eval iter X.env) (fun v s1=>wpAny (model X.prog X.w) X.A (pyIter v) (PIE X pins σ tg R) X.xe s1) X.xe s
theorem go_of {M:Model} {A:Around} {E:Value→Shared→Prop} {s:Shared} {tg:Expr} {it:Addr} {u:Value} {o:Obj} {n:String} {vs:Array Value} {Q:Unit→Shared→Prop} (ho:s.heap.get? it = some o) (hc:o.cls = .type n) (hd:o.data = .fields vs)
  (hn:["enumerate","zip","dict_itemiterator","dict_reverseitemiterator","odict_iterator","itertools.zip_longest","itertools.pairwise"].contains n = false) (hQ:Q () s):wpAny M A (letOwnedTupleGo tg (.ref it) u) Q E s:=by
 unfold letOwnedTupleGo
 cases tg <;> first
  | exact wpAny_pure hQ
  | (cases u <;> first
    | exact wpAny_pure hQ
    | (refine wpAny_bind (wpAny_load ho ?_)
       rw [hc,hd]
       show wpAny M A (if (["enumerate","zip","dict_itemiterator","dict_reverseitemiterator","odict_iterator","itertools.zip_longest","itertools.pairwise"].contains n && vs[0]? == some (rawInt _)) = true then _ else _) Q E s
       rw [if_neg (by intro h; rw [hn,Bool.false_and] at h; cases h)]
       exact wpAny_pure hQ))
def Itl (K:PySem.W.Frag) (a:Addr):It :=
 ⟨fun i H=>∃ xs x,SqL K H a xs∧xs[i]? = some x,fun i H x H'=>H' = H∧∀ xs,SqL K H a xs→xs[i]? = some x,fun i H=>∃ xs,SqL K H a xs∧xs.length≤i⟩
def Itr (lo:Int) (n:Nat):It:=⟨fun i _=>i < n,fun i H x H'=>H' = H∧x = .int (lo + i),fun i _=>n≤i⟩
theorem turn_list {P:Program} {w:World} {K:PySem.W.Frag} {tg:Expr} (a it:Addr):Turn P w K tg (Itl K a) [it] it (fun i h=>h.IsListIter it a i) where
 mem:=by simp
 obj:=fun i h st b hb=>by
  have e:b = it:=by simpa using hb
  subst e
  obtain ⟨o,e,c,d⟩:=st
  exact ⟨o,e,fun v z=>by rw [d] at z; cases z⟩
 keep:=fun i h h' st k=>st.at fun o e=>k it (by simp) o e
 item:=by
  intro X hP hw hK hc i pins s σ H E I hf st hg
  subst hP hw hK
  obtain ⟨xs,x,hq,hx⟩:=hg
  obtain ⟨its,rv,p,hz⟩:=I.list hq
  obtain ⟨u,hu,ru⟩:=rv.get hx
  obtain ⟨f0,f1,f2,f3,f4,f5⟩:=hf it (by simp)
  refine wpAny_pyNext_list_item st p.isList (x:=u) (by simpa using hu) fun h' st' sb=>?_
  have I1:Inv X pins σ H { s with heap:=h' }:=I.turned (t':=s.toks) (fun b o hb e=>(sb.2 b hb).trans e) f0 f1 f3 f4 f5
  obtain ⟨o,e,c,d⟩:=id st'
  exact ⟨u,rfl,go_of (s:={ s with heap:=h' }) e c d (by decide) ⟨x,H,I1,ru,⟨rfl,fun ys hy=>by rw [I.list_inj hy hq]; exact hx⟩,st',fun b hb=>(hf b hb).1⟩⟩
 done:=by
  intro X hP hw hK hc i pins s σ H E I hf st hg
  subst hP hw hK
  obtain ⟨xs,hq,hx⟩:=hg
  obtain ⟨its,rv,p,hz⟩:=I.list hq
  obtain ⟨f0,f1,f2,f3,f4,f5⟩:=hf it (by simp)
  have hl:=rv.length
  exact wpAny_pyNext_list_end (I.ok.hd hc) st p.isList (by simp; omega) fun h' eb=>⟨rfl,I.turned (t':=s.toks) (fun b o hb e=>eb b o hb e) f0 f1 f3 f4 f5⟩
 self:=fun _ _ _ _ _ st h=>wpAny_pyIter_listiter st h
theorem turn_range {P:Program} {w:World} {K:PySem.W.Frag} {tg:Expr} (it:Addr) (lo:Int) (n:Nat):Turn P w K tg (Itr lo n) [it] it (fun i h=>IsRangeIter h it (lo + (i:Nat) * 1) ((n:Int) - (i:Nat)) 1) where
 mem:=by simp
 obj:=fun i h st b hb=>by
  have e:b = it:=by simpa using hb
  subst e
  exact ⟨_,st,fun v z=>by
   have z':Data.fields _ = Data.cell v:=z
   cases z'⟩
 keep:=fun i h h' st k=>k it (by simp) _ st
 item:=by
  intro X hP hw hK hc i pins s σ H E I hf st hg
  subst hP hw hK
  obtain ⟨f0,f1,f2,f3,f4,f5⟩:=hf it (by simp)
  have W:=Walks.range (prog:=X.prog) (w:=X.w) (I.ok.hd hc) it lo 1 n
  refine W.item i s _ _ hg st fun v h' tk hv st' kk=>?_
  obtain ⟨t,rfl⟩:=hv
  have I1:Inv X pins σ H { s with heap:=h',toks:=tk }:=I.turned (fun b o hb e=>kk b o (by simpa using hb) e) f0 f1 f3 f4 f5
  refine ⟨_,rfl,go_of (s:={ s with heap:=h',toks:=tk }) (n:="range_iterator") st' rfl rfl (by decide) ⟨.int (lo + i),H,I1,⟨t,?_⟩,⟨rfl,rfl⟩,st',fun b hb=>(hf b hb).1⟩⟩
  rw [Int.mul_one]
 done:=by
  intro X hP hw hK hc i pins s σ H E I hf st hg
  subst hP hw hK
  obtain ⟨f0,f1,f2,f3,f4,f5⟩:=hf it (by simp)
  exact wpAny_pyNext_range_end (I.ok.hd hc) st (by have:n≤i:=hg; omega) fun h' eb=>⟨rfl,I.turned (t':=s.toks) (fun b o hb e=>eb b o hb e) f0 f1 f3 f4 f5⟩
 self:=fun _ _ _ _ _ st h=>wpAny_pyIter_rangeiter st h
end L2
namespace L2
open PySem PySem.Spec PyProof.Rows
section
variable {X:Cx} {tg:Expr}
def iList (K:PySem.W.Frag) (tl:TE):TI:=fun σ H R=>tl σ H fun x H1=>∃ a,x = .ref a∧(∃ xs,SqL K H1 a xs)∧R (Itl K a) H1
theorem pi_list {l:Expr} {tl:TE} (hl:PE X l tl):PI X tg l (iList X.K tl):=by
 intro pins s σ H R I h
 refine thn (hl pins s σ H _ I h) fun v s1 ⟨x,H1,I1,r1,q1⟩=>?_
 obtain ⟨a,e,⟨xs,hq⟩,q⟩:=q1
 subst e
 cases r1
 obtain ⟨its,rv,p,hz⟩:=I1.list hq
 refine wpAny_pyIter_list p.isList ?_
 refine ⟨s1.heap.objs.size,[s1.heap.objs.size],_,_,H1,rfl,I1.kept (t':=s1.toks) fun b o e=>Heap.get?_push_of_some _ e,turn_list a _,⟨_,Heap.get?_push_size _ rfl,rfl,rfl⟩,fun b hb=>?_,q⟩
 have e:b = s1.heap.objs.size:=by simpa using hb
 subst e
 exact I1.fpOk (Nat.le_refl _) (I1.hok.fresh (Nat.le_refl _))
def tFor (wi:TI) (g:TG) (tb:TS):TS:=fun D σ H=>wi σ H fun J H1=>∃ W:Nat→Nat→St→Hp→Prop,(∃ m,W 0 m σ H1)∧∀ i m σ H,W i m σ H →
 (J.stop i H∧D.nx σ H)∨(J.go i H∧∃ N:St→Hp→Prop,(∀ σ' H',N σ' H'→∃ m',m' < m∧W (i + 1) m' σ' H')∧∀ x H',J.yld i H x H'→g x σ H' fun σ2 H2=>tb { D with nx:=N,ct:=N,bk:=D.nx } σ2 H2)
def pinsAt (fp:List Addr) (h:Heap):List (Addr × Obj):=fp.filterMap fun b=>(h.get? b).map fun o=>(b,o)
theorem mem_pinsAt {fp:List Addr} {h:Heap} {b:Addr} {o:Obj} (hb:b∈fp) (e:h.get? b = some o):(b,o)∈pinsAt fp h:=List.mem_filterMap.mpr ⟨b,hb,by rw [e]; rfl⟩
theorem of_pinsAt {fp:List Addr} {h:Heap} {p:Addr × Obj} (hp:p∈pinsAt fp h):p.1∈fp∧h.get? p.1 = some p.2:=by
 obtain ⟨b,hb,e⟩:=List.mem_filterMap.mp hp
 cases q:h.get? b with
 | none=>rw [q] at e; cases e
 | some o =>
   rw [q] at e
   have e':(b,o) = p:=Option.some.inj e
   subst e'
   exact ⟨hb,q⟩
theorem Inv.pinned {pins:List (Addr × Obj)} {σ:St} {H:Hp} {s:Shared} {fp:List Addr} (I:Inv X pins σ H s) (hf:∀ b∈fp,FpOk X pins H b) (ho:∀ b∈fp,∃ o,s.heap.get? b = some o∧∀ v,o.data≠.cell v):Inv X (pins ++ pinsAt fp s.heap) σ H s :=
 I.pins_of fun p hp=>(List.mem_append.mp hp).elim (fun z=>I.pin p (List.mem_append_right _ z)) fun z=>by
  obtain ⟨hb,e⟩:=of_pinsAt z
  obtain ⟨f0,f1,f2,_⟩:=hf p.1 hb
  obtain ⟨o,e',d⟩:=ho p.1 hb
  rw [e] at e'; cases e'
  exact ⟨e,f0,f1,f2,d⟩
theorem Inv.unpinned {pins pl:List (Addr × Obj)} {σ:St} {H:Hp} {s:Shared} (I:Inv X (pins ++ pl) σ H s):Inv X pins σ H s:=I.pins_of fun p hp=>I.pin p (List.mem_append_right _ (List.mem_append_left _ hp))
theorem ps_for {iter:Expr} {body:List Stmt} {wi:TI} {g:TG} {tb:TS} {pos:Pos} (hp:PassesOwn (model X.prog X.w) X.A X.env X.xe) (hc:X.calm = true) (hi:PI X tg iter wi) (hg:PG X tg g) (hb:PSs X body tb)
  (hs:∀ x,foldedSetIterable iter X.env x = pure x:=by intro _; rfl):PS X (.For tg iter body [] pos) (tFor wi g tb):=by
 intro pins s σ H D I h
 refine wpAny_For (thn (hi pins s σ H _ I h) fun v s1 h1=>thn h1 fun itv s2 h2=>?_) hs
 obtain ⟨it,fp,tn,J,H2,e,I2,T,st2,f2,W,⟨m0,w0⟩,turn⟩:=h2
 subst e
 have stat:∀ {H':Hp},(∀ b∈fp,H' b = none)→∀ b∈fp,FpOk X pins H' b:=fun hn b hb=>⟨hn b hb,(f2 b hb).2⟩
 refine codeAny_forLoop_any (fun n s'=>∃ i σ' H',Inv X pins σ' H' s'∧tn i s'.heap∧(∀ b∈fp,H' b = none)∧W i n σ' H') ?_ m0 ⟨0,σ,H2,I2,st2,fun b hb=>(f2 b hb).1,w0⟩
 rintro n s3 ⟨i,σ3,H3,I3,st3,fr3,w3⟩
 rcases turn i n σ3 H3 w3 with ⟨stop,qn⟩ | ⟨go,N,hN,step⟩
 · refine wpAny_passesOwn hp (thn (T.done X rfl rfl rfl hc i pins s3 σ3 H3 X.xe I3 (stat fr3) st3 stop) fun r s4 ⟨hr,I4⟩=>?_)
   subst hr
   exact wpAny_execs_nil ⟨σ3,H3,I4,qn⟩
 · refine wpAny_passesOwn hp (thn (T.item X rfl rfl rfl hc i pins s3 σ3 H3 X.xe I3 (stat fr3) st3 go) fun r s4 ⟨u,hr,h4⟩=>?_)
   subst hr
   refine wpAny_passesOwn hp (thn h4 fun _ s5 ⟨x,H5,I5,r5,y5,st5,fr5⟩=>?_)
   have I5':=I5.pinned (stat fr5) (T.obj _ _ st5)
   refine wpAny_passesOwn hp (thn (hg _ s5 σ3 H5 x u _ I5' r5 (step x H5 y5)) fun _ s6 ⟨σ6,H6,I6,q6⟩=>?_)
   refine wpAny_passesOwn hp (thn (hb _ s6 σ6 H6 _ I6 q6) fun f s7 q7=>?_)
   have again:∀ {σ7:St} {H7:Hp},Inv X (pins ++ pinsAt fp s5.heap) σ7 H7 s7→N σ7 H7→∃ m,m < n∧∃ i σ' H',Inv X pins σ' H' s7∧tn i s7.heap∧(∀ b∈fp,H' b = none)∧W i m σ' H':=fun {σ7 H7} I7 n7=>by
    obtain ⟨m',hm,w7⟩:=hN σ7 H7 n7
    refine ⟨m',hm,i + 1,σ7,H7,I7.unpinned,T.keep _ _ _ st5 fun b hb o e=>(I7.pin (b,o) (List.mem_append_right _ (List.mem_append_right _ (mem_pinsAt hb e)))).1,fun b hb=>?_,w7⟩
    obtain ⟨o,e,d⟩:=T.obj _ _ st5 b hb
    exact (I7.pin (b,o) (List.mem_append_right _ (List.mem_append_right _ (mem_pinsAt hb e)))).2.1
   cases f with
   | next=>obtain ⟨σ7,H7,I7,n7⟩:=q7; exact again I7 n7
   | cont=>obtain ⟨σ7,H7,I7,n7⟩:=q7; exact again I7 n7
   | brk=>obtain ⟨σ7,H7,I7,q7⟩:=q7; exact ⟨σ7,H7,I7.unpinned,q7⟩
   | ret v=>obtain ⟨x7,σ7,H7,I7,r7,q7⟩:=q7; exact ⟨x7,σ7,H7,I7.unpinned,r7,q7⟩
end
theorem for_list {K:PySem.W.Frag} {a:Addr} {xs:List V} {g:TG} {tb:TS} {D:Ends} {σ:St} {H:Hp} (Pv:Nat→St→Hp→Prop) (h0:Pv 0 σ H) (hl:∀ i σ H,i≤xs.length→Pv i σ H→SqL K H a xs)
  (hs:∀ i x σ H,xs[i]? = some x→Pv i σ H→g x σ H fun σ2 H2=>tb { D with nx:=Pv (i + 1),ct:=Pv (i + 1),bk:=D.nx } σ2 H2) (hd:∀ σ H,Pv xs.length σ H→D.nx σ H) :
  ∃ W:Nat→Nat→St→Hp→Prop,(∃ m,W 0 m σ H)∧∀ i m σ H,W i m σ H →
    ((Itl K a).stop i H∧D.nx σ H)∨((Itl K a).go i H∧∃ N:St→Hp→Prop,(∀ σ' H',N σ' H'→∃ m',m' < m∧W (i + 1) m' σ' H')∧∀ x H',(Itl K a).yld i H x H'→g x σ H' fun σ2 H2=>tb { D with nx:=N,ct:=N,bk:=D.nx } σ2 H2):=by
 refine ⟨fun i m σ H=>m = xs.length - i∧i≤xs.length∧Pv i σ H,⟨xs.length,by simp,Nat.zero_le _,h0⟩,?_⟩
 rintro i m σ H ⟨rfl,hi,p⟩
 have q:=hl i σ H hi p
 by_cases hlt:i < xs.length
 · refine .inr ⟨⟨xs,xs[i],q,by simp [hlt]⟩,Pv (i + 1),fun σ' H' p'=>⟨xs.length - (i + 1),by omega,rfl,hlt,p'⟩,fun x H' y=>?_⟩
   obtain ⟨e,y⟩:=y
   subst e
   exact hs i x σ _ (y xs q) p
 · have e:i = xs.length:=by omega
   subst e
   exact .inl ⟨⟨xs,q,Nat.le_refl _⟩,hd σ H p⟩
end L2
namespace L2
open PySem PySem.Spec PyProof.Rows
abbrev R2:=V→V→Hp→VK→Prop
def OpR (X:Cx) (f:Value→Value→Sem Value) (r:R2):Prop :=
 ∀ (pins:List (Addr × Obj)) (s:Shared) (σ:St) (H:Hp) (x y:V) (v u:Value) (Q:VK),Inv X pins σ H s→RelV x v→RelV y u→r x y H Q →
   wpAny (model X.prog X.w) X.A (f v u) (EP X pins σ Q) X.xe s
def UnR (X:Cx) (f:Value→Sem Value) (r:V→Hp→VK→Prop):Prop :=
 ∀ (pins:List (Addr × Obj)) (s:Shared) (σ:St) (H:Hp) (x:V) (v:Value) (Q:VK),Inv X pins σ H s→RelV x v→r x H Q →
   wpAny (model X.prog X.w) X.A (f v) (EP X pins σ Q) X.xe s
def CallR (X:Cx) (f:Value) (r:List V→Hp→VK→Prop):Prop :=
 ∀ (pins:List (Addr × Obj)) (s:Shared) (σ:St) (H:Hp) (xs:List V) (us:List Value) (Q:VK),Inv X pins σ H s→Vals xs us→r xs H Q →
   wpAny (model X.prog X.w) X.A (call f us) (EP X pins σ Q) X.xe s
def tOp (r:R2) (ta tb:TE):TE:=fun σ H Q=>ta σ H fun x H1=>tb σ H1 fun y H2=>r x y H2 Q
def tUn (r:V→Hp→VK→Prop) (ta:TE):TE:=fun σ H Q=>ta σ H fun x H1=>r x H1 Q
def rI (C:Int→Int→Prop) (g:Int→Int→V):R2:=fun x y H Q=>∃ i j,x = .int i∧y = .int j∧C i j∧Q (g i j) H
def rI0 (g:Int→Int→V):R2:=fun x y H Q=>∃ i j,x = .int i∧y = .int j∧Q (g i j) H
def rU (g:Int→V):V→Hp→VK→Prop:=fun x H Q=>∃ i,x = .int i∧Q (g i) H
section
variable {X:Cx} {a b c:Expr} {ta tb tc:TE} {pos:Pos}
theorem binT (ha:PE X a ta) (hb:PE X b tb) {pins:List (Addr × Obj)} {s:Shared} {σ:St} {H:Hp} {R:V→V→Hp→Prop} (I:Inv X pins σ H s)
  (h:ta σ H fun x H1=>tb σ H1 fun y H2=>R x y H2) {Q:Value→Shared→Prop} {f:Value→Value→Sem Value}
  (hf:∀ v u s2 x y H2,Inv X pins σ H2 s2→RelV x v→RelV y u→R x y H2→wpAny (model X.prog X.w) X.A (f v u) Q X.xe s2) :
  wpAny (model X.prog X.w) X.A (eval a X.env) (fun v s₁=>wpAny (model X.prog X.w) X.A (eval b X.env) (fun u s₂=>wpAny (model X.prog X.w) X.A (f v u) Q X.xe s₂) X.xe s₁) X.xe s:=by
 refine thn (ha pins s σ H _ I h) fun v s1 ⟨x,H1,I1,r1,q1⟩=>?_
 refine thn (hb pins s1 σ H1 _ I1 q1) fun u s2 ⟨y,H2,I2,r2,q2⟩=>?_
 exact hf v u s2 x y H2 I2 r1 r2 q2
theorem pe_op {op:Operator} {r:R2} (ho:OpR X (binaryOp op) r) (ha:PE X a ta) (hb:PE X b tb):PE X (.BinOp a op b pos) (tOp r ta tb):=by
 intro pins s σ H Q I h
 exact wpAny_BinOp (binT ha hb I h fun v u s2 x y H2 I2 rx ry q=>ho pins s2 σ H2 x y v u Q I2 rx ry q)
theorem pe_un {op:UnaryOp} {r:V→Hp→VK→Prop} (ho:UnR X (unaryOp op) r) (ha:PE X a ta):PE X (.UnaryOp op a pos) (tUn r ta):=by
 intro pins s σ H Q I h
 exact UnaryOp_ (thn (ha pins s σ H _ I h) fun v s1 ⟨x,H1,I1,r1,q1⟩=>ho pins s1 σ H1 x v Q I1 r1 q1)
theorem opI {f:Value→Value→Sem Value} {C:Int→Int→Prop} {g:Int→Int→Int}
  (rule:∀ (i j:Int) (t u:Tok) (s:Shared) (Q:Value→Shared→Prop) (E:Value→Shared→Prop),C i j→Q (.int (g i j) s.toks) { s with toks:=s.toks + 1 }→wpAny (model X.prog X.w) X.A (f (.int i t) (.int j u)) Q E s) :
  OpR X f (rI C fun i j=>.int (g i j)):=by
 intro pins s σ H x y v u Q I rx ry h
 obtain ⟨i,j,rfl,rfl,hc,q⟩:=h
 obtain ⟨t,rfl⟩:=rx
 obtain ⟨t',rfl⟩:=ry
 exact rule i j t t' s _ _ hc ⟨.int (g i j),H,I.tok _,⟨_,rfl⟩,q⟩
theorem opI0 {f:Value→Value→Sem Value} {g:Int→Int→Int}
  (rule:∀ (i j:Int) (t u:Tok) (s:Shared) (Q:Value→Shared→Prop) (E:Value→Shared→Prop),Q (.int (g i j) s.toks) { s with toks:=s.toks + 1 }→wpAny (model X.prog X.w) X.A (f (.int i t) (.int j u)) Q E s) :
  OpR X f (rI0 fun i j=>.int (g i j)):=by
 intro pins s σ H x y v u Q I rx ry h
 obtain ⟨i,j,rfl,rfl,q⟩:=h
 obtain ⟨t,rfl⟩:=rx
 obtain ⟨t',rfl⟩:=ry
 exact rule i j t t' s _ _ ⟨.int (g i j),H,I.tok _,⟨_,rfl⟩,q⟩
theorem opB0 {f:Value→Value→Sem Value} {g:Int→Int→Bool}
  (rule:∀ (i j:Int) (t u:Tok) (s:Shared) (Q:Value→Shared→Prop) (E:Value→Shared→Prop),Q (.bool (g i j)) s→wpAny (model X.prog X.w) X.A (f (.int i t) (.int j u)) Q E s) :
  OpR X f (rI0 fun i j=>.bl (g i j)):=by
 intro pins s σ H x y v u Q I rx ry h
 obtain ⟨i,j,rfl,rfl,q⟩:=h
 obtain ⟨t,rfl⟩:=rx
 obtain ⟨t',rfl⟩:=ry
 exact rule i j t t' s _ _ ⟨.bl (g i j),H,I,rfl,q⟩
def CDiv (i j:Int):Prop:=0 < j∧j < 1073741824
theorem op_add:OpR X (binaryOp .Add) (rI0 fun i j=>.int (i + j)):=opI0 fun _ _ _ _ _ _ _ q=>add_int q
theorem op_sub:OpR X (binaryOp .Sub) (rI0 fun i j=>.int (i - j)):=opI0 fun _ _ _ _ _ _ _ q=>sub_int q
theorem op_fdiv:OpR X (binaryOp .FloorDiv) (rI CDiv fun i j=>.int (i / j)):=opI fun i j _ _ _ _ _ hc q=>by
 have h1:(0:Int) < j:=hc.1
 have h2:j < 1073741824:=hc.2
 exact floordiv_int (by omega) (by rw [Int.fdiv_eq_ediv_of_nonneg i (by omega)]; exact q) (.inl (PyProof.noPylong_small (by omega)))
theorem op_mod:OpR X (binaryOp .Mod) (rI (fun _ j=>0 < j) fun i j=>.int (i % j)):=opI fun i j _ _ _ _ _ hc q=>by
 have h1:(0:Int) < j:=hc
 exact mod_int' (by omega) (by rw [Int.fmod_eq_emod_of_nonneg i (by omega)]; exact q)
theorem unI {f:Value→Sem Value} {g:Int→Int}
  (rule:∀ (i:Int) (t:Tok) (s:Shared) (Q:Value→Shared→Prop) (E:Value→Shared→Prop),Q (.int (g i) s.toks) { s with toks:=s.toks + 1 }→wpAny (model X.prog X.w) X.A (f (.int i t)) Q E s) :
  UnR X f (rU fun i=>.int (g i)):=by
 intro pins s σ H x v Q I rx h
 obtain ⟨i,rfl,q⟩:=h
 obtain ⟨t,rfl⟩:=rx
 exact rule i t s _ _ ⟨.int (g i),H,I.tok _,⟨_,rfl⟩,q⟩
theorem un_neg:UnR X (unaryOp .USub) (rU fun i=>.int (-i)):=unI fun _ _ _ _ _ q=>neg_int q
end
def scal:V→V→Bool
 | .non,.non=>true | .non,.int _=>true | .int _,.non=>true | .non,.bl _=>true | .bl _,.non=>true | .non,.str _=>true | .str _,.non=>true
 | .int _,.int _=>true | .bl _,.bl _=>true | .str _,.str _=>true | .byt _,.byt _=>true
 | .int _,.str _=>true | .str _,.int _=>true | .bl _,.str _=>true | .str _,.bl _=>true
 | _,_=>false
def rEq:R2:=fun x y H Q=>scal x y = true∧Q (.bl (decide (x = y))) H
def rNe:R2:=fun x y H Q=>scal x y = true∧Q (.bl (!decide (x = y))) H
theorem dec_int {i j:Int}:decide (V.int i = V.int j) = (i == j):=by
 rw [Bool.eq_iff_iff]
 simp
theorem dec_bl {i j:Bool}:decide (V.bl i = V.bl j) = (i == j):=by
 rw [Bool.eq_iff_iff]
 simp
theorem dec_str {i j:Str}:decide (V.str i = V.str j) = (i == j):=by
 rw [Bool.eq_iff_iff]
 simp
theorem dec_byt {i j:Array UInt8}:decide (V.byt i = V.byt j) = (i.toList == j.toList):=by
 rw [Bool.eq_iff_iff]
 cases i
 cases j
 simp
section
variable {X:Cx} {a b c:Expr} {ta tb tc:TE} {pos:Pos}
theorem fin_bl {pins:List (Addr × Obj)} {σ:St} {H:Hp} {s:Shared} {Q:VK} {k k':Bool} (I:Inv X pins σ H s) (q:Q (.bl k) H) (e:k = k'):EP X pins σ Q (.bool k') s:=by
 subst e
 exact ⟨.bl k,H,I,rfl,q⟩
theorem op_eq:OpR X (compareOp .Eq) rEq:=by
 intro pins s σ H x y v u Q I rx ry h
 obtain ⟨hs,q⟩:=h
 cases x with
 | non =>
   cases rx
   cases y with
   | non=>cases ry; exact PySem.EqNone.eq_none_none (fin_bl I q (by simp))
   | bl j=>cases ry; exact PySem.EqNone.eq_none_bool (fin_bl I q (by simp))
   | int j=>obtain ⟨t',rfl⟩:=ry; exact PySem.EqNone.eq_none_int (fin_bl I q (by simp))
   | str j=>obtain ⟨t',rfl⟩:=ry; exact PySem.EqNone.eq_none_str (fin_bl I q (by simp))
   | _=>exact absurd (show false = true from hs) Bool.false_ne_true
 | bl i =>
   cases rx
   cases y with
   | non=>cases ry; exact PySem.EqNone.eq_bool_none (fin_bl I q (by simp))
   | bl j=>cases ry; exact eq_bool (fin_bl I q dec_bl)
   | str j=>obtain ⟨t',rfl⟩:=ry; exact PySem.EqMixed.eq_bool_str (fin_bl I q (by simp))
   | _=>exact absurd (show false = true from hs) Bool.false_ne_true
 | int i =>
   obtain ⟨t,rfl⟩:=rx
   cases y with
   | non=>cases ry; exact PySem.EqNone.eq_int_none (fin_bl I q (by simp))
   | int j=>obtain ⟨t',rfl⟩:=ry; exact eq_int (fin_bl I q dec_int)
   | str j=>obtain ⟨t',rfl⟩:=ry; exact PySem.EqMixed.eq_int_str (fin_bl I q (by simp))
   | _=>exact absurd (show false = true from hs) Bool.false_ne_true
 | str i =>
   obtain ⟨t,rfl⟩:=rx
   cases y with
   | non=>cases ry; exact PySem.EqNone.eq_str_none (fin_bl I q (by simp))
   | bl j=>cases ry; exact PySem.EqMixed.eq_str_bool (fin_bl I q (by simp))
   | int j=>obtain ⟨t',rfl⟩:=ry; exact PySem.EqMixed.eq_str_int (fin_bl I q (by simp))
   | str j=>obtain ⟨t',rfl⟩:=ry; exact eq_str (fin_bl I q dec_str)
   | _=>exact absurd (show false = true from hs) Bool.false_ne_true
 | byt i =>
   obtain ⟨t,rfl⟩:=rx
   cases y with
   | byt j=>obtain ⟨t',rfl⟩:=ry; exact PySem.W.eq_bytes (fin_bl I q dec_byt)
   | _=>exact absurd (show false = true from hs) Bool.false_ne_true
 | _=>cases y <;> exact absurd (show false = true from hs) Bool.false_ne_true
theorem op_ne:OpR X (compareOp .NotEq) rNe:=by
 intro pins s σ H x y v u Q I rx ry h
 obtain ⟨hs,q⟩:=h
 cases x with
 | non =>
   cases rx
   cases y with
   | non=>cases ry; exact PySem.EqNone.ne_none_none (fin_bl I q (by simp))
   | bl j=>cases ry; exact PySem.EqNone.ne_none_bool (fin_bl I q (by simp))
   | int j=>obtain ⟨t',rfl⟩:=ry; exact PySem.EqNone.ne_none_int (fin_bl I q (by simp))
   | str j=>obtain ⟨t',rfl⟩:=ry; exact PySem.EqNone.ne_none_str (fin_bl I q (by simp))
   | _=>exact absurd (show false = true from hs) Bool.false_ne_true
 | bl i =>
   cases rx
   cases y with
   | non=>cases ry; exact PySem.EqNone.ne_bool_none (fin_bl I q (by simp))
   | bl j=>cases ry; exact ne_bool (fin_bl I q (congrArg not dec_bl))
   | str j=>obtain ⟨t',rfl⟩:=ry; exact PySem.EqMixed.ne_bool_str (fin_bl I q (by simp))
   | _=>exact absurd (show false = true from hs) Bool.false_ne_true
 | int i =>
   obtain ⟨t,rfl⟩:=rx
   cases y with
   | non=>cases ry; exact PySem.EqNone.ne_int_none (fin_bl I q (by simp))
   | int j=>obtain ⟨t',rfl⟩:=ry; exact ne_int (fin_bl I q (congrArg not dec_int))
   | str j=>obtain ⟨t',rfl⟩:=ry; exact PySem.EqMixed.ne_int_str (fin_bl I q (by simp))
   | _=>exact absurd (show false = true from hs) Bool.false_ne_true
 | str i =>
   obtain ⟨t,rfl⟩:=rx
   cases y with
   | non=>cases ry; exact PySem.EqNone.ne_str_none (fin_bl I q (by simp))
   | bl j=>cases ry; exact PySem.EqMixed.ne_str_bool (fin_bl I q (by simp))
   | int j=>obtain ⟨t',rfl⟩:=ry; exact PySem.EqMixed.ne_str_int (fin_bl I q (by simp))
   | str j=>obtain ⟨t',rfl⟩:=ry; exact ne_str (fin_bl I q (congrArg not dec_str))
   | _=>exact absurd (show false = true from hs) Bool.false_ne_true
 | byt i =>
   obtain ⟨t,rfl⟩:=rx
   cases y with
   | byt j=>obtain ⟨t',rfl⟩:=ry; exact PySem.W.ne_bytes (fin_bl I q (congrArg not dec_byt))
   | _=>exact absurd (show false = true from hs) Bool.false_ne_true
 | _=>cases y <;> exact absurd (show false = true from hs) Bool.false_ne_true
theorem op_lt:OpR X (compareOp .Lt) (rI0 fun i j=>.bl (decide (i < j))):=opB0 fun _ _ _ _ _ _ _ q=>lt_int q
theorem op_le:OpR X (compareOp .LtE) (rI0 fun i j=>.bl (decide (i≤j))):=opB0 fun _ _ _ _ _ _ _ q=>le_int q
theorem op_gt:OpR X (compareOp .Gt) (rI0 fun i j=>.bl (decide (j < i))):=opB0 fun _ _ _ _ _ _ _ q=>gt_int q
theorem nomark (b:Expr) {op:CmpOp} (h:op≠.In:=by decide) (h2:op≠.NotIn:=by decide):behindInMarks op b = false:=by
 have e1:(op == CmpOp.In) = false:=by cases op <;> first | rfl | exact absurd rfl h
 have e2:(op == CmpOp.NotIn) = false:=by cases op <;> first | rfl | exact absurd rfl h2
 cases b <;> simp [behindInMarks,e1,e2]
theorem pe_cmpR {op:CmpOp} {r:R2} (ho:OpR X (compareOp op) r) (ha:PE X a ta) (hb:PE X b tb) (hm:behindInMarks op b = false):PE X (.Compare a [op] [b] pos) (tOp r ta tb):=by
 intro pins s σ H Q I h
 exact wpAny_Compare1 (binT ha hb I h fun v u s2 x y H2 I2 rx ry q=>ho pins s2 σ H2 x y v u Q I2 rx ry q) hm
def tTest (t:TE):TT:=fun σ H Q=>t σ H fun x H'=>∃ k,x = .bl k∧Q k H'
theorem pt_cmpR {op:CmpOp} {r:R2} (ho:OpR X (compareOp op) r) (ha:PE X a ta) (hb:PE X b tb) (hm:behindInMarks op b = false):PT X (.Compare a [op] [b] pos) (tTest (tOp r ta tb)):=by
 intro pins s σ H Q I h
 refine wpAny_isTrue_Compare1 (thn (ha pins s σ H _ I h) fun v s1 ⟨x,H1,I1,r1,q1⟩=>thn (hb pins s1 σ H1 _ I1 q1) fun u s2 ⟨y,H2,I2,r2,q2⟩ =>
  thn (ho pins s2 σ H2 x y v u _ I2 r1 r2 q2) fun c s3 ⟨z,H3,I3,r3,k,e,q3⟩=>?_) hm
 subst e
 cases r3
 exact wpAny_truthy_bool ⟨H3,I3,q3⟩
def tChain (r r':R2) (ta tb tc:TE):TE:=fun σ H Q=>ta σ H fun x H1=>tb σ H1 fun y H2=>r x y H2 fun z H3=>∃ k,z = .bl k ∧
 (if k = true then tc σ H3 fun w' H4=>r' y w' H4 Q else Q (.bl false) H3)
theorem pe_chain {op op':CmpOp} {r r':R2} (ho:OpR X (compareOp op) r) (ho':OpR X (compareOp op') r') (ha:PE X a ta) (hb:PE X b tb) (hc:PE X c tc)
  (hm:lastMarks [op,op'] [b,c] = false:=by with_unfolding_all rfl):PE X (.Compare a [op,op'] [b,c] pos) (tChain r r' ta tb tc):=by
 intro pins s σ H Q I h
 refine Compare_chain (thn (ha pins s σ H _ I h) fun v s1 ⟨x,H1,I1,r1,q1⟩=>chain_link (thn (hb pins s1 σ H1 _ I1 q1) fun u s2 ⟨y,H2,I2,r2,q2⟩ =>
  thn (ho pins s2 σ H2 x y v u _ I2 r1 r2 q2) fun d s3 ⟨z,H3,I3,r3,k,e,q3⟩=>?_)) hm
 subst e
 cases r3
 refine wpAny_truthy_bool ?_
 cases k with
 | false=>exact ite_ff ⟨.bl false,H3,I3,rfl,q3⟩
 | true=>exact ite_tt (chain_last (thn (hc pins s3 σ H3 _ I3 q3) fun w' s4 ⟨z',H4,I4,r4,q4⟩=>ho' pins s4 σ H4 y z' u w' Q I4 r2 r4 q4))
theorem pt_chain {op op':CmpOp} {r r':R2} (ho:OpR X (compareOp op) r) (ho':OpR X (compareOp op') r') (ha:PE X a ta) (hb:PE X b tb) (hc:PE X c tc)
  (hm:lastMarks [op,op'] [b,c] = false:=by with_unfolding_all rfl):PT X (.Compare a [op,op'] [b,c] pos) (tTest (tChain r r' ta tb tc)):=by
 intro pins s σ H Q I h
 refine isTrue_chain (thn (ha pins s σ H _ I h) fun v s1 ⟨x,H1,I1,r1,q1⟩=>test_link (thn (hb pins s1 σ H1 _ I1 q1) fun u s2 ⟨y,H2,I2,r2,q2⟩ =>
  thn (ho pins s2 σ H2 x y v u _ I2 r1 r2 q2) fun d s3 ⟨z,H3,I3,r3,k,e,q3⟩=>?_)) hm
 subst e
 cases r3
 refine wpAny_truthy_bool ?_
 cases k with
 | false =>
   obtain ⟨k',e',q'⟩:=q3
   cases e'
   exact ite_ff ⟨H3,I3,q'⟩
 | true =>
   refine ite_tt (test_last (thn (hc pins s3 σ H3 _ I3 q3) fun w' s4 ⟨z',H4,I4,r4,q4⟩=>thn (ho' pins s4 σ H4 y z' u w' _ I4 r2 r4 q4) fun d' s5 ⟨z2,H5,I5,r5,k2,e2,q5⟩=>?_))
   subst e2
   cases r5
   exact wpAny_truthy_bool ⟨H5,I5,q5⟩
theorem line63:(sizeLine:Nat) < 2 ^ 63:=by rw [sizeLine_eq]; decide
theorem op_add_str:OpR X (binaryOp .Add) (fun x y H Q=>∃ i j,x = .str i∧y = .str j∧i.length + j.length≤sizeLine∧Q (.str (i ++ j)) H):=by
 intro pins s σ H x y v u Q I rx ry h
 obtain ⟨i,j,rfl,rfl,hz,q⟩:=h
 obtain ⟨t,rfl⟩:=rx
 obtain ⟨t',rfl⟩:=ry
 exact add_str (fun t' tk=>⟨.str (i ++ j),H,I.tok _,⟨_,rfl⟩,q⟩) hz
theorem vals1 {x:V} {us:List Value} (r:Vals [x] us):∃ u,us = [u]∧RelV x u:=by
 cases r with
 | cons r1 r2=>cases r2; exact ⟨_,rfl,r1⟩
theorem vals2 {x y:V} {us:List Value} (r:Vals [x,y] us):∃ u w',us = [u,w']∧RelV x u∧RelV y w':=by
 cases r with
 | cons r1 r2 =>
   cases r2 with
   | cons r3 r4=>cases r4; exact ⟨_,_,rfl,r1,r3⟩
theorem call_max2 (hc:X.calm = true):CallR X (.builtin "max") (fun xs H Q=>∃ i j,xs = [.int i,.int j]∧Q (.int (if j > i then j else i)) H):=by
 intro pins s σ H xs us Q I r h
 obtain ⟨i,j,rfl,q⟩:=h
 obtain ⟨u,w',rfl,⟨t,rfl⟩,⟨t',rfl⟩⟩:=vals2 r
 refine max_two_ints (I.ok.hd hc) fun h' tk k=>⟨_,H,I.kept k,?_,q⟩
 by_cases hj:j > i
 · rw [if_pos hj,if_pos hj]; exact ⟨_,rfl⟩
 · rw [if_neg hj,if_neg hj]; exact ⟨_,rfl⟩
theorem call_min2 (hc:X.calm = true):CallR X (.builtin "min") (fun xs H Q=>∃ i j,xs = [.int i,.int j]∧Q (.int (if j < i then j else i)) H):=by
 intro pins s σ H xs us Q I r h
 obtain ⟨i,j,rfl,q⟩:=h
 obtain ⟨u,w',rfl,⟨t,rfl⟩,⟨t',rfl⟩⟩:=vals2 r
 refine min_two_ints (I.ok.hd hc) fun h' tk k=>⟨_,H,I.kept k,?_,q⟩
 by_cases hj:j < i
 · rw [if_pos hj,if_pos hj]; exact ⟨_,rfl⟩
 · rw [if_neg hj,if_neg hj]; exact ⟨_,rfl⟩
theorem call_str_int:CallR X (.type "str") (fun xs H Q=>∃ i,xs = [.int i]∧i.natAbs.log2 < 1920∧Q (.str (toString i)) H):=by
 intro pins s σ H xs us Q I r h
 obtain ⟨i,rfl,hz,q⟩:=h
 obtain ⟨u,rfl,t,rfl⟩:=vals1 r
 exact PySem.P.str_of_int hz ⟨.str _,H,I.tok _,⟨_,rfl⟩,q⟩
theorem call_ord:CallR X (.builtin "ord") (fun xs H Q=>∃ x,xs = [.str x]∧x.length = 1∧Q (.int (x.cps.getD 0 0:Nat)) H):=by
 intro pins s σ H xs us Q I r h
 obtain ⟨x,rfl,hz,q⟩:=h
 obtain ⟨u,rfl,t,rfl⟩:=vals1 r
 exact ord_of_one hz ⟨.int _,H,I.tok _,⟨_,rfl⟩,q⟩
end
end L2
namespace L2
open PySem PySem.Spec PyProof.Rows
structure ObjM (h:Heap) (x dx C:Addr) (mA:Str→Option Value):Prop where
 obj:h.get? x = some (PySem.W.instObj C dx)
 ns:h.Ns1 dx mA
 ne:dx≠x
theorem lookIn_ns {h:Heap} {dx:Addr} {mA:Str→Option Value} (n:h.Ns1 dx mA):∃ od,h.get? dx = some od∧∀ name,PySem.W.lookIn name od = some (mA name):=by
 obtain ⟨o,es,ep,ho,hd,hk,_,hm⟩:=n
 refine ⟨o,ho,fun name=>?_⟩
 have e:=hm name
 unfold nsFind findBy at e
 rw [← Array.find?_toList] at e
 unfold PySem.W.lookIn
 rw [hd]
 dsimp only
 split
 · rename_i y q
   rw [q] at e
   exact congrArg some e
 · rename_i q
   rw [q] at e
   have a:es.toList.any (·.refKey) = false:=by
    rw [List.any_eq_false]
    intro y hy
    obtain ⟨z,t,hkey⟩:=hk y (Array.mem_toList_iff.mp hy)
    simp [DictEntry.refKey,hkey]
   have a':¬ es.toList.any (·.refKey) = true:=by rw [a]; exact Bool.false_ne_true
   rw [if_neg a']
   exact congrArg some e
theorem ObjM.look {h:Heap} {x dx C:Addr} {mA:Str→Option Value} (I:ObjM h x dx C mA):∃ od,PySem.W.InstAt h x (PySem.W.instObj C dx) C (some od)∧∀ name,PySem.W.lookIn name od = some (mA name) :=
 let ⟨od,ho,hl⟩:=lookIn_ns I.ns
 ⟨od,⟨I.obj,rfl,rfl,ho⟩,hl⟩
section
variable {prog:Program} {w:World} {A:Around} {E:Value→Shared→Prop} {s:Shared} {K:PySem.W.Frag} {x dx C f:Addr} {mA:Str→Option Value} {name:Str} {v:Value}
theorem get_map {expr:Bool} {Q:Value→Shared→Prop} (X:K.In s.heap) (I:ObjM s.heap x dx C mA) (hg:PySem.W.plainGet K C name = true) (hh:PySem.W.hasDictIn K C = true)
  (ha:PySem.W.findIn K (.ref C) name = some none) (hv:mA name = some v) (hv':PySem.W.handedIn v = true) (h:Q v { s with toks:=s.toks + 1 }) :
  wpAny (model prog w) A (getAttr (.ref x) name expr) Q E s:=by
 obtain ⟨od,J,hl⟩:=I.look
 exact PySem.W.get_value X J (PySem.W.plainGet_of hg).1 (PySem.W.findObj_own hh ha rfl (by rw [hl,hv])) hv' h
theorem get_meth {pl:Sem Bool} {Q:Value × List Value→Shared→Prop} (X:K.In s.heap) (I:ObjM s.heap x dx C mA) (hg:PySem.W.plainGet K C name = true)
  (hf:PySem.W.findIn K (.ref C) name = some (some (.ref f))) (ht:PySem.W.isFn K (.ref f) = true) (hv:mA name = none) (h:Q (.ref f,[.ref x]) s) :
  wpAny (model prog w) A (getMethod (.ref x) name pl) Q E s:=by
 obtain ⟨od,J,hl⟩:=I.look
 exact PySem.W.method_fn X J (PySem.W.plainGet_of hg).1 (PySem.W.plainGet_of hg).2 hf (beq_iff_eq.mp ht) (by show (PySem.W.lookIn name od).map (·.isSome) = some false; rw [hl,hv]; rfl) h
theorem set_map {ns:List Str} {Q:Unit→Shared→Prop} (X:K.In s.heap) (I:ObjM s.heap x dx C mA)
  (hs:PySem.W.findIn K (.ref C) "__setattr__" = some (some (.builtin "object.__setattr__"))) (hp:PySem.W.plainOver K C = true) (ht:PySem.W.takerIn K C name = some none) (hh:PySem.W.hasDictIn K C = true)
  (hw:PySem.Within mA ns) (hsz:ns.length≤sizeLine)
  (h:∀ h',ObjM h' x dx C (fun y=>if y = name then some v else mA y)→Heap.SameBut dx s.heap h'→Q () { s with heap:=h',toks:=s.toks + 2 }) :
  wpAny (model prog w) A (setAttr (.ref x) name v) Q E s:=by
 obtain ⟨od,J,hl⟩:=I.look
 refine PySem.W.set_plain X J hs (PySem.W.osa_open (s:={ s with toks:=s.toks + 1 }) (r:=none) X J hp ht fun b=>?_)
 obtain ⟨cd,hc,hd'⟩:=PySem.W.any_some hh
 have hx:s.heap.get? x = some ⟨.ref C,some dx,.plain,#[]⟩:=I.obj
 refine wpAny_bind (wpAny_pure (wpAny_bind (wpAny_bind (wpAny_loadPart hx (wpAny_bind (PySem.W.Looks.here (s:={ s with toks:=s.toks + 1 }) (PySem.W.looks_clsIn X hc) ?_))))))
 rw [hd']
 refine wpAny_pure (a:=some dx) (wpAny_bind (wpAny_pure (wpAny_bind ?_)))
 refine wpAny_nsSet1 (s:={ s with toks:=s.toks + 1 }) I.ns fun h' hn2 hs2=>?_
 obtain ⟨oD,esD,epD,hoD,hdD,hcD⟩:=hn2.count (PySem.Within.cons name v hw)
 refine wpAny_bind (wpAny_lookBehind hoD (by rw [hdD]; exact pastItsLine_dict (Nat.le_trans hcD (by rw [List.length_cons]; omega))) ?_)
 exact wpAny_pure (h _ ⟨(hs2.2 _ (Ne.symm I.ne)).trans I.obj,hn2,I.ne⟩ hs2)
theorem make_map {R:Result→Shared→Prop} {vs:List Value} {kw:List (Str × Value)} (X:K.In s.heap) (hm:PySem.W.makesIn K C = true)
  (hi:PySem.W.findIn K (.ref C) "__init__" = some (some (.ref f))) (hf:PySem.W.typeIn K (.ref f) = some (.type "function"))
  (h:codeAny (model prog w) (A.under (.builtin "type.__call__" ⟨.ref C :: vs,kw⟩)) (.call (.ref f) ⟨.ref (s.heap.objs.size + 1) :: vs,kw⟩) (PySem.W.InitBack (s.heap.objs.size + 1) R)
   { s with heap:=(s.heap.push PySem.W.emptyDict).push (PySem.W.instObj C s.heap.objs.size) }) :
  codeAny (model prog w) A (.call (.ref C) ⟨vs,kw⟩) R s:=by
 obtain ⟨hh,g,d,t,os⟩:=s
 exact PySem.W.make_core (PySem.W.makes_of X hm) (PySem.W.looks_findIn X hi) (fun self=>PySem.W.bind_fn X self hf) (.inl rfl) h
end
def putF (f:Str) (v:V):List (Str × V)→List (Str × V)
 | []=>[(f,v)]
 | (g,x) :: r=>if g = f then (g,v) :: r else (g,x) :: putF f v r
theorem lookup_putF (f g:Str) (v:V):∀ fs:List (Str × V),(putF f v fs).lookup g = if g = f then some v else fs.lookup g
 | []=>by
   show List.lookup g [(f,v)] = _
   by_cases h:g = f
   · have hb:(g == f) = true:=beq_iff_eq.mpr h
     simp only [List.lookup,hb,if_pos h]
   · have hb:(g == f) = false:=beq_eq_false_iff_ne.mpr h
     simp only [List.lookup,hb,if_neg h]
 | (k,x) :: r=>by
   have ih:=lookup_putF f g v r
   rw [show putF f v ((k,x) :: r) = (if k = f then (k,v) :: r else (k,x) :: putF f v r) from rfl]
   by_cases hk:k = f
   · rw [if_pos hk]
     by_cases h:g = k
     · have hb:(g == k) = true:=beq_iff_eq.mpr h
       simp only [List.lookup,hb,if_pos (h.trans hk)]
     · have hb:(g == k) = false:=beq_eq_false_iff_ne.mpr h
       simp only [List.lookup,hb,if_neg (fun e:g = f=>h (e.trans hk.symm))]
   · rw [if_neg hk]
     by_cases h:g = k
     · have hb:(g == k) = true:=beq_iff_eq.mpr h
       simp only [List.lookup,hb,if_neg (fun e:g = f=>hk (h.symm.trans e))]
     · have hb:(g == k) = false:=beq_eq_false_iff_ne.mpr h
       simp only [List.lookup,hb]
       exact ih
theorem keys_putF (f:Str) (v:V):∀ fs:List (Str × V),f∈(putF f v fs).map (·.1)∧∀ g,g∈fs.map (·.1)→g∈(putF f v fs).map (·.1)
 | []=>⟨by simp [putF],fun g h=>by simp at h⟩
 | (k,x) :: r=>by
   obtain ⟨i1,i2⟩:=keys_putF f v r
   rw [show putF f v ((k,x) :: r) = (if k = f then (k,v) :: r else (k,x) :: putF f v r) from rfl]
   by_cases hk:k = f
   · rw [if_pos hk]
     subst hk
     exact ⟨by simp,fun g h=>by simpa using h⟩
   · rw [if_neg hk]
     refine ⟨?_,fun g h=>?_⟩
     · rw [List.map_cons]
       exact List.mem_cons_of_mem _ i1
     · rw [List.map_cons] at h ⊢
       rcases List.mem_cons.mp h with e | e
       · exact List.mem_cons.mpr (.inl e)
       · exact List.mem_cons_of_mem _ (i2 g e)
theorem length_putF (f:Str) (v:V):∀ fs:List (Str × V),(putF f v fs).length≤fs.length + 1
 | []=>by simp [putF]
 | (k,x) :: r=>by
   have ih:=length_putF f v r
   rw [show putF f v ((k,x) :: r) = (if k = f then (k,v) :: r else (k,x) :: putF f v r) from rfl]
   by_cases hk:k = f
   · rw [if_pos hk,List.length_cons,List.length_cons]; omega
   · rw [if_neg hk,List.length_cons,List.length_cons]; omega
theorem RelO.some_of {v:V} {o:Option Value} (r:RelO (some v) o):∃ u,o = some u∧RelV v u:=by
 cases o with
 | none=>exact (show False from r).elim
 | some u=>exact ⟨u,rfl,r⟩
theorem RelO.none_of {o:Option Value} (r:RelO none o):o = none:=by
 cases o with
 | none=>rfl
 | some u=>exact (show False from r).elim
theorem handed_of {v:V} {u:Value} (r:RelV v u):PySem.W.handedIn u = true:=by
 cases v with
 | non=>cases (show u = Value.none from r); rfl
 | bl b=>cases (show u = Value.bool b from r); rfl
 | int i=>obtain ⟨t,e⟩:=(show ∃ t,u = Value.int i t from r); cases e; rfl
 | str x=>obtain ⟨t,e⟩:=(show ∃ t,u = Value.str x t from r); cases e; rfl
 | byt b=>obtain ⟨t,e⟩:=(show ∃ t,u = Value.bytes b t from r); cases e; rfl
 | flt b=>obtain ⟨t,e⟩:=(show ∃ t,u = Value.float b t from r); cases e; rfl
 | ref a=>cases (show u = Value.ref a from r); rfl
 | ty n=>cases (show u = Value.type n from r); rfl
section
variable {P:Program} {w:World} {H H':Hp} {h h':Heap} {a C dx:Addr} {fs fs':List (Str × V)}
theorem ins_get (hok:HOk P w H h) (e:H a = some (.ins C dx fs)):∃ mA,ObjM h a dx C mA∧(∀ f,RelO (fs.lookup f) (mA f))∧PySem.Within mA (fs.map (·.1))∧fs.length≤1000∧H dx = some (.own a):=by
 obtain ⟨d,z,ne,ob,mA,n,r,q⟩:=(show ObjOk P w H h a (.ins C dx fs) from hok a _ e)
 exact ⟨mA,⟨ob,n,ne⟩,r,q,z,d⟩
end
structure Cls (K:PySem.W.Frag) (C:Addr):Prop where
 pg:PySem.W.plainGet K C Str.empty = true
 hd:PySem.W.hasDictIn K C = true
 po:PySem.W.plainOver K C = true
 sa:PySem.W.findIn K (.ref C) "__setattr__" = some (some (.builtin "object.__setattr__"))
theorem Cls.get {K:PySem.W.Frag} {C:Addr} (c:Cls K C) (f:Str):PySem.W.plainGet K C f = true:=c.pg
def NoAttr (K:PySem.W.Frag) (C:Addr) (f:Str):Prop:=PySem.W.findIn K (.ref C) f = some none
theorem NoAttr.taker {K:PySem.W.Frag} {C:Addr} {f:Str} (n:NoAttr K C f):PySem.W.takerIn K C f = some none:=by
 unfold PySem.W.takerIn
 rw [show PySem.W.findIn K (.ref C) f = some none from n]
 rfl
structure Meth (K:PySem.W.Frag) (C:Addr) (m:Str) (f:Addr):Prop where
 at_:PySem.W.findIn K (.ref C) m = some (some (.ref f))
 fn:PySem.W.isFn K (.ref f) = true
 kp:PySem.W.keepIn K (.ref f) = true
section
variable {X:Cx} {pins:List (Addr × Obj)} {σ:St} {H:Hp} {s:Shared} {a C dx:Addr} {fs:List (Str × V)} {f:Str} {v:V} {A:Around} {E:Value→Shared→Prop}
theorem getattr_ok {b:Bool} {Q:Value→Shared→Prop} (I:Inv X pins σ H s) (e:H a = some (.ins C dx fs)) (c:Cls X.K C) (n:NoAttr X.K C f) (l:fs.lookup f = some v)
  (h:∀ u s',Inv X pins σ H s'→RelV v u→Q u s'):wpAny (model X.prog X.w) A (getAttr (.ref a) f b) Q E s:=by
 obtain ⟨mA,O,r,_,_,_⟩:=ins_get I.hok e
 obtain ⟨u,hu,ru⟩:=RelO.some_of (v:=v) (o:=mA f) (by rw [← l]; exact r f)
 exact get_map I.kIn O (c.get f) c.hd n hu (handed_of ru) (h u _ (I.tok _) ru)
theorem getmeth_ok {m:Str} {g:Addr} {pl:Sem Bool} {Q:Value × List Value→Shared→Prop} (I:Inv X pins σ H s) (e:H a = some (.ins C dx fs)) (c:Cls X.K C) (k:Meth X.K C m g) (l:fs.lookup m = none)
  (h:Q (.ref g,[.ref a]) s):wpAny (model X.prog X.w) A (getMethod (.ref a) m pl) Q E s:=by
 obtain ⟨mA,O,r,_,_,_⟩:=ins_get I.hok e
 have hn:mA m = none:=RelO.none_of (by rw [← l]; exact r m)
 exact get_meth I.kIn O (c.get m) k.at_ k.fn hn h
theorem setattr_ok {y:V} {u:Value} {Q:Unit→Shared→Prop} (I:Inv X pins σ H s) (e:H a = some (.ins C dx fs)) (c:Cls X.K C) (n:NoAttr X.K C f) (hl:fs.length < 1000) (ry:RelV y u)
  (h:∀ s',Inv X pins σ (upd H a (.ins C dx (putF f y fs))) s'→Q () s'):wpAny (model X.prog X.w) A (setAttr (.ref a) f u) Q E s:=by
 obtain ⟨mA,O,r,wi,_,ho⟩:=ins_get I.hok e
 have hz:(fs.map (·.1)).length≤sizeLine:=by rw [List.length_map,sizeLine_eq]; omega
 refine set_map I.kIn O c.sa c.po n.taker c.hd wi hz fun h' O' sb=>h _ ?_
 have hd:∃ o,h'.get? dx = some o:=let ⟨o,_,_,e',_⟩:=O'.ns; ⟨o,e'⟩
 refine I.write (x:=a) (e:=dx) (by rw [e]; exact True.intro) (.inr ho) (fun b q hb z=>(sb.2 b hb).trans z) hd ?_
 refine ⟨by rw [upd_ne O.ne]; exact ho,?_,O.ne,O'.obj,_,O'.ns,fun g=>?_,fun g hg=>?_⟩
 · have:=length_putF f y fs; omega
 · show RelO ((putF f y fs).lookup g) (if g = f then some u else mA g)
   rw [lookup_putF]
   by_cases q:g = f
   · rw [if_pos q,if_pos q]; exact ry
   · rw [if_neg q,if_neg q]; exact r g
 · by_cases q:g = f
   · rw [q]; exact (keys_putF f y fs).1
   · refine (keys_putF f y fs).2 g (wi g fun z=>hg ?_)
     show (if g = f then some u else mA g) = none
     rw [if_neg q]; exact z
theorem Inv.made (I:Inv X pins σ H s):Inv X pins σ (upd (upd H s.heap.objs.size (.own (s.heap.objs.size + 1))) (s.heap.objs.size + 1) (.ins C s.heap.objs.size []))
  { s with heap:=(s.heap.push PySem.W.emptyDict).push (PySem.W.instObj C s.heap.objs.size) }:=by
 have e1:(s.heap.push PySem.W.emptyDict).get? s.heap.objs.size = some PySem.W.emptyDict:=Heap.get?_push_size s.heap rfl
 have e2:((s.heap.push PySem.W.emptyDict).push (PySem.W.instObj C s.heap.objs.size)).get? (s.heap.objs.size + 1) = some (PySem.W.instObj C s.heap.objs.size):=by
  have:=Heap.get?_push_size (s.heap.push PySem.W.emptyDict) (o:=PySem.W.instObj C s.heap.objs.size) rfl
  rwa [Heap.size_push] at this
 have e3:(s.heap.push PySem.W.emptyDict).Ns s.heap.objs.size (fun _=>none):=⟨PySem.W.emptyDict,#[],_,e1,rfl,(fun e he=>absurd he (by simp)),fun _=>rfl⟩
 have I1:=I.laid (a:=s.heap.objs.size) (o:=.own (s.heap.objs.size + 1)) (h':=s.heap.push PySem.W.emptyDict) (t':=s.toks) (fun b u q=>Heap.get?_push_of_some _ q) (Nat.le_refl _) ⟨_,e1⟩
 refine I1.laid (a:=s.heap.objs.size + 1) (o:=.ins C s.heap.objs.size []) (t':=s.toks) (fun b u q=>Heap.get?_push_of_some _ q) (Nat.le_of_eq (Heap.size_push _ _)) ?_
 have ne:s.heap.objs.size≠s.heap.objs.size + 1:=Nat.ne_of_lt (Nat.lt_succ_self _)
 refine ⟨by rw [upd_ne ne,upd_same],Nat.zero_le _,ne,e2,fun _=>none,(Heap.Ns1.of_empty e3).at fun o q=>Heap.get?_push_of_some _ q,fun _=>True.intro,fun y hy=>absurd rfl hy⟩
theorem attr_of {prog:Program} {w:World} {env:Env} {e:Expr} {f:Str} {pos:Pos} {s:Shared} {Q:Value→Shared→Prop} (hb:attributeBase e f env (eval e env) = eval e env)
  (h:wpAny (model prog w) A (eval e env) (fun o s₁=>wpAny (model prog w) A (getAttr o f true) Q E s₁) E s):wpAny (model prog w) A (eval (.Attribute e f pos) env) Q E s :=
 Attribute_any_ h (by rw [arm_eval_Attribute,hb])
end
def tFld (K:PySem.W.Frag) (ta:TE) (f:Str):TE:=fun σ H Q=>ta σ H fun x H1=>∃ a C dx fs v,x = .ref a∧H1 a = some (.ins C dx fs)∧Cls K C∧NoAttr K C f∧fs.lookup f = some v∧Q v H1
def sFld (K:PySem.W.Frag) (ta tv:TE) (f:Str):TS:=fun D σ H=>tv σ H fun y H1=>ta σ H1 fun x H2=>∃ a C dx fs,x = .ref a∧H2 a = some (.ins C dx fs)∧Cls K C∧NoAttr K C f∧fs.length < 1000 ∧
 D.nx σ (upd H2 a (.ins C dx (putF f y fs)))
section
variable {X:Cx} {o e value:Expr} {f:Str} {pos pos' tpos:Pos} {ta tv:TE}
theorem pe_fld (he:PE X e ta) (hb:attributeBase e f X.env (eval e X.env) = eval e X.env):PE X (.Attribute e f pos) (tFld X.K ta f):=by
 intro pins s σ H Q I h
 refine attr_of hb (thn (he pins s σ H _ I h) fun u s1 ⟨x,H1,I1,rx,a,C,dx,fs,v,ex,ea,c,n,l,q⟩=>?_)
 subst ex
 obtain rfl:u = Value.ref a:=rx
 exact getattr_ok I1 ea c n l fun u' s2 I2 ru=>⟨v,H1,I2,ru,q⟩
theorem ps_fld (ha:PE X o ta) (hv:PE X value tv) (hs:swapsWith value (some (.Attribute o f pos')) pos.line X.env = pure false):PS X (.Assign [.Attribute o f pos'] value pos) (sFld X.K ta tv f):=by
 intro pins s σ H D I h
 refine plainObj_wpAny_Assign_Attribute (thn (hv pins s σ H _ I h) fun u s1 ⟨y,H1,I1,ry,q⟩=>thn (ha pins s1 σ H1 _ I1 q) fun ov s2 ⟨x,H2,I2,rx,a,C,dx,fs,ex,ea,c,n,l,q2⟩=>?_) hs
 subst ex
 obtain rfl:ov = Value.ref a:=rx
 exact setattr_ok I2 ea c n l ry fun s3 I3=>⟨σ,_,I3,q2⟩
theorem methcall_of {pl:Sem Bool} {m:Str} {apos:Pos} {args:List Expr} {pins:List (Addr × Obj)} {s:Shared} {σ:St} {H:Hp} {Q:Value→Shared→Prop} {te:TE} (he:PE X e te) (I:Inv X pins σ H s)
  (h:te σ H fun x H1=>∃ a C dx fs g,x = .ref a∧H1 a = some (.ins C dx fs)∧Cls X.K C∧Meth X.K C m g∧fs.lookup m = none ∧
   ∀ s1,Inv X pins σ H1 s1→wpAny (model X.prog X.w) X.A (callWith pos (.ref g) [.ref a] (backTo pos (starEach args X.env)) (backToKw pos (keywordEach [] X.env))) Q X.xe s1)
  (ht:eval (.Call (.Attribute e m apos) args [] pos) X.env = (do
   let ov ← eval e X.env
   standAt apos.atName
   let (f,first) ← holding [ov] (getMethod ov m pl)
   callWith pos f first (backTo pos (starEach args X.env)) (backToKw pos (keywordEach [] X.env)))) :
  wpAny (model X.prog X.w) X.A (eval (.Call (.Attribute e m apos) args [] pos) X.env) Q X.xe s:=by
 refine PySem.W.methodCall_KW (pl:=pl) (thn (he pins s σ H _ I h) fun u s1 ⟨x,H1,I1,rx,a,C,dx,fs,g,ex,ea,c,k,l,q⟩=>?_) ht
 subst ex
 obtain rfl:u = Value.ref a:=rx
 exact getmeth_ok I1 ea c k l (q s1 I1)
end
end L2
namespace L2
open PySem PySem.Spec PyProof.Rows
structure Room (k:Nat) (A:Around):Prop where
 hd:A.handled = none
 dp:A.depth + 3 * k + 5 < recursionLimit
 un:A.units + 16 * k + 200 < cLine
theorem Room.mono {j k:Nat} {A:Around} (r:Room k A) (h:j≤k):Room j A:=⟨r.hd,by have:=r.dp; omega,by have:=r.un; omega⟩
theorem Room.deeper {k:Nat} {A:Around} (r:Room (k + 1) A) (env:Env):Room k (A.deeper env) :=
 ⟨r.hd,by have:=r.dp; show A.depth + 1 + 3 * k + 5 < _; omega,by have:=r.un; show A.units + 3 + 16 * k + 200 < _; omega⟩
theorem Room.in1 {k:Nat} {A:Around} (r:Room (k + 1) A):Room k A.in1 :=
 ⟨r.hd,by have:=r.dp; show A.depth + 3 * k + 5 < _; omega,by have:=r.un; show A.units + 1 + 16 * k + 200 < _; omega⟩
theorem make_depth {A:Around} {C:Addr} {us:List Value} {kw:List (Str × Value)}:(A.under (.builtin "type.__call__" ⟨.ref C :: us,kw⟩)).depth = A.depth + 1:=by
 first | rfl | simp [Around.under,Code.weight,Code.isCreation,Code.isGuard,Code.isCaller,Code.frames,Code.isFrame,guardIds]
theorem make_units {A:Around} {C:Addr} {us:List Value} {kw:List (Str × Value)}:(A.under (.builtin "type.__call__" ⟨.ref C :: us,kw⟩)).units = A.units + 1:=by
 first | rfl | simp [Around.under,Code.cUnits,Code.frames,Code.isFrame]
theorem Room.make {k:Nat} {A:Around} (r:Room (k + 1) A) (C:Addr) (us:List Value) (kw:List (Str × Value)):Room k (A.under (.builtin "type.__call__" ⟨.ref C :: us,kw⟩)) :=
 ⟨r.hd,by have:=r.dp; rw [make_depth]; omega,by have:=r.un; rw [make_units]; omega⟩
theorem Room.depth {k:Nat} {A:Around} (r:Room k A):A.depth < recursionLimit:=by have:=r.dp; omega
theorem Room.units {k:Nat} {A:Around} (r:Room k A):A.units + 64 < cLine:=by have:=r.un; omega
def tNil:TA:=fun _ H Q=>Q [] H
def tCons (ta:TE) (tr:TA):TA:=fun σ H Q=>ta σ H fun x H1=>tr σ H1 fun xs H2=>Q (x :: xs) H2
section
variable {X:Cx} {e:Expr} {es:List Expr} {te:TE} {t:TA} {pos:Pos}
theorem pa_nil:PA X [] tNil:=fun _ _ _ _ H Q I h=>Calls.spliced_nil ⟨[],H,I,.nil,h⟩
theorem pa_cons (ha:PE X e te) (hr:PA X es t) (hs:starEach (e :: es) X.env = (false,eval e X.env) :: starEach es X.env:=by rfl):PA X (e :: es) (tCons te t):=by
 intro pos pins s σ H Q I h
 rw [hs]
 show wpAny _ _ (spliced ((false,eval e X.env) :: backTo pos (starEach es X.env))) _ _ s
 refine Calls.spliced_cons (thn (ha pins s σ H _ I h) fun u s1 ⟨x,H1,I1,r1,q1⟩=>?_)
 exact thn (hr pos pins s1 σ H1 _ I1 q1) fun us s2 ⟨xs,H2,I2,r2,q2⟩=>⟨x :: xs,H2,I2,.cons r1 r2,q2⟩
def tTup (t:TA):TE:=fun σ H Q=>t σ H fun xs H1=>xs.length≤sizeLine∧∀ p,H1 p = none→Q (.ref p) (upd H1 p (.tup xs))
def tLst (t:TA):TE:=fun σ H Q=>t σ H fun xs H1=>xs.length≤sizeLine∧∀ p,H1 p = none→Q (.ref p) (upd H1 p (.lst xs))
theorem pe_tup {x1} (h:PA X es t):PE X (.Tuple es x1 pos) (tTup t):=by
 intro pins s σ H Q I hq
 refine wpAny_Tuple_spliced (thn (h pos pins s σ H _ I hq) fun us s1 ⟨xs,H1,I1,r,z,q⟩=>⟨by rw [← r.length]; exact z,?_⟩)
 have hf:H1 s1.heap.objs.size = none:=I1.hok.fresh (Nat.le_refl _)
 refine ⟨.ref s1.heap.objs.size,upd H1 s1.heap.objs.size (.tup xs),I1.laid (t':=s1.toks) (fun b u e=>Heap.get?_push_of_some _ e) (Nat.le_refl _) ?_,rfl,q _ hf⟩
 exact ⟨z,us,r,⟨_,Heap.get?_push_size _ rfl,rfl,_,rfl⟩⟩
theorem pe_lst (h:PA X es t):PE X (.List es pos) (tLst t):=by
 intro pins s σ H Q I hq
 refine wpAny_List_spliced (thn (h pos pins s σ H _ I hq) fun us s1 ⟨xs,H1,I1,r,z,q⟩=>⟨by rw [← r.length]; exact z,?_⟩)
 have hf:H1 s1.heap.objs.size = none:=I1.hok.fresh (Nat.le_refl _)
 refine ⟨.ref s1.heap.objs.size,upd H1 s1.heap.objs.size (.lst xs),I1.laid (t':=s1.toks) (fun b u e=>Heap.get?_push_of_some _ e) (Nat.le_refl _) ?_,rfl,q _ hf⟩
 exact ⟨z,us,0,r,Heap.get?_push_size _ rfl⟩
end
abbrev Sp:=List V→Hp→VK→XK→Prop
abbrev CXT:=List Env→Hp→Shared→XK→Value→Shared→Prop
structure Env0 (P:Program) (w:World) (K:PySem.W.Frag) (mg:Str→Option Value) (base:Heap) (A:Around) (outer:List Env) (s:Shared) (H:Hp):Prop where
 frames:A.frames = some outer
 mod:Mod K mg base
 bs:∀ b o,base.get? b = some o→s.heap.get? b = some o∧H b = none
 bsz:base.objs.size≤s.heap.objs.size
 funs:s.heap.FunFrames base outer
 frf:∀ b∈frs outer,H b = none
 hok:HOk P w H s.heap
 bare:AllBare s.gens
def CE (outer:List Env) (P:Program) (w:World) (H:Hp) (s:Shared) (Q:VK) (u:Value) (s':Shared):Prop :=
 ∃ v H',s'.os = s.os∧AllBare s'.gens∧Un (frs outer) [] H H' s.heap s'.heap∧HOk P w H' s'.heap∧RelV v u∧Q v H'
def CR (CX:CXT) (outer:List Env) (P:Program) (w:World) (H:Hp) (s:Shared) (Q:VK) (E:XK) (r:Result) (s':Shared):Prop :=
 match r with
 | .ok (.ret u)=>CE outer P w H s Q u s'
 | .ok _=>False
 | .error e=>CX outer H s E e s'
structure FnOk (P:Program) (w:World) (K:PySem.W.Frag) (mg:Str→Option Value) (base:Heap) (CX:CXT) (k:Nat) (f:Addr) (fd:FuncData) (ps:List Str) (sp:Sp):Prop where
 len:∀ vs H Q E,sp vs H Q E→vs.length = ps.length
 run:∀ (A:Around) (outer:List Env) (s:Shared) (H:Hp) (args:Args) (us:List Value) (vs:List V) (Q:VK) (E:XK),Room k A→Env0 P w K mg base A outer s H→BindsTo s fd args (ps.zip us)→Vals vs us→sp vs H Q E →
  codeAny (model P w) A (.call (.ref f) args) (CR CX outer P w H s Q E) s
theorem Env0.make {P:Program} {w:World} {K:PySem.W.Frag} {mg:Str→Option Value} {base:Heap} {A:Around} {outer:List Env} {s:Shared} {H:Hp} (e:Env0 P w K mg base A outer s H) (C:Addr) (us:List Value) (kw:List (Str × Value)) :
  Env0 P w K mg base (A.under (.builtin "type.__call__" ⟨.ref C :: us,kw⟩)) outer s H:=⟨by first | exact e.frames | (simpa [Around.under,Code.envs,Code.isFrame,pushEnvs] using e.frames),e.mod,e.bs,e.bsz,e.funs,e.frf,e.hok,e.bare⟩
theorem Env0.in1 {P:Program} {w:World} {K:PySem.W.Frag} {mg:Str→Option Value} {base:Heap} {A:Around} {outer:List Env} {s:Shared} {H:Hp} (e:Env0 P w K mg base A outer s H) :
  Env0 P w K mg base A.in1 outer s H:=⟨e.frames,e.mod,e.bs,e.bsz,e.funs,e.frf,e.hok,e.bare⟩
section
variable {X:Cx} {pins:List (Addr × Obj)} {σ:St} {H:Hp} {s s':Shared}
theorem Inv.env0 (I:Inv X pins σ H s):Env0 X.prog X.w X.K X.mg X.base X.A X.stack s H :=
 ⟨I.ok.frames,I.ok.mod,I.bs,Nat.le_trans I.ok.bsz I.sz,I.stack,I.stkFree,I.hok,I.bare⟩
theorem Inv.after {Q:VK} {u:Value} (I:Inv X pins σ H s) (h:CE X.stack X.prog X.w H s Q u s'):EP X pins σ Q u s':=by
 obtain ⟨v,H',os,bare,un,hok,r,q⟩:=h
 obtain ⟨hh,g,d,t,os'⟩:=s'
 obtain rfl:os' = s.os:=os
 exact ⟨v,H',I.call (h':=hh) (g':=g) (d':=d) (t':=t) (ch:=[]) un hok bare (fun b z=>absurd z (by simp)),r,q⟩
end
def tCall (sp:Sp) (dvs:List V) (E:XK) (t:TA):TE:=fun σ H Q=>t σ H fun vs H1=>sp (vs ++ dvs) H1 Q E
def tMeth (C:Addr) (m:Str) (sp:Sp) (dvs:List V) (E:XK) (ta:TE) (t:TA):TE:=fun σ H Q=>ta σ H fun x H1=>∃ a dx fs,x = .ref a∧H1 a = some (.ins C dx fs)∧fs.lookup m = none ∧
 t σ H1 fun vs H2=>sp (x :: (vs ++ dvs)) H2 Q E
def tMake (C:Addr) (sp:Sp) (dvs:List V) (E:XK) (t:TA):TE:=fun σ H Q=>t σ H fun vs H1=>∀ x dx,H1 x = none→H1 dx = none→dx≠x →
 sp (.ref x :: (vs ++ dvs)) (upd (upd H1 dx (.own x)) x (.ins C dx [])) (fun v H2=>v = .non∧Q (.ref x) H2) E
def Binds (K:PySem.W.Frag) (fd:FuncData) (ps:List Str) (ds:List Value):Prop :=
 ∀ (s:Shared) (us:List Value),K.In s.heap→(us ++ ds).length = ps.length→BindsTo s fd ⟨us,[]⟩ (ps.zip (us ++ ds))
theorem Binds.all {K:PySem.W.Frag} {fd:FuncData} {ps:List Str} (h:∀ us:List Value,us.length = ps.length→bindArgs fd ⟨us,[]⟩ = pure (ps.zip us)):Binds K fd ps []:=fun s us _ hl=>by
 rw [List.append_nil] at hl ⊢
 exact .of_eq (h us hl)
def Passes (CX:CXT) (X:Cx) (E:XK):Prop:=∀ (pins:List (Addr × Obj)) (σ:St) (H:Hp) (s:Shared) (e:Value) (s':Shared),Inv X pins σ H s→CX X.stack H s E e s'→X.xe e s'
section
variable {X:Cx} {CX:CXT} {k:Nat} {f C:Addr} {fd:FuncData} {ps:List Str} {sp:Sp} {dvs:List V} {ds:List Value} {E:XK} {x m:Str} {p pos apos:Pos} {e o:Expr} {es:List Expr} {ta:TE} {t:TA}
theorem run_fn {pins:List (Addr × Obj)} {σ:St} {H:Hp} {s:Shared} {Q:VK} {us:List Value} {vs:List V} (F:FnOk X.prog X.w X.K X.mg X.base CX k f fd ps sp) (hr:Room k X.A) (hb:Binds X.K fd ps ds) (hd:Vals dvs ds) (hx:Passes CX X E)
  (I:Inv X pins σ H s) (r:Vals vs us) (h:sp (vs ++ dvs) H Q E):wpAny (model X.prog X.w) X.A (call (.ref f) us) (EP X pins σ Q) X.xe s:=by
 have r2:Vals (vs ++ dvs) (us ++ ds):=r.append hd
 have hl:(us ++ ds).length = ps.length:=by rw [← r2.length]; exact F.len _ _ _ _ h
 refine wpAny_call (codeAny_mono (F.run X.A X.stack s H ⟨us,[]⟩ (us ++ ds) (vs ++ dvs) Q E hr I.env0 (hb s us I.kIn hl) r2 h) fun r s' hq=>?_)
 cases r with
 | error e=>exact hx pins σ H s e s' I hq
 | ok fl =>
   cases fl with
   | ret u=>exact I.after hq
   | next=>exact False.elim hq
   | brk=>exact False.elim hq
   | cont=>exact False.elim hq
theorem pe_call (F:FnOk X.prog X.w X.K X.mg X.base CX k f fd ps sp) (hr:Room k X.A) (hg:Gl X x) (hm:X.mg x = some (.ref f)) (hk:PySem.W.keepIn X.K (.ref f) = true) (hb:Binds X.K fd ps ds) (hd:Vals dvs ds) (hx:Passes CX X E)
  (ha:PA X (e :: es) t) (hdb:(x == ("__debug__":Str)) = false:=by decide) (he:starEach (e :: es) X.env = (false,eval e X.env) :: starEach es X.env:=by rfl) (hpl:(backTo pos (starEach es X.env)).any (·.1) = false:=by rfl) :
  PE X (.Call (.Name x p) (e :: es) [] pos) (tCall sp dvs E t):=by
 intro pins s σ H Q I h
 refine wpAny_Call_Name_kw (ld_glob I hg hm ?_ hdb)
 refine PySem.W.callWith_K (h₀:=X.base) I.ok.mod.kin hk (thn (ha pos pins s σ H _ I h) fun us s1 ⟨vs,H1,I1,r,q⟩=>⟨I1.kIn,?_⟩) he hpl
 exact run_fn F hr hb hd hx I1 r q
theorem pe_call0 (F:FnOk X.prog X.w X.K X.mg X.base CX k f fd ps sp) (hr:Room k X.A) (hg:Gl X x) (hm:X.mg x = some (.ref f)) (hk:PySem.W.keepIn X.K (.ref f) = true) (hb:Binds X.K fd ps ds) (hd:Vals dvs ds) (hx:Passes CX X E)
  (hdb:(x == ("__debug__":Str)) = false:=by decide):PE X (.Call (.Name x p) [] [] pos) (tCall sp dvs E tNil):=by
 intro pins s σ H Q I h
 refine wpAny_Call_Name_kw (ld_glob I hg hm ?_ hdb)
 exact PySem.W.callWith_K0 I.kIn hk (run_fn (us:=[]) F hr hb hd hx I .nil h)
theorem pe_meth {pl:Sem Bool} (he:PE X o ta) (c:Cls X.K C) (hm:Meth X.K C m f) (F:FnOk X.prog X.w X.K X.mg X.base CX k f fd ps sp) (hr:Room k X.A) (hb:Binds X.K fd ps ds) (hd:Vals dvs ds) (hx:Passes CX X E) (ha:PA X (e :: es) t)
  (hst:starEach (e :: es) X.env = (false,eval e X.env) :: starEach es X.env:=by rfl) (hpl:(backTo pos (starEach es X.env)).any (·.1) = false:=by rfl)
  (ht:eval (.Call (.Attribute o m apos) (e :: es) [] pos) X.env = (do
   let ov ← eval o X.env
   standAt apos.atName
   let (f,first) ← holding [ov] (getMethod ov m pl)
   callWith pos f first (backTo pos (starEach (e :: es) X.env)) (backToKw pos (keywordEach [] X.env))):=by rfl) :
  PE X (.Call (.Attribute o m apos) (e :: es) [] pos) (tMeth C m sp dvs E ta t):=by
 intro pins s σ H Q I h
 refine PySem.W.methodCall_KW (pl:=pl) (thn (he pins s σ H _ I h) fun u s1 ⟨x,H1,I1,rx,a,dx,fs,ex,ea,l,q⟩=>?_) ht
 subst ex
 obtain rfl:u = Value.ref a:=rx
 refine getmeth_ok I1 ea c hm l ?_
 refine PySem.W.callWith_K (first:=[.ref a]) (h₀:=X.base) I.ok.mod.kin hm.kp (thn (ha pos pins s1 σ H1 _ I1 q) fun us s2 ⟨vs,H2,I2,r,q2⟩=>⟨I2.kIn,?_⟩) hst hpl
 exact run_fn (us:=.ref a :: us) (vs:=.ref a :: vs) F hr hb hd hx I2 (.cons rfl r) q2
theorem pe_meth0 {pl:Sem Bool} (he:PE X o ta) (c:Cls X.K C) (hm:Meth X.K C m f) (F:FnOk X.prog X.w X.K X.mg X.base CX k f fd ps sp) (hr:Room k X.A) (hb:Binds X.K fd ps ds) (hd:Vals dvs ds) (hx:Passes CX X E)
  (ht:eval (.Call (.Attribute o m apos) [] [] pos) X.env = (do
   let ov ← eval o X.env
   standAt apos.atName
   let (f,first) ← holding [ov] (getMethod ov m pl)
   callWith pos f first (backTo pos (starEach [] X.env)) (backToKw pos (keywordEach [] X.env))):=by rfl) :
  PE X (.Call (.Attribute o m apos) [] [] pos) (tMeth C m sp dvs E ta tNil):=by
 intro pins s σ H Q I h
 refine PySem.W.methodCall_KW (pl:=pl) (thn (he pins s σ H _ I h) fun u s1 ⟨x,H1,I1,rx,a,dx,fs,ex,ea,l,q⟩=>?_) ht
 subst ex
 obtain rfl:u = Value.ref a:=rx
 refine getmeth_ok I1 ea c hm l ?_
 exact PySem.W.callWith_K0 (first:=[.ref a]) I1.kIn hm.kp (run_fn (us:=[.ref a]) (vs:=[.ref a]) F hr hb hd hx I1 (.cons rfl .nil) q)
structure Mk (K:PySem.W.Frag) (C f:Addr):Prop where
 makes:PySem.W.makesIn K C = true
 init:PySem.W.findIn K (.ref C) "__init__" = some (some (.ref f))
 fn:PySem.W.isFn K (.ref f) = true
 kp:PySem.W.keepIn K (.ref C) = true
theorem run_make {pins:List (Addr × Obj)} {σ:St} {H:Hp} {s:Shared} {Q:VK} {us:List Value} {vs:List V} (M:Mk X.K C f) (F:FnOk X.prog X.w X.K X.mg X.base CX k f fd ps sp) (hr:Room (k + 1) X.A) (hb:Binds X.K fd ps ds) (hd:Vals dvs ds)
  (hx:Passes CX X E) (I:Inv X pins σ H s) (r:Vals vs us)
  (h:∀ x dx,H x = none→H dx = none→dx≠x→sp (.ref x :: (vs ++ dvs)) (upd (upd H dx (.own x)) x (.ins C dx [])) (fun v H2=>v = .non∧Q (.ref x) H2) E) :
  wpAny (model X.prog X.w) X.A (call (.ref C) us) (EP X pins σ Q) X.xe s:=by
 have hq:=h (s.heap.objs.size + 1) s.heap.objs.size (I.hok.fresh (Nat.le_succ _)) (I.hok.fresh (Nat.le_refl _)) (Nat.ne_of_lt (Nat.lt_succ_self _))
 have I2:=Inv.made (C:=C) I
 have r2:Vals (V.ref (s.heap.objs.size + 1) :: (vs ++ dvs)) (Value.ref (s.heap.objs.size + 1) :: (us ++ ds)):=.cons rfl (r.append hd)
 have hl:(Value.ref (s.heap.objs.size + 1) :: us ++ ds).length = ps.length:=by
  have e:=r2.length
  rw [F.len _ _ _ _ hq] at e
  exact e.symm
 refine wpAny_call (make_map (f:=f) I.kIn M.makes M.init (beq_iff_eq.mp M.fn) (codeAny_mono (F.run _ X.stack _ _ ⟨Value.ref (s.heap.objs.size + 1) :: us,[]⟩ (Value.ref (s.heap.objs.size + 1) :: (us ++ ds)) _ _ E (hr.make C us [])
  (I2.env0.make C us []) (hb _ (Value.ref (s.heap.objs.size + 1) :: us) I2.kIn hl) r2 hq) fun r s' hq'=>?_))
 cases r with
 | error e=>exact hx pins σ _ _ e s' I2 hq'
 | ok fl =>
   cases fl with
   | ret u =>
     obtain ⟨v,H',I3,rv,ev,q3⟩:=I2.after hq'
     subst ev
     exact ⟨rv,⟨V.ref (s.heap.objs.size + 1),H',I3,rfl,q3⟩⟩
   | next=>exact False.elim hq'
   | brk=>exact False.elim hq'
   | cont=>exact False.elim hq'
theorem pe_make (M:Mk X.K C f) (F:FnOk X.prog X.w X.K X.mg X.base CX k f fd ps sp) (hr:Room (k + 1) X.A) (hg:Gl X x) (hm:X.mg x = some (.ref C)) (hb:Binds X.K fd ps ds) (hd:Vals dvs ds) (hx:Passes CX X E)
  (ha:PA X (e :: es) t) (hdb:(x == ("__debug__":Str)) = false:=by decide) (he:starEach (e :: es) X.env = (false,eval e X.env) :: starEach es X.env:=by rfl) (hpl:(backTo pos (starEach es X.env)).any (·.1) = false:=by rfl) :
  PE X (.Call (.Name x p) (e :: es) [] pos) (tMake C sp dvs E t):=by
 intro pins s σ H Q I h
 refine wpAny_Call_Name_kw (ld_glob I hg hm ?_ hdb)
 refine PySem.W.callWith_K (h₀:=X.base) I.ok.mod.kin M.kp (thn (ha pos pins s σ H _ I h) fun us s1 ⟨vs,H1,I1,r,q⟩=>⟨I1.kIn,?_⟩) he hpl
 exact run_make M F hr hb hd hx I1 r q
theorem pe_make0 (M:Mk X.K C f) (F:FnOk X.prog X.w X.K X.mg X.base CX k f fd ps sp) (hr:Room (k + 1) X.A) (hg:Gl X x) (hm:X.mg x = some (.ref C)) (hb:Binds X.K fd ps ds) (hd:Vals dvs ds) (hx:Passes CX X E)
  (hdb:(x == ("__debug__":Str)) = false:=by decide):PE X (.Call (.Name x p) [] [] pos) (tMake C sp dvs E tNil):=by
 intro pins s σ H Q I h
 refine wpAny_Call_Name_kw (ld_glob I hg hm ?_ hdb)
 exact PySem.W.callWith_K0 I.kIn M.kp (run_make (us:=[]) M F hr hb hd hx I .nil h)
end
structure FnScope (N P:List Str) (sc:Scope):Prop where
 kind:sc.kind = .function
 co:sc.isCoroutine = false
 gen:sc.isGenerator = false
 nd:N.Nodup
 pre:N.take P.length = P
 par:∀ x∈P,sc.names.lookup x = some .local∨sc.names.lookup x = some .cell
 nofree:∀ y∈sc.names,y.2≠.free
theorem bindL_out {kindOf:Str→Option NameKind} {x:Str}:∀ {binds:List (Str × Value)} {m:Str→Option Value},(∀ v,(x,v) ∉ binds)→bindL kindOf binds m x = m x
 | [],_,_=>rfl
 | (n,v) :: r,m,h=>by
   unfold bindL
   rw [bindL_out fun w hw=>h w (List.mem_cons_of_mem _ hw)]
   split
   · have:x≠n:=by rintro rfl; exact h v List.mem_cons_self
     simp [this]
   · rfl
theorem bindC_out {kindOf:Str→Option NameKind} {x:Str}:∀ {binds:List (Str × Value)} {m:Str→Option Value},(∀ v,(x,v) ∉ binds)→bindC kindOf binds m x = m x
 | [],_,_=>rfl
 | (n,v) :: r,m,h=>by
   unfold bindC
   rw [bindC_out fun w hw=>h w (List.mem_cons_of_mem _ hw)]
   split
   · rfl
   · have:x≠n:=by rintro rfl; exact h v List.mem_cons_self
     simp [this]
theorem bindL_get {kindOf:Str→Option NameKind} {x:Str} {v:Value}:∀ {P:List Str} {vs:List Value} {i:Nat} {m:Str→Option Value},P.Nodup→P[i]? = some x→vs[i]? = some v→kindOf x = some .local →
  bindL kindOf (P.zip vs) m x = some v
 | [],_,_,_,_,h,_,_=>by simp at h
 | _ :: _,[],_,_,_,_,h,_=>by simp at h
 | p :: P,w :: vs,0,m,nd,h1,h2,hk=>by
   simp at h1 h2; subst h1; subst h2
   show bindL kindOf ((p,w) :: P.zip vs) m p = _
   unfold bindL
   rw [bindL_out fun v hv=>(List.nodup_cons.mp nd).1 (List.of_mem_zip hv).1,if_pos hk]
   simp
 | p :: P,w :: vs,i + 1,m,nd,h1,h2,hk=>by
   show bindL kindOf ((p,w) :: P.zip vs) m x = _
   unfold bindL
   exact bindL_get (i:=i) (List.nodup_cons.mp nd).2 (by simpa using h1) (by simpa using h2) hk
theorem bindC_get {kindOf:Str→Option NameKind} {x:Str} {v:Value}:∀ {P:List Str} {vs:List Value} {i:Nat} {m:Str→Option Value},P.Nodup→P[i]? = some x→vs[i]? = some v→kindOf x≠some .local →
  bindC kindOf (P.zip vs) m x = some v
 | [],_,_,_,_,h,_,_=>by simp at h
 | _ :: _,[],_,_,_,_,h,_=>by simp at h
 | p :: P,w :: vs,0,m,nd,h1,h2,hk=>by
   simp at h1 h2; subst h1; subst h2
   show bindC kindOf ((p,w) :: P.zip vs) m p = _
   unfold bindC
   rw [bindC_out fun v hv=>(List.nodup_cons.mp nd).1 (List.of_mem_zip hv).1,if_neg hk]
   simp
 | p :: P,w :: vs,i + 1,m,nd,h1,h2,hk=>by
   show bindC kindOf ((p,w) :: P.zip vs) m x = _
   unfold bindC
   exact bindC_get (i:=i) (List.nodup_cons.mp nd).2 (by simpa using h1) (by simpa using h2) hk
def start (N:List Str) (vs:List V):St:=vs.map some ++ List.replicate (N.length - vs.length) none
def cxOf (CX:CXT) (P:Program) (w:World) (K:PySem.W.Frag) (mg:Str→Option Value) (base:Heap) (N:List Str) (qual:Str) (scope:Scope) (f:Addr) (cd:Value) (A:Around) (outer:List Env) (s:Shared) (H:Hp) (E:XK):Cx where
 prog:=P
 w:=w
 K:=K
 mg:=mg
 base:=base
 A:=A.deeper (envOfC qual scope s.heap.objs.size f cd)
 N:=N
 s_0:=s
 H_0:=H
 env:=envOfC qual scope s.heap.objs.size f cd
 outer:=outer
 stack:=envOfC qual scope s.heap.objs.size f cd :: outer
 ex:=[]
 calm:=true
 fn:=fun _=>true
 pn:=[]
 xe:=fun e s'=>wpAny (model P w) (A.deeper (envOfC qual scope s.heap.objs.size f cd)) (leaving (envOfC qual scope s.heap.objs.size f cd) e) (fun _ s''=>CX outer H s E e s'') (fun e' s''=>CX outer H s E e' s'') s'
theorem cell_has {sc:Scope} {n:Nat} {x:Str} (h:sc.names.lookup x = some .cell):∃ c,(cellsFrom n sc.names []).lookup x = some c:=by
 have q:=PySem.W.cellsFrom_some sc.names n [] (.inl h)
 exact Option.isSome_iff_exists.mp q
theorem inv_start {CX:CXT} {P:Program} {w:World} {K:PySem.W.Frag} {mg:Str→Option Value} {base:Heap} {N ps:List Str} {qual:Str} {scope:Scope} {f:Addr} {cd:Value} {A:Around} {outer:List Env} {s s1:Shared} {H:Hp} {E:XK} {us:List Value} {vs:List V}
  (S:FnScope N ps scope) (hd:A.handled = none) (e0:Env0 P w K mg base A outer s H) (hl:vs.length = ps.length) (r:Vals vs us)
  (x:InCallC s s.heap.objs.size (bindL (envOfC qual scope s.heap.objs.size f cd).kindOf (ps.zip us) fun _=>none) (cellsFrom (s.heap.objs.size + 1) scope.names []) (bindC (envOfC qual scope s.heap.objs.size f cd).kindOf (ps.zip us) fun _=>none) s1) :
  Inv (cxOf CX P w K mg base N qual scope f cd A outer s H E) [] (start N vs) H s1:=by
 have hpl:ps.length≤N.length:=by have:=congrArg List.length S.pre; rw [List.length_take] at this; omega
 obtain ⟨h1,tk,rfl,hk⟩:=x.done
 have noA:∀ b:Addr,b ∉ (cxOf CX P w K mg base N qual scope f cd A outer s H E).ex:=fun b z=>absurd (show b∈([]:List Addr) from z) (by simp)
 refine ⟨⟨e0.mod,S.kind,rfl,rfl,Nat.le_refl _,fun y z c h1 h2=>?_,fun y hy=>?_,fun y c _ h=>?_,fun _=>hd,Around.frames_deeper e0.frames,.inr ⟨rfl,rfl⟩,fun b z=>absurd z (noA b),e0.bs,e0.bsz,fun b _ _=>noA b,fun b z=>absurd z (noA b),e0.funs,e0.frf⟩,
  rfl,e0.bare,Un.kept hk,⟨_,x.toInCall.ns,fun i y v h1 h2 h3=>?_⟩,fun y c h=>⟨_,x.cell y c h⟩,e0.hok.fresh (Nat.le_refl _),fun y c h=>?_,fun p hp=>absurd (show p∈([]:List (Addr × Obj)) from hp) (by simp),e0.hok.kept hk,?_⟩
 · exact name_of_addr x.apart (PySem.mem_of_lookup h1) (PySem.mem_of_lookup h2)
 · have hy:scope.names.lookup y = some .cell∨scope.names.lookup y = some .free:=hy
   rcases hy with hy | hy
   · exact cell_has hy
   · exact absurd rfl (S.nofree _ (PySem.mem_of_lookup hy))
 · exact Nat.le_of_lt (x.above y c (PySem.mem_of_lookup h))
 · have hi:i < vs.length:=by
    unfold start at h2
    by_cases hi:i < vs.length
    · exact hi
    · rw [List.getElem?_append_right (by simpa using hi)] at h2
      rw [List.getElem?_replicate] at h2
      split at h2 <;> cases h2
   have ha:vs[i]? = some v:=by
    unfold start at h2
    rw [List.getElem?_append_left (by simpa using hi),List.getElem?_map] at h2
    cases e:vs[i]? with
    | none=>rw [e] at h2; cases h2
    | some a=>rw [e] at h2; cases h2; rfl
   obtain ⟨u,hu,rv⟩:=r.get ha
   have hp:ps[i]? = some y:=by
    rw [← S.pre,List.getElem?_take_of_lt (by omega)]; exact h1
   have ndP:ps.Nodup:=by rw [← S.pre]; exact S.nd.sublist (List.take_sublist _ _)
   refine ⟨u,rv,?_⟩
   rcases S.par y (List.mem_of_getElem? hp) with k | k
   · exact .inl ⟨k,bindL_get ndP hp hu k⟩
   · obtain ⟨c,e⟩:=cell_has (n:=s.heap.objs.size + 1) k
     refine .inr ⟨.inl k,c,e,?_⟩
     have q:=x.cell y c e
     rw [bindC_get ndP hp hu (by show scope.names.lookup y≠_; rw [k]; decide)] at q
     exact q
 · exact e0.hok.fresh (Nat.le_of_lt (x.above y c (PySem.mem_of_lookup h)))
 · unfold start
   show _ = N.length
   rw [List.length_append,List.length_map,List.length_replicate]
   omega
theorem fn_of {CX:CXT} {P:Program} {w:World} {K:PySem.W.Frag} {mg:Str→Option Value} {base:Heap} {k:Nat} {f:Addr} {name qual:Str} {params:Arguments} {body:List Stmt} {scope:Scope} {dV kV doc pm cdv ct oc:Value} {an od:Option Addr}
  {osl:Array (Option Value)} {N ps:List Str} {sp:Sp} (lk:K.lookup f = some ⟨oc,od,.func (PySem.W.fnOf name qual params body scope dV kV doc pm an cdv ct),osl⟩) (hcd:PySem.W.codeIn K cdv qual = true) (S:FnScope N ps scope)
  (len:∀ vs H Q E,sp vs H Q E→vs.length = ps.length)
  (hbody:∀ (A:Around) (outer:List Env) (s:Shared) (H:Hp) (vs:List V) (Q:VK) (E:XK),Room k (A.deeper (envOfC qual scope s.heap.objs.size f cdv))→sp vs H Q E →
   ∃ t,PSs (cxOf CX P w K mg base N qual scope f cdv A outer s H E) body t∧t { nx:=fun _ H'=>Q .non H',rt:=Q } (start N vs) H) :
  FnOk P w K mg base CX (k + 1) f (PySem.W.fnOf name qual params body scope dV kV doc pm an cdv ct) ps sp:=by
 refine ⟨len,fun A outer s H args us vs Q E hr e0 hb r hsp=>?_⟩
 have hl:=len _ _ _ _ hsp
 have KX:K.In s.heap:=e0.mod.kin.keeps fun b o e=>(e0.bs b o e).1
 have lim:s.heap.NoLimit:=e0.mod.nolimit.keeps fun b o e=>(e0.bs b o e).1
 have hkind:∀ y∈ps.zip us,scope.names.lookup y.1 = some .local∨(scope.names.lookup y.1 = some .cell∧((cellsFrom (s.heap.objs.size + 1) scope.names []).lookup y.1).isSome = true):=fun ⟨n,v⟩ hy=>by
  rcases S.par n (List.of_mem_zip hy).1 with q | q
  · exact .inl q
  · exact .inr ⟨q,PySem.W.cellsFrom_some _ _ _ (.inl q)⟩
 refine codeAny_call_function hr.depth (KX _ _ lk) rfl S.co S.gen rfl (PySem.W.codeRec_of KX hcd) (hb _ _ _ _ ?_)
 refine wpAny_newFunctionEnv_cells S.kind hkind fun env he s1 x=>?_
 subst he
 refine ⟨lim.keeps x.toInCall.keep,codeAny_func ?_⟩
 obtain ⟨t,ht,hq⟩:=hbody A outer s H vs Q E (hr.deeper _) hsp
 have I:Inv (cxOf CX P w K mg base N qual scope f cdv A outer s H E) [] (start N vs) H s1:=inv_start S hr.hd e0 hl r x
 refine wpAny_mono (ht [] s1 (start N vs) H _ I hq) (fun fl s' hs=>?_) fun e s' hs=>hs
 have fin:∀ {σ':St} {H':Hp} {v:V} {u:Value},Inv (cxOf CX P w K mg base N qual scope f cdv A outer s H E) [] σ' H' s'→RelV v u→Q v H'→CE outer P w H s Q u s' :=
  fun {σ' H' v u} J rv q=>⟨v,H',J.os,J.bare,J.base,J.hok,rv,q⟩
 cases fl with
 | ret u =>
   obtain ⟨v,σ',H',J,rv,q⟩:=hs
   exact fin J rv q
 | next =>
   obtain ⟨σ',H',J,q⟩:=hs
   exact fin (v:=V.non) (u:=Value.none) J rfl q
 | brk =>
   obtain ⟨_,_,_,q⟩:=hs
   exact False.elim q
 | cont =>
   obtain ⟨_,_,_,q⟩:=hs
   exact False.elim q
end L2
namespace L2
open PySem PySem.Spec PyProof.Rows
section
variable {X:Cx} {x:Str} {p pos:Pos} {e:Expr} {es:List Expr} {t:TA} {id T:String} {r:List V→Hp→VK→Prop}
def tCB (r:List V→Hp→VK→Prop) (t:TA):TE:=fun σ H Q=>t σ H fun vs H1=>r vs H1 Q
theorem pe_callB (hc:CallR X (.builtin id) r) (hg:Gl X x) (hm:X.mg x = none) (hv:bootBuiltins x = some (.builtin id)) (ha:PA X (e :: es) t) (hn:x≠"__name__":=by decide) (hdb:(x == ("__debug__":Str)) = false:=by decide)
  (he:starEach (e :: es) X.env = (false,eval e X.env) :: starEach es X.env:=by rfl) (hpl:(backTo pos (starEach es X.env)).any (·.1) = false:=by rfl):PE X (.Call (.Name x p) (e :: es) [] pos) (tCB r t):=by
 intro pins s σ H Q I h
 refine wpAny_Call_Name_kw (ld_blt I hg hm hv ?_ hn hdb)
 exact PyProof.Rows.callWith_builtin1 (thn (ha pos pins s σ H _ I h) fun us s1 ⟨vs,H1,I1,r1,q1⟩=>hc pins s1 σ H1 vs us Q I1 r1 q1) he hpl
theorem pe_callTy (hc:CallR X (.type T) r) (hg:Gl X x) (hm:X.mg x = none) (hv:bootBuiltins x = some (.type T)) (ha:PA X (e :: es) t) (hn:x≠"__name__":=by decide) (hdb:(x == ("__debug__":Str)) = false:=by decide)
  (he:starEach (e :: es) X.env = (false,eval e X.env) :: starEach es X.env:=by rfl) (hpl:(backTo pos (starEach es X.env)).any (·.1) = false:=by rfl):PE X (.Call (.Name x p) (e :: es) [] pos) (tCB r t):=by
 intro pins s σ H Q I h
 refine wpAny_Call_Name_kw (ld_blt I hg hm hv ?_ hn hdb)
 exact PyProof.Rows.callWith_type1 (thn (ha pos pins s σ H _ I h) fun us s1 ⟨vs,H1,I1,r1,q1⟩=>hc pins s1 σ H1 vs us Q I1 r1 q1) he hpl
end
end L2
namespace HT
open PySem PyProof.Rows
section
open PySem.SeqAt
open PySem.AutoSeq1 (wpAny_loadPart')
open PySem.MeetsSeq PySem.MeetsSeq2 PySem.MeetsSeq3
end
section
variable {prog:Program} {w:World} {A:Around} {E:Value→Shared→Prop} {s:Shared}
def sIx (n d:Nat):Option Int→Nat
 | none=>d
 | some v=>if v < 0 then (v + (n:Int)).toNat else min v.toNat n
theorem sIx_le (n d:Nat) (hd:d≤n) (o:Option Int):sIx n d o≤n:=by
 cases o with
 | none=>exact hd
 | some v =>
   show (if v < 0 then (v + (n:Int)).toNat else min v.toNat n)≤n
   by_cases hv:v < 0
   · rw [if_pos hv]; omega
   · rw [if_neg hv]; exact Nat.min_le_right _ _
end
end HT
namespace L2
open PySem PySem.Spec PyProof.Rows
abbrev TO:=St→Hp→(Option Int→Hp→Prop)→Prop
def PO (X:Cx) (e:Option Expr) (t:TO):Prop :=
 ∀ (pins:List (Addr × Obj)) (s:Shared) (σ:St) (H:Hp) (Q:Option Int→Hp→Prop),Inv X pins σ H s→t σ H Q →
   wpAny (model X.prog X.w) X.A (evalPart e X.env) (fun u s'=>∃ o H',Inv X pins σ H' s'∧IsPart u o∧Q o H') X.xe s
def tNoPart:TO:=fun _ H Q=>Q none H
def tPart (t:TE):TO:=fun σ H Q=>t σ H fun x H1=>∃ i,x = .int i∧Q (some i) H1
section
variable {X:Cx} {e:Expr} {te:TE} {lo hi:Option Expr} {tl th:TO} {pos p2:Pos}
theorem po_none:PO X none tNoPart:=by
 intro pins s σ H Q I h
 rw [evalPart_none]
 exact wpAny_pure ⟨none,H,I,.none,h⟩
theorem po_some (h:PE X e te):PO X (some e) (tPart te):=by
 intro pins s σ H Q I hw
 rw [evalPart_some]
 refine thn (h pins s σ H _ I hw) fun u s1 ⟨x,H1,I1,r1,q1⟩=>?_
 obtain ⟨i,rfl,q⟩:=q1
 obtain ⟨t,rfl⟩:=r1
 exact ⟨some i,H1,I1,.int i t,q⟩
def SlR (X:Cx) (r:V→Option Int→Option Int→Hp→VK→Prop):Prop :=
 ∀ (pins:List (Addr × Obj)) (s:Shared) (σ:St) (H:Hp) (x:V) (v vl vu:Value) (lo hi:Option Int) (sl:Addr) (Q:VK),Inv X pins σ H s→RelV x v→s.heap.IsSliceOf sl vl vu .none→IsPart vl lo→IsPart vu hi→r x lo hi H Q →
   ∃ T id,typeLookup (.type T) "__getitem__" = pure (some (.builtin id))∧s.TypeIs v T∧wpAny (model X.prog X.w) X.A (getItem v (.ref sl)) (EP X pins σ Q) X.xe s
def tSl (r:V→Option Int→Option Int→Hp→VK→Prop) (te:TE) (tl th:TO):TE:=fun σ H Q=>te σ H fun x H1=>tl σ H1 fun l H2=>th σ H2 fun u H3=>r x l u H3 Q
theorem pe_slice {r:V→Option Int→Option Int→Hp→VK→Prop} (hr:SlR X r) (he:PE X e te) (hl:PO X lo tl) (hu:PO X hi th):PE X (.Subscript e (.Slice lo hi none p2) pos) (tSl r te tl th):=by
 intro pins s σ H Q I h
 refine Subscript_ (thn (he pins s σ H _ I h) fun v s1 ⟨x,H1,I1,r1,q1⟩=>?_)
 refine wpAny_Slice (thn (hl pins s1 σ H1 _ I1 q1) fun vl s2 ⟨l,H2,I2,pl,q2⟩=>thn (hu pins s2 σ H2 _ I2 q2) fun vu s3 ⟨u,H3,I3,pu,q3⟩=>?_)
 rw [evalPart_none]
 refine wpAny_pure ?_
 have I4:Inv X pins σ H3 { s3 with heap:=s3.heap.push { cls:=.type "slice",data:=.fields #[vl,vu,.none] } }:=I3.kept (t':=s3.toks) fun b ob q=>Heap.get?_push_of_some _ q
 obtain ⟨T,id,hT,ht,hg⟩:=hr pins { s3 with heap:=s3.heap.push { cls:=.type "slice",data:=.fields #[vl,vu,.none] } } σ H3 x v vl vu l u s3.heap.objs.size Q I4 r1 (Heap.IsSliceOf.new ..) pl pu q3
 show wpAny (model X.prog X.w) X.A (subscriptTail e (.Slice lo hi none p2) v (.ref s3.heap.objs.size)) (EP X pins σ Q) X.xe { s3 with heap:=s3.heap.push { cls:=.type "slice",data:=.fields #[vl,vu,.none] } }
 exact tail_any (ops:=[.ref s3.heap.objs.size,v]) ht hT hg (by with_unfolding_all rfl)
def cutV (xs:List V) (lo hi:Option Int):List V:=(xs.drop (HT.sIx xs.length 0 lo)).take (HT.sIx xs.length xs.length hi - HT.sIx xs.length 0 lo)
theorem cutV_length (xs:List V) (lo hi:Option Int):(cutV xs lo hi).length≤xs.length:=by
 unfold cutV
 rw [List.length_take,List.length_drop]
 omega
end
end L2
namespace L2
open PySem PySem.Spec PyProof.Rows
def ixN (n:Nat) (i:Int):Option Nat:=if 0≤i then (if i < n then some i.toNat else none) else if -(n:Int)≤i then some (i + n).toNat else none
def atI {α:Type} (xs:List α) (i:Int):Option α:=(ixN xs.length i).bind fun j=>xs[j]?
theorem ixN_seq {n:Nat} {i:Int} {j:Nat} (h:ixN n i = some j):seqIndex? i n = some j∧j < n∧-(n:Int)≤i∧i < n:=by
 unfold ixN at h
 by_cases h0:0≤i
 · rw [if_pos h0] at h
   by_cases h1:i < n
   · rw [if_pos h1] at h
     have e:i.toNat = j:=Option.some.inj h
     exact ⟨by rw [seqIndex_of h0 h1,e],by omega,by omega,h1⟩
   · rw [if_neg h1] at h; cases h
 · rw [if_neg h0] at h
   by_cases h1:-(n:Int)≤i
   · rw [if_pos h1] at h
     have e:(i + n).toNat = j:=Option.some.inj h
     exact ⟨by rw [seqIndex_neg (by omega) h1,e],by omega,h1,by omega⟩
   · rw [if_neg h1] at h; cases h
theorem atI_get {α:Type} {xs:List α} {i:Int} {v:α} (h:atI xs i = some v):∃ j,seqIndex? i xs.length = some j∧xs[j]? = some v∧j < xs.length∧-(xs.length:Int)≤i∧i < xs.length:=by
 unfold atI at h
 cases e:ixN xs.length i with
 | none=>rw [e] at h; cases h
 | some j =>
   rw [e] at h
   obtain ⟨h1,h2,h3,h4⟩:=ixN_seq e
   exact ⟨j,h1,h,h2,h3,h4⟩
theorem atI_nat {α:Type} {xs:List α} {j:Nat} {v:α} (h:xs[j]? = some v):atI xs (j:Int) = some v:=by
 have hj:j < xs.length:=(List.getElem?_eq_some_iff.mp h).1
 have e:ixN xs.length (j:Int) = some j:=by
  unfold ixN
  rw [if_pos (by omega),if_pos (by omega)]; simp
 unfold atI; rw [e]; exact h
def PlainIx (b:Expr):Prop:=∀ o i,subscripted b false o i = operate [o,i] (getItem o i)
def IxR (X:Cx) (r:R2):Prop :=
 ∀ (value slice:Expr) (pins:List (Addr × Obj)) (s:Shared) (σ:St) (H:Hp) (x y:V) (v u:Value) (Q:VK),Inv X pins σ H s→RelV x v→RelV y u→r x y H Q →
   subscripted slice false v u = operate [v,u] (getItem v u)→wpAny (model X.prog X.w) X.A (subscriptTail value slice v u) (EP X pins σ Q) X.xe s
def MtR (X:Cx) (id:String) (r:V→List V→Hp→VK→Prop):Prop :=
 ∀ (pins:List (Addr × Obj)) (s:Shared) (σ:St) (H:Hp) (x:V) (xs:List V) (v:Value) (us:List Value) (Q:VK),Inv X pins σ H s→RelV x v→Vals xs us→r x xs H Q →
   wpAny (model X.prog X.w) X.A (call (.builtin id) (v :: us)) (EP X pins σ Q) X.xe s
section
variable {X:Cx} {a b:Expr} {ta tb:TE} {pos:Pos}
theorem pe_ix {r:R2} (hr:IxR X r) (ha:PE X a ta) (hb:PE X b tb) (hs:PlainIx b):PE X (.Subscript a b pos) (tOp r ta tb):=by
 intro pins s σ H Q I h
 exact Subscript_ (binT ha hb I h fun v u s2 x y H2 I2 rx ry q=>hr a b pins s2 σ H2 x y v u Q I2 rx ry q (hs _ _))
def rIxL (K:PySem.W.Frag):R2:=fun x y H Q=>∃ p xs i v,x = .ref p∧y = .int i∧SqL K H p xs∧atI xs i = some v∧Q v H
def rIxT (K:PySem.W.Frag):R2:=fun x y H Q=>∃ p xs i v,x = .ref p∧y = .int i∧SqT K H p xs∧atI xs i = some v∧Q v H
def rIxS:R2:=fun x y H Q=>∃ z i c,x = .str z∧y = .int i∧z.length≤sizeLine∧atI z.cps.toList i = some c∧Q (.str ⟨#[c]⟩) H
theorem ix_list:IxR X (rIxL X.K):=by
 intro value slice pins s σ H x y v u Q I rx ry h hs
 obtain ⟨p,xs,i,z,rfl,rfl,hq,he,q⟩:=h
 cases rx
 obtain ⟨t,rfl⟩:=ry
 obtain ⟨its,r,pl,hz⟩:=I.list hq
 obtain ⟨j,h1,h2,h3,h4,h5⟩:=atI_get he
 obtain ⟨w,ew,rw'⟩:=r.get h2
 have hl:=r.length
 have hn:=line63
 have fin:EP X pins σ Q w s:=⟨z,H,I,rw',q⟩
 by_cases h0:0≤i
 · have hj:i.toNat = j:=by
    rw [seqIndex_of h0 h5] at h1
    exact Option.some.inj h1
   exact item_listR pl.isList h0 (by omega) (by rw [hj]; simpa using ew) fin hs
 · have hj:(i + (its.toArray.size:Int)).toNat = j:=by
    rw [seqIndex_neg (by omega) h4] at h1
    rw [List.size_toArray,← hl]
    exact Option.some.inj h1
   exact subscriptTail_builtinR (x:=w) pl.isList.typeIs slot_list_getitem.lookup
    (wpAny_getItem_list_neg (Q:=fun r s'=>r = w∧EP X pins σ Q r s') pl.isList (by omega) (by rw [List.size_toArray] <;> omega) (by omega) (by rw [hj]; simpa using ew) ⟨rfl,fin⟩) hs
theorem ix_tup:IxR X (rIxT X.K):=by
 intro value slice pins s σ H x y v u Q I rx ry h hs
 obtain ⟨p,xs,i,z,rfl,rfl,hq,he,q⟩:=h
 cases rx
 obtain ⟨t,rfl⟩:=ry
 obtain ⟨its,r,pl,hz⟩:=I.tuple hq
 obtain ⟨j,h1,h2,h3,h4,h5⟩:=atI_get he
 obtain ⟨w,ew,rw'⟩:=r.get h2
 have hl:=r.length
 have hn:=line63
 have fin:EP X pins σ Q w s:=⟨z,H,I,rw',q⟩
 exact subscriptTail_builtinR (x:=w) pl.typeIs slot_tuple_getitem.lookup
  (getItem_tuple (j:=j) (Q:=fun r s'=>r = w∧EP X pins σ Q r s') pl (by omega) (by omega) (by rw [List.size_toArray,← hl]; exact h1) (by simpa using ew) ⟨rfl,fin⟩) hs
theorem ix_str:IxR X rIxS:=by
 intro value slice pins s σ H x y v u Q I rx ry h hs
 obtain ⟨z,i,c,rfl,rfl,hz,he,q⟩:=h
 obtain ⟨t,rfl⟩:=rx
 obtain ⟨t',rfl⟩:=ry
 obtain ⟨j,h1,h2,h3,h4,h5⟩:=atI_get he
 have hl:z.cps.toList.length = z.length:=by simp [Str.length]
 rw [hl] at h1 h4 h5
 have hn:=line63
 exact tail_any (typeIs_str s z t) slot_str_getitem.lookup (getItem_str (c:=c) (by
  have e1:decide (i < -(2 ^ 63:Int)) = false:=decide_eq_false (by omega)
  have e2:decide (i ≥ 2 ^ 63) = false:=decide_eq_false (by omega)
  rw [e1,e2,Bool.or_false]) (by rw [h1]; simpa using h2) ⟨.str ⟨#[c]⟩,H,I.tok _,⟨_,rfl⟩,q⟩) hs
theorem mapSeq_set (its:List Value) (n j:Nat) (u:Value):Obj.mapSeq (·.setIfInBounds j u) { cls:=.type "list",data:=.seq its.toArray n } = { cls:=.type "list",data:=.seq (its.set j u).toArray n }:=by
 simp [Obj.mapSeq]
theorem Inv.lst {pins:List (Addr × Obj)} {σ:St} {H:Hp} {s:Shared} {p:Addr} {xs:List V} (I:Inv X pins σ H s) (h:H p = some (.lst xs)) :
  ∃ (its:List Value) (n:Nat),Vals xs its∧s.heap.get? p = some { cls:=.type "list",data:=.seq its.toArray n }∧xs.length≤sizeLine:=by
 obtain ⟨z,its,n,r,e⟩:=I.hok p _ h
 exact ⟨its,n,r,e,z⟩
theorem Inv.lstUpd {pins:List (Addr × Obj)} {σ:St} {H:Hp} {s:Shared} {p:Addr} {xs ys:List V} {its its':List Value} {n n':Nat} {f:Obj→Obj} (I:Inv X pins σ H s) (h:H p = some (.lst xs))
  (ho:s.heap.get? p = some { cls:=.type "list",data:=.seq its.toArray n }) (hf:f { cls:=.type "list",data:=.seq its.toArray n } = { cls:=.type "list",data:=.seq its'.toArray n' }) (r:Vals ys its') (hz:ys.length≤sizeLine) (t:Nat) :
  Inv X pins σ (upd H p (.lst ys)) { s with heap:=s.heap.update p f,toks:=t }:=by
 have e:(s.heap.update p f).get? p = some { cls:=.type "list",data:=.seq its'.toArray n' }:=by
  rw [Heap.get?_update_self f ho (by rw [hf] <;> rfl),hf]
 refine I.write (x:=p) (e:=p) (by rw [h]; trivial) (.inl rfl) (fun b u hb q=>(Heap.get?_update_other _ _ (Ne.symm hb)).trans q) ⟨_,e⟩ ?_
 exact ⟨hz,its',n',r,e⟩
def rSetL:V→V→V→Hp→(Hp→Prop)→Prop:=fun o i v H Q=>∃ p xs k j,o = .ref p∧i = .int k∧H p = some (.lst xs)∧ixN xs.length k = some j∧Q (upd H p (.lst (xs.set j v)))
theorem set_list:PSet X rSetL:=by
 intro pins s σ H o i v ov iv u Q I ro ri rv h
 obtain ⟨p,xs,k,j,rfl,rfl,hp,hj,q⟩:=h
 cases ro
 obtain ⟨t,rfl⟩:=ri
 obtain ⟨its,n,r,ho,hz⟩:=I.lst hp
 obtain ⟨h1,h2,h3,h4⟩:=ixN_seq hj
 have hl:=r.length
 have hn:=line63
 have I':Inv X pins σ (upd H p (.lst (xs.set j v))) { s with heap:=s.heap.update p (Obj.mapSeq (·.setIfInBounds j u)) } :=
  I.lstUpd hp ho (mapSeq_set its n j u) (r.set rv j) (by rw [List.length_set]; exact hz) s.toks
 by_cases h0:0≤k
 · have hk:k.toNat = j:=by
    rw [seqIndex_of h0 h4] at h1
    exact Option.some.inj h1
   exact PySem.W.ki_setAt ho h0 (by omega) (by rw [List.size_toArray,← hl]; exact h4) (by rw [hk]; exact ⟨_,I',q⟩)
 · have hk:(k + (its.toArray.size:Int)).toNat = j:=by
    rw [seqIndex_neg (by omega) h3] at h1
    rw [List.size_toArray,← hl]
    exact Option.some.inj h1
   exact PySem.W.ki_setBack ho (by omega) (by rw [List.size_toArray,← hl]; exact h3) (by omega) (by rw [hk]; exact ⟨_,I',q⟩)
theorem slice_bounds (lo hi:Option Int) (n:Nat):(sliceBounds lo hi none n).1 = ((HT.sIx n 0 lo:Nat):Int)∧(sliceBounds lo hi none n).2.1 = ((HT.sIx n n hi:Nat):Int)∧(sliceBounds lo hi none n).2.2 = 1:=by
 refine ⟨?_,?_,rfl⟩
 · cases lo with
   | none=>simp [sliceBounds,HT.sIx]
   | some i =>
     simp only [sliceBounds,HT.sIx,Option.getD_none,show (1:Int) > 0 by decide,if_true]
     by_cases h:i < 0
     · simp only [h,if_true] <;> omega
     · simp only [h,if_false] <;> omega
 · cases hi with
   | none=>simp [sliceBounds,HT.sIx]
   | some i =>
     simp only [sliceBounds,HT.sIx,Option.getD_none,show (1:Int) > 0 by decide,if_true]
     by_cases h:i < 0
     · simp only [h,if_true] <;> omega
     · simp only [h,if_false] <;> omega
theorem slicePick_cut (its:List Value) (lo hi:Option Int):slicePick its.toArray lo hi none = ((its.drop (HT.sIx its.length 0 lo)).take (HT.sIx its.length its.length hi - HT.sIx its.length 0 lo)).toArray:=by
 obtain ⟨h1,h2,h3⟩:=slice_bounds lo hi its.toArray.size
 unfold slicePick
 rw [h1,h2,h3]
 simp only [sliceRange_one,pick_run,List.size_toArray] <;> rfl
def rSlL (K:PySem.W.Frag):V→Option Int→Option Int→Hp→VK→Prop:=fun x lo hi H Q=>∃ a xs,x = .ref a∧SqL K H a xs∧∀ p,H p = none→Q (.ref p) (upd H p (.lst (cutV xs lo hi)))
theorem sl_list:SlR X (rSlL X.K):=by
 intro pins s σ H x v vl vu lo hi sl Q I rx hs pl pu h
 obtain ⟨a,xs,rfl,hx,q⟩:=h
 cases rx
 obtain ⟨its,r,ht,hz⟩:=I.list hx
 have hlen:=r.length
 refine ⟨"list",_,slot_list_getitem.lookup,ht.isList.typeIs,?_⟩
 refine wpAny_getItem_list_slice ht.isList hs pl pu .none (by simp) ?_ (by rw [List.size_toArray] <;> omega)
 rw [slicePick_cut,← hlen]
 refine ⟨.ref s.heap.objs.size,_,I.laid (t':=s.toks) (o:=.lst (cutV xs lo hi)) (fun b ob q=>Heap.get?_push_of_some _ q) (Nat.le_refl _) ?_,rfl,q _ (I.hok.fresh (Nat.le_refl _))⟩
 exact ⟨Nat.le_trans (cutV_length xs lo hi) hz,_,0,(r.drop (HT.sIx xs.length 0 lo)).take (HT.sIx xs.length xs.length hi - HT.sIx xs.length 0 lo),Heap.get?_push_size _ rfl⟩
theorem call_len_seq:CallR X (.builtin "len") (fun xs H Q=>∃ p ys,xs = [.ref p]∧(SqL X.K H p ys∨SqT X.K H p ys)∧Q (.int ys.length) H):=by
 intro pins s σ H xs us Q I r h
 obtain ⟨p,ys,rfl,hq,q⟩:=h
 obtain ⟨u,rfl,rx⟩:=vals1 r
 cases rx
 have hn:=line63
 rcases hq with hq | hq
 · obtain ⟨its,r',pl,hz⟩:=I.list hq
   have hlen:=r'.length
   exact Calls.call_len_list pl.isList (by simp only [List.size_toArray] <;> omega) ⟨.int ys.length,H,I.tok _,⟨s.toks + 1,by rw [List.size_toArray,hlen]⟩,q⟩
 · obtain ⟨its,r',pl,hz⟩:=I.tuple hq
   have hlen:=r'.length
   exact len_tuple pl (by simp only [List.size_toArray] <;> omega) ⟨.int ys.length,H,I.tok _,⟨s.toks + 1,by rw [List.size_toArray,hlen]⟩,q⟩
theorem call_len_str:CallR X (.builtin "len") (fun xs H Q=>∃ z,xs = [.str z]∧z.length≤sizeLine∧Q (.int z.length) H):=by
 intro pins s σ H xs us Q I r h
 obtain ⟨z,rfl,hz,q⟩:=h
 obtain ⟨u,rfl,t,rfl⟩:=vals1 r
 have hn:=line63
 exact len_str (by omega) ⟨.int z.length,H,I.tok _,⟨_,rfl⟩,q⟩
def tyV (K:PySem.W.Frag) (T:String) (x:V) (H:Hp):Prop:=match x with
 | .str _=>T = "str"
 | .int _=>T = "int"
 | .ref p=>(T = "list"∧∃ xs,SqL K H p xs)∨(T = "tuple"∧∃ o,K.lookup p = some o∧o.cls = .type "tuple"∧o.dict = none) ∨
   (T = "dict"∧((∃ kvs,H p = some (.dK kvs))∨∃ kvs,H p = some (.dT kvs)))∨(T = "set"∧∃ S n,H p = some (.set S n))
 | _=>False
theorem tyV_is {pins:List (Addr × Obj)} {σ:St} {H:Hp} {s:Shared} {T:String} {x:V} {v:Value} (I:Inv X pins σ H s) (r:RelV x v) (ty:tyV X.K T x H) :
  s.TypeIs v T∧∀ a,v = .ref a→∃ ob,s.heap.get? a = some ob∧ob.dict = none:=by
 cases x with
 | str z =>
   obtain ⟨t,rfl⟩:=r
   cases (show T = "str" from ty)
   exact ⟨typeIs_str s z t,fun _ e=>nomatch e⟩
 | int i =>
   obtain ⟨t,rfl⟩:=r
   cases (show T = "int" from ty)
   exact ⟨typeIs_int s i t,fun _ e=>nomatch e⟩
 | ref p =>
   cases r
   rcases ty with ⟨rfl,xs,hq⟩ | ⟨rfl,o,hk,hc,hd⟩ | ⟨rfl,hk⟩ | ⟨rfl,S,n,hk⟩
   · obtain ⟨its,_,pl,_⟩:=I.list hq
     refine ⟨pl.isList.typeIs,fun a e=>?_⟩
     cases e
     obtain ⟨o,n,e,c,hd,_⟩:=pl
     exact ⟨o,e,hd⟩
   · refine ⟨⟨o,I.kIn p o hk,hc⟩,fun a e=>?_⟩
     cases e
     exact ⟨o,I.kIn _ o hk,hd⟩
   · have z:∃ o,s.heap.get? p = some o∧o.ExactDict:=by
      rcases hk with ⟨kvs,hk⟩ | ⟨kvs,hk⟩
      · obtain ⟨_,_,_,_,o,_,_,e,ex,_⟩:=I.hok p _ hk
        exact ⟨o,e,ex⟩
      · obtain ⟨_,_,_,_,o,_,_,e,ex,_⟩:=I.hok p _ hk
        exact ⟨o,e,ex⟩
     obtain ⟨o,e,ex⟩:=z
     refine ⟨⟨o,e,ex.1⟩,fun a e2=>?_⟩
     cases e2
     exact ⟨o,e,ex.2.1⟩
   · obtain ⟨o,_,_,_,e,ex,_⟩:=I.hok p _ hk
     refine ⟨⟨o,e,ex.1⟩,fun a e2=>?_⟩
     cases e2
     exact ⟨o,e,ex.2.1⟩
 | _=>exact False.elim ty
def tBM0 (K:PySem.W.Frag) (T:String) (r:V→List V→Hp→VK→Prop) (to:TE):TE:=fun σ H Q=>to σ H fun x H1=>tyV K T x H1∧r x [] H1 Q
def tBM (K:PySem.W.Frag) (T:String) (r:V→List V→Hp→VK→Prop) (to:TE) (t:TA):TE:=fun σ H Q=>to σ H fun x H1=>tyV K T x H1∧t σ H1 fun xs H2=>r x xs H2 Q
variable {o e:Expr} {es:List Expr} {to:TE} {t:TA} {name:Str} {apos cpos:Pos} {T id:String} {r:V→List V→Hp→VK→Prop}
theorem pe_bm0 (pa:PlainAttrs T) (slot:Slot T name id) (hty:typeOf (.builtin id) = pure (.type "method_descriptor")) (hm:MtR X id r) (ho:PE X o to)
  (hbase:attributeBase o name X.env (eval o X.env) = eval o X.env:=by rfl) (hline:(apos.endLine == cpos.line) = true:=by rfl):PE X (.Call (.Attribute o name apos) [] [] cpos) (tBM0 X.K T r to):=by
 intro pins s σ H Q I h
 refine wpAny_Call_method0_late hbase hline (thn (ho pins s σ H _ I h) fun v s1 ⟨x,H1,I1,r1,ty,q1⟩=>?_)
 obtain ⟨h1,h2⟩:=tyV_is I1 r1 ty
 exact ⟨T,id,pa,slot,hty,h1,h2,Calls.callWith_builtin rfl (PySem.evalArgs_none (hm pins s1 σ H1 x [] v [] Q I1 r1 .nil q1))⟩
theorem pe_bm (pa:PlainAttrs T) (slot:Slot T name id) (hty:typeOf (.builtin id) = pure (.type "method_descriptor")) (hm:MtR X id r) (ho:PE X o to) (ha:PA X (e :: es) t)
  (hbase:attributeBase o name X.env (eval o X.env) = eval o X.env:=by rfl)
  (hfew:((backTo cpos (starEach (e :: es) X.env)).all (fun x=>!x.1) && (backToKw cpos (keywordEach [] X.env)).all (fun x=>x.1.isSome)
   && decide ((e :: es).length + ([]:List Keyword).length + (if ([]:List Keyword).isEmpty then 0 else 1) < 30)) = true:=by rfl)
  (hline:(apos.endLine == cpos.line) = true:=by rfl) (hs:starEach (e :: es) X.env = (false,eval e X.env) :: starEach es X.env:=by rfl) (hplain:(backTo cpos (starEach es X.env)).any (·.1) = false:=by rfl) :
  PE X (.Call (.Attribute o name apos) (e :: es) [] cpos) (tBM X.K T r to t):=by
 intro pins s σ H Q I h
 refine wpAny_Call_method_late hbase hfew hline rfl (thn (ho pins s σ H _ I h) fun v s1 ⟨x,H1,I1,r1,ty,q1⟩=>?_)
 obtain ⟨h1,h2⟩:=tyV_is I1 r1 ty
 refine ⟨T,id,pa,slot,hty,h1,h2,?_⟩
 have hA:=ha cpos pins s1 σ H1 _ I1 q1
 rw [hs] at hA ⊢
 refine Calls.callWith_builtin (by show (false || (backTo cpos (starEach es X.env)).any (·.1)) = false; rw [hplain] <;> rfl) (Calls.evalArgs_plain ?_)
 exact thn hA fun us s2 ⟨vs,H2,I2,r2,q2⟩=>hm pins s2 σ H2 x vs v us Q I2 r1 r2 q2
end
end L2
namespace L2
open PySem PySem.Spec PyProof.Rows
def MtM (X:Cx) (id:String) (r:V→List V→Hp→VK→Prop):Prop :=
 ∀ (pins:List (Addr × Obj)) (s:Shared) (σ:St) (H:Hp) (x:V) (xs:List V) (v:Value) (us:List Value) (Q:VK),Inv X pins σ H s→RelV x v→Vals xs us→r x xs H Q →
   wpAny (model X.prog X.w) X.A (call (.builtin id) (v :: us)) (EP X pins σ Q) X.xe s
theorem Vals.one:∀ {x:V} {us:List Value},Vals [x] us→∃ u,us = [u]∧RelV x u
 | _,_,.cons r .nil=>⟨_,rfl,r⟩
section
variable {X:Cx} {pins:List (Addr × Obj)} {σ:St} {H:Hp} {s:Shared} {l b:Addr} {xs ys zs:List V}
theorem Inv.lset {its its':List Value} {n:Nat} {f:Array Value→Array Value} {t':Nat} (I:Inv X pins σ H s) (hH:H l = some (.lst xs))
  (e:s.heap.get? l = some { cls:=.type "list",data:=.seq its.toArray n }) (hf:f its.toArray = its'.toArray) (hv:Vals ys its') (hz:ys.length≤sizeLine) :
  Inv X pins σ (upd H l (.lst ys)) { s with heap:=s.heap.update l (Obj.mapSeq f),toks:=t' }:=by
 have q:=PySem.IsL.update e f
 rw [hf] at q
 refine I.write (x:=l) (e:=l) (by rw [hH]; exact trivial) (.inl rfl) (fun b' u hb hu=>(Heap.get?_update_other s.heap (Obj.mapSeq f) (Ne.symm hb)).trans hu) ⟨_,q⟩ ?_
 exact ⟨hz,its',_,hv,q⟩
theorem Inv.lnew {its:List Value} {t':Nat} (I:Inv X pins σ H s) (hv:Vals ys its) (hz:ys.length≤sizeLine) :
  Inv X pins σ (upd H s.heap.objs.size (.lst ys)) { s with heap:=s.heap.push { cls:=.type "list",data:=.seq its.toArray },toks:=t' } :=
 I.laid (fun _ _ q=>Heap.get?_push_of_some _ q) (Nat.le_refl _) ⟨hz,its,0,hv,Heap.get?_push_size _ rfl⟩
theorem Inv.fresh (I:Inv X pins σ H s):H s.heap.objs.size = none:=I.hok.fresh (Nat.le_refl _)
theorem Inv.lstM (I:Inv X pins σ H s) (hH:H l = some (.lst xs)):xs.length≤sizeLine∧∃ (its:List Value) (n:Nat),Vals xs its∧xs.length = its.length∧s.heap.get? l = some { cls:=.type "list",data:=.seq its.toArray n }:=by
 obtain ⟨z,its,n,r,e⟩:=I.hok l _ hH
 exact ⟨z,its,n,r,r.length,e⟩
theorem notLongL {n:Nat} (h:n≤sizeLine):Builtin.List.listTooLong n = false:=by
 unfold Builtin.List.listTooLong
 exact decide_eq_false (by omega)
end
section
variable {X:Cx}
def rAppend:V→List V→Hp→VK→Prop:=fun x vs H Q=>∃ l xs y,x = .ref l∧vs = [y]∧H l = some (.lst xs)∧xs.length < sizeLine∧Q .non (upd H l (.lst (xs ++ [y])))
theorem mt_append:MtM X "list.append" rAppend:=by
 intro pins s σ H x vs v us Q I rx rv h
 obtain ⟨l,xs,y,rfl,rfl,hH,hz,q⟩:=h
 cases rx
 obtain ⟨u,rfl,ru⟩:=rv.one
 obtain ⟨z,its,n,r,hl,e⟩:=I.lstM hH
 refine call_meets F.slot_list_append ⟨_,e,rfl⟩ F.entry_list_append (F.args_list_append_2 _ _) (PySem.list_append l its.toArray n u (by rw [List.size_toArray]; omega)) ⟨e,?_⟩
 refine ⟨.non,_,I.lset (its':=its ++ [u]) hH e (by simp) (r.append (.cons ru .nil)) ?_,rfl,q⟩
 rw [List.length_append,List.length_singleton]
 omega
def rExtend:V→List V→Hp→VK→Prop:=fun x vs H Q=>∃ l b xs zs,x = .ref l∧vs = [.ref b]∧H l = some (.lst xs)∧H b = some (.lst zs)∧xs.length + zs.length≤sizeLine∧Q .non (upd H l (.lst (xs ++ zs)))
theorem mt_extend:MtM X "list.extend" rExtend:=by
 intro pins s σ H x vs v us Q I rx rv h
 obtain ⟨l,b,xs,zs,rfl,rfl,hH,hB,hz,q⟩:=h
 cases rx
 obtain ⟨u,rfl,ru⟩:=rv.one
 cases ru
 obtain ⟨z,its,n,r,hl,e⟩:=I.lstM hH
 obtain ⟨z2,its2,n2,r2,hl2,e2⟩:=I.lstM hB
 have hsz:its.toArray.size + its2.toArray.size≤sizeLine:=by rw [List.size_toArray,List.size_toArray]; omega
 have hlong:¬ (!its.toArray.isEmpty && Builtin.List.listTooLong (its.toArray.size + its2.toArray.size)) = true:=by
  rw [notLongL hsz,Bool.and_false]
  exact Bool.false_ne_true
 refine call_meets F.slot_list_extend ⟨_,e,rfl⟩ F.entry_list_extend (F.args_list_extend_2 _ _)
  (AutoSeq1.list_extend_list_list_0 l its.toArray n b its2.toArray n2 hlong (by rw [List.size_toArray]; omega) (by omega)) ⟨e,e2,?_⟩
 refine ⟨.non,_,I.lset (its':=its ++ its2) hH e (by simp) (r.append r2) ?_,rfl,q⟩
 rw [List.length_append]
 omega
def rCat:R2:=fun x y H Q=>∃ l b xs zs,x = .ref l∧y = .ref b∧H l = some (.lst xs)∧H b = some (.lst zs)∧xs.length + zs.length≤sizeLine∧∀ p,H p = none→Q (.ref p) (upd H p (.lst (xs ++ zs)))
theorem op_cat:OpR X (binaryOp .Add) rCat:=by
 intro pins s σ H x y v u Q I rx ry h
 obtain ⟨l,b,xs,zs,rfl,rfl,hH,hB,hz,q⟩:=h
 cases rx
 cases ry
 obtain ⟨z,its,n,r,hl,e⟩:=I.lstM hH
 obtain ⟨z2,its2,n2,r2,hl2,e2⟩:=I.lstM hB
 refine PySem.P.add_list e e2 ?_ (by rw [List.size_toArray,List.size_toArray]; omega)
 have ea:its.toArray ++ its2.toArray = (its ++ its2).toArray:=by simp
 rw [ea]
 exact ⟨.ref _,_,I.lnew (t':=s.toks) (r.append r2) (by rw [List.length_append]; omega),rfl,q _ I.fresh⟩
end
section
variable {prog:Program} {w:World} {A:Around} {E:Value→Shared→Prop} {s:Shared}
set_option maxRecDepth 100000 in
end
end L2
namespace L2
open PySem PySem.Spec PyProof.Rows
theorem Vals.ints:∀ {ns:List Int} {us:List Value},Vals (ns.map V.int) us→IntsAre us ns
 | [],us,h=>by
   rw [List.map_nil] at h
   cases h
   exact IntsAre.nil
 | n :: ns,us,h=>by
   rw [List.map_cons] at h
   cases h with
   | cons r t =>
     obtain ⟨k,rfl⟩:=r
     exact IntsAre.cons n k (Vals.ints t)
theorem vals_of_ints:∀ {us:List Value} {ns:List Int},IntsAre us ns→Vals (ns.map V.int) us
 | _,_,.nil=>by rw [List.map_nil]; exact Paired.nil
 | _,_,.cons n t h=>by rw [List.map_cons]; exact Paired.cons (show RelV (V.int n) (Value.int n t) from ⟨t,rfl⟩) (vals_of_ints h)
end L2
namespace L2
open PySem PySem.Spec PyProof.Rows
abbrev CellAt (h:Heap) (c:Addr) (v:Option Value):Prop:=h.IsCell c v
def relS (scope sc:Scope):Scope :=
 { scope with names:=scope.names.map fun (n,k)=>if (k == .free && sc.kind == .function && sc.names.lookup n == some .cell) then (n,.cell) else (n,k) }
def cloFrom (cells:List (Str × Addr)):List (Str × NameKind)→List (Str × Addr)→List (Str × Addr)
 | [],acc=>acc
 | (n,k) :: r,acc=>if k == .free then cloFrom cells r ((n,(cells.lookup n).getD 0) :: acc) else cloFrom cells r acc
theorem closure_loop (env:Env) (f:Str × NameKind→List (Str × Addr)→Sem (ForInStep (List (Str × Addr))))
  (hf:∀ n k c,f (n,k) c = if k == .free then (do let a ← cellOf env n; pure (.yield ((n,a) :: c))) else pure (.yield c)) :
  ∀ (names:List (Str × NameKind)) (acc:List (Str × Addr)),(∀ y∈names,y.2 = .free→∃ c,env.cells.lookup y.1 = some c)→forIn names acc f = pure (cloFrom env.cells names acc)
 | [],acc,_=>by rw [List.forIn_nil]; rfl
 | (n,k) :: r,acc,h=>by
   rw [List.forIn_cons,hf]
   have ih:=fun acc=>closure_loop env f hf r acc fun y hy=>h y (List.mem_cons_of_mem _ hy)
   unfold cloFrom
   by_cases hk:(k == NameKind.free) = true
   · rw [if_pos hk,if_pos hk]
     obtain ⟨c,hc⟩:=h (n,k) List.mem_cons_self (by simpa using hk)
     have e:cellOf env n = pure c:=by unfold cellOf; rw [hc]
     rw [e]
     have e2:(env.cells.lookup n).getD 0 = c:=by rw [hc]; rfl
     rw [e2]
     exact ih _
   · rw [if_neg hk,if_neg hk]
     exact ih _
theorem closure_ok {scope:Scope} {env:Env} (h:∀ y∈scope.names,y.2 = .free→∃ c,env.cells.lookup y.1 = some c):closureFor scope env = pure (cloFrom env.cells scope.names []):=by
 simp only [closureFor]
 rw [closure_loop env _ (fun n k c=>rfl) scope.names [] h]
 rfl
theorem mem_lookup {α:Type}:∀ {l:List (Str × α)} {n:Str} {c:α},(n,c)∈l→∃ c',l.lookup n = some c'
 | (k,v) :: r,n,c,h=>by
   rw [List.lookup_cons]
   cases hb:n == k with
   | true=>exact ⟨_,rfl⟩
   | false =>
     rcases List.mem_cons.mp h with e | h
     · cases e; simp at hb
     · exact mem_lookup h
theorem cloFrom_mem {cells:List (Str × Addr)}:∀ {names:List (Str × NameKind)} {acc:List (Str × Addr)} {n:Str} {c:Addr},(n,c)∈cloFrom cells names acc→(n,c)∈acc∨((n,.free)∈names∧c = (cells.lookup n).getD 0)
 | [],_,_,_,h=>.inl h
 | (m,k) :: r,acc,n,c,h=>by
   unfold cloFrom at h
   split at h
   · rename_i hk
     have hk:k = .free:=by simpa using hk
     rcases cloFrom_mem h with h | ⟨h1,h2⟩
     · rcases List.mem_cons.mp h with e | h
       · cases e; exact .inr ⟨hk ▸ List.mem_cons_self,rfl⟩
       · exact .inl h
     · exact .inr ⟨List.mem_cons_of_mem _ h1,h2⟩
   · rcases cloFrom_mem h with h | ⟨h1,h2⟩
     · exact .inl h
     · exact .inr ⟨List.mem_cons_of_mem _ h1,h2⟩
theorem cloFrom_acc {cells:List (Str × Addr)}:∀ {names:List (Str × NameKind)} {acc:List (Str × Addr)} {p:Str × Addr},p∈acc→p∈cloFrom cells names acc
 | [],_,_,h=>h
 | (m,k) :: r,acc,p,h=>by
   unfold cloFrom
   split
   · exact cloFrom_acc (List.mem_cons_of_mem _ h)
   · exact cloFrom_acc h
theorem cloFrom_has {cells:List (Str × Addr)}:∀ {names:List (Str × NameKind)} {acc:List (Str × Addr)} {n:Str},(n,.free)∈names→(n,(cells.lookup n).getD 0)∈cloFrom cells names acc
 | (m,k) :: r,acc,n,h=>by
   unfold cloFrom
   rcases List.mem_cons.mp h with e | h
   · cases e
     exact cloFrom_acc List.mem_cons_self
   · split
     · exact cloFrom_has h
     · exact cloFrom_has h
theorem cells_mem:∀ {names:List (Str × NameKind)} {h:Heap} {acc:List (Str × Addr)} {x:Str} {c:Addr},(x,c)∈cellsFrom h.objs.size names acc →
  (x,c)∈acc∨((x,.cell)∈names∧h.objs.size≤c∧CellAt (pushCells h names) c none)
 | [],_,_,_,_,h=>.inl h
 | (n,k) :: r,h,acc,x,c,hm=>by
   unfold cellsFrom at hm
   unfold pushCells
   split at hm
   · rename_i hk
     rw [if_pos hk]
     have hk:k = .cell:=by simpa using hk
     rw [← Heap.size_push h { cls:=.type "cell",data:=.cell none }] at hm
     rcases cells_mem hm with hm | ⟨h1,h2,h3⟩
     · rcases List.mem_cons.mp hm with e | hm
       · cases e
         exact .inr ⟨hk ▸ List.mem_cons_self,Nat.le_refl _,_,pushCells_keeps r _ _ _ (Heap.get?_push_size _ rfl),rfl⟩
       · exact .inl hm
     · rw [Heap.size_push] at h2
       exact .inr ⟨List.mem_cons_of_mem _ h1,Nat.le_of_succ_le h2,h3⟩
   · rename_i hk
     rw [if_neg hk]
     rcases cells_mem hm with hm | ⟨h1,h2,h3⟩
     · exact .inl hm
     · exact .inr ⟨List.mem_cons_of_mem _ h1,h2,h3⟩
theorem cells_acc:∀ {names:List (Str × NameKind)} {n:Nat} {acc:List (Str × Addr)} {p:Str × Addr},p∈acc→p∈cellsFrom n names acc
 | [],_,_,_,h=>h
 | (m,k) :: r,n,acc,p,h=>by
   unfold cellsFrom
   split
   · exact cells_acc (List.mem_cons_of_mem _ h)
   · exact cells_acc h
theorem cells_has:∀ {names:List (Str × NameKind)} {n:Nat} {acc:List (Str × Addr)} {x:Str},(x,.cell)∈names→∃ c,(x,c)∈cellsFrom n names acc
 | (m,k) :: r,n,acc,x,h=>by
   unfold cellsFrom
   rcases List.mem_cons.mp h with e | h
   · cases e
     exact ⟨n,cells_acc List.mem_cons_self⟩
   · split
     · exact cells_has h
     · exact cells_has h
theorem cells_inj:∀ {names:List (Str × NameKind)} {h:Heap} {acc:List (Str × Addr)} {x y:Str} {c:Addr},(∀ p∈acc,p.2 < h.objs.size)→(∀ x y c,(x,c)∈acc→(y,c)∈acc→x = y) →
  (x,c)∈cellsFrom h.objs.size names acc→(y,c)∈cellsFrom h.objs.size names acc→x = y
 | [],_,_,_,_,_,_,hi,h1,h2=>hi _ _ _ h1 h2
 | (n,k) :: r,h,acc,x,y,c,hl,hi,h1,h2=>by
   unfold cellsFrom at h1 h2
   split at h1
   · rename_i hk
     rw [if_pos hk] at h2
     rw [← Heap.size_push h { cls:=.type "cell",data:=.cell none }] at h1 h2
     refine cells_inj (h:=h.push _) (fun p hp=>?_) (fun x y c a b=>?_) h1 h2
     · rw [Heap.size_push]
       rcases List.mem_cons.mp hp with rfl | hp
       · exact Nat.lt_succ_self _
       · exact Nat.lt_succ_of_lt (hl p hp)
     · rcases List.mem_cons.mp a with e | a <;> rcases List.mem_cons.mp b with e' | b
       · cases e; cases e'; rfl
       · cases e; exact absurd (hl _ b) (Nat.lt_irrefl _)
       · cases e'; exact absurd (hl _ a) (Nat.lt_irrefl _)
       · exact hi _ _ _ a b
   · rename_i hk
     rw [if_neg hk] at h2
     exact cells_inj hl hi h1 h2
theorem newEnv_comp {M:Model} {A:Around} {E:Value→Shared→Prop} {s:Shared} {scope:Scope} {globals:Addr} {closure:List (Str × Addr)} {qual:Str} {func:Option Addr} {code:Value} {around:Env} {builtins:Addr} {Q:Env→Shared→Prop}
  (h:Q (newEnv scope s.heap.objs.size globals (cellsFrom (s.heap.objs.size + 1) scope.names closure) qual func code (some around) builtins)
   { s with heap:=pushCells (s.heap.push { cls:=.type "dict",data:=.dict #[] }) scope.names }) :
  wpAny M A (newFunctionEnv scope globals closure [] qual func code (some around) builtins) Q E s:=by
 simp only [newFunctionEnv,Option.isSome_some,if_true]
 refine wpAny_bind (wpAny_alloc ?_)
 refine wpAny_bind (wpAny_layCells _ (fun n k c=>rfl) scope.names closure _ _ ?_)
 rw [show ({ s with heap:=s.heap.push { cls:=.type "dict",data:=.dict #[] } }:Shared).heap.objs.size = s.heap.objs.size + 1 from Heap.size_push ..]
 rw [List.forIn_nil]
 exact wpAny_bind (wpAny_pure (wpAny_pure h))
theorem lookup_relS {sc:Scope}:∀ {names:List (Str × NameKind)} {x:Str} {k:NameKind},
  (names.map fun (n,k)=>if (k == NameKind.free && sc.kind == .function && sc.names.lookup n == some .cell) then (n,NameKind.cell) else (n,k)).lookup x = some k →
  ∃ k',names.lookup x = some k'∧(k = k'∨(k' = .free∧k = .cell))
 | [],_,_,h=>by simp at h
 | (n,k₀) :: r,x,k,h=>by
   have ih:=@lookup_relS sc r x k
   have h':List.lookup x ((if (k₀ == NameKind.free && sc.kind == .function && sc.names.lookup n == some .cell) = true then (n,NameKind.cell) else (n,k₀)) :: (r.map _)) = some k:=h
   cases hx:x == n with
   | true =>
     simp only [List.lookup_cons,hx]
     by_cases hc:(k₀ == NameKind.free && sc.kind == .function && sc.names.lookup n == some .cell) = true
     · rw [if_pos hc] at h'
       simp only [List.lookup_cons,hx] at h'
       cases h'
       simp only [Bool.and_eq_true,beq_iff_eq] at hc
       exact ⟨k₀,rfl,.inr ⟨hc.1.1,rfl⟩⟩
     · rw [if_neg hc] at h'
       simp only [List.lookup_cons,hx] at h'
       cases h'
       exact ⟨_,rfl,.inl rfl⟩
   | false =>
     simp only [List.lookup_cons,hx]
     by_cases hc:(k₀ == NameKind.free && sc.kind == .function && sc.names.lookup n == some .cell) = true
     · rw [if_pos hc] at h'
       simp only [List.lookup_cons,hx] at h'
       exact ih h'
     · rw [if_neg hc] at h'
       simp only [List.lookup_cons,hx] at h'
       exact ih h'
structure BlkOk (N:List Str) (sc scope:Scope) (own:List (Str × Nat)):Prop where
 kind:scope.kind = .function
 uniq:∀ y∈scope.names,scope.names.lookup y.1 = some y.2
 ix:∀ p∈own,N[p.2]? = some p.1
 free:∀ y∈scope.names,y.2 = .free→sc.names.lookup y.1 = some .cell∨sc.names.lookup y.1 = some .free
 own:∀ y∈scope.names,y.2 = .local∨y.2 = .cell→y.1∈own.map (·.1)∨y.1 ∉ N
def wipe (σ:St):List Nat→St
 | []=>σ
 | v :: vs=>(wipe σ vs).set v none
theorem wipe_length (σ:St):∀ vs:List Nat,(wipe σ vs).length = σ.length
 | []=>rfl
 | v :: vs=>by unfold wipe; rw [List.length_set,wipe_length σ vs]
theorem wipe_some {σ:St} {i:Nat} {x:V}:∀ {vs:List Nat},(wipe σ vs)[i]? = some (some x)→σ[i]? = some (some x)∧i ∉ vs
 | [],h=>⟨h,by simp⟩
 | v :: vs,h=>by
   unfold wipe at h
   by_cases hi:v = i
   · subst hi
     by_cases hv:v < (wipe σ vs).length
     · rw [List.getElem?_set_self hv] at h; cases h
     · rw [List.getElem?_eq_none (by simpa using hv)] at h; cases h
   · rw [List.getElem?_set_ne hi] at h
     obtain ⟨h1,h2⟩:=wipe_some h
     exact ⟨h1,by simp only [List.mem_cons,not_or]; exact ⟨fun e=>hi e.symm,h2⟩⟩
abbrev Cx.blk (X:Cx) (s:Shared) (H:Hp) (scope:Scope) (cenv:Env) (fp:List Addr):Cx:={ X with s_0:=s,H_0:=H,env:=cenv,outer:=X.stack,ex:=fp,fn:=fun x=>scope.names.lookup x == some .cell,pn:=[],xe:=fun _ _=>False }
section
variable {X:Cx} {pins:List (Addr × Obj)} {σ:St} {H:Hp} {s:Shared}
theorem block_start {scope:Scope} {own:List (Str × Nat)} {fp:List Addr} (I:Inv X pins σ H s) (ok:BlkOk X.N X.env.scope scope own) (hN:X.N.Nodup) (hfp:∀ b∈fp,FpOk X pins H b∧b < s.heap.objs.size) :
  Inv (X.blk s H scope (compEnvC scope (cellsFrom (s.heap.objs.size + 1) scope.names (cloFrom X.env.cells scope.names [])) s.heap.objs.size X.env) fp) [] (wipe σ (own.map (·.2))) H { s with heap:=pushCells (s.heap.push { cls:=.type "dict",data:=.dict #[] }) scope.names }:=by
 have hfree:∀ y∈scope.names,y.2 = .free→∃ c,X.env.cells.lookup y.1 = some c:=fun y hy e=>by
  rcases ok.free y hy e with k | k
  · exact I.ok.has _ (.inl k)
  · exact I.ok.has _ (.inr k)
 generalize hcenv:compEnvC scope (cellsFrom (s.heap.objs.size + 1) scope.names (cloFrom X.env.cells scope.names [])) s.heap.objs.size X.env = cenv
 have kp:∀ b o,s.heap.get? b = some o→(pushCells (s.heap.push { cls:=.type "dict",data:=.dict #[] }) scope.names).get? b = some o:=fun b o e=>pushCells_keeps _ _ _ _ (Heap.get?_push_of_some _ e)
 have hL:cenv.locals = s.heap.objs.size:=by rw [← hcenv]; rfl
 have hcl:cenv.cells = cellsFrom (s.heap.objs.size + 1) scope.names (cloFrom X.env.cells scope.names []):=by rw [← hcenv]; rfl
 have hsc:cenv.scope = relS scope X.env.scope:=by rw [← hcenv]; rfl
 rw [← Heap.size_push s.heap { cls:=.type "dict",data:=.dict #[] }] at hcl
 have cm:∀ {y c},(y,c)∈cloFrom X.env.cells scope.names []→X.env.cells.lookup y = some c∧c < s.heap.objs.size:=fun {y c} hm=>by
  rcases cloFrom_mem hm with hm | ⟨h1,rfl⟩
  · cases hm
  · obtain ⟨c,hc⟩:=hfree _ h1 rfl
    rw [hc]
    obtain ⟨w,z⟩:=I.cell _ _ hc
    exact ⟨rfl,z.lt⟩
 have mem:∀ {y c},cenv.cells.lookup y = some c→(X.env.cells.lookup y = some c∧c < s.heap.objs.size)∨(s.heap.objs.size + 1≤c∧CellAt (pushCells (s.heap.push { cls:=.type "dict",data:=.dict #[] }) scope.names) c none):=fun {y c} e=>by
  rw [hcl] at e
  rcases cells_mem (PySem.mem_of_lookup e) with hm | ⟨_,h2,h3⟩
  · exact .inl (cm hm)
  · rw [Heap.size_push] at h2; exact .inr ⟨h2,h3⟩
 have look:∀ {y},scope.names.lookup y = some .free→∃ c,cenv.cells.lookup y = some c∧X.env.cells.lookup y = some c:=fun {y} hl=>by
  have hy:(y,NameKind.free)∈scope.names:=PySem.mem_of_lookup hl
  obtain ⟨c',e'⟩:=mem_lookup (cells_acc (names:=scope.names) (n:=(s.heap.push { cls:=.type "dict",data:=.dict #[] }).objs.size) (cloFrom_has (cells:=X.env.cells) (acc:=[]) hy))
  rw [← hcl] at e'
  refine ⟨c',e',?_⟩
  rw [hcl] at e'
  rcases cells_mem (PySem.mem_of_lookup e') with hm | ⟨h1,_,_⟩
  · exact (cm hm).1
  · have:=ok.uniq _ h1
    rw [hl] at this; cases this
 have okB:(X.blk s H scope cenv fp).Ok:=by
  refine ⟨I.ok.mod,by show cenv.scope.kind = _; rw [hsc]; exact ok.kind,by show cenv.globals = _; rw [← hcenv]; exact I.ok.glob,by show cenv.builtins = _; rw [← hcenv]; exact I.ok.blt,by show s.heap.objs.size≤cenv.locals; rw [hL]; exact Nat.le_refl _,
   fun y z c e1 e2=>?_,fun y hy=>?_,fun y c z e=>?_,I.ok.hd,I.ok.frames,.inl rfl,fun b hb=>⟨?_,fun y c e z=>?_⟩,I.bs,Nat.le_trans I.ok.bsz I.sz,fun b o e hb=>?_,fun b hb z=>?_,I.stack,I.stkFree⟩
  · have e1:cenv.cells.lookup y = some c:=e1
    have e2:cenv.cells.lookup z = some c:=e2
    rw [hcl] at e1 e2
    refine cells_inj (fun p hp=>?_) (fun y z c a b=>I.ok.inj y z c (cm a).1 (cm b).1) (PySem.mem_of_lookup e1) (PySem.mem_of_lookup e2)
    rw [Heap.size_push]
    exact Nat.lt_succ_of_lt (cm (y:=p.1) (c:=p.2) hp).2
  · show ∃ c,cenv.cells.lookup y = some c
    have key:∀ k,cenv.kindOf y = some k→(k = .cell∨k = .free)→∃ c,cenv.cells.lookup y = some c:=fun k hk hk'=>by
     unfold Env.kindOf at hk
     rw [hsc] at hk
     obtain ⟨k',e,r⟩:=lookup_relS hk
     have:k' = .cell∨k' = .free:=by
      rcases r with rfl | ⟨rfl,_⟩
      · exact hk'
      · exact .inr rfl
     rcases this with rfl | rfl
     · obtain ⟨c,hm⟩:=cells_has (n:=(s.heap.push { cls:=.type "dict",data:=.dict #[] }).objs.size) (acc:=cloFrom X.env.cells scope.names []) (PySem.mem_of_lookup e)
       obtain ⟨c',e'⟩:=mem_lookup hm
       exact ⟨c',by rw [hcl]; exact e'⟩
     · obtain ⟨c,h1,_⟩:=look e
       exact ⟨c,h1⟩
    rcases hy with hy | hy
    · exact key _ hy (.inl rfl)
    · exact key _ hy (.inr rfl)
  · have z:(scope.names.lookup y == some NameKind.cell) = true:=z
    have z:scope.names.lookup y = some .cell:=by simpa using z
    have e:cenv.cells.lookup y = some c:=e
    rw [hcl] at e
    rcases cells_mem (PySem.mem_of_lookup e) with hm | ⟨_,h2,_⟩
    · rcases cloFrom_mem hm with hm | ⟨h1,_⟩
      · cases hm
      · have q:=ok.uniq _ h1
        rw [z] at q; cases q
    · rw [Heap.size_push] at h2
      exact Nat.le_of_succ_le h2
  · show b≠cenv.locals
    rw [hL]; exact Nat.ne_of_lt (hfp b hb).2
  · have e:cenv.cells.lookup y = some c:=e
    rcases mem e with ⟨h1,_⟩ | ⟨h1,_⟩
    · exact (hfp b hb).1.2.2.2.2.1 y c h1 z
    · have h2:s.heap.objs.size + 1≤b:=by rw [← z]; exact h1
      exact absurd (Nat.lt_of_lt_of_le (hfp b hb).2 (Nat.le_of_succ_le h2)) (Nat.lt_irrefl _)
  · rcases (hfp b hb).1.2.2.2.1 with z | z
    · exact I.ok.noex b o e z
    · exact absurd (Nat.lt_of_lt_of_le (Heap.lt_size e) (Nat.le_trans I.ok.bsz z)) (Nat.lt_irrefl _)
  · rcases List.mem_cons.mp (I.stkSub b z) with z | z
    · exact (hfp b hb).1.2.1 z
    · exact (hfp b hb).1.2.2.1 z
 refine ⟨okB,rfl,I.bare,Un.kept kp,⟨fun _=>none,?_,fun i y av e1 e2 e3=>?_⟩,fun y c e=>?_,?_,fun y c e=>?_,fun p hp=>?_,I.hok.kept kp,by rw [wipe_length]; exact I.len⟩
 · show Heap.Ns _ cenv.locals _
   rw [hL]
   exact Heap.Ns.keeps (Heap.Ns.new ..) fun b o e=>pushCells_keeps _ _ _ _ e
 · obtain ⟨e2,hne⟩:=wipe_some e2
   have hfr:scope.names.lookup y = some .free∧(cenv.kindOf y = some .cell∨cenv.kindOf y = some .free):=by
    have key:∀ k,cenv.scope.names.lookup y = some k→k = .local∨k = .cell∨k = .free→scope.names.lookup y = some .free∧(cenv.kindOf y = some .cell∨cenv.kindOf y = some .free):=fun k hk hk'=>by
     have hk0:=hk
     rw [hsc] at hk
     obtain ⟨k',e,r⟩:=lookup_relS hk
     have no:¬ (k' = .local∨k' = .cell):=fun hh=>by
      rcases ok.own _ (PySem.mem_of_lookup e) hh with e' | e'
      · obtain ⟨p,hp,hpy⟩:=List.mem_map.mp e'
        have e3:=ok.ix p hp
        have:p.1 = y:=hpy
        rw [this] at e3
        exact hne (List.mem_map.mpr ⟨p,hp,nodup_ix hN e3 e1⟩)
      · exact e' (List.mem_of_getElem? e1)
     rcases r with rfl | ⟨rfl,rfl⟩
     · rcases hk' with rfl | rfl | rfl
       · exact absurd (.inl rfl) no
       · exact absurd (.inr rfl) no
       · exact ⟨e,.inr hk0⟩
     · exact ⟨e,.inl hk0⟩
    have e3:Vis cenv.scope y:=e3
    rcases e3 with e3 | e3 | e3
    · exact key _ e3 (.inl rfl)
    · exact key _ e3 (.inr (.inl rfl))
    · exact key _ e3 (.inr (.inr rfl))
   obtain ⟨m,hn,hl⟩:=I.loc
   have hvis:Vis X.env.scope y:=(ok.free _ (PySem.mem_of_lookup hfr.1) rfl).elim (fun k=>.inr (.inl k)) (fun k=>.inr (.inr k))
   obtain ⟨w,r,q⟩:=hl i y av e1 e2 hvis
   refine ⟨w,r,.inr ⟨hfr.2,?_⟩⟩
   obtain ⟨c,h1,h2⟩:=look hfr.1
   rcases q with ⟨k,_⟩ | ⟨_,c',e',z⟩
   · have k:X.env.scope.names.lookup y = some .local:=k
     rcases ok.free _ (PySem.mem_of_lookup hfr.1) rfl with k' | k' <;> rw [show X.env.scope.names.lookup y = _ from k'] at k <;> cases k
   · rw [h2] at e'; cases e'
     exact ⟨c,h1,z.keeps kp⟩
 · have e:cenv.cells.lookup y = some c:=e
   rcases mem e with ⟨h1,_⟩ | ⟨_,z⟩
   · obtain ⟨w,z⟩:=I.cell y c h1
     exact ⟨w,z.keeps kp⟩
   · exact ⟨_,z⟩
 · show H cenv.locals = none
   rw [hL]; exact I.hok.fresh (Nat.le_refl _)
 · have e:cenv.cells.lookup y = some c:=e
   rcases mem e with ⟨h1,_⟩ | ⟨h1,_⟩
   · exact I.freeC y c h1
   · exact I.hok.fresh (Nat.le_of_succ_le h1)
 · exact absurd (show p∈([]:List (Addr × Obj)) ++ [] from hp) (by simp)
theorem app_ok {E:Value→Shared→Prop} {D:Addr} {xs:List V} {y:V} {v:Value} {Q:Value→Shared→Prop} (I:Inv X pins σ H s) (hD:H D = some (.lst xs)) (hz:xs.length < sizeLine) (r:RelV y v)
  (h:∀ s',Inv X pins σ (upd H D (.lst (xs ++ [y]))) s'→Q .none s'):wpAny (model X.prog X.w) X.A (call (.builtin "list.append") [.ref D,v]) Q E s:=by
 obtain ⟨hz',its,n,ri,e⟩:=I.hok D _ hD
 have hl:=ri.length
 refine append_at (hsz:=by rw [List.size_toArray]; omega) e fun h' sb ho'=>?_
 refine h { s with heap:=h' } (I.write (t':=s.toks) (by rw [hD]; trivial) (.inl rfl) (fun b u hb q=>(sb.2 b hb).trans q) ⟨_,ho'⟩ ⟨by rw [List.length_append]; exact hz,its ++ [v],n + 1,ri.append (.cons r .nil),?_⟩)
 rw [ho']
 simp
def PTs (X:Cx) (ifs:List Expr) (t:TT):Prop :=
 ∀ (pins:List (Addr × Obj)) (s:Shared) (σ:St) (H:Hp) (Q:Bool→Hp→Prop),Inv X pins σ H s→t σ H Q →
   wpAny (model X.prog X.w) X.A (forIn ifs true fun c r=>if r = true then do let ok ← isTrue c X.env (eval c X.env); pure (ForInStep.yield ok) else pure (ForInStep.yield r)) (TP X pins σ Q) X.xe s
def tYes:TT:=fun _ H Q=>Q true H
theorem pts_nil:PTs X [] tYes:=fun _ _ _ H _ I h=>wpAny_tests_nil ⟨H,I,h⟩
theorem pts_one {c:Expr} {t:TT} (h:PT X c t):PTs X [c] t:=fun pins s σ H Q I hw=>wpAny_tests_one (h pins s σ H Q I hw)
end
theorem thnF {α:Type} {t:Sem α} {Q Q':α→Shared→Prop} {M:Model} {A:Around} {E:Value→Shared→Prop} {s:Shared} (h:wpAny M A t Q (fun _ _=>False) s) (hQ:∀ a s,Q a s→Q' a s):wpAny M A t Q' E s:=wpAny_mono h hQ fun _ _ z=>False.elim z
theorem compLoop_any {prog:Program} {w:World} {A:Around} {R:Result→Shared→Prop} {s:Shared} {elt target iter:Expr} {ifs:List Expr} {scope:Scope} {pos:Pos} {it acc:Value} {env:Env} (I:Nat→Shared→Prop)
  (turn:∀ n s,I n s→wpAny (model prog w) A (pyNext it) (fun r s₁=>match r with
   | none=>R (.ok .next) s₁
   | some v=>wpAny (model prog w) A (letOwnedTupleGo target it v) (fun _ s₁'=>wpAny (model prog w) A (assign target env v) (fun _ s₂ =>
     wpAny (model prog w) A (forIn ifs true fun c r=>if r = true then do let ok ← isTrue c env (eval c env); pure (ForInStep.yield ok) else pure (ForInStep.yield r)) (fun ok s₃ =>
      if ok = true then wpAny (model prog w) A (eval elt env) (fun x s₄ =>
       wpAny (model prog w) A (call (.builtin "list.append") [acc,x]) (fun _ s₅=>∃ m,m < n∧I m s₅) (notedBy (model prog w) A env fun e s'=>R (.error e) s') s₄) (notedBy (model prog w) A env fun e s'=>R (.error e) s') s₃
      else ∃ m,m < n∧I m s₃) (notedBy (model prog w) A env fun e s'=>R (.error e) s') s₂) (notedBy (model prog w) A env fun e s'=>R (.error e) s') s₁') (notedBy (model prog w) A env fun e s'=>R (.error e) s') s₁) (notedBy (model prog w) A env fun e s'=>R (.error e) s') s)
  (n:Nat) (h:I n s) :
  codeAny (model prog w) A (.compLoop (.ListComp elt [⟨target,iter,ifs,0⟩] scope pos) 0 it acc env) R s:=by
 refine codeAny_loop rfl I (fun n s hI=>?_) n h
 show wpAny _ A ((compTurn (.ListComp elt [⟨target,iter,ifs,0⟩] scope pos) 0 it acc env).onRaise (fun x=>do noteFrame x env; theTreesLotGoes x)) _ _ s
 refine wpAny_noted ?_
 rw [compTurn_list]
 refine wpAny_bind (wpAny_standAt (wpAny_bind (wpAny_mono (turn n s hI) (fun r s₁ h₁=>?_) fun _ _ h'=>h')))
 cases r with
 | none=>exact wpAny_pure h₁
 | some v =>
   refine wpAny_bind (wpAny_mono h₁ (fun _ s₁' h₁'=>?_) fun _ _ h'=>h')
   refine wpAny_bind (wpAny_mono h₁' (fun _ s₂ h₂=>wpAny_bind (wpAny_mono h₂ (fun ok s₃ h₃=>?_) fun _ _ h'=>h')) fun _ _ h'=>h')
   cases ok with
   | false=>exact wpAny_pure ⟨rfl,h₃⟩
   | true =>
     exact wpAny_bind (wpAny_bind (wpAny_mono h₃ (fun x s₄ h₄=>wpAny_bind (wpAny_mono h₄ (fun _ s₅ h₅=>wpAny_pure (wpAny_pure ⟨rfl,h₅⟩)) fun _ _ h'=>h')) fun _ _ h'=>h'))
section
variable {X:Cx}
def tLc (wi:TI) (g:TG) (tt:TT) (te:TE) (vs:List Nat):TE:=fun σ H Q=>wi σ H fun J H1=>∀ D,H1 D = none→∃ W:Nat→Nat→Hp→Prop,(∃ m,W 0 m (upd H1 D (.lst [])))∧∀ i m H,W i m H →
 (J.stop i H∧Q (.ref D) H)∨(J.go i H∧∃ Nx:Hp→Prop,(∀ H',Nx H'→∃ m',m' < m∧W (i + 1) m' H')∧∀ x H',J.yld i H x H'→g x (wipe σ vs) H' fun σ2 H2=>wipe σ2 vs = wipe σ vs∧tt σ2 H2 fun b H3 =>
  if b = true then te σ2 H3 fun y H4=>∃ acc,H4 D = some (.lst acc)∧acc.length < sizeLine∧Nx (upd H4 D (.lst (acc ++ [y]))) else Nx H3)
theorem lc_core {pins:List (Addr × Obj)} {s:Shared} {σ:St} {H:Hp} {Q:VK} {elt tg iter:Expr} {ifs:List Expr} {scope:Scope} {own:List (Str × Nat)} {pos pos':Pos} {wi:TI} {g:TG} {tt:TT} {te:TE} {use:Option (Value→Sem Unit)} {Qf:Value→Shared→Prop}
  (hc:X.calm = true) (hN:X.N.Nodup) (I:Inv X pins σ H s) (hi:PI X tg iter wi) (ok:BlkOk X.N X.env.scope scope own)
  (hg:∀ (s:Shared) (H:Hp) (C:Addr) (cl:List (Str × Addr)) (fp:List Addr),PG (X.blk s H scope (compEnvC scope cl C X.env) fp) tg g) (ht:∀ (s:Shared) (H:Hp) (C:Addr) (cl:List (Str × Addr)) (fp:List Addr),PTs (X.blk s H scope (compEnvC scope cl C X.env) fp) ifs tt)
  (he:∀ (s:Shared) (H:Hp) (C:Addr) (cl:List (Str × Addr)) (fp:List Addr),PE (X.blk s H scope (compEnvC scope cl C X.env) fp) elt te) (hs:∀ x,foldedSetIterable iter X.env x = pure x)
  (h:tLc wi g tt te (own.map (·.2)) σ H Q)
  (hRR:∀ D C s' m H',Inv X pins σ H' s'→Q (.ref D) H'→s'.heap.Ns C m→FpOk X pins H' C→compPost (model X.prog X.w) X.A X.xe use Qf (.ref D) C (.ok .next) s') :
  wpAny (model X.prog X.w) X.A (comprehension (.ListComp elt [⟨tg,iter,ifs,0⟩] scope pos) scope X.env pos' (newList []) false (eval iter X.env) use) Qf X.xe s:=by
 have hfree:∀ y∈scope.names,y.2 = .free→∃ c,X.env.cells.lookup y.1 = some c:=fun y hy e=>by
  rcases ok.free y hy e with k | k
  · exact I.ok.has _ (.inl k)
  · exact I.ok.has _ (.inr k)
 refine wpAny_comprehension_free (use:=use) rfl hs (closure_ok hfree) ok.kind (fun y hy e=>by rw [ok.uniq y hy,e])
  (thn (hi pins s σ H _ I h) fun xv s1 hx=>thn hx fun itv s2 h2=>?_)
 obtain ⟨it,fp,tn,J,H2,e,I2,T,st2,f2,q⟩:=h2
 subst e
 refine wpAny_newObj_type (newEnv_comp ?_) (by show 0≤sizeLine; decide)
 generalize hD:s2.heap.objs.size = D
 have hDn:H2 D = none:=I2.hok.fresh (Nat.le_of_eq hD)
 obtain ⟨W,⟨m0,w0⟩,turn⟩:=q D hDn
 generalize hs3:({ s2 with heap:=s2.heap.push { cls:=.type "list",data:=.seq ([]:List Value).toArray } }:Shared) = s3
 have I3:Inv X pins σ (upd H2 D (.lst [])) s3:=by
  rw [← hs3]
  refine I2.laid (t':=s2.toks) (fun b o e=>Heap.get?_push_of_some _ e) (Nat.le_of_eq hD) ⟨Nat.zero_le _,[],0,.nil,?_⟩
  rw [← hD]
  exact Heap.get?_push_size _ rfl
 have h3:s3.heap = s2.heap.push { cls:=.type "list",data:=.seq ([]:List Value).toArray }:=by rw [← hs3]
 have sz:∀ b∈fp,b < s2.heap.objs.size:=fun b hb=>by
  obtain ⟨o,e,_⟩:=T.obj _ _ st2 b hb
  exact Heap.lt_size e
 have f3:∀ b∈fp,FpOk X pins (upd H2 D (.lst [])) b∧b < s3.heap.objs.size:=fun b hb=>by
  have hlt:=sz b hb
  refine ⟨⟨?_,(f2 b hb).2⟩,by rw [h3,Heap.size_push]; exact Nat.lt_succ_of_lt hlt⟩
  rw [upd_ne (by rw [← hD]; exact Nat.ne_of_lt hlt)]
  exact (f2 b hb).1
 have st3:tn 0 s3.heap:=T.keep _ _ _ st2 fun b _ o e=>by rw [h3]; exact Heap.get?_push_of_some _ e
 have I4:=block_start I3 ok hN f3
 have pg:=hg s3 (upd H2 D (.lst [])) s3.heap.objs.size (cellsFrom (s3.heap.objs.size + 1) scope.names (cloFrom X.env.cells scope.names [])) fp
 have pt:=ht s3 (upd H2 D (.lst [])) s3.heap.objs.size (cellsFrom (s3.heap.objs.size + 1) scope.names (cloFrom X.env.cells scope.names [])) fp
 have pe:=he s3 (upd H2 D (.lst [])) s3.heap.objs.size (cellsFrom (s3.heap.objs.size + 1) scope.names (cloFrom X.env.cells scope.names [])) fp
 show codeAny _ _ (.compStart (.ListComp elt [⟨tg,iter,ifs,0⟩] scope pos) 0 (.ref it) (.ref D) (compEnvC scope (cellsFrom (s3.heap.objs.size + 1) scope.names (cloFrom X.env.cells scope.names [])) s3.heap.objs.size X.env)) (compPost (model X.prog X.w) X.A X.xe use Qf (.ref D) s3.heap.objs.size) { s3 with heap:=pushCells (s3.heap.push { cls:=.type "dict",data:=.dict #[] }) scope.names }
 have nfp:∀ b∈fp,(upd H2 D (.lst [])) b = none:=fun b hb=>(f3 b hb).1.1
 generalize hce:compEnvC scope (cellsFrom (s3.heap.objs.size + 1) scope.names (cloFrom X.env.cells scope.names [])) s3.heap.objs.size X.env = ce at I4 pg pt pe ⊢
 have cL:ce.locals = s3.heap.objs.size:=by subst hce; rfl
 generalize hH3:upd H2 D (.lst []) = H3 at I3 I4 pg pt pe w0 nfp f3
 generalize hs4:({ s3 with heap:=pushCells (s3.heap.push { cls:=.type "dict",data:=.dict #[] }) scope.names }:Shared) = s4 at I4 ⊢
 have st4:tn 0 s4.heap:=T.keep _ _ _ st3 fun b _ o e=>by rw [← hs4]; exact pushCells_keeps _ _ _ _ (Heap.get?_push_of_some _ e)
 have stat:∀ {σ':St} {H':Hp} {s':Shared},Inv (X.blk s3 H3 scope ce fp) [] σ' H' s'→(∀ b∈fp,H' b = none)→∀ b∈fp,FpOk (X.blk s3 H3 scope ce fp) [] H' b:=fun {σ' H' s'} I' hn b hb =>
  ⟨hn b hb,(I'.ok.exf b hb).1,I'.ok.exfs b hb,.inl hb,fun x c e=>(I'.ok.exf b hb).2 x c e,fun p hp=>absurd (show p∈([]:List (Addr × Obj)) ++ [] from hp) (by simp)⟩
 have loop:codeAny (model X.prog X.w) X.A (.compLoop (.ListComp elt [⟨tg,iter,ifs,0⟩] scope pos) 0 (.ref it) (.ref D) ce) (compPost (model X.prog X.w) X.A X.xe use Qf (.ref D) s3.heap.objs.size) s4:=by
  refine compLoop_any (fun n s'=>∃ i H',Inv (X.blk s3 H3 scope ce fp) [] (wipe σ (own.map (·.2))) H' s'∧tn i s'.heap∧(∀ b∈fp,H' b = none)∧W i n H') ?_ m0 ⟨0,H3,I4,st4,nfp,w0⟩
  rintro n s5 ⟨i,H5,I5,st5,n5,w5⟩
  rcases turn i n H5 w5 with ⟨stop,qq⟩ | ⟨go,Nx,hNx,step⟩
  · have td:=T.done (X.blk s3 H3 scope ce fp) rfl rfl rfl hc i [] s5 _ H5 (fun _ _=>False) I5 (stat I5 n5) st5 stop
    refine thnF td fun r s6 ⟨hr,I6⟩=>?_
    subst hr
    have I7:Inv X pins σ H5 s6:=I3.call' (ch:=fp) I6.os I6.base I6.hok I6.bare fun b hb=>⟨(f3 b hb).1.2.2.2.1,(f3 b hb).1.2.1,(f3 b hb).1.2.2.2.2.1,(f3 b hb).1.2.2.2.2.2⟩
    have nC:H5 s3.heap.objs.size = none:=by
     have z:H5 ce.locals = none:=I6.free
     rw [cL] at z
     exact z
    obtain ⟨m,hn,_⟩:=I6.loc
    have hn:s6.heap.Ns ce.locals m:=hn
    rw [cL] at hn
    exact hRR D s3.heap.objs.size s6 m H5 I7 qq hn (I3.fpOk (Nat.le_refl _) nC)
  · have ti:=T.item (X.blk s3 H3 scope ce fp) rfl rfl rfl hc i [] s5 _ H5 (fun _ _=>False) I5 (stat I5 n5) st5 go
    refine thnF ti fun r s6 ⟨u,hr,h6⟩=>?_
    subst hr
    refine thnF h6 fun _ s7 ⟨x,H7,I7,r7,y7,st7,n7⟩=>?_
    have I7':=I7.pinned (stat I7 n7) (T.obj _ _ st7)
    refine thnF (pg _ s7 _ H7 x u _ I7' r7 (step x H7 y7)) fun _ s8 ⟨σ8,H8,I8,hw8,q8⟩=>?_
    refine thnF (pt _ s8 σ8 H8 _ I8 q8) fun b s9 ⟨H9,I9,q9⟩=>?_
    have fin:∀ {s':Shared} {H':Hp},Inv (X.blk s3 H3 scope ce fp) ([] ++ pinsAt fp s7.heap) σ8 H' s'→Nx H'→∃ m,m < n∧∃ i H',Inv (X.blk s3 H3 scope ce fp) [] (wipe σ (own.map (·.2))) H' s'∧tn i s'.heap∧(∀ b∈fp,H' b = none)∧W i m H':=fun {s' H'} I' nx=>by
     obtain ⟨m',hm,w'⟩:=hNx H' nx
     have pin':∀ b∈fp,∀ o,s7.heap.get? b = some o→s'.heap.get? b = some o∧H' b = none:=fun b hb o e =>
      let z:=I'.pin (b,o) (List.mem_append_right _ (List.mem_append_right _ (mem_pinsAt hb e)))
      ⟨z.1,z.2.1⟩
     have hl:(wipe σ (own.map (·.2))).length = σ8.length:=by rw [← hw8,wipe_length]
     refine ⟨m',hm,i + 1,H',(I'.unpinned (pins:=[])).weak hl (fun j v e=>?_),T.keep _ _ _ st7 fun b hb o e=>(pin' b hb o e).1,fun b hb=>?_,w'⟩
     · rw [← hw8] at e
       exact (wipe_some e).1
     · obtain ⟨o,e,_⟩:=T.obj _ _ st7 b hb
       exact (pin' b hb o e).2
    cases b with
    | false =>
      simp only [Bool.false_eq_true,if_false] at q9 ⊢
      exact fin I9 q9
    | true =>
      simp only [if_true] at q9 ⊢
      refine thnF (pe _ s9 σ8 H9 _ I9 q9) fun z s10 ⟨yv,H10,I10,r10,acc,hD10,hz10,nx⟩=>?_
      exact app_ok (X:=X.blk s3 H3 scope ce fp) I10 hD10 hz10 r10 fun s11 I11=>fin I11 nx
 exact codeAny_compStart_list loop (T.self X.A 0 _ _ _ st4 loop)
theorem pe_lc {elt tg iter:Expr} {ifs:List Expr} {scope:Scope} {own:List (Str × Nat)} {pos:Pos} {wi:TI} {g:TG} {tt:TT} {te:TE} (hc:X.calm = true) (hN:X.N.Nodup) (hi:PI X tg iter wi) (ok:BlkOk X.N X.env.scope scope own)
  (hg:∀ (s:Shared) (H:Hp) (C:Addr) (cl:List (Str × Addr)) (fp:List Addr),PG (X.blk s H scope (compEnvC scope cl C X.env) fp) tg g) (ht:∀ (s:Shared) (H:Hp) (C:Addr) (cl:List (Str × Addr)) (fp:List Addr),PTs (X.blk s H scope (compEnvC scope cl C X.env) fp) ifs tt)
  (he:∀ (s:Shared) (H:Hp) (C:Addr) (cl:List (Str × Addr)) (fp:List Addr),PE (X.blk s H scope (compEnvC scope cl C X.env) fp) elt te) (hs:∀ x,foldedSetIterable iter X.env x = pure x:=by intro _; rfl) :
  PE X (.ListComp elt [⟨tg,iter,ifs,0⟩] scope pos) (tLc wi g tt te (own.map (·.2))):=by
 intro pins s σ H Q I h
 rw [eval_ListComp]
 refine lc_core hc hN I hi ok hg ht he hs h fun D C s' m H' I' q hn f=>⟨m,hn,fun h'' sb=>?_⟩
 obtain ⟨f0,f1,f2,f3,f4,f5⟩:=f
 exact ⟨.ref D,H',I'.turned (t':=s'.toks) (fun b o hb e=>(sb.2 b hb).trans e) f0 f1 f3 f4 f5,rfl,q⟩
end
theorem lc_list {K:PySem.W.Frag} {a:Addr} {xs:List V} {g:TG} {tt:TT} {te:TE} {vs:List Nat} {σ:St} {H1:Hp} {D:Addr} {Qd:Hp→Prop} (Pv:Nat→Hp→Prop) (h0:Pv 0 (upd H1 D (.lst []))) (hl:∀ i H,i≤xs.length→Pv i H→SqL K H a xs)
  (hs:∀ i x H,xs[i]? = some x→Pv i H→g x (wipe σ vs) H fun σ2 H2=>wipe σ2 vs = wipe σ vs∧tt σ2 H2 fun b H3 =>
   if b = true then te σ2 H3 fun y H4=>∃ acc,H4 D = some (.lst acc)∧acc.length < sizeLine∧Pv (i + 1) (upd H4 D (.lst (acc ++ [y]))) else Pv (i + 1) H3) (hd:∀ H,Pv xs.length H→Qd H) :
  ∃ W:Nat→Nat→Hp→Prop,(∃ m,W 0 m (upd H1 D (.lst [])))∧∀ i m H,W i m H →
    ((Itl K a).stop i H∧Qd H)∨((Itl K a).go i H∧∃ Nx:Hp→Prop,(∀ H',Nx H'→∃ m',m' < m∧W (i + 1) m' H')∧∀ x H',(Itl K a).yld i H x H'→g x (wipe σ vs) H' fun σ2 H2=>wipe σ2 vs = wipe σ vs∧tt σ2 H2 fun b H3 =>
      if b = true then te σ2 H3 fun y H4=>∃ acc,H4 D = some (.lst acc)∧acc.length < sizeLine∧Nx (upd H4 D (.lst (acc ++ [y]))) else Nx H3):=by
 refine ⟨fun i m H=>m = xs.length - i∧i≤xs.length∧Pv i H,⟨xs.length,by simp,Nat.zero_le _,h0⟩,?_⟩
 rintro i m H ⟨rfl,hi,p⟩
 have q:=hl i H hi p
 by_cases hlt:i < xs.length
 · refine .inr ⟨⟨xs,xs[i],q,by simp [hlt]⟩,Pv (i + 1),fun H' p'=>⟨xs.length - (i + 1),by omega,rfl,hlt,p'⟩,fun x H' y=>?_⟩
   obtain ⟨e,y⟩:=y
   subst e
   exact hs i x _ (y xs q) p
 · have e:i = xs.length:=by omega
   subst e
   exact .inl ⟨⟨xs,q,Nat.le_refl _⟩,hd H p⟩
def blkC (N:List Str) (sc scope:Scope) (own:List (Str × Nat)):Bool :=
 (match scope.kind with | .function=>true | _=>false) && (scope.names.all fun y=>decide (scope.names.lookup y.1 = some y.2)) && (own.all fun p=>decide (N[p.2]? = some p.1)) &&
  (scope.names.all fun y=>match y.2 with
   | .free=>(match sc.names.lookup y.1 with | some .cell=>true | some .free=>true | _=>false)
   | .local=>decide (y.1∈own.map (·.1)) || decide (y.1 ∉ N)
   | .cell=>decide (y.1∈own.map (·.1)) || decide (y.1 ∉ N)
   | _=>true)
theorem blkOk_by {N:List Str} {sc scope:Scope} {own:List (Str × Nat)} (h:blkC N sc scope own = true):BlkOk N sc scope own:=by
 unfold blkC at h
 simp only [Bool.and_eq_true,List.all_eq_true,decide_eq_true_eq] at h
 obtain ⟨⟨⟨h1,h2⟩,h3⟩,h4⟩:=h
 refine ⟨?_,h2,h3,fun y hy e=>?_,fun y hy e=>?_⟩
 · split at h1
   · assumption
   · cases h1
 · have q:=h4 y hy
   simp only [e] at q
   split at q <;> first | exact .inl (by assumption) | exact .inr (by assumption) | cases q
 · have q:=h4 y hy
   rcases e with e | e <;> (simp only [e,Bool.or_eq_true,decide_eq_true_eq] at q; exact q)
end L2
namespace L2
open PySem PySem.Spec PyProof.Rows
end L2
namespace L2
open PySem PySem.Spec PyProof.Rows
section
variable {κ:Type} [DecidableEq κ]
def valV (kvs:List (κ × V)) (k:κ):Option V:=(kvs.find? fun kv=>decide (kv.1 = k)).map (·.2)
def putK (kvs:List (κ × V)) (k:κ) (v:V):List (κ × V) :=
 if (kvs.any fun kv=>decide (kv.1 = k)) = true then kvs.map (fun kv=>if kv.1 = k then (kv.1,v) else kv) else kvs ++ [(k,v)]
theorem valV_pos {p:κ × V} {r:List (κ × V)} {k:κ} (e:p.1 = k):valV (p :: r) k = some p.2:=by simp [valV,List.find?_cons,e]
theorem valV_neg {p:κ × V} {r:List (κ × V)} {k:κ} (e:¬ p.1 = k):valV (p :: r) k = valV r k:=by simp [valV,List.find?_cons,e]
theorem valV_any (k:κ):∀ kvs:List (κ × V),(kvs.any fun kv=>decide (kv.1 = k)) = (valV kvs k).isSome
 | []=>rfl
 | p :: r=>by
   rw [List.any_cons]
   by_cases e:p.1 = k
   · simp only [valV_pos e,decide_eq_true e,Bool.true_or,Option.isSome_some]
   · rw [valV_neg e,decide_eq_false e,Bool.false_or]; exact valV_any k r
theorem length_putK (kvs:List (κ × V)) (k:κ) (v:V):(putK kvs k v).length≤kvs.length + 1:=by
 unfold putK
 split
 · rw [List.length_map]; omega
 · rw [List.length_append,List.length_cons,List.length_nil]; omega
theorem putK_new {kvs:List (κ × V)} {k:κ} (v:V) (h:valV kvs k = none):putK kvs k v = kvs ++ [(k,v)]:=by
 unfold putK
 rw [valV_any,h]
 exact if_neg (by decide)
theorem RelO.isSome_eq {o:Option V} {u:Option Value} (r:RelO o u):o.isSome = u.isSome:=by
 cases o with
 | none=>cases u with
   | none=>rfl
   | some _=>exact (show False from r).elim
 | some _=>cases u with
   | none=>exact (show False from r).elim
   | some _=>rfl
theorem RelO.getD {o:Option V} {u:Option Value} {d:V} {d':Value} (r:RelO o u) (rd:RelV d d'):RelV (o.getD d) (u.getD d'):=by
 cases o with
 | none=>cases u with
   | none=>exact rd
   | some _=>exact (show False from r).elim
 | some _=>cases u with
   | none=>exact (show False from r).elim
   | some _=>exact r
theorem KV.val {kvs:List (κ × V)} {vs:List (κ × Value)} (r:KV kvs vs) (k:κ):RelO (valV kvs k) (valueAt vs k):=by
 unfold KV at r
 induction r with
 | nil=>exact True.intro
 | @cons p q ps qs h t ih =>
   obtain ⟨h1,h2⟩:=h
   by_cases e:p.1 = k
   · have e':q.1 = k:=h1.symm.trans e
     have b:valueAt (q :: qs) k = some q.2:=by simp [valueAt,List.find?_cons,e']
     rw [valV_pos e,b]; exact h2
   · have e':¬ q.1 = k:=fun z=>e (h1.trans z)
     have b:valueAt (q :: qs) k = valueAt qs k:=by simp [valueAt,List.find?_cons,e']
     rw [valV_neg e,b]; exact ih
theorem KV.any {kvs:List (κ × V)} {vs:List (κ × Value)} (r:KV kvs vs) (k:κ):(kvs.any fun kv=>decide (kv.1 = k)) = vs.any fun kv=>decide (kv.1 = k):=by
 unfold KV at r
 induction r with
 | nil=>rfl
 | cons h t ih=>rw [List.any_cons,List.any_cons,ih,h.1]
theorem KV.repl {kvs:List (κ × V)} {vs:List (κ × Value)} (r:KV kvs vs) (k:κ) {y:V} {u:Value} (ry:RelV y u) :
  KV (kvs.map fun kv=>if kv.1 = k then (kv.1,y) else kv) (vs.map fun kv=>if kv.1 = k then (kv.1,u) else kv):=by
 unfold KV at r ⊢
 induction r with
 | nil=>exact .nil
 | @cons p q ps qs h t ih =>
   rw [List.map_cons,List.map_cons]
   refine .cons ?_ ih
   obtain ⟨h1,h2⟩:=h
   by_cases e:p.1 = k
   · rw [if_pos e,if_pos (h1.symm.trans e)]; exact ⟨h1,ry⟩
   · rw [if_neg e,if_neg (fun z=>e (h1.trans z))]; exact ⟨h1,h2⟩
theorem KV.put {kvs:List (κ × V)} {vs:List (κ × Value)} (r:KV kvs vs) (k:κ) {y:V} {u:Value} (ry:RelV y u):KV (putK kvs k y) (stored vs k u):=by
 unfold putK stored
 rw [r.any k]
 by_cases e:(vs.any fun kv=>decide (kv.1 = k)) = true
 · rw [if_pos e,if_pos e]; exact r.repl k ry
 · rw [if_neg e,if_neg e]; exact Paired.snoc r ⟨rfl,ry⟩
theorem KV.length {kvs:List (κ × V)} {vs:List (κ × Value)} (r:KV kvs vs):kvs.length = vs.length:=Paired.length r
end
theorem kV_is {P:Program} {w:World} {k:Key} {u:Value} (r:RelV (kV k) u):(mixKind P w).is k u = true:=by
 cases k with
 | inl i=>obtain ⟨t,e⟩:=(show ∃ t,u = Value.int i t from r); subst e; exact mixKind_int P w i t
 | inr x=>obtain ⟨t,e⟩:=(show ∃ t,u = Value.str x t from r); subst e; exact mixKind_str P w x t
theorem items_are {P:Program} {w:World}:∀ {ks:List Key} {us:List Value},Vals (ks.map kV) us→ItemsAre (mixKind P w) ks us
 | [],_,r=>by rw [List.map_nil] at r; cases r; exact .nil
 | k :: ks,_,r=>by
   rw [List.map_cons] at r
   cases r with
   | cons h t=>exact .cons (kV_is h) (items_are t)
abbrev KT (H:Hp):List (List Key × V)→List (List Key × Addr × Value)→Prop:=Paired fun p q=>p.1 = q.1∧H q.2.1 = some (.tup (p.1.map kV))∧RelV p.2 q.2.2
theorem KT.val {H:Hp} {kvs:List (List Key × V)} {xs:List (List Key × Addr × Value)} (r:KT H kvs xs) (k:List Key):RelO (valV kvs k) ((atKey xs k).map (·.2)):=by
 induction r with
 | nil=>exact True.intro
 | @cons p q ps qs h t ih =>
   obtain ⟨h1,_,h2⟩:=h
   by_cases e:p.1 = k
   · have e':q.1 = k:=h1.symm.trans e
     have b:atKey (q :: qs) k = some q.2:=by simp [atKey,List.find?_cons,e']
     rw [valV_pos e,b]; exact h2
   · have e':¬ q.1 = k:=fun z=>e (h1.trans z)
     have b:atKey (q :: qs) k = atKey qs k:=by simp [atKey,List.find?_cons,e']
     rw [valV_neg e,b]; exact ih
theorem KT.repl {H:Hp} {kvs:List (List Key × V)} {xs:List (List Key × Addr × Value)} (r:KT H kvs xs) (k:List Key) {y:V} {u:Value} (ry:RelV y u) :
  KT H (kvs.map fun kv=>if kv.1 = k then (kv.1,y) else kv) (xs.map (putAt k u)):=by
 induction r with
 | nil=>exact .nil
 | @cons p q ps qs h t ih =>
   rw [List.map_cons,List.map_cons]
   refine .cons ?_ ih
   obtain ⟨h1,h2,h3⟩:=h
   unfold putAt
   by_cases e:p.1 = k
   · rw [if_pos e,if_pos (h1.symm.trans e)]; exact ⟨h1,h2,ry⟩
   · rw [if_neg e,if_neg (fun z=>e (h1.trans z))]; exact ⟨h1,h2,h3⟩
theorem KT.put {H:Hp} {kvs:List (List Key × V)} {xs:List (List Key × Addr × Value)} (r:KT H kvs xs) (k:List Key) {b:Addr} {y:V} {u:Value} (hb:H b = some (.tup (k.map kV))) (ry:RelV y u) :
  KT H (putK kvs k y) (storedH xs k b u):=by
 have e:(kvs.any fun kv=>decide (kv.1 = k)) = (atKey xs k).isSome:=by
  rw [valV_any,(r.val k).isSome_eq,Option.isSome_map]
 unfold putK storedH
 rw [e]
 by_cases q:(atKey xs k).isSome = true
 · rw [if_pos q,if_pos q]; exact r.repl k ry
 · rw [if_neg q,if_neg q]; exact Paired.snoc r ⟨rfl,hb,ry⟩
theorem KT.keeps {H H':Hp} {kvs:List (List Key × V)} {xs:List (List Key × Addr × Value)} (r:KT H kvs xs) (ht:∀ b ys,H b = some (.tup ys)→H' b = some (.tup ys)):KT H' kvs xs :=
 Paired.mapP r fun _ _ z=>⟨z.1,ht _ _ z.2.1,z.2.2⟩
section
variable {P:Program} {w:World} {H:Hp} {h:Heap} {a:Addr}
theorem rd_of {u:HO} (ok:HOk P w H h) (e:Rd H a u):ObjOk P w H h a u:=e.ok ok
theorem dk_rd {kvs:List (Key × V)} (ok:HOk P w H h) (e:Rd H a (.dK kvs)):kvs.length≤sizeLine∧(a == sysModules) = false∧∃ vs,KV kvs vs∧h.DictOf (mixKind P w) a vs :=
 show ObjOk P w H h a (.dK kvs) from rd_of ok e
theorem dk_of {kvs:List (Key × V)} (ok:HOk P w H h) (e:H a = some (.dK kvs)):kvs.length≤sizeLine∧(a == sysModules) = false∧∃ vs,KV kvs vs∧h.DictOf (mixKind P w) a vs:=dk_rd ok (.inl e)
theorem key_of {ks:List Key} (ok:HOk P w H h) (e:H a = some (.tup (ks.map kV))):(tupleKind (mixKind P w)).is h ks a:=by
 obtain ⟨_,its,r,o,h1,h2,n,h3⟩:=(show ObjOk P w H h a (.tup (ks.map kV)) from ok a _ e)
 exact ⟨o,its.toArray,n,h1,h2,h3,by simpa using items_are r⟩
theorem dt_rd {kvs:List (List Key × V)} (ok:HOk P w H h) (e:Rd H a (.dT kvs)):kvs.length≤sizeLine∧(a == sysModules) = false ∧
  ∃ xs,KT H kvs xs∧h.DictOfH (tupleKind (mixKind P w)) a xs:=by
 obtain ⟨z,y,xs,r,o,es,ep,h1,h2,h3,h4,h5⟩:=(show ObjOk P w H h a (.dT kvs) from rd_of ok e)
 refine ⟨z,y,xs,r,o,es,ep,h1,h2,h3,h4,fun x hx=>?_,h5⟩
 have all:∀ {l:List (List Key × V)} {m:List (List Key × Addr × Value)},KT H l m→∀ x∈m,(tupleKind (mixKind P w)).is h x.1 x.2.1:=by
  intro l m q
  induction q with
  | nil=>intro x hx; exact nomatch hx
  | @cons p q ps qs hq t ih =>
    intro x hx
    rcases List.mem_cons.mp hx with e | hx
    · subst e
      exact key_of ok (by rw [← hq.1]; exact hq.2.1)
    · exact ih x hx
 exact all r x hx
theorem dt_of {kvs:List (List Key × V)} (ok:HOk P w H h) (e:H a = some (.dT kvs)):kvs.length≤sizeLine∧(a == sysModules) = false ∧
  ∃ xs,KT H kvs xs∧h.DictOfH (tupleKind (mixKind P w)) a xs:=dt_rd ok (.inl e)
end
def DGet (H:Hp) (a:Addr) (y:V) (r:Option V):Prop :=
 (∃ kvs k,Rd H a (.dK kvs)∧y = kV k∧r = valV kvs k)∨∃ kvs k b,Rd H a (.dT kvs)∧y = .ref b∧H b = some (.tup (k.map kV))∧r = valV kvs k
def DPut (H:Hp) (a:Addr) (y v:V) (H':Hp):Prop :=
 (∃ kvs k,H a = some (.dK kvs)∧y = kV k∧kvs.length < sizeLine∧H' = upd H a (.dK (putK kvs k v))) ∨
 ∃ kvs k b,H a = some (.dT kvs)∧y = .ref b∧H b = some (.tup (k.map kV))∧kvs.length < sizeLine∧H' = upd H a (.dT (putK kvs k v))
theorem DGet.k {H:Hp} {a:Addr} {kvs:List (Key × V)} {k:Key} (e:H a = some (.dK kvs)):DGet H a (kV k) (valV kvs k):=.inl ⟨kvs,k,.inl e,rfl,rfl⟩
theorem DPut.k {H:Hp} {a:Addr} {kvs:List (Key × V)} {k:Key} {v:V} (e:H a = some (.dK kvs)) (hl:kvs.length < sizeLine):DPut H a (kV k) v (upd H a (.dK (putK kvs k v))):=.inl ⟨kvs,k,e,rfl,hl,rfl⟩
section
variable {X:Cx} {pins:List (Addr × Obj)} {σ:St} {H:Hp} {s:Shared} {a:Addr} {y v:V} {u r:Value} {o:Option V} {A:Around} {E:Value→Shared→Prop}
theorem Inv.big (I:Inv X pins σ H s):sysModules < s.heap.objs.size:=by
 have h:mainGlobals < s.heap.objs.size:=(I.mod.glob.keeps I.bk).lt
 exact Nat.lt_trans (by decide) h
theorem d_getItem {Q:Value→Shared→Prop} (hu:A.units + 1 < cLine) (I:Inv X pins σ H s) (g:DGet H a y (some v)) (ry:RelV y u) (h:∀ w' s',Inv X pins σ H s'→RelV v w'→Q w' s') :
  wpAny (model X.prog X.w) A (getItem (.ref a) u) Q E s:=by
 rcases g with ⟨kvs,k,e,ey,l⟩ | ⟨kvs,k,b,e,ey,eb,l⟩
 · subst ey
   obtain ⟨z,hd,vs,rel,dd⟩:=dk_rd I.hok e
   obtain ⟨w',hw,rw'⟩:=RelO.some_of (v:=v) (o:=valueAt vs k) (by rw [l]; exact rel.val k)
   exact wpAny_getItem_of (kV_is ry) dd.mapOf hw (h w' _ (I.tok _) rw')
 · subst ey
   cases (show u = Value.ref b from ry)
   obtain ⟨z,hd,xs,rel,dd⟩:=dt_rd I.hok e
   obtain ⟨w',hw,rw'⟩:=RelO.some_of (v:=v) (o:=(atKey xs k).map (·.2)) (by rw [l]; exact rel.val k)
   obtain ⟨p,hp,hp2⟩:=Option.map_eq_some_iff.mp hw
   refine wpAny_getItem_heap (tupleKind_room_in1 hu) (key_of I.hok eb) dd hp ?_
   rw [hp2]
   exact h w' _ (I.tok _) rw'
theorem d_in {Q:Value→Shared→Prop} (hu:A.units + 1 < cLine) (I:Inv X pins σ H s) (g:DGet H a y o) (ry:RelV y u) (h:∀ s',Inv X pins σ H s'→Q (.bool o.isSome) s') :
  wpAny (model X.prog X.w) A (compareOp .In u (.ref a)) Q E s:=by
 rcases g with ⟨kvs,k,e,ey,l⟩ | ⟨kvs,k,b,e,ey,eb,l⟩
 · subst ey
   obtain ⟨z,hd,vs,rel,dd⟩:=dk_rd I.hok e
   refine wpAny_in_of (kV_is ry) hd dd.mapOf ?_
   rw [← (rel.val k).isSome_eq,← l]
   exact h _ (I.tok _)
 · subst ey
   cases (show u = Value.ref b from ry)
   obtain ⟨z,hd,xs,rel,dd⟩:=dt_rd I.hok e
   refine wpAny_in_heap (tupleKind_room_in1 hu) (key_of I.hok eb) hd dd ?_
   have q:=(rel.val k).isSome_eq
   rw [Option.isSome_map] at q
   rw [← q,← l]
   exact h _ (I.tok _)
theorem d_write {h':Heap} {t':Nat} {ob:HO} (I:Inv X pins σ H s) (mu:Mut (H a)) (hs:Heap.SameBut a s.heap h') (he:∃ q,h'.get? a = some q) (new:ObjOk X.prog X.w (upd H a ob) h' a ob) :
  Inv X pins σ (upd H a ob) { s with heap:=h',toks:=t' } :=
 I.write (x:=a) (e:=a) mu (.inl rfl) (fun b q hb z=>(hs.2 b hb).trans z) he new
theorem dk_new {P:Program} {w:World} {H':Hp} {h':Heap} {kvs:List (Key × V)} {vs:List (Key × Value)} (z:kvs.length≤sizeLine) (hd:(a == sysModules) = false) (rel:KV kvs vs) (dd:h'.DictOf (mixKind P w) a vs) :
  ObjOk P w H' h' a (.dK kvs):=⟨z,hd,vs,rel,dd⟩
theorem d_setItem {H':Hp} {Q:Unit→Shared→Prop} (hu:A.units + 1 < cLine) (I:Inv X pins σ H s) (g:DPut H a y v H') (ry:RelV y u) (rv:RelV v r) (h:∀ s',Inv X pins σ H' s'→Q () s') :
  wpAny (model X.prog X.w) A (setItem (.ref a) u r) Q E s:=by
 rcases g with ⟨kvs,k,e,ey,l,eH⟩ | ⟨kvs,k,b,e,ey,eb,l,eH⟩
 · subst ey eH
   obtain ⟨z,hd,vs,rel,dd⟩:=dk_of I.hok e
   have hz:vs.length≤sizeLine:=by rw [← rel.length]; exact z
   have hl:(putK kvs k v).length≤sizeLine:=by have:=length_putK kvs k v; omega
   refine wpAny_setItem_pairs (hsz:=hz) (kV_is ry) dd fun h' dd' hs=>h _ ?_
   have he:∃ q,h'.get? a = some q:=let ⟨q,_,_,hq,_⟩:=dd'; ⟨q,hq⟩
   exact d_write I (by rw [e]; exact True.intro) hs he (dk_new hl hd (rel.put k rv) dd')
 · subst ey eH
   cases (show u = Value.ref b from ry)
   obtain ⟨z,hd,xs,rel,dd⟩:=dt_of I.hok e
   have hz:xs.length≤sizeLine:=by rw [← Paired.length rel]; exact z
   have hl:(putK kvs k v).length≤sizeLine:=by have:=length_putK kvs k v; omega
   refine wpAny_setItem_heap (hsz:=hz) (tupleKind_room_in1 hu) (key_of I.hok eb) dd fun h' dd' hs=>h _ ?_
   obtain ⟨q,es,ep,hq,h2,h3,h4,_,h5⟩:=dd'
   refine d_write I (by rw [e]; exact True.intro) hs ⟨q,hq⟩ ⟨hl,hd,_,(rel.put k eb rv).keeps fun c ys ec=>?_,q,es,ep,hq,h2,h3,h4,h5⟩
   rw [upd_ne (ne_of ec e (fun z=>nomatch z))]
   exact ec
end
def NoSl (i:Expr):Prop:=∀ ov iv,subscripted i false ov iv = operate [ov,iv] (getItem ov iv)
theorem subD_of {prog:Program} {w:World} {A:Around} {E:Value→Shared→Prop} {s:Shared} {env:Env} {value slice:Expr} {pos:Pos} {T id:String} {Q:Value→Shared→Prop}
  (hl:typeLookup (.type T) "__getitem__" = pure (some (.builtin id))) (hs:NoSl slice)
  (h:wpAny (model prog w) A (eval value env) (fun o s₁=>wpAny (model prog w) A (eval slice env) (fun i s₂=>s₂.TypeIs o T∧wpAny (model prog w) A (getItem o i) Q E s₂) E s₁) E s) :
  wpAny (model prog w) A (eval (.Subscript value slice pos) env) Q E s:=by
 refine Subscript_ (wpAny_mono h (fun o s₁ h₁=>wpAny_mono h₁ (fun i s₂ h₂=>?_) fun _ _ x=>x) fun _ _ x=>x)
 obtain ⟨hT,h₂⟩:=h₂
 unfold subscriptTail
 refine wpAny_bind ?_
 rw [getitemInPython_of_ne hT.not_modules]
 refine wpAny_bind (wpAny_specialOf hT hl ?_)
 have fin:wpAny (model prog w) A (subscripted slice false o i) (fun r s₃=>wpAny (model prog w) A (letTemporaryGo value o r >>= fun _=>pure r) Q E s₃) E s₂:=by
  rw [hs o i]
  exact wpAny_operating (wpAny_mono h₂ (fun r s₃ h₃=>wpAny_bind (wpAny_letTemporaryGo (wpAny_pure h₃))) fun _ _ x=>x)
 first
  | exact wpAny_pure (wpAny_bind fin)
  | exact wpAny_bind (wpAny_pure (wpAny_bind fin))
  | exact wpAny_bind fin
theorem dict_typeIs {X:Cx} {pins:List (Addr × Obj)} {σ:St} {H:Hp} {s:Shared} {a:Addr} {y:V} {o:Option V} (I:Inv X pins σ H s) (g:DGet H a y o):s.TypeIs (.ref a) "dict":=by
 rcases g with ⟨kvs,k,e,_,_⟩ | ⟨kvs,k,b,e,_,_,_⟩
 · obtain ⟨_,_,vs,_,dd⟩:=dk_rd I.hok e
   exact dd.typeIs
 · obtain ⟨_,_,xs,_,dd⟩:=dt_rd I.hok e
   exact dd.typeIs
def tDGet (td ty:TE):TE:=fun σ H Q=>td σ H fun x H1=>ty σ H1 fun y H2=>∃ a v,x = .ref a∧DGet H2 a y (some v)∧Q v H2
def tDIn (ty td:TE):TE:=fun σ H Q=>ty σ H fun y H1=>td σ H1 fun x H2=>∃ a o,x = .ref a∧DGet H2 a y o∧Q (.bl o.isSome) H2
def sDPut (td ty tv:TE):TS:=fun D σ H=>tv σ H fun v H1=>td σ H1 fun x H2=>ty σ H2 fun y H3=>∃ a H4,x = .ref a∧DPut H3 a y v H4∧D.nx σ H4
section
variable {X:Cx} {o i e value:Expr} {pos pos' tpos:Pos} {td ty tv:TE}
theorem pe_dget (hu:X.A.units + 1 < cLine) (ho:PE X o td) (hi:PE X i ty) (hs:NoSl i):PE X (.Subscript o i pos) (tDGet td ty):=by
 intro pins s σ H Q I h
 refine subD_of PySem.F.slot_dict_getitem.lookup hs (thn (ho pins s σ H _ I h) fun u s1 ⟨x,H1,I1,rx,q1⟩=>thn (hi pins s1 σ H1 _ I1 q1) fun iv s2 ⟨y,H2,I2,ry,a,v,ex,g,q2⟩=>?_)
 subst ex
 obtain rfl:u = Value.ref a:=rx
 exact ⟨dict_typeIs I2 g,d_getItem hu I2 g ry fun w' s3 I3 rw'=>⟨v,H2,I3,rw',q2⟩⟩
theorem pc_din (hu:X.A.units + 1 < cLine) (hi:PE X i ty) (ho:PE X o td):PC X .In i o (tDIn ty td):=by
 intro pins s σ H Q I h
 refine thn (hi pins s σ H _ I h) fun iv s1 ⟨y,H1,I1,ry,q1⟩=>thn (ho pins s1 σ H1 _ I1 q1) fun u s2 ⟨x,H2,I2,rx,a,ov,ex,g,q2⟩=>?_
 subst ex
 obtain rfl:u = Value.ref a:=rx
 exact d_in hu I2 g ry fun s3 I3=>⟨.bl ov.isSome,H2,I3,rfl,q2⟩
theorem ps_dput (hu:X.A.units + 1 < cLine) (ho:PE X o td) (hi:PE X i ty) (hv:PE X value tv) (hs:swapsWith value (some (.Subscript o i pos')) pos.line X.env = pure false) :
  PS X (.Assign [.Subscript o i pos'] value pos) (sDPut td ty tv):=by
 intro pins s σ H D I h
 refine wpAny_Assign_Subscript (thn (hv pins s σ H _ I h) fun r s1 ⟨v,H1,I1,rv,q1⟩=>thn (ho pins s1 σ H1 _ I1 q1) fun u s2 ⟨x,H2,I2,rx,q2⟩=>thn (hi pins s2 σ H2 _ I2 q2) fun iv s3 ⟨y,H3,I3,ry,a,H4,ex,g,q3⟩=>?_) hs
 subst ex
 obtain rfl:u = Value.ref a:=rx
 exact d_setItem hu I3 g ry rv fun s4 I4=>⟨σ,H4,I4,q3⟩
end
theorem dk_empty {P:Program} {w:World} {H:Hp} (h:Heap) (hb:sysModules < h.objs.size):ObjOk P w H (h.push { cls:=.type "dict",data:=.dict #[] }) h.objs.size (.dK []) :=
 ⟨Nat.zero_le _,beq_eq_false_iff_ne.mpr (Ne.symm (Nat.ne_of_lt hb)),[],.nil,Heap.DictOf.new h⟩
theorem dt_empty {P:Program} {w:World} {H:Hp} (h:Heap) (hb:sysModules < h.objs.size):ObjOk P w H (h.push { cls:=.type "dict",data:=.dict #[] }) h.objs.size (.dT []) :=
 ⟨Nat.zero_le _,beq_eq_false_iff_ne.mpr (Ne.symm (Nat.ne_of_lt hb)),[],.nil,_,#[],0,Heap.get?_push_size _ rfl,⟨rfl,rfl,rfl⟩,rfl,rfl,List.nodup_nil⟩
def tDNewK:TE:=fun _ H Q=>∀ p,H p = none→Q (.ref p) (upd H p (.dK []))
def tDNewT:TE:=fun _ H Q=>∀ p,H p = none→Q (.ref p) (upd H p (.dT []))
section
variable {X:Cx} {pos:Pos}
theorem pe_dnewK:PE X (.Dict [] [] pos) tDNewK:=fun pins s σ H Q I h =>
 wpAny_Dict_empty ⟨.ref s.heap.objs.size,_,I.laid (a:=s.heap.objs.size) (o:=.dK []) (t':=s.toks) (fun _ _ q=>Heap.get?_push_of_some _ q) (Nat.le_refl _) (dk_empty s.heap I.big),rfl,h _ (I.hok.fresh (Nat.le_refl _))⟩
theorem pe_dnewT:PE X (.Dict [] [] pos) tDNewT:=fun pins s σ H Q I h =>
 wpAny_Dict_empty ⟨.ref s.heap.objs.size,_,I.laid (a:=s.heap.objs.size) (o:=.dT []) (t':=s.toks) (fun _ _ q=>Heap.get?_push_of_some _ q) (Nat.le_refl _) (dt_empty s.heap I.big),rfl,h _ (I.hok.fresh (Nat.le_refl _))⟩
end
structure M2 (X:Cx) (o:Expr) (m:Str) (apos:Pos) (e f:Expr) (cpos:Pos):Prop where
 base:attributeBase o m X.env (eval o X.env) = eval o X.env
 few:((backTo cpos (starEach [e,f] X.env)).all (fun x=>!x.1) && (backToKw cpos (keywordEach [] X.env)).all (fun x=>x.1.isSome)
  && decide (([e,f]:List Expr).length + ([]:List Keyword).length + (if ([]:List Keyword).isEmpty then 0 else 1) < 30)) = true
 line:(apos.endLine == cpos.line) = true
 trees:backTo cpos (starEach [e,f] X.env) = [(false,eval e X.env),(false,eval f X.env)]
def IsD (H:Hp) (a:Addr):Prop:=(∃ kvs,Rd H a (.dK kvs))∨∃ kvs,Rd H a (.dT kvs)
theorem isD_at {X:Cx} {pins:List (Addr × Obj)} {σ:St} {H:Hp} {s:Shared} {a:Addr} (I:Inv X pins σ H s) (d:IsD H a) :
  s.TypeIs (.ref a) "dict"∧(∀ b,Value.ref a = .ref b→∃ ob,s.heap.get? b = some ob∧ob.dict = none)∧(a == sysModules) = false:=by
 rcases d with ⟨kvs,e⟩ | ⟨kvs,e⟩
 · obtain ⟨_,hd,vs,_,dd⟩:=dk_rd I.hok e
   refine ⟨dd.typeIs,fun b q=>?_,hd⟩
   cases q
   obtain ⟨ob,_,_,h1,h2,_⟩:=dd
   exact ⟨ob,h1,h2.2.1⟩
 · obtain ⟨_,hd,xs,_,dd⟩:=dt_rd I.hok e
   refine ⟨dd.typeIs,fun b q=>?_,hd⟩
   cases q
   obtain ⟨ob,_,_,h1,h2,_⟩:=dd
   exact ⟨ob,h1,h2.2.1⟩
section
variable {X:Cx} {pins:List (Addr × Obj)} {σ:St} {H:Hp} {s:Shared} {a:Addr} {y d:V} {u r:Value} {o:Option V} {A:Around} {E:Value→Shared→Prop}
theorem d_get2 {Q:Value→Shared→Prop} (hu:A.units + 1 < cLine) (I:Inv X pins σ H s) (g:DGet H a y o) (ry:RelV y u) (rd:RelV d r) (h:∀ w' s',Inv X pins σ H s'→RelV (o.getD d) w'→Q w' s') :
  wpAny (model X.prog X.w) A (call (.builtin "dict.get") [.ref a,u,r]) Q E s:=by
 rcases g with ⟨kvs,k,e,ey,l⟩ | ⟨kvs,k,b,e,ey,eb,l⟩
 · subst ey
   obtain ⟨z,hd,vs,rel,dd⟩:=dk_rd I.hok e
   refine call_meetsIn PySem.F.slot_dict_get dd.typeIs PySem.F.entry_dict_get (PySem.F.args_dict_get_3 _ _ _) (meets_dict_get_default (mixKind X.prog X.w) a (kV_is ry) hd r) ⟨_,dd.mapOf,h _ _ (I.tok _) ?_⟩
   rw [l]
   exact (rel.val k).getD rd
 · subst ey
   cases (show u = Value.ref b from ry)
   obtain ⟨z,hd,xs,rel,dd⟩:=dt_rd I.hok e
   refine call_meetsIn PySem.F.slot_dict_get dd.typeIs PySem.F.entry_dict_get (PySem.F.args_dict_get_3 _ _ _) (meetsH_dict_get_default (tupleKind (mixKind X.prog X.w)) a b hd r) ⟨tupleKind_room_in1 hu,k,xs,key_of I.hok eb,dd,h _ _ (I.tok _) ?_⟩
   rw [l]
   exact (rel.val k).getD rd
end
def tDGet2 (td ty tx:TE):TE:=fun σ H Q=>td σ H fun x H1=>∃ a,x = .ref a∧IsD H1 a∧ty σ H1 fun y H2=>tx σ H2 fun z H3=>∃ o,DGet H3 a y o∧Q (o.getD z) H3
section
variable {X:Cx} {o e f:Expr} {apos cpos:Pos} {td ty tx:TE}
theorem pe_dget2 (hu:X.A.units + 1 < cLine) (ho:PE X o td) (he:PE X e ty) (hf:PE X f tx) (m:M2 X o "get" apos e f cpos):PE X (.Call (.Attribute o "get" apos) [e,f] [] cpos) (tDGet2 td ty tx):=by
 intro pins s σ H Q I h
 refine wpAny_Call_method m.base m.few m.line PySem.F.plainAttrs_dict PySem.F.slot_dict_get PySem.F.type_dict_get (thn (ho pins s σ H _ I h) fun u s1 ⟨x,H1,I1,rx,a,ex,d,q1⟩=>?_)
 subst ex
 obtain rfl:u = Value.ref a:=rx
 obtain ⟨t1,t2,_⟩:=isD_at I1 d
 refine ⟨t1,t2,?_⟩
 rw [m.trees]
 refine Calls.callWith_builtin rfl (Calls.evalArgs_plain (Calls.spliced_cons (thn (he pins s1 σ H1 _ I1 q1) fun iv s2 ⟨y,H2,I2,ry,q2⟩ =>
  Calls.spliced_cons (thn (hf pins s2 σ H2 _ I2 q2) fun fv s3 ⟨z,H3,I3,rz,ov,g,q3⟩=>Calls.spliced_nil ?_))))
 exact d_get2 hu I3 g ry rz fun w' s4 I4 rw'=>⟨_,H3,I4,rw',q3⟩
end
end L2
namespace L2
open PySem PySem.Spec PyProof.Rows
end L2
namespace L2
open PySem PySem.Spec PyProof.Rows
section
variable {X:Cx} {pins:List (Addr × Obj)} {σ:St} {H:Hp} {s:Shared} {h':Heap}
theorem Inv.turnedNew {t':Nat} {ch:List Addr} {T:Addr} {ob:HO} (I:Inv X pins σ H s) (k:∀ b o,b ∉ ch→s.heap.get? b = some o→h'.get? b = some o) (hf:∀ b∈ch,FpOk X pins H b) (hT:s.heap.objs.size≤T)
  (new:ObjOk X.prog X.w (upd H T ob) h' T ob):Inv X pins σ (upd H T ob) { s with heap:=h',toks:=t' }:=by
 have hn:H T = none:=I.hok.fresh hT
 have nit:∀ b u,H b = some u→b ∉ ch:=fun b u e z=>by
  have q:=(hf b z).1
  rw [q] at e; cases e
 refine I.step (g':=s.gens) (d':=s.drawn) (ch:=ch) (fun b hb=>⟨(hf b hb).2.2.2.1,(hf b hb).2.1,(hf b hb).2.2.2.2.1,(hf b hb).2.2.2.2.2⟩) (fun b o _ _ hc e _=>k b o hc e) (fun b o _ _ hc e _=>⟨o.slots,k b o hc e⟩)
  (fun b o _ e n=>?_) (fun b o hc e=>⟨o,k b o hc e⟩) (fun b xs e=>?_) (fun b o u e=>?_) (fun b ps e=>⟨#[],?_⟩) (fun m hm=>?_) (fun b u e=>?_) I.bare
 · rw [upd_ne (Nat.ne_of_lt (Nat.lt_of_lt_of_le (Heap.lt_size e) hT))]; exact n
 · rw [upd_ne (ne_of_none e hn)]; exact e
 · rw [upd_ne (ne_of_none e hn)]; exact e
 · rw [upd_ne (ne_of_none e hn),e]; simp
 · obtain ⟨o,es,ep,ho,r⟩:=hm
   exact ⟨o,es,ep,k _ o (fun z=>(hf _ z).2.1 rfl) ho,r⟩
 · by_cases hb:b = T
   · subst hb
     rw [upd_same] at e
     cases e
     exact new
   · rw [upd_ne hb] at e
     refine (I.hok b u e).stay (fun c v hc q=>k c v ?_ q) (fun c q=>by rw [upd_ne (ne_of_none q hn)]; exact q) fun c xs q=>by rw [upd_ne (ne_of_none q hn)]; exact q
     rcases hc with z | z
     · rw [z]; exact nit b u e
     · exact nit c _ z
end
section
variable {X:Cx}
theorem pi_one {tg:Expr} {pins:List (Addr × Obj)} {σ:St} {H:Hp} {s:Shared} {R:It→Hp→Prop} {J:It} {tn:Nat→Heap→Prop} {tk:Nat} (I:Inv X pins σ H s) (o:Obj)
  (T:Turn X.prog X.w X.K tg J [s.heap.objs.size] s.heap.objs.size tn) (st:tn 0 (s.heap.push o)) (q:R J H):PIE X pins σ tg R (.ref s.heap.objs.size) { s with heap:=s.heap.push o,toks:=tk }:=by
 refine ⟨s.heap.objs.size,[s.heap.objs.size],tn,J,H,rfl,I.kept fun b ob e=>Heap.get?_push_of_some _ e,T,st,fun b hb=>?_,q⟩
 have e:b = s.heap.objs.size:=by simpa using hb
 subst e
 exact I.fpOk (Nat.le_refl _) (I.hok.fresh (Nat.le_refl _))
end
def Itc (lo c:Int) (n:Nat):It:=⟨fun i _=>i < n,fun i H x H'=>H' = H∧x = .int (lo + (i:Nat) * c),fun i _=>n≤i⟩
theorem turn_rangeC {P:Program} {w:World} {K:PySem.W.Frag} {tg:Expr} (it:Addr) (lo c:Int) (n:Nat):Turn P w K tg (Itc lo c n) [it] it (fun i h=>IsRangeIter h it (lo + (i:Nat) * c) ((n:Int) - (i:Nat)) c) where
 mem:=by simp
 obj:=fun i h st b hb=>by
  have e:b = it:=by simpa using hb
  subst e
  exact ⟨_,st,fun v z=>nomatch z⟩
 keep:=fun i h h' st k=>k it (by simp) _ st
 item:=by
  intro X hP hw hK hc i pins s σ H E I hf st hg
  subst hP hw hK
  obtain ⟨f0,f1,f2,f3,f4,f5⟩:=hf it (by simp)
  have W:=Walks.range (prog:=X.prog) (w:=X.w) (I.ok.hd hc) it lo c n
  refine W.item i s _ _ hg st fun v h' tk hv st' kk=>?_
  obtain ⟨t,rfl⟩:=hv
  have I1:Inv X pins σ H { s with heap:=h',toks:=tk }:=I.turned (fun b o hb e=>kk b o (by simpa using hb) e) f0 f1 f3 f4 f5
  exact ⟨_,rfl,go_of (s:={ s with heap:=h',toks:=tk }) (n:="range_iterator") st' rfl rfl (by decide) ⟨.int (lo + (i:Nat) * c),H,I1,⟨t,rfl⟩,⟨rfl,rfl⟩,st',fun b hb=>(hf b hb).1⟩⟩
 done:=by
  intro X hP hw hK hc i pins s σ H E I hf st hg
  subst hP hw hK
  obtain ⟨f0,f1,f2,f3,f4,f5⟩:=hf it (by simp)
  exact wpAny_pyNext_range_end (I.ok.hd hc) st (by have:n≤i:=hg; omega) fun h' eb=>⟨rfl,I.turned (t':=s.toks) (fun b o hb e=>eb b o hb e) f0 f1 f3 f4 f5⟩
 self:=fun A i s Q E st h=>wpAny_pyIter_rangeiter st h
def RgC (i j c:Int) (n:Nat):Prop:=c≠0∧c.natAbs < 1073741824∧Builtin.Range.small i j c = true∧Builtin.Range.rangeSize i j c = n
def iRng3 (ta:TA):TI:=fun σ H R=>ta σ H fun vs H1=>∃ (i j c:Int) (n:Nat),vs = [.int i,.int j,.int c]∧RgC i j c n∧R (Itc i c n) H1
section
variable {X:Cx} {tg:Expr}
theorem pi_range3 {a b c:Expr} {ta:TA} {p pos:Pos} (hg:Gl X "range") (hm:X.mg "range" = none) (ha:PA X [a,b,c] ta)
  (hs:starEach [a,b,c] X.env = (false,eval a X.env) :: starEach [b,c] X.env:=by rfl) (hpl:(backTo pos (starEach [b,c] X.env)).any (·.1) = false:=by rfl) :
  PI X tg (.Call (.Name "range" p) [a,b,c] [] pos) (iRng3 ta):=by
 intro pins s σ H R I h
 refine Call_ (ld_blt I hg hm boot_range (PyProof.Rows.callWith_type1 (thn (ha pos pins s σ H _ I h) fun us s1 ⟨vs,H1,I1,r1,q1⟩=>?_) hs hpl))
 obtain ⟨i,j,k,n,e,⟨c0,c1,c2,c3⟩,q⟩:=q1
 subst e
 cases r1 with
 | cons r rr =>
   cases rr with
   | cons r' rr =>
     cases rr with
     | cons r'' rr =>
       cases rr
       obtain ⟨t,rfl⟩:=r
       obtain ⟨t',rfl⟩:=r'
       obtain ⟨t'',rfl⟩:=r''
       refine call_range_3 c0 ?_ (.inl (PyProof.noPylong_small c1))
       refine wpAny_pyIter_range (IsRange.new ..) c2 ?_
       have I2:Inv X pins σ H1 { s1 with heap:=s1.heap.push { cls:=.type "range",data:=.fields #[.int i t,.int j t',.int k t''] } }:=I1.kept (t':=s1.toks) fun b o e=>Heap.get?_push_of_some _ e
       refine pi_one (tk:=s1.toks) I2 _ (turn_rangeC _ i k n) ?_ q
       have e1:i + ((0:Nat):Int) * k = i:=by simp
       have e2:(n:Int) - ((0:Nat):Int) = Builtin.Range.rangeSize i j k:=by rw [c3]; simp
       show IsRangeIter _ _ (i + ((0:Nat):Int) * k) ((n:Int) - ((0:Nat):Int)) k
       rw [e1,e2]
       exact Heap.get?_push_size _ rfl
end
def Its (x:Str):It:=⟨fun i _=>i < x.cps.size,fun i H v H'=>H' = H∧∃ c,x.cps[i]? = some c∧v = .str ⟨#[c]⟩,fun i _=>x.cps.size≤i⟩
theorem turn_str {P:Program} {w:World} {K:PySem.W.Frag} {tg:Expr} (it:Addr) (x:Str) (t:Tok) (ty:String) (hty:ty = "str_ascii_iterator"∨ty = "str_iterator") :
  Turn P w K tg (Its x) [it] it (fun i h=>h.IsStrIter it ty x t i) where
 mem:=by simp
 obj:=fun i h st b hb=>by
  have e:b = it:=by simpa using hb
  subst e
  obtain ⟨o,e,c,d⟩:=st
  exact ⟨o,e,fun v z=>by rw [d] at z; cases z⟩
 keep:=fun i h h' st k=>let ⟨o,ho,r⟩:=st; ⟨o,k it (by simp) o ho,r⟩
 item:=by
  intro X hP hw hK hc i pins s σ H E I hf st hg
  subst hP hw hK
  obtain ⟨f0,f1,f2,f3,f4,f5⟩:=hf it (by simp)
  have W:Walks X.prog X.w X.A it [it] [it] x.cps.size (SignAt x) (fun i h=>h.IsStrIter it ty x t i):=by
   rcases hty with e | e
   · rw [e]; exact Walks.strAscii (I.ok.hd hc) it x t
   · rw [e]; exact Walks.strWide (I.ok.hd hc) it x t
  have hno:["enumerate","zip","dict_itemiterator","dict_reverseitemiterator","odict_iterator","itertools.zip_longest","itertools.pairwise"].contains ty = false:=by
   rcases hty with e | e
   · rw [e]; decide
   · rw [e]; decide
  refine W.item i s _ _ hg st fun v h' tk hv st' kk=>?_
  obtain ⟨c,u,hcx,rfl⟩:=hv
  have I1:Inv X pins σ H { s with heap:=h',toks:=tk }:=I.turned (fun b o hb e=>kk b o (by simpa using hb) e) f0 f1 f3 f4 f5
  obtain ⟨oi,e,cc,dd⟩:=id st'
  exact ⟨_,rfl,go_of (s:={ s with heap:=h',toks:=tk }) e cc dd hno ⟨.str ⟨#[c]⟩,H,I1,⟨u,rfl⟩,⟨rfl,c,hcx,rfl⟩,st',fun b hb=>(hf b hb).1⟩⟩
 done:=by
  intro X hP hw hK hc i pins s σ H E I hf st hg
  subst hP hw hK
  obtain ⟨f0,f1,f2,f3,f4,f5⟩:=hf it (by simp)
  have hx:x.cps[i]? = none:=Array.getElem?_eq_none hg
  rcases hty with e | e
  · rw [e] at st
    exact wpAny_pyNext_ascii_end (I.ok.hd hc) st hx fun h' eb=>⟨rfl,I.turned (t':=s.toks) (fun b o hb e=>eb b o hb e) f0 f1 f3 f4 f5⟩
  · rw [e] at st
    exact wpAny_pyNext_wide_end (I.ok.hd hc) st hx fun h' eb=>⟨rfl,I.turned (t':=s.toks) (fun b o hb e=>eb b o hb e) f0 f1 f3 f4 f5⟩
 self:=fun A i s Q E st h=>by
  rcases hty with e | e
  · rw [e] at st; exact wpAny_pyIter_striter_ascii st h
  · rw [e] at st; exact wpAny_pyIter_striter_wide st h
def iStr (te:TE):TI:=fun σ H R=>te σ H fun v H1=>∃ x,v = .str x∧R (Its x) H1
theorem pi_str {X:Cx} {tg e:Expr} {te:TE} (he:PE X e te):PI X tg e (iStr te):=by
 intro pins s σ H R I h
 refine thn (he pins s σ H _ I h) fun v s1 ⟨y,H1,I1,r1,x,ex,q⟩=>?_
 subst ex
 obtain ⟨t,rfl⟩:=r1
 cases ha:x.cps.all (· < 128)
 · exact wpAny_pyIter_wide ha (pi_one (tk:=s1.toks) I1 _ (turn_str _ x t "str_iterator" (.inr rfl)) ⟨_,Heap.get?_push_size _ rfl,rfl,rfl⟩ q)
 · exact wpAny_pyIter_ascii ha (pi_one (tk:=s1.toks) I1 _ (turn_str _ x t "str_ascii_iterator" (.inl rfl)) ⟨_,Heap.get?_push_size _ rfl,rfl,rfl⟩ q)
theorem paired_get {α β:Type} {G:α→β→Prop} {l₁:List α} {l₂:List β} (h:Paired G l₁ l₂):∀ {i:Nat} {a:α},l₁[i]? = some a→∃ b,l₂[i]? = some b∧G a b:=by
 induction h with
 | nil=>intro i a e; simp at e
 | @cons a b l₁ l₂ r t ih =>
   intro i a' e
   cases i with
   | zero =>
     simp only [List.getElem?_cons_zero,Option.some.injEq] at e
     subst e
     exact ⟨b,rfl,r⟩
   | succ j =>
     simp only [List.getElem?_cons_succ] at e ⊢
     exact ih e
def Ite (K:PySem.W.Frag) (a:Addr):It :=
 ⟨fun i H=>∃ (xs:List V) (x:V),SqL K H a xs∧xs[i]? = some x,fun i H v H'=>∃ T x,v = .ref T∧H T = none∧H' = upd H T (.tup [.int (i:Nat),x])∧∀ xs,SqL K H a xs→xs[i]? = some x,fun i H=>∃ xs:List V,SqL K H a xs∧xs.length≤i⟩
theorem turn_enum {P:Program} {w:World} {K:PySem.W.Frag} {elts:List Expr} {kk:Nat} {tpos:Pos} (a e it:Addr) :
  Turn P w K (.Tuple elts kk tpos) (Ite K a) [e,it] e (fun i h=>(∃ old,IsEnum h e it ((i:Nat):Int) old)∧h.IsListIter it a i∧e≠it) where
 mem:=by simp
 obj:=fun i h st b hb=>by
  obtain ⟨⟨old,he⟩,⟨o,ho,hc,hd⟩,_⟩:=st
  have e':b = e∨b = it:=by simpa using hb
  rcases e' with z | z
  · rw [z]; exact ⟨_,he,fun v q=>nomatch q⟩
  · rw [z]; exact ⟨o,ho,fun v q=>by rw [hd] at q; cases q⟩
 keep:=fun i h h' st k=>let ⟨⟨old,he⟩,hi,hne⟩:=st; ⟨⟨old,k e (by simp) _ he⟩,hi.at fun o q=>k it (by simp) o q,hne⟩
 item:=by
  intro X hP hw hK hc i pins s σ H E I hf st hg
  subst hP hw hK
  obtain ⟨⟨old,he⟩,hit,hne⟩:=st
  obtain ⟨xs,x,hq,hx⟩:=hg
  obtain ⟨its,rv,p,hz⟩:=I.list hq
  obtain ⟨u,hu,ru⟩:=rv.get hx
  have hel:e < s.heap.objs.size:=Heap.lt_size he
  have hil:it < s.heap.objs.size:=by obtain ⟨_,q,_⟩:=hit; exact Heap.lt_size q
  refine wpAny_pyNext_enum_item he hit p.isList (x:=u) (by simpa using hu) hne fun h' ho hit' hT hsz hk=>?_
  refine ⟨_,rfl,wpAny_letOwnedTupleGo_enum (s:={ s with heap:=h',toks:=s.toks + 1 }) ho fun h'' he' sb=>?_⟩
  have hT2:h''.get? s.heap.objs.size = some { cls:=.type "tuple",data:=.seq #[.int i s.toks,u] }:=(sb.2 _ (Nat.ne_of_gt hel)).trans hT
  have new:ObjOk X.prog X.w (upd H s.heap.objs.size (.tup [.int (i:Nat),x])) h'' s.heap.objs.size (.tup [.int (i:Nat),x]) :=
   ⟨by show 2≤sizeLine; decide,[.int i s.toks,u],.cons ⟨_,rfl⟩ (.cons ru .nil),⟨_,hT2,rfl,_,rfl⟩⟩
  have I1:Inv X pins σ (upd H s.heap.objs.size (.tup [.int (i:Nat),x])) { s with heap:=h'',toks:=s.toks + 1 } :=
   I.turnedNew (ch:=[e,it]) (fun b ob hb q=>(sb.2 b (fun z=>hb (by simp [z]))).trans (hk b ob (fun z=>hb (by simp [z])) (fun z=>hb (by simp [z])) q)) hf (Nat.le_refl _) new
  refine ⟨.ref s.heap.objs.size,_,I1,rfl,⟨_,x,rfl,I.hok.fresh (Nat.le_refl _),rfl,fun ys hy=>by rw [I.list_inj hy hq]; exact hx⟩,⟨⟨u,?_⟩,hit'.at fun o q=>(sb.2 it (Ne.symm hne)).trans q,hne⟩,fun b hb=>?_⟩
  · have e1:((i + 1:Nat):Int) = (i:Int) + 1:=by omega
    rw [e1]; exact he'
  · have hb':b < s.heap.objs.size:=by
     have e':b = e∨b = it:=by simpa using hb
     rcases e' with z | z
     · rw [z]; exact hel
     · rw [z]; exact hil
    rw [upd_ne (Nat.ne_of_lt hb')]
    exact (hf b hb).1
 done:=by
  intro X hP hw hK hc i pins s σ H E I hf st hg
  subst hP hw hK
  obtain ⟨⟨old,he⟩,hit,hne⟩:=st
  obtain ⟨xs,hq,hx⟩:=hg
  obtain ⟨its,rv,p,hz⟩:=I.list hq
  obtain ⟨f0,f1,f2,f3,f4,f5⟩:=hf it (by simp)
  have hl:=rv.length
  exact wpAny_pyNext_enum_end (I.ok.hd hc) he hit p.isList (by simp; omega) fun h' eb=>⟨rfl,I.turned (t':=s.toks) (fun b o hb q=>eb b o hb q) f0 f1 f3 f4 f5⟩
 self:=fun A i s Q E st h=>let ⟨⟨_,he⟩,_⟩:=st; wpAny_pyIter_enum he h
def iEnum (K:PySem.W.Frag) (ta:TA):TI:=fun σ H R=>ta σ H fun vs H1=>∃ a xs,vs = [.ref a]∧SqL K H1 a xs∧R (Ite K a) H1
theorem pi_enum {X:Cx} {e:Expr} {ta:TA} {p pos tpos:Pos} {elts:List Expr} {kk:Nat} (hg:Gl X "enumerate") (hm:X.mg "enumerate" = none) (ha:PA X [e] ta) (hs:starEach [e] X.env = [(false,eval e X.env)]:=by rfl) :
  PI X (.Tuple elts kk tpos) (.Call (.Name "enumerate" p) [e] [] pos) (iEnum X.K ta):=by
 intro pins s σ H R I h
 refine Call_ (ld_blt I hg hm boot_enumerate (PyProof.Rows.callWith_type1 (thn (ha pos pins s σ H _ I h) fun us s1 ⟨vs,H1,I1,r1,q1⟩=>?_) hs rfl))
 obtain ⟨a,xs,ex,hq,q⟩:=q1
 subst ex
 cases r1 with
 | cons r rr =>
   cases rr
   cases r
   obtain ⟨its,rv,p',hz⟩:=I1.list hq
   refine call_enumerate_list p'.isList fun h' he hit hsz hk=>wpAny_pyIter_enum he ?_
   have I2:Inv X pins σ H1 { s1 with heap:=h' }:=I1.kept (t':=s1.toks) hk
   refine ⟨s1.heap.objs.size + 1,[s1.heap.objs.size + 1,s1.heap.objs.size],_,_,H1,rfl,I2,turn_enum a (s1.heap.objs.size + 1) s1.heap.objs.size,⟨⟨.none,he⟩,hit,Nat.succ_ne_self _⟩,fun b hb=>?_,q⟩
   have e':b = s1.heap.objs.size + 1∨b = s1.heap.objs.size:=by simpa using hb
   have hle:s1.heap.objs.size≤b:=by
    rcases e' with z | z
    · rw [z]; exact Nat.le_add_right _ _
    · rw [z]; exact Nat.le_refl _
   exact I1.fpOk hle (I1.hok.fresh hle)
end L2
section
namespace Bits
open PySem PyProof.Rows
end Bits
end
section
namespace TL
open PySem PySem.Builtin PySem.Builtin.Str PySem.StrLaws
abbrev tl (x:Str):List Nat:=x.cps.toList
theorem len_tl (x:Str):x.length = (tl x).length:=by simp [tl,Str.length]
theorem ext_tl {x y:Str} (h:tl x = tl y):x = y:=Str.ext' (Array.toList_inj.mp h)
theorem tl_append (x y:Str):tl (x ++ y) = tl x ++ tl y:=by
 show (x ++ y).cps.toList = _
 rw [Str.cps_append,Array.toList_append]
def pre (S l:List Nat):Bool:=l.take S.length == S
def spl (S:List Nat):Nat→List Nat→List Nat→List (List Nat)
 | _,acc,[]=>[acc]
 | 0,acc,c :: r=>if pre S (c :: r) = true then acc :: spl S (S.length - 1) [] r else spl S 0 (acc ++ [c]) r
 | k + 1,acc,_ :: r=>spl S k acc r
theorem spl_nil (S:List Nat) (k:Nat) (acc:List Nat):spl S k acc [] = [acc]:=by cases k <;> rfl
theorem spl_hit {S acc r:List Nat} {c:Nat} (h:pre S (c :: r) = true):spl S 0 acc (c :: r) = acc :: spl S (S.length - 1) [] r:=by
 show (if pre S (c :: r) = true then acc :: spl S (S.length - 1) [] r else spl S 0 (acc ++ [c]) r) = _
 rw [if_pos h]
theorem spl_miss {S acc r:List Nat} {c:Nat} (h:pre S (c :: r) = false):spl S 0 acc (c :: r) = spl S 0 (acc ++ [c]) r:=by
 show (if pre S (c :: r) = true then acc :: spl S (S.length - 1) [] r else spl S 0 (acc ++ [c]) r) = _
 rw [if_neg (by rw [h]; exact Bool.false_ne_true)]
theorem spl_pass (S:List Nat):∀ (k:Nat) (acc l:List Nat),spl S k acc l = spl S 0 acc (l.drop k)
 | 0,_,_=>by rw [List.drop_zero]
 | k + 1,acc,[]=>by rw [List.drop_nil,spl_nil,spl_nil]
 | k + 1,acc,c :: r=>by
   show spl S k acc r = spl S 0 acc (r.drop k)
   exact spl_pass S k acc r
theorem pre_nil {S:List Nat} (hS:S≠[]):pre S [] = false:=by
 cases S with
 | nil=>exact absurd rfl hS
 | cons s S=>rfl
theorem getElem_drop_cons {L:List Nat} {a:Nat} (h:a < L.length):∃ c,L.drop a = c :: L.drop (a + 1):=⟨L[a],List.drop_eq_getElem_cons h⟩
theorem spl_run (S L:List Nat):∀ (m a:Nat) (acc:List Nat),a + m≤L.length→(∀ k,a≤k→k < a + m→pre S (L.drop k) = false) →
  spl S 0 acc (L.drop a) = spl S 0 (acc ++ (L.drop a).take m) (L.drop (a + m))
 | 0,a,acc,_,_=>by rw [List.take_zero,List.append_nil,Nat.add_zero]
 | m + 1,a,acc,h,hn=>by
   have hlt:a < L.length:=by omega
   obtain ⟨c,e⟩:=getElem_drop_cons hlt
   have h0:=hn a (Nat.le_refl _) (by omega)
   have ih:=spl_run S L m (a + 1) (acc ++ [c]) (by omega) (fun k h1 h2=>hn k (by omega) (by omega))
   have e2:a + 1 + m = a + (m + 1):=by omega
   rw [e2] at ih
   rw [e] at h0
   rw [e,spl_miss h0,ih,List.take_succ_cons,List.append_assoc] <;> rfl
theorem drop_two (L:List Nat) (a b:Nat):(L.drop a).drop b = L.drop (a + b):=by
 first
  | rw [List.drop_drop]
  | rw [List.drop_drop,Nat.add_comm]
theorem spl_at {S L:List Nat} (hS:S≠[]) {c:Nat} {acc:List Nat} (h:pre S (L.drop c) = true):spl S 0 acc (L.drop c) = acc :: spl S 0 [] (L.drop (c + S.length)):=by
 rw [← drop_two]
 cases e:L.drop c with
 | nil=>rw [e,pre_nil hS] at h; cases h
 | cons d r =>
   rw [e] at h
   rw [spl_hit h,spl_pass]
   cases S with
   | nil=>exact absurd rfl hS
   | cons s S=>rfl
theorem at_iff {x y:Str} (hy:tl y≠[]) (i:Nat):At x y x.length i↔pre (tl y) ((tl x).drop i) = true:=by
 have hx:=len_tl x
 have hl:=len_tl y
 constructor
 · intro h
   have h2:=h.2
   rw [subAt_eq,hl] at h2
   exact h2
 · intro h
   have e:((tl x).drop i).take (tl y).length = tl y:=eq_of_beq h
   have e1:=congrArg List.length e
   rw [List.length_take,List.length_drop] at e1
   have e2:0 < (tl y).length:=List.length_pos_iff.mpr hy
   refine ⟨by omega,?_⟩
   rw [subAt_eq,hl]
   exact h
theorem no_at {x y:Str} (hy:tl y≠[]) {i:Nat} (h:¬ At x y x.length i):pre (tl y) ((tl x).drop i) = false:=by
 cases hp:pre (tl y) ((tl x).drop i) with
 | false=>rfl
 | true=>exact absurd ((at_iff hy i).mpr hp) h
theorem len1 {y:Str} (hy:tl y≠[]):1≤y.length:=by
 have e2:0 < (tl y).length:=List.length_pos_iff.mpr hy
 rw [len_tl y]
 exact e2
theorem tl_strSub (x:Str) (i j:Nat):tl (strSub x i j) = ((tl x).drop i).take (j - i):=strSub_toList x i j
theorem tl_strSub_end (x:Str) (i:Nat):tl (strSub x i x.length) = (tl x).drop i:=by
 rw [tl_strSub,len_tl x]
 exact List.take_of_length_le (by rw [List.length_drop] <;> omega)
theorem parts_spl {x y:Str} (hy:tl y≠[]):∀ (cuts:List Nat) (a f:Nat),a≤(tl x).length→ChainG x y x.length a cuts f→(∀ k,f≤k→¬ At x y x.length k) →
  (partsFrom x y.length a cuts).map tl = spl (tl y) 0 [] ((tl x).drop a)
 | [],a,f,ha,h,hn=>by
   have e:f = a:=h
   subst e
   show [tl (strSub x f x.length)] = _
   have run:=spl_run (tl y) (tl x) ((tl x).length - f) f [] (by omega) (fun k h1 _=>no_at hy (hn k h1))
   have e2:f + ((tl x).length - f) = (tl x).length:=by omega
   rw [e2,List.drop_length,spl_nil,List.nil_append,List.take_of_length_le (by rw [List.length_drop] <;> omega)] at run
   rw [run,tl_strSub_end]
 | c :: r,a,f,ha,h,hn=>by
   obtain ⟨h1,h2,h3,h4⟩:=h
   have hc:c + y.length≤x.length:=h2.1
   have hx:=len_tl x
   have hl:=len_tl y
   have ih:=parts_spl hy r (c + y.length) f (by omega) h4 hn
   show tl (strSub x a c) :: (partsFrom x y.length (c + y.length) r).map tl = _
   have run:=spl_run (tl y) (tl x) (c - a) a [] (by omega) (fun k k1 k2=>no_at hy (h3 k k1 (by omega)))
   have e2:a + (c - a) = c:=by omega
   rw [e2,List.nil_append,spl_at hy ((at_iff hy c).mp h2)] at run
   rw [run,ih,tl_strSub,hl]
theorem split_spl (x y:Str) (hy:tl y≠[]) (hk:¬ Builtin.Str.strKind x < Builtin.Str.strKind y):(Txt.split x y).map tl = spl (tl y) 0 [] (tl x):=by
 obtain ⟨f,g,hn⟩:=occ_tight x y (len1 hy)
 have key:=parts_spl hy _ 0 f (Nat.zero_le _) g hn
 rw [List.drop_zero] at key
 have none_case:occurrences x y 0 x.length (x.length + 1) = []→[x].map tl = spl (tl y) 0 [] (tl x):=fun ho=>by
  rw [ho] at key
  rw [← key]
  show [tl x] = [tl (strSub x 0 x.length)]
  rw [sub_whole]
 unfold Txt.split
 by_cases h1:(decide (x.length < y.length) || decide (Builtin.Str.strKind x < Builtin.Str.strKind y)) = true
 · rw [if_pos h1]
   have hlt:x.length < y.length:=by
    simp only [Bool.or_eq_true,decide_eq_true_eq] at h1
    rcases h1 with h | h
    · exact h
    · exact absurd h hk
   refine none_case ?_
   cases ho:occurrences x y 0 x.length (x.length + 1) with
   | nil=>rfl
   | cons c r =>
     rw [ho] at g
     have hc:c + y.length≤x.length:=g.2.1.1
     omega
 · rw [if_neg h1]
   by_cases h2:(occurrences x y 0 x.length (x.length + 1)).isEmpty = true
   · rw [if_pos h2]
     exact none_case (List.isEmpty_iff.mp h2)
   · rw [if_neg h2,partsBetween_eq]
     exact key
theorem kind_ok {x y:Str} (h:y.cps.all (· < 256) = true):¬ Builtin.Str.strKind x < Builtin.Str.strKind y:=by
 have e:Builtin.Str.strKind y = 1:=by unfold PySem.Builtin.Str.strKind; rw [if_pos h]
 rw [e]
 unfold PySem.Builtin.Str.strKind
 split
 · omega
 · split <;> omega
def joinL (S:List Nat):List (List Nat)→List Nat
 | []=>[]
 | [p]=>p
 | p :: q :: r=>p ++ (S ++ joinL S (q :: r))
theorem tl_join (y:Str):∀ parts:List Str,tl (Str.join y parts) = joinL (tl y) (parts.map tl)
 | []=>rfl
 | [_]=>rfl
 | x :: z :: r=>by
   show tl (x ++ y ++ Str.join y (z :: r)) = tl x ++ (tl y ++ joinL (tl y) ((z :: r).map tl))
   rw [tl_append,tl_append,tl_join y (z :: r),List.append_assoc]
theorem join_eq (y:Str) (parts:List Str):Txt.join y parts = Str.join y parts:=glued_eq_join y parts
def numL (n:Nat):List Nat:=(Nat.toDigits 10 n).map Char.toNat
theorem tl_num (n:Nat):tl (Str.ofString (toString ((n:Nat):Int))) = numL n:=PySem.W.KIN.signs_num n
end TL
end
namespace L2
open PySem PySem.Spec PyProof.Rows
theorem notLong {n:Nat} (h:n≤16777216):Builtin.Str.tooLong n = false:=by
 have e:(2:Nat) ^ 24 = 16777216:=by decide
 unfold Builtin.Str.tooLong sizeLine
 exact decide_eq_false (by omega)
theorem vals_strs:∀ l:List (Str × Tok),Vals ((l.map (·.1)).map V.str) (strValues l)
 | []=>.nil
 | p :: r=>.cons ⟨p.2,rfl⟩ (vals_strs r)
theorem strs_of_vals:∀ {ys:List Str} {us:List Value},Vals (ys.map V.str) us→StrsAre us ys
 | [],_,.nil=>.nil
 | y :: ys,_,.cons r t=>by
   obtain ⟨k,rfl⟩:=r
   exact .cons y k (strs_of_vals t)
def rNewStrs (ys:List Str):Hp→VK→Prop:=fun H Q=>∀ p,H p = none→Q (.ref p) (upd H p (.lst (ys.map V.str)))
section
variable {X:Cx} {pins:List (Addr × Obj)} {σ:St} {H:Hp} {s:Shared} {Q:VK}
theorem laid_strs {l:List (Str × Tok)} {ys:List Str} {k:Nat} (I:Inv X pins σ H s) (e:l.map (·.1) = ys) (hz:ys.length≤sizeLine) (h:rNewStrs ys H Q) :
  EP X pins σ Q (.ref s.heap.objs.size) { s with toks:=k,heap:=s.heap.push { cls:=.type "list",data:=.seq (strValues l).toArray } }:=by
 have hp:=I.hok.fresh (Nat.le_refl _)
 refine ⟨.ref s.heap.objs.size,upd H s.heap.objs.size (.lst (ys.map V.str)),I.laid (fun b u q=>Heap.get?_push_of_some _ q) (Nat.le_refl _) ⟨by rw [List.length_map]; exact hz,strValues l,_,?_,Heap.get?_push_size _ rfl⟩,rfl,h _ hp⟩
 rw [← e]
 exact vals_strs l
end
section
variable {X:Cx}
theorem mt_split:MtR X "str.split" (fun x xs H Q=>∃ a b,x = .str a∧xs = [.str b]∧(b.length == 0) = false∧a.length + 2≤sizeLine∧rNewStrs (Txt.split a b) H Q):=by
 intro pins s σ H x xs v us Q I rx rs h
 obtain ⟨a,b,rfl,rfl,hb,hz,h⟩:=h
 obtain ⟨t,rfl⟩:=rx
 cases rs with
 | cons r1 rs =>
   cases rs
   obtain ⟨u,rfl⟩:=r1
   have hl:(Txt.split a b).length≤sizeLine:=Nat.le_trans (PyProof.Rows.split_le a b) hz
   have hn:(Builtin.Str.partsBetween a (Builtin.Str.occurrences a b 0 a.length (a.length + 1)) b.length).length≤sizeLine:=by
    have e1:=StrLaws.occ_length_le a b 0 a.length (a.length + 1)
    rw [length_partsBetween]; omega
   cases h1:(decide (a.length < b.length) || decide (Builtin.Str.strKind a < Builtin.Str.strKind b))
   · cases hf:(Builtin.Str.occurrences a b 0 a.length (a.length + 1)).isEmpty
     · refine call_meets F.slot_str_split (typeIs_str _ _ _) F.entry_str_split (F.args_str_split_2 _ _) (meets_str_split_sep a b t u h1 hb hf (by omega) hn) ?_
       show EP X pins σ Q (.ref s.heap.objs.size) { s with toks:=_,heap:=s.heap.push { cls:=.type "list",data:=.seq (strsFrom s.toks (Builtin.Str.partsBetween a (Builtin.Str.occurrences a b 0 a.length (a.length + 1)) b.length)).toArray } }
       rw [strsFrom_eq]
       exact laid_strs (ys:=Txt.split a b) I ((numbered_texts _ _).trans ((if_neg (ne_true_of_eq_false h1)).trans (if_neg (ne_true_of_eq_false hf))).symm) hl h
     · refine call_meets F.slot_str_split (typeIs_str _ _ _) F.entry_str_split (F.args_str_split_2 _ _) (meets_str_split_not_found a b t u h1 hb hf) ?_
       exact laid_strs (l:=[(a,t)]) (ys:=Txt.split a b) (k:=s.toks) I ((if_neg (ne_true_of_eq_false h1)).trans (if_pos hf)).symm hl h
   · refine call_meets F.slot_str_split (typeIs_str _ _ _) F.entry_str_split (F.args_str_split_2 _ _) (meets_str_split_cannot_occur a b t u h1) ?_
     exact laid_strs (l:=[(a,t)]) (ys:=Txt.split a b) (k:=s.toks) I (if_pos h1).symm hl h
theorem mt_join:MtR X "str.join" (fun x xs H Q=>∃ a p,∃ ys:List Str,x = .str a∧xs = [.ref p]∧(SqL X.K H p (ys.map V.str)∨SqT X.K H p (ys.map V.str)) ∧
  (ys.map (·.length)).sum + ys.length * a.length≤16777216∧Q (.str (Txt.join a ys)) H):=by
 intro pins s σ H x xs v us Q I rx rs h
 obtain ⟨a,p,ys,rfl,rfl,hp,hz,h⟩:=h
 obtain ⟨t,rfl⟩:=rx
 cases rs with
 | cons r1 rs =>
   cases rs
   cases r1
   rcases hp with hp | hp
   · obtain ⟨its,r,⟨o,n,ho,hc,_,hd⟩,_⟩:=I.list hp
     exact PyProof.Rows.join_list (items:=its.toArray) ⟨o,ho,hc,n,hd⟩ (by rw [List.toList_toArray]; exact strs_of_vals r) hz fun t' k=>⟨.str _,H,I.tok k,⟨t',rfl⟩,h⟩
   · obtain ⟨its,r,ht,_⟩:=I.tuple hp
     exact PyProof.Rows.join_tuple (items:=its.toArray) ht (by rw [List.toList_toArray]; exact strs_of_vals r) hz fun t' k=>⟨.str _,H,I.tok k,⟨t',rfl⟩,h⟩
theorem mt0 {id:String} {C:Str→Prop} {g:Str→V} (rule:∀ (a:Str) (t:Tok) (s:Shared) (Q:Value→Shared→Prop),C a→(∀ (u:Value) (k:Nat),RelV (g a) u→Q u { s with toks:=k }) →
  wpAny (model X.prog X.w) X.A (call (.builtin id) [.str a t]) Q X.xe s):MtR X id (fun x xs H Q=>∃ a,x = .str a∧xs = []∧C a∧Q (g a) H):=by
 intro pins s σ H x xs v us Q I rx rs h
 obtain ⟨a,rfl,rfl,hc,h⟩:=h
 obtain ⟨t,rfl⟩:=rx
 cases rs
 exact rule a t s _ hc fun u k r=>⟨g a,H,I.tok k,r,h⟩
theorem mt_upper:MtR X "str.upper" (fun x xs H Q=>∃ a,x = .str a∧xs = []∧a.length≤5592405∧Q (.str (Txt.upper a)) H) :=
 mt0 (C:=fun a=>a.length≤5592405) (g:=fun a=>.str (Txt.upper a)) fun a _ s _ hc h =>
  PySem.SC.upper (notLong (by have h1:a.length≤5592405:=hc; have:=PyProof.Rows.len_upper a; omega)) (h _ (s.toks + 1) ⟨_,rfl⟩)
theorem mt_isdigit:MtR X "str.isdigit" (fun x xs H Q=>∃ a,x = .str a∧xs = []∧True∧Q (.bl (Txt.isdigit a)) H) :=
 mt0 (C:=fun _=>True) (g:=fun a=>.bl (Txt.isdigit a)) fun _ _ s _ _ h=>PySem.SC.isdigit (h _ s.toks rfl)
theorem mt_isalpha:MtR X "str.isalpha" (fun x xs H Q=>∃ a,x = .str a∧xs = []∧True∧Q (.bl (Txt.isalpha a)) H) :=
 mt0 (C:=fun _=>True) (g:=fun a=>.bl (Txt.isalpha a)) fun _ _ s _ _ h=>PySem.SC.isalpha (h _ s.toks rfl)
theorem mt1 {id:String} {g:Str→Str→V} (rule:∀ (a b:Str) (t u:Tok) (s:Shared) (Q:Value→Shared→Prop),(∀ (v:Value) (k:Nat),RelV (g a b) v→Q v { s with toks:=k }) →
  wpAny (model X.prog X.w) X.A (call (.builtin id) [.str a t,.str b u]) Q X.xe s):MtR X id (fun x xs H Q=>∃ a b,x = .str a∧xs = [.str b]∧Q (g a b) H):=by
 intro pins s σ H x xs v us Q I rx rs h
 obtain ⟨a,b,rfl,rfl,h⟩:=h
 obtain ⟨t,rfl⟩:=rx
 cases rs with
 | cons r1 rs =>
   cases rs
   obtain ⟨u,rfl⟩:=r1
   exact rule a b t u s _ fun v k r=>⟨g a b,H,I.tok k,r,h⟩
theorem mt_startswith:MtR X "str.startswith" (fun x xs H Q=>∃ a b,x = .str a∧xs = [.str b]∧Q (.bl (Txt.startswith a b)) H) :=
 mt1 (g:=fun a b=>.bl (Txt.startswith a b)) fun _ _ _ _ s _ h=>PySem.SC.startswith (h _ s.toks rfl)
theorem mt_endswith:MtR X "str.endswith" (fun x xs H Q=>∃ a b,x = .str a∧xs = [.str b]∧Q (.bl (Txt.endswith a b)) H) :=
 mt1 (g:=fun a b=>.bl (Txt.endswith a b)) fun _ _ _ _ s _ h=>PySem.SC.endswith (h _ s.toks rfl)
theorem mt_find:MtR X "str.find" (fun x xs H Q=>∃ a b,x = .str a∧xs = [.str b]∧Q (.int (Txt.find a b)) H) :=
 mt1 (g:=fun a b=>.int (Txt.find a b)) fun _ _ _ _ s _ h=>PySem.SC.find (h _ (s.toks + 1) ⟨_,rfl⟩)
theorem call_int_str:CallR X (.type "int") (fun xs H Q=>∃ a n,xs = [.str a]∧PySem.intText? a = some n∧a.length≤640∧Q (.int n) H):=by
 intro pins s σ H xs us Q I rs h
 obtain ⟨a,n,rfl,hn,hl,h⟩:=h
 cases rs with
 | cons r1 rs =>
   cases rs
   obtain ⟨t,rfl⟩:=r1
   exact PySem.W.KIN.call_text hn hl ⟨.int n,H,I.tok _,⟨_,rfl⟩,h⟩
end
section
variable {X:Cx} {o e:Expr} {to te:TE}
def tM0 (r:V→List V→Hp→VK→Prop) (to:TE):TE:=fun σ H Q=>to σ H fun x H1=>(∃ a,x = .str a)∧r x [] H1 Q
def tM1 (r:V→List V→Hp→VK→Prop) (to te:TE):TE:=fun σ H Q=>to σ H fun x H1=>(∃ a,x = .str a)∧te σ H1 fun y H2=>r x [y] H2 Q
theorem pe_m0 {id:String} {name:Str} {apos pos:Pos} {r:V→List V→Hp→VK→Prop} (slot:Slot "str" name id) (ty:typeOf (.builtin id) = pure (.type "method_descriptor")) (rule:MtR X id r) (ho:PE X o to)
  (hbase:attributeBase o name X.env (eval o X.env) = eval o X.env:=by rfl) (hline:(apos.endLine == pos.line) = true:=by rfl):PE X (.Call (.Attribute o name apos) [] [] pos) (tM0 r to):=by
 intro pins s σ H Q I h
 refine PySem.Call_method0 hbase hline (thn (ho pins s σ H _ I h) fun v s1 ⟨x,H1,I1,r1,q1⟩=>?_)
 obtain ⟨⟨a,rfl⟩,q1⟩:=q1
 obtain ⟨t,rfl⟩:=_root_.id r1
 exact ⟨"str",_,F.plainAttrs_str,slot,ty,typeIs_str _ _ _,(fun _ e=>nomatch e),Calls.callWith_builtin rfl (PySem.evalArgs_none (rule pins s1 σ H1 _ [] _ [] Q I1 r1 .nil q1))⟩
theorem pe_m1 {id:String} {name:Str} {apos pos:Pos} {r:V→List V→Hp→VK→Prop} (slot:Slot "str" name id) (ty:typeOf (.builtin id) = pure (.type "method_descriptor")) (rule:MtR X id r) (ho:PE X o to) (he:PE X e te)
  (hs:starEach [e] X.env = [(false,eval e X.env)]:=by rfl) (hbase:attributeBase o name X.env (eval o X.env) = eval o X.env:=by rfl) (hline:(apos.endLine == pos.line) = true:=by rfl) :
  PE X (.Call (.Attribute o name apos) [e] [] pos) (tM1 r to te):=by
 intro pins s σ H Q I h
 refine PySem.Call_method1 hbase hs hline (thn (ho pins s σ H _ I h) fun v s1 ⟨x,H1,I1,r1,q1⟩=>?_)
 obtain ⟨⟨a,rfl⟩,q1⟩:=q1
 obtain ⟨t,rfl⟩:=_root_.id r1
 refine ⟨"str",_,F.plainAttrs_str,slot,ty,typeIs_str _ _ _,(fun _ e=>nomatch e),Calls.callWith_builtin rfl (Calls.evalArgs_plain (Calls.spliced_cons ?_))⟩
 exact thn (he pins s1 σ H1 _ I1 q1) fun u s2 ⟨y,H2,I2,r2,q2⟩=>Calls.spliced_nil (rule pins s2 σ H2 _ [y] _ [u] Q I2 r1 (.cons r2 .nil) q2)
theorem pe_split {apos pos:Pos} (ho:PE X o to) (he:PE X e te) (hs:starEach [e] X.env = [(false,eval e X.env)]:=by rfl) (hbase:attributeBase o "split" X.env (eval o X.env) = eval o X.env:=by rfl) (hline:(apos.endLine == pos.line) = true:=by rfl) :
  PE X (.Call (.Attribute o "split" apos) [e] [] pos) (tM1 (fun x xs H Q=>∃ a b,x = .str a∧xs = [.str b]∧(b.length == 0) = false∧a.length + 2≤sizeLine∧rNewStrs (Txt.split a b) H Q) to te) :=
 pe_m1 F.slot_str_split F.type_str_split mt_split ho he hs hbase hline
theorem pe_join {apos pos:Pos} (ho:PE X o to) (he:PE X e te) (hs:starEach [e] X.env = [(false,eval e X.env)]:=by rfl) (hbase:attributeBase o "join" X.env (eval o X.env) = eval o X.env:=by rfl) (hline:(apos.endLine == pos.line) = true:=by rfl) :
  PE X (.Call (.Attribute o "join" apos) [e] [] pos) (tM1 (fun x xs H Q=>∃ a p,∃ ys:List Str,x = .str a∧xs = [.ref p]∧(SqL X.K H p (ys.map V.str)∨SqT X.K H p (ys.map V.str)) ∧
   (ys.map (·.length)).sum + ys.length * a.length≤16777216∧Q (.str (Txt.join a ys)) H) to te) :=
 pe_m1 F.slot_str_join F.type_str_join mt_join ho he hs hbase hline
theorem pe_upper {apos pos:Pos} (ho:PE X o to) (hbase:attributeBase o "upper" X.env (eval o X.env) = eval o X.env:=by rfl) (hline:(apos.endLine == pos.line) = true:=by rfl) :
  PE X (.Call (.Attribute o "upper" apos) [] [] pos) (tM0 (fun x xs H Q=>∃ a,x = .str a∧xs = []∧a.length≤5592405∧Q (.str (Txt.upper a)) H) to) :=
 pe_m0 F.slot_str_upper F.type_str_upper mt_upper ho hbase hline
end
end L2
namespace L2
open PySem PySem.Spec PyProof.Rows
theorem IsPart.raw {v:Value} {o:Option Int} (p:IsPart v o):∃ l:Option (Int × Tok),v = partValue l∧l.map (·.1) = o:=by
 cases p with
 | none=>exact ⟨none,rfl,rfl⟩
 | int i t=>exact ⟨some (i,t),rfl,rfl⟩
def clipS (n d:Nat):Option Int→Int
 | none=>(d:Int)
 | some i=>max 0 (min (if i < 0 then i + (n:Int) else i) (n:Int))
theorem clipS_eq (n d:Nat) (o:Option Int):clipS n d o = ((HT.sIx n d o:Nat):Int):=by
 cases o with
 | none=>rfl
 | some v =>
   show max (0:Int) (min (if v < 0 then v + (n:Int) else v) (n:Int)) = (((if v < 0 then (v + (n:Int)).toNat else min v.toNat n):Nat):Int)
   by_cases hv:v < 0
   · simp only [if_pos hv]
     omega
   · simp only [if_neg hv]
     omega
theorem sidx_clip (a b:Option Int) (n:Nat):Builtin.Str.strSliceIndices a b 1 n = sliceRange (clipS n 0 a) (clipS n n b) 1:=by
 have h1:((1:Int) > 0) = True:=by simp
 cases a <;> cases b <;> first
  | rfl
  | (simp only [Builtin.Str.strSliceIndices,clipS,h1,if_true]; rfl)
  | simp [Builtin.Str.strSliceIndices,clipS]
theorem sidx (a b:Option Int) (n:Nat):Builtin.Str.strSliceIndices a b 1 n = (List.range (HT.sIx n n b - HT.sIx n 0 a)).map (fun k=>HT.sIx n 0 a + k):=by
 rw [sidx_clip,clipS_eq,clipS_eq]
 generalize HT.sIx n 0 a = p
 generalize HT.sIx n n b = q
 simp only [sliceRange,show ((1:Int) > 0) = True from by simp,if_true]
 by_cases hlt:(p:Int) < q
 · have e3:(((q:Int) - p + 1 - 1) / 1).toNat = q - p:=by first | omega | (simp; done) | (simp; omega)
   simp only [hlt,if_true,e3]
   refine List.map_congr_left fun k _=>?_
   omega
 · have:q - p = 0:=by omega
   simp [hlt,this]
def cutS (z:Str) (lo hi:Option Int):Str :=
 ⟨((z.cps.toList.drop (HT.sIx z.length 0 lo)).take (HT.sIx z.length z.length hi - HT.sIx z.length 0 lo)).toArray⟩
theorem sliceText_cut (z:Str) (lo hi:Option Int):PySem.StrLaws.sliceText z lo hi = cutS z lo hi:=by
 have h1:HT.sIx z.length 0 lo≤z.length:=HT.sIx_le _ _ (Nat.zero_le _) _
 have h2:HT.sIx z.length z.length hi≤z.length:=HT.sIx_le _ _ (Nat.le_refl _) _
 have hp:HT.sIx z.length 0 lo≤max (HT.sIx z.length 0 lo) (HT.sIx z.length z.length hi):=Nat.le_max_left _ _
 have hq:max (HT.sIx z.length 0 lo) (HT.sIx z.length z.length hi)≤z.length:=Nat.max_le.mpr ⟨h1,h2⟩
 have hd:max (HT.sIx z.length 0 lo) (HT.sIx z.length z.length hi) - HT.sIx z.length 0 lo = HT.sIx z.length z.length hi - HT.sIx z.length 0 lo:=by omega
 have e:Builtin.Str.strSliceIndices lo hi 1 z.length =
   Builtin.Str.strSliceIndices (some ((HT.sIx z.length 0 lo:Nat):Int)) (some ((max (HT.sIx z.length 0 lo) (HT.sIx z.length z.length hi):Nat):Int)) 1 z.length:=by
  rw [PySem.StrLaws.strSliceIndices_plain hp hq,hd,sidx]
 have e2:PySem.StrLaws.sliceText z lo hi =
   PySem.StrLaws.sliceText z (some ((HT.sIx z.length 0 lo:Nat):Int)) (some ((max (HT.sIx z.length 0 lo) (HT.sIx z.length z.length hi):Nat):Int)):=by
  unfold PySem.StrLaws.sliceText
  rw [e]
 rw [e2,PySem.StrLaws.sliceText_nat z hp hq,hd]
 rfl
theorem cutS_length (z:Str) (lo hi:Option Int):(cutS z lo hi).length≤z.length:=by
 show (((z.cps.toList.drop (HT.sIx z.length 0 lo)).take (HT.sIx z.length z.length hi - HT.sIx z.length 0 lo)).toArray).size≤z.cps.size
 rw [List.size_toArray,List.length_take,List.length_drop,Array.length_toList]
 omega
def rSlS:V→Option Int→Option Int→Hp→VK→Prop:=fun x lo hi H Q=>∃ z,x = .str z∧z.length≤sizeLine∧Q (.str (cutS z lo hi)) H
theorem sl_str {X:Cx}:SlR X rSlS:=by
 intro pins s σ H x v vl vu lo hi sl Q I rx hs pl pu h
 obtain ⟨z,rfl,hz,q⟩:=h
 obtain ⟨t,rfl⟩:=rx
 obtain ⟨os,hos,hcs,hds⟩:=hs
 obtain ⟨l,rfl,rfl⟩:=IsPart.raw pl
 obtain ⟨u,rfl,rfl⟩:=IsPart.raw pu
 refine ⟨"str",_,F.slot_str_getitem.lookup,typeIs_str _ _ _,?_⟩
 refine wpAny_getItem_str_slice (l:=l) (u:=u) (st:=none) ⟨os,hos,hcs,hds⟩ rfl ?_
 have hl:(PySem.StrLaws.sliceText z (l.map (·.1)) (u.map (·.1))).length≤sizeLine:=by
  rw [sliceText_cut]
  exact Nat.le_trans (cutS_length z _ _) hz
 rw [← sliceText_cut] at q
 unfold PySem.StrLaws.sliceText at q hl
 show Made.post (if ((1:Int) == 1 && (Builtin.Str.strSliceIndices (l.map (·.1)) (u.map (·.1)) 1 z.length).length == z.length) = true then Made.val (.str z t)
  else Made.str ⟨((Builtin.Str.strSliceIndices (l.map (·.1)) (u.map (·.1)) 1 z.length).filterMap (z.cps[·]?)).toArray⟩) (EP X pins σ Q) s
 by_cases c:((1:Int) == 1 && (Builtin.Str.strSliceIndices (l.map (·.1)) (u.map (·.1)) 1 z.length).length == z.length) = true
 · rw [if_pos c] at q ⊢
   exact ⟨.str z,H,I,⟨t,rfl⟩,q⟩
 · rw [if_neg c] at q hl ⊢
   exact ⟨hl,.str _,H,I.tok _,⟨_,rfl⟩,q⟩
end L2
namespace Att
open PySem PySem.W PySem.Calls PyProof.Rows
theorem ints_of_wellAll {P:Params} {h:Heap}:∀ (ns:List Int) (vs:List Value),WellAll P h vs (ns.map WData.int)→IntsAre vs ns:=by
 intro ns
 induction ns with
 | nil =>
   intro vs w
   rw [List.map_nil] at w
   cases w
   exact .nil
 | cons n ns ih =>
   intro vs w
   rw [List.map_cons] at w
   cases w with
   | cons a b =>
     cases a
     exact .cons _ _ (ih _ b)
end Att
namespace L2
open PySem PySem.Spec PyProof.Rows
theorem vals_ints:∀ {vs:List Value} {ns:List Int},IntsAre vs ns→Vals (ns.map V.int) vs
 | _,_,.nil=>.nil
 | _,_,.cons n t h=>.cons ⟨t,rfl⟩ (vals_ints h)
def Only (H:Hp):Prop:=∀ b,H b = none∨∃ o xs,H b = some (.frz o (.lst xs))
end L2
namespace L2
open PySem PySem.Spec PyProof.Rows
abbrev KOf {K:PySem.W.Frag} {h:Heap} (_:K.In h):PySem.W.Frag:=K
end L2
namespace L2
open PySem PySem.Spec PyProof.Rows
def inClass (s:Stmt) (j:Nat):Stmt:=match s with
 | .ClassDef _ _ _ body _ _ _ _ _ _ _=>body.getD j (.Pass ⟨0,0,0,0⟩)
 | _=>.Pass ⟨0,0,0,0⟩
def defArgs (s:Stmt):Arguments:=match s with
 | .FunctionDef _ a _ _ _ _ _ _ _ _=>a
 | _=>{ posonlyargs:=[],args:=[],vararg:=none,kwonlyargs:=[],kw_defaults:=[],kwarg:=none,defaults:=[] }
def defBody (s:Stmt):List Stmt:=match s with
 | .FunctionDef _ _ b _ _ _ _ _ _ _=>b
 | _=>[]
def defScope (s:Stmt):Scope:=match s with
 | .FunctionDef _ _ _ _ _ _ sc _ _ _=>sc
 | _=>{ kind:=.function,names:=[],isGenerator:=false,isCoroutine:=false }
abbrev CX0:CXT:=fun _ _ _ _ _ _=>False
abbrev E0:XK:=fun _ _ _=>False
theorem pass0 {X:Cx}:Passes CX0 X E0:=fun _ _ _ _ _ _ _ h=>h.elim
structure Fun (K:PySem.W.Frag) (x qual:Str) (st:Stmt) (f:Addr) (fd:FuncData):Prop where
 ex:∃ (oc:Value) (od:Option Addr) (kV doc pm:Value) (an:Option Addr) (cdv ct:Value) (osl:Array (Option Value)),
  fd = PySem.W.fnOf x qual (defArgs st) (defBody st) (defScope st) .none kV doc pm an cdv ct∧K.lookup f = some ⟨oc,od,.func fd,osl⟩∧PySem.W.codeIn K cdv qual = true
 kp:PySem.W.keepIn K (.ref f) = true
section
variable {P:Program} {w:World} {K:PySem.W.Frag} {mg:Str→Option Value} {base:Heap}
theorem Fun.ok {x qual:Str} {st:Stmt} {f:Addr} {fd:FuncData} {N ps:List Str} {k:Nat} {sp:Sp} (F:Fun K x qual st f fd) (S:FnScope N ps (defScope st)) (len:∀ vs H Q E,sp vs H Q E→vs.length = ps.length)
  (hbody:∀ (cdv:Value) (A:Around) (outer:List Env) (s:Shared) (H:Hp) (vs:List V) (Q:VK) (E:XK),Room k (A.deeper (envOfC qual (defScope st) s.heap.objs.size f cdv))→sp vs H Q E →
   ∃ t,PSs (cxOf CX0 P w K mg base N qual (defScope st) f cdv A outer s H E).nox (defBody st) t∧t { nx:=fun _ H'=>Q .non H',rt:=Q } (start N vs) H):FnOk P w K mg base CX0 (k + 1) f fd ps sp:=by
 obtain ⟨oc,od,kV,doc,pm,an,cdv,ct,osl,rfl,lk,hcd⟩:=F.ex
 refine fn_of lk hcd S len fun A outer s H vs Q E hr hsp=>?_
 obtain ⟨t,h,q⟩:=hbody cdv A outer s H vs Q E hr hsp
 exact ⟨t,h.nox,q⟩
theorem Fun.binds {x qual:Str} {st:Stmt} {f:Addr} {fd:FuncData} {ps:List Str} (F:Fun K x qual st f fd)
  (h:∀ (kV doc pm:Value) (an:Option Addr) (cdv ct:Value) (us:List Value),us.length = ps.length→bindArgs (PySem.W.fnOf x qual (defArgs st) (defBody st) (defScope st) .none kV doc pm an cdv ct) ⟨us,[]⟩ = pure (ps.zip us)):Binds K fd ps []:=by
 obtain ⟨oc,od,kV,doc,pm,an,cdv,ct,osl,rfl,lk,hcd⟩:=F.ex
 exact .all (h kV doc pm an cdv ct)
theorem fun_mk {x qual:Str} {st:Stmt} {f:Addr} {oc:Value} {od an:Option Addr} {osl:Array (Option Value)} {kV doc pm cdv ct:Value} (l:K.lookup f = some ⟨oc,od,.func (PySem.W.fnOf x qual (defArgs st) (defBody st) (defScope st) .none kV doc pm an cdv ct),osl⟩)
  (c:PySem.W.codeIn K cdv qual = true) (k:PySem.W.keepIn K (.ref f) = true):Fun K x qual st f (PySem.W.fnOf x qual (defArgs st) (defBody st) (defScope st) .none kV doc pm an cdv ct):=⟨⟨oc,od,kV,doc,pm,an,cdv,ct,osl,rfl,l,c⟩,k⟩
end
theorem hu_of {A:Around} {k:Nat} (hr:Room k A):A.units + 1 < cLine:=Nat.lt_of_le_of_lt (Nat.add_le_add_left (by decide:1≤64) _) hr.units
section
variable {X:Cx}
theorem pv (i:Nat) {x:Str} {pos:Pos} (hN:X.N[i]? = some x:=by rfl) (hv:Vis X.env.scope x:=by first | exact Or.inl rfl | exact Or.inr (Or.inl rfl) | exact Or.inr (Or.inr rfl)) (hd:(x == ("__debug__":Str)) = false:=by decide)
  (hcd:(x == ("__classdict__":Str)) = false:=by decide):PE X (.Name x pos) (tVar i):=pe_var hN hv hd hcd
end
theorem iteF {A B:Prop} (h:B):if false = true then A else B:=by
 rw [if_neg Bool.false_ne_true]
 exact h
theorem iteT {A B:Prop} (h:A):if true = true then A else B:=by
 rw [if_pos rfl]
 exact h
theorem ite2 {c A B:Prop} [Decidable c] (h1:c→A) (h2:¬ c→B):if c then A else B:=by
 by_cases h:c
 · rw [if_pos h]
   exact h1 h
 · rw [if_neg h]
   exact h2 h
def Same (H H':Hp):Prop:=∀ b o,H b = some o→H' b = some o
theorem Same.refl (H:Hp):Same H H:=fun _ _ h=>h
theorem Same.trans {H H1 H2:Hp} (a:Same H H1) (b:Same H1 H2):Same H H2:=fun c o h=>b c o (a c o h)
theorem Same.free {H H':Hp} (e:Same H H') {l:Addr} (h:H' l = Option.none):H l = Option.none:=by
 cases q:H l with
 | none=>rfl
 | some o =>
   rw [e l o q] at h
   cases h
theorem at_of {xs:List V} {z:Int} {j:Nat} {v:V} (e:z = (j:Int)) (h:xs[j]? = some v):atI xs z = some v:=by
 rw [e]
 exact atI_nat h
theorem nd_ix {α:Type} {l:List α} (hN:l.Nodup) {i j:Nat} {x:α} (a:l[i]? = some x) (b:l[j]? = some x):i = j:=by
 obtain ⟨h1,e1⟩:=List.getElem?_eq_some_iff.mp a
 obtain ⟨h2,e2⟩:=List.getElem?_eq_some_iff.mp b
 exact (List.getElem_inj hN).mp (e1.trans e2.symm)
theorem Same.made {H H1:Hp} {x dx C:Addr} (nx:H x = Option.none) (nd:H dx = Option.none) (k:∀ b o,(upd (upd H dx (.own x)) x (.ins C dx [])) b = some o→b≠x→H1 b = some o):Same H H1:=fun b o e =>
 k b o (by rw [upd_ne (ne_of_none e nx),upd_ne (ne_of_none e nd)]; exact e) (ne_of_none e nx)
end L2
namespace Bk
open IhPlace IhPages
theorem upTo_total:∀ a b:Bytes,(upTo a b || upTo b a) = true
 | [],b=>by simp [upTo]
 | a :: l,[]=>by simp [upTo]
 | a :: l,b :: m=>by
   have ih:=upTo_total l m
   simp only [upTo,Bool.or_eq_true,Bool.and_eq_true,decide_eq_true_eq,beq_iff_eq] at ih ⊢
   rcases Nat.lt_trichotomy a b with h | h | h
   · exact .inl (.inl h)
   · subst h
     rcases ih with h | h
     · exact .inl (.inr ⟨rfl,h⟩)
     · exact .inr (.inr ⟨rfl,h⟩)
   · exact .inr (.inl h)
theorem upTo_trans:∀ a b c:Bytes,upTo a b = true→upTo b c = true→upTo a c = true
 | [],_,_,_,_=>by simp [upTo]
 | _ :: _,[],_,h,_=>by simp [upTo] at h
 | _ :: _,_ :: _,[],_,h=>by simp [upTo] at h
 | a :: l,b :: m,c :: n,h1,h2=>by
   simp only [upTo,Bool.or_eq_true,Bool.and_eq_true,decide_eq_true_eq,beq_iff_eq] at h1 h2 ⊢
   rcases h1 with h1 | ⟨rfl,h1⟩
   · rcases h2 with h2 | ⟨rfl,h2⟩
     · exact .inl (by omega)
     · exact .inl h1
   · rcases h2 with h2 | ⟨rfl,h2⟩
     · exact .inl h2
     · exact .inr ⟨rfl,upTo_trans l m n h1 h2⟩
theorem upTo_anti:∀ a b:Bytes,upTo a b = true→upTo b a = true→a = b
 | [],[],_,_=>rfl
 | [],_ :: _,_,h=>by simp [upTo] at h
 | _ :: _,[],h,_=>by simp [upTo] at h
 | a :: l,b :: m,h1,h2=>by
   simp only [upTo,Bool.or_eq_true,Bool.and_eq_true,decide_eq_true_eq,beq_iff_eq] at h1 h2
   rcases h1 with h1 | ⟨rfl,h1⟩
   · rcases h2 with h2 | ⟨rfl,h2⟩ <;> omega
   · rcases h2 with h2 | ⟨_,h2⟩
     · omega
     · rw [upTo_anti l m h1 h2]
theorem twice_sorted:∀ l:List Bytes,l.Pairwise (fun a b=>upTo a b = true)→(twice l = true↔¬ l.Nodup)
 | [],_=>by simp [twice]
 | [a],_=>by simp [twice]
 | a :: b :: l,h=>by
   have ih:=twice_sorted (b :: l) (List.pairwise_cons.mp h).2
   have hb:=(List.pairwise_cons.mp h).1
   have hl:=(List.pairwise_cons.mp (List.pairwise_cons.mp h).2).1
   simp only [twice,Bool.or_eq_true,beq_iff_eq]
   rw [ih,List.nodup_cons (a:=a)]
   constructor
   · rintro (rfl | h')
     · exact fun hh=>hh.1 (List.mem_cons_self ..)
     · exact fun hh=>h' hh.2
   · intro hh
     by_cases hab:a = b
     · exact .inl hab
     · refine .inr fun hn=>hh ⟨fun hm=>?_,hn⟩
       rcases List.mem_cons.mp hm with e | hm
       · exact hab e
       · exact hab (upTo_anti _ _ (hb b (List.mem_cons_self ..)) (hl a hm))
theorem twice_iff (l:List Bytes):twice (l.mergeSort upTo) = true↔¬ l.Nodup:=by
 rw [twice_sorted _ (List.pairwise_mergeSort (fun a b c=>upTo_trans a b c) upTo_total l)]
 exact not_congr (List.mergeSort_perm l upTo).nodup_iff
theorem alike_iff (b:Book):alikeNames b = true↔¬ (namesOf b).Nodup:=twice_iff _
def startOf (b:Book) (k:Nat):Nat:=Book.pages (b.take k)
theorem startOf_zero (b:Book):startOf b 0 = 0:=by simp [startOf,Book.pages]
theorem startOf_succ (r:Run) (b:Book) (k:Nat):startOf (r :: b) (k + 1) = r.count + startOf b k:=by simp [startOf,Book.pages]
theorem pages_cons (r:Run) (b:Book):Book.pages (r :: b) = r.count + Book.pages b:=by simp [Book.pages]
theorem pages_append (b c:Book):Book.pages (b ++ c) = Book.pages b + Book.pages c:=by simp [Book.pages]
theorem page_iff:∀ (b:Book) (i k:Nat) (r:Run) (n:Nat),b.page i = some (k,r,n)↔b[k]? = some r∧startOf b k≤i∧i < startOf b k + r.count∧n = r.first + (i - startOf b k)
 | [],i,k,r,n=>by simp [Book.page]
 | r0 :: b,i,k,r,n=>by
   unfold Book.page
   by_cases hi:i < r0.count
   · rw [if_pos hi]
     cases k with
     | zero =>
       simp only [startOf_zero,List.getElem?_cons_zero,Option.some.injEq,Prod.mk.injEq]
       constructor
       · rintro ⟨_,rfl,rfl⟩; exact ⟨rfl,by omega,by omega,by omega⟩
       · rintro ⟨rfl,_,_,rfl⟩; exact ⟨by trivial,rfl,by omega⟩
     | succ k =>
       simp only [startOf_succ,Option.some.injEq,Prod.mk.injEq]
       constructor
       · rintro ⟨h,_⟩; omega
       · rintro ⟨_,h,_⟩; omega
   · rw [if_neg hi]
     have ih:=page_iff b (i - r0.count)
     cases k with
     | zero =>
       simp only [startOf_zero,List.getElem?_cons_zero,Option.some.injEq,Option.map_eq_some_iff]
       constructor
       · rintro ⟨x,_,h⟩; cases h
       · rintro ⟨rfl,_,h,_⟩; omega
     | succ k =>
       simp only [startOf_succ,List.getElem?_cons_succ,Option.map_eq_some_iff]
       constructor
       · rintro ⟨⟨k',r',n'⟩,h,e⟩
         have e1:k' = k:=by simpa using congrArg (·.1) e
         have e2:(r',n') = (r,n):=congrArg (·.2) e
         subst e1
         rw [e2] at h
         obtain ⟨h1,h2,h3,h4⟩:=(ih _ r n).mp h
         exact ⟨h1,by omega,by omega,by omega⟩
       · rintro ⟨h1,h2,h3,h4⟩
         exact ⟨(k,r,n),(ih k r n).mpr ⟨h1,by omega,by omega,by omega⟩,rfl⟩
theorem page_some:∀ (b:Book) (i:Nat),i < b.pages→∃ x,b.page i = some x
 | [],i,h=>by simp [Book.pages] at h
 | r :: b,i,h=>by
   rw [pages_cons] at h
   unfold Book.page
   by_cases hi:i < r.count
   · exact ⟨_,if_pos hi⟩
   · rw [if_neg hi]
     obtain ⟨x,hx⟩:=page_some b (i - r.count) (by omega)
     exact ⟨_,by rw [hx]; rfl⟩
theorem page_lt:∀ (b:Book) (i:Nat) (x:Nat × Run × Nat),b.page i = some x→i < b.pages
 | [],i,x,h=>by simp [Book.page] at h
 | r :: b,i,x,h=>by
   rw [pages_cons]
   unfold Book.page at h
   by_cases hi:i < r.count
   · omega
   · rw [if_neg hi] at h
     obtain ⟨y,hy,_⟩:=Option.map_eq_some_iff.mp h
     have:=page_lt b _ y hy
     omega
theorem page_none {b:Book} {i:Nat}:b.page i = none↔b.pages≤i:=by
 constructor
 · intro h
   refine Nat.le_of_not_lt fun q=>?_
   obtain ⟨x,hx⟩:=page_some b i q
   rw [hx] at h; cases h
 · intro h
   cases e:b.page i with
   | none=>rfl
   | some x=>have:=page_lt b i x e; omega
theorem name_of {b:Book} {i k:Nat} {r:Run} {n:Nat} (h:b.page i = some (k,r,n)):b.name i = r.name n:=by
 simp [Book.name,h]
theorem namesOf_eq:∀ b:Book,namesOf b = (List.range b.pages).map b.name
 | []=>by simp [namesOf,Book.pages]
 | r :: b=>by
   have ih:=namesOf_eq b
   unfold namesOf at ih ⊢
   rw [List.flatMap_cons,ih,pages_cons]
   apply List.ext_getElem?
   intro i
   by_cases hi:i < r.count
   · rw [List.getElem?_append_left (by simpa using hi)]
     simp [hi,show i < r.count + Book.pages b by omega,Book.name,Book.page]
   · rw [List.getElem?_append_right (by simpa using hi)]
     simp only [List.length_map,List.length_range,List.getElem?_map]
     by_cases h2:i < r.count + Book.pages b
     · rw [List.getElem?_range (by omega),List.getElem?_range h2]
       simp only [Option.map_some,Option.some.injEq,Book.name]
       conv=>rhs; unfold Book.page
       rw [if_neg hi]
       cases Book.page b (i - r.count) <;> rfl
     · rw [List.getElem?_eq_none (by simp; omega),List.getElem?_eq_none (by simp; omega)]
       rfl
theorem namesOf_length (b:Book):(namesOf b).length = b.pages:=by rw [namesOf_eq]; simp
theorem namesOf_append (b c:Book):namesOf (b ++ c) = namesOf b ++ namesOf c:=by simp [namesOf]
theorem mem_namesOf {b:Book} {s:Bytes}:s∈namesOf b↔∃ i,i < b.pages∧b.name i = s:=by
 rw [namesOf_eq]; simp
theorem name_inj {b:Book} (h:(namesOf b).Nodup) {i j:Nat} (hi:i < b.pages) (hj:j < b.pages) (e:b.name i = b.name j):i = j:=by
 rw [namesOf_eq] at h
 have key:=List.pairwise_iff_getElem.mp h
 rcases Nat.lt_trichotomy i j with q | q | q
 · have q1:=key i j (by simpa using hi) (by simpa using hj) q
   rw [List.getElem_map,List.getElem_map,List.getElem_range,List.getElem_range] at q1
   exact absurd e q1
 · exact q
 · have q1:=key j i (by simpa using hj) (by simpa using hi) q
   rw [List.getElem_map,List.getElem_map,List.getElem_range,List.getElem_range] at q1
   exact absurd e.symm q1
theorem find_iff {b:Book} (h:(namesOf b).Nodup) {s:Bytes} {i:Nat}:b.find s = some i↔i < b.pages∧b.name i = s:=by
 unfold Book.find
 constructor
 · intro hf
   have h1:=List.find?_some hf
   have h2:=List.mem_of_find?_eq_some hf
   exact ⟨by simpa using h2,by simpa using h1⟩
 · rintro ⟨hi,he⟩
   cases e:(List.range b.pages).find? fun (i:Nat)=>b.name i == s with
   | none =>
     have:=List.find?_eq_none.mp e i (by simpa using hi)
     simp [he] at this
   | some j =>
     have h1:=List.find?_some e
     have h2:=List.mem_of_find?_eq_some e
     have:j = i:=name_inj h (by simpa using h2) hi (by rw [he]; simpa using h1)
     rw [this]
theorem find_none {b:Book} {s:Bytes}:b.find s = none↔s ∉ namesOf b:=by
 rw [mem_namesOf]
 unfold Book.find
 rw [List.find?_eq_none]
 simp
end Bk
namespace Bk
open IhPlace IhPages
theorem digitChar_toNat:∀ n:Nat,n < 10→(Nat.digitChar n).toNat = 48 + n:=by decide
theorem digits_lt {n:Nat} (h:n < 10):digits n = [48 + n]:=by
 unfold digits
 rw [Nat.toDigits_of_lt_base h]
 simp [digitChar_toNat n h]
theorem digits_ge {n:Nat} (h:10≤n):digits n = digits (n / 10) ++ [48 + n % 10]:=by
 unfold digits
 rw [Nat.toDigits_of_base_le (by decide) h]
 simp [digitChar_toNat (n % 10) (Nat.mod_lt _ (by decide))]
theorem digits_ne (n:Nat):digits n≠[]:=by
 by_cases h:n < 10
 · rw [digits_lt h]; simp
 · rw [digits_ge (by omega)]; simp
theorem digits_pos (n:Nat):0 < (digits n).length:=List.length_pos_iff.mpr (digits_ne n)
theorem digits_mem (n:Nat):∀ c∈digits n,48≤c∧c≤57:=by
 induction n using Nat.strongRecOn with
 | _ n ih =>
   by_cases h:n < 10
   · rw [digits_lt h]; intro c hc; simp at hc; omega
   · rw [digits_ge (by omega)]
     intro c hc
     rcases List.mem_append.mp hc with hc | hc
     · exact ih _ (by omega) c hc
     · simp at hc; omega
theorem digits_all (n:Nat):(digits n).all isDigit = true:=by
 rw [List.all_eq_true]
 intro c hc
 have:=digits_mem n c hc
 simp [isDigit,this]
theorem numOf_nil:numOf [] = 0:=rfl
theorem numOf_snoc (l:Bytes) (c:Nat):numOf (l ++ [c]) = 10 * numOf l + (c - 48):=by simp [numOf,List.foldl_append]
theorem numOf_digits (n:Nat):numOf (digits n) = n:=by
 induction n using Nat.strongRecOn with
 | _ n ih =>
   by_cases h:n < 10
   · rw [digits_lt h]; simp [numOf]
   · rw [digits_ge (by omega),numOf_snoc,ih _ (by omega)]; omega
theorem digits_inj {m n:Nat} (h:digits m = digits n):m = n:=by rw [← numOf_digits m,h,numOf_digits]
theorem digits_head {n:Nat} (h:1≤n):(digits n).head?≠some 48:=by
 induction n using Nat.strongRecOn with
 | _ n ih =>
   by_cases h2:n < 10
   · rw [digits_lt h2]; simp; omega
   · rw [digits_ge (by omega),List.head?_append]
     cases e:(digits (n / 10)).head? with
     | none=>rw [List.head?_eq_none_iff] at e; exact absurd e (digits_ne _)
     | some c =>
       have:=ih (n / 10) (by omega) (by omega)
       rw [e] at this
       simpa using this
theorem digits_numOf (l:Bytes) (h0:l≠[]) (hd:∀ c∈l,48≤c∧c≤57) (hh:l.head?≠some 48):digits (numOf l) = l∧1≤numOf l:=by
 generalize hk:l.length = k
 induction k generalizing l with
 | zero=>exact absurd (List.length_eq_zero_iff.mp hk) h0
 | succ k ih =>
   obtain ⟨r,c,rfl⟩:∃ r c,l = r ++ [c]:=⟨l.dropLast,l.getLast h0,(List.dropLast_concat_getLast h0).symm⟩
   have hc:=hd c (by simp)
   rw [numOf_snoc]
   by_cases hr:r = []
   · subst hr
     simp only [numOf_nil]
     have:c≠48:=by simpa using hh
     refine ⟨?_,by omega⟩
     rw [digits_lt (by omega)]
     simp; omega
   · have hh':r.head?≠some 48:=by
      rw [List.head?_append] at hh
      cases e:r.head? with
      | none=>simp
      | some x=>rw [e] at hh; simpa using hh
     obtain ⟨h1,h2⟩:=ih r hr (fun x hx=>hd x (by simp [hx])) hh' (by simpa using hk)
     refine ⟨?_,by omega⟩
     rw [digits_ge (by omega)]
     rw [show (10 * numOf r + (c - 48)) / 10 = numOf r by omega,h1,show (10 * numOf r + (c - 48)) % 10 = c - 48 by omega]
     simp; omega
theorem digits_le (n k:Nat) (hk:0 < k):(digits n).length≤k↔n < 10 ^ k:=by
 unfold digits
 rw [List.length_map]
 exact Nat.length_toDigits_le_iff (by decide) hk
def ones:List Bytes:=[[],[105],[105,105],[105,105,105],[105,118],[118],[118,105],[118,105,105],[118,105,105,105],[105,120]]
def tens:List Bytes:=[[],[120],[120,120],[120,120,120],[120,108],[108],[108,120],[108,120,120],[108,120,120,120],[120,99]]
def hunds:List Bytes:=[[],[99],[99,99],[99,99,99],[99,100],[100],[100,99],[100,99,99],[100,99,99,99],[99,109]]
def thous:List Bytes:=[[],[109],[109,109],[109,109,109]]
def roman (n:Nat):Bytes:=thous.getD (n / 1000) [] ++ hunds.getD (n / 100 % 10) [] ++ (tens.getD (n / 10 % 10) [] ++ ones.getD (n % 10) [])
def romanOk (n:Nat):Bool:=romanFrom ROMAN n == roman n
def allBelow (p:Nat→Bool):Nat→Bool
 | 0=>true
 | n + 1=>p n && allBelow p n
theorem allBelow_of {p:Nat→Bool}:∀ {n:Nat},allBelow p n = true→∀ k,k < n→p k = true
 | 0,_,k,h=>by omega
 | n + 1,h,k,hk=>by
   simp only [allBelow,Bool.and_eq_true] at h
   by_cases e:k = n
   · rw [e]; exact h.1
   · exact allBelow_of h.2 k (by omega)
theorem romanOk_all:allBelow romanOk 4000 = true:=by decide +kernel
theorem roman_eq {n:Nat} (h:n < 4000):romanFrom ROMAN n = roman n:=by
 have:=allBelow_of romanOk_all n h
 simpa [romanOk] using this
def signVal (c:Nat):Nat:=if c = 105 then 1 else if c = 118 then 5 else if c = 120 then 10 else if c = 108 then 50 else if c = 99 then 100 else if c = 100 then 500 else if c = 109 then 1000 else 0
def romVal:Bytes→Int
 | []=>0
 | [c]=>signVal c
 | c :: d :: l=>if signVal c < signVal d then romVal (d :: l) - signVal c else romVal (d :: l) + signVal c
theorem romVal_all:allBelow (fun n=>romVal (roman n) == (n:Int)) 4000 = true:=by decide +kernel
theorem romVal_eq {n:Nat} (h:n < 4000):romVal (roman n) = n:=by simpa using allBelow_of romVal_all n h
theorem roman_inj {m n:Nat} (hm:m < 4000) (hn:n < 4000) (h:roman m = roman n):m = n:=by
 have:=romVal_eq hm
 rw [h,romVal_eq hn] at this
 omega
def isLow (c:Nat):Bool:=decide (97≤c) && decide (c≤122)
theorem roman_low_all:allBelow (fun n=>(roman n).all isLow) 4000 = true:=by decide +kernel
theorem roman_low {n:Nat} (h:n < 4000):(roman n).all isLow = true:=allBelow_of roman_low_all n h
end Bk
namespace Bk
open IhPlace IhPages
def letVal:Bytes→Nat
 | [a]=>a - 96
 | [a,b]=>(a - 96) * 26 + (b - 97) + 1
 | _=>0
theorem letVal_all:allBelow (fun n=>letVal (letters n) == n && (n == 0 || (letters n).all isLow)) 703 = true:=by decide +kernel
theorem letVal_eq {n:Nat} (h:n < 703):letVal (letters n) = n:=by
 have:=allBelow_of letVal_all n h
 simp only [Bool.and_eq_true,beq_iff_eq] at this
 exact this.1
theorem letters_low {n:Nat} (h:n < 703) (h1:1≤n):(letters n).all isLow = true:=by
 have:=allBelow_of letVal_all n h
 simp only [Bool.and_eq_true,Bool.or_eq_true,beq_iff_eq] at this
 rcases this.2 with e | e
 · omega
 · exact e
def most (style:Nat):Nat:=STYLEMOST.getD style 0
theorem most_le (s:Nat):most s≤99999:=by
 unfold most STYLEMOST
 match s with
 | 0=>decide
 | 1=>decide
 | 2=>decide
 | 3=>decide
 | s + 4=>simp
def NumOk (style n:Nat):Prop:=style≤3∧1≤n∧n≤most style
structure RunOk (r:Run):Prop where
 style:r.style≤3
 first:1≤r.first
 count:1≤r.count
 last:r.first + r.count - 1≤most r.style
 plen:r.pre.length≤4
 pre:∀ c∈r.pre,isLetter c = true∨c = 46
theorem right_iff (r:Run):r.right = true↔RunOk r:=by
 unfold Run.right
 simp only [Bool.and_eq_true,decide_eq_true_eq,List.all_eq_true,Bool.or_eq_true,beq_iff_eq]
 constructor
 · rintro ⟨⟨⟨⟨⟨h1,h2⟩,h3⟩,h4⟩,h5⟩,h6⟩
   exact ⟨h1,h2,h3,h4,h5,h6⟩
 · intro h
   exact ⟨⟨⟨⟨⟨h.style,h.first⟩,h.count⟩,h.last⟩,h.plen⟩,h.pre⟩
theorem RunOk.num {r:Run} (h:RunOk r) {n:Nat} (h1:r.first≤n) (h2:n < r.first + r.count):NumOk r.style n :=
 ⟨h.style,by have:=h.first; omega,by have:=h.last; have:=h.count; omega⟩
theorem style_cases {P:Nat→Prop} {s:Nat} (h:s≤3) (h0:P 0) (h1:P 1) (h2:P 2) (h3:P 3):P s:=by
 match s,h with
 | 0,_=>exact h0
 | 1,_=>exact h1
 | 2,_=>exact h2
 | 3,_=>exact h3
 | s + 4,h=>omega
theorem numberIn_letters {s n:Nat} (h:NumOk s n) (h0:s≠0):∀ c∈numberIn s n,isLetter c = true:=by
 obtain ⟨h1,h2,h3⟩:=h
 have low:∀ c,isLow c = true→isLetter c = true:=by
  intro c hc
  simp only [isLow,isLetter,Bool.and_eq_true,Bool.or_eq_true,decide_eq_true_eq] at hc ⊢
  exact .inr hc
 revert h3 h0
 refine style_cases (P:=fun s=>s≠0→n≤most s→∀ c∈numberIn s n,isLetter c = true) h1 (fun h _=>absurd rfl h) ?_ ?_ ?_
 · intro _ h3 c hc
   have h3':n < 4000:=by have:most 1 = 3999:=rfl; omega
   have hc':c∈romanFrom ROMAN n:=hc
   rw [roman_eq h3'] at hc'
   exact low c (List.all_eq_true.mp (roman_low h3') c hc')
 · intro _ h3 c hc
   have h3':n < 4000:=by have:most 2 = 3999:=rfl; omega
   have hc':c∈(romanFrom ROMAN n).map fun (c:Nat)=>c - 32:=hc
   rw [roman_eq h3'] at hc'
   obtain ⟨d,hd,rfl⟩:=List.mem_map.mp hc'
   have:=List.all_eq_true.mp (roman_low h3') d hd
   simp only [isLow,isLetter,Bool.and_eq_true,Bool.or_eq_true,decide_eq_true_eq] at this ⊢
   exact .inl (by omega)
 · intro _ h3 c hc
   have h3':n < 703:=by have:most 3 = 702:=rfl; omega
   have hc':c∈letters n:=hc
   exact low c (List.all_eq_true.mp (letters_low h3' h2) c hc')
theorem numberIn_inj {s m n:Nat} (hm:NumOk s m) (hn:NumOk s n) (e:numberIn s m = numberIn s n):m = n:=by
 obtain ⟨h1,h2,h3⟩:=hm
 obtain ⟨_,h5,h6⟩:=hn
 revert h3 h6 e
 refine style_cases (P:=fun s=>numberIn s m = numberIn s n→m≤most s→n≤most s→m = n) h1 ?_ ?_ ?_ ?_
 · intro e _ _
   exact digits_inj e
 · intro e h3 h6
   have q:most 1 = 3999:=rfl
   have e':romanFrom ROMAN m = romanFrom ROMAN n:=e
   rw [roman_eq (by omega),roman_eq (by omega)] at e'
   exact roman_inj (by omega) (by omega) e'
 · intro e h3 h6
   have q:most 2 = 3999:=rfl
   have e':(romanFrom ROMAN m).map (fun (c:Nat)=>c - 32) = (romanFrom ROMAN n).map (fun (c:Nat)=>c - 32):=e
   rw [roman_eq (by omega),roman_eq (by omega)] at e'
   refine roman_inj (by omega) (by omega) ?_
   have up:∀ l:Bytes,l.all isLow = true→(l.map (fun (c:Nat)=>c - 32)).map (fun c=>c + 32) = l:=by
    intro l hl
    rw [List.map_map]
    conv=>rhs; rw [← List.map_id l]
    refine List.map_congr_left fun c hc=>?_
    have:=List.all_eq_true.mp hl c hc
    simp only [isLow,Bool.and_eq_true,decide_eq_true_eq] at this
    simp; omega
   have e2:=congrArg (List.map fun c=>c + 32) e'
   rwa [up _ (roman_low (by omega)),up _ (roman_low (by omega))] at e2
 · intro e h3 h6
   have q:most 3 = 702:=rfl
   have e':letters m = letters n:=e
   have:=letVal_eq (n:=m) (by omega)
   rw [e',letVal_eq (n:=n) (by omega)] at this
   exact this.symm
theorem name_inj_run {r:Run} (h:RunOk r) {m n:Nat} (hm:NumOk r.style m) (hn:NumOk r.style n) (e:r.name m = r.name n):m = n :=
 numberIn_inj hm hn (List.append_cancel_left e)
theorem run_nodup {r:Run} (h:RunOk r):(namesOf [r]).Nodup:=by
 simp only [namesOf,List.flatMap_cons,List.flatMap_nil,List.append_nil]
 refine List.pairwise_map.mpr (List.Pairwise.imp_of_mem ?_ (List.nodup_range (n:=r.count)))
 intro i j hi hj hne e
 have hi':i < r.count:=by simpa using hi
 have hj':j < r.count:=by simpa using hj
 have:=name_inj_run h (h.num (n:=r.first + i) (by omega) (by omega)) (h.num (n:=r.first + j) (by omega) (by omega)) e
 exact hne (by omega)
theorem isLetter_nodig {c:Nat} (h:isLetter c = true∨c = 46):isDigit c = false:=by
 rcases h with h | h
 · simp only [isLetter,Bool.or_eq_true,Bool.and_eq_true,decide_eq_true_eq] at h
   simp only [isDigit,Bool.and_eq_false_iff,decide_eq_false_iff_not]
   omega
 · subst h; decide
theorem name_nodig {r:Run} (h:RunOk r) (h0:r.style≠0) {n:Nat} (hn:NumOk r.style n):∀ c∈r.name n,isDigit c = false:=by
 intro c hc
 rcases List.mem_append.mp hc with hc | hc
 · exact isLetter_nodig (h.pre c hc)
 · exact isLetter_nodig (.inl (numberIn_letters hn h0 c hc))
theorem name_digits {r:Run} (h0:r.style = 0) (n:Nat):r.name n = r.pre ++ digits n:=by simp [Run.name,numberIn,h0]
theorem split_digits {p q d e:Bytes} (hp:∀ c∈p,isDigit c = false) (hq:∀ c∈q,isDigit c = false) (hd:∀ c∈d,isDigit c = true) (he:∀ c∈e,isDigit c = true) (h:p ++ d = q ++ e):p = q∧d = e:=by
 induction p generalizing q with
 | nil =>
   cases q with
   | nil=>exact ⟨rfl,h⟩
   | cons c q =>
     have h':d = c :: (q ++ e):=h
     have h1:=hd c (by rw [h']; simp)
     rw [hq c (by simp)] at h1
     cases h1
 | cons c p ih =>
   cases q with
   | nil =>
     have h':e = c :: (p ++ d):=h.symm
     have h1:=he c (by rw [h']; simp)
     rw [hp c (by simp)] at h1
     cases h1
   | cons c' q =>
     have h1:c = c':=(List.cons.inj h).1
     have h2:p ++ d = q ++ e:=(List.cons.inj h).2
     obtain ⟨e1,e2⟩:=ih (fun x hx=>hp x (by simp [hx])) (fun x hx=>hq x (by simp [hx])) h2
     exact ⟨by rw [h1,e1],e2⟩
theorem digits_isD (n:Nat):∀ c∈digits n,isDigit c = true:=List.all_eq_true.mp (digits_all n)
theorem RunOk.preND {r:Run} (h:RunOk r):∀ c∈r.pre,isDigit c = false:=fun c hc=>isLetter_nodig (h.pre c hc)
theorem digit_names {r q:Run} (hr:RunOk r) (hq:RunOk q) (h0:r.style = 0) (g0:q.style = 0) {m n:Nat} (e:r.name m = q.name n):r.pre = q.pre∧m = n:=by
 rw [name_digits h0,name_digits g0] at e
 obtain ⟨e1,e2⟩:=split_digits hr.preND hq.preND (digits_isD m) (digits_isD n) e
 exact ⟨e1,digits_inj e2⟩
theorem mixed_names {r q:Run} (hq:RunOk q) (h0:r.style = 0) (g0:q.style≠0) {m n:Nat} (hn:NumOk q.style n):r.name m≠q.name n:=by
 intro e
 rw [name_digits h0] at e
 have h1:=name_nodig hq g0 hn
 rw [← e] at h1
 cases hd:digits m with
 | nil=>exact digits_ne m hd
 | cons c l =>
   have h2:=digits_isD m c (by rw [hd]; simp)
   rw [h1 c (by rw [hd]; simp)] at h2
   cases h2
structure BookOk (b:Book):Prop where
 runs:∀ r∈b,RunOk r
 nd:(namesOf b).Nodup
theorem bookOk_nil:BookOk []:=⟨fun _ h=>(nomatch h),by simp [namesOf]⟩
theorem mem_names_runs {b:Book} {s:Bytes}:s∈namesOf b↔∃ r∈b,∃ n,r.first≤n∧n < r.first + r.count∧r.name n = s:=by
 unfold namesOf
 simp only [List.mem_flatMap,List.mem_map,List.mem_range]
 constructor
 · rintro ⟨r,hr,i,hi,rfl⟩
   exact ⟨r,hr,r.first + i,by omega,by omega,rfl⟩
 · rintro ⟨r,hr,n,h1,h2,rfl⟩
   exact ⟨r,hr,n - r.first,by omega,by rw [show r.first + (n - r.first) = n by omega]⟩
theorem alike_snoc {b:Book} {r:Run} (hb:BookOk b) (hr:RunOk r):alikeNames (b ++ [r]) = true↔∃ n,r.first≤n∧n < r.first + r.count∧r.name n∈namesOf b:=by
 rw [alike_iff,namesOf_append,List.nodup_append]
 constructor
 · intro h
   refine Classical.byContradiction fun hno=>h ⟨hb.nd,run_nodup hr,?_⟩
   intro x hx y hy e
   subst e
   obtain ⟨q,hq,n,h1,h2,h3⟩:=mem_names_runs.mp hy
   obtain rfl:q = r:=by simpa using hq
   exact hno ⟨n,h1,h2,by rw [h3]; exact hx⟩
 · rintro ⟨n,h1,h2,h3⟩ ⟨_,_,h⟩
   exact h _ h3 _ (mem_names_runs.mpr ⟨r,by simp,n,h1,h2,rfl⟩) rfl
theorem bookOk_snoc {b:Book} {r:Run} (hb:BookOk b) (hr:RunOk r) (h:alikeNames (b ++ [r]) = false):BookOk (b ++ [r]):=by
 refine ⟨fun q hq=>?_,?_⟩
 · rcases List.mem_append.mp hq with hq | hq
   · exact hb.runs q hq
   · obtain rfl:q = r:=by simpa using hq
     exact hr
 · refine Classical.byContradiction fun hno=>?_
   rw [(alike_iff _).mpr hno] at h
   cases h
theorem alike_digits {b:Book} {r:Run} (hb:BookOk b) (hr:RunOk r) (h0:r.style = 0) :
  alikeNames (b ++ [r]) = true↔∃ q∈b,q.style = 0∧q.pre = r.pre∧q.first≤r.first + r.count - 1∧r.first≤q.first + q.count - 1:=by
 rw [alike_snoc hb hr]
 have c1:=hr.count
 constructor
 · rintro ⟨n,h1,h2,h3⟩
   obtain ⟨q,hq,m,h4,h5,h6⟩:=mem_names_runs.mp h3
   have Q:=hb.runs q hq
   by_cases g0:q.style = 0
   · obtain ⟨e1,e2⟩:=digit_names Q hr g0 h0 h6
     exact ⟨q,hq,g0,e1,by omega,by omega⟩
   · exact absurd h6.symm (mixed_names Q h0 g0 (Q.num h4 h5))
 · rintro ⟨q,hq,g0,e,h1,h2⟩
   have c2:=(hb.runs q hq).count
   refine ⟨max r.first q.first,by omega,by omega,mem_names_runs.mpr ⟨q,hq,max r.first q.first,by omega,by omega,?_⟩⟩
   rw [name_digits h0,name_digits g0,e]
def lets:Nat→Book→List (Bytes × Nat)
 | _,[]=>[]
 | s,r :: b=>(if r.style = 0 then [] else (List.range r.count).map fun i=>(r.name (r.first + i),s + i)) ++ lets (s + r.count) b
theorem lets_append:∀ (b c:Book) (s:Nat),lets s (b ++ c) = lets s b ++ lets (s + b.pages) c
 | [],c,s=>by simp [lets,Book.pages]
 | r :: b,c,s=>by
   rw [List.cons_append]
   simp only [lets]
   rw [lets_append b c,pages_cons,List.append_assoc,Nat.add_assoc]
theorem mem_lets:∀ (b:Book) (s:Nat) (x:Bytes) (j:Nat),(x,j)∈lets s b↔s≤j∧∃ k r n,b.page (j - s) = some (k,r,n)∧r.style≠0∧r.name n = x
 | [],s,x,j=>by simp [lets,Book.page]
 | r :: b,s,x,j=>by
   have ih:=mem_lets b (s + r.count) x j
   simp only [lets,List.mem_append,ih]
   constructor
   · rintro (h | ⟨h1,k,q,n,h2,h3,h4⟩)
     · by_cases h0:r.style = 0
       · rw [if_pos h0] at h; simp at h
       · rw [if_neg h0] at h
         obtain ⟨i,hi,e⟩:=List.mem_map.mp h
         have hi':i < r.count:=by simpa using hi
         have e1:r.name (r.first + i) = x:=congrArg (·.1) e
         have e2:s + i = j:=congrArg (·.2) e
         exact ⟨by omega,0,r,r.first + i,by unfold Book.page; rw [if_pos (by omega),show j - s = i by omega],h0,e1⟩
     · refine ⟨by omega,k + 1,q,n,?_,h3,h4⟩
       unfold Book.page
       rw [if_neg (by omega),show j - s - r.count = j - (s + r.count) by omega,h2]
       rfl
   · rintro ⟨h1,k,q,n,h2,h3,h4⟩
     unfold Book.page at h2
     by_cases hj:j - s < r.count
     · rw [if_pos hj] at h2
       cases h2
       refine .inl ?_
       rw [if_neg h3]
       exact List.mem_map.mpr ⟨j - s,by simpa using hj,by rw [h4,show s + (j - s) = j by omega]⟩
     · rw [if_neg hj] at h2
       obtain ⟨⟨k',q',n'⟩,h5,e⟩:=Option.map_eq_some_iff.mp h2
       have e1:(q',n') = (q,n):=congrArg (·.2) e
       have e2:q' = q:=congrArg (·.1) e1
       have e3:n' = n:=congrArg (·.2) e1
       subst e2; subst e3
       exact .inr ⟨by omega,k',q',n',by rw [show j - (s + r.count) = j - s - r.count by omega]; exact h5,h3,h4⟩
theorem page_num {b:Book} (hb:BookOk b) {i k:Nat} {r:Run} {n:Nat} (h:b.page i = some (k,r,n)):RunOk r∧NumOk r.style n∧r.first≤n∧n < r.first + r.count:=by
 obtain ⟨h1,h2,h3,h4⟩:=(page_iff b i k r n).mp h
 have R:=hb.runs r (List.mem_of_getElem? h1)
 exact ⟨R,R.num (by omega) (by omega),by omega,by omega⟩
theorem find_lets {b:Book} (hb:BookOk b) {x:Bytes} {j:Nat} (h:(x,j)∈lets 0 b):b.find x = some j:=by
 obtain ⟨_,k,r,n,h1,h2,h3⟩:=(mem_lets b 0 x j).mp h
 have h1':b.page j = some (k,r,n):=h1
 exact (find_iff hb.nd).mpr ⟨page_lt b j _ h1',by rw [name_of h1',h3]⟩
theorem lets_nodup {b:Book} (hb:BookOk b):((lets 0 b).map (·.1)).Nodup:=by
 have key:∀ (b:Book) (s:Nat),List.Sublist ((lets s b).map (·.1)) (namesOf b):=by
  intro b
  induction b with
  | nil=>intro s; simp [lets,namesOf]
  | cons r b ih =>
    intro s
    simp only [lets,namesOf,List.map_append,List.flatMap_cons]
    refine List.Sublist.append ?_ (ih _)
    by_cases h0:r.style = 0
    · rw [if_pos h0]; simp
    · rw [if_neg h0,List.map_map]
      exact List.Sublist.refl _
 exact (key b 0).nodup hb.nd
theorem alike_letters {b:Book} {r:Run} (hb:BookOk b) (hr:RunOk r) (h0:r.style≠0) :
  alikeNames (b ++ [r]) = true↔∃ i,i < r.count∧r.name (r.first + i)∈(lets 0 b).map (·.1):=by
 rw [alike_snoc hb hr]
 constructor
 · rintro ⟨n,h1,h2,h3⟩
   obtain ⟨i,hi,e⟩:=mem_namesOf.mp h3
   obtain ⟨⟨k,q,m⟩,hp⟩:=page_some b i hi
   obtain ⟨Q,M,_,_⟩:=page_num hb hp
   rw [name_of hp] at e
   refine ⟨n - r.first,by omega,?_⟩
   rw [show r.first + (n - r.first) = n by omega]
   by_cases g0:q.style = 0
   · exact absurd e (mixed_names hr g0 h0 (hr.num h1 h2))
   · exact List.mem_map.mpr ⟨(r.name n,i),(mem_lets b 0 _ _).mpr ⟨by omega,k,q,m,hp,g0,e⟩,rfl⟩
 · rintro ⟨i,hi,h⟩
   obtain ⟨⟨x,j⟩,h1,h2⟩:=List.mem_map.mp h
   obtain ⟨_,k,q,m,hp,g0,e⟩:=(mem_lets b 0 x j).mp h1
   have hp':b.page j = some (k,q,m):=hp
   have h2':x = r.name (r.first + i):=h2
   exact ⟨r.first + i,by omega,by omega,mem_namesOf.mpr ⟨j,page_lt b j _ hp',by rw [name_of hp',e,h2']⟩⟩
end Bk
namespace Bk
open IhPlace IhPages
def ws:Nat→Book→List (Run × Nat)
 | _,[]=>[]
 | s,r :: b=>(r,s) :: ws (s + r.count) b
theorem ws_append:∀ (b c:Book) (s:Nat),ws s (b ++ c) = ws s b ++ ws (s + b.pages) c
 | [],c,s=>by simp [ws,Book.pages]
 | r :: b,c,s=>by
   rw [List.cons_append]
   simp only [ws]
   rw [ws_append b c,pages_cons,List.cons_append,Nat.add_assoc]
theorem ws_length:∀ (b:Book) (s:Nat),(ws s b).length = b.length
 | [],s=>rfl
 | r :: b,s=>by simp [ws,ws_length b]
theorem ws_get:∀ (b:Book) (s k:Nat),(ws s b)[k]? = b[k]?.map fun r=>(r,s + startOf b k)
 | [],s,k=>by simp [ws]
 | r :: b,s,0=>by simp [ws,startOf_zero]
 | r :: b,s,k + 1=>by simp [ws,ws_get b,startOf_succ,Nat.add_assoc]
theorem mem_ws {b:Book} {s:Nat} {r:Run} {t:Nat}:(r,t)∈ws s b↔∃ k,b[k]? = some r∧t = s + startOf b k:=by
 rw [List.mem_iff_getElem?]
 constructor
 · rintro ⟨k,h⟩
   rw [ws_get] at h
   obtain ⟨q,h1,h2⟩:=Option.map_eq_some_iff.mp h
   cases h2
   exact ⟨k,h1,rfl⟩
 · rintro ⟨k,h1,rfl⟩
   exact ⟨k,by rw [ws_get,h1]; rfl⟩
def hasIx (i:Nat) (x:Run × Nat):Bool:=decide (x.2≤i) && decide (i < x.2 + x.1.count)
def runAt (b:Book) (i:Nat):Option (Run × Nat):=(ws 0 b).find? (hasIx i)
theorem find_ws:∀ (b:Book) (s i:Nat),s≤i→(ws s b).find? (hasIx i) = (b.page (i - s)).map fun x=>(x.2.1,s + startOf b x.1)
 | [],s,i,_=>by simp [ws,Book.page]
 | r :: b,s,i,h=>by
   unfold Book.page
   simp only [ws,List.find?_cons]
   by_cases hi:i - s < r.count
   · rw [if_pos hi,show hasIx i (r,s) = true by simp [hasIx]; omega]
     simp [startOf_zero]
   · rw [if_neg hi,show hasIx i (r,s) = false by simp [hasIx]; omega]
     simp only
     rw [find_ws b (s + r.count) i (by omega),show i - (s + r.count) = i - s - r.count by omega]
     cases Book.page b (i - s - r.count) with
     | none=>rfl
     | some x=>simp [startOf_succ,Nat.add_assoc]
theorem runAt_eq (b:Book) (i:Nat):runAt b i = (b.page i).map fun x=>(x.2.1,startOf b x.1):=by
 unfold runAt
 rw [find_ws b 0 i (Nat.zero_le _),Nat.sub_zero]
 cases b.page i with
 | none=>rfl
 | some x=>simp
theorem runAt_none {b:Book} {i:Nat}:runAt b i = none↔b.pages≤i:=by
 rw [runAt_eq,Option.map_eq_none_iff,page_none]
theorem runAt_some {b:Book} {i:Nat} {r:Run} {t:Nat} (h:runAt b i = some (r,t)):∃ k,b.page i = some (k,r,r.first + (i - t))∧t = startOf b k∧t≤i∧i < t + r.count∧b[k]? = some r:=by
 rw [runAt_eq] at h
 obtain ⟨⟨k,q,n⟩,h1,h2⟩:=Option.map_eq_some_iff.mp h
 cases h2
 obtain ⟨h3,h4,h5,h6⟩:=(page_iff b i k q n).mp h1
 exact ⟨k,by rw [h1,h6],rfl,h4,h5,h3⟩
def stripD (s:Bytes):Bytes:=(s.reverse.dropWhile isDigit).reverse
theorem stripD_snoc (s:Bytes) (c:Nat):stripD (s ++ [c]) = if isDigit c = true then stripD s else s ++ [c]:=by
 unfold stripD
 rw [List.reverse_append,List.reverse_singleton,List.singleton_append,List.dropWhile_cons]
 split <;> simp
theorem stripD_append (p d:Bytes) (hd:∀ c∈d,isDigit c = true):stripD (p ++ d) = stripD p:=by
 generalize hk:d.length = k
 induction k generalizing d with
 | zero=>rw [List.length_eq_zero_iff.mp hk,List.append_nil]
 | succ k ih =>
   have h0:d≠[]:=by intro e; rw [e] at hk; simp at hk
   obtain ⟨r,c,rfl⟩:∃ r c,d = r ++ [c]:=⟨d.dropLast,d.getLast h0,(List.dropLast_concat_getLast h0).symm⟩
   rw [← List.append_assoc,stripD_snoc,if_pos (hd c (by simp))]
   exact ih r (fun x hx=>hd x (by simp [hx])) (by simpa using hk)
theorem stripD_of (p:Bytes) (hp:∀ c∈p,isDigit c = false):stripD p = p:=by
 by_cases h0:p = []
 · subst h0; rfl
 · obtain ⟨r,c,rfl⟩:∃ r c,p = r ++ [c]:=⟨p.dropLast,p.getLast h0,(List.dropLast_concat_getLast h0).symm⟩
   rw [stripD_snoc,if_neg (by rw [hp c (by simp)]; simp)]
theorem stripD_pre (s:Bytes):∃ d,s = stripD s ++ d∧(∀ c∈d,isDigit c = true):=by
 refine ⟨(s.reverse.takeWhile isDigit).reverse,?_,?_⟩
 · have:=List.takeWhile_append_dropWhile (p:=isDigit) (l:=s.reverse)
   have h2:=congrArg List.reverse this
   rw [List.reverse_append,List.reverse_reverse] at h2
   exact h2.symm
 · intro c hc
   exact List.all_eq_true.mp (List.all_takeWhile (l:=s.reverse) (p:=isDigit)) c (by simpa using hc)
def tailD (s:Bytes):Bytes:=s.drop (stripD s).length
theorem strip_tail (s:Bytes):s = stripD s ++ tailD s∧∀ c∈tailD s,isDigit c = true:=by
 obtain ⟨d,h1,h2⟩:=stripD_pre s
 have e:tailD s = d:=by
  unfold tailD
  conv=>lhs; rw [h1]
  have:(stripD (stripD s ++ d)) = stripD s:=by rw [← h1]
  rw [this,List.drop_left]
 rw [e]
 exact ⟨h1,h2⟩
def hasNum (p:Bytes) (n:Nat) (x:Run × Nat):Bool:=x.1.style == 0 && (x.1.pre == p && (decide (x.1.first≤n) && decide (n≤x.1.first + x.1.count - 1)))
def digFind (b:Book) (s:Bytes):Option Nat :=
 let d:=tailD s
 if d = []∨d.head? = some 48∨5 < d.length then none
 else ((ws 0 b).find? (hasNum (stripD s) (numOf d))).map fun x=>x.2 + (numOf d - x.1.first)
theorem isDigit_iff {c:Nat}:isDigit c = true↔48≤c∧c≤57:=by simp [isDigit]
theorem find_digits {b:Book} (hb:BookOk b) {s:Bytes} (h:∀ j,(s,j) ∉ lets 0 b):b.find s = digFind b s:=by
 have fwd:∀ i,b.find s = some i→digFind b s = some i:=by
  intro i hi
  obtain ⟨h1,h2⟩:=(find_iff hb.nd).mp hi
  obtain ⟨⟨k,r,n⟩,hp⟩:=page_some b i h1
  obtain ⟨R,N,n1,n2⟩:=page_num hb hp
  rw [name_of hp] at h2
  by_cases h0:r.style = 0
  · rw [name_digits h0] at h2
    obtain ⟨p1,p2,p3,p4⟩:=(page_iff b i k r n).mp hp
    have es:stripD s = r.pre:=by rw [← h2,stripD_append _ _ (digits_isD n),stripD_of _ R.preND]
    have et:tailD s = digits n:=by unfold tailD; rw [es,← h2,List.drop_left]
    unfold digFind
    simp only [es,et,numOf_digits]
    have l5:(digits n).length≤5:=(digits_le n 5 (by decide)).mpr (by have:=N.2.2; have:=most_le r.style; omega)
    rw [if_neg (by rintro (q | q | q); exact digits_ne n q; exact digits_head N.2.1 q; omega)]
    cases e:(ws 0 b).find? (hasNum r.pre n) with
    | none =>
      have:=List.find?_eq_none.mp e (r,startOf b k) (mem_ws.mpr ⟨k,p1,by omega⟩)
      simp [hasNum,h0] at this
      have q:=this n1
      omega
    | some x =>
      obtain ⟨q,t⟩:=x
      have m1:=List.find?_some e
      have m2:=List.mem_of_find?_eq_some e
      obtain ⟨k',g1,g2⟩:=mem_ws.mp m2
      simp only [hasNum,Bool.and_eq_true,beq_iff_eq,decide_eq_true_eq] at m1
      obtain ⟨m3,m4,m5,m6⟩:=m1
      have Q:=hb.runs q (List.mem_of_getElem? g1)
      have c1:=Q.count
      have pg:b.page (t + (n - q.first)) = some (k',q,n):=(page_iff b _ _ _ _).mpr ⟨g1,by omega,by omega,by omega⟩
      have:=name_inj hb.nd (page_lt b _ _ pg) h1 (by rw [name_of pg,name_of hp,name_digits m3,name_digits h0,m4])
      simp [this]
  · exact absurd ((mem_lets b 0 s i).mpr ⟨by omega,k,r,n,hp,h0,h2⟩) (h i)
 cases e:b.find s with
 | some i=>rw [fwd i e]
 | none =>
   cases e2:digFind b s with
   | none=>rfl
   | some i =>
     exfalso
     unfold digFind at e2
     simp only at e2
     split at e2
     · cases e2
     · rename_i hc
       obtain ⟨⟨q,t⟩,f1,f2⟩:=Option.map_eq_some_iff.mp e2
       have m1:=List.find?_some f1
       have m2:=List.mem_of_find?_eq_some f1
       obtain ⟨k',g1,g2⟩:=mem_ws.mp m2
       simp only [hasNum,Bool.and_eq_true,beq_iff_eq,decide_eq_true_eq] at m1
       obtain ⟨m3,m4,m5,m6⟩:=m1
       have Q:=hb.runs q (List.mem_of_getElem? g1)
       have c1:=Q.count
       have pg:b.page (t + (numOf (tailD s) - q.first)) = some (k',q,numOf (tailD s)):=(page_iff b _ _ _ _).mpr ⟨g1,by omega,by omega,by omega⟩
       obtain ⟨s1,s2⟩:=strip_tail s
       have dn:=(digits_numOf (tailD s) (fun q=>hc (.inl q)) (fun c hc=>isDigit_iff.mp (s2 c hc)) (fun q=>hc (.inr (.inl q)))).1
       have:b.find s = some (t + (numOf (tailD s) - q.first)):=(find_iff hb.nd).mpr ⟨page_lt b _ _ pg,by rw [name_of pg,name_digits m3,dn,m4,← s1]⟩
       rw [e] at this
       cases this
end Bk
namespace Bk
open IhPlace IhPages
def rightPages (b:Book) (f t:Nat):Bool:=match runAt b f with
 | none=>false
 | some x=>hasIx t x && decide (f≤t)
theorem runOf_eq {b:Book} {i k:Nat} {r:Run} {n:Nat} (h:b.page i = some (k,r,n)):b.runOf i = some k:=by simp [Book.runOf,h]
theorem rightPages_iff (b:Book) (f t:Nat):rightPages b f t = true↔f≤t∧t < b.pages∧b.runOf f = b.runOf t:=by
 unfold rightPages
 cases e:runAt b f with
 | none =>
   have:=runAt_none.mp e
   simp only [Bool.false_eq_true,false_iff]
   rintro ⟨h1,h2,_⟩
   omega
 | some x =>
   obtain ⟨r,s⟩:=x
   obtain ⟨k,h1,h2,h3,h4,h5⟩:=runAt_some e
   simp only [hasIx,Bool.and_eq_true,decide_eq_true_eq]
   constructor
   · rintro ⟨⟨g1,g2⟩,g3⟩
     have pt:b.page t = some (k,r,r.first + (t - s)):=(page_iff b _ _ _ _).mpr ⟨h5,by omega,by omega,by omega⟩
     exact ⟨g3,page_lt b _ _ pt,by rw [runOf_eq h1,runOf_eq pt]⟩
   · rintro ⟨g1,g2,g3⟩
     obtain ⟨⟨k',r',n'⟩,pt⟩:=page_some b t g2
     rw [runOf_eq h1,runOf_eq pt] at g3
     cases g3
     obtain ⟨p1,p2,p3,p4⟩:=(page_iff b _ _ _ _).mp pt
     rw [h5] at p1
     cases p1
     exact ⟨⟨by omega,by omega⟩,g1⟩
def rightKind (p:Place):Bool:=p.kind == 0 || (decide (p.kind≤3) && (p.from_ == p.to_ && !p.main))
def rightNote (p:Place):Bool:=if p.kind = 1 then decide (1≤p.note) && decide (p.note≤16777215) else p.note == 0
theorem right_eq (b:Book) (p:Place):p.right b = (rightPages b p.from_ p.to_ && rightKind p && rightNote p):=by
 rw [Bool.eq_iff_iff]
 unfold Place.right rightKind rightNote NOTES
 simp only [Bool.and_eq_true,Bool.or_eq_true,decide_eq_true_eq,beq_iff_eq,rightPages_iff]
 constructor
 · rintro ⟨⟨⟨⟨⟨h1,h2⟩,h3⟩,h4⟩,h5⟩,h6⟩
   refine ⟨⟨⟨h1,h2,h3⟩,?_⟩,h6⟩
   rcases h5 with h5 | h5
   · exact .inl h5
   · exact .inr ⟨h4,h5⟩
 · rintro ⟨⟨⟨h1,h2,h3⟩,h4⟩,h6⟩
   refine ⟨⟨⟨⟨⟨h1,h2⟩,h3⟩,?_⟩,?_⟩,h6⟩
   · rcases h4 with h4 | h4
     · omega
     · exact h4.1
   · rcases h4 with h4 | h4
     · exact .inl h4
     · exact .inr h4.2
theorem alike_le_right:∀ a b:Bytes,alike a b≤b.length
 | [],b=>by simp [alike]
 | x :: a,[]=>by simp [alike]
 | x :: a,y :: b=>by
   have:=alike_le_right a b
   unfold alike
   split <;> simp <;> omega
theorem alike_at:∀ (a b:Bytes) (k:Nat),k < alike a b→a[k]? = b[k]?∧k < b.length
 | [],b,k,h=>by simp [alike] at h
 | x :: a,[],k,h=>by simp [alike] at h
 | x :: a,y :: b,k,h=>by
   unfold alike at h
   split at h
   · rename_i e
     cases k with
     | zero=>simp [e]
     | succ k =>
       obtain ⟨h1,h2⟩:=alike_at a b k (by omega)
       simpa using ⟨h1,h2⟩
   · omega
theorem alike_stop:∀ (a b:Bytes),b.length≤a.length→alike a b < b.length→a[alike a b]?≠b[alike a b]?
 | [],b,h,h2=>by simp at h; simp [h,alike] at h2
 | x :: a,[],h,h2=>by simp [alike] at h2
 | x :: a,y :: b,h,h2=>by
   unfold alike at h2 ⊢
   split
   · rename_i e
     rw [if_pos e] at h2
     have:=alike_stop a b (by simpa using h) (by simpa using h2)
     simpa using this
   · rename_i e
     simpa using e
def differing (m n:Nat):Nat:=if (digits m).length < (digits n).length then (digits n).length else (digits n).length - alike (digits m) (digits n)
theorem differing_le (m n:Nat):differing m n≤(digits n).length:=by unfold differing; split <;> omega
def byFrom (m n:Nat):Nat:=if m < 100∨m % 100 = 0 then (digits n).length else if m % 100≤9 then differing m n else max (differing m n) 2
def toldBy (way m n:Nat):Nat:=if way = 3 then byFrom m n else if way = 2 then min (max (differing m n) 2) (digits n).length else if way = 4∧n / 10 % 10 = 1 then max (differing m n) 2 else differing m n
theorem toldBy_eq {way m n:Nat} (h1:1≤way) (h4:way≤4):toldBy way m n = kept way m n:=by
 have hd:=differing_le m n
 have hp:=digits_pos n
 unfold toldBy kept byFrom
 unfold differing at hd ⊢
 simp only
 generalize (if (digits m).length < (digits n).length then (digits n).length else (digits n).length - alike (digits m) (digits n)) = c at *
 generalize (digits n).length = D at *
 have hw:way = 1∨way = 2∨way = 3∨way = 4:=by omega
 rcases hw with rfl | rfl | rfl | rfl
 · simp
 · simp; omega
 · simp
 · simp
theorem kept_le {way m n:Nat} (h1:1≤way) (h4:way≤4) (hmn:m≤n):toldBy way m n≤(digits n).length:=by
 have hd:=differing_le m n
 have hp:=digits_pos n
 have two:10≤n→2≤(digits n).length:=by
  intro h
  refine Nat.le_of_not_lt fun q=>?_
  have:=(digits_le n 1 (by decide)).mp (by omega)
  omega
 unfold toldBy byFrom
 split
 · split
   · omega
   · split
     · omega
     · have:=two (by omega); omega
 · split
   · omega
   · split
     · rename_i h
       have:=two (by omega); omega
     · omega
def toText (b:Book) (way f t:Nat):Bytes:=match runAt b f with
 | none=>[]
 | some (r,s)=>if way = 0∨r.style≠0 then r.name (r.first + (t - s)) else
   let d:=digits (r.first + (t - s))
   d.drop (d.length - toldBy way (r.first + (f - s)) (r.first + (t - s)))
def marksText (p:Place):Bytes:=if p.kind = 1 then [91,110] ++ digits p.note ++ [93] else if p.kind = 2 then [91,102,93] else if p.kind = 3 then [91,116,93] else if p.main = true then [33] else []
theorem marksText_eq {b:Book} {p:Place} (h:p.right b = true):marksText p = p.marks:=by
 unfold marksText Place.marks
 rw [right_eq] at h
 simp only [Bool.and_eq_true,rightKind,Bool.or_eq_true,beq_iff_eq,decide_eq_true_eq,Bool.not_eq_true'] at h
 rcases h.1.2 with h0 | ⟨h1,h2,h3⟩
 · simp [h0]
 · rw [h3]
   by_cases e1:p.kind = 1
   · simp [e1]
   · by_cases e2:p.kind = 2
     · simp [e2]
     · by_cases e3:p.kind = 3
       · simp [e3]
       · simp [e1,e2,e3]
theorem toText_eq {b:Book} {way f t:Nat} (hw:way≤4) (h:rightPages b f t = true):toText b way f t = b.told way f t:=by
 unfold rightPages at h
 unfold toText Book.told
 cases e:runAt b f with
 | none=>rw [e] at h; cases h
 | some x =>
   obtain ⟨r,s⟩:=x
   rw [e] at h
   obtain ⟨k,h1,h2,h3,h4,h5⟩:=runAt_some e
   simp only [hasIx,Bool.and_eq_true,decide_eq_true_eq] at h
   have pt:b.page t = some (k,r,r.first + (t - s)):=(page_iff b _ _ _ _).mpr ⟨h5,by omega,by omega,by omega⟩
   rw [h1,pt]
   simp only
   by_cases hc:way = 0∨r.style≠0
   · rw [if_pos hc,if_pos hc,name_of pt]
   · rw [if_neg hc,if_neg hc,toldBy_eq (by omega) hw]
def placeText (b:Book) (way:Nat) (p:Place):Bytes:=match runAt b p.from_ with
 | none=>[]
 | some (r,s)=>(if p.to_ = p.from_ then r.name (r.first + (p.from_ - s)) else r.name (r.first + (p.from_ - s)) ++ [45] ++ toText b way p.from_ p.to_) ++ marksText p
theorem placeText_eq {b:Book} {way:Nat} {p:Place} (hw:way≤4) (h:p.right b = true):placeText b way p = p.text b way:=by
 have hr:=h
 rw [right_eq,Bool.and_eq_true,Bool.and_eq_true] at hr
 have e1:=toText_eq hw hr.1.1
 unfold placeText Place.text
 rw [marksText_eq h,e1]
 have hp:=hr.1.1
 unfold rightPages at hp
 cases e:runAt b p.from_ with
 | none=>rw [e] at hp; cases hp
 | some x =>
   obtain ⟨r,s⟩:=x
   obtain ⟨k,h1,h2,h3,h4,h5⟩:=runAt_some e
   simp only
   rw [name_of h1]
   split <;> simp
end Bk
namespace Bk
open IhPlace IhPages
def spanLe (x y:Nat × Nat):Bool:=decide (x.1 < y.1) || (x.1 == y.1 && decide (x.2≤y.2))
theorem spanLe_iff {x y:Nat × Nat}:spanLe x y = true↔x.1 < y.1∨(x.1 = y.1∧x.2≤y.2):=by simp [spanLe]
theorem spanLe_total (x y:Nat × Nat):(spanLe x y || spanLe y x) = true:=by
 rw [Bool.or_eq_true,spanLe_iff,spanLe_iff]; omega
theorem spanLe_trans (x y z:Nat × Nat) (h1:spanLe x y = true) (h2:spanLe y z = true):spanLe x z = true:=by
 rw [spanLe_iff] at *; omega
def goes (b:Book) (joins:Bool) (e f:Nat):Bool:=decide (f≤e) || (joins && (f == e + 1 && b.runOf e == b.runOf f))
theorem joined_eq (b:Book) (joins:Bool) (l:List (Nat × Nat)):b.joined joins l = swept (goes b joins) l.length (l.mergeSort spanLe):=rfl
theorem swept_sep {go:Nat→Nat→Bool} (hgo:∀ e f,f≤e→go e f = true):∀ (n:Nat) (l:List (Nat × Nat)),l.length≤n + 1→(∀ x∈l,x.1≤x.2)→l.Pairwise (fun x y=>x.1≤y.1) →
  (swept go n l).Pairwise (fun x y=>x.2 < y.1)∧(∀ x∈swept go n l,x.1≤x.2)∧∀ a r,l = a :: r→∀ x∈swept go n l,a.1≤x.1
 | 0,[],_,_,_=>by simp [swept]
 | 0,[a],_,h,_=>by
   simp only [swept]
   refine ⟨List.pairwise_singleton _ _,h,?_⟩
   rintro a' r e x hx
   cases e
   simp at hx
   rw [hx]
   exact Nat.le_refl _
 | 0,a :: c :: l,h,_,_=>by simp at h
 | n + 1,[],_,_,_=>by simp [swept]
 | n + 1,[a],_,h,_=>by
   simp only [swept]
   refine ⟨List.pairwise_singleton _ _,h,?_⟩
   rintro a' r e x hx
   cases e
   simp at hx
   rw [hx]
   exact Nat.le_refl _
 | n + 1,a :: c :: l,hl,h,hp=>by
   have ha:=h a (by simp)
   have hc:=h c (by simp)
   obtain ⟨p1,p2⟩:=List.pairwise_cons.mp hp
   obtain ⟨p3,p4⟩:=List.pairwise_cons.mp p2
   have hac:a.1≤c.1:=p1 c (by simp)
   unfold swept
   split
   · rename_i hg
     obtain ⟨q1,q2,q3⟩:=swept_sep hgo n ((a.1,max a.2 c.2) :: l) (by simpa using hl) (by
      intro x hx
      rcases List.mem_cons.mp hx with e | hx
      · rw [e]; show a.1≤max a.2 c.2; omega
      · exact h x (by simp [hx])) (List.pairwise_cons.mpr ⟨fun x hx=>p1 x (by simp [hx]),p4⟩)
     refine ⟨q1,q2,?_⟩
     rintro a' r e x hx
     cases e
     exact q3 _ _ rfl x hx
   · rename_i hg
     obtain ⟨q1,q2,q3⟩:=swept_sep hgo n (c :: l) (by simpa using hl) (fun x hx=>h x (by simp [hx])) p2
     have hlt:a.2 < c.1:=by
      refine Nat.lt_of_not_le fun q=>hg (hgo _ _ q)
     refine ⟨List.pairwise_cons.mpr ⟨fun x hx=>?_,q1⟩,?_,?_⟩
     · have:=q3 c l rfl x hx
       omega
     · intro x hx
       rcases List.mem_cons.mp hx with e | hx
       · rw [e]; exact ha
       · exact q2 x hx
     · rintro a' r e x hx
       cases e
       rcases List.mem_cons.mp hx with e | hx
       · rw [e]; exact Nat.le_refl _
       · have:=q3 c l rfl x hx
         omega
theorem joined_sep (b:Book) (joins:Bool) (l:List (Nat × Nat)) (h:∀ x∈l,x.1≤x.2):(b.joined joins l).Pairwise (fun x y=>x.2 < y.1)∧∀ x∈b.joined joins l,x.1≤x.2:=by
 rw [joined_eq]
 have hm:=List.mergeSort_perm l spanLe
 have hs:=List.pairwise_mergeSort spanLe_trans spanLe_total l
 obtain ⟨h1,h2,_⟩:=swept_sep (go:=goes b joins) (by intro e f hf; simp [goes,hf]) l.length (l.mergeSort spanLe) (by rw [hm.length_eq]; omega) (fun x hx=>h x (hm.mem_iff.mp hx)) (hs.imp fun {x y} q=>by rw [spanLe_iff] at q; omega)
 exact ⟨h1,h2⟩
theorem before_iff {p q:Place}:p.before q = true↔p.from_ < q.from_∨(p.from_ = q.from_∧(p.class_ < q.class_∨(p.class_ = q.class_∧p.note≤q.note))):=by
 unfold Place.before
 split
 · rename_i h; simp; omega
 · rename_i h
   split
   · rename_i h2; simp; omega
   · rename_i h2; simp; omega
theorem before_total (p q:Place):(p.before q || q.before p) = true:=by
 rw [Bool.or_eq_true,before_iff,before_iff]; omega
theorem before_trans (p q r:Place) (h1:p.before q = true) (h2:q.before r = true):p.before r = true:=by
 rw [before_iff] at *; omega
def plainOf (b:Book) (joins:Bool) (l:List Place) (m:Bool):List Place:=(b.joined joins ((l.filter fun (p:Place)=>p.kind == 0 && p.main == m).map fun (p:Place)=>(p.from_,p.to_))).map fun (x:Nat × Nat)=>⟨x.1,x.2,0,m,0⟩
def keepsOf (drops:Bool) (l:List Place) (p:Place):Bool:=p.kind != 0 && !(drops && l.any fun (q:Place)=>q.kind == 0 && (decide (q.from_≤p.from_) && decide (p.from_≤q.to_)))
def othersOf (drops:Bool) (l:List Place):List Place:=(l.filter (keepsOf drops l)).eraseDups
theorem form_eq (b:Book) (joins drops:Bool) (l:List Place):b.form joins drops l = (plainOf b joins l true ++ (plainOf b joins l false ++ othersOf drops l)).mergeSort Place.before:=rfl
theorem right_facts {b:Book} {p:Place} (h:p.right b = true):p.from_≤p.to_∧p.kind≤3∧(p.kind≠0→p.from_ = p.to_∧p.main = false)∧(p.kind≠1→p.note = 0):=by
 rw [right_eq] at h
 simp only [Bool.and_eq_true,rightPages_iff,rightKind,rightNote,Bool.or_eq_true,beq_iff_eq,decide_eq_true_eq,Bool.not_eq_true'] at h
 obtain ⟨⟨⟨h1,_,_⟩,h2⟩,h3⟩:=h
 refine ⟨h1,?_,?_,?_⟩
 · rcases h2 with h2 | h2
   · omega
   · exact h2.1
 · intro hk
   rcases h2 with h2 | h2
   · exact absurd h2 hk
   · exact h2.2
 · intro hk
   rw [if_neg hk] at h3
   simpa using h3
theorem form_keys {b:Book} {joins drops:Bool} {l:List Place} (hr:∀ p∈l,p.right b = true) {p q:Place} (hp:p∈plainOf b joins l true ++ (plainOf b joins l false ++ othersOf drops l))
  (hq:q∈plainOf b joins l true ++ (plainOf b joins l false ++ othersOf drops l)) (h1:p.before q = true) (h2:q.before p = true):p = q:=by
 rw [before_iff] at h1 h2
 have e1:p.from_ = q.from_:=by omega
 have e2:p.class_ = q.class_:=by omega
 have e3:p.note = q.note:=by omega
 have plain:∀ m,∀ r∈plainOf b joins l m,r.kind = 0∧r.main = m∧r.note = 0∧(r.from_,r.to_)∈b.joined joins ((l.filter fun (p:Place)=>p.kind == 0 && p.main == m).map fun (p:Place)=>(p.from_,p.to_)):=by
  intro m r hr
  obtain ⟨x,hx,rfl⟩:=List.mem_map.mp hr
  exact ⟨rfl,rfl,rfl,hx⟩
 have other:∀ r∈othersOf drops l,r∈l∧r.kind≠0:=by
  intro r hr
  have:=List.mem_eraseDups.mp hr
  obtain ⟨g1,g2⟩:=List.mem_filter.mp this
  refine ⟨g1,?_⟩
  unfold keepsOf at g2
  simp only [Bool.and_eq_true,bne_iff_ne,ne_eq] at g2
  exact g2.1
 have cls:∀ r∈plainOf b joins l true ++ (plainOf b joins l false ++ othersOf drops l),(r∈plainOf b joins l true∧r.class_ = 0)∨(r∈plainOf b joins l false∧r.class_ = 1)∨(r∈othersOf drops l∧r.class_ = r.kind + 1∧r.kind≠0∧r.main = false):=by
  intro r h
  rcases List.mem_append.mp h with h | h
  · obtain ⟨g1,g2,g3,_⟩:=plain true r h
    exact .inl ⟨h,by simp [Place.class_,g2]⟩
  · rcases List.mem_append.mp h with h | h
    · obtain ⟨g1,g2,g3,_⟩:=plain false r h
      exact .inr (.inl ⟨h,by simp [Place.class_,g2,g1]⟩)
    · obtain ⟨g1,g2⟩:=other r h
      have:=(right_facts (hr r g1)).2.2.1 g2
      exact .inr (.inr ⟨h,by simp [Place.class_,this.2],g2,this.2⟩)
 have same:∀ m,p∈plainOf b joins l m→q∈plainOf b joins l m→p = q:=by
  intro m hp hq
  obtain ⟨g1,g2,g3,g4⟩:=plain m p hp
  obtain ⟨k1,k2,k3,k4⟩:=plain m q hq
  obtain ⟨s1,s2⟩:=joined_sep b joins ((l.filter fun (p:Place)=>p.kind == 0 && p.main == m).map fun (p:Place)=>(p.from_,p.to_)) (by
   intro x hx
   obtain ⟨r,hr',rfl⟩:=List.mem_map.mp hx
   exact (right_facts (hr r (List.mem_filter.mp hr').1)).1)
  have:(p.from_,p.to_) = (q.from_,q.to_):=by
   obtain ⟨i,hi,ei⟩:=List.mem_iff_getElem.mp g4
   obtain ⟨j,hj,ej⟩:=List.mem_iff_getElem.mp k4
   have key:=List.pairwise_iff_getElem.mp s1
   rcases Nat.lt_trichotomy i j with c | c | c
   · have:=key i j hi hj c
     rw [ei,ej] at this
     have:=s2 _ g4
     simp only at *
     omega
   · subst c
     rw [← ei,← ej]
   · have:=key j i hj hi c
     rw [ei,ej] at this
     have:=s2 _ k4
     simp only at *
     omega
  cases p; cases q
  simp only [Prod.mk.injEq] at this g1 g2 g3 k1 k2 k3
  obtain ⟨t1,t2⟩:=this
  subst t1; subst t2; subst g1; subst k1; subst g2; subst k2; subst g3; subst k3
  rfl
 rcases cls p hp with ⟨c1,c2⟩ | ⟨c1,c2⟩ | ⟨c1,c2,c3,c4⟩ <;> rcases cls q hq with ⟨d1,d2⟩ | ⟨d1,d2⟩ | ⟨d1,d2,d3,d4⟩
 · exact same true c1 d1
 · omega
 · omega
 · omega
 · exact same false c1 d1
 · omega
 · omega
 · omega
 · have f1:=right_facts (hr p (other p c1).1)
   have f2:=right_facts (hr q (other q d1).1)
   have g1:=f1.2.2.1 c3
   have g2:=f2.2.2.1 d3
   have e4:p.kind = q.kind:=by omega
   cases p; cases q
   simp only at *
   obtain ⟨g1,g1'⟩:=g1
   obtain ⟨g2,g2'⟩:=g2
   subst g1; subst g2; subst e1; subst e4; subst e3; subst g1'; subst g2'
   rfl
theorem form_unique {b:Book} {joins drops:Bool} {l o:List Place} (hr:∀ p∈l,p.right b = true) (hp:o.Perm (plainOf b joins l true ++ (plainOf b joins l false ++ othersOf drops l))) (hs:o.Pairwise (fun p q=>p.before q = true)):o = b.form joins drops l:=by
 rw [form_eq]
 refine List.Perm.eq_of_pairwise (fun p q h1 h2=>form_keys hr (hp.mem_iff.mp h1) ((List.mergeSort_perm _ _).mem_iff.mp h2)) hs (List.pairwise_mergeSort before_trans before_total _) (hp.trans (List.mergeSort_perm _ _).symm)
end Bk
namespace Bk
open IhPlace IhPages
def isSign (c:Nat):Bool:=isLetter c || (isDigit c || c == 46)
theorem digits_sign (n:Nat):∀ c∈digits n,isSign c = true:=fun c hc=>by simp [isSign,digits_isD n c hc]
theorem name_sign {r:Run} (h:RunOk r) {n:Nat} (hn:NumOk r.style n):∀ c∈r.name n,isSign c = true:=by
 intro c hc
 rcases List.mem_append.mp hc with hc | hc
 · rcases h.pre c hc with e | e
   · simp [isSign,e]
   · simp [isSign,e]
 · by_cases h0:r.style = 0
   · have:c∈digits n:=by simpa [numberIn,h0] using hc
     exact digits_sign n c this
   · simp [isSign,numberIn_letters hn h0 c hc]
theorem numberIn_ne {s n:Nat} (h:NumOk s n):numberIn s n≠[]:=by
 obtain ⟨h1,h2,h3⟩:=h
 revert h3
 refine style_cases (P:=fun s=>n≤most s→numberIn s n≠[]) h1 ?_ ?_ ?_ ?_
 · intro _; exact digits_ne n
 · intro h3 e
   have h3':n < 4000:=by have:most 1 = 3999:=rfl; omega
   have e':romanFrom ROMAN n = []:=e
   have h4:=romVal_eq h3'
   rw [← roman_eq h3',e'] at h4
   simp [romVal] at h4
   omega
 · intro h3 e
   have h3':n < 4000:=by have:most 2 = 3999:=rfl; omega
   have e':(romanFrom ROMAN n).map (fun (c:Nat)=>c - 32) = []:=e
   have e2:=List.map_eq_nil_iff.mp e'
   have h4:=romVal_eq h3'
   rw [← roman_eq h3',e2] at h4
   simp [romVal] at h4
   omega
 · intro h3 e
   have e':letters n = []:=e
   unfold letters at e'
   split at e' <;> simp at e'
theorem names_sign {b:Book} (hb:BookOk b) {s:Bytes} (h:s∈namesOf b):(∀ c∈s,isSign c = true)∧s≠[]:=by
 obtain ⟨r,hr,n,h1,h2,rfl⟩:=mem_names_runs.mp h
 have R:=hb.runs r hr
 refine ⟨name_sign R (R.num h1 h2),fun e=>?_⟩
 exact numberIn_ne (R.num h1 h2) (List.append_eq_nil_iff.mp e).2
def known (c:Nat):Bool:=isSign c || (c == 45 || (c == 91 || (c == 93 || (c == 33 || (c == 44 || c == 32)))))
def seen1 (c:Nat):Nat:=if known c = true then c else 63
def seen (s:Bytes):Bytes:=s.map seen1
theorem known_sign {c:Nat} (h:isSign c = true):known c = true:=by simp [known,h]
theorem seen1_sign (c:Nat):isSign (seen1 c) = isSign c:=by
 unfold seen1
 split
 · rfl
 · rename_i h
   have h1:isSign 63 = false:=by decide
   rw [h1]
   cases e:isSign c with
   | false=>rfl
   | true=>exact absurd (known_sign e) h
theorem seen_of {s:Bytes} (h:∀ c∈s,isSign c = true):seen s = s:=by
 unfold seen
 conv=>rhs; rw [← List.map_id s]
 refine List.map_congr_left fun c hc=>?_
 simp [seen1,known_sign (h c hc)]
theorem seen_foreign {s:Bytes} (h:∃ c∈s,isSign c = false):∃ c∈seen s,isSign c = false:=by
 obtain ⟨c,hc,e⟩:=h
 exact ⟨seen1 c,List.mem_map.mpr ⟨c,hc,rfl⟩,by rw [seen1_sign,e]⟩
theorem find_foreign {b:Book} (hb:BookOk b) {s:Bytes} (h:∃ c∈s,isSign c = false):b.find s = none:=by
 rw [find_none]
 intro hm
 obtain ⟨c,hc,e⟩:=h
 rw [(names_sign hb hm).1 c hc] at e
 cases e
theorem find_seen {b:Book} (hb:BookOk b) (s:Bytes):b.find (seen s) = b.find s:=by
 by_cases h:∃ c∈s,isSign c = false
 · rw [find_foreign hb h,find_foreign hb (seen_foreign h)]
 · rw [seen_of fun c hc=>?_]
   cases e:isSign c with
   | true=>rfl
   | false=>exact absurd ⟨c,hc,e⟩ h
def preSign (c:Nat):Bool:=isLetter c || c == 46
theorem seen1_pre (c:Nat):preSign (seen1 c) = preSign c:=by
 unfold seen1
 split
 · rfl
 · rename_i h
   have h1:preSign 63 = false:=by decide
   rw [h1]
   cases e:preSign c with
   | false=>rfl
   | true =>
     exfalso
     apply h
     apply known_sign
     simp only [preSign,Bool.or_eq_true,beq_iff_eq] at e
     rcases e with e | e <;> simp [isSign,e]
theorem seen_pre (s:Bytes):(seen s).all preSign = s.all preSign:=by
 unfold seen
 rw [List.all_map]
 congr 1
 funext c
 exact seen1_pre c
theorem seen_length (s:Bytes):(seen s).length = s.length:=by simp [seen]
theorem right_seen (st f c:Nat) (p:Bytes):(Run.right ⟨st,f,c,seen p⟩) = (Run.right ⟨st,f,c,p⟩)∧(Run.right ⟨st,f,c,p⟩ = true→seen p = p):=by
 constructor
 · unfold Run.right
   simp only [seen_length]
   have:=seen_pre p
   unfold preSign at this
   rw [this]
 · intro h
   refine seen_of fun x hx=>?_
   have R:=(right_iff _).mp h
   rcases R.pre x hx with e | e <;> simp [isSign,e]
end Bk
namespace Bk
open IhPlace IhPages
inductive View:List Int→IhPages.Call→List Int→Prop
 | begin_ (w j d:Nat) (t:List Int):View (1 :: (w:Int) :: (j:Int) :: (d:Int) :: t) (.begin_ w j d) t
 | run (s f c:Nat) (p:Bytes) (t:List Int):(∀ x∈p,x≤255)→View (2 :: (s:Int) :: (f:Int) :: (c:Int) :: (p.length:Int) :: (PgNeutral.ints p ++ t)) (.run s f c p) t
 | pages (t:List Int):View (3 :: t) .pages t
 | name (i:Nat) (t:List Int):View (4 :: (i:Int) :: t) (.name i) t
 | page (s:Bytes) (t:List Int):(∀ x∈s,x≤255)→View (5 :: (s.length:Int) :: (PgNeutral.ints s ++ t)) (.page s) t
 | write (p:Place) (t:List Int):View (6 :: 5 :: (PgNeutral.ints (PgNeutral.five p) ++ t)) (.write p) t
 | read (s:Bytes) (t:List Int):(∀ x∈s,x≤255)→View (7 :: (s.length:Int) :: (PgNeutral.ints s ++ t)) (.read s) t
 | form (l:List Place) (t:List Int):View (8 :: ((l.flatMap PgNeutral.five).length:Int) :: (PgNeutral.ints (l.flatMap PgNeutral.five) ++ t)) (.form l) t
 | text (l:List Place) (t:List Int):View (9 :: ((l.flatMap PgNeutral.five).length:Int) :: (PgNeutral.ints (l.flatMap PgNeutral.five) ++ t)) (.text l) t
 | list (s:Bytes) (t:List Int):(∀ x∈s,x≤255)→View (10 :: (s.length:Int) :: (PgNeutral.ints s ++ t)) (.list s) t
 | has (l:List Place) (i:Nat) (t:List Int):View (11 :: (i:Int) :: ((l.flatMap PgNeutral.five).length:Int) :: (PgNeutral.ints (l.flatMap PgNeutral.five) ++ t)) (.has l i) t
theorem row_inv {r x t:List Int} (h:PyFlat.row r = some (x,t)):r = (x.length:Int) :: (x ++ t):=by
 cases r with
 | nil=>simp [PyFlat.row] at h
 | cons n r =>
   have h':(if 0≤n∧n.toNat≤r.length then some (r.take n.toNat,r.drop n.toNat) else none) = some (x,t):=h
   by_cases hc:0≤n∧n.toNat≤r.length
   · rw [if_pos hc] at h'
     have h1:r.take n.toNat = x:=congrArg Prod.fst (Option.some.inj h')
     have h2:r.drop n.toNat = t:=congrArg Prod.snd (Option.some.inj h')
     have hl:x.length = n.toNat:=by rw [← h1,List.length_take]; omega
     rw [hl,← h1,← h2,List.take_append_drop]
     congr 1
     omega
   · rw [if_neg hc] at h'
     cases h'
theorem rows1_inv {r t:List Int} {xs:List (List Int)} (h:PyFlat.rows 1 r = some (xs,t)):∃ x,xs = [x]∧r = (x.length:Int) :: (x ++ t):=by
 unfold PyFlat.rows at h
 cases e:PyFlat.row r with
 | none=>rw [e] at h; cases h
 | some y =>
   obtain ⟨x,s⟩:=y
   rw [e] at h
   simp only [PyFlat.rows,Option.some.injEq,Prod.mk.injEq] at h
   obtain ⟨h1,h2⟩:=h
   subst h2
   exact ⟨x,h1.symm,row_inv e⟩
theorem ints_nats {l:List Int} (h:∀ x∈l,0≤x):PgNeutral.ints (PgNeutral.nats l) = l:=by
 unfold PgNeutral.ints PgNeutral.nats
 rw [List.map_map]
 conv=>rhs; rw [← List.map_id l]
 refine List.map_congr_left fun x hx=>?_
 have:=h x hx
 simp; omega
theorem placeRow_five:∀ (l:List Int),PgNeutral.placeRow l = true→∃ ps:List Place,PgNeutral.placesOf (PgNeutral.nats l) = some ps∧PgNeutral.ints (ps.flatMap PgNeutral.five) = l∧(∀ x∈l,0≤x)
 | [],_=>⟨[],rfl,rfl,by simp⟩
 | [_],h=>by simp [PgNeutral.placeRow] at h
 | [_,_],h=>by simp [PgNeutral.placeRow] at h
 | [_,_,_],h=>by simp [PgNeutral.placeRow] at h
 | [_,_,_,_],h=>by simp [PgNeutral.placeRow] at h
 | a :: b :: k :: m :: n :: l,h=>by
   unfold PgNeutral.placeRow at h
   simp only [Bool.and_eq_true,PgNeutral.whole32,decide_eq_true_eq] at h
   obtain ⟨ha,hb,hk,hm0,hm1,hn,hl⟩:=h
   obtain ⟨ps,h1,h2,h3⟩:=placeRow_five l hl
   have hm:m.toNat≤1:=by omega
   refine ⟨⟨a.toNat,b.toNat,k.toNat,m.toNat == 1,n.toNat⟩ :: ps,?_,?_,?_⟩
   · show (match PgNeutral.placeOf [a.toNat,b.toNat,k.toNat,m.toNat,n.toNat],PgNeutral.placesOf (PgNeutral.nats l) with
      | some p,some t=>some (p :: t)
      | _,_=>none) = _
     rw [h1]
     simp [PgNeutral.placeOf,hm]
   · rw [List.flatMap_cons]
     unfold PgNeutral.ints at h2 ⊢
     rw [List.map_append,h2]
     have e1:(if (m.toNat == 1) = true then 1 else 0) = m.toNat:=by
      by_cases q:m.toNat = 1
      · simp [q]
      · have:m.toNat = 0:=by omega
        simp [this]
     simp only [PgNeutral.five,e1,List.map_cons,List.map_nil,List.cons_append,List.nil_append]
     congr 1
     · omega
     congr 1
     · omega
     congr 1
     · omega
     congr 1
     · omega
     congr 1
     omega
   · intro x hx
     simp only [List.mem_cons] at hx
     rcases hx with rfl | rfl | rfl | rfl | rfl | hx
     · exact ha.1
     · exact hb.1
     · exact hk.1
     · exact hm0
     · exact hn.1
     · exact h3 x hx
theorem byteRow_nats {l:List Int} (h:PgNeutral.byteRow l = true):(∀ x∈l,0≤x)∧PgNeutral.ints (PgNeutral.nats l) = l∧∀ x∈PgNeutral.nats l,x≤255:=by
 have h':∀ x∈l,0≤x∧x≤255:=by
  intro x hx
  have:=List.all_eq_true.mp h x hx
  simpa using this
 refine ⟨fun x hx=>(h' x hx).1,ints_nats fun x hx=>(h' x hx).1,?_⟩
 intro x hx
 obtain ⟨y,hy,rfl⟩:=List.mem_map.mp hx
 have:=h' y hy
 omega
theorem nats_length (l:List Int):(PgNeutral.nats l).length = l.length:=by simp [PgNeutral.nats]
theorem ints_length (l:List Nat):(PgNeutral.ints l).length = l.length:=by simp [PgNeutral.ints]
theorem cond_whole {c:List (List Int)} {o:Option IhPages.Call} (h:PgNeutral.whole c = true):(if PgNeutral.whole c = false then none else o) = o:=if_neg (by rw [h]; exact Bool.noConfusion)
theorem call_view {l t:List Int} {c:List (List Int)} (h:PyFlat.call PyWqakbc.shape l = some (c,t)) (ha:PgNeutral.asked1 (PyWqakbc.whole c) = true) :
  ∃ x,PgNeutral.callOf (PyWqakbc.whole c) = some x∧View l x t:=by
 cases l with
 | nil=>simp [PyFlat.call] at h
 | cons p r =>
   have h':(match PyWqakbc.shape p with
    | none=>none
    | some (n,k)=>if r.length < n then none else match PyFlat.rows k (r.drop n) with
      | none=>none
      | some (xs,t)=>some ((p :: r.take n) :: xs,t)) = some (c,t):=h
   have none_:∀ n,PyWqakbc.shape p = some (n,0)→n≤r.length∧c = [p :: r.take n]∧t = r.drop n:=by
    intro n e
    rw [e] at h'
    simp only at h'
    by_cases hn:r.length < n
    · rw [if_pos hn] at h'; cases h'
    · rw [if_neg hn] at h'
      simp only [PyFlat.rows,Option.some.injEq,Prod.mk.injEq] at h'
      exact ⟨by omega,h'.1.symm,h'.2.symm⟩
   have one_:∀ n,PyWqakbc.shape p = some (n,1)→n≤r.length∧∃ x,c = [p :: r.take n,x]∧r.drop n = (x.length:Int) :: (x ++ t):=by
    intro n e
    rw [e] at h'
    simp only at h'
    by_cases hn:r.length < n
    · rw [if_pos hn] at h'; cases h'
    · rw [if_neg hn] at h'
      cases q:PyFlat.rows 1 (r.drop n) with
      | none=>rw [q] at h'; cases h'
      | some y =>
        obtain ⟨xs,s⟩:=y
        rw [q] at h'
        simp only [Option.some.injEq,Prod.mk.injEq] at h'
        obtain ⟨h1,h2⟩:=h'
        subst h2
        obtain ⟨x,rfl,e2⟩:=rows1_inv q
        exact ⟨by omega,x,h1.symm,e2⟩
   have len1:∀ {r:List Int},1≤r.length→∃ a s,r = a :: s:=fun {r} h=>match r,h with | a :: s,_=>⟨a,s,rfl⟩
   have len3:∀ {r:List Int},3≤r.length→∃ a b d s,r = a :: b :: d :: s:=fun {r} h=>match r,h with | a :: b :: d :: s,_=>⟨a,b,d,s,rfl⟩
   have nat_:∀ {z:Int},PgNeutral.whole32 z = true→∃ n:Nat,z = (n:Int):=fun {z} h=>⟨z.toNat,by
    simp only [PgNeutral.whole32,Bool.and_eq_true,decide_eq_true_eq] at h; omega⟩
   by_cases p1:p = 1
   · subst p1
     obtain ⟨hn,rfl,rfl⟩:=none_ 3 rfl
     obtain ⟨a,b,d,s,rfl⟩:=len3 hn
     have ha':(PgNeutral.whole32 a && (PgNeutral.whole32 b && PgNeutral.whole32 d)) = true:=ha
     simp only [Bool.and_eq_true] at ha'
     obtain ⟨⟨a,rfl⟩,⟨b,rfl⟩,⟨d,rfl⟩⟩:=And.intro (nat_ ha'.1) (And.intro (nat_ ha'.2.1) (nat_ ha'.2.2))
     refine ⟨.begin_ a b d,?_,View.begin_ a b d s⟩
     exact cond_whole (c:=[[1,(a:Int),(b:Int),(d:Int)]]) (o:=some (.begin_ a b d)) (by simp [PgNeutral.whole])
   by_cases p2:p = 2
   · subst p2
     obtain ⟨hn,x,rfl,e⟩:=one_ 3 rfl
     obtain ⟨a,b,d,s,rfl⟩:=len3 hn
     have ha':(PgNeutral.whole32 a && (PgNeutral.whole32 b && (PgNeutral.whole32 d && PgNeutral.byteRow x))) = true:=ha
     simp only [Bool.and_eq_true] at ha'
     obtain ⟨⟨a,rfl⟩,⟨b,rfl⟩,⟨d,rfl⟩⟩:=And.intro (nat_ ha'.1) (And.intro (nat_ ha'.2.1) (nat_ ha'.2.2.1))
     obtain ⟨g1,g2,g3⟩:=byteRow_nats ha'.2.2.2
     refine ⟨.run a b d (PgNeutral.nats x),?_,?_⟩
     · refine cond_whole (c:=[[2,(a:Int),(b:Int),(d:Int)],x]) (o:=some (.run a b d (PgNeutral.nats x))) ?_
       simp [PgNeutral.whole]
       intro z hz; exact g1 z hz
     · have e':s = (x.length:Int) :: (x ++ t):=e
       rw [e']
       have:=View.run a b d (PgNeutral.nats x) t g3
       rwa [g2,nats_length] at this
   by_cases p3:p = 3
   · subst p3
     obtain ⟨hn,rfl,rfl⟩:=none_ 0 rfl
     exact ⟨.pages,rfl,View.pages _⟩
   by_cases p4:p = 4
   · subst p4
     obtain ⟨hn,rfl,rfl⟩:=none_ 1 rfl
     obtain ⟨a,s,rfl⟩:=len1 hn
     obtain ⟨a,rfl⟩:=nat_ (show PgNeutral.whole32 a = true from ha)
     refine ⟨.name a,?_,View.name a s⟩
     exact cond_whole (c:=[[4,(a:Int)]]) (o:=some (.name a)) (by simp [PgNeutral.whole])
   have bytes_:∀ x:List Int,PgNeutral.byteRow x = true→PgNeutral.whole [[p],x] = true∨p < 0:=by
    intro x hx
    by_cases hp:p < 0
    · exact .inr hp
    · refine .inl ?_
      obtain ⟨g1,_,_⟩:=byteRow_nats hx
      simp [PgNeutral.whole]
      exact ⟨by omega,g1⟩
   by_cases p5:p = 5
   · subst p5
     obtain ⟨_,x,rfl,e⟩:=one_ 0 rfl
     have hb:PgNeutral.byteRow x = true:=ha
     obtain ⟨g1,g2,g3⟩:=byteRow_nats hb
     refine ⟨.page (PgNeutral.nats x),?_,?_⟩
     · refine cond_whole (c:=[[5],x]) (o:=some (.page (PgNeutral.nats x))) ?_
       simp [PgNeutral.whole]
       intro z hz; exact g1 z hz
     · have e':r = (x.length:Int) :: (x ++ t):=e
       rw [e']
       have:=View.page (PgNeutral.nats x) t g3
       rwa [g2,nats_length] at this
   by_cases p6:p = 6
   · subst p6
     obtain ⟨_,x,rfl,e⟩:=one_ 0 rfl
     have hb:(x.length == 5 && PgNeutral.placeRow x) = true:=ha
     simp only [Bool.and_eq_true,beq_iff_eq] at hb
     obtain ⟨ps,g1,g2,g3⟩:=placeRow_five x hb.2
     have e5:(ps.flatMap PgNeutral.five).length = 5:=by rw [← ints_length,g2]; exact hb.1
     have fl:∀ q:List Place,(q.flatMap PgNeutral.five).length = 5 * q.length:=by
      intro q
      induction q with
      | nil=>rfl
      | cons a q ih=>rw [List.flatMap_cons,List.length_append,ih,List.length_cons]; simp [PgNeutral.five]; omega
     have l1:ps.length = 1:=by have:=fl ps; omega
     obtain ⟨q,rfl⟩:∃ q,ps = [q]:=by
      match ps,l1 with
      | [q],_=>exact ⟨q,rfl⟩
     have g4:PgNeutral.placeOf (PgNeutral.nats x) = some q:=by
      match x,hb.1,g1 with
      | [a,b,k,m,n],_,g1 =>
        have g1':(match PgNeutral.placeOf [a.toNat,b.toNat,k.toNat,m.toNat,n.toNat],PgNeutral.placesOf [] with
         | some p,some t=>some (p :: t)
         | _,_=>none) = some [q]:=g1
        show PgNeutral.placeOf [a.toNat,b.toNat,k.toNat,m.toNat,n.toNat] = some q
        cases z:PgNeutral.placeOf [a.toNat,b.toNat,k.toNat,m.toNat,n.toNat] with
        | none=>rw [z] at g1'; cases g1'
        | some w =>
          rw [z] at g1'
          simp only [PgNeutral.placesOf,Option.some.injEq,List.cons.injEq,and_true] at g1'
          rw [g1']
     refine ⟨.write q,?_,?_⟩
     · have w1:PgNeutral.whole [[6],x] = true:=by
        simp [PgNeutral.whole]
        intro z hz; exact g3 z hz
       exact (cond_whole (c:=[[6],x]) (o:=(PgNeutral.placeOf (PgNeutral.nats x)).map fun (x:Place)=>.write x) w1).trans (by rw [g4]; rfl)
     · have e':r = (x.length:Int) :: (x ++ t):=e
       rw [e',hb.1]
       have:=View.write q t
       have g2':PgNeutral.ints (PgNeutral.five q) = x:=by simpa using g2
       rwa [g2'] at this
   by_cases p7:p = 7
   · subst p7
     obtain ⟨_,x,rfl,e⟩:=one_ 0 rfl
     have hb:PgNeutral.byteRow x = true:=ha
     obtain ⟨g1,g2,g3⟩:=byteRow_nats hb
     refine ⟨.read (PgNeutral.nats x),?_,?_⟩
     · refine cond_whole (c:=[[7],x]) (o:=some (.read (PgNeutral.nats x))) ?_
       simp [PgNeutral.whole]
       intro z hz; exact g1 z hz
     · have e':r = (x.length:Int) :: (x ++ t):=e
       rw [e']
       have:=View.read (PgNeutral.nats x) t g3
       rwa [g2,nats_length] at this
   by_cases p8:p = 8
   · subst p8
     obtain ⟨_,x,rfl,e⟩:=one_ 0 rfl
     have hb:PgNeutral.placeRow x = true:=ha
     obtain ⟨ps,g1,g2,g3⟩:=placeRow_five x hb
     refine ⟨.form ps,?_,?_⟩
     · have w1:PgNeutral.whole [[8],x] = true:=by
        simp [PgNeutral.whole]
        intro z hz; exact g3 z hz
       exact (cond_whole (c:=[[8],x]) (o:=(PgNeutral.placesOf (PgNeutral.nats x)).map fun (x:List Place)=>.form x) w1).trans (by rw [g1]; rfl)
     · have e':r = (x.length:Int) :: (x ++ t):=e
       rw [e']
       have:=View.form ps t
       rwa [← ints_length,g2] at this
   by_cases p9:p = 9
   · subst p9
     obtain ⟨_,x,rfl,e⟩:=one_ 0 rfl
     have hb:PgNeutral.placeRow x = true:=ha
     obtain ⟨ps,g1,g2,g3⟩:=placeRow_five x hb
     refine ⟨.text ps,?_,?_⟩
     · have w1:PgNeutral.whole [[9],x] = true:=by
        simp [PgNeutral.whole]
        intro z hz; exact g3 z hz
       exact (cond_whole (c:=[[9],x]) (o:=(PgNeutral.placesOf (PgNeutral.nats x)).map fun (x:List Place)=>.text x) w1).trans (by rw [g1]; rfl)
     · have e':r = (x.length:Int) :: (x ++ t):=e
       rw [e']
       have:=View.text ps t
       rwa [← ints_length,g2] at this
   by_cases p10:p = 10
   · subst p10
     obtain ⟨_,x,rfl,e⟩:=one_ 0 rfl
     have hb:PgNeutral.byteRow x = true:=ha
     obtain ⟨g1,g2,g3⟩:=byteRow_nats hb
     refine ⟨.list (PgNeutral.nats x),?_,?_⟩
     · refine cond_whole (c:=[[10],x]) (o:=some (.list (PgNeutral.nats x))) ?_
       simp [PgNeutral.whole]
       intro z hz; exact g1 z hz
     · have e':r = (x.length:Int) :: (x ++ t):=e
       rw [e']
       have:=View.list (PgNeutral.nats x) t g3
       rwa [g2,nats_length] at this
   by_cases p11:p = 11
   · subst p11
     obtain ⟨hn,x,rfl,e⟩:=one_ 1 rfl
     obtain ⟨a,s,rfl⟩:=len1 hn
     have hb:(PgNeutral.whole32 a && PgNeutral.placeRow x) = true:=ha
     simp only [Bool.and_eq_true] at hb
     obtain ⟨a,rfl⟩:=nat_ hb.1
     obtain ⟨ps,g1,g2,g3⟩:=placeRow_five x hb.2
     refine ⟨.has ps a,?_,?_⟩
     · have w1:PgNeutral.whole [[11,(a:Int)],x] = true:=by
        simp [PgNeutral.whole]
        intro z hz; exact g3 z hz
       exact (cond_whole (c:=[[11,(a:Int)],x]) (o:=(PgNeutral.placesOf (PgNeutral.nats x)).map fun (x:List Place)=>.has x a) w1).trans (by rw [g1]; rfl)
     · have e':s = (x.length:Int) :: (x ++ t):=e
       rw [e']
       have:=View.has ps a t
       rwa [← ints_length,g2] at this
   · exfalso
     have:PyWqakbc.shape p = none:=by
      unfold PyWqakbc.shape
      simp [p1,p2,p3,p4,p5,p6,p7,p8,p9,p10,p11]
     rw [this] at h'
     cases h'
inductive Play:IhPages.State→List Int→List Int→Prop
 | done (s:IhPages.State):Play s [] []
 | call {s:IhPages.State} {l t out:List Int} {x:IhPages.Call}:View l x t→Play (IhPages.step s x).1 t out→Play s l (((PgNeutral.numbers (IhPages.step s x).2).length:Int) :: (PgNeutral.numbers (IhPages.step s x).2 ++ out))
theorem calls_play:∀ (f:Nat) (l:List Int) (cs:List (List (List Int))) (s:IhPages.State),PyFlat.calls PyWqakbc.shape f l = some cs→(cs.map PyWqakbc.whole).all PgNeutral.asked1 = true →
  Play s l (PyFlat.told (PyFlat.played PgNeutral.step s (cs.map PyWqakbc.whole)))
 | f,[],cs,s,h,_=>by
   have h':some [] = some cs:=by cases f <;> exact h
   cases h'
   exact Play.done s
 | 0,_ :: _,cs,s,h,_=>by simp [PyFlat.calls] at h
 | f + 1,p :: r,cs,s,h,ha=>by
   unfold PyFlat.calls at h
   cases e:PyFlat.call PyWqakbc.shape (p :: r) with
   | none=>rw [e] at h; cases h
   | some y =>
     obtain ⟨c,t⟩:=y
     rw [e] at h
     simp only at h
     cases e2:PyFlat.calls PyWqakbc.shape f t with
     | none=>rw [e2] at h; cases h
     | some cs' =>
       rw [e2] at h
       simp only [Option.some.injEq] at h
       subst h
       simp only [List.map_cons,List.all_cons,Bool.and_eq_true] at ha
       obtain ⟨x,h1,h2⟩:=call_view e ha.1
       have ih:=calls_play f t cs' (IhPages.step s x).1 e2 ha.2
       have es:PgNeutral.step s (PyWqakbc.whole c) = ((IhPages.step s x).1,PgNeutral.numbers (IhPages.step s x).2):=by
        unfold PgNeutral.step
        rw [h1]
       simp only [List.map_cons,PyFlat.played,es,PyFlat.told,List.flatMap_cons]
       exact Play.call h2 ih
theorem answers_play {l:List Int} (h:PyWqakbc.answers_asked l = true):Play IhPages.start l (PyWqakbc.answers l):=by
 unfold PyWqakbc.answers_asked at h
 unfold PyWqakbc.answers
 unfold PyWqakbc.calls at *
 cases e:PyFlat.calls PyWqakbc.shape l.length l with
 | none=>rw [e] at h; cases h
 | some cs =>
   rw [e] at h
   simp only [Bool.and_eq_true,PgNeutral.asked] at h
   exact calls_play l.length l cs _ e h.2.2
end Bk
namespace Bk
open IhPlace IhPages
def numPy (most:Nat) (d:Bytes):Option Nat:=if d = []∨d.all isDigit = false∨d.head? = some 48∨most < d.length then none else some (numOf d)
theorem number_iff {d:Bytes} {n:Nat}:number d = some n↔d≠[]∧d.head?≠some 48∧d.all isDigit = true∧numOf d = n:=by
 unfold number
 split
 · rename_i h
   simp only [reduceCtorEq,false_iff]
   rintro ⟨h1,h2,h3,_⟩
   rcases h with h | h | h
   · exact h1 h
   · exact h2 h
   · rw [h3] at h; cases h
 · rename_i h
   simp only [Option.some.injEq]
   constructor
   · intro e
     refine ⟨fun q=>h (.inl q),fun q=>h (.inr (.inl q)),?_,e⟩
     cases q:d.all isDigit with
     | true=>rfl
     | false=>exact absurd (.inr (.inr q)) h
   · rintro ⟨_,_,_,e⟩; exact e
theorem numPy_iff {most n:Nat} {d:Bytes}:numPy most d = some n↔number d = some n∧d.length≤most:=by
 rw [number_iff]
 unfold numPy
 split
 · rename_i h
   simp only [reduceCtorEq,false_iff]
   rintro ⟨⟨h1,h2,h3,_⟩,h4⟩
   rcases h with h | h | h | h
   · exact h1 h
   · rw [h3] at h; cases h
   · exact h2 h
   · omega
 · rename_i h
   simp only [Option.some.injEq]
   constructor
   · intro e
     refine ⟨⟨fun q=>h (.inl q),fun q=>h (.inr (.inr (.inl q))),?_,e⟩,?_⟩
     · cases q:d.all isDigit with
       | true=>rfl
       | false=>exact absurd (.inr (.inl q)) h
     · exact Nat.le_of_not_lt fun q=>h (.inr (.inr (.inr q)))
   · rintro ⟨⟨_,_,_,e⟩,_⟩; exact e
theorem number_digits {d:Bytes} {n:Nat} (h:number d = some n):digits n = d∧1≤n:=by
 obtain ⟨h1,h2,h3,rfl⟩:=number_iff.mp h
 exact digits_numOf d h1 (fun c hc=>isDigit_iff.mp (List.all_eq_true.mp h3 c hc)) h2
theorem number_len {d:Bytes} {n k:Nat} (hk:0 < k) (h:number d = some n):d.length≤k↔n < 10 ^ k:=by
 rw [← digits_le n k hk,(number_digits h).1]
def numTo (m:Nat) (d:Bytes):Option Nat:=if d.length < (digits m).length then some (numOf ((digits m).take ((digits m).length - d.length) ++ d)) else numPy 5 d
def isNum (u:Bytes):Bool:=!u.isEmpty && u.all isDigit
theorem isNum_iff {u:Bytes}:isNum u = true↔u≠[]∧u.all isDigit = true:=by
 unfold isNum
 cases u <;> simp
def idxTo (b:Book) (x:Run × Nat) (f:Nat) (u:Bytes):Option Nat:=if x.1.style = 0∧isNum u = true then
    match numTo (x.1.first + (f - x.2)) u with
    | none=>none
    | some n=>if x.1.first≤n∧n≤x.1.first + x.1.count - 1 then some (x.2 + (n - x.1.first)) else none
 else match b.find u with
  | none=>none
  | some j=>if hasIx j x = true then some j else none
theorem behind_iff {b:Book} (hb:BookOk b) {f t:Nat} {x:Run × Nat} {u:Bytes} (hx:runAt b f = some x):b.behind f u = some t↔f < t∧idxTo b x f u = some t:=by
 obtain ⟨r,s⟩:=x
 obtain ⟨k,h1,h2,h3,h4,h5⟩:=runAt_some hx
 obtain ⟨R,N,n1,n2⟩:=page_num hb h1
 have c1:=R.count
 have inRun:∀ j,(f < j∧j < b.pages∧b.runOf j = some k)↔(f < j∧s≤j∧j < s + r.count):=by
  intro j
  constructor
  · rintro ⟨g1,g2,g3⟩
    obtain ⟨⟨k',r',n'⟩,pj⟩:=page_some b j g2
    rw [runOf_eq pj] at g3
    cases g3
    obtain ⟨p1,p2,p3,p4⟩:=(page_iff b _ _ _ _).mp pj
    rw [h5] at p1; cases p1
    exact ⟨g1,by omega,by omega⟩
  · rintro ⟨g1,g2,g3⟩
    have pj:b.page j = some (k,r,r.first + (j - s)):=(page_iff b _ _ _ _).mpr ⟨h5,by omega,by omega,by omega⟩
    exact ⟨g1,page_lt b _ _ pj,runOf_eq pj⟩
 unfold Book.behind idxTo
 rw [h1]
 simp only
 have hc:(r.style = 0∧u≠[]∧u.all isDigit = true)↔(r.style = 0∧isNum u = true):=by rw [isNum_iff]
 by_cases hd:r.style = 0∧isNum u = true
 · rw [if_pos (hc.mpr hd),if_pos hd]
   obtain ⟨hd0,hd1⟩:=hd
   obtain ⟨hd2,hd3⟩:=isNum_iff.mp hd1
   have m5:r.first + r.count - 1≤99999:=by
    have a1:=(R.num (n:=r.first + r.count - 1) (by omega) (by omega)).2.2
    have a2:=most_le r.style
    omega
   have key:∀ n',(if u.length < (digits (r.first + (f - s))).length then some (numOf ((digits (r.first + (f - s))).take ((digits (r.first + (f - s))).length - u.length) ++ u)) else number u) = some n'→n'≤99999→numTo (r.first + (f - s)) u = some n':=by
    intro n' h hn
    unfold numTo
    by_cases hl:u.length < (digits (r.first + (f - s))).length
    · rw [if_pos hl] at h ⊢; exact h
    · rw [if_neg hl] at h ⊢
      exact numPy_iff.mpr ⟨h,(number_len (by decide) h).mpr (by omega)⟩
   have key2:∀ n',numTo (r.first + (f - s)) u = some n'→(if u.length < (digits (r.first + (f - s))).length then some (numOf ((digits (r.first + (f - s))).take ((digits (r.first + (f - s))).length - u.length) ++ u)) else number u) = some n':=by
    intro n' h
    unfold numTo at h
    by_cases hl:u.length < (digits (r.first + (f - s))).length
    · rw [if_pos hl] at h ⊢; exact h
    · rw [if_neg hl] at h ⊢
      exact (numPy_iff.mp h).1
   constructor
   · intro h
     rw [Option.bind_eq_some_iff] at h
     obtain ⟨j,hj,h⟩:=h
     split at h
     · rename_i hr
       cases h
       rw [Option.bind_eq_some_iff] at hj
       obtain ⟨n',hn',hj⟩:=hj
       split at hj
       · rename_i hlt
         cases hj
         obtain ⟨q1,q2,q3⟩:=(inRun _).mp hr
         rw [key n' hn' (by omega)]
         simp only
         rw [if_pos (by omega)]
         exact ⟨q1,by congr 1; omega⟩
       · cases hj
     · cases h
   · rintro ⟨hft,h⟩
     cases e:numTo (r.first + (f - s)) u with
     | none=>rw [e] at h; cases h
     | some n' =>
       rw [e] at h
       simp only at h
       split at h
       · rename_i hr
         cases h
         rw [Option.bind_eq_some_iff]
         refine ⟨s + (n' - r.first),?_,?_⟩
         · rw [Option.bind_eq_some_iff]
           refine ⟨n',key2 n' e,?_⟩
           rw [if_pos (by omega)]
           congr 1; omega
         · rw [if_pos ((inRun _).mpr (by omega))]
       · cases h
 · rw [if_neg (fun q=>hd (hc.mp q)),if_neg hd]
   cases e:b.find u with
   | none=>simp
   | some j =>
     simp only [Option.bind_some]
     constructor
     · intro h
       split at h
       · rename_i hr
         cases h
         obtain ⟨q1,q2,q3⟩:=(inRun _).mp hr
         rw [if_pos (by simp [hasIx]; omega)]
         exact ⟨q1,rfl⟩
       · cases h
     · rintro ⟨hft,h⟩
       split at h
       · rename_i hr
         cases h
         simp [hasIx] at hr
         rw [if_pos ((inRun _).mpr (by omega))]
       · cases h
def Marks (M:Bytes) (k:Nat) (m:Bool) (n:Nat):Prop:=(M = []∧k = 0∧m = false∧n = 0)∨(M = [33]∧k = 0∧m = true∧n = 0)∨(M = [91,102,93]∧k = 2∧m = false∧n = 0)∨(M = [91,116,93]∧k = 3∧m = false∧n = 0) ∨
 ∃ d,M = 91 :: 110 :: (d ++ [93])∧number d = some n∧n≤NOTES∧k = 1∧m = false
theorem note_form {M:Bytes}:(M.take 2 = [91,110]∧M.getLast? = some 93)↔∃ d,M = 91 :: 110 :: (d ++ [93]):=by
 constructor
 · rintro ⟨h1,h2⟩
   match M,h1,h2 with
   | a :: c :: r,h1,h2 =>
     simp only [List.take_succ_cons,List.take_zero,List.cons.injEq,and_true] at h1
     obtain ⟨rfl,rfl⟩:=h1
     have hr:r≠[]:=by rintro rfl; simp at h2
     have h3:r.getLast? = some 93:=by
      rw [List.getLast?_cons_cons] at h2
      match r,hr,h2 with
      | x :: r,_,h2=>rw [List.getLast?_cons_cons] at h2; exact h2
     refine ⟨r.dropLast,?_⟩
     have h4:=List.dropLast_concat_getLast hr
     rw [List.getLast?_eq_some_getLast hr] at h3
     have h5:r.getLast hr = 93:=Option.some.inj h3
     rw [h5] at h4
     rw [h4]
 · rintro ⟨d,rfl⟩
   refine ⟨rfl,?_⟩
   rw [show (91 :: 110 :: (d ++ [93]):Bytes) = (91 :: 110 :: d) ++ [93] from rfl,List.getLast?_concat]
theorem note_mid (d:Bytes):((91 :: 110 :: (d ++ [93]):Bytes).drop 2).dropLast = d:=by simp
theorem marksOf_iff {M:Bytes} {single:Bool} {k:Nat} {m:Bool} {n:Nat}:marksOf M single = some (k,m,n)↔Marks M k m n∧(single = false→k = 0):=by
 unfold marksOf Marks
 by_cases h0:M = []
 · subst h0; simp
   constructor
   · rintro ⟨rfl,rfl,rfl⟩; simp
   · rintro ⟨⟨rfl,rfl,rfl⟩,_⟩; simp
 rw [if_neg h0]
 by_cases h1:M = [33]
 · subst h1; simp
   constructor
   · rintro ⟨rfl,rfl,rfl⟩; simp
   · rintro ⟨⟨rfl,rfl,rfl⟩,_⟩; simp
 rw [if_neg h1]
 by_cases hs:single = false
 · rw [if_pos hs]
   simp only [reduceCtorEq,false_iff]
   rintro ⟨h,hk⟩
   have hk:=hk hs
   rcases h with ⟨h,_⟩ | ⟨h,_⟩ | ⟨h,h',_⟩ | ⟨h,h',_⟩ | ⟨d,_,_,_,h',_⟩
   · exact h0 h
   · exact h1 h
   · omega
   · omega
   · omega
 rw [if_neg hs]
 have hs':(single = false→k = 0)↔True:=by simp [hs]
 rw [hs',and_true]
 by_cases h2:M = [91,102,93]
 · subst h2; simp
   constructor
   · rintro ⟨rfl,rfl,rfl⟩; simp
   · rintro ⟨rfl,rfl,rfl⟩; simp
 rw [if_neg h2]
 by_cases h3:M = [91,116,93]
 · subst h3; simp
   constructor
   · rintro ⟨rfl,rfl,rfl⟩; simp
   · rintro ⟨rfl,rfl,rfl⟩; simp
 rw [if_neg h3]
 simp only [h0,h1,h2,h3,false_and,false_or]
 by_cases h4:M.take 2 = [91,110]∧M.getLast? = some 93
 · rw [if_pos h4]
   obtain ⟨d,rfl⟩:=note_form.mp h4
   rw [note_mid]
   constructor
   · intro h
     cases e:number d with
     | none=>rw [e] at h; cases h
     | some x =>
       rw [e] at h
       simp only at h
       split at h
       · rename_i hx
         simp only [Option.some.injEq,Prod.mk.injEq] at h
         obtain ⟨rfl,rfl,rfl⟩:=h
         exact ⟨d,rfl,e,hx,rfl,rfl⟩
       · cases h
   · rintro ⟨d',hd,hn,hN,rfl,rfl⟩
     have:d' = d:=by simpa using hd.symm
     subst this
     rw [hn]
     simp [hN]
 · rw [if_neg h4]
   simp only [reduceCtorEq,false_iff]
   rintro ⟨d,rfl,_⟩
   exact h4 (note_form.mpr ⟨d,rfl⟩)
end Bk
namespace Bk
open IhPlace IhPages
def NoStops (s:Bytes):Prop:=∀ c∈s,stops c = false
theorem sign_nostop {c:Nat} (h:isSign c = true):stops c = false:=by
 cases e:stops c with
 | false=>rfl
 | true =>
   simp only [stops,Bool.or_eq_true,beq_iff_eq] at e
   rcases e with rfl | rfl | rfl <;> exact absurd h (by decide)
theorem find_nostop {b:Book} (hb:BookOk b) {s:Bytes} {i:Nat} (h:b.find s = some i):NoStops s:=by
 obtain ⟨h1,h2⟩:=(find_iff hb.nd).mp h
 have:=(names_sign hb (mem_namesOf.mpr ⟨i,h1,h2⟩)).1
 exact fun c hc=>sign_nostop (this c hc)
theorem digit_nostop {s:Bytes} (h:s.all isDigit = true):NoStops s:=fun c hc=>sign_nostop (by simp [isSign,List.all_eq_true.mp h c hc])
theorem idxTo_nostop {b:Book} (hb:BookOk b) {x:Run × Nat} {f t:Nat} {u:Bytes} (h:idxTo b x f u = some t):NoStops u:=by
 unfold idxTo at h
 split at h
 · rename_i hc
   exact digit_nostop (isNum_iff.mp hc.2).2
 · split at h
   · cases h
   · rename_i j hj
     exact find_nostop hb hj
def PagesTold (b:Book) (B:Bytes) (f t:Nat):Prop:=(NoStops B∧b.find B = some f∧t = f)∨∃ a u,B = a ++ 45 :: u∧NoStops a∧NoStops u∧b.find a = some f∧b.behind f u = some t
def pagesPy (b:Book) (B:Bytes):Option (Nat × Nat):=match B.findIdx? (· == 45) with
 | none=>(b.find B).map fun i=>(i,i)
 | some k=>match b.find (B.take k) with
   | none=>none
   | some f=>match runAt b f with
     | none=>none
     | some x=>match idxTo b x f (B.drop (k + 1)) with
       | none=>none
       | some j=>if j≤f then none else some (f,j)
theorem findIdx_none {B:Bytes} (c:Nat):B.findIdx? (· == c) = none↔c ∉ B:=by
 rw [List.findIdx?_eq_none_iff]
 constructor
 · intro h hc
   have:=h c hc
   simp at this
 · intro h x hx
   simp only [beq_eq_false_iff_ne]
   rintro rfl
   exact h hx
theorem findIdx_some {B:Bytes} {c k:Nat}:B.findIdx? (· == c) = some k↔∃ u,B = B.take k ++ c :: u∧c ∉ B.take k∧(B.take k).length = k∧u = B.drop (k + 1):=by
 rw [List.findIdx?_eq_some_iff_getElem]
 constructor
 · rintro ⟨h,h1,h2⟩
   refine ⟨B.drop (k + 1),?_,?_,?_,rfl⟩
   · have e:B[k] = c:=by simpa using h1
     rw [← e,← List.drop_eq_getElem_cons h,List.take_append_drop]
   · intro hm
     obtain ⟨i,hi,e⟩:=List.mem_iff_getElem.mp hm
     have hi':i < k:=by rw [List.length_take] at hi; omega
     have:=h2 i hi'
     rw [List.getElem_take] at e
     simp [e] at this
   · rw [List.length_take]; omega
 · rintro ⟨u,h1,h2,h3,_⟩
   have hk:k < B.length:=by
    rw [h1,List.length_append,h3]; simp
   refine ⟨hk,?_,?_⟩
   · have:B[k]? = some c:=by
      rw [h1,List.getElem?_append_right (by omega),h3]; simp
     rw [List.getElem?_eq_getElem hk] at this
     simpa using this
   · intro j hj
     simp only [beq_iff_eq]
     intro e
     apply h2
     rw [List.mem_iff_getElem]
     exact ⟨j,by omega,by rw [List.getElem_take]; exact e⟩
theorem findIdx_at {a u:Bytes} {c:Nat} (h:c ∉ a):(a ++ c :: u).findIdx? (· == c) = some a.length:=by
 rw [findIdx_some]
 refine ⟨u,by simp,by simpa using h,by simp,by simp⟩
theorem pagesPy_iff {b:Book} (hb:BookOk b) {B:Bytes} {f t:Nat}:pagesPy b B = some (f,t)↔PagesTold b B f t:=by
 constructor
 · intro h
   unfold pagesPy at h
   split at h
   · obtain ⟨i,h1,h2⟩:=Option.map_eq_some_iff.mp h
     cases h2
     exact .inl ⟨find_nostop hb h1,h1,rfl⟩
   · rename_i k hk
     obtain ⟨u,h1,h2,h3,h4⟩:=findIdx_some.mp hk
     split at h
     · cases h
     · rename_i f' hf
       split at h
       · cases h
       · rename_i x hx
         split at h
         · cases h
         · rename_i j hj
           split at h
           · cases h
           · rename_i hlt
             simp only [Option.some.injEq,Prod.mk.injEq] at h
             obtain ⟨rfl,rfl⟩:=h
             refine .inr ⟨B.take k,u,h1,find_nostop hb hf,?_,hf,?_⟩
             · rw [h4]; exact idxTo_nostop hb hj
             · rw [h4]; exact (behind_iff hb hx).mpr ⟨by omega,hj⟩
 · rintro (⟨h1,h2,rfl⟩ | ⟨a,u,rfl,h1,h2,h3,h4⟩)
   · unfold pagesPy
     have:B.findIdx? (· == 45) = none:=(findIdx_none 45).mpr fun q=>by have:=h1 45 q; simp [stops] at this
     rw [this]
     simp [h2]
   · unfold pagesPy
     rw [findIdx_at (c:=45) fun q=>by have:=h1 45 q; simp [stops] at this]
     simp only [List.take_left,h3]
     have hx:∃ x,runAt b f = some x:=by
      have hp:=((find_iff hb.nd).mp h3).1
      cases e:runAt b f with
      | none=>have:=runAt_none.mp e; omega
      | some x=>exact ⟨x,rfl⟩
     obtain ⟨x,hx⟩:=hx
     obtain ⟨g1,g2⟩:=(behind_iff hb hx).mp h4
     rw [hx]
     simp only
     rw [show (a ++ 45 :: u).drop (a.length + 1) = u by simp,g2]
     simp only
     rw [if_neg (by omega)]
def marksPy (M:Bytes):Option (Nat × Bool × Nat):=if M = [] then some (0,false,0) else if M = [33] then some (0,true,0) else if M = [91,102,93] then some (2,false,0) else if M = [91,116,93] then some (3,false,0)
 else if M.take 2≠[91,110]∨M.getLast?≠some 93 then none else (numPy 8 ((M.drop 2).dropLast)).map fun n=>(1,false,n)
theorem marksPy_iff {M:Bytes} {k:Nat} {m:Bool} {n:Nat} (hn:n≤NOTES):marksPy M = some (k,m,n)↔Marks M k m n:=by
 have h:=marksOf_iff (M:=M) (single:=true) (k:=k) (m:=m) (n:=n)
 simp only [Bool.true_eq_false,false_implies,and_true] at h
 rw [← h]
 unfold marksPy marksOf
 simp only [Bool.true_eq_false,if_false]
 by_cases h0:M = []
 · rw [if_pos h0,if_pos h0]
 rw [if_neg h0,if_neg h0]
 by_cases h1:M = [33]
 · rw [if_pos h1,if_pos h1]
 rw [if_neg h1,if_neg h1]
 by_cases h2:M = [91,102,93]
 · rw [if_pos h2,if_pos h2]
 rw [if_neg h2,if_neg h2]
 by_cases h3:M = [91,116,93]
 · rw [if_pos h3,if_pos h3]
 rw [if_neg h3,if_neg h3]
 by_cases h4:M.take 2 = [91,110]∧M.getLast? = some 93
 · rw [if_pos h4,if_neg (by rintro (q | q); exact q h4.1; exact q h4.2)]
   cases e:number ((M.drop 2).dropLast) with
   | none =>
     simp only [reduceCtorEq,iff_false]
     intro q
     obtain ⟨x,hx,_⟩:=Option.map_eq_some_iff.mp q
     rw [(numPy_iff.mp hx).1] at e
     cases e
   | some x =>
     simp only
     constructor
     · intro q
       obtain ⟨y,hy,e2⟩:=Option.map_eq_some_iff.mp q
       rw [(numPy_iff.mp hy).1] at e
       cases e
       simp only [Prod.mk.injEq] at e2
       obtain ⟨rfl,rfl,rfl⟩:=e2
       rw [if_pos hn]
     · intro q
       split at q
       · rename_i hx
         simp only [Option.some.injEq,Prod.mk.injEq] at q
         obtain ⟨rfl,rfl,rfl⟩:=q
         rw [numPy_iff.mpr ⟨e,(number_len (by decide) e).mpr (by have:NOTES = 16777215:=rfl; omega)⟩]
         rfl
       · cases q
 · rw [if_neg h4,if_pos (by
    by_cases q:M.take 2 = [91,110]
    · exact .inr fun z=>h4 ⟨q,z⟩
    · exact .inl q)]
def Told (b:Book) (s:Bytes) (p:Place):Prop:=∃ B M,s = B ++ M∧PagesTold b B p.from_ p.to_∧Marks M p.kind p.main p.note∧(p.to_≠p.from_→p.kind = 0)
theorem marks_head {M:Bytes} {k:Nat} {m:Bool} {n:Nat} (h:Marks M k m n):M = []∨∃ c r,M = c :: r∧stops c = true∧c≠45:=by
 rcases h with ⟨rfl,_⟩ | ⟨rfl,_⟩ | ⟨rfl,_⟩ | ⟨rfl,_⟩ | ⟨d,rfl,_⟩
 · exact .inl rfl
 · exact .inr ⟨_,_,rfl,by decide,by decide⟩
 · exact .inr ⟨_,_,rfl,by decide,by decide⟩
 · exact .inr ⟨_,_,rfl,by decide,by decide⟩
 · exact .inr ⟨_,_,rfl,by decide,by decide⟩
theorem take_stops {a M:Bytes} (h:NoStops a) (hM:M = []∨∃ c r,M = c :: r∧stops c = true):(a ++ M).takeWhile (fun (c:Nat)=>!stops c) = a:=by
 rw [List.takeWhile_append_of_pos (fun c hc=>by simp [h c hc])]
 rcases hM with rfl | ⟨c,r,rfl,hc⟩
 · simp
 · rw [List.takeWhile_cons_of_neg (by simp [hc])]; simp
theorem takeWhile_nostop (s:Bytes):NoStops (s.takeWhile (fun (c:Nat)=>!stops c)):=by
 intro c hc
 have:=List.all_eq_true.mp (List.all_takeWhile (l:=s) (p:=fun (c:Nat)=>!stops c)) c hc
 simpa using this
theorem take_drop_eq (s:Bytes):s = s.takeWhile (fun (c:Nat)=>!stops c) ++ s.drop (s.takeWhile (fun (c:Nat)=>!stops c)).length:=by
 have h:=List.takeWhile_append_dropWhile (p:=fun (c:Nat)=>!stops c) (l:=s)
 have e:s.drop (s.takeWhile (fun (c:Nat)=>!stops c)).length = s.dropWhile (fun (c:Nat)=>!stops c):=by
  conv=>lhs; arg 2; rw [← h]
  rw [List.drop_left]
 rw [e,h]
theorem read_iff {b:Book} (hb:BookOk b) {s:Bytes} {p:Place}:b.read s = some p↔Told b s p:=by
 constructor
 · intro h
   unfold Book.read at h
   simp only [Option.bind_eq_bind,Option.bind_eq_some_iff] at h
   obtain ⟨i,hi,h⟩:=h
   have hs:=take_drop_eq s
   generalize ha:s.takeWhile (fun (c:Nat)=>!stops c) = a at *
   have hA:NoStops a:=by rw [← ha]; exact takeWhile_nostop s
   generalize hr:s.drop a.length = r at *
   split at h
   · rename_i h45
     obtain ⟨r',rfl⟩:∃ r',r = 45 :: r':=by
      cases r with
      | nil=>simp at h45
      | cons c r'=>simp at h45; exact ⟨r',by rw [h45]⟩
     simp only [Option.bind_eq_some_iff] at h
     obtain ⟨j,hj,m,hm,h⟩:=h
     have hs2:=take_drop_eq r'
     simp only [List.drop_succ_cons,List.drop_zero] at hj hm
     generalize hu:r'.takeWhile (fun (c:Nat)=>!stops c) = u at *
     have hU:NoStops u:=by rw [← hu]; exact takeWhile_nostop r'
     rw [show (45 :: r').drop (1 + u.length) = r'.drop u.length by rw [Nat.add_comm]; simp] at hm
     obtain ⟨k,mm,n⟩:=m
     obtain ⟨m1,m2⟩:=marksOf_iff.mp hm
     cases h
     refine ⟨a ++ 45 :: u,r'.drop u.length,?_,.inr ⟨a,u,rfl,hA,hU,hi,hj⟩,m1,fun _=>m2 rfl⟩
     rw [hs]
     conv=>lhs; rw [hs2]
     simp
   · rename_i h45
     simp only [Option.bind_eq_some_iff] at h
     obtain ⟨m,hm,h⟩:=h
     obtain ⟨k,mm,n⟩:=m
     obtain ⟨m1,m2⟩:=marksOf_iff.mp hm
     cases h
     exact ⟨a,r,hs,.inl ⟨hA,hi,rfl⟩,m1,fun q=>absurd rfl q⟩
 · rintro ⟨B,M,rfl,hB,hM,hk⟩
   obtain ⟨f,t,k,m,n⟩:=p
   simp only at hB hM hk
   have hh:=marks_head hM
   have hh':M = []∨∃ c r,M = c :: r∧stops c = true:=by
    rcases hh with h | ⟨c,r,h1,h2,_⟩
    · exact .inl h
    · exact .inr ⟨c,r,h1,h2⟩
   unfold Book.read
   simp only [Option.bind_eq_bind,Option.bind_eq_some_iff]
   rcases hB with ⟨h1,h2,rfl⟩ | ⟨a,u,rfl,h1,h2,h3,h4⟩
   · rw [take_stops h1 hh']
     refine ⟨t,h2,?_⟩
     rw [List.drop_left]
     rw [if_neg (by
      rcases hh with rfl | ⟨c,r,rfl,_,hc⟩
      · simp
      · simpa using hc)]
     rw [Option.bind_eq_some_iff]
     exact ⟨(k,m,n),marksOf_iff.mpr ⟨hM,fun q=>by cases q⟩,rfl⟩
   · have e1:(a ++ 45 :: u ++ M) = a ++ (45 :: (u ++ M)):=by simp
     rw [e1,take_stops h1 (.inr ⟨45,_,rfl,by decide⟩)]
     refine ⟨f,h3,?_⟩
     rw [List.drop_left]
     rw [if_pos (by simp)]
     have e2:((45 :: (u ++ M):Bytes).drop 1) = u ++ M:=rfl
     rw [e2,take_stops h2 hh']
     rw [Option.bind_eq_some_iff]
     refine ⟨t,h4,?_⟩
     rw [show (45 :: (u ++ M):Bytes).drop (1 + u.length) = M by rw [Nat.add_comm]; simp,Option.bind_eq_some_iff]
     have hft:f < t:=by
      cases e:runAt b f with
      | none =>
        have:=runAt_none.mp e
        have:=((find_iff hb.nd).mp h3).1
        omega
      | some x=>exact ((behind_iff hb e).mp h4).1
     exact ⟨(k,m,n),marksOf_iff.mpr ⟨hM,fun _=>hk (by omega)⟩,rfl⟩
def marksStart (s:Bytes):Nat:=if s.getLast? = some 33 then s.length - 1 else match s.findIdx? (· == 91) with
 | none=>s.length
 | some k=>k
def placePy (b:Book) (s:Bytes):Option Place:=match pagesPy b (s.take (marksStart s)),marksPy (s.drop (marksStart s)) with
 | some (f,t),some (k,m,n)=>if Place.right b ⟨f,t,k,m,n⟩ = true then some ⟨f,t,k,m,n⟩ else none
 | _,_=>none
theorem pagesTold_right {b:Book} (hb:BookOk b) {B:Bytes} {f t:Nat} (h:PagesTold b B f t):rightPages b f t = true∧(∀ c∈B,c≠91∧c≠33)∧B≠[]:=by
 rcases h with ⟨h1,h2,rfl⟩ | ⟨a,u,rfl,h1,h2,h3,h4⟩
 · obtain ⟨g1,g2⟩:=(find_iff hb.nd).mp h2
   refine ⟨(rightPages_iff b _ _).mpr ⟨Nat.le_refl _,g1,rfl⟩,fun c hc=>?_,(names_sign hb (mem_namesOf.mpr ⟨_,g1,g2⟩)).2⟩
   have:=h1 c hc
   simp [stops] at this
   exact this.2
 · obtain ⟨g1,g2⟩:=(find_iff hb.nd).mp h3
   refine ⟨?_,fun c hc=>?_,by simp⟩
   · unfold Book.behind at h4
     split at h4
     · cases h4
     · rename_i x hx
       obtain ⟨j,hj,h4⟩:=Option.bind_eq_some_iff.mp h4
       split at h4
       · rename_i hr
         cases h4
         exact (rightPages_iff b _ _).mpr ⟨by omega,hr.2.1,by rw [hr.2.2]; simp [Book.runOf,hx]⟩
       · cases h4
   · rcases List.mem_append.mp hc with hc | hc
     · have:=h1 c hc
       simp [stops] at this
       exact this.2
     · rcases List.mem_cons.mp hc with rfl | hc
       · decide
       · have:=h2 c hc
         simp [stops] at this
         exact this.2
theorem placePy_iff {b:Book} (hb:BookOk b) {s:Bytes} {p:Place}:placePy b s = some p↔Told b s p:=by
 constructor
 · intro h
   unfold placePy at h
   split at h
   · rename_i f t k m n h1 h2
     split at h
     · rename_i hr
       cases h
       have hr2:=hr
       rw [right_eq] at hr2
       simp only [Bool.and_eq_true] at hr2
       have rf:=right_facts hr
       simp only at rf
       have hn:n≤NOTES:=by
        have h3:=hr2.2
        unfold rightNote at h3
        simp only at h3
        split at h3
        · simp only [Bool.and_eq_true,decide_eq_true_eq] at h3
          have:NOTES = 16777215:=rfl
          omega
        · simp only [beq_iff_eq] at h3; omega
       exact ⟨s.take (marksStart s),s.drop (marksStart s),(List.take_append_drop _ _).symm,(pagesPy_iff hb).mp h1,(marksPy_iff hn).mp h2,fun q=>by
        refine Classical.byContradiction fun hk=>q ?_
        exact ((rf.2.2.1 hk).1).symm⟩
     · cases h
   · cases h
 · rintro ⟨B,M,rfl,hB,hM,hk⟩
   obtain ⟨f,t,k,m,n⟩:=p
   simp only at hB hM hk
   obtain ⟨r1,r2,r3⟩:=pagesTold_right hb hB
   have hst:marksStart (B ++ M) = B.length:=by
    unfold marksStart
    have nl:∀ {c:Nat},(B ++ M).getLast? = some c→M = []→c≠33:=by
     intro c hc hM
     subst hM
     rw [List.append_nil] at hc
     exact (r2 c (List.mem_of_getLast? hc)).2
    have n91:∀ r:Bytes,(B ++ 91 :: r).findIdx? (· == 91) = some B.length:=fun r=>findIdx_at fun q=>(r2 91 q).1 rfl
    rcases hM with ⟨rfl,_⟩ | ⟨rfl,_⟩ | ⟨rfl,_⟩ | ⟨rfl,_⟩ | ⟨d,rfl,_⟩
    · rw [if_neg (fun q=>nl q rfl rfl)]
      have:(B ++ []).findIdx? (· == 91) = none:=(findIdx_none 91).mpr fun q=>(r2 91 (by simpa using q)).1 rfl
      rw [this]
      simp
    · rw [if_pos (by simp)]
      simp
    · rw [if_neg (by simp),n91]
    · rw [if_neg (by simp),n91]
    · rw [if_neg (by
       rw [show (B ++ 91 :: 110 :: (d ++ [93])) = (B ++ 91 :: 110 :: d) ++ [93] by simp,List.getLast?_concat]
       simp),n91]
   unfold placePy
   rw [hst,List.take_left,List.drop_left,(pagesPy_iff hb).mpr hB]
   have hn:n≤NOTES:=by
    rcases hM with ⟨_,_,_,h⟩ | ⟨_,_,_,h⟩ | ⟨_,_,_,h⟩ | ⟨_,_,_,h⟩ | ⟨d,_,_,h,_⟩
    · omega
    · omega
    · omega
    · omega
    · exact h
   rw [(marksPy_iff hn).mpr hM]
   simp only
   rw [if_pos]
   rw [right_eq]
   simp only [Bool.and_eq_true]
   refine ⟨⟨r1,?_⟩,?_⟩
   · unfold rightKind
     simp only [Bool.or_eq_true,beq_iff_eq,Bool.and_eq_true,decide_eq_true_eq,Bool.not_eq_true']
     by_cases hk0:k = 0
     · exact .inl hk0
     · refine .inr ?_
       have htf:f = t:=by
        refine Classical.byContradiction fun q=>hk0 (hk fun z=>q z.symm)
       rcases hM with ⟨_,h,_⟩ | ⟨_,h,_⟩ | ⟨_,h,h',_⟩ | ⟨_,h,h',_⟩ | ⟨d,_,_,_,h,h'⟩
       · exact absurd h hk0
       · exact absurd h hk0
       · exact ⟨by omega,htf,h'⟩
       · exact ⟨by omega,htf,h'⟩
       · exact ⟨by omega,htf,h'⟩
   · unfold rightNote
     simp only
     rcases hM with ⟨_,h,_,h'⟩ | ⟨_,h,_,h'⟩ | ⟨_,h,_,h'⟩ | ⟨_,h,_,h'⟩ | ⟨d,_,hd,hN,h,h'⟩
     · subst h; subst h'; rfl
     · subst h; subst h'; rfl
     · subst h; subst h'; rfl
     · subst h; subst h'; rfl
     · subst h
       simp only [if_true,Bool.and_eq_true,decide_eq_true_eq]
       have:NOTES = 16777215:=rfl
       exact ⟨(number_digits hd).2,by omega⟩
theorem placePy_eq {b:Book} (hb:BookOk b) (s:Bytes):placePy b s = b.read s:=by
 cases e:placePy b s with
 | some p=>exact ((read_iff hb).mpr ((placePy_iff hb).mp e)).symm
 | none =>
   cases e2:b.read s with
   | none=>rfl
   | some p =>
     rw [(placePy_iff hb).mpr ((read_iff hb).mp e2)] at e
     cases e
end Bk
namespace Bk
open IhPlace IhPages
theorem seen1_eq {c x:Nat} (hx:known x = true) (h63:x≠63):seen1 c = x↔c = x:=by
 unfold seen1
 split
 · exact Iff.rfl
 · rename_i h
   constructor
   · intro e; exact absurd e.symm h63
   · rintro rfl; exact absurd hx h
theorem seen1_stops (c:Nat):stops (seen1 c) = stops c:=by
 have h1:=seen1_eq (c:=c) (x:=45) (by decide) (by decide)
 have h2:=seen1_eq (c:=c) (x:=91) (by decide) (by decide)
 have h3:=seen1_eq (c:=c) (x:=33) (by decide) (by decide)
 rw [Bool.eq_iff_iff]
 simp only [stops,Bool.or_eq_true,beq_iff_eq]
 rw [h1,h2,h3]
theorem seen1_digit (c:Nat):isDigit (seen1 c) = isDigit c:=by
 unfold seen1
 split
 · rfl
 · rename_i h
   have h1:isDigit 63 = false:=by decide
   rw [h1]
   cases e:isDigit c with
   | false=>rfl
   | true=>exact absurd (known_sign (by simp [isSign,e])) h
theorem seen_all_digit (s:Bytes):(seen s).all isDigit = s.all isDigit:=by
 unfold seen
 rw [List.all_map]
 congr 1
 funext c
 exact seen1_digit c
theorem seen_digits {s:Bytes} (h:s.all isDigit = true):seen s = s:=seen_of fun c hc=>by simp [isSign,List.all_eq_true.mp h c hc]
theorem seen_nil {s:Bytes}:seen s = []↔s = []:=by simp [seen]
theorem seen_drop (s:Bytes) (k:Nat):(seen s).drop k = seen (s.drop k):=by simp [seen,List.map_drop]
theorem seen_take (s:Bytes) (k:Nat):(seen s).take k = seen (s.take k):=by simp [seen,List.map_take]
theorem seen_takeWhile (s:Bytes):(seen s).takeWhile (fun (c:Nat)=>!stops c) = seen (s.takeWhile (fun (c:Nat)=>!stops c)):=by
 unfold seen
 rw [List.takeWhile_map]
 congr 2
 funext c
 simp only [Function.comp,seen1_stops]
theorem seen_lit {s l:Bytes} (hl:∀ c∈l,known c = true∧c≠63):seen s = l↔s = l:=by
 induction s generalizing l with
 | nil=>cases l <;> simp [seen]
 | cons a s ih =>
   cases l with
   | nil=>simp [seen]
   | cons x l =>
     have h1:=seen1_eq (c:=a) (hl x (by simp)).1 (hl x (by simp)).2
     have h2:=ih (l:=l) fun c hc=>hl c (by simp [hc])
     show seen1 a :: seen s = x :: l↔_
     rw [List.cons.injEq,List.cons.injEq,h1,h2]
theorem number_seen (d:Bytes):number (seen d) = number d:=by
 by_cases h:d.all isDigit = true
 · rw [seen_digits h]
 · have h':d.all isDigit = false:=by simpa using h
   unfold number
   rw [if_pos (.inr (.inr (by rw [seen_all_digit]; exact h'))),if_pos (.inr (.inr h'))]
theorem getLast_seen (s:Bytes) (x:Nat) (hx:known x = true) (h63:x≠63):(seen s).getLast? = some x↔s.getLast? = some x:=by
 unfold seen
 rw [List.getLast?_map]
 cases e:s.getLast? with
 | none=>simp
 | some c=>simp only [Option.map_some,Option.some.injEq]; exact seen1_eq hx h63
theorem dropLast_seen (s:Bytes):(seen s).dropLast = seen s.dropLast:=by simp [seen]
theorem marksOf_seen (M:Bytes) (single:Bool):marksOf (seen M) single = marksOf M single:=by
 have e0:(seen M = []) = (M = []):=propext seen_nil
 have e1:(seen M = [33]) = (M = [33]):=propext (seen_lit (by decide))
 have e2:(seen M = [91,102,93]) = (M = [91,102,93]):=propext (seen_lit (by decide))
 have e3:(seen M = [91,116,93]) = (M = [91,116,93]):=propext (seen_lit (by decide))
 have e4:((seen M).take 2 = [91,110]) = (M.take 2 = [91,110]):=by rw [seen_take]; exact propext (seen_lit (by decide))
 have e5:((seen M).getLast? = some 93) = (M.getLast? = some 93):=propext (getLast_seen M 93 (by decide) (by decide))
 unfold marksOf
 simp only [e0,e1,e2,e3,e4,e5]
 rw [seen_drop,dropLast_seen,number_seen]
theorem behind_seen {b:Book} (hb:BookOk b) (i:Nat) (u:Bytes):b.behind i (seen u) = b.behind i u:=by
 by_cases h:u.all isDigit = true
 · rw [seen_digits h]
 · have h':u.all isDigit = false:=by simpa using h
   unfold Book.behind
   cases b.page i with
   | none=>rfl
   | some x =>
     simp only
     rw [if_neg (by rw [seen_all_digit]; intro q; exact h q.2.2),if_neg (fun q=>h q.2.2),find_seen hb]
theorem head_seen (s:Bytes):((seen s).head? = some 45) = (s.head? = some 45):=by
 unfold seen
 rw [List.head?_map]
 cases s.head? with
 | none=>simp
 | some c=>simp only [Option.map_some,Option.some.injEq]; exact propext (seen1_eq (by decide) (by decide))
theorem read_seen {b:Book} (hb:BookOk b) (s:Bytes):b.read (seen s) = b.read s:=by
 unfold Book.read
 simp only [seen_takeWhile,find_seen hb,seen_length,seen_drop,head_seen,behind_seen hb,marksOf_seen]
theorem parts_cons (c:Nat) (r:Bytes) (h:¬ (c = 44∧∃ r',r = 32 :: r')):parts (c :: r) = match parts r with
  | []=>[[c]]
  | w :: l=>(c :: w) :: l:=by
 conv=>lhs; unfold parts
 split
 · rename_i e; cases e
 · rename_i r' e; cases e; exact absurd ⟨rfl,r',rfl⟩ h
 · rename_i c' r' _ e; cases e; rfl
theorem parts_hit (r:Bytes):parts (44 :: 32 :: r) = [] :: parts r:=by
 simp [parts]
theorem parts_ne (s:Bytes):parts s≠[]:=by
 induction s using parts.induct with
 | case1=>simp [parts]
 | case2 r ih=>rw [parts_hit]; simp
 | case3 c r h h' ih =>
   rw [parts_cons c r (by rintro ⟨rfl,r',rfl⟩; exact h r' rfl rfl)]
   split <;> simp
 | case4 c r h w l h' ih =>
   rw [parts_cons c r (by rintro ⟨rfl,r',rfl⟩; exact h r' rfl rfl)]
   split <;> simp
def partsA (acc s:Bytes):List Bytes:=match parts s with
 | []=>[acc]
 | w :: l=>(acc ++ w) :: l
theorem partsA_nil (acc:Bytes):partsA acc [] = [acc]:=by simp [partsA,parts]
theorem partsA_hit (acc r:Bytes):partsA acc (44 :: 32 :: r) = acc :: partsA [] r:=by
 unfold partsA
 rw [parts_hit]
 cases e:parts r with
 | nil=>exact absurd e (parts_ne r)
 | cons w l=>simp
theorem partsA_miss (acc:Bytes) (c:Nat) (r:Bytes) (h:¬ (c = 44∧∃ r',r = 32 :: r')):partsA acc (c :: r) = partsA (acc ++ [c]) r:=by
 unfold partsA
 rw [parts_cons c r h]
 cases e:parts r with
 | nil=>exact absurd e (parts_ne r)
 | cons w l=>simp
theorem partsA_self (s:Bytes):partsA [] s = parts s:=by
 unfold partsA
 cases e:parts s with
 | nil=>exact absurd e (parts_ne s)
 | cons w l=>simp
theorem parts_seen (s:Bytes):parts (seen s) = (parts s).map seen:=by
 have h44:∀ c,seen1 c = 44↔c = 44:=fun c=>seen1_eq (by decide) (by decide)
 have h32:∀ c,seen1 c = 32↔c = 32:=fun c=>seen1_eq (by decide) (by decide)
 have no:∀ c r,¬ (c = 44∧∃ r',r = 32 :: r')→¬ (seen1 c = 44∧∃ r',seen r = 32 :: r'):=by
  rintro c r h ⟨h1,r',h2⟩
  apply h
  refine ⟨(h44 c).mp h1,?_⟩
  cases r with
  | nil=>simp [seen] at h2
  | cons x r =>
    have e:seen1 x = 32:=by
     have:=congrArg List.head? h2
     simpa [seen] using this
    exact ⟨r,by rw [(h32 x).mp e]⟩
 induction s using parts.induct with
 | case1=>simp [parts,seen]
 | case2 r ih =>
   rw [parts_hit]
   show parts (seen1 44 :: seen1 32 :: seen r) = _
   rw [(h44 44).mpr rfl,(h32 32).mpr rfl,parts_hit,ih]
   rfl
 | case3 c r h h' ih=>exact absurd h' (parts_ne r)
 | case4 c r h w l h' ih =>
   have hc:¬ (c = 44∧∃ r',r = 32 :: r'):=by rintro ⟨rfl,r',rfl⟩; exact h r' rfl rfl
   rw [parts_cons c r hc]
   show parts (seen1 c :: seen r) = _
   rw [parts_cons _ _ (no c r hc),ih,h']
   rfl
def readAll (b:Book):Nat→List Bytes→Except Nat (List Place)
 | _,[]=>.ok []
 | k,x :: l=>match b.read x with
   | none=>.error k
   | some p=>match readAll b (k + 1) l with
     | .error i=>.error i
     | .ok ps=>.ok (p :: ps)
theorem readAll_eq (b:Book):∀ (l:List Bytes) (k:Nat),readAll b k l = match (l.map b.read).findIdx? fun (x:Option Place)=>x.isNone with
  | some i=>.error (k + i)
  | none=>.ok ((l.map b.read).filterMap id)
 | [],k=>by simp [readAll]
 | x :: l,k=>by
   unfold readAll
   rw [List.map_cons,List.findIdx?_cons]
   cases e:b.read x with
   | none=>simp
   | some p =>
     simp only [Option.isNone_some,Bool.false_eq_true,if_false]
     rw [readAll_eq b l (k + 1)]
     cases e2:(l.map b.read).findIdx? fun (x:Option Place)=>x.isNone with
     | none=>simp
     | some i=>simp; omega
theorem list_eq (b:Book) (s:Bytes):b.list s = if s = [] then .ok [] else readAll b 0 (parts s):=by
 unfold Book.list
 split
 · rfl
 · rw [readAll_eq]
   simp only [Nat.zero_add]
   cases List.findIdx? (fun (x:Option Place)=>x.isNone) (List.map b.read (parts s)) <;> rfl
end Bk
namespace Bk
open IhPlace IhPages
def push (go:Nat→Nat→Bool) (st:List (Nat × Nat)) (x:Nat × Nat):List (Nat × Nat):=match st.getLast? with
 | none=>[x]
 | some a=>if go a.2 x.1 = true then st.dropLast ++ [(a.1,max a.2 x.2)] else st ++ [x]
theorem push_nil (go:Nat→Nat→Bool) (x:Nat × Nat):push go [] x = [x]:=rfl
theorem push_snoc (go:Nat→Nat→Bool) (st:List (Nat × Nat)) (a x:Nat × Nat):push go (st ++ [a]) x = if go a.2 x.1 = true then st ++ [(a.1,max a.2 x.2)] else st ++ [a] ++ [x]:=by
 unfold push
 rw [List.getLast?_concat]
 simp
theorem fold_pre (go:Nat→Nat→Bool):∀ (l st:List (Nat × Nat)) (a:Nat × Nat),l.foldl (push go) (st ++ [a]) = st ++ l.foldl (push go) [a]
 | [],st,a=>rfl
 | x :: l,st,a=>by
   rw [List.foldl_cons,List.foldl_cons,push_snoc]
   have e:push go [a] x = push go ([] ++ [a]) x:=rfl
   rw [e,push_snoc]
   split
   · rw [fold_pre go l st,fold_pre go l []]; simp
   · rw [fold_pre go l (st ++ [a]),fold_pre go l ([] ++ [a])]; simp
theorem swept_fold (go:Nat→Nat→Bool):∀ (n:Nat) (l:List (Nat × Nat)) (a:Nat × Nat),l.length≤n→swept go n (a :: l) = l.foldl (push go) [a]
 | 0,[],a,_=>rfl
 | 0,_ :: _,a,h=>by simp at h
 | n + 1,[],a,_=>rfl
 | n + 1,c :: l,a,h=>by
   unfold swept
   rw [List.foldl_cons]
   have e:push go [a] c = push go ([] ++ [a]) c:=rfl
   rw [e,push_snoc]
   split
   · rw [swept_fold go n l _ (by simpa using h)]; rfl
   · rw [swept_fold go n l _ (by simpa using h),fold_pre]; rfl
theorem joined_fold (b:Book) (joins:Bool) (l:List (Nat × Nat)):b.joined joins l = (l.mergeSort spanLe).foldl (push (goes b joins)) []:=by
 rw [joined_eq]
 have hl:=(List.mergeSort_perm l spanLe).length_eq
 cases e:l.mergeSort spanLe with
 | nil =>
   rw [e] at hl
   simp only [List.length_nil] at hl
   rw [← hl]
   rfl
 | cons a r =>
   rw [e] at hl
   rw [swept_fold _ _ _ _ (by simp at hl; omega),List.foldl_cons,push_nil]
theorem push_comm {go:Nat→Nat→Bool} (hgo:∀ e f,f≤e→go e f = true) {x y:Nat × Nat} (h:x.1 = y.1) (hx:x.1≤x.2) (hy:y.1≤y.2) (st:List (Nat × Nat)):push go (push go st x) y = push go (push go st y) x:=by
 have two:∀ (st:List (Nat × Nat)) (x y:Nat × Nat),x.1 = y.1→x.1≤x.2→push go (st ++ [x]) y = st ++ [(x.1,max x.2 y.2)]:=by
  intro st x y h hx
  rw [push_snoc,if_pos (hgo _ _ (by omega))]
 have ex:∀ st:List (Nat × Nat),st = []∨∃ r a,st = r ++ [a]:=by
  intro st
  by_cases h0:st = []
  · exact .inl h0
  · exact .inr ⟨st.dropLast,st.getLast h0,(List.dropLast_concat_getLast h0).symm⟩
 rcases ex st with rfl | ⟨r,a,rfl⟩
 · rw [push_nil,push_nil,show [x] = [] ++ [x] from rfl,show [y] = [] ++ [y] from rfl,two [] x y h hx,two [] y x h.symm hy,h,Nat.max_comm]
 · rw [push_snoc,push_snoc,← h]
   by_cases hg:go a.2 x.1 = true
   · rw [if_pos hg,if_pos hg,push_snoc,push_snoc,if_pos (hgo _ _ (by simp only; omega)),if_pos (hgo _ _ (by simp only; omega))]
     simp only [Nat.max_assoc,Nat.max_comm x.2 y.2]
   · rw [if_neg hg,if_neg hg,two _ x y h hx,two _ y x h.symm hy,h,Nat.max_comm]
theorem fold_front {go:Nat→Nat→Bool} (hgo:∀ e f,f≤e→go e f = true) {x:Nat × Nat} (hx:x.1≤x.2):∀ (p:List (Nat × Nat)) (st q:List (Nat × Nat)),(∀ y∈p,y.1 = x.1∧y.1≤y.2) →
  (p ++ x :: q).foldl (push go) st = (x :: (p ++ q)).foldl (push go) st
 | [],st,q,_=>rfl
 | y :: p,st,q,h=>by
   have hy:=h y (by simp)
   rw [List.cons_append,List.foldl_cons,fold_front hgo hx p _ q fun z hz=>h z (by simp [hz]),List.foldl_cons,List.foldl_cons,List.cons_append,List.foldl_cons,push_comm hgo hy.1 hy.2 hx]
theorem fold_perm {go:Nat→Nat→Bool} (hgo:∀ e f,f≤e→go e f = true):∀ (l m st:List (Nat × Nat)),l.Perm m→l.Pairwise (fun x y=>x.1≤y.1)→m.Pairwise (fun x y=>x.1≤y.1)→(∀ x∈l,x.1≤x.2)→l.foldl (push go) st = m.foldl (push go) st
 | [],m,st,hp,_,_,_=>by rw [List.nil_perm.mp hp]
 | x :: l,m,st,hp,hl,hm,hx=>by
   obtain ⟨p,q,rfl⟩:=List.append_of_mem (hp.mem_iff.mp (List.mem_cons_self ..))
   obtain ⟨l1,l2⟩:=List.pairwise_cons.mp hl
   have hpx:∀ y∈p,y.1 = x.1∧y.1≤y.2:=by
    intro y hy
    have h1:y.1≤x.1:=(List.pairwise_append.mp hm).2.2 y hy x (by simp)
    have hyl:y∈x :: l:=hp.mem_iff.mpr (by simp [hy])
    have h2:x.1≤y.1:=by
     rcases List.mem_cons.mp hyl with rfl | h
     · exact Nat.le_refl _
     · exact l1 y h
    exact ⟨by omega,hx y hyl⟩
   rw [fold_front hgo (hx x (by simp)) p st q hpx,List.foldl_cons,List.foldl_cons]
   refine fold_perm hgo l (p ++ q) _ ?_ l2 ?_ fun y hy=>hx y (by simp [hy])
   · exact (List.perm_cons x).mp (hp.trans List.perm_middle)
   · have:=List.pairwise_append.mp hm
     refine List.pairwise_append.mpr ⟨this.1,(List.pairwise_cons.mp this.2.1).2,fun a ha c hc=>this.2.2 a ha c (by simp [hc])⟩
theorem goes_le (b:Book) (joins:Bool):∀ e f,f≤e→goes b joins e f = true:=fun e f h=>by simp [goes,h]
theorem joined_of {b:Book} {joins:Bool} {l o:List (Nat × Nat)} (hp:o.Perm l) (hs:o.Pairwise (fun x y=>x.1≤y.1)) (hx:∀ x∈l,x.1≤x.2):o.foldl (push (goes b joins)) [] = b.joined joins l:=by
 rw [joined_fold]
 refine fold_perm (goes_le b joins) _ _ _ (hp.trans (List.mergeSort_perm l spanLe).symm) hs ?_ fun x h=>hx x (hp.mem_iff.mp h)
 exact (List.pairwise_mergeSort spanLe_trans spanLe_total l).imp fun {x y} q=>by rw [spanLe_iff] at q; omega
def on (l:List (Nat × Nat)) (i:Nat):Prop:=∃ x∈l,x.1≤i∧i≤x.2
theorem swept_on {go:Nat→Nat→Bool} (hgo:∀ e f,go e f = true→f≤e + 1) (i:Nat):∀ (n:Nat) (l:List (Nat × Nat)),(∀ x∈l,x.1≤x.2)→l.Pairwise (fun x y=>x.1≤y.1)→(on (swept go n l) i↔on l i)
 | 0,l,_,_=>by cases l <;> exact Iff.rfl
 | n + 1,[],_,_=>Iff.rfl
 | n + 1,[a],_,_=>Iff.rfl
 | n + 1,a :: c :: l,h,hp=>by
   obtain ⟨p1,p2⟩:=List.pairwise_cons.mp hp
   obtain ⟨p3,p4⟩:=List.pairwise_cons.mp p2
   have ha:=h a (by simp)
   have hc:=h c (by simp)
   have hac:a.1≤c.1:=p1 c (by simp)
   unfold swept
   split
   · rename_i hg
     have g:=hgo _ _ hg
     rw [swept_on hgo i n ((a.1,max a.2 c.2) :: l) (by
      intro x hx
      rcases List.mem_cons.mp hx with e | hx
      · rw [e]; show a.1≤max a.2 c.2; omega
      · exact h x (by simp [hx])) (List.pairwise_cons.mpr ⟨fun x hx=>p1 x (by simp [hx]),p4⟩)]
     constructor
     · rintro ⟨x,hx,h1,h2⟩
       rcases List.mem_cons.mp hx with e | hx
       · subst e
         simp only at h1 h2
         by_cases q:i≤a.2
         · exact ⟨a,by simp,h1,q⟩
         · exact ⟨c,by simp,by omega,by omega⟩
       · exact ⟨x,by simp [hx],h1,h2⟩
     · rintro ⟨x,hx,h1,h2⟩
       rcases List.mem_cons.mp hx with e | hx
       · subst e
         exact ⟨_,List.mem_cons_self ..,h1,by simp only; omega⟩
       · rcases List.mem_cons.mp hx with e | hx
         · subst e
           exact ⟨_,List.mem_cons_self ..,by simp only; omega,by simp only; omega⟩
         · exact ⟨x,by simp [hx],h1,h2⟩
   · have ih:=swept_on hgo i n (c :: l) (fun x hx=>h x (by simp [hx])) p2
     constructor
     · rintro ⟨x,hx,h1,h2⟩
       rcases List.mem_cons.mp hx with e | hx
       · subst e; exact ⟨x,by simp,h1,h2⟩
       · obtain ⟨y,hy,h3⟩:=ih.mp ⟨x,hx,h1,h2⟩
         exact ⟨y,List.mem_cons_of_mem _ hy,h3⟩
     · rintro ⟨x,hx,h1,h2⟩
       rcases List.mem_cons.mp hx with e | hx
       · subst e; exact ⟨x,by simp,h1,h2⟩
       · obtain ⟨y,hy,h3⟩:=ih.mpr ⟨x,hx,h1,h2⟩
         exact ⟨y,List.mem_cons_of_mem _ hy,h3⟩
theorem joined_on (b:Book) (joins:Bool) (l:List (Nat × Nat)) (h:∀ x∈l,x.1≤x.2) (i:Nat):on (b.joined joins l) i↔on l i:=by
 rw [joined_eq]
 have hm:=List.mergeSort_perm l spanLe
 rw [swept_on (fun e f hg=>by
  simp only [goes,Bool.or_eq_true,decide_eq_true_eq,Bool.and_eq_true,beq_iff_eq] at hg
  omega) i _ _ (fun x hx=>h x (hm.mem_iff.mp hx)) ((List.pairwise_mergeSort spanLe_trans spanLe_total l).imp fun {x y} q=>by rw [spanLe_iff] at q; omega)]
 exact ⟨fun ⟨x,h1,h2⟩=>⟨x,hm.mem_iff.mp h1,h2⟩,fun ⟨x,h1,h2⟩=>⟨x,hm.mem_iff.mpr h1,h2⟩⟩
def spanOf (p:Place):Nat × Nat:=(p.from_,p.to_)
def plainP (m:Bool) (x:Nat × Nat):Place:=⟨x.1,x.2,0,m,0⟩
def pushP (b:Book) (joins:Bool) (st:List Place) (p:Place):List Place:=match st.getLast? with
 | none=>[p]
 | some a=>if goes b joins a.to_ p.from_ = true then st.dropLast ++ [⟨a.from_,max a.to_ p.to_,0,a.main,0⟩] else st ++ [p]
theorem pushP_eq (b:Book) (joins m:Bool) (st:List (Nat × Nat)) (x:Nat × Nat):pushP b joins (st.map (plainP m)) (plainP m x) = (push (goes b joins) st x).map (plainP m):=by
 unfold pushP push
 rw [List.getLast?_map]
 cases st.getLast? with
 | none=>rfl
 | some a =>
   simp only [Option.map_some]
   show (if goes b joins a.2 x.1 = true then _ else _) = _
   split
   · simp [plainP,List.map_dropLast]
   · simp
theorem foldP (b:Book) (joins m:Bool):∀ (l st:List (Nat × Nat)),(l.map (plainP m)).foldl (pushP b joins) (st.map (plainP m)) = (l.foldl (push (goes b joins)) st).map (plainP m)
 | [],st=>rfl
 | x :: l,st=>by
   rw [List.map_cons,List.foldl_cons,List.foldl_cons,pushP_eq,foldP b joins m l]
theorem plain_of {b:Book} {p:Place} {m:Bool} (h:p.right b = true) (hk:p.kind = 0) (hm:p.main = m):p = plainP m (spanOf p):=by
 have hn:=(right_facts h).2.2.2 (by omega)
 cases p
 simp only at hk hm hn
 subst hk; subst hm; subst hn
 rfl
theorem joinedPy {b:Book} {joins m:Bool} {l o:List Place} (hr:∀ p∈l,p.right b = true) (hp:o.Perm (l.filter fun (p:Place)=>p.kind == 0 && p.main == m)) (hs:o.Pairwise (fun p q=>p.before q = true)) :
  o.foldl (pushP b joins) [] = plainOf b joins l m:=by
 have ho:∀ p∈o,p.right b = true∧p.kind = 0∧p.main = m:=by
  intro p h
  have:=List.mem_filter.mp (hp.mem_iff.mp h)
  simp only [Bool.and_eq_true,beq_iff_eq] at this
  exact ⟨hr p this.1,this.2⟩
 have e:o = (o.map spanOf).map (plainP m):=by
  rw [List.map_map]
  conv=>lhs; rw [← List.map_id o]
  refine List.map_congr_left fun p h=>?_
  obtain ⟨h1,h2,h3⟩:=ho p h
  exact plain_of h1 h2 h3
 rw [e]
 have:=foldP b joins m (o.map spanOf) []
 rw [List.map_nil] at this
 rw [this]
 unfold plainOf
 congr 1
 refine joined_of (hp.map spanOf) ?_ ?_
 · rw [List.pairwise_map]
   exact hs.imp fun {p q} h=>by rw [before_iff] at h; show p.from_≤q.from_; omega
 · intro x hx
   obtain ⟨p,h1,rfl⟩:=List.mem_map.mp hx
   exact (right_facts (hr p (List.mem_filter.mp h1).1)).1
theorem hasIx_runOf {b:Book} {e f:Nat} {x:Run × Nat} (h:runAt b e = some x):hasIx f x = (b.runOf e == b.runOf f):=by
 obtain ⟨r,s⟩:=x
 obtain ⟨k,h1,h2,h3,h4,h5⟩:=runAt_some h
 rw [Bool.eq_iff_iff]
 simp only [hasIx,Bool.and_eq_true,decide_eq_true_eq,beq_iff_eq]
 constructor
 · rintro ⟨g1,g2⟩
   have pf:b.page f = some (k,r,r.first + (f - s)):=(page_iff b _ _ _ _).mpr ⟨h5,by omega,by omega,by omega⟩
   rw [runOf_eq h1,runOf_eq pf]
 · intro g
   rw [runOf_eq h1] at g
   unfold Book.runOf at g
   obtain ⟨⟨k',r',n'⟩,pf,e⟩:=Option.map_eq_some_iff.mp g.symm
   simp only at e
   subst e
   obtain ⟨p1,p2,p3,p4⟩:=(page_iff b _ _ _ _).mp pf
   rw [h5] at p1; cases p1
   omega
def areJoined (b:Book) (joins:Bool) (e f:Nat):Bool:=if f≤e then true else if joins = false∨f≠e + 1 then false else match runAt b e with
 | none=>false
 | some x=>hasIx f x
theorem areJoined_eq {b:Book} {joins:Bool} {e f:Nat} (h:e < b.pages):areJoined b joins e f = goes b joins e f:=by
 unfold areJoined goes
 by_cases h1:f≤e
 · simp [h1]
 · rw [if_neg h1]
   by_cases h2:joins = false∨f≠e + 1
   · rw [if_pos h2]
     rcases h2 with h2 | h2
     · simp [h1,h2]
     · simp [h1,h2]
   · rw [if_neg h2]
     have hj:joins = true:=by
      cases joins with
      | true=>rfl
      | false=>exact absurd (.inl rfl) h2
     have hf:f = e + 1:=Classical.byContradiction fun q=>h2 (.inr q)
     cases er:runAt b e with
     | none=>have:=runAt_none.mp er; omega
     | some x =>
       simp only
       rw [hasIx_runOf er]
       simp [hj,hf]
       intro q; omega
def keyP (p:Place):Nat × Nat × Nat:=(p.from_,p.class_,p.note)
def once (acc:List Place) (p:Place):List Place:=if (acc.any fun q=>decide (keyP q = keyP p)) = true then acc else acc ++ [p]
theorem once_fold:∀ (l acc:List Place),(acc.map keyP).Nodup→(∀ p∈acc ++ l,∀ q∈acc ++ l,keyP p = keyP q→p = q)→((l.foldl once acc).map keyP).Nodup∧∀ p,p∈l.foldl once acc↔p∈acc∨p∈l
 | [],acc,h,_=>⟨h,fun p=>by simp⟩
 | x :: l,acc,h,hi=>by
   rw [List.foldl_cons]
   unfold once
   split
   · rename_i hc
     obtain ⟨q,hq,e⟩:=List.any_eq_true.mp hc
     have e':q = x:=hi q (by simp [hq]) x (by simp) (of_decide_eq_true e)
     subst e'
     obtain ⟨i1,i2⟩:=once_fold l acc h fun p hp r hr=>hi p (by
      rcases List.mem_append.mp hp with a | a <;> simp [a]) r (by
      rcases List.mem_append.mp hr with a | a <;> simp [a])
     refine ⟨i1,fun p=>?_⟩
     have:=i2 p
     unfold once at this
     rw [this]
     constructor
     · rintro (a | a)
       · exact .inl a
       · exact .inr (by simp [a])
     · rintro (a | a)
       · exact .inl a
       · rcases List.mem_cons.mp a with rfl | a
         · exact .inl hq
         · exact .inr a
   · rename_i hc
     have hn:((acc ++ [x]).map keyP).Nodup:=by
      rw [List.map_append,List.nodup_append]
      refine ⟨h,by simp,?_⟩
      intro k hk k' hk' e
      obtain ⟨q,hq,rfl⟩:=List.mem_map.mp hk
      simp at hk'
      subst hk'
      exact hc (List.any_eq_true.mpr ⟨q,hq,decide_eq_true e⟩)
     obtain ⟨i1,i2⟩:=once_fold l (acc ++ [x]) hn fun p hp r hr=>hi p (by simpa using hp) r (by simpa using hr)
     refine ⟨i1,fun p=>?_⟩
     have:=i2 p
     unfold once at this
     rw [this]
     simp [or_assoc]
theorem other_inj {b:Book} {p q:Place} (hp:p.right b = true) (hq:q.right b = true) (kp:p.kind≠0) (kq:q.kind≠0) (e:keyP p = keyP q):p = q:=by
 have f1:=right_facts hp
 have f2:=right_facts hq
 obtain ⟨g1,g1'⟩:=f1.2.2.1 kp
 obtain ⟨g2,g2'⟩:=f2.2.2.1 kq
 unfold keyP at e
 simp only [Prod.mk.injEq] at e
 obtain ⟨e1,e2,e3⟩:=e
 simp only [Place.class_,g1',g2',Bool.false_eq_true,if_false] at e2
 cases p; cases q
 simp only at *
 subst g1; subst g2; subst e1; subst e3; subst g1'; subst g2'
 have:_:=Nat.succ.inj e2
 subst this
 rfl
theorem nodup_of_map {α β:Type} (f:α→β) {l:List α} (h:(l.map f).Nodup):l.Nodup:=by
 rw [List.Nodup,List.pairwise_map] at h
 exact h.imp fun {a b} q e=>q (by rw [e])
theorem nodup_eraseDups (l:List Place):l.eraseDups.Nodup:=by
 generalize hk:l.length = k
 induction k using Nat.strongRecOn generalizing l with
 | _ k ih =>
   cases l with
   | nil=>simp
   | cons a r =>
     rw [List.eraseDups_cons,List.nodup_cons]
     refine ⟨fun h=>?_,ih _ ?_ _ rfl⟩
     · have:=List.mem_filter.mp (List.mem_eraseDups.mp h)
       simp at this
     · have:=List.length_filter_le (fun b=>!b == a) r
       simp only [List.length_cons] at hk
       omega
def onP (l:List Place) (i:Nat):Bool:=l.any fun q=>decide (q.from_≤i) && decide (i≤q.to_)
theorem onP_iff (l:List Place) (i:Nat):onP l i = true↔on (l.map spanOf) i:=by
 unfold onP on
 rw [List.any_eq_true]
 constructor
 · rintro ⟨q,h1,h2⟩
   simp only [Bool.and_eq_true,decide_eq_true_eq] at h2
   exact ⟨spanOf q,List.mem_map.mpr ⟨q,h1,rfl⟩,h2⟩
 · rintro ⟨x,hx,h⟩
   obtain ⟨q,h1,rfl⟩:=List.mem_map.mp hx
   exact ⟨q,h1,by simpa [spanOf] using h⟩
theorem others_perm {b:Book} {joins drops:Bool} {l:List Place} (hr:∀ p∈l,p.right b = true) :
  (if drops = true then ((l.filter fun p=>p.kind != 0).foldl once []).filter (fun p=>!onP (plainOf b joins l true ++ plainOf b joins l false) p.from_) else (l.filter fun p=>p.kind != 0).foldl once []).Perm (othersOf drops l):=by
 have hl:∀ p∈([]:List Place) ++ l.filter (fun p=>p.kind != 0),p.right b = true∧p.kind≠0:=by
  intro p h
  obtain ⟨h1,h2⟩:=List.mem_filter.mp (by simpa using h:p∈l.filter (fun p=>p.kind != 0))
  exact ⟨hr p h1,by simpa using h2⟩
 obtain ⟨o1,o2⟩:=once_fold (l.filter fun p=>p.kind != 0) [] (by simp) fun p hp q hq e=>other_inj (hl p hp).1 (hl q hq).1 (hl p hp).2 (hl q hq).2 e
 have nd:=nodup_of_map keyP o1
 have hon:∀ i,on ((plainOf b joins l true ++ plainOf b joins l false).map spanOf) i↔∃ q∈l,q.kind = 0∧q.from_≤i∧i≤q.to_:=by
  intro i
  have one:∀ m,(∃ x∈(plainOf b joins l m).map spanOf,x.1≤i∧i≤x.2)↔∃ q∈l,q.kind = 0∧q.main = m∧q.from_≤i∧i≤q.to_:=by
   intro m
   have:=joined_on b joins ((l.filter fun (p:Place)=>p.kind == 0 && p.main == m).map fun (p:Place)=>(p.from_,p.to_)) (by
    intro x hx
    obtain ⟨r,hr',rfl⟩:=List.mem_map.mp hx
    exact (right_facts (hr r (List.mem_filter.mp hr').1)).1) i
   unfold on at this
   have e:(plainOf b joins l m).map spanOf = b.joined joins ((l.filter fun (p:Place)=>p.kind == 0 && p.main == m).map fun (p:Place)=>(p.from_,p.to_)):=by
    unfold plainOf
    rw [List.map_map]
    conv=>rhs; rw [← List.map_id (Book.joined _ _ _)]
    exact List.map_congr_left fun x _=>rfl
   rw [e,this]
   constructor
   · rintro ⟨x,hx,h⟩
     obtain ⟨q,hq,rfl⟩:=List.mem_map.mp hx
     obtain ⟨h1,h2⟩:=List.mem_filter.mp hq
     simp only [Bool.and_eq_true,beq_iff_eq] at h2
     exact ⟨q,h1,h2.1,h2.2,h⟩
   · rintro ⟨q,h1,h2,h3,h⟩
     exact ⟨(q.from_,q.to_),List.mem_map.mpr ⟨q,List.mem_filter.mpr ⟨h1,by simp [h2,h3]⟩,rfl⟩,h⟩
  unfold on
  rw [List.map_append]
  constructor
  · rintro ⟨x,hx,h⟩
    rcases List.mem_append.mp hx with hx | hx
    · obtain ⟨q,h1,h2,_,h3⟩:=(one true).mp ⟨x,hx,h⟩
      exact ⟨q,h1,h2,h3⟩
    · obtain ⟨q,h1,h2,_,h3⟩:=(one false).mp ⟨x,hx,h⟩
      exact ⟨q,h1,h2,h3⟩
  · rintro ⟨q,h1,h2,h3⟩
    cases e:q.main with
    | true =>
      obtain ⟨x,hx,h⟩:=(one true).mpr ⟨q,h1,h2,e,h3⟩
      exact ⟨x,List.mem_append.mpr (.inl hx),h⟩
    | false =>
      obtain ⟨x,hx,h⟩:=(one false).mpr ⟨q,h1,h2,e,h3⟩
      exact ⟨x,List.mem_append.mpr (.inr hx),h⟩
 have hkeep:∀ p,keepsOf drops l p = true↔p.kind≠0∧¬ (drops = true∧∃ q∈l,q.kind = 0∧q.from_≤p.from_∧p.from_≤q.to_):=by
  intro p
  unfold keepsOf
  simp only [Bool.and_eq_true,bne_iff_ne,ne_eq,Bool.not_eq_true',Bool.and_eq_false_iff]
  constructor
  · rintro ⟨h1,h2⟩
    refine ⟨h1,?_⟩
    rintro ⟨h3,q,h4,h5,h6,h7⟩
    rcases h2 with h2 | h2
    · rw [h3] at h2; cases h2
    · rw [List.any_eq_false] at h2
      exact h2 q h4 (by simp [h5,h6,h7])
  · rintro ⟨h1,h2⟩
    refine ⟨h1,?_⟩
    cases e:drops with
    | false=>exact .inl rfl
    | true =>
      refine .inr ?_
      rw [List.any_eq_false]
      intro q h4 h5
      simp only [Bool.and_eq_true,beq_iff_eq,decide_eq_true_eq] at h5
      exact h2 ⟨e,q,h4,h5.1,h5.2.1,h5.2.2⟩
 have mem:∀ p,p∈othersOf drops l↔p∈l∧p.kind≠0∧¬ (drops = true∧∃ q∈l,q.kind = 0∧q.from_≤p.from_∧p.from_≤q.to_):=by
  intro p
  unfold othersOf
  rw [List.mem_eraseDups,List.mem_filter,hkeep]
 have mem1:∀ p,p∈(l.filter fun p=>p.kind != 0).foldl once []↔p∈l∧p.kind≠0:=by
  intro p
  rw [o2 p,List.mem_filter]
  simp
 refine (List.perm_ext_iff_of_nodup ?_ (nodup_eraseDups _)).mpr fun p=>?_
 · split
   · exact nd.filter _
   · exact nd
 · show _↔p∈othersOf drops l
   rw [mem]
   cases e:drops with
   | false =>
     simp only [Bool.false_eq_true,if_false,false_and,not_false_eq_true,and_true]
     exact mem1 p
   | true =>
     simp only [if_true,true_and]
     rw [List.mem_filter,mem1,Bool.not_eq_true',← Bool.not_eq_true,onP_iff,hon,and_assoc]
theorem formPy {b:Book} {joins drops:Bool} {l c d e o:List Place} (hr:∀ p∈l,p.right b = true) (hc:c = plainOf b joins l true) (hd:d = plainOf b joins l false)
  (he:e = if drops = true then ((l.filter fun p=>p.kind != 0).foldl once []).filter (fun p=>!onP (c ++ d) p.from_) else (l.filter fun p=>p.kind != 0).foldl once [])
  (hp:o.Perm (c ++ d ++ e)) (hs:o.Pairwise (fun p q=>p.before q = true)):o = b.form joins drops l:=by
 subst hc; subst hd
 refine form_unique hr (hp.trans ?_) hs
 rw [List.append_assoc]
 refine List.Perm.append_left _ (List.Perm.append_left _ ?_)
 rw [he]
 exact others_perm hr
end Bk
namespace Hp
open PySem
abbrev Bytes:=List Nat
def S (l:Bytes):Str:=⟨l.toArray⟩
theorem S_cps (l:Bytes):(S l).cps.toList = l:=rfl
theorem ext_S {x y:Str} (h:x.cps.toList = y.cps.toList):x = y:=Str.ext' (Array.toList_inj.mp h)
theorem S_len (l:Bytes):(S l).length = l.length:=by simp [S,Str.length]
theorem S_app (x y:Bytes):S x ++ S y = S (x ++ y):=ext_S (by rw [Str.cps_append,Array.toList_append]; rfl)
theorem S_inj {x y:Bytes} (h:S x = S y):x = y:=congrArg (fun z:Str=>z.cps.toList) h
def Asc (s:Bytes):Prop:=∀ c∈s,c < 128
theorem dig_asc:∀ c,c < 128→Unicode.isDigit c = IhPlace.isDigit c:=by decide +kernel
theorem alpha_asc:∀ c,c < 128→Unicode.isAlpha c = IhPlace.isLetter c:=by decide +kernel
theorem isdigit_S {s:Bytes} (h:Asc s):Txt.isdigit (S s) = Bk.isNum s:=by
 unfold Txt.isdigit Bk.isNum
 rw [S_len,← Array.all_toList,S_cps]
 have e:s.all Unicode.isDigit = s.all IhPlace.isDigit:=by
  rw [Bool.eq_iff_iff,List.all_eq_true,List.all_eq_true]
  exact ⟨fun q c hc=>by rw [← dig_asc c (h c hc)]; exact q c hc,fun q c hc=>by rw [dig_asc c (h c hc)]; exact q c hc⟩
 rw [e]
 cases s <;> simp
theorem isalpha_S {c:Nat} (h:c < 128):Txt.isalpha (S [c]) = IhPlace.isLetter c:=by
 unfold Txt.isalpha
 rw [S_len,← Array.all_toList,S_cps]
 simp [alpha_asc c h]
theorem find_S (s:Bytes) (c:Nat):Txt.find (S s) (S [c]) = match s.findIdx? (· == c) with
  | none=>-1
  | some k=>(k:Int):=by
 have key:∀ i,StrLaws.At (S s) (S [c]) (S s).length i↔s[i]? = some c:=fun i=>StrLaws.subAt_one (S s) c i
 unfold Txt.find
 rcases StrLaws.occ_head (S s) (S [c]) 1 (Nat.le_refl _) with ⟨h1,h2⟩ | ⟨i,r,h1,h2,h3⟩
 · rw [h1,(Bk.findIdx_none c).mpr fun hm=>?_]
   obtain ⟨i,hi⟩:=List.mem_iff_getElem?.mp hm
   exact h2 i ((key i).mpr hi)
 · rw [h1]
   have h4:=(key i).mp h2
   obtain ⟨hl,he⟩:=List.getElem?_eq_some_iff.mp h4
   have:s.findIdx? (· == c) = some i:=by
    rw [List.findIdx?_eq_some_iff_getElem]
    refine ⟨hl,by simp [he],fun j hj=>?_⟩
    intro hc
    have hjl:j < s.length:=by omega
    exact h3 j hj ((key j).mpr (by rw [List.getElem?_eq_getElem hjl]; simpa using hc))
   rw [this]
theorem starts_S (s p:Bytes):Txt.startswith (S s) (S p) = decide (s.take p.length = p):=by
 unfold Txt.startswith
 rw [StrLaws.subAt_eq,S_cps,S_cps,S_len,S_len]
 rw [Bool.eq_iff_iff]
 simp only [Nat.zero_add,Bool.and_eq_true,decide_eq_true_eq,List.drop_zero,beq_iff_eq]
 constructor
 · exact fun h=>h.2
 · intro h
   refine ⟨?_,h⟩
   have:=congrArg List.length h
   rw [List.length_take] at this
   omega
theorem ends_S (s:Bytes) (c:Nat):Txt.endswith (S s) (S [c]) = decide (s.getLast? = some c):=by
 unfold Txt.endswith
 rw [StrLaws.subAt_eq,S_cps,S_cps,S_len,S_len]
 rw [Bool.eq_iff_iff]
 simp only [Nat.zero_add,Bool.and_eq_true,decide_eq_true_eq,List.length_singleton]
 rw [StrLaws.take1_drop,List.getLast?_eq_getElem?]
 constructor
 · exact fun h=>h.2
 · intro h
   refine ⟨?_,h⟩
   obtain ⟨q,_⟩:=List.getElem?_eq_some_iff.mp h
   omega
theorem int_S {d:Bytes} (h0:d≠[]) (hd:d.all IhPlace.isDigit = true) (hl:d.length≤4300):intText? (S d) = some ((IhPlace.numOf d:Nat):Int):=by
 have e:=intText_digits (x:=S d) (fun c hc=>Bk.isDigit_iff.mp (List.all_eq_true.mp hd c hc)) h0 (by rw [S_len]; exact hl)
 rw [e,S_cps]
 have:NumText.digitsVal d = IhPlace.numOf d:=by
  unfold NumText.digitsVal IhPlace.numOf
  congr 1
  funext n c
  rw [Nat.mul_comm]
 rw [this]
theorem upper_S {s:Bytes} (h:s.all Bk.isLow = true):Txt.upper (S s) = S (s.map fun c=>c - 32):=by
 have hl:∀ c∈s,97≤c∧c≤122:=fun c hc=>by simpa [Bk.isLow] using List.all_eq_true.mp h c hc
 rw [PyProof.Rows.upper_ascii (fun c hc=>by have:=hl c hc; omega)]
 refine ext_S ?_
 show ((S s).cps.map PyProof.Rows.up1).toList = _
 rw [Array.toList_map,S_cps,S_cps]
 refine List.map_congr_left fun c hc=>?_
 have:=hl c hc
 unfold PyProof.Rows.up1
 rw [if_pos this]
def dig10:Bytes:=[48,49,50,51,52,53,54,55,56,57]
theorem dig10_eq:Str.ofString "0123456789" = S dig10:=rfl
theorem take_rev (p:Nat→Bool) (s:Bytes):s.take (s.length - (s.reverse.takeWhile p).length) = (s.reverse.dropWhile p).reverse:=by
 have h:=List.takeWhile_append_dropWhile (p:=p) (l:=s.reverse)
 have h2:=congrArg List.reverse h
 rw [List.reverse_append,List.reverse_reverse] at h2
 have hl:=congrArg List.length h2
 simp only [List.length_append,List.length_reverse] at hl
 conv=>lhs; arg 2; rw [← h2]
 rw [show s.length - (s.reverse.takeWhile p).length = (s.reverse.dropWhile p).reverse.length by rw [List.length_reverse]; omega]
 exact List.take_left
theorem rstrip_S (s:Bytes):Txt.rstripChars (S s) (S dig10) = S (Bk.stripD s):=by
 unfold Txt.rstripChars
 rw [PyProof.Rows.stripBy_eq]
 have eg:(S dig10).cps.contains = IhPlace.isDigit:=by
  funext c
  rw [Bool.eq_iff_iff]
  show Array.contains (dig10.toArray) c = true↔_
  rw [List.contains_toArray,Bk.isDigit_iff]
  simp [dig10]
  omega
 rw [eg]
 unfold stripLo stripHi
 simp only [Bool.false_eq_true,if_false,if_true,List.drop_zero,S_cps]
 refine ext_S ?_
 show ((S s).cps.extract 0 _).toList = _
 rw [Array.toList_extract,S_cps,S_cps,S_len]
 simp only [List.extract_eq_take_drop,List.drop_zero,Nat.sub_zero]
 exact take_rev _ s
end Hp
namespace Hp
open PySem L2
def top (i:Nat):Stmt:=PySem.Challenge.pw_headplaces_s01_answers.main.body.getD i (.Pass ⟨0,0,0,0⟩)
structure FE where
 f:Addr
 d:FuncData
def GV (mg:Str→Option Value) (x:Str) (v:V):Prop:=∃ u,mg x = some u∧RelV v u
structure FOk (K:PySem.W.Frag) (x qual:Str) (st:Stmt) (ps:List Str) (e:FE):Prop where
 fn:Fun K x qual st e.f e.d
 b:Binds K e.d ps []
structure GF (K:PySem.W.Frag) (mg:Str→Option Value) (x:Str) (st:Stmt) (ps:List Str) (e:FE):Prop extends FOk K x x st ps e where
 m:mg x = some (.ref e.f)
structure MF (K:PySem.W.Frag) (C:Addr) (x qual:Str) (st:Stmt) (ps:List Str) (e:FE):Prop extends FOk K x qual st ps e where
 m:Meth K C x e.f
structure CF (K:PySem.W.Frag) (mg:Str→Option Value) (x:Str) (C:Addr) (f:Addr):Prop where
 cl:Cls K C
 m:mg x = some (.ref C)
 mkd:Mk K C f
def GT (K:PySem.W.Frag) (a:Addr) (xs:List V):Prop:=∀ H:Hp,SqT K H a xs
abbrev s_most_of_style:Stmt:=top 11
abbrev s_small_roman:Stmt:=top 12
abbrev s_letters_of:Stmt:=top 13
abbrev s_number_text:Stmt:=top 14
abbrev s_numbers_of:Stmt:=top 26
abbrev s_has_right_pages:Stmt:=top 27
abbrev s_has_right_kind:Stmt:=top 28
abbrev s_has_right_note:Stmt:=top 29
abbrev s_is_right:Stmt:=top 30
abbrev s_differing_digits:Stmt:=top 36
abbrev s_digits_by_from_number:Stmt:=top 37
abbrev s_digits_told:Stmt:=top 38
abbrev s_to_text:Stmt:=top 39
abbrev s_marks_text:Stmt:=top 40
abbrev s_place_text:Stmt:=top 41
abbrev s_places_of:Stmt:=top 45
abbrev s_numbers_of_list:Stmt:=top 46
abbrev s_all_right:Stmt:=top 47
abbrev s_list_text:Stmt:=top 48
abbrev s_parts_of:Stmt:=top 49
abbrev s_first_with_page:Stmt:=top 50
abbrev s_rank_of:Stmt:=top 54
abbrev s_order_of:Stmt:=top 55
abbrev s_are_joined:Stmt:=top 56
abbrev s_join_two:Stmt:=top 57
abbrev s_joined:Stmt:=top 58
abbrev s_each_once:Stmt:=top 59
abbrev s_beside:Stmt:=top 60
abbrev s_form_of:Stmt:=top 61
abbrev s_plain_number:Stmt:=top 65
abbrev s_number_of_to:Stmt:=top 66
abbrev s_index_of_to:Stmt:=top 67
abbrev s_pages_told:Stmt:=top 68
abbrev s_marks_told:Stmt:=top 69
abbrev s_marks_start:Stmt:=top 70
abbrev s_place_told:Stmt:=top 71
abbrev s_signs_by_byte:Stmt:=top 76
abbrev s_text_of:Stmt:=top 77
abbrev s_bytes_of:Stmt:=top 78
abbrev s_refused:Stmt:=top 87
abbrev s_answered:Stmt:=top 88
abbrev s_is_prefix:Stmt:=top 89
abbrev s_is_run:Stmt:=top 90
abbrev s_refusal_of_list:Stmt:=top 91
abbrev s_answer_begin:Stmt:=top 107
abbrev s_answer_run:Stmt:=top 108
abbrev s_answer_has:Stmt:=top 109
abbrev s_answer_call:Stmt:=top 110
abbrev s_answers:Stmt:=top 111
abbrev s_Numerals_init:Stmt:=inClass (top 15) 0
abbrev s_Numerals_stretch:Stmt:=inClass (top 15) 1
abbrev s_Run_init:Stmt:=inClass (top 17) 0
abbrev s_Run_has_index:Stmt:=inClass (top 17) 1
abbrev s_Run_has_number:Stmt:=inClass (top 17) 2
abbrev s_Run_number_at:Stmt:=inClass (top 17) 3
abbrev s_Run_index_at:Stmt:=inClass (top 17) 4
abbrev s_Run_name_at:Stmt:=inClass (top 17) 5
abbrev s_Book_init:Stmt:=inClass (top 18) 0
abbrev s_Book_add_run:Stmt:=inClass (top 18) 1
abbrev s_Book_lettered_names:Stmt:=inClass (top 18) 2
abbrev s_Book_has_lettered:Stmt:=inClass (top 18) 3
abbrev s_Book_has_digits_of:Stmt:=inClass (top 18) 4
abbrev s_Book_run_at:Stmt:=inClass (top 18) 5
abbrev s_Book_index_of_name:Stmt:=inClass (top 18) 6
abbrev s_Book_index_of_digits:Stmt:=inClass (top 18) 7
abbrev s_Place_init:Stmt:=inClass (top 25) 0
abbrev s_Session_init:Stmt:=inClass (top 92) 0
abbrev s_Session_begin:Stmt:=inClass (top 92) 1
abbrev s_Session_run:Stmt:=inClass (top 92) 2
abbrev s_Session_pages:Stmt:=inClass (top 92) 3
abbrev s_Session_name:Stmt:=inClass (top 92) 4
abbrev s_Session_page:Stmt:=inClass (top 92) 5
abbrev s_Session_write:Stmt:=inClass (top 92) 6
abbrev s_Session_read:Stmt:=inClass (top 92) 7
abbrev s_Session_form:Stmt:=inClass (top 92) 8
abbrev s_Session_text:Stmt:=inClass (top 92) 9
abbrev s_Session_places_told:Stmt:=inClass (top 92) 10
abbrev s_Session_has:Stmt:=inClass (top 92) 11
abbrev s_Reader_init:Stmt:=inClass (top 106) 0
abbrev s_Reader_at_end:Stmt:=inClass (top 106) 1
abbrev s_Reader_take_number:Stmt:=inClass (top 106) 2
abbrev s_Reader_take_row:Stmt:=inClass (top 106) 3
structure Adr where
 most_of_style:FE
 small_roman:FE
 letters_of:FE
 number_text:FE
 numbers_of:FE
 has_right_pages:FE
 has_right_kind:FE
 has_right_note:FE
 is_right:FE
 differing_digits:FE
 digits_by_from_number:FE
 digits_told:FE
 to_text:FE
 marks_text:FE
 place_text:FE
 places_of:FE
 numbers_of_list:FE
 all_right:FE
 list_text:FE
 parts_of:FE
 first_with_page:FE
 rank_of:FE
 order_of:FE
 are_joined:FE
 join_two:FE
 joined:FE
 each_once:FE
 beside:FE
 form_of:FE
 plain_number:FE
 number_of_to:FE
 index_of_to:FE
 pages_told:FE
 marks_told:FE
 marks_start:FE
 place_told:FE
 signs_by_byte:FE
 text_of:FE
 bytes_of:FE
 refused:FE
 answered:FE
 is_prefix:FE
 is_run:FE
 refusal_of_list:FE
 answer_begin:FE
 answer_run:FE
 answer_has:FE
 answer_call:FE
 answers:FE
 c_Numerals:Addr
 c_Run:Addr
 c_Book:Addr
 c_Place:Addr
 c_Session:Addr
 c_Reader:Addr
 Numerals_init:FE
 Numerals_stretch:FE
 Run_init:FE
 Run_has_index:FE
 Run_has_number:FE
 Run_number_at:FE
 Run_index_at:FE
 Run_name_at:FE
 Book_init:FE
 Book_add_run:FE
 Book_lettered_names:FE
 Book_has_lettered:FE
 Book_has_digits_of:FE
 Book_run_at:FE
 Book_index_of_name:FE
 Book_index_of_digits:FE
 Place_init:FE
 Session_init:FE
 Session_begin:FE
 Session_run:FE
 Session_pages:FE
 Session_name:FE
 Session_page:FE
 Session_write:FE
 Session_read:FE
 Session_form:FE
 Session_text:FE
 Session_places_told:FE
 Session_has:FE
 Reader_init:FE
 Reader_at_end:FE
 Reader_take_number:FE
 Reader_take_row:FE
 t_MOST_BY_STYLE:Addr
 t_ROMAN_ONES:Addr
 t_ROMAN_TENS:Addr
 t_ROMAN_HUNDREDS:Addr
 t_ROMAN_THOUSANDS:Addr
structure Txt (K:PySem.W.Frag) (mg:Str→Option Value) (a:Adr):Prop where
 most_of_style:GF K mg "most_of_style" s_most_of_style ["style"] a.most_of_style
 small_roman:GF K mg "small_roman" s_small_roman ["number"] a.small_roman
 letters_of:GF K mg "letters_of" s_letters_of ["number"] a.letters_of
 number_text:GF K mg "number_text" s_number_text ["style","number"] a.number_text
 numbers_of:GF K mg "numbers_of" s_numbers_of ["place"] a.numbers_of
 has_right_pages:GF K mg "has_right_pages" s_has_right_pages ["book","place"] a.has_right_pages
 has_right_kind:GF K mg "has_right_kind" s_has_right_kind ["place"] a.has_right_kind
 has_right_note:GF K mg "has_right_note" s_has_right_note ["place"] a.has_right_note
 is_right:GF K mg "is_right" s_is_right ["book","place"] a.is_right
 differing_digits:GF K mg "differing_digits" s_differing_digits ["from_number","to_number"] a.differing_digits
 digits_by_from_number:GF K mg "digits_by_from_number" s_digits_by_from_number ["from_number","to_number"] a.digits_by_from_number
 digits_told:GF K mg "digits_told" s_digits_told ["way","from_number","to_number"] a.digits_told
 to_text:GF K mg "to_text" s_to_text ["run","way","place"] a.to_text
 marks_text:GF K mg "marks_text" s_marks_text ["place"] a.marks_text
 place_text:GF K mg "place_text" s_place_text ["book","way","place"] a.place_text
 places_of:GF K mg "places_of" s_places_of ["numbers"] a.places_of
 numbers_of_list:GF K mg "numbers_of_list" s_numbers_of_list ["places"] a.numbers_of_list
 all_right:GF K mg "all_right" s_all_right ["book","places"] a.all_right
 list_text:GF K mg "list_text" s_list_text ["book","way","places"] a.list_text
 parts_of:GF K mg "parts_of" s_parts_of ["text"] a.parts_of
 first_with_page:GF K mg "first_with_page" s_first_with_page ["places","index"] a.first_with_page
 rank_of:GF K mg "rank_of" s_rank_of ["place"] a.rank_of
 order_of:GF K mg "order_of" s_order_of ["place"] a.order_of
 are_joined:GF K mg "are_joined" s_are_joined ["book","joins","first","second"] a.are_joined
 join_two:GF K mg "join_two" s_join_two ["first","second"] a.join_two
 joined:GF K mg "joined" s_joined ["book","joins","places"] a.joined
 each_once:GF K mg "each_once" s_each_once ["places"] a.each_once
 beside:GF K mg "beside" s_beside ["places","stretches"] a.beside
 form_of:GF K mg "form_of" s_form_of ["book","joins","drops","places"] a.form_of
 plain_number:GF K mg "plain_number" s_plain_number ["text","most"] a.plain_number
 number_of_to:GF K mg "number_of_to" s_number_of_to ["from_number","digits"] a.number_of_to
 index_of_to:GF K mg "index_of_to" s_index_of_to ["book","run","from_index","told"] a.index_of_to
 pages_told:GF K mg "pages_told" s_pages_told ["book","text"] a.pages_told
 marks_told:GF K mg "marks_told" s_marks_told ["marks"] a.marks_told
 marks_start:GF K mg "marks_start" s_marks_start ["text"] a.marks_start
 place_told:GF K mg "place_told" s_place_told ["book","text"] a.place_told
 signs_by_byte:GF K mg "signs_by_byte" s_signs_by_byte [] a.signs_by_byte
 text_of:GF K mg "text_of" s_text_of ["table","told"] a.text_of
 bytes_of:GF K mg "bytes_of" s_bytes_of ["text"] a.bytes_of
 refused:GF K mg "refused" s_refused ["number"] a.refused
 answered:GF K mg "answered" s_answered ["numbers"] a.answered
 is_prefix:GF K mg "is_prefix" s_is_prefix ["text"] a.is_prefix
 is_run:GF K mg "is_run" s_is_run ["style","first","count","prefix"] a.is_run
 refusal_of_list:GF K mg "refusal_of_list" s_refusal_of_list ["book","places"] a.refusal_of_list
 answer_begin:GF K mg "answer_begin" s_answer_begin ["session","reader"] a.answer_begin
 answer_run:GF K mg "answer_run" s_answer_run ["session","reader"] a.answer_run
 answer_has:GF K mg "answer_has" s_answer_has ["session","reader"] a.answer_has
 answer_call:GF K mg "answer_call" s_answer_call ["session","reader"] a.answer_call
 answers:GF K mg "answers" s_answers ["calls"] a.answers
 c_Numerals:CF K mg "Numerals" a.c_Numerals a.Numerals_init.f
 c_Run:CF K mg "Run" a.c_Run a.Run_init.f
 c_Book:CF K mg "Book" a.c_Book a.Book_init.f
 c_Place:CF K mg "Place" a.c_Place a.Place_init.f
 c_Session:CF K mg "Session" a.c_Session a.Session_init.f
 c_Reader:CF K mg "Reader" a.c_Reader a.Reader_init.f
 Numerals_init:MF K a.c_Numerals "__init__" "Numerals.__init__" s_Numerals_init ["self"] a.Numerals_init
 Numerals_stretch:MF K a.c_Numerals "stretch" "Numerals.stretch" s_Numerals_stretch ["self","style","first","last"] a.Numerals_stretch
 Run_init:MF K a.c_Run "__init__" "Run.__init__" s_Run_init ["self","style","first","count","prefix","start"] a.Run_init
 Run_has_index:MF K a.c_Run "has_index" "Run.has_index" s_Run_has_index ["self","index"] a.Run_has_index
 Run_has_number:MF K a.c_Run "has_number" "Run.has_number" s_Run_has_number ["self","number"] a.Run_has_number
 Run_number_at:MF K a.c_Run "number_at" "Run.number_at" s_Run_number_at ["self","index"] a.Run_number_at
 Run_index_at:MF K a.c_Run "index_at" "Run.index_at" s_Run_index_at ["self","number"] a.Run_index_at
 Run_name_at:MF K a.c_Run "name_at" "Run.name_at" s_Run_name_at ["self","index"] a.Run_name_at
 Book_init:MF K a.c_Book "__init__" "Book.__init__" s_Book_init ["self","numerals"] a.Book_init
 Book_add_run:MF K a.c_Book "add_run" "Book.add_run" s_Book_add_run ["self","style","first","count","prefix"] a.Book_add_run
 Book_lettered_names:MF K a.c_Book "lettered_names" "Book.lettered_names" s_Book_lettered_names ["self","run"] a.Book_lettered_names
 Book_has_lettered:MF K a.c_Book "has_lettered" "Book.has_lettered" s_Book_has_lettered ["self","names"] a.Book_has_lettered
 Book_has_digits_of:MF K a.c_Book "has_digits_of" "Book.has_digits_of" s_Book_has_digits_of ["self","run"] a.Book_has_digits_of
 Book_run_at:MF K a.c_Book "run_at" "Book.run_at" s_Book_run_at ["self","index"] a.Book_run_at
 Book_index_of_name:MF K a.c_Book "index_of_name" "Book.index_of_name" s_Book_index_of_name ["self","name"] a.Book_index_of_name
 Book_index_of_digits:MF K a.c_Book "index_of_digits" "Book.index_of_digits" s_Book_index_of_digits ["self","name"] a.Book_index_of_digits
 Place_init:MF K a.c_Place "__init__" "Place.__init__" s_Place_init ["self","numbers"] a.Place_init
 Session_init:MF K a.c_Session "__init__" "Session.__init__" s_Session_init ["self"] a.Session_init
 Session_begin:MF K a.c_Session "begin" "Session.begin" s_Session_begin ["self","way","joins","drops"] a.Session_begin
 Session_run:MF K a.c_Session "run" "Session.run" s_Session_run ["self","style","first","count","told"] a.Session_run
 Session_pages:MF K a.c_Session "pages" "Session.pages" s_Session_pages ["self"] a.Session_pages
 Session_name:MF K a.c_Session "name" "Session.name" s_Session_name ["self","index"] a.Session_name
 Session_page:MF K a.c_Session "page" "Session.page" s_Session_page ["self","told"] a.Session_page
 Session_write:MF K a.c_Session "write" "Session.write" s_Session_write ["self","numbers"] a.Session_write
 Session_read:MF K a.c_Session "read" "Session.read" s_Session_read ["self","told"] a.Session_read
 Session_form:MF K a.c_Session "form" "Session.form" s_Session_form ["self","numbers"] a.Session_form
 Session_text:MF K a.c_Session "text" "Session.text" s_Session_text ["self","numbers"] a.Session_text
 Session_places_told:MF K a.c_Session "places_told" "Session.places_told" s_Session_places_told ["self","told"] a.Session_places_told
 Session_has:MF K a.c_Session "has" "Session.has" s_Session_has ["self","index","numbers"] a.Session_has
 Reader_init:MF K a.c_Reader "__init__" "Reader.__init__" s_Reader_init ["self","calls"] a.Reader_init
 Reader_at_end:MF K a.c_Reader "at_end" "Reader.at_end" s_Reader_at_end ["self"] a.Reader_at_end
 Reader_take_number:MF K a.c_Reader "take_number" "Reader.take_number" s_Reader_take_number ["self"] a.Reader_take_number
 Reader_take_row:MF K a.c_Reader "take_row" "Reader.take_row" s_Reader_take_row ["self"] a.Reader_take_row
 n_Numerals_texts:NoAttr K a.c_Numerals "texts"
 n_Run_style:NoAttr K a.c_Run "style"
 n_Run_first:NoAttr K a.c_Run "first"
 n_Run_last:NoAttr K a.c_Run "last"
 n_Run_count:NoAttr K a.c_Run "count"
 n_Run_prefix:NoAttr K a.c_Run "prefix"
 n_Run_start:NoAttr K a.c_Run "start"
 n_Book_numerals:NoAttr K a.c_Book "numerals"
 n_Book_runs:NoAttr K a.c_Book "runs"
 n_Book_total:NoAttr K a.c_Book "total"
 n_Book_lettered:NoAttr K a.c_Book "lettered"
 n_Place_from_index:NoAttr K a.c_Place "from_index"
 n_Place_to_index:NoAttr K a.c_Place "to_index"
 n_Place_kind:NoAttr K a.c_Place "kind"
 n_Place_main:NoAttr K a.c_Place "main"
 n_Place_note:NoAttr K a.c_Place "note"
 n_Session_way:NoAttr K a.c_Session "way"
 n_Session_joins:NoAttr K a.c_Session "joins"
 n_Session_drops:NoAttr K a.c_Session "drops"
 n_Session_numerals:NoAttr K a.c_Session "numerals"
 n_Session_signs:NoAttr K a.c_Session "signs"
 n_Session_book:NoAttr K a.c_Session "book"
 n_Reader_calls:NoAttr K a.c_Reader "calls"
 n_Reader_position:NoAttr K a.c_Reader "position"
 g_DIGITS:GV mg "DIGITS" (V.int 0)
 g_SMALL_ROMAN:GV mg "SMALL_ROMAN" (V.int 1)
 g_CAPITAL_ROMAN:GV mg "CAPITAL_ROMAN" (V.int 2)
 g_LETTERS:GV mg "LETTERS" (V.int 3)
 g_ALPHABET:GV mg "ALPHABET" (V.str "abcdefghijklmnopqrstuvwxyz")
 g_PLAIN:GV mg "PLAIN" (V.int 0)
 g_NOTE:GV mg "NOTE" (V.int 1)
 g_FIGURE:GV mg "FIGURE" (V.int 2)
 g_TABLE:GV mg "TABLE" (V.int 3)
 g_MOST_NOTE:GV mg "MOST_NOTE" (V.int 16777215)
 g_WHOLE_NAME:GV mg "WHOLE_NAME" (V.int 0)
 g_TWO_DIGITS_AT_LEAST:GV mg "TWO_DIGITS_AT_LEAST" (V.int 2)
 g_BY_FROM_NUMBER:GV mg "BY_FROM_NUMBER" (V.int 3)
 g_TWO_DIGITS_IN_TEENS:GV mg "TWO_DIGITS_IN_TEENS" (V.int 4)
 g_NUMBERS_OF_A_PLACE:GV mg "NUMBERS_OF_A_PLACE" (V.int 5)
 g_PARTING:GV mg "PARTING" (V.str ", ")
 g_RANK_OF_MAIN:GV mg "RANK_OF_MAIN" (V.int 0)
 g_RANK_OF_PLAIN:GV mg "RANK_OF_PLAIN" (V.int 1)
 g_MOST_PAGE_DIGITS:GV mg "MOST_PAGE_DIGITS" (V.int 5)
 g_MOST_NOTE_DIGITS:GV mg "MOST_NOTE_DIGITS" (V.int 8)
 g_SIGNS_OF_NAMES:GV mg "SIGNS_OF_NAMES" (V.str ".0123456789ABCDEFGHIJKLMNOPQRSTUVWXYZabcdefghijklmnopqrstuvwxyz")
 g_SIGNS_BESIDE_NAMES:GV mg "SIGNS_BESIDE_NAMES" (V.str "-[]!, ")
 g_FOREIGN_SIGN:GV mg "FOREIGN_SIGN" (V.str "?")
 g_MOST_WAY:GV mg "MOST_WAY" (V.int 4)
 g_MOST_RUNS:GV mg "MOST_RUNS" (V.int 64)
 g_MOST_PAGES:GV mg "MOST_PAGES" (V.int 65536)
 g_MOST_PREFIX:GV mg "MOST_PREFIX" (V.int 4)
 g_MOST_PLACES:GV mg "MOST_PLACES" (V.int 256)
 g_MOST_LIST_BYTES:GV mg "MOST_LIST_BYTES" (V.int 32768)
 g_NOT_REFUSED:GV mg "NOT_REFUSED" (V.int 0)
 g_BEGIN:GV mg "BEGIN" (V.int 1)
 g_RUN:GV mg "RUN" (V.int 2)
 g_PAGES:GV mg "PAGES" (V.int 3)
 g_NAME:GV mg "NAME" (V.int 4)
 g_PAGE:GV mg "PAGE" (V.int 5)
 g_WRITE:GV mg "WRITE" (V.int 6)
 g_READ:GV mg "READ" (V.int 7)
 g_FORM:GV mg "FORM" (V.int 8)
 g_TEXT:GV mg "TEXT" (V.int 9)
 g_LIST:GV mg "LIST" (V.int 10)
 g_HAS:GV mg "HAS" (V.int 11)
 t_MOST_BY_STYLE:GT K a.t_MOST_BY_STYLE [(V.int 99999),(V.int 3999),(V.int 3999),(V.int 702)]
 g_MOST_BY_STYLE:GV mg "MOST_BY_STYLE" (V.ref a.t_MOST_BY_STYLE)
 t_ROMAN_ONES:GT K a.t_ROMAN_ONES [(V.str ""),(V.str "i"),(V.str "ii"),(V.str "iii"),(V.str "iv"),(V.str "v"),(V.str "vi"),(V.str "vii"),(V.str "viii"),(V.str "ix")]
 g_ROMAN_ONES:GV mg "ROMAN_ONES" (V.ref a.t_ROMAN_ONES)
 t_ROMAN_TENS:GT K a.t_ROMAN_TENS [(V.str ""),(V.str "x"),(V.str "xx"),(V.str "xxx"),(V.str "xl"),(V.str "l"),(V.str "lx"),(V.str "lxx"),(V.str "lxxx"),(V.str "xc")]
 g_ROMAN_TENS:GV mg "ROMAN_TENS" (V.ref a.t_ROMAN_TENS)
 t_ROMAN_HUNDREDS:GT K a.t_ROMAN_HUNDREDS [(V.str ""),(V.str "c"),(V.str "cc"),(V.str "ccc"),(V.str "cd"),(V.str "d"),(V.str "dc"),(V.str "dcc"),(V.str "dccc"),(V.str "cm")]
 g_ROMAN_HUNDREDS:GV mg "ROMAN_HUNDREDS" (V.ref a.t_ROMAN_HUNDREDS)
 t_ROMAN_THOUSANDS:GT K a.t_ROMAN_THOUSANDS [(V.str ""),(V.str "m"),(V.str "mm"),(V.str "mmm")]
 g_ROMAN_THOUSANDS:GV mg "ROMAN_THOUSANDS" (V.ref a.t_ROMAN_THOUSANDS)
 b_enumerate:mg "enumerate" = none
 b_int:mg "int" = none
 b_len:mg "len" = none
 b_list:mg "list" = none
 b_max:mg "max" = none
 b_min:mg "min" = none
 b_ord:mg "ord" = none
 b_range:mg "range" = none
 b_sorted:mg "sorted" = none
 b_str:mg "str" = none
section
variable {K:PySem.W.Frag} {h:Heap} {mg:Str→Option Value}
theorem fok_mk {x qual:Str} {st:Stmt} {ps:List Str} {f:Addr} {oc:Value} {od an:Option Addr} {osl:Array (Option Value)} {kV doc pm cdv ct:Value}
  (l:K.lookup f = some ⟨oc,od,.func (PySem.W.fnOf x qual (defArgs st) (defBody st) (defScope st) .none kV doc pm an cdv ct),osl⟩)
  (c:PySem.W.codeIn K cdv qual = true) (k:PySem.W.keepIn K (.ref f) = true)
  (hb:∀ (kV doc pm:Value) (an:Option Addr) (cdv ct:Value) (us:List Value),us.length = ps.length→bindArgs (PySem.W.fnOf x qual (defArgs st) (defBody st) (defScope st) .none kV doc pm an cdv ct) ⟨us,[]⟩ = pure (ps.zip us)) :
  FOk K x qual st ps ⟨f,PySem.W.fnOf x qual (defArgs st) (defBody st) (defScope st) .none kV doc pm an cdv ct⟩:=⟨fun_mk l c k,(fun_mk l c k).binds hb⟩
theorem gf_mk {x:Str} {st:Stmt} {ps:List Str} {f:Addr} {oc:Value} {od an:Option Addr} {osl:Array (Option Value)} {kV doc pm cdv ct:Value} (X:K.In h) (G:h.Ns mainGlobals mg)
  (n:PySem.W.nsIn K mainGlobals x = some (some (.ref f)))
  (l:K.lookup f = some ⟨oc,od,.func (PySem.W.fnOf x x (defArgs st) (defBody st) (defScope st) .none kV doc pm an cdv ct),osl⟩)
  (c:PySem.W.codeIn K cdv x = true) (k:PySem.W.keepIn K (.ref f) = true)
  (hb:∀ (kV doc pm:Value) (an:Option Addr) (cdv ct:Value) (us:List Value),us.length = ps.length→bindArgs (PySem.W.fnOf x x (defArgs st) (defBody st) (defScope st) .none kV doc pm an cdv ct) ⟨us,[]⟩ = pure (ps.zip us)) :
  ∃ e,GF K mg x st ps e:=⟨_,fok_mk l c k hb,PySem.W.mg_of X G n⟩
theorem mf_mk {C:Addr} {x qual:Str} {st:Stmt} {ps:List Str} {f:Addr} {oc:Value} {od an:Option Addr} {osl:Array (Option Value)} {kV doc pm cdv ct:Value}
  (n:PySem.W.findIn K (.ref C) x = some (some (.ref f))) (i:PySem.W.isFn K (.ref f) = true)
  (l:K.lookup f = some ⟨oc,od,.func (PySem.W.fnOf x qual (defArgs st) (defBody st) (defScope st) .none kV doc pm an cdv ct),osl⟩)
  (c:PySem.W.codeIn K cdv qual = true) (k:PySem.W.keepIn K (.ref f) = true)
  (hb:∀ (kV doc pm:Value) (an:Option Addr) (cdv ct:Value) (us:List Value),us.length = ps.length→bindArgs (PySem.W.fnOf x qual (defArgs st) (defBody st) (defScope st) .none kV doc pm an cdv ct) ⟨us,[]⟩ = pure (ps.zip us)) :
  MF K C x qual st ps ⟨f,PySem.W.fnOf x qual (defArgs st) (defBody st) (defScope st) .none kV doc pm an cdv ct⟩:=⟨fok_mk l c k hb,⟨n,i,k⟩⟩
theorem cf_mk {x:Str} {C f:Addr} (X:K.In h) (G:h.Ns mainGlobals mg) (a:PySem.W.nsIn K mainGlobals x = some (some (.ref C)))
  (pg:PySem.W.plainGet K C Str.empty = true) (hd:PySem.W.hasDictIn K C = true) (po:PySem.W.plainOver K C = true) (sa:PySem.W.findIn K (.ref C) "__setattr__" = some (some (.builtin "object.__setattr__"))) (mk:PySem.W.makesIn K C = true) (kc:PySem.W.keepIn K (.ref C) = true)
  (n:PySem.W.findIn K (.ref C) "__init__" = some (some (.ref f))) (i:PySem.W.isFn K (.ref f) = true):CF K mg x C f:=⟨⟨pg,hd,po,sa⟩,PySem.W.mg_of X G a,⟨mk,n,i,kc⟩⟩
theorem gv_mk {x:Str} {v:V} {u:Value} (X:K.In h) (G:h.Ns mainGlobals mg) (n:PySem.W.nsIn K mainGlobals x = some (some u)) (r:RelV v u):GV mg x v:=⟨u,PySem.W.mg_of X G n,r⟩
theorem gt_mk {x:Str} {a:Addr} {od:Option Addr} {its:List Value} {n:Nat} {osl:Array (Option Value)} {xs:List V} (X:K.In h) (G:h.Ns mainGlobals mg)
  (e:PySem.W.nsIn K mainGlobals x = some (some (.ref a))) (l:K.lookup a = some ⟨.type "tuple",od,.seq its.toArray n,osl⟩) (z:its.length≤sizeLine) (r:Vals xs its):∃ a,GV mg x (V.ref a)∧GT K a xs :=
 ⟨a,⟨_,PySem.W.mg_of X G e,rfl⟩,fun H=>.inr ⟨_,its.toArray,n,l,rfl,rfl,by simpa using z,by simpa using r⟩⟩
end
end Hp
namespace L2
open PySem PySem.Spec PyProof.Rows
section
variable {X:Cx} {o e:Expr} {to te:TE}
theorem pe_gv {x:Str} {v:V} {pos:Pos} (h:Hp.GV X.mg x v) (hg:Gl X x:=by rfl) (hd:(x == ("__debug__":Str)) = false:=by decide):PE X (.Name x pos) (tC v):=by
 obtain ⟨u,h1,h2⟩:=h
 exact pe_glob hg h1 h2 hd
def rRstrip1:V→List V→Hp→VK→Prop:=fun x xs H Q=>∃ a b,x = .str a∧xs = [.str b]∧a.length≤sizeLine∧Q (.str (Txt.rstripChars a b)) H
theorem mt_rstrip1:MtR X "str.rstrip" rRstrip1:=by
 intro pins s σ H x xs v us Q I rx rs h
 obtain ⟨a,b,rfl,rfl,hz,h⟩:=h
 obtain ⟨t,rfl⟩:=rx
 cases rs with
 | cons r1 rs =>
   cases rs
   obtain ⟨u,rfl⟩:=r1
   exact PySem.SC.rstripChars (fun t' k=>⟨.str _,H,I.tok k,⟨t',rfl⟩,h⟩) hz
theorem pe_rstrip1 {apos pos:Pos} (ho:PE X o to) (he:PE X e te) (hs:starEach [e] X.env = [(false,eval e X.env)]:=by rfl) (hbase:attributeBase o "rstrip" X.env (eval o X.env) = eval o X.env:=by rfl) (hline:(apos.endLine == pos.line) = true:=by rfl) :
  PE X (.Call (.Attribute o "rstrip" apos) [e] [] pos) (tM1 rRstrip1 to te) :=
 pe_m1 F.slot_str_rstrip F.type_str_rstrip mt_rstrip1 ho he hs hbase hline
def rIsalpha:V→List V→Hp→VK→Prop:=fun x xs H Q=>∃ a,x = .str a∧xs = []∧True∧Q (.bl (Txt.isalpha a)) H
theorem pe_isalpha {apos pos:Pos} (ho:PE X o to) (hbase:attributeBase o "isalpha" X.env (eval o X.env) = eval o X.env:=by rfl) (hline:(apos.endLine == pos.line) = true:=by rfl) :
  PE X (.Call (.Attribute o "isalpha" apos) [] [] pos) (tM0 rIsalpha to) :=
 pe_m0 F.slot_str_isalpha F.type_str_isalpha mt_isalpha ho hbase hline
def tF3 (a b:Str) (tn:TE):TE:=fun σ H Q=>tn σ H fun x H1=>∃ i:Int,x = .int i∧i.natAbs.log2 < 1920∧a.length + (Str.ofString (toString i)).length + b.length≤sizeLine∧Q (.str (a ++ Str.ofString (toString i) ++ b)) H1
theorem empty_app (a:Str):Str.empty ++ a = a:=TL.ext_tl (by rw [TL.tl_append]; rfl)
theorem pe_f3 {a b:Str} {n:Expr} {tn:TE} {ja jb:Nat} {pa pb pf pos:Pos} (hn:PE X n tn) (hz0:a.length≤sizeLine:=by decide) :
  PE X (.JoinedStr [.Constant (.str a) ja pa,.FormattedValue n (-1) none pf,.Constant (.str b) jb pb] pos) (tF3 a b tn):=by
 intro pins s σ H Q I h
 refine wpAny_JoinedStr ?_
 have el:∀ x y:Str,(x ++ y).length = x.length + y.length:=fun x y=>strLen_append x y
 refine Calls.Constant_str ⟨a,_,rfl,?_,?_⟩
 · rw [empty_app]
   exact hz0
 · refine wpAny_FormattedValue_plain (thn (hn pins _ σ H _ (I.tok _) h) fun v s1 ⟨x,H1,I1,r1,i,ex,hl,hz,q⟩=>?_)
   subst ex
   obtain ⟨t,rfl⟩:=r1
   refine wpAny_formatField_int hl ⟨_,_,rfl,?_,?_⟩
   · rw [empty_app,el]
     have:(toString i:Str) = Str.ofString (toString i):=rfl
     rw [this]; omega
   · refine Calls.Constant_str ⟨b,_,rfl,?_,?_,?_⟩
     · rw [empty_app,el,el]
       have:(toString i:Str) = Str.ofString (toString i):=rfl
       rw [this]; omega
     · rw [empty_app,el,el]
       have:(toString i:Str) = Str.ofString (toString i):=rfl
       rw [this]; omega
     · refine ⟨.str _,H1,I1.tok _,⟨_,rfl⟩,?_⟩
       rw [empty_app]
       exact q
def isStar:Expr→Bool
 | .Starred ..=>true
 | _=>false
theorem star_cons {e:Expr} {es:List Expr} {env:Env} (h:isStar e = false):starEach (e :: es) env = (false,eval e env) :: starEach es env:=by
 cases e <;> first | rfl | exact absurd (show true = false from h) Bool.noConfusion
theorem pa_c {es:List Expr} {t:TA} (ha:PE X e te) (hr:PA X es t) (h:isStar e = false:=by rfl):PA X (e :: es) (tCons te t):=pa_cons ha hr (star_cons h)
theorem pa_1 {e1:Expr} {t1:TE} (h1:PE X e1 t1) (s1:isStar e1 = false:=by rfl):PA X [e1] (tCons t1 tNil):=(pa_c h1 pa_nil s1)
theorem pa_2 {e1 e2:Expr} {t1 t2:TE} (h1:PE X e1 t1) (h2:PE X e2 t2) (s1:isStar e1 = false:=by rfl) (s2:isStar e2 = false:=by rfl):PA X [e1,e2] (tCons t1 (tCons t2 tNil)):=(pa_c h1 (pa_c h2 pa_nil s2) s1)
theorem pa_3 {e1 e2 e3:Expr} {t1 t2 t3:TE} (h1:PE X e1 t1) (h2:PE X e2 t2) (h3:PE X e3 t3) (s1:isStar e1 = false:=by rfl) (s2:isStar e2 = false:=by rfl) (s3:isStar e3 = false:=by rfl):PA X [e1,e2,e3] (tCons t1 (tCons t2 (tCons t3 tNil))):=(pa_c h1 (pa_c h2 (pa_c h3 pa_nil s3) s2) s1)
theorem pa_4 {e1 e2 e3 e4:Expr} {t1 t2 t3 t4:TE} (h1:PE X e1 t1) (h2:PE X e2 t2) (h3:PE X e3 t3) (h4:PE X e4 t4) (s1:isStar e1 = false:=by rfl) (s2:isStar e2 = false:=by rfl) (s3:isStar e3 = false:=by rfl) (s4:isStar e4 = false:=by rfl):PA X [e1,e2,e3,e4] (tCons t1 (tCons t2 (tCons t3 (tCons t4 tNil)))):=(pa_c h1 (pa_c h2 (pa_c h3 (pa_c h4 pa_nil s4) s3) s2) s1)
theorem pa_5 {e1 e2 e3 e4 e5:Expr} {t1 t2 t3 t4 t5:TE} (h1:PE X e1 t1) (h2:PE X e2 t2) (h3:PE X e3 t3) (h4:PE X e4 t4) (h5:PE X e5 t5) (s1:isStar e1 = false:=by rfl) (s2:isStar e2 = false:=by rfl) (s3:isStar e3 = false:=by rfl) (s4:isStar e4 = false:=by rfl) (s5:isStar e5 = false:=by rfl):PA X [e1,e2,e3,e4,e5] (tCons t1 (tCons t2 (tCons t3 (tCons t4 (tCons t5 tNil))))):=(pa_c h1 (pa_c h2 (pa_c h3 (pa_c h4 (pa_c h5 pa_nil s5) s4) s3) s2) s1)
theorem for_it {J:It} {n:Nat} {g:TG} {tb:TS} {D:Ends} {σ:St} {H:Hp} (Pv:Nat→St→Hp→Prop) (h0:Pv 0 σ H) (hgo:∀ i σ H,i < n→Pv i σ H→J.go i H) (hst:∀ σ H,Pv n σ H→J.stop n H)
  (hs:∀ i x σ H H',i < n→Pv i σ H→J.yld i H x H'→g x σ H' fun σ2 H2=>tb { D with nx:=Pv (i + 1),ct:=Pv (i + 1),bk:=D.nx } σ2 H2) (hd:∀ σ H,Pv n σ H→D.nx σ H) :
  ∃ W:Nat→Nat→St→Hp→Prop,(∃ m,W 0 m σ H)∧∀ i m σ H,W i m σ H →
    (J.stop i H∧D.nx σ H)∨(J.go i H∧∃ N:St→Hp→Prop,(∀ σ' H',N σ' H'→∃ m',m' < m∧W (i + 1) m' σ' H')∧∀ x H',J.yld i H x H'→g x σ H' fun σ2 H2=>tb { D with nx:=N,ct:=N,bk:=D.nx } σ2 H2):=by
 refine ⟨fun i m σ H=>m = n - i∧i≤n∧Pv i σ H,⟨n,by simp,Nat.zero_le _,h0⟩,?_⟩
 rintro i m σ H ⟨rfl,hi,p⟩
 by_cases hlt:i < n
 · exact .inr ⟨hgo i σ H hlt p,Pv (i + 1),fun σ' H' p'=>⟨n - (i + 1),by omega,rfl,hlt,p'⟩,fun x H' y=>hs i x σ H H' hlt p y⟩
 · obtain rfl:i = n:=by omega
   exact .inl ⟨hst σ H p,hd σ H p⟩
theorem lc_it {J:It} {n:Nat} {g:TG} {tt:TT} {te:TE} {vs:List Nat} {σ:St} {H1:Hp} {D:Addr} {Qd:Hp→Prop} (Pv:Nat→Hp→Prop) (h0:Pv 0 (upd H1 D (.lst []))) (hgo:∀ i H,i < n→Pv i H→J.go i H) (hst:∀ H,Pv n H→J.stop n H)
  (hs:∀ i x H H',i < n→Pv i H→J.yld i H x H'→g x (wipe σ vs) H' fun σ2 H2=>wipe σ2 vs = wipe σ vs∧tt σ2 H2 fun b H3 =>
   if b = true then te σ2 H3 fun y H4=>∃ acc,H4 D = some (.lst acc)∧acc.length < sizeLine∧Pv (i + 1) (upd H4 D (.lst (acc ++ [y]))) else Pv (i + 1) H3) (hd:∀ H,Pv n H→Qd H) :
  ∃ W:Nat→Nat→Hp→Prop,(∃ m,W 0 m (upd H1 D (.lst [])))∧∀ i m H,W i m H →
    (J.stop i H∧Qd H)∨(J.go i H∧∃ Nx:Hp→Prop,(∀ H',Nx H'→∃ m',m' < m∧W (i + 1) m' H')∧∀ x H',J.yld i H x H'→g x (wipe σ vs) H' fun σ2 H2=>wipe σ2 vs = wipe σ vs∧tt σ2 H2 fun b H3 =>
     if b = true then te σ2 H3 fun y H4=>∃ acc,H4 D = some (.lst acc)∧acc.length < sizeLine∧Nx (upd H4 D (.lst (acc ++ [y]))) else Nx H3):=by
 refine ⟨fun i m H=>m = n - i∧i≤n∧Pv i H,⟨n,by simp,Nat.zero_le _,h0⟩,?_⟩
 rintro i m H ⟨rfl,hi,p⟩
 by_cases hlt:i < n
 · exact .inr ⟨hgo i H hlt p,Pv (i + 1),fun H' p'=>⟨n - (i + 1),by omega,rfl,hlt,p'⟩,fun x H' y=>hs i x H H' hlt p y⟩
 · obtain rfl:i = n:=by omega
   exact .inl ⟨hst H p,hd H p⟩
end
end L2
namespace L2
open PySem PySem.Spec PyProof.Rows
section
variable {X:Cx} {pins:List (Addr × Obj)} {σ:St} {H:Hp} {s:Shared} {h':Heap} {a:Addr}
structure Own (X:Cx) (pins:List (Addr × Obj)) (a:Addr):Prop where
 loc:a≠X.env.locals
 sz:X.s_0.heap.objs.size≤a
 cel:∀ x c,X.env.cells.lookup x = some c→c≠a
 pin:∀ p∈X.pn ++ pins,p.1≠a
 stk:a ∉ frs X.stack
theorem Own.of (I:Inv X pins σ H s) (h:s.heap.objs.size≤a):Own X pins a:=by
 refine ⟨Nat.ne_of_gt (Nat.lt_of_lt_of_le I.lt h),Nat.le_trans I.sz h,fun x c e=>?_,fun p hp=>Nat.ne_of_lt (Nat.lt_of_lt_of_le (Heap.lt_size (I.pin p hp).1) h),fun hb=>?_⟩
 · obtain ⟨v,o,ho,_⟩:=I.cell x c e
   exact Nat.ne_of_lt (Nat.lt_of_lt_of_le (Heap.lt_size ho) h)
 · rcases List.mem_cons.mp (I.stkSub _ hb) with e | hb
   · have:=I.lt
     rw [← e] at this
     exact absurd this (Nat.not_lt.mpr h)
   · exact I.nofs h hb
theorem track (I:Inv X pins σ H s) (O:Own X pins a) (hn:H a = none) (k:∀ b o,b≠a→s.heap.get? b = some o→h'.get? b = some o) {xs:List V} {its:List Value} {n t':Nat} (hz:xs.length≤sizeLine) (r:Vals xs its)
  (hg:h'.get? a = some { cls:=.type "list",data:=.seq its.toArray n }):Inv X pins σ (upd H a (.lst xs)) { s with heap:=h',toks:=t' }:=by
 have ne:∀ b u,H b = some u→b≠a:=fun b u e z=>by rw [z,hn] at e; cases e
 refine I.step (g':=s.gens) (d':=s.drawn) (ch:=[a]) (fun b hb=>?_) (fun b o _ _ hc e _=>k b o (fun z=>hc (by simp [z])) e) (fun b o _ _ hc e _=>⟨o.slots,k b o (fun z=>hc (by simp [z])) e⟩)
  (fun b o hc e n=>by rw [upd_ne (fun z=>hc (by simp [z]))]; exact n) (fun b o hc e=>⟨o,k b o (fun z=>hc (by simp [z])) e⟩) (fun b xs e=>by rw [upd_ne (ne b _ e)]; exact e) (fun b o u e=>by rw [upd_ne (ne b _ e)]; exact e)
  (fun b ps e=>⟨#[],by rw [upd_ne (ne b _ e),e]; simp⟩) (fun m hm=>?_) (fun b u e=>?_) I.bare
 · have e:b = a:=by simpa using hb
   subst e
   exact ⟨.inr O.sz,O.loc,O.cel,O.pin⟩
 · obtain ⟨o,es,ep,ho,r⟩:=hm
   exact ⟨o,es,ep,k _ o (Ne.symm O.loc) ho,r⟩
 · by_cases hb:b = a
   · subst hb
     rw [upd_same] at e
     cases e
     exact ⟨hz,its,n,r,hg⟩
   · rw [upd_ne hb] at e
     refine (I.hok b u e).stay (fun c v hc q=>k c v ?_ q) (fun c q=>by rw [upd_ne (ne c _ q)]; exact q) fun c xs q=>by rw [upd_ne (ne c _ q)]; exact q
     rcases hc with z | z
     · rw [z]; exact ne b u e
     · exact ne c _ z
theorem Paired.perm {α β:Type} {R:α→β→Prop} {l1 l2:List α} (p:l1.Perm l2):∀ {m2:List β},Paired R l2 m2→∃ m1,m1.Perm m2∧Paired R l1 m1:=by
 induction p with
 | nil=>exact fun h=>⟨_,.refl _,h⟩
 | cons x _ ih =>
   intro m2 h
   cases h with
   | cons r t =>
     obtain ⟨m1,q1,q2⟩:=ih t
     exact ⟨_ :: m1,q1.cons _,.cons r q2⟩
 | swap x y l =>
   intro m2 h
   cases h with
   | cons r t =>
     cases t with
     | cons r' t'=>exact ⟨_,.swap _ _ _,.cons r' (.cons r t')⟩
 | trans _ _ ih1 ih2 =>
   intro m2 h
   obtain ⟨m1,q1,q2⟩:=ih2 h
   obtain ⟨m0,q3,q4⟩:=ih1 q2
   exact ⟨m0,q3.trans q1,q4⟩
theorem Paired.mem {α β:Type} {R:α→β→Prop}:∀ {l:List α} {m:List β},Paired R l m→∀ y∈m,∃ x∈l,R x y
 | _,_,.nil,y,h=>by simp at h
 | _,_,.cons r t,y,h=>by
   rcases List.mem_cons.mp h with rfl | h
   · exact ⟨_,List.mem_cons_self ..,r⟩
   · obtain ⟨x,h1,h2⟩:=Paired.mem t y h
     exact ⟨x,List.mem_cons_of_mem _ h1,h2⟩
theorem Paired.ordered {α β:Type} {R:α→β→Prop} {S:α→α→Prop} {S':β→β→Prop} (f:∀ p q p' q',R p p'→R q q'→S p q→S' p' q'):∀ {l:List α} {m:List β},Paired R l m→l.Pairwise S→m.Pairwise S'
 | _,_,.nil,_=>.nil
 | _,_,.cons r t,h=>by
   obtain ⟨h1,h2⟩:=List.pairwise_cons.mp h
   refine List.pairwise_cons.mpr ⟨fun y hy=>?_,Paired.ordered f t h2⟩
   obtain ⟨x,hx,rx⟩:=Paired.mem t y hy
   exact f _ _ _ _ r rx (h1 x hx)
theorem Paired.zipped {α β γ δ:Type} {R:α→β→Prop} {S:γ→δ→Prop}:∀ {a:List α} {b:List β} {c:List γ} {d:List δ},Paired R a b→Paired S c d→Paired (fun (p:α × γ) (q:β × δ)=>R p.1 q.1∧S p.2 q.2) (a.zip c) (b.zip d)
 | _,_,_,_,.nil,_=>by simp; exact .nil
 | _,_,_,_,.cons _ _,.nil=>by simp; exact .nil
 | _,_,_,_,.cons r t,.cons r' t'=>.cons ⟨r,r'⟩ (Paired.zipped t t')
theorem Paired.snoc {α β:Type} {R:α→β→Prop} {x:α} {y:β} (h:R x y):∀ {l:List α} {m:List β},Paired R l m→Paired R (l ++ [x]) (m ++ [y])
 | _,_,.nil=>.cons h .nil
 | _,_,.cons r t=>.cons r (Paired.snoc h t)
theorem Paired.len {α β:Type} {R:α→β→Prop}:∀ {l:List α} {m:List β},Paired R l m→l.length = m.length
 | _,_,.nil=>rfl
 | _,_,.cons _ t=>by rw [List.length_cons,List.length_cons,Paired.len t]
theorem Paired.flip {α β:Type} {R:α→β→Prop}:∀ {l:List α} {m:List β},Paired R l m→Paired (fun y x=>R x y) m l
 | _,_,.nil=>.nil
 | _,_,.cons r t=>.cons r (Paired.flip t)
def sh0:Nat→Bool:=fun _=>false
theorem items0:∀ {k:List Int} {us:List Value} (i:Nat),Vals (k.map V.int) us→tupItems sh0 i us = some (k.map Sum.inl)
 | [],_,i,.nil=>by cases i <;> rfl
 | n :: k,_,i,.cons r t=>by
   obtain ⟨t',rfl⟩:=r
   show (if sh0 i = true then none else (tupItems sh0 (i + 1) _).map (Sum.inl n :: ·)) = _
   rw [items0 (i + 1) t,if_neg (by simp [sh0])]
   rfl
def kle (a b:List Int):Prop:=PyProof.Rows.lexLt itemOrd (b.map Sum.inl) (a.map Sum.inl) = false
def KeyAt (H:Hp) (u:Value) (k:List Int):Prop:=∃ t,u = .ref t∧H t = some (.tup (k.map V.int))
theorem KeyAt.mono {H H':Hp} {u:Value} {k:List Int} (e:Same H H') (h:KeyAt H u k):KeyAt H' u k:=let ⟨t,h1,h2⟩:=h; ⟨t,h1,e _ _ h2⟩
theorem keyAt_obj {P:Program} {w:World} {h:Heap} {u:Value} {k:List Int} (ok:HOk P w H h) (q:KeyAt H u k):∃ (t:Addr) (o:Obj) (us:List Value) (n:Nat),u = .ref t∧h.get? t = some o∧o.cls = .type "tuple"∧o.data = .seq us.toArray n∧Vals (k.map V.int) us:=by
 obtain ⟨t,rfl,ht⟩:=q
 obtain ⟨_,us,rv,o,ho,hc,n,hd⟩:=ok t _ ht
 exact ⟨t,o,us,n,rfl,ho,hc,hd,rv⟩
theorem keyAt_key {P:Program} {w:World} {h:Heap} {u:Value} {k:List Int} (ok:HOk P w H h) (q:KeyAt H u k):G.tupKeyC h sh0 u = some (k.map Sum.inl):=by
 obtain ⟨t,o,us,n,rfl,ho,hc,hd,rv⟩:=keyAt_obj ok q
 exact G.tupKeyC_of ho hc hd (by simpa using items0 0 rv)
theorem keys_tups {P:Program} {w:World} {h:Heap} (ok:HOk P w H h):∀ {us:List Value} {ks:List (List Int)},Paired (KeyAt H) us ks→(∀ k∈ks,k≠[])→∃ fs,TupsOf h sh0 us fs∧fs.length = us.length
 | _,_,.nil,_=>⟨[],.nil,rfl⟩
 | _,_,.cons (b:=k) r t,hne=>by
   obtain ⟨fs,h1,h2⟩:=keys_tups ok t fun k hk=>hne k (List.mem_cons_of_mem _ hk)
   obtain ⟨t,o,vs,n,rfl,ho,hc,hd,rv⟩:=keyAt_obj ok r
   have hk:=hne k (List.mem_cons_self ..)
   match k,hk,rv with
   | i :: k,_,rv =>
     cases rv with
     | cons r1 r2 =>
       obtain ⟨t1,rfl⟩:=r1
       exact ⟨.int i t1 :: fs,.cons ⟨t,o,_,n,rfl,ho,hc,hd,by simp,fun _=>⟨_,_,rfl⟩,fun z=>absurd z (by simp [sh0])⟩ h1,by simp [h2]⟩
variable {k:Nat} {f:Addr} {fd:FuncData} {p1:Str} {sp:Sp}
theorem key_run (F:FnOk X.prog X.w X.K X.mg X.base CX0 k f fd [p1] sp) (hr:Room k X.A.in1.in1) (hb:Binds X.K fd [p1] []) (I:Inv X pins σ H s) {u:Value} {x:V} (r:RelV x u) {Q:VK} (h:sp [x] H Q E0) :
  wpAny (model X.prog X.w) X.A.in1.in1 (call (.ref f) [u]) (fun v s'=>CE X.stack X.prog X.w H s Q v s') (fun _ _=>False) s:=by
 have r2:Vals [x] [u]:=.cons r .nil
 refine wpAny_call (codeAny_mono (F.run X.A.in1.in1 X.stack s H ⟨[u],[]⟩ [u] [x] Q E0 hr I.env0.in1.in1 (hb s [u] I.kIn rfl) r2 h) fun r s' hq=>?_)
 cases r with
 | error e=>exact False.elim hq
 | ok fl =>
   cases fl with
   | ret u=>exact hq
   | next=>exact False.elim hq
   | brk=>exact False.elim hq
   | cont=>exact False.elim hq
def Turns (sp:Sp) (H:Hp) (xs:List V) (ks:List (List Int)):Prop :=
 ∀ (i:Nat) (x:V) (k:List Int),xs[i]? = some x→ks[i]? = some k→∀ H1,Same H H1→sp [x] H1 (fun v H2=>Same H1 H2∧∃ t,v = .ref t∧H2 t = some (.tup (k.map V.int))) E0
variable {its:List Value} {xs:List V} {ks:List (List Int)} {kS:Addr} {e1:Nat} {E:Value→Shared→Prop} {P:PySem.Fin→Shared→Prop}
theorem sort_tail {H1:Hp} {A:Around} {keys:Array Value} {e:Nat} {st:SortSt} (I:Inv X pins σ H1 s) (Oa:Own X pins a) (Ok:Own X pins kS) (na:H1 a = none) (nk:H1 kS = none) (hka:kS≠a)
  (ha:s.heap.get? a = some (seqObj "list" #[] e1)) (hk:s.heap.get? kS = some (seqObj "list" keys e)) (rv:Vals xs its) (hz:xs.length≤sizeLine) (hK:Paired (KeyAt H1) keys.toList ks)
  (hlen:ks.length = xs.length) (hp:(arrOf st).Perm (keys.zip its.toArray)) (hs:SortedToK (G.tupKindC s.heap sh0) (arrOf st) (arrOf st).size) (hf:failedOf st = none) (hsame:Same H H1)
  (fin:∀ (ps:List (List Int × V)) (H':Hp) (s':Shared),ps.Perm (ks.zip xs)→ps.Pairwise (fun p q=>kle p.1 q.1)→Same H H'→H' a = none→Inv X pins σ (upd H' a (.lst (ps.map Prod.snd))) s'→P (.done (.ret .none)) s') :
  wpAny (model X.prog X.w) A (ksk_tail a false e1 (.ref kS) st) P E s:=by
 have hzl:=rv.length
 have hkl:=Paired.len hK
 have hZ2:=hz
 rw [sizeLine_eq] at hZ2
 have hsz:keys.size = its.length:=by
  rw [Array.length_toList] at hkl
  omega
 have hsz2:(arrOf st).size = its.length:=by rw [hp.size_eq,Array.size_zip,hsz,List.size_toArray,Nat.min_self]
 have s1:=Heap.SameBut.update s.heap kS (Obj.mapSeq fun _=>(#[]:Array Value))
 have ha1:(s.heap.update kS (Obj.mapSeq fun _=>(#[]:Array Value))).get? a = some (seqObj "list" #[] e1):=(s1.2 a hka.symm).trans ha
 have s2:=Heap.SameBut.update (s.heap.update kS (Obj.mapSeq fun _=>(#[]:Array Value))) a (Obj.mapSeq fun _=>(arrOf st).map (·.2))
 obtain ⟨c2,hc2⟩:∃ c2,((s.heap.update kS (Obj.mapSeq fun _=>(#[]:Array Value))).update a (Obj.mapSeq fun _=>(arrOf st).map (·.2))).get? a = some (seqObj "list" ((arrOf st).map (·.2)) c2) :=
  ⟨_,get?_update_seq ha1 fun _=>(arrOf st).map (·.2)⟩
 have I1:Inv X pins σ H1 { s with heap:=s.heap.update kS (Obj.mapSeq fun _=>(#[]:Array Value)) }:=I.turned (t':=s.toks) (fun b o hb e=>(s1.2 b hb).trans e) nk Ok.loc (.inr Ok.sz) Ok.cel Ok.pin
 have hl:(arrOf st).toList.Perm (keys.toList.zip its):=by rw [← ksk_zip]; exact Array.perm_iff_toList_perm.mp hp
 have hz0:Paired (fun (p:Keyed) (q:List Int × V)=>KeyAt H1 p.1 q.1∧RelV q.2 p.2) (keys.toList.zip its) (ks.zip xs):=Paired.zipped hK (Paired.flip rv)
 obtain ⟨ps,hps,hpr⟩:=Paired.perm hl hz0
 have hkeys:KeysOf (G.tupKindC s.heap sh0) (arrOf st):=fun p hpm=>by
  obtain ⟨q,_,hq⟩:=Paired.mem (Paired.flip hpr) p hpm
  exact ⟨_,keyAt_key I.hok hq.1⟩
 have hord:=keyLe_of_sorted hkeys hs
 have hpo:ps.Pairwise (fun p q=>kle p.1 q.1):=Paired.ordered (fun p q p' q' r1 r2 h=>by
  obtain ⟨x,y,e1,e2,h⟩:=h
  have e1':G.tupKeyC s.heap sh0 p.1 = some x:=e1
  have e2':G.tupKeyC s.heap sh0 q.1 = some y:=e2
  rw [keyAt_key I.hok r1.1] at e1'
  rw [keyAt_key I.hok r2.1] at e2'
  cases e1'
  cases e2'
  exact h) hpr hord
 have hvals:Vals (ps.map Prod.snd) ((arrOf st).toList.map (·.2)):=by
  have:∀ {l:List Keyed} {m:List (List Int × V)},Paired (fun (p:Keyed) (q:List Int × V)=>KeyAt H1 p.1 q.1∧RelV q.2 p.2) l m→Vals (m.map Prod.snd) (l.map (·.2)):=by
   intro l m h
   induction h with
   | nil=>exact .nil
   | cons r _ ih=>exact .cons r.2 ih
  exact this hpr
 have hpl:(ps.map Prod.snd).length≤sizeLine:=by
  rw [List.length_map,hps.length_eq,List.length_zip]
  omega
 unfold ksk_tail
 try dsimp only
 refine wpAny_bind (listUpdate_at hk rfl ?_ (by rw [hsz,sizeLine_eq]; omega) (Nat.zero_le _))
 refine wpAny_bind (wpAny_letGo ?_)
 refine wpAny_bind (seqEpoch_at ha1 rfl ?_)
 refine wpAny_bind (listUpdate_at ha1 rfl ?_ (Nat.zero_le _) (by
  show ((arrOf st).map (·.2)).size≤_
  rw [Array.size_map,hsz2,sizeLine_eq]
  omega))
 rw [hf]
 simp only [bne_self_eq_false,Bool.false_eq_true,if_false]
 refine wpAny_pure (fin ps H1 _ hps hpo hsame na ?_)
 exact track (t':=s.toks) I1 Oa na (fun b o hb e=>(s2.2 b hb).trans e) hpl (its:=(arrOf st).toList.map (·.2)) hvals (n:=c2) (by
  have earr:(arrOf st).map (·.2) = ((arrOf st).toList.map (·.2)).toArray:=Array.toList_inj.mp (by simp)
  rw [hc2,earr])
theorem sort_end {H1:Hp} {A:Around} {keys:Array Value} {e:Nat} (I:Inv X pins σ H1 s) (Oa:Own X pins a) (Ok:Own X pins kS) (na:H1 a = none) (nk:H1 kS = none) (hka:kS≠a)
  (ha:s.heap.get? a = some (seqObj "list" #[] e1)) (hk:s.heap.get? kS = some (seqObj "list" keys e)) (rv:Vals xs its) (hz:xs.length≤sizeLine) (hK:Paired (KeyAt H1) keys.toList ks)
  (hlen:ks.length = xs.length) (hne:∀ k∈ks,k≠[]) (hsame:Same H H1)
  (fin:∀ (ps:List (List Int × V)) (H':Hp) (s':Shared),ps.Perm (ks.zip xs)→ps.Pairwise (fun p q=>kle p.1 q.1)→Same H H'→H' a = none→Inv X pins σ (upd H' a (.lst (ps.map Prod.snd))) s'→P (.done (.ret .none)) s') :
  wpAny (model X.prog X.w) A (ksk_end a false its.toArray e1 (.ref kS) keys) P E s:=by
 have hzl:=rv.length
 have hkl:=Paired.len hK
 have hsz:keys.size = its.length:=by
  rw [Array.length_toList] at hkl
  omega
 have hzs:(keys.zip its.toArray).size = its.length:=by rw [Array.size_zip,hsz,List.size_toArray,Nat.min_self]
 unfold ksk_end
 try dsimp only
 simp only [Bool.false_eq_true,if_false]
 by_cases h2:its.toArray.size < 2
 · rw [if_pos h2,if_pos h2]
   refine wpAny_bind (wpAny_pure ?_)
   rw [StateT.run_pure]
   refine wpAny_bind (wpAny_pure ?_)
   try dsimp only
   refine sort_tail (st:=SortSt.mk' general' (keys.zip its.toArray) #[] 7 none) I Oa Ok na nk hka ha hk rv hz hK hlen (Array.Perm.refl _) ?_ rfl hsame fin
   intro i j hij hj
   have hj2:j < (keys.zip its.toArray).size:=hj
   rw [hzs] at hj2
   rw [List.size_toArray] at h2
   have:i = j:=by omega
   subst this
   exact KeyOrd.kle_refl _
 · rw [if_neg h2,if_neg h2]
   rw [List.size_toArray] at h2
   obtain ⟨fs,ht,hfl⟩:=keys_tups I.hok hK hne
   have hkt:keys = keys.toList.toArray:=by simp
   have hkeys:KeysOf (G.tupKindC s.heap sh0) (keys.zip its.toArray):=fun p hpm=>by
    rw [ksk_zip] at hpm
    have hz0:Paired (fun (p:Keyed) (q:List Int × V)=>KeyAt H1 p.1 q.1∧RelV q.2 p.2) (keys.toList.zip its) (ks.zip xs):=Paired.zipped hK (Paired.flip rv)
    obtain ⟨q,_,hq⟩:=Paired.mem (Paired.flip hz0) p hpm
    exact ⟨_,keyAt_key I.hok hq.1⟩
   refine wpAny_bind ?_
   rw [hkt]
   refine tup_kind (s:=s) (by rw [hfl,Array.length_toList]; omega) ht ?_
   rw [← hkt]
   refine wpAny_bind (wpAny_mono (G.wpS_sortRunsSt (κ:=G.tupKindC s.heap sh0) (kd:=tuples' true) (a₀:=keys.zip its.toArray) (st:=SortSt.mk' (tuples' true) (keys.zip its.toArray) #[] 7 none)
    (Q:=fun _ st'=>(arrOf st').Perm (keys.zip its.toArray)∧failedOf st' = none∧SortedToK (G.tupKindC s.heap sh0) (arrOf st') (keys.zip its.toArray).size)
    (G.tupC_ltAt true (G.KeepsTups.refl _)) hkeys ⟨Array.Perm.refl _,rfl,rfl⟩ rfl (Stable.refl _) (by rw [hzs]; omega) fun st' a1 a2 a3 a4=>⟨a1,a2,a3⟩) ?_ fun _ _ e=>e)
   rintro ⟨⟨⟩,st'⟩ s' ⟨rfl,hp,hf,hs⟩
   try dsimp only
   exact sort_tail I Oa Ok na nk hka ha hk rv hz hK hlen hp (by rw [hp.size_eq]; exact hs) hf hsame fin
theorem sort_rest (F:FnOk X.prog X.w X.K X.mg X.base CX0 k f fd [p1] sp) (hr:Room k X.A.in1.in1) (hb:Binds X.K fd [p1] []) (I:Inv X pins σ H s) (Oa:Own X pins a) (Ok:Own X pins kS) (na:H a = none) (nk:H kS = none) (hka:kS≠a)
  (ha:s.heap.get? a = some (seqObj "list" #[] e1)) (hk:s.heap.get? kS = some (seqObj "list" #[] 0)) (rv:Vals xs its) (hz:xs.length≤sizeLine) (hlen:ks.length = xs.length) (hne:∀ k∈ks,k≠[]) (turn:Turns sp H xs ks)
  (fin:∀ (ps:List (List Int × V)) (H':Hp) (s':Shared),ps.Perm (ks.zip xs)→ps.Pairwise (fun p q=>kle p.1 q.1)→Same H H'→H' a = none→Inv X pins σ (upd H' a (.lst (ps.map Prod.snd))) s'→P (.done (.ret .none)) s') :
  wpAny (model X.prog X.w) X.A.in1.in1 (ksk_rest a (.ref f) false its.toArray e1 (.ref kS)) P E s:=by
 have hzl:=rv.length
 have hZ2:=hz
 rw [sizeLine_eq] at hZ2
 unfold ksk_rest
 refine wpAny_bind (wpAny_rule ?_)
 first
  | rw [List.forIn_toArray]
  | (rw [← Array.forIn_toList]; simp only [List.toList_toArray])
  | rw [← Array.forIn_toList]
 refine wpAny_bind (ksk_fold (fun i s'=>∃ (H1:Hp) (kA:Array Value) (e:Nat),Inv X pins σ H1 s'∧Same H H1∧H1 a = none∧H1 kS = none∧s'.heap.get? a = some (seqObj "list" #[] e1)∧s'.heap.get? kS = some (seqObj "list" kA e)∧Paired (KeyAt H1) kA.toList (ks.take i)) its 0 s
  ⟨H,#[],0,I,Same.refl H,na,nk,ha,hk,by simpa using Paired.nil⟩ ?step ?done)
 case step =>
  rintro j u s' hu ⟨H1,kA,e,I1,sm,na1,nk1,ha1,hk1,hK⟩
  simp only [Nat.zero_add] at hK ⊢
  have hj:j < its.length:=(List.getElem?_eq_some_iff.mp hu).1
  obtain ⟨x,hx⟩:∃ x,xs[j]? = some x:=⟨_,List.getElem?_eq_getElem (by omega)⟩
  obtain ⟨kk,hkk⟩:∃ kk,ks[j]? = some kk:=⟨_,List.getElem?_eq_getElem (by omega)⟩
  obtain ⟨u',hu',rx⟩:=rv.get hx
  rw [hu] at hu'
  cases hu'
  have hkz:kA.size≤its.length:=by
   have h1:=Paired.len hK
   rw [Array.length_toList,List.length_take] at h1
   omega
  refine wpAny_bind (wpAny_attempt (wpAny_mono (key_run F hr hb I1 rx (turn j x kk hx hkk H1 sm)) (fun v s'' he=>?_) fun _ _ hF=>hF.elim))
  obtain ⟨v',H2,os,bare,un,hok,rl,sm2,t,rfl,ht⟩:=he
  obtain rfl:v = .ref t:=rl
  have I2:Inv X pins σ H2 s'':=I1.call' os un hok bare (fun b z=>absurd z (by simp))
  have ha2:=un.keep a _ ha1 na1 Oa.stk (by simp)
  have hk2:=un.keep kS _ hk1 nk1 Ok.stk (by simp)
  have na2:=un.free a _ ha1 na1 (by simp)
  have nk2:=un.free kS _ hk1 nk1 (by simp)
  try dsimp only
  have s1:=Heap.SameBut.update s''.heap kS (Obj.mapSeq (·.push (.ref t)))
  obtain ⟨c2,hc2⟩:∃ c2,(s''.heap.update kS (Obj.mapSeq (·.push (.ref t)))).get? kS = some (seqObj "list" (kA.push (.ref t)) c2):=⟨_,get?_update_seq hk2 (·.push (.ref t))⟩
  have ek:ks.take (j + 1) = ks.take j ++ [kk]:=by rw [List.take_add_one,hkk]; simp
  have ea:(kA.push (Value.ref t)).toList = kA.toList ++ [Value.ref t]:=by simp
  refine wpAny_bind (listUpdate_at hk2 rfl ?_ (by rw [sizeLine_eq]; omega) (Nat.le_trans (Nat.le_of_eq (Array.size_push ..)) (by rw [sizeLine_eq]; omega)))
  refine wpAny_pure ⟨rfl,H2,kA.push (.ref t),c2,?_,sm.trans sm2,na2,nk2,(s1.2 a hka.symm).trans ha2,hc2,?_⟩
  · exact I2.turned (t':=s''.toks) (fun b o hb e=>(s1.2 b hb).trans e) nk2 Ok.loc (.inr Ok.sz) Ok.cel Ok.pin
  · rw [ea,ek]
    exact Paired.snoc ⟨t,rfl,ht⟩ (Paired.mapP hK fun _ _ q=>q.mono sm2)
 case done =>
  rintro s' ⟨H1,kA,e,I1,sm,na1,nk1,ha1,hk1,hK⟩
  have hK':Paired (KeyAt H1) kA.toList ks:=by
   have e3:ks.take (0 + its.length) = ks:=List.take_of_length_le (by omega)
   rw [e3] at hK
   exact hK
  try dsimp only
  refine wpAny_bind (listItems_at hk1 rfl ?_)
  exact sort_end I1 Oa Ok na1 nk1 hka ha1 hk1 rv hz hK' hlen hne sm fin
theorem sort_tree {n:Nat} (F:FnOk X.prog X.w X.K X.mg X.base CX0 k f fd [p1] sp) (hr:Room k X.A.in1.in1) (hb:Binds X.K fd [p1] []) (I:Inv X pins σ H s) (Oa:Own X pins a) (na:H a = none)
  (ho:s.heap.get? a = some (seqObj "list" its.toArray n)) (rv:Vals xs its) (hz:xs.length≤sizeLine) (hlen:ks.length = xs.length) (hne:∀ k∈ks,k≠[]) (turn:Turns sp H xs ks)
  (fin:∀ (ps:List (List Int × V)) (H':Hp) (s':Shared),ps.Perm (ks.zip xs)→ps.Pairwise (fun p q=>kle p.1 q.1)→Same H H'→H' a = none→Inv X pins σ (upd H' a (.lst (ps.map Prod.snd))) s'→P (.done (.ret .none)) s') :
  wpAny (model X.prog X.w) X.A.in1.in1 (ksk_tree a (.ref f) false) P E s:=by
 have hzl:=rv.length
 have hZ2:=hz
 rw [sizeLine_eq] at hZ2
 have ha:a < s.heap.objs.size:=Heap.lt_size ho
 have s1:=Heap.SameBut.update s.heap a (Obj.mapSeq fun _=>(#[]:Array Value))
 obtain ⟨e1,ho1⟩:∃ e1,(s.heap.update a (Obj.mapSeq fun _=>(#[]:Array Value))).get? a = some (seqObj "list" #[] e1):=⟨_,get?_update_seq ho fun _=>#[]⟩
 have I1:Inv X pins σ H { s with heap:=s.heap.update a (Obj.mapSeq fun _=>(#[]:Array Value)) }:=I.turned (t':=s.toks) (fun b o hb e=>(s1.2 b hb).trans e) na Oa.loc (.inr Oa.sz) Oa.cel Oa.pin
 have hkS:((s.heap.update a (Obj.mapSeq fun _=>(#[]:Array Value))).push (seqObj "tuple" its.toArray 0)).objs.size = s.heap.objs.size + 1:=by rw [size_push',Heap.size_update]
 have kp:∀ b u,(s.heap.update a (Obj.mapSeq fun _=>(#[]:Array Value))).get? b = some u→(((s.heap.update a (Obj.mapSeq fun _=>(#[]:Array Value))).push (seqObj "tuple" its.toArray 0)).push (seqObj "list" #[] 0)).get? b = some u:=fun b u q=>Heap.get?_push_of_some _ (Heap.get?_push_of_some _ q)
 have hsz1:(s.heap.update a (Obj.mapSeq fun _=>(#[]:Array Value))).objs.size = s.heap.objs.size:=Heap.size_update ..
 unfold ksk_tree
 refine wpAny_bind (listItems_at ho rfl ?_)
 refine wpAny_bind (listUpdate_at ho rfl ?_ (by rw [List.size_toArray,sizeLine_eq]; omega) (Nat.zero_le _))
 refine wpAny_bind (seqEpoch_at ho1 rfl ?_)
 refine wpAny_bind (wpAny_newTuple ?_ (by show its.length≤_; rw [sizeLine_eq]; omega))
 refine wpAny_bind (wpAny_newList ?_ (Nat.zero_le _))
 refine wpAny_holding ?_
 refine sort_rest (s:={ s with heap:=((s.heap.update a (Obj.mapSeq fun _=>(#[]:Array Value))).push (seqObj "tuple" its.toArray 0)).push (seqObj "list" #[] 0) }) (kS:=((s.heap.update a (Obj.mapSeq fun _=>(#[]:Array Value))).push (seqObj "tuple" its.toArray 0)).objs.size)
  F hr hb (I1.kept (t':=s.toks) kp) Oa (Own.of I (by rw [hkS]; omega)) na (I.hok.fresh (by rw [hkS]; omega)) (by rw [hkS]; exact Nat.ne_of_gt (Nat.lt_succ_of_lt ha)) (kp _ _ ho1) (Heap.get?_push_size _ rfl) rv hz hlen hne turn fin
def rSortK (K:PySem.W.Frag) (sp:Sp):V→Hp→VK→Prop:=fun x H Q=>∃ (l:Addr) (xs:List V) (ks:List (List Int)),x = .ref l∧SqL K H l xs∧ks.length = xs.length∧(∀ k∈ks,k≠[])∧Turns sp H xs ks ∧
 ∀ (ps:List (List Int × V)) (D:Addr) (H':Hp),ps.Perm (ks.zip xs)→ps.Pairwise (fun p q=>kle p.1 q.1)→Same H H'→H' D = none→Q (.ref D) (upd H' D (.lst (ps.map Prod.snd)))
theorem call_sortK {Q:VK} {x:V} {u:Value} (F:FnOk X.prog X.w X.K X.mg X.base CX0 k f fd [p1] sp) (hr:Room (k + 2) X.A) (hb:Binds X.K fd [p1] []) (I:Inv X pins σ H s) (r:RelV x u) (h:rSortK X.K sp x H Q) :
  wpAny (model X.prog X.w) X.A (call (.builtin "sorted") [u] [(Str.ofString "key",.ref f)]) (EP X pins σ Q) X.xe s:=by
 obtain ⟨l,xs,ks,rfl,hS,hlen,hne,turn,fin⟩:=h
 obtain rfl:u = .ref l:=r
 obtain ⟨its,rv,⟨o,n,ho,hc,hd,hs⟩,hz⟩:=I.list hS
 have hl:s.heap.IsList l its.toArray:=⟨o,ho,hc,n,hs⟩
 have hzl:=rv.length
 have hZ2:=hz
 rw [sizeLine_eq] at hZ2
 refine call_function_entry_kw kind_sorted plain_sorted entry_sorted (ksk_s1 _ _) ?_
 unfold Builtin.«sorted»
 refine wpAny_bind (m:=checkCount "sorted" 1 1 _) (wpAny_pure ?_)
 refine wpAny_bind (collect_list hl ?_ (by rw [sizeLine_eq]; omega))
 refine wpAny_bind (wpAny_newList ?_ (by rw [sizeLine_eq]; omega))
 have hsz:((s.heap.push (seqObj "list" #[] 0)).update s.heap.objs.size (Obj.mapSeq (· ++ its.toArray))).objs.size = s.heap.objs.size + 1:=by
  rw [Heap.size_update,size_push']
 have hoL:(((s.heap.push (seqObj "list" #[] 0)).update s.heap.objs.size (Obj.mapSeq (· ++ its.toArray))).push (seqObj "list" its.toArray 0)).get? (s.heap.objs.size + 1) = some (seqObj "list" its.toArray 0):=by
  rw [← hsz]; exact Heap.get?_push_size _ rfl
 have keep:∀ b o,s.heap.get? b = some o→(((s.heap.push (seqObj "list" #[] 0)).update s.heap.objs.size (Obj.mapSeq (· ++ its.toArray))).push (seqObj "list" its.toArray 0)).get? b = some o:=fun b o q=>by
  have hlt:b < s.heap.objs.size:=Heap.lt_size q
  rw [Heap.get?_push_ne _ _ _ (by rw [hsz]; exact Nat.ne_of_lt (Nat.lt_succ_of_lt hlt)),Heap.get?_update_ne _ _ _ _ (Nat.ne_of_lt hlt),Heap.get?_push_ne _ _ _ (Nat.ne_of_lt hlt)]
  exact q
 show wpAny _ _ _ _ _ { s with heap:=((s.heap.push (seqObj "list" #[] 0)).update s.heap.objs.size (Obj.mapSeq (· ++ its.toArray))).push (seqObj "list" its.toArray 0) }
 rw [hsz]
 refine wpAny_bind (wpAny_holding (wpAny_call_entry_kw slot_list_sort ⟨_,hoL,rfl⟩ entry_list_sort ?body (ksk_l1 _ _)))
 case body =>
  show wpAny (model X.prog X.w) X.A.in1.in1 (Builtin.«list.sort» ⟨[.ref (s.heap.objs.size + 1)],[(Str.ofString "key",.ref f)]⟩) _ _ _
  rw [ksk_t1]
  refine sort_tree (s:={ s with heap:=((s.heap.push (seqObj "list" #[] 0)).update s.heap.objs.size (Obj.mapSeq (· ++ its.toArray))).push (seqObj "list" its.toArray 0) })
   F hr.in1.in1 hb (I.kept (t':=s.toks) keep) (Own.of I (Nat.le_succ _)) (I.hok.fresh (Nat.le_succ _)) hoL rv hz hlen hne turn fun ps H' s' h1 h2 h3 h4 I'=>⟨_,rfl,?_⟩
  exact wpAny_pure ⟨_,rfl,⟨.ref _,_,I',rfl,fin ps _ H' h1 h2 h3 h4⟩⟩
def tSortK (K:PySem.W.Frag) (sp:Sp) (te:TE):TE:=fun σ H Q=>te σ H fun x H1=>rSortK K sp x H1 Q
theorem pe_sortK {e:Expr} {te:TE} {g:Str} {p q kpos pos:Pos} (F:FnOk X.prog X.w X.K X.mg X.base CX0 k f fd [p1] sp) (hr:Room (k + 2) X.A) (hb:Binds X.K fd [p1] []) (he:PE X e te)
  (hg:Gl X "sorted") (hm:X.mg "sorted" = none) (hgk:Gl X g) (hmk:X.mg g = some (.ref f)) (hdk:(g == ("__debug__":Str)) = false:=by decide)
  (hs:backTo pos (starEach [e] X.env) = (false,eval e X.env) :: backTo pos (starEach [] X.env):=by rfl) (hpl:(backTo pos (starEach [e] X.env)).any (·.1) = false:=by rfl) :
  PE X (.Call (.Name "sorted" p) [e] [⟨some "key",.Name g q,kpos⟩] pos) (tSortK X.K sp te):=by
 intro pins s σ H Q I h
 refine wpAny_Call_Name_kw (ld_blt I hg hm boot_sorted ?_)
 refine callWith_kw ?_ hs hpl
 rw [hs]
 refine Calls.spliced_cons (thn (he pins s σ H _ I h) fun u s1 ⟨x,H1,I1,r1,q1⟩=>Calls.spliced_nil ?_)
 refine kws_cons (ld_glob I1 hgk hmk (kws_nil ?_) hdk)
 exact call_sortK F hr hb I1 r1 q1
end
end L2
namespace L2
open PySem PySem.Spec PyProof.Rows
section
variable {prog:Program} {w:World} {A:Around} {E:Value→Shared→Prop} {s:Shared}
def RawD (h:Heap) (d:Addr) (es:Array DictEntry) (ep:Nat):Prop:=∃ o,h.get? d = some o∧o.ExactDict∧o.data = .dict es ep
theorem RawD.keeps {h h':Heap} {d:Addr} {es:Array DictEntry} {ep:Nat} (x:RawD h d es ep) (k:∀ o,h.get? d = some o→h'.get? d = some o):RawD h' d es ep:=let ⟨o,ho,r⟩:=x; ⟨o,k o ho,r⟩
theorem values_raw (d:Addr) (hd:(d == sysModules) = false):MeetsIn prog w (Builtin.«dict.values» ⟨[.ref d],[]⟩) (fun _ R s=>s.TypeIs (.ref d) "dict" ∧
   R (.ok (.ret (.ref s.heap.objs.size))) { s with heap:=s.heap.push { cls:=.type "dict_values",data:=.fields #[.ref d] } }) :=
 .of_wp fun A R s ⟨hT,h⟩=>by
  refine wpAny_bind ?_
  unfold Builtin.Dict.noArgs
  refine wpAny_bind (wpAny_notOrdered_dict hT (show wpAny _ _ (pure d) _ _ s from wpAny_pure ?_))
  show wpAny _ _ (Builtin.Dict.showsAll d >>= _) _ _ s
  unfold Builtin.Dict.showsAll
  rw [if_neg (by rw [hd]; exact Bool.false_ne_true)]
  exact wpAny_bind (wpAny_pure (wpAny_bind (wpAny_newObj_type (wpAny_pure ⟨_,rfl,h⟩))))
theorem iter_vals {v d:Addr} {es:Array DictEntry} {ep:Nat} {Q:Value→Shared→Prop} (hv:s.heap.IsValuesView v d) (hm:RawD s.heap d es ep)
  (hQ:Q (.ref s.heap.objs.size) { s with heap:=s.heap.push { cls:=.type "dict_valueiterator",data:=.fields #[.ref d,.int 0 0,.int es.size 0,.int ep 0] } }):wpAny (model prog w) A (pyIter (.ref v)) Q E s:=by
 obtain ⟨ov,hov,hcv,hdv⟩:=id hv
 obtain ⟨o,ho,hc,hdat⟩:=id hm
 refine wpAny_pyIter_slot hv.typeIs F.slot_dict_values_iter (wpAny_call_entry F.slot_dict_values_iter hv.typeIs F.entry_dict_values_iter ?_ (F.args_dict_values_iter_1 _))
 unfold Builtin.«dict_values.__iter__»
 refine wpAny_bind (wpAny_pure (wpAny_bind ?_))
 unfold Builtin.Dict_items.dictOf
 refine wpAny_bind (wpAny_field hov hdv (x:=.ref d) rfl (wpAny_pure (wpAny_bind ?_)))
 unfold Builtin.Dict_items.newIterator
 refine wpAny_bind (wpAny_dictEntries ho hdat (wpAny_bind (wpAny_dictEpoch ho hdat ?_)))
 have hown:Builtin.Dict_items.ownsTuple "dict_valueiterator" = false:=by decide
 simp only [hown,Bool.false_eq_true,if_false]
 refine wpAny_newObj_type (wpAny_pure ⟨_,rfl,"dict_valueiterator",_,⟨_,Heap.get?_push_size _ rfl,rfl⟩,F.slot_dict_valueiterator_next.lookup,?_⟩)
 simpa [rawInt] using hQ
theorem next_val_item {it d:Addr} {i ep:Nat} {es:Array DictEntry} {en:DictEntry} {Q:Option Value→Shared→Prop} (hit:s.heap.IsValIter it d i es.size ep) (hm:RawD s.heap d es ep) (hx:es[i]? = some en)
  (hQ:∀ h',h'.IsValIter it d (i + 1) es.size ep→Heap.SameBut it s.heap h'→Q (some en.val) { s with heap:=h' }):wpAny (model prog w) A (pyNext (.ref it)) Q E s:=by
 obtain ⟨o,ho,hc,hd⟩:=id hit
 obtain ⟨od,hod,hcd,hdd⟩:=id hm
 obtain ⟨hlt,hen⟩:=Array.getElem?_eq_some_iff.mp hx
 unfold pyNext
 refine wpAny_bind (wpAny_attempt (wpAny_callSpecial?_slot (name:=Str.ofString "__next__") hit.typeIs F.slot_dict_valueiterator_next
  (wpAny_call_entry F.slot_dict_valueiterator_next hit.typeIs F.entry_dict_valueiterator_next ?_ (F.args_dict_valueiterator_next_1 _))))
 refine wpAny_bind (wpAny_pure (wpAny_bind (wpAny_bind ?_)))
 first | refine wpAny_bind (wpAny_typeNameOfWhole_valiter hit.typeIs (wpAny_pure ?_)) | refine wpAny_bind (wpAny_typeNameOf_valiter hit.typeIs (wpAny_pure ?_))
 refine wpAny_bind (wpAny_fieldsOf ho hd ?_)
 have hown:Builtin.Dict_items.ownsTuple "dict_valueiterator" = false:=by decide
 simp only [hown,Bool.false_eq_true,if_false]
 show wpAny _ _ (if (Value.ref d == Value.none) = true then _ else _) _ _ s
 rw [if_neg (show ¬ ((Value.ref d == Value.none) = true) from Bool.false_ne_true)]
 refine wpAny_bind (wpAny_pure (wpAny_bind (wpAny_dictEntries hod hdd ?_)))
 rw [if_neg (by simp)]
 refine wpAny_bind (wpAny_pure (wpAny_bind (wpAny_dictEpoch hod hdd ?_)))
 rw [if_neg (by simp)]
 refine wpAny_pure ?_
 simp only [show ¬ ((i:Int) < 0) from by omega,if_false,Int.toNat_natCast,Array.getElem?_eq_getElem hlt]
 refine wpAny_bind ?_
 first | refine wpAny_bind (wpAny_typeNameOfWhole_valiter hit.typeIs (wpAny_pure ?_)) | refine wpAny_bind (wpAny_typeNameOf_valiter hit.typeIs (wpAny_pure ?_))
 refine wpAny_bind (wpAny_isOneOf_valiter hit.typeIs ?_)
 show wpAny _ _ (setField (.ref it) 1 (rawInt ((i:Int) + 1)) >>= _) _ _ s
 refine wpAny_bind (wpAny_setField ho hd (by simp) ?_)
 have hit':(s.heap.update it (Obj.mapFields (·.setIfInBounds 1 (rawInt ((i:Int) + 1))))).IsValIter it d (i + 1) es.size ep :=
  ⟨_,Heap.get?_update_self _ ho (Obj.isFreed_of_fields (Obj.data_mapFields hd _)),(Obj.cls_mapFields ..).trans hc,by rw [Obj.data_mapFields hd]; simp [rawInt]⟩
 refine wpAny_bind (wpAny_holding ?_)
 refine wpAny_bind (wpAny_isOneOf_valiter (s:={ s with heap:=s.heap.update it (Obj.mapFields (·.setIfInBounds 1 (rawInt ((i:Int) + 1)))) }) hit'.typeIs ?_)
 refine wpAny_bind (wpAny_isOneOf_valiter (s:={ s with heap:=s.heap.update it (Obj.mapFields (·.setIfInBounds 1 (rawInt ((i:Int) + 1)))) }) hit'.typeIs ?_)
 show wpAny _ _ (pure es[i].val) _ _ _
 rw [hen]
 exact wpAny_pure (wpAny_pure ⟨_,rfl,wpAny_pure (hQ _ hit' (Heap.SameBut.update ..))⟩)
theorem next_val_end {it d:Addr} {i ep:Nat} {es:Array DictEntry} {Q:Option Value→Shared→Prop} (hh:A.handled = none) (hit:s.heap.IsValIter it d i es.size ep) (hm:RawD s.heap d es ep) (hge:es.size≤i)
  (hQ:∀ h',Heap.ExtBut it s.heap h'→Q none { s with heap:=h' }):wpAny (model prog w) A (pyNext (.ref it)) Q E s:=by
 obtain ⟨o,ho,hc,hd⟩:=id hit
 obtain ⟨od,hod,hcd,hdd⟩:=id hm
 unfold pyNext
 refine wpAny_bind (wpAny_attempt (wpAny_callSpecial?_slot (name:=Str.ofString "__next__") hit.typeIs F.slot_dict_valueiterator_next
  (wpAny_call_entry F.slot_dict_valueiterator_next hit.typeIs F.entry_dict_valueiterator_next ?_ (F.args_dict_valueiterator_next_1 _))))
 refine wpAny_bind (wpAny_pure (wpAny_bind (wpAny_bind ?_)))
 first | refine wpAny_bind (wpAny_typeNameOfWhole_valiter hit.typeIs (wpAny_pure ?_)) | refine wpAny_bind (wpAny_typeNameOf_valiter hit.typeIs (wpAny_pure ?_))
 refine wpAny_bind (wpAny_fieldsOf ho hd ?_)
 have hown:Builtin.Dict_items.ownsTuple "dict_valueiterator" = false:=by decide
 simp only [hown,Bool.false_eq_true,if_false]
 show wpAny _ _ (if (Value.ref d == Value.none) = true then _ else _) _ _ s
 rw [if_neg (show ¬ ((Value.ref d == Value.none) = true) from Bool.false_ne_true)]
 refine wpAny_bind (wpAny_pure (wpAny_bind (wpAny_dictEntries hod hdd ?_)))
 rw [if_neg (by simp)]
 refine wpAny_bind (wpAny_pure (wpAny_bind (wpAny_dictEpoch hod hdd ?_)))
 rw [if_neg (by simp)]
 refine wpAny_pure ?_
 simp only [show ¬ ((i:Int) < 0) from by omega,if_false,Int.toNat_natCast,Array.getElem?_eq_none hge]
 refine wpAny_bind ?_
 first | refine wpAny_bind (wpAny_typeNameOfWhole_valiter hit.typeIs (wpAny_pure ?_)) | refine wpAny_bind (wpAny_typeNameOf_valiter hit.typeIs (wpAny_pure ?_))
 show wpAny _ _ (setField (.ref it) 0 .none >>= _) _ _ s
 refine wpAny_bind (wpAny_setField ho hd (by simp) ?_)
 show wpAny _ _ (newExc (.type "StopIteration") [] >>= _) _ _ _
 refine wpAny_bind ?_
 simp only [newExc,newTuple]
 refine wpAny_bind (wpAny_newObj_type ?_ (by size_fits))
 refine wpAny_bind (m:=firstArgMember _ _) (wpAny_of_eq (a:=Value.none) (by first | rfl | (simp only [firstArgMember]; rfl)) ?_)
 refine wpAny_newObj_type ?_ (by size_fits)
 simp only [raiseNew]
 refine wpAny_bind (wpAny_handled ?_)
 rw [show A.in1.handled = none from hh]
 refine wpAny_bind (wpAny_pure (wpAny_throw ?_))
 refine wpAny_bind (wpAny_isInstance (T:="StopIteration") (b:=true) ⟨_,Heap.get?_push_size _ rfl,rfl⟩ isSubtype_stop ?_)
 exact wpAny_pure (hQ _ (((Heap.SameBut.update ..).extBut.push _).push _))
theorem walks_vals (hh:A.handled = none) (I d:Addr) (hne:d≠I) (es:Array DictEntry) (ep:Nat) :
  Walks prog w A I [I,d] [I] es.size (fun i v=>∃ en,es[i]? = some en∧en.val = v) (fun i h=>h.IsValIter I d i es.size ep∧RawD h d es ep) where
 sub:=fun b hb=>by simp at hb; simp [hb]
 frame:=fun _ _ _ st hk=>⟨st.1.at fun o e=>hk I (by simp) o e,st.2.keeps fun o e=>hk d (by simp) o e⟩
 item:=fun i s Q E hi st hQ=>by
  refine next_val_item st.1 st.2 (Array.getElem?_eq_getElem hi) fun h' hit' hs'=>?_
  exact hQ _ h' s.toks ⟨_,Array.getElem?_eq_getElem hi,rfl⟩ ⟨hit',st.2.keeps fun o e=>(hs'.2 d hne).trans e⟩ fun b o hb e=>hs'.extBut b o (fun h=>hb (by simp [h])) e
 done:=fun s Q E st hQ=>next_val_end hh st.1 st.2 (Nat.le_refl _) fun h' he'=>hQ h' s.toks fun b o hb e=>he' b o (fun h=>hb (by simp [h])) e
 self:=fun _ _ _ _ st hQ=>wpAny_pyIter_valiter st.1 hQ
theorem src_vals {r d:Addr} {es:Array DictEntry} {ep:Nat}:PySem.W.KdlSrc prog w "dict_values" r d es.size (fun i v=>∃ en,es[i]? = some en∧en.val = v) (fun h=>h.IsValuesView r d∧RawD h d es ep) where
 type:=fun _ hm=>hm.1.typeIs
 there:=fun _ hm=>⟨let ⟨_,ho,_⟩:=hm.1; Heap.lt_size ho,let ⟨_,ho,_⟩:=hm.2; Heap.lt_size ho⟩
 keep:=fun _ _ hm hk=>⟨let ⟨o,ho,x⟩:=hm.1; ⟨o,hk r (.inl rfl) o ho,x⟩,hm.2.keeps fun o e=>hk d (.inr rfl) o e⟩
 notList:=by decide
 notTuple:=by decide
 hint:=fun _ _ _ _ hm hq=>PySem.W.kdl_hint_values hm.1.typeIs hq
 iter:=fun _ _ hh hm=>⟨_,_,(fun _ _ hq=>iter_vals hm.1 hm.2 hq),walks_vals hh _ d (Nat.ne_of_lt (let ⟨_,ho,_⟩:=hm.2; Heap.lt_size ho)) es ep,⟨⟨_,Heap.get?_push_size _ rfl,rfl,rfl⟩,hm.2.keeps fun o e=>Heap.get?_push_of_some _ e⟩⟩
end
section
variable {X:Cx}
def ViewV (v d:Addr):HO:=.ext fun h=>h.IsValuesView v d
theorem viewV_ok {P:Program} {w:World} {H:Hp} {h:Heap} {v d:Addr} (x:h.IsValuesView v d):ObjOk P w H h v (ViewV v d) :=
 ⟨x,let ⟨o,ho,_⟩:=x; ⟨o,ho⟩,fun _ _ ⟨o,ho,r⟩ k=>⟨o,k o ho,r⟩⟩
theorem mt_values:MtR X "dict.values" (fun x xs H Q=>∃ d kvs,x = .ref d∧xs = []∧H d = some (.dT kvs)∧∀ v,H v = none→Q (.ref v) (upd H v (ViewV v d))):=by
 intro pins s σ H x xs v us Q I rx rs h
 obtain ⟨d,kvs,rfl,rfl,hd,h⟩:=h
 cases rs
 obtain rfl:v = .ref d:=rx
 obtain ⟨_,hs,_,_,dd⟩:=dt_of I.hok hd
 refine call_meetsIn F.slot_dict_values dd.typeIs F.entry_dict_values (F.args_dict_values_1 _) (values_raw d hs) ⟨dd.typeIs,?_⟩
 have hp:=I.hok.fresh (Nat.le_refl s.heap.objs.size)
 exact ⟨.ref s.heap.objs.size,_,I.laid (t':=s.toks) (fun b u q=>Heap.get?_push_of_some _ q) (Nat.le_refl _) (viewV_ok ⟨_,Heap.get?_push_size _ rfl,rfl,rfl⟩),rfl,h _ hp⟩
theorem dt_raw {P:Program} {w:World} {H:Hp} {h:Heap} {d:Addr} {kvs:List (List Key × V)} (ok:HOk P w H h) (e:H d = some (.dT kvs)):kvs.length≤sizeLine∧∃ es ep,RawD h d es ep∧es.size = kvs.length∧∀ (i:Nat) (k:List Key) (v:V),kvs[i]? = some (k,v)→∃ en,es[i]? = some en∧RelV v en.val:=by
 obtain ⟨z,hs,xs,pr,o,es,ep,ho,hx,hdt,he,_⟩:=ok d _ e
 refine ⟨z,es,ep,⟨o,ho,hx,hdt⟩,?_,fun i k v e=>?_⟩
 · have l1:es.size = xs.length:=size_of_entries he
   have l2:kvs.length = xs.length:=Paired.length pr
   omega
 · obtain ⟨b,hb,e1,e2,e3⟩:=paired_get pr e
   have q:=entry_at he i
   rw [hb] at q
   exact ⟨_,q,e3⟩
theorem vals_at:∀ (xs:List V) (us:List Value),xs.length = us.length→(∀ (i:Nat) (v:V) (u:Value),xs[i]? = some v→us[i]? = some u→RelV v u)→Vals xs us
 | [],[],_,_=>.nil
 | x :: xs,u :: us,hl,h=>.cons (h 0 x u rfl rfl) (vals_at xs us (by simpa using hl) fun i v w e1 e2=>h (i + 1) v w (by simpa using e1) (by simpa using e2))
 | [],_ :: _,hl,_=>by simp at hl
 | _ :: _,[],hl,_=>by simp at hl
theorem call_list_vals (hh:X.A.handled = none):CallR X (.type "list") (fun xs H Q=>∃ v d kvs,xs = [.ref v]∧H v = some (ViewV v d)∧H d = some (.dT kvs)∧∀ p,H p = none→Q (.ref p) (upd H p (.lst (kvs.map (·.2))))):=by
 intro pins s σ H xs us Q I rs h
 obtain ⟨v,d,kvs,rfl,hv,hd,h⟩:=h
 cases rs with
 | cons r1 rs =>
   cases rs
   cases r1
   obtain ⟨z,es,ep,raw,hsz,hent⟩:=dt_raw I.hok hd
   have view:s.heap.IsValuesView v d:=(I.hok v _ hv).1
   refine PySem.W.kdl_call src_vals hh ⟨view,raw⟩ (by rw [hsz]; exact z) fun h' tk acc c hk hD hacc=>?_
   have hp:=I.hok.fresh (Nat.le_refl s.heap.objs.size)
   refine ⟨.ref s.heap.objs.size,_,I.laid (t':=tk) (a:=s.heap.objs.size) (o:=.lst (kvs.map (·.2))) hk (Nat.le_refl _) ⟨by rw [List.length_map]; exact z,acc.toList,c,?_,by simpa using hD⟩,rfl,h _ hp⟩
   refine vals_at _ _ (by rw [List.length_map,Array.length_toList]; exact (hacc.1.trans hsz).symm) fun i x u e1 e2=>?_
   rw [List.getElem?_map] at e1
   obtain ⟨⟨k,y⟩,e3,e4⟩:=Option.map_eq_some_iff.mp e1
   obtain rfl:y = x:=e4
   obtain ⟨en,e5,e6⟩:=hent i k y e3
   obtain ⟨en',e7,e8⟩:=hacc.2 i u (by rw [← Array.getElem?_toList]; exact e2)
   rw [e5] at e7
   cases e7
   rw [← e8]
   exact e6
end
section
variable {prog:Program} {w:World} {K:Type} [DecidableEq K] {knd:HeapKind prog w K} {A:Around} {E:Value→Shared→Prop} {s:Shared}
theorem setdef_heap {d a:Addr} {xs:List (K × Addr × Value)} {k:K} {v:Value} {Q:Value→Shared→Prop} (hu:knd.room A) (hkey:knd.is s.heap k a) (hm:s.heap.DictOfH knd d xs)
  (h1:∀ p,atKey xs k = some p→Q p.2 { s with toks:=s.toks + knd.draws k })
  (h2:atKey xs k = none→∀ h',h'.DictOfH knd d (storedH xs k a v)→Heap.SameBut d s.heap h'→Q v { s with heap:=h',toks:=s.toks + knd.draws k }) (hsz:xs.length≤sizeLine) :
  wpAny (model prog w) A (dictSetDefault d (.ref a) v) Q E s:=by
 obtain ⟨o,es,ep,ho,hc,hd,he,his,hn⟩:=hm
 unfold dictSetDefault
 try with_reducible refine wpAny_holding ?_
 refine wpAny_bind (knd.pyHash hu hkey ?_)
 refine wpAny_bind (wpAny_dictFind_heap (s:={ s with toks:=s.toks + knd.draws k }) hu hkey ho hd he his hn ?_ ?_)
 · intro hno
   have hnot:k ∉ xs.map (·.1):=not_mem_keys_of_get hno
   refine wpAny_bind (wpAny_rule (wpAny_bind (wpAny_updateDictKeys (hz:=by have e:=size_of_entries he; omega) (s:={ s with toks:=s.toks + knd.draws k }) ho hd (wpAny_pure (h2 (atKey_none_of_get hno) _ ⟨_,_,ep + 1,Heap.get?_update_self _ ho (Obj.isFreed_of_dict (Obj.data_mapDictKeys hd _)),
    hc.mapDictKeys _,Obj.data_mapDictKeys hd _,?_,?_,?_⟩ (Heap.SameBut.update ..))))))
   · rw [storedH_new (atKey_none_of_get hno)]
     simp [he,entryOfKey]
   · rw [storedH_new (atKey_none_of_get hno)]
     intro x hx
     rcases List.mem_append.mp hx with hx | hx
     · exact knd.keeps (his x hx) ho hd (Heap.SameBut.update ..)
     · simp only [List.mem_singleton] at hx
       subst hx
       exact knd.keeps hkey ho hd (Heap.SameBut.update ..)
   · rw [storedH_new (atKey_none_of_get hno),List.map_append,List.nodup_append]
     refine ⟨hn,by simp,?_⟩
     intro x hx y hy
     simp only [List.map_cons,List.map_nil,List.mem_singleton] at hy
     subst hy
     exact fun e=>hnot (e ▸ hx)
 · intro j p hj
   refine wpAny_bind (wpAny_dictEntries (s:={ s with toks:=s.toks + knd.draws k }) ho hd ?_)
   rw [entry_at he j,hj]
   exact wpAny_bind (wpAny_rule (wpAny_pure (h1 p (atKey_of_get hn hj))))
theorem meets_setdef {d a:Addr} (hd:(d == sysModules) = false) (v:Value) :
  MeetsIn prog w (Builtin.«dict.setdefault» ⟨[.ref d,.ref a,v],[]⟩) (fun A R s=>knd.room A.in1∧∃ k xs,knd.is s.heap k a∧s.heap.DictOfH knd d xs∧xs.length≤sizeLine ∧
   (∀ p,atKey xs k = some p→R (.ok (.ret p.2)) { s with toks:=s.toks + knd.draws k }) ∧
   (atKey xs k = none→∀ h',h'.DictOfH knd d (storedH xs k a v)→Heap.SameBut d s.heap h'→R (.ok (.ret v)) { s with heap:=h',toks:=s.toks + knd.draws k })) :=
 .of_wp fun A R s ⟨hu,k,xs,hkey,hm,hz,h1,h2⟩=>by
  unfold Builtin.«dict.setdefault»
  refine wpAny_bind ?_
  unfold Builtin.Dict.keyAndDefault
  refine wpAny_bind (wpAny_notOrdered_dict hm.typeIs ?_)
  show wpAny _ _ (pure (d,Value.ref a,some v)) _ _ s
  refine wpAny_pure ?_
  show wpAny _ _ (if (d == sysModules) = true then _ else (dictSetDefault d (.ref a) v >>= _)) _ _ s
  rw [if_neg (by rw [hd]; exact Bool.false_ne_true)]
  exact wpAny_bind (setdef_heap hu hkey hm (fun p hp=>wpAny_pure ⟨p.2,rfl,h1 p hp⟩) (fun hn h' hm' hs'=>wpAny_pure ⟨v,rfl,h2 hn h' hm' hs'⟩) hz)
end
section
variable {X:Cx}
theorem mt_setdefault (hu:X.A.units + 1 < cLine):MtR X "dict.setdefault" (fun x xs H Q=>∃ d b y kvs k,x = .ref d∧xs = [.ref b,y]∧H d = some (.dT kvs)∧H b = some (.tup (k.map kV))∧kvs.length < sizeLine ∧
  (∀ v,valV kvs k = some v→Q v H)∧(valV kvs k = none→Q y (upd H d (.dT (kvs ++ [(k,y)]))))):=by
 intro pins s σ H x xs v us Q I rx rs h
 obtain ⟨d,b,y,kvs,k,rfl,rfl,hd,hb,hz,h1,h2⟩:=h
 obtain rfl:v = .ref d:=rx
 cases rs with
 | cons r1 rs =>
   cases rs with
   | cons r2 rs =>
     cases rs
     cases r1
     obtain ⟨z,hs,xs,rel,dd⟩:=dt_of I.hok hd
     have hzx:xs.length≤sizeLine:=by rw [← Paired.length rel]; exact z
     refine call_meetsIn F.slot_dict_setdefault dd.typeIs F.entry_dict_setdefault (F.args_dict_setdefault_3 _ _ _) (meets_setdef (knd:=tupleKind (mixKind X.prog X.w)) hs _) ⟨tupleKind_room_in1 hu,k,xs,key_of I.hok hb,dd,hzx,fun p hp=>?_,fun hn h' dd' hsb=>?_⟩
     · have q:=rel.val k
       rw [hp] at q
       cases e:valV kvs k with
       | none=>rw [e] at q; exact False.elim q
       | some v =>
         rw [e] at q
         exact ⟨v,H,I.tok _,q,h1 v e⟩
     · have q:=rel.val k
       rw [hn] at q
       cases e:valV kvs k with
       | some v=>rw [e] at q; exact False.elim q
       | none =>
         have ep:putK kvs k y = kvs ++ [(k,y)]:=putK_new y e
         refine ⟨y,_,?_,r2,h2 e⟩
         obtain ⟨ob,es,epp,hq,g2,g3,g4,_,g5⟩:=dd'
         refine d_write I (by rw [hd]; exact True.intro) hsb ⟨ob,hq⟩ ⟨by rw [List.length_append,List.length_singleton]; omega,hs,_,(ep ▸ (rel.put k hb r2)).keeps fun c ys ec=>?_,ob,es,epp,hq,g2,g3,g4,g5⟩
         rw [upd_ne (ne_of ec hd (fun z=>nomatch z))]
         exact ec
end
end L2
namespace Hp
open PySem L2
abbrev Run:=IhPlace.Run
abbrev Place:=IhPlace.Place
abbrev Book:=IhPlace.Book
theorem str_eq {x y:Bytes}:(V.str (S x) = V.str (S y)) = (x = y):=propext ⟨fun h=>S_inj (V.str.inj h),fun h=>by rw [h]⟩
def optI:Option Nat→V
 | none=>.non
 | some n=>.int (n:Int)
theorem optI_non {o:Option Nat}:(optI o = V.non) = (o = none):=by cases o <;> simp [optI]
def mI (b:Bool):Int:=if b = true then 1 else 0
def runF (x:Run × Nat):List (Str × V):=[("style",.int (x.1.style:Int)),("first",.int (x.1.first:Int)),("last",.int ((x.1.first:Int) + x.1.count - 1)),("count",.int (x.1.count:Int)),("prefix",.str (S x.1.pre)),("start",.int (x.2:Int))]
def placeF (p:Place):List (Str × V):=[("from_index",.int (p.from_:Int)),("to_index",.int (p.to_:Int)),("kind",.int (p.kind:Int)),("main",.int (mI p.main)),("note",.int (p.note:Int))]
def numsF (l:Addr):List (Str × V):=[("texts",.ref l)]
def bookF (nm rs:Addr) (n:Nat) (ld:Addr):List (Str × V):=[("numerals",.ref nm),("runs",.ref rs),("total",.int (n:Int)),("lettered",.ref ld)]
def sessF (w:Nat) (j d:Bool) (nm sg b:Addr):List (Str × V):=[("way",.int (w:Int)),("joins",.int (mI j)),("drops",.int (mI d)),("numerals",.ref nm),("signs",.ref sg),("book",.ref b)]
def readF (c:Addr) (p:Nat):List (Str × V):=[("calls",.ref c),("position",.int (p:Int))]
theorem rf_style (x:Run × Nat):(runF x).lookup ("style":Str) = some (.int (x.1.style:Int)):=rfl
theorem rf_first (x:Run × Nat):(runF x).lookup ("first":Str) = some (.int (x.1.first:Int)):=rfl
theorem rf_last (x:Run × Nat):(runF x).lookup ("last":Str) = some (.int ((x.1.first:Int) + x.1.count - 1)):=rfl
theorem rf_count (x:Run × Nat):(runF x).lookup ("count":Str) = some (.int (x.1.count:Int)):=rfl
theorem rf_prefix (x:Run × Nat):(runF x).lookup ("prefix":Str) = some (.str (S x.1.pre)):=rfl
theorem rf_start (x:Run × Nat):(runF x).lookup ("start":Str) = some (.int (x.2:Int)):=rfl
theorem pf_from (p:Place):(placeF p).lookup ("from_index":Str) = some (.int (p.from_:Int)):=rfl
theorem pf_to (p:Place):(placeF p).lookup ("to_index":Str) = some (.int (p.to_:Int)):=rfl
theorem pf_kind (p:Place):(placeF p).lookup ("kind":Str) = some (.int (p.kind:Int)):=rfl
theorem pf_main (p:Place):(placeF p).lookup ("main":Str) = some (.int (mI p.main)):=rfl
theorem pf_note (p:Place):(placeF p).lookup ("note":Str) = some (.int (p.note:Int)):=rfl
theorem nf_texts (l:Addr):(numsF l).lookup ("texts":Str) = some (.ref l):=rfl
theorem bf_numerals (nm rs:Addr) (n:Nat) (ld:Addr):(bookF nm rs n ld).lookup ("numerals":Str) = some (.ref nm):=rfl
theorem bf_runs (nm rs:Addr) (n:Nat) (ld:Addr):(bookF nm rs n ld).lookup ("runs":Str) = some (.ref rs):=rfl
theorem bf_total (nm rs:Addr) (n:Nat) (ld:Addr):(bookF nm rs n ld).lookup ("total":Str) = some (.int (n:Int)):=rfl
theorem bf_lettered (nm rs:Addr) (n:Nat) (ld:Addr):(bookF nm rs n ld).lookup ("lettered":Str) = some (.ref ld):=rfl
theorem sf_way (w:Nat) (j d:Bool) (nm sg b:Addr):(sessF w j d nm sg b).lookup ("way":Str) = some (.int (w:Int)):=rfl
theorem sf_joins (w:Nat) (j d:Bool) (nm sg b:Addr):(sessF w j d nm sg b).lookup ("joins":Str) = some (.int (mI j)):=rfl
theorem sf_drops (w:Nat) (j d:Bool) (nm sg b:Addr):(sessF w j d nm sg b).lookup ("drops":Str) = some (.int (mI d)):=rfl
theorem sf_signs (w:Nat) (j d:Bool) (nm sg b:Addr):(sessF w j d nm sg b).lookup ("signs":Str) = some (.ref sg):=rfl
theorem sf_book (w:Nat) (j d:Bool) (nm sg b:Addr):(sessF w j d nm sg b).lookup ("book":Str) = some (.ref b):=rfl
theorem df_calls (c:Addr) (p:Nat):(readF c p).lookup ("calls":Str) = some (.ref c):=rfl
theorem df_position (c:Addr) (p:Nat):(readF c p).lookup ("position":Str) = some (.int (p:Int)):=rfl
def RunAt (a:Adr) (H:Hp) (r:Addr) (x:Run × Nat):Prop:=∃ dx,H r = some (.ins a.c_Run dx (runF x))
def PlAt (a:Adr) (H:Hp) (p:Addr) (x:Place):Prop:=∃ dx,H p = some (.ins a.c_Place dx (placeF x))
theorem RunAt.mono {a:Adr} {H H':Hp} {r:Addr} {x:Run × Nat} (e:Same H H') (h:RunAt a H r x):RunAt a H' r x:=let ⟨d,h⟩:=h; ⟨d,e _ _ h⟩
theorem PlAt.mono {a:Adr} {H H':Hp} {r:Addr} {x:Place} (e:Same H H') (h:PlAt a H r x):PlAt a H' r x:=let ⟨d,h⟩:=h; ⟨d,e _ _ h⟩
def OptRun (a:Adr) (H:Hp):Option (Run × Nat)→V→Prop
 | none,v=>v = .non
 | some x,v=>∃ r,v = .ref r∧RunAt a H r x
def PlsAt (a:Adr) (H:Hp) (as:List Addr) (ps:List Place):Prop:=Paired (PlAt a H) as ps
theorem PlsAt.mono {a:Adr} {H H':Hp} {as:List Addr} {ps:List Place} (e:Same H H') (h:PlsAt a H as ps):PlsAt a H' as ps:=Paired.mapP h fun _ _ q=>q.mono e
theorem pair_at {α β:Type} {R:α→β→Prop}:∀ {l:List α} {m:List β} {i:Nat} {x:α},Paired R l m→l[i]? = some x→∃ y,m[i]? = some y∧R x y
 | _,_,_,_,.nil,e=>by simp at e
 | _,_,0,_,.cons r _,e=>by simp at e; subst e; exact ⟨_,rfl,r⟩
 | _,_,i + 1,x,.cons _ t,e=>by
   obtain ⟨y,h1,h2⟩:=pair_at (i:=i) (x:=x) t (by simpa using e)
   exact ⟨y,by simpa using h1,h2⟩
def textsV (i n:Nat):List V:=.str (S []) :: (List.range n).map fun j=>.str (S (IhPlace.numberIn i (j + 1)))
structure NumsAt (a:Adr) (H:Hp) (nm:Addr) (ls:List Addr):Prop where
 ob:∃ dx l,H nm = some (.ins a.c_Numerals dx (numsF l))∧H l = some (.lst (ls.map V.ref))
 len:ls.length = 4
 nd:ls.Nodup
 at_:∀ i x,ls[i]? = some x→∃ n,n≤Bk.most i∧H x = some (.lst (textsV i n))
def letK (b:Book):List (Key × V):=(Bk.lets 0 b).map fun x=>(Sum.inr (S x.1),V.int (x.2:Int))
structure BookAt (a:Adr) (H:Hp) (b nm rs ld:Addr) (ls:List Addr) (bk:Book):Prop where
 ob:∃ dx,H b = some (.ins a.c_Book dx (bookF nm rs bk.pages ld))
 runs:∃ as,H rs = some (.lst (as.map V.ref))∧Paired (RunAt a H) as (Bk.ws 0 bk)
 lett:H ld = some (.dK (letK bk))
 nums:NumsAt a H nm ls
 ok:Bk.BookOk bk
 pages:bk.pages≤65536
 few:bk.length≤64
def BookV (a:Adr) (H:Hp) (b:Addr) (bk:Book):Prop:=∃ nm rs ld ls,BookAt a H b nm rs ld ls bk
theorem NumsAt.mono {a:Adr} {H H':Hp} {nm:Addr} {ls:List Addr} (e:Same H H') (h:NumsAt a H nm ls):NumsAt a H' nm ls :=
 ⟨let ⟨d,l,h1,h2⟩:=h.ob; ⟨d,l,e _ _ h1,e _ _ h2⟩,h.len,h.nd,fun i x q=>let ⟨n,h1,h2⟩:=h.at_ i x q; ⟨n,h1,e _ _ h2⟩⟩
theorem BookAt.mono {a:Adr} {H H':Hp} {b nm rs ld:Addr} {ls:List Addr} {bk:Book} (e:Same H H') (h:BookAt a H b nm rs ld ls bk):BookAt a H' b nm rs ld ls bk :=
 ⟨let ⟨d,h1⟩:=h.ob; ⟨d,e _ _ h1⟩,let ⟨as,h1,h2⟩:=h.runs; ⟨as,e _ _ h1,Paired.mapP h2 fun _ _ q=>q.mono e⟩,e _ _ h.lett,h.nums.mono e,h.ok,h.pages,h.few⟩
theorem BookV.mono {a:Adr} {H H':Hp} {b:Addr} {bk:Book} (e:Same H H') (h:BookV a H b bk):BookV a H' b bk:=let ⟨nm,rs,ld,ls,h⟩:=h; ⟨nm,rs,ld,ls,h.mono e⟩
end Hp
namespace Hp
open PySem L2
section
variable {P:Program} {w:World} {K:PySem.W.Frag} {mg:Str→Option Value} {base:Heap} {a:Adr}
theorem dne {c:Prop} [Decidable c] (h:¬ decide c = true):¬ c:=fun z=>h (decide_eq_true z)
theorem pos10:(0:Int) < 10:=by decide
theorem tab_at (tab:List Bytes) (k:Nat) (hk:k < tab.length):(tab.map fun b=>V.str (S b))[k]? = some (V.str (S (tab.getD k []))):=by
 rw [List.getElem?_map,List.getElem?_eq_getElem hk,List.getD_eq_getElem?_getD,List.getElem?_eq_getElem hk]
 rfl
def sp_most_of_style:Sp:=fun vs H Q _=>∃ s:Nat,vs = [.int (s:Int)]∧s≤3∧Q (.int (Bk.most s:Int)) H
theorem ok_most_of_style (T:Txt K mg a):FnOk P w K mg base CX0 1 a.most_of_style.f a.most_of_style.d ["style"] (sp_most_of_style):=by
 have sc:FnScope ["style"] ["style"] (defScope s_most_of_style):=⟨rfl,rfl,rfl,by decide +kernel,rfl,by decide +kernel,by decide +kernel⟩
 refine T.most_of_style.fn.ok sc (fun vs H Q E h=>?_) (fun cdv A outer s H vs Q E hr h=>?_)
 · obtain ⟨_,rfl,_⟩:=h
   rfl
 · obtain ⟨n,rfl,hs,q⟩:=h
   refine ⟨_,(pss_one (ps_ret (pe_ix ix_tup (pe_gv T.g_MOST_BY_STYLE) (pv 0) (fun _ _=>rfl)))),?_⟩
   refine ⟨_,rfl,_,_,_,_,rfl,rfl,T.t_MOST_BY_STYLE _,?_,q⟩
   refine at_of (j:=n) rfl ?_
   exact Bk.style_cases (P:=fun n=>[V.int 99999,V.int 3999,V.int 3999,V.int 702][n]? = some (.int (Bk.most n:Int))) hs rfl rfl rfl rfl
theorem tab_th:[V.str "",V.str "m",V.str "mm",V.str "mmm"] = Bk.thous.map fun b=>V.str (S b):=rfl
theorem tab_hu:[V.str "",V.str "c",V.str "cc",V.str "ccc",V.str "cd",V.str "d",V.str "dc",V.str "dcc",V.str "dccc",V.str "cm"] = Bk.hunds.map fun b=>V.str (S b):=rfl
theorem tab_te:[V.str "",V.str "x",V.str "xx",V.str "xxx",V.str "xl",V.str "l",V.str "lx",V.str "lxx",V.str "lxxx",V.str "xc"] = Bk.tens.map fun b=>V.str (S b):=rfl
theorem tab_on:[V.str "",V.str "i",V.str "ii",V.str "iii",V.str "iv",V.str "v",V.str "vi",V.str "vii",V.str "viii",V.str "ix"] = Bk.ones.map fun b=>V.str (S b):=rfl
theorem tab_len {tab:List Bytes} (h:tab.all (fun b=>decide (b.length≤4)) = true) (k:Nat):(S (tab.getD k [])).length≤4:=by
 rw [S_len,List.getD_eq_getElem?_getD]
 cases e:tab[k]? with
 | none=>simp
 | some b=>simpa using List.all_eq_true.mp h b (List.mem_of_getElem? e)
theorem str_len_app (x y:Str):(x ++ y).length = x.length + y.length:=by rw [TL.len_tl,TL.tl_append,List.length_append,← TL.len_tl,← TL.len_tl]
def sp_small_roman:Sp:=fun vs H Q _=>∃ n:Nat,vs = [.int (n:Int)]∧n < 4000∧Q (.str (S (Bk.roman n))) H
theorem ok_small_roman (T:Txt K mg a):FnOk P w K mg base CX0 1 a.small_roman.f a.small_roman.d ["number"] (sp_small_roman):=by
 have sc:FnScope ["number","upper_half"] ["number"] (defScope s_small_roman):=⟨rfl,rfl,rfl,by decide +kernel,rfl,by decide +kernel,by decide +kernel⟩
 refine T.small_roman.fn.ok sc (fun vs H Q E h=>?_) (fun cdv A outer s H vs Q E hr h=>?_)
 · obtain ⟨_,rfl,_⟩:=h
   rfl
 · obtain ⟨n,rfl,hn,q⟩:=h
   refine ⟨_,(pss_cons (ps_set (i:=1) sc.nd rfl (Or.inl rfl) (pe_op op_add_str (pe_ix ix_tup (pe_gv T.g_ROMAN_THOUSANDS) (pe_op op_fdiv (pv 0) pe_int) (fun _ _=>rfl)) (pe_ix ix_tup (pe_gv T.g_ROMAN_HUNDREDS) (pe_op op_mod (pe_op op_fdiv (pv 0) pe_int) pe_int) (fun _ _=>rfl))))
    (pss_one (ps_ret (pe_op op_add_str (pe_op op_add_str (pv 1) (pe_ix ix_tup (pe_gv T.g_ROMAN_TENS) (pe_op op_mod (pe_op op_fdiv (pv 0) pe_int) pe_int) (fun _ _=>rfl))) (pe_ix ix_tup (pe_gv T.g_ROMAN_ONES) (pe_op op_mod (pv 0) pe_int) (fun _ _=>rfl)))))),?_⟩
   have l1:=tab_len (tab:=Bk.thous) rfl (n / 1000)
   have l2:=tab_len (tab:=Bk.hunds) rfl (n / 100 % 10)
   have l3:=tab_len (tab:=Bk.tens) rfl (n / 10 % 10)
   have l4:=tab_len (tab:=Bk.ones) rfl (n % 10)
   have hz:sizeLine = 16777216:=rfl
   refine ⟨_,rfl,_,_,rfl,rfl,⟨by decide,by decide⟩,_,_,_,_,rfl,rfl,T.t_ROMAN_THOUSANDS _,at_of (j:=n / 1000) (by omega) (by rw [tab_th]; exact tab_at _ _ (by show _ < 4; omega)),_,rfl,_,_,rfl,rfl,⟨by decide,by decide⟩,_,_,rfl,rfl,pos10,_,_,_,_,rfl,rfl,T.t_ROMAN_HUNDREDS _,
    at_of (j:=n / 100 % 10) (by omega) (by rw [tab_hu]; exact tab_at _ _ (by show _ < 10; omega)),_,_,rfl,rfl,(by omega),?_⟩
   refine ⟨_,rfl,_,rfl,_,_,rfl,rfl,⟨by decide,by decide⟩,_,_,rfl,rfl,pos10,_,_,_,_,rfl,rfl,T.t_ROMAN_TENS _,at_of (j:=n / 10 % 10) (by omega) (by rw [tab_te]; exact tab_at _ _ (by show _ < 10; omega)),_,_,rfl,rfl,(by rw [str_len_app]; omega),
    _,rfl,_,_,rfl,rfl,pos10,_,_,_,_,rfl,rfl,T.t_ROMAN_ONES _,at_of (j:=n % 10) (by omega) (by rw [tab_on]; exact tab_at _ _ (by show _ < 10; omega)),_,_,rfl,rfl,(by rw [str_len_app,str_len_app]; omega),?_⟩
   show Q (.str _) H
   rw [S_app,S_app,S_app]
   have e:Bk.thous.getD (n / 1000) [] ++ Bk.hunds.getD (n / 100 % 10) [] ++ Bk.tens.getD (n / 10 % 10) [] ++ Bk.ones.getD (n % 10) [] = Bk.roman n:=by unfold Bk.roman; simp
   rw [e]
   exact q
def alpha:Bytes:=(List.range 26).map (97 + ·)
theorem alpha_at {k:Nat} (h:k < 26):alpha[k]? = some (97 + k):=by
 unfold alpha
 rw [List.getElem?_map,List.getElem?_range h]
 rfl
theorem alpha_ix {z:Int} {k:Nat} (e:z = (k:Int)) (h:k < 26):atI (S alpha).cps.toList z = some (97 + k):=by
 rw [e]
 exact atI_nat (alpha_at h)
def sp_letters_of:Sp:=fun vs H Q _=>∃ n:Nat,vs = [.int (n:Int)]∧1≤n∧n≤702∧Q (.str (S (IhPlace.letters n))) H
theorem ok_letters_of (T:Txt K mg a):FnOk P w K mg base CX0 1 a.letters_of.f a.letters_of.d ["number"] (sp_letters_of):=by
 have sc:FnScope ["number","behind_z"] ["number"] (defScope s_letters_of):=⟨rfl,rfl,rfl,by decide +kernel,rfl,by decide +kernel,by decide +kernel⟩
 refine T.letters_of.fn.ok sc (fun vs H Q E h=>?_) (fun cdv A outer s H vs Q E hr h=>?_)
 · obtain ⟨_,rfl,_⟩:=h
   rfl
 · obtain ⟨n,rfl,h1,h2,q⟩:=h
   refine ⟨_,(pss_cons (ps_if (pt_cmpR op_le (pv 0) pe_int (nomark _))
     (pss_one (ps_ret (pe_ix ix_str (pe_gv T.g_ALPHABET) (pe_op op_sub (pv 0) pe_int) (fun _ _=>rfl))))
     pss_nil)
    (pss_cons (ps_set (i:=1) sc.nd rfl (Or.inl rfl) (pe_op op_sub (pv 0) pe_int))
    (pss_one (ps_ret (pe_op op_add_str (pe_ix ix_str (pe_gv T.g_ALPHABET) (pe_op op_fdiv (pv 1) pe_int) (fun _ _=>rfl)) (pe_ix ix_str (pe_gv T.g_ALPHABET) (pe_op op_mod (pv 1) pe_int) (fun _ _=>rfl))))))),?_⟩
   refine ⟨_,rfl,_,_,rfl,rfl,_,rfl,ite2 (fun h=>?_) (fun h=>?_)⟩
   · have h:=of_decide_eq_true h
     refine ⟨_,rfl,_,_,rfl,rfl,_,_,_,rfl,rfl,(by decide),alpha_ix (k:=n - 1) (by omega) (by omega),?_⟩
     have e:IhPlace.letters n = [97 + (n - 1)]:=by
      unfold IhPlace.letters
      rw [if_pos (by omega)]
      congr 1
      omega
     rw [e] at q
     exact q
   · have h:=dne h
     have h27:27≤n:=by omega
     refine ⟨_,rfl,_,_,rfl,rfl,_,rfl,_,_,rfl,rfl,⟨by decide,by decide⟩,_,_,_,rfl,rfl,(by decide),alpha_ix (k:=(n - 27) / 26) (by omega) (by omega),_,rfl,_,_,rfl,rfl,(show (0:Int) < 26 by decide),_,_,_,rfl,rfl,(by decide),alpha_ix (k:=(n - 27) % 26) (by omega) (by omega),_,_,rfl,rfl,(show 2≤sizeLine by decide),?_⟩
     have e:IhPlace.letters n = [97 + (n - 27) / 26,97 + (n - 27) % 26]:=by
      unfold IhPlace.letters
      rw [if_neg (by omega)]
      congr 1
      · omega
      · congr 1
        omega
     rw [e] at q
     exact q
theorem str_num (n:Nat):Str.ofString (toString ((n:Nat):Int)) = S (IhPlace.digits n):=ext_S (TL.tl_num n)
theorem log_small {n:Nat} (h:n < 2 ^ 64):((n:Int)).natAbs.log2 < 1920:=by
 rw [Int.natAbs_natCast]
 by_cases h0:n = 0
 · rw [h0]
   decide
 · exact Nat.lt_trans ((Nat.log2_lt h0).mpr h) (by decide)
def sp_number_text:Sp:=fun vs H Q _=>∃ s n:Nat,vs = [.int (s:Int),.int (n:Int)]∧Bk.NumOk s n∧Q (.str (S (IhPlace.numberIn s n))) H
theorem int_eq {i j:Int}:(V.int i = V.int j) = (i = j):=by simp
theorem num_le {s n:Nat} (h:Bk.NumOk s n):n≤99999:=Nat.le_trans h.2.2 (Bk.most_le s)
theorem roman_short {n:Nat}:(Bk.roman n).length≤16:=by
 have l1:=tab_len (tab:=Bk.thous) rfl (n / 1000)
 have l2:=tab_len (tab:=Bk.hunds) rfl (n / 100 % 10)
 have l3:=tab_len (tab:=Bk.tens) rfl (n / 10 % 10)
 have l4:=tab_len (tab:=Bk.ones) rfl (n % 10)
 rw [S_len] at l1 l2 l3 l4
 unfold Bk.roman
 simp only [List.length_append]
 omega
theorem ok_number_text (T:Txt K mg a):FnOk P w K mg base CX0 2 a.number_text.f a.number_text.d ["style","number"] (sp_number_text):=by
 have sc:FnScope ["style","number"] ["style","number"] (defScope s_number_text):=⟨rfl,rfl,rfl,by decide +kernel,rfl,by decide +kernel,by decide +kernel⟩
 refine T.number_text.fn.ok sc (fun vs H Q E h=>?_) (fun cdv A outer s H vs Q E hr h=>?_)
 · obtain ⟨_,_,rfl,_⟩:=h
   rfl
 · obtain ⟨s,n,rfl,hn,q⟩:=h
   refine ⟨_,(pss_cons (ps_if (pt_cmpR op_eq (pv 0) (pe_gv T.g_DIGITS) (nomark _))
     (pss_one (ps_ret (pe_callTy call_str_int (by rfl) T.b_str PyProof.Rows.boot_str (pa_1 (pv 1)))))
     pss_nil)
    (pss_cons (ps_if (pt_cmpR op_eq (pv 0) (pe_gv T.g_SMALL_ROMAN) (nomark _))
     (pss_one (ps_ret (pe_call (ok_small_roman T) (hr.mono (by decide)) rfl T.small_roman.m T.small_roman.fn.kp T.small_roman.b .nil pass0 (pa_1 (pv 1)))))
     pss_nil)
    (pss_cons (ps_if (pt_cmpR op_eq (pv 0) (pe_gv T.g_CAPITAL_ROMAN) (nomark _))
     (pss_one (ps_ret (pe_upper (pe_call (ok_small_roman T) (hr.mono (by decide)) rfl T.small_roman.m T.small_roman.fn.kp T.small_roman.b .nil pass0 (pa_1 (pv 1))))))
     pss_nil)
    (pss_one (ps_ret (pe_call (ok_letters_of T) (hr.mono (by decide)) rfl T.letters_of.m T.letters_of.fn.kp T.letters_of.b .nil pass0 (pa_1 (pv 1)))))))),?_⟩
   have hl:=num_le hn
   refine ⟨_,rfl,rfl,_,rfl,ite2 (fun h=>?_) (fun h=>?_)⟩
   · have h:=of_decide_eq_true h
     rw [int_eq] at h
     have h:s = 0:=by omega
     subst h
     refine ⟨_,rfl,_,rfl,log_small (Nat.lt_of_le_of_lt hl (by decide)),?_⟩
     show Q (.str (Str.ofString (toString ((n:Nat):Int)))) H
     rw [str_num]
     exact q
   · have h:=dne h
     rw [int_eq] at h
     refine ⟨_,rfl,rfl,_,rfl,ite2 (fun h2=>?_) (fun h2=>?_)⟩
     · have h2:=of_decide_eq_true h2
       rw [int_eq] at h2
       have h2:s = 1:=by omega
       subst h2
       have h4:n < 4000:=by have:=hn.2.2; have e:Bk.most 1 = 3999:=rfl; omega
       refine ⟨_,rfl,n,rfl,h4,?_⟩
       rw [← Bk.roman_eq h4]
       exact q
     · have h2:=dne h2
       rw [int_eq] at h2
       refine ⟨_,rfl,rfl,_,rfl,ite2 (fun h3=>?_) (fun h3=>?_)⟩
       · have h3:=of_decide_eq_true h3
         rw [int_eq] at h3
         have h3:s = 2:=by omega
         subst h3
         have h4:n < 4000:=by have:=hn.2.2; have e:Bk.most 2 = 3999:=rfl; omega
         refine ⟨_,rfl,n,rfl,h4,⟨_,rfl⟩,_,rfl,rfl,?_,?_⟩
         · rw [S_len]
           exact Nat.le_trans roman_short (by decide)
         · rw [upper_S (Bk.roman_low h4),← Bk.roman_eq h4]
           exact q
       · have h3:=dne h3
         rw [int_eq] at h3
         have h4:s = 3:=by have:=hn.1; omega
         subst h4
         exact ⟨_,rfl,n,rfl,hn.2.1,hn.2.2,q⟩
end
end Hp
namespace Hp
open PySem L2
section
variable {P:Program} {w:World} {K:PySem.W.Frag} {mg:Str→Option Value} {base:Heap} {a:Adr}
theorem runF_put (x:Run × Nat):putF "start" (.int (x.2:Int)) (putF "prefix" (.str (S x.1.pre)) (putF "count" (.int (x.1.count:Int)) (putF "last" (.int ((x.1.first:Int) + x.1.count - 1)) (putF "first" (.int (x.1.first:Int)) (putF "style" (.int (x.1.style:Int)) []))))) = runF x:=rfl
def Made (H H':Hp) (p:Addr):Prop:=∀ b o,H b = some o→b≠p→H' b = some o
def sp_Run_init (a:Adr):Sp:=fun vs H Q _=>∃ (p dx:Addr) (x:Run × Nat),vs = [.ref p,.int (x.1.style:Int),.int (x.1.first:Int),.int (x.1.count:Int),.str (S x.1.pre),.int (x.2:Int)]∧H p = some (.ins a.c_Run dx [])∧∀ H',RunAt a H' p x→Made H H' p→Q .non H'
theorem ok_Run_init (T:Txt K mg a):FnOk P w K mg base CX0 1 a.Run_init.f a.Run_init.d ["self","style","first","count","prefix","start"] (sp_Run_init a):=by
 have sc:FnScope ["self","style","first","count","prefix","start"] ["self","style","first","count","prefix","start"] (defScope s_Run_init):=⟨rfl,rfl,rfl,by decide +kernel,rfl,by decide +kernel,by decide +kernel⟩
 refine T.Run_init.fn.ok sc (fun vs H Q E h=>?_) (fun cdv A outer s H vs Q E hr h=>?_)
 · obtain ⟨_,_,_,rfl,_⟩:=h
   rfl
 · obtain ⟨p,dx,x,rfl,hp,k⟩:=h
   refine ⟨_,(pss_cons (ps_fld (pv 0) (pv 1) rfl)
    (pss_cons (ps_fld (pv 0) (pv 2) rfl)
    (pss_cons (ps_fld (pv 0) (pe_op op_sub (pe_op op_add (pv 2) (pv 3)) pe_int) rfl)
    (pss_cons (ps_fld (pv 0) (pv 3) rfl)
    (pss_cons (ps_fld (pv 0) (pv 4) rfl)
    (pss_one (ps_fld (pv 0) (pv 5) rfl))))))),?_⟩
   refine ⟨_,rfl,_,rfl,p,a.c_Run,dx,_,rfl,hp,T.c_Run.cl,T.n_Run_style,(by show 0 < 1000; decide),_,rfl,_,rfl,p,a.c_Run,dx,_,rfl,upd_same,T.c_Run.cl,T.n_Run_first,(by show 1 < 1000; decide),_,rfl,_,rfl,_,_,rfl,rfl,_,_,rfl,rfl,_,rfl,p,a.c_Run,dx,_,rfl,upd_same,T.c_Run.cl,T.n_Run_last,(by show 2 < 1000; decide),_,rfl,_,rfl,p,a.c_Run,dx,_,rfl,upd_same,T.c_Run.cl,T.n_Run_count,(by show 3 < 1000; decide),
    _,rfl,_,rfl,p,a.c_Run,dx,_,rfl,upd_same,T.c_Run.cl,T.n_Run_prefix,(by show 4 < 1000; decide),_,rfl,_,rfl,p,a.c_Run,dx,_,rfl,upd_same,T.c_Run.cl,T.n_Run_start,(by show 5 < 1000; decide),?_⟩
   refine k _ ⟨dx,Eq.trans upd_same (congrArg (fun q=>some (HO.ins a.c_Run dx q)) (runF_put x))⟩ fun b o e hb=>?_
   simp only [upd_ne hb]
   exact e
def sp_Run_has_index (a:Adr):Sp:=fun vs H Q _=>∃ (r:Addr) (x:Run × Nat) (i:Nat),vs = [.ref r,.int (i:Int)]∧RunAt a H r x∧Q (.bl (Bk.hasIx i x)) H
theorem ok_Run_has_index (T:Txt K mg a):FnOk P w K mg base CX0 1 a.Run_has_index.f a.Run_has_index.d ["self","index"] (sp_Run_has_index a):=by
 have sc:FnScope ["self","index"] ["self","index"] (defScope s_Run_has_index):=⟨rfl,rfl,rfl,by decide +kernel,rfl,by decide +kernel,by decide +kernel⟩
 refine T.Run_has_index.fn.ok sc (fun vs H Q E h=>?_) (fun cdv A outer s H vs Q E hr h=>?_)
 · obtain ⟨_,_,_,rfl,_⟩:=h
   rfl
 · obtain ⟨r,x,i,rfl,⟨dx,hr1⟩,q⟩:=h
   refine ⟨_,(pss_one (ps_ret (pe_chain op_le op_lt (pe_fld (pv 0) rfl) (pv 1) (pe_op op_add (pe_fld (pv 0) rfl) (pe_fld (pv 0) rfl))))),?_⟩
   refine ⟨_,rfl,_,_,_,_,_,rfl,hr1,T.c_Run.cl,T.n_Run_start,rf_start x,_,rfl,_,_,rfl,rfl,_,rfl,ite2 (fun h=>?_) (fun h=>?_)⟩
   · have h:=of_decide_eq_true h
     refine ⟨_,rfl,_,_,_,_,_,rfl,hr1,T.c_Run.cl,T.n_Run_start,rf_start x,_,rfl,_,_,_,_,_,rfl,hr1,T.c_Run.cl,T.n_Run_count,rf_count x,_,_,rfl,rfl,_,_,rfl,rfl,?_⟩
     have e:decide ((i:Int) < (x.2:Int) + (x.1.count:Int)) = Bk.hasIx i x:=by
      unfold Bk.hasIx
      rw [Bool.eq_iff_iff]
      simp only [decide_eq_true_eq,Bool.and_eq_true]
      omega
     rw [← e] at q
     exact q
   · have e:false = Bk.hasIx i x:=by
      unfold Bk.hasIx
      symm
      rw [Bool.and_eq_false_iff]
      refine .inl (decide_eq_false fun z=>h (decide_eq_true ?_))
      omega
     rw [← e] at q
     exact q
def sp_Run_has_number (a:Adr):Sp:=fun vs H Q _=>∃ (r:Addr) (x:Run × Nat) (n:Nat),vs = [.ref r,.int (n:Int)]∧RunAt a H r x∧Q (.bl (decide (x.1.first≤n∧n < x.1.first + x.1.count))) H
theorem ok_Run_has_number (T:Txt K mg a):FnOk P w K mg base CX0 1 a.Run_has_number.f a.Run_has_number.d ["self","number"] (sp_Run_has_number a):=by
 have sc:FnScope ["self","number"] ["self","number"] (defScope s_Run_has_number):=⟨rfl,rfl,rfl,by decide +kernel,rfl,by decide +kernel,by decide +kernel⟩
 refine T.Run_has_number.fn.ok sc (fun vs H Q E h=>?_) (fun cdv A outer s H vs Q E hr h=>?_)
 · obtain ⟨_,_,_,rfl,_⟩:=h
   rfl
 · obtain ⟨r,x,i,rfl,⟨dx,hr1⟩,q⟩:=h
   refine ⟨_,(pss_one (ps_ret (pe_chain op_le op_le (pe_fld (pv 0) rfl) (pv 1) (pe_fld (pv 0) rfl)))),?_⟩
   refine ⟨_,rfl,_,_,_,_,_,rfl,hr1,T.c_Run.cl,T.n_Run_first,rf_first x,_,rfl,_,_,rfl,rfl,_,rfl,ite2 (fun h=>?_) (fun h=>?_)⟩
   · have h:=of_decide_eq_true h
     refine ⟨_,rfl,_,_,_,_,_,rfl,hr1,T.c_Run.cl,T.n_Run_last,rf_last x,_,_,rfl,rfl,?_⟩
     have e:decide ((i:Int)≤(x.1.first:Int) + x.1.count - 1) = decide (x.1.first≤i∧i < x.1.first + x.1.count):=by
      rw [Bool.eq_iff_iff]
      simp only [decide_eq_true_eq]
      omega
     rw [← e] at q
     exact q
   · have e:false = decide (x.1.first≤i∧i < x.1.first + x.1.count):=by
      symm
      refine decide_eq_false fun z=>h (decide_eq_true ?_)
      omega
     rw [← e] at q
     exact q
def sp_Run_number_at (a:Adr):Sp:=fun vs H Q _=>∃ (r:Addr) (x:Run × Nat) (i:Nat),vs = [.ref r,.int (i:Int)]∧RunAt a H r x∧x.2≤i∧Q (.int ((x.1.first + (i - x.2):Nat):Int)) H
theorem ok_Run_number_at (T:Txt K mg a):FnOk P w K mg base CX0 1 a.Run_number_at.f a.Run_number_at.d ["self","index"] (sp_Run_number_at a):=by
 have sc:FnScope ["self","index"] ["self","index"] (defScope s_Run_number_at):=⟨rfl,rfl,rfl,by decide +kernel,rfl,by decide +kernel,by decide +kernel⟩
 refine T.Run_number_at.fn.ok sc (fun vs H Q E h=>?_) (fun cdv A outer s H vs Q E hr h=>?_)
 · obtain ⟨_,_,_,rfl,_⟩:=h
   rfl
 · obtain ⟨r,x,i,rfl,⟨dx,hr1⟩,hi,q⟩:=h
   refine ⟨_,(pss_one (ps_ret (pe_op op_sub (pe_op op_add (pe_fld (pv 0) rfl) (pv 1)) (pe_fld (pv 0) rfl)))),?_⟩
   refine ⟨_,rfl,_,_,_,_,_,rfl,hr1,T.c_Run.cl,T.n_Run_first,rf_first x,_,rfl,_,_,rfl,rfl,_,rfl,_,_,_,_,_,rfl,hr1,T.c_Run.cl,T.n_Run_start,rf_start x,_,_,rfl,rfl,?_⟩
   have e:(x.1.first:Int) + (i:Int) - (x.2:Int) = ((x.1.first + (i - x.2):Nat):Int):=by omega
   rw [← e] at q
   exact q
def sp_Run_index_at (a:Adr):Sp:=fun vs H Q _=>∃ (r:Addr) (x:Run × Nat) (n:Nat),vs = [.ref r,.int (n:Int)]∧RunAt a H r x∧x.1.first≤n∧Q (.int ((x.2 + (n - x.1.first):Nat):Int)) H
theorem ok_Run_index_at (T:Txt K mg a):FnOk P w K mg base CX0 1 a.Run_index_at.f a.Run_index_at.d ["self","number"] (sp_Run_index_at a):=by
 have sc:FnScope ["self","number"] ["self","number"] (defScope s_Run_index_at):=⟨rfl,rfl,rfl,by decide +kernel,rfl,by decide +kernel,by decide +kernel⟩
 refine T.Run_index_at.fn.ok sc (fun vs H Q E h=>?_) (fun cdv A outer s H vs Q E hr h=>?_)
 · obtain ⟨_,_,_,rfl,_⟩:=h
   rfl
 · obtain ⟨r,x,i,rfl,⟨dx,hr1⟩,hi,q⟩:=h
   refine ⟨_,(pss_one (ps_ret (pe_op op_sub (pe_op op_add (pe_fld (pv 0) rfl) (pv 1)) (pe_fld (pv 0) rfl)))),?_⟩
   refine ⟨_,rfl,_,_,_,_,_,rfl,hr1,T.c_Run.cl,T.n_Run_start,rf_start x,_,rfl,_,_,rfl,rfl,_,rfl,_,_,_,_,_,rfl,hr1,T.c_Run.cl,T.n_Run_first,rf_first x,_,_,rfl,rfl,?_⟩
   have e:(x.2:Int) + (i:Int) - (x.1.first:Int) = ((x.2 + (i - x.1.first):Nat):Int):=by omega
   rw [← e] at q
   exact q
theorem numberIn_short {s n:Nat} (h:Bk.NumOk s n):(IhPlace.numberIn s n).length≤16:=by
 obtain ⟨h1,h2,h3⟩:=h
 revert h3
 refine Bk.style_cases (P:=fun s=>n≤Bk.most s→(IhPlace.numberIn s n).length≤16) h1 ?_ ?_ ?_ ?_
 · intro h3
   have h3:n≤99999:=h3
   exact Nat.le_trans ((Bk.digits_le n 5 (by decide)).mpr (by omega)) (by decide)
 · intro h3
   have h3:n≤3999:=h3
   show (IhPlace.romanFrom IhPlace.ROMAN n).length≤16
   rw [Bk.roman_eq (by omega)]
   exact roman_short
 · intro h3
   have h3:n≤3999:=h3
   show ((IhPlace.romanFrom IhPlace.ROMAN n).map fun (c:Nat)=>c - 32).length≤16
   rw [List.length_map,Bk.roman_eq (by omega)]
   exact roman_short
 · intro _
   show (IhPlace.letters n).length≤16
   unfold IhPlace.letters
   split <;> simp
theorem name_short {r:Run} {n:Nat} (hp:r.pre.length≤4) (h:Bk.NumOk r.style n):(r.name n).length≤20:=by
 have:=numberIn_short h
 unfold IhPlace.Run.name
 rw [List.length_append]
 omega
def sp_Run_name_at (a:Adr):Sp:=fun vs H Q _=>∃ (r:Addr) (x:Run × Nat) (i:Nat),vs = [.ref r,.int (i:Int)]∧RunAt a H r x∧x.2≤i∧x.1.pre.length≤4∧Bk.NumOk x.1.style (x.1.first + (i - x.2))∧Q (.str (S (x.1.name (x.1.first + (i - x.2))))) H
theorem ok_Run_name_at (T:Txt K mg a):FnOk P w K mg base CX0 3 a.Run_name_at.f a.Run_name_at.d ["self","index"] (sp_Run_name_at a):=by
 have sc:FnScope ["self","index"] ["self","index"] (defScope s_Run_name_at):=⟨rfl,rfl,rfl,by decide +kernel,rfl,by decide +kernel,by decide +kernel⟩
 refine T.Run_name_at.fn.ok sc (fun vs H Q E h=>?_) (fun cdv A outer s H vs Q E hr h=>?_)
 · obtain ⟨_,_,_,rfl,_⟩:=h
   rfl
 · obtain ⟨r,x,i,rfl,⟨dx,hr1⟩,hi,hp,hn,q⟩:=h
   refine ⟨_,(pss_one (ps_ret (pe_op op_add_str (pe_fld (pv 0) rfl) (pe_call (ok_number_text T) (hr.mono (by decide)) rfl T.number_text.m T.number_text.fn.kp T.number_text.b .nil pass0 (pa_2 (pe_fld (pv 0) rfl) (pe_meth (pv 0) T.c_Run.cl T.Run_number_at.m (ok_Run_number_at T) (hr.mono (by decide)) T.Run_number_at.b .nil pass0 (pa_1 (pv 1)))))))),?_⟩
   have hsh:=numberIn_short hn
   refine ⟨_,rfl,_,_,_,_,_,rfl,hr1,T.c_Run.cl,T.n_Run_prefix,rf_prefix x,_,rfl,_,_,_,_,_,rfl,hr1,T.c_Run.cl,T.n_Run_style,rf_style x,_,rfl,_,_,_,rfl,hr1,rfl,_,rfl,r,x,i,rfl,⟨dx,hr1⟩,hi,x.1.style,x.1.first + (i - x.2),rfl,hn,_,_,rfl,rfl,?_,?_⟩
   · rw [S_len,S_len]
     have:sizeLine = 16777216:=rfl
     omega
   · rw [S_app]
     exact q
end
end Hp
namespace Hp
open PySem L2
section
variable {P:Program} {w:World} {K:PySem.W.Frag} {mg:Str→Option Value} {base:Heap} {a:Adr}
def But (ls:List Addr) (H H':Hp):Prop:=∀ b o,H b = some o→b ∉ ls→H' b = some o
theorem textsV_snoc (i n:Nat):textsV i n ++ [.str (S (IhPlace.numberIn i (n + 1)))] = textsV i (n + 1):=by
 unfold textsV
 rw [List.range_succ,List.map_append]
 rfl
theorem textsV_len (i n:Nat):(textsV i n).length = n + 1:=by simp [textsV]
theorem textsV_cut {i n f l:Nat} (h1:1≤f) (h2:f≤l + 1) (h3:l≤n):cutV (textsV i n) (some (f:Int)) (some ((l:Int) + 1)) = (List.range (l + 1 - f)).map fun j=>V.str (S (IhPlace.numberIn i (f + j))):=by
 unfold cutV
 rw [textsV_len]
 have e1:HT.sIx (n + 1) 0 (some (f:Int)) = f:=by
  show (if (f:Int) < 0 then ((f:Int) + ((n + 1:Nat):Int)).toNat else min (f:Int).toNat (n + 1)) = f
  rw [if_neg (by omega)]
  omega
 have e2:HT.sIx (n + 1) (n + 1) (some ((l:Int) + 1)) = l + 1:=by
  show (if (l:Int) + 1 < 0 then ((l:Int) + 1 + ((n + 1:Nat):Int)).toNat else min ((l:Int) + 1).toNat (n + 1)) = l + 1
  rw [if_neg (by omega)]
  omega
 rw [e1,e2]
 apply List.ext_getElem?
 intro j
 by_cases hj:j < l + 1 - f
 · rw [List.getElem?_take_of_lt hj,List.getElem?_drop,List.getElem?_map,List.getElem?_range hj]
   unfold textsV
   obtain ⟨m,hm⟩:∃ m,f + j = m + 1:=⟨f + j - 1,by omega⟩
   rw [hm,List.getElem?_cons_succ,List.getElem?_map,List.getElem?_range (by omega)]
   show some (V.str (S (IhPlace.numberIn i (m + 1)))) = some (V.str (S (IhPlace.numberIn i (f + j))))
   rw [hm]
 · rw [List.getElem?_eq_none (by rw [List.length_take]; omega),List.getElem?_eq_none (by simp; omega)]
def sp_Numerals_stretch (a:Adr):Sp:=fun vs H Q _=>∃ (nm:Addr) (ls:List Addr) (s f l:Nat),vs = [.ref nm,.int (s:Int),.int (f:Int),.int (l:Int)]∧NumsAt a H nm ls∧s≤3∧1≤f∧f≤l + 1∧l≤Bk.most s ∧
 ∀ H' r,NumsAt a H' nm ls→But ls H H'→H' r = some (.lst ((List.range (l + 1 - f)).map fun j=>V.str (S (IhPlace.numberIn s (f + j)))))→H r = none→r ∉ ls→Q (.ref r) H'
theorem ok_Numerals_stretch (T:Txt K mg a):FnOk P w K mg base CX0 3 a.Numerals_stretch.f a.Numerals_stretch.d ["self","style","first","last"] (sp_Numerals_stretch a):=by
 have sc:FnScope ["self","style","first","last","texts"] ["self","style","first","last"] (defScope s_Numerals_stretch):=⟨rfl,rfl,rfl,by decide +kernel,rfl,by decide +kernel,by decide +kernel⟩
 refine T.Numerals_stretch.fn.ok sc (fun vs H Q E h=>?_) (fun cdv A outer s H vs Q E hr h=>?_)
 · obtain ⟨_,_,_,_,_,rfl,_⟩:=h
   rfl
 · obtain ⟨nm,ls,s,f,l,rfl,hN,hs,hf,hfl,hl,k⟩:=h
   refine ⟨_,(pss_cons (ps_set (i:=4) sc.nd rfl (Or.inl rfl) (pe_ix ix_list (pe_fld (pv 0) rfl) (pv 1) (fun _ _=>rfl)))
    (pss_cons (ps_while PassesOwn.never (pt_cmpR op_le (pe_callB call_len_seq (by rfl) T.b_len PySem.boot_len (pa_1 (pv 4))) (pv 3) (nomark _))
     (pss_one (ps_expr (pe_bm PySem.F.plainAttrs_list PySem.F.slot_list_append PySem.F.type_list_append mt_append (pv 4) (pa_1 (pe_call (ok_number_text T) (hr.mono (by decide)) rfl T.number_text.m T.number_text.fn.kp T.number_text.b .nil pass0 (pa_2 (pv 1) (pe_callB call_len_seq (by rfl) T.b_len PySem.boot_len (pa_1 (pv 4))))))))))
    (pss_one (ps_ret (pe_slice sl_list (pv 4) (po_some (pv 2)) (po_some (pe_op op_add (pv 3) pe_int))))))),?_⟩
   obtain ⟨dx,L,h1,h2⟩:=hN.ob
   have hl4:=hN.len
   obtain ⟨t,ht⟩:∃ t,ls[s]? = some t:=⟨_,List.getElem?_eq_getElem (by omega)⟩
   obtain ⟨n0,hn0,hT⟩:=hN.at_ s t ht
   have htm:t∈ls:=List.mem_of_getElem? ht
   refine ⟨_,rfl,_,_,_,_,_,rfl,h1,T.c_Numerals.cl,T.n_Numerals_texts,nf_texts L,_,rfl,_,_,_,_,rfl,rfl,SqL.of h2,at_of (j:=s) rfl (by rw [List.getElem?_map,ht]; rfl),?_⟩
   have hmost:=Bk.most_le s
   have hz:sizeLine = 16777216:=rfl
   refine ⟨fun m σ H1=>∃ n,σ = [some (.ref nm),some (.int (s:Int)),some (.int (f:Int)),some (.int (l:Int)),some (.ref t)]∧n≤Bk.most s∧H1 t = some (.lst (textsV s n))∧(∀ b o,H b = some o→b≠t→H1 b = some o)∧m = l - n,⟨_,n0,rfl,hn0,hT,fun b o e _=>e,rfl⟩,?_⟩
   rintro m σ H1 ⟨n,rfl,hn,hT1,hk1,rfl⟩
   refine ⟨_,rfl,_,_,rfl,.inl (SqL.of hT1),_,rfl,_,_,rfl,rfl,_,rfl,ite2 (fun h=>?_) (fun h=>?_)⟩
   · have h:=of_decide_eq_true h
     rw [textsV_len] at h
     have hnl:n + 1≤l:=by omega
     refine ⟨fun σ H1=>∃ m' n,m' < l - _∧σ = [some (.ref nm),some (.int (s:Int)),some (.int (f:Int)),some (.int (l:Int)),some (.ref t)]∧n≤Bk.most s∧H1 t = some (.lst (textsV s n))∧(∀ b o,H b = some o→b≠t→H1 b = some o)∧m' = l - n,fun σ' H' ⟨m',n',q1,q2,q3,q4,q5,q6⟩=>⟨m',q1,n',q2,q3,q4,q5,q6⟩,?_⟩
     refine ⟨_,rfl,.inl ⟨rfl,_,SqL.of hT1⟩,_,rfl,_,rfl,_,_,rfl,.inl (SqL.of hT1),s,n + 1,?_,⟨hs,by omega,by omega⟩,t,_,_,rfl,rfl,hT1,?_,?_⟩
     · rw [textsV_len]
       rfl
     · rw [textsV_len]
       omega
     · refine ⟨l - (n + 1),n + 1,by omega,rfl,by omega,?_,fun b o e hb=>by rw [upd_ne hb]; exact hk1 b o e hb,rfl⟩
       rw [upd_same,textsV_snoc]
   · have h:=dne h
     rw [textsV_len] at h
     refine ⟨_,rfl,_,rfl,_,rfl,_,rfl,_,_,rfl,rfl,_,rfl,_,_,rfl,SqL.of hT1,fun r hr=>?_⟩
     rw [textsV_cut hf hfl (by omega)]
     have hrn:∀ b o,H b = some o→b≠r:=fun b o e=>by
      by_cases hb:b = t
      · subst hb; exact ne_of_none hT1 hr
      · exact ne_of_none (hk1 b o e hb) hr
     have hr0:H r = none:=by
      cases e:H r with
      | none=>rfl
      | some o=>exact absurd rfl (hrn r o e)
     have hrl:r ∉ ls:=fun hm=>by
      obtain ⟨i,hi⟩:=List.mem_iff_getElem?.mp hm
      obtain ⟨_,_,e⟩:=hN.at_ i r hi
      rw [hr0] at e
      cases e
     have but:But ls H (upd H1 r (.lst ((List.range (l + 1 - f)).map fun j=>V.str (S (IhPlace.numberIn s (f + j)))))):=fun b o e hb=>by
      rw [upd_ne (hrn b o e)]
      exact hk1 b o e fun z=>hb (z ▸ htm)
     have nm_ls:nm ∉ ls:=fun hm=>by
      obtain ⟨i,hi⟩:=List.mem_iff_getElem?.mp hm
      obtain ⟨_,_,e⟩:=hN.at_ i nm hi
      rw [h1] at e
      cases e
     have L_ls:L ∉ ls:=fun hm=>by
      obtain ⟨i,hi⟩:=List.mem_iff_getElem?.mp hm
      obtain ⟨_,_,e⟩:=hN.at_ i L hi
      rw [h2] at e
      obtain ⟨x,hx⟩:∃ x,ls[0]? = some x:=⟨_,List.getElem?_eq_getElem (by omega)⟩
      have e2:=congrArg (fun q=>match q with | some (HO.lst (v :: _))=>some v | _=>none) e
      cases ls with
      | nil=>cases hl4
      | cons x r=>cases e2
     refine k _ r ⟨⟨dx,L,but _ _ h1 nm_ls,but _ _ h2 L_ls⟩,hN.len,hN.nd,fun i x hi=>?_⟩ but upd_same hr0 hrl
     obtain ⟨n',g1,g2⟩:=hN.at_ i x hi
     by_cases hx:x = t
     · subst hx
       have hii:i = s:=by
        refine nd_ix hN.nd hi ht
       subst hii
       exact ⟨n,hn,by rw [upd_ne (hrn _ _ g2)]; exact hT1⟩
     · exact ⟨n',g1,by rw [upd_ne (hrn _ _ g2)]; exact hk1 x _ g2 hx⟩
end
end Hp
namespace Hp
open PySem L2
section
variable {P:Program} {w:World} {K:PySem.W.Frag} {mg:Str→Option Value} {base:Heap} {a:Adr}
def sp_Numerals_init (a:Adr):Sp:=fun vs H Q _=>∃ (p dx:Addr),vs = [.ref p]∧H p = some (.ins a.c_Numerals dx [])∧∀ H' ls,NumsAt a H' p ls→Made H H' p→Q .non H'
theorem ok_Numerals_init (T:Txt K mg a):FnOk P w K mg base CX0 1 a.Numerals_init.f a.Numerals_init.d ["self"] (sp_Numerals_init a):=by
 have sc:FnScope ["self"] ["self"] (defScope s_Numerals_init):=⟨rfl,rfl,rfl,by decide +kernel,rfl,by decide +kernel,by decide +kernel⟩
 refine T.Numerals_init.fn.ok sc (fun vs H Q E h=>?_) (fun cdv A outer s H vs Q E hr h=>?_)
 · obtain ⟨_,_,rfl,_⟩:=h
   rfl
 · obtain ⟨p,dx,rfl,hp,k⟩:=h
   refine ⟨_,(pss_one (ps_fld (pv 0) (pe_lst (pa_4 (pe_lst (pa_1 pe_str)) (pe_lst (pa_1 pe_str)) (pe_lst (pa_1 pe_str)) (pe_lst (pa_1 pe_str)))) rfl)),?_⟩
   refine ⟨by decide,fun l0 n0=>⟨by decide,fun l1 n1=>⟨by decide,fun l2 n2=>⟨by decide,fun l3 n3=>⟨(by show 4≤sizeLine; decide),fun l nl=>?_⟩⟩⟩⟩⟩
   have p0:p≠l0:=ne_of_none hp n0
   have hp1:=(upd_ne (o:=.lst [V.str ""]) p0).trans hp
   have p1:p≠l1:=ne_of_none hp1 n1
   have hp2:=(upd_ne (o:=.lst [V.str ""]) p1).trans hp1
   have p2:p≠l2:=ne_of_none hp2 n2
   have hp3:=(upd_ne (o:=.lst [V.str ""]) p2).trans hp2
   have p3:p≠l3:=ne_of_none hp3 n3
   have hp4:=(upd_ne (o:=.lst [V.str ""]) p3).trans hp3
   have p4:p≠l:=ne_of_none hp4 nl
   have hp5:=(upd_ne (o:=.lst [V.ref l0,V.ref l1,V.ref l2,V.ref l3]) p4).trans hp4
   have a01:l0≠l1:=ne_of_none upd_same n1
   have a02:l0≠l2:=ne_of_none ((upd_ne a01).trans upd_same) n2
   have a03:l0≠l3:=ne_of_none ((upd_ne a02).trans ((upd_ne a01).trans upd_same)) n3
   have a04:l0≠l:=ne_of_none ((upd_ne a03).trans ((upd_ne a02).trans ((upd_ne a01).trans upd_same))) nl
   have a12:l1≠l2:=ne_of_none upd_same n2
   have a13:l1≠l3:=ne_of_none ((upd_ne a12).trans upd_same) n3
   have a14:l1≠l:=ne_of_none ((upd_ne a13).trans ((upd_ne a12).trans upd_same)) nl
   have a23:l2≠l3:=ne_of_none upd_same n3
   have a24:l2≠l:=ne_of_none ((upd_ne a23).trans upd_same) nl
   have a34:l3≠l:=ne_of_none upd_same nl
   refine ⟨_,rfl,p,a.c_Numerals,dx,_,rfl,hp5,T.c_Numerals.cl,T.n_Numerals_texts,(by show 0 < 1000; decide),?_⟩
   have keep:∀ b o,H b = some o→b≠l0∧b≠l1∧b≠l2∧b≠l3∧b≠l:=fun b o e=>by
    have e0:b≠l0:=ne_of_none e n0
    have f1:=(upd_ne (o:=.lst [V.str ""]) e0).trans e
    have e1:b≠l1:=ne_of_none f1 n1
    have f2:=(upd_ne (o:=.lst [V.str ""]) e1).trans f1
    have e2:b≠l2:=ne_of_none f2 n2
    have f3:=(upd_ne (o:=.lst [V.str ""]) e2).trans f2
    have e3:b≠l3:=ne_of_none f3 n3
    have f4:=(upd_ne (o:=.lst [V.str ""]) e3).trans f3
    exact ⟨e0,e1,e2,e3,ne_of_none f4 nl⟩
   refine k _ [l0,l1,l2,l3] ⟨⟨dx,l,upd_same,?_⟩,rfl,?_,?_⟩ ?_
   · rw [upd_ne p4.symm,upd_same]
     rfl
   · simp [a01,a02,a03,a12,a13,a23]
   · intro i x e
     match i,e with
     | 0,e =>
       obtain rfl:l0 = x:=Option.some.inj e
       exact ⟨0,Nat.zero_le _,by rw [upd_ne p0.symm,upd_ne a04,upd_ne a03,upd_ne a02,upd_ne a01,upd_same]; rfl⟩
     | 1,e =>
       obtain rfl:l1 = x:=Option.some.inj e
       exact ⟨0,Nat.zero_le _,by rw [upd_ne p1.symm,upd_ne a14,upd_ne a13,upd_ne a12,upd_same]; rfl⟩
     | 2,e =>
       obtain rfl:l2 = x:=Option.some.inj e
       exact ⟨0,Nat.zero_le _,by rw [upd_ne p2.symm,upd_ne a24,upd_ne a23,upd_same]; rfl⟩
     | 3,e =>
       obtain rfl:l3 = x:=Option.some.inj e
       exact ⟨0,Nat.zero_le _,by rw [upd_ne p3.symm,upd_ne a34,upd_same]; rfl⟩
     | i + 4,e=>simp at e
   · intro b o e hb
     obtain ⟨k0,k1,k2,k3,k4⟩:=keep b o e
     rw [upd_ne hb,upd_ne k4,upd_ne k3,upd_ne k2,upd_ne k1,upd_ne k0]
     exact e
end
end Hp
namespace Hp
open PySem L2
section
variable {P:Program} {w:World} {K:PySem.W.Frag} {mg:Str→Option Value} {base:Heap} {a:Adr}
def sp_Book_run_at (a:Adr):Sp:=fun vs H Q _=>∃ (b:Addr) (bk:Book) (i:Nat),vs = [.ref b,.int (i:Int)]∧BookV a H b bk∧∀ v,OptRun a H (Bk.runAt bk i) v→Q v H
theorem ok_Book_run_at (T:Txt K mg a):FnOk P w K mg base CX0 2 a.Book_run_at.f a.Book_run_at.d ["self","index"] (sp_Book_run_at a):=by
 have sc:FnScope ["self","index","run"] ["self","index"] (defScope s_Book_run_at):=⟨rfl,rfl,rfl,by decide +kernel,rfl,by decide +kernel,by decide +kernel⟩
 refine T.Book_run_at.fn.ok sc (fun vs H Q E h=>?_) (fun cdv A outer s H vs Q E hr h=>?_)
 · obtain ⟨_,_,_,rfl,_⟩:=h
   rfl
 · obtain ⟨b,bk,i,rfl,⟨nm,rs,ld,ls,hB⟩,k⟩:=h
   refine ⟨_,(pss_cons (ps_for PassesOwn.never rfl (pi_list (pe_fld (pv 0) rfl)) (pg_name (i:=2) sc.nd rfl (Or.inl rfl))
     (pss_one (ps_if (pt_val (pe_meth (pv 2) T.c_Run.cl T.Run_has_index.m (ok_Run_has_index T) (hr.mono (by decide)) T.Run_has_index.b .nil pass0 (pa_1 (pv 1))))
      (pss_one (ps_ret (pv 2)))
      pss_nil)))
    (pss_one (ps_ret pe_non))),?_⟩
   obtain ⟨dx,hb⟩:=hB.ob
   obtain ⟨as,h1,h2⟩:=hB.runs
   refine ⟨_,rfl,_,_,_,_,_,rfl,hb,T.c_Book.cl,T.n_Book_runs,bf_runs _ _ _ _,rs,rfl,⟨_,SqL.of h1⟩,for_list (xs:=as.map V.ref) (fun j σ H'=>H' = H∧(∃ v,σ = [some (.ref b),some (.int (i:Int)),v])∧((Bk.ws 0 bk).take j).find? (Bk.hasIx i) = none) ⟨rfl,⟨_,rfl⟩,rfl⟩ (fun j σ H' _ p=>by obtain ⟨rfl,_⟩:=p; exact SqL.of h1) ?_ ?_⟩
   · rintro j x σ H' hx ⟨rfl,⟨v,rfl⟩,hno⟩
     rw [List.getElem?_map] at hx
     obtain ⟨r,hr1,rfl⟩:=Option.map_eq_some_iff.mp hx
     obtain ⟨y,hy,hR⟩:=pair_at h2 hr1
     obtain ⟨dr,hR1⟩:=id hR
     refine ⟨_,rfl,_,_,_,rfl,hR1,rfl,_,rfl,r,y,i,rfl,hR,_,rfl,ite2 (fun h=>?_) (fun h=>?_)⟩
     · refine ⟨_,rfl,k _ ?_⟩
       have e:Bk.runAt bk i = some y:=by
        unfold Bk.runAt
        have ht:(Bk.ws 0 bk).take (j + 1) = (Bk.ws 0 bk).take j ++ [y]:=by rw [List.take_add_one,hy]; rfl
        rw [← List.take_append_drop (j + 1) (Bk.ws 0 bk),List.find?_append,ht,List.find?_append,hno]
        simp [List.find?_cons,h]
       rw [e]
       exact ⟨r,rfl,hR⟩
     · refine ⟨rfl,⟨_,rfl⟩,?_⟩
       have ht:(Bk.ws 0 bk).take (j + 1) = (Bk.ws 0 bk).take j ++ [y]:=by rw [List.take_add_one,hy]; rfl
       rw [ht,List.find?_append,hno]
       simp [List.find?_cons,h]
   · rintro σ H' ⟨rfl,_,hno⟩
     refine k _ ?_
     have e:Bk.runAt bk i = none:=by
      unfold Bk.runAt
      rw [List.length_map,Paired.len h2,List.take_length] at hno
      exact hno
     rw [e]
     rfl
theorem valV_map {κ:Type} [DecidableEq κ] {α:Type} (f:α→κ) (g:α→V) (k:κ):∀ l:List α,valV (l.map fun x=>(f x,g x)) k = (l.find? fun x=>decide (f x = k)).map g
 | []=>rfl
 | x :: l=>by
   rw [List.map_cons,List.find?_cons]
   by_cases h:f x = k
   · rw [valV_pos h,decide_eq_true h]
     rfl
   · rw [valV_neg h,decide_eq_false h,valV_map f g k l]
theorem letK_at (bk:Book) (s:Bytes):valV (letK bk) (Sum.inr (S s)) = ((Bk.lets 0 bk).find? fun x=>decide (x.1 = s)).map fun x=>V.int (x.2:Int):=by
 unfold letK
 rw [valV_map (fun x:Bytes × Nat=>(Sum.inr (S x.1):Key)) (fun x=>V.int (x.2:Int))]
 congr 2
 funext x
 have:((Sum.inr (S x.1):Key) = Sum.inr (S s)) = (x.1 = s):=propext ⟨fun h=>S_inj (Sum.inr.inj h),fun h=>by rw [h]⟩
 simp only [this]
theorem letK_none {bk:Book} {s:Bytes}:valV (letK bk) (Sum.inr (S s)) = none↔s ∉ (Bk.lets 0 bk).map (·.1):=by
 rw [letK_at,Option.map_eq_none_iff,List.find?_eq_none]
 constructor
 · intro h hm
   obtain ⟨x,hx,e⟩:=List.mem_map.mp hm
   exact h x hx (decide_eq_true e)
 · intro h x hx e
   exact h (List.mem_map.mpr ⟨x,hx,of_decide_eq_true e⟩)
theorem letK_some {bk:Book} {s:Bytes} {v:V} (h:valV (letK bk) (Sum.inr (S s)) = some v):∃ j,(s,j)∈Bk.lets 0 bk∧v = .int (j:Int):=by
 rw [letK_at] at h
 obtain ⟨x,hx,e⟩:=Option.map_eq_some_iff.mp h
 have h1:=List.find?_some hx
 have h2:=List.mem_of_find?_eq_some hx
 have h1:x.1 = s:=of_decide_eq_true h1
 exact ⟨x.2,by rw [← h1]; exact h2,e.symm⟩
def hasLet (bk:Book) (s:Bytes):Bool:=(valV (letK bk) (Sum.inr (S s))).isSome
def sp_Book_has_lettered (K:PySem.W.Frag) (a:Adr):Sp:=fun vs H Q _=>∃ (b l:Addr) (bk:Book) (ns:List Bytes),vs = [.ref b,.ref l]∧BookV a H b bk∧SqL K H l (ns.map fun s=>V.str (S s))∧Q (.bl (ns.any (hasLet bk))) H
theorem ok_Book_has_lettered (T:Txt K mg a):FnOk P w K mg base CX0 1 a.Book_has_lettered.f a.Book_has_lettered.d ["self","names"] (sp_Book_has_lettered K a):=by
 have sc:FnScope ["self","names","name"] ["self","names"] (defScope s_Book_has_lettered):=⟨rfl,rfl,rfl,by decide +kernel,rfl,by decide +kernel,by decide +kernel⟩
 refine T.Book_has_lettered.fn.ok sc (fun vs H Q E h=>?_) (fun cdv A outer s H vs Q E hr h=>?_)
 · obtain ⟨_,_,_,_,rfl,_⟩:=h
   rfl
 · obtain ⟨b,l,bk,ns,rfl,⟨nm,rs,ld,ls,hB⟩,hl,q⟩:=h
   have hu:=hu_of hr
   refine ⟨_,(pss_cons (ps_for PassesOwn.never rfl (pi_list (pv 1)) (pg_name (i:=2) sc.nd rfl (Or.inl rfl))
     (pss_one (ps_if (pt_cmp (pc_din hu (pv 2) (pe_fld (pv 0) rfl)))
      (pss_one (ps_ret pe_bl))
      pss_nil)))
    (pss_one (ps_ret pe_bl))),?_⟩
   obtain ⟨dx,hb⟩:=hB.ob
   refine ⟨_,rfl,l,rfl,⟨_,hl⟩,for_list (xs:=ns.map fun s=>V.str (S s)) (fun j σ H'=>H' = H∧(∃ v,σ = [some (.ref b),some (.ref l),v])∧(ns.take j).any (hasLet bk) = false) ⟨rfl,⟨_,rfl⟩,rfl⟩ (fun j σ H' _ p=>by obtain ⟨rfl,_⟩:=p; exact hl) ?_ ?_⟩
   · rintro j x σ H' hx ⟨rfl,⟨v,rfl⟩,hno⟩
     rw [List.getElem?_map] at hx
     obtain ⟨s,hs,rfl⟩:=Option.map_eq_some_iff.mp hx
     refine ⟨_,rfl,_,rfl,_,_,_,_,_,rfl,hb,T.c_Book.cl,T.n_Book_lettered,bf_lettered _ _ _ _,ld,_,rfl,DGet.k (k:=Sum.inr (S s)) hB.lett,_,rfl,ite2 (fun h=>?_) (fun h=>?_)⟩
     · have e:ns.any (hasLet bk) = true:=List.any_eq_true.mpr ⟨s,List.mem_of_getElem? hs,h⟩
       rw [e] at q
       exact q
     · refine ⟨rfl,⟨_,rfl⟩,?_⟩
       have ht:ns.take (j + 1) = ns.take j ++ [s]:=by rw [List.take_add_one,hs]; rfl
       rw [ht,List.any_append,hno]
       have h:hasLet bk s = false:=Bool.not_eq_true _ ▸ h
       simp [h]
   · rintro σ H' ⟨rfl,_,hno⟩
     rw [List.length_map,List.take_length] at hno
     rw [hno] at q
     exact q
def digOver (x y:Run × Nat):Bool:=(decide (y.1.style = 0) && decide (y.1.pre = x.1.pre)) && (decide ((y.1.first:Int)≤(x.1.first:Int) + x.1.count - 1) && decide ((x.1.first:Int)≤(y.1.first:Int) + y.1.count - 1))
def sp_Book_has_digits_of (a:Adr):Sp:=fun vs H Q _=>∃ (b r:Addr) (bk:Book) (x:Run × Nat),vs = [.ref b,.ref r]∧BookV a H b bk∧RunAt a H r x∧Q (.bl (decide (x.1.style = 0) && (Bk.ws 0 bk).any (digOver x))) H
theorem ok_Book_has_digits_of (T:Txt K mg a):FnOk P w K mg base CX0 1 a.Book_has_digits_of.f a.Book_has_digits_of.d ["self","run"] (sp_Book_has_digits_of a):=by
 have sc:FnScope ["self","run","other","alike"] ["self","run"] (defScope s_Book_has_digits_of):=⟨rfl,rfl,rfl,by decide +kernel,rfl,by decide +kernel,by decide +kernel⟩
 refine T.Book_has_digits_of.fn.ok sc (fun vs H Q E h=>?_) (fun cdv A outer s H vs Q E hr h=>?_)
 · obtain ⟨_,_,_,_,rfl,_⟩:=h
   rfl
 · obtain ⟨b,r,bk,x,rfl,⟨nm,rs,ld,ls,hB⟩,⟨dr,hr1⟩,q⟩:=h
   refine ⟨_,(pss_cons (ps_if (pt_cmpR op_ne (pe_fld (pv 1) rfl) (pe_gv T.g_DIGITS) (nomark _))
     (pss_one (ps_ret pe_bl))
     pss_nil)
    (pss_cons (ps_for PassesOwn.never rfl (pi_list (pe_fld (pv 0) rfl)) (pg_name (i:=2) sc.nd rfl (Or.inl rfl))
     (pss_cons (ps_set (i:=3) sc.nd rfl (Or.inl rfl) (pe_and (pe_cmpR op_eq (pe_fld (pv 2) rfl) (pe_gv T.g_DIGITS) (nomark _)) (pe_one (pe_cmpR op_eq (pe_fld (pv 2) rfl) (pe_fld (pv 1) rfl) (nomark _)))))
     (pss_one (ps_if (PW.pt (pw_and (pt_val (pv 3)) (pw_and (pt_cmpR op_le (pe_fld (pv 2) rfl) (pe_fld (pv 1) rfl) (nomark _)) (pw_and1 (pt_cmpR op_le (pe_fld (pv 1) rfl) (pe_fld (pv 2) rfl) (nomark _))))))
      (pss_one (ps_ret pe_bl))
      pss_nil))))
    (pss_one (ps_ret pe_bl)))),?_⟩
   obtain ⟨dx,hb⟩:=hB.ob
   obtain ⟨as,h1,h2⟩:=hB.runs
   refine ⟨_,rfl,_,_,_,_,_,rfl,hr1,T.c_Run.cl,T.n_Run_style,rf_style x,rfl,_,rfl,ite2 (fun h=>?_) (fun h=>?_)⟩
   · have h:¬ (V.int (x.1.style:Int) = V.int 0):=fun z=>by rw [decide_eq_true z] at h; cases h
     rw [int_eq] at h
     have e:decide (x.1.style = 0) = false:=decide_eq_false (by omega)
     rw [e] at q
     exact q
   · have h:V.int (x.1.style:Int) = V.int 0:=Classical.byContradiction fun z=>h (by rw [decide_eq_false z]; rfl)
     rw [int_eq] at h
     have e:decide (x.1.style = 0) = true:=decide_eq_true (by omega)
     rw [e,Bool.true_and] at q
     refine ⟨_,rfl,_,_,_,_,_,rfl,hb,T.c_Book.cl,T.n_Book_runs,bf_runs _ _ _ _,rs,rfl,⟨_,SqL.of h1⟩,for_list (xs:=as.map V.ref) (fun j σ H'=>H' = H∧(∃ v u,σ = [some (.ref b),some (.ref r),v,u])∧((Bk.ws 0 bk).take j).any (digOver x) = false) ⟨rfl,⟨_,_,rfl⟩,rfl⟩ (fun j σ H' _ p=>by obtain ⟨rfl,_⟩:=p; exact SqL.of h1) ?_ ?_⟩
     · rintro j o σ H' hx ⟨rfl,⟨v,u,rfl⟩,hno⟩
       rw [List.getElem?_map] at hx
       obtain ⟨o,ho,rfl⟩:=Option.map_eq_some_iff.mp hx
       obtain ⟨y,hy,⟨dy,hy1⟩⟩:=pair_at h2 ho
       have ht:(Bk.ws 0 bk).take (j + 1) = (Bk.ws 0 bk).take j ++ [y]:=by rw [List.take_add_one,hy]; rfl
       have hm:y∈Bk.ws 0 bk:=List.mem_of_getElem? hy
       have next:digOver x y = false→((Bk.ws 0 bk).take (j + 1)).any (digOver x) = false:=fun e=>by rw [ht,List.any_append,hno]; simp [e]
       refine ⟨_,rfl,_,_,_,_,_,rfl,hy1,T.c_Run.cl,T.n_Run_style,rf_style y,rfl,_,rfl,ite2 (fun g=>?_) (fun g=>?_)⟩
       · have g:=of_decide_eq_true g
         rw [int_eq] at g
         have g:y.1.style = 0:=by omega
         refine ⟨_,rfl,_,_,_,_,_,rfl,hy1,T.c_Run.cl,T.n_Run_prefix,rf_prefix y,_,rfl,_,_,_,_,_,rfl,hr1,T.c_Run.cl,T.n_Run_prefix,rf_prefix x,rfl,_,rfl,_,rfl,ite2 (fun p1=>?_) (fun p1=>?_)⟩
         · have p1:=of_decide_eq_true p1
           rw [str_eq] at p1
           refine ⟨_,rfl,_,_,_,_,_,rfl,hy1,T.c_Run.cl,T.n_Run_first,rf_first y,_,rfl,_,_,_,_,_,rfl,hr1,T.c_Run.cl,T.n_Run_last,rf_last x,_,_,rfl,rfl,_,rfl,ite2 (fun p2=>?_) (fun p2=>?_)⟩
           · have p2:=of_decide_eq_true p2
             refine ⟨_,rfl,_,_,_,_,_,rfl,hr1,T.c_Run.cl,T.n_Run_first,rf_first x,_,rfl,_,_,_,_,_,rfl,hy1,T.c_Run.cl,T.n_Run_last,rf_last y,_,_,rfl,rfl,_,rfl,ite2 (fun p3=>?_) (fun p3=>?_)⟩
             · have p3:=of_decide_eq_true p3
               have e:(Bk.ws 0 bk).any (digOver x) = true:=List.any_eq_true.mpr ⟨y,hm,by unfold digOver; rw [decide_eq_true g,decide_eq_true p1,decide_eq_true p2,decide_eq_true p3]; rfl⟩
               rw [e] at q
               exact q
             · have p3:=dne p3
               exact ⟨rfl,⟨_,_,rfl⟩,next (by unfold digOver; rw [decide_eq_false p3]; simp)⟩
           · have p2:=dne p2
             exact ⟨rfl,⟨_,_,rfl⟩,next (by unfold digOver; rw [decide_eq_false p2]; simp)⟩
         · have p1:=dne p1
           rw [str_eq] at p1
           exact ⟨rfl,⟨_,_,rfl⟩,next (by unfold digOver; rw [decide_eq_false p1]; simp)⟩
       · have g:=dne g
         rw [int_eq] at g
         have g:¬ y.1.style = 0:=by omega
         exact ⟨_,rfl,_,rfl,iteF ⟨rfl,⟨_,_,rfl⟩,next (by unfold digOver; rw [decide_eq_false g]; simp)⟩⟩
     · rintro σ H' ⟨rfl,_,hno⟩
       rw [List.length_map,Paired.len h2,List.take_length] at hno
       rw [hno] at q
       exact q
end
end Hp
namespace Hp
open PySem L2
section
variable {P:Program} {w:World} {K:PySem.W.Frag} {mg:Str→Option Value} {base:Heap} {a:Adr}
theorem cutS_from {s:Bytes} {k:Nat} (h:k≤s.length):cutS (S s) (some (k:Int)) none = S (s.drop k):=by
 unfold cutS
 rw [S_len]
 have e1:HT.sIx s.length 0 (some (k:Int)) = k:=by
  show (if (k:Int) < 0 then ((k:Int) + ((s.length:Nat):Int)).toNat else min (k:Int).toNat s.length) = k
  rw [if_neg (by omega)]
  omega
 have e2:HT.sIx s.length s.length none = s.length:=rfl
 rw [e1,e2]
 show S ((s.drop k).take (s.length - k)) = S (s.drop k)
 rw [List.take_of_length_le (by rw [List.length_drop]; exact Nat.le_refl _)]
theorem cutS_to {s:Bytes} {k:Nat} (h:k≤s.length):cutS (S s) none (some (k:Int)) = S (s.take k):=by
 unfold cutS
 rw [S_len]
 have e1:HT.sIx s.length s.length (some (k:Int)) = k:=by
  show (if (k:Int) < 0 then ((k:Int) + ((s.length:Nat):Int)).toNat else min (k:Int).toNat s.length) = k
  rw [if_neg (by omega)]
  omega
 have e2:HT.sIx s.length 0 none = 0:=rfl
 rw [e1,e2]
 show S ((s.drop 0).take (k - 0)) = S (s.take k)
 rw [List.drop_zero,Nat.sub_zero]
theorem stripD_le (s:Bytes):(Bk.stripD s).length≤s.length:=by
 have:=congrArg List.length (Bk.strip_tail s).1
 rw [List.length_append] at this
 omega
theorem str_lit1 (c:Nat):(⟨#[c]⟩:Str) = S [c]:=rfl
theorem one_eq {c d:Nat}:(V.str ⟨#[c]⟩ = V.str (S [d])) = (c = d):=by
 rw [str_lit1,str_eq]
 exact propext ⟨fun h=>by simpa using h,fun h=>by rw [h]⟩
theorem head_at {d:Bytes} (h:d≠[]):∃ c,d.head? = some c∧atI (S d).cps.toList 0 = some c:=by
 match d,h with
 | c :: r,_=>exact ⟨c,rfl,atI_nat (j:=0) rfl⟩
def sp_Book_index_of_digits (a:Adr):Sp:=fun vs H Q _=>∃ (b:Addr) (bk:Book) (s:Bytes),vs = [.ref b,.str (S s)]∧BookV a H b bk∧s.length≤100000∧Q (optI (Bk.digFind bk s)) H
theorem ok_Book_index_of_digits (T:Txt K mg a):FnOk P w K mg base CX0 2 a.Book_index_of_digits.f a.Book_index_of_digits.d ["self","name"] (sp_Book_index_of_digits a):=by
 have sc:FnScope ["self","name","prefix","digits","number","run"] ["self","name"] (defScope s_Book_index_of_digits):=⟨rfl,rfl,rfl,by decide +kernel,rfl,by decide +kernel,by decide +kernel⟩
 refine T.Book_index_of_digits.fn.ok sc (fun vs H Q E h=>?_) (fun cdv A outer s H vs Q E hr h=>?_)
 · obtain ⟨_,_,_,rfl,_⟩:=h
   rfl
 · obtain ⟨b,bk,s,rfl,⟨nm,rs,ld,ls,hB⟩,hl,q⟩:=h
   refine ⟨_,(pss_cons (ps_set (i:=2) sc.nd rfl (Or.inl rfl) (pe_rstrip1 (pv 1) pe_str))
    (pss_cons (ps_set (i:=3) sc.nd rfl (Or.inl rfl) (pe_slice sl_str (pv 1) (po_some (pe_callB call_len_str (by rfl) T.b_len PySem.boot_len (pa_1 (pv 2)))) po_none))
    (pss_cons (ps_if (PW.pt (pw_or (pt_cmpR op_eq (pv 3) pe_str (nomark _)) (pw_or (pt_cmpR op_eq (pe_ix ix_str (pv 3) pe_int (fun _ _=>rfl)) pe_str (nomark _)) (pw_or1 (pt_cmpR op_gt (pe_callB call_len_str (by rfl) T.b_len PySem.boot_len (pa_1 (pv 3))) pe_int (nomark _))))))
     (pss_one (ps_ret pe_non))
     pss_nil)
    (pss_cons (ps_set (i:=4) sc.nd rfl (Or.inl rfl) (pe_callTy call_int_str (by rfl) T.b_int PyProof.Rows.boot_int (pa_1 (pv 3))))
    (pss_cons (ps_for PassesOwn.never rfl (pi_list (pe_fld (pv 0) rfl)) (pg_name (i:=5) sc.nd rfl (Or.inl rfl))
     (pss_one (ps_if (PW.pt (pw_and (pt_cmpR op_eq (pe_fld (pv 5) rfl) (pe_gv T.g_DIGITS) (nomark _)) (pw_and (pt_cmpR op_eq (pe_fld (pv 5) rfl) (pv 2) (nomark _)) (pw_and1 (pt_val (pe_meth (pv 5) T.c_Run.cl T.Run_has_number.m (ok_Run_has_number T) (hr.mono (by decide)) T.Run_has_number.b .nil pass0 (pa_1 (pv 4))))))))
      (pss_one (ps_ret (pe_meth (pv 5) T.c_Run.cl T.Run_index_at.m (ok_Run_index_at T) (hr.mono (by decide)) T.Run_index_at.b .nil pass0 (pa_1 (pv 4)))))
      pss_nil)))
    (pss_one (ps_ret pe_non))))))),?_⟩
   obtain ⟨dx,hb⟩:=hB.ob
   obtain ⟨as,h1,h2⟩:=hB.runs
   have hz:sizeLine = 16777216:=rfl
   have hst:=stripD_le s
   have htl:(Bk.tailD s).length≤s.length:=by unfold Bk.tailD; rw [List.length_drop]; omega
   refine ⟨_,rfl,⟨_,rfl⟩,_,_,rfl,rfl,(by rw [S_len]; omega),?_⟩
   rw [dig10_eq,rstrip_S]
   refine ⟨_,rfl,_,rfl,_,rfl,(by rw [S_len]; omega),_,rfl,_,rfl,(by rw [S_len]; omega),?_⟩
   rw [S_len,cutS_from hst]
   have et:s.drop (Bk.stripD s).length = Bk.tailD s:=rfl
   rw [et]
   refine ⟨_,rfl,rfl,_,rfl,ite2 (fun h=>?_) (fun h=>?_)⟩
   · have h:V.str (S (Bk.tailD s)) = V.str (S []):=of_decide_eq_true h
     rw [str_eq] at h
     have e:Bk.digFind bk s = none:=by unfold Bk.digFind; rw [if_pos (.inl h)]
     rw [e] at q
     exact iteT q
   · have h:¬ V.str (S (Bk.tailD s)) = V.str (S []):=dne h
     rw [str_eq] at h
     obtain ⟨c,hc1,hc2⟩:=head_at h
     refine ⟨_,rfl,_,_,_,rfl,rfl,(by rw [S_len]; omega),hc2,rfl,_,rfl,ite2 (fun g=>?_) (fun g=>?_)⟩
     · have g:V.str ⟨#[c]⟩ = V.str (S [48]):=of_decide_eq_true g
       rw [one_eq] at g
       have e:Bk.digFind bk s = none:=by unfold Bk.digFind; rw [if_pos (.inr (.inl (by rw [hc1,g])))]
       rw [e] at q
       exact iteT q
     · have g:¬ V.str ⟨#[c]⟩ = V.str (S [48]):=dne g
       rw [one_eq] at g
       refine ⟨_,rfl,_,rfl,(by rw [S_len]; omega),_,_,rfl,rfl,_,rfl,ite2 (fun g5=>?_) (fun g5=>?_)⟩
       · have g5:=of_decide_eq_true g5
         rw [S_len] at g5
         have e:Bk.digFind bk s = none:=by unfold Bk.digFind; rw [if_pos (.inr (.inr (by omega)))]
         rw [e] at q
         exact q
       · have g5:=dne g5
         rw [S_len] at g5
         have hall:(Bk.tailD s).all IhPlace.isDigit = true:=List.all_eq_true.mpr (Bk.strip_tail s).2
         have e:Bk.digFind bk s = ((Bk.ws 0 bk).find? (Bk.hasNum (Bk.stripD s) (IhPlace.numOf (Bk.tailD s)))).map fun x=>x.2 + (IhPlace.numOf (Bk.tailD s) - x.1.first):=by
          unfold Bk.digFind
          rw [if_neg]
          rintro (z | z | z)
          · exact h z
          · rw [hc1] at z; exact g (Option.some.inj z)
          · omega
         rw [e] at q
         generalize hn:IhPlace.numOf (Bk.tailD s) = n at *
         refine ⟨_,rfl,_,_,rfl,(by rw [int_S h hall (by omega),hn]),(by rw [S_len]; omega),?_⟩
         refine ⟨_,rfl,_,_,_,_,_,rfl,hb,T.c_Book.cl,T.n_Book_runs,bf_runs _ _ _ _,rs,rfl,⟨_,SqL.of h1⟩,for_list (xs:=as.map V.ref) (fun j σ H'=>H' = H∧(∃ v,σ = [some (.ref b),some (.str (S s)),some (.str (S (Bk.stripD s))),some (.str (S (Bk.tailD s))),some (.int (n:Int)),v])∧((Bk.ws 0 bk).take j).find? (Bk.hasNum (Bk.stripD s) n) = none) ⟨rfl,⟨_,rfl⟩,rfl⟩ (fun j σ H' _ p=>by obtain ⟨rfl,_⟩:=p; exact SqL.of h1) ?_ ?_⟩
         · rintro j x σ H' hx ⟨rfl,⟨v,rfl⟩,hno⟩
           rw [List.getElem?_map] at hx
           obtain ⟨r,hr1,rfl⟩:=Option.map_eq_some_iff.mp hx
           obtain ⟨y,hy,hR⟩:=pair_at h2 hr1
           obtain ⟨dr,hR1⟩:=id hR
           have ht:(Bk.ws 0 bk).take (j + 1) = (Bk.ws 0 bk).take j ++ [y]:=by rw [List.take_add_one,hy]; rfl
           have cy:1≤y.1.count:=by
            obtain ⟨k,hk,_⟩:=Bk.mem_ws.mp (show (y.1,y.2)∈Bk.ws 0 bk from List.mem_of_getElem? hy)
            exact (hB.ok.runs y.1 (List.mem_of_getElem? hk)).count
           have next:Bk.hasNum (Bk.stripD s) n y = false→((Bk.ws 0 bk).take (j + 1)).find? (Bk.hasNum (Bk.stripD s) n) = none:=fun e=>by rw [ht,List.find?_append,hno]; simp [List.find?_cons,e]
           refine ⟨_,rfl,_,_,_,_,_,rfl,hR1,T.c_Run.cl,T.n_Run_style,rf_style y,rfl,_,rfl,ite2 (fun p1=>?_) (fun p1=>?_)⟩
           · have p1:=of_decide_eq_true p1
             rw [int_eq] at p1
             refine ⟨_,rfl,_,_,_,_,_,rfl,hR1,T.c_Run.cl,T.n_Run_prefix,rf_prefix y,_,rfl,rfl,_,rfl,ite2 (fun p2=>?_) (fun p2=>?_)⟩
             · have p2:=of_decide_eq_true p2
               rw [str_eq] at p2
               refine ⟨_,rfl,_,_,_,rfl,hR1,rfl,_,rfl,r,y,n,rfl,hR,_,rfl,ite2 (fun p3=>?_) (fun p3=>?_)⟩
               · have p3:=of_decide_eq_true p3
                 refine ⟨_,rfl,_,_,_,rfl,hR1,rfl,_,rfl,r,y,n,rfl,hR,p3.1,?_⟩
                 have ef:(Bk.ws 0 bk).find? (Bk.hasNum (Bk.stripD s) n) = some y:=by
                  rw [← List.take_append_drop (j + 1) (Bk.ws 0 bk),List.find?_append,ht,List.find?_append,hno]
                  have:Bk.hasNum (Bk.stripD s) n y = true:=by
                   unfold Bk.hasNum
                   simp only [Bool.and_eq_true,beq_iff_eq,decide_eq_true_eq]
                   exact ⟨by omega,p2,p3.1,by omega⟩
                  simp [List.find?_cons,this]
                 rw [ef] at q
                 exact q
               · have p3:=dne p3
                 refine ⟨rfl,⟨_,rfl⟩,next ?_⟩
                 unfold Bk.hasNum
                 cases ee:(y.1.style == 0 && (y.1.pre == Bk.stripD s && (decide (y.1.first≤n) && decide (n≤y.1.first + y.1.count - 1)))) with
                 | false=>rfl
                 | true =>
                   simp only [Bool.and_eq_true,beq_iff_eq,decide_eq_true_eq] at ee
                   exact absurd ⟨ee.2.2.1,by omega⟩ p3
             · have p2:=dne p2
               rw [str_eq] at p2
               exact iteF ⟨rfl,⟨_,rfl⟩,next (by unfold Bk.hasNum; simp [p2])⟩
           · have p1:=dne p1
             rw [int_eq] at p1
             have p1:¬ y.1.style = 0:=by omega
             exact iteF ⟨rfl,⟨_,rfl⟩,next (by unfold Bk.hasNum; simp [p1])⟩
         · rintro σ H' ⟨rfl,_,hno⟩
           rw [List.length_map,Paired.len h2,List.take_length] at hno
           rw [hno] at q
           exact q
def sp_Book_index_of_name (a:Adr):Sp:=fun vs H Q _=>∃ (b:Addr) (bk:Book) (s:Bytes),vs = [.ref b,.str (S s)]∧BookV a H b bk∧s.length≤100000∧Q (optI (bk.find s)) H
theorem ok_Book_index_of_name (T:Txt K mg a):FnOk P w K mg base CX0 3 a.Book_index_of_name.f a.Book_index_of_name.d ["self","name"] (sp_Book_index_of_name a):=by
 have sc:FnScope ["self","name"] ["self","name"] (defScope s_Book_index_of_name):=⟨rfl,rfl,rfl,by decide +kernel,rfl,by decide +kernel,by decide +kernel⟩
 refine T.Book_index_of_name.fn.ok sc (fun vs H Q E h=>?_) (fun cdv A outer s H vs Q E hr h=>?_)
 · obtain ⟨_,_,_,rfl,_⟩:=h
   rfl
 · obtain ⟨b,bk,s,rfl,⟨nm,rs,ld,ls,hB⟩,hl,q⟩:=h
   have hu:=hu_of hr
   refine ⟨_,(pss_cons (ps_if (pt_cmp (pc_din hu (pv 1) (pe_fld (pv 0) rfl)))
     (pss_one (ps_ret (pe_dget hu (pe_fld (pv 0) rfl) (pv 1) (fun _ _=>rfl))))
     pss_nil)
    (pss_one (ps_ret (pe_meth (pv 0) T.c_Book.cl T.Book_index_of_digits.m (ok_Book_index_of_digits T) (hr.mono (by decide)) T.Book_index_of_digits.b .nil pass0 (pa_1 (pv 1)))))),?_⟩
   obtain ⟨dx,hb⟩:=id hB.ob
   refine ⟨_,rfl,_,rfl,_,_,_,_,_,rfl,hb,T.c_Book.cl,T.n_Book_lettered,bf_lettered _ _ _ _,ld,_,rfl,DGet.k (k:=Sum.inr (S s)) hB.lett,_,rfl,ite2 (fun h=>?_) (fun h=>?_)⟩
   · obtain ⟨v,hv⟩:=Option.isSome_iff_exists.mp h
     obtain ⟨j,hj,rfl⟩:=letK_some hv
     have e:=Bk.find_lets hB.ok hj
     rw [e] at q
     exact ⟨_,rfl,_,_,_,_,_,rfl,hb,T.c_Book.cl,T.n_Book_lettered,bf_lettered _ _ _ _,_,rfl,ld,_,rfl,by have hd:=DGet.k (k:=Sum.inr (S s)) hB.lett; rw [hv] at hd; exact hd,q⟩
   · have hn:valV (letK bk) (Sum.inr (S s)) = none:=by
      cases e:valV (letK bk) (Sum.inr (S s)) with
      | none=>rfl
      | some v=>rw [e] at h; exact absurd rfl h
     have hno:∀ j,(s,j) ∉ Bk.lets 0 bk:=fun j hm=>letK_none.mp hn (List.mem_map.mpr ⟨_,hm,rfl⟩)
     rw [Bk.find_digits hB.ok hno] at q
     exact ⟨_,rfl,_,_,_,rfl,hb,rfl,_,rfl,b,bk,s,rfl,⟨nm,rs,ld,ls,hB⟩,hl,q⟩
end
end Hp
namespace Hp
open PySem L2
section
variable {P:Program} {w:World} {K:PySem.W.Frag} {mg:Str→Option Value} {base:Heap} {a:Adr}
def Upto (H H':Hp):Prop:=∀ b o,H b = some o→(∀ C dx,o≠.ins C dx [])→H' b = some o
theorem Made.upto {H H':Hp} {p C dx:Addr} (m:Made H H' p) (hp:H p = some (.ins C dx [])):Upto H H':=fun b o e hn=>m b o e fun z=>by
 subst z
 rw [hp] at e
 exact hn C dx (Option.some.inj e).symm
theorem NumsAt.upto {a:Adr} {H H':Hp} {nm:Addr} {ls:List Addr} (e:Upto H H') (h:NumsAt a H nm ls):NumsAt a H' nm ls :=
 ⟨let ⟨d,l,h1,h2⟩:=h.ob; ⟨d,l,e _ _ h1 (fun _ _ z=>nomatch z),e _ _ h2 (fun _ _ z=>nomatch z)⟩,h.len,h.nd,fun i x q=>let ⟨n,h1,h2⟩:=h.at_ i x q; ⟨n,h1,e _ _ h2 (fun _ _ z=>nomatch z)⟩⟩
theorem bookF_put (nm rs ld:Addr):putF "lettered" (.ref ld) (putF "total" (.int 0) (putF "runs" (.ref rs) (putF "numerals" (.ref nm) []))) = bookF nm rs 0 ld:=rfl
def sp_Book_init (a:Adr):Sp:=fun vs H Q _=>∃ (p dx nm:Addr) (ls:List Addr),vs = [.ref p,.ref nm]∧H p = some (.ins a.c_Book dx [])∧NumsAt a H nm ls∧∀ H' rs ld,BookAt a H' p nm rs ld ls []→H rs = none→H ld = none→Made H H' p→Q .non H'
theorem ok_Book_init (T:Txt K mg a):FnOk P w K mg base CX0 1 a.Book_init.f a.Book_init.d ["self","numerals"] (sp_Book_init a):=by
 have sc:FnScope ["self","numerals"] ["self","numerals"] (defScope s_Book_init):=⟨rfl,rfl,rfl,by decide +kernel,rfl,by decide +kernel,by decide +kernel⟩
 refine T.Book_init.fn.ok sc (fun vs H Q E h=>?_) (fun cdv A outer s H vs Q E hr h=>?_)
 · obtain ⟨_,_,_,_,rfl,_⟩:=h
   rfl
 · obtain ⟨p,dx,nm,ls,rfl,hp,hN,k⟩:=h
   refine ⟨_,(pss_cons (ps_fld (pv 0) (pv 1) rfl)
    (pss_cons (ps_fld (pv 0) (pe_lst pa_nil) rfl)
    (pss_cons (ps_fld (pv 0) pe_int rfl)
    (pss_one (ps_fld (pv 0) pe_dnewK rfl))))),?_⟩
   refine ⟨_,rfl,_,rfl,p,a.c_Book,dx,_,rfl,hp,T.c_Book.cl,T.n_Book_numerals,(by show 0 < 1000; decide),(by decide),fun rs hrs=>?_⟩
   have prs:p≠rs:=ne_of_none upd_same hrs
   refine ⟨_,rfl,p,a.c_Book,dx,_,rfl,(upd_ne prs).trans upd_same,T.c_Book.cl,T.n_Book_runs,(by show 1 < 1000; decide),_,rfl,p,a.c_Book,dx,_,rfl,upd_same,T.c_Book.cl,T.n_Book_total,(by show 2 < 1000; decide),fun ld hld=>?_⟩
   have pld:p≠ld:=ne_of_none upd_same hld
   have rsld:rs≠ld:=ne_of_none (H:=upd (upd (upd (upd H p _) rs _) p _) p _) ((upd_ne prs.symm).trans ((upd_ne prs.symm).trans upd_same)) hld
   refine ⟨_,rfl,p,a.c_Book,dx,_,rfl,(upd_ne pld).trans upd_same,T.c_Book.cl,T.n_Book_lettered,(by show 3 < 1000; decide),?_⟩
   rw [upd_ne prs.symm] at hrs
   rw [upd_ne pld.symm,upd_ne pld.symm,upd_ne rsld.symm,upd_ne pld.symm] at hld
   have made:Made H (upd (upd (upd (upd (upd (upd H p (.ins a.c_Book dx (putF "numerals" (.ref nm) []))) rs (.lst [])) p (.ins a.c_Book dx (putF "runs" (.ref rs) (putF "numerals" (.ref nm) [])))) p (.ins a.c_Book dx (putF "total" (.int 0) (putF "runs" (.ref rs) (putF "numerals" (.ref nm) []))))) ld (.dK [])) p (.ins a.c_Book dx (putF "lettered" (.ref ld) (putF "total" (.int 0) (putF "runs" (.ref rs) (putF "numerals" (.ref nm) [])))))) p:=fun b o e hb=>by
    rw [upd_ne hb,upd_ne (ne_of_none e hld),upd_ne hb,upd_ne hb,upd_ne (ne_of_none e hrs),upd_ne hb]
    exact e
   refine k _ rs ld ⟨⟨dx,upd_same.trans (congrArg (fun q=>some (HO.ins a.c_Book dx q)) (bookF_put nm rs ld))⟩,⟨[],?_,.nil⟩,?_,hN.upto (made.upto hp),Bk.bookOk_nil,(by decide),(by decide)⟩ hrs hld made
   · rw [upd_ne prs.symm,upd_ne rsld,upd_ne prs.symm,upd_ne prs.symm,upd_same]
     rfl
   · rw [upd_ne pld.symm,upd_same]
     rfl
def namesV (r:Run):List Bytes:=if r.style = 0 then [] else (List.range r.count).map fun i=>r.name (r.first + i)
def sp_Book_lettered_names (a:Adr):Sp:=fun vs H Q _=>∃ (b r nm rs ld:Addr) (ls:List Addr) (bk:Book) (x:Run × Nat),vs = [.ref b,.ref r]∧BookAt a H b nm rs ld ls bk∧RunAt a H r x∧Bk.RunOk x.1 ∧
 ∀ H' l,NumsAt a H' nm ls→But ls H H'→H' l = some (.lst ((namesV x.1).map fun s=>V.str (S s)))→H l = none→l ∉ ls→Q (.ref l) H'
theorem NumsAt.notIn {a:Adr} {H:Hp} {nm x:Addr} {ls:List Addr} (h:NumsAt a H nm ls) (hx:H x = none):x ∉ ls:=fun hm=>by
 obtain ⟨i,hi⟩:=List.mem_iff_getElem?.mp hm
 obtain ⟨_,_,e⟩:=h.at_ i x hi
 rw [hx] at e
 cases e
theorem ok_Book_lettered_names (T:Txt K mg a):FnOk P w K mg base CX0 4 a.Book_lettered_names.f a.Book_lettered_names.d ["self","run"] (sp_Book_lettered_names a):=by
 have sc:FnScope ["self","run","prefix","text"] ["self","run"] (defScope s_Book_lettered_names):=⟨rfl,rfl,rfl,by decide +kernel,rfl,by decide +kernel,by decide +kernel⟩
 refine T.Book_lettered_names.fn.ok sc (fun vs H Q E h=>?_) (fun cdv A outer s H vs Q E hr h=>?_)
 · obtain ⟨_,_,_,_,_,_,_,_,rfl,_⟩:=h
   rfl
 · obtain ⟨b,r,nm,rs,ld,ls,bk,x,rfl,hB,⟨dr,hr1⟩,hR,k⟩:=h
   refine ⟨_,(pss_cons (ps_if (pt_cmpR op_eq (pe_fld (pv 1) rfl) (pe_gv T.g_DIGITS) (nomark _))
     (pss_one (ps_ret (pe_lst pa_nil)))
     pss_nil)
    (pss_cons (ps_set (i:=2) sc.nd rfl (Or.inr rfl) (pe_fld (pv 1) rfl))
    (pss_one (ps_ret (pe_lc rfl sc.nd (pi_list (pe_meth (pe_fld (pv 0) rfl) T.c_Numerals.cl T.Numerals_stretch.m (ok_Numerals_stretch T) (hr.mono (by decide)) T.Numerals_stretch.b .nil pass0 (pa_3 (pe_fld (pv 1) rfl) (pe_fld (pv 1) rfl) (pe_fld (pv 1) rfl)))) (blkOk_by (N:=["self","run","prefix","text"]) (sc:=defScope s_Book_lettered_names) (own:=[("text",3)]) (by decide +kernel)) (fun _ _ _ _ _=>(pg_name (i:=3) sc.nd rfl (Or.inl rfl))) (fun _ _ _ _ _=>pts_nil) (fun _ _ _ _ _=>(pe_op op_add_str (pv 2) (pv 3)))))))),?_⟩
   obtain ⟨dx,hb⟩:=id hB.ob
   have hz:sizeLine = 16777216:=rfl
   refine ⟨_,rfl,_,_,_,_,_,rfl,hr1,T.c_Run.cl,T.n_Run_style,rf_style x,rfl,_,rfl,ite2 (fun h=>?_) (fun h=>?_)⟩
   · have h:=of_decide_eq_true h
     rw [int_eq] at h
     have h:x.1.style = 0:=by omega
     refine ⟨(by decide),fun l hl=>?_⟩
     have hls:=hB.nums.notIn hl
     have same:Same H (upd H l (.lst [])):=fun c o e=>by rw [upd_ne (ne_of_none e hl)]; exact e
     refine k _ l (hB.nums.mono same) (fun c o e _=>same c o e) ?_ hl hls
     rw [upd_same]
     unfold namesV
     rw [if_pos h]
     rfl
   · have h:=dne h
     rw [int_eq] at h
     have h:¬ x.1.style = 0:=by omega
     obtain ⟨dn,L,hn1,hn2⟩:=id hB.nums.ob
     have hc:=hR.count
     have h1:=hR.first
     have hlast:(x.1.first:Int) + x.1.count - 1 = ((x.1.first + x.1.count - 1:Nat):Int):=by omega
     have hmost:=hR.last
     refine ⟨_,rfl,_,_,_,_,_,rfl,hr1,T.c_Run.cl,T.n_Run_prefix,rf_prefix x,_,rfl,_,_,_,_,_,rfl,hb,T.c_Book.cl,T.n_Book_numerals,bf_numerals _ _ _ _,nm,dn,_,rfl,hn1,rfl,_,rfl,_,_,_,_,_,rfl,hr1,T.c_Run.cl,T.n_Run_style,rf_style x,_,rfl,_,_,_,_,_,rfl,hr1,T.c_Run.cl,T.n_Run_first,rf_first x,_,rfl,_,_,_,_,_,rfl,hr1,T.c_Run.cl,T.n_Run_last,rf_last x,
      nm,ls,x.1.style,x.1.first,x.1.first + x.1.count - 1,(by rw [hlast]; rfl),hB.nums,hR.style,h1,by omega,hmost,fun H1 t hN hbut ht ht0 htl=>⟨t,rfl,⟨_,SqL.of ht⟩,fun D hD=>?_⟩⟩
     have ecount:x.1.first + x.1.count - 1 + 1 - x.1.first = x.1.count:=by omega
     rw [ecount] at ht
     have hHD:H D = none:=by
      cases e:H D with
      | none=>rfl
      | some o =>
        by_cases hm:D∈ls
        · obtain ⟨i,hi⟩:=List.mem_iff_getElem?.mp hm
          obtain ⟨_,_,e2⟩:=hN.at_ i D hi
          rw [hD] at e2
          cases e2
        · rw [hbut D o e hm] at hD
          cases hD
     refine lc_list (K:=K) (xs:=(List.range x.1.count).map fun j=>V.str (S (IhPlace.numberIn x.1.style (x.1.first + j)))) (fun i Hc=>Hc D = some (.lst (((List.range x.1.count).take i).map fun j=>V.str (S (x.1.name (x.1.first + j)))))∧Same H1 Hc) ⟨?_,?_⟩ (fun i Hc _ p=>SqL.of (p.2 _ _ ht)) ?_ ?_
     · rw [upd_same]
       rfl
     · exact fun c o e=>by rw [upd_ne (ne_of_none e hD)]; exact e
     · rintro i v Hc hv ⟨p1,p2⟩
       rw [List.getElem?_map] at hv
       obtain ⟨j,hj,rfl⟩:=Option.map_eq_some_iff.mp hv
       have hij:i < x.1.count∧j = i:=by
        obtain ⟨q1,q2⟩:=List.getElem?_eq_some_iff.mp hj
        rw [List.getElem_range] at q2
        rw [List.length_range] at q1
        exact ⟨q1,q2.symm⟩
       obtain ⟨hi,rfl⟩:=hij
       have hnum:Bk.NumOk x.1.style (x.1.first + j):=hR.num (by omega) (by omega)
       have sh:=numberIn_short hnum
       have pl:=hR.plen
       have cm:x.1.count≤99999:=by have:=Bk.most_le x.1.style; omega
       refine ⟨rfl,_,rfl,_,rfl,_,_,rfl,rfl,(by rw [S_len,S_len]; omega),_,p1,(by rw [List.length_map,List.length_take,List.length_range]; omega),upd_same.trans ?_,fun c o e=>?_⟩
       · rw [List.take_add_one,List.getElem?_range hi,List.map_append]
         show some (HO.lst _) = _
         rw [S_app]
         rfl
       · have hcD:c≠D:=fun z=>by rw [z,hD] at e; cases e
         rw [upd_ne hcD]
         exact p2 c o e
     · rintro Hc ⟨p1,p2⟩
       refine k Hc D (hN.mono p2) (fun c o e hm=>p2 _ _ (hbut c o e hm)) ?_ hHD (hB.nums.notIn hHD)
       rw [p1,List.length_map,List.length_range,List.take_of_length_le (by simp)]
       unfold namesV
       rw [if_neg h,List.map_map]
       rfl
end
end Hp
namespace Hp
open PySem L2
section
variable {P:Program} {w:World} {K:PySem.W.Frag} {mg:Str→Option Value} {base:Heap} {a:Adr}
theorem NumsAt.out {a:Adr} {H:Hp} {nm x:Addr} {ls:List Addr} {o:HO} (h:NumsAt a H nm ls) (hx:H x = some o) (hn:∀ i n,o≠.lst (textsV i n)):x ∉ ls:=fun hm=>by
 obtain ⟨i,hi⟩:=List.mem_iff_getElem?.mp hm
 obtain ⟨n,_,e⟩:=h.at_ i x hi
 rw [hx] at e
 exact hn i n (Option.some.inj e)
theorem refs_ne (as:List Addr) (i n:Nat):HO.lst (as.map V.ref)≠.lst (textsV i n):=fun e=>by
 have e:=HO.lst.inj e
 cases as with
 | nil=>cases e
 | cons x r=>cases e
theorem BookAt.but {a:Adr} {H H':Hp} {b nm rs ld:Addr} {ls:List Addr} {bk:Book} (h:BookAt a H b nm rs ld ls bk) (e:But ls H H') (hN:NumsAt a H' nm ls):BookAt a H' b nm rs ld ls bk:=by
 obtain ⟨d,h1⟩:=h.ob
 obtain ⟨as,h2,h3⟩:=h.runs
 refine ⟨⟨d,e _ _ h1 (h.nums.out h1 fun _ _ z=>nomatch z)⟩,⟨as,e _ _ h2 (h.nums.out h2 (refs_ne as)),Paired.mapP h3 fun x y q=>?_⟩,e _ _ h.lett (h.nums.out h.lett fun _ _ z=>nomatch z),hN,h.ok,h.pages,h.few⟩
 obtain ⟨dx,q⟩:=q
 exact ⟨dx,e _ _ q (h.nums.out q fun _ _ z=>nomatch z)⟩
def key1 (fs:List (Str × V)):Option Str:=fs.head?.map (·.1)
theorem ins_ne {C C' d d':Addr} {fs fs':List (Str × V)} (h:key1 fs≠key1 fs'):HO.ins C d fs≠.ins C' d' fs':=fun e=>h (by injection e with _ _ e; rw [e])
theorem run_book {x:Run × Nat} {nm rs ld:Addr} {n:Nat}:key1 (runF x)≠key1 (bookF nm rs n ld):=by
 show some ("style":Str)≠some "numerals"
 decide
theorem nums_book {l nm rs ld:Addr} {n:Nat}:key1 (numsF l)≠key1 (bookF nm rs n ld):=by
 show some ("texts":Str)≠some "numerals"
 decide
def Fr4 (b rs ld:Addr) (ls:List Addr) (H H':Hp):Prop:=∀ x o,H x = some o→x≠b→x≠rs→x≠ld→x ∉ ls→H' x = some o
def pairsV (r:Run) (s n:Nat):List (Key × V):=(List.range n).map fun j=>(Sum.inr (S (r.name (r.first + j))),V.int ((s + j:Nat):Int))
theorem letK_snoc (bk:Book) (r:Run) (h:r.style≠0):letK (bk ++ [r]) = letK bk ++ pairsV r bk.pages r.count:=by
 unfold letK pairsV
 rw [Bk.lets_append,List.map_append]
 congr 1
 simp only [Bk.lets,if_neg h,List.append_nil,List.map_map,Nat.zero_add]
 rfl
theorem letK_snoc0 (bk:Book) (r:Run) (h:r.style = 0):letK (bk ++ [r]) = letK bk:=by
 unfold letK
 rw [Bk.lets_append,List.map_append]
 simp [Bk.lets,h]
theorem valV_app {κ:Type} [DecidableEq κ] {k:κ}:∀ {l m:List (κ × V)},valV l k = none→valV (l ++ m) k = valV m k
 | [],_,_=>rfl
 | p :: l,m,h=>by
   by_cases e:p.1 = k
   · rw [valV_pos e] at h; cases h
   · rw [valV_neg e] at h
     rw [List.cons_append,valV_neg e,valV_app h]
theorem pairs_new {r:Run} (hR:Bk.RunOk r) {s n:Nat} (hn:n < r.count):valV (pairsV r s n) (Sum.inr (S (r.name (r.first + n)))) = none:=by
 unfold pairsV
 rw [valV_map (fun j:Nat=>(Sum.inr (S (r.name (r.first + j))):Key)) (fun j=>V.int ((s + j:Nat):Int)),Option.map_eq_none_iff,List.find?_eq_none]
 intro j hj e
 have e:=S_inj (Sum.inr.inj (of_decide_eq_true e))
 have hj:j < n:=List.mem_range.mp hj
 have:=Bk.name_inj_run hR (hR.num (by omega) (by omega)) (hR.num (by omega) (by omega)) e
 omega
theorem pairs_snoc (r:Run) (s n:Nat):pairsV r s (n + 1) = pairsV r s n ++ [(Sum.inr (S (r.name (r.first + n))),V.int ((s + n:Nat):Int))]:=by
 unfold pairsV
 rw [List.range_succ,List.map_append]
 rfl
theorem alike_py {bk:Book} {r:Run} (hb:Bk.BookOk bk) (hR:Bk.RunOk r) (s:Nat):IhPages.alikeNames (bk ++ [r]) = ((decide (r.style = 0) && (Bk.ws 0 bk).any (digOver (r,s))) || (namesV r).any (hasLet bk)):=by
 have c1:=hR.count
 rw [Bool.eq_iff_iff,Bool.or_eq_true]
 by_cases h:r.style = 0
 · rw [Bk.alike_digits hb hR h]
   unfold namesV
   rw [if_pos h]
   simp only [decide_eq_true h,Bool.true_and,List.any_nil,Bool.false_eq_true,or_false,List.any_eq_true]
   constructor
   · rintro ⟨q,hq,h1,h2,h3,h4⟩
     obtain ⟨k,hk⟩:=List.mem_iff_getElem?.mp hq
     have cq:=(hb.runs q hq).count
     refine ⟨(q,0 + Bk.startOf bk k),Bk.mem_ws.mpr ⟨k,hk,rfl⟩,?_⟩
     unfold digOver
     simp only [Bool.and_eq_true,decide_eq_true_eq]
     exact ⟨⟨h1,h2⟩,by omega,by omega⟩
   · rintro ⟨⟨q,t⟩,hq,h5⟩
     obtain ⟨k,hk,_⟩:=Bk.mem_ws.mp hq
     have hq':=List.mem_of_getElem? hk
     have cq:=(hb.runs q hq').count
     unfold digOver at h5
     simp only [Bool.and_eq_true,decide_eq_true_eq] at h5
     exact ⟨q,hq',h5.1.1,h5.1.2,by omega,by omega⟩
 · rw [Bk.alike_letters hb hR h]
   unfold namesV
   rw [if_neg h]
   simp only [decide_eq_false h,Bool.false_and,Bool.false_eq_true,false_or,List.any_map,List.any_eq_true]
   constructor
   · rintro ⟨i,hi,hm⟩
     refine ⟨i,List.mem_range.mpr hi,?_⟩
     show hasLet bk _ = true
     unfold hasLet
     cases e:valV (letK bk) (Sum.inr (S (r.name (r.first + i)))) with
     | some v=>rfl
     | none=>exact absurd hm (letK_none.mp e)
   · rintro ⟨i,hi,hm⟩
     refine ⟨i,List.mem_range.mp hi,Classical.byContradiction fun hno=>?_⟩
     have hm:hasLet bk (r.name (r.first + i)) = true:=hm
     unfold hasLet at hm
     rw [letK_none.mpr hno] at hm
     cases hm
theorem bookF_total (nm rs ld:Addr) (n:Nat) (z:Int):putF "total" (.int z) (bookF nm rs n ld) = ([("numerals",V.ref nm),("runs",V.ref rs),("total",V.int z),("lettered",V.ref ld)]:List (Str × V)):=rfl
def sp_Book_add_run (a:Adr):Sp:=fun vs H Q _=>∃ (b nm rs ld:Addr) (ls:List Addr) (bk:Book) (r:Run),vs = [.ref b,.int (r.style:Int),.int (r.first:Int),.int (r.count:Int),.str (S r.pre)]∧BookAt a H b nm rs ld ls bk∧Bk.RunOk r∧bk.pages + r.count≤65536∧bk.length < 64 ∧
 (IhPages.alikeNames (bk ++ [r]) = true→∀ H',BookAt a H' b nm rs ld ls bk→Fr4 b rs ld ls H H'→Q (.bl false) H')∧(IhPages.alikeNames (bk ++ [r]) = false→∀ H',BookAt a H' b nm rs ld ls (bk ++ [r])→Fr4 b rs ld ls H H'→Q (.bl true) H')
theorem ok_Book_add_run (T:Txt K mg a):FnOk P w K mg base CX0 5 a.Book_add_run.f a.Book_add_run.d ["self","style","first","count","prefix"] (sp_Book_add_run a):=by
 have sc:FnScope ["self","style","first","count","prefix","run","names","offset","name"] ["self","style","first","count","prefix"] (defScope s_Book_add_run):=⟨rfl,rfl,rfl,by decide +kernel,rfl,by decide +kernel,by decide +kernel⟩
 refine T.Book_add_run.fn.ok sc (fun vs H Q E h=>?_) (fun cdv A outer s H vs Q E hr h=>?_)
 · obtain ⟨_,_,_,_,_,_,_,rfl,_⟩:=h
   rfl
 · obtain ⟨b,nm,rs,ld,ls,bk,r,rfl,hB,hR,hpg,hfew,k1,k2⟩:=h
   have hu:=hu_of hr
   refine ⟨_,(pss_cons (ps_set (i:=5) sc.nd rfl (Or.inl rfl) (pe_make T.c_Run.mkd (ok_Run_init T) (hr.mono (by decide)) rfl T.c_Run.m T.Run_init.b .nil pass0 (pa_5 (pv 1) (pv 2) (pv 3) (pv 4) (pe_fld (pv 0) rfl))))
    (pss_cons (ps_set (i:=6) sc.nd rfl (Or.inl rfl) (pe_meth (pv 0) T.c_Book.cl T.Book_lettered_names.m (ok_Book_lettered_names T) (hr.mono (by decide)) T.Book_lettered_names.b .nil pass0 (pa_1 (pv 5))))
    (pss_cons (ps_if (PW.pt (pw_or (pt_val (pe_meth (pv 0) T.c_Book.cl T.Book_has_digits_of.m (ok_Book_has_digits_of T) (hr.mono (by decide)) T.Book_has_digits_of.b .nil pass0 (pa_1 (pv 5)))) (pw_or1 (pt_val (pe_meth (pv 0) T.c_Book.cl T.Book_has_lettered.m (ok_Book_has_lettered T) (hr.mono (by decide)) T.Book_has_lettered.b .nil pass0 (pa_1 (pv 6)))))))
     (pss_one (ps_ret pe_bl))
     pss_nil)
    (pss_cons (ps_for PassesOwn.never rfl (pi_enum rfl T.b_enumerate (pa_1 (pv 6))) (pg_tup rfl (pgs_cons (pg_name (i:=7) sc.nd rfl (Or.inl rfl)) (pgs_cons (pg_name (i:=8) sc.nd rfl (Or.inl rfl)) pgs_nil)))
     (pss_one (ps_dput hu (pe_fld (pv 0) rfl) (pv 8) (pe_op op_add (pe_fld (pv 5) rfl) (pv 7)) rfl)))
    (pss_cons (ps_expr (pe_bm PySem.F.plainAttrs_list PySem.F.slot_list_append PySem.F.type_list_append mt_append (pe_fld (pv 0) rfl) (pa_1 (pv 5))))
    (pss_cons (ps_fld (pv 0) (pe_op op_add (pe_fld (pv 0) rfl) (pv 3)) rfl)
    (pss_one (ps_ret pe_bl)))))))),?_⟩
   obtain ⟨dx,hb⟩:=id hB.ob
   have hz:sizeLine = 16777216:=rfl
   have hal:=alike_py hB.ok hR bk.pages
   refine ⟨_,rfl,_,rfl,_,rfl,_,rfl,_,rfl,_,_,_,_,_,rfl,hb,T.c_Book.cl,T.n_Book_total,bf_total _ _ _ _,fun xr dr n1 n2 n3=>⟨xr,dr,(r,bk.pages),rfl,upd_same,fun H1 hRun made=>⟨rfl,?_⟩⟩⟩
   have same1:Same H H1:=Same.made n1 n2 made
   have hB1:=hB.mono same1
   obtain ⟨dx1,hb1⟩:=id hB1.ob
   refine ⟨_,rfl,_,_,_,rfl,hb1,rfl,_,rfl,b,xr,nm,rs,ld,ls,bk,(r,bk.pages),rfl,hB1,hRun,hR,fun H2 l hN2 but2 hl2 hl0 hlls=>?_⟩
   have hB2:BookAt a H2 b nm rs ld ls bk:=hB1.but but2 hN2
   obtain ⟨dx2,hb2⟩:=id hB2.ob
   have hRun2:RunAt a H2 xr (r,bk.pages):=by
    obtain ⟨d,q⟩:=hRun
    exact ⟨d,but2 _ _ q (hB1.nums.out q fun _ _ z=>nomatch z)⟩
   obtain ⟨dr2,hr2⟩:=id hRun2
   have fr2:Fr4 b rs ld ls H H2:=fun x o e _ _ _ hx=>but2 _ _ (same1 _ _ e) hx
   refine ⟨_,rfl,_,_,_,rfl,hb2,rfl,_,rfl,b,xr,bk,(r,bk.pages),rfl,⟨nm,rs,ld,ls,hB2⟩,hRun2,_,rfl,ite2 (fun h=>?_) (fun h=>?_)⟩
   · have h:(decide (r.style = 0) && (Bk.ws 0 bk).any (digOver (r,bk.pages))) = true:=h
     rw [h,Bool.true_or] at hal
     exact k1 hal H2 hB2 fr2
   · have h:(decide (r.style = 0) && (Bk.ws 0 bk).any (digOver (r,bk.pages))) = false:=Bool.not_eq_true _ ▸ h
     rw [h,Bool.false_or] at hal
     refine ⟨_,rfl,_,_,_,rfl,hb2,rfl,_,rfl,b,l,bk,namesV r,rfl,⟨nm,rs,ld,ls,hB2⟩,SqL.of hl2,_,rfl,ite2 (fun h=>?_) (fun h=>?_)⟩
     · rw [h] at hal
       exact k1 hal H2 hB2 fr2
     · have h:(namesV r).any (hasLet bk) = false:=Bool.not_eq_true _ ▸ h
       rw [h] at hal
       have ldb:ld≠b:=ne_of hB2.lett hb2 (fun z=>nomatch z)
       have ldr:ld≠xr:=ne_of hB2.lett hr2 (fun z=>nomatch z)
       have ldl:ld≠l:=ne_of hB2.lett hl2 (fun z=>nomatch z)
       have hlen:(letK bk).length≤65536:=by
        unfold letK
        rw [List.length_map]
        have h1:((Bk.lets 0 bk).map (·.1)).length≤(IhPages.namesOf bk).length:=by
         refine List.Nodup.length_le_of_subset (Bk.lets_nodup hB.ok) fun s hs=>?_
         obtain ⟨⟨s',j⟩,hm,rfl⟩:=List.mem_map.mp hs
         obtain ⟨_,kk,q,m,g1,g2,g3⟩:=(Bk.mem_lets bk 0 s' j).mp hm
         exact Bk.mem_namesOf.mpr ⟨j,Bk.page_lt bk j _ g1,by rw [Bk.name_of (show bk.page j = some (kk,q,m) from g1)]; exact g3⟩
        rw [Bk.namesOf_length,List.length_map] at h1
        have:=hB.pages
        omega
       have hcount:(namesV r).length≤r.count:=by unfold namesV; split <;> simp
       have hget:∀ i s,(namesV r)[i]? = some s→r.style≠0∧i < r.count∧s = r.name (r.first + i):=by
        intro i s hs
        unfold namesV at hs
        by_cases h0:r.style = 0
        · rw [if_pos h0] at hs; simp at hs
        · rw [if_neg h0,List.getElem?_map] at hs
          obtain ⟨j,hj,e⟩:=Option.map_eq_some_iff.mp hs
          obtain ⟨q1,q2⟩:=List.getElem?_eq_some_iff.mp hj
          rw [List.getElem_range] at q2
          rw [List.length_range] at q1
          subst q2
          exact ⟨h0,q1,e.symm⟩
       refine ⟨_,rfl,l,_,rfl,SqL.of hl2,for_it (n:=(namesV r).length) (fun i σ Hc=>(∃ u v,σ = [some (.ref b),some (.int (r.style:Int)),some (.int (r.first:Int)),some (.int (r.count:Int)),some (.str (S r.pre)),some (.ref xr),some (.ref l),u,v])∧Hc ld = some (.dK (letK bk ++ pairsV r bk.pages i))∧∀ c o,H2 c = some o→c≠ld→Hc c = some o)
        ⟨⟨_,_,rfl⟩,by rw [hB2.lett]; simp [pairsV],fun c o e _=>e⟩ ?_ ?_ ?_ ?_⟩
       · rintro i σ Hc hi ⟨_,_,p⟩
         exact ⟨_,V.str (S ((namesV r)[i])),SqL.of (p _ _ hl2 ldl.symm),by rw [List.getElem?_map,List.getElem?_eq_getElem hi]; rfl⟩
       · rintro σ Hc ⟨_,_,p⟩
         exact ⟨_,SqL.of (p _ _ hl2 ldl.symm),by rw [List.length_map]; exact Nat.le_refl _⟩
       · rintro i x σ Hc H' hi ⟨⟨u,v,rfl⟩,p1,p2⟩ ⟨tp,y,rfl,htp,rfl,hy⟩
         have hy:=hy _ (SqL.of (p2 _ _ hl2 ldl.symm))
         rw [List.getElem?_map] at hy
         obtain ⟨s,hs,rfl⟩:=Option.map_eq_some_iff.mp hy
         obtain ⟨h0,hic,rfl⟩:=hget i s hs
         have tpn:∀ c o,Hc c = some o→c≠tp:=fun c o e=>ne_of_none e htp
         have hb3:=p2 _ _ hb2 ldb.symm
         have hr3:=p2 _ _ hr2 ldr.symm
         have hnone:valV (letK bk ++ pairsV r bk.pages i) (Sum.inr (S (r.name (r.first + i)))) = none:=by
          rw [valV_app,pairs_new hR hic]
          have hf:=List.any_eq_false.mp h _ (List.mem_of_getElem? hs)
          unfold hasLet at hf
          cases e:valV (letK bk) (Sum.inr (S (r.name (r.first + i)))) with
          | none=>rfl
          | some z=>rw [e] at hf; exact absurd rfl hf
         refine ⟨tp,_,rfl,SqT.of upd_same,rfl,_,_,rfl,_,_,rfl,rfl,?_⟩
         refine ⟨_,rfl,_,_,_,_,_,rfl,(upd_ne (tpn _ _ hr3)).trans hr3,T.c_Run.cl,T.n_Run_start,rf_start _,_,rfl,_,_,rfl,rfl,_,rfl,_,_,_,_,_,rfl,(upd_ne (tpn _ _ hb3)).trans hb3,T.c_Book.cl,T.n_Book_lettered,bf_lettered _ _ _ _,_,rfl,ld,_,rfl,DPut.k (k:=Sum.inr (S (r.name (r.first + i)))) ((upd_ne (tpn _ _ p1)).trans p1) ?_,?_⟩
         · rw [List.length_append]
           unfold pairsV
           rw [List.length_map,List.length_range]
           omega
         · refine ⟨⟨_,_,rfl⟩,?_,fun c o e hc=>?_⟩
           · rw [upd_same,putK_new _ hnone,List.append_assoc,pairs_snoc]
             have e:(((r,bk.pages):Run × Nat).2:Int) + (i:Int) = ((bk.pages + i:Nat):Int):=by
              show (bk.pages:Int) + (i:Int) = _
              omega
             show some (HO.dK (letK bk ++ (pairsV r bk.pages i ++ [(_,V.int ((((r,bk.pages):Run × Nat).2:Int) + (i:Int)))]))) = _
             rw [e]
           · rw [upd_ne hc,upd_ne (tpn _ _ (p2 _ _ e hc))]
             exact p2 c o e hc
       · rintro σ Hc ⟨⟨u,v,rfl⟩,p1,p2⟩
         have hb3:=p2 _ _ hb2 ldb.symm
         obtain ⟨as,hrs,hpair⟩:=hB2.runs
         have ldrs:ld≠rs:=ne_of hB2.lett hrs (fun z=>nomatch z)
         have hrs3:=p2 _ _ hrs ldrs.symm
         have rsb:b≠rs:=ne_of hb2 hrs (fun z=>nomatch z)
         have has:as.length = bk.length:=by rw [Paired.len hpair,Bk.ws_length]
         refine ⟨_,rfl,_,_,_,_,_,rfl,hb3,T.c_Book.cl,T.n_Book_runs,bf_runs _ _ _ _,.inl ⟨rfl,_,SqL.of hrs3⟩,_,rfl,rs,_,_,rfl,rfl,hrs3,(by rw [List.length_map]; omega),?_⟩
         refine ⟨_,rfl,_,_,_,_,_,rfl,(upd_ne rsb).trans hb3,T.c_Book.cl,T.n_Book_total,bf_total _ _ _ _,_,rfl,_,_,rfl,rfl,_,rfl,b,a.c_Book,dx2,_,rfl,(upd_ne rsb).trans hb3,T.c_Book.cl,T.n_Book_total,(by show 4 < 1000; decide),?_⟩
         have ws1:Bk.ws 0 (bk ++ [r]) = Bk.ws 0 bk ++ [(r,bk.pages)]:=by rw [Bk.ws_append]; simp [Bk.ws]
         have pg:IhPlace.Book.pages (bk ++ [r]) = bk.pages + r.count:=by rw [Bk.pages_append]; simp [IhPlace.Book.pages]
         have keep:∀ c o,H2 c = some o→c≠ld→c≠rs→c≠b→upd (upd Hc rs (.lst (as.map V.ref ++ [V.ref xr]))) b (.ins a.c_Book dx2 (putF "total" (.int ((bk.pages:Int) + (r.count:Int))) (bookF nm rs bk.pages ld))) c = some o:=fun c o e g1 g2 g3=>by
          rw [upd_ne g3,upd_ne g2]
          exact p2 c o e g1
         have hlets:letK bk ++ pairsV r bk.pages (namesV r).length = letK (bk ++ [r]):=by
          by_cases h0:r.style = 0
          · rw [letK_snoc0 bk r h0]
            unfold namesV
            rw [if_pos h0]
            simp [pairsV]
          · rw [letK_snoc bk r h0]
            unfold namesV
            rw [if_neg h0,List.length_map,List.length_range]
         refine k2 hal _ ⟨⟨dx2,?_⟩,⟨as ++ [xr],?_,?_⟩,?_,?_,Bk.bookOk_snoc hB.ok hR hal,by rw [pg]; exact hpg,by rw [List.length_append,List.length_singleton]; omega⟩ fun c o e g1 g2 g3 g4=>keep c o (fr2 c o e g1 g2 g3 g4) g3 g2 g1
         · rw [upd_same,pg]
           have e:(bk.pages:Int) + (r.count:Int) = ((bk.pages + r.count:Nat):Int):=by omega
           show some (HO.ins a.c_Book dx2 (putF "total" (.int ((bk.pages:Int) + (r.count:Int))) (bookF nm rs bk.pages ld))) = _
           rw [bookF_total,e]
           rfl
         · rw [upd_ne rsb.symm,upd_same,List.map_append]
           rfl
         · rw [ws1]
           refine Paired.snoc ?_ (Paired.mapP hpair fun x y q=>?_)
           · refine ⟨dr2,keep _ _ hr2 ldr.symm (ne_of hr2 hrs (fun z=>nomatch z)) (ne_of hr2 hb2 (ins_ne run_book))⟩
           · obtain ⟨d,q⟩:=q
             exact ⟨d,keep _ _ q (ne_of q hB2.lett (fun z=>nomatch z)) (ne_of q hrs (fun z=>nomatch z)) (ne_of q hb2 (ins_ne run_book))⟩
         · rw [upd_ne ldb,upd_ne ldrs,p1,hlets]
         · obtain ⟨dn,L,g1,g2⟩:=hN2.ob
           refine ⟨⟨dn,L,keep _ _ g1 (ne_of g1 hB2.lett (fun z=>nomatch z)) (ne_of g1 hrs (fun z=>nomatch z)) (ne_of g1 hb2 (ins_ne nums_book)),?_⟩,hN2.len,hN2.nd,fun i x hi=>?_⟩
           · refine keep _ _ g2 (ne_of g2 hB2.lett (fun z=>nomatch z)) (fun z=>?_) (ne_of g2 hb2 (fun z=>nomatch z))
             subst z
             rw [g2] at hrs
             have e:ls = as:=List.map_inj_right (fun x y z=>V.ref.inj z) |>.mp (HO.lst.inj (Option.some.inj hrs))
             obtain ⟨x,hx⟩:∃ x,ls[0]? = some x:=⟨_,List.getElem?_eq_getElem (by have:=hN2.len; omega)⟩
             obtain ⟨n,_,g3⟩:=hN2.at_ 0 x hx
             obtain ⟨y,_,⟨d,g4⟩⟩:=pair_at hpair (e ▸ hx)
             rw [g3] at g4
             cases g4
           · obtain ⟨n,g3,g4⟩:=hN2.at_ i x hi
             exact ⟨n,g3,keep _ _ g4 (ne_of g4 hB2.lett (fun z=>nomatch z)) (ne_of g4 hrs (fun z=>refs_ne as i n z.symm)) (ne_of g4 hb2 (fun z=>nomatch z))⟩
end
end Hp
namespace Hp
open PySem L2
section
variable {P:Program} {w:World} {K:PySem.W.Frag} {mg:Str→Option Value} {base:Heap} {a:Adr}
def fiveV (p:Place):List V:=[.int (p.from_:Int),.int (p.to_:Int),.int (p.kind:Int),.int (mI p.main),.int (p.note:Int)]
theorem placeF_put (x:Place):putF "note" (.int (x.note:Int)) (putF "main" (.int (mI x.main)) (putF "kind" (.int (x.kind:Int)) (putF "to_index" (.int (x.to_:Int)) (putF "from_index" (.int (x.from_:Int)) [])))) = placeF x:=rfl
def sp_Place_init (a:Adr):Sp:=fun vs H Q _=>∃ (p dx l:Addr) (x:Place),vs = [.ref p,.ref l]∧H p = some (.ins a.c_Place dx [])∧H l = some (.lst (fiveV x))∧∀ H',PlAt a H' p x→Made H H' p→Q .non H'
theorem ok_Place_init (T:Txt K mg a):FnOk P w K mg base CX0 1 a.Place_init.f a.Place_init.d ["self","numbers"] (sp_Place_init a):=by
 have sc:FnScope ["self","numbers"] ["self","numbers"] (defScope s_Place_init):=⟨rfl,rfl,rfl,by decide +kernel,rfl,by decide +kernel,by decide +kernel⟩
 refine T.Place_init.fn.ok sc (fun vs H Q E h=>?_) (fun cdv A outer s H vs Q E hr h=>?_)
 · obtain ⟨_,_,_,_,rfl,_⟩:=h
   rfl
 · obtain ⟨p,dx,l,x,rfl,hp,hl,k⟩:=h
   refine ⟨_,(pss_cons (ps_fld (pv 0) (pe_ix ix_list (pv 1) pe_int (fun _ _=>rfl)) rfl)
    (pss_cons (ps_fld (pv 0) (pe_ix ix_list (pv 1) pe_int (fun _ _=>rfl)) rfl)
    (pss_cons (ps_fld (pv 0) (pe_ix ix_list (pv 1) pe_int (fun _ _=>rfl)) rfl)
    (pss_cons (ps_fld (pv 0) (pe_ix ix_list (pv 1) pe_int (fun _ _=>rfl)) rfl)
    (pss_one (ps_fld (pv 0) (pe_ix ix_list (pv 1) pe_int (fun _ _=>rfl)) rfl)))))),?_⟩
   have lp:l≠p:=ne_of hl hp (fun z=>nomatch z)
   refine ⟨_,rfl,l,_,_,_,rfl,rfl,SqL.of hl,at_of (j:=0) rfl rfl,_,rfl,p,a.c_Place,dx,_,rfl,hp,T.c_Place.cl,T.n_Place_from_index,(by show 0 < 1000; decide),?_⟩
   refine ⟨_,rfl,l,_,_,_,rfl,rfl,SqL.of ((upd_ne lp).trans hl),at_of (j:=1) rfl rfl,_,rfl,p,a.c_Place,dx,_,rfl,upd_same,T.c_Place.cl,T.n_Place_to_index,(by show 1 < 1000; decide),?_⟩
   refine ⟨_,rfl,l,_,_,_,rfl,rfl,SqL.of ((upd_ne lp).trans ((upd_ne lp).trans hl)),at_of (j:=2) rfl rfl,_,rfl,p,a.c_Place,dx,_,rfl,upd_same,T.c_Place.cl,T.n_Place_kind,(by show 2 < 1000; decide),?_⟩
   refine ⟨_,rfl,l,_,_,_,rfl,rfl,SqL.of ((upd_ne lp).trans ((upd_ne lp).trans ((upd_ne lp).trans hl))),at_of (j:=3) rfl rfl,_,rfl,p,a.c_Place,dx,_,rfl,upd_same,T.c_Place.cl,T.n_Place_main,(by show 3 < 1000; decide),?_⟩
   refine ⟨_,rfl,l,_,_,_,rfl,rfl,SqL.of ((upd_ne lp).trans ((upd_ne lp).trans ((upd_ne lp).trans ((upd_ne lp).trans hl)))),at_of (j:=4) rfl rfl,_,rfl,p,a.c_Place,dx,_,rfl,upd_same,T.c_Place.cl,T.n_Place_note,(by show 4 < 1000; decide),?_⟩
   refine k _ ⟨dx,Eq.trans upd_same (congrArg (fun q=>some (HO.ins a.c_Place dx q)) (placeF_put x))⟩ fun b o e hb=>?_
   simp only [upd_ne hb]
   exact e
def sp_numbers_of (a:Adr):Sp:=fun vs H Q _=>∃ (p:Addr) (x:Place),vs = [.ref p]∧PlAt a H p x∧∀ l,H l = none→Q (.ref l) (upd H l (.lst (fiveV x)))
theorem ok_numbers_of (T:Txt K mg a):FnOk P w K mg base CX0 1 a.numbers_of.f a.numbers_of.d ["place"] (sp_numbers_of a):=by
 have sc:FnScope ["place"] ["place"] (defScope s_numbers_of):=⟨rfl,rfl,rfl,by decide +kernel,rfl,by decide +kernel,by decide +kernel⟩
 refine T.numbers_of.fn.ok sc (fun vs H Q E h=>?_) (fun cdv A outer s H vs Q E hr h=>?_)
 · obtain ⟨_,_,rfl,_⟩:=h
   rfl
 · obtain ⟨p,x,rfl,⟨dx,hp⟩,k⟩:=h
   refine ⟨_,(pss_one (ps_ret (pe_lst (pa_5 (pe_fld (pv 0) rfl) (pe_fld (pv 0) rfl) (pe_fld (pv 0) rfl) (pe_fld (pv 0) rfl) (pe_fld (pv 0) rfl))))),?_⟩
   refine ⟨_,rfl,_,_,_,_,_,rfl,hp,T.c_Place.cl,T.n_Place_from_index,pf_from x,_,rfl,_,_,_,_,_,rfl,hp,T.c_Place.cl,T.n_Place_to_index,pf_to x,_,rfl,_,_,_,_,_,rfl,hp,T.c_Place.cl,T.n_Place_kind,pf_kind x,_,rfl,_,_,_,_,_,rfl,hp,T.c_Place.cl,T.n_Place_main,pf_main x,_,rfl,_,_,_,_,_,rfl,hp,T.c_Place.cl,T.n_Place_note,pf_note x,(show 5≤sizeLine by decide),fun l hl=>k l hl⟩
def sp_has_right_pages (a:Adr):Sp:=fun vs H Q _=>∃ (b p:Addr) (bk:Book) (x:Place),vs = [.ref b,.ref p]∧BookV a H b bk∧PlAt a H p x∧Q (.bl (Bk.rightPages bk x.from_ x.to_)) H
theorem ok_has_right_pages (T:Txt K mg a):FnOk P w K mg base CX0 3 a.has_right_pages.f a.has_right_pages.d ["book","place"] (sp_has_right_pages a):=by
 have sc:FnScope ["book","place","run"] ["book","place"] (defScope s_has_right_pages):=⟨rfl,rfl,rfl,by decide +kernel,rfl,by decide +kernel,by decide +kernel⟩
 refine T.has_right_pages.fn.ok sc (fun vs H Q E h=>?_) (fun cdv A outer s H vs Q E hr h=>?_)
 · obtain ⟨_,_,_,_,rfl,_⟩:=h
   rfl
 · obtain ⟨b,p,bk,x,rfl,hB,⟨dx,hp⟩,q⟩:=h
   refine ⟨_,(pss_cons (ps_set (i:=2) sc.nd rfl (Or.inl rfl) (pe_meth (pv 0) T.c_Book.cl T.Book_run_at.m (ok_Book_run_at T) (hr.mono (by decide)) T.Book_run_at.b .nil pass0 (pa_1 (pe_fld (pv 1) rfl))))
    (pss_cons (ps_if (PW.pt (pw_or (pt_cmp (pc_isN (pv 2))) (pw_or1 (pt_not (pt_val (pe_meth (pv 2) T.c_Run.cl T.Run_has_index.m (ok_Run_has_index T) (hr.mono (by decide)) T.Run_has_index.b .nil pass0 (pa_1 (pe_fld (pv 1) rfl))))))))
     (pss_one (ps_ret pe_bl))
     pss_nil)
    (pss_one (ps_ret (pe_cmpR op_le (pe_fld (pv 1) rfl) (pe_fld (pv 1) rfl) (nomark _)))))),?_⟩
   obtain ⟨nm,rs,ld,ls,hB1⟩:=id hB
   obtain ⟨db,hb⟩:=id hB1.ob
   refine ⟨_,rfl,_,_,_,rfl,hb,rfl,_,rfl,_,_,_,_,_,rfl,hp,T.c_Place.cl,T.n_Place_from_index,pf_from x,b,bk,x.from_,rfl,hB,fun v hv=>?_⟩
   unfold Bk.rightPages at q
   cases e:Bk.runAt bk x.from_ with
   | none =>
     rw [e] at hv q
     cases (show v = .non from hv)
     exact ⟨_,rfl,_,rfl,iteT (iteT q)⟩
   | some y =>
     rw [e] at hv q
     obtain ⟨r,rfl,hr1⟩:=hv
     obtain ⟨dr,hr2⟩:=id hr1
     refine ⟨_,rfl,_,rfl,iteF ⟨_,rfl,_,_,_,rfl,hr2,rfl,_,rfl,_,_,_,_,_,rfl,hp,T.c_Place.cl,T.n_Place_to_index,pf_to x,r,y,x.to_,rfl,hr1,_,rfl,ite2 (fun h=>?_) (fun h=>?_)⟩⟩
     · have h:Bk.hasIx x.to_ y = false:=by simpa using h
       simp only [h,Bool.false_and] at q
       exact q
     · have h:Bk.hasIx x.to_ y = true:=by simpa using h
       simp only [h,Bool.true_and] at q
       refine ⟨_,rfl,_,_,_,_,_,rfl,hp,T.c_Place.cl,T.n_Place_from_index,pf_from x,_,rfl,_,_,_,_,_,rfl,hp,T.c_Place.cl,T.n_Place_to_index,pf_to x,_,_,rfl,rfl,?_⟩
       have e:decide ((x.from_:Int)≤(x.to_:Int)) = decide (x.from_≤x.to_):=by
        rw [Bool.eq_iff_iff]; simp
       rw [← e] at q
       exact q
theorem mI_eq {b:Bool}:(V.int (mI b) = V.int 0) = (b = false):=by cases b <;> simp [mI]
theorem mI_one {b:Bool}:(V.int (mI b) = V.int 1) = (b = true):=by cases b <;> simp [mI]
theorem nat_eq {n k:Nat}:(V.int (n:Int) = V.int (k:Int)) = (n = k):=by rw [int_eq]; exact propext ⟨fun h=>by omega,fun h=>by omega⟩
theorem nat_0 {n:Nat}:(V.int (n:Int) = V.int 0) = (n = 0):=nat_eq (k:=0)
theorem nat_1 {n:Nat}:(V.int (n:Int) = V.int 1) = (n = 1):=nat_eq (k:=1)
theorem nat_2 {n:Nat}:(V.int (n:Int) = V.int 2) = (n = 2):=nat_eq (k:=2)
theorem nat_3 {n:Nat}:(V.int (n:Int) = V.int 3) = (n = 3):=nat_eq (k:=3)
theorem nat_4 {n:Nat}:(V.int (n:Int) = V.int 4) = (n = 4):=nat_eq (k:=4)
def sp_has_right_kind (a:Adr):Sp:=fun vs H Q _=>∃ (p:Addr) (x:Place),vs = [.ref p]∧PlAt a H p x∧Q (.bl (Bk.rightKind x)) H
theorem ok_has_right_kind (T:Txt K mg a):FnOk P w K mg base CX0 1 a.has_right_kind.f a.has_right_kind.d ["place"] (sp_has_right_kind a):=by
 have sc:FnScope ["place"] ["place"] (defScope s_has_right_kind):=⟨rfl,rfl,rfl,by decide +kernel,rfl,by decide +kernel,by decide +kernel⟩
 refine T.has_right_kind.fn.ok sc (fun vs H Q E h=>?_) (fun cdv A outer s H vs Q E hr h=>?_)
 · obtain ⟨_,_,rfl,_⟩:=h
   rfl
 · obtain ⟨p,x,rfl,⟨dx,hp⟩,q⟩:=h
   refine ⟨_,(pss_cons (ps_if (pt_cmpR op_eq (pe_fld (pv 0) rfl) (pe_gv T.g_PLAIN) (nomark _))
     (pss_one (ps_ret pe_bl))
     pss_nil)
    (pss_one (ps_ret (pe_and (pe_cmpR op_le (pe_fld (pv 0) rfl) (pe_gv T.g_TABLE) (nomark _)) (pe_and (pe_cmpR op_eq (pe_fld (pv 0) rfl) (pe_fld (pv 0) rfl) (nomark _)) (pe_one (pe_cmpR op_eq (pe_fld (pv 0) rfl) pe_int (nomark _)))))))),?_⟩
   refine ⟨_,rfl,_,_,_,_,_,rfl,hp,T.c_Place.cl,T.n_Place_kind,pf_kind x,rfl,_,rfl,ite2 (fun h=>?_) (fun h=>?_)⟩
   · have h:=of_decide_eq_true h
     rw [nat_0] at h
     have e:Bk.rightKind x = true:=by unfold Bk.rightKind; rw [h]; rfl
     rw [e] at q
     exact q
   · have h:=dne h
     rw [nat_0] at h
     have e0:(x.kind == 0) = false:=by simpa using h
     unfold Bk.rightKind at q
     rw [e0,Bool.false_or] at q
     refine ⟨_,rfl,_,_,_,_,_,rfl,hp,T.c_Place.cl,T.n_Place_kind,pf_kind x,_,_,rfl,rfl,_,rfl,ite2 (fun h1=>?_) (fun h1=>?_)⟩
     · have h1:=of_decide_eq_true h1
       rw [decide_eq_true (show x.kind≤3 by omega),Bool.true_and] at q
       refine ⟨_,rfl,_,_,_,_,_,rfl,hp,T.c_Place.cl,T.n_Place_from_index,pf_from x,_,rfl,_,_,_,_,_,rfl,hp,T.c_Place.cl,T.n_Place_to_index,pf_to x,rfl,_,rfl,ite2 (fun h2=>?_) (fun h2=>?_)⟩
       · have h2:=of_decide_eq_true h2
         rw [nat_eq] at h2
         rw [beq_iff_eq.mpr h2,Bool.true_and] at q
         refine ⟨_,rfl,_,_,_,_,_,rfl,hp,T.c_Place.cl,T.n_Place_main,pf_main x,rfl,?_⟩
         have e:decide (V.int (mI x.main) = V.int 0) = !x.main:=by cases x.main <;> simp [mI]
         rw [← e] at q
         exact q
       · have h2:=dne h2
         rw [nat_eq] at h2
         rw [show (x.from_ == x.to_) = false by simpa using h2,Bool.false_and] at q
         exact q
     · have h1:=dne h1
       rw [decide_eq_false (show ¬ x.kind≤3 by omega),Bool.false_and] at q
       exact q
def sp_has_right_note (a:Adr):Sp:=fun vs H Q _=>∃ (p:Addr) (x:Place),vs = [.ref p]∧PlAt a H p x∧Q (.bl (Bk.rightNote x)) H
theorem ok_has_right_note (T:Txt K mg a):FnOk P w K mg base CX0 1 a.has_right_note.f a.has_right_note.d ["place"] (sp_has_right_note a):=by
 have sc:FnScope ["place"] ["place"] (defScope s_has_right_note):=⟨rfl,rfl,rfl,by decide +kernel,rfl,by decide +kernel,by decide +kernel⟩
 refine T.has_right_note.fn.ok sc (fun vs H Q E h=>?_) (fun cdv A outer s H vs Q E hr h=>?_)
 · obtain ⟨_,_,rfl,_⟩:=h
   rfl
 · obtain ⟨p,x,rfl,⟨dx,hp⟩,q⟩:=h
   refine ⟨_,(pss_cons (ps_if (pt_cmpR op_eq (pe_fld (pv 0) rfl) (pe_gv T.g_NOTE) (nomark _))
     (pss_one (ps_ret (pe_chain op_le op_le pe_int (pe_fld (pv 0) rfl) (pe_gv T.g_MOST_NOTE))))
     pss_nil)
    (pss_one (ps_ret (pe_cmpR op_eq (pe_fld (pv 0) rfl) pe_int (nomark _))))),?_⟩
   refine ⟨_,rfl,_,_,_,_,_,rfl,hp,T.c_Place.cl,T.n_Place_kind,pf_kind x,rfl,_,rfl,ite2 (fun h=>?_) (fun h=>?_)⟩
   · have h:=of_decide_eq_true h
     rw [nat_1] at h
     unfold Bk.rightNote at q
     rw [if_pos h] at q
     refine ⟨_,rfl,_,_,_,_,_,rfl,hp,T.c_Place.cl,T.n_Place_note,pf_note x,_,_,rfl,rfl,_,rfl,ite2 (fun h1=>?_) (fun h1=>?_)⟩
     · have h1:=of_decide_eq_true h1
       rw [decide_eq_true (show 1≤x.note by omega),Bool.true_and] at q
       refine ⟨_,_,rfl,rfl,?_⟩
       have e:decide ((x.note:Int)≤16777215) = decide (x.note≤16777215):=by rw [Bool.eq_iff_iff]; simp; omega
       rw [← e] at q
       exact q
     · have h1:=dne h1
       rw [decide_eq_false (show ¬ 1≤x.note by omega),Bool.false_and] at q
       exact q
   · have h:=dne h
     rw [nat_1] at h
     unfold Bk.rightNote at q
     rw [if_neg h] at q
     refine ⟨_,rfl,_,_,_,_,_,rfl,hp,T.c_Place.cl,T.n_Place_note,pf_note x,rfl,?_⟩
     have e:decide (V.int (x.note:Int) = V.int 0) = (x.note == 0):=by rw [Bool.eq_iff_iff]; simp
     rw [← e] at q
     exact q
def sp_is_right (a:Adr):Sp:=fun vs H Q _=>∃ (b p:Addr) (bk:Book) (x:Place),vs = [.ref b,.ref p]∧BookV a H b bk∧PlAt a H p x∧Q (.bl (x.right bk)) H
theorem ok_is_right (T:Txt K mg a):FnOk P w K mg base CX0 4 a.is_right.f a.is_right.d ["book","place"] (sp_is_right a):=by
 have sc:FnScope ["book","place"] ["book","place"] (defScope s_is_right):=⟨rfl,rfl,rfl,by decide +kernel,rfl,by decide +kernel,by decide +kernel⟩
 refine T.is_right.fn.ok sc (fun vs H Q E h=>?_) (fun cdv A outer s H vs Q E hr h=>?_)
 · obtain ⟨_,_,_,_,rfl,_⟩:=h
   rfl
 · obtain ⟨b,p,bk,x,rfl,hB,hp,q⟩:=h
   refine ⟨_,(pss_one (ps_ret (pe_and (pe_call (ok_has_right_pages T) (hr.mono (by decide)) rfl T.has_right_pages.m T.has_right_pages.fn.kp T.has_right_pages.b .nil pass0 (pa_2 (pv 0) (pv 1))) (pe_and (pe_call (ok_has_right_kind T) (hr.mono (by decide)) rfl T.has_right_kind.m T.has_right_kind.fn.kp T.has_right_kind.b .nil pass0 (pa_1 (pv 1))) (pe_one (pe_call (ok_has_right_note T) (hr.mono (by decide)) rfl T.has_right_note.m T.has_right_note.fn.kp T.has_right_note.b .nil pass0 (pa_1 (pv 1)))))))),?_⟩
   rw [Bk.right_eq] at q
   refine ⟨_,rfl,_,rfl,b,p,bk,x,rfl,hB,hp,_,rfl,ite2 (fun h1=>?_) (fun h1=>?_)⟩
   · rw [h1,Bool.true_and] at q
     refine ⟨_,rfl,p,x,rfl,hp,_,rfl,ite2 (fun h2=>?_) (fun h2=>?_)⟩
     · rw [h2,Bool.true_and] at q
       exact ⟨_,rfl,p,x,rfl,hp,q⟩
     · rw [show Bk.rightKind x = false from Bool.not_eq_true _ ▸ h2,Bool.false_and] at q
       exact q
   · rw [show Bk.rightPages bk x.from_ x.to_ = false from Bool.not_eq_true _ ▸ h1,Bool.false_and,Bool.false_and] at q
     exact q
end
end Hp
namespace Hp
open PySem L2
section
variable {P:Program} {w:World} {K:PySem.W.Frag} {mg:Str→Option Value} {base:Heap} {a:Adr}
theorem dig_short {n:Nat} (h:n≤99999):(IhPlace.digits n).length≤5:=(Bk.digits_le n 5 (by decide)).mpr (by omega)
theorem log_page {n:Nat} (h:n≤99999):((n:Int)).natAbs.log2 < 1920:=log_small (Nat.lt_of_le_of_lt h (by decide))
theorem sz5 {s:Bytes} (h:s.length≤5):(S s).length≤sizeLine:=by rw [S_len]; exact Nat.le_trans h (by decide)
theorem ix_S {s:Bytes} {k c:Nat} (h:s[k]? = some c):atI (S s).cps.toList (k:Int) = some c:=atI_nat h
theorem sgn_eq {c d:Nat}:(V.str ⟨#[c]⟩ = V.str ⟨#[d]⟩) = (c = d):=one_eq
def sp_differing_digits:Sp:=fun vs H Q _=>∃ (m n:Nat),vs = [.int (m:Int),.int (n:Int)]∧m≤99999∧n≤99999∧Q (.int (Bk.differing m n:Int)) H
theorem ok_differing_digits (T:Txt K mg a):FnOk P w K mg base CX0 1 a.differing_digits.f a.differing_digits.d ["from_number","to_number"] (sp_differing_digits):=by
 have sc:FnScope ["from_number","to_number","from_digits","to_digits","same"] ["from_number","to_number"] (defScope s_differing_digits):=⟨rfl,rfl,rfl,by decide +kernel,rfl,by decide +kernel,by decide +kernel⟩
 refine T.differing_digits.fn.ok sc (fun vs H Q E h=>?_) (fun cdv A outer s H vs Q E hr h=>?_)
 · obtain ⟨_,_,rfl,_⟩:=h
   rfl
 · obtain ⟨m,n,rfl,hm,hn,q⟩:=h
   refine ⟨_,(pss_cons (ps_set (i:=2) sc.nd rfl (Or.inl rfl) (pe_callTy call_str_int (by rfl) T.b_str PyProof.Rows.boot_str (pa_1 (pv 0))))
    (pss_cons (ps_set (i:=3) sc.nd rfl (Or.inl rfl) (pe_callTy call_str_int (by rfl) T.b_str PyProof.Rows.boot_str (pa_1 (pv 1))))
    (pss_cons (ps_if (pt_cmpR op_lt (pe_callB call_len_str (by rfl) T.b_len PySem.boot_len (pa_1 (pv 2))) (pe_callB call_len_str (by rfl) T.b_len PySem.boot_len (pa_1 (pv 3))) (nomark _))
     (pss_one (ps_ret (pe_callB call_len_str (by rfl) T.b_len PySem.boot_len (pa_1 (pv 3)))))
     pss_nil)
    (pss_cons (ps_set (i:=4) sc.nd rfl (Or.inl rfl) pe_int)
    (pss_cons (ps_while PassesOwn.never (PW.pt (pw_and (pt_cmpR op_lt (pv 4) (pe_callB call_len_str (by rfl) T.b_len PySem.boot_len (pa_1 (pv 3))) (nomark _)) (pw_and1 (pt_cmpR op_eq (pe_ix ix_str (pv 2) (pv 4) (fun _ _=>rfl)) (pe_ix ix_str (pv 3) (pv 4) (fun _ _=>rfl)) (nomark _)))))
     (pss_one (ps_set (i:=4) sc.nd rfl (Or.inl rfl) (pe_op op_add (pv 4) pe_int))))
    (pss_one (ps_ret (pe_op op_sub (pe_callB call_len_str (by rfl) T.b_len PySem.boot_len (pa_1 (pv 3))) (pv 4))))))))),?_⟩
   have sm:=sz5 (dig_short hm)
   have sn:=sz5 (dig_short hn)
   refine ⟨_,rfl,_,rfl,log_page hm,?_⟩
   rw [str_num]
   refine ⟨_,rfl,_,rfl,log_page hn,?_⟩
   rw [str_num]
   refine ⟨_,rfl,_,rfl,sm,_,rfl,_,rfl,sn,_,_,rfl,rfl,_,rfl,ite2 (fun h=>?_) (fun h=>?_)⟩
   · have h:=of_decide_eq_true h
     rw [S_len,S_len] at h
     refine ⟨_,rfl,_,rfl,sn,?_⟩
     rw [S_len]
     have e:Bk.differing m n = (IhPlace.digits n).length:=by unfold Bk.differing; rw [if_pos (by omega)]
     rw [e] at q
     exact q
   · have h:=dne h
     rw [S_len,S_len] at h
     have hle:(IhPlace.digits n).length≤(IhPlace.digits m).length:=by omega
     have e:Bk.differing m n = (IhPlace.digits n).length - IhPlace.alike (IhPlace.digits m) (IhPlace.digits n):=by unfold Bk.differing; rw [if_neg (by omega)]
     rw [e] at q
     have al:=Bk.alike_le_right (IhPlace.digits m) (IhPlace.digits n)
     have at_:=Bk.alike_at (IhPlace.digits m) (IhPlace.digits n)
     have st:=Bk.alike_stop (IhPlace.digits m) (IhPlace.digits n) hle
     generalize hk:IhPlace.alike (IhPlace.digits m) (IhPlace.digits n) = k at *
     generalize IhPlace.digits m = dm at *
     generalize IhPlace.digits n = dn at *
     refine ⟨fun i σ H'=>∃ j,i = k - j∧j≤k∧H' = H∧σ = [some (.int (m:Int)),some (.int (n:Int)),some (.str (S dm)),some (.str (S dn)),some (.int (j:Int))],⟨k,0,rfl,Nat.zero_le _,rfl,rfl⟩,?_⟩
     have last:∀ j:Nat,j≤k→¬ j < k→Q (.int (((dn.length:Nat):Int) - (j:Int))) H:=fun j h1 h2=>by
      have e:((dn.length:Nat):Int) - (j:Int) = ((dn.length - k:Nat):Int):=by omega
      rw [e]
      exact q
     rintro i σ H' ⟨j,rfl,hj,rfl,rfl⟩
     refine ⟨_,rfl,_,rfl,_,rfl,sn,_,_,rfl,rfl,_,rfl,ite2 (fun h1=>?_) (fun h1=>?_)⟩
     · have h1:=of_decide_eq_true h1
       rw [S_len] at h1
       have j1:j < dn.length:=by omega
       have j2:j < dm.length:=by omega
       refine ⟨_,rfl,_,rfl,_,_,_,rfl,rfl,sm,ix_S (List.getElem?_eq_getElem j2),_,rfl,_,rfl,_,_,_,rfl,rfl,sn,ix_S (List.getElem?_eq_getElem j1),rfl,_,rfl,ite2 (fun h2=>?_) (fun h2=>?_)⟩
       · have h2:=of_decide_eq_true h2
         rw [sgn_eq] at h2
         have jk:j < k:=by
          refine Nat.lt_of_le_of_ne hj fun z=>?_
          subst z
          refine st j1 ?_
          rw [List.getElem?_eq_getElem j2,List.getElem?_eq_getElem j1,h2]
         refine ⟨fun σ' H2=>∃ m',m' < k - j∧∃ j,m' = k - j∧j≤k∧H2 = H'∧σ' = [some (.int (m:Int)),some (.int (n:Int)),some (.str (S dm)),some (.str (S dn)),some (.int (j:Int))],fun _ _ h=>h,?_⟩
         refine ⟨_,rfl,_,_,rfl,rfl,k - (j + 1),by omega,j + 1,rfl,by omega,rfl,?_⟩
         have e:((j:Int) + 1) = ((j + 1:Nat):Int):=by omega
         rw [← e]
         rfl
       · have h2:=dne h2
         rw [sgn_eq] at h2
         refine ⟨_,rfl,_,rfl,sn,_,rfl,_,_,rfl,rfl,?_⟩
         rw [S_len]
         refine last j hj fun z=>h2 ?_
         have:=(at_ j z).1
         rw [List.getElem?_eq_getElem j2,List.getElem?_eq_getElem j1] at this
         exact Option.some.inj this
     · have h1:=dne h1
       rw [S_len] at h1
       refine iteF ⟨_,rfl,_,rfl,sn,_,rfl,_,_,rfl,rfl,?_⟩
       rw [S_len]
       exact last j hj (by omega)
theorem max_two (k:Nat):(if (2:Int) > (k:Int) then (2:Int) else (k:Int)) = ((max k 2:Nat):Int):=by split <;> omega
theorem min_two (i j:Nat):(if (j:Int) < (i:Int) then (j:Int) else (i:Int)) = ((min i j:Nat):Int):=by split <;> omega
theorem max_nat (i j:Nat):(if (j:Int) > (i:Int) then (j:Int) else (i:Int)) = ((max i j:Nat):Int):=by split <;> omega
def sp_digits_by_from_number:Sp:=fun vs H Q _=>∃ (m n:Nat),vs = [.int (m:Int),.int (n:Int)]∧m≤99999∧n≤99999∧Q (.int (Bk.byFrom m n:Int)) H
theorem ok_digits_by_from_number (T:Txt K mg a):FnOk P w K mg base CX0 2 a.digits_by_from_number.f a.digits_by_from_number.d ["from_number","to_number"] (sp_digits_by_from_number):=by
 have sc:FnScope ["from_number","to_number","rest","differing"] ["from_number","to_number"] (defScope s_digits_by_from_number):=⟨rfl,rfl,rfl,by decide +kernel,rfl,by decide +kernel,by decide +kernel⟩
 refine T.digits_by_from_number.fn.ok sc (fun vs H Q E h=>?_) (fun cdv A outer s H vs Q E hr h=>?_)
 · obtain ⟨_,_,rfl,_⟩:=h
   rfl
 · obtain ⟨m,n,rfl,hm,hn,q⟩:=h
   refine ⟨_,(pss_cons (ps_set (i:=2) sc.nd rfl (Or.inl rfl) (pe_op op_mod (pv 0) pe_int))
    (pss_cons (ps_if (PW.pt (pw_or (pt_cmpR op_lt (pv 0) pe_int (nomark _)) (pw_or1 (pt_cmpR op_eq (pv 2) pe_int (nomark _)))))
     (pss_one (ps_ret (pe_callB call_len_str (by rfl) T.b_len PySem.boot_len (pa_1 (pe_callTy call_str_int (by rfl) T.b_str PyProof.Rows.boot_str (pa_1 (pv 1)))))))
     pss_nil)
    (pss_cons (ps_set (i:=3) sc.nd rfl (Or.inl rfl) (pe_call (ok_differing_digits T) (hr.mono (by decide)) rfl T.differing_digits.m T.differing_digits.fn.kp T.differing_digits.b .nil pass0 (pa_2 (pv 0) (pv 1))))
    (pss_cons (ps_if (pt_cmpR op_le (pv 2) pe_int (nomark _))
     (pss_one (ps_ret (pv 3)))
     pss_nil)
    (pss_one (ps_ret (pe_callB (call_max2 rfl) (by rfl) T.b_max PyProof.Rows.boot_max (pa_2 (pv 3) pe_int)))))))),?_⟩
   have sn:=sz5 (dig_short hn)
   have em:((m:Int) % 100) = ((m % 100:Nat):Int):=by omega
   have whole:m < 100∨m % 100 = 0→Q (.int ((IhPlace.digits n).length:Int)) H:=fun h=>by
    unfold Bk.byFrom at q
    rw [if_pos h] at q
    exact q
   refine ⟨_,rfl,_,_,rfl,rfl,(show (0:Int) < 100 by decide),_,rfl,_,_,rfl,rfl,_,rfl,ite2 (fun h=>?_) (fun h=>?_)⟩
   · have h:=of_decide_eq_true h
     refine iteT ⟨_,rfl,_,rfl,log_page hn,?_⟩
     rw [str_num]
     refine ⟨_,rfl,sn,?_⟩
     rw [S_len]
     exact whole (by omega)
   · have h:=dne h
     refine ⟨_,rfl,rfl,_,rfl,ite2 (fun h1=>?_) (fun h1=>?_)⟩
     · have h1:=of_decide_eq_true h1
       rw [int_eq] at h1
       refine ⟨_,rfl,_,rfl,log_page hn,?_⟩
       rw [str_num]
       refine ⟨_,rfl,sn,?_⟩
       rw [S_len]
       exact whole (by omega)
     · have h1:=dne h1
       rw [int_eq] at h1
       unfold Bk.byFrom at q
       rw [if_neg (by omega)] at q
       refine ⟨_,rfl,_,rfl,m,n,rfl,hm,hn,?_⟩
       refine ⟨_,rfl,_,_,rfl,rfl,_,rfl,ite2 (fun h2=>?_) (fun h2=>?_)⟩
       · have h2:=of_decide_eq_true h2
         rw [if_pos (by omega)] at q
         exact ⟨_,rfl,q⟩
       · have h2:=dne h2
         rw [if_neg (by omega)] at q
         refine ⟨_,rfl,_,_,rfl,?_⟩
         rw [max_two]
         exact q
def sp_digits_told:Sp:=fun vs H Q _=>∃ (way m n:Nat),vs = [.int (way:Int),.int (m:Int),.int (n:Int)]∧m≤99999∧n≤99999∧Q (.int (Bk.toldBy way m n:Int)) H
theorem ok_digits_told (T:Txt K mg a):FnOk P w K mg base CX0 3 a.digits_told.f a.digits_told.d ["way","from_number","to_number"] (sp_digits_told):=by
 have sc:FnScope ["way","from_number","to_number","differing"] ["way","from_number","to_number"] (defScope s_digits_told):=⟨rfl,rfl,rfl,by decide +kernel,rfl,by decide +kernel,by decide +kernel⟩
 refine T.digits_told.fn.ok sc (fun vs H Q E h=>?_) (fun cdv A outer s H vs Q E hr h=>?_)
 · obtain ⟨_,_,_,rfl,_⟩:=h
   rfl
 · obtain ⟨way,m,n,rfl,hm,hn,q⟩:=h
   refine ⟨_,(pss_cons (ps_if (pt_cmpR op_eq (pv 0) (pe_gv T.g_BY_FROM_NUMBER) (nomark _))
     (pss_one (ps_ret (pe_call (ok_digits_by_from_number T) (hr.mono (by decide)) rfl T.digits_by_from_number.m T.digits_by_from_number.fn.kp T.digits_by_from_number.b .nil pass0 (pa_2 (pv 1) (pv 2)))))
     pss_nil)
    (pss_cons (ps_set (i:=3) sc.nd rfl (Or.inl rfl) (pe_call (ok_differing_digits T) (hr.mono (by decide)) rfl T.differing_digits.m T.differing_digits.fn.kp T.differing_digits.b .nil pass0 (pa_2 (pv 1) (pv 2))))
    (pss_cons (ps_if (pt_cmpR op_eq (pv 0) (pe_gv T.g_TWO_DIGITS_AT_LEAST) (nomark _))
     (pss_one (ps_ret (pe_callB (call_min2 rfl) (by rfl) T.b_min PyProof.Rows.boot_min (pa_2 (pe_callB (call_max2 rfl) (by rfl) T.b_max PyProof.Rows.boot_max (pa_2 (pv 3) pe_int)) (pe_callB call_len_str (by rfl) T.b_len PySem.boot_len (pa_1 (pe_callTy call_str_int (by rfl) T.b_str PyProof.Rows.boot_str (pa_1 (pv 2)))))))))
     pss_nil)
    (pss_cons (ps_if (PW.pt (pw_and (pt_cmpR op_eq (pv 0) (pe_gv T.g_TWO_DIGITS_IN_TEENS) (nomark _)) (pw_and1 (pt_cmpR op_eq (pe_op op_mod (pe_op op_fdiv (pv 2) pe_int) pe_int) pe_int (nomark _)))))
     (pss_one (ps_ret (pe_callB (call_max2 rfl) (by rfl) T.b_max PyProof.Rows.boot_max (pa_2 (pv 3) pe_int))))
     pss_nil)
    (pss_one (ps_ret (pv 3))))))),?_⟩
   have sn:=sz5 (dig_short hn)
   unfold Bk.toldBy at q
   refine ⟨_,rfl,rfl,_,rfl,ite2 (fun h=>?_) (fun h=>?_)⟩
   · have h:=of_decide_eq_true h
     rw [nat_3] at h
     rw [if_pos h] at q
     exact ⟨_,rfl,_,rfl,m,n,rfl,hm,hn,q⟩
   · have h:=dne h
     rw [nat_3] at h
     rw [if_neg h] at q
     refine ⟨_,rfl,_,rfl,m,n,rfl,hm,hn,?_⟩
     refine ⟨_,rfl,rfl,_,rfl,ite2 (fun h=>?_) (fun h=>?_)⟩
     · have h:=of_decide_eq_true h
       rw [nat_2] at h
       rw [if_pos h] at q
       refine ⟨_,rfl,_,_,rfl,_,rfl,_,rfl,log_page hn,?_⟩
       rw [str_num]
       refine ⟨_,rfl,sn,?_⟩
       rw [S_len]
       refine ⟨_,_,rfl,?_⟩
       rw [max_two,min_two]
       exact q
     · have h:=dne h
       rw [nat_2] at h
       rw [if_neg h] at q
       refine ⟨_,rfl,rfl,_,rfl,ite2 (fun h=>?_) (fun h=>?_)⟩
       · have h:=of_decide_eq_true h
         rw [nat_4] at h
         refine ⟨_,rfl,_,_,rfl,rfl,⟨by decide,by decide⟩,_,_,rfl,rfl,pos10,rfl,_,rfl,ite2 (fun h1=>?_) (fun h1=>?_)⟩
         · have h1:=of_decide_eq_true h1
           rw [int_eq] at h1
           rw [if_pos ⟨h,by omega⟩] at q
           refine ⟨_,rfl,_,_,rfl,?_⟩
           rw [max_two]
           exact q
         · have h1:=dne h1
           rw [int_eq] at h1
           rw [if_neg (by omega)] at q
           exact ⟨_,rfl,q⟩
       · have h:=dne h
         rw [nat_4] at h
         rw [if_neg (by omega)] at q
         exact iteF ⟨_,rfl,q⟩
end
end Hp
namespace Hp
open PySem L2
section
variable {P:Program} {w:World} {K:PySem.W.Frag} {mg:Str→Option Value} {base:Heap} {a:Adr}
def toTextR (x:Run × Nat) (way f t:Nat):Bytes:=if way = 0∨x.1.style≠0 then x.1.name (x.1.first + (t - x.2)) else
 (IhPlace.digits (x.1.first + (t - x.2))).drop ((IhPlace.digits (x.1.first + (t - x.2))).length - Bk.toldBy way (x.1.first + (f - x.2)) (x.1.first + (t - x.2)))
theorem toText_of {bk:Book} {f:Nat} {x:Run × Nat} (h:Bk.runAt bk f = some x) (way t:Nat):Bk.toText bk way f t = toTextR x way f t:=by
 unfold Bk.toText toTextR
 rw [h]
def sp_to_text (a:Adr):Sp:=fun vs H Q _=>∃ (r p:Addr) (way:Nat) (x:Run × Nat) (y:Place),vs = [.ref r,.int (way:Int),.ref p]∧RunAt a H r x∧PlAt a H p y∧Bk.RunOk x.1∧way≤4∧x.2≤y.from_∧y.from_≤y.to_∧y.to_ < x.2 + x.1.count∧Q (.str (S (toTextR x way y.from_ y.to_))) H
theorem ok_to_text (T:Txt K mg a):FnOk P w K mg base CX0 4 a.to_text.f a.to_text.d ["run","way","place"] (sp_to_text a):=by
 have sc:FnScope ["run","way","place","to_number","digits","told"] ["run","way","place"] (defScope s_to_text):=⟨rfl,rfl,rfl,by decide +kernel,rfl,by decide +kernel,by decide +kernel⟩
 refine T.to_text.fn.ok sc (fun vs H Q E h=>?_) (fun cdv A outer s H vs Q E hr h=>?_)
 · obtain ⟨_,_,_,_,_,rfl,_⟩:=h
   rfl
 · obtain ⟨r,p,way,x,y,rfl,hR,⟨dp,hp⟩,hx,hw,h1,h2,h3,q⟩:=h
   refine ⟨_,(pss_cons (ps_if (PW.pt (pw_or (pt_cmpR op_eq (pv 1) (pe_gv T.g_WHOLE_NAME) (nomark _)) (pw_or1 (pt_cmpR op_ne (pe_fld (pv 0) rfl) (pe_gv T.g_DIGITS) (nomark _)))))
     (pss_one (ps_ret (pe_meth (pv 0) T.c_Run.cl T.Run_name_at.m (ok_Run_name_at T) (hr.mono (by decide)) T.Run_name_at.b .nil pass0 (pa_1 (pe_fld (pv 2) rfl)))))
     pss_nil)
    (pss_cons (ps_set (i:=3) sc.nd rfl (Or.inl rfl) (pe_meth (pv 0) T.c_Run.cl T.Run_number_at.m (ok_Run_number_at T) (hr.mono (by decide)) T.Run_number_at.b .nil pass0 (pa_1 (pe_fld (pv 2) rfl))))
    (pss_cons (ps_set (i:=4) sc.nd rfl (Or.inl rfl) (pe_callTy call_str_int (by rfl) T.b_str PyProof.Rows.boot_str (pa_1 (pv 3))))
    (pss_cons (ps_set (i:=5) sc.nd rfl (Or.inl rfl) (pe_call (ok_digits_told T) (hr.mono (by decide)) rfl T.digits_told.m T.digits_told.fn.kp T.digits_told.b .nil pass0 (pa_3 (pv 1) (pe_meth (pv 0) T.c_Run.cl T.Run_number_at.m (ok_Run_number_at T) (hr.mono (by decide)) T.Run_number_at.b .nil pass0 (pa_1 (pe_fld (pv 2) rfl))) (pv 3))))
    (pss_one (ps_ret (pe_slice sl_str (pv 4) (po_some (pe_op op_sub (pe_callB call_len_str (by rfl) T.b_len PySem.boot_len (pa_1 (pv 4))) (pv 5))) po_none))))))),?_⟩
   obtain ⟨dr,hr1⟩:=id hR
   have nt:Bk.NumOk x.1.style (x.1.first + (y.to_ - x.2)):=hx.num (by omega) (by omega)
   have nf:Bk.NumOk x.1.style (x.1.first + (y.from_ - x.2)):=hx.num (by omega) (by omega)
   have lt:=num_le nt
   have lf:=num_le nf
   unfold toTextR at q
   refine ⟨_,rfl,rfl,_,rfl,ite2 (fun h=>?_) (fun h=>?_)⟩
   · have h:=of_decide_eq_true h
     rw [nat_0] at h
     rw [if_pos (.inl h)] at q
     exact iteT ⟨_,rfl,_,_,_,rfl,hr1,rfl,_,rfl,_,_,_,_,_,rfl,hp,T.c_Place.cl,T.n_Place_to_index,pf_to y,r,x,y.to_,rfl,hR,by omega,hx.plen,nt,q⟩
   · have h:=dne h
     rw [nat_0] at h
     refine ⟨_,rfl,_,_,_,_,_,rfl,hr1,T.c_Run.cl,T.n_Run_style,rf_style x,rfl,_,rfl,ite2 (fun g=>?_) (fun g=>?_)⟩
     · have g:¬ (V.int (x.1.style:Int) = V.int 0):=fun z=>by rw [decide_eq_true z] at g; cases g
       rw [nat_0] at g
       rw [if_pos (.inr g)] at q
       exact ⟨_,rfl,_,_,_,rfl,hr1,rfl,_,rfl,_,_,_,_,_,rfl,hp,T.c_Place.cl,T.n_Place_to_index,pf_to y,r,x,y.to_,rfl,hR,by omega,hx.plen,nt,q⟩
     · have g:V.int (x.1.style:Int) = V.int 0:=Classical.byContradiction fun z=>g (by rw [decide_eq_false z]; rfl)
       rw [nat_0] at g
       rw [if_neg (by rintro (z | z) <;> contradiction)] at q
       have kl:=Bk.kept_le (way:=way) (m:=x.1.first + (y.from_ - x.2)) (n:=x.1.first + (y.to_ - x.2)) (by omega) hw (by omega)
       have ds:=dig_short lt
       refine ⟨_,rfl,_,_,_,rfl,hr1,rfl,_,rfl,_,_,_,_,_,rfl,hp,T.c_Place.cl,T.n_Place_to_index,pf_to y,r,x,y.to_,rfl,hR,by omega,?_⟩
       refine ⟨_,rfl,_,rfl,log_page lt,?_⟩
       rw [str_num]
       refine ⟨_,rfl,_,rfl,_,_,_,rfl,hr1,rfl,_,rfl,_,_,_,_,_,rfl,hp,T.c_Place.cl,T.n_Place_from_index,pf_from y,r,x,y.from_,rfl,hR,h1,_,rfl,way,_,_,rfl,lf,lt,?_⟩
       refine ⟨_,rfl,_,rfl,_,rfl,sz5 ds,_,rfl,_,_,rfl,rfl,_,rfl,_,rfl,sz5 ds,?_⟩
       rw [S_len]
       generalize IhPlace.digits (x.1.first + (y.to_ - x.2)) = d at *
       generalize Bk.toldBy way (x.1.first + (y.from_ - x.2)) (x.1.first + (y.to_ - x.2)) = t at *
       have e:((d.length:Nat):Int) - (t:Int) = ((d.length - t:Nat):Int):=by omega
       rw [e,cutS_from (by omega)]
       exact q
def sp_marks_text (a:Adr):Sp:=fun vs H Q _=>∃ (p:Addr) (y:Place),vs = [.ref p]∧PlAt a H p y∧y.note≤16777215∧Q (.str (S (Bk.marksText y))) H
theorem dig_note {n:Nat} (h:n≤16777215):(IhPlace.digits n).length≤8:=(Bk.digits_le n 8 (by decide)).mpr (by omega)
theorem ok_marks_text (T:Txt K mg a):FnOk P w K mg base CX0 1 a.marks_text.f a.marks_text.d ["place"] (sp_marks_text a):=by
 have sc:FnScope ["place","number"] ["place"] (defScope s_marks_text):=⟨rfl,rfl,rfl,by decide +kernel,rfl,by decide +kernel,by decide +kernel⟩
 refine T.marks_text.fn.ok sc (fun vs H Q E h=>?_) (fun cdv A outer s H vs Q E hr h=>?_)
 · obtain ⟨_,_,rfl,_⟩:=h
   rfl
 · obtain ⟨p,y,rfl,⟨dp,hp⟩,hn,q⟩:=h
   refine ⟨_,(pss_cons (ps_if (pt_cmpR op_eq (pe_fld (pv 0) rfl) (pe_gv T.g_NOTE) (nomark _))
     (pss_cons (ps_set (i:=1) sc.nd rfl (Or.inl rfl) (pe_fld (pv 0) rfl))
     (pss_one (ps_ret (pe_f3 (pv 1)))))
     pss_nil)
    (pss_cons (ps_if (pt_cmpR op_eq (pe_fld (pv 0) rfl) (pe_gv T.g_FIGURE) (nomark _))
     (pss_one (ps_ret pe_str))
     pss_nil)
    (pss_cons (ps_if (pt_cmpR op_eq (pe_fld (pv 0) rfl) (pe_gv T.g_TABLE) (nomark _))
     (pss_one (ps_ret pe_str))
     pss_nil)
    (pss_cons (ps_if (pt_cmpR op_eq (pe_fld (pv 0) rfl) pe_int (nomark _))
     (pss_one (ps_ret pe_str))
     pss_nil)
    (pss_one (ps_ret pe_str)))))),?_⟩
   unfold Bk.marksText at q
   refine ⟨_,rfl,_,_,_,_,_,rfl,hp,T.c_Place.cl,T.n_Place_kind,pf_kind y,rfl,_,rfl,ite2 (fun h=>?_) (fun h=>?_)⟩
   · have h:=of_decide_eq_true h
     rw [nat_1] at h
     rw [if_pos h] at q
     refine ⟨_,rfl,_,_,_,_,_,rfl,hp,T.c_Place.cl,T.n_Place_note,pf_note y,_,rfl,_,rfl,log_small (Nat.lt_of_le_of_lt hn (by decide)),?_,?_⟩
     · rw [str_num,S_len]
       have:=dig_note hn
       have e1:("[n":Str).length = 2:=rfl
       have e2:("]":Str).length = 1:=rfl
       have hz:sizeLine = 16777216:=rfl
       omega
     · rw [str_num,show ("[n":Str) = S [91,110] from rfl,show ("]":Str) = S [93] from rfl,S_app,S_app]
       exact q
   · have h:=dne h
     rw [nat_1] at h
     rw [if_neg h] at q
     refine ⟨_,rfl,_,_,_,_,_,rfl,hp,T.c_Place.cl,T.n_Place_kind,pf_kind y,rfl,_,rfl,ite2 (fun h=>?_) (fun h=>?_)⟩
     · have h:=of_decide_eq_true h
       rw [nat_2] at h
       rw [if_pos h] at q
       exact q
     · have h:=dne h
       rw [nat_2] at h
       rw [if_neg h] at q
       refine ⟨_,rfl,_,_,_,_,_,rfl,hp,T.c_Place.cl,T.n_Place_kind,pf_kind y,rfl,_,rfl,ite2 (fun h=>?_) (fun h=>?_)⟩
       · have h:=of_decide_eq_true h
         rw [nat_3] at h
         rw [if_pos h] at q
         exact q
       · have h:=dne h
         rw [nat_3] at h
         rw [if_neg h] at q
         refine ⟨_,rfl,_,_,_,_,_,rfl,hp,T.c_Place.cl,T.n_Place_main,pf_main y,rfl,_,rfl,ite2 (fun h=>?_) (fun h=>?_)⟩
         · have h:=of_decide_eq_true h
           rw [mI_one] at h
           rw [if_pos h] at q
           exact q
         · have h:=dne h
           rw [mI_one] at h
           rw [if_neg h] at q
           exact q
theorem marks_short {y:Place} (h:y.note≤16777215):(Bk.marksText y).length≤11:=by
 have:=dig_note h
 unfold Bk.marksText
 split
 · simp; omega
 · split
   · simp
   · split
     · simp
     · split <;> simp
theorem toTextR_short {x:Run × Nat} {way f t:Nat} (hx:Bk.RunOk x.1) (h1:x.2≤t) (h3:t < x.2 + x.1.count):(toTextR x way f t).length≤20:=by
 have nt:Bk.NumOk x.1.style (x.1.first + (t - x.2)):=hx.num (by omega) (by omega)
 unfold toTextR
 split
 · exact name_short hx.plen nt
 · have:=dig_short (num_le nt)
   rw [List.length_drop]
   omega
theorem runAt_ok {bk:Book} {f:Nat} {x:Run × Nat} (hB:Bk.BookOk bk) (h:Bk.runAt bk f = some x):Bk.RunOk x.1∧x.2≤f∧f < x.2 + x.1.count:=by
 obtain ⟨k,g1,g2,g3,g4,g5⟩:=Bk.runAt_some (r:=x.1) (t:=x.2) h
 exact ⟨hB.runs _ (List.mem_of_getElem? g5),g3,g4⟩
theorem right_run {bk:Book} {y:Place} (hB:Bk.BookOk bk) (h:y.right bk = true):∃ x,Bk.runAt bk y.from_ = some x∧Bk.RunOk x.1∧x.2≤y.from_∧y.from_≤y.to_∧y.to_ < x.2 + x.1.count∧y.note≤16777215:=by
 have h0:=h
 rw [Bk.right_eq,Bool.and_eq_true,Bool.and_eq_true] at h
 obtain ⟨⟨h1,h2⟩,h3⟩:=h
 unfold Bk.rightPages at h1
 cases e:Bk.runAt bk y.from_ with
 | none=>rw [e] at h1; cases h1
 | some x =>
   rw [e] at h1
   simp only [Bk.hasIx,Bool.and_eq_true,decide_eq_true_eq] at h1
   obtain ⟨g1,g2,_⟩:=runAt_ok hB e
   refine ⟨x,rfl,g1,g2,h1.2,h1.1.2,?_⟩
   unfold Bk.rightNote at h3
   split at h3
   · simp only [Bool.and_eq_true,decide_eq_true_eq] at h3
     exact h3.2
   · have:y.note = 0:=by simpa using h3
     omega
theorem placeText_short {bk:Book} {way:Nat} {y:Place} (hB:Bk.BookOk bk) (h:y.right bk = true):(Bk.placeText bk way y).length≤52:=by
 obtain ⟨x,e,hx,h1,h2,h3,h4⟩:=right_run hB h
 have m:=marks_short h4
 have t:=toTextR_short (way:=way) (f:=y.from_) hx (show x.2≤y.to_ by omega) h3
 have n:=name_short hx.plen (hx.num (n:=x.1.first + (y.from_ - x.2)) (by omega) (by omega))
 unfold Bk.placeText
 rw [e,toText_of e]
 simp only [List.length_append]
 split
 · omega
 · simp only [List.length_append,List.length_singleton]
   omega
def sp_place_text (a:Adr):Sp:=fun vs H Q _=>∃ (b p:Addr) (way:Nat) (bk:Book) (y:Place),vs = [.ref b,.int (way:Int),.ref p]∧BookV a H b bk∧PlAt a H p y∧way≤4∧y.right bk = true∧Q (.str (S (y.text bk way))) H
theorem ok_place_text (T:Txt K mg a):FnOk P w K mg base CX0 5 a.place_text.f a.place_text.d ["book","way","place"] (sp_place_text a):=by
 have sc:FnScope ["book","way","place","run","text"] ["book","way","place"] (defScope s_place_text):=⟨rfl,rfl,rfl,by decide +kernel,rfl,by decide +kernel,by decide +kernel⟩
 refine T.place_text.fn.ok sc (fun vs H Q E h=>?_) (fun cdv A outer s H vs Q E hr h=>?_)
 · obtain ⟨_,_,_,_,_,rfl,_⟩:=h
   rfl
 · obtain ⟨b,p,way,bk,y,rfl,hB,hP,hw,hy,q⟩:=h
   refine ⟨_,(pss_cons (ps_set (i:=3) sc.nd rfl (Or.inl rfl) (pe_meth (pv 0) T.c_Book.cl T.Book_run_at.m (ok_Book_run_at T) (hr.mono (by decide)) T.Book_run_at.b .nil pass0 (pa_1 (pe_fld (pv 2) rfl))))
    (pss_cons (ps_set (i:=4) sc.nd rfl (Or.inl rfl) (pe_meth (pv 3) T.c_Run.cl T.Run_name_at.m (ok_Run_name_at T) (hr.mono (by decide)) T.Run_name_at.b .nil pass0 (pa_1 (pe_fld (pv 2) rfl))))
    (pss_cons (ps_if (pt_cmpR op_ne (pe_fld (pv 2) rfl) (pe_fld (pv 2) rfl) (nomark _))
     (pss_one (ps_set (i:=4) sc.nd rfl (Or.inl rfl) (pe_op op_add_str (pe_op op_add_str (pv 4) pe_str) (pe_call (ok_to_text T) (hr.mono (by decide)) rfl T.to_text.m T.to_text.fn.kp T.to_text.b .nil pass0 (pa_3 (pv 3) (pv 1) (pv 2))))))
     pss_nil)
    (pss_one (ps_ret (pe_op op_add_str (pv 4) (pe_call (ok_marks_text T) (hr.mono (by decide)) rfl T.marks_text.m T.marks_text.fn.kp T.marks_text.b .nil pass0 (pa_1 (pv 2))))))))),?_⟩
   obtain ⟨dp,hp⟩:=id hP
   obtain ⟨nm,rs,ld,ls,hB1⟩:=id hB
   obtain ⟨db,hb⟩:=id hB1.ob
   rw [← Bk.placeText_eq hw hy] at q
   obtain ⟨x,e,hx,h1,h2,h3,h4⟩:=right_run hB1.ok hy
   have nf:Bk.NumOk x.1.style (x.1.first + (y.from_ - x.2)):=hx.num (by omega) (by omega)
   have ns:=name_short hx.plen nf
   have ts:=toTextR_short (way:=way) (f:=y.from_) hx (show x.2≤y.to_ by omega) h3
   have ms:=marks_short h4
   have hz:sizeLine = 16777216:=rfl
   unfold Bk.placeText at q
   rw [e,toText_of e] at q
   refine ⟨_,rfl,_,_,_,rfl,hb,rfl,_,rfl,_,_,_,_,_,rfl,hp,T.c_Place.cl,T.n_Place_from_index,pf_from y,b,bk,y.from_,rfl,hB,fun v hv=>?_⟩
   rw [e] at hv
   obtain ⟨r,rfl,hR⟩:=hv
   obtain ⟨dr,hr1⟩:=id hR
   refine ⟨_,rfl,_,_,_,rfl,hr1,rfl,_,rfl,_,_,_,_,_,rfl,hp,T.c_Place.cl,T.n_Place_from_index,pf_from y,r,x,y.from_,rfl,hR,h1,hx.plen,nf,?_⟩
   refine ⟨_,rfl,_,_,_,_,_,rfl,hp,T.c_Place.cl,T.n_Place_to_index,pf_to y,_,rfl,_,_,_,_,_,rfl,hp,T.c_Place.cl,T.n_Place_from_index,pf_from y,rfl,_,rfl,ite2 (fun h=>?_) (fun h=>?_)⟩
   · have h:¬ (V.int (y.to_:Int) = V.int (y.from_:Int)):=fun z=>by rw [decide_eq_true z] at h; cases h
     rw [nat_eq] at h
     simp only [if_neg h] at q
     refine ⟨_,rfl,_,_,rfl,rfl,?_,_,rfl,_,rfl,_,rfl,r,p,way,x,y,rfl,hR,hP,hx,hw,h1,h2,h3,_,_,rfl,rfl,?_,?_⟩
     · rw [S_len,show ("-":Str) = S [45] from rfl,S_len,List.length_singleton]
       omega
     · rw [show ("-":Str) = S [45] from rfl,S_app,S_len,S_len,List.length_append,List.length_singleton]
       omega
     · refine ⟨_,rfl,_,rfl,p,y,rfl,hP,h4,_,_,rfl,rfl,?_,?_⟩
       · rw [show ("-":Str) = S [45] from rfl,S_app,S_app,S_len,S_len,List.length_append,List.length_append,List.length_singleton]
         omega
       · rw [show ("-":Str) = S [45] from rfl,S_app,S_app,S_app]
         exact q
   · have h:V.int (y.to_:Int) = V.int (y.from_:Int):=Classical.byContradiction fun z=>h (by rw [decide_eq_false z]; rfl)
     rw [nat_eq] at h
     simp only [if_pos h] at q
     refine ⟨_,rfl,_,rfl,p,y,rfl,hP,h4,_,_,rfl,rfl,?_,?_⟩
     · rw [S_len,S_len]
       omega
     · rw [S_app]
       exact q
end
end Hp
namespace Hp
open PySem L2
section
variable {P:Program} {w:World} {K:PySem.W.Frag} {mg:Str→Option Value} {base:Heap} {a:Adr}
theorem Same.new {H:Hp} {p:Addr} {o:HO} (h:H p = none):Same H (upd H p o):=fun b u e=>(upd_ne (ne_of_none e h)).trans e
theorem Same.put {H H1:Hp} {p:Addr} {o:HO} (s:Same H H1) (h:H p = none):Same H (upd H1 p o):=fun b u e=>(upd_ne (ne_of_none e h)).trans (s b u e)
theorem PlAt.updL {H:Hp} {D p:Addr} {x:Place} {xs ys:List V} (h:PlAt a H p x) (hD:H D = some (.lst xs)):PlAt a (upd H D (.lst ys)) p x:=by
 obtain ⟨dx,h⟩:=h
 exact ⟨dx,(upd_ne (ne_of h hD (fun z=>nomatch z))).trans h⟩
theorem PlsAt.updL {H:Hp} {D:Addr} {as:List Addr} {ps:List Place} {xs ys:List V} (h:PlsAt a H as ps) (hD:H D = some (.lst xs)):PlsAt a (upd H D (.lst ys)) as ps:=Paired.mapP h fun _ _ q=>q.updL hD
def fivesV (ps:List Place):List V:=ps.flatMap fiveV
theorem fives_len:∀ ps:List Place,(fivesV ps).length = 5 * ps.length
 | []=>rfl
 | p :: ps=>by
   have:=fives_len ps
   unfold fivesV at *
   rw [List.flatMap_cons,List.length_append,this,List.length_cons]
   show 5 + _ = _
   omega
theorem fives_at:∀ (ps:List Place) (i:Nat) (p:Place),ps[i]? = some p→((fivesV ps).drop (5 * i)).take 5 = fiveV p
 | [],i,p,h=>by simp at h
 | q :: ps,0,p,h=>by
   simp at h
   subst h
   rfl
 | q :: ps,i + 1,p,h=>by
   have ih:=fives_at ps i p (by simpa using h)
   have e:5 * (i + 1) = 5 + 5 * i:=by omega
   rw [e,← List.drop_drop]
   exact ih
theorem cut_five {ps:List Place} {i:Nat} {p:Place} (h:ps[i]? = some p):cutV (fivesV ps) (some ((0:Int) + (i:Nat) * 5)) (some ((0:Int) + (i:Nat) * 5 + 5)) = fiveV p:=by
 have hi:i < ps.length:=(List.getElem?_eq_some_iff.mp h).1
 have hl:=fives_len ps
 unfold cutV
 have e1:HT.sIx (fivesV ps).length 0 (some ((0:Int) + (i:Nat) * 5)) = 5 * i:=by
  show (if ((0:Int) + (i:Nat) * 5) < 0 then (((0:Int) + (i:Nat) * 5) + (((fivesV ps).length:Nat):Int)).toNat else min ((0:Int) + (i:Nat) * 5).toNat (fivesV ps).length) = 5 * i
  rw [if_neg (by omega)]
  omega
 have e2:HT.sIx (fivesV ps).length (fivesV ps).length (some ((0:Int) + (i:Nat) * 5 + 5)) = 5 * i + 5:=by
  show (if ((0:Int) + (i:Nat) * 5 + 5) < 0 then (((0:Int) + (i:Nat) * 5 + 5) + (((fivesV ps).length:Nat):Int)).toNat else min ((0:Int) + (i:Nat) * 5 + 5).toNat (fivesV ps).length) = 5 * i + 5
  rw [if_neg (by omega)]
  omega
 rw [e1,e2,show 5 * i + 5 - 5 * i = 5 by omega]
 exact fives_at ps i p h
theorem rg5 {n:Nat} (h:n≤100000):RgC 0 ((5 * n:Nat):Int) 5 n:=by
 have e:Builtin.Range.rangeSize 0 ((5 * n:Nat):Int) 5 = (n:Int):=by
  unfold Builtin.Range.rangeSize
  rw [if_pos (by decide)]
  split <;> omega
 have f:∀ z:Int,-1000000000≤z→z≤1000000000→Builtin.Range.rangeFitsLong z = true:=fun z h1 h2=>by
  unfold Builtin.Range.rangeFitsLong
  simp only [Bool.and_eq_true,decide_eq_true_eq]
  omega
 refine ⟨by decide,by decide,?_,e⟩
 unfold Builtin.Range.small
 rw [e,f 0 (by decide) (by decide),f ((5 * n:Nat):Int) (by omega) (by omega),f 5 (by decide) (by decide),f (n:Int) (by omega) (by omega),if_pos (by decide),f (((5 * n:Nat):Int) + (5 - 1)) (by omega) (by omega)]
 simp
theorem take_snoc {α:Type} {l:List α} {i:Nat} {x:α} (h:l[i]? = some x):l.take (i + 1) = l.take i ++ [x]:=by rw [List.take_add_one,h]; rfl
def NewPls (a:Adr) (H:Hp) (ps:List Place) (Q:VK):Prop:=∀ (d:Addr) (as:List Addr) (H':Hp),H d = none→Same H H'→H' d = some (.lst (as.map V.ref))→PlsAt a H' as ps→Q (.ref d) H'
def sp_places_of (a:Adr):Sp:=fun vs H Q _=>∃ (l:Addr) (ps:List Place),vs = [.ref l]∧H l = some (.lst (fivesV ps))∧ps.length≤100000∧NewPls a H ps Q
theorem ok_places_of (T:Txt K mg a):FnOk P w K mg base CX0 3 a.places_of.f a.places_of.d ["numbers"] (sp_places_of a):=by
 have sc:FnScope ["numbers","step","start"] ["numbers"] (defScope s_places_of):=⟨rfl,rfl,rfl,by decide +kernel,rfl,by decide +kernel,by decide +kernel⟩
 refine T.places_of.fn.ok sc (fun vs H Q E h=>?_) (fun cdv A outer s H vs Q E hr h=>?_)
 · obtain ⟨_,_,rfl,_⟩:=h
   rfl
 · obtain ⟨l,ps,rfl,hl,hps,k⟩:=h
   refine ⟨_,(pss_cons (ps_set (i:=1) sc.nd rfl (Or.inr rfl) (pe_gv T.g_NUMBERS_OF_A_PLACE))
    (pss_one (ps_ret (pe_lc rfl sc.nd (pi_range3 rfl T.b_range (pa_3 pe_int (pe_callB call_len_seq (by rfl) T.b_len PySem.boot_len (pa_1 (pv 0))) (pv 1))) (blkOk_by (N:=["numbers","step","start"]) (sc:=defScope s_places_of) (own:=[("start",2)]) (by decide +kernel)) (fun _ _ _ _ _=>(pg_name (i:=2) sc.nd rfl (Or.inl rfl))) (fun _ _ _ _ _=>pts_nil) (fun _ _ _ _ _=>(pe_make T.c_Place.mkd (ok_Place_init T) (hr.mono (by decide)) rfl T.c_Place.m T.Place_init.b .nil pass0 (pa_1 (pe_slice (show SlR _ (rSlL K) from sl_list) (pv 0) (po_some (pv 2)) (po_some (pe_op op_add (pv 2) (pv 1))))))))))),?_⟩
   have hz:sizeLine = 16777216:=rfl
   refine ⟨_,rfl,l,_,rfl,.inl (SqL.of hl),_,rfl,_,_,_,ps.length,rfl,?_,fun D hD=>lc_it (n:=ps.length) (fun i H'=>∃ as:List Addr,H' D = some (.lst (as.map V.ref))∧PlsAt a H' as (ps.take i)∧Same H H') ⟨[],upd_same,.nil,Same.new hD⟩ (fun i H' hi _=>hi) (fun H' _=>Nat.le_refl _) ?_ ?_⟩
   · rw [fives_len]
     exact rg5 hps
   · rintro i x Hc H' hi ⟨as,h1,h2,h3⟩ ⟨rfl,rfl⟩
     have hpi:ps[i]? = some ps[i]:=List.getElem?_eq_getElem hi
     refine ⟨rfl,_,rfl,_,rfl,_,rfl,_,rfl,_,rfl,_,_,rfl,rfl,_,rfl,l,_,rfl,SqL.of (h3 _ _ hl),fun p hp=>?_⟩
     rw [cut_five hpi]
     refine fun x dx n1 n2 n3=>⟨x,dx,p,ps[i],rfl,upd_same,(upd_ne (ne_of_none upd_same n1)).trans ((upd_ne (ne_of_none upd_same n2)).trans upd_same),fun H1 hobj made=>⟨rfl,?_⟩⟩
     have s1:Same H' H1:=Same.trans (Same.new hp) (Same.made n1 n2 made)
     have hD1:=s1 _ _ h1
     refine ⟨_,hD1,?_,as ++ [x],?_,?_,Same.put (Same.trans h3 s1) hD⟩
     · rw [List.length_map,Paired.len h2,List.length_take]
       omega
     · rw [upd_same,List.map_append]
       rfl
     · rw [take_snoc hpi]
       exact PlsAt.updL (Paired.snoc hobj (h2.mono s1)) hD1
   · rintro H' ⟨as,h1,h2,h3⟩
     rw [List.take_length] at h2
     exact k D as H' hD h3 h1 h2
def sp_numbers_of_list (K:PySem.W.Frag) (a:Adr):Sp:=fun vs H Q _=>∃ (l:Addr) (as:List Addr) (ps:List Place),vs = [.ref l]∧H l = some (.lst (as.map V.ref))∧PlsAt a H as ps∧ps.length≤100000∧∀ d H',H d = none→Same H H'→H' d = some (.lst (fivesV ps))→Q (.ref d) H'
theorem ok_numbers_of_list (T:Txt K mg a):FnOk P w K mg base CX0 2 a.numbers_of_list.f a.numbers_of_list.d ["places"] (sp_numbers_of_list K a):=by
 have sc:FnScope ["places","numbers","place"] ["places"] (defScope s_numbers_of_list):=⟨rfl,rfl,rfl,by decide +kernel,rfl,by decide +kernel,by decide +kernel⟩
 refine T.numbers_of_list.fn.ok sc (fun vs H Q E h=>?_) (fun cdv A outer s H vs Q E hr h=>?_)
 · obtain ⟨_,_,_,rfl,_⟩:=h
   rfl
 · obtain ⟨l,as,ps,rfl,hl,hps,hlen,k⟩:=h
   refine ⟨_,(pss_cons (ps_set (i:=1) sc.nd rfl (Or.inl rfl) (pe_lst pa_nil))
    (pss_cons (ps_for PassesOwn.never rfl (pi_list (pv 0)) (pg_name (i:=2) sc.nd rfl (Or.inl rfl))
     (pss_one (ps_expr (pe_bm PySem.F.plainAttrs_list PySem.F.slot_list_extend PySem.F.type_list_extend mt_extend (pv 1) (pa_1 (pe_call (ok_numbers_of T) (hr.mono (by decide)) rfl T.numbers_of.m T.numbers_of.fn.kp T.numbers_of.b .nil pass0 (pa_1 (pv 2))))))))
    (pss_one (ps_ret (pv 1))))),?_⟩
   have hz:sizeLine = 16777216:=rfl
   refine ⟨(show 0≤sizeLine by decide),fun d hd=>?_⟩
   refine ⟨_,rfl,l,rfl,⟨_,SqL.of ((upd_ne (ne_of_none hl hd)).trans hl)⟩,for_list (xs:=as.map V.ref) (fun i σ H'=>(∃ u,σ = [some (.ref l),some (.ref d),u])∧H' d = some (.lst (fivesV (ps.take i)))∧Same H H') ⟨⟨_,rfl⟩,upd_same,Same.new hd⟩ (fun i σ H' _ p=>SqL.of (p.2.2 _ _ hl)) ?_ ?_⟩
   · rintro i x σ Hc hx ⟨⟨u,rfl⟩,h1,h2⟩
     rw [List.getElem?_map] at hx
     obtain ⟨p,hp,rfl⟩:=Option.map_eq_some_iff.mp hx
     obtain ⟨y,hy,hP⟩:=pair_at hps hp
     have hi:i < ps.length:=(List.getElem?_eq_some_iff.mp hy).1
     refine ⟨_,rfl,.inl ⟨rfl,_,SqL.of h1⟩,_,rfl,p,y,rfl,hP.mono h2,fun e he=>?_⟩
     refine ⟨d,e,_,_,rfl,rfl,(upd_ne (ne_of_none h1 he)).trans h1,upd_same,?_,⟨_,rfl⟩,?_,?_⟩
     · rw [fives_len,List.length_take]
       show _ + 5≤_
       omega
     · rw [upd_same,take_snoc hy]
       unfold fivesV
       rw [List.flatMap_append]
       simp
     · exact Same.put (Same.trans h2 (Same.new he)) hd
   · rintro σ Hc ⟨⟨u,rfl⟩,h1,h2⟩
     rw [List.length_map,Paired.len hps,List.take_length] at h1
     exact ⟨_,rfl,k d Hc hd h2 h1⟩
def sp_all_right (K:PySem.W.Frag) (a:Adr):Sp:=fun vs H Q _=>∃ (b l:Addr) (bk:Book) (as:List Addr) (ps:List Place),vs = [.ref b,.ref l]∧BookV a H b bk∧H l = some (.lst (as.map V.ref))∧PlsAt a H as ps∧Q (.bl (ps.all fun p=>p.right bk)) H
theorem ok_all_right (T:Txt K mg a):FnOk P w K mg base CX0 5 a.all_right.f a.all_right.d ["book","places"] (sp_all_right K a):=by
 have sc:FnScope ["book","places","place"] ["book","places"] (defScope s_all_right):=⟨rfl,rfl,rfl,by decide +kernel,rfl,by decide +kernel,by decide +kernel⟩
 refine T.all_right.fn.ok sc (fun vs H Q E h=>?_) (fun cdv A outer s H vs Q E hr h=>?_)
 · obtain ⟨_,_,_,_,_,rfl,_⟩:=h
   rfl
 · obtain ⟨b,l,bk,as,ps,rfl,hB,hl,hps,q⟩:=h
   refine ⟨_,(pss_cons (ps_for PassesOwn.never rfl (pi_list (pv 1)) (pg_name (i:=2) sc.nd rfl (Or.inl rfl))
     (pss_one (ps_if (pt_not (pt_val (pe_call (ok_is_right T) (hr.mono (by decide)) rfl T.is_right.m T.is_right.fn.kp T.is_right.b .nil pass0 (pa_2 (pv 0) (pv 2)))))
      (pss_one (ps_ret pe_bl))
      pss_nil)))
    (pss_one (ps_ret pe_bl))),?_⟩
   refine ⟨_,rfl,l,rfl,⟨_,SqL.of hl⟩,for_list (xs:=as.map V.ref) (fun i σ H'=>(∃ u,σ = [some (.ref b),some (.ref l),u])∧H' = H∧((ps.take i).all fun p=>p.right bk) = true) ⟨⟨_,rfl⟩,rfl,rfl⟩ (fun i σ H' _ p=>by rw [p.2.1]; exact SqL.of hl) ?_ ?_⟩
   · rintro i x σ Hc hx ⟨⟨u,rfl⟩,rfl,h1⟩
     rw [List.getElem?_map] at hx
     obtain ⟨p,hp,rfl⟩:=Option.map_eq_some_iff.mp hx
     obtain ⟨y,hy,hP⟩:=pair_at hps hp
     refine ⟨_,rfl,_,rfl,b,p,bk,y,rfl,hB,hP,_,rfl,ite2 (fun h=>?_) (fun h=>?_)⟩
     · have h:y.right bk = false:=by simpa using h
       have e:(ps.all fun p=>p.right bk) = false:=by
        rw [List.all_eq_false]
        exact ⟨y,List.mem_of_getElem? hy,by simp [h]⟩
       rw [e] at q
       exact q
     · have h:y.right bk = true:=by simpa using h
       refine ⟨⟨_,rfl⟩,rfl,?_⟩
       rw [take_snoc hy,List.all_append,h1]
       simp [h]
   · rintro σ Hc ⟨⟨u,rfl⟩,rfl,h1⟩
     rw [List.length_map,Paired.len hps,List.take_length] at h1
     rw [h1] at q
     exact q
def withPage (i:Nat) (p:Place):Bool:=decide (p.from_≤i) && decide (i≤p.to_)
def sp_first_with_page (K:PySem.W.Frag) (a:Adr):Sp:=fun vs H Q _=>∃ (l:Addr) (as:List Addr) (ps:List Place) (j:Nat),vs = [.ref l,.int (j:Int)]∧H l = some (.lst (as.map V.ref))∧PlsAt a H as ps∧∀ H',Same H H'→Q (optI (ps.findIdx? (withPage j))) H'
theorem ok_first_with_page (T:Txt K mg a):FnOk P w K mg base CX0 1 a.first_with_page.f a.first_with_page.d ["places","index"] (sp_first_with_page K a):=by
 have sc:FnScope ["places","index","number","place"] ["places","index"] (defScope s_first_with_page):=⟨rfl,rfl,rfl,by decide +kernel,rfl,by decide +kernel,by decide +kernel⟩
 refine T.first_with_page.fn.ok sc (fun vs H Q E h=>?_) (fun cdv A outer s H vs Q E hr h=>?_)
 · obtain ⟨_,_,_,_,rfl,_⟩:=h
   rfl
 · obtain ⟨l,as,ps,j,rfl,hl,hps,k⟩:=h
   refine ⟨_,(pss_cons (ps_for PassesOwn.never rfl (pi_enum rfl T.b_enumerate (pa_1 (pv 0))) (pg_tup rfl (pgs_cons (pg_name (i:=2) sc.nd rfl (Or.inl rfl)) (pgs_cons (pg_name (i:=3) sc.nd rfl (Or.inl rfl)) pgs_nil)))
     (pss_one (ps_if (pt_chain op_le op_le (pe_fld (pv 3) rfl) (pv 1) (pe_fld (pv 3) rfl))
      (pss_one (ps_ret (pv 2)))
      pss_nil)))
    (pss_one (ps_ret pe_non))),?_⟩
   have hlen:=Paired.len hps
   refine ⟨_,rfl,l,_,rfl,SqL.of hl,for_it (n:=as.length) (fun i σ Hc=>(∃ u v,σ = [some (.ref l),some (.int (j:Int)),u,v])∧Same H Hc∧(ps.take i).findIdx? (withPage j) = none) ⟨⟨_,_,rfl⟩,Same.refl _,rfl⟩ ?_ ?_ ?_ ?_⟩
   · rintro i σ Hc hi ⟨_,p,_⟩
     exact ⟨_,V.ref as[i],SqL.of (p _ _ hl),by rw [List.getElem?_map,List.getElem?_eq_getElem hi]; rfl⟩
   · rintro σ Hc ⟨_,p,_⟩
     exact ⟨_,SqL.of (p _ _ hl),by rw [List.length_map]; exact Nat.le_refl _⟩
   · rintro i x σ Hc H' hi ⟨⟨u,v,rfl⟩,p1,p2⟩ ⟨tp,y,rfl,htp,rfl,hy⟩
     have hy:=hy _ (SqL.of (p1 _ _ hl))
     rw [List.getElem?_map] at hy
     obtain ⟨p,hp,rfl⟩:=Option.map_eq_some_iff.mp hy
     obtain ⟨y,hy,hP⟩:=pair_at hps hp
     have s1:Same H (upd Hc tp (.tup [.int (i:Nat),.ref p])):=Same.trans p1 (Same.new htp)
     obtain ⟨dp,hp1⟩:=hP.mono s1
     have next:withPage j y = false→(ps.take (i + 1)).findIdx? (withPage j) = none:=fun e=>by
      rw [take_snoc hy,List.findIdx?_append,p2]
      simp [List.findIdx?_cons,e]
     refine ⟨tp,_,rfl,SqT.of upd_same,rfl,_,_,rfl,_,_,rfl,rfl,?_⟩
     refine ⟨_,rfl,_,_,_,_,_,rfl,hp1,T.c_Place.cl,T.n_Place_from_index,pf_from y,_,rfl,_,_,rfl,rfl,_,rfl,ite2 (fun h=>?_) (fun h=>?_)⟩
     · have h:=of_decide_eq_true h
       refine ⟨_,rfl,_,_,_,_,_,rfl,hp1,T.c_Place.cl,T.n_Place_to_index,pf_to y,_,_,rfl,rfl,_,rfl,ite2 (fun h2=>?_) (fun h2=>?_)⟩
       · have h2:=of_decide_eq_true h2
         have e:ps.findIdx? (withPage j) = some i:=by
          have:withPage j y = true:=by unfold withPage; rw [decide_eq_true (show y.from_≤j by omega),decide_eq_true (show j≤y.to_ by omega)]; rfl
          have hi2:i < ps.length:=(List.getElem?_eq_some_iff.mp hy).1
          rw [← List.take_append_drop (i + 1) ps,List.findIdx?_append,take_snoc hy,List.findIdx?_append,p2]
          simp [List.findIdx?_cons,this]
          omega
         have q:=k _ s1
         rw [e] at q
         exact ⟨_,rfl,q⟩
       · have h2:=dne h2
         exact ⟨⟨_,_,rfl⟩,s1,next (by unfold withPage; rw [decide_eq_false (show ¬ j≤y.to_ by omega)]; simp)⟩
     · have h:=dne h
       exact ⟨_,rfl,iteF ⟨⟨_,_,rfl⟩,s1,next (by unfold withPage; rw [decide_eq_false (show ¬ y.from_≤j by omega)]; simp)⟩⟩
   · rintro σ Hc ⟨⟨u,v,rfl⟩,p1,p2⟩
     rw [hlen,List.take_length] at p2
     have q:=k _ p1
     rw [p2] at q
     exact q
end
end Hp
namespace Hp
open PySem L2
section
variable {P:Program} {w:World} {K:PySem.W.Frag} {mg:Str→Option Value} {base:Heap} {a:Adr}
theorem joinL_eq (s:Bytes):∀ l:List Bytes,TL.joinL s l = s.intercalate l
 | []=>rfl
 | [p]=>by simp [TL.joinL,List.intercalate]
 | p :: q :: r=>by
   have ih:=joinL_eq s (q :: r)
   unfold TL.joinL
   rw [ih]
   simp [List.intercalate,List.intersperse]
theorem join_S (s:Bytes) (l:List Bytes):PySem.Txt.join (S s) (l.map S) = S (s.intercalate l):=by
 rw [TL.join_eq]
 refine ext_S ?_
 have e:=TL.tl_join (S s) (l.map S)
 rw [List.map_map] at e
 have e2:l.map (TL.tl ∘ S) = l:=(List.map_congr_left (fun x _=>rfl)).trans (List.map_id l)
 rw [e2,joinL_eq] at e
 exact e
theorem spl_parts:∀ (s acc:Bytes),TL.spl [44,32] 0 acc s = Bk.partsA acc s
 | [],acc=>by rw [TL.spl_nil,Bk.partsA_nil]
 | [c],acc=>by
   have hm:TL.pre [44,32] [c] = false:=by simp [TL.pre]
   rw [TL.spl_miss hm,Bk.partsA_miss _ _ _ (by rintro ⟨_,r',z⟩; cases z)]
   rw [TL.spl_nil,Bk.partsA_nil]
 | c :: d :: r,acc=>by
   by_cases h:c = 44∧d = 32
   · obtain ⟨rfl,rfl⟩:=h
     rw [TL.spl_hit (by rfl),Bk.partsA_hit,TL.spl_pass]
     show acc :: TL.spl [44,32] 0 [] r = _
     rw [spl_parts r []]
   · have hm:TL.pre [44,32] (c :: d :: r) = false:=by
      rw [Bool.eq_false_iff]
      intro z
      apply h
      simpa [TL.pre] using z
     rw [TL.spl_miss hm,Bk.partsA_miss _ _ _ (by rintro ⟨h1,r',z⟩; injection z with z1 z2; exact h ⟨h1,z1⟩)]
     exact spl_parts (d :: r) (acc ++ [c])
termination_by s=>s.length
theorem split_S (s:Bytes):PySem.Txt.split (S s) (S [44,32]) = (IhPlace.parts s).map S:=by
 have e:=TL.split_spl (S s) (S [44,32]) (fun z=>nomatch z) (TL.kind_ok (by simp [S]))
 have e1:TL.tl (S [44,32]) = [44,32]:=rfl
 have e2:TL.tl (S s) = s:=rfl
 rw [e1,e2,spl_parts,Bk.partsA_self] at e
 rw [← e,List.map_map]
 symm
 exact (List.map_congr_left (fun x _=>ext_S rfl)).trans (List.map_id _)
theorem text_short {bk:Book} {way:Nat} {y:Place} (hB:Bk.BookOk bk) (hw:way≤4) (h:y.right bk = true):(y.text bk way).length≤52:=by
 rw [← Bk.placeText_eq hw h]
 exact placeText_short hB h
def sp_list_text (K:PySem.W.Frag) (a:Adr):Sp:=fun vs H Q _=>∃ (b l:Addr) (way:Nat) (bk:Book) (as:List Addr) (ps:List Place),vs = [.ref b,.int (way:Int),.ref l]∧BookV a H b bk∧H l = some (.lst (as.map V.ref))∧PlsAt a H as ps∧way≤4∧(∀ p∈ps,p.right bk = true)∧ps.length≤256∧∀ H',Same H H'→Q (.str (S (bk.text way ps))) H'
theorem ok_list_text (T:Txt K mg a):FnOk P w K mg base CX0 6 a.list_text.f a.list_text.d ["book","way","places"] (sp_list_text K a):=by
 have sc:FnScope ["book","way","places","place"] ["book","way","places"] (defScope s_list_text):=⟨rfl,rfl,rfl,by decide +kernel,rfl,by decide +kernel,by decide +kernel⟩
 refine T.list_text.fn.ok sc (fun vs H Q E h=>?_) (fun cdv A outer s H vs Q E hr h=>?_)
 · obtain ⟨_,_,_,_,_,_,rfl,_⟩:=h
   rfl
 · obtain ⟨b,l,way,bk,as,ps,rfl,hB,hl,hps,hw,hr1,hlen,k⟩:=h
   refine ⟨_,(pss_one (ps_ret (pe_join (pe_gv T.g_PARTING) (pe_lc rfl sc.nd (pi_list (pv 2)) (blkOk_by (N:=["book","way","places","place"]) (sc:=defScope s_list_text) (own:=[("place",3)]) (by decide +kernel)) (fun _ _ _ _ _=>(pg_name (i:=3) sc.nd rfl (Or.inl rfl))) (fun _ _ _ _ _=>pts_nil) (fun _ _ _ _ _=>(pe_call (ok_place_text T) (hr.mono (by decide)) rfl T.place_text.m T.place_text.fn.kp T.place_text.b .nil pass0 (pa_3 (pv 0) (pv 1) (pv 3)))))))),?_⟩
   have hz:sizeLine = 16777216:=rfl
   have hok:Bk.BookOk bk:=by obtain ⟨_,_,_,_,q⟩:=hB; exact q.ok
   refine ⟨⟨_,rfl⟩,_,rfl,l,rfl,⟨_,SqL.of hl⟩,fun D hD=>lc_list (xs:=as.map V.ref) (fun i H'=>H' D = some (.lst (((ps.take i).map fun p=>S (p.text bk way)).map V.str))∧Same H H') ⟨upd_same,Same.new hD⟩ (fun i H' _ p=>SqL.of (p.2 _ _ hl)) ?_ ?_⟩
   · rintro i x Hc hx ⟨h1,h2⟩
     rw [List.getElem?_map] at hx
     obtain ⟨p,hp,rfl⟩:=Option.map_eq_some_iff.mp hx
     obtain ⟨y,hy,hP⟩:=pair_at hps hp
     refine ⟨rfl,_,rfl,_,rfl,_,rfl,b,p,way,bk,y,rfl,hB.mono h2,hP.mono h2,hw,hr1 y (List.mem_of_getElem? hy),_,h1,?_,?_,Same.put h2 hD⟩
     · rw [List.length_map,List.length_map,List.length_take]
       omega
     · rw [upd_same,take_snoc hy,List.map_append,List.map_append]
       rfl
   · rintro Hc ⟨h1,h2⟩
     rw [List.length_map,Paired.len hps,List.take_length] at h1
     have e:(ps.map fun p=>S (p.text bk way)) = (ps.map (IhPlace.Place.text bk way)).map S:=by rw [List.map_map]; rfl
     refine ⟨_,D,ps.map fun p=>S (p.text bk way),rfl,rfl,.inl (SqL.of h1),?_,?_⟩
     · have hsum:∀ qs:List Place,(∀ p∈qs,p.right bk = true)→((qs.map fun p=>S (p.text bk way)).map (·.length)).sum≤52 * qs.length:=by
        intro qs
        induction qs with
        | nil=>intro _; simp
        | cons p qs ih =>
          intro hq
          have h1:=ih fun p hp=>hq p (List.mem_cons_of_mem _ hp)
          have h2:=text_short hok hw (hq p List.mem_cons_self)
          simp only [List.map_cons,List.sum_cons,List.length_cons,S_len] at h1 ⊢
          omega
       have:=hsum ps hr1
       rw [List.length_map]
       have e2:(", ":Str).length = 2:=rfl
       rw [e2]
       omega
     · rw [show (", ":Str) = S [44,32] from rfl,e,join_S]
       exact k _ h2
def partsT (s:Bytes):List Bytes:=if s = [] then [] else IhPlace.parts s
def sp_parts_of:Sp:=fun vs H Q _=>∃ (s:Bytes),vs = [.str (S s)]∧s.length≤100000∧∀ d,H d = none→Q (.ref d) (upd H d (.lst ((partsT s).map fun t=>V.str (S t))))
theorem ok_parts_of (T:Txt K mg a):FnOk P w K mg base CX0 1 a.parts_of.f a.parts_of.d ["text"] (sp_parts_of):=by
 have sc:FnScope ["text"] ["text"] (defScope s_parts_of):=⟨rfl,rfl,rfl,by decide +kernel,rfl,by decide +kernel,by decide +kernel⟩
 refine T.parts_of.fn.ok sc (fun vs H Q E h=>?_) (fun cdv A outer s H vs Q E hr h=>?_)
 · obtain ⟨_,rfl,_⟩:=h
   rfl
 · obtain ⟨s,rfl,hs,k⟩:=h
   refine ⟨_,(pss_cons (ps_if (pt_cmpR op_eq (pv 0) pe_str (nomark _))
     (pss_one (ps_ret (pe_lst pa_nil)))
     pss_nil)
    (pss_one (ps_ret (pe_split (pv 0) (pe_gv T.g_PARTING))))),?_⟩
   have hz:sizeLine = 16777216:=rfl
   refine ⟨_,rfl,rfl,_,rfl,ite2 (fun h=>?_) (fun h=>?_)⟩
   · have h:V.str (S s) = V.str (S []):=of_decide_eq_true h
     rw [str_eq] at h
     refine ⟨(show 0≤sizeLine by decide),fun d hd=>?_⟩
     have q:=k d hd
     unfold partsT at q
     rw [if_pos h] at q
     exact q
   · have h:¬ V.str (S s) = V.str (S []):=dne h
     rw [str_eq] at h
     refine ⟨_,rfl,⟨_,rfl⟩,_,_,rfl,rfl,rfl,(by rw [S_len]; omega),fun d hd=>?_⟩
     have q:=k d hd
     unfold partsT at q
     rw [if_neg h] at q
     rw [show (", ":Str) = S [44,32] from rfl,split_S,List.map_map]
     exact q
end
end Hp
namespace Hp
open PySem L2
section
variable {P:Program} {w:World} {K:PySem.W.Frag} {mg:Str→Option Value} {base:Heap} {a:Adr}
theorem szL {s:Bytes} (h:s.length≤100000):(S s).length≤sizeLine:=by rw [S_len]; exact Nat.le_trans h (by decide)
def sp_plain_number:Sp:=fun vs H Q _=>∃ (s:Bytes) (most:Nat),vs = [.str (S s),.int (most:Int)]∧Asc s∧s.length≤100000∧most≤100∧Q (optI (Bk.numPy most s)) H
theorem ok_plain_number (T:Txt K mg a):FnOk P w K mg base CX0 1 a.plain_number.f a.plain_number.d ["text","most"] (sp_plain_number):=by
 have sc:FnScope ["text","most"] ["text","most"] (defScope s_plain_number):=⟨rfl,rfl,rfl,by decide +kernel,rfl,by decide +kernel,by decide +kernel⟩
 refine T.plain_number.fn.ok sc (fun vs H Q E h=>?_) (fun cdv A outer s H vs Q E hr h=>?_)
 · obtain ⟨_,_,rfl,_⟩:=h
   rfl
 · obtain ⟨s,most,rfl,hA,hl,hm,q⟩:=h
   refine ⟨_,(pss_cons (ps_if (PW.pt (pw_or (pt_not (pt_val (pe_m0 PySem.F.slot_str_isdigit PySem.F.type_str_isdigit mt_isdigit (pv 0)))) (pw_or (pt_cmpR op_eq (pe_ix ix_str (pv 0) pe_int (fun _ _=>rfl)) pe_str (nomark _)) (pw_or1 (pt_cmpR op_gt (pe_callB call_len_str (by rfl) T.b_len PySem.boot_len (pa_1 (pv 0))) (pv 1) (nomark _))))))
     (pss_one (ps_ret pe_non))
     pss_nil)
    (pss_one (ps_ret (pe_callTy call_int_str (by rfl) T.b_int PyProof.Rows.boot_int (pa_1 (pv 0)))))),?_⟩
   unfold Bk.numPy at q
   refine ⟨_,rfl,⟨_,rfl⟩,_,rfl,rfl,trivial,_,rfl,ite2 (fun h=>?_) (fun h=>?_)⟩
   · rw [isdigit_S hA] at h
     have h:Bk.isNum s = false:=by simpa using h
     rw [if_pos] at q
     · exact iteT q
     · by_cases h0:s = []
       · exact .inl h0
       · right; left
         rw [← Bool.not_eq_true]
         intro z
         rw [Bk.isNum_iff.mpr ⟨h0,z⟩] at h
         cases h
   · rw [isdigit_S hA] at h
     have h:Bk.isNum s = true:=by simpa using h
     obtain ⟨h0,hd⟩:=Bk.isNum_iff.mp h
     obtain ⟨c,hc1,hc2⟩:=head_at h0
     refine ⟨_,rfl,_,_,_,rfl,rfl,szL hl,hc2,rfl,_,rfl,ite2 (fun g=>?_) (fun g=>?_)⟩
     · have g:V.str ⟨#[c]⟩ = V.str (S [48]):=of_decide_eq_true g
       rw [one_eq] at g
       rw [if_pos (.inr (.inr (.inl (by rw [hc1,g]))))] at q
       exact iteT q
     · have g:¬ V.str ⟨#[c]⟩ = V.str (S [48]):=dne g
       rw [one_eq] at g
       refine ⟨_,rfl,_,rfl,szL hl,_,rfl,_,_,rfl,rfl,_,rfl,ite2 (fun g5=>?_) (fun g5=>?_)⟩
       · have g5:=of_decide_eq_true g5
         rw [S_len] at g5
         rw [if_pos (.inr (.inr (.inr (by omega))))] at q
         exact q
       · have g5:=dne g5
         rw [S_len] at g5
         rw [if_neg] at q
         · exact ⟨_,rfl,_,_,rfl,int_S h0 hd (by omega),(by rw [S_len]; omega),q⟩
         · rintro (z | z | z | z)
           · exact h0 z
           · rw [z] at hd; cases hd
           · rw [hc1] at z; exact g (Option.some.inj z)
           · omega
def sp_number_of_to:Sp:=fun vs H Q _=>∃ (m:Nat) (s:Bytes),vs = [.int (m:Int),.str (S s)]∧m≤99999∧Asc s∧Bk.isNum s = true∧s.length≤100000∧Q (optI (Bk.numTo m s)) H
theorem ok_number_of_to (T:Txt K mg a):FnOk P w K mg base CX0 2 a.number_of_to.f a.number_of_to.d ["from_number","digits"] (sp_number_of_to):=by
 have sc:FnScope ["from_number","digits","from_digits","kept"] ["from_number","digits"] (defScope s_number_of_to):=⟨rfl,rfl,rfl,by decide +kernel,rfl,by decide +kernel,by decide +kernel⟩
 refine T.number_of_to.fn.ok sc (fun vs H Q E h=>?_) (fun cdv A outer s H vs Q E hr h=>?_)
 · obtain ⟨_,_,rfl,_⟩:=h
   rfl
 · obtain ⟨m,s,rfl,hm,hA,hn,hl,q⟩:=h
   refine ⟨_,(pss_cons (ps_set (i:=2) sc.nd rfl (Or.inl rfl) (pe_callTy call_str_int (by rfl) T.b_str PyProof.Rows.boot_str (pa_1 (pv 0))))
    (pss_cons (ps_set (i:=3) sc.nd rfl (Or.inl rfl) (pe_op op_sub (pe_callB call_len_str (by rfl) T.b_len PySem.boot_len (pa_1 (pv 2))) (pe_callB call_len_str (by rfl) T.b_len PySem.boot_len (pa_1 (pv 1)))))
    (pss_cons (ps_if (pt_cmpR op_gt (pv 3) pe_int (nomark _))
     (pss_one (ps_ret (pe_callTy call_int_str (by rfl) T.b_int PyProof.Rows.boot_int (pa_1 (pe_op op_add_str (pe_slice sl_str (pv 2) po_none (po_some (pv 3))) (pv 1))))))
     pss_nil)
    (pss_one (ps_ret (pe_call (ok_plain_number T) (hr.mono (by decide)) rfl T.plain_number.m T.plain_number.fn.kp T.plain_number.b .nil pass0 (pa_2 (pv 1) (pe_gv T.g_MOST_PAGE_DIGITS)))))))),?_⟩
   obtain ⟨h0,hd⟩:=Bk.isNum_iff.mp hn
   have ds:=dig_short hm
   have hz:sizeLine = 16777216:=rfl
   unfold Bk.numTo at q
   refine ⟨_,rfl,_,rfl,log_page hm,?_⟩
   rw [str_num]
   refine ⟨_,rfl,_,rfl,sz5 ds,_,rfl,_,rfl,szL hl,_,_,rfl,rfl,_,rfl,_,_,rfl,rfl,_,rfl,ite2 (fun h=>?_) (fun h=>?_)⟩
   · have h:=of_decide_eq_true h
     rw [S_len,S_len] at h
     have hlt:s.length < (IhPlace.digits m).length:=by omega
     rw [if_pos hlt] at q
     have e:(((IhPlace.digits m).length:Nat):Int) - ((s.length:Nat):Int) = (((IhPlace.digits m).length - s.length:Nat):Int):=by omega
     have hall:((IhPlace.digits m).take ((IhPlace.digits m).length - s.length) ++ s).all IhPlace.isDigit = true:=by
      rw [List.all_append,hd,Bool.and_true,List.all_eq_true]
      exact fun c hc=>Bk.digits_isD m c (List.mem_of_mem_take hc)
     refine ⟨_,rfl,_,rfl,_,rfl,_,rfl,sz5 ds,?_⟩
     rw [S_len,S_len,e,cutS_to (by omega)]
     refine ⟨_,rfl,_,_,rfl,rfl,?_,?_⟩
     · rw [S_len,S_len,List.length_take]
       omega
     · rw [S_app]
       refine ⟨_,_,rfl,int_S ?_ hall ?_,?_,q⟩
       · intro z
         exact h0 (List.append_eq_nil_iff.mp z).2
       · rw [List.length_append,List.length_take]; omega
       · rw [S_len,List.length_append,List.length_take]; omega
   · have h:=dne h
     rw [S_len,S_len] at h
     rw [if_neg (by omega)] at q
     exact ⟨_,rfl,s,5,rfl,hA,hl,by decide,q⟩
def sp_index_of_to (a:Adr):Sp:=fun vs H Q _=>∃ (b r:Addr) (bk:Book) (x:Run × Nat) (f:Nat) (s:Bytes),vs = [.ref b,.ref r,.int (f:Int),.str (S s)]∧BookV a H b bk∧RunAt a H r x∧Bk.RunOk x.1∧x.2≤f∧f < x.2 + x.1.count∧Asc s∧s.length≤100000∧Q (optI (Bk.idxTo bk x f s)) H
theorem ok_index_of_to (T:Txt K mg a):FnOk P w K mg base CX0 4 a.index_of_to.f a.index_of_to.d ["book","run","from_index","told"] (sp_index_of_to a):=by
 have sc:FnScope ["book","run","from_index","told","number","index"] ["book","run","from_index","told"] (defScope s_index_of_to):=⟨rfl,rfl,rfl,by decide +kernel,rfl,by decide +kernel,by decide +kernel⟩
 refine T.index_of_to.fn.ok sc (fun vs H Q E h=>?_) (fun cdv A outer s H vs Q E hr h=>?_)
 · obtain ⟨_,_,_,_,_,_,rfl,_⟩:=h
   rfl
 · obtain ⟨b,r,bk,x,f,s,rfl,hB,hR,hx,h1,h2,hA,hl,q⟩:=h
   refine ⟨_,(pss_cons (ps_if (PW.pt (pw_and (pt_cmpR op_eq (pe_fld (pv 1) rfl) (pe_gv T.g_DIGITS) (nomark _)) (pw_and1 (pt_val (pe_m0 PySem.F.slot_str_isdigit PySem.F.type_str_isdigit mt_isdigit (pv 3))))))
     (pss_cons (ps_set (i:=4) sc.nd rfl (Or.inl rfl) (pe_call (ok_number_of_to T) (hr.mono (by decide)) rfl T.number_of_to.m T.number_of_to.fn.kp T.number_of_to.b .nil pass0 (pa_2 (pe_meth (pv 1) T.c_Run.cl T.Run_number_at.m (ok_Run_number_at T) (hr.mono (by decide)) T.Run_number_at.b .nil pass0 (pa_1 (pv 2))) (pv 3))))
     (pss_cons (ps_if (PW.pt (pw_or (pt_cmp (pc_isN (pv 4))) (pw_or1 (pt_not (pt_val (pe_meth (pv 1) T.c_Run.cl T.Run_has_number.m (ok_Run_has_number T) (hr.mono (by decide)) T.Run_has_number.b .nil pass0 (pa_1 (pv 4))))))))
      (pss_one (ps_ret pe_non))
      pss_nil)
     (pss_one (ps_ret (pe_meth (pv 1) T.c_Run.cl T.Run_index_at.m (ok_Run_index_at T) (hr.mono (by decide)) T.Run_index_at.b .nil pass0 (pa_1 (pv 4)))))))
     pss_nil)
    (pss_cons (ps_set (i:=5) sc.nd rfl (Or.inl rfl) (pe_meth (pv 0) T.c_Book.cl T.Book_index_of_name.m (ok_Book_index_of_name T) (hr.mono (by decide)) T.Book_index_of_name.b .nil pass0 (pa_1 (pv 3))))
    (pss_cons (ps_if (PW.pt (pw_or (pt_cmp (pc_isN (pv 5))) (pw_or1 (pt_not (pt_val (pe_meth (pv 1) T.c_Run.cl T.Run_has_index.m (ok_Run_has_index T) (hr.mono (by decide)) T.Run_has_index.b .nil pass0 (pa_1 (pv 5))))))))
     (pss_one (ps_ret pe_non))
     pss_nil)
    (pss_one (ps_ret (pv 5)))))),?_⟩
   obtain ⟨dr,hr1⟩:=id hR
   obtain ⟨nm,rs,ld,ls,hB1⟩:=id hB
   obtain ⟨db,hb⟩:=id hB1.ob
   unfold Bk.idxTo at q
   have nf:Bk.NumOk x.1.style (x.1.first + (f - x.2)):=hx.num (by omega) (by omega)
   have lf:=num_le nf
   have c1:=hx.count
   have named:¬ (x.1.style = 0∧Bk.isNum s = true)→Q (optI (match bk.find s with | none=>none | some j=>if Bk.hasIx j x = true then some j else none)) H:=fun h=>by
    rw [if_neg h] at q
    exact q
   refine ⟨_,rfl,_,_,_,_,_,rfl,hr1,T.c_Run.cl,T.n_Run_style,rf_style x,rfl,_,rfl,ite2 (fun h=>?_) (fun h=>?_)⟩
   · have h:=of_decide_eq_true h
     rw [nat_0] at h
     refine ⟨_,rfl,⟨_,rfl⟩,_,rfl,rfl,trivial,_,rfl,ite2 (fun g=>?_) (fun g=>?_)⟩
     · rw [isdigit_S hA] at g
       rw [if_pos ⟨h,g⟩] at q
       refine ⟨_,rfl,_,_,_,rfl,hr1,rfl,_,rfl,r,x,f,rfl,hR,h1,_,rfl,_,s,rfl,lf,hA,g,hl,?_⟩
       cases e:Bk.numTo (x.1.first + (f - x.2)) s with
       | none =>
         rw [e] at q
         exact ⟨_,rfl,_,rfl,iteT (iteT q)⟩
       | some n =>
         rw [e] at q
         refine ⟨_,rfl,_,rfl,iteF ⟨_,rfl,_,_,_,rfl,hr1,rfl,_,rfl,r,x,n,rfl,hR,_,rfl,ite2 (fun p=>?_) (fun p=>?_)⟩⟩
         · have p:¬ (x.1.first≤n∧n < x.1.first + x.1.count):=fun z=>by rw [decide_eq_true z] at p; cases p
           have q:Q (optI (if x.1.first≤n∧n≤x.1.first + x.1.count - 1 then some (x.2 + (n - x.1.first)) else none)) H:=q
           rw [if_neg (by omega)] at q
           exact q
         · have p:x.1.first≤n∧n < x.1.first + x.1.count:=by simpa using p
           have q:Q (optI (if x.1.first≤n∧n≤x.1.first + x.1.count - 1 then some (x.2 + (n - x.1.first)) else none)) H:=q
           rw [if_pos (by omega)] at q
           exact ⟨_,rfl,_,_,_,rfl,hr1,rfl,_,rfl,r,x,n,rfl,hR,p.1,q⟩
     · rw [isdigit_S hA] at g
       have q:=named fun z=>g z.2
       refine ⟨_,rfl,_,_,_,rfl,hb,rfl,_,rfl,b,bk,s,rfl,hB,hl,?_⟩
       cases e:bk.find s with
       | none =>
         rw [e] at q
         exact ⟨_,rfl,_,rfl,iteT (iteT q)⟩
       | some j =>
         rw [e] at q
         have q:Q (optI (if Bk.hasIx j x = true then some j else none)) H:=q
         refine ⟨_,rfl,_,rfl,iteF ⟨_,rfl,_,_,_,rfl,hr1,rfl,_,rfl,r,x,j,rfl,hR,_,rfl,ite2 (fun p=>?_) (fun p=>?_)⟩⟩
         · have p:¬ Bk.hasIx j x = true:=by simpa using p
           rw [if_neg p] at q
           exact q
         · have p:Bk.hasIx j x = true:=by simpa using p
           rw [if_pos p] at q
           exact ⟨_,rfl,q⟩
   · have h:=dne h
     rw [nat_0] at h
     have q:=named fun z=>h z.1
     refine iteF ⟨_,rfl,_,_,_,rfl,hb,rfl,_,rfl,b,bk,s,rfl,hB,hl,?_⟩
     cases e:bk.find s with
     | none =>
       rw [e] at q
       exact ⟨_,rfl,_,rfl,iteT (iteT q)⟩
     | some j =>
       rw [e] at q
       have q:Q (optI (if Bk.hasIx j x = true then some j else none)) H:=q
       refine ⟨_,rfl,_,rfl,iteF ⟨_,rfl,_,_,_,rfl,hr1,rfl,_,rfl,r,x,j,rfl,hR,_,rfl,ite2 (fun p=>?_) (fun p=>?_)⟩⟩
       · have p:¬ Bk.hasIx j x = true:=by simpa using p
         rw [if_neg p] at q
         exact q
       · have p:Bk.hasIx j x = true:=by simpa using p
         rw [if_pos p] at q
         exact ⟨_,rfl,q⟩
end
end Hp
namespace Hp
open PySem L2
section
variable {P:Program} {w:World} {K:PySem.W.Frag} {mg:Str→Option Value} {base:Heap} {a:Adr}
theorem neg_eq {n:Nat}:(V.int (n:Int) = V.int (-1)) = False:=by rw [int_eq]; exact propext ⟨fun h=>by omega,fun h=>h.elim⟩
theorem asc_take {s:Bytes} (h:Asc s) (k:Nat):Asc (s.take k):=fun c hc=>h c (List.mem_of_mem_take hc)
theorem asc_drop {s:Bytes} (h:Asc s) (k:Nat):Asc (s.drop k):=fun c hc=>h c (List.mem_of_mem_drop hc)
theorem idx_lt {s:Bytes} {c k:Nat} (h:s.findIdx? (· == c) = some k):k < s.length:=by
 have:=List.findIdx?_eq_some_iff_getElem.mp h
 exact this.1
theorem marksStart_le (s:Bytes):Bk.marksStart s≤s.length:=by
 unfold Bk.marksStart
 split
 · omega
 · split
   · exact Nat.le_refl _
   · rename_i k e
     exact Nat.le_of_lt (idx_lt e)
def sp_marks_start:Sp:=fun vs H Q _=>∃ (s:Bytes),vs = [.str (S s)]∧s.length≤100000∧Q (.int (Bk.marksStart s:Int)) H
theorem ok_marks_start (T:Txt K mg a):FnOk P w K mg base CX0 1 a.marks_start.f a.marks_start.d ["text"] (sp_marks_start):=by
 have sc:FnScope ["text","bracket"] ["text"] (defScope s_marks_start):=⟨rfl,rfl,rfl,by decide +kernel,rfl,by decide +kernel,by decide +kernel⟩
 refine T.marks_start.fn.ok sc (fun vs H Q E h=>?_) (fun cdv A outer s H vs Q E hr h=>?_)
 · obtain ⟨_,rfl,_⟩:=h
   rfl
 · obtain ⟨s,rfl,hl,q⟩:=h
   refine ⟨_,(pss_cons (ps_if (pt_val (pe_m1 PySem.F.slot_str_endswith PySem.F.type_str_endswith mt_endswith (pv 0) pe_str))
     (pss_one (ps_ret (pe_op op_sub (pe_callB call_len_str (by rfl) T.b_len PySem.boot_len (pa_1 (pv 0))) pe_int)))
     pss_nil)
    (pss_cons (ps_set (i:=1) sc.nd rfl (Or.inl rfl) (pe_m1 PySem.F.slot_str_find PySem.F.type_str_find mt_find (pv 0) pe_str))
    (pss_cons (ps_if (pt_cmpR op_eq (pv 1) (pe_un un_neg pe_int) (nomark _))
     (pss_one (ps_ret (pe_callB call_len_str (by rfl) T.b_len PySem.boot_len (pa_1 (pv 0)))))
     pss_nil)
    (pss_one (ps_ret (pv 1)))))),?_⟩
   unfold Bk.marksStart at q
   refine ⟨_,rfl,⟨_,rfl⟩,_,_,rfl,rfl,_,rfl,ite2 (fun h=>?_) (fun h=>?_)⟩
   · rw [show ("!":Str) = S [33] from rfl,ends_S] at h
     have h:=of_decide_eq_true h
     rw [if_pos h] at q
     refine ⟨_,rfl,_,rfl,szL hl,_,_,rfl,rfl,?_⟩
     rw [S_len]
     have h0:s≠[]:=fun z=>by rw [z] at h; cases h
     have h1:0 < s.length:=List.length_pos_iff.mpr h0
     have e:((s.length:Nat):Int) - 1 = ((s.length - 1:Nat):Int):=by omega
     rw [← e] at q
     exact q
   · rw [show ("!":Str) = S [33] from rfl,ends_S] at h
     have h:=dne h
     rw [if_neg h] at q
     refine ⟨_,rfl,⟨_,rfl⟩,_,_,rfl,rfl,?_⟩
     rw [show ("[":Str) = S [91] from rfl,find_S]
     cases e:s.findIdx? (· == 91) with
     | none =>
       rw [e] at q
       refine ⟨_,rfl,_,rfl,rfl,_,rfl,ite2 (fun g=>?_) (fun g=>absurd (decide_eq_true rfl) g)⟩
       refine ⟨_,rfl,_,rfl,szL hl,?_⟩
       rw [S_len]
       exact q
     | some k =>
       rw [e] at q
       refine ⟨_,rfl,_,rfl,rfl,_,rfl,ite2 (fun g=>?_) (fun g=>⟨_,rfl,q⟩)⟩
       have g:=of_decide_eq_true g
       exact (neg_eq (n:=k)).mp g |>.elim
def marksV:Option (Nat × Bool × Nat)→List V
 | none=>[]
 | some (k,m,n)=>[.int (k:Int),.int (mI m),.int (n:Int)]
theorem cutS_mid {s:Bytes} {i j:Nat} (h1:i≤s.length) (h2:j≤s.length):cutS (S s) (some (i:Int)) (some (j:Int)) = S ((s.drop i).take (j - i)):=by
 unfold cutS
 rw [S_len]
 have e1:HT.sIx s.length 0 (some (i:Int)) = i:=by
  show (if (i:Int) < 0 then ((i:Int) + ((s.length:Nat):Int)).toNat else min (i:Int).toNat s.length) = i
  rw [if_neg (by omega)]
  omega
 have e2:HT.sIx s.length s.length (some (j:Int)) = j:=by
  show (if (j:Int) < 0 then ((j:Int) + ((s.length:Nat):Int)).toNat else min (j:Int).toNat s.length) = j
  rw [if_neg (by omega)]
  omega
 rw [e1,e2]
 rfl
def sp_marks_told:Sp:=fun vs H Q _=>∃ (s:Bytes),vs = [.str (S s)]∧Asc s∧s.length≤100000∧∀ d,H d = none→Q (.ref d) (upd H d (.lst (marksV (Bk.marksPy s))))
theorem ok_marks_told (T:Txt K mg a):FnOk P w K mg base CX0 2 a.marks_told.f a.marks_told.d ["marks"] (sp_marks_told):=by
 have sc:FnScope ["marks","note"] ["marks"] (defScope s_marks_told):=⟨rfl,rfl,rfl,by decide +kernel,rfl,by decide +kernel,by decide +kernel⟩
 refine T.marks_told.fn.ok sc (fun vs H Q E h=>?_) (fun cdv A outer s H vs Q E hr h=>?_)
 · obtain ⟨_,rfl,_⟩:=h
   rfl
 · obtain ⟨s,rfl,hA,hl,k⟩:=h
   refine ⟨_,(pss_cons (ps_if (pt_cmpR op_eq (pv 0) pe_str (nomark _))
     (pss_one (ps_ret (pe_lst (pa_3 (pe_gv T.g_PLAIN) pe_int pe_int))))
     pss_nil)
    (pss_cons (ps_if (pt_cmpR op_eq (pv 0) pe_str (nomark _))
     (pss_one (ps_ret (pe_lst (pa_3 (pe_gv T.g_PLAIN) pe_int pe_int))))
     pss_nil)
    (pss_cons (ps_if (pt_cmpR op_eq (pv 0) pe_str (nomark _))
     (pss_one (ps_ret (pe_lst (pa_3 (pe_gv T.g_FIGURE) pe_int pe_int))))
     pss_nil)
    (pss_cons (ps_if (pt_cmpR op_eq (pv 0) pe_str (nomark _))
     (pss_one (ps_ret (pe_lst (pa_3 (pe_gv T.g_TABLE) pe_int pe_int))))
     pss_nil)
    (pss_cons (ps_if (PW.pt (pw_or (pt_not (pt_val (pe_m1 PySem.F.slot_str_startswith PySem.F.type_str_startswith mt_startswith (pv 0) pe_str))) (pw_or1 (pt_not (pt_val (pe_m1 PySem.F.slot_str_endswith PySem.F.type_str_endswith mt_endswith (pv 0) pe_str))))))
     (pss_one (ps_ret (pe_lst pa_nil)))
     pss_nil)
    (pss_cons (ps_set (i:=1) sc.nd rfl (Or.inl rfl) (pe_call (ok_plain_number T) (hr.mono (by decide)) rfl T.plain_number.m T.plain_number.fn.kp T.plain_number.b .nil pass0 (pa_2 (pe_slice sl_str (pv 0) (po_some pe_int) (po_some (pe_op op_sub (pe_callB call_len_str (by rfl) T.b_len PySem.boot_len (pa_1 (pv 0))) pe_int))) (pe_gv T.g_MOST_NOTE_DIGITS))))
    (pss_cons (ps_if (pt_cmp (pc_isN (pv 1)))
     (pss_one (ps_ret (pe_lst pa_nil)))
     pss_nil)
    (pss_one (ps_ret (pe_lst (pa_3 (pe_gv T.g_NOTE) pe_int (pv 1)))))))))))),?_⟩
   have s3:3≤sizeLine:=by decide
   have s0:0≤sizeLine:=by decide
   unfold Bk.marksPy at k
   refine ⟨_,rfl,rfl,_,rfl,ite2 (fun h=>?_) (fun h=>?_)⟩
   · have h:V.str (S s) = V.str (S []):=of_decide_eq_true h
     rw [str_eq] at h
     rw [if_pos h] at k
     exact ⟨s3,k⟩
   have h:¬ V.str (S s) = V.str (S []):=dne h
   rw [str_eq] at h
   rw [if_neg h] at k
   refine ⟨_,rfl,rfl,_,rfl,ite2 (fun h=>?_) (fun h=>?_)⟩
   · have h:V.str (S s) = V.str (S [33]):=of_decide_eq_true h
     rw [str_eq] at h
     rw [if_pos h] at k
     exact ⟨s3,k⟩
   have h:¬ V.str (S s) = V.str (S [33]):=dne h
   rw [str_eq] at h
   rw [if_neg h] at k
   refine ⟨_,rfl,rfl,_,rfl,ite2 (fun h=>?_) (fun h=>?_)⟩
   · have h:V.str (S s) = V.str (S [91,102,93]):=of_decide_eq_true h
     rw [str_eq] at h
     rw [if_pos h] at k
     exact ⟨s3,k⟩
   have h:¬ V.str (S s) = V.str (S [91,102,93]):=dne h
   rw [str_eq] at h
   rw [if_neg h] at k
   refine ⟨_,rfl,rfl,_,rfl,ite2 (fun h=>?_) (fun h=>?_)⟩
   · have h:V.str (S s) = V.str (S [91,116,93]):=of_decide_eq_true h
     rw [str_eq] at h
     rw [if_pos h] at k
     exact ⟨s3,k⟩
   have h:¬ V.str (S s) = V.str (S [91,116,93]):=dne h
   rw [str_eq] at h
   rw [if_neg h] at k
   refine ⟨_,rfl,⟨_,rfl⟩,_,_,rfl,rfl,_,rfl,ite2 (fun h=>?_) (fun h=>?_)⟩
   · rw [show ("[n":Str) = S [91,110] from rfl,starts_S] at h
     have h:¬ s.take 2 = [91,110]:=by simpa using h
     rw [if_pos (.inl h)] at k
     exact iteT ⟨s0,k⟩
   rw [show ("[n":Str) = S [91,110] from rfl,starts_S] at h
   have h1:s.take 2 = [91,110]:=by simpa using h
   refine ⟨_,rfl,⟨_,rfl⟩,_,_,rfl,rfl,_,rfl,ite2 (fun h=>?_) (fun h=>?_)⟩
   · rw [show ("]":Str) = S [93] from rfl,ends_S] at h
     have h:¬ s.getLast? = some 93:=by simpa using h
     rw [if_pos (.inr h)] at k
     exact ⟨s0,k⟩
   rw [show ("]":Str) = S [93] from rfl,ends_S] at h
   have h2:s.getLast? = some 93:=by simpa using h
   rw [if_neg (by rintro (z | z) <;> exact z ‹_›)] at k
   have l3:3≤s.length:=by
    match s,h1,h2 with
    | [],h1,_=>simp at h1
    | [_],h1,_=>simp at h1
    | [x,y],h1,h2=>simp at h1 h2; omega
    | _ :: _ :: _ :: r,_,_=>simp
   refine ⟨_,rfl,_,rfl,_,rfl,_,rfl,szL hl,_,_,rfl,rfl,_,rfl,_,rfl,szL hl,?_⟩
   rw [S_len]
   have e:((s.length:Nat):Int) - 1 = ((s.length - 1:Nat):Int):=by omega
   have e2:(2:Int) = ((2:Nat):Int):=rfl
   rw [e,e2,cutS_mid (by omega) (by omega)]
   have e3:(s.drop 2).take (s.length - 1 - 2) = (s.drop 2).dropLast:=by
    rw [List.dropLast_eq_take,List.length_drop,show s.length - 1 - 2 = s.length - 2 - 1 by omega]
   rw [e3]
   have hA2:Asc ((s.drop 2).dropLast):=fun c hc=>asc_drop hA 2 c (List.dropLast_subset _ hc)
   refine ⟨(s.drop 2).dropLast,8,rfl,hA2,(by rw [List.length_dropLast,List.length_drop]; omega),by decide,?_⟩
   cases e4:Bk.numPy 8 ((s.drop 2).dropLast) with
   | none =>
     rw [e4] at k
     exact ⟨_,rfl,_,rfl,iteT ⟨s0,k⟩⟩
   | some n =>
     rw [e4] at k
     exact ⟨_,rfl,_,rfl,iteF ⟨_,rfl,s3,k⟩⟩
def pagesV:Option (Nat × Nat)→List V
 | none=>[]
 | some (f,t)=>[.int (f:Int),.int (t:Int)]
def sp_pages_told (a:Adr):Sp:=fun vs H Q _=>∃ (b:Addr) (bk:Book) (s:Bytes),vs = [.ref b,.str (S s)]∧BookV a H b bk∧Asc s∧s.length≤100000∧∀ d,H d = none→Q (.ref d) (upd H d (.lst (pagesV (Bk.pagesPy bk s))))
theorem ok_pages_told (T:Txt K mg a):FnOk P w K mg base CX0 5 a.pages_told.f a.pages_told.d ["book","text"] (sp_pages_told a):=by
 have sc:FnScope ["book","text","dash","from_index","to_index"] ["book","text"] (defScope s_pages_told):=⟨rfl,rfl,rfl,by decide +kernel,rfl,by decide +kernel,by decide +kernel⟩
 refine T.pages_told.fn.ok sc (fun vs H Q E h=>?_) (fun cdv A outer s H vs Q E hr h=>?_)
 · obtain ⟨_,_,_,rfl,_⟩:=h
   rfl
 · obtain ⟨b,bk,s,rfl,hB,hA,hl,k⟩:=h
   refine ⟨_,(pss_cons (ps_set (i:=2) sc.nd rfl (Or.inl rfl) (pe_m1 PySem.F.slot_str_find PySem.F.type_str_find mt_find (pv 1) pe_str))
    (pss_cons (ps_set (i:=3) sc.nd rfl (Or.inl rfl) (pe_meth (pv 0) T.c_Book.cl T.Book_index_of_name.m (ok_Book_index_of_name T) (hr.mono (by decide)) T.Book_index_of_name.b .nil pass0 (pa_1 (pe_ifExp (pt_cmpR op_eq (pv 2) (pe_un un_neg pe_int) (nomark _)) (pv 1) (pe_slice sl_str (pv 1) po_none (po_some (pv 2)))))))
    (pss_cons (ps_if (pt_cmp (pc_isN (pv 3)))
     (pss_one (ps_ret (pe_lst pa_nil)))
     pss_nil)
    (pss_cons (ps_if (pt_cmpR op_eq (pv 2) (pe_un un_neg pe_int) (nomark _))
     (pss_one (ps_ret (pe_lst (pa_2 (pv 3) (pv 3)))))
     pss_nil)
    (pss_cons (ps_set (i:=4) sc.nd rfl (Or.inl rfl) (pe_call (ok_index_of_to T) (hr.mono (by decide)) rfl T.index_of_to.m T.index_of_to.fn.kp T.index_of_to.b .nil pass0 (pa_4 (pv 0) (pe_meth (pv 0) T.c_Book.cl T.Book_run_at.m (ok_Book_run_at T) (hr.mono (by decide)) T.Book_run_at.b .nil pass0 (pa_1 (pv 3))) (pv 3) (pe_slice sl_str (pv 1) (po_some (pe_op op_add (pv 2) pe_int)) po_none))))
    (pss_cons (ps_if (PW.pt (pw_or (pt_cmp (pc_isN (pv 4))) (pw_or1 (pt_cmpR op_le (pv 4) (pv 3) (nomark _)))))
     (pss_one (ps_ret (pe_lst pa_nil)))
     pss_nil)
    (pss_one (ps_ret (pe_lst (pa_2 (pv 3) (pv 4))))))))))),?_⟩
   have s2:2≤sizeLine:=by decide
   have s0:0≤sizeLine:=by decide
   obtain ⟨nm,rs,ld,ls,hB1⟩:=id hB
   obtain ⟨db,hb⟩:=id hB1.ob
   unfold Bk.pagesPy at k
   refine ⟨_,rfl,⟨_,rfl⟩,_,_,rfl,rfl,?_⟩
   rw [show ("-":Str) = S [45] from rfl,find_S]
   cases e:s.findIdx? (· == 45) with
   | none =>
     rw [e] at k
     refine ⟨_,rfl,_,_,_,rfl,hb,rfl,_,rfl,_,rfl,rfl,_,rfl,ite2 (fun _=>?_) (fun g=>absurd (decide_eq_true rfl) g)⟩
     refine ⟨_,rfl,b,bk,s,rfl,hB,hl,?_⟩
     cases ef:bk.find s with
     | none =>
       rw [ef] at k
       exact ⟨_,rfl,_,rfl,iteT ⟨s0,k⟩⟩
     | some f =>
       rw [ef] at k
       exact ⟨_,rfl,_,rfl,iteF ⟨_,rfl,_,rfl,rfl,_,rfl,ite2 (fun _=>⟨_,rfl,_,rfl,s2,k⟩) (fun g=>absurd (decide_eq_true rfl) g)⟩⟩
   | some j =>
     have hj:=idx_lt e
     rw [e] at k
     refine ⟨_,rfl,_,_,_,rfl,hb,rfl,_,rfl,_,rfl,rfl,_,rfl,ite2 (fun g=>((neg_eq (n:=j)).mp (of_decide_eq_true g)).elim) (fun _=>?_)⟩
     refine ⟨_,rfl,_,rfl,_,rfl,_,rfl,szL hl,?_⟩
     rw [cutS_to (Nat.le_of_lt hj)]
     refine ⟨b,bk,s.take j,rfl,hB,(by rw [List.length_take]; omega),?_⟩
     cases ef:bk.find (s.take j) with
     | none =>
       simp only [ef] at k
       exact ⟨_,rfl,_,rfl,iteT ⟨s0,k⟩⟩
     | some f =>
       simp only [ef] at k
       refine ⟨_,rfl,_,rfl,iteF ⟨_,rfl,_,rfl,rfl,_,rfl,ite2 (fun g=>((neg_eq (n:=j)).mp (of_decide_eq_true g)).elim) (fun _=>?_)⟩⟩
       have hfp:f < bk.pages:=((Bk.find_iff hB1.ok.nd).mp ef).1
       refine ⟨_,rfl,_,rfl,_,_,_,rfl,hb,rfl,_,rfl,b,bk,f,rfl,hB,fun v hv=>?_⟩
       cases er:Bk.runAt bk f with
       | none =>
         have:=Bk.runAt_none.mp er
         omega
       | some x =>
         rw [er] at hv
         simp only [er] at k
         obtain ⟨r,rfl,hR⟩:=hv
         obtain ⟨hx,g1,g2⟩:=runAt_ok hB1.ok er
         refine ⟨_,rfl,_,rfl,_,rfl,_,_,rfl,rfl,_,rfl,_,rfl,szL hl,?_⟩
         have e1:((j:Int) + 1) = ((j + 1:Nat):Int):=by omega
         rw [e1,cutS_from (by omega)]
         refine ⟨b,r,bk,x,f,s.drop (j + 1),rfl,hB,hR,hx,g1,g2,asc_drop hA _,(by rw [List.length_drop]; omega),?_⟩
         cases et:Bk.idxTo bk x f (s.drop (j + 1)) with
         | none =>
           simp only [et] at k
           exact ⟨_,rfl,_,rfl,iteT (iteT ⟨s0,k⟩)⟩
         | some t =>
           simp only [et] at k
           refine ⟨_,rfl,_,rfl,iteF ⟨_,rfl,_,rfl,_,_,rfl,rfl,_,rfl,ite2 (fun p=>?_) (fun p=>?_)⟩⟩
           · have p:=of_decide_eq_true p
             rw [if_pos (by omega)] at k
             exact ⟨s0,k⟩
           · have p:=dne p
             rw [if_neg (by omega)] at k
             exact ⟨_,rfl,_,rfl,s2,k⟩
end
end Hp
namespace Hp
open PySem L2
section
variable {P:Program} {w:World} {K:PySem.W.Frag} {mg:Str→Option Value} {base:Heap} {a:Adr}
def sp_place_told (K:PySem.W.Frag) (a:Adr):Sp:=fun vs H Q _=>∃ (b:Addr) (bk:Book) (s:Bytes),vs = [.ref b,.str (S s)]∧BookV a H b bk∧Asc s∧s.length≤100000 ∧
 (bk.read s = none→∀ H',Same H H'→Q .non H')∧(∀ p x H',bk.read s = some x→x.right bk = true→H p = none→Same H H'→PlAt a H' p x→Q (.ref p) H')
theorem len_0 {l:List V}:(V.int (l.length:Int) = V.int 0) = (l = []):=by rw [nat_0,List.length_eq_zero_iff]
theorem ok_place_told (T:Txt K mg a):FnOk P w K mg base CX0 6 a.place_told.f a.place_told.d ["book","text"] (sp_place_told K a):=by
 have sc:FnScope ["book","text","start","pages","marks","place"] ["book","text"] (defScope s_place_told):=⟨rfl,rfl,rfl,by decide +kernel,rfl,by decide +kernel,by decide +kernel⟩
 refine T.place_told.fn.ok sc (fun vs H Q E h=>?_) (fun cdv A outer s H vs Q E hr h=>?_)
 · obtain ⟨_,_,_,rfl,_⟩:=h
   rfl
 · obtain ⟨b,bk,s,rfl,hB,hA,hl,k1,k2⟩:=h
   refine ⟨_,(pss_cons (ps_set (i:=2) sc.nd rfl (Or.inl rfl) (pe_call (ok_marks_start T) (hr.mono (by decide)) rfl T.marks_start.m T.marks_start.fn.kp T.marks_start.b .nil pass0 (pa_1 (pv 1))))
    (pss_cons (ps_set (i:=3) sc.nd rfl (Or.inl rfl) (pe_call (ok_pages_told T) (hr.mono (by decide)) rfl T.pages_told.m T.pages_told.fn.kp T.pages_told.b .nil pass0 (pa_2 (pv 0) (pe_slice sl_str (pv 1) po_none (po_some (pv 2))))))
    (pss_cons (ps_set (i:=4) sc.nd rfl (Or.inl rfl) (pe_call (ok_marks_told T) (hr.mono (by decide)) rfl T.marks_told.m T.marks_told.fn.kp T.marks_told.b .nil pass0 (pa_1 (pe_slice sl_str (pv 1) (po_some (pv 2)) po_none))))
    (pss_cons (ps_if (PW.pt (pw_or (pt_cmpR op_eq (pe_callB call_len_seq (by rfl) T.b_len PySem.boot_len (pa_1 (pv 3))) pe_int (nomark _)) (pw_or1 (pt_cmpR op_eq (pe_callB call_len_seq (by rfl) T.b_len PySem.boot_len (pa_1 (pv 4))) pe_int (nomark _)))))
     (pss_one (ps_ret pe_non))
     pss_nil)
    (pss_cons (ps_set (i:=5) sc.nd rfl (Or.inl rfl) (pe_make T.c_Place.mkd (ok_Place_init T) (hr.mono (by decide)) rfl T.c_Place.m T.Place_init.b .nil pass0 (pa_1 (pe_op op_cat (pv 3) (pv 4)))))
    (pss_cons (ps_if (pt_not (pt_val (pe_call (ok_is_right T) (hr.mono (by decide)) rfl T.is_right.m T.is_right.fn.kp T.is_right.b .nil pass0 (pa_2 (pv 0) (pv 5)))))
     (pss_one (ps_ret pe_non))
     pss_nil)
    (pss_one (ps_ret (pv 5))))))))),?_⟩
   have hz:sizeLine = 16777216:=rfl
   have hok:Bk.BookOk bk:=by obtain ⟨_,_,_,_,q⟩:=hB; exact q.ok
   have hle:=marksStart_le s
   rw [← Bk.placePy_eq hok] at k1
   have k2:∀ p x H',Bk.placePy bk s = some x→x.right bk = true→H p = none→Same H H'→PlAt a H' p x→Q (.ref p) H':=fun p x H' e=>k2 p x H' (by rw [← Bk.placePy_eq hok]; exact e)
   unfold Bk.placePy at k1 k2
   refine ⟨_,rfl,s,rfl,hl,?_⟩
   refine ⟨_,rfl,_,rfl,_,rfl,_,rfl,_,rfl,szL hl,?_⟩
   rw [cutS_to hle]
   refine ⟨b,bk,s.take (Bk.marksStart s),rfl,hB,asc_take hA _,(by rw [List.length_take]; omega),fun d hd=>?_⟩
   refine ⟨_,rfl,_,rfl,_,rfl,_,rfl,szL hl,?_⟩
   rw [cutS_from hle]
   refine ⟨s.drop (Bk.marksStart s),rfl,asc_drop hA _,(by rw [List.length_drop]; omega),fun e he=>?_⟩
   generalize Bk.pagesPy bk (s.take (Bk.marksStart s)) = pg at *
   generalize Bk.marksPy (s.drop (Bk.marksStart s)) = mk at *
   have s1:Same H (upd H d (.lst (pagesV pg))):=Same.new hd
   have s2:Same H (upd (upd H d (.lst (pagesV pg))) e (.lst (marksV mk))):=Same.trans s1 (Same.new he)
   have hde:d≠e:=ne_of_none upd_same he
   have hd2:upd (upd H d (.lst (pagesV pg))) e (.lst (marksV mk)) d = some (.lst (pagesV pg)):=(upd_ne hde).trans upd_same
   refine ⟨_,rfl,d,_,rfl,.inl (SqL.of hd2),rfl,_,rfl,ite2 (fun h=>?_) (fun h=>?_)⟩
   · have h:=of_decide_eq_true h
     rw [len_0] at h
     cases pg with
     | some x=>cases h
     | none=>exact iteT (k1 rfl _ s2)
   · have h:=dne h
     rw [len_0] at h
     refine ⟨_,rfl,e,_,rfl,.inl (SqL.of upd_same),rfl,_,rfl,ite2 (fun g=>?_) (fun g=>?_)⟩
     · have g:=of_decide_eq_true g
       rw [len_0] at g
       cases mk with
       | some x=>cases g
       | none =>
         refine k1 ?_ _ s2
         cases pg <;> rfl
     · have g:=dne g
       rw [len_0] at g
       cases pg with
       | none=>exact absurd rfl h
       | some x =>
         obtain ⟨f,t⟩:=x
         cases mk with
         | none=>exact absurd rfl g
         | some y =>
           obtain ⟨kd,m,n⟩:=y
           refine ⟨_,rfl,_,rfl,d,e,_,_,rfl,rfl,hd2,upd_same,(show 2 + 3≤sizeLine by decide),fun p hp=>?_⟩
           refine fun x dx n1 n2 n3=>⟨x,dx,p,⟨f,t,kd,m,n⟩,rfl,upd_same,(upd_ne (ne_of_none upd_same n1)).trans ((upd_ne (ne_of_none upd_same n2)).trans upd_same),fun H1 hobj made=>⟨rfl,?_⟩⟩
           have s3:=Same.trans s2 (Same.trans (Same.new hp) (Same.made n1 n2 made))
           have hx:H x = none:=Same.free s2 (Same.free (Same.new hp) n1)
           refine ⟨_,rfl,_,rfl,b,x,bk,⟨f,t,kd,m,n⟩,rfl,hB.mono s3,hobj,_,rfl,ite2 (fun r=>?_) (fun r=>?_)⟩
           · have r:¬ IhPlace.Place.right bk ⟨f,t,kd,m,n⟩ = true:=by simpa using r
             exact k1 (if_neg r) _ s3
           · have r:IhPlace.Place.right bk ⟨f,t,kd,m,n⟩ = true:=by simpa using r
             exact ⟨_,rfl,k2 x _ _ (if_pos r) r hx s3 hobj⟩
end
end Hp
namespace Hp
open PySem L2
section
variable {P:Program} {w:World} {K:PySem.W.Frag} {mg:Str→Option Value} {base:Heap} {a:Adr}
def keyI (p:Place):List Int:=[(p.from_:Int),(p.class_:Int),(p.note:Int)]
theorem kle_before {p q:Place} (h:kle (keyI p) (keyI q)):p.before q = true:=by
 unfold kle keyI at h
 simp only [List.map_cons,List.map_nil,PyProof.Rows.lexLt,PyProof.Rows.itemLt] at h
 rw [Bk.before_iff]
 simp at h
 omega
def sp_rank_of (a:Adr):Sp:=fun vs H Q _=>∃ (p:Addr) (x:Place),vs = [.ref p]∧PlAt a H p x∧Q (.int (x.class_:Int)) H
theorem ok_rank_of (T:Txt K mg a):FnOk P w K mg base CX0 1 a.rank_of.f a.rank_of.d ["place"] (sp_rank_of a):=by
 have sc:FnScope ["place"] ["place"] (defScope s_rank_of):=⟨rfl,rfl,rfl,by decide +kernel,rfl,by decide +kernel,by decide +kernel⟩
 refine T.rank_of.fn.ok sc (fun vs H Q E h=>?_) (fun cdv A outer s H vs Q E hr h=>?_)
 · obtain ⟨_,_,rfl,_⟩:=h
   rfl
 · obtain ⟨p,x,rfl,⟨dx,hp⟩,q⟩:=h
   refine ⟨_,(pss_cons (ps_if (pt_cmpR op_eq (pe_fld (pv 0) rfl) pe_int (nomark _))
     (pss_one (ps_ret (pe_gv T.g_RANK_OF_MAIN)))
     pss_nil)
    (pss_one (ps_ret (pe_op op_add (pe_gv T.g_RANK_OF_PLAIN) (pe_fld (pv 0) rfl))))),?_⟩
   unfold IhPlace.Place.class_ at q
   refine ⟨_,rfl,_,_,_,_,_,rfl,hp,T.c_Place.cl,T.n_Place_main,pf_main x,rfl,_,rfl,ite2 (fun h=>?_) (fun h=>?_)⟩
   · have h:=of_decide_eq_true h
     rw [mI_one] at h
     rw [if_pos h] at q
     exact q
   · have h:=dne h
     rw [mI_one] at h
     rw [if_neg h] at q
     refine ⟨_,rfl,_,_,_,_,_,rfl,hp,T.c_Place.cl,T.n_Place_kind,pf_kind x,_,_,rfl,rfl,?_⟩
     have e:(1:Int) + (x.kind:Int) = ((x.kind + 1:Nat):Int):=by omega
     rw [← e] at q
     exact q
def sp_order_of (a:Adr):Sp:=fun vs H Q _=>∃ (p:Addr) (x:Place),vs = [.ref p]∧PlAt a H p x∧∀ t,H t = none→Q (.ref t) (upd H t (.tup ((keyI x).map V.int)))
theorem ok_order_of (T:Txt K mg a):FnOk P w K mg base CX0 2 a.order_of.f a.order_of.d ["place"] (sp_order_of a):=by
 have sc:FnScope ["place"] ["place"] (defScope s_order_of):=⟨rfl,rfl,rfl,by decide +kernel,rfl,by decide +kernel,by decide +kernel⟩
 refine T.order_of.fn.ok sc (fun vs H Q E h=>?_) (fun cdv A outer s H vs Q E hr h=>?_)
 · obtain ⟨_,_,rfl,_⟩:=h
   rfl
 · obtain ⟨p,x,rfl,hP,k⟩:=h
   refine ⟨_,(pss_one (ps_ret (pe_tup (pa_3 (pe_fld (pv 0) rfl) (pe_call (ok_rank_of T) (hr.mono (by decide)) rfl T.rank_of.m T.rank_of.fn.kp T.rank_of.b .nil pass0 (pa_1 (pv 0))) (pe_fld (pv 0) rfl))))),?_⟩
   obtain ⟨dx,hp⟩:=id hP
   exact ⟨_,rfl,_,_,_,_,_,rfl,hp,T.c_Place.cl,T.n_Place_from_index,pf_from x,_,rfl,p,x,rfl,hP,_,rfl,_,_,_,_,_,rfl,hp,T.c_Place.cl,T.n_Place_note,pf_note x,(show 3≤sizeLine by decide),k⟩
def sp_are_joined (a:Adr):Sp:=fun vs H Q _=>∃ (b p1 p2:Addr) (bk:Book) (j:Bool) (x y:Place),vs = [.ref b,.int (mI j),.ref p1,.ref p2]∧BookV a H b bk∧PlAt a H p1 x∧PlAt a H p2 y∧x.to_ < bk.pages∧Q (.bl (Bk.goes bk j x.to_ y.from_)) H
theorem ok_are_joined (T:Txt K mg a):FnOk P w K mg base CX0 3 a.are_joined.f a.are_joined.d ["book","joins","first","second"] (sp_are_joined a):=by
 have sc:FnScope ["book","joins","first","second"] ["book","joins","first","second"] (defScope s_are_joined):=⟨rfl,rfl,rfl,by decide +kernel,rfl,by decide +kernel,by decide +kernel⟩
 refine T.are_joined.fn.ok sc (fun vs H Q E h=>?_) (fun cdv A outer s H vs Q E hr h=>?_)
 · obtain ⟨_,_,_,_,_,_,_,rfl,_⟩:=h
   rfl
 · obtain ⟨b,p1,p2,bk,j,x,y,rfl,hB,⟨d1,h1⟩,⟨d2,h2⟩,hx,q⟩:=h
   refine ⟨_,(pss_cons (ps_if (pt_cmpR op_le (pe_fld (pv 3) rfl) (pe_fld (pv 2) rfl) (nomark _))
     (pss_one (ps_ret pe_bl))
     pss_nil)
    (pss_cons (ps_if (PW.pt (pw_or (pt_cmpR op_eq (pv 1) pe_int (nomark _)) (pw_or1 (pt_cmpR op_ne (pe_fld (pv 3) rfl) (pe_op op_add (pe_fld (pv 2) rfl) pe_int) (nomark _)))))
     (pss_one (ps_ret pe_bl))
     pss_nil)
    (pss_one (ps_ret (pe_meth (pe_meth (pv 0) T.c_Book.cl T.Book_run_at.m (ok_Book_run_at T) (hr.mono (by decide)) T.Book_run_at.b .nil pass0 (pa_1 (pe_fld (pv 2) rfl))) T.c_Run.cl T.Run_has_index.m (ok_Run_has_index T) (hr.mono (by decide)) T.Run_has_index.b .nil pass0 (pa_1 (pe_fld (pv 3) rfl))))))),?_⟩
   obtain ⟨nm,rs,ld,ls,hB1⟩:=id hB
   obtain ⟨db,hb⟩:=id hB1.ob
   rw [← Bk.areJoined_eq hx] at q
   unfold Bk.areJoined at q
   refine ⟨_,rfl,_,_,_,_,_,rfl,h2,T.c_Place.cl,T.n_Place_from_index,pf_from y,_,rfl,_,_,_,_,_,rfl,h1,T.c_Place.cl,T.n_Place_to_index,pf_to x,_,_,rfl,rfl,_,rfl,ite2 (fun h=>?_) (fun h=>?_)⟩
   · have h:=of_decide_eq_true h
     rw [if_pos (by omega)] at q
     exact q
   · have h:=dne h
     rw [if_neg (by omega)] at q
     refine ⟨_,rfl,rfl,_,rfl,ite2 (fun g=>?_) (fun g=>?_)⟩
     · have g:=of_decide_eq_true g
       rw [mI_eq] at g
       rw [if_pos (.inl g)] at q
       exact iteT q
     · have g:=dne g
       rw [mI_eq] at g
       refine ⟨_,rfl,_,_,_,_,_,rfl,h2,T.c_Place.cl,T.n_Place_from_index,pf_from y,_,rfl,_,_,_,_,_,rfl,h1,T.c_Place.cl,T.n_Place_to_index,pf_to x,_,_,rfl,rfl,rfl,_,rfl,ite2 (fun e=>?_) (fun e=>?_)⟩
       · have e:¬ V.int (y.from_:Int) = V.int ((x.to_:Int) + 1):=fun z=>by rw [decide_eq_true z] at e; cases e
         rw [int_eq] at e
         rw [if_pos (.inr (by omega))] at q
         exact q
       · have e:V.int (y.from_:Int) = V.int ((x.to_:Int) + 1):=Classical.byContradiction fun z=>e (by rw [decide_eq_false z]; rfl)
         rw [int_eq] at e
         rw [if_neg (by rintro (z | z); exact g z; exact z (by omega))] at q
         refine ⟨_,rfl,_,_,_,rfl,hb,rfl,_,rfl,_,_,_,_,_,rfl,h1,T.c_Place.cl,T.n_Place_to_index,pf_to x,b,bk,x.to_,rfl,hB,fun v hv=>?_⟩
         cases er:Bk.runAt bk x.to_ with
         | none =>
           have:=Bk.runAt_none.mp er
           omega
         | some z =>
           rw [er] at hv
           simp only [er] at q
           obtain ⟨r,rfl,hR⟩:=hv
           obtain ⟨dr,hr1⟩:=id hR
           exact ⟨_,_,_,rfl,hr1,rfl,_,rfl,_,_,_,_,_,rfl,h2,T.c_Place.cl,T.n_Place_from_index,pf_from y,r,z,y.from_,rfl,hR,q⟩
def joinP (x y:Place):Place:=⟨x.from_,max x.to_ y.to_,0,x.main,0⟩
def sp_join_two (a:Adr):Sp:=fun vs H Q _=>∃ (p1 p2:Addr) (x y:Place),vs = [.ref p1,.ref p2]∧PlAt a H p1 x∧PlAt a H p2 y∧∀ p H',H p = none→Same H H'→PlAt a H' p (joinP x y)→Q (.ref p) H'
theorem ok_join_two (T:Txt K mg a):FnOk P w K mg base CX0 3 a.join_two.f a.join_two.d ["first","second"] (sp_join_two a):=by
 have sc:FnScope ["first","second","to_index"] ["first","second"] (defScope s_join_two):=⟨rfl,rfl,rfl,by decide +kernel,rfl,by decide +kernel,by decide +kernel⟩
 refine T.join_two.fn.ok sc (fun vs H Q E h=>?_) (fun cdv A outer s H vs Q E hr h=>?_)
 · obtain ⟨_,_,_,_,rfl,_⟩:=h
   rfl
 · obtain ⟨p1,p2,x,y,rfl,⟨d1,h1⟩,⟨d2,h2⟩,k⟩:=h
   refine ⟨_,(pss_cons (ps_set (i:=2) sc.nd rfl (Or.inl rfl) (pe_callB (call_max2 rfl) (by rfl) T.b_max PyProof.Rows.boot_max (pa_2 (pe_fld (pv 0) rfl) (pe_fld (pv 1) rfl))))
    (pss_one (ps_ret (pe_make T.c_Place.mkd (ok_Place_init T) (hr.mono (by decide)) rfl T.c_Place.m T.Place_init.b .nil pass0 (pa_1 (pe_lst (pa_5 (pe_fld (pv 0) rfl) (pv 2) (pe_gv T.g_PLAIN) (pe_fld (pv 0) rfl) pe_int))))))),?_⟩
   refine ⟨_,rfl,_,_,_,_,_,rfl,h1,T.c_Place.cl,T.n_Place_to_index,pf_to x,_,rfl,_,_,_,_,_,rfl,h2,T.c_Place.cl,T.n_Place_to_index,pf_to y,_,_,rfl,?_⟩
   rw [max_nat]
   refine ⟨_,rfl,_,_,_,_,_,rfl,h1,T.c_Place.cl,T.n_Place_from_index,pf_from x,_,rfl,_,rfl,_,_,_,_,_,rfl,h1,T.c_Place.cl,T.n_Place_main,pf_main x,(show 5≤sizeLine by decide),fun l hl=>?_⟩
   refine fun p dx n1 n2 n3=>⟨p,dx,l,joinP x y,rfl,upd_same,(upd_ne (ne_of_none upd_same n1)).trans ((upd_ne (ne_of_none upd_same n2)).trans upd_same),fun H1 hobj made=>⟨rfl,?_⟩⟩
   exact k p H1 (Same.free (Same.new hl) n1) (Same.trans (Same.new hl) (Same.made n1 n2 made)) hobj
end
end Hp
namespace Hp
open PySem L2
section
variable {P:Program} {w:World} {K:PySem.W.Frag} {mg:Str→Option Value} {base:Heap} {a:Adr}
theorem turns_order {H:Hp} {as:List Addr} {ps:List Place} (h:PlsAt a H as ps):Turns (sp_order_of a) H (as.map V.ref) (ps.map keyI):=by
 intro i x k hx hk H1 s1
 rw [List.getElem?_map] at hx hk
 obtain ⟨p,hp,rfl⟩:=Option.map_eq_some_iff.mp hx
 obtain ⟨y,hy,rfl⟩:=Option.map_eq_some_iff.mp hk
 obtain ⟨z,hz,hP⟩:=pair_at h hp
 rw [hy] at hz
 cases hz
 exact ⟨p,y,rfl,hP.mono s1,fun t ht=>⟨Same.new ht,t,rfl,upd_same⟩⟩
theorem zip_paired {H:Hp}:∀ {as:List Addr} {ps:List Place},PlsAt a H as ps→Paired (fun (z:List Int × V) (q:Addr × Place)=>z = (keyI q.2,V.ref q.1)∧PlAt a H q.1 q.2) ((ps.map keyI).zip (as.map V.ref)) (as.zip ps)
 | _,_,.nil=>.nil
 | _,_,.cons r t=>.cons ⟨rfl,r⟩ (zip_paired t)
theorem zip_snd {H:Hp}:∀ {as:List Addr} {ps:List Place},PlsAt a H as ps→(as.zip ps).map Prod.snd = ps
 | _,_,.nil=>rfl
 | _,_,.cons r t=>by
   have:=zip_snd t
   simp only [List.zip_cons_cons,List.map_cons,this]
theorem sorted_snd {H:Hp}:∀ {zs:List (List Int × V)} {m:List (Addr × Place)},Paired (fun (z:List Int × V) (q:Addr × Place)=>z = (keyI q.2,V.ref q.1)∧PlAt a H q.1 q.2) zs m→zs.map Prod.snd = (m.map Prod.fst).map V.ref∧PlsAt a H (m.map Prod.fst) (m.map Prod.snd)
 | _,_,.nil=>⟨rfl,.nil⟩
 | _,_,.cons r t=>by
   obtain ⟨h1,h2⟩:=sorted_snd t
   obtain ⟨e,q⟩:=r
   subst e
   exact ⟨by simp only [List.map_cons,h1],.cons q h2⟩
theorem sorted_places {H:Hp} {as:List Addr} {ps:List Place} (h:PlsAt a H as ps) {zs:List (List Int × V)} (hp:zs.Perm ((ps.map keyI).zip (as.map V.ref))) (hs:zs.Pairwise (fun p q=>kle p.1 q.1)) :
  ∃ (as':List Addr) (o:List Place),zs.map Prod.snd = as'.map V.ref∧PlsAt a H as' o∧o.Perm ps∧o.Pairwise (fun p q=>p.before q = true):=by
 obtain ⟨m,h1,h2⟩:=Paired.perm hp (zip_paired h)
 obtain ⟨h3,h4⟩:=sorted_snd h2
 refine ⟨m.map Prod.fst,m.map Prod.snd,h3,h4,?_,?_⟩
 · have:=h1.map Prod.snd
   rwa [zip_snd h] at this
 · rw [List.pairwise_map]
   refine Paired.ordered (S:=fun p q=>kle p.1 q.1) (fun p q p' q' r1 r2 s=>?_) h2 hs
   obtain ⟨rfl,_⟩:=r1
   obtain ⟨rfl,_⟩:=r2
   exact kle_before s
theorem paired_snoc {α β:Type} {R:α→β→Prop}:∀ {l:List α} {m:List β} {y:β},Paired R l (m ++ [y])→∃ l' x,l = l' ++ [x]∧Paired R l' m∧R x y
 | _,[],_,.cons r .nil=>⟨[],_,rfl,.nil,r⟩
 | _,_ :: m,_,.cons r t=>by
   obtain ⟨l',x,rfl,h1,h2⟩:=paired_snoc t
   exact ⟨_ :: l',x,rfl,.cons r h1,h2⟩
theorem at_last (l:List V) (x:V):atI (l ++ [x]) (-1) = some x:=by
 have e:ixN (l ++ [x]).length (-1) = some l.length:=by
  unfold ixN
  rw [if_neg (by decide),List.length_append,List.length_singleton,if_pos (by omega)]
  congr 1
  omega
 unfold atI
 rw [e]
 simp
theorem ix_last (l:List V) (x:V):ixN (l ++ [x]).length (-1) = some l.length:=by
 unfold ixN
 rw [if_neg (by decide),List.length_append,List.length_singleton,if_pos (by omega)]
 congr 1
 omega
theorem pushP_len (bk:Book) (j:Bool):∀ (o st:List Place),(o.foldl (Bk.pushP bk j) st).length≤st.length + o.length
 | [],st=>by simp
 | p :: o,st=>by
   rw [List.foldl_cons]
   refine Nat.le_trans (pushP_len bk j o _) ?_
   have:(Bk.pushP bk j st p).length≤st.length + 1:=by
    unfold Bk.pushP
    split
    · simp
    · split
      · rw [List.length_append,List.length_dropLast,List.length_singleton]
        omega
      · simp
   rw [List.length_cons]
   omega
def sp_joined (K:PySem.W.Frag) (a:Adr):Sp:=fun vs H Q _=>∃ (b l:Addr) (bk:Book) (j:Bool) (as:List Addr) (ps:List Place),vs = [.ref b,.int (mI j),.ref l]∧BookV a H b bk∧H l = some (.lst (as.map V.ref))∧PlsAt a H as ps∧ps.length≤100000∧(∀ p∈ps,p.to_ < bk.pages) ∧
 ∀ o:List Place,o.Perm ps→o.Pairwise (fun p q=>p.before q = true)→NewPls a H (o.foldl (Bk.pushP bk j) []) Q
theorem ok_joined (T:Txt K mg a):FnOk P w K mg base CX0 5 a.joined.f a.joined.d ["book","joins","places"] (sp_joined K a):=by
 have sc:FnScope ["book","joins","places","stretches","place"] ["book","joins","places"] (defScope s_joined):=⟨rfl,rfl,rfl,by decide +kernel,rfl,by decide +kernel,by decide +kernel⟩
 refine T.joined.fn.ok sc (fun vs H Q E h=>?_) (fun cdv A outer s H vs Q E hr h=>?_)
 · obtain ⟨_,_,_,_,_,_,rfl,_⟩:=h
   rfl
 · obtain ⟨b,l,bk,j,as,ps,rfl,hB,hl,hps,hlen,hpg,k⟩:=h
   refine ⟨_,(pss_cons (ps_set (i:=3) sc.nd rfl (Or.inl rfl) (pe_lst pa_nil))
    (pss_cons (ps_for PassesOwn.never rfl (pi_list (pe_sortK (ok_order_of T) (hr.mono (by decide)) T.order_of.b (pv 2) rfl T.b_sorted rfl T.order_of.m)) (pg_name (i:=4) sc.nd rfl (Or.inl rfl))
     (pss_one (ps_if (PW.pt (pw_and (pt_cmpR op_gt (pe_callB call_len_seq (by rfl) T.b_len PySem.boot_len (pa_1 (pv 3))) pe_int (nomark _)) (pw_and1 (pt_val (pe_call (ok_are_joined T) (hr.mono (by decide)) rfl T.are_joined.m T.are_joined.fn.kp T.are_joined.b .nil pass0 (pa_4 (pv 0) (pv 1) (pe_ix (show IxR _ (rIxL K) from ix_list) (pv 3) (pe_un un_neg pe_int) (fun _ _=>rfl)) (pv 4)))))))
      (pss_one (ps_asg (pe_call (ok_join_two T) (hr.mono (by decide)) rfl T.join_two.m T.join_two.fn.kp T.join_two.b .nil pass0 (pa_2 (pe_ix (show IxR _ (rIxL K) from ix_list) (pv 3) (pe_un un_neg pe_int) (fun _ _=>rfl)) (pv 4))) (pg_sub (pv 3) (pe_un un_neg pe_int) set_list)))
      (pss_one (ps_expr (pe_bm PySem.F.plainAttrs_list PySem.F.slot_list_append PySem.F.type_list_append mt_append (pv 3) (pa_1 (pv 4))))))))
    (pss_one (ps_ret (pv 3))))),?_⟩
   have hz:sizeLine = 16777216:=rfl
   refine ⟨(show 0≤sizeLine by decide),fun st hst=>?_⟩
   have s1:Same H (upd H st (.lst [])):=Same.new hst
   have h1:=hps.mono s1
   refine ⟨_,rfl,l,as.map V.ref,ps.map keyI,rfl,SqL.of (s1 _ _ hl),(by rw [List.length_map,List.length_map,Paired.len hps]),(fun k hk=>by obtain ⟨p,_,rfl⟩:=List.mem_map.mp hk; exact fun z=>nomatch z),turns_order h1,fun zs D H2 hperm hsort s2 hD=>?_⟩
   obtain ⟨as',o,e1,h2,hoP,hoS⟩:=sorted_places hps hperm hsort
   rw [e1]
   have s12:Same H H2:=Same.trans s1 s2
   have hst2:H2 st = some (.lst []):=s2 _ _ upd_same
   have hstD:st≠D:=ne_of_none hst2 hD
   have hDn:H D = none:=Same.free s12 hD
   have olen:o.length = ps.length:=hoP.length_eq
   have alen:as'.length = o.length:=Paired.len h2
   refine ⟨D,rfl,⟨_,SqL.of upd_same⟩,for_list (xs:=as'.map V.ref) (fun i σ Hc=>(∃ u,σ = [some (.ref b),some (.int (mI j)),some (.ref l),some (.ref st),u])∧(∃ ss,Hc st = some (.lst (ss.map V.ref))∧PlsAt a Hc ss ((o.take i).foldl (Bk.pushP bk j) []))∧(∀ q∈(o.take i).foldl (Bk.pushP bk j) [],q.to_ < bk.pages)∧Same H Hc∧Hc D = some (.lst (as'.map V.ref)))
    ⟨⟨_,rfl⟩,⟨[],(upd_ne hstD).trans hst2,.nil⟩,(fun q hq=>by simp at hq),Same.put s12 hDn,upd_same⟩ (fun i σ Hc _ p=>SqL.of p.2.2.2.2) ?_ ?_⟩
   · rintro i x σ Hc hx ⟨⟨u,rfl⟩,⟨ss,g1,g2⟩,g3,g4,g5⟩
     rw [List.getElem?_map] at hx
     obtain ⟨p,hp,rfl⟩:=Option.map_eq_some_iff.mp hx
     obtain ⟨y,hy,hP⟩:=pair_at h2 hp
     have hPc:=hP.mono g4
     have hyp:y.to_ < bk.pages:=hpg y (hoP.mem_iff.mp (List.mem_of_getElem? hy))
     have hi:i < o.length:=(List.getElem?_eq_some_iff.mp hy).1
     have fl:=pushP_len bk j (o.take i) []
     rw [List.length_take,List.length_nil] at fl
     have efold:(o.take (i + 1)).foldl (Bk.pushP bk j) [] = Bk.pushP bk j ((o.take i).foldl (Bk.pushP bk j) []) y:=by rw [take_snoc hy,List.foldl_append]; rfl
     rw [efold]
     generalize (o.take i).foldl (Bk.pushP bk j) [] = qs at *
     have qlen:ss.length = qs.length:=Paired.len g2
     have app:Bk.pushP bk j qs y = qs ++ [y]→(fun (σ:St) (Hc:Hp)=>(∃ u,σ = [some (.ref b),some (.int (mI j)),some (.ref l),some (.ref st),u])∧(∃ ss,Hc st = some (.lst (ss.map V.ref))∧PlsAt a Hc ss (Bk.pushP bk j qs y))∧(∀ q∈Bk.pushP bk j qs y,q.to_ < bk.pages)∧Same H Hc∧Hc D = some (.lst (as'.map V.ref)))
       [some (.ref b),some (.int (mI j)),some (.ref l),some (.ref st),some (.ref p)] (upd Hc st (.lst (ss.map V.ref ++ [V.ref p]))):=fun e=>by
      rw [e]
      refine ⟨⟨_,rfl⟩,⟨ss ++ [p],by rw [upd_same,List.map_append]; rfl,PlsAt.updL (Paired.snoc hPc g2) g1⟩,fun q hq=>?_,Same.put g4 hst,(upd_ne hstD.symm).trans g5⟩
      rcases List.mem_append.mp hq with hq | hq
      · exact g3 q hq
      · rw [List.mem_singleton.mp hq]
        exact hyp
     refine ⟨_,rfl,st,_,rfl,.inl (SqL.of g1),_,_,rfl,rfl,_,rfl,ite2 (fun h=>?_) (fun h=>?_)⟩
     · have h:=of_decide_eq_true h
       rw [List.length_map,qlen] at h
       obtain ⟨qs',z,rfl⟩:∃ qs' z,qs = qs' ++ [z]:=by
        rcases List.eq_nil_or_concat qs with e | ⟨qs',z,e⟩
        · rw [e] at h; simp at h
        · exact ⟨qs',z,by rw [e,List.concat_eq_append]⟩
       obtain ⟨ss',sz,rfl,g6,g7⟩:=paired_snoc g2
       have em:(ss' ++ [sz]).map V.ref = ss'.map V.ref ++ [V.ref sz]:=by rw [List.map_append]; rfl
       have hpush:Bk.pushP bk j (qs' ++ [z]) y = if Bk.goes bk j z.to_ y.from_ = true then qs' ++ [joinP z y] else qs' ++ [z] ++ [y]:=by
        unfold Bk.pushP
        rw [List.getLast?_concat]
        simp only [List.dropLast_concat]
        rfl
       refine ⟨_,rfl,_,rfl,_,rfl,_,rfl,st,_,_,_,rfl,rfl,SqL.of g1,(by rw [em]; exact at_last _ _),_,rfl,b,sz,p,bk,j,z,y,rfl,hB.mono g4,g7,hPc,g3 z (by simp),_,rfl,ite2 (fun hg=>?_) (fun hg=>?_)⟩
       · rw [if_pos hg] at hpush
         refine ⟨_,rfl,_,rfl,st,_,_,_,rfl,rfl,SqL.of g1,(by rw [em]; exact at_last _ _),_,rfl,sz,p,z,y,rfl,g7,hPc,fun r H3 hr3 s3 hP3=>?_⟩
         have g13:=s3 _ _ g1
         refine ⟨_,rfl,_,rfl,st,_,_,ss'.length,rfl,rfl,g13,(by rw [em,← List.length_map (f:=V.ref) (as:=ss')]; exact ix_last _ _),?_⟩
         rw [hpush]
         have eset:((ss' ++ [sz]).map V.ref).set ss'.length (V.ref r) = (ss' ++ [r]).map V.ref:=by
          rw [List.map_append,List.map_append,List.set_append]
          simp
         rw [eset]
         refine ⟨⟨_,rfl⟩,⟨ss' ++ [r],upd_same,PlsAt.updL (Paired.snoc hP3 (PlsAt.mono s3 g6)) g13⟩,fun q hq=>?_,Same.put (Same.trans g4 s3) hst,(upd_ne hstD.symm).trans (s3 _ _ g5)⟩
         rcases List.mem_append.mp hq with hq | hq
         · exact g3 q (List.mem_append_left _ hq)
         · rw [List.mem_singleton.mp hq]
           have:=g3 z (by simp)
           show max z.to_ y.to_ < bk.pages
           omega
       · rw [if_neg hg] at hpush
         exact ⟨_,rfl,.inl ⟨rfl,_,SqL.of g1⟩,_,rfl,st,_,_,rfl,rfl,g1,(by rw [List.length_map,qlen]; omega),app hpush⟩
     · have h:=dne h
       rw [List.length_map,qlen] at h
       have e0:qs = []:=List.length_eq_zero_iff.mp (by omega)
       refine iteF ⟨_,rfl,.inl ⟨rfl,_,SqL.of g1⟩,_,rfl,st,_,_,rfl,rfl,g1,(by rw [List.length_map,qlen]; omega),app ?_⟩
       rw [e0]
       rfl
   · rintro σ Hc ⟨⟨u,rfl⟩,⟨ss,g1,g2⟩,g3,g4,g5⟩
     rw [List.length_map,alen,List.take_length] at g2
     exact ⟨_,rfl,k o hoP hoS st ss Hc hst g4 g1 g2⟩
end
end Hp
namespace Hp
open PySem L2
section
variable {P:Program} {w:World} {K:PySem.W.Frag} {mg:Str→Option Value} {base:Heap} {a:Adr}
def keyK (p:Place):List Key:=(keyI p).map Sum.inl
theorem keyK_map (p:Place):(keyK p).map kV = (keyI p).map V.int:=by
 unfold keyK
 rw [List.map_map]
 rfl
theorem keyK_eq {p q:Place}:(keyK p = keyK q) = (Bk.keyP p = Bk.keyP q):=by
 unfold keyK keyI Bk.keyP
 simp only [List.map_cons,List.map_nil,List.cons.injEq,Sum.inl.injEq,Prod.mk.injEq,and_true]
 exact propext ⟨fun ⟨h1,h2,h3⟩=>⟨by omega,by omega,by omega⟩,fun ⟨h1,h2,h3⟩=>⟨by omega,by omega,by omega⟩⟩
def kvsOf (ss:List Addr) (qs:List Place):List (List Key × V):=(ss.zip qs).map fun x=>(keyK x.2,V.ref x.1)
theorem kvs_snoc {ss:List Addr} {qs:List Place} (h:ss.length = qs.length) (s:Addr) (q:Place):kvsOf (ss ++ [s]) (qs ++ [q]) = kvsOf ss qs ++ [(keyK q,V.ref s)]:=by
 unfold kvsOf
 rw [List.zip_append h,List.map_append]
 rfl
theorem kvs_snd {ss:List Addr} {qs:List Place} (h:ss.length = qs.length):(kvsOf ss qs).map (·.2) = ss.map V.ref:=by
 unfold kvsOf
 rw [List.map_map]
 have e:(ss.zip qs).map Prod.fst = ss:=List.map_fst_zip (by omega)
 conv=>rhs; rw [← e,List.map_map]
 rfl
theorem kvs_none {ss:List Addr} {qs:List Place} (h:ss.length = qs.length) (y:Place):valV (kvsOf ss qs) (keyK y) = none↔(qs.any fun q=>decide (Bk.keyP q = Bk.keyP y)) = false:=by
 unfold kvsOf
 rw [valV_map (fun x:Addr × Place=>keyK x.2) (fun x=>V.ref x.1),Option.map_eq_none_iff,List.find?_eq_none,List.any_eq_false]
 have e:(ss.zip qs).map Prod.snd = qs:=List.map_snd_zip (by omega)
 constructor
 · intro g q hq
   rw [← e] at hq
   obtain ⟨x,hx,rfl⟩:=List.mem_map.mp hq
   have:=g x hx
   simpa [keyK_eq] using this
 · intro g x hx
   have:=g x.2 (by rw [← e]; exact List.mem_map.mpr ⟨x,hx,rfl⟩)
   simpa [keyK_eq] using this
theorem once_len:∀ (o st:List Place),(o.foldl Bk.once st).length≤st.length + o.length
 | [],st=>by simp
 | p :: o,st=>by
   rw [List.foldl_cons]
   refine Nat.le_trans (once_len o _) ?_
   have:(Bk.once st p).length≤st.length + 1:=by
    unfold Bk.once
    split
    · omega
    · simp
   rw [List.length_cons]
   omega
theorem PlAt.updT {H:Hp} {D p:Addr} {x:Place} {xs ys:List (List Key × V)} (h:PlAt a H p x) (hD:H D = some (.dT xs)):PlAt a (upd H D (.dT ys)) p x:=by
 obtain ⟨dx,h⟩:=h
 exact ⟨dx,(upd_ne (ne_of h hD (fun z=>nomatch z))).trans h⟩
def sp_each_once (K:PySem.W.Frag) (a:Adr):Sp:=fun vs H Q _=>∃ (l:Addr) (as:List Addr) (ps:List Place),vs = [.ref l]∧H l = some (.lst (as.map V.ref))∧PlsAt a H as ps∧ps.length≤100000∧NewPls a H (ps.foldl Bk.once []) Q
theorem ok_each_once (T:Txt K mg a):FnOk P w K mg base CX0 3 a.each_once.f a.each_once.d ["places"] (sp_each_once K a):=by
 have sc:FnScope ["places","seen","place"] ["places"] (defScope s_each_once):=⟨rfl,rfl,rfl,by decide +kernel,rfl,by decide +kernel,by decide +kernel⟩
 refine T.each_once.fn.ok sc (fun vs H Q E h=>?_) (fun cdv A outer s H vs Q E hr h=>?_)
 · obtain ⟨_,_,_,rfl,_⟩:=h
   rfl
 · obtain ⟨l,as,ps,rfl,hl,hps,hlen,k⟩:=h
   have hu:=hu_of hr
   refine ⟨_,(pss_cons (ps_set (i:=1) sc.nd rfl (Or.inl rfl) pe_dnewT)
    (pss_cons (ps_for PassesOwn.never rfl (pi_list (pv 0)) (pg_name (i:=2) sc.nd rfl (Or.inl rfl))
     (pss_one (ps_expr (pe_bm PySem.F.plainAttrs_dict PySem.F.slot_dict_setdefault PySem.F.type_dict_setdefault (mt_setdefault hu) (pv 1) (pa_2 (pe_call (ok_order_of T) (hr.mono (by decide)) rfl T.order_of.m T.order_of.fn.kp T.order_of.b .nil pass0 (pa_1 (pv 2))) (pv 2))))))
    (pss_one (ps_ret (pe_callTy (call_list_vals hr.hd) (by rfl) T.b_list PyProof.Rows.boot_list (pa_1 (pe_bm0 PySem.F.plainAttrs_dict PySem.F.slot_dict_values PySem.F.type_dict_values mt_values (pv 1)))))))),?_⟩
   have hz:sizeLine = 16777216:=rfl
   refine fun d hd=>?_
   refine ⟨_,rfl,l,rfl,⟨_,SqL.of ((upd_ne (ne_of_none hl hd)).trans hl)⟩,for_list (xs:=as.map V.ref) (fun i σ Hc=>(∃ u,σ = [some (.ref l),some (.ref d),u])∧(∃ ss,Hc d = some (.dT (kvsOf ss ((ps.take i).foldl Bk.once [])))∧PlsAt a Hc ss ((ps.take i).foldl Bk.once []))∧Same H Hc)
    ⟨⟨_,rfl⟩,⟨[],upd_same,.nil⟩,Same.new hd⟩ (fun i σ Hc _ p=>SqL.of (p.2.2 _ _ hl)) ?_ ?_⟩
   · rintro i x σ Hc hx ⟨⟨u,rfl⟩,⟨ss,g1,g2⟩,g3⟩
     rw [List.getElem?_map] at hx
     obtain ⟨p,hp,rfl⟩:=Option.map_eq_some_iff.mp hx
     obtain ⟨y,hy,hP⟩:=pair_at hps hp
     have fl:=once_len (ps.take i) []
     rw [List.length_take,List.length_nil] at fl
     have efold:(ps.take (i + 1)).foldl Bk.once [] = Bk.once ((ps.take i).foldl Bk.once []) y:=by rw [take_snoc hy,List.foldl_append]; rfl
     rw [efold]
     generalize (ps.take i).foldl Bk.once [] = qs at *
     have qlen:ss.length = qs.length:=Paired.len g2
     refine ⟨_,rfl,?_,_,rfl,p,y,rfl,hP.mono g3,fun t ht=>?_⟩
     · exact .inr (.inr (.inl ⟨rfl,.inr ⟨_,g1⟩⟩))
     have g11:upd Hc t (.tup ((keyI y).map V.int)) d = some (.dT (kvsOf ss qs)):=(upd_ne (ne_of_none g1 ht)).trans g1
     have s4:Same Hc (upd Hc t (.tup ((keyI y).map V.int))):=Same.new ht
     refine ⟨_,rfl,d,t,_,_,keyK y,rfl,rfl,g11,by rw [keyK_map]; exact upd_same,?_,fun v hv=>?_,fun hv=>?_⟩
     · unfold kvsOf
       rw [List.length_map,List.length_zip]
       omega
     · have e:Bk.once qs y = qs:=by
        unfold Bk.once
        rw [if_pos]
        refine Classical.byContradiction fun z=>?_
        have:=(kvs_none qlen y).mpr (Bool.not_eq_true _ ▸ z)
        rw [this] at hv
        cases hv
       rw [e]
       exact ⟨⟨_,rfl⟩,⟨ss,g11,g2.mono s4⟩,Same.trans g3 s4⟩
     · have e:Bk.once qs y = qs ++ [y]:=by
        unfold Bk.once
        rw [(kvs_none qlen y).mp hv]
        rfl
       rw [e]
       refine ⟨⟨_,rfl⟩,⟨ss ++ [p],by rw [upd_same,kvs_snoc qlen],?_⟩,Same.put (Same.trans g3 s4) hd⟩
       exact Paired.mapP (Paired.snoc (hP.mono (Same.trans g3 s4)) (PlsAt.mono s4 g2)) fun _ _ q=>q.updT g11
   · rintro σ Hc ⟨⟨u,rfl⟩,⟨ss,g1,g2⟩,g3⟩
     rw [List.length_map,Paired.len hps,List.take_length] at g1 g2
     refine ⟨_,rfl,?_,d,_,rfl,rfl,g1,fun v hv=>?_⟩
     · exact .inr (.inr (.inl ⟨rfl,.inr ⟨_,g1⟩⟩))
     refine ⟨v,d,_,rfl,upd_same,(upd_ne (ne_of_none g1 hv)).trans g1,fun p hp=>?_⟩
     rw [kvs_snd (Paired.len g2)]
     have s5:Same Hc (upd (upd Hc v (ViewV v d)) p (.lst (ss.map V.ref))):=Same.trans (Same.new hv) (Same.new hp)
     exact k p ss _ (Same.free (Same.trans g3 (Same.new hv)) hp) (Same.trans g3 s5) upd_same (g2.mono s5)
end
end Hp
namespace Hp
open PySem L2
section
variable {P:Program} {w:World} {K:PySem.W.Frag} {mg:Str→Option Value} {base:Heap} {a:Adr}
theorem pe_fldK {X:Cx} {e:Expr} {f:Str} {pos:Pos} {ta:TE} {K:PySem.W.Frag} (hK:X.K = K) (he:PE X e ta) (hb:attributeBase e f X.env (eval e X.env) = eval e X.env):PE X (.Attribute e f pos) (tFld K ta f):=hK ▸ pe_fld he hb
theorem lc_filter {K:PySem.W.Frag} {l D:Addr} {as:List Addr} {ps:List Place} {g:TG} {tt:TT} {te:TE} {vs:List Nat} {σ:St} {H:Hp} {Qd:Hp→Prop} (f:Place→Bool) (hl:H l = some (.lst (as.map V.ref))) (hps:PlsAt a H as ps) (hlen:ps.length≤100000) (hD:H D = none)
  (turn:∀ p y Hc,PlAt a Hc p y→Same H Hc→∀ (Qt:V→Hp→Prop) (Qf:Hp→Prop),(f y = true→∀ H3,Same Hc H3→Qt (.ref p) H3)→(f y = false→∀ H3,Same Hc H3→Qf H3) →
   g (.ref p) (wipe σ vs) Hc fun σ2 H2=>wipe σ2 vs = wipe σ vs∧tt σ2 H2 fun b H3=>if b = true then te σ2 H3 Qt else Qf H3)
  (k:∀ H' bs,Same H H'→H' D = some (.lst (bs.map V.ref))→PlsAt a H' bs (ps.filter f)→Qd H') :
  ∃ W:Nat→Nat→Hp→Prop,(∃ m,W 0 m (upd H D (.lst [])))∧∀ i m H,W i m H →
    ((Itl K l).stop i H∧Qd H)∨((Itl K l).go i H∧∃ Nx:Hp→Prop,(∀ H',Nx H'→∃ m',m' < m∧W (i + 1) m' H')∧∀ x H',(Itl K l).yld i H x H'→g x (wipe σ vs) H' fun σ2 H2=>wipe σ2 vs = wipe σ vs∧tt σ2 H2 fun b H3 =>
      if b = true then te σ2 H3 fun y H4=>∃ acc,H4 D = some (.lst acc)∧acc.length < sizeLine∧Nx (upd H4 D (.lst (acc ++ [y]))) else Nx H3):=by
 have hz:sizeLine = 16777216:=rfl
 refine lc_list (xs:=as.map V.ref) (fun i Hc=>(∃ bs,Hc D = some (.lst (bs.map V.ref))∧PlsAt a Hc bs ((ps.take i).filter f))∧Same H Hc) ⟨⟨[],upd_same,.nil⟩,Same.new hD⟩ (fun i Hc _ p=>SqL.of (p.2 _ _ hl)) ?_ ?_
 · rintro i x Hc hx ⟨⟨bs,g1,g2⟩,g3⟩
   rw [List.getElem?_map] at hx
   obtain ⟨p,hp,rfl⟩:=Option.map_eq_some_iff.mp hx
   obtain ⟨y,hy,hP⟩:=pair_at hps hp
   refine turn p y Hc (hP.mono g3) g3 _ _ (fun hf H3 s3=>?_) (fun hf H3 s3=>?_)
   · have g13:=s3 _ _ g1
     refine ⟨_,g13,?_,⟨bs ++ [p],?_,?_⟩,Same.put (Same.trans g3 s3) hD⟩
     · rw [List.length_map,Paired.len g2]
       have:=List.length_filter_le f (ps.take i)
       rw [List.length_take] at this
       omega
     · rw [upd_same,List.map_append]
       rfl
     · rw [take_snoc hy,List.filter_append,List.filter_cons_of_pos hf,List.filter_nil]
       exact PlsAt.updL (Paired.snoc (hP.mono (Same.trans g3 s3)) (PlsAt.mono s3 g2)) g13
   · refine ⟨⟨bs,s3 _ _ g1,?_⟩,Same.trans g3 s3⟩
     rw [take_snoc hy,List.filter_append,List.filter_cons_of_neg (by simp [hf]),List.filter_nil,List.append_nil]
     exact g2.mono s3
 · rintro Hc ⟨⟨bs,g1,g2⟩,g3⟩
   rw [List.length_map,Paired.len hps,List.take_length] at g2
   exact k Hc bs g3 g1 g2
theorem find_onP (qs:List Place) (i:Nat):(optI (qs.findIdx? (withPage i)) = V.non) = (Bk.onP qs i = false):=by
 rw [optI_non,List.findIdx?_eq_none_iff]
 show _ = (qs.any (withPage i) = false)
 rw [List.any_eq_false]
 exact propext ⟨fun h x hx=>by rw [h x hx]; simp,fun h x hx=>Bool.not_eq_true _ ▸ h x hx⟩
def sp_beside (K:PySem.W.Frag) (a:Adr):Sp:=fun vs H Q _=>∃ (l st:Addr) (as ss:List Addr) (ps qs:List Place),vs = [.ref l,.ref st]∧H l = some (.lst (as.map V.ref))∧PlsAt a H as ps∧ps.length≤100000∧H st = some (.lst (ss.map V.ref))∧PlsAt a H ss qs∧NewPls a H (ps.filter fun p=>!Bk.onP qs p.from_) Q
theorem ok_beside (T:Txt K mg a):FnOk P w K mg base CX0 2 a.beside.f a.beside.d ["places","stretches"] (sp_beside K a):=by
 have sc:FnScope ["places","stretches","place"] ["places","stretches"] (defScope s_beside):=⟨rfl,rfl,rfl,by decide +kernel,rfl,by decide +kernel,by decide +kernel⟩
 refine T.beside.fn.ok sc (fun vs H Q E h=>?_) (fun cdv A outer s H vs Q E hr h=>?_)
 · obtain ⟨_,_,_,_,_,_,rfl,_⟩:=h
   rfl
 · obtain ⟨l,st,as,ss,ps,qs,rfl,hl,hps,hlen,hst,hqs,k⟩:=h
   refine ⟨_,(pss_one (ps_ret (pe_lc rfl sc.nd (pi_list (pv 0)) (blkOk_by (N:=["places","stretches","place"]) (sc:=defScope s_beside) (own:=[("place",2)]) (by decide +kernel)) (fun _ _ _ _ _=>(pg_name (i:=2) sc.nd rfl (Or.inl rfl))) (fun _ _ _ _ _=>pts_one (pt_cmp (pc_isN (pe_call (ok_first_with_page T) (hr.mono (by decide)) rfl T.first_with_page.m T.first_with_page.fn.kp T.first_with_page.b .nil pass0 (pa_2 (pv 1) (pe_fldK (K:=K) rfl (pv 2) rfl)))))) (fun _ _ _ _ _=>(pv 2))))),?_⟩
   refine ⟨_,rfl,l,rfl,⟨_,SqL.of hl⟩,fun D hD=>lc_filter (a:=a) (fun p=>!Bk.onP qs p.from_) hl hps hlen hD ?_ (fun H' bs s h1 h2=>k D bs H' hD s h1 h2)⟩
   intro p y Hc hP s Qt Qf ht hf
   obtain ⟨dp,hp⟩:=id hP
   refine ⟨rfl,_,rfl,_,rfl,_,_,_,_,_,rfl,hp,T.c_Place.cl,T.n_Place_from_index,pf_from y,st,ss,qs,y.from_,rfl,s _ _ hst,hqs.mono s,fun H' s'=>?_⟩
   refine ⟨_,rfl,ite2 (fun h=>?_) (fun h=>?_)⟩
   · have h:=of_decide_eq_true h
     rw [find_onP] at h
     exact ⟨_,rfl,ht (by rw [h]; rfl) _ s'⟩
   · have h:=dne h
     rw [find_onP] at h
     exact hf (by simpa using h) _ s'
end
end Hp
namespace Hp
open PySem L2
section
variable {P:Program} {w:World} {K:PySem.W.Frag} {mg:Str→Option Value} {base:Heap} {a:Adr}
theorem paired_app {α β:Type} {R:α→β→Prop}:∀ {l l':List α} {m m':List β},Paired R l m→Paired R l' m'→Paired R (l ++ l') (m ++ m')
 | _,_,_,_,.nil,h=>h
 | _,_,_,_,.cons r t,h=>.cons r (paired_app t h)
theorem chief_eq {bk:Book} {ps:List Place} (hr:∀ p∈ps,p.right bk = true):(ps.filter fun p=>p.main) = ps.filter fun (p:Place)=>p.kind == 0 && p.main == true:=by
 refine List.filter_congr fun p hp=>?_
 have h:=(Bk.right_facts (hr p hp)).2.2.1
 cases hm:p.main with
 | false=>simp
 | true =>
   have hk:p.kind = 0:=Classical.byContradiction fun z=>by
    have:=(h z).2
    rw [hm] at this
    cases this
   simp [hk]
theorem pages_of {bk:Book} {p:Place} (h:p.right bk = true):p.to_ < bk.pages:=by
 rw [Bk.right_eq,Bool.and_eq_true,Bool.and_eq_true] at h
 exact ((Bk.rightPages_iff _ _ _).mp h.1.1).2.1
def sp_form_of (K:PySem.W.Frag) (a:Adr):Sp:=fun vs H Q _=>∃ (b l:Addr) (bk:Book) (j dr:Bool) (as:List Addr) (ps:List Place),vs = [.ref b,.int (mI j),.int (mI dr),.ref l]∧BookV a H b bk∧H l = some (.lst (as.map V.ref))∧PlsAt a H as ps∧ps.length≤30000∧(∀ p∈ps,p.right bk = true)∧((bk.form j dr ps).length≤100000→NewPls a H (bk.form j dr ps) Q)
theorem ok_form_of (T:Txt K mg a):FnOk P w K mg base CX0 6 a.form_of.f a.form_of.d ["book","joins","drops","places"] (sp_form_of K a):=by
 have sc:FnScope ["book","joins","drops","places","chief","plain","others","place"] ["book","joins","drops","places"] (defScope s_form_of):=⟨rfl,rfl,rfl,by decide +kernel,rfl,by decide +kernel,by decide +kernel⟩
 refine T.form_of.fn.ok sc (fun vs H Q E h=>?_) (fun cdv A outer s H vs Q E hr h=>?_)
 · obtain ⟨_,_,_,_,_,_,_,rfl,_⟩:=h
   rfl
 · obtain ⟨b,l,bk,j,dr,as,ps,rfl,hB,hl,hps,hl3,hr1,k⟩:=h
   refine ⟨_,(pss_cons (ps_set (i:=4) sc.nd rfl (Or.inl rfl) (pe_call (ok_joined T) (hr.mono (by decide)) rfl T.joined.m T.joined.fn.kp T.joined.b .nil pass0 (pa_3 (pv 0) (pv 1) (pe_lc rfl sc.nd (pi_list (pv 3)) (blkOk_by (N:=["book","joins","drops","places","chief","plain","others","place"]) (sc:=defScope s_form_of) (own:=[("place",7)]) (by decide +kernel)) (fun _ _ _ _ _=>(pg_name (i:=7) sc.nd rfl (Or.inl rfl))) (fun _ _ _ _ _=>pts_one (pt_cmpR op_eq (pe_fldK (K:=K) rfl (pv 7) rfl) pe_int (nomark _))) (fun _ _ _ _ _=>(pv 7))))))
    (pss_cons (ps_set (i:=5) sc.nd rfl (Or.inl rfl) (pe_call (ok_joined T) (hr.mono (by decide)) rfl T.joined.m T.joined.fn.kp T.joined.b .nil pass0 (pa_3 (pv 0) (pv 1) (pe_lc rfl sc.nd (pi_list (pv 3)) (blkOk_by (N:=["book","joins","drops","places","chief","plain","others","place"]) (sc:=defScope s_form_of) (own:=[("place",7)]) (by decide +kernel)) (fun _ _ _ _ _=>(pg_name (i:=7) sc.nd rfl (Or.inl rfl))) (fun _ _ _ _ _=>pts_one (PW.pt (pw_and (pt_cmpR op_eq (pe_fldK (K:=K) rfl (pv 7) rfl) (pe_gv T.g_PLAIN) (nomark _)) (pw_and1 (pt_cmpR op_eq (pe_fldK (K:=K) rfl (pv 7) rfl) pe_int (nomark _)))))) (fun _ _ _ _ _=>(pv 7))))))
    (pss_cons (ps_set (i:=6) sc.nd rfl (Or.inl rfl) (pe_call (ok_each_once T) (hr.mono (by decide)) rfl T.each_once.m T.each_once.fn.kp T.each_once.b .nil pass0 (pa_1 (pe_lc rfl sc.nd (pi_list (pv 3)) (blkOk_by (N:=["book","joins","drops","places","chief","plain","others","place"]) (sc:=defScope s_form_of) (own:=[("place",7)]) (by decide +kernel)) (fun _ _ _ _ _=>(pg_name (i:=7) sc.nd rfl (Or.inl rfl))) (fun _ _ _ _ _=>pts_one (pt_cmpR op_ne (pe_fldK (K:=K) rfl (pv 7) rfl) (pe_gv T.g_PLAIN) (nomark _))) (fun _ _ _ _ _=>(pv 7))))))
    (pss_cons (ps_if (pt_cmpR op_eq (pv 2) pe_int (nomark _))
     (pss_one (ps_set (i:=6) sc.nd rfl (Or.inl rfl) (pe_call (ok_beside T) (hr.mono (by decide)) rfl T.beside.m T.beside.fn.kp T.beside.b .nil pass0 (pa_2 (pv 6) (pe_op op_cat (pv 4) (pv 5))))))
     pss_nil)
    (pss_one (ps_ret (pe_sortK (ok_order_of T) (hr.mono (by decide)) T.order_of.b (pe_op op_cat (pe_op op_cat (pv 4) (pv 5)) (pv 6)) rfl T.b_sorted rfl T.order_of.m))))))),?_⟩
   have hz:sizeLine = 16777216:=rfl
   have hlen:ps.length≤100000:=by omega
   have flen3:∀ f:Place→Bool,(ps.filter f).length≤30000:=fun f=>Nat.le_trans (List.length_filter_le f ps) hl3
   have flen:∀ f:Place→Bool,(ps.filter f).length≤100000:=fun f=>Nat.le_trans (List.length_filter_le f ps) hlen
   have fpg:∀ f:Place→Bool,∀ p∈ps.filter f,p.to_ < bk.pages:=fun f p hp=>pages_of (hr1 p (List.mem_filter.mp hp).1)
   refine ⟨_,rfl,_,rfl,_,rfl,l,rfl,⟨_,SqL.of hl⟩,fun D1 hD1=>lc_filter (a:=a) (fun p=>p.main) hl hps hlen hD1 ?_ ?_⟩
   · intro p y Hc hP s Qt Qf ht hf
     obtain ⟨dp,hp⟩:=id hP
     refine ⟨rfl,_,rfl,_,_,_,_,_,rfl,hp,T.c_Place.cl,T.n_Place_main,pf_main y,rfl,_,rfl,ite2 (fun h=>?_) (fun h=>?_)⟩
     · have h:=of_decide_eq_true h
       rw [mI_one] at h
       exact ⟨_,rfl,ht h _ (Same.refl _)⟩
     · have h:=dne h
       rw [mI_one] at h
       exact hf (by simpa using h) _ (Same.refl _)
   intro H1 bs1 s1 e1 p1
   refine ⟨b,D1,bk,j,bs1,_,rfl,hB.mono s1,e1,p1,flen _,fpg _,fun o1 q1 t1 c1 cs1 H2 n2 s2 e2 p2=>?_⟩
   have l1:=pushP_len bk j o1 []
   rw [q1.length_eq,List.length_nil,Nat.zero_add] at l1
   have l1:=Nat.le_trans l1 (flen3 _)
   rw [chief_eq hr1] at q1
   have hC:=Bk.joinedPy (joins:=j) hr1 q1 t1
   rw [hC] at p2 l1
   have s12:=Same.trans s1 s2
   have hl2:=s12 _ _ hl
   refine ⟨_,rfl,_,rfl,_,rfl,l,rfl,⟨_,SqL.of hl2⟩,fun D2 hD2=>lc_filter (a:=a) (fun p=>p.kind == 0 && p.main == false) hl2 (hps.mono s12) hlen hD2 ?_ ?_⟩
   · intro p y Hc hP s Qt Qf ht hf
     obtain ⟨dp,hp⟩:=id hP
     refine ⟨rfl,_,rfl,_,_,_,_,_,rfl,hp,T.c_Place.cl,T.n_Place_kind,pf_kind y,rfl,_,rfl,ite2 (fun h=>?_) (fun h=>?_)⟩
     · have h:=of_decide_eq_true h
       rw [nat_0] at h
       refine ⟨_,rfl,_,_,_,_,_,rfl,hp,T.c_Place.cl,T.n_Place_main,pf_main y,rfl,_,rfl,ite2 (fun g=>?_) (fun g=>?_)⟩
       · have g:=of_decide_eq_true g
         rw [mI_eq] at g
         exact ⟨_,rfl,ht (by simp [h,g]) _ (Same.refl _)⟩
       · have g:=dne g
         rw [mI_eq] at g
         exact hf (by simp [g]) _ (Same.refl _)
     · have h:=dne h
       rw [nat_0] at h
       exact iteF (hf (by simp [h]) _ (Same.refl _))
   intro H3 bs2 s3 e3 p3
   have s13:=Same.trans s12 s3
   refine ⟨b,D2,bk,j,bs2,_,rfl,hB.mono s13,e3,p3,flen _,fpg _,fun o2 q2 t2 c2 cs2 H4 n4 s4 e4 p4=>?_⟩
   have l2:=pushP_len bk j o2 []
   rw [q2.length_eq,List.length_nil,Nat.zero_add] at l2
   have l2:=Nat.le_trans l2 (flen3 _)
   have hD:=Bk.joinedPy (joins:=j) hr1 q2 t2
   rw [hD] at p4 l2
   have s14:=Same.trans s13 s4
   have s24:=Same.trans s3 s4
   have hl4:=s14 _ _ hl
   refine ⟨_,rfl,l,rfl,⟨_,SqL.of hl4⟩,fun D3 hD3=>lc_filter (a:=a) (fun p=>p.kind != 0) hl4 (hps.mono s14) hlen hD3 ?_ ?_⟩
   · intro p y Hc hP s Qt Qf ht hf
     obtain ⟨dp,hp⟩:=id hP
     refine ⟨rfl,_,rfl,_,_,_,_,_,rfl,hp,T.c_Place.cl,T.n_Place_kind,pf_kind y,rfl,_,rfl,ite2 (fun h=>?_) (fun h=>?_)⟩
     · have h:¬ (V.int (y.kind:Int) = V.int 0):=fun z=>by rw [decide_eq_true z] at h; cases h
       rw [nat_0] at h
       exact ⟨_,rfl,ht (by simpa using h) _ (Same.refl _)⟩
     · have h:V.int (y.kind:Int) = V.int 0:=Classical.byContradiction fun z=>h (by rw [decide_eq_false z]; rfl)
       rw [nat_0] at h
       exact hf (by simp [h]) _ (Same.refl _)
   intro H5 bs3 s5 e5 p5
   refine ⟨D3,bs3,_,rfl,e5,p5,flen _,fun c3 cs3 H6 n6 s6 e6 p6=>?_⟩
   have l3:=once_len (ps.filter fun p=>p.kind != 0) []
   rw [List.length_nil,Nat.zero_add] at l3
   have l3:=Nat.le_trans l3 (flen3 _)
   have s46:=Same.trans s5 s6
   have s26:=Same.trans s24 s46
   have s16:=Same.trans s14 s46
   have e2':=s26 _ _ e2
   have e4':=s46 _ _ e4
   have p2':=p2.mono s26
   have p4':=p4.mono s46
   have lc1:=Paired.len p2
   have lc2:=Paired.len p4
   have lc3:=Paired.len p6
   refine ⟨_,rfl,rfl,_,rfl,ite2 (fun h=>?_) (fun h=>?_)⟩
   · have h:=of_decide_eq_true h
     rw [mI_one] at h
     subst h
     refine ⟨_,rfl,_,rfl,_,rfl,c1,c2,_,_,rfl,rfl,e2',e4',(by rw [List.length_map,List.length_map]; omega),fun u hu2=>?_⟩
     have s7:Same H6 (upd H6 u (.lst (cs1.map V.ref ++ cs2.map V.ref))):=Same.new hu2
     refine ⟨c3,u,cs3,cs1 ++ cs2,_,Bk.plainOf bk j ps true ++ Bk.plainOf bk j ps false,rfl,s7 _ _ e6,p6.mono s7,(by omega),(by rw [upd_same,List.map_append]),paired_app (p2'.mono s7) (p4'.mono s7),fun c4 cs4 H8 n8 s8 e8 p8=>?_⟩
     have s68:=Same.trans s7 s8
     have lc4:cs4.length≤30000:=by
      rw [Paired.len p8]
      exact Nat.le_trans (List.length_filter_le _ _) l3
     refine ⟨_,rfl,_,rfl,c1,c2,_,_,rfl,rfl,(s68 _ _ e2'),(s68 _ _ e4'),(by rw [List.length_map,List.length_map]; omega),fun x hx=>⟨_,rfl,x,c4,_,_,rfl,rfl,upd_same,(upd_ne (ne_of_none e8 hx)).trans e8,(by rw [List.length_append,List.length_map,List.length_map,List.length_map]; omega),fun y hy=>?_⟩⟩
     have sx:Same H8 (upd (upd H8 x (.lst (cs1.map V.ref ++ cs2.map V.ref))) y (.lst (cs1.map V.ref ++ cs2.map V.ref ++ cs4.map V.ref))):=Same.trans (Same.new hx) (Same.new hy)
     have pa:PlsAt a _ (cs1 ++ cs2 ++ cs4) _:=paired_app (paired_app ((p2'.mono s68).mono sx) ((p4'.mono s68).mono sx)) (p8.mono sx)
     have em:cs1.map V.ref ++ cs2.map V.ref ++ cs4.map V.ref = (cs1 ++ cs2 ++ cs4).map V.ref:=by rw [List.map_append,List.map_append]
     refine ⟨y,(cs1 ++ cs2 ++ cs4).map V.ref,(Bk.plainOf bk j ps true ++ Bk.plainOf bk j ps false ++ ((ps.filter fun p=>p.kind != 0).foldl Bk.once []).filter (fun p=>!Bk.onP (Bk.plainOf bk j ps true ++ Bk.plainOf bk j ps false) p.from_)).map keyI,rfl,SqL.of (by rw [upd_same,em]),(by rw [List.length_map,List.length_map,Paired.len pa]),(fun k hk=>by obtain ⟨p,_,rfl⟩:=List.mem_map.mp hk; exact fun z=>nomatch z),turns_order pa,fun zs D H9 hperm hsort s9 hDn=>?_⟩
     obtain ⟨as',o,g1,g2,g3,g4⟩:=sorted_places pa hperm hsort
     rw [g1]
     have ho:=Bk.formPy (joins:=j) (drops:=true) hr1 rfl rfl rfl g3 g4
     rw [← ho] at k
     have sA:Same H H9:=Same.trans (Same.trans (Same.trans s16 s68) sx) s9
     have ol:=g3.length_eq
     rw [← Paired.len pa,List.length_append,List.length_append] at ol
     exact k (by omega) D as' _ (Same.free sA hDn) (Same.trans sA (Same.new hDn)) upd_same (g2.mono (Same.trans s9 (Same.new hDn)))
   · have h:=dne h
     rw [mI_one] at h
     have h:dr = false:=by simpa using h
     subst h
     refine ⟨_,rfl,_,rfl,c1,c2,_,_,rfl,rfl,e2',e4',(by rw [List.length_map,List.length_map]; omega),fun x hx=>⟨_,rfl,x,c3,_,_,rfl,rfl,upd_same,(upd_ne (ne_of_none e6 hx)).trans e6,(by rw [List.length_append,List.length_map,List.length_map,List.length_map]; omega),fun y hy=>?_⟩⟩
     have sx:Same H6 (upd (upd H6 x (.lst (cs1.map V.ref ++ cs2.map V.ref))) y (.lst (cs1.map V.ref ++ cs2.map V.ref ++ cs3.map V.ref))):=Same.trans (Same.new hx) (Same.new hy)
     have pa:PlsAt a _ (cs1 ++ cs2 ++ cs3) _:=paired_app (paired_app (p2'.mono sx) (p4'.mono sx)) (p6.mono sx)
     have em:cs1.map V.ref ++ cs2.map V.ref ++ cs3.map V.ref = (cs1 ++ cs2 ++ cs3).map V.ref:=by rw [List.map_append,List.map_append]
     refine ⟨y,(cs1 ++ cs2 ++ cs3).map V.ref,(Bk.plainOf bk j ps true ++ Bk.plainOf bk j ps false ++ ((ps.filter fun p=>p.kind != 0).foldl Bk.once [])).map keyI,rfl,SqL.of (by rw [upd_same,em]),(by rw [List.length_map,List.length_map,Paired.len pa]),(fun k hk=>by obtain ⟨p,_,rfl⟩:=List.mem_map.mp hk; exact fun z=>nomatch z),turns_order pa,fun zs D H9 hperm hsort s9 hDn=>?_⟩
     obtain ⟨as',o,g1,g2,g3,g4⟩:=sorted_places pa hperm hsort
     rw [g1]
     have ho:=Bk.formPy (joins:=j) (drops:=false) hr1 rfl rfl rfl g3 g4
     rw [← ho] at k
     have sA:Same H H9:=Same.trans (Same.trans s16 sx) s9
     have ol:=g3.length_eq
     rw [← Paired.len pa,List.length_append,List.length_append] at ol
     exact k (by omega) D as' _ (Same.free sA hDn) (Same.trans sA (Same.new hDn)) upd_same (g2.mono (Same.trans s9 (Same.new hDn)))
end
end Hp
namespace Hp
open PySem L2
section
variable {P:Program} {w:World} {K:PySem.W.Frag} {mg:Str→Option Value} {base:Heap} {a:Adr}
def knownL:Bytes:=46 :: ((List.range 10).map (48 + ·) ++ (List.range 26).map (65 + ·) ++ (List.range 26).map (97 + ·)) ++ [45,91,93,33,44,32]
theorem known_str:(".0123456789ABCDEFGHIJKLMNOPQRSTUVWXYZabcdefghijklmnopqrstuvwxyz":Str) ++ ("-[]!, ":Str) = S knownL:=by
 refine ext_S ?_
 rw [Str.cps_append,Array.toList_append]
 rfl
theorem known_nodup:knownL.Nodup:=by decide +kernel
theorem known_mem:∀ c,c < 256→(decide (c∈knownL)) = Bk.known c:=by decide +kernel
def signPairs (l:Bytes):List (Key × V):=l.map fun (c:Nat)=>((Sum.inl (c:Int):Key),V.str (S [c]))
def signK:List (Key × V):=signPairs knownL
theorem sign_at (l:Bytes) (c:Nat):valV (signPairs l) (Sum.inl (c:Int)) = if c∈l then some (V.str (S [c])) else none:=by
 unfold signPairs
 rw [valV_map (fun c:Nat=>(Sum.inl (c:Int):Key)) (fun c=>V.str (S [c]))]
 have e:(fun x:Nat=>decide ((Sum.inl (x:Int):Key) = Sum.inl (c:Int))) = fun x=>decide (x = c):=by
  funext x
  have:((Sum.inl (x:Int):Key) = Sum.inl (c:Int)) = (x = c):=propext ⟨fun h=>by have:=Sum.inl.inj h; omega,fun h=>by rw [h]⟩
  simp only [this]
 rw [e]
 by_cases h:c∈l
 · rw [if_pos h]
   cases hf:l.find? (fun x=>decide (x = c)) with
   | none=>exact absurd (decide_eq_true rfl) (List.find?_eq_none.mp hf c h)
   | some x =>
     have:x = c:=of_decide_eq_true (List.find?_some (p:=fun x=>decide (x = c)) hf)
     rw [this]
     rfl
 · rw [if_neg h,Option.map_eq_none_iff,List.find?_eq_none]
   intro x hx z
   exact h ((of_decide_eq_true z) ▸ hx)
theorem seen_at {c:Nat} (h:c≤255):(valV signK (Sum.inl (c:Int))).getD (V.str (S [63])) = V.str (S [Bk.seen1 c]):=by
 unfold signK
 rw [sign_at]
 have hk:=known_mem c (by omega)
 unfold Bk.seen1
 by_cases hm:c∈knownL
 · rw [if_pos hm,← hk,decide_eq_true hm,if_pos rfl]
   rfl
 · rw [if_neg hm,← hk,decide_eq_false hm,if_neg Bool.false_ne_true]
   rfl
def sp_signs_by_byte:Sp:=fun vs H Q _=>vs = []∧∀ d H',H d = none→Same H H'→H' d = some (.dK signK)→Q (.ref d) H'
theorem ok_signs_by_byte (T:Txt K mg a):FnOk P w K mg base CX0 1 a.signs_by_byte.f a.signs_by_byte.d [] (sp_signs_by_byte):=by
 have sc:FnScope ["table","sign"] [] (defScope s_signs_by_byte):=⟨rfl,rfl,rfl,by decide +kernel,rfl,by decide +kernel,by decide +kernel⟩
 refine T.signs_by_byte.fn.ok sc (fun vs H Q E h=>?_) (fun cdv A outer s H vs Q E hr h=>?_)
 · obtain ⟨rfl,_⟩:=h
   rfl
 · obtain ⟨rfl,k⟩:=h
   have hu:=hu_of hr
   refine ⟨_,(pss_cons (ps_set (i:=0) sc.nd rfl (Or.inl rfl) pe_dnewK)
    (pss_cons (ps_for PassesOwn.never rfl (pi_str (pe_op op_add_str (pe_gv T.g_SIGNS_OF_NAMES) (pe_gv T.g_SIGNS_BESIDE_NAMES))) (pg_name (i:=1) sc.nd rfl (Or.inl rfl))
     (pss_one (ps_dput hu (pv 0) (pe_callB call_ord (by rfl) T.b_ord PyProof.Rows.boot_ord (pa_1 (pv 1))) (pv 1) rfl)))
    (pss_one (ps_ret (pv 0))))),?_⟩
   have hz:sizeLine = 16777216:=rfl
   refine fun d hd=>?_
   refine ⟨_,_,rfl,rfl,(by decide),?_⟩
   rw [known_str]
   have kl:knownL.length = 69:=by decide
   refine ⟨_,rfl,for_it (n:=knownL.length) (fun i σ Hc=>(∃ u,σ = [some (.ref d),u])∧Hc d = some (.dK (signPairs (knownL.take i)))∧Same H Hc) ⟨⟨_,rfl⟩,upd_same,Same.new hd⟩ (fun i σ Hc hi _=>by show i < (S knownL).cps.size; simpa [S] using hi) (fun σ Hc _=>by show (S knownL).cps.size≤_; simp [S]) ?_ ?_⟩
   · rintro i x σ Hc H' hi ⟨⟨u,rfl⟩,g1,g2⟩ ⟨rfl,c,hc,rfl⟩
     have hc:knownL[i]? = some c:=by simpa [S] using hc
     have hnew:valV (signPairs (knownL.take i)) (Sum.inl (c:Int)) = none:=by
      rw [sign_at,if_neg]
      intro hm
      obtain ⟨j,hj,e⟩:=List.mem_take_iff_getElem.mp hm
      have e2:knownL[j]? = some c:=by rw [List.getElem?_eq_getElem (by omega),e]
      have:=nd_ix known_nodup e2 hc
      omega
     refine ⟨_,rfl,_,rfl,_,rfl,_,rfl,rfl,d,_,rfl,DPut.k (k:=Sum.inl (c:Int)) g1 ?_,⟨_,rfl⟩,?_,Same.put g2 hd⟩
     · unfold signPairs
       rw [List.length_map,List.length_take]
       omega
     · rw [upd_same,putK_new _ hnew,take_snoc hc]
       unfold signPairs
       rw [List.map_append]
       rfl
   · rintro σ Hc ⟨⟨u,rfl⟩,g1,g2⟩
     rw [List.take_length] at g1
     exact ⟨_,rfl,k d Hc hd g2 g1⟩
theorem inter_nil:∀ l:Bytes,([]:Bytes).intercalate (l.map fun c=>[c]) = l
 | []=>rfl
 | [c]=>by simp [List.intercalate]
 | c :: d :: l=>by
   have ih:=inter_nil (d :: l)
   rw [← joinL_eq] at ih ⊢
   rw [List.map_cons,List.map_cons] at *
   unfold TL.joinL
   rw [ih]
   rfl
def intsV (s:List Nat):List V:=s.map fun (c:Nat)=>V.int (c:Int)
def sp_text_of (K:PySem.W.Frag):Sp:=fun vs H Q _=>∃ (t l:Addr) (s:Bytes),vs = [.ref t,.ref l]∧H t = some (.dK signK)∧H l = some (.lst (intsV s))∧s.length≤100000∧(∀ c∈s,c≤255)∧∀ H',Same H H'→Q (.str (S (Bk.seen s))) H'
theorem ok_text_of (T:Txt K mg a):FnOk P w K mg base CX0 1 a.text_of.f a.text_of.d ["table","told"] (sp_text_of K):=by
 have sc:FnScope ["table","told","byte"] ["table","told"] (defScope s_text_of):=⟨rfl,rfl,rfl,by decide +kernel,rfl,by decide +kernel,by decide +kernel⟩
 refine T.text_of.fn.ok sc (fun vs H Q E h=>?_) (fun cdv A outer s H vs Q E hr h=>?_)
 · obtain ⟨_,_,_,rfl,_⟩:=h
   rfl
 · obtain ⟨t,l,s,rfl,ht,hl,hlen,hb,k⟩:=h
   have hu:=hu_of hr
   refine ⟨_,(pss_one (ps_ret (pe_join pe_str (pe_lc rfl sc.nd (pi_list (pv 1)) (blkOk_by (N:=["table","told","byte"]) (sc:=defScope s_text_of) (own:=[("byte",2)]) (by decide +kernel)) (fun _ _ _ _ _=>(pg_name (i:=2) sc.nd rfl (Or.inl rfl))) (fun _ _ _ _ _=>pts_nil) (fun _ _ _ _ _=>(pe_dget2 hu (pv 0) (pv 2) (pe_gv T.g_FOREIGN_SIGN) ⟨rfl,rfl,rfl,rfl⟩)))))),?_⟩
   have hz:sizeLine = 16777216:=rfl
   refine ⟨⟨_,rfl⟩,_,rfl,l,rfl,⟨_,SqL.of hl⟩,fun D hD=>lc_list (xs:=intsV s) (fun i H'=>H' D = some (.lst (((Bk.seen (s.take i)).map fun c=>S [c]).map V.str))∧Same H H') ⟨upd_same,Same.new hD⟩ (fun i H' _ p=>SqL.of (p.2 _ _ hl)) ?_ ?_⟩
   · rintro i x Hc hx ⟨h1,h2⟩
     unfold intsV at hx
     rw [List.getElem?_map] at hx
     obtain ⟨c,hc,rfl⟩:=Option.map_eq_some_iff.mp hx
     refine ⟨rfl,_,rfl,t,rfl,.inl ⟨_,.inl (h2 _ _ ht)⟩,_,rfl,_,DGet.k (k:=Sum.inl (c:Int)) (h2 _ _ ht),_,h1,?_,?_,Same.put h2 hD⟩
     · unfold Bk.seen
       rw [List.length_map,List.length_map,List.length_map,List.length_take]
       omega
     · rw [upd_same,take_snoc hc,show ("?":Str) = S [63] from rfl,seen_at (hb c (List.mem_of_getElem? hc))]
       unfold Bk.seen
       rw [List.map_append,List.map_append,List.map_append]
       rfl
   · rintro Hc ⟨h1,h2⟩
     have e0:(intsV s).length = s.length:=by unfold intsV; rw [List.length_map]
     rw [e0,List.take_length] at h1
     have el:(Bk.seen s).length = s.length:=Bk.seen_length s
     refine ⟨_,D,(Bk.seen s).map fun c=>S [c],rfl,rfl,.inl (SqL.of h1),?_,?_⟩
     · have hsum:∀ r:Bytes,((r.map fun c=>S [c]).map (·.length)).sum = r.length:=by
        intro r
        induction r with
        | nil=>rfl
        | cons c r ih =>
          simp only [List.map_cons,List.sum_cons,List.length_cons,ih,S_len,List.length_nil]
          omega
       rw [hsum,List.length_map,el]
       have e2:("":Str).length = 0:=rfl
       rw [e2]
       omega
     · have e:((Bk.seen s).map fun c=>S [c]) = ((Bk.seen s).map fun c=>[c]).map S:=by rw [List.map_map]; rfl
       rw [show ("":Str) = S [] from rfl,e,join_S,inter_nil]
       exact k _ h2
def NewInts (H:Hp) (s:List V) (Q:VK):Prop:=∀ d H',H d = none→Same H H'→H' d = some (.lst s)→Q (.ref d) H'
def sp_bytes_of:Sp:=fun vs H Q _=>∃ (s:Bytes),vs = [.str (S s)]∧s.length≤100000∧NewInts H (intsV s) Q
theorem ok_bytes_of (T:Txt K mg a):FnOk P w K mg base CX0 1 a.bytes_of.f a.bytes_of.d ["text"] (sp_bytes_of):=by
 have sc:FnScope ["text","sign"] ["text"] (defScope s_bytes_of):=⟨rfl,rfl,rfl,by decide +kernel,rfl,by decide +kernel,by decide +kernel⟩
 refine T.bytes_of.fn.ok sc (fun vs H Q E h=>?_) (fun cdv A outer s H vs Q E hr h=>?_)
 · obtain ⟨_,rfl,_⟩:=h
   rfl
 · obtain ⟨s,rfl,hlen,k⟩:=h
   refine ⟨_,(pss_one (ps_ret (pe_lc rfl sc.nd (pi_str (pv 0)) (blkOk_by (N:=["text","sign"]) (sc:=defScope s_bytes_of) (own:=[("sign",1)]) (by decide +kernel)) (fun _ _ _ _ _=>(pg_name (i:=1) sc.nd rfl (Or.inl rfl))) (fun _ _ _ _ _=>pts_nil) (fun _ _ _ _ _=>(pe_callB call_ord (by rfl) T.b_ord PyProof.Rows.boot_ord (pa_1 (pv 1))))))),?_⟩
   have hz:sizeLine = 16777216:=rfl
   refine ⟨_,rfl,_,rfl,fun D hD=>lc_it (n:=s.length) (fun i H'=>H' D = some (.lst (intsV (s.take i)))∧Same H H') ⟨upd_same,Same.new hD⟩ (fun i Hc hi _=>by show i < (S s).cps.size; simpa [S] using hi) (fun Hc _=>by show (S s).cps.size≤_; simp [S]) ?_ ?_⟩
   · rintro i x Hc H' hi ⟨h1,h2⟩ ⟨rfl,c,hc,rfl⟩
     have hc:s[i]? = some c:=by simpa [S] using hc
     refine ⟨rfl,_,rfl,_,rfl,rfl,_,h1,?_,?_,Same.put h2 hD⟩
     · unfold intsV
       rw [List.length_map,List.length_take]
       omega
     · rw [upd_same,take_snoc hc]
       unfold intsV
       rw [List.map_append]
       rfl
   · rintro Hc ⟨h1,h2⟩
     rw [List.take_length] at h1
     exact k D Hc hD h2 h1
def sp_refused:Sp:=fun vs H Q _=>∃ (n:Nat),vs = [.int (n:Int)]∧∀ d,H d = none→Q (.ref d) (upd H d (.lst [.int (-(n:Int))]))
theorem ok_refused (T:Txt K mg a):FnOk P w K mg base CX0 1 a.refused.f a.refused.d ["number"] (sp_refused):=by
 have sc:FnScope ["number"] ["number"] (defScope s_refused):=⟨rfl,rfl,rfl,by decide +kernel,rfl,by decide +kernel,by decide +kernel⟩
 refine T.refused.fn.ok sc (fun vs H Q E h=>?_) (fun cdv A outer s H vs Q E hr h=>?_)
 · obtain ⟨_,rfl,_⟩:=h
   rfl
 · obtain ⟨n,rfl,k⟩:=h
   refine ⟨_,(pss_one (ps_ret (pe_lst (pa_1 (pe_un un_neg (pv 0)))))),?_⟩
   exact ⟨_,rfl,_,rfl,(show 1≤sizeLine by decide),k⟩
def sp_answered:Sp:=fun vs H Q _=>∃ (l:Addr) (xs:List V),vs = [.ref l]∧H l = some (.lst xs)∧xs.length≤1000000∧NewInts H (.int 0 :: xs) Q
theorem ok_answered (T:Txt K mg a):FnOk P w K mg base CX0 1 a.answered.f a.answered.d ["numbers"] (sp_answered):=by
 have sc:FnScope ["numbers"] ["numbers"] (defScope s_answered):=⟨rfl,rfl,rfl,by decide +kernel,rfl,by decide +kernel,by decide +kernel⟩
 refine T.answered.fn.ok sc (fun vs H Q E h=>?_) (fun cdv A outer s H vs Q E hr h=>?_)
 · obtain ⟨_,_,rfl,_⟩:=h
   rfl
 · obtain ⟨l,xs,rfl,hl,hlen,k⟩:=h
   refine ⟨_,(pss_one (ps_ret (pe_op op_cat (pe_lst (pa_1 pe_int)) (pv 0)))),?_⟩
   have hz:sizeLine = 16777216:=rfl
   refine ⟨(show 1≤sizeLine by decide),fun p hp=>?_⟩
   refine ⟨_,rfl,p,l,_,_,rfl,rfl,upd_same,(upd_ne (ne_of_none hl hp)).trans hl,(by show 1 + _≤_; omega),fun d hd=>?_⟩
   exact k d _ (Same.free (Same.new hp) hd) (Same.trans (Same.new hp) (Same.new hd)) upd_same
end
end Hp
namespace Hp
open PySem L2
section
variable {P:Program} {w:World} {K:PySem.W.Frag} {mg:Str→Option Value} {base:Heap} {a:Adr}
def prefOk (s:Bytes):Bool:=decide (s.length≤4) && s.all Bk.preSign
def sp_is_prefix:Sp:=fun vs H Q _=>∃ (s:Bytes),vs = [.str (S s)]∧Asc s∧s.length≤100000∧Q (.bl (prefOk s)) H
theorem ok_is_prefix (T:Txt K mg a):FnOk P w K mg base CX0 1 a.is_prefix.f a.is_prefix.d ["text"] (sp_is_prefix):=by
 have sc:FnScope ["text","sign"] ["text"] (defScope s_is_prefix):=⟨rfl,rfl,rfl,by decide +kernel,rfl,by decide +kernel,by decide +kernel⟩
 refine T.is_prefix.fn.ok sc (fun vs H Q E h=>?_) (fun cdv A outer s H vs Q E hr h=>?_)
 · obtain ⟨_,rfl,_⟩:=h
   rfl
 · obtain ⟨s,rfl,hA,hlen,q⟩:=h
   refine ⟨_,(pss_cons (ps_if (pt_cmpR op_gt (pe_callB call_len_str (by rfl) T.b_len PySem.boot_len (pa_1 (pv 0))) (pe_gv T.g_MOST_PREFIX) (nomark _))
     (pss_one (ps_ret pe_bl))
     pss_nil)
    (pss_cons (ps_for PassesOwn.never rfl (pi_str (pv 0)) (pg_name (i:=1) sc.nd rfl (Or.inl rfl))
     (pss_one (ps_if (PW.pt (pw_and (pt_not (pt_val (pe_isalpha (pv 1)))) (pw_and1 (pt_cmpR op_ne (pv 1) pe_str (nomark _)))))
      (pss_one (ps_ret pe_bl))
      pss_nil)))
    (pss_one (ps_ret pe_bl)))),?_⟩
   unfold prefOk at q
   refine ⟨_,rfl,_,rfl,szL hlen,_,_,rfl,rfl,_,rfl,ite2 (fun h=>?_) (fun h=>?_)⟩
   · have h:=of_decide_eq_true h
     rw [S_len] at h
     rw [decide_eq_false (show ¬ s.length≤4 by omega),Bool.false_and] at q
     exact q
   · have h:=dne h
     rw [S_len] at h
     rw [decide_eq_true (show s.length≤4 by omega),Bool.true_and] at q
     refine ⟨_,rfl,_,rfl,for_it (n:=s.length) (fun i σ Hc=>(∃ u,σ = [some (.str (S s)),u])∧Hc = H∧(s.take i).all Bk.preSign = true) ⟨⟨_,rfl⟩,rfl,rfl⟩ (fun i σ Hc hi _=>by show i < (S s).cps.size; simpa [S] using hi) (fun σ Hc _=>by show (S s).cps.size≤_; simp [S]) ?_ ?_⟩
     · rintro i x σ Hc H' hi ⟨⟨u,rfl⟩,rfl,g1⟩ ⟨rfl,c,hc,rfl⟩
       have hc:s[i]? = some c:=by simpa [S] using hc
       have hcA:c < 128:=hA c (List.mem_of_getElem? hc)
       have next:Bk.preSign c = true→(s.take (i + 1)).all Bk.preSign = true:=fun e=>by
        rw [take_snoc hc,List.all_append,g1]
        simp [e]
       have stop:Bk.preSign c = false→Q (.bl false) H':=fun e=>by
        have e2:s.all Bk.preSign = false:=List.all_eq_false.mpr ⟨c,List.mem_of_getElem? hc,by simp [e]⟩
        rw [e2] at q
        exact q
       refine ⟨_,rfl,⟨_,rfl⟩,_,rfl,rfl,trivial,_,rfl,ite2 (fun h=>?_) (fun h=>?_)⟩
       · rw [str_lit1,isalpha_S hcA] at h
         have h:IhPlace.isLetter c = false:=by simpa using h
         refine ⟨_,rfl,rfl,_,rfl,ite2 (fun g=>?_) (fun g=>?_)⟩
         · have g:¬ (V.str ⟨#[c]⟩ = V.str (S [46])):=fun z=>by
            have z:V.str ⟨#[c]⟩ = V.str ".":=z
            rw [decide_eq_true z] at g
            cases g
           rw [one_eq] at g
           exact stop (by unfold Bk.preSign; rw [h]; simpa using g)
         · have g:V.str ⟨#[c]⟩ = V.str (S [46]):=Classical.byContradiction fun z=>g (by
            have z:¬ V.str ⟨#[c]⟩ = V.str ".":=z
            rw [decide_eq_false z]; rfl)
           rw [one_eq] at g
           exact ⟨⟨_,rfl⟩,rfl,next (by unfold Bk.preSign; rw [g]; simp)⟩
       · rw [str_lit1,isalpha_S hcA] at h
         have h:IhPlace.isLetter c = true:=by simpa using h
         exact iteF ⟨⟨_,rfl⟩,rfl,next (by unfold Bk.preSign; rw [h]; rfl)⟩
     · rintro σ Hc ⟨⟨u,rfl⟩,rfl,g1⟩
       rw [List.take_length] at g1
       rw [g1] at q
       exact q
def sp_is_run:Sp:=fun vs H Q _=>∃ (st f c:Nat) (s:Bytes),vs = [.int (st:Int),.int (f:Int),.int (c:Int),.str (S s)]∧Asc s∧s.length≤100000∧Q (.bl (IhPlace.Run.right ⟨st,f,c,s⟩)) H
theorem run_right (st f c:Nat) (s:Bytes):IhPlace.Run.right ⟨st,f,c,s⟩ = (decide (st≤3) && decide (1≤f) && decide (1≤c) && (decide (f + c - 1≤Bk.most st) && prefOk s)):=by
 rw [Bool.eq_iff_iff,Bk.right_iff]
 unfold prefOk Bk.preSign
 simp only [Bool.and_eq_true,decide_eq_true_eq,List.all_eq_true,Bool.or_eq_true,beq_iff_eq]
 exact ⟨fun h=>⟨⟨⟨h.style,h.first⟩,h.count⟩,h.last,h.plen,h.pre⟩,fun ⟨⟨⟨h1,h2⟩,h3⟩,h4,h5,h6⟩=>⟨h1,h2,h3,h4,h5,h6⟩⟩
theorem ok_is_run (T:Txt K mg a):FnOk P w K mg base CX0 2 a.is_run.f a.is_run.d ["style","first","count","prefix"] (sp_is_run):=by
 have sc:FnScope ["style","first","count","prefix"] ["style","first","count","prefix"] (defScope s_is_run):=⟨rfl,rfl,rfl,by decide +kernel,rfl,by decide +kernel,by decide +kernel⟩
 refine T.is_run.fn.ok sc (fun vs H Q E h=>?_) (fun cdv A outer s H vs Q E hr h=>?_)
 · obtain ⟨_,_,_,_,rfl,_⟩:=h
   rfl
 · obtain ⟨st,f,c,s,rfl,hA,hlen,q⟩:=h
   refine ⟨_,(pss_cons (ps_if (PW.pt (pw_or (pt_cmpR op_gt (pv 0) (pe_gv T.g_LETTERS) (nomark _)) (pw_or (pt_cmpR op_eq (pv 1) pe_int (nomark _)) (pw_or1 (pt_cmpR op_eq (pv 2) pe_int (nomark _))))))
     (pss_one (ps_ret pe_bl))
     pss_nil)
    (pss_one (ps_ret (pe_and (pe_cmpR op_le (pe_op op_sub (pe_op op_add (pv 1) (pv 2)) pe_int) (pe_call (ok_most_of_style T) (hr.mono (by decide)) rfl T.most_of_style.m T.most_of_style.fn.kp T.most_of_style.b .nil pass0 (pa_1 (pv 0))) (nomark _)) (pe_one (pe_call (ok_is_prefix T) (hr.mono (by decide)) rfl T.is_prefix.m T.is_prefix.fn.kp T.is_prefix.b .nil pass0 (pa_1 (pv 3)))))))),?_⟩
   rw [run_right] at q
   refine ⟨_,rfl,_,_,rfl,rfl,_,rfl,ite2 (fun h=>?_) (fun h=>?_)⟩
   · have h:=of_decide_eq_true h
     rw [decide_eq_false (show ¬ st≤3 by omega)] at q
     simp only [Bool.false_and] at q
     exact iteT q
   · have h:=dne h
     rw [decide_eq_true (show st≤3 by omega)] at q
     refine ⟨_,rfl,rfl,_,rfl,ite2 (fun g=>?_) (fun g=>?_)⟩
     · have g:=of_decide_eq_true g
       rw [nat_0] at g
       rw [decide_eq_false (show ¬ 1≤f by omega)] at q
       simp only [Bool.false_and,Bool.true_and] at q
       exact iteT q
     · have g:=dne g
       rw [nat_0] at g
       rw [decide_eq_true (show 1≤f by omega)] at q
       refine ⟨_,rfl,rfl,_,rfl,ite2 (fun g2=>?_) (fun g2=>?_)⟩
       · have g2:=of_decide_eq_true g2
         rw [nat_0] at g2
         rw [decide_eq_false (show ¬ 1≤c by omega)] at q
         simp only [Bool.false_and,Bool.true_and] at q
         exact q
       · have g2:=dne g2
         rw [nat_0] at g2
         rw [decide_eq_true (show 1≤c by omega)] at q
         simp only [Bool.true_and] at q
         refine ⟨_,rfl,_,rfl,_,_,rfl,rfl,_,_,rfl,rfl,_,rfl,st,rfl,by omega,_,_,rfl,rfl,_,rfl,ite2 (fun e=>?_) (fun e=>?_)⟩
         · have e:=of_decide_eq_true e
           rw [decide_eq_true (show f + c - 1≤Bk.most st by omega),Bool.true_and] at q
           exact ⟨_,rfl,s,rfl,hA,hlen,q⟩
         · have e:=dne e
           rw [decide_eq_false (show ¬ f + c - 1≤Bk.most st by omega),Bool.false_and] at q
           exact q
def refusalN (bk:Book) (ps:List Place):Nat:=if 256 < ps.length then 1 else if IhPages.allRight bk ps = false then 2 else 0
def sp_refusal_of_list (K:PySem.W.Frag) (a:Adr):Sp:=fun vs H Q _=>∃ (b l:Addr) (bk:Book) (as:List Addr) (ps:List Place),vs = [.ref b,.ref l]∧BookV a H b bk∧H l = some (.lst (as.map V.ref))∧PlsAt a H as ps∧Q (.int (refusalN bk ps:Int)) H
theorem ok_refusal_of_list (T:Txt K mg a):FnOk P w K mg base CX0 6 a.refusal_of_list.f a.refusal_of_list.d ["book","places"] (sp_refusal_of_list K a):=by
 have sc:FnScope ["book","places"] ["book","places"] (defScope s_refusal_of_list):=⟨rfl,rfl,rfl,by decide +kernel,rfl,by decide +kernel,by decide +kernel⟩
 refine T.refusal_of_list.fn.ok sc (fun vs H Q E h=>?_) (fun cdv A outer s H vs Q E hr h=>?_)
 · obtain ⟨_,_,_,_,_,rfl,_⟩:=h
   rfl
 · obtain ⟨b,l,bk,as,ps,rfl,hB,hl,hps,q⟩:=h
   refine ⟨_,(pss_cons (ps_if (pt_cmpR op_gt (pe_callB call_len_seq (by rfl) T.b_len PySem.boot_len (pa_1 (pv 1))) (pe_gv T.g_MOST_PLACES) (nomark _))
     (pss_one (ps_ret pe_int))
     pss_nil)
    (pss_cons (ps_if (pt_not (pt_val (pe_call (ok_all_right T) (hr.mono (by decide)) rfl T.all_right.m T.all_right.fn.kp T.all_right.b .nil pass0 (pa_2 (pv 0) (pv 1)))))
     (pss_one (ps_ret pe_int))
     pss_nil)
    (pss_one (ps_ret (pe_gv T.g_NOT_REFUSED))))),?_⟩
   unfold refusalN at q
   refine ⟨_,rfl,l,_,rfl,.inl (SqL.of hl),_,_,rfl,rfl,_,rfl,ite2 (fun h=>?_) (fun h=>?_)⟩
   · have h:=of_decide_eq_true h
     rw [List.length_map,Paired.len hps] at h
     rw [if_pos (by omega)] at q
     exact q
   · have h:=dne h
     rw [List.length_map,Paired.len hps] at h
     rw [if_neg (by omega)] at q
     refine ⟨_,rfl,_,rfl,b,l,bk,as,ps,rfl,hB,hl,hps,_,rfl,ite2 (fun g=>?_) (fun g=>?_)⟩
     · have g:IhPages.allRight bk ps = false:=by simpa [IhPages.allRight] using g
       rw [if_pos g] at q
       exact q
     · have g:IhPages.allRight bk ps = true:=by simpa [IhPages.allRight] using g
       rw [if_neg (by rw [g]; exact Bool.noConfusion)] at q
       exact q
end
end Hp
namespace Hp
open PySem L2
section
variable {P:Program} {w:World} {K:PySem.W.Frag} {mg:Str→Option Value} {base:Heap} {a:Adr}
structure SessAt (a:Adr) (H:Hp) (s nm rs ld:Addr) (ls:List Addr) (sg b:Addr) (d:IhPages.State):Prop where
 ob:∃ dx,H s = some (.ins a.c_Session dx (sessF d.way d.joins d.drops nm sg b))
 sig:H sg = some (.dK signK)
 bk:BookAt a H b nm rs ld ls d.book
 way:d.way≤4
def SessR (a:Adr) (H:Hp) (s:Addr) (d:IhPages.State):Prop:=∃ nm rs ld ls sg b,SessAt a H s nm rs ld ls sg b d
theorem NewInts.after {H H1:Hp} {s:List V} {Q:VK} (k:NewInts H s Q) (e:Same H H1):NewInts H1 s Q:=fun d H' n s' h=>k d H' (Same.free e n) (Same.trans e s') h
theorem NewInts.now {H:Hp} {s:List V} {Q:VK} (k:NewInts H s Q):∀ d,H d = none→Q (.ref d) (upd H d (.lst s)):=fun d hd=>k d _ hd (Same.new hd) upd_same
def outV (x:IhPages.Answer):List V:=(PgNeutral.numbers x).map V.int
theorem out_bytes (s:Bytes):outV (.bytes s) = .int 0 :: intsV s:=by
 show V.int 0 :: (PgNeutral.ints s).map V.int = _
 unfold PgNeutral.ints intsV
 rw [List.map_map]
 rfl
theorem five_eq (p:Place):(PgNeutral.ints (PgNeutral.five p)).map V.int = fiveV p:=by
 unfold PgNeutral.five PgNeutral.ints fiveV mI
 cases p.main <;> rfl
theorem out_place (p:Place):outV (.place p) = .int 0 :: fiveV p:=by
 show V.int 0 :: (PgNeutral.ints (PgNeutral.five p)).map V.int = _
 rw [five_eq]
theorem fives_eq:∀ ps:List Place,(PgNeutral.ints (ps.flatMap PgNeutral.five)).map V.int = fivesV ps
 | []=>rfl
 | p :: ps=>by
   have ih:=fives_eq ps
   have e:=five_eq p
   unfold PgNeutral.ints at *
   unfold fivesV at *
   rw [List.flatMap_cons,List.map_append,List.map_append,ih,e,List.flatMap_cons]
theorem out_places (ps:List Place):outV (.places ps) = .int 0 :: fivesV ps:=by
 show V.int 0 :: (PgNeutral.ints (ps.flatMap PgNeutral.five)).map V.int = _
 rw [fives_eq]
theorem seen_asc:∀ c,c < 256→Bk.seen1 c < 128:=by decide +kernel
theorem asc_seen {s:Bytes} (h:∀ c∈s,c≤255):Asc (Bk.seen s):=fun c hc=>by
 obtain ⟨x,hx,rfl⟩:=List.mem_map.mp hc
 exact seen_asc x (by have:=h x hx; omega)
def sp_Session_pages (a:Adr):Sp:=fun vs H Q _=>∃ (s:Addr) (d:IhPages.State),vs = [.ref s]∧SessR a H s d∧NewInts H (outV (IhPages.step d .pages).2) Q
theorem ok_Session_pages (T:Txt K mg a):FnOk P w K mg base CX0 2 a.Session_pages.f a.Session_pages.d ["self"] (sp_Session_pages a):=by
 have sc:FnScope ["self"] ["self"] (defScope s_Session_pages):=⟨rfl,rfl,rfl,by decide +kernel,rfl,by decide +kernel,by decide +kernel⟩
 refine T.Session_pages.fn.ok sc (fun vs H Q E h=>?_) (fun cdv A outer s H vs Q E hr h=>?_)
 · obtain ⟨_,_,rfl,_⟩:=h
   rfl
 · obtain ⟨s,d,rfl,⟨nm,rs,ld,ls,sg,b,hS⟩,k⟩:=h
   refine ⟨_,(pss_one (ps_ret (pe_call (ok_answered T) (hr.mono (by decide)) rfl T.answered.m T.answered.fn.kp T.answered.b .nil pass0 (pa_1 (pe_lst (pa_1 (pe_fld (pe_fld (pv 0) rfl) rfl))))))),?_⟩
   obtain ⟨ds,hs⟩:=id hS.ob
   obtain ⟨db,hb⟩:=id hS.bk.ob
   refine ⟨_,rfl,_,_,_,_,_,rfl,hs,T.c_Session.cl,T.n_Session_book,sf_book _ _ _ _ _ _,_,_,_,_,_,rfl,hb,T.c_Book.cl,T.n_Book_total,bf_total _ _ _ _,(show 1≤sizeLine by decide),fun l hl=>?_⟩
   exact ⟨l,_,rfl,upd_same,(show 1≤1000000 by decide),NewInts.after k (Same.new hl)⟩
def sp_Session_name (a:Adr):Sp:=fun vs H Q _=>∃ (s:Addr) (d:IhPages.State) (i:Nat),vs = [.ref s,.int (i:Int)]∧SessR a H s d∧NewInts H (outV (IhPages.step d (.name i)).2) Q
theorem ok_Session_name (T:Txt K mg a):FnOk P w K mg base CX0 4 a.Session_name.f a.Session_name.d ["self","index"] (sp_Session_name a):=by
 have sc:FnScope ["self","index","run"] ["self","index"] (defScope s_Session_name):=⟨rfl,rfl,rfl,by decide +kernel,rfl,by decide +kernel,by decide +kernel⟩
 refine T.Session_name.fn.ok sc (fun vs H Q E h=>?_) (fun cdv A outer s H vs Q E hr h=>?_)
 · obtain ⟨_,_,_,rfl,_⟩:=h
   rfl
 · obtain ⟨s,d,i,rfl,⟨nm,rs,ld,ls,sg,b,hS⟩,k⟩:=h
   refine ⟨_,(pss_cons (ps_set (i:=2) sc.nd rfl (Or.inl rfl) (pe_meth (pe_fld (pv 0) rfl) T.c_Book.cl T.Book_run_at.m (ok_Book_run_at T) (hr.mono (by decide)) T.Book_run_at.b .nil pass0 (pa_1 (pv 1))))
    (pss_cons (ps_if (pt_cmp (pc_isN (pv 2)))
     (pss_one (ps_ret (pe_call (ok_refused T) (hr.mono (by decide)) rfl T.refused.m T.refused.fn.kp T.refused.b .nil pass0 (pa_1 pe_int))))
     pss_nil)
    (pss_one (ps_ret (pe_call (ok_answered T) (hr.mono (by decide)) rfl T.answered.m T.answered.fn.kp T.answered.b .nil pass0 (pa_1 (pe_call (ok_bytes_of T) (hr.mono (by decide)) rfl T.bytes_of.m T.bytes_of.fn.kp T.bytes_of.b .nil pass0 (pa_1 (pe_meth (pv 2) T.c_Run.cl T.Run_name_at.m (ok_Run_name_at T) (hr.mono (by decide)) T.Run_name_at.b .nil pass0 (pa_1 (pv 1))))))))))),?_⟩
   obtain ⟨ds,hs⟩:=id hS.ob
   obtain ⟨db,hb⟩:=id hS.bk.ob
   have k:NewInts H (outV (if i < d.book.pages then .bytes (d.book.name i) else .refused 1)) Q:=k
   refine ⟨_,rfl,_,_,_,_,_,rfl,hs,T.c_Session.cl,T.n_Session_book,sf_book _ _ _ _ _ _,_,_,_,rfl,hb,rfl,_,rfl,b,d.book,i,rfl,⟨_,_,_,_,hS.bk⟩,fun v hv=>?_⟩
   cases e:Bk.runAt d.book i with
   | none =>
     rw [e] at hv
     cases (show v = .non from hv)
     have:=Bk.runAt_none.mp e
     rw [if_neg (by omega)] at k
     exact ⟨_,rfl,_,rfl,iteT ⟨1,rfl,k.now⟩⟩
   | some x =>
     rw [e] at hv
     obtain ⟨r,rfl,hR⟩:=hv
     obtain ⟨dr,hr1⟩:=id hR
     obtain ⟨hx,g1,g2⟩:=runAt_ok hS.bk.ok e
     obtain ⟨kk,pg,_⟩:=Bk.runAt_some (r:=x.1) (t:=x.2) e
     have nn:Bk.NumOk x.1.style (x.1.first + (i - x.2)):=hx.num (by omega) (by omega)
     have sh:=name_short hx.plen nn
     rw [if_pos (Bk.page_lt _ _ _ pg),out_bytes,Bk.name_of pg] at k
     refine ⟨_,rfl,_,rfl,iteF ⟨_,rfl,_,_,_,rfl,hr1,rfl,_,rfl,r,x,i,rfl,hR,g1,hx.plen,nn,_,rfl,(by omega),fun d1 H1 n1 s1 e1=>⟨d1,_,rfl,e1,?_,k.after s1⟩⟩⟩
     unfold intsV
     rw [List.length_map]
     omega
def sp_Session_page (K:PySem.W.Frag) (a:Adr):Sp:=fun vs H Q _=>∃ (s l:Addr) (d:IhPages.State) (t:Bytes),vs = [.ref s,.ref l]∧SessR a H s d∧H l = some (.lst (intsV t))∧t.length≤100000∧(∀ c∈t,c≤255)∧NewInts H (outV (IhPages.step d (.page t)).2) Q
theorem ok_Session_page (T:Txt K mg a):FnOk P w K mg base CX0 4 a.Session_page.f a.Session_page.d ["self","told"] (sp_Session_page K a):=by
 have sc:FnScope ["self","told","index"] ["self","told"] (defScope s_Session_page):=⟨rfl,rfl,rfl,by decide +kernel,rfl,by decide +kernel,by decide +kernel⟩
 refine T.Session_page.fn.ok sc (fun vs H Q E h=>?_) (fun cdv A outer s H vs Q E hr h=>?_)
 · obtain ⟨_,_,_,_,rfl,_⟩:=h
   rfl
 · obtain ⟨s,l,d,t,rfl,⟨nm,rs,ld,ls,sg,b,hS⟩,hl,hlen,hb255,k⟩:=h
   refine ⟨_,(pss_cons (ps_set (i:=2) sc.nd rfl (Or.inl rfl) (pe_meth (pe_fld (pv 0) rfl) T.c_Book.cl T.Book_index_of_name.m (ok_Book_index_of_name T) (hr.mono (by decide)) T.Book_index_of_name.b .nil pass0 (pa_1 (pe_call (ok_text_of T) (hr.mono (by decide)) rfl T.text_of.m T.text_of.fn.kp T.text_of.b .nil pass0 (pa_2 (pe_fld (pv 0) rfl) (pv 1))))))
    (pss_cons (ps_if (pt_cmp (pc_isN (pv 2)))
     (pss_one (ps_ret (pe_call (ok_refused T) (hr.mono (by decide)) rfl T.refused.m T.refused.fn.kp T.refused.b .nil pass0 (pa_1 pe_int))))
     pss_nil)
    (pss_one (ps_ret (pe_call (ok_answered T) (hr.mono (by decide)) rfl T.answered.m T.answered.fn.kp T.answered.b .nil pass0 (pa_1 (pe_lst (pa_1 (pv 2))))))))),?_⟩
   obtain ⟨ds,hs⟩:=id hS.ob
   obtain ⟨db,hb⟩:=id hS.bk.ob
   have k:NewInts H (outV (match d.book.find t with | some i=>.number i | none=>.refused 3)) Q:=k
   refine ⟨_,rfl,_,_,_,_,_,rfl,hs,T.c_Session.cl,T.n_Session_book,sf_book _ _ _ _ _ _,_,_,_,rfl,hb,rfl,_,rfl,_,_,_,_,_,rfl,hs,T.c_Session.cl,T.n_Session_signs,sf_signs _ _ _ _ _ _,_,rfl,sg,l,t,rfl,hS.sig,hl,hlen,hb255,fun H1 s1=>?_⟩
   refine ⟨b,d.book,Bk.seen t,rfl,⟨_,_,_,_,hS.bk.mono s1⟩,(by rw [Bk.seen_length]; exact hlen),?_⟩
   rw [Bk.find_seen hS.bk.ok]
   cases e:d.book.find t with
   | none =>
     rw [e] at k
     exact ⟨_,rfl,_,rfl,iteT ⟨3,rfl,(NewInts.after k s1).now⟩⟩
   | some i =>
     rw [e] at k
     exact ⟨_,rfl,_,rfl,iteF ⟨_,rfl,(show 1≤sizeLine by decide),fun p hp=>⟨p,_,rfl,upd_same,(show 1≤1000000 by decide),NewInts.after k (Same.trans s1 (Same.new hp))⟩⟩⟩
def sp_Session_write (a:Adr):Sp:=fun vs H Q _=>∃ (s l:Addr) (d:IhPages.State) (p:Place),vs = [.ref s,.ref l]∧SessR a H s d∧H l = some (.lst (fiveV p))∧NewInts H (outV (IhPages.step d (.write p)).2) Q
theorem ok_Session_write (T:Txt K mg a):FnOk P w K mg base CX0 6 a.Session_write.f a.Session_write.d ["self","numbers"] (sp_Session_write a):=by
 have sc:FnScope ["self","numbers","place"] ["self","numbers"] (defScope s_Session_write):=⟨rfl,rfl,rfl,by decide +kernel,rfl,by decide +kernel,by decide +kernel⟩
 refine T.Session_write.fn.ok sc (fun vs H Q E h=>?_) (fun cdv A outer s H vs Q E hr h=>?_)
 · obtain ⟨_,_,_,_,rfl,_⟩:=h
   rfl
 · obtain ⟨s,l,d,p,rfl,⟨nm,rs,ld,ls,sg,b,hS⟩,hl,k⟩:=h
   refine ⟨_,(pss_cons (ps_set (i:=2) sc.nd rfl (Or.inl rfl) (pe_make T.c_Place.mkd (ok_Place_init T) (hr.mono (by decide)) rfl T.c_Place.m T.Place_init.b .nil pass0 (pa_1 (pv 1))))
    (pss_cons (ps_if (pt_not (pt_val (pe_call (ok_is_right T) (hr.mono (by decide)) rfl T.is_right.m T.is_right.fn.kp T.is_right.b .nil pass0 (pa_2 (pe_fld (pv 0) rfl) (pv 2)))))
     (pss_one (ps_ret (pe_call (ok_refused T) (hr.mono (by decide)) rfl T.refused.m T.refused.fn.kp T.refused.b .nil pass0 (pa_1 pe_int))))
     pss_nil)
    (pss_one (ps_ret (pe_call (ok_answered T) (hr.mono (by decide)) rfl T.answered.m T.answered.fn.kp T.answered.b .nil pass0 (pa_1 (pe_call (ok_bytes_of T) (hr.mono (by decide)) rfl T.bytes_of.m T.bytes_of.fn.kp T.bytes_of.b .nil pass0 (pa_1 (pe_call (ok_place_text T) (hr.mono (by decide)) rfl T.place_text.m T.place_text.fn.kp T.place_text.b .nil pass0 (pa_3 (pe_fld (pv 0) rfl) (pe_fld (pv 0) rfl) (pv 2))))))))))),?_⟩
   obtain ⟨ds,hs⟩:=id hS.ob
   obtain ⟨db,hb⟩:=id hS.bk.ob
   have k:NewInts H (outV (if p.right d.book = true then .bytes (p.text d.book d.way) else .refused 2)) Q:=k
   refine ⟨_,rfl,fun x dx n1 n2 n3=>⟨x,dx,l,p,rfl,upd_same,(upd_ne (ne_of_none hl n1)).trans ((upd_ne (ne_of_none hl n2)).trans hl),fun H1 hobj made=>⟨rfl,?_⟩⟩⟩
   have s1:Same H H1:=Same.made n1 n2 made
   have hs1:=s1 _ _ hs
   have hB1:BookV a H1 b d.book:=⟨_,_,_,_,hS.bk.mono s1⟩
   refine ⟨_,rfl,_,_,_,_,_,rfl,hs1,T.c_Session.cl,T.n_Session_book,sf_book _ _ _ _ _ _,_,rfl,b,x,d.book,p,rfl,hB1,hobj,_,rfl,ite2 (fun h=>?_) (fun h=>?_)⟩
   · have h:¬ p.right d.book = true:=by simpa using h
     rw [if_neg h] at k
     exact ⟨2,rfl,(k.after s1).now⟩
   · have h:p.right d.book = true:=by simpa using h
     rw [if_pos h,out_bytes] at k
     have sh:=text_short hS.bk.ok hS.way h
     refine ⟨_,rfl,_,_,_,_,_,rfl,hs1,T.c_Session.cl,T.n_Session_book,sf_book _ _ _ _ _ _,_,rfl,_,_,_,_,_,rfl,hs1,T.c_Session.cl,T.n_Session_way,sf_way _ _ _ _ _ _,_,rfl,b,x,d.way,d.book,p,rfl,hB1,hobj,hS.way,h,_,rfl,(by omega),fun d1 H2 m1 s2 e1=>⟨d1,_,rfl,e1,?_,k.after (Same.trans s1 s2)⟩⟩
     unfold intsV
     rw [List.length_map]
     omega
def sp_Session_read (K:PySem.W.Frag) (a:Adr):Sp:=fun vs H Q _=>∃ (s l:Addr) (d:IhPages.State) (t:Bytes),vs = [.ref s,.ref l]∧SessR a H s d∧H l = some (.lst (intsV t))∧t.length≤100000∧(∀ c∈t,c≤255)∧NewInts H (outV (IhPages.step d (.read t)).2) Q
theorem ok_Session_read (T:Txt K mg a):FnOk P w K mg base CX0 7 a.Session_read.f a.Session_read.d ["self","told"] (sp_Session_read K a):=by
 have sc:FnScope ["self","told","place"] ["self","told"] (defScope s_Session_read):=⟨rfl,rfl,rfl,by decide +kernel,rfl,by decide +kernel,by decide +kernel⟩
 refine T.Session_read.fn.ok sc (fun vs H Q E h=>?_) (fun cdv A outer s H vs Q E hr h=>?_)
 · obtain ⟨_,_,_,_,rfl,_⟩:=h
   rfl
 · obtain ⟨s,l,d,t,rfl,⟨nm,rs,ld,ls,sg,b,hS⟩,hl,hlen,hb255,k⟩:=h
   refine ⟨_,(pss_cons (ps_set (i:=2) sc.nd rfl (Or.inl rfl) (pe_call (ok_place_told T) (hr.mono (by decide)) rfl T.place_told.m T.place_told.fn.kp T.place_told.b .nil pass0 (pa_2 (pe_fld (pv 0) rfl) (pe_call (ok_text_of T) (hr.mono (by decide)) rfl T.text_of.m T.text_of.fn.kp T.text_of.b .nil pass0 (pa_2 (pe_fld (pv 0) rfl) (pv 1))))))
    (pss_cons (ps_if (pt_cmp (pc_isN (pv 2)))
     (pss_one (ps_ret (pe_call (ok_refused T) (hr.mono (by decide)) rfl T.refused.m T.refused.fn.kp T.refused.b .nil pass0 (pa_1 pe_int))))
     pss_nil)
    (pss_one (ps_ret (pe_call (ok_answered T) (hr.mono (by decide)) rfl T.answered.m T.answered.fn.kp T.answered.b .nil pass0 (pa_1 (pe_call (ok_numbers_of T) (hr.mono (by decide)) rfl T.numbers_of.m T.numbers_of.fn.kp T.numbers_of.b .nil pass0 (pa_1 (pv 2))))))))),?_⟩
   obtain ⟨ds,hs⟩:=id hS.ob
   obtain ⟨db,hb⟩:=id hS.bk.ob
   have k:NewInts H (outV (match d.book.read t with | some p=>.place p | none=>.refused 3)) Q:=k
   refine ⟨_,rfl,_,_,_,_,_,rfl,hs,T.c_Session.cl,T.n_Session_book,sf_book _ _ _ _ _ _,_,rfl,_,_,_,_,_,rfl,hs,T.c_Session.cl,T.n_Session_signs,sf_signs _ _ _ _ _ _,_,rfl,sg,l,t,rfl,hS.sig,hl,hlen,hb255,fun H1 s1=>?_⟩
   refine ⟨b,d.book,Bk.seen t,rfl,⟨_,_,_,_,hS.bk.mono s1⟩,asc_seen hb255,(by rw [Bk.seen_length]; exact hlen),fun e H2 s2=>?_,fun p x H2 e r n s2 hP=>?_⟩
   · rw [Bk.read_seen hS.bk.ok] at e
     rw [e] at k
     exact ⟨_,rfl,_,rfl,iteT ⟨3,rfl,(NewInts.after k (Same.trans s1 s2)).now⟩⟩
   · rw [Bk.read_seen hS.bk.ok] at e
     rw [e] at k
     have k:NewInts H (outV (.place x)) Q:=k
     rw [out_place] at k
     exact ⟨_,rfl,_,rfl,iteF ⟨_,rfl,p,x,rfl,hP,fun q hq=>⟨q,_,rfl,upd_same,(show 5≤1000000 by decide),k.after (Same.trans (Same.trans s1 s2) (Same.new hq))⟩⟩⟩
end
end Hp
namespace Hp
open PySem L2
section
variable {P:Program} {w:World} {K:PySem.W.Frag} {mg:Str→Option Value} {base:Heap} {a:Adr}
theorem ne0 {n:Nat} (h:(!decide (V.int (n:Int) = V.int 0)) = true):n≠0:=fun z=>by
 rw [decide_eq_true (show V.int (n:Int) = V.int 0 by rw [z]; rfl)] at h
 cases h
theorem eq0 {n:Nat} (h:¬ (!decide (V.int (n:Int) = V.int 0)) = true):n = 0:=Classical.byContradiction fun z=>h (by
 rw [decide_eq_false (fun e=>z (by rw [nat_0] at e; exact e))]
 rfl)
theorem refusal_0 {bk:Book} {ps:List Place} (h:refusalN bk ps = 0):ps.length≤256∧IhPages.allRight bk ps = true∧∀ p∈ps,p.right bk = true:=by
 unfold refusalN at h
 split at h
 · cases h
 · split at h
   · cases h
   · rename_i h1 h2
     have h2:IhPages.allRight bk ps = true:=by simpa using h2
     exact ⟨by omega,h2,fun p hp=>List.all_eq_true.mp h2 p hp⟩
theorem refusal_1 {bk:Book} {ps:List Place} (h:refusalN bk ps≠0) (x:IhPages.Answer):(if 256 < ps.length then IhPages.Answer.refused 1 else if IhPages.allRight bk ps = false then .refused 2 else x) = .refused (refusalN bk ps):=by
 unfold refusalN at *
 by_cases h1:256 < ps.length
 · rw [if_pos h1,if_pos h1]
 · rw [if_neg h1] at h
   rw [if_neg h1,if_neg h1]
   by_cases h2:IhPages.allRight bk ps = false
   · rw [if_pos h2,if_pos h2]
   · rw [if_neg h2] at h
     exact absurd rfl h
theorem refusal_2 {bk:Book} {ps:List Place} (h:refusalN bk ps = 0) (x:IhPages.Answer):(if 256 < ps.length then IhPages.Answer.refused 1 else if IhPages.allRight bk ps = false then .refused 2 else x) = x:=by
 obtain ⟨h1,h2,_⟩:=refusal_0 h
 rw [if_neg (by omega),if_neg (by rw [h2]; exact Bool.noConfusion)]
def sp_Session_form (K:PySem.W.Frag) (a:Adr):Sp:=fun vs H Q _=>∃ (s l:Addr) (d:IhPages.State) (ps:List Place),vs = [.ref s,.ref l]∧SessR a H s d∧H l = some (.lst (fivesV ps))∧ps.length≤100000∧NewInts H (outV (IhPages.step d (.form ps)).2) Q
theorem ok_Session_form (T:Txt K mg a):FnOk P w K mg base CX0 7 a.Session_form.f a.Session_form.d ["self","numbers"] (sp_Session_form K a):=by
 have sc:FnScope ["self","numbers","places","refusal"] ["self","numbers"] (defScope s_Session_form):=⟨rfl,rfl,rfl,by decide +kernel,rfl,by decide +kernel,by decide +kernel⟩
 refine T.Session_form.fn.ok sc (fun vs H Q E h=>?_) (fun cdv A outer s H vs Q E hr h=>?_)
 · obtain ⟨_,_,_,_,rfl,_⟩:=h
   rfl
 · obtain ⟨s,l,d,ps,rfl,⟨nm,rs,ld,ls,sg,b,hS⟩,hl,hlen,k⟩:=h
   refine ⟨_,(pss_cons (ps_set (i:=2) sc.nd rfl (Or.inl rfl) (pe_call (ok_places_of T) (hr.mono (by decide)) rfl T.places_of.m T.places_of.fn.kp T.places_of.b .nil pass0 (pa_1 (pv 1))))
    (pss_cons (ps_set (i:=3) sc.nd rfl (Or.inl rfl) (pe_call (ok_refusal_of_list T) (hr.mono (by decide)) rfl T.refusal_of_list.m T.refusal_of_list.fn.kp T.refusal_of_list.b .nil pass0 (pa_2 (pe_fld (pv 0) rfl) (pv 2))))
    (pss_cons (ps_if (pt_cmpR op_ne (pv 3) (pe_gv T.g_NOT_REFUSED) (nomark _))
     (pss_one (ps_ret (pe_call (ok_refused T) (hr.mono (by decide)) rfl T.refused.m T.refused.fn.kp T.refused.b .nil pass0 (pa_1 (pv 3)))))
     pss_nil)
    (pss_one (ps_ret (pe_call (ok_answered T) (hr.mono (by decide)) rfl T.answered.m T.answered.fn.kp T.answered.b .nil pass0 (pa_1 (pe_call (ok_numbers_of_list T) (hr.mono (by decide)) rfl T.numbers_of_list.m T.numbers_of_list.fn.kp T.numbers_of_list.b .nil pass0 (pa_1 (pe_call (ok_form_of T) (hr.mono (by decide)) rfl T.form_of.m T.form_of.fn.kp T.form_of.b .nil pass0 (pa_4 (pe_fld (pv 0) rfl) (pe_fld (pv 0) rfl) (pe_fld (pv 0) rfl) (pv 2)))))))))))),?_⟩
   obtain ⟨ds,hs⟩:=id hS.ob
   have k:NewInts H (outV (if 256 < ps.length then .refused 1 else if IhPages.allRight d.book ps = false then .refused 2 else .places (d.book.form d.joins d.drops ps))) Q:=k
   refine ⟨_,rfl,l,ps,rfl,hl,hlen,fun c as H1 n1 s1 e1 p1=>?_⟩
   have hs1:=s1 _ _ hs
   have hB1:BookV a H1 b d.book:=⟨_,_,_,_,hS.bk.mono s1⟩
   refine ⟨_,rfl,_,_,_,_,_,rfl,hs1,T.c_Session.cl,T.n_Session_book,sf_book _ _ _ _ _ _,_,rfl,b,c,d.book,as,ps,rfl,hB1,e1,p1,?_⟩
   refine ⟨_,rfl,rfl,_,rfl,ite2 (fun h=>?_) (fun h=>?_)⟩
   · have h:=ne0 h
     rw [refusal_1 h] at k
     exact ⟨_,rfl,_,rfl,(k.after s1).now⟩
   · have h:=eq0 h
     rw [refusal_2 h,out_places] at k
     obtain ⟨g1,g2,g3⟩:=refusal_0 h
     refine ⟨_,rfl,_,_,_,_,_,rfl,hs1,T.c_Session.cl,T.n_Session_book,sf_book _ _ _ _ _ _,_,rfl,_,_,_,_,_,rfl,hs1,T.c_Session.cl,T.n_Session_joins,sf_joins _ _ _ _ _ _,_,rfl,_,_,_,_,_,rfl,hs1,T.c_Session.cl,T.n_Session_drops,sf_drops _ _ _ _ _ _,_,rfl,b,c,d.book,d.joins,d.drops,as,ps,rfl,hB1,e1,p1,(by omega),g3,fun hf c2 as2 H2 n2 s2 e2 p2=>?_⟩
     refine ⟨c2,as2,_,rfl,e2,p2,hf,fun d1 H3 n3 s3 e3=>⟨d1,_,rfl,e3,?_,k.after (Same.trans s1 (Same.trans s2 s3))⟩⟩
     rw [fives_len]
     omega
theorem inter_len:∀ l:List Bytes,(([44,32]:Bytes).intercalate l).length≤(l.map List.length).sum + 2 * l.length
 | []=>by simp [List.intercalate]
 | [p]=>by simp [List.intercalate]
 | p :: q :: r=>by
   have ih:=inter_len (q :: r)
   rw [← joinL_eq] at ih ⊢
   unfold TL.joinL
   simp only [List.map_cons,List.sum_cons,List.length_append,List.length_cons,List.length_nil] at ih ⊢
   omega
theorem list_short {bk:Book} {way:Nat} (hB:Bk.BookOk bk) (hw:way≤4) (ps:List Place) (h:∀ p∈ps,p.right bk = true):(bk.text way ps).length≤54 * ps.length:=by
 unfold IhPlace.Book.text
 refine Nat.le_trans (inter_len _) ?_
 rw [List.length_map,List.map_map]
 have hsum:∀ qs:List Place,(∀ p∈qs,p.right bk = true)→(qs.map (List.length ∘ IhPlace.Place.text bk way)).sum≤52 * qs.length:=by
  intro qs
  induction qs with
  | nil=>intro _; simp
  | cons p qs ih =>
    intro hq
    have h1:=ih fun p hp=>hq p (List.mem_cons_of_mem _ hp)
    have h2:=text_short hB hw (hq p List.mem_cons_self)
    simp only [List.map_cons,List.sum_cons,List.length_cons,Function.comp_apply] at h1 ⊢
    omega
 have:=hsum ps h
 omega
def sp_Session_text (K:PySem.W.Frag) (a:Adr):Sp:=fun vs H Q _=>∃ (s l:Addr) (d:IhPages.State) (ps:List Place),vs = [.ref s,.ref l]∧SessR a H s d∧H l = some (.lst (fivesV ps))∧ps.length≤100000∧NewInts H (outV (IhPages.step d (.text ps)).2) Q
theorem ok_Session_text (T:Txt K mg a):FnOk P w K mg base CX0 7 a.Session_text.f a.Session_text.d ["self","numbers"] (sp_Session_text K a):=by
 have sc:FnScope ["self","numbers","places","refusal"] ["self","numbers"] (defScope s_Session_text):=⟨rfl,rfl,rfl,by decide +kernel,rfl,by decide +kernel,by decide +kernel⟩
 refine T.Session_text.fn.ok sc (fun vs H Q E h=>?_) (fun cdv A outer s H vs Q E hr h=>?_)
 · obtain ⟨_,_,_,_,rfl,_⟩:=h
   rfl
 · obtain ⟨s,l,d,ps,rfl,⟨nm,rs,ld,ls,sg,b,hS⟩,hl,hlen,k⟩:=h
   refine ⟨_,(pss_cons (ps_set (i:=2) sc.nd rfl (Or.inl rfl) (pe_call (ok_places_of T) (hr.mono (by decide)) rfl T.places_of.m T.places_of.fn.kp T.places_of.b .nil pass0 (pa_1 (pv 1))))
    (pss_cons (ps_set (i:=3) sc.nd rfl (Or.inl rfl) (pe_call (ok_refusal_of_list T) (hr.mono (by decide)) rfl T.refusal_of_list.m T.refusal_of_list.fn.kp T.refusal_of_list.b .nil pass0 (pa_2 (pe_fld (pv 0) rfl) (pv 2))))
    (pss_cons (ps_if (pt_cmpR op_ne (pv 3) (pe_gv T.g_NOT_REFUSED) (nomark _))
     (pss_one (ps_ret (pe_call (ok_refused T) (hr.mono (by decide)) rfl T.refused.m T.refused.fn.kp T.refused.b .nil pass0 (pa_1 (pv 3)))))
     pss_nil)
    (pss_one (ps_ret (pe_call (ok_answered T) (hr.mono (by decide)) rfl T.answered.m T.answered.fn.kp T.answered.b .nil pass0 (pa_1 (pe_call (ok_bytes_of T) (hr.mono (by decide)) rfl T.bytes_of.m T.bytes_of.fn.kp T.bytes_of.b .nil pass0 (pa_1 (pe_call (ok_list_text T) (hr.mono (by decide)) rfl T.list_text.m T.list_text.fn.kp T.list_text.b .nil pass0 (pa_3 (pe_fld (pv 0) rfl) (pe_fld (pv 0) rfl) (pv 2)))))))))))),?_⟩
   obtain ⟨ds,hs⟩:=id hS.ob
   have k:NewInts H (outV (if 256 < ps.length then .refused 1 else if IhPages.allRight d.book ps = false then .refused 2 else .bytes (d.book.text d.way ps))) Q:=k
   refine ⟨_,rfl,l,ps,rfl,hl,hlen,fun c as H1 n1 s1 e1 p1=>?_⟩
   have hs1:=s1 _ _ hs
   have hB1:BookV a H1 b d.book:=⟨_,_,_,_,hS.bk.mono s1⟩
   refine ⟨_,rfl,_,_,_,_,_,rfl,hs1,T.c_Session.cl,T.n_Session_book,sf_book _ _ _ _ _ _,_,rfl,b,c,d.book,as,ps,rfl,hB1,e1,p1,?_⟩
   refine ⟨_,rfl,rfl,_,rfl,ite2 (fun h=>?_) (fun h=>?_)⟩
   · have h:=ne0 h
     rw [refusal_1 h] at k
     exact ⟨_,rfl,_,rfl,(k.after s1).now⟩
   · have h:=eq0 h
     rw [refusal_2 h,out_bytes] at k
     obtain ⟨g1,g2,g3⟩:=refusal_0 h
     have sh:=list_short hS.bk.ok hS.way ps g3
     refine ⟨_,rfl,_,_,_,_,_,rfl,hs1,T.c_Session.cl,T.n_Session_book,sf_book _ _ _ _ _ _,_,rfl,_,_,_,_,_,rfl,hs1,T.c_Session.cl,T.n_Session_way,sf_way _ _ _ _ _ _,_,rfl,b,c,d.way,d.book,as,ps,rfl,hB1,e1,p1,hS.way,g3,(by omega),fun H2 s2=>?_⟩
     refine ⟨_,rfl,(by omega),fun d1 H3 n3 s3 e3=>⟨d1,_,rfl,e3,?_,k.after (Same.trans s1 (Same.trans s2 s3))⟩⟩
     unfold intsV
     rw [List.length_map]
     omega
def sp_Session_has (K:PySem.W.Frag) (a:Adr):Sp:=fun vs H Q _=>∃ (s l:Addr) (d:IhPages.State) (i:Nat) (ps:List Place),vs = [.ref s,.int (i:Int),.ref l]∧SessR a H s d∧H l = some (.lst (fivesV ps))∧ps.length≤100000∧NewInts H (outV (IhPages.step d (.has ps i)).2) Q
theorem ok_Session_has (T:Txt K mg a):FnOk P w K mg base CX0 7 a.Session_has.f a.Session_has.d ["self","index","numbers"] (sp_Session_has K a):=by
 have sc:FnScope ["self","index","numbers","places","refusal","number"] ["self","index","numbers"] (defScope s_Session_has):=⟨rfl,rfl,rfl,by decide +kernel,rfl,by decide +kernel,by decide +kernel⟩
 refine T.Session_has.fn.ok sc (fun vs H Q E h=>?_) (fun cdv A outer s H vs Q E hr h=>?_)
 · obtain ⟨_,_,_,_,_,rfl,_⟩:=h
   rfl
 · obtain ⟨s,l,d,i,ps,rfl,⟨nm,rs,ld,ls,sg,b,hS⟩,hl,hlen,k⟩:=h
   refine ⟨_,(pss_cons (ps_set (i:=3) sc.nd rfl (Or.inl rfl) (pe_call (ok_places_of T) (hr.mono (by decide)) rfl T.places_of.m T.places_of.fn.kp T.places_of.b .nil pass0 (pa_1 (pv 2))))
    (pss_cons (ps_set (i:=4) sc.nd rfl (Or.inl rfl) (pe_call (ok_refusal_of_list T) (hr.mono (by decide)) rfl T.refusal_of_list.m T.refusal_of_list.fn.kp T.refusal_of_list.b .nil pass0 (pa_2 (pe_fld (pv 0) rfl) (pv 3))))
    (pss_cons (ps_if (pt_cmpR op_ne (pv 4) (pe_gv T.g_NOT_REFUSED) (nomark _))
     (pss_one (ps_ret (pe_call (ok_refused T) (hr.mono (by decide)) rfl T.refused.m T.refused.fn.kp T.refused.b .nil pass0 (pa_1 (pv 4)))))
     pss_nil)
    (pss_cons (ps_set (i:=5) sc.nd rfl (Or.inl rfl) (pe_call (ok_first_with_page T) (hr.mono (by decide)) rfl T.first_with_page.m T.first_with_page.fn.kp T.first_with_page.b .nil pass0 (pa_2 (pv 3) (pv 1))))
    (pss_cons (ps_if (pt_cmp (pc_isN (pv 5)))
     (pss_one (ps_ret (pe_call (ok_refused T) (hr.mono (by decide)) rfl T.refused.m T.refused.fn.kp T.refused.b .nil pass0 (pa_1 pe_int))))
     pss_nil)
    (pss_one (ps_ret (pe_call (ok_answered T) (hr.mono (by decide)) rfl T.answered.m T.answered.fn.kp T.answered.b .nil pass0 (pa_1 (pe_lst (pa_1 (pv 5)))))))))))),?_⟩
   obtain ⟨ds,hs⟩:=id hS.ob
   have k:NewInts H (outV (if 256 < ps.length then .refused 1 else if IhPages.allRight d.book ps = false then .refused 2 else match ps.findIdx? (withPage i) with | some k=>.number k | none=>.refused 3)) Q:=k
   refine ⟨_,rfl,l,ps,rfl,hl,hlen,fun c as H1 n1 s1 e1 p1=>?_⟩
   have hs1:=s1 _ _ hs
   have hB1:BookV a H1 b d.book:=⟨_,_,_,_,hS.bk.mono s1⟩
   refine ⟨_,rfl,_,_,_,_,_,rfl,hs1,T.c_Session.cl,T.n_Session_book,sf_book _ _ _ _ _ _,_,rfl,b,c,d.book,as,ps,rfl,hB1,e1,p1,?_⟩
   refine ⟨_,rfl,rfl,_,rfl,ite2 (fun h=>?_) (fun h=>?_)⟩
   · have h:=ne0 h
     rw [refusal_1 h] at k
     exact ⟨_,rfl,_,rfl,(k.after s1).now⟩
   · have h:=eq0 h
     rw [refusal_2 h] at k
     refine ⟨_,rfl,_,rfl,c,as,ps,i,rfl,e1,p1,fun H2 s2=>?_⟩
     have k2:=k.after (Same.trans s1 s2)
     cases e:ps.findIdx? (withPage i) with
     | none =>
       rw [e] at k2
       exact ⟨_,rfl,_,rfl,iteT ⟨3,rfl,k2.now⟩⟩
     | some n =>
       rw [e] at k2
       exact ⟨_,rfl,_,rfl,iteF ⟨_,rfl,(show 1≤sizeLine by decide),fun p hp=>⟨p,_,rfl,upd_same,(show 1≤1000000 by decide),k2.after (Same.new hp)⟩⟩⟩
end
end Hp
namespace Hp
open PySem L2
section
variable {P:Program} {w:World} {K:PySem.W.Frag} {mg:Str→Option Value} {base:Heap} {a:Adr}
theorem list_parts (b:Book) (s:Bytes):b.list s = Bk.readAll b 0 (partsT s):=by
 rw [Bk.list_eq]
 unfold partsT
 split
 · rfl
 · rfl
theorem partsT_seen (s:Bytes):partsT (Bk.seen s) = (partsT s).map Bk.seen:=by
 unfold partsT
 by_cases h:s = []
 · rw [if_pos h,if_pos (Bk.seen_nil.mpr h)]
   rfl
 · rw [if_neg h,if_neg (fun z=>h (Bk.seen_nil.mp z)),Bk.parts_seen]
theorem parts_sum:∀ (s:Bytes),∀ t∈IhPlace.parts s,(∀ c∈t,c∈s)∧t.length≤s.length
 | [],t,h=>by
   simp [IhPlace.parts] at h
   subst h
   simp
 | [c],t,h=>by
   rw [Bk.parts_cons c [] (by rintro ⟨_,r',z⟩; cases z)] at h
   simp [IhPlace.parts] at h
   subst h
   simp
 | c :: d :: r,t,h=>by
   by_cases hc:c = 44∧d = 32
   · obtain ⟨rfl,rfl⟩:=hc
     rw [Bk.parts_hit] at h
     rcases List.mem_cons.mp h with rfl | h
     · simp
     · obtain ⟨h1,h2⟩:=parts_sum r t h
       exact ⟨fun c hc=>List.mem_cons_of_mem _ (List.mem_cons_of_mem _ (h1 c hc)),by simp only [List.length_cons]; omega⟩
   · rw [Bk.parts_cons c (d :: r) (by rintro ⟨h1,r',z⟩; injection z with z1 z2; exact hc ⟨h1,z1⟩)] at h
     cases e:IhPlace.parts (d :: r) with
     | nil=>exact absurd e (Bk.parts_ne _)
     | cons w l =>
       rw [e] at h
       have ih:=parts_sum (d :: r)
       rw [e] at ih
       rcases List.mem_cons.mp h with rfl | h
       · obtain ⟨h1,h2⟩:=ih w List.mem_cons_self
         refine ⟨fun x hx=>?_,by simp only [List.length_cons] at *; omega⟩
         rcases List.mem_cons.mp hx with rfl | hx
         · exact List.mem_cons_self
         · exact List.mem_cons_of_mem _ (h1 x hx)
       · obtain ⟨h1,h2⟩:=ih t (List.mem_cons_of_mem _ h)
         exact ⟨fun x hx=>List.mem_cons_of_mem _ (h1 x hx),by simp only [List.length_cons] at *; omega⟩
termination_by s=>s.length
theorem parts_len:∀ (s:Bytes),(IhPlace.parts s).length≤s.length + 1
 | []=>by simp [IhPlace.parts]
 | [c]=>by
   rw [Bk.parts_cons c [] (by rintro ⟨_,r',z⟩; cases z)]
   simp [IhPlace.parts]
 | c :: d :: r=>by
   by_cases hc:c = 44∧d = 32
   · obtain ⟨rfl,rfl⟩:=hc
     rw [Bk.parts_hit]
     have:=parts_len r
     simp only [List.length_cons]
     omega
   · rw [Bk.parts_cons c (d :: r) (by rintro ⟨h1,r',z⟩; injection z with z1 z2; exact hc ⟨h1,z1⟩)]
     have ih:=parts_len (d :: r)
     cases e:IhPlace.parts (d :: r) with
     | nil=>exact absurd e (Bk.parts_ne _)
     | cons w l =>
       rw [e] at ih
       simp only [List.length_cons] at *
       omega
termination_by s=>s.length
theorem partsT_sum {s t:Bytes} (h:t∈partsT s):(∀ c∈t,c∈s)∧t.length≤s.length:=by
 unfold partsT at h
 split at h
 · simp at h
 · exact parts_sum s t h
theorem partsT_len (s:Bytes):(partsT s).length≤s.length + 1:=by
 unfold partsT
 split
 · simp
 · exact parts_len s
def readOn (qs:List Place):Except Nat (List Place)→Except Nat (List Place)
 | .error i=>.error i
 | .ok r=>.ok (qs ++ r)
theorem readAll_bad {b:Book} {l:List Bytes} {i:Nat} {x:Bytes} (hx:l[i]? = some x) (h:b.read x = none) (k:Nat):Bk.readAll b k (l.drop i) = .error k:=by
 obtain ⟨hi,e⟩:=List.getElem?_eq_some_iff.mp hx
 rw [List.drop_eq_getElem_cons hi,e]
 unfold Bk.readAll
 rw [h]
theorem readAll_good {b:Book} {l:List Bytes} {i:Nat} {x:Bytes} {p:Place} (hx:l[i]? = some x) (h:b.read x = some p) (k:Nat) (qs:List Place):readOn qs (Bk.readAll b k (l.drop i)) = readOn (qs ++ [p]) (Bk.readAll b (k + 1) (l.drop (i + 1))):=by
 obtain ⟨hi,e⟩:=List.getElem?_eq_some_iff.mp hx
 rw [List.drop_eq_getElem_cons hi,e]
 conv=>lhs; unfold Bk.readAll
 rw [h]
 simp only
 cases Bk.readAll b (k + 1) (l.drop (i + 1)) with
 | error j=>rfl
 | ok r =>
   show Except.ok (qs ++ p :: r) = Except.ok (qs ++ [p] ++ r)
   simp
def listA (l:Except Nat (List Place)):IhPages.Answer:=match l with
 | .error i=>.refusedAt 3 i
 | .ok l=>if 256 < l.length then .refused 4 else .places l
def sp_Session_places_told (K:PySem.W.Frag) (a:Adr):Sp:=fun vs H Q _=>∃ (s l:Addr) (d:IhPages.State) (t:Bytes),vs = [.ref s,.ref l]∧SessR a H s d∧H l = some (.lst (intsV t))∧t.length≤90000∧(∀ c∈t,c≤255)∧NewInts H (outV (IhPages.step d (.list t)).2) Q
theorem ok_Session_places_told (T:Txt K mg a):FnOk P w K mg base CX0 7 a.Session_places_told.f a.Session_places_told.d ["self","told"] (sp_Session_places_told K a):=by
 have sc:FnScope ["self","told","places","number","part","place"] ["self","told"] (defScope s_Session_places_told):=⟨rfl,rfl,rfl,by decide +kernel,rfl,by decide +kernel,by decide +kernel⟩
 refine T.Session_places_told.fn.ok sc (fun vs H Q E h=>?_) (fun cdv A outer s H vs Q E hr h=>?_)
 · obtain ⟨_,_,_,_,rfl,_⟩:=h
   rfl
 · obtain ⟨s,l,d,t,rfl,⟨nm,rs,ld,ls,sg,b,hS⟩,hl,hlen,hb255,k⟩:=h
   refine ⟨_,(pss_cons (ps_if (pt_cmpR op_gt (pe_callB call_len_seq (by rfl) T.b_len PySem.boot_len (pa_1 (pv 1))) (pe_gv T.g_MOST_LIST_BYTES) (nomark _))
     (pss_one (ps_ret (pe_call (ok_refused T) (hr.mono (by decide)) rfl T.refused.m T.refused.fn.kp T.refused.b .nil pass0 (pa_1 pe_int))))
     pss_nil)
    (pss_cons (ps_set (i:=2) sc.nd rfl (Or.inl rfl) (pe_lst pa_nil))
    (pss_cons (ps_for PassesOwn.never rfl (pi_enum rfl T.b_enumerate (pa_1 (pe_call (ok_parts_of T) (hr.mono (by decide)) rfl T.parts_of.m T.parts_of.fn.kp T.parts_of.b .nil pass0 (pa_1 (pe_call (ok_text_of T) (hr.mono (by decide)) rfl T.text_of.m T.text_of.fn.kp T.text_of.b .nil pass0 (pa_2 (pe_fld (pv 0) rfl) (pv 1))))))) (pg_tup rfl (pgs_cons (pg_name (i:=3) sc.nd rfl (Or.inl rfl)) (pgs_cons (pg_name (i:=4) sc.nd rfl (Or.inl rfl)) pgs_nil)))
     (pss_cons (ps_set (i:=5) sc.nd rfl (Or.inl rfl) (pe_call (ok_place_told T) (hr.mono (by decide)) rfl T.place_told.m T.place_told.fn.kp T.place_told.b .nil pass0 (pa_2 (pe_fld (pv 0) rfl) (pv 4))))
     (pss_cons (ps_if (pt_cmp (pc_isN (pv 5)))
      (pss_one (ps_ret (pe_op op_cat (pe_call (ok_refused T) (hr.mono (by decide)) rfl T.refused.m T.refused.fn.kp T.refused.b .nil pass0 (pa_1 pe_int)) (pe_lst (pa_1 (pv 3))))))
      pss_nil)
     (pss_one (ps_expr (pe_bm PySem.F.plainAttrs_list PySem.F.slot_list_append PySem.F.type_list_append mt_append (pv 2) (pa_1 (pv 5))))))))
    (pss_cons (ps_if (pt_cmpR op_gt (pe_callB call_len_seq (by rfl) T.b_len PySem.boot_len (pa_1 (pv 2))) (pe_gv T.g_MOST_PLACES) (nomark _))
     (pss_one (ps_ret (pe_call (ok_refused T) (hr.mono (by decide)) rfl T.refused.m T.refused.fn.kp T.refused.b .nil pass0 (pa_1 pe_int))))
     pss_nil)
    (pss_one (ps_ret (pe_call (ok_answered T) (hr.mono (by decide)) rfl T.answered.m T.answered.fn.kp T.answered.b .nil pass0 (pa_1 (pe_call (ok_numbers_of_list T) (hr.mono (by decide)) rfl T.numbers_of_list.m T.numbers_of_list.fn.kp T.numbers_of_list.b .nil pass0 (pa_1 (pv 2))))))))))),?_⟩
   have hz:sizeLine = 16777216:=rfl
   obtain ⟨ds,hs⟩:=id hS.ob
   have k:NewInts H (outV (if 32768 < t.length then .refused 1 else listA (d.book.list t))) Q:=k
   have il:(intsV t).length = t.length:=by unfold intsV; rw [List.length_map]
   refine ⟨_,rfl,l,_,rfl,.inl (SqL.of hl),_,_,rfl,rfl,_,rfl,ite2 (fun h=>?_) (fun h=>?_)⟩
   · have h:=of_decide_eq_true h
     rw [il] at h
     rw [if_pos (by omega)] at k
     exact ⟨1,rfl,k.now⟩
   have h:=dne h
   rw [il] at h
   rw [if_neg (by omega),list_parts] at k
   refine ⟨(show 0≤sizeLine by decide),fun pl hpl=>?_⟩
   have s1:Same H (upd H pl (.lst [])):=Same.new hpl
   have hs1:=s1 _ _ hs
   refine ⟨_,rfl,_,_,_,_,_,rfl,hs1,T.c_Session.cl,T.n_Session_signs,sf_signs _ _ _ _ _ _,_,rfl,sg,l,t,rfl,s1 _ _ hS.sig,s1 _ _ hl,(by omega),hb255,fun H2 s2=>?_⟩
   refine ⟨Bk.seen t,rfl,(by rw [Bk.seen_length]; omega),fun pt hpt=>?_⟩
   have hpl2:H2 pl = some (.lst []):=s2 _ _ upd_same
   have plpt:pl≠pt:=ne_of_none hpl2 hpt
   have hptH:H pt = none:=Same.free (Same.trans s1 s2) hpt
   have s12:Same H H2:=Same.trans s1 s2
   rw [partsT_seen,List.map_map]
   have pln:=partsT_len t
   have psum:∀ u∈partsT t,(∀ c∈u,c∈t)∧u.length≤t.length:=fun u hu=>partsT_sum hu
   generalize partsT t = us at *
   refine ⟨pt,_,rfl,SqL.of upd_same,for_it (n:=us.length) (fun i σ Hc=>(∃ u v w,σ = [some (.ref s),some (.ref l),some (.ref pl),u,v,w])∧Same H Hc∧Hc pt = some (.lst (us.map ((fun t=>V.str (S t)) ∘ Bk.seen)))∧∃ ss qs,Hc pl = some (.lst (ss.map V.ref))∧PlsAt a Hc ss qs∧qs.length = i∧Bk.readAll d.book 0 us = readOn qs (Bk.readAll d.book i (us.drop i)))
    ⟨⟨_,_,_,rfl⟩,Same.put s12 hptH,upd_same,[],[],(upd_ne plpt).trans hpl2,.nil,rfl,?_⟩ ?_ ?_ ?_ ?_⟩
   · rw [List.drop_zero]
     cases Bk.readAll d.book 0 us <;> rfl
   · rintro i σ Hc hi ⟨_,_,p,_⟩
     exact ⟨_,V.str (S (Bk.seen us[i])),SqL.of p,by rw [List.getElem?_map,List.getElem?_eq_getElem hi]; rfl⟩
   · rintro σ Hc ⟨_,_,p,_⟩
     exact ⟨_,SqL.of p,by rw [List.length_map]; exact Nat.le_refl _⟩
   · rintro i x σ Hc H' hi ⟨⟨u,v,w',rfl⟩,g1,g2,ss,qs,g3,g4,g5,g6⟩ ⟨tp,y,rfl,htp,rfl,hy⟩
     have hy:=hy _ (SqL.of g2)
     rw [List.getElem?_map] at hy
     obtain ⟨part,hp,rfl⟩:=Option.map_eq_some_iff.mp hy
     obtain ⟨q1,q2⟩:=psum part (List.mem_of_getElem? hp)
     have s3:Same Hc (upd Hc tp (.tup [.int (i:Nat),V.str (S (Bk.seen part))])):=Same.new htp
     have sH:=Same.trans g1 s3
     have hs3:=sH _ _ hs
     refine ⟨tp,_,rfl,SqT.of upd_same,rfl,_,_,rfl,_,_,rfl,rfl,?_⟩
     refine ⟨_,rfl,_,_,_,_,_,rfl,hs3,T.c_Session.cl,T.n_Session_book,sf_book _ _ _ _ _ _,_,rfl,b,d.book,Bk.seen part,rfl,⟨_,_,_,_,hS.bk.mono sH⟩,asc_seen (fun c hc=>hb255 c (q1 c hc)),(by rw [Bk.seen_length]; omega),fun e H4 s4=>?_,fun p z H4 e r n s4 hP=>?_⟩
     · rw [Bk.read_seen hS.bk.ok] at e
       rw [g6,readAll_bad hp e] at k
       have s5:=Same.trans sH s4
       refine ⟨_,rfl,_,rfl,iteT ⟨3,rfl,fun d1 h1=>⟨_,rfl,(show 1≤sizeLine by decide),fun d2 h2=>?_⟩⟩⟩
       refine ⟨d1,d2,_,_,rfl,rfl,(upd_ne (ne_of_none upd_same h2)).trans upd_same,upd_same,(show 1 + 1≤sizeLine by decide),fun d3 h3=>?_⟩
       exact k.after (Same.trans s5 (Same.trans (Same.new h1) (Same.new h2))) |>.now d3 h3
     · rw [Bk.read_seen hS.bk.ok] at e
       have s34:=Same.trans s3 s4
       have g3':=s34 _ _ g3
       refine ⟨_,rfl,_,rfl,iteF ⟨_,rfl,.inl ⟨rfl,_,SqL.of g3'⟩,_,rfl,pl,_,_,rfl,rfl,g3',?_,?_⟩⟩
       · rw [List.length_map,Paired.len g4]
         omega
       · refine ⟨⟨_,_,_,rfl⟩,Same.put (Same.trans g1 s34) hpl,(upd_ne plpt.symm).trans (s34 _ _ g2),ss ++ [p],qs ++ [z],?_,PlsAt.updL (Paired.snoc hP (PlsAt.mono s34 g4)) g3',?_,?_⟩
         · rw [upd_same,List.map_append]
           rfl
         · rw [List.length_append,List.length_singleton,g5]
         · rw [g6,readAll_good hp e]
   · rintro σ Hc ⟨⟨u,v,w',rfl⟩,g1,g2,ss,qs,g3,g4,g5,g6⟩
     have e0:Bk.readAll d.book 0 us = .ok qs:=by
      rw [g6,List.drop_length]
      show Except.ok (qs ++ []) = _
      rw [List.append_nil]
     rw [e0] at k
     have k:NewInts H (outV (if 256 < qs.length then .refused 4 else .places qs)) Q:=k
     refine ⟨_,rfl,pl,_,rfl,.inl (SqL.of g3),_,_,rfl,rfl,_,rfl,ite2 (fun h2=>?_) (fun h2=>?_)⟩
     · have h2:=of_decide_eq_true h2
       rw [List.length_map,Paired.len g4] at h2
       rw [if_pos (by omega)] at k
       exact ⟨4,rfl,(k.after g1).now⟩
     · have h2:=dne h2
       rw [List.length_map,Paired.len g4] at h2
       rw [if_neg (by omega),out_places] at k
       refine ⟨_,rfl,pl,ss,qs,rfl,g3,g4,(by omega),fun d1 H5 n5 s5 e5=>⟨d1,_,rfl,e5,?_,k.after (Same.trans g1 s5)⟩⟩
       rw [fives_len]
       omega
end
end Hp
namespace Hp
open PySem L2
section
variable {P:Program} {w:World} {K:PySem.W.Frag} {mg:Str→Option Value} {base:Heap} {a:Adr}
def AlienB (o:HO):Prop:=(∃ C d fs,o = .ins C d fs∧key1 fs≠some "style"∧key1 fs≠some "numerals"∧key1 fs≠some "texts")∨(∃ xs:List Int,o = .lst (xs.map V.int))
theorem AlienB.texts {o:HO} (h:AlienB o) (i n:Nat):o≠.lst (textsV i n):=by
 rcases h with ⟨C,d,fs,rfl,_⟩ | ⟨xs,rfl⟩
 · exact fun z=>nomatch z
 · intro e
   injection e with e
   unfold textsV at e
   cases xs with
   | nil=>cases e
   | cons x xs=>injection e with e1 e2; cases e1
theorem AlienB.refs {o:HO} (h:AlienB o) (as:List Addr) (h4:as.length = 4):o≠.lst (as.map V.ref):=by
 rcases h with ⟨C,d,fs,rfl,_⟩ | ⟨xs,rfl⟩
 · exact fun z=>nomatch z
 · intro e
   injection e with e
   cases as with
   | nil=>cases h4
   | cons y as =>
     cases xs with
     | nil=>cases e
     | cons x xs=>injection e with e1 e2; cases e1
theorem AlienB.dk {o:HO} (h:AlienB o) (kvs:List (Key × V)):o≠.dK kvs:=by
 rcases h with ⟨C,d,fs,rfl,_⟩ | ⟨xs,rfl⟩ <;> exact fun z=>nomatch z
theorem AlienB.run {o:HO} (h:AlienB o) (C d:Addr) (x:Run × Nat):o≠.ins C d (runF x):=by
 rcases h with ⟨C',d',fs,rfl,h1,_⟩ | ⟨xs,rfl⟩
 · exact ins_ne (fun z=>h1 (z.trans rfl))
 · exact fun z=>nomatch z
theorem AlienB.book {o:HO} (h:AlienB o) (C d nm rs:Addr) (n:Nat) (ld:Addr):o≠.ins C d (bookF nm rs n ld):=by
 rcases h with ⟨C',d',fs,rfl,_,h1,_⟩ | ⟨xs,rfl⟩
 · exact ins_ne (fun z=>h1 (z.trans rfl))
 · exact fun z=>nomatch z
theorem AlienB.nums {o:HO} (h:AlienB o) (C d l:Addr):o≠.ins C d (numsF l):=by
 rcases h with ⟨C',d',fs,rfl,_,_,h1⟩ | ⟨xs,rfl⟩
 · exact ins_ne (fun z=>h1 (z.trans rfl))
 · exact fun z=>nomatch z
variable {H:Hp} {y s nm rs ld sg b:Addr} {ls:List Addr} {o o':HO} {bk:Book} {d:IhPages.State}
theorem NumsAt.alien (h:NumsAt a H nm ls) (hy:H y = some o) (al:AlienB o):NumsAt a (upd H y o') nm ls:=by
 have hl:y ∉ ls:=h.out hy al.texts
 obtain ⟨dn,L,g1,g2⟩:=h.ob
 refine ⟨⟨dn,L,(upd_ne (ne_of g1 hy fun z=>al.nums _ _ _ z.symm)).trans g1,(upd_ne (ne_of g2 hy fun z=>al.refs ls h.len z.symm)).trans g2⟩,h.len,h.nd,fun i x hi=>?_⟩
 obtain ⟨n,g3,g4⟩:=h.at_ i x hi
 have hxy:x≠y:=fun z=>hl (by rw [← z]; exact List.mem_of_getElem? hi)
 exact ⟨n,g3,(upd_ne hxy).trans g4⟩
theorem BookAt.alien (h:BookAt a H b nm rs ld ls bk) (hy:H y = some o) (al:AlienB o) (hr:y≠rs):BookAt a (upd H y o') b nm rs ld ls bk:=by
 obtain ⟨db,hb⟩:=h.ob
 obtain ⟨as,h1,h2⟩:=h.runs
 refine ⟨⟨db,(upd_ne (ne_of hb hy fun z=>al.book _ _ _ _ _ _ z.symm)).trans hb⟩,⟨as,(upd_ne hr.symm).trans h1,Paired.mapP h2 fun x r q=>?_⟩,(upd_ne (ne_of h.lett hy fun z=>al.dk _ z.symm)).trans h.lett,h.nums.alien hy al,h.ok,h.pages,h.few⟩
 obtain ⟨dr,q⟩:=q
 exact ⟨dr,(upd_ne (ne_of q hy fun z=>al.run _ _ _ z.symm)).trans q⟩
theorem SessAt.alien (h:SessAt a H s nm rs ld ls sg b d) (hy:H y = some o) (al:AlienB o) (hs:y≠s) (hr:y≠rs):SessAt a (upd H y o') s nm rs ld ls sg b d:=by
 obtain ⟨ds,g⟩:=h.ob
 exact ⟨⟨ds,(upd_ne hs.symm).trans g⟩,(upd_ne (ne_of h.sig hy fun z=>al.dk _ z.symm)).trans h.sig,h.bk.alien hy al hr,h.way⟩
theorem SessAt.mono {H':Hp} (e:Same H H') (h:SessAt a H s nm rs ld ls sg b d):SessAt a H' s nm rs ld ls sg b d:=⟨let ⟨x,g⟩:=h.ob; ⟨x,e _ _ g⟩,e _ _ h.sig,h.bk.mono e,h.way⟩
def Apart (F:Addr→Prop) (s b rs ld:Addr) (ls:List Addr):Prop:=∀ x,F x→x≠s∧x≠b∧x≠rs∧x≠ld∧x ∉ ls
def SessV (a:Adr) (H:Hp) (s:Addr) (d:IhPages.State) (F:Addr→Prop):Prop:=∃ nm rs ld ls sg b,SessAt a H s nm rs ld ls sg b d∧Apart F s b rs ld ls
theorem SessV.mono {H':Hp} {F:Addr→Prop} (e:Same H H') (h:SessV a H s d F):SessV a H' s d F:=let ⟨nm,rs,ld,ls,sg,b,h1,h2⟩:=h; ⟨nm,rs,ld,ls,sg,b,h1.mono e,h2⟩
theorem SessV.r {F:Addr→Prop} (h:SessV a H s d F):SessR a H s d:=let ⟨nm,rs,ld,ls,sg,b,h1,_⟩:=h; ⟨nm,rs,ld,ls,sg,b,h1⟩
theorem SessV.alien {F:Addr→Prop} (h:SessV a H s d F) (hF:F y) (hy:H y = some o) (al:AlienB o):SessV a (upd H y o') s d F:=by
 obtain ⟨nm,rs,ld,ls,sg,b,h1,h2⟩:=h
 obtain ⟨g1,g2,g3,_⟩:=h2 y hF
 exact ⟨nm,rs,ld,ls,sg,b,h1.alien hy al g1 g3,h2⟩
def Kept (F:Addr→Prop) (H H':Hp):Prop:=∀ x o,F x→H x = some o→H' x = some o
theorem Kept.of {F:Addr→Prop} {H H':Hp} (e:Same H H'):Kept F H H':=fun x o _ h=>e x o h
def Ans (a:Adr) (H:Hp) (s:Addr) (F:Addr→Prop) (d:IhPages.State) (out:List V) (Q:VK):Prop:=∀ l H',SessV a H' s d F→Kept F H H'→H' l = some (.lst out)→¬ F l→Q (.ref l) H'
theorem Ans.fin {Hx:Hp} {F:Addr→Prop} {out:List V} {Q:VK} (k:Ans a H s F d out Q) (hF:∀ x,F x→H x≠none) (hS:SessV a Hx s d F) (hk:Kept F H Hx):NewInts Hx out Q:=fun l H' n sm e =>
 k l H' (hS.mono sm) (fun x o f h=>sm _ _ (hk x o f h)) e fun hf=>by
   cases q:H l with
   | none=>exact hF l hf q
   | some o=>rw [hk l o hf q] at n; cases n
def sessG (w j d:Int) (nm sg b:Addr):List (Str × V):=[("way",.int w),("joins",.int j),("drops",.int d),("numerals",.ref nm),("signs",.ref sg),("book",.ref b)]
theorem sG_way (w w' j d:Int) (nm sg b:Addr):putF "way" (.int w') (sessG w j d nm sg b) = sessG w' j d nm sg b:=rfl
theorem sG_joins (w j' j d:Int) (nm sg b:Addr):putF "joins" (.int j') (sessG w j d nm sg b) = sessG w j' d nm sg b:=rfl
theorem sG_drops (w d' j d:Int) (nm sg b:Addr):putF "drops" (.int d') (sessG w j d nm sg b) = sessG w j d' nm sg b:=rfl
theorem sG_book (w j d:Int) (nm sg b b':Addr):putF "book" (.ref b') (sessG w j d nm sg b) = sessG w j d nm sg b':=rfl
theorem sG_numerals (w j d:Int) (nm sg b:Addr):(sessG w j d nm sg b).lookup ("numerals":Str) = some (.ref nm):=rfl
theorem sG_eq (w:Nat) (j d:Bool) (nm sg b:Addr):sessF w j d nm sg b = sessG (w:Int) (mI j) (mI d) nm sg b:=rfl
theorem alien_way (C d0:Addr) {fs:List (Str × V)} (h:key1 fs = some "way"):AlienB (.ins C d0 fs):=.inl ⟨C,d0,fs,rfl,by rw [h]; decide,by rw [h]; decide,by rw [h]; decide⟩
theorem mI_le {j:Nat} (h:j≤1):(j:Int) = mI (j == 1):=by
 have:j = 0∨j = 1:=by omega
 rcases this with rfl | rfl <;> rfl
def sp_Session_begin (a:Adr):Sp:=fun vs H Q _=>∃ (s:Addr) (d:IhPages.State) (F:Addr→Prop) (w j r:Nat),vs = [.ref s,.int (w:Int),.int (j:Int),.int (r:Int)]∧SessV a H s d F∧(∀ x,F x→H x≠none)∧Ans a H s F (IhPages.step d (.begin_ w j r)).1 (outV (IhPages.step d (.begin_ w j r)).2) Q
theorem ok_Session_begin (T:Txt K mg a):FnOk P w K mg base CX0 3 a.Session_begin.f a.Session_begin.d ["self","way","joins","drops"] (sp_Session_begin a):=by
 have sc:FnScope ["self","way","joins","drops"] ["self","way","joins","drops"] (defScope s_Session_begin):=⟨rfl,rfl,rfl,by decide +kernel,rfl,by decide +kernel,by decide +kernel⟩
 refine T.Session_begin.fn.ok sc (fun vs H Q E h=>?_) (fun cdv A outer s H vs Q E hr h=>?_)
 · obtain ⟨_,_,_,_,_,_,rfl,_⟩:=h
   rfl
 · obtain ⟨s,d,F,w,j,r,rfl,hV,hF,k⟩:=h
   refine ⟨_,(pss_cons (ps_if (PW.pt (pw_or (pt_cmpR op_gt (pv 1) (pe_gv T.g_MOST_WAY) (nomark _)) (pw_or (pt_cmpR op_gt (pv 2) pe_int (nomark _)) (pw_or1 (pt_cmpR op_gt (pv 3) pe_int (nomark _))))))
     (pss_one (ps_ret (pe_call (ok_refused T) (hr.mono (by decide)) rfl T.refused.m T.refused.fn.kp T.refused.b .nil pass0 (pa_1 pe_int))))
     pss_nil)
    (pss_cons (ps_fld (pv 0) (pv 1) rfl)
    (pss_cons (ps_fld (pv 0) (pv 2) rfl)
    (pss_cons (ps_fld (pv 0) (pv 3) rfl)
    (pss_cons (ps_fld (pv 0) (pe_make T.c_Book.mkd (ok_Book_init T) (hr.mono (by decide)) rfl T.c_Book.m T.Book_init.b .nil pass0 (pa_1 (pe_fld (pv 0) rfl))) rfl)
    (pss_one (ps_ret (pe_call (ok_answered T) (hr.mono (by decide)) rfl T.answered.m T.answered.fn.kp T.answered.b .nil pass0 (pa_1 (pe_lst (pa_1 pe_int))))))))))),?_⟩
   obtain ⟨nm,rs,ld,ls,sg,b,hS,hA⟩:=id hV
   obtain ⟨ds,hs⟩:=id hS.ob
   rw [sG_eq] at hs
   have bad:(4 < w∨1 < j∨1 < r)→Ans a H s F d (outV (.refused 1)) Q:=fun h=>by
    have e:IhPages.step d (.begin_ w j r) = (d,.refused 1):=if_pos h
    rw [e] at k
    exact k
   have no:=fun h=>((bad h).fin hF hV (Kept.of (Same.refl _))).now
   refine ⟨_,rfl,_,_,rfl,rfl,_,rfl,ite2 (fun h=>?_) (fun h=>?_)⟩
   · have h:=of_decide_eq_true h
     exact iteT ⟨1,rfl,no (by omega)⟩
   have h:=dne h
   refine ⟨_,rfl,_,_,rfl,rfl,_,rfl,ite2 (fun h1=>?_) (fun h1=>?_)⟩
   · have h1:=of_decide_eq_true h1
     exact iteT ⟨1,rfl,no (by omega)⟩
   have h1:=dne h1
   refine ⟨_,rfl,_,_,rfl,rfl,_,rfl,ite2 (fun h2=>?_) (fun h2=>?_)⟩
   · have h2:=of_decide_eq_true h2
     exact ⟨1,rfl,no (by omega)⟩
   have h2:=dne h2
   have e:IhPages.step d (.begin_ w j r) = (⟨w,j == 1,r == 1,[]⟩,.number 0):=if_neg (by omega)
   rw [e] at k
   refine ⟨_,rfl,_,rfl,s,a.c_Session,ds,_,rfl,hs,T.c_Session.cl,T.n_Session_way,(by show 6 < 1000; decide),?_⟩
   rw [sG_way]
   refine ⟨_,rfl,_,rfl,s,a.c_Session,ds,_,rfl,upd_same,T.c_Session.cl,T.n_Session_joins,(by show 6 < 1000; decide),?_⟩
   rw [sG_joins]
   refine ⟨_,rfl,_,rfl,s,a.c_Session,ds,_,rfl,upd_same,T.c_Session.cl,T.n_Session_drops,(by show 6 < 1000; decide),?_⟩
   rw [sG_drops,upd_upd,upd_upd]
   have hN:NumsAt a (upd H s (.ins a.c_Session ds (sessG (w:Int) (j:Int) (r:Int) nm sg b))) nm ls:=hS.bk.nums.alien hs (alien_way _ _ rfl)
   have hsig:upd H s (.ins a.c_Session ds (sessG (w:Int) (j:Int) (r:Int) nm sg b)) sg = some (.dK signK):=(upd_ne (ne_of hS.sig hs fun z=>nomatch z)).trans hS.sig
   have hs3:upd H s (.ins a.c_Session ds (sessG (w:Int) (j:Int) (r:Int) nm sg b)) s = some (.ins a.c_Session ds (sessG (w:Int) (j:Int) (r:Int) nm sg b)):=upd_same
   have kp:∀ x o,F x→H x = some o→upd H s (.ins a.c_Session ds (sessG (w:Int) (j:Int) (r:Int) nm sg b)) x = some o:=fun x o f g=>(upd_ne (hA x f).1).trans g
   generalize upd H s (.ins a.c_Session ds (sessG (w:Int) (j:Int) (r:Int) nm sg b)) = H3 at *
   have hF3:∀ x,F x→H3 x≠none:=fun x f=>by
    cases q:H x with
    | none=>exact absurd q (hF x f)
    | some o=>rw [kp x o f q]; exact fun z=>nomatch z
   refine ⟨_,rfl,_,_,_,_,_,rfl,hs3,T.c_Session.cl,T.n_Session_numerals,sG_numerals _ _ _ _ _ _,fun x dx n1 n2 n3=>⟨x,dx,nm,ls,rfl,upd_same,?_,fun H4 rs' ld' hB nrs nld made=>⟨rfl,?_⟩⟩⟩
   · exact hN.mono fun c o e=>(upd_ne (ne_of_none e n1)).trans ((upd_ne (ne_of_none e n2)).trans e)
   have s34:Same H3 H4:=Same.made n1 n2 made
   have hs4:=s34 _ _ hs3
   refine ⟨_,rfl,s,a.c_Session,ds,_,rfl,hs4,T.c_Session.cl,T.n_Session_book,(by show 6 < 1000; decide),?_⟩
   rw [sG_book]
   obtain ⟨as',q1,_⟩:=id hB.runs
   have fresh:∀ c:Addr,upd (upd H3 dx (.own x)) x (.ins a.c_Book dx []) c = none→H3 c = none:=fun c hc=>by
    by_cases z1:c = x
    · rw [z1]; exact n1
    · rw [upd_ne z1] at hc
      by_cases z2:c = dx
      · rw [z2]; exact n2
      · rw [upd_ne z2] at hc; exact hc
   have hs5:SessV a (upd H4 s (.ins a.c_Session ds (sessG (w:Int) (j:Int) (r:Int) nm sg x))) s ⟨w,j == 1,r == 1,[]⟩ F:=by
    refine ⟨nm,rs',ld',ls,sg,x,⟨⟨ds,?_⟩,(upd_ne (ne_of (s34 _ _ hsig) hs4 fun z=>nomatch z)).trans (s34 _ _ hsig),hB.alien hs4 (alien_way _ _ rfl) (ne_of hs4 q1 fun z=>nomatch z),(show w≤4 by omega)⟩,fun y f=>?_⟩
    · rw [upd_same,sG_eq]
      show _ = some (HO.ins a.c_Session ds (sessG (w:Int) (mI (j == 1)) (mI (r == 1)) nm sg x))
      rw [← mI_le (by omega),← mI_le (by omega)]
    · have hy:=hF3 y f
      exact ⟨(hA y f).1,fun z=>hy (z ▸ n1),fun z=>hy (z ▸ fresh _ nrs),fun z=>hy (z ▸ fresh _ nld),(hA y f).2.2.2.2⟩
   have kp5:Kept F H (upd H4 s (.ins a.c_Session ds (sessG (w:Int) (j:Int) (r:Int) nm sg x))):=fun y o f g=>(upd_ne (hA y f).1).trans (s34 _ _ (kp y o f g))
   refine ⟨(show 1≤sizeLine by decide),fun l hl=>⟨l,_,rfl,upd_same,(show 1≤1000000 by decide),NewInts.after (k.fin hF hs5 kp5) (Same.new hl)⟩⟩
end
end Hp
namespace Hp
open PySem L2
section
variable {P:Program} {w:World} {K:PySem.W.Frag} {mg:Str→Option Value} {base:Heap} {a:Adr}
theorem sign_let (bk:Book):HO.dK signK≠HO.dK (letK bk):=fun e=>by
 injection e with e
 have e0:signK.head? = some ((Sum.inl 46:Key),V.str (S [46])):=rfl
 rw [e] at e0
 unfold letK at e0
 cases h:Bk.lets 0 bk with
 | nil=>rw [h] at e0; cases e0
 | cons x r=>rw [h] at e0; cases e0
def sp_Session_run (K:PySem.W.Frag) (a:Adr):Sp:=fun vs H Q _=>∃ (s l:Addr) (d:IhPages.State) (F:Addr→Prop) (st f c:Nat) (t:Bytes),vs = [.ref s,.int (st:Int),.int (f:Int),.int (c:Int),.ref l]∧SessV a H s d F∧(∀ x,F x→H x≠none)∧H l = some (.lst (intsV t))∧t.length≤100000∧(∀ c∈t,c≤255) ∧
 Ans a H s F (IhPages.step d (.run st f c t)).1 (outV (IhPages.step d (.run st f c t)).2) Q
theorem ok_Session_run (T:Txt K mg a):FnOk P w K mg base CX0 6 a.Session_run.f a.Session_run.d ["self","style","first","count","told"] (sp_Session_run K a):=by
 have sc:FnScope ["self","style","first","count","told","prefix","run_number"] ["self","style","first","count","told"] (defScope s_Session_run):=⟨rfl,rfl,rfl,by decide +kernel,rfl,by decide +kernel,by decide +kernel⟩
 refine T.Session_run.fn.ok sc (fun vs H Q E h=>?_) (fun cdv A outer s H vs Q E hr h=>?_)
 · obtain ⟨_,_,_,_,_,_,_,_,rfl,_⟩:=h
   rfl
 · obtain ⟨s,l,d,F,st,f,c,t,rfl,hV,hF,hl,hlen,hb255,k⟩:=h
   refine ⟨_,(pss_cons (ps_set (i:=5) sc.nd rfl (Or.inl rfl) (pe_call (ok_text_of T) (hr.mono (by decide)) rfl T.text_of.m T.text_of.fn.kp T.text_of.b .nil pass0 (pa_2 (pe_fld (pv 0) rfl) (pv 4))))
    (pss_cons (ps_if (pt_not (pt_val (pe_call (ok_is_run T) (hr.mono (by decide)) rfl T.is_run.m T.is_run.fn.kp T.is_run.b .nil pass0 (pa_4 (pv 1) (pv 2) (pv 3) (pv 5)))))
     (pss_one (ps_ret (pe_call (ok_refused T) (hr.mono (by decide)) rfl T.refused.m T.refused.fn.kp T.refused.b .nil pass0 (pa_1 pe_int))))
     pss_nil)
    (pss_cons (ps_set (i:=6) sc.nd rfl (Or.inl rfl) (pe_callB call_len_seq (by rfl) T.b_len PySem.boot_len (pa_1 (pe_fld (pe_fld (pv 0) rfl) rfl))))
    (pss_cons (ps_if (PW.pt (pw_or (pt_cmpR op_eq (pv 6) (pe_gv T.g_MOST_RUNS) (nomark _)) (pw_or1 (pt_cmpR op_gt (pe_op op_add (pe_fld (pe_fld (pv 0) rfl) rfl) (pv 3)) (pe_gv T.g_MOST_PAGES) (nomark _)))))
     (pss_one (ps_ret (pe_call (ok_refused T) (hr.mono (by decide)) rfl T.refused.m T.refused.fn.kp T.refused.b .nil pass0 (pa_1 pe_int))))
     pss_nil)
    (pss_cons (ps_if (pt_not (pt_val (pe_meth (pe_fld (pv 0) rfl) T.c_Book.cl T.Book_add_run.m (ok_Book_add_run T) (hr.mono (by decide)) T.Book_add_run.b .nil pass0 (pa_4 (pv 1) (pv 2) (pv 3) (pv 5)))))
     (pss_one (ps_ret (pe_call (ok_refused T) (hr.mono (by decide)) rfl T.refused.m T.refused.fn.kp T.refused.b .nil pass0 (pa_1 pe_int))))
     pss_nil)
    (pss_one (ps_ret (pe_call (ok_answered T) (hr.mono (by decide)) rfl T.answered.m T.answered.fn.kp T.answered.b .nil pass0 (pa_1 (pe_lst (pa_1 (pv 6)))))))))))),?_⟩
   obtain ⟨nm,rs,ld,ls,sg,b,hS,hA⟩:=id hV
   obtain ⟨ds,hs⟩:=id hS.ob
   have estep:IhPages.step d (.run st f c t) = if IhPlace.Run.right ⟨st,f,c,t⟩ = false then (d,.refused 1) else if 64≤d.book.length∨65536 < d.book.pages + c then (d,.refused 2) else if IhPages.alikeNames (d.book ++ [⟨st,f,c,t⟩]) = true then (d,.refused 3) else ({ d with book:=d.book ++ [⟨st,f,c,t⟩] },.number d.book.length):=rfl
   rw [estep] at k
   refine ⟨_,rfl,_,_,_,_,_,rfl,hs,T.c_Session.cl,T.n_Session_signs,sf_signs _ _ _ _ _ _,_,rfl,sg,l,t,rfl,hS.sig,hl,hlen,hb255,fun H1 s1=>?_⟩
   have hV1:=hV.mono s1
   have kp1:Kept F H H1:=Kept.of s1
   have hS1:=hS.mono s1
   obtain ⟨ds1,hs1⟩:=id hS1.ob
   obtain ⟨db,hb⟩:=id hS1.bk.ob
   obtain ⟨as,hrs,hpair⟩:=id hS1.bk.runs
   have has:as.length = d.book.length:=by rw [Paired.len hpair,Bk.ws_length]
   have hfew:=hS.bk.few
   obtain ⟨es1,es2⟩:=Bk.right_seen st f c t
   refine ⟨_,rfl,_,rfl,_,rfl,_,rfl,st,f,c,Bk.seen t,rfl,asc_seen hb255,(by rw [Bk.seen_length]; exact hlen),_,rfl,ite2 (fun h=>?_) (fun h=>?_)⟩
   · rw [es1] at h
     have h:IhPlace.Run.right ⟨st,f,c,t⟩ = false:=by simpa using h
     rw [if_pos h] at k
     exact ⟨1,rfl,(k.fin hF hV1 kp1).now⟩
   rw [es1] at h
   have h:IhPlace.Run.right ⟨st,f,c,t⟩ = true:=by simpa using h
   have hR:Bk.RunOk ⟨st,f,c,t⟩:=(Bk.right_iff _).mp h
   rw [if_neg (by rw [h]; exact Bool.noConfusion)] at k
   rw [es2 h]
   refine ⟨_,rfl,_,_,_,_,_,rfl,hs1,T.c_Session.cl,T.n_Session_book,sf_book _ _ _ _ _ _,_,_,_,_,_,rfl,hb,T.c_Book.cl,T.n_Book_runs,bf_runs _ _ _ _,rs,_,rfl,.inl (SqL.of hrs),?_⟩
   rw [List.length_map,has]
   have two:(64≤d.book.length∨65536 < d.book.pages + c)→∀ l,H1 l = none→Q (.ref l) (upd H1 l (.lst [.int (-((2:Nat):Int))])):=fun hh=>by
    rw [if_pos hh] at k
    exact (k.fin hF hV1 kp1).now
   refine ⟨_,rfl,rfl,_,rfl,ite2 (fun h1=>?_) (fun h1=>?_)⟩
   · have h1:=of_decide_eq_true h1
     rw [int_eq] at h1
     exact iteT ⟨2,rfl,two (by omega)⟩
   have h1:=dne h1
   rw [int_eq] at h1
   refine ⟨_,rfl,_,_,_,_,_,rfl,hs1,T.c_Session.cl,T.n_Session_book,sf_book _ _ _ _ _ _,_,_,_,_,_,rfl,hb,T.c_Book.cl,T.n_Book_total,bf_total _ _ _ _,_,rfl,_,_,rfl,rfl,_,_,rfl,rfl,_,rfl,ite2 (fun h2=>?_) (fun h2=>?_)⟩
   · have h2:=of_decide_eq_true h2
     exact ⟨2,rfl,two (by omega)⟩
   have h2:=dne h2
   rw [if_neg (by omega)] at k
   have keep:∀ H2,BookAt a H2 b nm rs ld ls d.book∨BookAt a H2 b nm rs ld ls (d.book ++ [⟨st,f,c,t⟩])→Fr4 b rs ld ls H1 H2→(∃ dx,H2 s = some (.ins a.c_Session dx (sessF d.way d.joins d.drops nm sg b)))∧H2 sg = some (.dK signK)∧Kept F H H2:=fun H2 _ fr=>by
    have ns:s ∉ ls:=hS1.bk.nums.out hs1 fun _ _ z=>nomatch z
    have nsg:sg ∉ ls:=hS1.bk.nums.out hS1.sig fun _ _ z=>nomatch z
    refine ⟨⟨ds1,fr _ _ hs1 (ne_of hs1 hb (ins_ne (by rw [show key1 (sessF d.way d.joins d.drops nm sg b) = some "way" from rfl,show key1 (bookF nm rs d.book.pages ld) = some "numerals" from rfl]; decide))) (ne_of hs1 hrs fun z=>nomatch z) (ne_of hs1 hS1.bk.lett fun z=>nomatch z) ns⟩,fr _ _ hS1.sig (ne_of hS1.sig hb fun z=>nomatch z) (ne_of hS1.sig hrs fun z=>nomatch z) (ne_of hS1.sig hS1.bk.lett (sign_let _)) nsg,fun x o fx hx=>?_⟩
    obtain ⟨_,g2,g3,g4,g5⟩:=hA x fx
    exact fr x o (s1 _ _ hx) g2 g3 g4 g5
   refine ⟨_,rfl,_,_,_,_,_,rfl,hs1,T.c_Session.cl,T.n_Session_book,sf_book _ _ _ _ _ _,_,_,_,rfl,hb,rfl,_,rfl,_,rfl,_,rfl,_,rfl,b,nm,rs,ld,ls,d.book,⟨st,f,c,t⟩,rfl,hS1.bk,hR,(show d.book.pages + c≤65536 by omega),(by omega),fun hal H2 hB2 fr=>?_,fun hal H2 hB2 fr=>?_⟩
   · rw [if_pos hal] at k
     obtain ⟨q1,q2,q3⟩:=keep H2 (.inl hB2) fr
     have hV2:SessV a H2 s d F:=⟨nm,rs,ld,ls,sg,b,⟨q1,q2,hB2,hS.way⟩,hA⟩
     exact ⟨_,rfl,iteT ⟨3,rfl,(k.fin hF hV2 q3).now⟩⟩
   · rw [if_neg (by rw [hal]; exact Bool.noConfusion)] at k
     obtain ⟨q1,q2,q3⟩:=keep H2 (.inr hB2) fr
     have hV2:SessV a H2 s { d with book:=d.book ++ [⟨st,f,c,t⟩] } F:=⟨nm,rs,ld,ls,sg,b,⟨q1,q2,hB2,hS.way⟩,hA⟩
     exact ⟨_,rfl,iteF ⟨_,rfl,(show 1≤sizeLine by decide),fun p hp=>⟨p,_,rfl,upd_same,(show 1≤1000000 by decide),NewInts.after (k.fin hF hV2 q3) (Same.new hp)⟩⟩⟩
def sp_Session_init (a:Adr):Sp:=fun vs H Q _=>∃ (p dx:Addr),vs = [.ref p]∧H p = some (.ins a.c_Session dx [])∧∀ H' nm rs ld ls sg b,SessAt a H' p nm rs ld ls sg b IhPages.start→(∀ o,H rs = some o→rs = p)→Made H H' p→Q .non H'
theorem ok_Session_init (T:Txt K mg a):FnOk P w K mg base CX0 3 a.Session_init.f a.Session_init.d ["self"] (sp_Session_init a):=by
 have sc:FnScope ["self"] ["self"] (defScope s_Session_init):=⟨rfl,rfl,rfl,by decide +kernel,rfl,by decide +kernel,by decide +kernel⟩
 refine T.Session_init.fn.ok sc (fun vs H Q E h=>?_) (fun cdv A outer s H vs Q E hr h=>?_)
 · obtain ⟨_,_,rfl,_⟩:=h
   rfl
 · obtain ⟨p,dx,rfl,hp,k⟩:=h
   refine ⟨_,(pss_cons (ps_fld (pv 0) pe_int rfl)
    (pss_cons (ps_fld (pv 0) pe_int rfl)
    (pss_cons (ps_fld (pv 0) pe_int rfl)
    (pss_cons (ps_fld (pv 0) (pe_make0 T.c_Numerals.mkd (ok_Numerals_init T) (hr.mono (by decide)) rfl T.c_Numerals.m T.Numerals_init.b .nil pass0) rfl)
    (pss_cons (ps_fld (pv 0) (pe_call0 (ok_signs_by_byte T) (hr.mono (by decide)) rfl T.signs_by_byte.m T.signs_by_byte.fn.kp T.signs_by_byte.b .nil pass0) rfl)
    (pss_one (ps_fld (pv 0) (pe_make T.c_Book.mkd (ok_Book_init T) (hr.mono (by decide)) rfl T.c_Book.m T.Book_init.b .nil pass0 (pa_1 (pe_fld (pv 0) rfl))) rfl))))))),?_⟩
   refine ⟨_,rfl,p,a.c_Session,dx,_,rfl,hp,T.c_Session.cl,T.n_Session_way,(by show 0 < 1000; decide),?_⟩
   refine ⟨_,rfl,p,a.c_Session,dx,_,rfl,upd_same,T.c_Session.cl,T.n_Session_joins,(by show 1 < 1000; decide),?_⟩
   refine ⟨_,rfl,p,a.c_Session,dx,_,rfl,upd_same,T.c_Session.cl,T.n_Session_drops,(by show 2 < 1000; decide),?_⟩
   rw [upd_upd,upd_upd]
   have m1:∀ x o,H x = some o→x≠p→upd H p (.ins a.c_Session dx (putF "drops" (.int 0) (putF "joins" (.int 0) (putF "way" (.int 0) [])))) x = some o:=fun x o e hx=>(upd_ne hx).trans e
   have e1:upd H p (.ins a.c_Session dx (putF "drops" (.int 0) (putF "joins" (.int 0) (putF "way" (.int 0) [])))) p = some (.ins a.c_Session dx [("way",.int 0),("joins",.int 0),("drops",.int 0)]):=upd_same
   generalize upd H p (.ins a.c_Session dx (putF "drops" (.int 0) (putF "joins" (.int 0) (putF "way" (.int 0) [])))) = H1 at *
   refine fun x1 dx1 n1 n2 n3=>⟨x1,dx1,rfl,upd_same,fun H2 ls hN made=>⟨rfl,?_⟩⟩
   have s12:Same H1 H2:=Same.made n1 n2 made
   have e2:=s12 _ _ e1
   refine ⟨_,rfl,p,a.c_Session,dx,_,rfl,e2,T.c_Session.cl,T.n_Session_numerals,(by show 3 < 1000; decide),?_⟩
   have hN3:NumsAt a (upd H2 p (.ins a.c_Session dx [("way",.int 0),("joins",.int 0),("drops",.int 0),("numerals",.ref x1)])) x1 ls:=hN.alien e2 (alien_way _ _ rfl)
   have m3:∀ x o,H x = some o→x≠p→upd H2 p (.ins a.c_Session dx [("way",.int 0),("joins",.int 0),("drops",.int 0),("numerals",.ref x1)]) x = some o:=fun x o e hx=>(upd_ne hx).trans (s12 _ _ (m1 x o e hx))
   have e3:upd H2 p (.ins a.c_Session dx [("way",.int 0),("joins",.int 0),("drops",.int 0),("numerals",.ref x1)]) p = some (.ins a.c_Session dx [("way",.int 0),("joins",.int 0),("drops",.int 0),("numerals",.ref x1)]):=upd_same
   have ep:putF "numerals" (.ref x1) [("way",.int 0),("joins",.int 0),("drops",.int 0)] = ([("way",.int 0),("joins",.int 0),("drops",.int 0),("numerals",.ref x1)]:List (Str × V)):=rfl
   rw [ep]
   generalize upd H2 p (.ins a.c_Session dx [("way",.int 0),("joins",.int 0),("drops",.int 0),("numerals",.ref x1)]) = H3 at *
   refine ⟨rfl,fun sg H4 nsg s34 hsg=>?_⟩
   have e4:=s34 _ _ e3
   refine ⟨_,rfl,p,a.c_Session,dx,_,rfl,e4,T.c_Session.cl,T.n_Session_signs,(by show 4 < 1000; decide),?_⟩
   have ep2:putF "signs" (.ref sg) [("way",.int 0),("joins",.int 0),("drops",.int 0),("numerals",.ref x1)] = ([("way",.int 0),("joins",.int 0),("drops",.int 0),("numerals",.ref x1),("signs",.ref sg)]:List (Str × V)):=rfl
   rw [ep2]
   have hN5:NumsAt a (upd H4 p (.ins a.c_Session dx [("way",.int 0),("joins",.int 0),("drops",.int 0),("numerals",.ref x1),("signs",.ref sg)])) x1 ls:=(hN3.mono s34).alien e4 (alien_way _ _ rfl)
   have m5:∀ x o,H x = some o→x≠p→upd H4 p (.ins a.c_Session dx [("way",.int 0),("joins",.int 0),("drops",.int 0),("numerals",.ref x1),("signs",.ref sg)]) x = some o:=fun x o e hx=>(upd_ne hx).trans (s34 _ _ (m3 x o e hx))
   have e5:upd H4 p (.ins a.c_Session dx [("way",.int 0),("joins",.int 0),("drops",.int 0),("numerals",.ref x1),("signs",.ref sg)]) p = some (.ins a.c_Session dx [("way",.int 0),("joins",.int 0),("drops",.int 0),("numerals",.ref x1),("signs",.ref sg)]):=upd_same
   have g5:upd H4 p (.ins a.c_Session dx [("way",.int 0),("joins",.int 0),("drops",.int 0),("numerals",.ref x1),("signs",.ref sg)]) sg = some (.dK signK):=(upd_ne (ne_of hsg e4 fun z=>nomatch z)).trans hsg
   generalize upd H4 p (.ins a.c_Session dx [("way",.int 0),("joins",.int 0),("drops",.int 0),("numerals",.ref x1),("signs",.ref sg)]) = H5 at *
   refine ⟨_,rfl,_,_,_,_,_,rfl,e5,T.c_Session.cl,T.n_Session_numerals,rfl,fun b db k1 k2 k3=>⟨b,db,x1,ls,rfl,upd_same,?_,fun H6 rs ld hB nrs nld made6=>⟨rfl,?_⟩⟩⟩
   · exact hN5.mono fun c o e=>(upd_ne (ne_of_none e k1)).trans ((upd_ne (ne_of_none e k2)).trans e)
   have s56:Same H5 H6:=Same.made k1 k2 made6
   have e6:=s56 _ _ e5
   refine ⟨_,rfl,p,a.c_Session,dx,_,rfl,e6,T.c_Session.cl,T.n_Session_book,(by show 5 < 1000; decide),?_⟩
   obtain ⟨as',q1,_⟩:=id hB.runs
   refine k _ x1 rs ld ls sg b ⟨⟨dx,?_⟩,(upd_ne (ne_of (s56 _ _ g5) e6 fun z=>nomatch z)).trans (s56 _ _ g5),hB.alien e6 (alien_way _ _ rfl) (ne_of e6 q1 fun z=>nomatch z),(show 0≤4 by decide)⟩ (fun o ho=>Classical.byContradiction fun hne=>?_) fun x o e hx=>(upd_ne hx).trans (s56 _ _ (m5 x o e hx))
   · rw [upd_same]
     rfl
   · have g:=m5 rs o ho hne
     rw [upd_ne (ne_of_none g k1),upd_ne (ne_of_none g k2),g] at nrs
     cases nrs
end
end Hp
namespace Hp
open PySem L2
section
variable {P:Program} {w:World} {K:PySem.W.Frag} {mg:Str→Option Value} {base:Heap} {a:Adr}
def rdO (a:Adr) (dx c:Addr) (n:Nat):HO:=.ins a.c_Reader dx (readF c n)
theorem rd_alien (dx c:Addr) (n:Nat):AlienB (rdO a dx c n):=.inl ⟨_,_,_,rfl,by rw [show key1 (readF c n) = some "calls" from rfl]; decide,by rw [show key1 (readF c n) = some "calls" from rfl]; decide,by rw [show key1 (readF c n) = some "calls" from rfl]; decide⟩
theorem readF_pos (c:Addr) (n:Nat) (z:Int):putF "position" (.int z) (readF c n) = ([("calls",.ref c),("position",.int z)]:List (Str × V)):=rfl
def CallsAt (K:PySem.W.Frag) (H:Hp) (F:Addr→Prop) (c:Addr) (xs:List V):Prop:=(∀ H',SqL K H' c xs)∨(F c∧Rd H c (.lst xs))
theorem CallsAt.sq {H:Hp} {F:Addr→Prop} {c:Addr} {xs:List V} (h:CallsAt K H F c xs):SqL K H c xs:=by
 rcases h with h | ⟨_,h⟩
 · exact h H
 · exact .inl h
theorem CallsAt.kept {H H':Hp} {F:Addr→Prop} {c:Addr} {xs:List V} (h:CallsAt K H F c xs) (k:∀ o,F c→H c = some o→H' c = some o):CallsAt K H' F c xs:=by
 rcases h with h | ⟨f,h | ⟨o,h⟩⟩
 · exact .inl h
 · exact .inr ⟨f,.inl (k _ f h)⟩
 · exact .inr ⟨f,.inr ⟨o,k _ f h⟩⟩
def sp_Reader_init (a:Adr):Sp:=fun vs H Q _=>∃ (p dx c:Addr),vs = [.ref p,.ref c]∧H p = some (.ins a.c_Reader dx [])∧∀ H',H' p = some (rdO a dx c 0)→Made H H' p→Q .non H'
theorem ok_Reader_init (T:Txt K mg a):FnOk P w K mg base CX0 1 a.Reader_init.f a.Reader_init.d ["self","calls"] (sp_Reader_init a):=by
 have sc:FnScope ["self","calls"] ["self","calls"] (defScope s_Reader_init):=⟨rfl,rfl,rfl,by decide +kernel,rfl,by decide +kernel,by decide +kernel⟩
 refine T.Reader_init.fn.ok sc (fun vs H Q E h=>?_) (fun cdv A outer s H vs Q E hr h=>?_)
 · obtain ⟨_,_,_,rfl,_⟩:=h
   rfl
 · obtain ⟨p,dx,c,rfl,hp,k⟩:=h
   refine ⟨_,(pss_cons (ps_fld (pv 0) (pv 1) rfl)
    (pss_one (ps_fld (pv 0) pe_int rfl))),?_⟩
   refine ⟨_,rfl,_,rfl,p,a.c_Reader,dx,_,rfl,hp,T.c_Reader.cl,T.n_Reader_calls,(by show 0 < 1000; decide),?_⟩
   refine ⟨_,rfl,p,a.c_Reader,dx,_,rfl,upd_same,T.c_Reader.cl,T.n_Reader_position,(by show 1 < 1000; decide),?_⟩
   refine k _ (Eq.trans upd_same rfl) fun b o e hb=>?_
   simp only [upd_ne hb]
   exact e
def sp_Reader_at_end (K:PySem.W.Frag) (a:Adr):Sp:=fun vs H Q _=>∃ (r dx c:Addr) (n:Nat) (xs:List V),vs = [.ref r]∧H r = some (rdO a dx c n)∧SqL K H c xs∧Q (.bl (decide (n = xs.length))) H
theorem ok_Reader_at_end (T:Txt K mg a):FnOk P w K mg base CX0 1 a.Reader_at_end.f a.Reader_at_end.d ["self"] (sp_Reader_at_end K a):=by
 have sc:FnScope ["self"] ["self"] (defScope s_Reader_at_end):=⟨rfl,rfl,rfl,by decide +kernel,rfl,by decide +kernel,by decide +kernel⟩
 refine T.Reader_at_end.fn.ok sc (fun vs H Q E h=>?_) (fun cdv A outer s H vs Q E hr h=>?_)
 · obtain ⟨_,_,_,_,_,rfl,_⟩:=h
   rfl
 · obtain ⟨r,dx,c,n,xs,rfl,hr1,hc,q⟩:=h
   refine ⟨_,(pss_one (ps_ret (pe_cmpR op_eq (pe_fld (pv 0) rfl) (pe_callB call_len_seq (by rfl) T.b_len PySem.boot_len (pa_1 (pe_fld (pv 0) rfl))) (nomark _)))),?_⟩
   refine ⟨_,rfl,_,_,_,_,_,rfl,hr1,T.c_Reader.cl,T.n_Reader_position,df_position c n,_,rfl,_,_,_,_,_,rfl,hr1,T.c_Reader.cl,T.n_Reader_calls,df_calls c n,c,_,rfl,.inl hc,rfl,?_⟩
   have e:decide (V.int (n:Int) = V.int (xs.length:Int)) = decide (n = xs.length):=by simp only [nat_eq]
   rw [← e] at q
   exact q
theorem sq_upd {H:Hp} {c r C dx:Addr} {fs:List (Str × V)} {o:HO} {xs:List V} (h:SqL K H c xs) (hr:H r = some (.ins C dx fs)):SqL K (upd H r o) c xs:=by
 rcases h with (h | ⟨u,h⟩) | h
 · exact .inl (.inl ((upd_ne (ne_of h hr fun z=>nomatch z)).trans h))
 · exact .inl (.inr ⟨u,(upd_ne (ne_of h hr fun z=>nomatch z)).trans h⟩)
 · exact .inr h
def sp_Reader_take_number (K:PySem.W.Frag) (a:Adr):Sp:=fun vs H Q _=>∃ (r dx c:Addr) (n:Nat) (xs:List V) (z:V),vs = [.ref r]∧H r = some (rdO a dx c n)∧SqL K H c xs∧xs[n]? = some z∧Q z (upd H r (rdO a dx c (n + 1)))
theorem ok_Reader_take_number (T:Txt K mg a):FnOk P w K mg base CX0 1 a.Reader_take_number.f a.Reader_take_number.d ["self"] (sp_Reader_take_number K a):=by
 have sc:FnScope ["self","number"] ["self"] (defScope s_Reader_take_number):=⟨rfl,rfl,rfl,by decide +kernel,rfl,by decide +kernel,by decide +kernel⟩
 refine T.Reader_take_number.fn.ok sc (fun vs H Q E h=>?_) (fun cdv A outer s H vs Q E hr h=>?_)
 · obtain ⟨_,_,_,_,_,_,rfl,_⟩:=h
   rfl
 · obtain ⟨r,dx,c,n,xs,z,rfl,hr1,hc,hz,q⟩:=h
   refine ⟨_,(pss_cons (ps_set (i:=1) sc.nd rfl (Or.inl rfl) (pe_ix (show IxR _ (rIxL K) from ix_list) (pe_fld (pv 0) rfl) (pe_fld (pv 0) rfl) (fun _ _=>rfl)))
    (pss_cons (ps_fld (pv 0) (pe_op op_add (pe_fld (pv 0) rfl) pe_int) rfl)
    (pss_one (ps_ret (pv 1))))),?_⟩
   refine ⟨_,rfl,_,_,_,_,_,rfl,hr1,T.c_Reader.cl,T.n_Reader_calls,df_calls c n,_,rfl,_,_,_,_,_,rfl,hr1,T.c_Reader.cl,T.n_Reader_position,df_position c n,c,_,_,_,rfl,rfl,hc,at_of (j:=n) rfl hz,?_⟩
   refine ⟨_,rfl,_,_,_,_,_,rfl,hr1,T.c_Reader.cl,T.n_Reader_position,df_position c n,_,_,rfl,rfl,_,rfl,r,a.c_Reader,dx,_,rfl,hr1,T.c_Reader.cl,T.n_Reader_position,(by show 2 < 1000; decide),_,rfl,?_⟩
   have e:rdO a dx c (n + 1) = .ins a.c_Reader dx (putF "position" (.int ((n:Int) + 1)) (readF c n)):=by
    rw [readF_pos]
    rfl
   rw [e] at q
   exact q
def Rstep (a:Adr) (H H':Hp) (r dx c:Addr) (n:Nat):Prop:=H' r = some (rdO a dx c n)∧∀ x o,H x = some o→x≠r→H' x = some o
theorem cut_row {xs row t:List V} {m:Nat} (h:xs.drop m = row ++ t) (hm:m≤xs.length):cutV xs (some (m:Int)) (some ((m:Int) + (row.length:Int))) = row:=by
 have hl:=congrArg List.length h
 rw [List.length_drop,List.length_append] at hl
 unfold cutV
 have e1:HT.sIx xs.length 0 (some (m:Int)) = m:=by
  show (if (m:Int) < 0 then ((m:Int) + ((xs.length:Nat):Int)).toNat else min (m:Int).toNat xs.length) = m
  rw [if_neg (by omega)]
  omega
 have e2:HT.sIx xs.length xs.length (some ((m:Int) + (row.length:Int))) = m + row.length:=by
  show (if ((m:Int) + (row.length:Int)) < 0 then (((m:Int) + (row.length:Int)) + ((xs.length:Nat):Int)).toNat else min ((m:Int) + (row.length:Int)).toNat xs.length) = m + row.length
  rw [if_neg (by omega)]
  omega
 rw [e1,e2,h,show m + row.length - m = row.length by omega,List.take_left']
 rfl
def sp_Reader_take_row (K:PySem.W.Frag) (a:Adr):Sp:=fun vs H Q _=>∃ (r dx c:Addr) (n:Nat) (xs row t:List V),vs = [.ref r]∧H r = some (rdO a dx c n)∧SqL K H c xs∧n < xs.length∧xs.drop n = .int (row.length:Int) :: (row ++ t)∧∀ l H',H l = none→Rstep a H H' r dx c (n + 1 + row.length)→H' l = some (.lst row)→Q (.ref l) H'
theorem drop_at {α:Type} {xs r:List α} {n:Nat} {z:α} (h:xs.drop n = z :: r):n < xs.length∧xs[n]? = some z∧xs.drop (n + 1) = r:=by
 have hn:n < xs.length:=by
  refine Classical.byContradiction fun q=>?_
  rw [List.drop_of_length_le (by omega)] at h
  cases h
 rw [List.drop_eq_getElem_cons hn] at h
 injection h with h1 h2
 exact ⟨hn,by rw [List.getElem?_eq_getElem hn,h1],h2⟩
theorem ok_Reader_take_row (T:Txt K mg a):FnOk P w K mg base CX0 2 a.Reader_take_row.f a.Reader_take_row.d ["self"] (sp_Reader_take_row K a):=by
 have sc:FnScope ["self","length","row"] ["self"] (defScope s_Reader_take_row):=⟨rfl,rfl,rfl,by decide +kernel,rfl,by decide +kernel,by decide +kernel⟩
 refine T.Reader_take_row.fn.ok sc (fun vs H Q E h=>?_) (fun cdv A outer s H vs Q E hr h=>?_)
 · obtain ⟨_,_,_,_,_,_,_,rfl,_⟩:=h
   rfl
 · obtain ⟨r,dx,c,n,xs,row,t,rfl,hr1,hc,hn,hd,k⟩:=h
   refine ⟨_,(pss_cons (ps_set (i:=1) sc.nd rfl (Or.inl rfl) (pe_meth0 (pv 0) T.c_Reader.cl T.Reader_take_number.m (ok_Reader_take_number T) (hr.mono (by decide)) T.Reader_take_number.b .nil pass0))
    (pss_cons (ps_set (i:=2) sc.nd rfl (Or.inl rfl) (pe_slice (show SlR _ (rSlL K) from sl_list) (pe_fld (pv 0) rfl) (po_some (pe_fld (pv 0) rfl)) (po_some (pe_op op_add (pe_fld (pv 0) rfl) (pv 1)))))
    (pss_cons (ps_fld (pv 0) (pe_op op_add (pe_fld (pv 0) rfl) (pv 1)) rfl)
    (pss_one (ps_ret (pv 2)))))),?_⟩
   obtain ⟨_,g1,g2⟩:=drop_at hd
   refine ⟨_,rfl,_,_,_,rfl,hr1,rfl,r,dx,c,n,xs,_,rfl,hr1,hc,g1,?_⟩
   have hr2:upd H r (rdO a dx c (n + 1)) r = some (rdO a dx c (n + 1)):=upd_same
   have fr:∀ x o,H x = some o→x≠r→upd H r (rdO a dx c (n + 1)) x = some o:=fun x o e hx=>(upd_ne hx).trans e
   have hc2:SqL K (upd H r (rdO a dx c (n + 1))) c xs:=sq_upd hc hr1
   have free:∀ l,upd H r (rdO a dx c (n + 1)) l = none→H l = none:=fun l hl=>by
    by_cases z:l = r
    · rw [z,upd_same] at hl; cases hl
    · rw [upd_ne z] at hl; exact hl
   generalize upd H r (rdO a dx c (n + 1)) = H2 at *
   refine ⟨_,rfl,_,_,_,_,_,rfl,hr2,T.c_Reader.cl,T.n_Reader_calls,df_calls c (n + 1),_,rfl,_,_,_,_,_,rfl,hr2,T.c_Reader.cl,T.n_Reader_position,df_position c (n + 1),_,rfl,_,rfl,_,_,_,_,_,rfl,hr2,T.c_Reader.cl,T.n_Reader_position,df_position c (n + 1),_,rfl,_,_,rfl,rfl,_,rfl,c,_,rfl,hc2,fun l hl=>?_⟩
   rw [cut_row g2 (by omega)]
   have hr3:upd H2 l (.lst row) r = some (rdO a dx c (n + 1)):=(upd_ne (ne_of_none hr2 hl)).trans hr2
   refine ⟨_,rfl,_,_,_,_,_,rfl,hr3,T.c_Reader.cl,T.n_Reader_position,df_position c (n + 1),_,rfl,_,_,rfl,rfl,_,rfl,r,a.c_Reader,dx,_,rfl,hr3,T.c_Reader.cl,T.n_Reader_position,(by show 2 < 1000; decide),_,rfl,?_⟩
   have lr:l≠r:=fun z=>by rw [z,hr2] at hl; cases hl
   refine k l _ (free l hl) ⟨?_,fun x o e hx=>?_⟩ ((upd_ne lr).trans upd_same)
   · rw [upd_same,readF_pos]
     rfl
   · rw [upd_ne hx,upd_ne (ne_of_none (fr x o e hx) hl)]
     exact fr x o e hx
end
end Hp
namespace Hp
open PySem L2
section
variable {P:Program} {w:World} {K:PySem.W.Frag} {mg:Str→Option Value} {base:Heap} {a:Adr}
def AnsC (K:PySem.W.Frag) (a:Adr) (H:Hp) (s r dx c:Addr) (xs:List V) (F:Addr→Prop) (d':IhPages.State) (out t:List V) (Q:VK):Prop:=∀ l H' n',SessV a H' s d' F→n'≤xs.length→xs.drop n' = t→H' r = some (rdO a dx c n')→CallsAt K H' F c xs→(∀ y o,F y→y≠r→H y = some o→H' y = some o)→H' l = some (.lst out)→¬ F l→Q (.ref l) H'
structure Rdy (K:PySem.W.Frag) (a:Adr) (H:Hp) (s r dx c:Addr) (n:Nat) (xs:List V) (d:IhPages.State) (F:Addr→Prop):Prop where
 sess:SessV a H s d F
 fr:F r
 some_:∀ y,F y→H y≠none
 rd:H r = some (rdO a dx c n)
 calls:CallsAt K H F c xs
variable {H H1:Hp} {s r dx c:Addr} {n n':Nat} {xs out t:List V} {d d':IhPages.State} {F:Addr→Prop} {Q:VK}
theorem Rdy.step (h:Rdy K a H s r dx c n xs d F) (st:Rstep a H H1 r dx c n'):Rdy K a H1 s r dx c n' xs d F:=by
 obtain ⟨st1,st2⟩:=st
 have sm:Same (upd H r (rdO a dx c n')) H1:=fun x o e=>by
  by_cases z:x = r
  · subst z
    rw [upd_same] at e
    rw [st1,e]
  · rw [upd_ne z] at e
    exact st2 x o e z
 refine ⟨(h.sess.alien h.fr h.rd (rd_alien _ _ _)).mono sm,h.fr,fun y f=>?_,st1,?_⟩
 · by_cases z:y = r
   · rw [z,st1]; exact fun q=>nomatch q
   · cases q:H y with
     | none=>exact absurd q (h.some_ y f)
     | some o=>rw [st2 y o q z]; exact fun q=>nomatch q
 · rcases h.calls with g | ⟨f,g | ⟨o,g⟩⟩
   · exact .inl g
   · exact .inr ⟨f,.inl (st2 _ _ g (ne_of g h.rd fun z=>nomatch z))⟩
   · exact .inr ⟨f,.inr ⟨o,st2 _ _ g (ne_of g h.rd fun z=>nomatch z)⟩⟩
theorem Rstep.num (H:Hp) (r dx c:Addr) (n:Nat):Rstep a H (upd H r (rdO a dx c n)) r dx c n:=⟨upd_same,fun x o e hx=>(upd_ne hx).trans e⟩
theorem AnsC.after (k:AnsC K a H s r dx c xs F d' out t Q) (st:Rstep a H H1 r dx c n):AnsC K a H1 s r dx c xs F d' out t Q:=fun l H' n' h1 h2 h3 h4 h5 h6 h7 h8=>k l H' n' h1 h2 h3 h4 h5 (fun y o f ne e=>h6 y o f ne (st.2 y o e ne)) h7 h8
theorem AnsC.ans (k:AnsC K a H s r dx c xs F d' out t Q) (R:Rdy K a H s r dx c n xs d F) (e:xs.drop n = t) (hn:n≤xs.length):Ans a H s F d' out Q:=fun l H' hV kp hl nf =>
 k l H' n hV hn e (kp r _ R.fr R.rd) (R.calls.kept fun o f h=>kp c o f h) (fun y o f _ h=>kp y o f h) hl nf
theorem AnsC.pure (k:AnsC K a H s r dx c xs F d out t Q) (R:Rdy K a H s r dx c n xs d F) (e:xs.drop n = t) (hn:n≤xs.length):NewInts H out Q:=(k.ans R e hn).fin R.some_ R.sess (Kept.of (Same.refl _))
theorem Rdy.ses (R:Rdy K a H s r dx c n xs d F):∃ ds w j q nm sg b,H s = some (.ins a.c_Session ds (sessF w j q nm sg b)):=by
 obtain ⟨nm,rs,ld,ls,sg,b,hS,_⟩:=R.sess
 obtain ⟨ds,hs⟩:=hS.ob
 exact ⟨ds,_,_,_,_,_,_,hs⟩
theorem drop_row {α:Type} {xs row t:List α} {m:Nat} (h:xs.drop m = row ++ t):xs.drop (m + row.length) = t:=by
 rw [← List.drop_drop,h,List.drop_left']
 rfl
theorem drop_le {α:Type} {xs row t:List α} {m:Nat} (hm:m≤xs.length) (h:xs.drop m = row ++ t):m + row.length≤xs.length:=by
 have hl:=congrArg List.length h
 rw [List.length_drop,List.length_append] at hl
 omega
def sp_answer_begin (K:PySem.W.Frag) (a:Adr):Sp:=fun vs H Q _=>∃ (s r dx c:Addr) (n:Nat) (xs:List V) (d:IhPages.State) (F:Addr→Prop) (w j q:Nat) (t:List V),vs = [.ref s,.ref r]∧Rdy K a H s r dx c n xs d F∧xs.drop n = .int (w:Int) :: .int (j:Int) :: .int (q:Int) :: t∧AnsC K a H s r dx c xs F (IhPages.step d (.begin_ w j q)).1 (outV (IhPages.step d (.begin_ w j q)).2) t Q
theorem ok_answer_begin (T:Txt K mg a):FnOk P w K mg base CX0 4 a.answer_begin.f a.answer_begin.d ["session","reader"] (sp_answer_begin K a):=by
 have sc:FnScope ["session","reader","way","joins","drops"] ["session","reader"] (defScope s_answer_begin):=⟨rfl,rfl,rfl,by decide +kernel,rfl,by decide +kernel,by decide +kernel⟩
 refine T.answer_begin.fn.ok sc (fun vs H Q E h=>?_) (fun cdv A outer s H vs Q E hr h=>?_)
 · obtain ⟨_,_,_,_,_,_,_,_,_,_,_,_,rfl,_⟩:=h
   rfl
 · obtain ⟨s,r,dx,c,n,xs,d,F,w,j,q,t,rfl,R,hd,k⟩:=h
   refine ⟨_,(pss_cons (ps_set (i:=2) sc.nd rfl (Or.inl rfl) (pe_meth0 (pv 1) T.c_Reader.cl T.Reader_take_number.m (ok_Reader_take_number T) (hr.mono (by decide)) T.Reader_take_number.b .nil pass0))
    (pss_cons (ps_set (i:=3) sc.nd rfl (Or.inl rfl) (pe_meth0 (pv 1) T.c_Reader.cl T.Reader_take_number.m (ok_Reader_take_number T) (hr.mono (by decide)) T.Reader_take_number.b .nil pass0))
    (pss_cons (ps_set (i:=4) sc.nd rfl (Or.inl rfl) (pe_meth0 (pv 1) T.c_Reader.cl T.Reader_take_number.m (ok_Reader_take_number T) (hr.mono (by decide)) T.Reader_take_number.b .nil pass0))
    (pss_one (ps_ret (pe_meth (pv 0) T.c_Session.cl T.Session_begin.m (ok_Session_begin T) (hr.mono (by decide)) T.Session_begin.b .nil pass0 (pa_3 (pv 2) (pv 3) (pv 4)))))))),?_⟩
   obtain ⟨_,g1,h1⟩:=drop_at hd
   obtain ⟨_,g2,h2⟩:=drop_at h1
   obtain ⟨l3,g3,h3⟩:=drop_at h2
   refine ⟨_,rfl,_,_,_,rfl,R.rd,rfl,r,dx,c,n,xs,_,rfl,R.rd,R.calls.sq,g1,?_⟩
   have R1:=R.step (Rstep.num H r dx c (n + 1))
   have k1:=k.after (Rstep.num H r dx c (n + 1))
   refine ⟨_,rfl,_,_,_,rfl,R1.rd,rfl,r,dx,c,n + 1,xs,_,rfl,R1.rd,R1.calls.sq,g2,?_⟩
   have R2:=R1.step (Rstep.num _ r dx c (n + 1 + 1))
   have k2:=k1.after (Rstep.num _ r dx c (n + 1 + 1))
   refine ⟨_,rfl,_,_,_,rfl,R2.rd,rfl,r,dx,c,n + 1 + 1,xs,_,rfl,R2.rd,R2.calls.sq,g3,?_⟩
   have R3:=R2.step (Rstep.num _ r dx c (n + 1 + 1 + 1))
   have k3:=k2.after (Rstep.num _ r dx c (n + 1 + 1 + 1))
   obtain ⟨ds,_,_,_,_,_,_,hs⟩:=R3.ses
   exact ⟨_,rfl,_,_,_,rfl,hs,rfl,_,rfl,_,rfl,_,rfl,s,d,F,w,j,q,rfl,R3.sess,R3.some_,k3.ans R3 h3 (by omega)⟩
def sp_answer_run (K:PySem.W.Frag) (a:Adr):Sp:=fun vs H Q _=>∃ (s r dx c:Addr) (n:Nat) (xs:List V) (d:IhPages.State) (F:Addr→Prop) (w j q:Nat) (p:Bytes) (t:List V),vs = [.ref s,.ref r]∧Rdy K a H s r dx c n xs d F∧xs.drop n = .int (w:Int) :: .int (j:Int) :: .int (q:Int) :: .int ((intsV p).length:Int) :: (intsV p ++ t)∧p.length≤90000∧(∀ c∈p,c≤255) ∧
 AnsC K a H s r dx c xs F (IhPages.step d (.run w j q p)).1 (outV (IhPages.step d (.run w j q p)).2) t Q
theorem ok_answer_run (T:Txt K mg a):FnOk P w K mg base CX0 7 a.answer_run.f a.answer_run.d ["session","reader"] (sp_answer_run K a):=by
 have sc:FnScope ["session","reader","style","first","count","prefix"] ["session","reader"] (defScope s_answer_run):=⟨rfl,rfl,rfl,by decide +kernel,rfl,by decide +kernel,by decide +kernel⟩
 refine T.answer_run.fn.ok sc (fun vs H Q E h=>?_) (fun cdv A outer s H vs Q E hr h=>?_)
 · obtain ⟨_,_,_,_,_,_,_,_,_,_,_,_,_,rfl,_⟩:=h
   rfl
 · obtain ⟨s,r,dx,c,n,xs,d,F,w,j,q,p,t,rfl,R,hd,hp,hb,k⟩:=h
   refine ⟨_,(pss_cons (ps_set (i:=2) sc.nd rfl (Or.inl rfl) (pe_meth0 (pv 1) T.c_Reader.cl T.Reader_take_number.m (ok_Reader_take_number T) (hr.mono (by decide)) T.Reader_take_number.b .nil pass0))
    (pss_cons (ps_set (i:=3) sc.nd rfl (Or.inl rfl) (pe_meth0 (pv 1) T.c_Reader.cl T.Reader_take_number.m (ok_Reader_take_number T) (hr.mono (by decide)) T.Reader_take_number.b .nil pass0))
    (pss_cons (ps_set (i:=4) sc.nd rfl (Or.inl rfl) (pe_meth0 (pv 1) T.c_Reader.cl T.Reader_take_number.m (ok_Reader_take_number T) (hr.mono (by decide)) T.Reader_take_number.b .nil pass0))
    (pss_cons (ps_set (i:=5) sc.nd rfl (Or.inl rfl) (pe_meth0 (pv 1) T.c_Reader.cl T.Reader_take_row.m (ok_Reader_take_row T) (hr.mono (by decide)) T.Reader_take_row.b .nil pass0))
    (pss_one (ps_ret (pe_meth (pv 0) T.c_Session.cl T.Session_run.m (ok_Session_run T) (hr.mono (by decide)) T.Session_run.b .nil pass0 (pa_4 (pv 2) (pv 3) (pv 4) (pv 5))))))))),?_⟩
   obtain ⟨_,g1,h1⟩:=drop_at hd
   obtain ⟨_,g2,h2⟩:=drop_at h1
   obtain ⟨_,g3,h3⟩:=drop_at h2
   obtain ⟨l4,g4,h4⟩:=drop_at h3
   refine ⟨_,rfl,_,_,_,rfl,R.rd,rfl,r,dx,c,n,xs,_,rfl,R.rd,R.calls.sq,g1,?_⟩
   have R1:=R.step (Rstep.num H r dx c (n + 1))
   have k1:=k.after (Rstep.num H r dx c (n + 1))
   refine ⟨_,rfl,_,_,_,rfl,R1.rd,rfl,r,dx,c,n + 1,xs,_,rfl,R1.rd,R1.calls.sq,g2,?_⟩
   have R2:=R1.step (Rstep.num _ r dx c (n + 1 + 1))
   have k2:=k1.after (Rstep.num _ r dx c (n + 1 + 1))
   refine ⟨_,rfl,_,_,_,rfl,R2.rd,rfl,r,dx,c,n + 1 + 1,xs,_,rfl,R2.rd,R2.calls.sq,g3,?_⟩
   have R3:=R2.step (Rstep.num _ r dx c (n + 1 + 1 + 1))
   have k3:=k2.after (Rstep.num _ r dx c (n + 1 + 1 + 1))
   refine ⟨_,rfl,_,_,_,rfl,R3.rd,rfl,r,dx,c,n + 1 + 1 + 1,xs,intsV p,t,rfl,R3.rd,R3.calls.sq,l4,h3,fun l H4 hl st e4=>?_⟩
   have R4:=R3.step st
   have k4:=k3.after st
   obtain ⟨ds,_,_,_,_,_,_,hs⟩:=R4.ses
   exact ⟨_,rfl,_,_,_,rfl,hs,rfl,_,rfl,_,rfl,_,rfl,_,rfl,s,l,d,F,w,j,q,p,rfl,R4.sess,R4.some_,e4,(by omega),hb,k4.ans R4 (drop_row h4) (drop_le l4 h4)⟩
def sp_answer_has (K:PySem.W.Frag) (a:Adr):Sp:=fun vs H Q _=>∃ (s r dx c:Addr) (n:Nat) (xs:List V) (d:IhPages.State) (F:Addr→Prop) (i:Nat) (ps:List Place) (t:List V),vs = [.ref s,.ref r]∧Rdy K a H s r dx c n xs d F∧xs.drop n = .int (i:Int) :: .int ((fivesV ps).length:Int) :: (fivesV ps ++ t)∧ps.length≤90000 ∧
 AnsC K a H s r dx c xs F (IhPages.step d (.has ps i)).1 (outV (IhPages.step d (.has ps i)).2) t Q
theorem ok_answer_has (T:Txt K mg a):FnOk P w K mg base CX0 8 a.answer_has.f a.answer_has.d ["session","reader"] (sp_answer_has K a):=by
 have sc:FnScope ["session","reader","index"] ["session","reader"] (defScope s_answer_has):=⟨rfl,rfl,rfl,by decide +kernel,rfl,by decide +kernel,by decide +kernel⟩
 refine T.answer_has.fn.ok sc (fun vs H Q E h=>?_) (fun cdv A outer s H vs Q E hr h=>?_)
 · obtain ⟨_,_,_,_,_,_,_,_,_,_,_,rfl,_⟩:=h
   rfl
 · obtain ⟨s,r,dx,c,n,xs,d,F,i,ps,t,rfl,R,hd,hp,k⟩:=h
   refine ⟨_,(pss_cons (ps_set (i:=2) sc.nd rfl (Or.inl rfl) (pe_meth0 (pv 1) T.c_Reader.cl T.Reader_take_number.m (ok_Reader_take_number T) (hr.mono (by decide)) T.Reader_take_number.b .nil pass0))
    (pss_one (ps_ret (pe_meth (pv 0) T.c_Session.cl T.Session_has.m (ok_Session_has T) (hr.mono (by decide)) T.Session_has.b .nil pass0 (pa_2 (pv 2) (pe_meth0 (pv 1) T.c_Reader.cl T.Reader_take_row.m (ok_Reader_take_row T) (hr.mono (by decide)) T.Reader_take_row.b .nil pass0)))))),?_⟩
   obtain ⟨_,g1,h1⟩:=drop_at hd
   obtain ⟨l2,g2,h2⟩:=drop_at h1
   refine ⟨_,rfl,_,_,_,rfl,R.rd,rfl,r,dx,c,n,xs,_,rfl,R.rd,R.calls.sq,g1,?_⟩
   have R1:=R.step (Rstep.num H r dx c (n + 1))
   have k1:=k.after (Rstep.num H r dx c (n + 1))
   obtain ⟨ds,_,_,_,_,_,_,hs⟩:=R1.ses
   refine ⟨_,rfl,_,_,_,rfl,hs,rfl,_,rfl,_,rfl,_,_,_,rfl,R1.rd,rfl,r,dx,c,n + 1,xs,fivesV ps,t,rfl,R1.rd,R1.calls.sq,l2,h1,fun l H4 hl st e4=>?_⟩
   have R4:=R1.step st
   have k4:=k1.after st
   exact ⟨s,l,d,i,ps,rfl,R4.sess.r,e4,(by omega),k4.pure R4 (drop_row h2) (drop_le l2 h2)⟩
theorem ints_map (p:Bytes):(PgNeutral.ints p).map V.int = intsV p:=by
 unfold PgNeutral.ints intsV
 rw [List.map_map]
 rfl
theorem intsV_len (p:Bytes):(intsV p).length = p.length:=by unfold intsV; rw [List.length_map]
theorem fivesV_len (ps:List Place):(fivesV ps).length = (ps.flatMap PgNeutral.five).length:=by
 rw [← fives_eq,List.length_map]
 unfold PgNeutral.ints
 rw [List.length_map]
def sp_answer_call (K:PySem.W.Frag) (a:Adr):Sp:=fun vs H Q _=>∃ (s r dx c:Addr) (n:Nat) (ns l:List Int) (d:IhPages.State) (F:Addr→Prop) (x:IhPages.Call) (t:List Int),vs = [.ref s,.ref r]∧Rdy K a H s r dx c n (ns.map V.int) d F∧ns.drop n = l∧Bk.View l x t∧ns.length≤31000 ∧
 AnsC K a H s r dx c (ns.map V.int) F (IhPages.step d x).1 (outV (IhPages.step d x).2) (t.map V.int) Q
theorem ok_answer_call (T:Txt K mg a):FnOk P w K mg base CX0 9 a.answer_call.f a.answer_call.d ["session","reader"] (sp_answer_call K a):=by
 have sc:FnScope ["session","reader","call"] ["session","reader"] (defScope s_answer_call):=⟨rfl,rfl,rfl,by decide +kernel,rfl,by decide +kernel,by decide +kernel⟩
 refine T.answer_call.fn.ok sc (fun vs H Q E h=>?_) (fun cdv A outer s H vs Q E hr h=>?_)
 · obtain ⟨_,_,_,_,_,_,_,_,_,_,_,rfl,_⟩:=h
   rfl
 · obtain ⟨s,r,dx,c,n,ns,l,d,F,x,t,rfl,R,hl,hv,hlen,k⟩:=h
   refine ⟨_,(pss_cons (ps_set (i:=2) sc.nd rfl (Or.inl rfl) (pe_meth0 (pv 1) T.c_Reader.cl T.Reader_take_number.m (ok_Reader_take_number T) (hr.mono (by decide)) T.Reader_take_number.b .nil pass0))
    (pss_cons (ps_if (pt_cmpR op_eq (pv 2) (pe_gv T.g_BEGIN) (nomark _))
     (pss_one (ps_ret (pe_call (ok_answer_begin T) (hr.mono (by decide)) rfl T.answer_begin.m T.answer_begin.fn.kp T.answer_begin.b .nil pass0 (pa_2 (pv 0) (pv 1)))))
     pss_nil)
    (pss_cons (ps_if (pt_cmpR op_eq (pv 2) (pe_gv T.g_RUN) (nomark _))
     (pss_one (ps_ret (pe_call (ok_answer_run T) (hr.mono (by decide)) rfl T.answer_run.m T.answer_run.fn.kp T.answer_run.b .nil pass0 (pa_2 (pv 0) (pv 1)))))
     pss_nil)
    (pss_cons (ps_if (pt_cmpR op_eq (pv 2) (pe_gv T.g_PAGES) (nomark _))
     (pss_one (ps_ret (pe_meth0 (pv 0) T.c_Session.cl T.Session_pages.m (ok_Session_pages T) (hr.mono (by decide)) T.Session_pages.b .nil pass0)))
     pss_nil)
    (pss_cons (ps_if (pt_cmpR op_eq (pv 2) (pe_gv T.g_NAME) (nomark _))
     (pss_one (ps_ret (pe_meth (pv 0) T.c_Session.cl T.Session_name.m (ok_Session_name T) (hr.mono (by decide)) T.Session_name.b .nil pass0 (pa_1 (pe_meth0 (pv 1) T.c_Reader.cl T.Reader_take_number.m (ok_Reader_take_number T) (hr.mono (by decide)) T.Reader_take_number.b .nil pass0)))))
     pss_nil)
    (pss_cons (ps_if (pt_cmpR op_eq (pv 2) (pe_gv T.g_PAGE) (nomark _))
     (pss_one (ps_ret (pe_meth (pv 0) T.c_Session.cl T.Session_page.m (ok_Session_page T) (hr.mono (by decide)) T.Session_page.b .nil pass0 (pa_1 (pe_meth0 (pv 1) T.c_Reader.cl T.Reader_take_row.m (ok_Reader_take_row T) (hr.mono (by decide)) T.Reader_take_row.b .nil pass0)))))
     pss_nil)
    (pss_cons (ps_if (pt_cmpR op_eq (pv 2) (pe_gv T.g_WRITE) (nomark _))
     (pss_one (ps_ret (pe_meth (pv 0) T.c_Session.cl T.Session_write.m (ok_Session_write T) (hr.mono (by decide)) T.Session_write.b .nil pass0 (pa_1 (pe_meth0 (pv 1) T.c_Reader.cl T.Reader_take_row.m (ok_Reader_take_row T) (hr.mono (by decide)) T.Reader_take_row.b .nil pass0)))))
     pss_nil)
    (pss_cons (ps_if (pt_cmpR op_eq (pv 2) (pe_gv T.g_READ) (nomark _))
     (pss_one (ps_ret (pe_meth (pv 0) T.c_Session.cl T.Session_read.m (ok_Session_read T) (hr.mono (by decide)) T.Session_read.b .nil pass0 (pa_1 (pe_meth0 (pv 1) T.c_Reader.cl T.Reader_take_row.m (ok_Reader_take_row T) (hr.mono (by decide)) T.Reader_take_row.b .nil pass0)))))
     pss_nil)
    (pss_cons (ps_if (pt_cmpR op_eq (pv 2) (pe_gv T.g_FORM) (nomark _))
     (pss_one (ps_ret (pe_meth (pv 0) T.c_Session.cl T.Session_form.m (ok_Session_form T) (hr.mono (by decide)) T.Session_form.b .nil pass0 (pa_1 (pe_meth0 (pv 1) T.c_Reader.cl T.Reader_take_row.m (ok_Reader_take_row T) (hr.mono (by decide)) T.Reader_take_row.b .nil pass0)))))
     pss_nil)
    (pss_cons (ps_if (pt_cmpR op_eq (pv 2) (pe_gv T.g_TEXT) (nomark _))
     (pss_one (ps_ret (pe_meth (pv 0) T.c_Session.cl T.Session_text.m (ok_Session_text T) (hr.mono (by decide)) T.Session_text.b .nil pass0 (pa_1 (pe_meth0 (pv 1) T.c_Reader.cl T.Reader_take_row.m (ok_Reader_take_row T) (hr.mono (by decide)) T.Reader_take_row.b .nil pass0)))))
     pss_nil)
    (pss_cons (ps_if (pt_cmpR op_eq (pv 2) (pe_gv T.g_LIST) (nomark _))
     (pss_one (ps_ret (pe_meth (pv 0) T.c_Session.cl T.Session_places_told.m (ok_Session_places_told T) (hr.mono (by decide)) T.Session_places_told.b .nil pass0 (pa_1 (pe_meth0 (pv 1) T.c_Reader.cl T.Reader_take_row.m (ok_Reader_take_row T) (hr.mono (by decide)) T.Reader_take_row.b .nil pass0)))))
     pss_nil)
    (pss_cons (ps_if (pt_cmpR op_eq (pv 2) (pe_gv T.g_HAS) (nomark _))
     (pss_one (ps_ret (pe_call (ok_answer_has T) (hr.mono (by decide)) rfl T.answer_has.m T.answer_has.fn.kp T.answer_has.b .nil pass0 (pa_2 (pv 0) (pv 1)))))
     pss_nil)
    (pss_one (ps_never)))))))))))))),?_⟩
   have hd:(ns.map V.int).drop n = l.map V.int:=by rw [← List.map_drop,hl]
   have hll:l.length≤31000:=by rw [← hl,List.length_drop]; omega
   clear hl
   generalize ns.map V.int = xs at *
   have R1:=R.step (Rstep.num H r dx c (n + 1))
   have k1:=k.after (Rstep.num H r dx c (n + 1))
   obtain ⟨ds,_,_,_,_,_,_,hs⟩:=R1.ses
   cases hv with
   | begin_ w j q t =>
     obtain ⟨_,g1,h1⟩:=drop_at hd
     refine ⟨_,rfl,_,_,_,rfl,R.rd,rfl,r,dx,c,n,xs,_,rfl,R.rd,R.calls.sq,g1,?_⟩
     refine ⟨_,rfl,rfl,_,rfl,ite2 (fun _=>?_) (fun g=>absurd (decide_eq_true rfl) g)⟩
     exact ⟨_,rfl,_,rfl,s,r,dx,c,n + 1,xs,d,F,w,j,q,t.map V.int,rfl,R1,h1,k1⟩
   | run w j q p t hb =>
     have hd:xs.drop n = .int 2 :: .int (w:Int) :: .int (j:Int) :: .int (q:Int) :: .int ((intsV p).length:Int) :: (intsV p ++ t.map V.int):=by
      rw [hd,intsV_len,← ints_map,List.map_cons,List.map_cons,List.map_cons,List.map_cons,List.map_cons,List.map_append]
     have hpl:p.length≤90000:=by
      simp only [List.length_cons,List.length_append,Bk.ints_length] at hll
      omega
     obtain ⟨_,g1,h1⟩:=drop_at hd
     refine ⟨_,rfl,_,_,_,rfl,R.rd,rfl,r,dx,c,n,xs,_,rfl,R.rd,R.calls.sq,g1,?_⟩
     refine ⟨_,rfl,rfl,_,rfl,ite2 (fun g=>absurd (V.int.inj (of_decide_eq_true g)) (by decide)) (fun _=>⟨_,rfl,rfl,_,rfl,ite2 (fun _=>?_) (fun g=>absurd (decide_eq_true rfl) g)⟩)⟩
     exact ⟨_,rfl,_,rfl,s,r,dx,c,n + 1,xs,d,F,w,j,q,p,t.map V.int,rfl,R1,h1,hpl,hb,k1⟩
   | pages t =>
     obtain ⟨_,g1,h1⟩:=drop_at hd
     refine ⟨_,rfl,_,_,_,rfl,R.rd,rfl,r,dx,c,n,xs,_,rfl,R.rd,R.calls.sq,g1,?_⟩
     refine ⟨_,rfl,rfl,_,rfl,ite2 (fun g=>absurd (V.int.inj (of_decide_eq_true g)) (by decide)) (fun _=>⟨_,rfl,rfl,_,rfl,ite2 (fun g=>absurd (V.int.inj (of_decide_eq_true g)) (by decide)) (fun _=>⟨_,rfl,rfl,_,rfl,ite2 (fun _=>?_) (fun g=>absurd (decide_eq_true rfl) g)⟩)⟩)⟩
     exact ⟨_,rfl,_,_,_,rfl,hs,rfl,s,d,rfl,R1.sess.r,k1.pure R1 h1 (by omega)⟩
   | name i t =>
     obtain ⟨_,g1,h1⟩:=drop_at hd
     refine ⟨_,rfl,_,_,_,rfl,R.rd,rfl,r,dx,c,n,xs,_,rfl,R.rd,R.calls.sq,g1,?_⟩
     refine ⟨_,rfl,rfl,_,rfl,ite2 (fun g=>absurd (V.int.inj (of_decide_eq_true g)) (by decide)) (fun _=>⟨_,rfl,rfl,_,rfl,ite2 (fun g=>absurd (V.int.inj (of_decide_eq_true g)) (by decide)) (fun _=>⟨_,rfl,rfl,_,rfl,ite2 (fun g=>absurd (V.int.inj (of_decide_eq_true g)) (by decide)) (fun _=>⟨_,rfl,rfl,_,rfl,ite2 (fun _=>?_) (fun g=>absurd (decide_eq_true rfl) g)⟩)⟩)⟩)⟩
     obtain ⟨l2,g2,h2⟩:=drop_at h1
     refine ⟨_,rfl,_,_,_,rfl,hs,rfl,_,rfl,_,_,_,rfl,R1.rd,rfl,r,dx,c,n + 1,xs,_,rfl,R1.rd,R1.calls.sq,g2,?_⟩
     have R2:=R1.step (Rstep.num _ r dx c (n + 1 + 1))
     have k2:=k1.after (Rstep.num _ r dx c (n + 1 + 1))
     exact ⟨s,d,i,rfl,R2.sess.r,k2.pure R2 h2 (by omega)⟩
   | page p t hb =>
     have hd:xs.drop n = .int 5 :: .int ((intsV p).length:Int) :: (intsV p ++ t.map V.int):=by
      rw [hd,intsV_len,← ints_map,List.map_cons,List.map_cons,List.map_append]
     have hpl:p.length≤90000:=by
      simp only [List.length_cons,List.length_append,Bk.ints_length] at hll
      omega
     obtain ⟨_,g1,h1⟩:=drop_at hd
     refine ⟨_,rfl,_,_,_,rfl,R.rd,rfl,r,dx,c,n,xs,_,rfl,R.rd,R.calls.sq,g1,?_⟩
     refine ⟨_,rfl,rfl,_,rfl,ite2 (fun g=>absurd (V.int.inj (of_decide_eq_true g)) (by decide)) (fun _=>⟨_,rfl,rfl,_,rfl,ite2 (fun g=>absurd (V.int.inj (of_decide_eq_true g)) (by decide)) (fun _=>⟨_,rfl,rfl,_,rfl,ite2 (fun g=>absurd (V.int.inj (of_decide_eq_true g)) (by decide)) (fun _=>⟨_,rfl,rfl,_,rfl,ite2 (fun g=>absurd (V.int.inj (of_decide_eq_true g)) (by decide)) (fun _=>⟨_,rfl,rfl,_,rfl,ite2 (fun _=>?_) (fun g=>absurd (decide_eq_true rfl) g)⟩)⟩)⟩)⟩)⟩
     obtain ⟨l2,g2,h2⟩:=drop_at h1
     refine ⟨_,rfl,_,_,_,rfl,hs,rfl,_,rfl,_,_,_,rfl,R1.rd,rfl,r,dx,c,n + 1,xs,intsV p,t.map V.int,rfl,R1.rd,R1.calls.sq,l2,h1,fun q H4 hq st e4=>?_⟩
     have R4:=R1.step st
     have k4:=k1.after st
     exact ⟨s,q,d,p,rfl,R4.sess.r,e4,(by omega),hb,(k4.pure R4 (drop_row h2) (drop_le l2 h2))⟩
   | write p t =>
     have hd:xs.drop n = .int 6 :: .int ((fiveV p).length:Int) :: (fiveV p ++ t.map V.int):=by
      rw [hd,← five_eq,List.map_cons,List.map_cons,List.map_append]
      rfl
     obtain ⟨_,g1,h1⟩:=drop_at hd
     refine ⟨_,rfl,_,_,_,rfl,R.rd,rfl,r,dx,c,n,xs,_,rfl,R.rd,R.calls.sq,g1,?_⟩
     refine ⟨_,rfl,rfl,_,rfl,ite2 (fun g=>absurd (V.int.inj (of_decide_eq_true g)) (by decide)) (fun _=>⟨_,rfl,rfl,_,rfl,ite2 (fun g=>absurd (V.int.inj (of_decide_eq_true g)) (by decide)) (fun _=>⟨_,rfl,rfl,_,rfl,ite2 (fun g=>absurd (V.int.inj (of_decide_eq_true g)) (by decide)) (fun _=>⟨_,rfl,rfl,_,rfl,ite2 (fun g=>absurd (V.int.inj (of_decide_eq_true g)) (by decide)) (fun _=>⟨_,rfl,rfl,_,rfl,ite2 (fun g=>absurd (V.int.inj (of_decide_eq_true g)) (by decide)) (fun _=>⟨_,rfl,rfl,_,rfl,ite2 (fun _=>?_) (fun g=>absurd (decide_eq_true rfl) g)⟩)⟩)⟩)⟩)⟩)⟩
     obtain ⟨l2,g2,h2⟩:=drop_at h1
     refine ⟨_,rfl,_,_,_,rfl,hs,rfl,_,rfl,_,_,_,rfl,R1.rd,rfl,r,dx,c,n + 1,xs,fiveV p,t.map V.int,rfl,R1.rd,R1.calls.sq,l2,h1,fun q H4 hq st e4=>?_⟩
     have R4:=R1.step st
     have k4:=k1.after st
     exact ⟨s,q,d,p,rfl,R4.sess.r,e4,(k4.pure R4 (drop_row h2) (drop_le l2 h2))⟩
   | read p t hb =>
     have hd:xs.drop n = .int 7 :: .int ((intsV p).length:Int) :: (intsV p ++ t.map V.int):=by
      rw [hd,intsV_len,← ints_map,List.map_cons,List.map_cons,List.map_append]
     have hpl:p.length≤90000:=by
      simp only [List.length_cons,List.length_append,Bk.ints_length] at hll
      omega
     obtain ⟨_,g1,h1⟩:=drop_at hd
     refine ⟨_,rfl,_,_,_,rfl,R.rd,rfl,r,dx,c,n,xs,_,rfl,R.rd,R.calls.sq,g1,?_⟩
     refine ⟨_,rfl,rfl,_,rfl,ite2 (fun g=>absurd (V.int.inj (of_decide_eq_true g)) (by decide)) (fun _=>⟨_,rfl,rfl,_,rfl,ite2 (fun g=>absurd (V.int.inj (of_decide_eq_true g)) (by decide)) (fun _=>⟨_,rfl,rfl,_,rfl,ite2 (fun g=>absurd (V.int.inj (of_decide_eq_true g)) (by decide)) (fun _=>⟨_,rfl,rfl,_,rfl,ite2 (fun g=>absurd (V.int.inj (of_decide_eq_true g)) (by decide)) (fun _=>⟨_,rfl,rfl,_,rfl,ite2 (fun g=>absurd (V.int.inj (of_decide_eq_true g)) (by decide)) (fun _=>⟨_,rfl,rfl,_,rfl,ite2 (fun g=>absurd (V.int.inj (of_decide_eq_true g)) (by decide)) (fun _=>⟨_,rfl,rfl,_,rfl,ite2 (fun _=>?_) (fun g=>absurd (decide_eq_true rfl) g)⟩)⟩)⟩)⟩)⟩)⟩)⟩
     obtain ⟨l2,g2,h2⟩:=drop_at h1
     refine ⟨_,rfl,_,_,_,rfl,hs,rfl,_,rfl,_,_,_,rfl,R1.rd,rfl,r,dx,c,n + 1,xs,intsV p,t.map V.int,rfl,R1.rd,R1.calls.sq,l2,h1,fun q H4 hq st e4=>?_⟩
     have R4:=R1.step st
     have k4:=k1.after st
     exact ⟨s,q,d,p,rfl,R4.sess.r,e4,(by omega),hb,(k4.pure R4 (drop_row h2) (drop_le l2 h2))⟩
   | form ps t =>
     have hd:xs.drop n = .int 8 :: .int ((fivesV ps).length:Int) :: (fivesV ps ++ t.map V.int):=by
      rw [hd,fivesV_len,← fives_eq,List.map_cons,List.map_cons,List.map_append]
     have hpl:ps.length≤90000:=by
      have e:=fivesV_len ps
      rw [fives_len] at e
      simp only [List.length_cons,List.length_append,Bk.ints_length] at hll
      omega
     obtain ⟨_,g1,h1⟩:=drop_at hd
     refine ⟨_,rfl,_,_,_,rfl,R.rd,rfl,r,dx,c,n,xs,_,rfl,R.rd,R.calls.sq,g1,?_⟩
     refine ⟨_,rfl,rfl,_,rfl,ite2 (fun g=>absurd (V.int.inj (of_decide_eq_true g)) (by decide)) (fun _=>⟨_,rfl,rfl,_,rfl,ite2 (fun g=>absurd (V.int.inj (of_decide_eq_true g)) (by decide)) (fun _=>⟨_,rfl,rfl,_,rfl,ite2 (fun g=>absurd (V.int.inj (of_decide_eq_true g)) (by decide)) (fun _=>⟨_,rfl,rfl,_,rfl,ite2 (fun g=>absurd (V.int.inj (of_decide_eq_true g)) (by decide)) (fun _=>⟨_,rfl,rfl,_,rfl,ite2 (fun g=>absurd (V.int.inj (of_decide_eq_true g)) (by decide)) (fun _=>⟨_,rfl,rfl,_,rfl,ite2 (fun g=>absurd (V.int.inj (of_decide_eq_true g)) (by decide)) (fun _=>⟨_,rfl,rfl,_,rfl,ite2 (fun g=>absurd (V.int.inj (of_decide_eq_true g)) (by decide)) (fun _=>⟨_,rfl,rfl,_,rfl,ite2 (fun _=>?_) (fun g=>absurd (decide_eq_true rfl) g)⟩)⟩)⟩)⟩)⟩)⟩)⟩)⟩
     obtain ⟨l2,g2,h2⟩:=drop_at h1
     refine ⟨_,rfl,_,_,_,rfl,hs,rfl,_,rfl,_,_,_,rfl,R1.rd,rfl,r,dx,c,n + 1,xs,fivesV ps,t.map V.int,rfl,R1.rd,R1.calls.sq,l2,h1,fun q H4 hq st e4=>?_⟩
     have R4:=R1.step st
     have k4:=k1.after st
     exact ⟨s,q,d,ps,rfl,R4.sess.r,e4,(by omega),(k4.pure R4 (drop_row h2) (drop_le l2 h2))⟩
   | text ps t =>
     have hd:xs.drop n = .int 9 :: .int ((fivesV ps).length:Int) :: (fivesV ps ++ t.map V.int):=by
      rw [hd,fivesV_len,← fives_eq,List.map_cons,List.map_cons,List.map_append]
     have hpl:ps.length≤90000:=by
      have e:=fivesV_len ps
      rw [fives_len] at e
      simp only [List.length_cons,List.length_append,Bk.ints_length] at hll
      omega
     obtain ⟨_,g1,h1⟩:=drop_at hd
     refine ⟨_,rfl,_,_,_,rfl,R.rd,rfl,r,dx,c,n,xs,_,rfl,R.rd,R.calls.sq,g1,?_⟩
     refine ⟨_,rfl,rfl,_,rfl,ite2 (fun g=>absurd (V.int.inj (of_decide_eq_true g)) (by decide)) (fun _=>⟨_,rfl,rfl,_,rfl,ite2 (fun g=>absurd (V.int.inj (of_decide_eq_true g)) (by decide)) (fun _=>⟨_,rfl,rfl,_,rfl,ite2 (fun g=>absurd (V.int.inj (of_decide_eq_true g)) (by decide)) (fun _=>⟨_,rfl,rfl,_,rfl,ite2 (fun g=>absurd (V.int.inj (of_decide_eq_true g)) (by decide)) (fun _=>⟨_,rfl,rfl,_,rfl,ite2 (fun g=>absurd (V.int.inj (of_decide_eq_true g)) (by decide)) (fun _=>⟨_,rfl,rfl,_,rfl,ite2 (fun g=>absurd (V.int.inj (of_decide_eq_true g)) (by decide)) (fun _=>⟨_,rfl,rfl,_,rfl,ite2 (fun g=>absurd (V.int.inj (of_decide_eq_true g)) (by decide)) (fun _=>⟨_,rfl,rfl,_,rfl,ite2 (fun g=>absurd (V.int.inj (of_decide_eq_true g)) (by decide)) (fun _=>⟨_,rfl,rfl,_,rfl,ite2 (fun _=>?_) (fun g=>absurd (decide_eq_true rfl) g)⟩)⟩)⟩)⟩)⟩)⟩)⟩)⟩)⟩
     obtain ⟨l2,g2,h2⟩:=drop_at h1
     refine ⟨_,rfl,_,_,_,rfl,hs,rfl,_,rfl,_,_,_,rfl,R1.rd,rfl,r,dx,c,n + 1,xs,fivesV ps,t.map V.int,rfl,R1.rd,R1.calls.sq,l2,h1,fun q H4 hq st e4=>?_⟩
     have R4:=R1.step st
     have k4:=k1.after st
     exact ⟨s,q,d,ps,rfl,R4.sess.r,e4,(by omega),(k4.pure R4 (drop_row h2) (drop_le l2 h2))⟩
   | list p t hb =>
     have hd:xs.drop n = .int 10 :: .int ((intsV p).length:Int) :: (intsV p ++ t.map V.int):=by
      rw [hd,intsV_len,← ints_map,List.map_cons,List.map_cons,List.map_append]
     have hpl:p.length≤90000:=by
      simp only [List.length_cons,List.length_append,Bk.ints_length] at hll
      omega
     obtain ⟨_,g1,h1⟩:=drop_at hd
     refine ⟨_,rfl,_,_,_,rfl,R.rd,rfl,r,dx,c,n,xs,_,rfl,R.rd,R.calls.sq,g1,?_⟩
     refine ⟨_,rfl,rfl,_,rfl,ite2 (fun g=>absurd (V.int.inj (of_decide_eq_true g)) (by decide)) (fun _=>⟨_,rfl,rfl,_,rfl,ite2 (fun g=>absurd (V.int.inj (of_decide_eq_true g)) (by decide)) (fun _=>⟨_,rfl,rfl,_,rfl,ite2 (fun g=>absurd (V.int.inj (of_decide_eq_true g)) (by decide)) (fun _=>⟨_,rfl,rfl,_,rfl,ite2 (fun g=>absurd (V.int.inj (of_decide_eq_true g)) (by decide)) (fun _=>⟨_,rfl,rfl,_,rfl,ite2 (fun g=>absurd (V.int.inj (of_decide_eq_true g)) (by decide)) (fun _=>⟨_,rfl,rfl,_,rfl,ite2 (fun g=>absurd (V.int.inj (of_decide_eq_true g)) (by decide)) (fun _=>⟨_,rfl,rfl,_,rfl,ite2 (fun g=>absurd (V.int.inj (of_decide_eq_true g)) (by decide)) (fun _=>⟨_,rfl,rfl,_,rfl,ite2 (fun g=>absurd (V.int.inj (of_decide_eq_true g)) (by decide)) (fun _=>⟨_,rfl,rfl,_,rfl,ite2 (fun g=>absurd (V.int.inj (of_decide_eq_true g)) (by decide)) (fun _=>⟨_,rfl,rfl,_,rfl,ite2 (fun _=>?_) (fun g=>absurd (decide_eq_true rfl) g)⟩)⟩)⟩)⟩)⟩)⟩)⟩)⟩)⟩)⟩
     obtain ⟨l2,g2,h2⟩:=drop_at h1
     refine ⟨_,rfl,_,_,_,rfl,hs,rfl,_,rfl,_,_,_,rfl,R1.rd,rfl,r,dx,c,n + 1,xs,intsV p,t.map V.int,rfl,R1.rd,R1.calls.sq,l2,h1,fun q H4 hq st e4=>?_⟩
     have R4:=R1.step st
     have k4:=k1.after st
     exact ⟨s,q,d,p,rfl,R4.sess.r,e4,hpl,hb,(k4.pure R4 (drop_row h2) (drop_le l2 h2))⟩
   | has ps i t =>
     have hd:xs.drop n = .int 11 :: .int (i:Int) :: .int ((fivesV ps).length:Int) :: (fivesV ps ++ t.map V.int):=by
      rw [hd,fivesV_len,← fives_eq,List.map_cons,List.map_cons,List.map_cons,List.map_append]
     have hpl:ps.length≤90000:=by
      have e:=fivesV_len ps
      rw [fives_len] at e
      simp only [List.length_cons,List.length_append,Bk.ints_length] at hll
      omega
     obtain ⟨_,g1,h1⟩:=drop_at hd
     refine ⟨_,rfl,_,_,_,rfl,R.rd,rfl,r,dx,c,n,xs,_,rfl,R.rd,R.calls.sq,g1,?_⟩
     refine ⟨_,rfl,rfl,_,rfl,ite2 (fun g=>absurd (V.int.inj (of_decide_eq_true g)) (by decide)) (fun _=>⟨_,rfl,rfl,_,rfl,ite2 (fun g=>absurd (V.int.inj (of_decide_eq_true g)) (by decide)) (fun _=>⟨_,rfl,rfl,_,rfl,ite2 (fun g=>absurd (V.int.inj (of_decide_eq_true g)) (by decide)) (fun _=>⟨_,rfl,rfl,_,rfl,ite2 (fun g=>absurd (V.int.inj (of_decide_eq_true g)) (by decide)) (fun _=>⟨_,rfl,rfl,_,rfl,ite2 (fun g=>absurd (V.int.inj (of_decide_eq_true g)) (by decide)) (fun _=>⟨_,rfl,rfl,_,rfl,ite2 (fun g=>absurd (V.int.inj (of_decide_eq_true g)) (by decide)) (fun _=>⟨_,rfl,rfl,_,rfl,ite2 (fun g=>absurd (V.int.inj (of_decide_eq_true g)) (by decide)) (fun _=>⟨_,rfl,rfl,_,rfl,ite2 (fun g=>absurd (V.int.inj (of_decide_eq_true g)) (by decide)) (fun _=>⟨_,rfl,rfl,_,rfl,ite2 (fun g=>absurd (V.int.inj (of_decide_eq_true g)) (by decide)) (fun _=>⟨_,rfl,rfl,_,rfl,ite2 (fun g=>absurd (V.int.inj (of_decide_eq_true g)) (by decide)) (fun _=>⟨_,rfl,rfl,_,rfl,ite2 (fun _=>?_) (fun g=>absurd (decide_eq_true rfl) g)⟩)⟩)⟩)⟩)⟩)⟩)⟩)⟩)⟩)⟩)⟩
     exact ⟨_,rfl,_,rfl,s,r,dx,c,n + 1,xs,d,F,i,ps,t.map V.int,rfl,R1,h1,hpl,k1⟩
end
end Hp
namespace Hp
open PySem L2
theorem push_len (go:Nat→Nat→Bool):∀ (o st:List (Nat × Nat)),(o.foldl (Bk.push go) st).length≤st.length + o.length
 | [],st=>by simp
 | p :: o,st=>by
   rw [List.foldl_cons]
   refine Nat.le_trans (push_len go o _) ?_
   have:(Bk.push go st p).length≤st.length + 1:=by
    unfold Bk.push
    split
    · simp
    · split
      · rw [List.length_append,List.length_dropLast,List.length_singleton]
        omega
      · simp
   rw [List.length_cons]
   omega
theorem plain_len (b:Book) (joins:Bool) (l:List Place) (m:Bool):(Bk.plainOf b joins l m).length≤l.length:=by
 unfold Bk.plainOf
 rw [List.length_map,Bk.joined_fold]
 refine Nat.le_trans (push_len _ _ _) ?_
 rw [List.length_mergeSort,List.length_map,List.length_nil,Nat.zero_add]
 exact List.length_filter_le _ _
theorem others_len (drops:Bool) (l:List Place):(Bk.othersOf drops l).length≤l.length:=by
 unfold Bk.othersOf
 refine Nat.le_trans (List.Nodup.length_le_of_subset (Bk.nodup_eraseDups _) fun x hx=>List.mem_eraseDups.mp hx) ?_
 exact List.length_filter_le _ _
theorem form_len (b:Book) (joins drops:Bool) (l:List Place):(b.form joins drops l).length≤3 * l.length:=by
 rw [Bk.form_eq,List.length_mergeSort,List.length_append,List.length_append]
 have h1:=plain_len b joins l true
 have h2:=plain_len b joins l false
 have h3:=others_len drops l
 omega
theorem readAll_len (b:Book):∀ (l:List Bytes) (k:Nat) (ps:List Place),Bk.readAll b k l = .ok ps→ps.length = l.length
 | [],k,ps,h=>by
   unfold Bk.readAll at h
   cases h
   rfl
 | x :: l,k,ps,h=>by
   unfold Bk.readAll at h
   cases e:b.read x with
   | none=>rw [e] at h; cases h
   | some p =>
     rw [e] at h
     simp only at h
     cases e2:Bk.readAll b (k + 1) l with
     | error i=>rw [e2] at h; cases h
     | ok r =>
       rw [e2] at h
       have:=readAll_len b l (k + 1) r e2
       cases h
       rw [List.length_cons,List.length_cons,this]
theorem num_places (l:List Place):(PgNeutral.numbers (.places l)).length = 5 * l.length + 1:=by
 show (0 :: PgNeutral.ints (l.flatMap PgNeutral.five)).length = _
 rw [List.length_cons,Bk.ints_length,← fivesV_len,fives_len]
theorem num_bytes (s:Bytes):(PgNeutral.numbers (.bytes s)).length = s.length + 1:=by
 show (0 :: PgNeutral.ints s).length = _
 rw [List.length_cons,Bk.ints_length]
theorem out_len {l t:List Int} {x:IhPages.Call} {d:IhPages.State} (hv:Bk.View l x t) (hB:Bk.BookOk d.book) (hw:d.way≤4):(PgNeutral.numbers (IhPages.step d x).2).length + 1 + 60 * t.length≤60 * l.length:=by
 cases hv with
 | begin_ w j q t =>
   have h:(PgNeutral.numbers (IhPages.step d (.begin_ w j q)).2).length≤2:=by
    show (PgNeutral.numbers (if 4 < w∨1 < j∨1 < q then (d,IhPages.Answer.refused 1) else (_,.number 0)).2).length≤2
    split <;> simp [PgNeutral.numbers]
   simp only [List.length_cons]
   omega
 | run w j q p t hb =>
   have h:(PgNeutral.numbers (IhPages.step d (.run w j q p)).2).length≤2:=by
    show (PgNeutral.numbers (if IhPlace.Run.right ⟨w,j,q,p⟩ = false then (d,IhPages.Answer.refused 1) else if 64≤d.book.length∨65536 < d.book.pages + q then (d,.refused 2) else if IhPages.alikeNames (d.book ++ [⟨w,j,q,p⟩]) = true then (d,.refused 3) else ({ d with book:=d.book ++ [⟨w,j,q,p⟩] },.number d.book.length)).2).length≤2
    split
    · simp [PgNeutral.numbers]
    · split
      · simp [PgNeutral.numbers]
      · split <;> simp [PgNeutral.numbers]
   simp only [List.length_cons,List.length_append]
   omega
 | pages t =>
   have h:(PgNeutral.numbers (IhPages.step d .pages).2).length = 2:=rfl
   simp only [List.length_cons]
   omega
 | name i t =>
   have h:(PgNeutral.numbers (IhPages.step d (.name i)).2).length≤21:=by
    show (PgNeutral.numbers (if i < d.book.pages then .bytes (d.book.name i) else .refused 1)).length≤21
    split
    · rename_i hi
      obtain ⟨⟨k,r,n⟩,hp⟩:=Bk.page_some d.book i hi
      obtain ⟨h1,h2,_⟩:=Bk.page_num hB hp
      have:=name_short h1.plen h2
      rw [num_bytes,Bk.name_of hp]
      omega
    · simp [PgNeutral.numbers]
   simp only [List.length_cons]
   omega
 | page s t hb =>
   have h:(PgNeutral.numbers (IhPages.step d (.page s)).2).length≤2:=by
    show (PgNeutral.numbers (match d.book.find s with | some i=>.number i | none=>.refused 3)).length≤2
    split <;> simp [PgNeutral.numbers]
   simp only [List.length_cons,List.length_append]
   omega
 | write p t =>
   have h:(PgNeutral.numbers (IhPages.step d (.write p)).2).length≤53:=by
    show (PgNeutral.numbers (if p.right d.book = true then .bytes (p.text d.book d.way) else .refused 2)).length≤53
    split
    · rename_i hr
      have:=text_short hB hw hr
      rw [num_bytes]
      omega
    · simp [PgNeutral.numbers]
   simp only [List.length_cons,List.length_append]
   omega
 | read s t hb =>
   have h:(PgNeutral.numbers (IhPages.step d (.read s)).2).length≤6:=by
    show (PgNeutral.numbers (match d.book.read s with | some p=>.place p | none=>.refused 3)).length≤6
    split
    · show (0 :: PgNeutral.ints (PgNeutral.five _)).length≤6
      rw [List.length_cons,Bk.ints_length]
      simp [PgNeutral.five]
    · simp [PgNeutral.numbers]
   simp only [List.length_cons,List.length_append]
   omega
 | form ps t =>
   have h:(PgNeutral.numbers (IhPages.step d (.form ps)).2).length≤15 * ps.length + 1:=by
    show (PgNeutral.numbers (if 256 < ps.length then .refused 1 else if IhPages.allRight d.book ps = false then .refused 2 else .places (d.book.form d.joins d.drops ps))).length≤_
    split
    · simp [PgNeutral.numbers]
    · split
      · simp [PgNeutral.numbers]
      · have:=form_len d.book d.joins d.drops ps
        rw [num_places]
        omega
   have e:=fivesV_len ps
   rw [fives_len] at e
   simp only [List.length_cons,List.length_append,Bk.ints_length]
   omega
 | text ps t =>
   have h:(PgNeutral.numbers (IhPages.step d (.text ps)).2).length≤54 * ps.length + 1:=by
    show (PgNeutral.numbers (if 256 < ps.length then .refused 1 else if IhPages.allRight d.book ps = false then .refused 2 else .bytes (d.book.text d.way ps))).length≤_
    split
    · simp [PgNeutral.numbers]
    · split
      · simp [PgNeutral.numbers]
      · rename_i h1 h2
        have h2:IhPages.allRight d.book ps = true:=by simpa using h2
        have:=list_short hB hw ps fun p hp=>List.all_eq_true.mp h2 p hp
        rw [num_bytes]
        omega
   have e:=fivesV_len ps
   rw [fives_len] at e
   simp only [List.length_cons,List.length_append,Bk.ints_length]
   omega
 | list s t hb =>
   have h:(PgNeutral.numbers (IhPages.step d (.list s)).2).length≤5 * s.length + 6:=by
    show (PgNeutral.numbers (if 32768 < s.length then .refused 1 else listA (d.book.list s))).length≤_
    split
    · simp [PgNeutral.numbers]
    · rw [list_parts]
      cases e:Bk.readAll d.book 0 (partsT s) with
      | error i=>simp [listA,PgNeutral.numbers]
      | ok ps =>
        have h1:=readAll_len _ _ _ _ e
        have h2:=partsT_len s
        show (PgNeutral.numbers (if 256 < ps.length then .refused 4 else .places ps)).length≤_
        split
        · simp [PgNeutral.numbers]
        · rw [num_places]
          omega
   simp only [List.length_cons,List.length_append,Bk.ints_length]
   omega
 | has ps i t =>
   have h:(PgNeutral.numbers (IhPages.step d (.has ps i)).2).length≤2:=by
    show (PgNeutral.numbers (if 256 < ps.length then .refused 1 else if IhPages.allRight d.book ps = false then .refused 2 else match ps.findIdx? (withPage i) with | some k=>.number k | none=>.refused 3)).length≤2
    split
    · simp [PgNeutral.numbers]
    · split
      · simp [PgNeutral.numbers]
      · split <;> simp [PgNeutral.numbers]
   simp only [List.length_cons,List.length_append]
   omega
end Hp
namespace Hp
open PySem L2
section
variable {P:Program} {w:World} {K:PySem.W.Frag} {mg:Str→Option Value} {base:Heap} {a:Adr}
def LoopA (K:PySem.W.Frag) (a:Adr) (ns:List Int) (c s r dr tl:Addr) (F:Addr→Prop) (m:Nat) (σ:St) (Hc:Hp):Prop :=
 ∃ (n:Nat) (d:IhPages.State) (dn out:List Int),m = ns.length - n∧n≤ns.length∧(∃ u,σ = [some (.ref c),some (.ref s),some (.ref r),some (.ref tl),u])∧Rdy K a Hc s r dr c n (ns.map V.int) d F∧Hc tl = some (.lst (dn.map V.int))∧Bk.Play d (ns.drop n) out∧PyWqakbc.answers ns = dn ++ out∧dn.length≤60 * n
def sp_answers (K:PySem.W.Frag):Sp:=fun vs H Q _=>∃ (c:Addr) (ns:List Int),vs = [.ref c]∧SqL K H c (ns.map V.int)∧ns.length≤31000∧PyWqakbc.answers_asked ns = true∧∀ l H',H' l = some (.lst ((PyWqakbc.answers ns).map V.int))→Q (.ref l) H'
theorem sess_dom {H:Hp} {s nm rs ld sg b:Addr} {ls:List Addr} {d:IhPages.State} (h:SessAt a H s nm rs ld ls sg b d) {x:Addr} (hx:H x = none):x≠s∧x≠b∧x≠rs∧x≠ld∧x ∉ ls:=by
 obtain ⟨ds,h1⟩:=h.ob
 obtain ⟨db,h2⟩:=h.bk.ob
 obtain ⟨as,h3,_⟩:=h.bk.runs
 exact ⟨(ne_of_none h1 hx).symm,(ne_of_none h2 hx).symm,(ne_of_none h3 hx).symm,(ne_of_none h.bk.lett hx).symm,h.bk.nums.notIn hx⟩
theorem ok_answers (T:Txt K mg a):FnOk P w K mg base CX0 10 a.answers.f a.answers.d ["calls"] (sp_answers K):=by
 have sc:FnScope ["calls","session","reader","told","answer"] ["calls"] (defScope s_answers):=⟨rfl,rfl,rfl,by decide +kernel,rfl,by decide +kernel,by decide +kernel⟩
 refine T.answers.fn.ok sc (fun vs H Q E h=>?_) (fun cdv A outer s H vs Q E hr h=>?_)
 · obtain ⟨_,_,rfl,_⟩:=h
   rfl
 · obtain ⟨c,ns,rfl,hc,hlen,hask,k⟩:=h
   refine ⟨_,(pss_cons (ps_set (i:=1) sc.nd rfl (Or.inl rfl) (pe_make0 T.c_Session.mkd (ok_Session_init T) (hr.mono (by decide)) rfl T.c_Session.m T.Session_init.b .nil pass0))
    (pss_cons (ps_set (i:=2) sc.nd rfl (Or.inl rfl) (pe_make T.c_Reader.mkd (ok_Reader_init T) (hr.mono (by decide)) rfl T.c_Reader.m T.Reader_init.b .nil pass0 (pa_1 (pv 0))))
    (pss_cons (ps_set (i:=3) sc.nd rfl (Or.inl rfl) (pe_lst pa_nil))
    (pss_cons (ps_while PassesOwn.never (pt_not (pt_val (pe_meth0 (pv 2) T.c_Reader.cl T.Reader_at_end.m (ok_Reader_at_end T) (hr.mono (by decide)) T.Reader_at_end.b .nil pass0)))
     (pss_cons (ps_set (i:=4) sc.nd rfl (Or.inl rfl) (pe_call (ok_answer_call T) (hr.mono (by decide)) rfl T.answer_call.m T.answer_call.fn.kp T.answer_call.b .nil pass0 (pa_2 (pv 1) (pv 2))))
     (pss_cons (ps_expr (pe_bm PySem.F.plainAttrs_list PySem.F.slot_list_append PySem.F.type_list_append mt_append (pv 3) (pa_1 (pe_callB call_len_seq (by rfl) T.b_len PySem.boot_len (pa_1 (pv 4))))))
     (pss_one (ps_expr (pe_bm PySem.F.plainAttrs_list PySem.F.slot_list_extend PySem.F.type_list_extend mt_extend (pv 3) (pa_1 (pv 4))))))))
    (pss_one (ps_ret (pv 3))))))),?_⟩
   have hz:sizeLine = 16777216:=rfl
   have hplay:=Bk.answers_play hask
   refine fun s ds n1 n2 n3=>⟨s,ds,rfl,upd_same,fun H1 nm rs ld ls sg b hS hrs made=>⟨rfl,?_⟩⟩
   have s1:Same H H1:=Same.made n1 n2 made
   refine ⟨_,rfl,fun r dr k1 k2 k3=>⟨r,dr,c,rfl,upd_same,fun H2 hR made2=>⟨rfl,?_⟩⟩⟩
   have s2:Same H1 H2:=Same.made k1 k2 made2
   refine ⟨(show 0≤sizeLine by decide),fun tl htl=>?_⟩
   have s3:Same H2 (upd H2 tl (.lst [])):=Same.new htl
   have ht3:upd H2 tl (.lst []) tl = some (.lst []):=upd_same
   have hR3:=s3 _ _ hR
   have hS3:=hS.mono (Same.trans s2 s3)
   have rtl:r≠tl:=ne_of_none hR htl
   obtain ⟨F,Ft,Fr,Fc,hA,hSome,CT⟩:∃ F:Addr→Prop,F tl∧F r∧CallsAt K (upd H2 tl (.lst [])) F c (ns.map V.int)∧Apart F s b rs ld ls∧(∀ y,F y→upd H2 tl (.lst []) y≠none)∧((∀ H',SqL K H' c (ns.map V.int))∨c≠tl):=by
    have ar:=sess_dom hS k1
    have at_:=sess_dom (hS.mono s2) htl
    rcases hc with hc | hc
    · have hcs:∃ o,H c = some o∧(∀ C d fs,o≠.ins C d fs)∧(∀ kvs,o≠.dK kvs)∧∀ i n,o≠.lst (textsV i n):=by
       rcases hc with g | ⟨u,g⟩
       · exact ⟨_,g,(fun _ _ _ z=>nomatch z),(fun _ z=>nomatch z),AlienB.texts (.inr ⟨ns,rfl⟩)⟩
       · exact ⟨_,g,(fun _ _ _ z=>nomatch z),(fun _ z=>nomatch z),(fun _ _ z=>nomatch z)⟩
      obtain ⟨o,ho,o1,o2,o3⟩:=hcs
      have ho3:=(Same.trans s1 (Same.trans s2 s3)) _ _ ho
      have ac:c≠s∧c≠b∧c≠rs∧c≠ld∧c ∉ ls:=by
       obtain ⟨dS,q1⟩:=hS3.ob
       obtain ⟨dB,q2⟩:=hS3.bk.ob
       refine ⟨ne_of ho3 q1 (o1 _ _ _),ne_of ho3 q2 (o1 _ _ _),fun z=>?_,ne_of ho3 hS3.bk.lett (o2 _),hS3.bk.nums.out ho3 o3⟩
       have e1:upd (upd H ds (.own s)) s (.ins a.c_Session ds []) rs = some o:=by
        rw [← z,upd_ne (ne_of_none ho n1),upd_ne (ne_of_none ho n2)]
        exact ho
       have e2:=hrs o e1
       rw [← z] at e2
       exact ne_of_none ho n1 e2
      refine ⟨fun x=>x = tl∨x = r∨x = c,.inl rfl,.inr (.inl rfl),.inr ⟨.inr (.inr rfl),?_⟩,?_,?_,.inr ?_⟩
      · rcases hc with g | ⟨u,g⟩
        · exact .inl ((Same.trans s1 (Same.trans s2 s3)) _ _ g)
        · exact .inr ⟨u,(Same.trans s1 (Same.trans s2 s3)) _ _ g⟩
      · rintro x (rfl | rfl | rfl)
        · exact at_
        · exact ar
        · exact ac
      · rintro y (rfl | rfl | rfl)
        · rw [ht3]; exact fun z=>nomatch z
        · rw [hR3]; exact fun z=>nomatch z
        · rw [ho3]; exact fun z=>nomatch z
      · exact ne_of_none ((Same.trans s1 s2) _ _ ho) htl
    · refine ⟨fun x=>x = tl∨x = r,.inl rfl,.inr rfl,.inl fun H'=>.inr hc,?_,?_,.inl fun H'=>.inr hc⟩
      · rintro x (rfl | rfl)
        · exact at_
        · exact ar
      · rintro y (rfl | rfl)
        · rw [ht3]; exact fun z=>nomatch z
        · rw [hR3]; exact fun z=>nomatch z
   have R0:Rdy K a (upd H2 tl (.lst [])) s r dr c 0 (ns.map V.int) IhPages.start F:=⟨⟨nm,rs,ld,ls,sg,b,hS3,hA⟩,Fr,hSome,hR3,Fc⟩
   generalize upd H2 tl (.lst []) = H3 at *
   refine ⟨LoopA K a ns c s r dr tl F,⟨_,0,IhPages.start,[],PyWqakbc.answers ns,rfl,Nat.zero_le _,⟨_,rfl⟩,R0,ht3,(by rw [List.drop_zero]; exact hplay),rfl,Nat.le_refl _⟩,?_⟩
   rintro m σ Hc ⟨n,d,dn,out,rfl,hn,⟨u,rfl⟩,R,ht,hp,hans,hdn⟩
   refine ⟨_,rfl,_,_,_,rfl,R.rd,rfl,r,dr,c,n,ns.map V.int,rfl,R.rd,R.calls.sq,_,rfl,ite2 (fun h=>?_) (fun h=>?_)⟩
   · have h:¬ n = (ns.map V.int).length:=by simpa using h
     rw [List.length_map] at h
     refine ⟨fun σ' H'=>∃ m',m' < ns.length - n∧LoopA K a ns c s r dr tl F m' σ' H',fun _ _ h=>h,?_⟩
     have hll:(ns.drop n).length = ns.length - n:=List.length_drop
     generalize hl:ns.drop n = l at *
     cases hp with
     | done=>simp at hll; omega
     | @call _ _ t out x hv hp =>
       obtain ⟨_,_,_,_,_,_,hSA,_⟩:=R.sess
       have hol:=out_len hv hSA.bk.ok hSA.way
       refine ⟨_,rfl,_,rfl,s,r,dr,c,n,ns,l,d,F,x,t,rfl,R,hl,hv,hlen,fun q H4 n4 hV hn4 hd4 hr4 hc4 kp hq nq=>?_⟩
       rw [List.length_map] at hn4
       have htl4:ns.drop n4 = t:=by
        rw [← List.map_drop] at hd4
        exact List.map_inj_right (fun x y z=>V.int.inj z) |>.mp hd4
       have hlt:t.length = ns.length - n4:=by rw [← htl4,List.length_drop]
       have ht4:=kp tl _ Ft rtl.symm ht
       have qtl:q≠tl:=fun z=>nq (z ▸ Ft)
       have ol:(outV (IhPages.step d x).2).length = (PgNeutral.numbers (IhPages.step d x).2).length:=List.length_map ..
       refine ⟨_,rfl,.inl ⟨rfl,_,SqL.of ht4⟩,_,rfl,q,_,rfl,.inl (SqL.of hq),tl,_,_,rfl,rfl,ht4,?_,?_⟩
       · rw [List.length_map]
         omega
       refine ⟨_,rfl,.inl ⟨rfl,_,SqL.of upd_same⟩,_,rfl,tl,q,_,_,rfl,rfl,upd_same,(upd_ne qtl).trans hq,?_,?_⟩
       · rw [List.length_append,List.length_map,List.length_singleton,ol]
         omega
       have hal:AlienB (.lst (dn.map V.int)):=.inr ⟨dn,rfl⟩
       have some4:∀ y,F y→H4 y≠none:=fun y f=>by
        by_cases z:y = r
        · rw [z,hr4]; exact fun z=>nomatch z
        · cases e:Hc y with
          | none=>exact absurd e (R.some_ y f)
          | some o=>rw [kp y o f z e]; exact fun z=>nomatch z
       rw [upd_upd]
       have R6:Rdy K a (upd H4 tl (.lst (dn.map V.int ++ [V.int ((outV (IhPages.step d x).2).length:Int)] ++ outV (IhPages.step d x).2))) s r dr c n4 (ns.map V.int) (IhPages.step d x).1 F:=by
        refine ⟨hV.alien Ft ht4 hal,Fr,fun y f=>?_,(upd_ne rtl).trans hr4,?_⟩
        · by_cases z:y = tl
          · rw [z,upd_same]; exact fun z=>nomatch z
          · rw [upd_ne z]; exact some4 y f
        · rcases CT with ct | ct
          · exact .inl ct
          · exact hc4.kept fun o _ e=>(upd_ne ct).trans e
       refine ⟨ns.length - n4,by omega,n4,(IhPages.step d x).1,dn ++ (((PgNeutral.numbers (IhPages.step d x).2).length:Int) :: PgNeutral.numbers (IhPages.step d x).2),out,rfl,hn4,⟨_,rfl⟩,R6,?_,(by rw [htl4]; exact hp),?_,?_⟩
       · rw [upd_same,ol,List.map_append,List.map_cons,List.append_assoc]
         rfl
       · rw [hans,List.append_assoc,List.cons_append]
       · rw [List.length_append,List.length_cons]
         omega
   · have h:n = (ns.map V.int).length:=by simpa using h
     rw [List.length_map] at h
     have e0:ns.drop n = []:=List.drop_of_length_le (by omega)
     rw [e0] at hp
     have eo:out = []:=by
      cases hp with
      | done=>rfl
      | call hv _=>cases hv
     rw [eo,List.append_nil] at hans
     rw [hans] at k
     exact ⟨_,rfl,k tl Hc ht⟩
end
end Hp
namespace SpA
open PySem PyProof.Rows PySem.W L2
theorem call_any {P:Program} {w:World} {K:PySem.W.Frag} {mg mb:Str→Option Value} {CX:CXT} {k:Nat} {fa a:Addr} {fd:FuncData} {x:Str} {sp:Sp} {s₁:Shared} {vs:List Value} {ns:List Int} {Qf:V→Hp→Prop}
  (KX:K.In s₁.heap) (hns:s₁.heap.Ns mainGlobals mg) (hb:s₁.heap.Ns builtinsNs mb) (hbb:∀ x:Str,x≠"__name__"→mb x = bootBuiltins x) (hlim:s₁.heap.NoLimit) (hg:s₁.gens = #[])
  (ha:s₁.heap.get? a = some { cls:=.type "list",data:=.seq vs.toArray }) (hi:IntsAre vs ns) (hl:ns.length≤sizeLine) (hr:Room k callerA)
  (F:∀ base:Heap,K.In base→base.Ns mainGlobals mg→FnOk P w K mg base CX k fa fd [x] sp) (hbind:∀ (s:Shared) (u:Value),BindsTo s fd ⟨[u],[]⟩ [(x,u)])
  (hsp:∀ H:Hp,Only H→SqL K H a (ns.map V.int)→sp [.ref a] H Qf fun _ _ _=>False)
  (hCX:∀ H e s',CX [] H s₁ (fun _ _ _=>False) e s'→False) :
  codeAny (model P w) callerA (.call (.ref fa) ⟨[.ref a],[]⟩) (fun r s'=>(∃ u v H',r = .ok (.ret u)∧RelV v u∧Qf v H'∧HOk P w H' s'.heap)∧OldK s₁.heap s'.heap∧s'.os = s₁.os∧AllBare s'.gens) s₁:=by
 have rv:=vals_ints hi
 have lenV:=hi.length
 have core:∀ H:Hp,Only H→SqL K H a (ns.map V.int)→HOk P w H s₁.heap→(∀ b,H b≠none→b = a)→(H a≠none→K.lookup a = none) →
   codeAny (model P w) callerA (.call (.ref fa) ⟨[.ref a],[]⟩) (fun r s'=>(∃ u v H',r = .ok (.ret u)∧RelV v u∧Qf v H'∧HOk P w H' s'.heap)∧OldK s₁.heap s'.heap∧s'.os = s₁.os∧AllBare s'.gens) s₁:=by
  intro H hO hS hok hA hK
  have base_of:∀ {b:Addr} {o:Obj},s₁.heap.get? b = some o→H b = none→(hidT s₁.heap H).get? b = some o:=fun e n=>hidT_get e n
  have noA:∀ {b:Addr} {o:Obj} {es:Array DictEntry} {ep:Nat},s₁.heap.get? b = some o→o.data = .dict es ep→H b = none:=fun {b o es ep} e d=>by
   cases q:H b with
   | none=>rfl
   | some u =>
     have e':b = a:=hA b (by rw [q]; simp)
     subst e'
     rw [ha] at e; cases e
     have d':Data.seq vs.toArray _ = Data.dict es ep:=d
     cases d'
  have nsK:∀ {b:Addr} {m:Str→Option Value},s₁.heap.Ns b m→(hidT s₁.heap H).Ns b m:=fun {b m} ⟨o,es,ep,e,d,r⟩=>⟨o,es,ep,base_of e (noA e d),d,r⟩
  have hKb:K.In (hidT s₁.heap H):=fun b o e=>base_of (KX b o e) (by
   cases q:H b with
   | none=>rfl
   | some u =>
     have e':b = a:=hA b (by rw [q]; simp)
     subst e'
     rw [hK (by rw [q]; simp)] at e; cases e)
  have hM:Mod K mg (hidT s₁.heap H):=⟨hKb,nsK hns,⟨mb,nsK hb,hbb⟩,let ⟨mc,h1,h2⟩:=hlim; ⟨mc,nsK h1,h2⟩⟩
  have e0:Env0 P w K mg (hidT s₁.heap H) callerA [] s₁ H:=⟨rfl,hM,fun b o e=>of_hidT e,Nat.le_of_eq (hidT_size _ _),trivial,fun b hb=>absurd (show b∈([]:List Addr) from hb) (by simp),hok,.of_eq hg⟩
  refine codeAny_mono ((F _ hKb (nsK hns)).run callerA [] s₁ H ⟨[.ref a],[]⟩ [.ref a] [.ref a] _ _ hr e0 (hbind s₁ (.ref a)) (.cons rfl .nil) (hsp H hO hS)) fun r s' h=>?_
  cases r with
  | error e=>exact (hCX H e s' h).elim
  | ok fl =>
    cases fl with
    | next=>exact False.elim h
    | brk=>exact False.elim h
    | cont=>exact False.elim h
    | ret u =>
      obtain ⟨v,H',os,bare,un,hok',r',q⟩:=h
      refine ⟨⟨u,v,H',rfl,r',q,hok'⟩,OldK.of_keep fun b o e=>?_,os,bare⟩
      cases q:H b with
      | none=>exact un.keep b o e q (by intro z; exact absurd (show b∈([]:List Addr) from z) (by simp)) (by simp)
      | some u =>
        rcases hO b with z | ⟨ob,xs,z⟩
        · rw [q] at z; cases z
        · have z2:=un.frzs b ob _ z
          obtain ⟨e1,_⟩:=hok b _ z
          obtain ⟨e2,_⟩:=hok' b _ z2
          rw [e] at e1; cases e1
          exact e2
 cases hk:K.lookup a with
 | some o =>
   have e:=KX a o hk
   rw [ha] at e
   cases e
   refine core (fun _=>none) (fun _=>.inl rfl) (.inr ⟨_,vs.toArray,_,hk,rfl,rfl,rfl,by rw [List.size_toArray,lenV]; exact hl,by simpa using rv⟩) (fun b u z=>by have z':(none:Option HO) = some u:=z; cases z') (fun b z=>absurd rfl z) fun z=>absurd rfl z
 | none =>
   refine core (fun b=>if b = a then some (.frz { cls:=.type "list",data:=.seq vs.toArray } (.lst (ns.map V.int))) else none) (fun b=>?_) (.inl (.inr ⟨{ cls:=.type "list",data:=.seq vs.toArray },if_pos rfl⟩)) (fun b u z=>?_) (fun b z=>?_) fun _=>hk
   · by_cases hb:b = a
     · exact .inr ⟨_,_,if_pos hb⟩
     · exact .inl (if_neg hb)
   · by_cases hb:b = a
     · have z':=(if_pos hb).symm.trans z
       cases z'
       subst hb
       exact ⟨ha,by rw [List.length_map]; exact hl,vs,_,rv,ha⟩
     · have z':=(if_neg hb).symm.trans z
       cases z'
   · by_cases hb:b = a
     · exact hb
     · exact absurd (if_neg hb) z
theorem reads_ints {R:PySem.W.WRecords} {cl:Str→Option Addr} {h:Heap}:∀ {us:List Value} {ms:List Int},IntsAre us ms→PySem.W.ReadsAllW R cl h us (ms.map PySem.W.WData.int) []
 | _,_,.nil=>.nil
 | _,_,.cons n t r=>PySem.W.ReadsAllW.cons (as:=[]) (bs:=[]) (.int n t) (reads_ints r)
theorem walk_spec {r:PySem.W.OpenSpec} {prog:Program} {nm:Str} {least most l2 m2:Nat} {lo hi lo2 hi2:Int} {asked:List Int→Bool} {f:List Int→List Int} {k:Nat} {q:Program} {loose:List Str} {XP:(Str→Option Value)→Heap→Prop} {YP:World→Heap→Prop}
  {d:DefRec} {K:Params→PySem.W.Frag} {sp:PySem.W.Frag→Sp} {x:Str}
  (er:r = ⟨prog,nm,[.list least most (.int lo hi)],.list l2 m2 (.int lo2 hi2),asked,f⟩) (said:r.wellSaid = true) (hn2:most≤sizeLine) (hdf:d.params.defaults = []) (hr:Room k callerA)
  (hY:∀ (w:World) (h:Heap),YP w h→(K w.params).In h)
  (F:∀ (w:World) (mg:Str→Option Value) (fa:Addr) (h:Heap),(K w.params).In h→h.Ns mainGlobals mg→mg d.name = some (.ref fa) →
   ∃ fd:FuncData,(∀ (s:Shared) (u:Value),BindsTo s fd ⟨[u],[]⟩ [(x,u)]) ∧
     ∀ base:Heap,(K w.params).In base→base.Ns mainGlobals mg→FnOk r.prog w (K w.params) mg base CX0 k fa fd [x] (sp (K w.params)))
  (hsp:∀ (K:PySem.W.Frag) (H:Hp) (a:Addr) (ns:List Int),ns.length≤most→(∀ z∈ns,lo≤z∧z≤hi)→asked ns = true→SqL K H a (ns.map V.int) →
   sp K [.ref a] H (fun v H'=>∃ l,v = .ref l∧H' l = some (.lst ((f ns).map V.int))) fun _ _ _=>False) :
  PySem.W.WalkOS q loose XP YP r d [] (fun f vs=>PySem.call f vs):=by
 subst er
 intro w s₀ s₁ mg mb G Y fa o pm cd doc dV kV ho hd hcd hD hmg hg args vals as hpre hlay hrd hwl hlo
 obtain rfl:dV = .none:=Dflts.none hD hdf
 obtain rfl:kV = .none:=Dflts.noKw hD
 obtain ⟨⟨ns,⟨⟩⟩,hwi,hask,rfl⟩:=(PySem.W.OpenSpec.pre_iff said args).mp hpre
 have hwi':PySem.W.Codec.inList least most (PySem.W.Codec.inInt lo hi) ns = true:=(Bool.and_eq_true_iff.mp (show (PySem.W.Codec.inList least most (PySem.W.Codec.inInt lo hi) ns && true) = true from hwi)).1
 obtain ⟨hl1,hl2⟩:=Bool.and_eq_true_iff.mp (show (PySem.W.Codec.inLen least most ns && ns.all (PySem.W.Codec.inInt lo hi)) = true from hwi')
 have hlen:ns.length≤most:=(PySem.W.Codec.inNat_iff.mp hl1).2
 have hits:∀ z∈ns,lo≤z∧z≤hi:=fun z hz=>PySem.W.Codec.inInt_iff.mp (List.all_eq_true.mp hl2 z hz)
 have hask':asked ns = true:=hask
 have hwl':PySem.W.WellAll w.params s₁.heap vals [PySem.W.WData.list (ns.map PySem.W.WData.int)]:=hwl
 cases hwl' with
 | cons w1 w2 =>
   cases w2
   cases w1 with
   | list hobj hall =>
     have hints:=Att.ints_of_wellAll ns _ hall
     have KX:=hY w _ Y
     obtain ⟨fd,hb,hF⟩:=F w mg fa _ KX G.T.g hmg
     refine enter_call (codeAny_mono (call_any KX G.T.g G.T.b G.T.builtins G.T.nolimit hg hobj hints (Nat.le_trans hlen hn2) hr hF hb (fun H _ hS=>hsp _ H _ ns hlen hits hask' hS) fun _ _ _ z=>z) fun r s' hq=>?_)
     obtain ⟨⟨u,v,H',rfl,rv,⟨l,rfl,hl⟩,hok'⟩,h2,h3,h4⟩:=hq
     obtain rfl:u = Value.ref l:=rv
     obtain ⟨hz,its,n,vv,hget⟩:=hok' l _ hl
     refine ⟨.inl ⟨.ref l,PySem.W.WData.list ((f ns).map PySem.W.WData.int),[l],rfl,fun _=>rfl,PySem.W.ReadsW.list hget rfl rfl (by simpa using reads_ints (Vals.ints vv)),?_,fun z=>absurd z Bool.false_ne_true⟩,h2,h3,h4⟩
     exact (PySem.W.OpenSpec.post_iff said hwi _ _).mpr rfl
end SpA
namespace Hp
open PySem L2
theorem gf_mk1 {K:PySem.W.Frag} {mg:Str→Option Value} {h:Heap} {x p:Str} {st:Stmt} {f:Addr} {oc:Value} {od an:Option Addr} {osl:Array (Option Value)} {kV doc pm cdv ct:Value} (X:K.In h) (G:h.Ns mainGlobals mg)
  (n:PySem.W.nsIn K mainGlobals x = some (some (.ref f)))
  (l:K.lookup f = some ⟨oc,od,.func (PySem.W.fnOf x x (defArgs st) (defBody st) (defScope st) .none kV doc pm an cdv ct),osl⟩)
  (c:PySem.W.codeIn K cdv x = true) (k:PySem.W.keepIn K (.ref f) = true)
  (hb:∀ (kV doc pm:Value) (an:Option Addr) (cdv ct:Value) (us:List Value),us.length = [p].length→bindArgs (PySem.W.fnOf x x (defArgs st) (defBody st) (defScope st) .none kV doc pm an cdv ct) ⟨us,[]⟩ = pure ([p].zip us)) :
  ∃ e,GF K mg x st [p] e∧∀ (s:Shared) (u:Value),BindsTo s e.d ⟨[u],[]⟩ [(p,u)]:=⟨_,⟨fok_mk l c k hb,PySem.W.mg_of X G n⟩,fun s u=>.of_eq (hb _ _ _ _ _ _ [u] rfl)⟩
end Hp
open PySem PySem.W PyProof.Rows
def PySem.W.Fast.tw9616833591252263262:Nat:=0
def PySem.W.Fast.tw5916822114113122559:Nat:=0
def PySem.W.Fast.tw13241631073112556790:Nat:=0
def PySem.W.Fast.tw8684802646839275185:Nat:=0
def PySem.W.Fast.tw11798357266973240887:Nat:=0
def PySem.W.Fast.tw3667580010575432324:Nat:=0
def PySem.W.Fast.tw9290385178535714845:Nat:=0
def PySem.W.Fast.tw11474387237537758752:Nat:=0
def PySem.W.Fast.tw1768433143396354476:Nat:=0
def PySem.W.Fast.tw13533264514319600362:Nat:=0
def PySem.W.Fast.tw9024882589855579426:Nat:=0
def PySem.W.Fast.tw17059818436941555607:Nat:=0
def PySem.W.Fast.tw1439696661128724276:Nat:=0
def PySem.W.Fast.tw18273424604489691626:Nat:=0
def PySem.W.Fast.tw4969385423838607815:Nat:=0
def PySem.W.Fast.tw4478029950158484676:Nat:=0
def PySem.W.Fast.tw7802024768817568271:Nat:=0
def PySem.W.Fast.tw13122999483866119553:Nat:=0
def PySem.W.Fast.tw3192537913833666352:Nat:=0
def PySem.W.Fast.tw9563553563817682785:Nat:=0
def PySem.W.Fast.tw18049853688845110607:Nat:=0
def PySem.W.Fast.tw5995282925420263525:Nat:=0
def PySem.W.Fast.tw17367471245132165890:Nat:=0
def PySem.W.Fast.tw5578219826614973474:Nat:=0
def PySem.W.Fast.tw13474268697550056335:Nat:=0
def PySem.W.Fast.tw17458999130681232961:Nat:=0
def PySem.W.Fast.tw9453375073292788063:Nat:=0
def PySem.W.Fast.tw15834756397799174123:Nat:=0
def PySem.W.Fast.tw4412881204180506946:Nat:=0
def PySem.W.Fast.tw6840419762810155025:Nat:=0
def PySem.W.Fast.tw4413138407479873739:Nat:=0
def PySem.W.Fast.tw4499536542739814933:Nat:=0
def PySem.W.Fast.tw9801899399218203513:Nat:=0
def PySem.W.Fast.tw7046644766454361857:Nat:=0
def PySem.W.Fast.tw17043686530617680403:Nat:=0
def PySem.W.Fast.tw5338172556582263449:Nat:=0
def PySem.W.Fast.tw16384175886942477852:Nat:=0
def PySem.W.Fast.tw3104344900192397181:Nat:=0
def PySem.W.Fast.tw4192027723030298511:Nat:=0
def PySem.W.Fast.tw6340078361390008119:Nat:=0
def PySem.W.Fast.tw13003116256209513001:Nat:=0
def PySem.W.Fast.tw13161819542733005405:Nat:=0
def PySem.W.Fast.tw14841392797869638233:Nat:=0
def PySem.W.Fast.tw12015508136545573709:Nat:=0
def PySem.W.Fast.tw4775732215443802099:Nat:=0
def PySem.W.Fast.tw12720237918169697315:Nat:=0
def PySem.W.Fast.tw3972168016626216103:Nat:=0
def PySem.W.Fast.tw10932199854267923876:Nat:=0
def PySem.W.Fast.tw6769457502408106605:Nat:=0
def PySem.W.Fast.tw7024722666048475062:Nat:=0
def PySem.W.Fast.tw14192011565556190884:Nat:=0
def PySem.W.Fast.tw3034189555683132228:Nat:=0
def PySem.W.Fast.tw17251560858094811478:Nat:=0
def PySem.W.Fast.tw12322696505845223487:Nat:=0
def PySem.W.Fast.tw12161352995895188676:Nat:=0
def PySem.W.Fast.tw2036853958239583186:Nat:=0
def PySem.W.Fast.tw14826892107073334350:Nat:=0
def PySem.W.Fast.tw17313379217207790998:Nat:=0
def PySem.W.Fast.tw18141854203071421303:Nat:=0
def PySem.W.Fast.tw355037535284510486:Nat:=0
def PySem.W.Fast.tw8816270942956045111:Nat:=0
def PySem.W.Fast.tw1632384195538002540:Nat:=0
def PySem.W.Fast.tw6778213868589195152:Nat:=0
def PySem.W.Fast.tw11187755869263639108:Nat:=0
def PySem.W.Fast.tw13847895648818535776:Nat:=0
def PySem.W.Fast.tw10239089667271118623:Nat:=0
def PySem.W.Fast.tw12561767360074069671:Nat:=0
def PySem.W.Fast.tw11638286831788692363:Nat:=0
def PySem.W.Fast.tw6201694983014405500:Nat:=0
def PySem.W.Fast.tw14547955132199095433:Nat:=0
def PySem.W.Fast.tw7134891638181529420:Nat:=0
def PySem.W.Fast.tw15834495843888442354:Nat:=0
def PySem.W.Fast.tw16922396844283499356:Nat:=0
def PySem.W.Fast.tw12811383593356378874:Nat:=0
def PySem.W.Fast.tw4278430440870407976:Nat:=0
def PySem.W.Fast.tw4337498722820056082:Nat:=0
def PySem.W.Fast.tw15140519664910873780:Nat:=0
def PySem.W.Fast.tw15106274448285078877:Nat:=0
def PySem.W.Fast.tw2933855960003663231:Nat:=0
def PySem.W.Fast.tw17225261807735181138:Nat:=0
def PySem.W.Fast.tw2309978986630923764:Nat:=0
def PySem.W.Fast.tw14003331118127619061:Nat:=0
def PySem.W.Fast.tw1786458508025535539:Nat:=0
def PySem.W.Fast.tw3724113655808821175:Nat:=0
def PySem.W.Fast.tw13065728947637199594:Nat:=0
def PySem.W.Fast.tw5175079459695742933:Nat:=0
def PySem.W.Fast.tw325963557499636863:Nat:=0
def PySem.W.Fast.tw11309607934308962946:Nat:=0
def PySem.W.Fast.tw12627910709513136321:Nat:=0
def PySem.W.Fast.tw15938581147064511348:Nat:=0
def PySem.W.Fast.tw12155207004620375364:Nat:=0
def PySem.W.Fast.tw12203468653494170561:Nat:=0
def PySem.W.Fast.tw17894587077881690640:Nat:=0
def PySem.W.Fast.tw15037190566162543433:Nat:=0
def PySem.W.Fast.tw1595624117961997773:Nat:=0
def PySem.W.Fast.tw4788806324832287051:Nat:=0
def PySem.W.Fast.tw28811107641402091:Nat:=0
def PySem.W.Fast.tw12678005253991327699:Nat:=0
def PySem.W.Fast.tw1986859743616015433:Nat:=0
def PySem.W.Fast.tw8108253958418067219:Nat:=0
def PySem.W.Fast.tw152624032873528896:Nat:=0
def PySem.W.Fast.tw3794446581447697631:Nat:=0
def PySem.W.Fast.tw8464541791549486776:Nat:=0
def PySem.W.Fast.tw17581927975855079607:Nat:=0
def PySem.W.Fast.tw14911281522035190410:Nat:=0
def PySem.W.Fast.tw6146471964386168244:Nat:=0
def PySem.W.Fast.tw5181433074347937274:Nat:=0
def PySem.W.Fast.tw14373495873293586019:Nat:=0
def PySem.W.Fast.tw7364969316372894140:Nat:=0
def PySem.W.Fast.tw11322470018022820347:Nat:=0
def PySem.W.Fast.tw10453181280872589294:Nat:=0
def PySem.W.Fast.tw14697571428157190517:Nat:=0
def PySem.W.Fast.tw6035970937594393306:Nat:=0
def PySem.W.Fast.tw8744391020452736367:Nat:=0
def PySem.W.Fast.tw388358934687638528:Nat:=0
def PySem.W.Fast.tw9622532275871947523:Nat:=0
def PySem.W.Fast.tw12451266081920214349:Nat:=0
def PySem.W.Fast.tw5350213576902795221:Nat:=0
def PySem.W.Fast.tw6316578269268628943:Nat:=0
def PySem.W.Fast.tw9454635639940144258:Nat:=0
def PySem.W.Fast.tw4172166520100497344:Nat:=0
def PySem.W.Fast.tw4632857584554110717:Nat:=0
def PySem.W.Fast.tw9396528512694719766:Nat:=0
def PySem.W.Fast.tw804982314317459054:Nat:=0
def PySem.W.Fast.tw7014898476630181428:Nat:=0
def PySem.W.Fast.tw5450888068013515085:Nat:=0
def PySem.W.Fast.tw11435976832431998683:Nat:=0
def PySem.W.Fast.tw6632946159885589132:Nat:=0
def PySem.W.Fast.tw1443151414683255663:Nat:=0
def PySem.W.Fast.tw13058361977347922612:Nat:=0
def PySem.W.Fast.tw2606828155016581691:Nat:=0
def PySem.W.Fast.tw7819031807214171593:Nat:=0
def PySem.W.Fast.tw1762917455070104506:Nat:=0
def PySem.W.Fast.tw3770195337304572020:Nat:=0
def PySem.W.Fast.tw15026894039570086827:Nat:=0
def PySem.W.Fast.tw16428821541383817503:Nat:=0
def PySem.W.Fast.tw10300379701020779082:Nat:=0
def PySem.W.Fast.tw5224007778334194458:Nat:=0
def PySem.W.Fast.tw5746208475224555095:Nat:=0
def PySem.W.Fast.tw15914932562167570602:Nat:=0
def PySem.W.Fast.tw13923895760434091588:Nat:=0
def PySem.W.Fast.tw11367433631158488869:Nat:=0
def PySem.W.Fast.tw975030719339235787:Nat:=0
def PySem.W.Fast.tw4927725210249001405:Nat:=0
def PySem.W.Fast.tw3787636680032302862:Nat:=0
def PySem.W.Fast.tw16354861022160940883:Nat:=0
def PySem.W.Fast.tw17527895942278448426:Nat:=0
def PySem.W.Fast.tw1322763665257559499:Nat:=0
def PySem.W.Fast.tw11865487579952457533:Nat:=0
def PySem.W.Fast.tw15875969134348570280:Nat:=0
def PySem.W.Fast.tw17282694387752338075:Nat:=0
def PySem.W.Fast.tw549411735257461759:Nat:=0
def PySem.W.Fast.tw17496200161318466179:Nat:=0
def PySem.W.Fast.tw15028026690025099514:Nat:=0
def PySem.W.Fast.tw5250799297905698973:Nat:=0
def PySem.W.Fast.tw1378451779229288108:Nat:=0
def PySem.W.Fast.tw12750008160709378743:Nat:=0
def PySem.W.Fast.tw13217349111994591187:Nat:=0
def PySem.W.Fast.tw16391134760310584069:Nat:=0
def PySem.W.Fast.tw16053532135132114678:Nat:=0
def PySem.W.Fast.tw194205476638467070:Nat:=0
def PySem.W.Fast.tw18128797675895554797:Nat:=0
def PySem.W.Fast.tw18002067601258670420:Nat:=0
def PySem.W.Fast.tw5324855067343432110:Nat:=0
def PySem.W.Fast.tw1920755158877171078:Nat:=0
def PySem.W.Fast.tw8861340920826012955:Nat:=0
def PySem.W.Fast.tw15430910827610702609:Nat:=0
def PySem.W.Fast.tw15943373842582244947:Nat:=0
def PySem.W.Fast.tw8389552471860850864:Nat:=0
def PySem.W.Fast.tw10265788821927341407:Nat:=0
def PySem.W.Fast.tw15856802626181100287:Nat:=0
def PySem.W.Fast.tw14791653855887209725:Nat:=0
def PySem.W.Fast.tw5129361171042011565:Nat:=0
def PySem.W.Fast.tw4393163559501611492:Nat:=0
def PySem.W.Fast.tw18314821880743393387:Nat:=0
def PySem.W.Fast.tw14940377641453734338:Nat:=0
def PySem.W.Fast.tw4229887066634006726:Nat:=0
def PySem.W.Fast.tw11109705549343726684:Nat:=0
def PySem.W.Fast.tw971816996570192606:Nat:=0
def PySem.W.Fast.tw13499457152789521591:Nat:=0
def PySem.W.Fast.tw11373188745162711107:Nat:=0
def PySem.W.Fast.tw12319476250973695845:Nat:=0
def PySem.W.Fast.tw402864707655843444:Nat:=0
def PySem.W.Fast.tw248701669125112575:Nat:=0
def PySem.W.Fast.tw4590006007380360109:Nat:=0
def PySem.W.Fast.tw1542872903056237120:Nat:=0
def PySem.W.Fast.tw11064833363813395453:Nat:=0
def PySem.W.Fast.tw10722058956910202539:Nat:=0
def PySem.W.Fast.tw8628244515644795032:Nat:=0
def PySem.W.Fast.tw12592201690921865962:Nat:=0
def PySem.W.Fast.tw13494121108223134208:Nat:=0
def PySem.W.Fast.tw12972110953970426230:Nat:=0
def PySem.W.Fast.tw17504107913231557266:Nat:=0
def PySem.W.Fast.tw478446665055788534:Nat:=0
def PySem.W.Fast.tw15505454157775803156:Nat:=0
def PySem.W.Fast.tw15660654782207080872:Nat:=0
def PySem.W.Fast.tw14520108104498259541:Nat:=0
def PySem.W.Fast.tw17495525314642635227:Nat:=0
def PySem.W.Fast.tw5795865599884038971:Nat:=0
def PySem.W.Fast.tw1573611405283600079:Nat:=0
def PySem.W.Fast.tw5117753576793578813:Nat:=0
def PySem.W.Fast.tw3164028829159703388:Nat:=0
def PySem.W.Fast.tw7889258440793018920:Nat:=0
def PySem.W.Fast.tw11706961437172199024:Nat:=0
def PySem.W.Fast.tw12309950230125121834:Nat:=0
def PySem.W.Fast.tw6253277148897584489:Nat:=0
def PySem.W.Fast.tw13026664671808187861:Nat:=0
def PySem.W.Fast.tw15807585993977740343:Nat:=0
def PySem.W.Fast.tw7131614312636541050:Nat:=0
def PySem.W.Fast.tw14919618127171161433:Nat:=0
def PySem.W.Fast.tw2002085248959073766:Nat:=0
set_option maxRecDepth 100000 in
set_option maxHeartbeats 0 in
theorem PySem.Challenge.cw_headplaces_s01_answers_holds : PySem.Challenge.rw_headplaces_s01_answers.Holds := by
 w_on; k_headS; (case hw=>exact ⟨[.list [.int 3]],by decide +kernel,by decide +kernel⟩)
 k_fillS
 refine SpA.walk_spec (r:=PySem.Challenge.rw_headplaces_s01_answers) (x:="calls") (k:=10) (sp:=fun K=>Hp.sp_answers K) rfl (by decide +kernel) (by decide) rfl ⟨rfl,by decide,by decide⟩ (fun w h Y=>PySem.W.kIn_of Y) ?F ?S
 case F =>
  intro w mg fa h KX G hmg
  obtain ⟨e_most_of_style,h_most_of_style⟩:∃ e,Hp.GF (L2.KOf KX) mg "most_of_style" Hp.s_most_of_style ["style"] e:=by
   dsimp only [L2.KOf]
   refine' Hp.gf_mk KX G ?n ?l ?c ?k ?b
   (case n=>k_is)
   (case l=>k_is)
   (case c=>k_is)
   (case k=>k_is)
   (case b=>exact fun _ _ _ _ _ _ us hl=>match us,hl with | [_],_=>rfl)
  obtain ⟨e_small_roman,h_small_roman⟩:∃ e,Hp.GF (L2.KOf KX) mg "small_roman" Hp.s_small_roman ["number"] e:=by
   dsimp only [L2.KOf]
   refine' Hp.gf_mk KX G ?n ?l ?c ?k ?b
   (case n=>k_is)
   (case l=>k_is)
   (case c=>k_is)
   (case k=>k_is)
   (case b=>exact fun _ _ _ _ _ _ us hl=>match us,hl with | [_],_=>rfl)
  obtain ⟨e_letters_of,h_letters_of⟩:∃ e,Hp.GF (L2.KOf KX) mg "letters_of" Hp.s_letters_of ["number"] e:=by
   dsimp only [L2.KOf]
   refine' Hp.gf_mk KX G ?n ?l ?c ?k ?b
   (case n=>k_is)
   (case l=>k_is)
   (case c=>k_is)
   (case k=>k_is)
   (case b=>exact fun _ _ _ _ _ _ us hl=>match us,hl with | [_],_=>rfl)
  obtain ⟨e_number_text,h_number_text⟩:∃ e,Hp.GF (L2.KOf KX) mg "number_text" Hp.s_number_text ["style","number"] e:=by
   dsimp only [L2.KOf]
   refine' Hp.gf_mk KX G ?n ?l ?c ?k ?b
   (case n=>k_is)
   (case l=>k_is)
   (case c=>k_is)
   (case k=>k_is)
   (case b=>exact fun _ _ _ _ _ _ us hl=>match us,hl with | [_,_],_=>rfl)
  obtain ⟨e_numbers_of,h_numbers_of⟩:∃ e,Hp.GF (L2.KOf KX) mg "numbers_of" Hp.s_numbers_of ["place"] e:=by
   dsimp only [L2.KOf]
   refine' Hp.gf_mk KX G ?n ?l ?c ?k ?b
   (case n=>k_is)
   (case l=>k_is)
   (case c=>k_is)
   (case k=>k_is)
   (case b=>exact fun _ _ _ _ _ _ us hl=>match us,hl with | [_],_=>rfl)
  obtain ⟨e_has_right_pages,h_has_right_pages⟩:∃ e,Hp.GF (L2.KOf KX) mg "has_right_pages" Hp.s_has_right_pages ["book","place"] e:=by
   dsimp only [L2.KOf]
   refine' Hp.gf_mk KX G ?n ?l ?c ?k ?b
   (case n=>k_is)
   (case l=>k_is)
   (case c=>k_is)
   (case k=>k_is)
   (case b=>exact fun _ _ _ _ _ _ us hl=>match us,hl with | [_,_],_=>rfl)
  obtain ⟨e_has_right_kind,h_has_right_kind⟩:∃ e,Hp.GF (L2.KOf KX) mg "has_right_kind" Hp.s_has_right_kind ["place"] e:=by
   dsimp only [L2.KOf]
   refine' Hp.gf_mk KX G ?n ?l ?c ?k ?b
   (case n=>k_is)
   (case l=>k_is)
   (case c=>k_is)
   (case k=>k_is)
   (case b=>exact fun _ _ _ _ _ _ us hl=>match us,hl with | [_],_=>rfl)
  obtain ⟨e_has_right_note,h_has_right_note⟩:∃ e,Hp.GF (L2.KOf KX) mg "has_right_note" Hp.s_has_right_note ["place"] e:=by
   dsimp only [L2.KOf]
   refine' Hp.gf_mk KX G ?n ?l ?c ?k ?b
   (case n=>k_is)
   (case l=>k_is)
   (case c=>k_is)
   (case k=>k_is)
   (case b=>exact fun _ _ _ _ _ _ us hl=>match us,hl with | [_],_=>rfl)
  obtain ⟨e_is_right,h_is_right⟩:∃ e,Hp.GF (L2.KOf KX) mg "is_right" Hp.s_is_right ["book","place"] e:=by
   dsimp only [L2.KOf]
   refine' Hp.gf_mk KX G ?n ?l ?c ?k ?b
   (case n=>k_is)
   (case l=>k_is)
   (case c=>k_is)
   (case k=>k_is)
   (case b=>exact fun _ _ _ _ _ _ us hl=>match us,hl with | [_,_],_=>rfl)
  obtain ⟨e_differing_digits,h_differing_digits⟩:∃ e,Hp.GF (L2.KOf KX) mg "differing_digits" Hp.s_differing_digits ["from_number","to_number"] e:=by
   dsimp only [L2.KOf]
   refine' Hp.gf_mk KX G ?n ?l ?c ?k ?b
   (case n=>k_is)
   (case l=>k_is)
   (case c=>k_is)
   (case k=>k_is)
   (case b=>exact fun _ _ _ _ _ _ us hl=>match us,hl with | [_,_],_=>rfl)
  obtain ⟨e_digits_by_from_number,h_digits_by_from_number⟩:∃ e,Hp.GF (L2.KOf KX) mg "digits_by_from_number" Hp.s_digits_by_from_number ["from_number","to_number"] e:=by
   dsimp only [L2.KOf]
   refine' Hp.gf_mk KX G ?n ?l ?c ?k ?b
   (case n=>k_is)
   (case l=>k_is)
   (case c=>k_is)
   (case k=>k_is)
   (case b=>exact fun _ _ _ _ _ _ us hl=>match us,hl with | [_,_],_=>rfl)
  obtain ⟨e_digits_told,h_digits_told⟩:∃ e,Hp.GF (L2.KOf KX) mg "digits_told" Hp.s_digits_told ["way","from_number","to_number"] e:=by
   dsimp only [L2.KOf]
   refine' Hp.gf_mk KX G ?n ?l ?c ?k ?b
   (case n=>k_is)
   (case l=>k_is)
   (case c=>k_is)
   (case k=>k_is)
   (case b=>exact fun _ _ _ _ _ _ us hl=>match us,hl with | [_,_,_],_=>rfl)
  obtain ⟨e_to_text,h_to_text⟩:∃ e,Hp.GF (L2.KOf KX) mg "to_text" Hp.s_to_text ["run","way","place"] e:=by
   dsimp only [L2.KOf]
   refine' Hp.gf_mk KX G ?n ?l ?c ?k ?b
   (case n=>k_is)
   (case l=>k_is)
   (case c=>k_is)
   (case k=>k_is)
   (case b=>exact fun _ _ _ _ _ _ us hl=>match us,hl with | [_,_,_],_=>rfl)
  obtain ⟨e_marks_text,h_marks_text⟩:∃ e,Hp.GF (L2.KOf KX) mg "marks_text" Hp.s_marks_text ["place"] e:=by
   dsimp only [L2.KOf]
   refine' Hp.gf_mk KX G ?n ?l ?c ?k ?b
   (case n=>k_is)
   (case l=>k_is)
   (case c=>k_is)
   (case k=>k_is)
   (case b=>exact fun _ _ _ _ _ _ us hl=>match us,hl with | [_],_=>rfl)
  obtain ⟨e_place_text,h_place_text⟩:∃ e,Hp.GF (L2.KOf KX) mg "place_text" Hp.s_place_text ["book","way","place"] e:=by
   dsimp only [L2.KOf]
   refine' Hp.gf_mk KX G ?n ?l ?c ?k ?b
   (case n=>k_is)
   (case l=>k_is)
   (case c=>k_is)
   (case k=>k_is)
   (case b=>exact fun _ _ _ _ _ _ us hl=>match us,hl with | [_,_,_],_=>rfl)
  obtain ⟨e_places_of,h_places_of⟩:∃ e,Hp.GF (L2.KOf KX) mg "places_of" Hp.s_places_of ["numbers"] e:=by
   dsimp only [L2.KOf]
   refine' Hp.gf_mk KX G ?n ?l ?c ?k ?b
   (case n=>k_is)
   (case l=>k_is)
   (case c=>k_is)
   (case k=>k_is)
   (case b=>exact fun _ _ _ _ _ _ us hl=>match us,hl with | [_],_=>rfl)
  obtain ⟨e_numbers_of_list,h_numbers_of_list⟩:∃ e,Hp.GF (L2.KOf KX) mg "numbers_of_list" Hp.s_numbers_of_list ["places"] e:=by
   dsimp only [L2.KOf]
   refine' Hp.gf_mk KX G ?n ?l ?c ?k ?b
   (case n=>k_is)
   (case l=>k_is)
   (case c=>k_is)
   (case k=>k_is)
   (case b=>exact fun _ _ _ _ _ _ us hl=>match us,hl with | [_],_=>rfl)
  obtain ⟨e_all_right,h_all_right⟩:∃ e,Hp.GF (L2.KOf KX) mg "all_right" Hp.s_all_right ["book","places"] e:=by
   dsimp only [L2.KOf]
   refine' Hp.gf_mk KX G ?n ?l ?c ?k ?b
   (case n=>k_is)
   (case l=>k_is)
   (case c=>k_is)
   (case k=>k_is)
   (case b=>exact fun _ _ _ _ _ _ us hl=>match us,hl with | [_,_],_=>rfl)
  obtain ⟨e_list_text,h_list_text⟩:∃ e,Hp.GF (L2.KOf KX) mg "list_text" Hp.s_list_text ["book","way","places"] e:=by
   dsimp only [L2.KOf]
   refine' Hp.gf_mk KX G ?n ?l ?c ?k ?b
   (case n=>k_is)
   (case l=>k_is)
   (case c=>k_is)
   (case k=>k_is)
   (case b=>exact fun _ _ _ _ _ _ us hl=>match us,hl with | [_,_,_],_=>rfl)
  obtain ⟨e_parts_of,h_parts_of⟩:∃ e,Hp.GF (L2.KOf KX) mg "parts_of" Hp.s_parts_of ["text"] e:=by
   dsimp only [L2.KOf]
   refine' Hp.gf_mk KX G ?n ?l ?c ?k ?b
   (case n=>k_is)
   (case l=>k_is)
   (case c=>k_is)
   (case k=>k_is)
   (case b=>exact fun _ _ _ _ _ _ us hl=>match us,hl with | [_],_=>rfl)
  obtain ⟨e_first_with_page,h_first_with_page⟩:∃ e,Hp.GF (L2.KOf KX) mg "first_with_page" Hp.s_first_with_page ["places","index"] e:=by
   dsimp only [L2.KOf]
   refine' Hp.gf_mk KX G ?n ?l ?c ?k ?b
   (case n=>k_is)
   (case l=>k_is)
   (case c=>k_is)
   (case k=>k_is)
   (case b=>exact fun _ _ _ _ _ _ us hl=>match us,hl with | [_,_],_=>rfl)
  obtain ⟨e_rank_of,h_rank_of⟩:∃ e,Hp.GF (L2.KOf KX) mg "rank_of" Hp.s_rank_of ["place"] e:=by
   dsimp only [L2.KOf]
   refine' Hp.gf_mk KX G ?n ?l ?c ?k ?b
   (case n=>k_is)
   (case l=>k_is)
   (case c=>k_is)
   (case k=>k_is)
   (case b=>exact fun _ _ _ _ _ _ us hl=>match us,hl with | [_],_=>rfl)
  obtain ⟨e_order_of,h_order_of⟩:∃ e,Hp.GF (L2.KOf KX) mg "order_of" Hp.s_order_of ["place"] e:=by
   dsimp only [L2.KOf]
   refine' Hp.gf_mk KX G ?n ?l ?c ?k ?b
   (case n=>k_is)
   (case l=>k_is)
   (case c=>k_is)
   (case k=>k_is)
   (case b=>exact fun _ _ _ _ _ _ us hl=>match us,hl with | [_],_=>rfl)
  obtain ⟨e_are_joined,h_are_joined⟩:∃ e,Hp.GF (L2.KOf KX) mg "are_joined" Hp.s_are_joined ["book","joins","first","second"] e:=by
   dsimp only [L2.KOf]
   refine' Hp.gf_mk KX G ?n ?l ?c ?k ?b
   (case n=>k_is)
   (case l=>k_is)
   (case c=>k_is)
   (case k=>k_is)
   (case b=>exact fun _ _ _ _ _ _ us hl=>match us,hl with | [_,_,_,_],_=>rfl)
  obtain ⟨e_join_two,h_join_two⟩:∃ e,Hp.GF (L2.KOf KX) mg "join_two" Hp.s_join_two ["first","second"] e:=by
   dsimp only [L2.KOf]
   refine' Hp.gf_mk KX G ?n ?l ?c ?k ?b
   (case n=>k_is)
   (case l=>k_is)
   (case c=>k_is)
   (case k=>k_is)
   (case b=>exact fun _ _ _ _ _ _ us hl=>match us,hl with | [_,_],_=>rfl)
  obtain ⟨e_joined,h_joined⟩:∃ e,Hp.GF (L2.KOf KX) mg "joined" Hp.s_joined ["book","joins","places"] e:=by
   dsimp only [L2.KOf]
   refine' Hp.gf_mk KX G ?n ?l ?c ?k ?b
   (case n=>k_is)
   (case l=>k_is)
   (case c=>k_is)
   (case k=>k_is)
   (case b=>exact fun _ _ _ _ _ _ us hl=>match us,hl with | [_,_,_],_=>rfl)
  obtain ⟨e_each_once,h_each_once⟩:∃ e,Hp.GF (L2.KOf KX) mg "each_once" Hp.s_each_once ["places"] e:=by
   dsimp only [L2.KOf]
   refine' Hp.gf_mk KX G ?n ?l ?c ?k ?b
   (case n=>k_is)
   (case l=>k_is)
   (case c=>k_is)
   (case k=>k_is)
   (case b=>exact fun _ _ _ _ _ _ us hl=>match us,hl with | [_],_=>rfl)
  obtain ⟨e_beside,h_beside⟩:∃ e,Hp.GF (L2.KOf KX) mg "beside" Hp.s_beside ["places","stretches"] e:=by
   dsimp only [L2.KOf]
   refine' Hp.gf_mk KX G ?n ?l ?c ?k ?b
   (case n=>k_is)
   (case l=>k_is)
   (case c=>k_is)
   (case k=>k_is)
   (case b=>exact fun _ _ _ _ _ _ us hl=>match us,hl with | [_,_],_=>rfl)
  obtain ⟨e_form_of,h_form_of⟩:∃ e,Hp.GF (L2.KOf KX) mg "form_of" Hp.s_form_of ["book","joins","drops","places"] e:=by
   dsimp only [L2.KOf]
   refine' Hp.gf_mk KX G ?n ?l ?c ?k ?b
   (case n=>k_is)
   (case l=>k_is)
   (case c=>k_is)
   (case k=>k_is)
   (case b=>exact fun _ _ _ _ _ _ us hl=>match us,hl with | [_,_,_,_],_=>rfl)
  obtain ⟨e_plain_number,h_plain_number⟩:∃ e,Hp.GF (L2.KOf KX) mg "plain_number" Hp.s_plain_number ["text","most"] e:=by
   dsimp only [L2.KOf]
   refine' Hp.gf_mk KX G ?n ?l ?c ?k ?b
   (case n=>k_is)
   (case l=>k_is)
   (case c=>k_is)
   (case k=>k_is)
   (case b=>exact fun _ _ _ _ _ _ us hl=>match us,hl with | [_,_],_=>rfl)
  obtain ⟨e_number_of_to,h_number_of_to⟩:∃ e,Hp.GF (L2.KOf KX) mg "number_of_to" Hp.s_number_of_to ["from_number","digits"] e:=by
   dsimp only [L2.KOf]
   refine' Hp.gf_mk KX G ?n ?l ?c ?k ?b
   (case n=>k_is)
   (case l=>k_is)
   (case c=>k_is)
   (case k=>k_is)
   (case b=>exact fun _ _ _ _ _ _ us hl=>match us,hl with | [_,_],_=>rfl)
  obtain ⟨e_index_of_to,h_index_of_to⟩:∃ e,Hp.GF (L2.KOf KX) mg "index_of_to" Hp.s_index_of_to ["book","run","from_index","told"] e:=by
   dsimp only [L2.KOf]
   refine' Hp.gf_mk KX G ?n ?l ?c ?k ?b
   (case n=>k_is)
   (case l=>k_is)
   (case c=>k_is)
   (case k=>k_is)
   (case b=>exact fun _ _ _ _ _ _ us hl=>match us,hl with | [_,_,_,_],_=>rfl)
  obtain ⟨e_pages_told,h_pages_told⟩:∃ e,Hp.GF (L2.KOf KX) mg "pages_told" Hp.s_pages_told ["book","text"] e:=by
   dsimp only [L2.KOf]
   refine' Hp.gf_mk KX G ?n ?l ?c ?k ?b
   (case n=>k_is)
   (case l=>k_is)
   (case c=>k_is)
   (case k=>k_is)
   (case b=>exact fun _ _ _ _ _ _ us hl=>match us,hl with | [_,_],_=>rfl)
  obtain ⟨e_marks_told,h_marks_told⟩:∃ e,Hp.GF (L2.KOf KX) mg "marks_told" Hp.s_marks_told ["marks"] e:=by
   dsimp only [L2.KOf]
   refine' Hp.gf_mk KX G ?n ?l ?c ?k ?b
   (case n=>k_is)
   (case l=>k_is)
   (case c=>k_is)
   (case k=>k_is)
   (case b=>exact fun _ _ _ _ _ _ us hl=>match us,hl with | [_],_=>rfl)
  obtain ⟨e_marks_start,h_marks_start⟩:∃ e,Hp.GF (L2.KOf KX) mg "marks_start" Hp.s_marks_start ["text"] e:=by
   dsimp only [L2.KOf]
   refine' Hp.gf_mk KX G ?n ?l ?c ?k ?b
   (case n=>k_is)
   (case l=>k_is)
   (case c=>k_is)
   (case k=>k_is)
   (case b=>exact fun _ _ _ _ _ _ us hl=>match us,hl with | [_],_=>rfl)
  obtain ⟨e_place_told,h_place_told⟩:∃ e,Hp.GF (L2.KOf KX) mg "place_told" Hp.s_place_told ["book","text"] e:=by
   dsimp only [L2.KOf]
   refine' Hp.gf_mk KX G ?n ?l ?c ?k ?b
   (case n=>k_is)
   (case l=>k_is)
   (case c=>k_is)
   (case k=>k_is)
   (case b=>exact fun _ _ _ _ _ _ us hl=>match us,hl with | [_,_],_=>rfl)
  obtain ⟨e_signs_by_byte,h_signs_by_byte⟩:∃ e,Hp.GF (L2.KOf KX) mg "signs_by_byte" Hp.s_signs_by_byte [] e:=by
   dsimp only [L2.KOf]
   refine' Hp.gf_mk KX G ?n ?l ?c ?k ?b
   (case n=>k_is)
   (case l=>k_is)
   (case c=>k_is)
   (case k=>k_is)
   (case b=>exact fun _ _ _ _ _ _ us hl=>match us,hl with | [],_=>rfl)
  obtain ⟨e_text_of,h_text_of⟩:∃ e,Hp.GF (L2.KOf KX) mg "text_of" Hp.s_text_of ["table","told"] e:=by
   dsimp only [L2.KOf]
   refine' Hp.gf_mk KX G ?n ?l ?c ?k ?b
   (case n=>k_is)
   (case l=>k_is)
   (case c=>k_is)
   (case k=>k_is)
   (case b=>exact fun _ _ _ _ _ _ us hl=>match us,hl with | [_,_],_=>rfl)
  obtain ⟨e_bytes_of,h_bytes_of⟩:∃ e,Hp.GF (L2.KOf KX) mg "bytes_of" Hp.s_bytes_of ["text"] e:=by
   dsimp only [L2.KOf]
   refine' Hp.gf_mk KX G ?n ?l ?c ?k ?b
   (case n=>k_is)
   (case l=>k_is)
   (case c=>k_is)
   (case k=>k_is)
   (case b=>exact fun _ _ _ _ _ _ us hl=>match us,hl with | [_],_=>rfl)
  obtain ⟨e_refused,h_refused⟩:∃ e,Hp.GF (L2.KOf KX) mg "refused" Hp.s_refused ["number"] e:=by
   dsimp only [L2.KOf]
   refine' Hp.gf_mk KX G ?n ?l ?c ?k ?b
   (case n=>k_is)
   (case l=>k_is)
   (case c=>k_is)
   (case k=>k_is)
   (case b=>exact fun _ _ _ _ _ _ us hl=>match us,hl with | [_],_=>rfl)
  obtain ⟨e_answered,h_answered⟩:∃ e,Hp.GF (L2.KOf KX) mg "answered" Hp.s_answered ["numbers"] e:=by
   dsimp only [L2.KOf]
   refine' Hp.gf_mk KX G ?n ?l ?c ?k ?b
   (case n=>k_is)
   (case l=>k_is)
   (case c=>k_is)
   (case k=>k_is)
   (case b=>exact fun _ _ _ _ _ _ us hl=>match us,hl with | [_],_=>rfl)
  obtain ⟨e_is_prefix,h_is_prefix⟩:∃ e,Hp.GF (L2.KOf KX) mg "is_prefix" Hp.s_is_prefix ["text"] e:=by
   dsimp only [L2.KOf]
   refine' Hp.gf_mk KX G ?n ?l ?c ?k ?b
   (case n=>k_is)
   (case l=>k_is)
   (case c=>k_is)
   (case k=>k_is)
   (case b=>exact fun _ _ _ _ _ _ us hl=>match us,hl with | [_],_=>rfl)
  obtain ⟨e_is_run,h_is_run⟩:∃ e,Hp.GF (L2.KOf KX) mg "is_run" Hp.s_is_run ["style","first","count","prefix"] e:=by
   dsimp only [L2.KOf]
   refine' Hp.gf_mk KX G ?n ?l ?c ?k ?b
   (case n=>k_is)
   (case l=>k_is)
   (case c=>k_is)
   (case k=>k_is)
   (case b=>exact fun _ _ _ _ _ _ us hl=>match us,hl with | [_,_,_,_],_=>rfl)
  obtain ⟨e_refusal_of_list,h_refusal_of_list⟩:∃ e,Hp.GF (L2.KOf KX) mg "refusal_of_list" Hp.s_refusal_of_list ["book","places"] e:=by
   dsimp only [L2.KOf]
   refine' Hp.gf_mk KX G ?n ?l ?c ?k ?b
   (case n=>k_is)
   (case l=>k_is)
   (case c=>k_is)
   (case k=>k_is)
   (case b=>exact fun _ _ _ _ _ _ us hl=>match us,hl with | [_,_],_=>rfl)
  obtain ⟨e_answer_begin,h_answer_begin⟩:∃ e,Hp.GF (L2.KOf KX) mg "answer_begin" Hp.s_answer_begin ["session","reader"] e:=by
   dsimp only [L2.KOf]
   refine' Hp.gf_mk KX G ?n ?l ?c ?k ?b
   (case n=>k_is)
   (case l=>k_is)
   (case c=>k_is)
   (case k=>k_is)
   (case b=>exact fun _ _ _ _ _ _ us hl=>match us,hl with | [_,_],_=>rfl)
  obtain ⟨e_answer_run,h_answer_run⟩:∃ e,Hp.GF (L2.KOf KX) mg "answer_run" Hp.s_answer_run ["session","reader"] e:=by
   dsimp only [L2.KOf]
   refine' Hp.gf_mk KX G ?n ?l ?c ?k ?b
   (case n=>k_is)
   (case l=>k_is)
   (case c=>k_is)
   (case k=>k_is)
   (case b=>exact fun _ _ _ _ _ _ us hl=>match us,hl with | [_,_],_=>rfl)
  obtain ⟨e_answer_has,h_answer_has⟩:∃ e,Hp.GF (L2.KOf KX) mg "answer_has" Hp.s_answer_has ["session","reader"] e:=by
   dsimp only [L2.KOf]
   refine' Hp.gf_mk KX G ?n ?l ?c ?k ?b
   (case n=>k_is)
   (case l=>k_is)
   (case c=>k_is)
   (case k=>k_is)
   (case b=>exact fun _ _ _ _ _ _ us hl=>match us,hl with | [_,_],_=>rfl)
  obtain ⟨e_answer_call,h_answer_call⟩:∃ e,Hp.GF (L2.KOf KX) mg "answer_call" Hp.s_answer_call ["session","reader"] e:=by
   dsimp only [L2.KOf]
   refine' Hp.gf_mk KX G ?n ?l ?c ?k ?b
   (case n=>k_is)
   (case l=>k_is)
   (case c=>k_is)
   (case k=>k_is)
   (case b=>exact fun _ _ _ _ _ _ us hl=>match us,hl with | [_,_],_=>rfl)
  obtain ⟨e_answers,h_answers,hb_answers⟩:∃ e,Hp.GF (L2.KOf KX) mg "answers" Hp.s_answers ["calls"] e∧∀ (s:Shared) (u:Value),BindsTo s e.d ⟨[u],[]⟩ [("calls",u)]:=by
   dsimp only [L2.KOf]
   refine' Hp.gf_mk1 KX G ?n ?l ?c ?k ?b
   (case n=>k_is)
   (case l=>k_is)
   (case c=>k_is)
   (case k=>k_is)
   (case b=>exact fun _ _ _ _ _ _ us hl=>match us,hl with | [_],_=>rfl)
  obtain ⟨c_Numerals,f_Numerals,d_Numerals,e_Numerals_stretch,hc_Numerals,h_Numerals_init,h_Numerals_stretch,n_Numerals_texts⟩:∃ (C f_Numerals:Addr) (d_Numerals:FuncData) (e_Numerals_stretch:Hp.FE),Hp.CF (L2.KOf KX) mg "Numerals" C f_Numerals∧Hp.MF (L2.KOf KX) C "__init__" "Numerals.__init__" Hp.s_Numerals_init ["self"] ⟨f_Numerals,d_Numerals⟩∧Hp.MF (L2.KOf KX) C "stretch" "Numerals.stretch" Hp.s_Numerals_stretch ["self","style","first","last"] e_Numerals_stretch∧L2.NoAttr (L2.KOf KX) C "texts":=by
   dsimp only [L2.KOf]
   refine' ⟨_,_,_,_,Hp.cf_mk KX G ?aNumerals ?pgNumerals ?hdNumerals ?poNumerals ?saNumerals ?mkNumerals ?kcNumerals ?n0Numerals ?i0Numerals,Hp.mf_mk ?n0Numerals ?i0Numerals ?l0Numerals ?c0Numerals ?k0Numerals ?b0Numerals,Hp.mf_mk ?n1Numerals ?i1Numerals ?l1Numerals ?c1Numerals ?k1Numerals ?b1Numerals,?z0Numerals⟩
   (case aNumerals=>k_is)
   (case pgNumerals=>k_is)
   (case hdNumerals=>k_is)
   (case poNumerals=>k_is)
   (case saNumerals=>k_is)
   (case mkNumerals=>k_is)
   (case kcNumerals=>k_is)
   (case n0Numerals=>k_is)
   (case i0Numerals=>k_is)
   (case l0Numerals=>k_is)
   (case c0Numerals=>k_is)
   (case k0Numerals=>k_is)
   (case n1Numerals=>k_is)
   (case i1Numerals=>k_is)
   (case l1Numerals=>k_is)
   (case c1Numerals=>k_is)
   (case k1Numerals=>k_is)
   (case z0Numerals=>unfold L2.NoAttr; k_is)
   (case b0Numerals=>exact fun _ _ _ _ _ _ us hl=>match us,hl with | [_],_=>rfl)
   (case b1Numerals=>exact fun _ _ _ _ _ _ us hl=>match us,hl with | [_,_,_,_],_=>rfl)
  obtain ⟨c_Run,f_Run,d_Run,e_Run_has_index,e_Run_has_number,e_Run_number_at,e_Run_index_at,e_Run_name_at,hc_Run,h_Run_init,h_Run_has_index,h_Run_has_number,h_Run_number_at,h_Run_index_at,h_Run_name_at,n_Run_style,n_Run_first,n_Run_last,n_Run_count,n_Run_prefix,n_Run_start⟩:∃ (C f_Run:Addr) (d_Run:FuncData) (e_Run_has_index e_Run_has_number e_Run_number_at e_Run_index_at e_Run_name_at:Hp.FE),Hp.CF (L2.KOf KX) mg "Run" C f_Run∧Hp.MF (L2.KOf KX) C "__init__" "Run.__init__" Hp.s_Run_init ["self","style","first","count","prefix","start"] ⟨f_Run,d_Run⟩∧Hp.MF (L2.KOf KX) C "has_index" "Run.has_index" Hp.s_Run_has_index ["self","index"] e_Run_has_index∧Hp.MF (L2.KOf KX) C "has_number" "Run.has_number" Hp.s_Run_has_number ["self","number"] e_Run_has_number∧Hp.MF (L2.KOf KX) C "number_at" "Run.number_at" Hp.s_Run_number_at ["self","index"] e_Run_number_at∧Hp.MF (L2.KOf KX) C "index_at" "Run.index_at" Hp.s_Run_index_at ["self","number"] e_Run_index_at∧Hp.MF (L2.KOf KX) C "name_at" "Run.name_at" Hp.s_Run_name_at ["self","index"] e_Run_name_at∧L2.NoAttr (L2.KOf KX) C "style"∧L2.NoAttr (L2.KOf KX) C "first"∧L2.NoAttr (L2.KOf KX) C "last"∧L2.NoAttr (L2.KOf KX) C "count"∧L2.NoAttr (L2.KOf KX) C "prefix"∧L2.NoAttr (L2.KOf KX) C "start":=by
   dsimp only [L2.KOf]
   refine' ⟨_,_,_,_,_,_,_,_,Hp.cf_mk KX G ?aRun ?pgRun ?hdRun ?poRun ?saRun ?mkRun ?kcRun ?n0Run ?i0Run,Hp.mf_mk ?n0Run ?i0Run ?l0Run ?c0Run ?k0Run ?b0Run,Hp.mf_mk ?n1Run ?i1Run ?l1Run ?c1Run ?k1Run ?b1Run,Hp.mf_mk ?n2Run ?i2Run ?l2Run ?c2Run ?k2Run ?b2Run,Hp.mf_mk ?n3Run ?i3Run ?l3Run ?c3Run ?k3Run ?b3Run,Hp.mf_mk ?n4Run ?i4Run ?l4Run ?c4Run ?k4Run ?b4Run,Hp.mf_mk ?n5Run ?i5Run ?l5Run ?c5Run ?k5Run ?b5Run,?z0Run,?z1Run,?z2Run,?z3Run,?z4Run,?z5Run⟩
   (case aRun=>k_is)
   (case pgRun=>k_is)
   (case hdRun=>k_is)
   (case poRun=>k_is)
   (case saRun=>k_is)
   (case mkRun=>k_is)
   (case kcRun=>k_is)
   (case n0Run=>k_is)
   (case i0Run=>k_is)
   (case l0Run=>k_is)
   (case c0Run=>k_is)
   (case k0Run=>k_is)
   (case n1Run=>k_is)
   (case i1Run=>k_is)
   (case l1Run=>k_is)
   (case c1Run=>k_is)
   (case k1Run=>k_is)
   (case n2Run=>k_is)
   (case i2Run=>k_is)
   (case l2Run=>k_is)
   (case c2Run=>k_is)
   (case k2Run=>k_is)
   (case n3Run=>k_is)
   (case i3Run=>k_is)
   (case l3Run=>k_is)
   (case c3Run=>k_is)
   (case k3Run=>k_is)
   (case n4Run=>k_is)
   (case i4Run=>k_is)
   (case l4Run=>k_is)
   (case c4Run=>k_is)
   (case k4Run=>k_is)
   (case n5Run=>k_is)
   (case i5Run=>k_is)
   (case l5Run=>k_is)
   (case c5Run=>k_is)
   (case k5Run=>k_is)
   (case z0Run=>unfold L2.NoAttr; k_is)
   (case z1Run=>unfold L2.NoAttr; k_is)
   (case z2Run=>unfold L2.NoAttr; k_is)
   (case z3Run=>unfold L2.NoAttr; k_is)
   (case z4Run=>unfold L2.NoAttr; k_is)
   (case z5Run=>unfold L2.NoAttr; k_is)
   (case b0Run=>exact fun _ _ _ _ _ _ us hl=>match us,hl with | [_,_,_,_,_,_],_=>rfl)
   (case b1Run=>exact fun _ _ _ _ _ _ us hl=>match us,hl with | [_,_],_=>rfl)
   (case b2Run=>exact fun _ _ _ _ _ _ us hl=>match us,hl with | [_,_],_=>rfl)
   (case b3Run=>exact fun _ _ _ _ _ _ us hl=>match us,hl with | [_,_],_=>rfl)
   (case b4Run=>exact fun _ _ _ _ _ _ us hl=>match us,hl with | [_,_],_=>rfl)
   (case b5Run=>exact fun _ _ _ _ _ _ us hl=>match us,hl with | [_,_],_=>rfl)
  obtain ⟨c_Book,f_Book,d_Book,e_Book_add_run,e_Book_lettered_names,e_Book_has_lettered,e_Book_has_digits_of,e_Book_run_at,e_Book_index_of_name,e_Book_index_of_digits,hc_Book,h_Book_init,h_Book_add_run,h_Book_lettered_names,h_Book_has_lettered,h_Book_has_digits_of,h_Book_run_at,h_Book_index_of_name,h_Book_index_of_digits,n_Book_numerals,n_Book_runs,n_Book_total,n_Book_lettered⟩:∃ (C f_Book:Addr) (d_Book:FuncData) (e_Book_add_run e_Book_lettered_names e_Book_has_lettered e_Book_has_digits_of e_Book_run_at e_Book_index_of_name e_Book_index_of_digits:Hp.FE),Hp.CF (L2.KOf KX) mg "Book" C f_Book∧Hp.MF (L2.KOf KX) C "__init__" "Book.__init__" Hp.s_Book_init ["self","numerals"] ⟨f_Book,d_Book⟩∧Hp.MF (L2.KOf KX) C "add_run" "Book.add_run" Hp.s_Book_add_run ["self","style","first","count","prefix"] e_Book_add_run∧Hp.MF (L2.KOf KX) C "lettered_names" "Book.lettered_names" Hp.s_Book_lettered_names ["self","run"] e_Book_lettered_names∧Hp.MF (L2.KOf KX) C "has_lettered" "Book.has_lettered" Hp.s_Book_has_lettered ["self","names"] e_Book_has_lettered∧Hp.MF (L2.KOf KX) C "has_digits_of" "Book.has_digits_of" Hp.s_Book_has_digits_of ["self","run"] e_Book_has_digits_of∧Hp.MF (L2.KOf KX) C "run_at" "Book.run_at" Hp.s_Book_run_at ["self","index"] e_Book_run_at∧Hp.MF (L2.KOf KX) C "index_of_name" "Book.index_of_name" Hp.s_Book_index_of_name ["self","name"] e_Book_index_of_name∧Hp.MF (L2.KOf KX) C "index_of_digits" "Book.index_of_digits" Hp.s_Book_index_of_digits ["self","name"] e_Book_index_of_digits∧L2.NoAttr (L2.KOf KX) C "numerals"∧L2.NoAttr (L2.KOf KX) C "runs"∧L2.NoAttr (L2.KOf KX) C "total"∧L2.NoAttr (L2.KOf KX) C "lettered":=by
   dsimp only [L2.KOf]
   refine' ⟨_,_,_,_,_,_,_,_,_,_,Hp.cf_mk KX G ?aBook ?pgBook ?hdBook ?poBook ?saBook ?mkBook ?kcBook ?n0Book ?i0Book,Hp.mf_mk ?n0Book ?i0Book ?l0Book ?c0Book ?k0Book ?b0Book,Hp.mf_mk ?n1Book ?i1Book ?l1Book ?c1Book ?k1Book ?b1Book,Hp.mf_mk ?n2Book ?i2Book ?l2Book ?c2Book ?k2Book ?b2Book,Hp.mf_mk ?n3Book ?i3Book ?l3Book ?c3Book ?k3Book ?b3Book,Hp.mf_mk ?n4Book ?i4Book ?l4Book ?c4Book ?k4Book ?b4Book,Hp.mf_mk ?n5Book ?i5Book ?l5Book ?c5Book ?k5Book ?b5Book,Hp.mf_mk ?n6Book ?i6Book ?l6Book ?c6Book ?k6Book ?b6Book,Hp.mf_mk ?n7Book ?i7Book ?l7Book ?c7Book ?k7Book ?b7Book,?z0Book,?z1Book,?z2Book,?z3Book⟩
   (case aBook=>k_is)
   (case pgBook=>k_is)
   (case hdBook=>k_is)
   (case poBook=>k_is)
   (case saBook=>k_is)
   (case mkBook=>k_is)
   (case kcBook=>k_is)
   (case n0Book=>k_is)
   (case i0Book=>k_is)
   (case l0Book=>k_is)
   (case c0Book=>k_is)
   (case k0Book=>k_is)
   (case n1Book=>k_is)
   (case i1Book=>k_is)
   (case l1Book=>k_is)
   (case c1Book=>k_is)
   (case k1Book=>k_is)
   (case n2Book=>k_is)
   (case i2Book=>k_is)
   (case l2Book=>k_is)
   (case c2Book=>k_is)
   (case k2Book=>k_is)
   (case n3Book=>k_is)
   (case i3Book=>k_is)
   (case l3Book=>k_is)
   (case c3Book=>k_is)
   (case k3Book=>k_is)
   (case n4Book=>k_is)
   (case i4Book=>k_is)
   (case l4Book=>k_is)
   (case c4Book=>k_is)
   (case k4Book=>k_is)
   (case n5Book=>k_is)
   (case i5Book=>k_is)
   (case l5Book=>k_is)
   (case c5Book=>k_is)
   (case k5Book=>k_is)
   (case n6Book=>k_is)
   (case i6Book=>k_is)
   (case l6Book=>k_is)
   (case c6Book=>k_is)
   (case k6Book=>k_is)
   (case n7Book=>k_is)
   (case i7Book=>k_is)
   (case l7Book=>k_is)
   (case c7Book=>k_is)
   (case k7Book=>k_is)
   (case z0Book=>unfold L2.NoAttr; k_is)
   (case z1Book=>unfold L2.NoAttr; k_is)
   (case z2Book=>unfold L2.NoAttr; k_is)
   (case z3Book=>unfold L2.NoAttr; k_is)
   (case b0Book=>exact fun _ _ _ _ _ _ us hl=>match us,hl with | [_,_],_=>rfl)
   (case b1Book=>exact fun _ _ _ _ _ _ us hl=>match us,hl with | [_,_,_,_,_],_=>rfl)
   (case b2Book=>exact fun _ _ _ _ _ _ us hl=>match us,hl with | [_,_],_=>rfl)
   (case b3Book=>exact fun _ _ _ _ _ _ us hl=>match us,hl with | [_,_],_=>rfl)
   (case b4Book=>exact fun _ _ _ _ _ _ us hl=>match us,hl with | [_,_],_=>rfl)
   (case b5Book=>exact fun _ _ _ _ _ _ us hl=>match us,hl with | [_,_],_=>rfl)
   (case b6Book=>exact fun _ _ _ _ _ _ us hl=>match us,hl with | [_,_],_=>rfl)
   (case b7Book=>exact fun _ _ _ _ _ _ us hl=>match us,hl with | [_,_],_=>rfl)
  obtain ⟨c_Place,f_Place,d_Place,hc_Place,h_Place_init,n_Place_from_index,n_Place_to_index,n_Place_kind,n_Place_main,n_Place_note⟩:∃ (C f_Place:Addr) (d_Place:FuncData),Hp.CF (L2.KOf KX) mg "Place" C f_Place∧Hp.MF (L2.KOf KX) C "__init__" "Place.__init__" Hp.s_Place_init ["self","numbers"] ⟨f_Place,d_Place⟩∧L2.NoAttr (L2.KOf KX) C "from_index"∧L2.NoAttr (L2.KOf KX) C "to_index"∧L2.NoAttr (L2.KOf KX) C "kind"∧L2.NoAttr (L2.KOf KX) C "main"∧L2.NoAttr (L2.KOf KX) C "note":=by
   dsimp only [L2.KOf]
   refine' ⟨_,_,_,Hp.cf_mk KX G ?aPlace ?pgPlace ?hdPlace ?poPlace ?saPlace ?mkPlace ?kcPlace ?n0Place ?i0Place,Hp.mf_mk ?n0Place ?i0Place ?l0Place ?c0Place ?k0Place ?b0Place,?z0Place,?z1Place,?z2Place,?z3Place,?z4Place⟩
   (case aPlace=>k_is)
   (case pgPlace=>k_is)
   (case hdPlace=>k_is)
   (case poPlace=>k_is)
   (case saPlace=>k_is)
   (case mkPlace=>k_is)
   (case kcPlace=>k_is)
   (case n0Place=>k_is)
   (case i0Place=>k_is)
   (case l0Place=>k_is)
   (case c0Place=>k_is)
   (case k0Place=>k_is)
   (case z0Place=>unfold L2.NoAttr; k_is)
   (case z1Place=>unfold L2.NoAttr; k_is)
   (case z2Place=>unfold L2.NoAttr; k_is)
   (case z3Place=>unfold L2.NoAttr; k_is)
   (case z4Place=>unfold L2.NoAttr; k_is)
   (case b0Place=>exact fun _ _ _ _ _ _ us hl=>match us,hl with | [_,_],_=>rfl)
  obtain ⟨c_Session,f_Session,d_Session,e_Session_begin,e_Session_run,e_Session_pages,e_Session_name,e_Session_page,e_Session_write,e_Session_read,e_Session_form,e_Session_text,e_Session_places_told,e_Session_has,hc_Session,h_Session_init,h_Session_begin,h_Session_run,h_Session_pages,h_Session_name,h_Session_page,h_Session_write,h_Session_read,h_Session_form,h_Session_text,h_Session_places_told,h_Session_has,n_Session_way,n_Session_joins,n_Session_drops,n_Session_numerals,n_Session_signs,n_Session_book⟩:∃ (C f_Session:Addr) (d_Session:FuncData) (e_Session_begin e_Session_run e_Session_pages e_Session_name e_Session_page e_Session_write e_Session_read e_Session_form e_Session_text e_Session_places_told e_Session_has:Hp.FE),Hp.CF (L2.KOf KX) mg "Session" C f_Session∧Hp.MF (L2.KOf KX) C "__init__" "Session.__init__" Hp.s_Session_init ["self"] ⟨f_Session,d_Session⟩∧Hp.MF (L2.KOf KX) C "begin" "Session.begin" Hp.s_Session_begin ["self","way","joins","drops"] e_Session_begin∧Hp.MF (L2.KOf KX) C "run" "Session.run" Hp.s_Session_run ["self","style","first","count","told"] e_Session_run∧Hp.MF (L2.KOf KX) C "pages" "Session.pages" Hp.s_Session_pages ["self"] e_Session_pages∧Hp.MF (L2.KOf KX) C "name" "Session.name" Hp.s_Session_name ["self","index"] e_Session_name∧Hp.MF (L2.KOf KX) C "page" "Session.page" Hp.s_Session_page ["self","told"] e_Session_page∧Hp.MF (L2.KOf KX) C "write" "Session.write" Hp.s_Session_write ["self","numbers"] e_Session_write∧Hp.MF (L2.KOf KX) C "read" "Session.read" Hp.s_Session_read ["self","told"] e_Session_read∧Hp.MF (L2.KOf KX) C "form" "Session.form" Hp.s_Session_form ["self","numbers"] e_Session_form∧Hp.MF (L2.KOf KX) C "text" "Session.text" Hp.s_Session_text ["self","numbers"] e_Session_text∧Hp.MF (L2.KOf KX) C "places_told" "Session.places_told" Hp.s_Session_places_told ["self","told"] e_Session_places_told∧Hp.MF (L2.KOf KX) C "has" "Session.has" Hp.s_Session_has ["self","index","numbers"] e_Session_has∧L2.NoAttr (L2.KOf KX) C "way"∧L2.NoAttr (L2.KOf KX) C "joins"∧L2.NoAttr (L2.KOf KX) C "drops"∧L2.NoAttr (L2.KOf KX) C "numerals"∧L2.NoAttr (L2.KOf KX) C "signs"∧L2.NoAttr (L2.KOf KX) C "book":=by
   dsimp only [L2.KOf]
   refine' ⟨_,_,_,_,_,_,_,_,_,_,_,_,_,_,Hp.cf_mk KX G ?aSession ?pgSession ?hdSession ?poSession ?saSession ?mkSession ?kcSession ?n0Session ?i0Session,Hp.mf_mk ?n0Session ?i0Session ?l0Session ?c0Session ?k0Session ?b0Session,Hp.mf_mk ?n1Session ?i1Session ?l1Session ?c1Session ?k1Session ?b1Session,Hp.mf_mk ?n2Session ?i2Session ?l2Session ?c2Session ?k2Session ?b2Session,Hp.mf_mk ?n3Session ?i3Session ?l3Session ?c3Session ?k3Session ?b3Session,Hp.mf_mk ?n4Session ?i4Session ?l4Session ?c4Session ?k4Session ?b4Session,Hp.mf_mk ?n5Session ?i5Session ?l5Session ?c5Session ?k5Session ?b5Session,Hp.mf_mk ?n6Session ?i6Session ?l6Session ?c6Session ?k6Session ?b6Session,Hp.mf_mk ?n7Session ?i7Session ?l7Session ?c7Session ?k7Session ?b7Session,Hp.mf_mk ?n8Session ?i8Session ?l8Session ?c8Session ?k8Session ?b8Session,Hp.mf_mk ?n9Session ?i9Session ?l9Session ?c9Session ?k9Session ?b9Session,Hp.mf_mk ?n10Session ?i10Session ?l10Session ?c10Session ?k10Session ?b10Session,Hp.mf_mk ?n11Session ?i11Session ?l11Session ?c11Session ?k11Session ?b11Session,?z0Session,?z1Session,?z2Session,?z3Session,?z4Session,?z5Session⟩
   (case aSession=>k_is)
   (case pgSession=>k_is)
   (case hdSession=>k_is)
   (case poSession=>k_is)
   (case saSession=>k_is)
   (case mkSession=>k_is)
   (case kcSession=>k_is)
   (case n0Session=>k_is)
   (case i0Session=>k_is)
   (case l0Session=>k_is)
   (case c0Session=>k_is)
   (case k0Session=>k_is)
   (case n1Session=>k_is)
   (case i1Session=>k_is)
   (case l1Session=>k_is)
   (case c1Session=>k_is)
   (case k1Session=>k_is)
   (case n2Session=>k_is)
   (case i2Session=>k_is)
   (case l2Session=>k_is)
   (case c2Session=>k_is)
   (case k2Session=>k_is)
   (case n3Session=>k_is)
   (case i3Session=>k_is)
   (case l3Session=>k_is)
   (case c3Session=>k_is)
   (case k3Session=>k_is)
   (case n4Session=>k_is)
   (case i4Session=>k_is)
   (case l4Session=>k_is)
   (case c4Session=>k_is)
   (case k4Session=>k_is)
   (case n5Session=>k_is)
   (case i5Session=>k_is)
   (case l5Session=>k_is)
   (case c5Session=>k_is)
   (case k5Session=>k_is)
   (case n6Session=>k_is)
   (case i6Session=>k_is)
   (case l6Session=>k_is)
   (case c6Session=>k_is)
   (case k6Session=>k_is)
   (case n7Session=>k_is)
   (case i7Session=>k_is)
   (case l7Session=>k_is)
   (case c7Session=>k_is)
   (case k7Session=>k_is)
   (case n8Session=>k_is)
   (case i8Session=>k_is)
   (case l8Session=>k_is)
   (case c8Session=>k_is)
   (case k8Session=>k_is)
   (case n9Session=>k_is)
   (case i9Session=>k_is)
   (case l9Session=>k_is)
   (case c9Session=>k_is)
   (case k9Session=>k_is)
   (case n10Session=>k_is)
   (case i10Session=>k_is)
   (case l10Session=>k_is)
   (case c10Session=>k_is)
   (case k10Session=>k_is)
   (case n11Session=>k_is)
   (case i11Session=>k_is)
   (case l11Session=>k_is)
   (case c11Session=>k_is)
   (case k11Session=>k_is)
   (case z0Session=>unfold L2.NoAttr; k_is)
   (case z1Session=>unfold L2.NoAttr; k_is)
   (case z2Session=>unfold L2.NoAttr; k_is)
   (case z3Session=>unfold L2.NoAttr; k_is)
   (case z4Session=>unfold L2.NoAttr; k_is)
   (case z5Session=>unfold L2.NoAttr; k_is)
   (case b0Session=>exact fun _ _ _ _ _ _ us hl=>match us,hl with | [_],_=>rfl)
   (case b1Session=>exact fun _ _ _ _ _ _ us hl=>match us,hl with | [_,_,_,_],_=>rfl)
   (case b2Session=>exact fun _ _ _ _ _ _ us hl=>match us,hl with | [_,_,_,_,_],_=>rfl)
   (case b3Session=>exact fun _ _ _ _ _ _ us hl=>match us,hl with | [_],_=>rfl)
   (case b4Session=>exact fun _ _ _ _ _ _ us hl=>match us,hl with | [_,_],_=>rfl)
   (case b5Session=>exact fun _ _ _ _ _ _ us hl=>match us,hl with | [_,_],_=>rfl)
   (case b6Session=>exact fun _ _ _ _ _ _ us hl=>match us,hl with | [_,_],_=>rfl)
   (case b7Session=>exact fun _ _ _ _ _ _ us hl=>match us,hl with | [_,_],_=>rfl)
   (case b8Session=>exact fun _ _ _ _ _ _ us hl=>match us,hl with | [_,_],_=>rfl)
   (case b9Session=>exact fun _ _ _ _ _ _ us hl=>match us,hl with | [_,_],_=>rfl)
   (case b10Session=>exact fun _ _ _ _ _ _ us hl=>match us,hl with | [_,_],_=>rfl)
   (case b11Session=>exact fun _ _ _ _ _ _ us hl=>match us,hl with | [_,_,_],_=>rfl)
  obtain ⟨c_Reader,f_Reader,d_Reader,e_Reader_at_end,e_Reader_take_number,e_Reader_take_row,hc_Reader,h_Reader_init,h_Reader_at_end,h_Reader_take_number,h_Reader_take_row,n_Reader_calls,n_Reader_position⟩:∃ (C f_Reader:Addr) (d_Reader:FuncData) (e_Reader_at_end e_Reader_take_number e_Reader_take_row:Hp.FE),Hp.CF (L2.KOf KX) mg "Reader" C f_Reader∧Hp.MF (L2.KOf KX) C "__init__" "Reader.__init__" Hp.s_Reader_init ["self","calls"] ⟨f_Reader,d_Reader⟩∧Hp.MF (L2.KOf KX) C "at_end" "Reader.at_end" Hp.s_Reader_at_end ["self"] e_Reader_at_end∧Hp.MF (L2.KOf KX) C "take_number" "Reader.take_number" Hp.s_Reader_take_number ["self"] e_Reader_take_number∧Hp.MF (L2.KOf KX) C "take_row" "Reader.take_row" Hp.s_Reader_take_row ["self"] e_Reader_take_row∧L2.NoAttr (L2.KOf KX) C "calls"∧L2.NoAttr (L2.KOf KX) C "position":=by
   dsimp only [L2.KOf]
   refine' ⟨_,_,_,_,_,_,Hp.cf_mk KX G ?aReader ?pgReader ?hdReader ?poReader ?saReader ?mkReader ?kcReader ?n0Reader ?i0Reader,Hp.mf_mk ?n0Reader ?i0Reader ?l0Reader ?c0Reader ?k0Reader ?b0Reader,Hp.mf_mk ?n1Reader ?i1Reader ?l1Reader ?c1Reader ?k1Reader ?b1Reader,Hp.mf_mk ?n2Reader ?i2Reader ?l2Reader ?c2Reader ?k2Reader ?b2Reader,Hp.mf_mk ?n3Reader ?i3Reader ?l3Reader ?c3Reader ?k3Reader ?b3Reader,?z0Reader,?z1Reader⟩
   (case aReader=>k_is)
   (case pgReader=>k_is)
   (case hdReader=>k_is)
   (case poReader=>k_is)
   (case saReader=>k_is)
   (case mkReader=>k_is)
   (case kcReader=>k_is)
   (case n0Reader=>k_is)
   (case i0Reader=>k_is)
   (case l0Reader=>k_is)
   (case c0Reader=>k_is)
   (case k0Reader=>k_is)
   (case n1Reader=>k_is)
   (case i1Reader=>k_is)
   (case l1Reader=>k_is)
   (case c1Reader=>k_is)
   (case k1Reader=>k_is)
   (case n2Reader=>k_is)
   (case i2Reader=>k_is)
   (case l2Reader=>k_is)
   (case c2Reader=>k_is)
   (case k2Reader=>k_is)
   (case n3Reader=>k_is)
   (case i3Reader=>k_is)
   (case l3Reader=>k_is)
   (case c3Reader=>k_is)
   (case k3Reader=>k_is)
   (case z0Reader=>unfold L2.NoAttr; k_is)
   (case z1Reader=>unfold L2.NoAttr; k_is)
   (case b0Reader=>exact fun _ _ _ _ _ _ us hl=>match us,hl with | [_,_],_=>rfl)
   (case b1Reader=>exact fun _ _ _ _ _ _ us hl=>match us,hl with | [_],_=>rfl)
   (case b2Reader=>exact fun _ _ _ _ _ _ us hl=>match us,hl with | [_],_=>rfl)
   (case b3Reader=>exact fun _ _ _ _ _ _ us hl=>match us,hl with | [_],_=>rfl)
  have g_DIGITS:Hp.GV mg "DIGITS" (L2.V.int 0):=by
   skip
   refine' Hp.gv_mk KX G ?n ?r
   (case n=>k_is)
   (case r=>exact ⟨_,rfl⟩)
  have g_SMALL_ROMAN:Hp.GV mg "SMALL_ROMAN" (L2.V.int 1):=by
   skip
   refine' Hp.gv_mk KX G ?n ?r
   (case n=>k_is)
   (case r=>exact ⟨_,rfl⟩)
  have g_CAPITAL_ROMAN:Hp.GV mg "CAPITAL_ROMAN" (L2.V.int 2):=by
   skip
   refine' Hp.gv_mk KX G ?n ?r
   (case n=>k_is)
   (case r=>exact ⟨_,rfl⟩)
  have g_LETTERS:Hp.GV mg "LETTERS" (L2.V.int 3):=by
   skip
   refine' Hp.gv_mk KX G ?n ?r
   (case n=>k_is)
   (case r=>exact ⟨_,rfl⟩)
  have g_ALPHABET:Hp.GV mg "ALPHABET" (L2.V.str "abcdefghijklmnopqrstuvwxyz"):=by
   skip
   refine' Hp.gv_mk KX G ?n ?r
   (case n=>k_is)
   (case r=>exact ⟨_,rfl⟩)
  have g_PLAIN:Hp.GV mg "PLAIN" (L2.V.int 0):=by
   skip
   refine' Hp.gv_mk KX G ?n ?r
   (case n=>k_is)
   (case r=>exact ⟨_,rfl⟩)
  have g_NOTE:Hp.GV mg "NOTE" (L2.V.int 1):=by
   skip
   refine' Hp.gv_mk KX G ?n ?r
   (case n=>k_is)
   (case r=>exact ⟨_,rfl⟩)
  have g_FIGURE:Hp.GV mg "FIGURE" (L2.V.int 2):=by
   skip
   refine' Hp.gv_mk KX G ?n ?r
   (case n=>k_is)
   (case r=>exact ⟨_,rfl⟩)
  have g_TABLE:Hp.GV mg "TABLE" (L2.V.int 3):=by
   skip
   refine' Hp.gv_mk KX G ?n ?r
   (case n=>k_is)
   (case r=>exact ⟨_,rfl⟩)
  have g_MOST_NOTE:Hp.GV mg "MOST_NOTE" (L2.V.int 16777215):=by
   skip
   refine' Hp.gv_mk KX G ?n ?r
   (case n=>k_is)
   (case r=>exact ⟨_,rfl⟩)
  have g_WHOLE_NAME:Hp.GV mg "WHOLE_NAME" (L2.V.int 0):=by
   skip
   refine' Hp.gv_mk KX G ?n ?r
   (case n=>k_is)
   (case r=>exact ⟨_,rfl⟩)
  have g_TWO_DIGITS_AT_LEAST:Hp.GV mg "TWO_DIGITS_AT_LEAST" (L2.V.int 2):=by
   skip
   refine' Hp.gv_mk KX G ?n ?r
   (case n=>k_is)
   (case r=>exact ⟨_,rfl⟩)
  have g_BY_FROM_NUMBER:Hp.GV mg "BY_FROM_NUMBER" (L2.V.int 3):=by
   skip
   refine' Hp.gv_mk KX G ?n ?r
   (case n=>k_is)
   (case r=>exact ⟨_,rfl⟩)
  have g_TWO_DIGITS_IN_TEENS:Hp.GV mg "TWO_DIGITS_IN_TEENS" (L2.V.int 4):=by
   skip
   refine' Hp.gv_mk KX G ?n ?r
   (case n=>k_is)
   (case r=>exact ⟨_,rfl⟩)
  have g_NUMBERS_OF_A_PLACE:Hp.GV mg "NUMBERS_OF_A_PLACE" (L2.V.int 5):=by
   skip
   refine' Hp.gv_mk KX G ?n ?r
   (case n=>k_is)
   (case r=>exact ⟨_,rfl⟩)
  have g_PARTING:Hp.GV mg "PARTING" (L2.V.str ", "):=by
   skip
   refine' Hp.gv_mk KX G ?n ?r
   (case n=>k_is)
   (case r=>exact ⟨_,rfl⟩)
  have g_RANK_OF_MAIN:Hp.GV mg "RANK_OF_MAIN" (L2.V.int 0):=by
   skip
   refine' Hp.gv_mk KX G ?n ?r
   (case n=>k_is)
   (case r=>exact ⟨_,rfl⟩)
  have g_RANK_OF_PLAIN:Hp.GV mg "RANK_OF_PLAIN" (L2.V.int 1):=by
   skip
   refine' Hp.gv_mk KX G ?n ?r
   (case n=>k_is)
   (case r=>exact ⟨_,rfl⟩)
  have g_MOST_PAGE_DIGITS:Hp.GV mg "MOST_PAGE_DIGITS" (L2.V.int 5):=by
   skip
   refine' Hp.gv_mk KX G ?n ?r
   (case n=>k_is)
   (case r=>exact ⟨_,rfl⟩)
  have g_MOST_NOTE_DIGITS:Hp.GV mg "MOST_NOTE_DIGITS" (L2.V.int 8):=by
   skip
   refine' Hp.gv_mk KX G ?n ?r
   (case n=>k_is)
   (case r=>exact ⟨_,rfl⟩)
  have g_SIGNS_OF_NAMES:Hp.GV mg "SIGNS_OF_NAMES" (L2.V.str ".0123456789ABCDEFGHIJKLMNOPQRSTUVWXYZabcdefghijklmnopqrstuvwxyz"):=by
   skip
   refine' Hp.gv_mk KX G ?n ?r
   (case n=>k_is)
   (case r=>exact ⟨_,rfl⟩)
  have g_SIGNS_BESIDE_NAMES:Hp.GV mg "SIGNS_BESIDE_NAMES" (L2.V.str "-[]!, "):=by
   skip
   refine' Hp.gv_mk KX G ?n ?r
   (case n=>k_is)
   (case r=>exact ⟨_,rfl⟩)
  have g_FOREIGN_SIGN:Hp.GV mg "FOREIGN_SIGN" (L2.V.str "?"):=by
   skip
   refine' Hp.gv_mk KX G ?n ?r
   (case n=>k_is)
   (case r=>exact ⟨_,rfl⟩)
  have g_MOST_WAY:Hp.GV mg "MOST_WAY" (L2.V.int 4):=by
   skip
   refine' Hp.gv_mk KX G ?n ?r
   (case n=>k_is)
   (case r=>exact ⟨_,rfl⟩)
  have g_MOST_RUNS:Hp.GV mg "MOST_RUNS" (L2.V.int 64):=by
   skip
   refine' Hp.gv_mk KX G ?n ?r
   (case n=>k_is)
   (case r=>exact ⟨_,rfl⟩)
  have g_MOST_PAGES:Hp.GV mg "MOST_PAGES" (L2.V.int 65536):=by
   skip
   refine' Hp.gv_mk KX G ?n ?r
   (case n=>k_is)
   (case r=>exact ⟨_,rfl⟩)
  have g_MOST_PREFIX:Hp.GV mg "MOST_PREFIX" (L2.V.int 4):=by
   skip
   refine' Hp.gv_mk KX G ?n ?r
   (case n=>k_is)
   (case r=>exact ⟨_,rfl⟩)
  have g_MOST_PLACES:Hp.GV mg "MOST_PLACES" (L2.V.int 256):=by
   skip
   refine' Hp.gv_mk KX G ?n ?r
   (case n=>k_is)
   (case r=>exact ⟨_,rfl⟩)
  have g_MOST_LIST_BYTES:Hp.GV mg "MOST_LIST_BYTES" (L2.V.int 32768):=by
   skip
   refine' Hp.gv_mk KX G ?n ?r
   (case n=>k_is)
   (case r=>exact ⟨_,rfl⟩)
  have g_NOT_REFUSED:Hp.GV mg "NOT_REFUSED" (L2.V.int 0):=by
   skip
   refine' Hp.gv_mk KX G ?n ?r
   (case n=>k_is)
   (case r=>exact ⟨_,rfl⟩)
  have g_BEGIN:Hp.GV mg "BEGIN" (L2.V.int 1):=by
   skip
   refine' Hp.gv_mk KX G ?n ?r
   (case n=>k_is)
   (case r=>exact ⟨_,rfl⟩)
  have g_RUN:Hp.GV mg "RUN" (L2.V.int 2):=by
   skip
   refine' Hp.gv_mk KX G ?n ?r
   (case n=>k_is)
   (case r=>exact ⟨_,rfl⟩)
  have g_PAGES:Hp.GV mg "PAGES" (L2.V.int 3):=by
   skip
   refine' Hp.gv_mk KX G ?n ?r
   (case n=>k_is)
   (case r=>exact ⟨_,rfl⟩)
  have g_NAME:Hp.GV mg "NAME" (L2.V.int 4):=by
   skip
   refine' Hp.gv_mk KX G ?n ?r
   (case n=>k_is)
   (case r=>exact ⟨_,rfl⟩)
  have g_PAGE:Hp.GV mg "PAGE" (L2.V.int 5):=by
   skip
   refine' Hp.gv_mk KX G ?n ?r
   (case n=>k_is)
   (case r=>exact ⟨_,rfl⟩)
  have g_WRITE:Hp.GV mg "WRITE" (L2.V.int 6):=by
   skip
   refine' Hp.gv_mk KX G ?n ?r
   (case n=>k_is)
   (case r=>exact ⟨_,rfl⟩)
  have g_READ:Hp.GV mg "READ" (L2.V.int 7):=by
   skip
   refine' Hp.gv_mk KX G ?n ?r
   (case n=>k_is)
   (case r=>exact ⟨_,rfl⟩)
  have g_FORM:Hp.GV mg "FORM" (L2.V.int 8):=by
   skip
   refine' Hp.gv_mk KX G ?n ?r
   (case n=>k_is)
   (case r=>exact ⟨_,rfl⟩)
  have g_TEXT:Hp.GV mg "TEXT" (L2.V.int 9):=by
   skip
   refine' Hp.gv_mk KX G ?n ?r
   (case n=>k_is)
   (case r=>exact ⟨_,rfl⟩)
  have g_LIST:Hp.GV mg "LIST" (L2.V.int 10):=by
   skip
   refine' Hp.gv_mk KX G ?n ?r
   (case n=>k_is)
   (case r=>exact ⟨_,rfl⟩)
  have g_HAS:Hp.GV mg "HAS" (L2.V.int 11):=by
   skip
   refine' Hp.gv_mk KX G ?n ?r
   (case n=>k_is)
   (case r=>exact ⟨_,rfl⟩)
  obtain ⟨t_MOST_BY_STYLE,g_MOST_BY_STYLE,q_MOST_BY_STYLE⟩:∃ a,Hp.GV mg "MOST_BY_STYLE" (L2.V.ref a)∧Hp.GT (L2.KOf KX) a [(L2.V.int 99999),(L2.V.int 3999),(L2.V.int 3999),(L2.V.int 702)]:=by
   dsimp only [L2.KOf]
   refine' Hp.gt_mk KX G ?n ?l ?z ?r
   (case n=>k_is)
   (case l=>k_is)
   (case z=>decide)
   (case r=>exact .cons ⟨_,rfl⟩ (.cons ⟨_,rfl⟩ (.cons ⟨_,rfl⟩ (.cons ⟨_,rfl⟩ (.nil)))))
  obtain ⟨t_ROMAN_ONES,g_ROMAN_ONES,q_ROMAN_ONES⟩:∃ a,Hp.GV mg "ROMAN_ONES" (L2.V.ref a)∧Hp.GT (L2.KOf KX) a [(L2.V.str ""),(L2.V.str "i"),(L2.V.str "ii"),(L2.V.str "iii"),(L2.V.str "iv"),(L2.V.str "v"),(L2.V.str "vi"),(L2.V.str "vii"),(L2.V.str "viii"),(L2.V.str "ix")]:=by
   dsimp only [L2.KOf]
   refine' Hp.gt_mk KX G ?n ?l ?z ?r
   (case n=>k_is)
   (case l=>k_is)
   (case z=>decide)
   (case r=>exact .cons ⟨_,rfl⟩ (.cons ⟨_,rfl⟩ (.cons ⟨_,rfl⟩ (.cons ⟨_,rfl⟩ (.cons ⟨_,rfl⟩ (.cons ⟨_,rfl⟩ (.cons ⟨_,rfl⟩ (.cons ⟨_,rfl⟩ (.cons ⟨_,rfl⟩ (.cons ⟨_,rfl⟩ (.nil)))))))))))
  obtain ⟨t_ROMAN_TENS,g_ROMAN_TENS,q_ROMAN_TENS⟩:∃ a,Hp.GV mg "ROMAN_TENS" (L2.V.ref a)∧Hp.GT (L2.KOf KX) a [(L2.V.str ""),(L2.V.str "x"),(L2.V.str "xx"),(L2.V.str "xxx"),(L2.V.str "xl"),(L2.V.str "l"),(L2.V.str "lx"),(L2.V.str "lxx"),(L2.V.str "lxxx"),(L2.V.str "xc")]:=by
   dsimp only [L2.KOf]
   refine' Hp.gt_mk KX G ?n ?l ?z ?r
   (case n=>k_is)
   (case l=>k_is)
   (case z=>decide)
   (case r=>exact .cons ⟨_,rfl⟩ (.cons ⟨_,rfl⟩ (.cons ⟨_,rfl⟩ (.cons ⟨_,rfl⟩ (.cons ⟨_,rfl⟩ (.cons ⟨_,rfl⟩ (.cons ⟨_,rfl⟩ (.cons ⟨_,rfl⟩ (.cons ⟨_,rfl⟩ (.cons ⟨_,rfl⟩ (.nil)))))))))))
  obtain ⟨t_ROMAN_HUNDREDS,g_ROMAN_HUNDREDS,q_ROMAN_HUNDREDS⟩:∃ a,Hp.GV mg "ROMAN_HUNDREDS" (L2.V.ref a)∧Hp.GT (L2.KOf KX) a [(L2.V.str ""),(L2.V.str "c"),(L2.V.str "cc"),(L2.V.str "ccc"),(L2.V.str "cd"),(L2.V.str "d"),(L2.V.str "dc"),(L2.V.str "dcc"),(L2.V.str "dccc"),(L2.V.str "cm")]:=by
   dsimp only [L2.KOf]
   refine' Hp.gt_mk KX G ?n ?l ?z ?r
   (case n=>k_is)
   (case l=>k_is)
   (case z=>decide)
   (case r=>exact .cons ⟨_,rfl⟩ (.cons ⟨_,rfl⟩ (.cons ⟨_,rfl⟩ (.cons ⟨_,rfl⟩ (.cons ⟨_,rfl⟩ (.cons ⟨_,rfl⟩ (.cons ⟨_,rfl⟩ (.cons ⟨_,rfl⟩ (.cons ⟨_,rfl⟩ (.cons ⟨_,rfl⟩ (.nil)))))))))))
  obtain ⟨t_ROMAN_THOUSANDS,g_ROMAN_THOUSANDS,q_ROMAN_THOUSANDS⟩:∃ a,Hp.GV mg "ROMAN_THOUSANDS" (L2.V.ref a)∧Hp.GT (L2.KOf KX) a [(L2.V.str ""),(L2.V.str "m"),(L2.V.str "mm"),(L2.V.str "mmm")]:=by
   dsimp only [L2.KOf]
   refine' Hp.gt_mk KX G ?n ?l ?z ?r
   (case n=>k_is)
   (case l=>k_is)
   (case z=>decide)
   (case r=>exact .cons ⟨_,rfl⟩ (.cons ⟨_,rfl⟩ (.cons ⟨_,rfl⟩ (.cons ⟨_,rfl⟩ (.nil)))))
  have b_enumerate:mg "enumerate" = none:=by
   refine' PySem.W.mg_none_of KX G ?n
   (case n=>k_is)
  have b_int:mg "int" = none:=by
   refine' PySem.W.mg_none_of KX G ?n
   (case n=>k_is)
  have b_len:mg "len" = none:=by
   refine' PySem.W.mg_none_of KX G ?n
   (case n=>k_is)
  have b_list:mg "list" = none:=by
   refine' PySem.W.mg_none_of KX G ?n
   (case n=>k_is)
  have b_max:mg "max" = none:=by
   refine' PySem.W.mg_none_of KX G ?n
   (case n=>k_is)
  have b_min:mg "min" = none:=by
   refine' PySem.W.mg_none_of KX G ?n
   (case n=>k_is)
  have b_ord:mg "ord" = none:=by
   refine' PySem.W.mg_none_of KX G ?n
   (case n=>k_is)
  have b_range:mg "range" = none:=by
   refine' PySem.W.mg_none_of KX G ?n
   (case n=>k_is)
  have b_sorted:mg "sorted" = none:=by
   refine' PySem.W.mg_none_of KX G ?n
   (case n=>k_is)
  have b_str:mg "str" = none:=by
   refine' PySem.W.mg_none_of KX G ?n
   (case n=>k_is)
  have TX:∃ a,Hp.Txt (L2.KOf KX) mg a∧a.answers = e_answers:=⟨⟨e_most_of_style,e_small_roman,e_letters_of,e_number_text,e_numbers_of,e_has_right_pages,e_has_right_kind,e_has_right_note,e_is_right,e_differing_digits,e_digits_by_from_number,e_digits_told,e_to_text,e_marks_text,e_place_text,e_places_of,e_numbers_of_list,e_all_right,e_list_text,e_parts_of,e_first_with_page,e_rank_of,e_order_of,e_are_joined,e_join_two,e_joined,e_each_once,e_beside,e_form_of,e_plain_number,e_number_of_to,e_index_of_to,e_pages_told,e_marks_told,e_marks_start,e_place_told,e_signs_by_byte,e_text_of,e_bytes_of,e_refused,e_answered,e_is_prefix,e_is_run,e_refusal_of_list,e_answer_begin,e_answer_run,e_answer_has,e_answer_call,e_answers,c_Numerals,c_Run,c_Book,c_Place,c_Session,c_Reader,⟨f_Numerals,d_Numerals⟩,e_Numerals_stretch,⟨f_Run,d_Run⟩,e_Run_has_index,e_Run_has_number,e_Run_number_at,e_Run_index_at,e_Run_name_at,⟨f_Book,d_Book⟩,e_Book_add_run,e_Book_lettered_names,e_Book_has_lettered,e_Book_has_digits_of,e_Book_run_at,e_Book_index_of_name,e_Book_index_of_digits,⟨f_Place,d_Place⟩,⟨f_Session,d_Session⟩,e_Session_begin,e_Session_run,e_Session_pages,e_Session_name,e_Session_page,e_Session_write,e_Session_read,e_Session_form,e_Session_text,e_Session_places_told,e_Session_has,⟨f_Reader,d_Reader⟩,e_Reader_at_end,e_Reader_take_number,e_Reader_take_row,t_MOST_BY_STYLE,t_ROMAN_ONES,t_ROMAN_TENS,t_ROMAN_HUNDREDS,t_ROMAN_THOUSANDS⟩,⟨h_most_of_style,h_small_roman,h_letters_of,h_number_text,h_numbers_of,h_has_right_pages,h_has_right_kind,h_has_right_note,h_is_right,h_differing_digits,h_digits_by_from_number,h_digits_told,h_to_text,h_marks_text,h_place_text,h_places_of,h_numbers_of_list,h_all_right,h_list_text,h_parts_of,h_first_with_page,h_rank_of,h_order_of,h_are_joined,h_join_two,h_joined,h_each_once,h_beside,h_form_of,h_plain_number,h_number_of_to,h_index_of_to,h_pages_told,h_marks_told,h_marks_start,h_place_told,h_signs_by_byte,h_text_of,h_bytes_of,h_refused,h_answered,h_is_prefix,h_is_run,h_refusal_of_list,h_answer_begin,h_answer_run,h_answer_has,h_answer_call,h_answers,hc_Numerals,hc_Run,hc_Book,hc_Place,hc_Session,hc_Reader,h_Numerals_init,h_Numerals_stretch,h_Run_init,h_Run_has_index,h_Run_has_number,h_Run_number_at,h_Run_index_at,h_Run_name_at,h_Book_init,h_Book_add_run,h_Book_lettered_names,h_Book_has_lettered,h_Book_has_digits_of,h_Book_run_at,h_Book_index_of_name,h_Book_index_of_digits,h_Place_init,h_Session_init,h_Session_begin,h_Session_run,h_Session_pages,h_Session_name,h_Session_page,h_Session_write,h_Session_read,h_Session_form,h_Session_text,h_Session_places_told,h_Session_has,h_Reader_init,h_Reader_at_end,h_Reader_take_number,h_Reader_take_row,n_Numerals_texts,n_Run_style,n_Run_first,n_Run_last,n_Run_count,n_Run_prefix,n_Run_start,n_Book_numerals,n_Book_runs,n_Book_total,n_Book_lettered,n_Place_from_index,n_Place_to_index,n_Place_kind,n_Place_main,n_Place_note,n_Session_way,n_Session_joins,n_Session_drops,n_Session_numerals,n_Session_signs,n_Session_book,n_Reader_calls,n_Reader_position,g_DIGITS,g_SMALL_ROMAN,g_CAPITAL_ROMAN,g_LETTERS,g_ALPHABET,g_PLAIN,g_NOTE,g_FIGURE,g_TABLE,g_MOST_NOTE,g_WHOLE_NAME,g_TWO_DIGITS_AT_LEAST,g_BY_FROM_NUMBER,g_TWO_DIGITS_IN_TEENS,g_NUMBERS_OF_A_PLACE,g_PARTING,g_RANK_OF_MAIN,g_RANK_OF_PLAIN,g_MOST_PAGE_DIGITS,g_MOST_NOTE_DIGITS,g_SIGNS_OF_NAMES,g_SIGNS_BESIDE_NAMES,g_FOREIGN_SIGN,g_MOST_WAY,g_MOST_RUNS,g_MOST_PAGES,g_MOST_PREFIX,g_MOST_PLACES,g_MOST_LIST_BYTES,g_NOT_REFUSED,g_BEGIN,g_RUN,g_PAGES,g_NAME,g_PAGE,g_WRITE,g_READ,g_FORM,g_TEXT,g_LIST,g_HAS,q_MOST_BY_STYLE,g_MOST_BY_STYLE,q_ROMAN_ONES,g_ROMAN_ONES,q_ROMAN_TENS,g_ROMAN_TENS,q_ROMAN_HUNDREDS,g_ROMAN_HUNDREDS,q_ROMAN_THOUSANDS,g_ROMAN_THOUSANDS,b_enumerate,b_int,b_len,b_list,b_max,b_min,b_ord,b_range,b_sorted,b_str⟩,rfl⟩
  obtain ⟨a,T,ea⟩:=TX
  have em:=h_answers.m
  have ef:fa = a.answers.f:=by
   rw [ea]
   exact Value.ref.inj (Option.some.inj (Eq.trans hmg.symm em))
  subst ef
  exact ⟨a.answers.d,fun s u=>ea ▸ hb_answers s u,fun base kb nb=>Hp.ok_answers T⟩
 case S =>
  intro K H a ns h1 h2 h3 h4
  exact ⟨a,ns,rfl,h4,h1,h3,fun l H' e=>⟨l,rfl,e⟩⟩
